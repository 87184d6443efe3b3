import PyProof.Rows.All
import Wide.All
import OpenK.AllK
import Wide.FinOn
import HandS.Base
import HandS.Call
import HandS.List
import HandS.Ends
import HandS.Words
import HandS.WordsList
import HandS.IsInst
import HandS.StrMore
import HandS.Text
import HandS.Flow
import HandS.Defaults
import PySem.Challenge.RW_filledrow_k04_tables_joined
import HandS.Exc
import HandS.ForMost
import HandS.ExcOwn
import HandS.ExcInit
import HandS.ExcIs
import HandS.ExcField
import HandS.ExcValue
import HandS.RaiseMore
import PyProof.ReprRoads
import PyProof.CallFns
import HandS.Style
import HandS.Star
import HandS.Codes
import PyProof.Rows.RegStrFacts
import PyProof.Rows.StrJoinMade
import HandS.Walk
import HandS.Iter
import HandS.Comp
import HandS.DictComp
import PyProof.DictFindH
import KE.KEqDict
import PyProof.Rows.StrMeet
import HandS.Conv
import HandS.More
import HandS.ClsMeth
import HandS.Sort
import HandS.SortKw
import KE.SortData
import PyProof.StrLawsRepr
import PyProof.NoPylong
import KE.KCallOwn
import KE.KOpsOwn
import KE.KOwnIter
import HandS.Records
import OpenK.KOps
import KE.KFmtOwn
import PyProof.ListNew
import PyProof.Conv_bool
import HandS.IterVal
import PyProof.WalksMore
import HandS.OwnIter
import PyProof.FitsReplace
import HandS.Wide
import HandS.WordsExc
import PyProof.TwoTypes
import HandS.Lambda
import HandS.EndOwn
set_option Elab.async false
set_option linter.all false
set_option maxRecDepth 100000
set_option maxHeartbeats 4000000
/-! The small defs of the program that ask of which kind a value is. -/
namespace Fk
open PySem PySem.Spec PyProof.Rows L2
def top (i : Nat) : Stmt := PySem.Challenge.pw_filledrow_k04_tables_joined.main.body.getD i (.Pass ⟨0, 0, 0, 0⟩)
abbrev sInteger : Stmt := top 15
abbrev sAmount : Stmt := top 16
abbrev sName : Stmt := top 17
abbrev sNames : Stmt := top 20
abbrev sAmounts : Stmt := top 31
/-- the built-ins that are still themselves, and the constants -/
structure Blt (mg : Str → Option Value) : Prop where
  isi : mg "isinstance" = none
  int : mg "int" = none
  bool : mg "bool" = none
  str : mg "str" = none
  len : mg "len" = none
/-- is_integer(value, least) -/
def spInteger (K : PySem.W.Frag) : Sp := fun vs H Q _ => ∃ (v : V) (n : Int), vs = [v, .int n] ∧
  ((∃ i, v = .int i ∧ Q (.bl (decide (n ≤ i))) H) ∨ (∃ b, v = .bl b ∧ Q (.bl false) H) ∨ (∃ t, TyX K H v (.type t) ∧ kitB t "int" = some false ∧ Q (.bl false) H))
def spAmount (K : PySem.W.Frag) : Sp := fun vs H Q _ => ∃ (v : V), vs = [v] ∧
  ((∃ i, v = .int i ∧ Q (.bl (decide (0 ≤ i))) H) ∨ (∃ b, v = .bl b ∧ Q (.bl false) H) ∨ (∃ t, TyX K H v (.type t) ∧ kitB t "int" = some false ∧ Q (.bl false) H))
/-- what a text is to be a name -/
def nameB (x : Str) : Bool := decide ((x.length : Int) ≤ 8) && !(inV (.str x) [.str "none", .str "self"]) && Txt.isascii x && Txt.isalpha x && Txt.islower x
def spName (K : PySem.W.Frag) : Sp := fun vs H Q _ => ∃ (v : V), vs = [v] ∧
  ((∃ x, v = .str x ∧ x.length ≤ sizeLine ∧ Q (.bl (nameB x)) H) ∨ (∃ t, TyX K H v (.type t) ∧ kitB t "str" = some false ∧ Q (.bl false) H))
theorem scInteger : FnScope ["value", "least"] ["value", "least"] (defScope sInteger) := ⟨rfl, rfl, rfl, by decide +kernel, rfl, by decide +kernel, by decide +kernel⟩
theorem scAmount : FnScope ["value"] ["value"] (defScope sAmount) := ⟨rfl, rfl, rfl, by decide +kernel, rfl, by decide +kernel, by decide +kernel⟩
theorem scName : FnScope ["value"] ["value"] (defScope sName) := ⟨rfl, rfl, rfl, by decide +kernel, rfl, by decide +kernel, by decide +kernel⟩
section
variable {P : Program} {w : World} {K : PySem.W.Frag} {mg : Str → Option Value} {base : Heap} {f fI fN : Addr} {fd fdI fdN : FuncData}
theorem ok_integer (F : FunD K "is_integer" "is_integer" (defArgs sInteger) (defBody sInteger) (defScope sInteger) [.non] [] f fd) (T : Blt mg) : FnOk P w K mg base CX0 1 f fd ["value", "least"] (spInteger K) := by
  refine F.ok (CX := CX0) scInteger (fun vs H Q E h => ?_) (fun cdv A outer s H vs Q E hr h => ?_)
  · obtain ⟨v, n, rfl, _⟩ := h
    rfl
  · obtain ⟨v, n, rfl, h⟩ := h
    refine ⟨_, PSs.nox (pss_one (ps_ret (pe_and (pe_callB call_isi (by rfl) T.isi (by decide +kernel) (pa_cons (pv 0) (pa_cons (pe_bltn (v := .ty "int") (by rfl) T.int (by decide +kernel) rfl) pa_nil)))
      (pe_and (pe_not (pe_callB call_isi (by rfl) T.isi (by decide +kernel) (pa_cons (pv 0) (pa_cons (pe_bltn (v := .ty "bool") (by rfl) T.bool (by decide +kernel) rfl) pa_nil)))) (pe_one (pe_or (pe_cmpR op_isN (pv 1) pe_non (nomark _)) (pe_one (pe_cmpR op_ge (pv 0) (pv 1) (nomark _))))))))), ?_⟩
    rcases h with ⟨i, rfl, q⟩ | ⟨b, rfl, q⟩ | ⟨t, ty, e, q⟩
    · exact ⟨_, rfl, _, _, _, _, true, rfl, .ty _, .base (.int i), kit_ty (by decide +kernel), _, rfl, _, rfl, _, _, _, _, false, rfl, .ty _, .base (.int i), kit_ty (by decide +kernel), _, rfl, true, rfl, _, rfl, rfl, _, rfl, _, rfl, _, rfl, _, _, rfl, rfl, q⟩
    · exact ⟨_, rfl, _, _, _, _, true, rfl, .ty _, .base (.bl b), kit_ty (by decide +kernel), _, rfl, _, rfl, _, _, _, _, true, rfl, .ty _, .base (.bl b), kit_ty (by decide +kernel), _, rfl, false, rfl, q⟩
    · exact ⟨_, rfl, _, _, _, _, false, rfl, .ty _, ty, kit_ty e, _, rfl, q⟩
theorem ok_amount (F : Fun K "is_amount" "is_amount" sAmount f fd) (G : FnOk P w K mg base CX0 1 fI fdI ["value", "least"] (spInteger K)) (b : Binds K fdI ["value", "least"] []) (gI : mg "is_integer" = some (.ref fI)) (kI : PySem.W.keepIn K (.ref fI) = true) :
    FnOk P w K mg base CX0 2 f fd ["value"] (spAmount K) := by
  refine F.ok scAmount (fun vs H Q E h => ?_) (fun cdv A outer s H vs Q E hr h => ?_)
  · obtain ⟨v, rfl, _⟩ := h
    rfl
  · obtain ⟨v, rfl, h⟩ := h
    refine ⟨_, pss_one (ps_ret (pe_call G hr (by rfl) gI kI b .nil pass0 (pa_cons (pv 0) (pa_cons pe_int pa_nil)))), ?_⟩
    exact ⟨_, rfl, v, 0, rfl, h⟩
theorem ok_name (F : Fun K "is_name" "is_name" sName f fd) (T : Blt mg) {tL tN : Nat} {aN : Addr} (gL : mg "LONGEST_NAME" = some (.int 8 tL)) (gN : mg "NO_NAMES" = some (.ref aN)) (hN : ∀ H, SqT K H aN [.str "none", .str "self"]) :
    FnOk P w K mg base CX0 1 f fd ["value"] (spName K) := by
  refine F.ok scName (fun vs H Q E h => ?_) (fun cdv A outer s H vs Q E hr h => ?_)
  · obtain ⟨v, rfl, _⟩ := h
    rfl
  · obtain ⟨v, rfl, h⟩ := h
    refine ⟨_, pss_cons (ps_if (PW.pt (pw_or (pt_not (pt_val (pe_callB call_isi (by rfl) T.isi (by decide +kernel) (pa_cons (pv 0) (pa_cons (pe_bltn (v := .ty "str") (by rfl) T.str (by decide +kernel) rfl) pa_nil)))))
        (pw_or (pt_cmpR op_gt (pe_callB call_len_str (by rfl) T.len PySem.boot_len (pa_cons (pv 0) pa_nil)) (pe_glob (v := .int 8) (by rfl) gL ⟨_, rfl⟩) (nomark _)) (pw_or1 (pt_cmpR op_in_seq (pv 0) (pe_glob (v := .ref aN) (by rfl) gN rfl) (by rfl))))))
        (pss_one (ps_ret pe_bl)) pss_nil)
      (pss_one (ps_ret (pe_and (pe_bm0 PySem.F.plainAttrs_str PySem.F.slot_str_isascii PySem.F.type_str_isascii mt_isascii (pv 0)) (pe_and (pe_bm0 PySem.F.plainAttrs_str PySem.F.slot_str_isalpha PySem.F.type_str_isalpha mt_isalpha (pv 0)) (pe_one (pe_bm0 PySem.F.plainAttrs_str PySem.F.slot_str_islower PySem.F.type_str_islower mt_islower (pv 0))))))), ?_⟩
    rcases h with ⟨x, rfl, hx, q⟩ | ⟨t, ty, e, q⟩
    · refine ⟨_, rfl, _, _, _, _, true, rfl, .ty _, .base (.str x), kit_ty (by decide +kernel), _, rfl, ?_⟩
      refine ⟨_, rfl, x, rfl, hx, _, _, rfl, rfl, _, rfl, ?_⟩
      by_cases h8 : (8 : Int) < x.length
      · rw [decide_eq_true h8]
        have e : nameB x = false := by
          unfold nameB
          rw [decide_eq_false (by omega)]
          rfl
        rw [e] at q
        exact q
      · rw [decide_eq_false h8]
        refine ⟨_, rfl, aN, _, rfl, .inr (hN H), rfl, rfl, _, rfl, ?_⟩
        cases hn : inV (.str x) [.str "none", .str "self"] with
        | true =>
          have e : nameB x = false := by
            unfold nameB
            rw [hn]
            simp
          rw [e] at q
          exact q
        | false =>
          have e : nameB x = (Txt.isascii x && Txt.isalpha x && Txt.islower x) := by
            unfold nameB
            rw [hn, decide_eq_true (by omega)]
            simp
          rw [e] at q
          refine ⟨_, rfl, rfl, x, rfl, rfl, trivial, _, rfl, ?_⟩
          cases h1 : Txt.isascii x with
          | false => rw [h1] at q; exact q
          | true =>
            refine ⟨_, rfl, rfl, x, rfl, rfl, trivial, _, rfl, ?_⟩
            cases h2 : Txt.isalpha x with
            | false => rw [h1, h2] at q; exact q
            | true =>
              rw [h1, h2] at q
              exact ⟨_, rfl, rfl, x, rfl, rfl, trivial, q⟩
    · exact ⟨_, rfl, _, _, _, _, false, rfl, .ty _, ty, kit_ty e, _, rfl, q⟩
/-- what is never reached -/
theorem ps_dead {X : Cx} {st : Stmt} : PS X st (fun _ _ _ => False) := ⟨fun _ _ _ _ _ _ h => h.elim⟩
/-- a text that is a name -/
def NameV (v : V) : Prop := ∃ x : Str, v = .str x ∧ x.length ≤ sizeLine ∧ nameB x = true
/-- an amount -/
def AmtV (v : V) : Prop := ∃ i : Int, v = .int i ∧ 0 ≤ i
/-- check_names(values), all of them names; check_amounts(values), all of them amounts -/
def spAll (K : PySem.W.Frag) (R : V → Prop) : Sp := fun vs H Q _ => ∃ (a : Addr) (xs : List V), vs = [.ref a] ∧ SqL K H a xs ∧ (∀ x ∈ xs, R x) ∧ Q .non H
theorem scNames : FnScope ["values", "value"] ["values"] (defScope sNames) := ⟨rfl, rfl, rfl, by decide +kernel, rfl, by decide +kernel, by decide +kernel⟩
theorem scAmounts : FnScope ["values", "value"] ["values"] (defScope sAmounts) := ⟨rfl, rfl, rfl, by decide +kernel, rfl, by decide +kernel, by decide +kernel⟩
/-- a list or a tuple -/
def SqA (K : PySem.W.Frag) (H : Hp) (a : Addr) (xs : List V) : Prop := SqL K H a xs ∨ SqT K H a xs
def iSeq (K : PySem.W.Frag) (tl : TE) : TI := fun σ H R => iList K tl σ H R ∨ iTup K tl σ H R
theorem pi_seq {X : Cx} {tg l : Expr} {tl : TE} (h : PE X l tl) : PI X tg l (iSeq X.K tl) := ⟨fun pins s σ H R I q => q.elim ((pi_list h).run pins s σ H R I) ((pi_tup h).run pins s σ H R I)⟩
def spSeq (K : PySem.W.Frag) (R : V → Prop) : Sp := fun vs H Q _ => ∃ (a : Addr) (xs : List V), vs = [.ref a] ∧ SqA K H a xs ∧ (∀ x ∈ xs, R x) ∧ Q .non H
theorem ok_names (F : Fun K "check_names" "check_names" sNames f fd) (G : FnOk P w K mg base CX0 1 fN fdN ["value"] (spName K)) (b : Binds K fdN ["value"] []) (gN : mg "is_name" = some (.ref fN)) (kN : PySem.W.keepIn K (.ref fN) = true) :
    FnOk P w K mg base CX0 2 f fd ["values"] (spSeq K NameV) := by
  have nd := scNames.nd
  refine F.ok scNames (fun vs H Q E h => ?_) (fun cdv A outer s H vs Q E hr h => ?_)
  · obtain ⟨a, xs, rfl, _⟩ := h
    rfl
  · obtain ⟨a, xs, rfl, hS, hx, q⟩ := h
    refine ⟨_, pss_one (ps_for PassesOwn.never rfl (pi_seq (pv 0)) (pg_name (i := 1) nd rfl (Or.inl rfl))
      (pss_one (ps_if (pt_not (pt_val (pe_call G hr (by rfl) gN kN b .nil pass0 (pa_cons (pv 1) pa_nil)))) (pss_one ps_dead) pss_nil))), ?_⟩
    rcases hS with hS | hS
    · refine .inl ⟨_, rfl, a, rfl, ⟨_, hS⟩, for_list (xs := xs) (fun i σ H' => H' = H ∧ ∃ o, σ = [some (.ref a), o]) ⟨rfl, _, rfl⟩ (fun i σ H' _ h => by rw [h.1]; exact hS) (fun i x σ H' hi h => ?_) (fun σ H' h => ?_)⟩
      · obtain ⟨rfl, o, rfl⟩ := h
        obtain ⟨z, rfl, hz, hn⟩ := hx x (List.mem_of_getElem? hi)
        refine ⟨_, rfl, _, rfl, .inl ⟨z, rfl, hz, _, rfl, ?_⟩⟩
        rw [hn]
        exact ⟨rfl, _, rfl⟩
      · obtain ⟨rfl, o, rfl⟩ := h
        exact q
    · refine .inr ⟨_, rfl, a, rfl, ⟨_, hS⟩, for_tup (xs := xs) (fun i σ H' => H' = H ∧ ∃ o, σ = [some (.ref a), o]) ⟨rfl, _, rfl⟩ (fun i σ H' _ h => by rw [h.1]; exact hS) (fun i x σ H' hi h => ?_) (fun σ H' h => ?_)⟩
      · obtain ⟨rfl, o, rfl⟩ := h
        obtain ⟨z, rfl, hz, hn⟩ := hx x (List.mem_of_getElem? hi)
        refine ⟨_, rfl, _, rfl, .inl ⟨z, rfl, hz, _, rfl, ?_⟩⟩
        rw [hn]
        exact ⟨rfl, _, rfl⟩
      · obtain ⟨rfl, o, rfl⟩ := h
        exact q
theorem ok_amounts (F : Fun K "check_worths" "check_worths" sAmounts f fd) (G : FnOk P w K mg base CX0 2 fN fdN ["value"] (spAmount K)) (b : Binds K fdN ["value"] []) (gN : mg "is_amount" = some (.ref fN)) (kN : PySem.W.keepIn K (.ref fN) = true) :
    FnOk P w K mg base CX0 3 f fd ["values"] (spAll K AmtV) := by
  have nd := scAmounts.nd
  refine F.ok scAmounts (fun vs H Q E h => ?_) (fun cdv A outer s H vs Q E hr h => ?_)
  · obtain ⟨a, xs, rfl, _⟩ := h
    rfl
  · obtain ⟨a, xs, rfl, hS, hx, q⟩ := h
    refine ⟨_, pss_one (ps_for PassesOwn.never rfl (pi_list (pv 0)) (pg_name (i := 1) nd rfl (Or.inl rfl))
      (pss_one (ps_if (pt_not (pt_val (pe_call G hr (by rfl) gN kN b .nil pass0 (pa_cons (pv 1) pa_nil)))) (pss_one ps_dead) pss_nil))), ?_⟩
    refine ⟨_, rfl, a, rfl, ⟨_, hS⟩, for_list (xs := xs) (fun i σ H' => H' = H ∧ ∃ o, σ = [some (.ref a), o]) ⟨rfl, _, rfl⟩ (fun i σ H' _ h => by rw [h.1]; exact hS) (fun i x σ H' hi h => ?_) (fun σ H' h => ?_)⟩
    · obtain ⟨rfl, o, rfl⟩ := h
      obtain ⟨z, rfl, hz⟩ := hx x (List.mem_of_getElem? hi)
      refine ⟨_, rfl, _, rfl, .inl ⟨z, rfl, _, rfl, ?_⟩⟩
      rw [decide_eq_true hz]
      exact ⟨rfl, _, rfl⟩
    · obtain ⟨rfl, o, rfl⟩ := h
      exact q
/-! is_row, is_pair -/
abbrev sPair : Stmt := top 18
abbrev sRow : Stmt := top 19
theorem scPair : FnScope ["value"] ["value"] (defScope sPair) := ⟨rfl, rfl, rfl, by decide +kernel, rfl, by decide +kernel, by decide +kernel⟩
theorem scRow : FnScope ["value"] ["value"] (defScope sRow) := ⟨rfl, rfl, rfl, by decide +kernel, rfl, by decide +kernel, by decide +kernel⟩
/-- more built-ins that are still themselves -/
structure BltR (mg : Str → Option Value) : Prop where
  list : mg "list" = none
  tuple : mg "tuple" = none
def spRow (K : PySem.W.Frag) : Sp := fun vs H Q _ => ∃ (a : Addr) (xs : List V), vs = [.ref a] ∧ SqA K H a xs ∧ ∀ H', (∀ b o, H b = some o → H' b = some o) → Q (.bl true) H'
theorem SqL.ty {H : Hp} {a : Addr} {xs : List V} (h : H a = some (.lst xs)) : TyX K H (.ref a) (.type "list") := .base (.lst h)
end
end Fk

set_option Elab.async false
set_option linter.all false
set_option maxRecDepth 100000
set_option maxHeartbeats 4000000
/-! An own class of errors is called with keywords too: what BaseException.__new__ makes, then its own __init__. -/
namespace PySem
namespace XK
open PySem.W PySem.Calls PyProof.Rows PySem.HandSPX
section
variable {prog : Program} {w : World} {A : Around} {E : Value → Shared → Prop} {R : Result → Shared → Prop} {h : Heap} {g : Array GenState} {d : Drawn} {t : Nat} {os : OsState}
variable {nm q : Str} {C N : Addr} {bs bm up : List Value} {hdct : Bool} {sn : List Str} {sub : List Value} {ab : Bool} {col : Option Bool} {dd : Option Addr} {k0 k1 k2 k3 k5 : Option Value} {B newId initId : String} {us : List Value} {kw : List (Str × Value)} {fI : Addr}
/-- the class C, with bm above it, has the builtin ones that the base's chain `up` has -/
theorem above (same : ∀ n : String, bm.contains (.type n) = up.contains (.type n)) {n : String} {b : Bool} (e : up.contains (.type n) = b) : (Value.ref C :: bm).contains (.type n) = b := by
  rw [List.contains_cons, same, e]
  rfl
/-- new(C, *us, **kw): the error, its args a new tuple -/
theorem new_kw (F : ExcBaseFacts B newId initId up) (same : ∀ n : String, bm.contains (.type n) = up.contains (.type n)) (at_C : h.get? C = some (excClassObj nm q C N bs bm hdct sn sub ab col dd k0 k1 k2 k3 k5 newId)) (short : us.length ≤ sizeLine)
    (k : R (.ok (.ret (.ref (h.objs.size + 1)))) ⟨(h.push (W.kdv_tup us)).push (excO C h.objs.size), g, d, t, os⟩) : codeAny (model prog w) A (.builtin newId ⟨.ref C :: us, kw⟩) R ⟨h, g, d, t, os⟩ := by
  have yes := above (C := C) same F.hasB
  have noA := above (C := C) same F.noAttr
  have noN := above (C := C) same F.noName
  have room := F.ends
  refine codeAny_builtinAt F.entry ?_
  unfold Builtin.«BaseException.__new__»
  refine wpAt_bind ?_
  show wpAt _ _ _ (stack >>= _) _ _ _
  refine wpAt_bind (wpAt_stack fun _ _ => wpAt_of_wpAny ?_)
  wp_walk
  refine wpAt_of_wpAny ?_
  rw [F.owner]
  repeat (first
    | with_reducible refine wpAny_madeHere_exc F.canon at_C ?_
    | with_reducible refine wpAny_loadPart_at at_C ?_
    | (with_reducible refine wpAny_isSubtype_exc at_C ?_; (first | rw [yes] | rw [noA] | rw [noN]))
    | wp_step)
  show R _ _
  rw [Heap.size_push]
  exact k
/-- type.__call__(C, *us, **kw): the error at the second new address; then __init__ at fI has it -/
theorem type_call_kw {Q : Fin → Shared → Prop} (F : ExcBaseFacts B newId initId up) (same : ∀ n : String, bm.contains (.type n) = up.contains (.type n)) (at_C : h.get? C = some (excClassObj nm q C N bs bm hdct sn sub ab col dd k0 k1 k2 k3 k5 newId)) (short : us.length ≤ sizeLine)
    (init : W.Looks (model prog w) h (typeLookup (.ref C) "__init__") (some (.ref fI))) (bind : ∀ self, W.Looks (model prog w) h (bindSpecial (.ref fI) self) (.ref fI, [self]))
    (k : codeAny (model prog w) A (.call (.ref fI) ⟨.ref (h.objs.size + 1) :: us, kw⟩)
      (fun r s' => match r with | .ok (.ret v) => v = .none ∧ Q (.done (.ret (.ref (h.objs.size + 1)))) s' | .ok _ => False | .error e => E e s') ⟨(h.push (W.kdv_tup us)).push (excO C h.objs.size), g, d, t, os⟩) :
    wpAny (model prog w) A (Builtin.«type.__call__» ⟨.ref C :: us, kw⟩) Q E ⟨h, g, d, t, os⟩ := by
  have old : ∀ b o, h.get? b = some o → ((h.push (W.kdv_tup us)).push (excO C h.objs.size)).get? b = some o := fun b o e => Heap.get?_push_of_some _ (Heap.get?_push_of_some _ e)
  have made : ((h.push (W.kdv_tup us)).push (excO C h.objs.size)).get? (h.objs.size + 1) = some (excO C h.objs.size) := by heap_get
  have itself : (Value.ref C :: bm).contains (.ref C) = true := by simp
  have yes := above (C := C) same F.hasB
  have star := F.noStar
  repeat (first | with_reducible refine wpAny_loadPart_at at_C ?_ | with_reducible refine wpAny_madeBy_exc at_C ?_ | wp_step)
  refine codeAny_call_builtin_code (Code.quiet_builtin _ F.quiet) ?_
  -- new's own arguments pass: any, with any keywords
  simp only [checkBuiltinCall, F.newKind, F.newSplit, F.newRow]
  repeat (first
    | refine wpAny_loadPart_at at_C ?_
    | (refine wpAny_isSubtype_exc at_C ?_; rw [yes])
    | refine wpAny_staticBase_exc at_C ?_
    | refine wpAny_madeBy_exc at_C ?_
    | simp only [bne_self_eq_false, Bool.false_eq_true, if_false]
    | wp_step)
  refine new_kw F same at_C short ?_
  show wpAny _ _ _ _ _ _
  unfold isInstance
  have at_C' := old _ _ at_C
  repeat (first | with_reducible refine wpAny_loadPart_at made ?_ | (with_reducible refine wpAny_isSubtype_exc at_C' ?_; rw [itself]) | wp_step)
  show wpAny _ _ (typeLookup (.ref C) _) _ _ _
  refine (init.keeps old).at (wpAny_holding (wpAny_bind (((bind _).keeps old).at (wpAny_bind (wpAny_call (codeAny_mono k fun r s' z => ?_))))))
  rcases r with e | (v | _ | _ | _)
  all_goals first | exact z | exact z.elim | skip
  obtain ⟨rfl, z⟩ := z
  first
    | exact wpAny_pure (wpAny_pure z)
    | (wp_walk; exact z)
/-- C(*us, **kw) -/
theorem call_kw (F : ExcBaseFacts B newId initId up) (same : ∀ n : String, bm.contains (.type n) = up.contains (.type n)) (at_C : h.get? C = some (excClassObj nm q C N bs bm hdct sn sub ab col dd k0 k1 k2 k3 k5 newId)) (short : us.length ≤ sizeLine)
    (init : W.Looks (model prog w) h (typeLookup (.ref C) "__init__") (some (.ref fI))) (bind : ∀ self, W.Looks (model prog w) h (bindSpecial (.ref fI) self) (.ref fI, [self]))
    (k : codeAny (model prog w) (A.under (.builtin "type.__call__" ⟨.ref C :: us, kw⟩)) (.call (.ref fI) ⟨.ref (h.objs.size + 1) :: us, kw⟩) (W.InitBack (h.objs.size + 1) R) ⟨(h.push (W.kdv_tup us)).push (excO C h.objs.size), g, d, t, os⟩) :
    codeAny (model prog w) A (.call (.ref C) ⟨us, kw⟩) R ⟨h, g, d, t, os⟩ := by
  have look := tc_lookup
  have self := tc_bind (.ref C)
  have isT : (⟨h, g, d, t, os⟩ : Shared).TypeIs (.ref C) "type" := ⟨_, at_C, rfl⟩
  refine codeAny_of_tree ?_
  show wpAny _ _ (callAny (.ref C) _) _ _ _
  repeat (any_goals (first | assumption | with_reducible refine wpAny_loadPart_at at_C ?_ | wp_step))
  refine ⟨rfl, codeAny_call_builtin_at (Code.quiet_builtin _ (by decide +kernel)) entry_typeCall (wpAny_check_type_call_sub at_C (type_call_kw F same at_C short init bind (codeAny_mono k fun r s' z => ?_)))⟩
  rcases r with e | (v | _ | _ | _) <;> exact z
end
end XK
end PySem

set_option Elab.async false
set_option linter.all false
set_option maxRecDepth 100000
set_option maxHeartbeats 4000000
namespace PySem
namespace XK
open PySem.W PySem.Calls PyProof.Rows PySem.HandSPX
section
variable {prog : Program} {w : World} {A : Around} {E : Value → Shared → Prop} {s : Shared} {K : Frag} {x D : Addr} {ox : Obj}
/-- a data descriptor of the class goes ahead of the object's own dict -/
theorem found_data {C : Addr} {od : Option Obj} {n : Str} {a g : Value} {cd : ClassData} (c : clsIn K C = some cd) (ha : findIn K (.ref C) n = some (some a)) (hg : specialIn K a "__get__" = some (some g)) (ht : takesIn K a = some true) : findObj K C od n = some (.bind g a) := by
  simp [findObj, c, ha, hg, ht]
/-- what the class D of an error must say, so that isinstance asks its objects rightly -/
structure Asked (K : Frag) (D : Addr) : Prop where
  ga : findIn K (.ref D) "__getattribute__" = some (some (.builtin "BaseException.__getattribute__"))
  gg : findIn K (.ref D) "__getattr__" = some none
  ex : subIn K (.ref D) (.type "BaseException") = some true
  cd : ∃ cd : ClassData, clsIn K D = some cd
  cl : findIn K (.ref D) "__class__" = some (some (.builtin "object.__class__"))
  ge : specialIn K (.builtin "object.__class__") "__get__" = some (some (.builtin "getset_descriptor.__get__"))
  tk : takesIn K (.builtin "object.__class__") = some true
  mo : mroIn K D (.type "object") = some true
theorem Asked.obj (T : Asked K D) : ∃ c d cd sl, K.lookup D = some ⟨c, d, .cls cd, sl⟩ := by
  obtain ⟨cd, e⟩ := T.cd
  unfold clsIn at e
  split at e
  · exact ⟨_, _, _, _, by assumption⟩
  · cases e
/-- e.__class__, e an error with or without a dict of its own -/
theorem Asked.get {od : Option Obj} {Q : Option Value → Shared → Prop} (T : Asked K D) (X : K.In s.heap) (I : InstAt s.heap x ox D od) (k : Q (some (.ref D)) { s with toks := s.toks + 1 }) : wpAny (model prog w) A (getAttr? (.ref x) "__class__") Q E s := by
  obtain ⟨cd, hcd⟩ := T.cd
  have found := looks_find (M := model prog w) X I (found_data (od := od) hcd T.cl T.ge T.tk)
  obtain ⟨hp, g, d, t, os⟩ := s
  have ty := I.type (M := model prog w)
  have isE : Looks (model prog w) hp (isInstance (.ref x) (.type "BaseException")) true := ty.andThen (looks_subIn X T.ex)
  have no : (onTheHeap (Value.ref D) && Value.builtin "BaseException.__getattribute__" == Value.builtin "object.__getattribute__") = false := by
    rw [show (Value.builtin "BaseException.__getattribute__" == Value.builtin "object.__getattribute__") = false by decide +kernel]
    rfl
  unfold getAttr? getAttrBy? getAttrBy
  refine wpAny_bind (wpAny_mkText (wpAny_bind (wpAny_attempt (wpAny_holding (wpAny_bind (ty.at (wpAny_bind ((looks_findIn X T.ga).at ?_))))))))
  show wpAny _ _ (if (onTheHeap (Value.ref D) && Value.builtin "BaseException.__getattribute__" == Value.builtin "object.__getattribute__") = true then _ else _) _ _ _
  rw [if_neg (by rw [no]; decide)]
  unfold getAttrByItsOwn hookBefore
  refine wpAny_bind ?_
  rw [if_pos (show onTheHeap (Value.ref D) = true from rfl)]
  refine (looks_findIn X T.gg).at (wpAny_bind (wpAny_attempt (wpAny_holding ?_)))
  unfold callGetattribute
  rw [if_neg (show ¬ (false && onTheHeap (Value.builtin "BaseException.__getattribute__")) = true by decide)]
  unfold boundAndCalled
  rw [PySem.F.excAttr_ValueError.ga.bind (.ref x)]
  refine wpAny_bind (wpAny_pure (wpAny_call (codeAny_call_builtin PySem.F.excAttr_ValueError.ga.plain PySem.F.entry_bexc_ga ?_)))
  refine @check_slot (model prog w) _ _ ⟨hp, g, d, t + 1, os⟩ "BaseException.__getattribute__" "BaseException" "__getattribute__" (.ref x) [.str "__class__" t] [] _ (by decide +kernel) (by decide +kernel) isE (PySem.F.args_bexc_ga (.ref x) (.str "__class__" t)) ?_
  unfold Builtin.«object.__getattribute__»
  refine wpAny_bind (wpAny_of_eq (a := ((Value.ref x : Value), [Value.str "__class__" t])) (by first | rfl | (simp only [slotArgs]; rfl)) (wpAny_bind (wpAny_pure (wpAny_bind (ty.at (wpAny_bind (found.at ?_)))))))
  show wpAny _ _ (holding [Value.builtin "object.__class__"] (call (.builtin "getset_descriptor.__get__") [.builtin "object.__class__", .ref x, .ref D]) >>= ret) _ _ _
  refine wpAny_bind (wpAny_holding (wpAny_call (class_get (s := ⟨hp, g, d, t + 1, os⟩) (ox := ox) (od := od) X I T.mo (wpAny_pure ?_))))
  show wpAny _ _ (handedOut (.ref D)) _ _ _
  rw [handedOut_of (v := .ref D) rfl]
  first
    | exact wpAny_pure (wpAny_pure k)
    | exact wpAny_pure k
    | exact wpAny_pure (wpAny_bind (wpAny_pure (wpAny_pure k)))
theorem Asked.kit {od : Option Obj} (T : Asked K D) : KitX K (.ref x) (.ref D) (fun h => InstAt h x ox D od) := by
  obtain ⟨c, d, cd, sl, ho⟩ := T.obj
  exact {
    ty := fun _ _ _ I => I.type
    it := fun _ _ X _ _ _ _ _ k q => by
      unfold isType loadHead
      exact wpAny_bind (wpAny_loadPart (k _ _ (X _ _ ho)) (wpAny_pure q))
    ne := fun h tp _ _ _ _ X there => Bool.eq_false_iff.mpr fun q => by
      obtain rfl : D = tp := Value.ref.inj (beq_iff_eq.mp q)
      cases (X _ _ ho).symm.trans there
    ca := fun X I k => T.get X I k }
end
end XK
end PySem

namespace L2
open PySem PySem.Spec PyProof.Rows
/-- at a: an exception of the class at C that is not raised, with its fields -/
def ErrAt (H : Hp) (a C : Addr) (fs : List (Str × V)) : Prop := (fs = [] ∧ H a = some (exo a C none)) ∨ ∃ d, H a = some (exo a C (some d)) ∧ H d = some (exd d fs)
theorem ErrAt.ex {H H' : Hp} {a C : Addr} {fs : List (Str × V)} (e : ∀ b o, H b = some o → H' b = some o) (h : ErrAt H a C fs) : ErrAt H' a C fs := by
  rcases h with ⟨e1, e2⟩ | ⟨d, e1, e2⟩
  · exact .inl ⟨e1, e _ _ e2⟩
  · exact .inr ⟨d, e _ _ e1, e _ _ e2⟩
section
variable {X : Cx} {pins : List (Addr × Obj)} {σ : St} {H : Hp} {s : Shared}
theorem ErrAt.inst {a C : Addr} {fs : List (Str × V)} (I : Inv X pins σ H s) (h : ErrAt H a C fs) : ∃ ox od, PySem.W.InstAt s.heap a ox C od := by
  rcases h with ⟨_, e⟩ | ⟨d, e, ed⟩
  · obtain ⟨t1, ho⟩ := exo_at I.hok e
    exact ⟨_, none, ho, rfl, rfl, trivial⟩
  · obtain ⟨t1, ho⟩ := exo_at I.hok e
    obtain ⟨mA, ⟨od, _, _, hd, _⟩, _⟩ := exd_at I.hok ed
    exact ⟨_, some od, ho, rfl, rfl, hd⟩
/-- isinstance(e, c), e an exception of an own class -/
def rIsX (K : PySem.W.Frag) : List V → Hp → VK → Prop := fun xs H Q => ∃ (a D : Addr) (fs : List (Str × V)) (c : V) (cv : Value) (b : Bool), xs = [.ref a, c] ∧ ErrAt H a D fs ∧ ExcC K D ∧ ClsV c cv ∧ PySem.W.kitOne K (.ref D) cv = some b ∧ Q (.bl b) H
theorem call_isX : CallR X (.builtin "isinstance") (rIsX X.K) := by
  intro pins s σ H xs us Q I r h
  obtain ⟨a, D, fs, c, cv, b, rfl, ea, C, k, e, q⟩ := h
  obtain ⟨u1, u2, rfl, r1, r2⟩ := vals2 r
  have e2 := k.eq r2
  subst e2
  cases r1
  obtain ⟨ox, od, J⟩ := ea.inst I
  exact PySem.W.kia_one (PySem.XK.Asked.kit (od := od) (ox := ox) ⟨C.hg, C.hk, C.hs, (let ⟨cd, hc, _⟩ := PySem.W.any_some C.hd; ⟨cd, hc⟩), C.ha, C.hn, C.ht, C.hm⟩) I.kIn J e (fun z => nomatch z) fun tk => ⟨.bl b, H, I.kept (t' := tk) fun _ _ z => z, rfl, q⟩
/-- e.f, e an exception of an own class -/
def tXv (K : PySem.W.Frag) (f : Str) (te : TE) : TE := fun σ H Q => te σ H fun x H1 => ∃ (a C : Addr) (fs : List (Str × V)) (v : V), x = .ref a ∧ XfC K C ∧ PySem.W.findIn K (.ref C) f = some none ∧ ErrAt H1 a C fs ∧ fs.lookup f = some v ∧ Q v H1
theorem pe_xv {e : Expr} {te : TE} {pos : Pos} {n : Str} (he : PE X e te) (hb : attributeBase e n X.env (eval e X.env) = eval e X.env := by rfl) :
    PE X (.Attribute e n pos) (tXv X.K n te) := by
  refine ⟨fun pins s σ H Q I h => ?_⟩
  refine attr_of hb (thn (he.run pins s σ H _ I h) fun u s1 hh => ?_)
  obtain ⟨x, H1, I1, rx, a, C, fs, v, ex, T, hno, ea, l, q⟩ := hh
  subst ex
  obtain rfl : u = Value.ref a := rx
  rcases ea with ⟨e1, _⟩ | ⟨dd, e1, ed⟩
  · subst e1
    cases l
  · obtain ⟨t1, ho⟩ := exo_at I1.hok e1
    obtain ⟨mA, hns, hr⟩ := exd_at I1.hok ed
    obtain ⟨od, hd, hl⟩ := lookIn_ns hns
    obtain ⟨u, hu, ru⟩ := RelO.some_of (v := v) (o := mA n) (by rw [← l]; exact hr n)
    have J : PySem.W.InstAt s1.heap a _ C (some od) := ⟨ho, rfl, rfl, hd⟩
    exact HandSPX.exc_get I1.kIn J T.ga T.gg T.exC (PySem.W.findObj_own T.hdC hno rfl (by rw [hl, hu])) (handed_of ru) ⟨v, H1, I1.tok _, ru, q⟩
/-- C(e, .., k = v, ..) as a value, C's own __init__ keeping sp -/
def tMkV (C : Addr) (n m : Nat) (sp : Sp) (gV : List V → List V → List V) (E : XK) (ta tk : TA) : TE := fun σ H Q => ta σ H fun vs H1 => tk σ H1 fun zs H2 => vs.length = n ∧ zs.length = m ∧
  ∀ a, H2 a = none → sp (gV (.ref a :: vs) zs) (upd H2 a (exo a C none)) (fun v H3 => v = .non ∧ Q (.ref a) H3) E
variable {CX : CXT} {k n : Nat} {f C fI : Addr} {fd : FuncData} {ps ks : List Str} {sp : Sp} {E : XK} {x : Str} {p pos : Pos} {e : Expr} {es : List Expr} {kws : List Keyword} {t tk : TA} {g : List Value → List Value → List Value} {gV : List V → List V → List V}
theorem run_mkv {Q : VK} {us ws : List Value} {vs zs : List V} (T : OexC X.K C) (iC : PySem.W.findIn X.K (.ref C) "__init__" = some (some (.ref fI))) (tI : PySem.W.typeIn X.K (.ref fI) = some (.type "function"))
    (F1 : FnOk X.prog X.w X.K X.mg X.base CX k fI fd ps sp) (hr : Room (k + 1) X.A) (hb : KBn X.K fd ps (n + 1) ks g gV) (hx : Passes CX X E) (I : Inv X pins σ H s) (r : Vals vs us) (rz : Vals zs ws) (l1 : vs.length = n) (l2 : zs.length = ks.length) (hn : n ≤ 1000)
    (h : ∀ a, H a = none → sp (gV (.ref a :: vs) zs) (upd H a (exo a C none)) (fun v H3 => v = .non ∧ Q (.ref a) H3) E) :
    wpAny (model X.prog X.w) X.A (call (.ref C) us (ks.zip ws)) (EP X pins σ Q) X.xe s := by
  obtain ⟨nm, q, N, bs, bm, sn, sub, ab, col, dd, k0, k1, k2, k3, k5, hC, hbm⟩ := T.cls
  obtain ⟨hp, gn, dr, tk, os⟩ := s
  have hsz : hp.objs.size ≤ hp.objs.size + 1 := Nat.le_succ _
  have hnn : H (hp.objs.size + 1) = none := I.hok.fresh hsz
  have hq := h (hp.objs.size + 1) hnn
  have kk : ∀ b o, hp.get? b = some o → ((hp.push (PySem.W.kdv_tup us)).push (PySem.HandSPX.excO C hp.objs.size)).get? b = some o := fun b o e => Heap.get?_push_of_some _ (Heap.get?_push_of_some _ e)
  have hget : ((hp.push (PySem.W.kdv_tup us)).push (PySem.HandSPX.excO C hp.objs.size)).get? (hp.objs.size + 1) = some (PySem.HandSPX.excO C hp.objs.size) := by heap_get
  have I2 : Inv X pins σ (upd H (hp.objs.size + 1) (exo (hp.objs.size + 1) C none)) ⟨(hp.push (PySem.W.kdv_tup us)).push (PySem.HandSPX.excO C hp.objs.size), gn, dr, tk, os⟩ :=
    I.laid (t' := tk) (a := hp.objs.size + 1) (o := exo (hp.objs.size + 1) C none) (h' := (hp.push (PySem.W.kdv_tup us)).push (PySem.HandSPX.excO C hp.objs.size)) kk hsz (exo_ok hget)
  have r1 : Vals (V.ref (hp.objs.size + 1) :: vs) (Value.ref (hp.objs.size + 1) :: us) := .cons rfl r
  have r2 := hb.rel r1 rz
  have e1 : (Value.ref (hp.objs.size + 1) :: us).length = n + 1 := r1.length.symm.trans (congrArg Nat.succ l1)
  have e2 : ws.length = ks.length := rz.length.symm.trans l2
  have hus : us.length ≤ sizeLine := by
    rw [← Paired.length r, sizeLine_eq, l1]
    omega
  refine wpAny_call (PySem.XK.call_kw F.excBase_ValueError (fun Y => PySem.HandSPX.refsVE_contains Y bm hbm) (I.kIn _ _ hC) hus (PySem.W.looks_findIn I.kIn iC) (fun self => PySem.W.bind_fn I.kIn self tI)
    (codeAny_mono (F1.run _ X.stack _ _ ⟨Value.ref (hp.objs.size + 1) :: us, ks.zip ws⟩ (g (Value.ref (hp.objs.size + 1) :: us) ws) _ _ E (hr.make C us (ks.zip ws)) (I2.env0.make C us (ks.zip ws)) (hb.to _ (Value.ref (hp.objs.size + 1) :: us) ws I2.kIn e1 e2) r2 hq) fun r s' hq' => ?_))
  cases r with
  | error er => exact hx pins σ _ _ er s' I2 hq'
  | ok fl =>
    cases fl with
    | ret u =>
      obtain ⟨v, H', I3, rv, ev, q3⟩ := I2.after hq'
      subst ev
      exact ⟨rv, ⟨V.ref (hp.objs.size + 1), H', I3, rfl, q3⟩⟩
    | next => exact False.elim hq'
    | brk => exact False.elim hq'
    | cont => exact False.elim hq'
/-- what such a class has -/
structure MkvC (K : PySem.W.Frag) (C fI : Addr) : Prop where
  o : OexC K C
  iC : PySem.W.findIn K (.ref C) "__init__" = some (some (.ref fI))
  tI : PySem.W.typeIn K (.ref fI) = some (.type "function")
/-- C(e, ..) -/
theorem pe_mkv (M : MkvC X.K C fI) (F : FnOk X.prog X.w X.K X.mg X.base CX k fI fd ps sp) (hr : Room (k + 1) X.A) (hg : Gl X x) (hm : X.mg x = some (.ref C)) (hb : KBn X.K fd ps (n + 1) [] g gV) (hx : Passes CX X E) (hn : n ≤ 1000)
    (ha : PA X (e :: es) t) (hdb : (x == ("__debug__" : Str)) = false := by decide) (he : starEach (e :: es) X.env = (false, eval e X.env) :: starEach es X.env := by rfl) (hpl : (backTo pos (starEach es X.env)).any (·.1) = false := by rfl) :
    PE X (.Call (.Name x p) (e :: es) [] pos) (tMkV C n 0 sp gV E t tNil) := by
  refine ⟨fun pins s σ H Q I h => ?_⟩
  refine wpAny_Call_Name_kw (ld_glob I hg hm ?_ hdb)
  refine PySem.W.callWith_K (h₀ := X.base) I.ok.mod.kin M.o.kC (thn (ha.run pos pins s σ H _ I h) fun us s1 ⟨vs, H1, I1, r, l1, l2, q⟩ => ⟨I1.kIn, ?_⟩) he hpl
  exact run_mkv (ks := []) (ws := []) (zs := []) M.o M.iC M.tI F hr hb hx I1 r .nil l1 rfl hn q
/-- C(k = v, ..) -/
theorem pe_mkv0 (M : MkvC X.K C fI) (F : FnOk X.prog X.w X.K X.mg X.base CX k fI fd ps sp) (hr : Room (k + 1) X.A) (hg : Gl X x) (hm : X.mg x = some (.ref C)) (hb : KBn X.K fd ps 1 ks g gV) (hx : Passes CX X E) (hkw : PK X kws tk)
    (hall : (backToKw pos (keywordEach kws X.env)).all (·.1.isSome) = true := by rfl) (hks : (backToKw pos (keywordEach kws X.env)).filterMap (·.1) = ks := by rfl) (hdb : (x == ("__debug__" : Str)) = false := by decide)
    (hpl : ((backTo pos (starEach [] X.env)).any (·.1) || (backToKw pos (keywordEach kws X.env)).any (·.1.isNone)) = false := by rfl) :
    PE X (.Call (.Name x p) [] kws pos) (tMkV C 0 ks.length sp gV E tNil tk) := by
  refine ⟨fun pins s σ H Q I h => ?_⟩
  refine wpAny_Call_Name_kw (ld_glob I hg hm ?_ hdb)
  refine PySem.W.callWith_KW0 (h₀ := X.base) I.ok.mod.kin M.o.kC hall ?_ hpl
  refine thn (hkw.run pos pins s σ H _ I h) fun ws s2 ⟨zs, H2, I2, rz, l1, l2, q2⟩ => ⟨I2.kIn, ?_⟩
  rw [hks]
  exact run_mkv (us := []) (vs := []) M.o M.iC M.tI F hr hb hx I2 .nil rz rfl l2 (by decide) q2
/-- C(e, .., k = v, ..) -/
theorem pe_mkvK (M : MkvC X.K C fI) (F : FnOk X.prog X.w X.K X.mg X.base CX k fI fd ps sp) (hr : Room (k + 1) X.A) (hg : Gl X x) (hm : X.mg x = some (.ref C)) (hb : KBn X.K fd ps (n + 1) ks g gV) (hx : Passes CX X E) (hn : n ≤ 1000) (ha : PA X (e :: es) t) (hkw : PK X kws tk)
    (hall : (backToKw pos (keywordEach kws X.env)).all (·.1.isSome) = true := by rfl) (hks : (backToKw pos (keywordEach kws X.env)).filterMap (·.1) = ks := by rfl) (hdb : (x == ("__debug__" : Str)) = false := by decide)
    (he : starEach (e :: es) X.env = (false, eval e X.env) :: starEach es X.env := by rfl) (hpl : ((backTo pos (starEach (e :: es) X.env)).any (·.1) || (backToKw pos (keywordEach kws X.env)).any (·.1.isNone)) = false := by rfl) :
    PE X (.Call (.Name x p) (e :: es) kws pos) (tMkV C n ks.length sp gV E t tk) := by
  refine ⟨fun pins s σ H Q I h => ?_⟩
  refine wpAny_Call_Name_kw (ld_glob I hg hm ?_ hdb)
  refine PySem.W.callWith_KW (h₀ := X.base) I.ok.mod.kin M.o.kC hall (thn (ha.run pos pins s σ H _ I h) fun us s1 ⟨vs, H1, I1, r, q⟩ => ?_) hpl he
  refine thn (hkw.run pos pins s1 σ H1 _ I1 q) fun ws s2 ⟨zs, H2, I2, rz, l1, l2, q2⟩ => ⟨I2.kIn, ?_⟩
  rw [hks]
  exact run_mkv M.o M.iC M.tI F hr hb hx I2 r rz l1 l2 hn q2
/-- C(), C(e), C an own class without own __init__ -/
theorem run_exc {Q : VK} {us : List Value} {bmB : List Value} {B newId initId : String} (F : ExcBaseFacts B newId initId bmB) (q : PySem.W.excIn X.K C bmB newId = true) (I : Inv X pins σ H s) (hl : us.length ≤ 1000)
    (h : ∀ a, H a = none → Q (.ref a) (upd H a (exo a C none))) : wpAny (model X.prog X.w) X.A (call (.ref C) us) (EP X pins σ Q) X.xe s := by
  obtain ⟨hp, gn, dr, tk, os⟩ := s
  obtain ⟨bm, N, nm, qn, bs, hdct, sn, sub, ab, col, dd, k0, k1, k2, k3, k5, mN, hC, hN, hni, T⟩ := exc_obj I.kIn q
  refine wpAny_call_exc_subT F T hC hN hni (fun h' a hm => ?_) (by rw [sizeLine_eq]; omega)
  have hn : H a = none := I.hok.gone hm.new
  obtain ⟨t, ht, _, _⟩ := hm.there
  exact ⟨.ref a, upd H a (exo a C none), I.laidN hm.keeps hm.new hn (exo_ok ht), rfl, h a hn⟩
end
end L2

set_option Elab.async false
set_option linter.all false
set_option maxRecDepth 100000
set_option maxHeartbeats 4000000
/-! Defs that are called while no repr is under way. -/
namespace XG
open PySem PySem.Spec PyProof.Rows L2
section
variable {CX : CXT} {P : Program} {w : World} {K : PySem.W.Frag} {mg : Str → Option Value} {base : Heap} {k : Nat} {f : Addr} {ps : List Str} {sp : Sp}
/-- the def at f keeps sp wherever no object is being shown -/
def FnG (P : Program) (w : World) (K : PySem.W.Frag) (mg : Str → Option Value) (base : Heap) (CX : CXT) (k : Nat) (f : Addr) (fd : FuncData) (ps : List Str) (sp : Sp) : Prop :=
  ∀ (A : Around) (outer : List Env) (s : Shared) (H : Hp) (args : Args) (us : List Value) (vs : List V) (Q : VK) (E : XK), A.guards = some [] → Room k A → Env0 P w K mg base A outer s H →
    BindsTo s fd args (ps.zip us) → Vals vs us → sp vs H Q E → codeAny (model P w) A (.call (.ref f) args) (CR CX outer P w H s Q E) s
theorem fnG_of {qual x : Str} {params : Arguments} {body : List Stmt} {scope : Scope} {dV kV doc pm cdv ct oc : Value} {an od : Option Addr} {osl : Array (Option Value)} {N : List Str}
    (lk : K.lookup f = some ⟨oc, od, .func (PySem.W.fnOf x qual params body scope dV kV doc pm an cdv ct), osl⟩) (hcd : PySem.W.codeIn K cdv qual = true) (S : FnScope N ps scope) (len : ∀ vs H Q E, sp vs H Q E → vs.length = ps.length)
    (walk : ∀ (A : Around) (outer : List Env) (s : Shared) (H : Hp) (vs : List V) (Q : VK) (E : XK), A.guards = some [] → Room k (A.deeper (envOfC qual scope s.heap.objs.size f cdv)) → sp vs H Q E →
      ∃ t, PSs (cxOf CX P w K mg base N qual scope f cdv A outer s H E) body t ∧ t { nx := fun _ H' => Q .non H', rt := Q } (start N vs) H) :
    FnG P w K mg base CX (k + 1) f (PySem.W.fnOf x qual params body scope dV kV doc pm an cdv ct) ps sp := by
  intro A outer s H args us vs Q E gd room e0 bd r h
  have n1 := len _ _ _ _ h
  have inH : ∀ b o, base.get? b = some o → s.heap.get? b = some o := fun b o e => (e0.bs b o e).1
  have kin : K.In s.heap := e0.mod.kin.keeps inH
  have par : ∀ y ∈ ps.zip us, scope.names.lookup y.1 = some .local ∨ (scope.names.lookup y.1 = some .cell ∧ ((cellsFrom (s.heap.objs.size + 1) scope.names []).lookup y.1).isSome = true) := by
    rintro ⟨y, z⟩ hy
    exact (S.par y (List.of_mem_zip hy).1).imp id fun q => ⟨q, PySem.W.cellsFrom_some _ _ _ (.inl q)⟩
  refine codeAny_call_function room.depth (kin _ _ lk) rfl S.co S.gen rfl (PySem.W.codeRec_of kin hcd) (bd _ _ _ _ (wpAny_newFunctionEnv_cells S.kind par fun env he s1 z => ?_))
  subst he
  refine ⟨(e0.mod.nolimit.keeps inH).keeps z.toInCall.keep, codeAny_func ?_⟩
  obtain ⟨t, body_ok, ends⟩ := walk A outer s H vs Q E gd (room.deeper _) h
  have J := inv_start (CX := CX) (E := E) S room.hd e0 n1 r z
  refine wpAny_mono (body_ok.run [] s1 _ H _ J ends) (fun fl s' q => ?_) fun e s' q => q
  rcases fl with u | _ | _ | _
  all_goals first
    | (obtain ⟨v, σ', H', J', rv, q⟩ := q; exact ⟨v, H', J'.os, J'.bare, J'.base, J'.hok, rv, q⟩)
    | (obtain ⟨σ', H', J', q⟩ := q; exact ⟨V.non, H', J'.os, J'.bare, J'.base, J'.hok, rfl, q⟩)
    | (obtain ⟨_, _, _, q⟩ := q; exact q.elim)
theorem Fun.okG {x qual : Str} {st : Stmt} {fd : FuncData} {N : List Str} (F : Fun K x qual st f fd) (S : FnScope N ps (defScope st)) (len : ∀ vs H Q E, sp vs H Q E → vs.length = ps.length)
    (walk : ∀ (cdv : Value) (A : Around) (outer : List Env) (s : Shared) (H : Hp) (vs : List V) (Q : VK) (E : XK), A.guards = some [] → Room k (A.deeper (envOfC qual (defScope st) s.heap.objs.size f cdv)) → sp vs H Q E →
      ∃ t, PSs (cxOf CX0 P w K mg base N qual (defScope st) f cdv A outer s H E).nox (defBody st) t ∧ t { nx := fun _ H' => Q .non H', rt := Q } (start N vs) H) : FnG P w K mg base CX0 (k + 1) f fd ps sp := by
  obtain ⟨oc, od, kV, doc, pm, an, cdv, ct, osl, rfl, lk, hcd⟩ := F.ex
  refine fnG_of lk hcd S len fun A outer s H vs Q E gd room h => ?_
  obtain ⟨t, a, b⟩ := walk cdv A outer s H vs Q E gd room h
  exact ⟨t, a.nox, b⟩
/-- the claim's call, from a heap in which nothing but the script is tracked -/
theorem core {mb : Str → Option Value} {fd : FuncData} {a : Addr} {x : Str} {s₁ : Shared} {vs : List Value} (kin : K.In s₁.heap) (hns : s₁.heap.Ns mainGlobals mg) (hb : s₁.heap.Ns builtinsNs mb) (hbb : ∀ x : Str, x ≠ "__name__" → mb x = bootBuiltins x)
    (lim : s₁.heap.NoLimit) (gens : s₁.gens = #[]) (ha : s₁.heap.get? a = some { cls := .type "list", data := .seq vs.toArray }) (room : Room k callerA)
    (F : ∀ base : Heap, K.In base → base.Ns mainGlobals mg → FnG P w K mg base CX k f fd [x] sp) (bind : ∀ (s : Shared) (u : Value), BindsTo s fd ⟨[u], []⟩ [(x, u)])
    (none' : ∀ H e s', CX [] H s₁ (fun _ _ _ => False) e s' → False) {H : Hp} (only : Only H) (h : sp [.ref a] H (fun v _ => v = .bl true) fun _ _ _ => False) (hok : HOk P w H s₁.heap) (at_a : ∀ b, H b ≠ none → b = a) (not_K : H a ≠ none → K.lookup a = none) :
    codeAny (model P w) callerA (.call (.ref f) ⟨[.ref a], []⟩) (fun r s' => r = .ok (.ret (.bool true)) ∧ OldK s₁.heap s'.heap ∧ s'.os = s₁.os ∧ AllBare s'.gens) s₁ := by
  have tr : ∀ {b : Addr}, H b ≠ none → H a ≠ none := fun {b} z => at_a b z ▸ z
  have nsI : ∀ {b : Addr} {m : Str → Option Value}, s₁.heap.Ns b m → (hidT s₁.heap H).Ns b m := fun {b m} ⟨o, es, ep, e, d, r⟩ => by
    refine ⟨o, es, ep, hidT_get e ?_, d, r⟩
    by_cases q : H b = none
    · exact q
    · obtain rfl := at_a b q
      rw [ha] at e
      cases e
      cases (show Data.seq vs.toArray _ = Data.dict es ep from d)
  have kinI : K.In (hidT s₁.heap H) := fun b o e => hidT_get (kin b o e) (by
    by_cases q : H b = none
    · exact q
    · obtain rfl := at_a b q
      rw [not_K q] at e
      cases e)
  obtain ⟨mc, lim1, lim2⟩ := lim
  have e0 : Env0 P w K mg (hidT s₁.heap H) callerA [] s₁ H := {
    frames := rfl
    mod := ⟨kinI, nsI hns, ⟨mb, nsI hb, hbb⟩, mc, nsI lim1, lim2⟩
    bs := fun b o e => of_hidT e
    bsz := Nat.le_of_eq (hidT_size _ _)
    funs := trivial
    frf := fun b z => absurd (show b ∈ ([] : List Addr) from z) List.not_mem_nil
    hok := hok
    bare := .of_eq gens }
  have run := F _ kinI (nsI hns) callerA [] s₁ H ⟨[.ref a], []⟩ [.ref a] [.ref a] _ _ rfl room e0 (bind s₁ (.ref a)) (.cons rfl .nil) h
  refine codeAny_mono run fun r s' z => ?_
  rcases r with e | (u | _ | _ | _)
  all_goals first | exact (none' H e s' z).elim | exact (show False from z).elim | skip
  obtain ⟨v, H', os, bare, un, hok', rv, q⟩ := z
  obtain rfl : v = .bl true := q
  cases (show _ = Value.bool true from rv)
  refine ⟨rfl, OldK.of_keep fun b o e => ?_, os, bare⟩
  cases q : H b with
  | none => exact un.keep b o e q (fun z => List.not_mem_nil (show b ∈ ([] : List Addr) from z)) List.not_mem_nil
  | some t =>
    rcases only b with z | ⟨ob, xs, z⟩
    · rw [q] at z
      cases z
    · have before := (hok b _ z).1
      rw [e] at before
      cases before
      exact (hok' b _ (un.frzs b _ _ z)).1
end
/-- the law's own call, from its promise -/
theorem walk_ofG {l : PySem.W.OpenLaw} {n k : Nat} {q : Program} {loose : List Str} {XP : (Str → Option Value) → Heap → Prop} {YP : World → Heap → Prop} {d : DefRec} {K : Params → PySem.W.Frag} {sp : World → Sp} {x : Str}
    (hn : l.most = some n) (hn2 : n ≤ sizeLine) (hdf : d.params.defaults = []) (room : Room k callerA) (hY : ∀ (w : World) (h : Heap), YP w h → (K w.params).In h)
    (F : ∀ (w : World) (mg : Str → Option Value) (fa : Addr) (h : Heap), (K w.params).In h → h.Ns mainGlobals mg → mg d.name = some (.ref fa) →
      ∃ fd : FuncData, (∀ (s : Shared) (u : Value), BindsTo s fd ⟨[u], []⟩ [(x, u)]) ∧ ∀ base : Heap, (K w.params).In base → base.Ns mainGlobals mg → FnG l.prog w (K w.params) mg base CX0 k fa fd [x] (sp w))
    (hsp : ∀ (w : World) (H : Hp) (a : Addr) (ns : List Int), ns.length ≤ n → Only H → SqL (K w.params) H a (ns.map V.int) → sp w [.ref a] H (fun v _ => v = .bl true) fun _ _ _ => False) :
    PySem.W.WalkO q loose XP YP l.row.toRowW d [] (fun f vs => PySem.call f vs) := by
  refine Att.attach_call hn hdf fun w s₀ s₁ mg mb fa o pm cd doc a vs ns G Y _ _ _ hmg obj hints short gens => ?_
  have kin := hY w _ Y
  obtain ⟨fd, bind, hF⟩ := F w mg fa _ kin G.T.g hmg
  have rv := vals_ints hints
  have lz : (ns.map V.int).length ≤ sizeLine := by rw [List.length_map]; exact Nat.le_trans short hn2
  have go : ∀ {H : Hp}, Only H → SqL (K w.params) H a (ns.map V.int) → HOk l.prog w H s₁.heap → (∀ b, H b ≠ none → b = a) → (H a ≠ none → (K w.params).lookup a = none) → _ :=
    fun {H} only seq hok at_a not_K => core kin G.T.g G.T.b G.T.builtins G.T.nolimit gens obj room hF bind (fun _ _ _ z => z) only (hsp w H a ns short only seq) hok at_a not_K
  cases hk : (K w.params).lookup a with
  | some u =>
    have e := kin a u hk
    rw [obj] at e
    cases e
    exact go (H := fun _ => none) (fun _ => .inl rfl) (.inr ⟨_, vs.toArray, _, hk, rfl, rfl, rfl, by rw [List.size_toArray, hints.length]; exact Nat.le_trans short hn2, by simpa using rv⟩)
      (fun b u z => nomatch (show (none : Option HO) = some u from z)) (fun b z => absurd rfl z) fun z => absurd rfl z
  | none =>
    let fz : HO := .frz { cls := .type "list", data := .seq vs.toArray } (.lst (ns.map V.int))
    have at_ : ∀ b, (upd (fun _ => none) a fz) b ≠ none → b = a := fun b z => by
      by_cases hb : b = a
      · exact hb
      · exact absurd (upd_ne hb) z
    refine go (H := upd (fun _ => none) a fz) (fun b => ?_) (.inl (.inr ⟨_, upd_same⟩)) (fun b u z => ?_) at_ fun _ => hk
    · by_cases hb : b = a
      · rw [hb]
        exact .inr ⟨_, _, upd_same⟩
      · exact .inl (upd_ne hb)
    · obtain rfl := at_ b (by rw [z]; exact fun q => nomatch q)
      rw [upd_same] at z
      cases z
      exact ⟨obj, lz, vs, _, rv, obj⟩
end XG

set_option Elab.async false
set_option linter.all false
set_option maxRecDepth 100000
set_option maxHeartbeats 4000000
namespace L2
open PySem PySem.Spec PyProof.Rows
/-! ### what a value shows -/
mutual
/-- v is the datum d in H; nothing of it stands at p -/
inductive Dq (p : Addr) (H : Hp) : V → PyData → Prop
  | non : Dq p H .non .none
  | bl (b : Bool) : Dq p H (.bl b) (.bool b)
  | int (i : Int) : Dq p H (.int i) (.int i)
  | str (x : Str) : Dq p H (.str x) (.str x)
  | lst {a : Addr} {xs : List V} {ds : List PyData} : H a = some (.lst xs) → a ≠ p → a ≠ sysModules → DqAll p H xs ds → Dq p H (.ref a) (.list ds)
  | tup {a : Addr} {xs : List V} {ds : List PyData} : H a = some (.tup xs) → a ≠ p → DqAll p H xs ds → Dq p H (.ref a) (.tuple ds)
  | dct {a : Addr} : H a = some (.dK []) → a ≠ p → Dq p H (.ref a) (.dict [])
inductive DqAll (p : Addr) (H : Hp) : List V → List PyData → Prop
  | nil : DqAll p H [] []
  | cons {v : V} {vs : List V} {d : PyData} {ds : List PyData} : Dq p H v d → DqAll p H vs ds → DqAll p H (v :: vs) (d :: ds)
end
mutual
theorem Dq.ex {p : Addr} {H H' : Hp} (e : ∀ b o, H b = some o → b ≠ p → H' b = some o) : ∀ {v : V} (d : PyData), Dq p H v d → Dq p H' v d
  | _, .none, .non => .non
  | _, .bool b, .bl _ => .bl b
  | _, .int i, .int _ => .int i
  | _, .str x, .str _ => .str x
  | _, .list _, .lst h m n a => .lst (e _ _ h m) m n (DqAll.ex e _ a)
  | _, .tuple _, .tup h m a => .tup (e _ _ h m) m (DqAll.ex e _ a)
  | _, .dict _, .dct h m => .dct (e _ _ h m) m
theorem DqAll.ex {p : Addr} {H H' : Hp} (e : ∀ b o, H b = some o → b ≠ p → H' b = some o) : ∀ {vs : List V} (ds : List PyData), DqAll p H vs ds → DqAll p H' vs ds
  | _, [], .nil => .nil
  | _, _ :: _, .cons h t => .cons (Dq.ex e _ h) (DqAll.ex e _ t)
end
section
variable {X : Cx} {pins : List (Addr × Obj)} {σ : St} {H : Hp} {s : Shared} {q : Addr}
mutual
theorem Dq.reads (I : Inv X pins σ H s) : ∀ (d : PyData) (v : V) (u : Value), Dq q H v d → RelV v u → ∃ as, Reads s.heap u d as ∧ sysModules ∉ as
  | .none, _, _, h, r => by
    cases h
    cases r
    exact ⟨_, Reads.none, List.not_mem_nil⟩
  | .bool b, _, _, h, r => by
    cases h
    cases r
    exact ⟨_, Reads.bool b, List.not_mem_nil⟩
  | .int i, _, _, h, r => by
    cases h
    obtain ⟨t, rfl⟩ := r
    exact ⟨_, Reads.int i t, List.not_mem_nil⟩
  | .str x, _, _, h, r => by
    cases h
    obtain ⟨t, rfl⟩ := r
    exact ⟨_, Reads.str x t, List.not_mem_nil⟩
  | .list ds, _, _, h, r => by
    cases h with
    | lst hs _ n ha =>
      cases r
      obtain ⟨_, its, m, rv, g⟩ := (show ObjOk X.prog X.w H s.heap _ (.lst _) from I.hok _ _ hs)
      obtain ⟨as, hr, hn⟩ := DqAll.reads I ds _ its ha rv
      exact ⟨_, Reads.list g rfl rfl (by simpa using hr), fun z => by
        rcases List.mem_cons.mp z with z | z
        · exact n z.symm
        · exact hn z⟩
  | .tuple ds, _, _, h, r => by
    cases h with
    | tup hs _ ha =>
      cases r
      obtain ⟨_, its, rv, o, g, c, n, dt⟩ := (show ObjOk X.prog X.w H s.heap _ (.tup _) from I.hok _ _ hs)
      obtain ⟨as, hr, hn⟩ := DqAll.reads I ds _ its ha rv
      exact ⟨_, Reads.tuple g c dt (by simpa using hr), hn⟩
  | .dict [], _, _, h, r => by
    cases h with
    | @dct a hs _ =>
      cases r
      obtain ⟨_, ne, vs, rel, o, es, ep, g, ty, dt, hk⟩ := dk_of I.hok hs
      cases rel
      obtain ⟨_, prs, _⟩ := hk
      have z : es.toList = [] := by
        cases h0 : es.toList with
        | nil => rfl
        | cons a r =>
          rw [h0] at prs
          cases prs
      have z2 : es = #[] := Array.toList_inj.mp z
      subst z2
      exact ⟨_, Reads.dict (as := []) (bs := []) g ty.1 dt .nil .nil, fun q => by
        have q' : sysModules = a := by simpa using q
        exact absurd q'.symm (beq_eq_false_iff_ne.mp ne)⟩
  | .dict (_ :: _), _, _, h, _ => by cases h
theorem DqAll.reads (I : Inv X pins σ H s) : ∀ (ds : List PyData) (vs : List V) (us : List Value), DqAll q H vs ds → Vals vs us → ∃ as, ReadsAll s.heap us ds as ∧ sysModules ∉ as
  | [], _, _, h, r => by
    cases h
    cases r
    exact ⟨_, ReadsAll.nil, List.not_mem_nil⟩
  | d :: ds, _, _, h, r => by
    cases h with
    | cons h1 h2 =>
      cases r with
      | cons r1 r2 =>
        obtain ⟨as, a1, n1⟩ := Dq.reads I d _ _ h1 r1
        obtain ⟨bs, a2, n2⟩ := DqAll.reads I ds _ _ h2 r2
        exact ⟨_, ReadsAll.cons a1 a2, fun z => (List.mem_append.mp z).elim n1 n2⟩
end
/-- repr(v) -/
def rRepr : List V → Hp → VK → Prop := fun xs H Q => ∃ (p : Addr) (v : V) (d : PyData), xs = [v] ∧ Dq p H v d ∧ d.showable = true ∧ d.depth ≤ 60 ∧ d.shown.length ≤ 100000 ∧ Q (.str d.shown) H
theorem call_reprG (hg : X.A.guards = some []) (hu : X.A.units + 64 < cLine) : CallR X (.builtin "repr") rRepr := by
  intro pins s σ H xs us Q I r h
  obtain ⟨p, v, d, rfl, hd, sh, dp, sz, q⟩ := h
  obtain ⟨u, rfl, ru⟩ := vals1 r
  have sz' : d.shown.length ≤ sizeLine := by rw [sizeLine_eq]; omega
  have by_ref : ∀ a : Addr, u = .ref a → wpAny (model X.prog X.w) X.A (call (.builtin "repr") [u]) (EP X pins σ Q) X.xe s := by
    rintro a rfl
    obtain ⟨as, rd, nm⟩ := hd.reads I d v _ ru
    exact repr_of_reads' rd sh (fun _ => nm) hg (by omega) (fun _ _ z => z) (fun h' u tk hk => ⟨.str _, H, I.kept (t' := tk) hk, ⟨u, rfl⟩, q⟩) sz'
  cases hd with
  | non =>
    cases ru
    exact PySem.P.repr_of_none ⟨.str _, H, I.tok _, ⟨_, rfl⟩, q⟩
  | bl b =>
    cases ru
    refine PySem.P.repr_of_bool ⟨.str _, H, I.tok _, ⟨_, rfl⟩, ?_⟩
    cases b <;> exact q
  | int i =>
    obtain ⟨t, rfl⟩ := ru
    exact PySem.P.repr_of_int (of_decide_eq_true sh) ⟨.str _, H, I.tok _, ⟨_, rfl⟩, q⟩
  | str x =>
    obtain ⟨t, rfl⟩ := ru
    exact PySem.P.repr_of_str ⟨.str _, H, I.tok _, ⟨_, rfl⟩, q⟩ (hsz := sz')
  | lst _ _ _ _ => exact by_ref _ ru
  | tup _ _ _ => exact by_ref _ ru
  | dct _ _ => exact by_ref _ ru
/-- [a, b, ..], told that it is not the table of modules -/
def tLstN (t : TA) : TE := fun σ H Q => t σ H fun xs H1 => xs.length ≤ sizeLine ∧ ∀ p, H1 p = none → p ≠ sysModules → Q (.ref p) (upd H1 p (.lst xs))
theorem pe_lstN {es : List Expr} {t : TA} {pos : Pos} (h : PA X es t) : PE X (.List es pos) (tLstN t) := by
  refine ⟨fun pins s σ H Q I hq => wpAny_List_spliced (thn (h.run pos pins s σ H _ I hq) fun us s1 ⟨xs, H1, I1, r, z, q⟩ => ⟨r.length ▸ z, ?_⟩)⟩
  have big : sysModules < s1.heap.objs.size := I1.big
  refine ⟨.ref s1.heap.objs.size, _, I1.laid (t' := s1.toks) (fun b u e => Heap.get?_push_of_some _ e) (Nat.le_refl _) ?_, rfl, q _ (I1.hok.fresh (Nat.le_refl _)) (Nat.ne_of_gt big)⟩
  exact ⟨z, us, 0, r, Heap.get?_push_size _ rfl⟩
variable {C : Addr} {x : Str} {p pos : Pos} {e : Expr} {es : List Expr} {t : TA} {bmB : List Value} {B newId initId : String}
/-- C(), C an own exception class without __init__ -/
def tExc0 (C : Addr) : TE := fun _ H Q => ∀ a, H a = none → Q (.ref a) (upd H a (exo a C none))
theorem pe_excv0 (F : ExcBaseFacts B newId initId bmB) (q : PySem.W.excIn X.K C bmB newId = true) (gC : X.mg x = some (.ref C)) (kC : PySem.W.keepIn X.K (.ref C) = true) (hg : Gl X x) (hdb : (x == ("__debug__" : Str)) = false := by decide) :
    PE X (.Call (.Name x p) [] [] pos) (tExc0 C) := by
  refine ⟨fun pins s σ H Q I h => wpAny_Call_Name_kw (ld_glob I hg gC ?_ hdb)⟩
  exact PySem.W.callWith_K0 I.kIn kC (run_exc (us := []) F q I (by decide) h)
/-- C(e) of such a class -/
def tExc1 (C : Addr) (te : TE) : TE := fun σ H Q => te σ H fun _ H1 => ∀ a, H1 a = none → Q (.ref a) (upd H1 a (exo a C none))
theorem pe_excv1 {te : TE} (F : ExcBaseFacts B newId initId bmB) (q : PySem.W.excIn X.K C bmB newId = true) (gC : X.mg x = some (.ref C)) (kC : PySem.W.keepIn X.K (.ref C) = true) (hg : Gl X x) (he : PE X e te)
    (hs : starEach [e] X.env = (false, eval e X.env) :: starEach [] X.env := by rfl) (hdb : (x == ("__debug__" : Str)) = false := by decide) : PE X (.Call (.Name x p) [e] [] pos) (tExc1 C te) := by
  refine ⟨fun pins s σ H Q I h => wpAny_Call_Name_kw (ld_glob I hg gC ?_ hdb)⟩
  refine PySem.W.callWith_K (h₀ := X.base) I.ok.mod.kin kC ?_ hs (by rfl)
  rw [hs]
  show wpAny _ _ (spliced ((false, eval e X.env) :: backTo pos (starEach [] X.env))) _ _ s
  refine Calls.spliced_cons (thn (he.run pins s σ H _ I h) fun u s1 ⟨v, H1, I1, r1, q1⟩ => Calls.spliced_nil ⟨I1.kIn, ?_⟩)
  exact run_exc (us := [u]) F q I1 (by show 1 ≤ 1000; decide) q1
end
/-! ### __init__(self, f): self.f = f -/
def spInit1 (K : PySem.W.Frag) (f : Str) : Sp := fun vs H Q _ => ∃ (a C : Addr) (y : V), vs = [.ref a, y] ∧ OexC K C ∧ PySem.W.findIn K (.ref C) f = some none ∧ H a = some (exo a C none) ∧
  ∀ d, H d = none → d ≠ a → Q .non (upd (upd H d (exd d [(f, y)])) a (exo a C (some d)))
def spInit2 (K : PySem.W.Frag) (f g : Str) : Sp := fun vs H Q _ => ∃ (a C : Addr) (y z : V), vs = [.ref a, y, z] ∧ OexC K C ∧ PySem.W.findIn K (.ref C) f = some none ∧ PySem.W.findIn K (.ref C) g = some none ∧ H a = some (exo a C none) ∧
  ∀ d, H d = none → d ≠ a → Q .non (upd (upd (upd H d (exd d [(f, y)])) a (exo a C (some d))) d (exd d [(g, z), (f, y)]))
theorem vis_of {N Ps : List Str} {sc : Scope} (S : FnScope N Ps sc) {x : Str} (h : x ∈ Ps) : Vis sc x := by
  rcases S.par x h with e | e
  · exact Or.inl e
  · exact Or.inr (Or.inl e)
section
variable {P : Program} {w : World} {K : PySem.W.Frag} {mg : Str → Option Value} {base : Heap} {fI : Addr} {fd : FuncData} {qual f g : Str} {st : Stmt} {q1 q2 q3 q4 r1 r2 r3 r4 : Pos}
theorem ok_init1 (F : Fun K "__init__" qual st fI fd) (hb : defBody st = [.Assign [.Attribute (.Name "self" q1) f q2] (.Name f q3) q4]) (S : FnScope ["self", f] ["self", f] (defScope st))
    (hs : ∀ env : Env, swapsWith (.Name f q3) (some (.Attribute (.Name "self" q1) f q2)) q4.line env = pure false) (h1 : (f == ("__debug__" : Str)) = false) (h2 : (f == ("__classdict__" : Str)) = false) : FnOk P w K mg base CX0 1 fI fd ["self", f] (spInit1 K f) := by
  refine F.ok S (fun vs H Q E h => ?_) (fun cdv A outer s H vs Q E hr h => ?_)
  · obtain ⟨a, C, y, rfl, _⟩ := h
    rfl
  · obtain ⟨a, C, y, rfl, T, hf, ea, k⟩ := h
    rw [hb]
    refine ⟨_, pss_one (ps_ost (pe_var (i := 0) rfl (vis_of S (by simp))) (pe_var (i := 1) rfl (vis_of S (by simp)) h1 h2) (hs _)), ?_⟩
    exact ⟨_, rfl, _, rfl, a, C, rfl, T, hf, .inl ⟨ea, k⟩⟩
theorem ok_init2 (F : Fun K "__init__" qual st fI fd) (hb : defBody st = [.Assign [.Attribute (.Name "self" q1) f q2] (.Name f q3) q4, .Assign [.Attribute (.Name "self" r1) g r2] (.Name g r3) r4]) (S : FnScope ["self", f, g] ["self", f, g] (defScope st))
    (hs : ∀ env : Env, swapsWith (.Name f q3) (some (.Attribute (.Name "self" q1) f q2)) q4.line env = pure false) (hs2 : ∀ env : Env, swapsWith (.Name g r3) (some (.Attribute (.Name "self" r1) g r2)) r4.line env = pure false)
    (h1 : (f == ("__debug__" : Str)) = false) (h2 : (f == ("__classdict__" : Str)) = false) (h3 : (g == ("__debug__" : Str)) = false) (h4 : (g == ("__classdict__" : Str)) = false) : FnOk P w K mg base CX0 1 fI fd ["self", f, g] (spInit2 K f g) := by
  refine F.ok S (fun vs H Q E h => ?_) (fun cdv A outer s H vs Q E hr h => ?_)
  · obtain ⟨a, C, y, z, rfl, _⟩ := h
    rfl
  · obtain ⟨a, C, y, z, rfl, T, hf, hg, ea, k⟩ := h
    rw [hb]
    refine ⟨_, pss_cons (ps_ost (pe_var (i := 0) rfl (vis_of S (by simp))) (pe_var (i := 1) rfl (vis_of S (by simp)) h1 h2) (hs _))
      (pss_one (ps_ost (pe_var (i := 0) rfl (vis_of S (by simp))) (pe_var (i := 2) rfl (vis_of S (by simp)) h3 h4) (hs2 _))), ?_⟩
    refine ⟨_, rfl, _, rfl, a, C, rfl, T, hf, .inl ⟨ea, fun d hd ne => ?_⟩⟩
    exact ⟨_, rfl, _, rfl, a, C, rfl, T, hg, .inr ⟨d, [(f, y)], upd_same, by rw [upd_ne ne, upd_same], (by show 1 ≤ 900; decide), k d hd ne⟩⟩
/-- how a call with keywords binds: no defaults -/
theorem Fun.kbn {x : Str} {ps ks : List Str} {n : Nat} {gv : List Value → List Value → List Value} {gV : List V → List V → List V} (F : Fun K x qual st fI fd)
    (hrel : ∀ {vs : List V} {us : List Value} {zs : List V} {ws : List Value}, Vals vs us → Vals zs ws → Vals (gV vs zs) (gv us ws))
    (h : ∀ (kV doc pm : Value) (an : Option Addr) (cdv ct : Value) (us ws : List Value), us.length = n → ws.length = ks.length → bindArgs (PySem.W.fnOf x qual (defArgs st) (defBody st) (defScope st) .none kV doc pm an cdv ct) ⟨us, ks.zip ws⟩ = pure (ps.zip (gv us ws))) : KBn K fd ps n ks gv gV := by
  obtain ⟨oc, od, kV, doc, pm, an, cdv, ct, osl, rfl, lk, hcd⟩ := F.ex
  exact ⟨fun s us ws X l1 l2 => .of_eq (h kV doc pm an cdv ct us ws l1 l2), hrel⟩
end
end L2

set_option Elab.async false
set_option linter.all false
set_option maxRecDepth 100000
set_option maxHeartbeats 4000000
/-! What an expression leaves, by a property that lasts. -/
namespace EvP
open PySem L2
def Ex (H H' : Hp) : Prop := ∀ a o, H a = some o → H' a = some o
theorem Ex.refl (H : Hp) : Ex H H := fun _ _ h => h
theorem Ex.trans {H H1 H2 : Hp} (a : Ex H H1) (b : Ex H1 H2) : Ex H H2 := fun x o h => b x o (a x o h)
theorem Ex.new {H : Hp} {p : Addr} {o : HO} (h : H p = none) : Ex H (upd H p o) := fun a u e => by rw [upd_ne (ne_of_none e h)]; exact e
theorem Ex.back {H H' : Hp} (e : Ex H H') {p : Addr} (h : H' p = none) : H p = none := by
  cases h1 : H p with
  | none => rfl
  | some o =>
    rw [e p o h1] at h
    cases h
/-- a property of a value that lasts while objects are only added -/
structure PR where
  R : V → Hp → Prop
  mono : ∀ v H H', Ex H H' → R v H → R v H'
/-- te gives a value with R, and only adds -/
def Gives (te : TE) (σ : St) (H : Hp) (P : PR) : Prop := ∀ H1, Ex H H1 → ∀ Q : VK, (∀ v H2, Ex H1 H2 → P.R v H2 → Q v H2) → te σ H1 Q
inductive All2 (H : Hp) : List PR → List V → Prop
  | nil : All2 H [] []
  | cons {P : PR} {Ps : List PR} {v : V} {vs : List V} : P.R v H → All2 H Ps vs → All2 H (P :: Ps) (v :: vs)
theorem All2.ex {H H' : Hp} (e : Ex H H') : ∀ {Ps : List PR} {vs : List V}, All2 H Ps vs → All2 H' Ps vs
  | _, _, .nil => .nil
  | _, _, .cons h t => .cons (PR.mono _ _ _ _ e h) (All2.ex e t)
theorem All2.length {H : Hp} : ∀ {Ps : List PR} {vs : List V}, All2 H Ps vs → vs.length = Ps.length
  | _, _, .nil => rfl
  | _, _, .cons _ t => congrArg Nat.succ (All2.length t)
theorem All2.append {H : Hp} : ∀ {Ps Qs : List PR} {vs ws : List V}, All2 H Ps vs → All2 H Qs ws → All2 H (Ps ++ Qs) (vs ++ ws)
  | _, _, _, _, .nil, k => k
  | _, _, _, _, .cons h t, k => .cons h (All2.append t k)
theorem All2.get {H : Hp} : ∀ {Ps : List PR} {vs : List V} {i : Nat} {P : PR}, All2 H Ps vs → Ps[i]? = some P → ∃ v, vs[i]? = some v ∧ P.R v H
  | _, _, _, _, .nil, e => by simp at e
  | _, _, 0, _, .cons h _, e => by
    simp at e
    subst e
    exact ⟨_, rfl, h⟩
  | _, _, i + 1, _, .cons _ t, e => by
    obtain ⟨v, h1, h2⟩ := All2.get (i := i) t (by simpa using e)
    exact ⟨v, by simpa using h1, h2⟩
def GivesA (ta : TA) (σ : St) (H : Hp) (Ps : List PR) : Prop := ∀ H1, Ex H H1 → ∀ Q : List V → Hp → Prop, (∀ vs H2, Ex H1 H2 → All2 H2 Ps vs → Q vs H2) → ta σ H1 Q
/-- this very value -/
def is (v : V) : PR := ⟨fun u _ => u = v, fun _ _ _ _ h => h⟩
/-- a tuple of such -/
def tup (Ps : List PR) : PR := ⟨fun u H => ∃ a vs, u = .ref a ∧ H a = some (.tup vs) ∧ All2 H Ps vs, fun _ _ _ e ⟨a, vs, h1, h2, h3⟩ => ⟨a, vs, h1, e _ _ h2, h3.ex e⟩⟩
/-- a list of such, new over H0 -/
def lst (H0 : Hp) (Ps : List PR) : PR := ⟨fun u H => ∃ a vs, u = .ref a ∧ H a = some (.lst vs) ∧ H0 a = none ∧ All2 H Ps vs, fun _ _ _ e ⟨a, vs, h1, h2, h0, h3⟩ => ⟨a, vs, h1, e _ _ h2, h0, h3.ex e⟩⟩
/-- the same, and not the table of modules -/
def lstN (H0 : Hp) (Ps : List PR) : PR := ⟨fun u H => ∃ a vs, u = .ref a ∧ H a = some (.lst vs) ∧ H0 a = none ∧ a ≠ sysModules ∧ All2 H Ps vs, fun _ _ _ e ⟨a, vs, h1, h2, h0, hn, h3⟩ => ⟨a, vs, h1, e _ _ h2, h0, hn, h3.ex e⟩⟩
/-- an exception of the class at C with these fields -/
def err (C : Addr) (fs : List (Str × V)) : PR := ⟨fun u H => ∃ a, u = .ref a ∧ ErrAt H a C fs, fun _ _ _ e ⟨a, h1, h2⟩ => ⟨a, h1, h2.ex e⟩⟩
section
variable {K : PySem.W.Frag} {σ : St} {H : Hp} {te tf : TE} {ta tb : TA} {P : PR} {Ps Qs : List PR} {v : V} {i : Nat} {C fI : Addr} {f g : Str} {x y z : V}
theorem var (h : σ[i]? = some (some v)) : Gives (tVar i) σ H (is v) := fun H1 _ _ q => ⟨v, h, q _ _ (Ex.refl H1) rfl⟩
theorem cst : Gives (tC v) σ H (is v) := fun H1 _ _ q => q _ _ (Ex.refl H1) rfl
theorem nil : GivesA tNil σ H [] := fun H1 _ _ q => q _ _ (Ex.refl H1) .nil
theorem cons (h : Gives te σ H P) (t : GivesA ta σ H Ps) : GivesA (tCons te ta) σ H (P :: Ps) := fun H1 e Q q =>
  h H1 e _ fun v H2 e2 hv => t H2 (e.trans e2) _ fun vs H3 e3 hs => q _ _ (e2.trans e3) (.cons (P.mono _ _ _ e3 hv) hs)
theorem tuple (h : GivesA ta σ H Ps) (hl : Ps.length ≤ 1000) : Gives (tTup ta) σ H (tup Ps) := fun H1 e Q q =>
  h H1 e _ fun vs H2 e2 hs => ⟨by rw [hs.length, sizeLine_eq]; omega, fun p hp => q _ _ (e2.trans (Ex.new hp)) ⟨p, vs, rfl, upd_same, hs.ex (Ex.new hp)⟩⟩
theorem list {H0 : Hp} (e0 : Ex H0 H) (h : GivesA ta σ H Ps) (hl : Ps.length ≤ 1000) : Gives (tLst ta) σ H (lst H0 Ps) := fun H1 e Q q =>
  h H1 e _ fun vs H2 e2 hs => ⟨by rw [hs.length, sizeLine_eq]; omega, fun p hp => q _ _ (e2.trans (Ex.new hp)) ⟨p, vs, rfl, upd_same, ((e0.trans e).trans e2).back hp, hs.ex (Ex.new hp)⟩⟩
theorem listN {H0 : Hp} (e0 : Ex H0 H) (h : GivesA ta σ H Ps) (hl : Ps.length ≤ 1000) : Gives (tLstN ta) σ H (lstN H0 Ps) := fun H1 e Q q =>
  h H1 e _ fun vs H2 e2 hs => ⟨by rw [hs.length, sizeLine_eq]; omega, fun p hp hn => q _ _ (e2.trans (Ex.new hp)) ⟨p, vs, rfl, upd_same, ((e0.trans e).trans e2).back hp, hn, hs.ex (Ex.new hp)⟩⟩
/-- xs + ys, both new -/
theorem cat {H0 : Hp} (e0 : Ex H0 H) (h : Gives te σ H (lst H0 Ps)) (k : Gives tf σ H (lst H0 Qs)) (hl : Ps.length + Qs.length ≤ 1000) : Gives (tOp rCat te tf) σ H (lst H0 (Ps ++ Qs)) := fun H1 e Q q => by
  refine h H1 e _ fun v H2 e2 hv => k H2 (e.trans e2) _ fun u H3 e3 hu => ?_
  obtain ⟨a, vs, rfl, ha, na, va⟩ := (lst H0 Ps).mono _ _ _ e3 hv
  obtain ⟨b, ws, rfl, hb, nb, vb⟩ := hu
  refine ⟨a, b, vs, ws, rfl, rfl, ha, hb, by rw [va.length, vb.length, sizeLine_eq]; omega, fun p hp => ?_⟩
  exact q _ _ ((e2.trans e3).trans (Ex.new hp)) ⟨p, _, rfl, upd_same, (((e0.trans e).trans e2).trans e3).back hp, (va.append vb).ex (Ex.new hp)⟩
theorem varP (h : σ[i]? = some (some v)) (hp : P.R v H) : Gives (tVar i) σ H P := fun H1 e _ q => ⟨v, h, q _ _ (Ex.refl H1) (P.mono _ _ _ e hp)⟩
/-- C(e): the one field -/
theorem err1 {gV : List V → List V → List V} (T : OexC K C) (hf : PySem.W.findIn K (.ref C) f = some none) (h : Gives te σ H (is y)) (hg : ∀ a u, gV [.ref a, u] [] = [.ref a, u]) : Gives (tMkV C 1 0 (spInit1 K f) gV E0 (tCons te tNil) tNil) σ H (err C [(f, y)]) := fun H1 e Q q =>
  h H1 e _ fun v H2 e2 hv => ⟨rfl, rfl, fun a ha => by
    rw [hg, show v = y from hv]
    refine ⟨a, C, y, rfl, T, hf, upd_same, fun d hd ne => ⟨rfl, q _ _ (e2.trans ?_) ⟨a, rfl, .inr ⟨d, upd_same, by rw [upd_ne ne, upd_same]⟩⟩⟩⟩
    have hd' : H2 d = none := by rw [upd_ne ne] at hd; exact hd
    intro b o z
    rw [upd_ne (ne_of_none z ha), upd_ne (ne_of_none z hd'), upd_ne (ne_of_none z ha)]
    exact z⟩
/-- C(f = e) -/
theorem err1K {gV : List V → List V → List V} (T : OexC K C) (hf : PySem.W.findIn K (.ref C) f = some none) (h : Gives te σ H (is y)) (hg : ∀ a u, gV [.ref a] [u] = [.ref a, u]) : Gives (tMkV C 0 1 (spInit1 K f) gV E0 tNil (tCons te tNil)) σ H (err C [(f, y)]) := fun H1 e Q q =>
  h H1 e _ fun v H2 e2 hv => ⟨rfl, rfl, fun a ha => by
    rw [hg, show v = y from hv]
    refine ⟨a, C, y, rfl, T, hf, upd_same, fun d hd ne => ⟨rfl, q _ _ (e2.trans ?_) ⟨a, rfl, .inr ⟨d, upd_same, by rw [upd_ne ne, upd_same]⟩⟩⟩⟩
    have hd' : H2 d = none := by rw [upd_ne ne] at hd; exact hd
    intro b o z
    rw [upd_ne (ne_of_none z ha), upd_ne (ne_of_none z hd'), upd_ne (ne_of_none z ha)]
    exact z⟩
theorem init2_end {H1 H2 : Hp} {Q : VK} {a d : Addr} (e : Ex H1 H2) (ha : H2 a = none) (hd : upd H2 a (exo a C none) d = none) (ne : d ≠ a) (q : ∀ v H3, Ex H1 H3 → (err C [(g, z), (f, y)]).R v H3 → Q v H3) :
    Q (.ref a) (upd (upd (upd (upd H2 a (exo a C none)) d (exd d [(f, y)])) a (exo a C (some d))) d (exd d [(g, z), (f, y)])) := by
  have hd' : H2 d = none := by rw [upd_ne ne] at hd; exact hd
  refine q _ _ (e.trans fun b o w => ?_) ⟨a, rfl, .inr ⟨d, by rw [upd_ne ne.symm, upd_same], upd_same⟩⟩
  rw [upd_ne (ne_of_none w hd'), upd_ne (ne_of_none w ha), upd_ne (ne_of_none w hd'), upd_ne (ne_of_none w ha)]
  exact w
/-- C(f = e, g = e') in the written order of the two -/
theorem err2K {gV : List V → List V → List V} (T : OexC K C) (hf : PySem.W.findIn K (.ref C) f = some none) (hg0 : PySem.W.findIn K (.ref C) g = some none) (h : Gives te σ H (is z)) (k : Gives tf σ H (is y))
    (hg : ∀ a u w, gV [.ref a] [u, w] = [.ref a, w, u]) : Gives (tMkV C 0 2 (spInit2 K f g) gV E0 tNil (tCons te (tCons tf tNil))) σ H (err C [(g, z), (f, y)]) := fun H1 e Q q =>
  h H1 e _ fun v H2 e2 hv => k H2 (e.trans e2) _ fun u H3 e3 hu => ⟨rfl, rfl, fun a ha => by
    rw [hg, show v = z from hv, show u = y from hu]
    exact ⟨a, C, y, z, rfl, T, hf, hg0, upd_same, fun d hd ne => ⟨rfl, init2_end (e2.trans e3) ha hd ne q⟩⟩⟩
/-- C(e, g = e') -/
theorem err2P {gV : List V → List V → List V} (T : OexC K C) (hf : PySem.W.findIn K (.ref C) f = some none) (hg0 : PySem.W.findIn K (.ref C) g = some none) (h : Gives te σ H (is y)) (k : Gives tf σ H (is z))
    (hg : ∀ a u w, gV [.ref a, u] [w] = [.ref a, u, w]) : Gives (tMkV C 1 1 (spInit2 K f g) gV E0 (tCons te tNil) (tCons tf tNil)) σ H (err C [(g, z), (f, y)]) := fun H1 e Q q =>
  h H1 e _ fun v H2 e2 hv => k H2 (e.trans e2) _ fun u H3 e3 hu => ⟨rfl, rfl, fun a ha => by
    rw [hg, show v = y from hv, show u = z from hu]
    exact ⟨a, C, y, z, rfl, T, hf, hg0, upd_same, fun d hd ne => ⟨rfl, init2_end (e2.trans e3) ha hd ne q⟩⟩⟩
theorem err0 : Gives (tExc0 C) σ H (err C []) := fun H1 _ Q q a ha => q _ _ (Ex.new ha) ⟨a, rfl, .inl ⟨rfl, upd_same⟩⟩
variable {u : TS} {D : Ends}
theorem st_set (h : Gives te σ H P) (k : ∀ v H1, Ex H H1 → P.R v H1 → u D (σ.set i (some v)) H1) : tSeq (tAsg te (gName i)) u D σ H := h H (Ex.refl H) _ k
theorem go {Q : VK} (h : Gives te σ H P) (k : ∀ v H1, Ex H H1 → P.R v H1 → Q v H1) : te σ H Q := h H (Ex.refl H) _ k
theorem st_ret (h : Gives te σ H P) (k : ∀ v H1, Ex H H1 → P.R v H1 → D.rt v H1) : tRet te D σ H := h H (Ex.refl H) _ k
end
end EvP

set_option Elab.async false
set_option linter.all false
set_option maxRecDepth 100000
set_option maxHeartbeats 4000000
/-! The text of a number below 10 ^ 64. -/
namespace Fk
open PySem PySem.Spec PyProof.Rows L2
abbrev sNum : Stmt := top 25
/-- the text of a number -/
def numT (n : Int) : Str := Str.ofString (toString n)
def spNum : Sp := fun vs H Q _ => ∃ n : Int, vs = [.int n] ∧ 0 ≤ n ∧ n < 10 ^ 64 ∧ ∀ H', EvP.Ex H H' → Q (.str (numT n)) H'
theorem scNum : FnScope ["number", "parts", "rest"] ["number"] (defScope sNum) := ⟨rfl, rfl, rfl, by decide +kernel, rfl, by decide +kernel, by decide +kernel⟩
theorem log_small {n : Int} (h0 : 0 ≤ n) (h1 : n < 10 ^ 64) : n.natAbs.log2 < 1920 := by
  by_cases h : n.natAbs = 0
  · rw [h]
    decide
  · refine (Nat.log2_lt h).mpr ?_
    have : n.natAbs < 10 ^ 64 := by omega
    exact Nat.lt_of_lt_of_le this (by decide)
theorem pss_dead {X : Cx} {st : List Stmt} : PSs X st (fun _ _ _ => False) := ⟨fun _ _ _ _ _ _ h => h.elim⟩
section
variable {P : Program} {w : World} {K : PySem.W.Frag} {mg : Str → Option Value} {base : Heap} {f : Addr} {fd : FuncData}
theorem ok_num (F : Fun K "number_text" "number_text" sNum f fd) (T : Blt mg) : FnOk P w K mg base CX0 1 f fd ["number"] spNum := by
  have nd := scNum.nd
  refine F.ok scNum (fun vs H Q E h => ?_) (fun cdv A outer s H vs Q E hr h => ?_)
  · obtain ⟨n, rfl, _⟩ := h
    rfl
  · obtain ⟨n, rfl, h0, h1, q⟩ := h
    refine ⟨_, pss_cons (ps_set (i := 1) nd rfl (Or.inl rfl) (pe_lst pa_nil)) (pss_cons (ps_while PassesOwn.never (pt_cmpR op_ge (pv 0) (pe_op op_pow pe_int pe_int) (nomark _)) pss_dead)
      (pss_one (ps_ret (pe_join pe_str (pe_lst (pa_cons (pe_callTy call_str_int (by rfl) T.str (by decide +kernel) (pa_cons (pv 0) pa_nil)) (StX.pa_star (pe_revL (pv 1)) pa_nil))))))), ?_⟩
    refine ⟨by show 0 ≤ sizeLine; decide, fun p hp => ?_⟩
    have e1 := EvP.Ex.new (o := .lst []) hp
    refine ⟨fun m s h => s = [some (.int n), some (.ref p), none] ∧ h = upd H p (.lst []), ⟨0, rfl, rfl⟩, fun m σ H' h => ?_⟩
    obtain ⟨rfl, rfl⟩ := h
    refine ⟨_, rfl, 10, 64, rfl, rfl, ⟨by decide, by decide, by decide⟩, _, _, rfl, rfl, _, rfl, ?_⟩
    have hz : decide ((10 : Int) ^ (64 : Int).toNat ≤ n) = false := decide_eq_false (by
      show ¬ (10 : Int) ^ 64 ≤ n
      omega)
    rw [hz]
    refine ⟨⟨_, rfl⟩, _, rfl, n, rfl, ?_, _, rfl, p, [], rfl, SqL.of upd_same, fun r hr' => ?_⟩
    · exact log_small h0 h1
    · refine ⟨_, _, rfl, .inr (SqL.of upd_same), by show 1 ≤ sizeLine; decide, fun t ht => ?_⟩
      have e2 := EvP.Ex.new (o := .lst []) hr'
      refine ⟨_, t, [numT n], rfl, rfl, .inl (SqL.of upd_same), ?_, q _ ((e1.trans e2).trans (EvP.Ex.new ht))⟩
      have := toString_length_le h0 (by decide) h1
      show (Str.ofString (toString n)).length + 0 + (1 : Nat) * 0 ≤ 16777216
      omega
end
end Fk

set_option Elab.async false
set_option linter.all false
set_option maxRecDepth 100000
set_option maxHeartbeats 4000000
/-! Comprehensions that only add objects. -/
namespace Cm
open PySem PySem.Spec PyProof.Rows L2 EvP
/-- an iterable whose items are xs, while objects are only added -/
def Walks (wi : TI) (σ : L2.St) (H : Hp) (xs : List V) : Prop := ∀ H1, Ex H H1 → ∀ R : It → Hp → Prop, (∀ J H2, Ex H1 H2 → (∃ G : Hp → Prop, Walk J xs.length G (YAt xs) ∧ ∀ H3, Ex H2 H3 → G H3) → R J H2) → wi σ H1 R
/-- a list, a tuple of just these -/
def lstV (xs : List V) : PR := ⟨fun v H => ∃ a, v = .ref a ∧ H a = some (.lst xs), fun _ _ _ e ⟨a, h1, h2⟩ => ⟨a, h1, e _ _ h2⟩⟩
def tupV (xs : List V) : PR := ⟨fun v H => ∃ a, v = .ref a ∧ H a = some (.tup xs), fun _ _ _ e ⟨a, h1, h2⟩ => ⟨a, h1, e _ _ h2⟩⟩
section
variable {K : PySem.W.Frag} {σ : L2.St} {H : Hp} {tl te : TE} {tt : TT} {xs : List V} {vs : List Nat} {i : Nat} {wi : TI}
theorem walks_list (h : Gives tl σ H (lstV xs)) : Walks (iList K tl) σ H xs := fun H1 e R r =>
  h H1 e _ fun v H2 e2 ⟨a, ev, ha⟩ => ⟨a, ev, ⟨xs, SqL.of ha⟩, r _ _ e2 ⟨_, walk_list, fun H3 e3 => SqL.of (e3 _ _ ha)⟩⟩
theorem walks_tup (h : Gives tl σ H (tupV xs)) : Walks (iTup K tl) σ H xs := fun H1 e R r =>
  h H1 e _ fun v H2 e2 ⟨a, ev, ha⟩ => ⟨a, ev, ⟨xs, SqT.of ha⟩, r _ _ e2 ⟨_, walk_tup, fun H3 e3 => SqT.of (e3 _ _ ha)⟩⟩
theorem all2_snoc {H : Hp} : ∀ {Ps : List PR} {vs : List V} {P : PR} {v : V}, All2 H Ps vs → P.R v H → All2 H (Ps ++ [P]) (vs ++ [v])
  | _, _, _, _, .nil, h => .cons h .nil
  | _, _, _, _, .cons a t, h => .cons a (all2_snoc t h)
/-- what a list that grows does not touch -/
def Stays (P : PR) : Prop := ∀ v H D ys zs, P.R v H → H D = some (.lst ys) → P.R v (upd H D (.lst zs))
theorem all2_stays {H : Hp} {D : Addr} {ys zs : List V} (hD : H D = some (.lst ys)) : ∀ {Ps : List PR} {vs : List V}, (∀ P ∈ Ps, Stays P) → All2 H Ps vs → All2 (upd H D (.lst zs)) Ps vs
  | _, _, _, .nil => .nil
  | _, _, s, .cons a t => .cons (s _ (.head _) _ _ _ _ _ a hD) (all2_stays hD (fun P hP => s P (.tail _ hP)) t)
theorem stays_is (v : V) : Stays (is v) := fun _ _ _ _ _ h _ => h
theorem stays_tupV (ys : List V) : Stays (tupV ys) := fun v H D l1 l2 ⟨a, h1, h2⟩ hD => ⟨a, h1, by
  rw [upd_ne (ne_of h2 hD (fun z => nomatch z))]
  exact h2⟩
/-- [e for x in xs if t] -/
theorem comp (keep : V → Bool) (φ : V → PR) (hw : Walks wi σ H xs) (hz : xs.length ≤ 1000) (wp : ∀ x, wipe ((wipe σ vs).set i (some x)) vs = wipe σ vs)
    (ht : ∀ x ∈ xs, ∀ H1, Ex H H1 → ∀ Q : Bool → Hp → Prop, Q (keep x) H1 → tt ((wipe σ vs).set i (some x)) H1 Q) (he : ∀ x ∈ xs, keep x = true → Gives te ((wipe σ vs).set i (some x)) H (φ x)) (st : ∀ x ∈ xs, Stays (φ x)) :
    Gives (tLc wi (gName i) tt te vs) σ H (lst H ((xs.filter keep).map φ)) := fun H1 e1 Q q => by
  refine hw H1 e1 _ fun J H2 e2 ⟨G, w, g⟩ D hD => ?_
  have mem : ∀ (j : Nat) (P : PR), P ∈ ((xs.take j).filter keep).map φ → Stays P := fun j P hP => by
    obtain ⟨x, hx, rfl⟩ := List.mem_map.mp hP
    exact st x (List.mem_of_mem_take (List.mem_filter.mp hx).1)
  have len : ∀ j, (((xs.take j).filter keep).map φ).length ≤ 1000 := fun j => by
    rw [List.length_map]
    exact Nat.le_trans (List.length_filter_le _ _) (by rw [List.length_take]; omega)
  refine lc_it w (fun j H' => ∃ acc, H' D = some (.lst acc) ∧ Ex H2 H' ∧ All2 H' (((xs.take j).filter keep).map φ) acc) ⟨[], upd_same, Ex.new hD, .nil⟩ (fun j H' _ ⟨_, _, e3, _⟩ => g _ e3) (fun j x H' H'' hj ⟨acc, a1, a2, a3⟩ y => ?_) (fun H' ⟨acc, a1, a2, a3⟩ => ?_)
  · obtain ⟨rfl, hx⟩ := y
    have mx := List.mem_of_getElem? hx
    have eH := (e1.trans e2).trans a2
    have tk : xs.take (j + 1) = xs.take j ++ [x] := by
      rw [List.take_add_one, hx]
      rfl
    refine ⟨wp x, ht x mx _ eH _ ?_⟩
    cases kx : keep x with
    | false =>
      refine ⟨acc, a1, a2, ?_⟩
      rw [tk, List.filter_append, List.filter_cons, kx]
      simpa using a3
    | true =>
      refine he x mx kx _ eH _ fun v H4 e4 hv => ⟨acc, e4 _ _ a1, ?_, acc ++ [v], upd_same, fun b o hb => ?_, ?_⟩
      · have := a3.length
        have := len j
        rw [sizeLine_eq]
        omega
      · rw [upd_ne (ne_of_none hb hD)]
        exact e4 _ _ (a2 _ _ hb)
      · rw [tk, List.filter_append, List.filter_cons, kx, List.map_append]
        refine all2_stays (e4 _ _ a1) (fun P hP => ?_) (all2_snoc (a3.ex e4) hv)
        rcases List.mem_append.mp hP with hP | hP
        · exact mem j P hP
        · rw [List.mem_singleton.mp hP]
          exact st x mx
  · rw [List.take_length] at a3
    exact q _ _ (e2.trans a2) ⟨D, acc, rfl, a1, (e1.trans e2).back hD, a3⟩
theorem all2_is : ∀ {H : Hp} {ws vs : List V}, All2 H (ws.map is) vs → vs = ws
  | _, [], _, .nil => rfl
  | _, w :: ws, _, .cons a t => by rw [show _ = w from a, all2_is t]
/-- .. of values that are told -/
theorem comp_is (keep : V → Bool) (f : V → V) (hw : Walks wi σ H xs) (hz : xs.length ≤ 1000) (wp : ∀ x, wipe ((wipe σ vs).set i (some x)) vs = wipe σ vs)
    (ht : ∀ x ∈ xs, ∀ H1, Ex H H1 → ∀ Q : Bool → Hp → Prop, Q (keep x) H1 → tt ((wipe σ vs).set i (some x)) H1 Q) (he : ∀ x ∈ xs, keep x = true → Gives te ((wipe σ vs).set i (some x)) H (is (f x))) :
    Gives (tLc wi (gName i) tt te vs) σ H (lstV ((xs.filter keep).map f)) := fun H1 e1 Q q =>
  comp keep (fun x => is (f x)) hw hz wp ht he (fun _ _ => stays_is _) H1 e1 Q fun v H2 e2 ⟨a, ws, ev, ha, _, hs⟩ => q v H2 e2 ⟨a, ev, by
    have h2 : All2 H2 ((List.map f (xs.filter keep)).map is) ws := by
      rw [List.map_map]
      exact hs
    rw [← all2_is h2]
    exact ha⟩
/-- [e for k in d], d locked meanwhile -/
theorem comp_keys {m : Nat} {d : Addr} {kvs : List (Key × V)} (f : Key → V) (hd : σ[m]? = some (some (.ref d))) (at_ : H d = some (.dK kvs)) (hz : kvs.length ≤ 1000) (wp : ∀ x, wipe ((wipe σ vs).set i (some x)) vs = wipe σ vs)
    (he : ∀ x ∈ kvs, ∀ H1 (Q : VK), Q (f x.1) H1 → te ((wipe σ vs).set i (some (kV x.1))) H1 Q) :
    Gives (tLockE (tLc (iKeys (tVar m)) (gName i) tYes te vs)) σ H (lstV (kvs.map fun x => f x.1)) := fun H1 e1 Q q => by
  have h1 := e1 _ _ at_
  refine ⟨d, _, h1, True.intro, fun od => ⟨_, hd, d, od, rfl, .inl ⟨kvs, upd_same, fun D hD => ?_⟩⟩⟩
  have nd : d ≠ D := fun z => by
    rw [← z, upd_same] at hD
    cases hD
  have nD : H1 D = none := by rw [upd_ne nd.symm] at hD; exact hD
  refine lc_it walk_keys (fun j H' => H' = upd (upd H1 d (.frz od (.dK kvs))) D (.lst ((kvs.take j).map fun x => f x.1))) (by rw [List.take_zero]; rfl) (fun j H' _ e => by rw [e, upd_ne nd, upd_same]) (fun j x H' H'' hj e y => ?_) (fun H' e => ?_)
  · obtain ⟨rfl, k, v, hk, rfl⟩ := y
    refine ⟨wp _, he (k, v) (List.mem_of_getElem? hk) _ _ ⟨_, by rw [e]; exact upd_same, ?_, ?_⟩⟩
    · rw [List.length_map, List.length_take, sizeLine_eq]
      omega
    · rw [e, List.take_add_one, hk, List.map_append]
      funext b
      by_cases hb : b = D
      · rw [hb, upd_same, upd_same]
        rfl
      · rw [upd_ne hb, upd_ne hb, upd_ne hb]
  · refine ⟨by rw [e, upd_ne nd, upd_same], q _ _ (fun b o hb => ?_) ⟨D, rfl, ?_⟩⟩
    · rw [e]
      by_cases h : b = d
      · rw [h, upd_same, ← h1, ← h]
        exact hb
      · rw [upd_ne h, upd_ne (ne_of_none hb nD), upd_ne h]
        exact hb
    · rw [upd_ne nd.symm, e, upd_same, List.take_length]
end
end Cm

set_option Elab.async false
set_option linter.all false
set_option maxRecDepth 100000
set_option maxHeartbeats 1000000
/-! {k: v for .. in .. for .. in ..}, two clauses, the keys tuples. -/
namespace Dc2
open PySem PySem.Spec PyProof.Rows L2
section
variable {prog : Program} {w : World} {A : Around} {R : Result → Shared → Prop} {s : Shared} {kx vx t0 i0 t1 i1 : Expr} {f0 f1 : List Expr} {sc : Scope} {pos : Pos} {it : Value} {D : Addr} {env : Env}
abbrev Ex2 (kx vx t0 i0 t1 i1 : Expr) (f0 f1 : List Expr) (sc : Scope) (pos : Pos) : Expr := .DictComp kx vx [⟨t0, i0, f0, 0⟩, ⟨t1, i1, f1, 0⟩] sc pos
abbrev tests (prog : Program) (w : World) (A : Around) (env : Env) (fs : List Expr) (Q : Bool → Shared → Prop) (E : Value → Shared → Prop) (s : Shared) : Prop :=
  wpAny (model prog w) A (forIn fs true fun c r => if r = true then do let ok ← isTrue c env (eval c env); pure (ForInStep.yield ok) else pure (ForInStep.yield r)) Q E s
theorem turn_out (kx vx t0 i0 t1 i1 : Expr) (f0 f1 : List Expr) (sc : Scope) (pos : Pos) (it acc : Value) (env : Env) : compTurn (Ex2 kx vx t0 i0 t1 i1 f0 f1 sc pos) 0 it acc env = (do
    standAt i0.pos
    match ← pyNext it with
    | none => pure (.done .next)
    | some v =>
      letOwnedTupleGo t0 it v; assign t0 env v; let mut ok := true
      for c in f0 do
        if ok then ok ← isTrue c env (eval c env)
      if ok then
        let x ← eval i1 env; standAt i1.pos; let x ← foldedSetIterable i1 env x
        let _ ← runOwn (.compStart (Ex2 kx vx t0 i0 t1 i1 f0 f1 sc pos) 1 (← holding [x] (pyIter x)) acc env) env
      again (.compLoop (Ex2 kx vx t0 i0 t1 i1 f0 f1 sc pos) 0 it acc env)) := by rfl
theorem turn_in (kx vx t0 i0 t1 i1 : Expr) (f0 f1 : List Expr) (sc : Scope) (pos : Pos) (it : Value) (D : Addr) (env : Env) : compTurn (Ex2 kx vx t0 i0 t1 i1 f0 f1 sc pos) 1 it (.ref D) env = (do
    standAt i1.pos
    match ← pyNext it with
    | none => pure (.done .next)
    | some v =>
      letOwnedTupleGo t1 it v; assign t1 env v; let mut ok := true
      for c in f1 do
        if ok then ok ← isTrue c env (eval c env)
      if ok then
        (do
          let kv ← eval kx env; let vv ← holding [kv] (eval vx env)
          standAt { kx.pos with endLine := vx.pos.endLine, endCol := vx.pos.endCol }; holding [kv, vv] (dictSet D kv vv))
      again (.compLoop (Ex2 kx vx t0 i0 t1 i1 f0 f1 sc pos) 1 it (.ref D) env)) := by rfl
abbrev nt (prog : Program) (w : World) (A : Around) (env : Env) (R : Result → Shared → Prop) : Value → Shared → Prop := notedBy (model prog w) A env fun e s' => R (.error e) s'
theorem loop_out (hs : ∀ x, foldedSetIterable i1 env x = pure x) (I : Nat → Shared → Prop)
    (turn : ∀ n s, I n s → wpAny (model prog w) A (pyNext it) (fun r s1 => match r with
      | none => R (.ok .next) s1
      | some v => wpAny (model prog w) A (letOwnedTupleGo t0 it v) (fun _ s2 => wpAny (model prog w) A (assign t0 env v) (fun _ s3 => tests prog w A env f0 (fun ok s4 =>
            if ok = true then wpAny (model prog w) A (eval i1 env) (fun x s5 => wpAny (model prog w) A (pyIter x) (fun j s6 =>
              codeAny (model prog w) A (.compStart (Ex2 kx vx t0 i0 t1 i1 f0 f1 sc pos) 1 j (.ref D) env) (fun r s' => match r with
                | .ok _ => ∃ m, m < n ∧ I m s'
                | .error _ => False) s6) (nt prog w A env R) s5) (nt prog w A env R) s4
            else ∃ m, m < n ∧ I m s4) (nt prog w A env R) s3) (nt prog w A env R) s2) (nt prog w A env R) s1) (nt prog w A env R) s) (n : Nat) (h : I n s) :
    codeAny (model prog w) A (.compLoop (Ex2 kx vx t0 i0 t1 i1 f0 f1 sc pos) 0 it (.ref D) env) R s := by
  refine codeAny_loop rfl I (fun n s hI => ?_) n h
  show wpAny _ A ((compTurn (Ex2 kx vx t0 i0 t1 i1 f0 f1 sc pos) 0 it (.ref D) env).onRaise fun x => do noteFrame x env; theTreesLotGoes x) _ _ s
  refine wpAny_noted ?_
  rw [turn_out]
  refine wpAny_bind (wpAny_standAt (wpAny_bind (wpAny_mono (turn n s hI) (fun r s1 h1 => ?_) fun _ _ z => z)))
  cases r with
  | none => exact wpAny_pure h1
  | some v =>
    refine wpAny_bind (wpAny_mono h1 (fun _ s2 h2 => wpAny_bind (wpAny_mono h2 (fun _ s3 h3 => wpAny_bind (wpAny_mono h3 (fun ok s4 h4 => ?_) fun _ _ z => z)) fun _ _ z => z)) fun _ _ z => z)
    cases ok with
    | false => exact wpAny_pure ⟨rfl, h4⟩
    | true =>
      refine wpAny_bind (wpAny_mono h4 (fun x s5 h5 => wpAny_bind (wpAny_standAt (wpAny_bind (wpAny_of_eq (hs x) (wpAny_bind (wpAny_holding (wpAny_mono h5 (fun j s6 h6 => wpAny_bind (wpAny_runOwn ?_)) fun _ _ z => z))))))) fun _ _ z => z)
      rw [Around.mark_none]
      refine codeAny_mono h6 fun r s' hr => ?_
      cases r with
      | ok f => first | exact wpAny_pure ⟨rfl, hr⟩ | exact wpAny_bind (wpAny_pure (wpAny_pure ⟨rfl, hr⟩))
      | error e => exact hr.elim
theorem loop_in (I : Nat → Shared → Prop)
    (turn : ∀ n s, I n s → wpAny (model prog w) A (pyNext it) (fun r s1 => match r with
      | none => R (.ok .next) s1
      | some v => wpAny (model prog w) A (letOwnedTupleGo t1 it v) (fun _ s2 => wpAny (model prog w) A (assign t1 env v) (fun _ s3 => tests prog w A env f1 (fun ok s4 =>
            if ok = true then wpAny (model prog w) A (eval kx env) (fun kv s5 => wpAny (model prog w) A (eval vx env) (fun vv s6 => wpAny (model prog w) A (dictSet D kv vv) (fun _ s7 => ∃ m, m < n ∧ I m s7) (nt prog w A env R) s6) (nt prog w A env R) s5) (nt prog w A env R) s4
            else ∃ m, m < n ∧ I m s4) (nt prog w A env R) s3) (nt prog w A env R) s2) (nt prog w A env R) s1) (nt prog w A env R) s) (n : Nat) (h : I n s) :
    codeAny (model prog w) A (.compLoop (Ex2 kx vx t0 i0 t1 i1 f0 f1 sc pos) 1 it (.ref D) env) R s := by
  refine codeAny_loop rfl I (fun n s hI => ?_) n h
  show wpAny _ A ((compTurn (Ex2 kx vx t0 i0 t1 i1 f0 f1 sc pos) 1 it (.ref D) env).onRaise fun x => do noteFrame x env; theTreesLotGoes x) _ _ s
  refine wpAny_noted ?_
  rw [turn_in]
  refine wpAny_bind (wpAny_standAt (wpAny_bind (wpAny_mono (turn n s hI) (fun r s1 h1 => ?_) fun _ _ z => z)))
  cases r with
  | none => exact wpAny_pure h1
  | some v =>
    refine wpAny_bind (wpAny_mono h1 (fun _ s2 h2 => wpAny_bind (wpAny_mono h2 (fun _ s3 h3 => wpAny_bind (wpAny_mono h3 (fun ok s4 h4 => ?_) fun _ _ z => z)) fun _ _ z => z)) fun _ _ z => z)
    cases ok with
    | false => exact wpAny_pure ⟨rfl, h4⟩
    | true =>
      exact wpAny_bind (wpAny_bind (wpAny_mono h4 (fun kv s5 h5 => wpAny_bind (wpAny_holding (wpAny_mono h5 (fun vv s6 h6 => wpAny_bind (wpAny_standAt (wpAny_holding (wpAny_mono h6 (fun _ s7 h7 => wpAny_pure ⟨rfl, h7⟩) fun _ _ z => z)))) fun _ _ z => z))) fun _ _ z => z))
theorem start_in (h0 : codeAny (model prog w) A (.compLoop (Ex2 kx vx t0 i0 t1 i1 f0 f1 sc pos) 1 it (.ref D) env) R s)
    (h : wpAny (model prog w) A (pyIter it) (fun j s' => codeAny (model prog w) A (.compLoop (Ex2 kx vx t0 i0 t1 i1 f0 f1 sc pos) 1 j (.ref D) env) R s') (nt prog w A env R) s) :
    codeAny (model prog w) A (.compStart (Ex2 kx vx t0 i0 t1 i1 f0 f1 sc pos) 1 it (.ref D) env) R s := by
  refine codeAny_of_tree ?_
  show wpAny _ _ ((compStart (Ex2 kx vx t0 i0 t1 i1 f0 f1 sc pos) 1 it (.ref D) env).onRaise fun x => do noteFrame x env; standAt theWindowsPlace) _ _ s
  refine wpAny_notedAt ?_
  unfold compStart
  show wpAny _ _ (ask >>= _) _ _ s
  refine wpAny_bind (wpAny_askSetting (wpAny_ite ?_))
  split
  · first | exact wpAny_bind (wpAny_pure (wpAny_pure (And.intro rfl h0))) | exact wpAny_pure (And.intro rfl h0)
  · first
      | exact wpAny_bind (wpAny_rule (wpAny_bind (wpAny_standAt (wpAny_bind (wpAny_mono h (fun j s' y => wpAny_pure (And.intro rfl y)) fun _ _ x => x)))))
      | (refine wpAny_bind (wpAny_rule ?_); show wpAny _ _ (standAt i1.pos >>= _) _ _ s; exact wpAny_bind (wpAny_standAt (wpAny_bind (wpAny_mono h (fun j s' y => wpAny_pure (And.intro rfl y)) fun _ _ x => x))))
end
/-- d[k] = v by a comprehension, k a tuple -/
theorem put_tup {X : Cx} {pins : List (Addr × Obj)} {σ : L2.St} {H : Hp} {s : Shared} {E : Value → Shared → Prop} {D b : Addr} {kvs : List (List Key × V)} {k : List Key} {v : V} {u r : Value} {Q : Unit → Shared → Prop} (hu : X.A.units + 1 < cLine) (I : Inv X pins σ H s) (hD : H D = some (.dT kvs)) (hz : kvs.length < sizeLine)
    (eb : H b = some (.tup (k.map kV))) (ry : RelV (.ref b) u) (rv : RelV v r) (h : ∀ s', Inv X pins σ (upd H D (.dT (putK kvs k v))) s' → Q () s') : wpAny (model X.prog X.w) X.A (dictSet D u r) Q E s := by
  cases ry
  obtain ⟨z, hd, xs, rel, dd⟩ := dt_of I.hok hD
  have l1 : xs.length ≤ sizeLine := by rw [← Paired.length rel]; exact z
  have l2 : (putK kvs k v).length ≤ sizeLine := by
    have := length_putK kvs k v
    omega
  refine wpAny_dictSet_heap (hsz := l1) ?_ (key_of I.hok eb) dd fun h' dd' hs => h _ ?_
  · show X.A.units < cLine
    omega
  · obtain ⟨q, es, ep, hq, h2, h3, h4, _, h5⟩ := dd'
    refine d_write I (by rw [hD]; exact True.intro) hs ⟨q, hq⟩ ⟨l2, hd, _, (rel.put k eb rv).keeps fun c ys ec => ?_, q, es, ep, hq, h2, h3, h4, h5⟩
    rw [upd_ne (ne_of ec hD (fun z => nomatch z))]
    exact ec
/-- {k: v for tg in iter if .. for tg1 in iter1 if ..}, the keys tuples: D the new dict -/
def tDc2 (wi : TI) (g : TG) (tt : TT) (wi1 : TI) (g1 : TG) (tt1 : TT) (tk tv : TE) (vs vs1 : List Nat) : TE := fun σ H Q => wi σ H fun J H1 => ∀ D, H1 D = none → ∃ W : Nat → Nat → Hp → Prop, (∃ m, W 0 m (upd H1 D (.dT []))) ∧ ∀ i m H, W i m H →
  (J.stop i H ∧ Q (.ref D) H) ∨ (J.go i H ∧ ∃ Nx : Hp → Prop, (∀ H', Nx H' → ∃ m', m' < m ∧ W (i + 1) m' H') ∧ ∀ x H', J.yld i H x H' → g x (wipe σ vs) H' fun σ2 H2 => wipe σ2 vs = wipe σ vs ∧ tt σ2 H2 fun b H3 =>
    if b = true then wi1 σ2 H3 fun J1 H4 => ∃ W1 : Nat → Nat → Hp → Prop, (∃ m, W1 0 m H4) ∧ ∀ j k H, W1 j k H →
      (J1.stop j H ∧ Nx H) ∨ (J1.go j H ∧ ∃ Nx1 : Hp → Prop, (∀ H', Nx1 H' → ∃ k', k' < k ∧ W1 (j + 1) k' H') ∧ ∀ x H', J1.yld j H x H' → g1 x (wipe σ2 vs1) H' fun σ3 H5 => wipe σ3 vs1 = wipe σ2 vs1 ∧ tt1 σ3 H5 fun b H6 =>
        if b = true then tk σ3 H6 fun y H7 => tv σ3 H7 fun z H8 => ∃ (kvs : List (List Key × V)) (ks : List Key) (q : Addr), y = .ref q ∧ H8 q = some (.tup (ks.map kV)) ∧ H8 D = some (.dT kvs) ∧ kvs.length < sizeLine ∧ Nx1 (upd H8 D (.dT (putK kvs ks z))) else Nx1 H6)
    else Nx H3)
/-- what holds in each block of the scope sc -/
abbrev InBlk (X : Cx) (sc : Scope) (T : Cx → Prop) : Prop := ∀ (s : Shared) (H : Hp) (C : Addr) (cl : List (Str × Addr)) (fp : List Addr), T (X.blk s H sc (compEnvC sc cl C X.env) fp)
section
variable {X : Cx}
theorem core {pins : List (Addr × Obj)} {s : Shared} {σ : L2.St} {H : Hp} {Q : VK} {kx vx tg iter tg1 iter1 : Expr} {f0 f1 : List Expr} {sc : Scope} {own : List (Str × Nat)} {vs1 : List Nat} {pos pos' : Pos} {wi wi1 : TI} {g g1 : TG} {tt tt1 : TT} {tk tv : TE} {use : Option (Value → Sem Unit)} {Qf : Value → Shared → Prop}
    (hu : X.A.units + 1 < cLine) (hc : X.calm = true) (hN : X.N.Nodup) (I : Inv X pins σ H s) (hi : PI X tg iter wi) (ok : BlkOk X.N X.env.scope sc own) (hv : ∀ i ∈ vs1, i ∈ own.map (·.2))
    (hg : InBlk X sc fun B => PG B tg g) (ht : InBlk X sc fun B => PTs B f0 tt) (hk : InBlk X sc fun B => PE B kx tk) (he : InBlk X sc fun B => PE B vx tv) (hs : ∀ x, foldedSetIterable iter X.env x = pure x)
    (hi1 : InBlk X sc fun B => PI B tg1 iter1 wi1) (hg1 : InBlk X sc fun B => PG B tg1 g1) (ht1 : InBlk X sc fun B => PTs B f1 tt1) (hs1 : ∀ env x, foldedSetIterable iter1 env x = pure x)
    (h : tDc2 wi g tt wi1 g1 tt1 tk tv (own.map (·.2)) vs1 σ H Q)
    (hR : ∀ D C s' m H', Inv X pins σ H' s' → Q (.ref D) H' → s'.heap.Ns C m → FpOk X pins H' C → compPost (model X.prog X.w) X.A X.xe use Qf (.ref D) C (.ok .next) s') :
    wpAny (model X.prog X.w) X.A (comprehension (Ex2 kx vx tg iter tg1 iter1 f0 f1 sc pos) sc X.env pos' newDict false (eval iter X.env) use) Qf X.xe s := by
  have caught : ∀ y ∈ sc.names, y.2 = .free → ∃ c, X.env.cells.lookup y.1 = some c := fun y hy e => (ok.free y hy e).elim (fun k => I.ok.has _ (.inl k)) fun k => I.ok.has _ (.inr k)
  refine wpAny_comprehension_free (use := use) rfl hs (closure_ok caught) ok.kind (fun y hy e => by rw [ok.uniq y hy, e]) (thn (hi.run pins s σ H _ I h) fun xv s1 hx => thn hx fun itv s2 h2 => ?_)
  obtain ⟨it, fp, tn, J, H2, rfl, I2, T, st2, f2, q⟩ := h2
  refine wpAny_newObj_type (newEnv_comp ?_)
  generalize hD : s2.heap.objs.size = D
  obtain ⟨W, ⟨m0, w0⟩, turn⟩ := q D (I2.hok.fresh (Nat.le_of_eq hD))
  generalize hs3 : ({ s2 with heap := s2.heap.push { cls := .type "dict", data := .dict #[] } } : Shared) = s3
  have h3 : s3.heap = s2.heap.push { cls := .type "dict", data := .dict #[] } := by rw [← hs3]
  have I3 : Inv X pins σ (upd H2 D (.dT [])) s3 := by
    rw [← hs3]
    refine I2.laid (t' := s2.toks) (fun b o e => Heap.get?_push_of_some _ e) (Nat.le_of_eq hD) ?_
    rw [← hD]
    exact dt_empty s2.heap I2.big
  have low : ∀ b ∈ fp, b < s2.heap.objs.size := fun b hb => let ⟨o, e, _⟩ := T.obj _ _ st2 b hb; Heap.lt_size e
  have f3 : ∀ b ∈ fp, FpOk X pins (upd H2 D (.dT [])) b ∧ b < s3.heap.objs.size := fun b hb =>
    ⟨⟨by rw [upd_ne (by rw [← hD]; exact Nat.ne_of_lt (low b hb))]; exact (f2 b hb).1, (f2 b hb).2⟩, by rw [h3, Heap.size_push]; exact Nat.lt_succ_of_lt (low b hb)⟩
  have st3 : tn 0 s3.heap := T.keep _ _ _ st2 fun b _ o e => by rw [h3]; exact Heap.get?_push_of_some _ e
  have I4 := block_start I3 ok hN f3
  generalize hcl : cellsFrom (s3.heap.objs.size + 1) sc.names (cloFrom X.env.cells sc.names []) = cl at I4
  have pg := hg s3 (upd H2 D (.dT [])) s3.heap.objs.size cl fp
  have pt := ht s3 (upd H2 D (.dT [])) s3.heap.objs.size cl fp
  have pk := hk s3 (upd H2 D (.dT [])) s3.heap.objs.size cl fp
  have pe := he s3 (upd H2 D (.dT [])) s3.heap.objs.size cl fp
  have pi1 := hi1 s3 (upd H2 D (.dT [])) s3.heap.objs.size cl fp
  have pg1 := hg1 s3 (upd H2 D (.dT [])) s3.heap.objs.size cl fp
  have pt1 := ht1 s3 (upd H2 D (.dT [])) s3.heap.objs.size cl fp
  show codeAny _ _ (.compStart (Ex2 kx vx tg iter tg1 iter1 f0 f1 sc pos) 0 (.ref it) (.ref D) (compEnvC sc cl s3.heap.objs.size X.env)) (compPost (model X.prog X.w) X.A X.xe use Qf (.ref D) s3.heap.objs.size) { s3 with heap := pushCells (s3.heap.push { cls := .type "dict", data := .dict #[] }) sc.names }
  have nfp : ∀ b ∈ fp, (upd H2 D (.dT [])) b = none := fun b hb => (f3 b hb).1.1
  generalize hce : compEnvC sc cl s3.heap.objs.size X.env = ce at I4 pg pt pk pe pi1 pg1 pt1 ⊢
  have cL : ce.locals = s3.heap.objs.size := by
    subst hce
    rfl
  generalize hH3 : upd H2 D (.dT []) = H3 at I3 I4 pg pt pk pe pi1 pg1 pt1 w0 nfp f3
  generalize hs4 : ({ s3 with heap := pushCells (s3.heap.push { cls := .type "dict", data := .dict #[] }) sc.names } : Shared) = s4 at I4 ⊢
  have st4 : tn 0 s4.heap := T.keep _ _ _ st3 fun b _ o e => by rw [← hs4]; exact pushCells_keeps _ _ _ _ (Heap.get?_push_of_some _ e)
  generalize hB : X.blk s3 H3 sc ce fp = B at I4 pg pt pk pe pi1 pg1 pt1
  have stat : ∀ {pn : List (Addr × Obj)} {σ' : L2.St} {H' : Hp} {s' : Shared}, Inv B [] σ' H' s' → (∀ b ∈ fp, H' b = none) → ∀ b ∈ fp, FpOk B [] H' b := fun {pn σ' H' s'} I' hn b hb => by
    subst hB
    exact ⟨hn b hb, (I'.ok.exf b hb).1, I'.ok.exfs b hb, .inl hb, fun x c e => (I'.ok.exf b hb).2 x c e, fun p hp => absurd (show p ∈ ([] : List (Addr × Obj)) ++ [] from hp) (by simp)⟩
  have eB : B.prog = X.prog ∧ B.w = X.w ∧ B.K = X.K ∧ B.calm = true := by
    subst hB
    exact ⟨rfl, rfl, rfl, hc⟩
  have loop : codeAny (model X.prog X.w) X.A (.compLoop (Ex2 kx vx tg iter tg1 iter1 f0 f1 sc pos) 0 (.ref it) (.ref D) ce) (compPost (model X.prog X.w) X.A X.xe use Qf (.ref D) s3.heap.objs.size) s4 := by
    subst hB
    refine loop_out (hs1 ce) (fun n s' => ∃ i H', Inv (X.blk s3 H3 sc ce fp) [] (wipe σ (own.map (·.2))) H' s' ∧ tn i s'.heap ∧ (∀ b ∈ fp, H' b = none) ∧ W i n H') ?_ m0 ⟨0, H3, I4, st4, nfp, w0⟩
    rintro n s5 ⟨i, H5, I5, st5, n5, w5⟩
    rcases turn i n H5 w5 with ⟨stop, qq⟩ | ⟨go, Nx, hNx, step⟩
    · refine thnF (T.done (X.blk s3 H3 sc ce fp) rfl rfl rfl hc i [] s5 _ H5 (fun _ _ => False) I5 (stat (pn := []) I5 n5) st5 stop) fun r s6 ⟨hr, I6⟩ => ?_
      subst hr
      obtain ⟨m, hn, _⟩ := I6.loc
      have hn : s6.heap.Ns ce.locals m := hn
      have nC : H5 ce.locals = none := I6.free
      rw [cL] at hn nC
      exact hR D s3.heap.objs.size s6 m H5 (I3.call' (ch := fp) I6.os I6.base I6.hok I6.bare fun b hb => ⟨(f3 b hb).1.2.2.2.1, (f3 b hb).1.2.1, (f3 b hb).1.2.2.2.2.1, (f3 b hb).1.2.2.2.2.2⟩) qq hn (I3.fpOk (Nat.le_refl _) nC)
    · refine thnF (T.item (X.blk s3 H3 sc ce fp) rfl rfl rfl hc i [] s5 _ H5 (fun _ _ => False) I5 (stat (pn := []) I5 n5) st5 go) fun r s6 ⟨u, hr, h6⟩ => ?_
      subst hr
      refine thnF h6 fun _ s7 ⟨x, H7, I7, r7, y7, st7, n7⟩ => ?_
      refine thnF (pg.run _ s7 _ H7 x u _ (I7.pinned (stat (pn := []) I7 n7) (T.obj _ _ st7)) r7 (step x H7 y7)) fun _ s8 ⟨σ8, H8, I8, hw8, q8⟩ => thnF (pt.run _ s8 σ8 H8 _ I8 q8) fun b s9 ⟨H9, I9, q9⟩ => ?_
      have fin : ∀ {σ9 : L2.St} {s' : Shared} {H' : Hp}, Inv (X.blk s3 H3 sc ce fp) ([] ++ pinsAt fp s7.heap) σ9 H' s' → (wipe σ (own.map (·.2))).length = σ9.length → (∀ (j : Nat) v, (wipe σ (own.map (·.2)))[j]? = some (some v) → σ9[j]? = some (some v)) → Nx H' →
          ∃ m, m < n ∧ ∃ i H', Inv (X.blk s3 H3 sc ce fp) [] (wipe σ (own.map (·.2))) H' s' ∧ tn i s'.heap ∧ (∀ b ∈ fp, H' b = none) ∧ W i m H' := fun {σ9 s' H'} I' hl hk nx => by
        obtain ⟨m', hm, w'⟩ := hNx H' nx
        have pin' : ∀ b ∈ fp, ∀ o, s7.heap.get? b = some o → s'.heap.get? b = some o ∧ H' b = none := fun b hb o e => have z := I'.pin (b, o) (List.mem_append_right _ (List.mem_append_right _ (mem_pinsAt hb e))); ⟨z.1, z.2.1⟩
        exact ⟨m', hm, i + 1, H', (I'.unpinned (pins := [])).weak hl hk, T.keep _ _ _ st7 fun b hb o e => (pin' b hb o e).1, fun b hb => let ⟨o, e, _⟩ := T.obj _ _ st7 b hb; (pin' b hb o e).2, w'⟩
      have l8 : (wipe σ (own.map (·.2))).length = σ8.length := by rw [← hw8, wipe_length]
      have k8 : ∀ (j : Nat) v, (wipe σ (own.map (·.2)))[j]? = some (some v) → σ8[j]? = some (some v) := fun j v e => (wipe_some (by rw [hw8]; exact e)).1
      have k9 : ∀ (j : Nat) v, (wipe σ (own.map (·.2)))[j]? = some (some v) → (wipe σ8 vs1)[j]? = some (some v) := fun j v e => by
        rw [← hw8] at e
        rw [wipe_out fun z => (wipe_some e).2 (hv j z)]
        exact (wipe_some e).1
      cases b with
      | false => exact fin I9 l8 k8 (by simpa only [Bool.false_eq_true, if_false] using q9)
      | true =>
        rw [if_pos rfl] at q9
        show wpAny _ _ _ _ _ _
        refine thnF (pi1.run _ s9 σ8 H9 _ I9 q9) fun xv s10 hx => thnF hx fun itv s11 h11 => ?_
        obtain ⟨it1, fp1, tn1, J1, H11, rfl, I11, T1, st11, f11, W1, ⟨m1, w1⟩, turn1⟩ := h11
        have stat1 : ∀ {H' : Hp}, (∀ b ∈ fp1, H' b = none) → ∀ b ∈ fp1, FpOk (X.blk s3 H3 sc ce fp) ([] ++ pinsAt fp s7.heap) H' b := fun hn b hb => ⟨hn b hb, (f11 b hb).2⟩
        have loop1 : codeAny (model X.prog X.w) X.A (.compLoop (Ex2 kx vx tg iter tg1 iter1 f0 f1 sc pos) 1 (.ref it1) (.ref D) ce) (fun r s' => match r with
            | .ok _ => ∃ m, m < n ∧ ∃ i H', Inv (X.blk s3 H3 sc ce fp) [] (wipe σ (own.map (·.2))) H' s' ∧ tn i s'.heap ∧ (∀ b ∈ fp, H' b = none) ∧ W i m H'
            | .error _ => False) s11 := by
          refine loop_in (fun k s' => ∃ j H', Inv (X.blk s3 H3 sc ce fp) ([] ++ pinsAt fp s7.heap) (wipe σ8 vs1) H' s' ∧ tn1 j s'.heap ∧ (∀ b ∈ fp1, H' b = none) ∧ W1 j k H') ?_ m1 ⟨0, H11, I11.weak (wipe_length _ _) (fun j v e => (wipe_some e).1), st11, fun b hb => (f11 b hb).1, w1⟩
          rintro k s12 ⟨j, H12, I12, st12, n12, w12⟩
          rcases turn1 j k H12 w12 with ⟨stop1, nx1⟩ | ⟨go1, Nx1, hNx1, step1⟩
          · refine thnF (T1.done (X.blk s3 H3 sc ce fp) rfl rfl rfl hc j _ s12 (wipe σ8 vs1) H12 (fun _ _ => False) I12 (stat1 n12) st12 stop1) fun r s13 ⟨hr, I13⟩ => ?_
            subst hr
            exact fin I13 (l8.trans (wipe_length σ8 vs1).symm) k9 nx1
          · refine thnF (T1.item (X.blk s3 H3 sc ce fp) rfl rfl rfl hc j _ s12 (wipe σ8 vs1) H12 (fun _ _ => False) I12 (stat1 n12) st12 go1) fun r s13 ⟨u1, hr, h13⟩ => ?_
            subst hr
            refine thnF h13 fun _ s14 ⟨x1, H14, I14, r14, y14, st14, n14⟩ => ?_
            refine thnF (pg1.run _ s14 (wipe σ8 vs1) H14 x1 u1 _ (I14.pinned (stat1 n14) (T1.obj _ _ st14)) r14 (step1 x1 H14 y14)) fun _ s15 ⟨σ15, H15, I15, hw15, q15⟩ => thnF (pt1.run _ s15 σ15 H15 _ I15 q15) fun b1 s16 ⟨H16, I16, q16⟩ => ?_
            have fin1 : ∀ {s' : Shared} {H' : Hp}, Inv (X.blk s3 H3 sc ce fp) (([] ++ pinsAt fp s7.heap) ++ pinsAt fp1 s14.heap) σ15 H' s' → Nx1 H' → ∃ m, m < k ∧ ∃ j H', Inv (X.blk s3 H3 sc ce fp) ([] ++ pinsAt fp s7.heap) (wipe σ8 vs1) H' s' ∧ tn1 j s'.heap ∧ (∀ b ∈ fp1, H' b = none) ∧ W1 j m H' := fun {s' H'} I' nx => by
              obtain ⟨m', hm, w'⟩ := hNx1 H' nx
              have pin' : ∀ b ∈ fp1, ∀ o, s14.heap.get? b = some o → s'.heap.get? b = some o ∧ H' b = none := fun b hb o e => have z := I'.pin (b, o) (List.mem_append_right _ (List.mem_append_right _ (mem_pinsAt hb e))); ⟨z.1, z.2.1⟩
              exact ⟨m', hm, j + 1, H', I'.unpinned.weak (by rw [← hw15, wipe_length]) (fun j v e => (wipe_some (by rw [hw15]; exact e)).1), T1.keep _ _ _ st14 fun b hb o e => (pin' b hb o e).1, fun b hb => let ⟨o, e, _⟩ := T1.obj _ _ st14 b hb; (pin' b hb o e).2, w'⟩
            cases b1 with
            | false => exact fin1 I16 (by simpa only [Bool.false_eq_true, if_false] using q16)
            | true =>
              rw [if_pos rfl] at q16
              refine thnF (pk.run _ s16 σ15 H16 _ I16 q16) fun z s17 ⟨yk, H17, I17, r17, q17⟩ => thnF (pe.run _ s17 σ15 H17 _ I17 q17) fun z2 s18 ⟨yv, H18, I18, r18, kvs, ks, qk, ek, hqk, hD18, hz18, nx⟩ => ?_
              subst ek
              exact put_tup (X := X.blk s3 H3 sc ce fp) hu I18 hD18 hz18 hqk r17 r18 fun s19 I19 => fin1 I19 nx
        exact start_in loop1 (T1.self X.A 0 _ _ _ st11 loop1)
  exact codeAny_compStart_dict loop (T.self X.A 0 _ _ _ st4 loop)
theorem pe_dc2 {kx vx tg iter tg1 iter1 : Expr} {f0 f1 : List Expr} {sc : Scope} {own : List (Str × Nat)} {vs1 : List Nat} {pos : Pos} {wi wi1 : TI} {g g1 : TG} {tt tt1 : TT} {tk tv : TE}
    (hu : X.A.units + 1 < cLine) (hc : X.calm = true) (hN : X.N.Nodup) (hi : PI X tg iter wi) (ok : BlkOk X.N X.env.scope sc own) (hv : ∀ i ∈ vs1, i ∈ own.map (·.2))
    (hg : InBlk X sc fun B => PG B tg g) (ht : InBlk X sc fun B => PTs B f0 tt) (hi1 : InBlk X sc fun B => PI B tg1 iter1 wi1) (hg1 : InBlk X sc fun B => PG B tg1 g1) (ht1 : InBlk X sc fun B => PTs B f1 tt1)
    (hk : InBlk X sc fun B => PE B kx tk) (he : InBlk X sc fun B => PE B vx tv) (hs : ∀ x, foldedSetIterable iter X.env x = pure x := by intro _; rfl) (hs1 : ∀ env x, foldedSetIterable iter1 env x = pure x := by intro _ _; rfl) :
    PE X (Ex2 kx vx tg iter tg1 iter1 f0 f1 sc pos) (tDc2 wi g tt wi1 g1 tt1 tk tv (own.map (·.2)) vs1) := by
  refine ⟨fun pins s σ H Q I h => ?_⟩
  rw [arm_eval_DictComp]
  refine core hu hc hN I hi ok hv hg ht hk he hs hi1 hg1 ht1 hs1 h fun D C s' m H' I' q hn f => ⟨m, hn, fun h2 sb => ?_⟩
  obtain ⟨a0, a1, a2, a3, a4, a5⟩ := f
  exact ⟨.ref D, H', I'.turned (t' := s'.toks) (fun b o hb e => (sb.2 b hb).trans e) a0 a1 a3 a4 a5, rfl, q⟩
end
end Dc2

set_option Elab.async false
set_option linter.all false
set_option maxRecDepth 100000
set_option maxHeartbeats 1000000
/-! Several dicts locked at once; walks over locked dicts; comprehensions of two clauses that only add objects. -/
namespace Cm
open PySem PySem.Spec PyProof.Rows L2 EvP
/-- t while the things of ds are locked -/
def lockW : List (Addr × HO) → TE → TE
  | [], t => t
  | p :: r, t => fun σ H Q => H p.1 = some p.2 ∧ Mut (some p.2) ∧ ∀ od, lockW r t σ (upd H p.1 (.frz od p.2)) fun v H' => H' p.1 = some (.frz od p.2) ∧ Q v (upd H' p.1 p.2)
def tLockL (t : TE) : TE := fun σ H Q => ∃ ds, lockW ds t σ H Q
theorem pe_lockW {X : Cx} {e : Expr} {t : TE} (h : PE X e t) : ∀ ds, PE X e (lockW ds t)
  | [] => h
  | p :: r => ⟨fun pins s σ H Q I hw => (pe_lock (pe_lockW h r)).run pins s σ H Q I ⟨p.1, p.2, hw.1, hw.2.1, hw.2.2⟩⟩
theorem pe_lockL {X : Cx} {e : Expr} {t : TE} (h : PE X e t) : PE X e (tLockL t) := ⟨fun pins s σ H Q I ⟨ds, hw⟩ => (pe_lockW h ds).run pins s σ H Q I hw⟩
/-- H with ds locked; H' with ds as they were -/
structure Froz (ds : List (Addr × HO)) (H Hf : Hp) : Prop where
  old : ∀ b, b ∉ ds.map (·.1) → Hf b = H b
  at_ : ∀ p ∈ ds, ∃ od, Hf p.1 = some (.frz od p.2)
structure Thaw (ds : List (Addr × HO)) (H' H2 : Hp) : Prop where
  old : ∀ b, b ∉ ds.map (·.1) → H2 b = H' b
  at_ : ∀ p ∈ ds, H2 p.1 = some p.2
theorem lock_all {t : TE} {σ : L2.St} (S : Hp → V → Hp → Prop) : ∀ (ds : List (Addr × HO)) (H : Hp) (Q : VK), (ds.map (·.1)).Nodup → (∀ p ∈ ds, H p.1 = some p.2 ∧ Mut (some p.2)) → (∀ Hf, Froz ds H Hf → ∀ R : VK, (∀ v H', S Hf v H' → R v H') → t σ Hf R) →
    (∀ Hf v H', Froz ds H Hf → S Hf v H' → (∀ p ∈ ds, H' p.1 = Hf p.1) ∧ ∀ H2, Thaw ds H' H2 → Q v H2) → lockW ds t σ H Q
  | [], H, Q, _, _, a, b => a H ⟨fun _ _ => rfl, fun p hp => nomatch hp⟩ Q fun v H' s => (b H v H' ⟨fun _ _ => rfl, fun p hp => nomatch hp⟩ s).2 H' ⟨fun _ _ => rfl, fun p hp => nomatch hp⟩
  | p :: r, H, Q, nd, at_, a, b => by
    rw [List.map_cons, List.nodup_cons] at nd
    refine ⟨(at_ p (.head _)).1, (at_ p (.head _)).2, fun od => lock_all S r _ _ nd.2 (fun q hq => ?_) (fun Hf fr R hR => ?_) (fun Hf v H' fr s => ?_)⟩
    · rw [upd_ne fun e => nd.1 (List.mem_map.mpr ⟨q, hq, e⟩)]
      exact at_ q (.tail _ hq)
    all_goals
      have fr' : Froz (p :: r) H Hf := ⟨fun c hc => by
        rw [List.map_cons, List.mem_cons, not_or] at hc
        rw [fr.old c hc.2, upd_ne hc.1], fun q hq => by
        rcases List.mem_cons.mp hq with rfl | hq
        · exact ⟨od, by rw [fr.old _ nd.1, upd_same]⟩
        · exact fr.at_ q hq⟩
    · exact a Hf fr' R hR
    · obtain ⟨b1, b2⟩ := b Hf v H' fr' s
      refine ⟨fun q hq => b1 q (.tail _ hq), fun H2 th => ?_⟩
      have e : Hf p.1 = some (.frz od p.2) := by rw [fr.old _ nd.1, upd_same]
      refine ⟨by rw [th.old _ nd.1, b1 p (.head _), e], b2 _ ⟨fun c hc => ?_, fun q hq => ?_⟩⟩
      · rw [List.map_cons, List.mem_cons, not_or] at hc
        rw [upd_ne hc.1, th.old c hc.2]
      · rcases List.mem_cons.mp hq with rfl | hq
        · exact upd_same
        · rw [upd_ne fun e => nd.1 (List.mem_map.mpr ⟨q, hq, e⟩)]
          exact th.at_ q hq
theorem Froz.ex {ds : List (Addr × HO)} {H Hf H' H2 : Hp} (at_ : ∀ p ∈ ds, H p.1 = some p.2) (f : Froz ds H Hf) (e : Ex Hf H') (t : Thaw ds H' H2) : Ex H H2 := fun b o h => by
  by_cases m : b ∈ ds.map (·.1)
  · obtain ⟨p, hp, rfl⟩ := List.mem_map.mp m
    rw [t.at_ p hp, ← at_ p hp]
    exact h
  · rw [t.old b m]
    exact e _ _ (by rw [f.old b m]; exact h)
theorem Thaw.new {ds : List (Addr × HO)} {H Hf H' H2 : Hp} (f : Froz ds H Hf) (e : Ex Hf H') (t : Thaw ds H' H2) {b : Addr} {o : HO} (h : H' b = some o) (nf : ∀ od u, o ≠ .frz od u) : H2 b = some o := by
  by_cases m : b ∈ ds.map (·.1)
  · obtain ⟨p, hp, rfl⟩ := List.mem_map.mp m
    obtain ⟨od, y⟩ := f.at_ p hp
    rw [e _ _ y] at h
    exact absurd (Option.some.inj h).symm (nf _ _)
  · rw [t.old b m]
    exact h
section
variable {K : PySem.W.Frag} {σ : L2.St} {H : Hp} {t te : TE} {P P0 : PR} {ds : List (Addr × HO)}
theorem g_lock (nd : (ds.map (·.1)).Nodup) (at_ : ∀ p ∈ ds, H p.1 = some p.2 ∧ Mut (some p.2)) (h : ∀ H1, Ex H H1 → ∀ Hf, Froz ds H1 Hf → Gives t σ Hf P0)
    (k : ∀ v H1 Hf H' H2, Ex H H1 → Froz ds H1 Hf → Ex Hf H' → Thaw ds H' H2 → P0.R v H' → P.R v H2) : Gives (tLockL t) σ H P := fun H1 e1 Q q => by
  have at1 : ∀ p ∈ ds, H1 p.1 = some p.2 ∧ Mut (some p.2) := fun p hp => ⟨e1 _ _ (at_ p hp).1, (at_ p hp).2⟩
  refine ⟨ds, lock_all (fun Hf v H' => Ex Hf H' ∧ P0.R v H') ds H1 Q nd at1 (fun Hf fr R hR => h H1 e1 Hf fr Hf (Ex.refl Hf) R fun v H2 e p => hR v H2 ⟨e, p⟩) fun Hf v H' fr s => ⟨fun p hp => ?_, fun H2 th => ?_⟩⟩
  · obtain ⟨od, y⟩ := fr.at_ p hp
    rw [y, s.1 _ _ y]
  · exact q v H2 (fr.ex (fun p hp => (at1 p hp).1) s.1 th) (k v H1 Hf H' H2 e1 fr s.1 th s.2)
/-- walks over what is locked -/
theorem walks_vals {m : Nat} {d : Addr} {od : Obj} {kvs : List (Key × V)} (hd : σ[m]? = some (some (.ref d))) (h : H d = some (.frz od (.dK kvs))) : Walks (iVals (tVar m)) σ H (kvs.map (·.2)) := fun H1 e R r =>
  ⟨_, hd, d, od, kvs, rfl, e _ _ h, r _ _ (Ex.refl H1) ⟨fun H => H d = some (.frz od (.dK kvs)), by
    have w := walk_values (d := d) (o := od) (kvs := kvs)
    rw [List.length_map]
    exact w.mono (fun _ z => z) fun i H x H' _ _ ⟨e1, k, hk⟩ => ⟨e1, by rw [List.getElem?_map, hk]; rfl⟩, fun H3 e3 => e3 _ _ (e _ _ h)⟩⟩
theorem walks_keys {m : Nat} {d : Addr} {od : Obj} {kvs : List (Key × V)} (hd : σ[m]? = some (some (.ref d))) (h : H d = some (.frz od (.dK kvs))) : Walks (iKeys (tVar m)) σ H (kvs.map fun p => kV p.1) := fun H1 e R r =>
  ⟨_, hd, d, od, rfl, .inl ⟨kvs, e _ _ h, r _ _ (Ex.refl H1) ⟨fun H => H d = some (.frz od (.dK kvs)), by
    have w := L2.walk_keys (d := d) (o := od) (kvs := kvs)
    rw [List.length_map]
    exact w.mono (fun _ z => z) fun i H x H' _ _ ⟨e1, k, v, hk, ex⟩ => ⟨e1, by rw [List.getElem?_map, hk, ex]; rfl⟩, fun H3 e3 => e3 _ _ (e _ _ h)⟩⟩⟩
/-- walks that only look -/
def WalksD (wi : TI) (σ : L2.St) (H : Hp) (xs : List V) : Prop := ∀ H1, Ex H H1 → ∀ R : It → Hp → Prop, (∀ J, (∃ G : Hp → Prop, Walk J xs.length G (YAt xs) ∧ ∀ H3, Ex H H3 → G H3) → R J H1) → wi σ H1 R
theorem walksD_keys {m : Nat} {d : Addr} {od : Obj} {kvs : List (Key × V)} (hd : σ[m]? = some (some (.ref d))) (h : H d = some (.frz od (.dK kvs))) : WalksD (iKeys (tVar m)) σ H (kvs.map fun p => kV p.1) := fun H1 e R r =>
  ⟨_, hd, d, od, rfl, .inl ⟨kvs, e _ _ h, r _ ⟨fun H => H d = some (.frz od (.dK kvs)), by
    have w := L2.walk_keys (d := d) (o := od) (kvs := kvs)
    rw [List.length_map]
    exact w.mono (fun _ z => z) fun i H x H' _ _ ⟨e1, k, v, hk, ex⟩ => ⟨e1, by rw [List.getElem?_map, hk, ex]; rfl⟩, fun H3 e3 => e3 _ _ h⟩⟩⟩
theorem flat_take {α β : Type} (ys : α → List β) : ∀ (xs : List α) (n : Nat), ((xs.take n).flatMap ys).length ≤ (xs.flatMap ys).length
  | [], _ => by simp
  | x :: xs, 0 => by simp
  | x :: xs, n + 1 => by
    have := flat_take ys xs n
    simp only [List.take_succ_cons, List.flatMap_cons, List.length_append]
    omega
/-- [e for x in xs for y in ys(x)] -/
theorem comp2 {wi wi1 : TI} {xs : List V} {ys : V → List V} {i j : Nat} {vs vs1 : List Nat} (f : V → V) (hw : Walks wi σ H xs) (hz : (xs.flatMap ys).length ≤ 1000) (wp : ∀ x, wipe ((wipe σ vs).set i (some x)) vs = wipe σ vs)
    (wp1 : ∀ x y, wipe ((wipe ((wipe σ vs).set i (some x)) vs1).set j (some y)) vs1 = wipe ((wipe σ vs).set i (some x)) vs1)
    (hi : ∀ x ∈ xs, WalksD wi1 ((wipe σ vs).set i (some x)) H (ys x)) (he : ∀ x ∈ xs, ∀ y ∈ ys x, Gives te ((wipe ((wipe σ vs).set i (some x)) vs1).set j (some y)) H (is (f y))) :
    Gives (tLc2 wi (gName i) tYes wi1 (gName j) tYes te vs vs1) σ H (lstV ((xs.flatMap ys).map f)) := fun H1 e1 Q q => by
  refine hw H1 e1 _ fun J H2 e2 ⟨G, w, g⟩ D hD => ?_
  have nD : ∀ {H3 : Hp} {o : HO}, Ex H2 H3 → Ex H2 (upd H3 D o) := fun {H3 o} e b u hb => by
    rw [upd_ne (ne_of_none hb hD)]
    exact e _ _ hb
  refine ⟨fun n m H' => m = xs.length - n ∧ n ≤ xs.length ∧ H' D = some (.lst (((xs.take n).flatMap ys).map f)) ∧ Ex H2 H', ⟨xs.length, by simp, Nat.zero_le _, by rw [List.take_zero]; exact upd_same, Ex.new hD⟩, ?_⟩
  rintro n m H' ⟨rfl, hn, a1, a2⟩
  by_cases lt : n < xs.length
  · refine .inr ⟨w.goes n H' lt (g _ a2), fun H3 => H3 D = some (.lst (((xs.take (n + 1)).flatMap ys).map f)) ∧ Ex H2 H3, fun H3 p => ⟨xs.length - (n + 1), by omega, rfl, lt, p⟩, fun x H3 y => ?_⟩
    obtain ⟨rfl, hx⟩ := w.yields n H' x H3 lt (g _ a2) y
    have mx := List.mem_of_getElem? hx
    have tk : xs.take (n + 1) = xs.take n ++ [x] := by
      rw [List.take_add_one, hx]
      rfl
    have full : (xs.take (n + 1)).flatMap ys = (xs.take n).flatMap ys ++ ys x := by
      rw [tk, List.flatMap_append]
      simp
    have few : ((xs.take n).flatMap ys).length + (ys x).length ≤ 1000 := by
      have := flat_take ys xs (n + 1)
      rw [full, List.length_append] at this
      omega
    refine ⟨wp x, ?_⟩
    show tYes _ H3 _
    unfold tYes
    dsimp only
    rw [if_pos rfl]
    refine hi x mx H3 ((e1.trans e2).trans a2) _ fun J1 ⟨G1, w1, g1⟩ => ?_
    refine ⟨fun o m H' => m = (ys x).length - o ∧ o ≤ (ys x).length ∧ H' D = some (.lst (((xs.take n).flatMap ys ++ (ys x).take o).map f)) ∧ Ex H2 H', ⟨(ys x).length, by simp, Nat.zero_le _, by
      rw [List.take_zero, List.append_nil]
      exact a1, a2⟩, ?_⟩
    rintro o m H5 ⟨rfl, ho, b1, b2⟩
    have bH := (e1.trans e2).trans b2
    by_cases lo : o < (ys x).length
    · refine .inr ⟨w1.goes o H5 lo (g1 _ bH), fun H6 => H6 D = some (.lst (((xs.take n).flatMap ys ++ (ys x).take (o + 1)).map f)) ∧ Ex H2 H6, fun H6 p => ⟨(ys x).length - (o + 1), by omega, rfl, lo, p⟩, fun z H6 y => ?_⟩
      obtain ⟨rfl, hy⟩ := w1.yields o H5 z H6 lo (g1 _ bH) y
      refine ⟨wp1 x z, ?_⟩
      rw [if_pos rfl]
      refine he x mx z (List.mem_of_getElem? hy) H6 bH _ fun v H7 e7 hv => ⟨_, e7 _ _ b1, ?_, ?_, nD (b2.trans e7)⟩
      · rw [List.length_map, List.length_append, List.length_take, sizeLine_eq]
        omega
      · rw [upd_same, List.take_add_one, hy, ← List.append_assoc, List.map_append (l₁ := (xs.take n).flatMap ys ++ (ys x).take o), show v = f z from hv]
        rfl
    · have e : o = (ys x).length := by omega
      subst e
      rw [List.take_length, ← full] at b1
      exact .inl ⟨w1.stops H5 (g1 _ bH), b1, b2⟩
  · have e : n = xs.length := by omega
    subst e
    rw [List.take_length] at a1
    exact .inl ⟨w.stops H' (g _ a2), q _ _ (e2.trans a2) ⟨D, rfl, a1⟩⟩
end
end Cm

set_option Elab.async false
set_option linter.all false
set_option maxRecDepth 100000
set_option maxHeartbeats 1000000
/-! d == e, dicts whose keys are tuples. -/
namespace DtE
open PySem PySem.Calls PyProof.Rows PyProof.V
section
variable {prog : Program} {w : World} {K : Type} [DecidableEq K] {knd : HeapKind prog w K} {A : Around} {E : Value → Shared → Prop} {s : Shared}
abbrev Ent (K : Type) := List (K × Addr × Value)
inductive Hits (A : Around) (s : Shared) (B : Ent K) : Ent K → Bool → Prop
  | nil : Hits A s B [] true
  | miss {x : K × Addr × Value} {r : Ent K} : atKey B x.1 = none → Hits A s B (x :: r) false
  | hit {x : K × Addr × Value} {p : Addr × Value} {r : Ent K} {e b : Bool} : atKey B x.1 = some p → SeqAt.EqAt A s x.2.2 p.2 e → Hits A s B r b → Hits A s B (x :: r) (e && b)
theorem same {nm : String} {a b : Addr} {xa xb : Ent K} {r : Bool} {Q : Bool → Shared → Prop} (hu : knd.room A) (na : (a == sysModules) = false) (nb : (b == sysModules) = false) (da : s.heap.DictOfH knd a xa) (db : s.heap.DictOfH knd b xb)
    (hits : xa.length = xb.length → Hits A s xb xa r) (h : Q (xa.length == xb.length && r) s) : wpAny (model prog w) A (Builtin.Dict.samePairs nm a b) Q E s := by
  obtain ⟨oa, ea, pa, ga, _, ta, la, ia, _⟩ := da
  obtain ⟨ob, eb, pb, gb, _, tb, lb, ib, ub⟩ := db
  have za := size_of_entries la
  have zb := size_of_entries lb
  rw [← za, ← zb] at h
  unfold Builtin.Dict.samePairs Builtin.Dict.showsAll
  rw [if_neg (show ¬ (a == sysModules) = true by rw [na]; decide), if_neg (show ¬ (b == sysModules) = true by rw [nb]; decide)]
  refine wpAny_bind (wpAny_pure (wpAny_bind (wpAny_pure (wpAny_bind (wpAny_dictEntries ga ta ?_)))))
  refine wpAny_bind (wpAny_dictEntries gb tb ?_)
  by_cases hz : ea.size = eb.size
  case neg =>
    rw [if_pos (by simpa using hz)]
    rw [show (ea.size == eb.size) = false by simpa using hz, Bool.false_and] at h
    exact wpAny_bind (wpAny_rule (wpAny_pure h))
  case pos =>
    have q : Q r s := by simpa [hz] using h
    have g := hits (by rw [← za, ← zb]; exact hz)
    rw [if_neg (by rw [hz]; simp)]
    refine wpAny_bind (wpAny_dictEpoch ga ta (wpAny_bind ?_))
    rw [Std.Legacy.Range.forIn_eq_forIn_range']
    simp only [Std.Legacy.Range.size, Nat.sub_zero, Nat.add_sub_cancel, Nat.div_one]
    refine wpAny_forIn_list _ (fun rest p s' => s' = s ∧ p = (none, ()) ∧ ∃ i, rest = List.range' i (ea.size - i) ∧ i ≤ ea.size ∧ Hits A s xb (xa.drop i) r) _ ?_ ?_ _ _ ⟨rfl, rfl, 0, by simp, Nat.zero_le _, g⟩
    · rintro x rest p s' ⟨rfl, rfl, i, hr, hi, hp⟩
      have lt : i < ea.size := by
        rcases Nat.lt_or_ge i ea.size with z | z
        · exact z
        · rw [Nat.sub_eq_zero_of_le z] at hr
          simp at hr
      have e1 : ea.size - i = (ea.size - (i + 1)) + 1 := by omega
      rw [e1, List.range'_succ] at hr
      obtain ⟨rfl, hr2⟩ := List.cons.inj hr
      have lt' : x < xa.length := by rw [← za]; exact lt
      obtain ⟨y, hy⟩ : ∃ y, xa[x] = y := ⟨_, rfl⟩
      have hd : xa.drop x = y :: xa.drop (x + 1) := by rw [← hy]; exact List.drop_eq_getElem_cons lt'
      have ex : ea[x]? = some (entryOfKey knd y) := by rw [entry_at la x, List.getElem?_eq_getElem lt', hy]; rfl
      have iy : knd.is s'.heap y.1 y.2.1 := ia y (by rw [← hy]; exact List.getElem_mem lt')
      rw [hd] at hp
      refine wpAny_bind (wpAny_dictEntries ga ta ?_)
      rw [ex]
      show wpAny _ _ (holding [(entryOfKey knd y).key, (entryOfKey knd y).val] _ >>= _) _ _ _
      refine wpAny_bind (wpAny_holding (wpAny_bind ?_))
      refine wpAny_dictFind_heap hu iy gb tb lb ib ub (fun hno => ?_) fun j p hj => ?_
      · have hn := atKey_none_of_get hno
        cases hp with
        | miss _ =>
          refine wpAny_pure ?_
          show wpAny _ _ (if (!false) = true then _ else _) _ _ _
          rw [if_pos (by decide)]
          exact wpAny_pure (wpAny_pure q)
        | hit h1 _ _ =>
          rw [hn] at h1
          cases h1
      · have hn := atKey_of_get ub hj
        refine wpAny_bind (wpAny_dictEntries gb tb ?_)
        rw [entry_at lb j, hj]
        cases hp with
        | miss h1 =>
          rw [hn] at h1
          cases h1
        | @hit _ p' _ e b' h1 h2 h3 =>
          rw [hn] at h1
          obtain rfl := Option.some.inj h1
          refine wpAny_holding (h2 prog w _ _ ?_)
          cases e with
          | false =>
            show wpAny _ _ (if (!false) = true then _ else _) _ _ _
            rw [if_pos (by decide)]
            exact wpAny_pure (wpAny_pure (by simpa using q))
          | true =>
            show wpAny _ _ (if (!true) = true then _ else _) _ _ _
            rw [if_neg (by decide)]
            refine wpAny_bind (wpAny_dictEpoch ga ta ?_)
            rw [if_neg (by simp)]
            exact wpAny_pure ⟨rfl, rfl, x + 1, hr2, lt, by simpa using h3⟩
    · rintro p s' ⟨rfl, rfl, i, hr, hi, hp⟩
      have e1 : i = ea.size := by
        rcases Nat.lt_or_ge i ea.size with z | z
        · have e2 : ea.size - i = (ea.size - (i + 1)) + 1 := by omega
          rw [e2, List.range'_succ] at hr
          cases hr
        · exact Nat.le_antisymm hi z
      rw [e1, za, List.drop_length] at hp
      cases hp
      exact wpAny_pure q
theorem eq_at {a b : Addr} {xa xb : Ent K} {r : Bool} {Q : Value → Shared → Prop} (hr : knd.room A.in1) (na : (a == sysModules) = false) (nb : (b == sysModules) = false) (da : s.heap.DictOfH knd a xa) (db : s.heap.DictOfH knd b xb) (hu : A.units < cLine)
    (hits : xa.length = xb.length → Hits A.in1 s xb xa r) (h : Q (.bool (xa.length == xb.length && r)) s) : wpAny (model prog w) A (compareOp .Eq (.ref a) (.ref b)) Q E s := by
  refine wpAny_richCompare_same_room (op := .Eq) da.typeIs db.typeIs PySem.F.slot_dict_eq (wpAny_call_entry PySem.F.slot_dict_eq da.typeIs PySem.F.entry_dict_eq ?_ (PySem.F.args_dict_eq_2 _ _)) hu
  show wpAny _ _ (Builtin.Dict.dictSlotArgs "__eq__" ⟨[.ref a, .ref b], []⟩ >>= _) _ _ s
  unfold Builtin.Dict.dictSlotArgs
  refine wpAny_bind (wpAny_bind (wpAny_notOrdered_dict da.typeIs (by
    show wpAny _ _ (pure (Value.ref a, Value.ref b)) _ _ s
    refine wpAny_pure (wpAny_bind (wpAny_isInstance (T := "dict") db.typeIs PySem.F.sub_dict_dict ?_))
    simp only [Bool.not_true, Bool.false_eq_true, if_false]
    refine wpAny_bind (wpAny_pure (wpAny_bind (wpAny_pure (wpAny_bind (same hr na nb da db hits ?_)))))
    exact wpAny_pure ⟨_, rfl, (by intro x; cases x), by simpa using h⟩)))
end
end DtE
namespace DtE
open PySem PySem.Spec PyProof.Rows L2
/-- amounts by tuples -/
abbrev TRow := List (List Key × Int)
def tents (r : TRow) : List (List Key × V) := r.map fun t => (t.1, .int t.2)
def lookT (r : TRow) (k : List Key) : Option Int := (r.find? fun t => decide (t.1 = k)).map (·.2)
def sameT (a b : TRow) : Bool := a.length == b.length && a.all fun t => decide (lookT b t.1 = some t.2)
theorem valV_tents (k : List Key) : ∀ r : TRow, valV (tents r) k = (lookT r k).map V.int
  | [] => rfl
  | t :: r => by
    have ih := valV_tents k r
    unfold tents lookT at ih ⊢
    by_cases e : t.1 = k
    · rw [List.map_cons, valV_pos e, List.find?_cons, decide_eq_true e] <;> rfl
    · rw [List.map_cons, valV_neg e, ih, List.find?_cons, decide_eq_false e]
theorem hits_of {H : Hp} {A : Around} {s : Shared} {b : TRow} {xb : List (List Key × Addr × Value)} (rb : KT H (tents b) xb) : ∀ {a : TRow} {xa : List (List Key × Addr × Value)}, KT H (tents a) xa → Hits A s xb xa (a.all fun t => decide (lookT b t.1 = some t.2))
  | [], _, r => by
    cases r
    exact .nil
  | t :: a, _, r => by
    cases r with
    | @cons _ q _ _ h h2 =>
      obtain ⟨e1, _, ev⟩ := h
      have ih := hits_of (A := A) (s := s) rb h2
      have z := rb.val t.1
      rw [valV_tents] at z
      rw [List.all_cons]
      cases c : lookT b t.1 with
      | none =>
        rw [c] at z
        have z2 : atKey xb q.1 = none := by
          rw [← e1]
          cases y : atKey xb t.1 with
          | none => rfl
          | some p =>
            rw [y] at z
            exact z.elim
        exact .miss z2
      | some n =>
        rw [c] at z
        cases y : atKey xb t.1 with
        | none =>
          rw [y] at z
          exact z.elim
        | some p =>
          rw [y] at z
          obtain ⟨u, eu⟩ : ∃ u, p.2 = Value.int n u := z
          obtain ⟨u2, eu2⟩ : ∃ u, q.2.2 = Value.int t.2 u := ev
          have eq : SeqAt.EqAt A s q.2.2 p.2 (decide (t.2 = n)) := by
            have f := PySem.W.keq_flat (A := A) (s := s) (v := q.2.2) (y := p.2) (d := .int t.2) (e := .int n) (by rw [eu2]; exact PyProof.V.Flat.int _ _) (by rw [eu]; exact PyProof.V.Flat.int _ _)
            have e3 : PyData.eqv (.int t.2) (.int n) = decide (t.2 = n) := by
              by_cases w : t.2 = n
              · simp [PyData.eqv, w]
              · simp [PyData.eqv, w]
            rw [e3] at f
            exact f
          have e4 : decide (some n = some t.2) = decide (t.2 = n) := by
            by_cases w : t.2 = n
            · rw [w, decide_eq_true rfl, decide_eq_true rfl]
            · rw [decide_eq_false w, decide_eq_false fun h => w (Option.some.inj h).symm]
          rw [e4]
          exact .hit (p := p) (by rw [← e1]; exact y) eq ih
def rEqT : R2 := fun x y H Q => ∃ (a b : Addr) (r r' : TRow), x = .ref a ∧ y = .ref b ∧ H a = some (.dT (tents r)) ∧ H b = some (.dT (tents r')) ∧ Q (.bl (sameT r r')) H
theorem op_eqT {X : Cx} (hu : X.A.units + 1 < cLine) : OpR X (compareOp .Eq) rEqT := by
  intro pins s σ H x y v u Q I rx ry h
  obtain ⟨a, b, r, r', rfl, rfl, ha, hb, q⟩ := h
  cases rx
  cases ry
  obtain ⟨_, na, xa, ra, da⟩ := dt_of I.hok ha
  obtain ⟨_, nb, xb, rb, db⟩ := dt_of I.hok hb
  refine eq_at (knd := tupleKind (mixKind X.prog X.w)) (by show X.A.units + 1 < cLine; exact hu) na nb da db (by omega) (fun _ => hits_of rb ra) ?_
  have l1 : xa.length = r.length := by rw [← Paired.length ra]; exact List.length_map _
  have l2 : xb.length = r'.length := by rw [← Paired.length rb]; exact List.length_map _
  exact fin_bl I q (by rw [l1, l2]; rfl)
end DtE

set_option Elab.async false
set_option linter.all false
set_option maxRecDepth 100000
set_option maxHeartbeats 4000000
/-! Names in their order; what a side tells. -/
namespace Fk
open PySem PySem.Spec PyProof.Rows L2 EvP
def leS (a b : Str) : Prop := a.cps.toList ≤ b.cps.toList
theorem leS_trans {a b c : Str} (h : leS a b) (k : leS b c) : leS a c := List.le_trans h k
theorem leS_anti {a b : Str} (h : leS a b) (k : leS b a) : a = b := by
  have := List.le_antisymm h k
  cases a
  cases b
  exact congrArg Str.mk (Array.toList_inj.mp this)
theorem leS_total (a b : Str) : leS a b ∨ leS b a := List.le_total _ _
theorem rising_pairwise : ∀ (l : List Str) (p : Str), risingS p l = true → (p :: l).Pairwise leS
  | [], _, _ => List.pairwise_singleton _ _
  | x :: r, p, h => by
    obtain ⟨h1, h2⟩ := Bool.and_eq_true_iff.mp (show (!ltCps x.cps.toList p.cps.toList && risingS x r) = true from h)
    have h3 : leS p x := by
      rw [ltCps_eq] at h1
      exact List.not_lt.mp (by simpa using h1)
    have ih := rising_pairwise r x h2
    refine List.pairwise_cons.mpr ⟨fun y hy => ?_, ih⟩
    rcases List.mem_cons.mp hy with rfl | hy
    · exact h3
    · exact leS_trans h3 ((List.pairwise_cons.mp ih).1 y hy)
theorem sorted_pairwise : ∀ {l : List Str}, sortedS l = true → l.Pairwise leS
  | [], _ => List.Pairwise.nil
  | x :: r, h => rising_pairwise r x h
/-- names in their order -/
def srt (xs : List Str) : List Str := xs.mergeSort fun a b => decide (a.cps.toList ≤ b.cps.toList)
theorem srt_pairwise (xs : List Str) : (srt xs).Pairwise leS := by
  have := List.pairwise_mergeSort (le := fun a b : Str => decide (a.cps.toList ≤ b.cps.toList)) (fun a b c h k => decide_eq_true (List.le_trans (of_decide_eq_true h) (of_decide_eq_true k)))
    (fun a b => by
      rcases leS_total a b with h | h
      · rw [decide_eq_true (show a.cps.toList ≤ b.cps.toList from h)]
        rfl
      · rw [decide_eq_true (show b.cps.toList ≤ a.cps.toList from h), Bool.or_true]) xs
  exact this.imp fun h => of_decide_eq_true h
theorem srt_perm (xs : List Str) : (srt xs).Perm xs := List.mergeSort_perm xs _
theorem srt_of {xs ys : List Str} (p : ys.Perm xs) (h : sortedS ys = true) : ys = srt xs :=
  List.Perm.eq_of_pairwise (le := leS) (fun _ _ _ _ h k => leS_anti h k) (sorted_pairwise h) (srt_pairwise xs) (p.trans (srt_perm xs).symm)
theorem srt_eq {xs ys : List Str} (p : ys.Perm xs) : srt ys = srt xs :=
  List.Perm.eq_of_pairwise (le := leS) (fun _ _ _ _ h k => leS_anti h k) (srt_pairwise ys) (srt_pairwise xs) ((srt_perm ys).trans (p.trans (srt_perm xs).symm))
/-- names with amounts -/
abbrev Row := List (Str × Int)
def amt (kvs : Row) (n : Str) : Int := (kvs.lookup n).getD 0
/-- all names in their order, each with its amount -/
def asc (kvs : Row) : Row := (srt (kvs.map (·.1))).map fun n => (n, amt kvs n)
/-- those above 0 -/
def told (kvs : Row) : Row := (asc kvs).filter fun t => decide (0 < t.2)
/-- as entries of a dict -/
def ents (kvs : Row) : List (Key × V) := kvs.map fun t => ((Sum.inr t.1 : Key), V.int t.2)
theorem valV_ents : ∀ (kvs : Row) (n : Str), valV (ents kvs) (Sum.inr n) = (kvs.lookup n).map V.int
  | [], _ => rfl
  | t :: r, n => by
    by_cases h : t.1 = n
    · rw [show ents (t :: r) = ((Sum.inr t.1 : Key), V.int t.2) :: ents r from rfl, valV_pos (by rw [h]), show ((t :: r).lookup n) = some t.2 by
        obtain ⟨a, b⟩ := t
        simp only at h
        subst h
        simp [List.lookup]]
      rfl
    · rw [show ents (t :: r) = ((Sum.inr t.1 : Key), V.int t.2) :: ents r from rfl, valV_neg (fun z => h (Sum.inr.inj z)), valV_ents r n, show ((t :: r).lookup n) = r.lookup n by
        obtain ⟨a, b⟩ := t
        have : (n == a) = false := beq_eq_false_iff_ne.mpr fun z => h z.symm
        simp [List.lookup, this]]
theorem lookup_mem : ∀ {kvs : Row} {n : Str}, n ∈ kvs.map (·.1) → ∃ a, kvs.lookup n = some a ∧ (n, a) ∈ kvs
  | (m, b) :: r, n, h => by
    by_cases e : n = m
    · subst e
      exact ⟨b, by simp [List.lookup], .head _⟩
    · rcases List.mem_cons.mp h with h | h
      · exact absurd h e
      · obtain ⟨a, h1, h2⟩ := lookup_mem h
        have : (n == m) = false := beq_eq_false_iff_ne.mpr e
        exact ⟨a, by simp [List.lookup, this, h1], .tail _ h2⟩
theorem amt_of {kvs : Row} {n : Str} (h : n ∈ kvs.map (·.1)) : kvs.lookup n = some (amt kvs n) ∧ (n, amt kvs n) ∈ kvs := by
  obtain ⟨a, h1, h2⟩ := lookup_mem h
  unfold amt
  rw [h1]
  exact ⟨rfl, h2⟩
theorem mem_srt {xs : List Str} {n : Str} : n ∈ srt xs ↔ n ∈ xs := (srt_perm xs).mem_iff
def meth (j : Nat) : Stmt := match top 25 with
  | .ClassDef _ _ _ body _ _ _ _ _ _ _ => body.getD j (.Pass ⟨0, 0, 0, 0⟩)
  | _ => .Pass ⟨0, 0, 0, 0⟩
abbrev sInit : Stmt := meth 0
end Fk

set_option Elab.async false
set_option linter.all false
set_option maxRecDepth 100000
set_option maxHeartbeats 4000000
/-! What calls and signs give, by values. -/
namespace Cm
open PySem PySem.Spec PyProof.Rows L2 EvP
def dictV (kvs : List (Key × V)) : PR := ⟨fun v H => ∃ a, v = .ref a ∧ H a = some (.dK kvs), fun _ _ _ e ⟨a, h1, h2⟩ => ⟨a, h1, e _ _ h2⟩⟩
/-- the same, new over H0 -/
def dictN (H0 : Hp) (kvs : List (Key × V)) : PR := ⟨fun v H => ∃ a, v = .ref a ∧ H a = some (.dK kvs) ∧ H0 a = none, fun _ _ _ e ⟨a, h1, h2, h3⟩ => ⟨a, h1, e _ _ h2, h3⟩⟩
section
variable {K : PySem.W.Frag} {σ : L2.St} {H : Hp} {te tl tv : TE} {xs : List V} {i j : Nat} {vs : List Nat}
theorem g_sorted {ss : List Str} (h : Gives te σ H (lstV (ss.map V.str))) (hz : ss.length < 64) : Gives (tCB (rSortedS K) (tCons te tNil)) σ H (lstV ((Fk.srt ss).map V.str)) := fun H1 e Q q =>
  h H1 e _ fun v H2 e2 ⟨a, ev, ha⟩ => ⟨a, ss, by rw [ev], SqL.of ha, hz, fun ys p pm so hp => by
    rw [Fk.srt_of pm so]
    exact q _ _ (e2.trans (Ex.new hp)) ⟨p, rfl, upd_same⟩⟩
theorem g_sum {ns : List Int} (h : Gives te σ H (lstV (ns.map V.int))) : Gives (tCB (rSum K) (tCons te tNil)) σ H (is (.int ns.sum)) := fun H1 e Q q =>
  h H1 e _ fun v H2 e2 ⟨a, ev, ha⟩ => ⟨a, ns, by rw [ev], SqL.of ha, q _ _ e2 rfl⟩
theorem g_tupV (h : Gives te σ H (lstV xs)) : Gives (tThen te (kTup K)) σ H (tupV xs) := fun H1 e Q q =>
  h H1 e _ fun v H2 e2 ⟨a, ev, ha⟩ => .inl ⟨a, xs, ev, SqL.of ha, fun p hp => q _ _ (e2.trans (Ex.new hp)) ⟨p, rfl, upd_same⟩⟩
theorem g_tup {H0 : Hp} {Ps : List PR} (h : Gives te σ H (lst H0 Ps)) : Gives (tThen te (kTup K)) σ H (tup Ps) := fun H1 e Q q =>
  h H1 e _ fun v H2 e2 ⟨a, ws, ev, ha, _, hs⟩ => .inl ⟨a, ws, ev, SqL.of ha, fun p hp => q _ _ (e2.trans (Ex.new hp)) ⟨p, ws, rfl, upd_same, hs.ex (Ex.new hp)⟩⟩
/-- d[k], d in slot i, k in slot j -/
theorem g_get {d : Addr} {kvs : List (Key × V)} {k : Key} {v : V} (hi : σ[i]? = some (some (.ref d))) (hj : σ[j]? = some (some (kV k))) (hd : H d = some (.dK kvs)) (hv : valV kvs k = some v) : Gives (tDGet (tVar i) (tVar j)) σ H (is v) := fun H1 e Q q =>
  ⟨_, hi, _, hj, d, v, rfl, by rw [← hv]; exact DGet.k (e _ _ hd), q _ _ (Ex.refl H1) rfl⟩
/-- x > n -/
theorem t_gt {a b : TE} {x y : Int} (h : Gives a σ H (is (.int x))) (k : Gives b σ H (is (.int y))) : ∀ H1, Ex H H1 → ∀ Q : Bool → Hp → Prop, (∀ H2, Ex H1 H2 → Q (decide (y < x)) H2) → tTest (tOp (rI0 fun i j => .bl (decide (j < i))) a b) σ H1 Q := fun H1 e Q q =>
  h H1 e _ fun v H2 e2 ev => k H2 (e.trans e2) _ fun u H3 e3 eu => ⟨x, y, ev, eu, _, rfl, q _ (e2.trans e3)⟩
/-- {n: e for n in names} over a tuple of names -/
theorem comp_dict {ss : List Str} (f : Str → V) (h : Gives tl σ H (tupV (ss.map V.str))) (hz : ss.length ≤ 1000) (nod : ss.Nodup) (hi : i < σ.length) (wp : ∀ x, wipe ((wipe σ vs).set i (some x)) vs = wipe σ vs)
    (he : ∀ n ∈ ss, Gives tv ((wipe σ vs).set i (some (.str n))) H (is (f n))) : Gives (tDc (iTup K tl) (gName i) tYes (tVar i) tv vs) σ H (dictN H (ss.map fun n => ((Sum.inr n : Key), f n))) := fun H1 e1 Q q => by
  refine h H1 e1 _ fun v H2 e2 ⟨a, ev, ha⟩ => ⟨a, ev, ⟨_, SqT.of ha⟩, fun D hD => ?_⟩
  refine dc_tup (xs := ss.map V.str) (fun j H' => H' D = some (.dK ((ss.take j).map fun n => ((Sum.inr n : Key), f n))) ∧ Ex H2 H') ⟨by rw [List.take_zero]; exact upd_same, Ex.new hD⟩ (fun j H' _ ⟨_, e3⟩ => SqT.of (e3 _ _ ha)) (fun j x H' hx ⟨a1, a2⟩ => ?_) (fun H' ⟨a1, a2⟩ => ?_)
  · rw [List.getElem?_map] at hx
    obtain ⟨n, hn, rfl⟩ := Option.map_eq_some_iff.mp hx
    have eH := (e1.trans e2).trans a2
    have lw : (wipe σ vs).length = σ.length := wipe_length σ vs
    refine ⟨wp _, .str n, by rw [List.getElem?_set_self (by rw [lw]; exact hi)], he n (List.mem_of_getElem? hn) _ eH _ fun v H4 e4 hv => ⟨_, Sum.inr n, rfl, e4 _ _ a1, ?_, ?_, fun b o hb => ?_⟩⟩
    · rw [List.length_map, List.length_take, sizeLine_eq]
      omega
    · have new : valV ((ss.take j).map fun n => ((Sum.inr n : Key), f n)) (Sum.inr n) = none := by
        have no : ¬ (((ss.take j).map fun n => ((Sum.inr n : Key), f n)).any fun kv => decide (kv.1 = Sum.inr n)) = true := by
          intro y
          obtain ⟨p, hp, ep⟩ := List.any_eq_true.mp y
          obtain ⟨m, hm, rfl⟩ := List.mem_map.mp hp
          have e : m = n := Sum.inr.inj (of_decide_eq_true ep)
          rw [e] at hm
          obtain ⟨t, ht, et⟩ := List.getElem_of_mem hm
          rw [List.getElem_take] at et
          have lt : t < j := by
            rw [List.length_take] at ht
            omega
          obtain ⟨jl, ej⟩ := List.getElem?_eq_some_iff.mp hn
          exact List.pairwise_iff_getElem.mp nod t j (by rw [List.length_take] at ht; omega) jl lt (et.trans ej.symm)
        rw [valV_any] at no
        simpa using no
      rw [upd_same, putK_new _ new, List.take_add_one, hn, List.map_append, show v = f n from hv]
      rfl
    · rw [upd_ne (ne_of_none hb hD)]
      exact e4 _ _ (a2 _ _ hb)
  · rw [List.length_map, List.take_length] at a1
    exact q _ _ (e2.trans a2) ⟨D, rfl, a1, (e1.trans e2).back hD⟩
end
end Cm

set_option Elab.async false
set_option linter.all false
set_option maxRecDepth 100000
set_option maxHeartbeats 1000000
/-! {(a, x): worth for a, row in rows.items() for x, worth in row.items() if worth > 0}. -/
namespace Tb
open PySem PySem.Spec PyProof.Rows L2 EvP Cm Fk DtE
/-- names with their rows: the row's address and what it holds -/
abbrev Tab := List (Str × Addr × Fk.Row)
def key2 (a x : Str) : List Key := [Sum.inr a, Sum.inr x]
def wrow (a : Str) (r : Fk.Row) : TRow := (r.filter fun e => decide (0 < e.2)).map fun e => (key2 a e.1, e.2)
def worths (T : Tab) : TRow := T.flatMap fun t => wrow t.1 t.2.2
/-- the dict of rows at d -/
structure TabAt (H : Hp) (d : Addr) (T : Tab) : Prop where
  at_ : H d = some (.dK (T.map fun t => (Sum.inr t.1, V.ref t.2.1)))
  row : ∀ t ∈ T, H t.2.1 = some (.dK (ents t.2.2))
/-- the same, locked -/
structure TabF (H : Hp) (d : Addr) (T : Tab) : Prop where
  at_ : ∃ od, H d = some (.frz od (.dK (T.map fun t => (Sum.inr t.1, V.ref t.2.1))))
  row : ∀ t ∈ T, ∃ od, H t.2.1 = some (.frz od (.dK (ents t.2.2)))
def dictT (H0 : Hp) (r : TRow) : PR := ⟨fun v H => ∃ a, v = .ref a ∧ H a = some (.dT (tents r)) ∧ H0 a = none, fun _ _ _ e ⟨a, h1, h2, h3⟩ => ⟨a, h1, e _ _ h2, h3⟩⟩
theorem wrow_take (a : Str) {r : Fk.Row} {o : Nat} {e : Str × Int} (h : r[o]? = some e) : wrow a (r.take (o + 1)) = wrow a (r.take o) ++ if 0 < e.2 then [(key2 a e.1, e.2)] else [] := by
  unfold wrow
  rw [List.take_add_one, h, Option.toList_some, List.filter_append, List.map_append]
  by_cases c : 0 < e.2
  · rw [if_pos c, List.filter_cons, decide_eq_true c]
    rfl
  · rw [if_neg c, List.filter_cons, decide_eq_false c]
    rfl
theorem wrow_sub (a : Str) (r : Fk.Row) (o : Nat) : (wrow a (r.take o)).Sublist (wrow a r) := ((List.take_sublist o r).filter _).map _
theorem flat_sub {α β : Type} (f : α → List β) : ∀ (l : List α) (n : Nat), ((l.take n).flatMap f).Sublist (l.flatMap f)
  | [], _ => by simp
  | x :: l, 0 => by simp
  | x :: l, n + 1 => by
    rw [List.take_succ_cons, List.flatMap_cons, List.flatMap_cons]
    exact (List.Sublist.refl _).append (flat_sub f l n)
theorem valV_none {r : TRow} {k : List Key} {n : Int} (h : ((r ++ [(k, n)]).map (·.1)).Nodup) : valV (tents r) k = none := by
  rw [valV_tents]
  have z : lookT r k = none := by
    unfold lookT
    rw [Option.map_eq_none_iff, List.find?_eq_none]
    intro t ht e
    rw [List.map_append, List.nodup_append] at h
    exact h.2.2 t.1 (List.mem_map.mpr ⟨t, ht, rfl⟩) k (by simp) (of_decide_eq_true e)
  rw [z]
  rfl
theorem tents_put {r : TRow} {k : List Key} {n : Int} (h : ((r ++ [(k, n)]).map (·.1)).Nodup) : putK (tents r) k (.int n) = tents (r ++ [(k, n)]) := by
  rw [putK_new _ (valV_none h)]
  unfold tents
  rw [List.map_append]
  rfl
section
variable {K : PySem.W.Frag} {Hf : Hp} {d x u : Addr} {T : Tab}
abbrev σ0 (x d u : Addr) : L2.St := [some (.ref x), some (.ref d), some (.ref u), none, none, none, none, none]
theorem comp_worths (h : TabF Hf d T) (nod : ((worths T).map (·.1)).Nodup) (few : (worths T).length ≤ 1000) :
    Gives (Dc2.tDc2 (iItems (tVar 1)) (gTup K 2 (gCons (gName 5) (gCons (gName 3) gNil))) tYes (iItems (tVar 3)) (gTup K 2 (gCons (gName 6) (gCons (gName 7) gNil))) (tTest (tOp (rI0 fun i j => .bl (decide (j < i))) (tVar 7) (tC (.int 0))))
      (tTup (tCons (tVar 5) (tCons (tVar 6) tNil))) (tVar 7) [5, 3, 6, 7] [6, 7]) (σ0 x d u) Hf (dictT Hf (worths T)) := fun H1 e1 Q q => by
  obtain ⟨od, hd⟩ := h.at_
  refine ⟨_, rfl, d, od, _, rfl, e1 _ _ hd, fun D hD => ?_⟩
  have nD : ∀ {H3 : Hp} {o : HO}, Ex H1 H3 → Ex H1 (upd H3 D o) := fun {H3 o} e b w hb => by
    rw [upd_ne (ne_of_none hb hD)]
    exact e _ _ hb
  have w := walk_items (d := d) (o := od) (kvs := T.map fun t => ((Sum.inr t.1 : Key), V.ref t.2.1))
  rw [List.length_map] at w
  refine ⟨fun n m H' => m = T.length - n ∧ n ≤ T.length ∧ H' D = some (.dT (tents ((T.take n).flatMap fun t => wrow t.1 t.2.2))) ∧ Ex H1 H', ⟨T.length, by simp, Nat.zero_le _, by rw [List.take_zero]; exact upd_same, Ex.new hD⟩, ?_⟩
  rintro n m H' ⟨rfl, hn, a1, a2⟩
  have hd' := (e1.trans a2) _ _ hd
  by_cases lt : n < T.length
  · refine .inr ⟨w.goes n H' lt hd', fun H3 => H3 D = some (.dT (tents ((T.take (n + 1)).flatMap fun t => wrow t.1 t.2.2))) ∧ Ex H1 H3, fun H3 p => ⟨T.length - (n + 1), by omega, rfl, lt, p⟩, fun z H3 y => ?_⟩
    obtain ⟨P, y1, y2, rfl, nP, rfl, hy1, hy2⟩ := w.yields n H' z H3 lt hd' y
    obtain ⟨t, ht⟩ : ∃ t, T[n]? = some t := ⟨T[n], List.getElem?_eq_getElem lt⟩
    have mt := List.mem_of_getElem? ht
    simp only [List.getElem?_map, ht, Option.map_some, Option.some.injEq] at hy1 hy2
    subst hy1 hy2
    have eP := Ex.new (o := .tup [kV (Sum.inr t.1), V.ref t.2.1]) nP
    have a1' := eP _ _ a1
    have a2' := a2.trans eP
    generalize hH4 : upd H' P (.tup [kV (Sum.inr t.1), V.ref t.2.1]) = H4 at a1' a2' eP
    have hP : H4 P = some (.tup [.str t.1, V.ref t.2.1]) := by
      rw [← hH4]
      exact upd_same
    refine ⟨P, _, rfl, SqT.of hP, rfl, _, _, rfl, _, _, rfl, rfl, rfl, ?_⟩
    show tYes _ H4 _
    unfold tYes
    dsimp only
    rw [if_pos rfl]
    obtain ⟨orow, hr⟩ := h.row t mt
    have w1 := walk_items (d := t.2.1) (o := orow) (kvs := ents t.2.2)
    have le : (ents t.2.2).length = t.2.2.length := List.length_map _
    rw [le] at w1
    have tk : (T.take (n + 1)).flatMap (fun t => wrow t.1 t.2.2) = (T.take n).flatMap (fun t => wrow t.1 t.2.2) ++ wrow t.1 t.2.2 := by
      rw [List.take_add_one, ht, List.flatMap_append]
      simp
    refine ⟨_, rfl, t.2.1, orow, _, rfl, (e1.trans a2') _ _ hr, ?_⟩
    refine ⟨fun o m H' => m = t.2.2.length - o ∧ o ≤ t.2.2.length ∧ H' D = some (.dT (tents ((T.take n).flatMap (fun t => wrow t.1 t.2.2) ++ wrow t.1 (t.2.2.take o)))) ∧ Ex H1 H', ⟨t.2.2.length, by simp, Nat.zero_le _, by
      rw [List.take_zero]
      unfold wrow
      rw [List.filter_nil, List.map_nil, List.append_nil]
      exact a1', a2'⟩, ?_⟩
    rintro o m H5 ⟨rfl, ho, b1, b2⟩
    have hr5 := (e1.trans b2) _ _ hr
    by_cases lo : o < t.2.2.length
    · refine .inr ⟨w1.goes o H5 lo hr5, fun H6 => H6 D = some (.dT (tents ((T.take n).flatMap (fun t => wrow t.1 t.2.2) ++ wrow t.1 (t.2.2.take (o + 1))))) ∧ Ex H1 H6, fun H6 p => ⟨t.2.2.length - (o + 1), by omega, rfl, lo, p⟩, fun z H6 y => ?_⟩
      obtain ⟨P2, z1, z2, rfl, nP2, rfl, hz1, hz2⟩ := w1.yields o H5 z H6 lo hr5 y
      obtain ⟨e, he⟩ : ∃ e, t.2.2[o]? = some e := ⟨t.2.2[o], List.getElem?_eq_getElem lo⟩
      unfold ents at hz1 hz2
      simp only [List.getElem?_map, he, Option.map_some, Option.some.injEq] at hz1 hz2
      subst hz1 hz2
      have eP2 := Ex.new (o := .tup [kV (Sum.inr e.1), V.int e.2]) nP2
      have b1' := eP2 _ _ b1
      have b2' := b2.trans eP2
      generalize hH7 : upd H5 P2 (.tup [kV (Sum.inr e.1), V.int e.2]) = H7 at b1' b2' eP2
      have hP2 : H7 P2 = some (.tup [.str e.1, V.int e.2]) := by
        rw [← hH7]
        exact upd_same
      refine ⟨P2, _, rfl, SqT.of hP2, rfl, _, _, rfl, _, _, rfl, rfl, rfl, ?_⟩
      refine ⟨_, rfl, e.2, 0, rfl, rfl, _, rfl, ?_⟩
      rw [wrow_take t.1 he]
      by_cases c : 0 < e.2
      · rw [decide_eq_true c]
        dsimp only
        rw [if_pos rfl, if_pos c]
        refine ⟨_, rfl, _, rfl, by show 2 ≤ sizeLine; decide, fun p np => ?_⟩
        have sub : ((T.take n).flatMap (fun t => wrow t.1 t.2.2) ++ wrow t.1 (t.2.2.take o) ++ [(key2 t.1 e.1, e.2)]).Sublist (worths T) := by
          have s1 := wrow_sub t.1 t.2.2 (o + 1)
          rw [wrow_take t.1 he, if_pos c] at s1
          have s2 := flat_sub (fun t : Str × Addr × Fk.Row => wrow t.1 t.2.2) T (n + 1)
          rw [tk] at s2
          rw [List.append_assoc]
          exact ((List.Sublist.refl _).append s1).trans s2
        have nd' := nod.sublist (sub.map (·.1))
        have ep := Ex.new (o := .tup [V.str t.1, V.str e.1]) np
        refine ⟨_, rfl, _, key2 t.1 e.1, p, rfl, upd_same, ep _ _ b1', ?_, ?_, nD (b2'.trans ep)⟩
        · have l := sub.length_le
          unfold tents
          rw [List.length_map, sizeLine_eq]
          rw [List.length_append, List.length_singleton] at l
          omega
        · rw [upd_same, tents_put nd', List.append_assoc]
      · rw [decide_eq_false c]
        dsimp only
        rw [if_neg Bool.false_ne_true, if_neg c, List.append_nil]
        exact ⟨b1', b2'⟩
    · have e : o = t.2.2.length := by omega
      subst e
      rw [List.take_length, ← tk] at b1
      exact .inl ⟨w1.stops H5 hr5, b1, b2⟩
  · have e : n = T.length := by omega
    subst e
    rw [List.take_length] at a1
    exact .inl ⟨w.stops H' hd', q _ _ a2 ⟨D, rfl, a1, e1.back hD⟩⟩
end
end Tb

set_option Elab.async false
set_option linter.all false
set_option maxRecDepth 100000
set_option maxHeartbeats 2000000
/-! is_row, is_pair, unlike, joined, ascending, check_table. -/
namespace Tb
open PySem PySem.Spec PyProof.Rows L2 EvP Cm Fk DtE
theorem SqL.typ {K : PySem.W.Frag} {H : Hp} {a : Addr} {xs : List V} (h : SqL K H a xs) : TyX K H (.ref a) (.type "list") := by
  rcases h with (h | ⟨o, h⟩) | ⟨o, its, n, h, c, _⟩
  · exact .base (.lst h)
  · exact .base (.frz h)
  · exact .kList h c
theorem SqT.typ {K : PySem.W.Frag} {H : Hp} {a : Addr} {xs : List V} (h : SqT K H a xs) : TyX K H (.ref a) (.type "tuple") := by
  rcases h with (h | ⟨o, h⟩) | ⟨o, its, n, h, c, _⟩
  · exact .base (.tup h)
  · exact .fTuple h
  · exact .kTuple h c
theorem SqL.keep {K : PySem.W.Frag} {H H' : Hp} {a : Addr} {xs : List V} (e : Ex H H') (h : SqL K H a xs) : SqL K H' a xs := by
  rcases h with (h | ⟨o, h⟩) | h
  · exact .inl (.inl (e _ _ h))
  · exact .inl (.inr ⟨o, e _ _ h⟩)
  · exact .inr h
theorem SqT.keep {K : PySem.W.Frag} {H H' : Hp} {a : Addr} {xs : List V} (e : Ex H H') (h : SqT K H a xs) : SqT K H' a xs := by
  rcases h with (h | ⟨o, h⟩) | h
  · exact .inl (.inl (e _ _ h))
  · exact .inl (.inr ⟨o, e _ _ h⟩)
  · exact .inr h
theorem SqA.keep {K : PySem.W.Frag} {H H' : Hp} {a : Addr} {xs : List V} (e : Ex H H') (h : SqA K H a xs) : SqA K H' a xs := h.elim (fun h => .inl (SqL.keep e h)) fun h => .inr (SqT.keep e h)
section
variable {P : Program} {w : World} {K : PySem.W.Frag} {mg : Str → Option Value} {base : Heap} {f fN : Addr} {fd fdN : FuncData}
theorem ok_row (F : Fun K "is_row" "is_row" sRow f fd) (T : Blt mg) (R : BltR mg) : FnOk P w K mg base CX0 1 f fd ["value"] (spRow K) := by
  refine F.ok scRow (fun vs H Q E h => ?_) (fun cdv A outer s H vs Q E hr h => ?_)
  · obtain ⟨a, xs, rfl, _⟩ := h
    rfl
  · obtain ⟨a, xs, rfl, h, q⟩ := h
    refine ⟨_, pss_one (ps_ret (pe_callB call_isiT (by rfl) T.isi (by decide +kernel) (pa_cons (pv 0) (pa_cons (pe_tup (pa_cons (pe_bltn (v := .ty "list") (by rfl) R.list (by decide +kernel) rfl) (pa_cons (pe_bltn (v := .ty "tuple") (by rfl) R.tuple (by decide +kernel) rfl) pa_nil))) pa_nil)))), ?_⟩
    refine ⟨_, rfl, by show 2 ≤ sizeLine; decide, fun tp hp => ?_⟩
    have e := Ex.new (H := H) (o := .tup [.ty "list", .ty "tuple"]) hp
    refine ⟨.ref a, tp, [.ty "list", .ty "tuple"], ?_⟩
    rcases SqA.keep e h with h | h
    · exact ⟨.type "list", [.type "list", .type "tuple"], true, rfl, upd_same, .cons (.ty _) (.cons (.ty _) .nil), SqL.typ h, kitAny_cons (b := true) (kit_ty (by decide +kernel)) (fun z => nomatch z) (fun _ => rfl), q _ e⟩
    · exact ⟨.type "tuple", [.type "list", .type "tuple"], true, rfl, upd_same, .cons (.ty _) (.cons (.ty _) .nil), SqT.typ h, kitAny_cons (b := false) (r := true) (kit_ty (by decide +kernel)) (fun _ => kitAny_cons (b := true) (kit_ty (by decide +kernel)) (fun z => nomatch z) (fun _ => rfl)) (fun z => nomatch z), q _ e⟩
/-- is_pair of a pair of names -/
def spPair (K : PySem.W.Frag) : Sp := fun vs H Q _ => ∃ (p : Addr) (a x : Str), vs = [.ref p] ∧ H p = some (.tup [.str a, .str x]) ∧ NameV (.str a) ∧ NameV (.str x) ∧ Q (.bl true) H
theorem ok_pair (F : Fun K "is_pair" "is_pair" sPair f fd) (T : Blt mg) (R : BltR mg) (G : FnOk P w K mg base CX0 1 fN fdN ["value"] (spName K)) (b : Binds K fdN ["value"] []) (gN : mg "is_name" = some (.ref fN)) (kN : PySem.W.keepIn K (.ref fN) = true) :
    FnOk P w K mg base CX0 2 f fd ["value"] (spPair K) := by
  refine F.ok scPair (fun vs H Q E h => ?_) (fun cdv A outer s H vs Q E hr h => ?_)
  · obtain ⟨p, a, x, rfl, _⟩ := h
    rfl
  · obtain ⟨p, a, x, rfl, h, ⟨y, ey, na, na2⟩, ⟨z, ez, nx, nx2⟩, q⟩ := h
    cases ey
    cases ez
    refine ⟨_, pss_one (ps_ret (pe_and (pe_callB call_isi (by rfl) T.isi (by decide +kernel) (pa_cons (pv 0) (pa_cons (pe_bltn (v := .ty "tuple") (by rfl) R.tuple (by decide +kernel) rfl) pa_nil)))
      (pe_and (pe_cmpR op_eq (pe_callB call_len_seq (by rfl) T.len PySem.boot_len (pa_cons (pv 0) pa_nil)) pe_int (nomark _))
      (pe_and (pe_call G hr (by rfl) gN kN b .nil pass0 (pa_cons (pe_ix ix_tup (pv 0) pe_int (fun _ _ => rfl)) pa_nil))
      (pe_one (pe_call G hr (by rfl) gN kN b .nil pass0 (pa_cons (pe_ix ix_tup (pv 0) pe_int (fun _ _ => rfl)) pa_nil))))))), ?_⟩
    refine ⟨_, rfl, _, _, _, _, true, rfl, .ty _, .base (.tup h), kit_ty (by decide +kernel), _, rfl, ?_⟩
    refine ⟨_, rfl, p, _, rfl, .inr (SqT.of h), ?_⟩
    refine ⟨rfl, _, rfl, ?_⟩
    rw [show decide (V.int (([V.str a, V.str x].length : Nat) : Int) = V.int 2) = true from decide_eq_true rfl, if_pos rfl]
    refine ⟨_, rfl, p, _, _, _, rfl, rfl, SqT.of h, atI_nat (xs := [V.str a, V.str x]) (j := 0) rfl, _, rfl, .inl ⟨a, rfl, na, _, rfl, ?_⟩⟩
    rw [na2, if_pos rfl]
    refine ⟨_, rfl, p, _, _, _, rfl, rfl, SqT.of h, atI_nat (xs := [V.str a, V.str x]) (j := 1) rfl, _, rfl, .inl ⟨x, rfl, nx, ?_⟩⟩
    rw [nx2]
    exact q
end
end Tb

set_option Elab.async false
set_option linter.all false
set_option maxRecDepth 100000
set_option maxHeartbeats 4000000
/-! Statements that only add objects: calls, fields. -/
namespace Fk
open PySem PySem.Spec PyProof.Rows L2 EvP Cm
/-- more built-ins that are still themselves -/
structure Blt2 (mg : Str → Option Value) : Prop where
  sorted : mg "sorted" = none
  tuple : mg "tuple" = none
  sum : mg "sum" = none
section
variable {K : PySem.W.Frag} {te ta : TE} {σ : L2.St} {H : Hp} {P : PR} {sp : Sp} {dvs : List V} {E : XK} {u : TS} {D : Ends} {f : Str}
theorem st_call (h : EvP.Gives te σ H P) (k : ∀ v H1, Ex H H1 → P.R v H1 → sp ([v] ++ dvs) H1 (fun _ H' => u D σ H') E) : tSeq (tDrop (tCall sp dvs E (tCons te tNil))) u D σ H := h H (Ex.refl H) _ k
theorem st_fld {i : Nat} (h : EvP.Gives te σ H P) (k : ∀ v H1, Ex H H1 → P.R v H1 → ∃ a C dx fs, σ[i]? = some (some (.ref a)) ∧ H1 a = some (.ins C dx fs) ∧ Cls K C ∧ NoAttr K C f ∧ fs.length < 1000 ∧ u D σ (upd H1 a (.ins C dx (putF f v fs)))) :
    tSeq (sFld K (tVar i) te f) u D σ H := h H (Ex.refl H) _ fun v H1 e r => by
  obtain ⟨a, C, dx, fs, h1, h2, h3, h4, h5, h6⟩ := k v H1 e r
  exact ⟨_, h1, a, C, dx, fs, rfl, h2, h3, h4, h5, h6⟩
theorem st_fld1 {i : Nat} (h : EvP.Gives te σ H P) (k : ∀ v H1, Ex H H1 → P.R v H1 → ∃ a C dx fs, σ[i]? = some (some (.ref a)) ∧ H1 a = some (.ins C dx fs) ∧ Cls K C ∧ NoAttr K C f ∧ fs.length < 1000 ∧ D.nx σ (upd H1 a (.ins C dx (putF f v fs)))) :
    sFld K (tVar i) te f D σ H := h H (Ex.refl H) _ fun v H1 e r => by
  obtain ⟨a, C, dx, fs, h1, h2, h3, h4, h5, h6⟩ := k v H1 e r
  exact ⟨_, h1, a, C, dx, fs, rfl, h2, h3, h4, h5, h6⟩
theorem g_fld {i : Nat} {a C dx : Addr} {fs : List (Str × V)} {v : V} (hi : σ[i]? = some (some (.ref a))) (ha : H a = some (.ins C dx fs)) (c : Cls K C) (n : NoAttr K C f) (l : fs.lookup f = some v) (hp : P.R v H) : EvP.Gives (tFld K (tVar i) f) σ H P :=
  fun H1 e Q q => ⟨_, hi, a, C, dx, fs, v, rfl, e _ _ ha, c, n, l, q _ _ (Ex.refl H1) (P.mono _ _ _ e hp)⟩
end
theorem Gives.imp {te : TE} {σ : L2.St} {H : Hp} {Q R : PR} (h : EvP.Gives te σ H Q) (k : ∀ v H, Q.R v H → R.R v H) : EvP.Gives te σ H R := fun H1 e q z => h H1 e q fun v H2 e2 hv => z v H2 e2 (k _ _ hv)
theorem tup_is {xs : List V} {v : V} {H : Hp} (h : (tup (xs.map is)).R v H) : (tupV xs).R v H := by
  obtain ⟨a, ws, ev, ha, hs⟩ := h
  exact ⟨a, ev, by rw [← all2_is hs]; exact ha⟩
end Fk

set_option Elab.async false
set_option linter.all false
set_option maxRecDepth 100000
set_option maxHeartbeats 4000000
/-! list(d.values()). -/
namespace Cm
open PySem PySem.Spec PyProof.Rows L2 EvP
theorem kv_vals : ∀ {kvs : List (Key × V)} {vs : List (Key × Value)}, KV kvs vs → Vals (kvs.map (·.2)) (vs.map (·.2))
  | [], [], _ => .nil
  | _ :: _, _ :: _, .cons a t => .cons a.2 (kv_vals t)
def tListVals (td : TE) : TE := fun σ H Q => td σ H fun x H1 => ∃ (a : Addr) (kvs : List (Key × V)), x = .ref a ∧ H1 a = some (.dK kvs) ∧ ∀ p, H1 p = none → Q (.ref p) (upd H1 p (.lst (kvs.map (·.2))))
theorem pe_listVals {X : Cx} {o : Expr} {td : TE} {p pos apos mpos : Pos} (hc : X.calm = true) (hg : Gl X "list") (hm : X.mg "list" = none) (hd : PE X o td) (hbase : attributeBase o "values" X.env (eval o X.env) = eval o X.env := by rfl) (hline : (apos.endLine == mpos.line) = true := by rfl)
    (hse : starEach [Expr.Call (.Attribute o "values" apos) [] [] mpos] X.env = [(false, eval (Expr.Call (.Attribute o "values" apos) [] [] mpos) X.env)] := by rfl) :
    PE X (.Call (.Name "list" p) [.Call (.Attribute o "values" apos) [] [] mpos] [] pos) (tListVals td) := by
  refine ⟨fun pins s σ H Q I h => ?_⟩
  refine wpAny_Call_Name_kw (ld_blt I hg hm (u := .type "list") (by decide +kernel) ?_ (by decide +kernel) (by decide +kernel))
  rw [hse]
  refine PySem.callWith_type1 (wpAny_Call_method0_late hbase hline (thn (hd.run pins s σ H _ I h) fun v s1 ⟨x, H1, I1, r1, a, kvs, ev, ha, q⟩ => ?_))
  subst ev
  obtain rfl : v = Value.ref a := r1
  obtain ⟨z, sy, vs, rel, dof⟩ := dk_of I1.hok ha
  obtain ⟨ep, dat⟩ := dof.dictAt
  have d2 := dat
  obtain ⟨ob, es, ho, ex, _⟩ := d2
  refine ⟨"dict", "dict.values", F.plainAttrs_dict, F.slot_dict_values, F.type_dict_values, ⟨ob, ho, ex.1⟩, fun b e => ?_, Calls.callWith_builtin rfl (PySem.evalArgs_none ?_)⟩
  · cases e
    exact ⟨ob, ho, ex.2.1⟩
  refine call_meetsIn F.slot_dict_values ⟨ob, ho, ex.1⟩ F.entry_dict_values (F.args_dict_values_1 _) (meets_dict_values (mixKind X.prog X.w) a sy) ⟨⟨vs, dof⟩, ?_⟩
  have k1 : ∀ b u, s1.heap.get? b = some u → (s1.heap.push { cls := .type "dict_values", data := .fields #[.ref a] }).get? b = some u := fun b u e => Heap.get?_push_of_some _ e
  have sz : (s1.heap.push { cls := .type "dict_values", data := .fields #[.ref a] }).objs.size = s1.heap.objs.size + 1 := Heap.size_push _ _
  refine PySem.W.kdl_call (PySem.W.kdl_values (knd := mixKind X.prog X.w) (r := s1.heap.objs.size) (d := a) (kvs := vs) (ep := ep)) (I.ok.hd hc) ⟨⟨_, Heap.get?_push_size _ rfl, rfl, rfl⟩, dat.keep k1⟩ (by rw [← rel.length]; exact z) fun h2 tk acc c2 hk hD hacc => ?_
  have hl : acc.toList = vs.map (·.2) := by
    refine List.ext_getElem? fun j => ?_
    rw [List.getElem?_map, Array.getElem?_toList]
    cases hj : acc[j]? with
    | some v =>
      obtain ⟨k, hk2⟩ := hacc.2 j v hj
      rw [hk2]
      rfl
    | none =>
      have : vs.length ≤ j := by
        rw [← hacc.1]
        exact Array.getElem?_eq_none_iff.mp hj
      rw [List.getElem?_eq_none_iff.mpr this]
      rfl
  have new : ObjOk X.prog X.w (upd H1 (s1.heap.objs.size + 1) (.lst (kvs.map (·.2)))) h2 (s1.heap.objs.size + 1) (.lst (kvs.map (·.2))) :=
    ⟨by rw [List.length_map]; exact z, acc.toList, c2, by rw [hl]; exact kv_vals rel, by rw [Array.toArray_toList, ← sz]; exact hD⟩
  have nn : H1 (s1.heap.objs.size + 1) = none := I1.hok.fresh (Nat.le_succ _)
  refine ⟨.ref (s1.heap.objs.size + 1), upd H1 (s1.heap.objs.size + 1) (.lst (kvs.map (·.2))), I1.laid (t' := tk) (fun b u e => hk b u (k1 b u e)) (Nat.le_succ _) new, ?_, q _ nn⟩
  show Value.ref _ = Value.ref _
  rw [sz]
end Cm

set_option Elab.async false
set_option linter.all false
set_option maxRecDepth 100000
set_option maxHeartbeats 2000000
/-! check_table. -/
namespace Tb
open PySem PySem.Spec PyProof.Rows L2 EvP Cm Fk DtE
abbrev sCheck : Stmt := top 30
abbrev NC : List Str := ["rows", "uses", "row"]
theorem scCheck : FnScope NC ["rows", "uses"] (defScope sCheck) := ⟨rfl, rfl, rfl, by decide +kernel, rfl, by decide +kernel, by decide +kernel⟩
/-- the dict of rows, as an object -/
abbrev rowsO (T : Tab) : HO := .dK (T.map fun t => (Sum.inr t.1, V.ref t.2.1))
/-- a dict of rows that Table takes -/
structure TabOk (T : Tab) : Prop where
  nod : (T.map (·.1)).Nodup
  nodA : (T.map (·.2.1)).Nodup
  nm : ∀ t ∈ T, NameV (.str t.1)
  row : ∀ t ∈ T, (t.2.2.map (·.1)).Nodup ∧ (∀ e ∈ t.2.2, NameV (.str e.1) ∧ 0 ≤ e.2) ∧ t.2.2.length ≤ 12
  few : T.length ≤ 12
def locks (d : Addr) (T : Tab) : List (Addr × HO) := (d, rowsO T) :: T.map fun t => (t.2.1, .dK (ents t.2.2))
theorem froz1 {d : Addr} {T : Tab} {H Hf : Hp} (h : TabAt H d T) (f : Froz [(d, rowsO T)] H Hf) : (∃ od, Hf d = some (.frz od (rowsO T))) ∧ ∀ t ∈ T, Hf t.2.1 = some (.dK (ents t.2.2)) := by
  refine ⟨f.at_ _ (.head _), fun t ht => ?_⟩
  have ne : t.2.1 ≠ d := fun z => by
    have a := h.row t ht
    rw [z, h.at_] at a
    have b := HO.dK.inj (Option.some.inj a)
    cases c : t.2.2 with
    | nil =>
      rw [c] at b
      have : T = [] := List.map_eq_nil_iff.mp b
      rw [this] at ht
      cases ht
    | cons e r =>
      rw [c] at b
      cases T with
      | nil => cases ht
      | cons t0 T0 =>
        have := (List.cons.inj b).1
        have := (Prod.mk.inj this).2
        cases this
  rw [f.old _ (by simpa using ne)]
  exact h.row t ht
section
variable {K : PySem.W.Frag} {σ : L2.St} {H : Hp} {t : TE} {ds : List (Addr × HO)} {xs : List V}
theorem g_lockL (nd : (ds.map (·.1)).Nodup) (at_ : ∀ p ∈ ds, H p.1 = some p.2 ∧ Mut (some p.2)) (h : ∀ H1, Ex H H1 → ∀ Hf, Froz ds H1 Hf → EvP.Gives t σ Hf (lstV xs)) : EvP.Gives (tLockL t) σ H (lstV xs) :=
  g_lock nd at_ h fun v H1 Hf H' H2 _ fr e th ⟨a, ev, ha⟩ => ⟨a, ev, th.new fr e ha fun _ _ z => nomatch z⟩
theorem g_allT {n : Nat} {te : TE} (h : EvP.Gives te σ H (lstV (List.replicate n (.bl true)))) : EvP.Gives (tCB (rAll K) (tCons te tNil)) σ H (is (.bl true)) := fun H1 e Q q =>
  h H1 e _ fun v H2 e2 ⟨a, ev, ha⟩ => by
    subst ev
    refine ⟨a, List.replicate n true, rfl, SqL.of (by rw [List.map_replicate]; exact ha), ?_⟩
    rw [show (List.replicate n true).all id = true by rw [List.all_eq_true]; intro b hb; exact (List.mem_replicate.mp hb).2]
    exact q _ _ e2 rfl
theorem TabAt.ex {H1 : Hp} {d : Addr} {T : Tab} (e : Ex H H1) (h : TabAt H d T) : TabAt H1 d T := ⟨e _ _ h.at_, fun t ht => e _ _ (h.row t ht)⟩
/-- all([isinstance(row, dict) for row in rows.values()]) -/
theorem g_dicts {d u : Addr} {T : Tab} (h : TabAt H d T) (few : T.length ≤ 12) : EvP.Gives (tCB (rAll K) (tCons (tLockL (tLc (iVals (tVar 0)) (gName 2) tYes (tCB (rIsi K) (tCons (tVar 2) (tCons (tC (.ty "dict")) tNil))) [2])) tNil)) [some (.ref d), some (.ref u), none] H (is (.bl true)) := by
  refine g_allT (n := T.length) (g_lockL (ds := [(d, rowsO T)]) (by simp) (fun p hp => ?_) fun H1 e1 Hf fr => ?_)
  · rw [List.mem_singleton.mp hp]
    exact ⟨h.at_, True.intro⟩
  · obtain ⟨⟨od, f1⟩, f2⟩ := froz1 (h.ex e1) fr
    have w := comp_is (i := 2) (vs := [2]) (te := tCB (rIsi K) (tCons (tVar 2) (tCons (tC (.ty "dict")) tNil))) (tt := tYes) (σ := [some (.ref d), some (.ref u), none]) (H := Hf) (fun _ => true) (fun _ => V.bl true) (walks_vals (m := 0) rfl f1)
      (by rw [List.length_map, List.length_map]; omega) (fun _ => rfl) (fun _ _ H2 _ Q h => h) (fun y hy _ => fun H2 e2 Q q => ?_)
    · rw [List.filter_eq_self.mpr (fun _ _ => rfl), List.map_map, List.map_map, show ((fun _ => V.bl true) ∘ (fun x : Key × V => x.2)) ∘ (fun t : Str × Addr × Fk.Row => ((Sum.inr t.1 : Key), V.ref t.2.1)) = fun _ => V.bl true from rfl, List.map_const'] at w
      exact w
    · rw [List.map_map] at hy
      obtain ⟨t, ht, rfl⟩ := List.mem_map.mp hy
      exact ⟨_, rfl, _, _, _, _, true, rfl, .ty _, .base (.dK (e2 _ _ (f2 t ht))), kit_ty (by decide +kernel), q _ _ (Ex.refl _) rfl⟩
/-- for row in rows.values(): .. -/
theorem st_forV1 {m i : Nat} {d : Addr} {T : Tab} {tb : TS} {D : Ends} (hd : σ[m]? = some (some (.ref d))) (h : TabAt H d T) (h0 : ∃ z, σ = σ.set i z)
    (turn : ∀ t ∈ T, ∀ H1, H1 t.2.1 = some (.dK (ents t.2.2)) → ∀ D' : Ends, (∀ H2, Ex H1 H2 → D'.nx (σ.set i (some (.ref t.2.1))) H2) → tb D' (σ.set i (some (.ref t.2.1))) H1) (k : ∀ y H1, Ex H H1 → D.nx (σ.set i y) H1) :
    tLock (tFor (iVals (tVar m)) (gName i) tb) D σ H := by
  refine ⟨d, rowsO T, h.at_, True.intro, fun od => ?_⟩
  obtain ⟨_, rows⟩ := froz1 h (Hf := upd H d (.frz od (rowsO T))) ⟨fun b hb => by rw [upd_ne (by simpa using hb)], fun p hp => by rw [List.mem_singleton.mp hp]; exact ⟨od, upd_same⟩⟩
  have hf : upd H d (.frz od (rowsO T)) d = some (.frz od (rowsO T)) := upd_same
  have back : ∀ H', Ex (upd H d (.frz od (rowsO T))) H' → Ex H (upd H' d (rowsO T)) := fun H' e b o hb => by
    by_cases c : b = d
    · rw [c, upd_same, ← h.at_, ← c]
      exact hb
    · rw [upd_ne c]
      exact e _ _ (by rw [upd_ne c]; exact hb)
  generalize upd H d (.frz od (rowsO T)) = Hf at rows hf back ⊢
  refine ⟨_, hd, d, od, _, rfl, hf, for_it walk_values (fun n o H' => Ex Hf H' ∧ ∃ y, o = σ.set i y) ⟨Ex.refl Hf, h0⟩ (fun n o H' _ q => q.1 _ _ hf) (fun n x o H' H2 hn q y => ?_) (fun o H' q => ?_)⟩
  · obtain ⟨e, z, rfl⟩ := q
    obtain ⟨rfl, ky, hk⟩ := y
    rw [List.getElem?_map] at hk
    obtain ⟨t, ht, et⟩ := Option.map_eq_some_iff.mp hk
    have et2 := (Prod.mk.inj et).2
    subst et2
    show tb _ ((σ.set i z).set i (some (.ref t.2.1))) H2
    rw [List.set_set]
    exact turn t (List.mem_of_getElem? ht) H2 (e _ _ (rows t (List.mem_of_getElem? ht))) _ fun H3 e3 => ⟨e.trans e3, _, rfl⟩
  · obtain ⟨e, z, rfl⟩ := q
    exact ⟨e _ _ hf, k z _ (back _ e)⟩
theorem st_forV {m i : Nat} {d : Addr} {T : Tab} {tb u : TS} {D : Ends} (hd : σ[m]? = some (some (.ref d))) (h : TabAt H d T) (h0 : ∃ z, σ = σ.set i z)
    (turn : ∀ t ∈ T, ∀ H1, H1 t.2.1 = some (.dK (ents t.2.2)) → ∀ D' : Ends, (∀ H2, Ex H1 H2 → D'.nx (σ.set i (some (.ref t.2.1))) H2) → tb D' (σ.set i (some (.ref t.2.1))) H1) (k : ∀ y H1, Ex H H1 → u D (σ.set i y) H1) :
    tSeq (tLock (tFor (iVals (tVar m)) (gName i) tb)) u D σ H := st_forV1 hd h h0 turn k
end
section
variable {P : Program} {w : World} {K : PySem.W.Frag} {mg : Str → Option Value} {base : Heap} {f fR fN fW : Addr} {fd fdR fdN fdW : FuncData}
def spCheck (K : PySem.W.Frag) : Sp := fun vs H Q _ => ∃ (d u : Addr) (T : Tab) (us : List Str), vs = [.ref d, .ref u] ∧ TabAt H d T ∧ TabOk T ∧ SqA K H u (us.map V.str) ∧ (∀ n ∈ us, NameV (.str n)) ∧ ∀ H', Ex H H' → Q .non H'
theorem ok_check (F : Fun K "check_table" "check_table" sCheck f fd) (T : Blt mg) (R : BltR mg) (hD : mg "dict" = none) (hA : mg "all" = none)
    (GR : FnOk P w K mg base CX0 1 fR fdR ["value"] (spRow K)) (bR : Binds K fdR ["value"] []) (gR : mg "is_row" = some (.ref fR)) (kR : PySem.W.keepIn K (.ref fR) = true)
    (GN : FnOk P w K mg base CX0 2 fN fdN ["values"] (spSeq K NameV)) (bN : Binds K fdN ["values"] []) (gN : mg "check_names" = some (.ref fN)) (kN : PySem.W.keepIn K (.ref fN) = true)
    (GW : FnOk P w K mg base CX0 3 fW fdW ["values"] (spAll K AmtV)) (bW : Binds K fdW ["values"] []) (gW : mg "check_worths" = some (.ref fW)) (kW : PySem.W.keepIn K (.ref fW) = true) :
    FnOk P w K mg base CX0 4 f fd ["rows", "uses"] (spCheck K) := by
  have nd := scCheck.nd
  refine F.ok scCheck (fun vs H Q E h => ?_) (fun cdv A outer s H vs Q E hr h => ?_)
  · obtain ⟨d, u, T, us, rfl, _⟩ := h
    rfl
  · obtain ⟨d, u, Tb, us, rfl, hT, ok, hU, nU, q⟩ := h
    refine ⟨_, pss_cons (ps_if (PW.pt (pw_or (pt_not (pt_val (pe_callB call_isi (by rfl) T.isi (by decide +kernel) (pa_cons (pv 0) (pa_cons (pe_bltn (v := .ty "dict") (by rfl) hD (by decide +kernel) rfl) pa_nil)))))
        (pw_or1 (pt_not (pt_val (pe_callB (cr_all rfl) (by rfl) hA (by decide +kernel) (pa_cons (pe_lockL (pe_lc (own := [("row", 2)]) (g := gName 2) (tt := tYes) (te := tCB (rIsi K) (tCons (tVar 2) (tCons (tC (.ty "dict")) tNil))) rfl nd (pi_values (pv 0)) (blkOk_by (N := NC) (sc := defScope sCheck) (by decide +kernel))
          (fun _ _ _ _ _ => pg_name (i := 2) nd rfl (Or.inl rfl)) (fun _ _ _ _ _ => pts_nil) (fun _ _ _ _ _ => pe_callB call_isi (by rfl) T.isi (by decide +kernel) (pa_cons (pv 2) (pa_cons (pe_bltn (v := .ty "dict") (by rfl) hD (by decide +kernel) rfl) pa_nil))))) pa_nil))))))) (pss_one ps_dead) pss_nil)
      (pss_cons (ps_if (pt_not (pt_val (pe_call GR (hr.mono (by decide)) (by rfl) gR kR bR .nil pass0 (pa_cons (pv 1) pa_nil)))) (pss_one ps_dead) pss_nil)
      (pss_cons (ps_expr (pe_call GN (hr.mono (by decide)) (by rfl) gN kN bN .nil pass0 (pa_cons (pe_callTy (T := "list") (call_listD rfl) (by rfl) R.list (by decide +kernel) (pa_cons (pv 0) pa_nil)) pa_nil)))
      (pss_cons (ps_lock (ps_for PassesOwn.never rfl (pi_values (pv 0)) (pg_name (i := 2) nd rfl (Or.inl rfl))
        (pss_one (ps_expr (pe_call GN (hr.mono (by decide)) (by rfl) gN kN bN .nil pass0 (pa_cons (pe_callTy (T := "list") (call_listD rfl) (by rfl) R.list (by decide +kernel) (pa_cons (pv 2) pa_nil)) pa_nil))))))
      (pss_cons (ps_expr (pe_call GN (hr.mono (by decide)) (by rfl) gN kN bN .nil pass0 (pa_cons (pv 1) pa_nil)))
      (pss_one (ps_lock (ps_for PassesOwn.never rfl (pi_values (pv 0)) (pg_name (i := 2) nd rfl (Or.inl rfl))
        (pss_one (ps_expr (pe_call GW hr (by rfl) gW kW bW .nil pass0 (pa_cons (pe_listVals rfl (by rfl) R.list (pv 2)) pa_nil))))))))))), ?_⟩
    refine ⟨_, rfl, _, _, _, _, true, rfl, .ty _, .base (.dK hT.at_), kit_ty (by decide +kernel), _, rfl, ?_⟩
    refine g_dicts hT ok.few H (Ex.refl H) _ fun v H1 e1 ev => ?_
    cases (show v = .bl true from ev)
    refine ⟨_, rfl, ?_⟩
    dsimp only [Bool.not_true, tNext]
    rw [if_neg (show ¬ (!true) = true by decide)]
    refine ⟨_, rfl, u, _, rfl, SqA.keep e1 hU, fun H2 e2 => ⟨_, rfl, ?_⟩⟩
    dsimp only [Bool.not_true, tNext]
    rw [if_neg (show ¬ (!true) = true by decide)]
    have e12 := e1.trans e2
    refine ⟨_, rfl, d, _, rfl, .inl (e12 _ _ hT.at_), fun p1 h1 => ⟨p1, _, rfl, .inl (SqL.of upd_same), fun y hy => ?_, ?_⟩⟩
    · rw [List.map_map] at hy
      obtain ⟨t, ht, rfl⟩ := List.mem_map.mp hy
      exact ok.nm t ht
    have e3 := e12.trans (Ex.new (o := .lst ((Tb.map fun t => ((Sum.inr t.1 : Key), V.ref t.2.1)).map fun kv => kV kv.1)) h1)
    generalize upd H2 p1 (.lst ((Tb.map fun t => ((Sum.inr t.1 : Key), V.ref t.2.1)).map fun kv => kV kv.1)) = H3 at e3 ⊢
    refine st_forV (σ := [some (.ref d), some (.ref u), none]) (m := 0) (i := 2) rfl (hT.ex e3) ⟨none, rfl⟩ (fun t ht H4 h4 D' k => ?_) fun y H5 e5 => ?_
    · refine ⟨_, rfl, t.2.1, _, rfl, .inl h4, fun p2 h2 => ⟨p2, _, rfl, .inl (SqL.of upd_same), fun y hy => ?_, k _ (Ex.new h2)⟩⟩
      unfold ents at hy
      rw [List.map_map] at hy
      obtain ⟨e, he, rfl⟩ := List.mem_map.mp hy
      exact ((ok.row t ht).2.1 e he).1
    have e6 := e3.trans e5
    refine ⟨_, rfl, u, _, rfl, SqA.keep e6 hU, fun y hy => ?_, ?_⟩
    · obtain ⟨n, hn, rfl⟩ := List.mem_map.mp hy
      exact nU n hn
    refine st_forV1 (σ := [some (.ref d), some (.ref u), y]) (m := 0) (i := 2) rfl (hT.ex e6) ⟨y, rfl⟩ (fun t ht H4 h4 D' k => ?_) fun z H7 e7 => q H7 (e6.trans e7)
    refine ⟨_, rfl, t.2.1, ents t.2.2, rfl, h4, fun p2 h2 => ⟨p2, _, rfl, SqL.of upd_same, fun y hy => ?_, k _ (Ex.new h2)⟩⟩
    unfold ents at hy
    rw [List.map_map] at hy
    obtain ⟨e, he, rfl⟩ := List.mem_map.mp hy
    exact ⟨e.2, rfl, ((ok.row t ht).2.1 e he).2⟩
end
end Tb

set_option Elab.async false
set_option linter.all false
set_option maxRecDepth 100000
set_option maxHeartbeats 1000000
/-! sorted(xs, key=f), f giving texts: over the heap alone, then as a rule of the hand layer with f = str. -/
namespace KyS
open PySem PySem.W PySem.Calls PyProof.Rows
/-- h' has all of h's objects but the one at a -/
def But (a : Addr) (h h' : Heap) : Prop := ∀ b o, b ≠ a → h.get? b = some o → h'.get? b = some o
theorem But.kept {a : Addr} {h h' h2 : Heap} (k : But a h h') (g : ∀ b o, h'.get? b = some o → h2.get? b = some o) : But a h h2 := fun b o n e => g _ _ (k b o n e)
def Strs (vs : List Value) (ks : List Str) : Prop := EachIs (fun v k => ∃ t, v = Value.str k t) vs ks
theorem Strs.reads {h : Heap} : ∀ {vs : List Value} {ks : List Str}, Strs vs ks → EachIs (fun v d => ∃ as, Reads h v d as) vs (ks.map PyData.str)
  | _, _, .nil => .nil
  | _, _, .cons ⟨t, e⟩ r => .cons ⟨[], by rw [e]; exact .str _ _⟩ (Strs.reads r)
theorem alikeT (ks : List Str) : AllAlike (ks.map PyData.str) := AllAlike.of fun b b' => by simp [alike]
theorem sortableT (ks : List Str) : Sortable (ks.map PyData.str) := Sortable.others fun b => ⟨nofun, fun xs => nofun⟩
/-- what is left: the values that stand for bs, by their keys -/
def Out (kz : List Str) (vs out : List Value) : Prop := ∃ (h : Heap) (ks : List Value), Strs ks kz ∧ out = sortVals (dataKind h (kz.map PyData.str)) false ks vs
theorem Out.each {β : Type} {R : Value → β → Prop} {bs : List β} {vs out : List Value} (k : β → Str) (h : Out (bs.map k) vs out) (hR : EachIs R vs bs) : EachIs R out (bs.mergeSort (dataLe false fun b => PyData.str (k b))) := by
  obtain ⟨hp, ks, hs, rfl⟩ := h
  have e1 : EachIs (fun v d => ∃ as, Reads hp v d as) ks ((bs.map k).map PyData.str) := hs.reads
  have e2 := each_keys (alikeT (bs.map k)) e1
  have e3 : (bs.map k).map PyData.str = bs.map fun b => PyData.str (k b) := by rw [List.map_map]; rfl
  have e4 : ∀ l, l = (bs.map k).map PyData.str → EachIs (fun v d => (dataKind hp ((bs.map k).map PyData.str)).keyOf v = some (keyToks d)) ks l := fun l q => q ▸ e2
  exact sortVals_each (κ := dataKind hp ((bs.map k).map PyData.str)) (fun b => keyToks (PyData.str (k b))) hR (each_of_map (fun b => PyData.str (k b)) (e4 _ e3.symm))
theorem Out.length {kz : List Str} {vs out : List Value} (h : Out kz vs out) (hl : kz.length = vs.length) : out.length = vs.length := by
  obtain ⟨hp, ks, hs, rfl⟩ := h
  exact sortVals_length false (hs.length.trans hl)
section
variable {prog : Program} {w : World} {A : Around} {E : Value → Shared → Prop} {s : Shared} {a kS : Addr} {vs : List Value} {keys : Array Value} {kz : List Str} {h0 : Heap} {e e1 : Nat} {P : PySem.Fin → Shared → Prop}
theorem tail_at {st : SortSt} {out : List Value} (kA : s.heap.get? a = some (seqObj "list" #[] e1)) (kK : s.heap.get? kS = some (seqObj "list" keys e)) (ne : kS ≠ a) (hz : keys.size ≤ sizeLine) (ho : out.length ≤ sizeLine) (hf : failedOf st = none)
    (eo : (arrOf st).map (·.2) = out.toArray) (h : ∀ h' c, (∀ b o, b ≠ a → b ≠ kS → s.heap.get? b = some o → h'.get? b = some o) → h'.get? a = some (seqObj "list" out.toArray c) → P (.done (.ret .none)) { s with heap := h' }) :
    wpAny (model prog w) A (ksk_tail a false e1 (.ref kS) st) P E s := by
  obtain ⟨c1, g1⟩ : ∃ c1, (s.heap.update kS (Obj.mapSeq fun _ => (#[] : Array Value))).get? kS = some (seqObj "list" #[] c1) := ⟨_, get?_update_seq kK fun _ => #[]⟩
  have g2 : (s.heap.update kS (Obj.mapSeq fun _ => (#[] : Array Value))).get? a = some (seqObj "list" #[] e1) := by rw [Heap.get?_update_ne _ _ _ _ (Ne.symm ne)]; exact kA
  obtain ⟨c2, g3⟩ : ∃ c2, ((s.heap.update kS (Obj.mapSeq fun _ => (#[] : Array Value))).update a (Obj.mapSeq fun _ => out.toArray)).get? a = some (seqObj "list" out.toArray c2) := ⟨_, get?_update_seq g2 fun _ => out.toArray⟩
  unfold ksk_tail
  dsimp only
  simp only [Bool.false_eq_true, if_false, eo]
  refine wpAny_bind (listUpdate_at kK rfl (wpAny_bind (wpAny_letGo (wpAny_bind (seqEpoch_at g2 rfl (wpAny_bind (listUpdate_at g2 rfl ?_ (Nat.zero_le _) (by rw [List.size_toArray]; omega))))))) hz (Nat.zero_le _))
  rw [hf]
  simp only [bne_self_eq_false, Bool.false_eq_true, if_false]
  exact wpAny_pure (h _ c2 (fun b o n1 n2 q => by rw [Heap.get?_update_ne _ _ _ _ n1, Heap.get?_update_ne _ _ _ _ n2]; exact q) g3)
theorem end_at (kA : s.heap.get? a = some (seqObj "list" #[] e1)) (kK : s.heap.get? kS = some (seqObj "list" keys e)) (ne : kS ≠ a) (hk : Strs keys.toList kz) (hl : kz.length = vs.length) (hz : vs.length ≤ sizeLine) (hu : A.units + 2 < cLine)
    (h : ∀ h' c out, (∀ b o, b ≠ a → b ≠ kS → s.heap.get? b = some o → h'.get? b = some o) → h'.get? a = some (seqObj "list" (List.toArray out) c) → Out kz vs out → P (.done (.ret .none)) { s with heap := h' }) :
    wpAny (model prog w) A (ksk_end a false vs.toArray e1 (.ref kS) keys) P E s := by
  have kl : keys.toList.length = vs.length := hk.length.trans hl
  have ks' : keys.size = vs.length := by rw [← Array.length_toList]; exact kl
  have S : SortsAt prog w A s (dataKind s.heap (kz.map PyData.str)) keys.toList := SortsAt.data hk.reads (alikeT kz) (sortableT kz) fun d hd => by
    obtain ⟨k, _, rfl⟩ := List.mem_map.mp hd
    show A.units + 0 < cLine
    omega
  obtain ⟨kd, L1, L2⟩ := S.kind
  have KO : PyProof.Rows.KeysOf (dataKind s.heap (kz.map PyData.str)) (keys.zip vs.toArray) := keysOf_zip S.keys
  have O : Out kz vs (sortVals (dataKind s.heap (kz.map PyData.str)) false keys.toList vs) := ⟨s.heap, keys.toList, hk, rfl⟩
  have fin : ∀ st : SortSt, (arrOf st).Perm (keys.zip vs.toArray) → SortedToK (dataKind s.heap (kz.map PyData.str)) (arrOf st) (keys.zip vs.toArray).size → Stable (dataKind s.heap (kz.map PyData.str)) (arrOf st) (keys.zip vs.toArray) → failedOf st = none →
      wpAny (model prog w) A (ksk_tail a false e1 (.ref kS) st) P E s := fun st p1 p2 p3 p4 => by
    have z := sort_out (rev := false) (keys := keys) (items := vs.toArray) (xs := arrOf st) KO p1 p2 p3
    have z2 : (arrOf st).map (·.2) = (sortVals (dataKind s.heap (kz.map PyData.str)) false keys.toList vs).toArray := by
      have y := congrArg List.toArray z
      rw [Array.toArray_toList] at y
      exact y
    exact tail_at kA kK ne (by omega) (by rw [O.length hl]; exact hz) p4 z2 fun h' c q1 q2 => h h' c _ q1 q2 O
  have zs : (keys.zip vs.toArray).size = vs.length := by rw [Array.size_zip, ks', List.size_toArray, Nat.min_self]
  unfold ksk_end
  dsimp only
  simp only [Bool.false_eq_true, if_false]
  by_cases c : vs.toArray.size < 2
  · rw [if_pos c, if_pos c]
    refine wpAny_bind (wpAny_pure ?_)
    rw [StateT.run_pure]
    refine wpAny_bind (wpAny_pure ?_)
    refine fin (SortSt.mk' general' (keys.zip vs.toArray) #[] 7 none) (Array.Perm.refl _) (fun i j i1 i2 => ?_) (Stable.refl _) rfl
    rw [List.size_toArray] at c
    rw [zs] at i2
    have : i = j := by omega
    subst this
    exact KeyOrd.kle_refl _
  · rw [if_neg c, if_neg c]
    rw [List.size_toArray] at c
    have L3 : ∀ {Q : SortKind → Shared → Prop}, Q kd s → wpAny (model prog w) A (keyKind' keys) Q E s := fun {Q} q => by
      have z := L2 (by omega) E (Q := Q) q
      rw [Array.toArray_toList] at z
      exact z
    refine wpAny_bind (L3 ?_)
    refine wpAny_bind (wpAny_mono (H.wpS_sortRunsSt (st := SortSt.mk' kd (keys.zip vs.toArray) #[] 7 none) (Q := fun _ st => failedOf st = none ∧ (arrOf st).Perm (keys.zip vs.toArray) ∧ SortedToK (dataKind s.heap (kz.map PyData.str)) (arrOf st) (keys.zip vs.toArray).size ∧ Stable (dataKind s.heap (kz.map PyData.str)) (arrOf st) (keys.zip vs.toArray))
      L1 KO ⟨Array.Perm.refl _, rfl, rfl⟩ rfl (Stable.refl _) (by omega) fun st p1 p2 p3 p4 => ⟨p2, p1, p3, p4⟩) ?_ fun _ _ z => z)
    rintro ⟨⟨⟩, st⟩ s' ⟨rfl, p1, p2, p3, p4⟩
    exact fin st p2 p3 p4 p1
end
end KyS

set_option Elab.async false
set_option linter.all false
set_option maxRecDepth 100000
set_option maxHeartbeats 1000000
namespace KyS
open PySem PySem.W PySem.Calls PyProof.Rows
theorem Strs.snoc {k : Str} {t : Tok} : ∀ {vs : List Value} {ks : List Str}, Strs vs ks → Strs (vs ++ [.str k t]) (ks ++ [k])
  | _, _, .nil => .cons ⟨t, rfl⟩ .nil
  | _, _, .cons h r => .cons h (Strs.snoc r)
/-- what f gives of an item -/
def Turns (prog : Program) (w : World) (A : Around) (s : Shared) (a : Addr) (f : Value) (vs : List Value) (kz : List Str) : Prop :=
  ∀ (i : Nat) (v : Value) (k : Str), vs[i]? = some v → kz[i]? = some k → ∀ (h : Heap) (tk : Nat), But a s.heap h →
    wpAny (model prog w) A (call f [v]) (fun r s2 => ∃ t h' tk', r = .str k t ∧ s2 = { s with heap := h', toks := tk' } ∧ ∀ b o, h.get? b = some o → h'.get? b = some o) (fun _ _ => False) { s with heap := h, toks := tk }
section
variable {prog : Program} {w : World} {A : Around} {E : Value → Shared → Prop} {s s0 : Shared} {a kS : Addr} {vs : List Value} {kz : List Str} {e1 : Nat} {f : Value} {P : PySem.Fin → Shared → Prop}
theorem rest_at (K : ∀ b o, b ≠ a → s0.heap.get? b = some o → b ≠ kS ∧ s.heap.get? b = some o) (es : s = { s0 with heap := s.heap, toks := s.toks }) (kA : s.heap.get? a = some (seqObj "list" #[] e1)) (kK : s.heap.get? kS = some (seqObj "list" #[] 0)) (ne : kS ≠ a) (hl : kz.length = vs.length) (hz : vs.length ≤ sizeLine) (hu : A.units + 2 < cLine) (T : Turns prog w A s0 a f vs kz)
    (h : ∀ h' tk c out, But a s0.heap h' → h'.get? a = some (seqObj "list" (List.toArray out) c) → Out kz vs out → P (.done (.ret .none)) { s0 with heap := h', toks := tk }) :
    wpAny (model prog w) A (ksk_rest a f false vs.toArray e1 (.ref kS)) P E s := by
  rw [es]
  unfold ksk_rest
  refine wpAny_bind (wpAny_rule ?_)
  first
    | rw [List.forIn_toArray]
    | (rw [← Array.forIn_toList]; simp only [List.toList_toArray])
  refine wpAny_bind (ksk_fold (fun i s' => ∃ h' tk kA' e', s' = { s0 with heap := h', toks := tk } ∧ But a s0.heap h' ∧ (∀ b o, b ≠ a → s0.heap.get? b = some o → b ≠ kS) ∧ h'.get? a = some (seqObj "list" #[] e1) ∧ h'.get? kS = some (seqObj "list" kA' e') ∧ Strs kA'.toList (kz.take i)) vs 0 _
    ⟨s.heap, s.toks, #[], 0, rfl, fun b o n q => (K b o n q).2, fun b o n q => (K b o n q).1, kA, kK, by rw [List.take_zero]; exact .nil⟩ ?step ?done)
  case step =>
    rintro j x s' hx ⟨h', tk, kA', e', rfl, k1, k2, k3, k4, k5⟩
    rw [Nat.zero_add] at k5 ⊢
    have hj : j < vs.length := (List.getElem?_eq_some_iff.mp hx).1
    obtain ⟨k, hk⟩ : ∃ k, kz[j]? = some k := ⟨_, List.getElem?_eq_getElem (by omega)⟩
    have z : kA'.size ≤ vs.length := by
      have y := k5.length
      rw [Array.length_toList, List.length_take] at y
      omega
    refine wpAny_bind (wpAny_attempt (wpAny_mono (T j x k hx hk h' tk k1) (fun v s2 hv => ?_) fun _ _ y => y.elim))
    obtain ⟨t, g, tk2, rfl, rfl, kg⟩ := hv
    dsimp only
    have gK := kg _ _ k4
    obtain ⟨c2, gk2⟩ : ∃ c2, (g.update kS (Obj.mapSeq (·.push (.str k t)))).get? kS = some (seqObj "list" (kA'.push (.str k t)) c2) := ⟨_, get?_update_seq gK (·.push (.str k t))⟩
    refine wpAny_bind (listUpdate_at gK rfl (wpAny_pure ⟨rfl, _, _, kA'.push (.str k t), c2, rfl, fun b o n q => ?_, k2, ?_, gk2, ?_⟩) (Nat.le_trans z hz) (by rw [Array.size_push]; omega))
    · rw [Heap.get?_update_ne _ _ _ _ (k2 b o n q)]
      exact kg _ _ (k1 b o n q)
    · rw [Heap.get?_update_ne _ _ _ _ (Ne.symm ne)]
      exact kg _ _ k3
    · have e3 : kz.take (j + 1) = kz.take j ++ [k] := by rw [List.take_add_one, hk]; rfl
      rw [e3, Array.toList_push]
      exact k5.snoc
  case done =>
    rintro s' ⟨h', tk, kA', e', rfl, k1, k2, k3, k4, k5⟩
    rw [Nat.zero_add, ← hl, List.take_length] at k5
    refine wpAny_bind (listItems_at k4 rfl ?_)
    exact end_at (s := { s0 with heap := h', toks := tk }) k3 k4 ne k5 hl hz hu fun h2 c out q1 q2 q3 => h h2 tk c out (fun b o n q => q1 b o n (k2 b o n q) (k1 b o n q)) q2 q3
theorem tree_at {n : Nat} (ho : s.heap.get? a = some (seqObj "list" vs.toArray n)) (hl : kz.length = vs.length) (hz : vs.length ≤ sizeLine) (hu : A.units + 2 < cLine) (T : Turns prog w A s a f vs kz)
    (h : ∀ h' tk c out, But a s.heap h' → h'.get? a = some (seqObj "list" (List.toArray out) c) → Out kz vs out → P (.done (.ret .none)) { s with heap := h', toks := tk }) :
    wpAny (model prog w) A (ksk_tree a f false) P E s := by
  obtain ⟨e1, g1⟩ : ∃ e1, (s.heap.update a (Obj.mapSeq fun _ => (#[] : Array Value))).get? a = some (seqObj "list" #[] e1) := ⟨_, get?_update_seq ho fun _ => #[]⟩
  have sz : ((s.heap.update a (Obj.mapSeq fun _ => (#[] : Array Value))).push (seqObj "tuple" vs.toArray 0)).objs.size = s.heap.objs.size + 1 := by rw [size_push', Heap.size_update]
  have la := Heap.lt_size ho
  unfold ksk_tree
  refine wpAny_bind (listItems_at ho rfl (wpAny_bind (listUpdate_at ho rfl (wpAny_bind (seqEpoch_at g1 rfl (wpAny_bind (wpAny_newTuple (wpAny_bind (wpAny_newList (wpAny_holding ?_) (Nat.zero_le _))) (by show vs.length ≤ _; exact hz))))) (by rw [List.size_toArray]; exact hz) (Nat.zero_le _))))
  refine rest_at (s0 := s) (s := { s with heap := ((s.heap.update a (Obj.mapSeq fun _ => (#[] : Array Value))).push (seqObj "tuple" vs.toArray 0)).push (seqObj "list" #[] 0) }) (fun b o n q => ⟨?_, ?_⟩) rfl (Heap.get?_push_of_some _ (Heap.get?_push_of_some _ g1)) (Heap.get?_push_size _ rfl) ?_ hl hz hu T h
  · rw [sz]
    exact Nat.ne_of_lt (Nat.lt_succ_of_lt (Heap.lt_size q))
  · refine Heap.get?_push_of_some _ (Heap.get?_push_of_some _ ?_)
    rw [Heap.get?_update_ne _ _ _ _ n]
    exact q
  · rw [sz]
    exact Nat.ne_of_gt (Nat.lt_succ_of_lt la)
/-- sorted(xs, key=f) -/
theorem sorted_at {l : Addr} {Q : Value → Shared → Prop} (hL : s.heap.IsList l vs.toArray) (hl : kz.length = vs.length) (hz : vs.length ≤ sizeLine) (hu : A.units + 8 < cLine)
    (ht : ∀ x, Builtin.«list.sort» ⟨[.ref x], [(Str.ofString "key", f)]⟩ = ksk_tree x f false)
    (T : ∀ (h : Heap) (D : Addr), (∀ b o, s.heap.get? b = some o → b ≠ D ∧ h.get? b = some o) → Turns prog w A.in1.in1 { s with heap := h } D f vs kz)
    (h : ∀ h' tk c out, (∀ b o, s.heap.get? b = some o → h'.get? b = some o) → s.heap.objs.size ≤ s.heap.objs.size + 1 → h'.get? (s.heap.objs.size + 1) = some (seqObj "list" (List.toArray out) c) → Out kz vs out → Q (.ref (s.heap.objs.size + 1)) { s with heap := h', toks := tk }) :
    wpAny (model prog w) A (call (.builtin "sorted") [.ref l] [(Str.ofString "key", f)]) Q E s := by
  refine sorted_of_sort hL hz (ksk_s1 _ _) (fun x => ksk_l1 _ _) fun E' => ?_
  rw [ht]
  have nn : ∀ b o, s.heap.get? b = some o → b ≠ s.heap.objs.size + 1 := fun b o q => Nat.ne_of_lt (Nat.lt_succ_of_lt (Heap.lt_size q))
  exact tree_at (s := { s with heap := copyHeap s.heap vs }) (copyHeap_at s.heap vs) hl hz (by show A.units + 1 + 1 + 2 < cLine; omega) (T _ _ fun b o q => ⟨nn b o q, copyHeap_old q⟩)
    fun h' tk c out k1 k2 k3 => ⟨rfl, h h' tk c out (fun b o q => k1 b o (nn b o q) (copyHeap_old q)) (Nat.le_succ _) k2 k3⟩
end
end KyS

set_option Elab.async false
set_option linter.all false
set_option maxRecDepth 100000
set_option maxHeartbeats 1000000
namespace KyS
open PySem PySem.Spec PyProof.Rows L2
/-- str(x) is k -/
inductive KeyV (H : Hp) : V → Str → Prop
  | str (x : Str) : KeyV H (.str x) x
  | tup {a : Addr} {xs : List V} {ds : List PyData} : H a = some (.tup xs) → DqAll a H xs ds → (PyData.tuple ds).showable = true → (PyData.tuple ds).depth ≤ 60 → (PyData.tuple ds).shown.length ≤ 100000 → KeyV H (.ref a) (PyData.tuple ds).shown
/-- xs, sorted by their texts -/
def byKey (key : V → Str) (xs : List V) : List V := xs.mergeSort (PySem.W.dataLe false fun x => PyData.str (key x))
def rSortK (K : PySem.W.Frag) : List V → List V → Hp → VK → Prop := fun vs zs H Q => ∃ (a : Addr) (xs : List V) (key : V → Str), vs = [.ref a] ∧ zs = [.ty "str"] ∧ SqL K H a xs ∧ (∀ x ∈ xs, KeyV H x (key x)) ∧ ∀ p, H p = none → Q (.ref p) (upd H p (.lst (byKey key xs)))
section
variable {X : Cx}
theorem each_of_vals : ∀ {xs : List V} {us : List Value}, Vals xs us → PySem.W.EachIs (fun u x => RelV x u) us xs
  | _, _, .nil => .nil
  | _, _, .cons h t => .cons h (each_of_vals t)
theorem vals_of_each : ∀ {xs : List V} {us : List Value}, PySem.W.EachIs (fun u x => RelV x u) us xs → Vals xs us
  | _, _, .nil => .nil
  | _, _, .cons h t => .cons h (vals_of_each t)
theorem each_get {α β : Type} {R : α → β → Prop} : ∀ {as : List α} {bs : List β}, PySem.W.EachIs R as bs → ∀ {i : Nat} {a : α} {b : β}, as[i]? = some a → bs[i]? = some b → R a b
  | _, _, .nil, i, a, b, h, _ => by simp at h
  | _, _, .cons r t, 0, a, b, h, k => by
    cases h
    cases k
    exact r
  | _, _, .cons r t, i + 1, a, b, h, k => each_get t (by simpa using h) (by simpa using k)
theorem cr_sortedStr (hg : X.A.guards = some []) (hu : X.A.units + 80 < cLine) : CallRK X (.builtin "sorted") [Str.ofString "key"] (rSortK X.K) := by
  intro pins s σ H vs zs us ws Q I r rz h
  obtain ⟨a, xs, key, rfl, rfl, hs, hk, q⟩ := h
  obtain rfl := Vals.ref1 r
  obtain ⟨w1, rfl, e1⟩ := vals1 rz
  obtain rfl : w1 = Value.type "str" := e1
  obtain ⟨its, rv, hl, hz⟩ := I.list hs
  have ev := each_of_vals rv
  refine sorted_at (vs := its) (kz := xs.map key) hl.isList (by rw [List.length_map]; exact rv.length) (by rw [← rv.length]; exact hz) (by omega) (fun _ => rfl) (fun h D k i v k0 hv hk0 h1 tk hb => ?_) fun h' tk c out k1 _ k2 k3 => ?_
  · rw [List.getElem?_map] at hk0
    obtain ⟨x, hx, rfl⟩ := Option.map_eq_some_iff.mp hk0
    have rx : RelV x v := each_get ev hv hx
    have kp : ∀ b o, s.heap.get? b = some o → h1.get? b = some o := fun b o z => hb b o (k b o z).1 (k b o z).2
    have kx := hk x (List.mem_of_getElem? hx)
    generalize key x = y at kx
    cases kx with
    | str x =>
      obtain ⟨t, rfl⟩ := rx
      exact PySem.P.str_of_str ⟨t, h1, tk, rfl, rfl, fun _ _ z => z⟩
    | @tup b ys ds h2 h3 h4 h5 h6 =>
      cases rx
      obtain ⟨_, us, rus, o, g, cl, n, dt⟩ := (show ObjOk X.prog X.w H s.heap _ (.tup _) from I.hok _ _ h2)
      obtain ⟨as, rd, nm⟩ := DqAll.reads I ds _ us h3 rus
      have R : Reads s.heap (.ref b) (.tuple ds) as := Reads.tuple g cl dt (by simpa using rd)
      exact str_of_reads R h4 (fun _ => nm) hg (by show X.A.units + 1 + 1 + _ < cLine; omega) kp (fun h2 u tk2 k5 => ⟨u, h2, tk2, rfl, rfl, k5⟩) (by rw [sizeLine_eq]; omega)
  · have ee := k3.each key ev
    have vv : Vals (byKey key xs) out := vals_of_each ee
    have lz : (byKey key xs).length ≤ sizeLine := by
      unfold byKey
      rw [(List.mergeSort_perm _ _).length_eq]
      exact hz
    exact ⟨.ref _, upd H (s.heap.objs.size + 1) (.lst (byKey key xs)), I.laid (t' := tk) k1 (Nat.le_succ _) ⟨lz, out, c, vv, k2⟩, rfl, q _ (I.hok.fresh (Nat.le_succ _))⟩
end
end KyS

set_option Elab.async false
set_option linter.all false
set_option maxRecDepth 100000
set_option maxHeartbeats 2000000
/-! ascending, unlike, joined. -/
namespace Tb
open PySem PySem.Spec PyProof.Rows L2 EvP Cm Fk DtE KyS XG
abbrev sAsc : Stmt := top 21
abbrev sUnlike : Stmt := top 32
abbrev sJoined : Stmt := top 33
abbrev NU : List Str := ["names", "name"]
theorem scAsc : FnScope ["values"] ["values"] (defScope sAsc) := ⟨rfl, rfl, rfl, by decide +kernel, rfl, by decide +kernel, by decide +kernel⟩
theorem scUnlike : FnScope NU ["names"] (defScope sUnlike) := ⟨rfl, rfl, rfl, by decide +kernel, rfl, by decide +kernel, by decide +kernel⟩
theorem scJoined : FnScope ["one", "other"] ["one", "other"] (defScope sJoined) := ⟨rfl, rfl, rfl, by decide +kernel, rfl, by decide +kernel, by decide +kernel⟩
/-- the key of a text -/
def keyS : V → Str
  | .str x => x
  | _ => ⟨#[]⟩
theorem byKey_strs (ns : List Str) : byKey keyS (ns.map V.str) = (srt ns).map V.str := by
  unfold byKey srt
  rw [PySem.W.dataLe_str]
  exact (PySem.W.sort_maps (r := fun a b : Str => decide (a.cps.toList ≤ b.cps.toList)) (s := fun a b : V => decide ((keyS a).cps.toList ≤ (keyS b).cps.toList)) V.str fun _ _ _ _ => rfl).symm
theorem KeyV.strs {H : Hp} (ns : List Str) : ∀ x ∈ ns.map V.str, KeyV H x (keyS x) := fun x hx => by
  obtain ⟨n, _, rfl⟩ := List.mem_map.mp hx
  exact .str n
def spAsc (K : PySem.W.Frag) : Sp := fun vs H Q _ => ∃ (a : Addr) (xs : List V) (key : V → Str), vs = [.ref a] ∧ SqL K H a xs ∧ (∀ x ∈ xs, KeyV H x (key x)) ∧ ∀ p H', Ex H H' → H p = none → H' p = some (.tup (byKey key xs)) → Q (.ref p) H'
theorem spAsc_len {K : PySem.W.Frag} : ∀ vs H Q E, spAsc K vs H Q E → vs.length = (["values"] : List Str).length := fun vs H Q E h => by
  obtain ⟨a, xs, key, rfl, _⟩ := h
  rfl
/-- each name once, as it comes first -/
def firsts (ns : List Str) : List Str := ns.foldl (fun acc n => if n ∈ acc then acc else acc ++ [n]) []
def trues (ns : List Str) : List (Key × V) := ns.map fun n => (Sum.inr n, V.bl true)
theorem trues_put (acc : List Str) (n : Str) : putK (trues acc) (Sum.inr n) (.bl true) = trues (if n ∈ acc then acc else acc ++ [n]) := by
  unfold putK trues
  have e : ((acc.map fun n => ((Sum.inr n : Key), V.bl true)).any fun kv => decide (kv.1 = Sum.inr n)) = decide (n ∈ acc) := by
    rw [Bool.eq_iff_iff, List.any_eq_true, decide_eq_true_eq]
    constructor
    · rintro ⟨p, hp, e⟩
      obtain ⟨m, hm, rfl⟩ := List.mem_map.mp hp
      rw [← Sum.inr.inj (of_decide_eq_true e)]
      exact hm
    · intro h
      exact ⟨_, List.mem_map.mpr ⟨n, h, rfl⟩, decide_eq_true rfl⟩
  rw [e]
  by_cases c : n ∈ acc
  · rw [decide_eq_true c, if_pos rfl, if_pos c, List.map_map]
    refine List.map_congr_left fun m _ => ?_
    show (if Sum.inr m = (Sum.inr n : Key) then _ else _) = _
    split <;> rfl
  · rw [decide_eq_false c, if_neg Bool.false_ne_true, if_neg c, List.map_append]
    rfl
theorem firsts_take {ns : List Str} {j : Nat} {n : Str} (h : ns[j]? = some n) : firsts (ns.take (j + 1)) = if n ∈ firsts (ns.take j) then firsts (ns.take j) else firsts (ns.take j) ++ [n] := by
  unfold firsts
  rw [List.take_add_one, h, List.foldl_append]
  rfl
theorem firsts_len : ∀ (ns acc : List Str), (ns.foldl (fun acc n => if n ∈ acc then acc else acc ++ [n]) acc).length ≤ acc.length + ns.length
  | [], acc => by simp
  | n :: ns, acc => by
    rw [List.foldl_cons]
    refine Nat.le_trans (firsts_len ns _) ?_
    split
    · rw [List.length_cons]
      omega
    · rw [List.length_append, List.length_singleton, List.length_cons]
      omega
def spUnlike (K : PySem.W.Frag) : Sp := fun vs H Q _ => ∃ (a : Addr) (ns : List Str), vs = [.ref a] ∧ SqL K H a (ns.map V.str) ∧ ns.length ≤ 1000 ∧ ∀ p H', Ex H H' → H p = none → H' p = some (.tup ((srt (firsts ns)).map V.str)) → Q (.ref p) H'
theorem spUnlike_len {K : PySem.W.Frag} : ∀ vs H Q E, spUnlike K vs H Q E → vs.length = (["names"] : List Str).length := fun vs H Q E h => by
  obtain ⟨a, ns, rfl, _⟩ := h
  rfl
def spJoined (K : PySem.W.Frag) : Sp := fun vs H Q _ => ∃ (a b : Addr) (ns ms : List Str), vs = [.ref a, .ref b] ∧ SqA K H a (ns.map V.str) ∧ SqA K H b (ms.map V.str) ∧ ns.length + ms.length ≤ 1000 ∧ ∀ p H', Ex H H' → H p = none → H' p = some (.tup ((srt (firsts (ns ++ ms))).map V.str)) → Q (.ref p) H'
theorem spJoined_len {K : PySem.W.Frag} : ∀ vs H Q E, spJoined K vs H Q E → vs.length = (["one", "other"] : List Str).length := fun vs H Q E h => by
  obtain ⟨a, b, ns, ms, rfl, _⟩ := h
  rfl
theorem pe_callG {X : Cx} {x : Str} {f : Addr} {fd : FuncData} {k : Nat} {ps : List Str} {sp : Sp} {e : Expr} {es : List Expr} {t : TA} {p pos : Pos} (F : XG.FnG X.prog X.w X.K X.mg X.base CX0 k f fd ps sp) (len : ∀ vs H Q E, sp vs H Q E → vs.length = ps.length) (gd : X.A.guards = some []) (hr : Room k X.A) (hg : Gl X x) (hm : X.mg x = some (.ref f)) (hk : PySem.W.keepIn X.K (.ref f) = true) (hb : Binds X.K fd ps [])
    (ha : PA X (e :: es) t) (hdb : (x == ("__debug__" : Str)) = false := by decide) (he : starEach (e :: es) X.env = (false, eval e X.env) :: starEach es X.env := by rfl) (hpl : (backTo pos (starEach es X.env)).any (·.1) = false := by rfl) :
    PE X (.Call (.Name x p) (e :: es) [] pos) (tCall sp [] E0 t) := by
  refine ⟨fun pins s σ H Q I h => wpAny_Call_Name_kw (ld_glob I hg hm ?_ hdb)⟩
  refine PySem.W.callWith_K (h₀ := X.base) I.ok.mod.kin hk (thn (ha.run pos pins s σ H _ I h) fun us s1 ⟨vs, H1, I1, r, q⟩ => ⟨I1.kIn, ?_⟩) he hpl
  replace q : sp vs H1 Q E0 := by
    have z : sp (vs ++ []) H1 Q E0 := q
    rw [List.append_nil] at z
    exact z
  have n : (us ++ []).length = ps.length := by rw [List.append_nil, ← r.length]; exact len _ _ _ _ q
  refine wpAny_call (codeAny_mono (F X.A X.stack s1 H1 ⟨us, []⟩ (us ++ []) vs Q E0 gd hr I1.env0 (hb s1 us I1.kIn n) (by rw [List.append_nil]; exact r) q) fun r' s' hq => ?_)
  cases r' with
  | error e => exact (show False from hq).elim
  | ok fl =>
    cases fl with
    | ret u => exact I1.after hq
    | next => exact False.elim hq
    | brk => exact False.elim hq
    | cont => exact False.elim hq
section
variable {P : Program} {w : World} {K : PySem.W.Frag} {mg : Str → Option Value} {base : Heap} {f fA fU : Addr} {fd fdA fdU : FuncData}
theorem ok_asc (F : Fun K "ascending" "ascending" sAsc f fd) (T : Blt mg) (T2 : Blt2 mg) : FnG P w K mg base CX0 1 f fd ["values"] (spAsc K) := by
  refine Fun.okG F scAsc spAsc_len fun cdv A outer s H vs Q E gd hr h => ?_
  obtain ⟨a, xs, key, rfl, hs, hk, q⟩ := h
  have hu := hr.un
  refine ⟨_, pss_one (ps_ret (pe_tupleOf (by rfl) T2.tuple (pe_callBK (cr_sortedStr gd (by show A.units + 3 + 80 < cLine; have : A.units + 3 + 16 * 0 + 200 < cLine := hu; omega)) (by rfl) T2.sorted (by decide +kernel) (pa_cons (pv 0) pa_nil) (pk_cons (pe_bltn (v := .ty "str") (by rfl) T.str (by decide +kernel) rfl) pk_nil)))), ?_⟩
  refine ⟨_, rfl, a, xs, key, rfl, rfl, hs, hk, fun p hp => .inl ⟨p, _, rfl, SqL.of upd_same, fun p2 hp2 => q p2 _ ((Ex.new hp).trans (Ex.new hp2)) ((Ex.new hp).back hp2) upd_same⟩⟩
theorem ok_unlike (F : Fun K "unlike" "unlike" sUnlike f fd) (T : Blt mg) (R : BltR mg) (GA : FnG P w K mg base CX0 1 fA fdA ["values"] (spAsc K)) (bA : Binds K fdA ["values"] []) (gA : mg "ascending" = some (.ref fA)) (kA : PySem.W.keepIn K (.ref fA) = true) :
    FnG P w K mg base CX0 2 f fd ["names"] (spUnlike K) := by
  have nd := scUnlike.nd
  refine Fun.okG F scUnlike spUnlike_len fun cdv A outer s H vs Q E gd hr h => ?_
  obtain ⟨a, ns, rfl, hs, few, q⟩ := h
  refine ⟨_, pss_one (ps_ret (pe_callG GA spAsc_len gd hr (by rfl) gA kA bA (pa_cons (pe_callTy (T := "list") (call_listD rfl) (by rfl) R.list (by decide +kernel) (pa_cons
    (pe_dc (own := [("name", 1)]) (g := gName 1) (tt := tYes) (tk := tVar 1) (tv := tC (.bl true)) rfl nd (pi_list (pv 0)) (blkOk_by (N := NU) (sc := defScope sUnlike) (by decide +kernel))
      (fun _ _ _ _ _ => pg_name (i := 1) nd rfl (Or.inl rfl)) (fun _ _ _ _ _ => pts_nil) (fun _ _ _ _ _ => pv 1) (fun _ _ _ _ _ => pe_bl)) pa_nil)) pa_nil))), ?_⟩
  refine ⟨_, rfl, a, rfl, ⟨_, hs⟩, fun D hD => ?_⟩
  have wl := walk_list (K := K) (a := a) (xs := ns.map V.str)
  rw [List.length_map] at wl
  have lf : ∀ n, (trues (firsts (ns.take n))).length ≤ 1000 := fun n => by
    have l := firsts_len (ns.take n) []
    unfold trues firsts
    rw [List.length_map]
    rw [List.length_take, List.length_nil] at l
    omega
  refine ⟨fun n m H' => m = ns.length - n ∧ n ≤ ns.length ∧ H' D = some (.dK (trues (firsts (ns.take n)))) ∧ Ex H H', ⟨ns.length, by simp, Nat.zero_le _, by rw [List.take_zero]; exact upd_same, Ex.new hD⟩, ?_⟩
  rintro n m H' ⟨rfl, hn, a1, a2⟩
  by_cases lt : n < ns.length
  · refine .inr ⟨wl.goes n H' lt (SqL.keep a2 hs), fun H3 => H3 D = some (.dK (trues (firsts (ns.take (n + 1))))) ∧ Ex H H3, fun H3 p => ⟨ns.length - (n + 1), by omega, rfl, lt, p⟩, fun x H3 y => ?_⟩
    obtain ⟨rfl, hx⟩ := wl.yields n H' x H3 lt (SqL.keep a2 hs) y
    rw [List.getElem?_map] at hx
    obtain ⟨nm, hnm, rfl⟩ := Option.map_eq_some_iff.mp hx
    refine ⟨rfl, ?_⟩
    show tYes _ H3 _
    unfold tYes
    dsimp only
    rw [if_pos rfl]
    refine ⟨_, rfl, _, Sum.inr nm, rfl, a1, ?_, ?_, fun b o hb => ?_⟩
    · rw [sizeLine_eq]
      have := lf n
      omega
    · rw [upd_same, trues_put, ← firsts_take hnm]
    · rw [upd_ne (ne_of_none hb hD)]
      exact a2 _ _ hb
  · have e : n = ns.length := by omega
    subst e
    rw [List.take_length] at a1
    refine .inl ⟨wl.stops H' (SqL.keep a2 hs), D, _, rfl, .inl a1, fun p hp => ?_⟩
    have ev : (trues (firsts ns)).map (fun kv => kV kv.1) = (firsts ns).map V.str := by
      unfold trues
      rw [List.map_map]
      rfl
    have e2 := a2.trans (Ex.new (o := .lst ((trues (firsts ns)).map fun kv => kV kv.1)) hp)
    refine ⟨p, (firsts ns).map V.str, keyS, rfl, SqL.of (by rw [upd_same, ev]), KeyV.strs _, fun p2 H2 e3 np h2 => q p2 H2 (e2.trans e3) (e2.back np) ?_⟩
    rw [h2, byKey_strs]
theorem ok_joined (F : Fun K "joined" "joined" sJoined f fd) (GU : FnG P w K mg base CX0 2 fU fdU ["names"] (spUnlike K)) (bU : Binds K fdU ["names"] []) (gU : mg "unlike" = some (.ref fU)) (kU : PySem.W.keepIn K (.ref fU) = true) :
    FnG P w K mg base CX0 3 f fd ["one", "other"] (spJoined K) := by
  refine Fun.okG F scJoined spJoined_len fun cdv A outer s H vs Q E gd hr h => ?_
  obtain ⟨a, b, ns, ms, rfl, ha, hb, few, q⟩ := h
  refine ⟨_, pss_one (ps_ret (pe_callG GU spUnlike_len gd hr (by rfl) gU kU bU (pa_cons (pe_lst (StX.pa_star (pv 0) (StX.pa_star (pv 1) pa_nil))) pa_nil))), ?_⟩
  refine ⟨_, rfl, a, _, rfl, ha.symm, _, rfl, b, _, rfl, hb.symm, ?_, fun p hp => ⟨p, ns ++ ms, rfl, SqL.of (by rw [upd_same, List.map_append, List.append_nil]), by rw [List.length_append]; exact few, fun p2 H2 e2 np h2 => q p2 H2 ((Ex.new hp).trans e2) ((Ex.new hp).back np) h2⟩⟩
  rw [sizeLine_eq]
  simp only [List.length_append, List.length_map, List.length_nil]
  omega
end
end Tb

set_option Elab.async false
set_option linter.all false
set_option maxRecDepth 100000
set_option maxHeartbeats 2000000
/-! The pairs of a table, in the order of their texts. -/
namespace Tb
open PySem PySem.Spec PyProof.Rows L2 EvP Cm Fk DtE KyS XG
def toD : Key → PyData
  | .inl i => .int i
  | .inr x => .str x
def dOf : V → PyData
  | .str x => .str x
  | .int i => .int i
  | _ => .none
theorem dOf_kV (k : Key) : dOf (kV k) = toD k := by cases k <;> rfl
/-- a key as Python shows it -/
def textK (k : List Key) : Str := (PyData.tuple (k.map toD)).shown
def leK : List Key → List Key → Bool := PySem.W.dataLe false fun k => PyData.str (textK k)
def sortK (ks : List (List Key)) : List (List Key) := ks.mergeSort leK
def keyH (H : Hp) : V → Str
  | .ref b => match H b with
    | some (.tup ys) => (PyData.tuple (ys.map dOf)).shown
    | _ => ⟨#[]⟩
  | _ => ⟨#[]⟩
theorem keyH_of {H : Hp} {b : Addr} {k : List Key} (h : H b = some (.tup (k.map kV))) : keyH H (.ref b) = textK k := by
  unfold keyH textK
  show (match H b with
    | some (.tup ys) => (PyData.tuple (ys.map dOf)).shown
    | _ => ⟨#[]⟩) = _
  rw [h]
  show (PyData.tuple ((k.map kV).map dOf)).shown = _
  rw [List.map_map, show dOf ∘ kV = toD from funext dOf_kV]
theorem name_small {x : Str} (h : nameB x = true) : x.length ≤ 8 ∧ ∀ c ∈ x.cps.toList, c < 16 ^ 8 := by
  unfold nameB at h
  simp only [Bool.and_eq_true, decide_eq_true_eq] at h
  refine ⟨by have := h.1.1.1.1; omega, fun c hc => ?_⟩
  have a := h.1.1.2
  unfold Txt.isascii at a
  rw [← Array.all_toList, List.all_eq_true] at a
  have := of_decide_eq_true (a c hc)
  exact Nat.lt_trans this (by decide)
theorem text_len {a x : Str} (ha : nameB a = true) (hx : nameB x = true) : (textK (key2 a x)).length ≤ 100000 := by
  obtain ⟨a1, a2⟩ := name_small ha
  obtain ⟨x1, x2⟩ := name_small hx
  have b1 := StrLaws.reprText_len a a2
  have b2 := StrLaws.reprText_len x x2
  show (("(" : Str) ++ Str.join ", " [reprText a, reprText x] ++ ((")" : String) : Str)).length ≤ 100000
  have j := join_length_add [reprText a, reprText x] (by simp)
  rw [piled_cons, piled_cons] at j
  have z : piled [] = 0 := rfl
  rw [strLen_append, strLen_append, show (("(" : String) : Str).length = 1 from rfl, show ((")" : String) : Str).length = 1 from rfl]
  omega
/-- keys that are pairs of names -/
def PairK (k : List Key) : Prop := ∃ a x, k = key2 a x ∧ NameV (.str a) ∧ NameV (.str x)
theorem keyV_of {H : Hp} {b : Addr} {k : List Key} (h : H b = some (.tup (k.map kV))) (p : PairK k) : KeyV H (.ref b) (keyH H (.ref b)) := by
  rw [keyH_of h]
  obtain ⟨a, x, rfl, ⟨y, ey, _, ha⟩, ⟨z, ez, _, hx⟩⟩ := p
  cases ey
  cases ez
  exact .tup (ds := [.str a, .str x]) h (.cons (.str a) (.cons (.str x) .nil)) rfl (by show (1 : Nat) ≤ 60; decide) (text_len ha hx)
theorem all2_keys {H : Hp} : ∀ {l : List (List Key × Addr)}, (∀ p ∈ l, H p.2 = some (.tup (p.1.map kV))) → All2 H ((l.map (·.1)).map fun k => tupV (k.map kV)) (l.map fun p => V.ref p.2)
  | [], _ => .nil
  | p :: l, h => .cons ⟨p.2, rfl, h p (.head _)⟩ (all2_keys fun q hq => h q (.tail _ hq))
theorem zip_keys {H : Hp} : ∀ {kvs : List (List Key × V)} {bs : List Addr}, IsKeys H kvs bs → (∀ p ∈ (kvs.map (·.1)).zip bs, H p.2 = some (.tup (p.1.map kV))) ∧ ((kvs.map (·.1)).zip bs).map (·.1) = kvs.map (·.1) ∧ ((kvs.map (·.1)).zip bs).map (fun p => V.ref p.2) = bs.map V.ref
  | _, _, .nil => ⟨(fun p hp => by cases hp), rfl, rfl⟩
  | _, _, .cons h t => by
    obtain ⟨h1, h2, h3⟩ := zip_keys t
    refine ⟨fun p hp => ?_, ?_, ?_⟩
    · rcases List.mem_cons.mp hp with rfl | hp
      · exact h
      · exact h1 p hp
    · show _ :: _ = _ :: _
      exact congrArg _ h2
    · show _ :: _ = _ :: _
      exact congrArg _ h3
theorem asc_pairs {H : Hp} {r : TRow} {bs : List Addr} (h : IsKeys H (tents r) bs) (p : ∀ t ∈ r, PairK t.1) : (∀ x ∈ bs.map V.ref, KeyV H x (keyH H x)) ∧ All2 H ((sortK (r.map (·.1))).map fun k => tupV (k.map kV)) (byKey (keyH H) (bs.map V.ref)) := by
  obtain ⟨h1, h2, h3⟩ := zip_keys h
  have er : (tents r).map (·.1) = r.map (·.1) := by
    unfold tents
    rw [List.map_map]
    rfl
  rw [er] at h1 h2 h3
  generalize (r.map (·.1)).zip bs = L at h1 h2 h3
  rw [← h3, ← h2]
  refine ⟨fun x hx => ?_, ?_⟩
  · obtain ⟨q, hq, rfl⟩ := List.mem_map.mp hx
    refine keyV_of (h1 q hq) ?_
    have m : q.1 ∈ r.map (·.1) := by
      rw [← h2]
      exact List.mem_map.mpr ⟨q, hq, rfl⟩
    obtain ⟨t, ht, e⟩ := List.mem_map.mp m
    rw [← e]
    exact p t ht
  · have e1 : byKey (keyH H) (L.map fun p => V.ref p.2) = (L.mergeSort fun p q => leK p.1 q.1).map fun p => V.ref p.2 := by
      refine (PySem.W.sort_maps (fun p : List Key × Addr => V.ref p.2) fun a ha b hb => ?_).symm
      unfold leK
      rw [PySem.W.dataLe_str, PySem.W.dataLe_str]
      show decide ((textK a.1).cps.toList ≤ (textK b.1).cps.toList) = decide ((keyH H (V.ref a.2)).cps.toList ≤ (keyH H (V.ref b.2)).cps.toList)
      rw [keyH_of (h1 a ha), keyH_of (h1 b hb)]
    have e2 : sortK (L.map (·.1)) = (L.mergeSort fun p q => leK p.1 q.1).map (·.1) := (PySem.W.sort_maps (fun p : List Key × Addr => p.1) fun _ _ _ _ => rfl).symm
    rw [e1, e2]
    exact all2_keys fun q hq => h1 q ((List.mergeSort_perm _ _).mem_iff.mp hq)
end Tb

set_option Elab.async false
set_option linter.all false
set_option maxRecDepth 100000
set_option maxHeartbeats 2000000
/-! Names have lower letters only, so pairs go in the order of their texts as they go by source, then by use. -/
namespace Tb
open PySem PySem.Spec PyProof.Rows L2 EvP Cm Fk DtE KyS XG
def Low (l : List Nat) : Prop := ∀ c ∈ l, 97 ≤ c ∧ c ≤ 122
theorem low_char : ∀ c < 128, Unicode.isAlpha c = true → (Unicode.isUpper c || Unicode.isTitle c) = false → 97 ≤ c ∧ c ≤ 122 := by decide +kernel
theorem low_of {x : Str} (h : nameB x = true) : Low x.cps.toList := by
  intro c hc
  unfold nameB at h
  simp only [Bool.and_eq_true] at h
  have a := h.1.1.2
  have b := h.1.2
  have d := h.2
  unfold Txt.isascii at a
  unfold Txt.isalpha at b
  unfold Txt.islower at d
  rw [← Array.all_toList, List.all_eq_true] at a
  rw [Bool.and_eq_true, ← Array.all_toList, List.all_eq_true] at b
  rw [Bool.and_eq_true, Bool.not_eq_true', ← Array.any_toList, ← Array.any_toList, List.any_eq_false] at d
  exact low_char c (of_decide_eq_true (a c hc)) (b.2 c hc) (by
    have := d.2 c hc
    cases e : (Unicode.isUpper c || Unicode.isTitle c)
    · rfl
    · exact absurd e this)
theorem lt_low : ∀ {a b : List Nat}, Low a → Low b → a < b → ∀ r s : List Nat, a ++ 39 :: r < b ++ 39 :: s
  | [], [], _, _, h, _, _ => absurd h (List.lt_irrefl _)
  | [], c :: b, _, hb, _, r, s => by
    have := hb c (.head _)
    rw [List.nil_append, List.cons_append, List.cons_lt_cons_iff]
    exact .inl (by omega)
  | c :: a, [], _, _, h, _, _ => absurd h (List.not_lt_nil _)
  | c :: a, d :: b, ha, hb, h, r, s => by
    rw [List.cons_append, List.cons_append, List.cons_lt_cons_iff]
    rw [List.cons_lt_cons_iff] at h
    exact h.imp id fun h => ⟨h.1, lt_low (fun x hx => ha x (.tail _ hx)) (fun x hx => hb x (.tail _ hx)) h.2 r s⟩
theorem lt_app : ∀ (a : List Nat) {p q : List Nat}, p < q → a ++ p < a ++ q
  | [], _, _, h => h
  | c :: a, p, q, h => by
    rw [List.cons_append, List.cons_append, List.cons_lt_cons_iff]
    exact .inr ⟨rfl, lt_app a h⟩
/-- the text of a pair -/
def tx (a x : List Nat) : List Nat := [40, 39] ++ (a ++ 39 :: ([44, 32, 39] ++ (x ++ 39 :: [41])))
theorem tx_lt1 {a b x y : List Nat} (ha : Low a) (hb : Low b) (h : a < b) : tx a x < tx b y := lt_app _ (lt_low ha hb h _ _)
theorem tx_lt2 {a x y : List Nat} (hx : Low x) (hy : Low y) (h : x < y) : tx a x < tx a y := lt_app _ (lt_app a (by
  rw [List.cons_lt_cons_iff]
  exact .inr ⟨rfl, lt_app _ (lt_low hx hy h _ _)⟩))
theorem repr_char : ∀ c < 123, 97 ≤ c → Builtin.Str.reprChar 39 c = [c] := by decide +kernel
theorem fold_low : ∀ (l : List Nat) (acc : Array Nat), Low l → l.foldl (fun out c => out ++ (Builtin.Str.reprChar 39 c).toArray) acc = acc ++ l.toArray
  | [], acc, _ => by simp
  | c :: l, acc, h => by
    have := h c (.head _)
    rw [List.foldl_cons, repr_char c (by omega) this.1, fold_low l _ fun x hx => h x (.tail _ hx)]
    simp
theorem repr_low {x : Str} (h : nameB x = true) : (reprText x).cps.toList = 39 :: (x.cps.toList ++ [39]) := by
  have lo := low_of h
  have q : reprQuote x = 39 := by
    unfold reprQuote
    have : x.cps.contains 39 = false := by
      cases e : x.cps.contains 39
      · rfl
      · have := Array.contains_iff_mem.mp e
        have := lo 39 (Array.mem_toList_iff.mpr this)
        omega
    rw [this]
    rfl
  unfold reprText
  rw [q]
  show ((x.cps.foldl (fun out c => out ++ (Builtin.Str.reprChar 39 c).toArray) #[39]).push 39).toList = _
  rw [← Array.foldl_toList, fold_low _ _ lo]
  simp
theorem text_key {a x : Str} (ha : nameB a = true) (hx : nameB x = true) : (textK (key2 a x)).cps.toList = tx a.cps.toList x.cps.toList := by
  show ((("(" : Str) ++ (reprText a ++ ", " ++ reprText x) ++ ((")" : String) : Str)).cps).toList = _
  show ((((#[40] : Array Nat) ++ ((reprText a).cps ++ (#[44, 32] : Array Nat) ++ (reprText x).cps)) ++ (#[41] : Array Nat))).toList = _
  simp only [Array.toList_append]
  rw [repr_low ha, repr_low hx]
  unfold tx
  simp
theorem leK_iff (k k' : List Key) : leK k k' = !decide ((textK k').cps.toList < (textK k).cps.toList) := by
  have e : leK k k' = !(decide ((textK k').cps.toList < (textK k).cps.toList) || (!decide ((textK k).cps.toList < (textK k').cps.toList) && false)) := rfl
  rw [e, Bool.and_false, Bool.or_false]
theorem leK_of {k k' : List Key} (h : (textK k).cps.toList < (textK k').cps.toList) : leK k k' = true := by
  rw [leK_iff, Bool.not_eq_true', decide_eq_false_iff_not]
  exact fun c => List.lt_irrefl _ (List.lt_trans h c)
end Tb

set_option Elab.async false
set_option linter.all false
set_option maxRecDepth 100000
set_option maxHeartbeats 4000000
namespace K06
open PySem PySem.Spec PyProof.Rows L2
def top (i : Nat) : Stmt := PySem.Challenge.pw_filledrow_k04_tables_joined.main.body.getD i (.Pass ⟨0, 0, 0, 0⟩)
abbrev sPen : Stmt := top 39
abbrev sDraw : Stmt := top 40
abbrev sPick : Stmt := top 41
/-! ### the pen -/
/-- the pen at p: its cells ns at q, how many were drawn, what is left of a great one -/
structure Pen (H : Hp) (p q : Addr) (ns : List Int) (s g : Int) : Prop where
  p : H p = some (.lst [.ref q, .int s, .int g])
  q : H q = some (.lst (ns.map V.int))
theorem Pen.ne {H : Hp} {p q : Addr} {ns : List Int} {s g : Int} (x : Pen H p q ns s g) : p ≠ q := ne_of x.p x.q (by
  intro z
  cases ns with
  | nil => cases z
  | cons a r => cases z)
/-- all stands but at p -/
def But (p : Addr) (H H' : Hp) : Prop := ∀ b o, H b = some o → b ≠ p → H' b = some o
def spPen (K : PySem.W.Frag) : Sp := fun vs H Q _ => ∃ (a : Addr) (ns : List Int), vs = [.ref a] ∧ SqL K H a (ns.map V.int) ∧ ns.length ≤ 63 ∧
  ∀ (p q : Addr) (ms : List Int) (H' : Hp), ms.length ≤ 63 → Pen H' p q ms 0 0 → (∀ b o, H b = some o → H' b = some o) → Q (.ref p) H'
def spDraw : Sp := fun vs H Q _ => ∃ (p q : Addr) (ns : List Int) (s g m : Int), vs = [.ref p, .int m] ∧ Pen H p q ns s g ∧ ns.length ≤ 63 ∧ 0 ≤ s ∧ s < 100000 ∧ 0 < m ∧ m ≤ 10 ^ 30 ∧
  ∀ (k s' g' : Int) (H' : Hp), 0 ≤ k → k < m → s ≤ s' → s' ≤ s + 1 → Pen H' p q ns s' g' → But p H H' → Q (.int k) H'
/-- the built-ins that are still themselves -/
structure Blt (mg : Str → Option Value) : Prop where
  int : mg "int" = none
  len : mg "len" = none
  abs : mg "abs" = none
  lst : mg "list" = none
section
variable {P : Program} {w : World} {K : PySem.W.Frag} {mg : Str → Option Value} {base : Heap} {f : Addr} {fd : FuncData}
theorem scPen : FnScope ["script"] ["script"] (defScope sPen) := ⟨rfl, rfl, rfl, by decide +kernel, rfl, by decide +kernel, by decide +kernel⟩
theorem ints_cut : ∀ (ns : List Int) (lo hi : Option Int), ∃ ms : List Int, cutV (ns.map V.int) lo hi = ms.map V.int ∧ ms.length ≤ ns.length := by
  intro ns lo hi
  refine ⟨(ns.drop (HT.sIx (ns.map V.int).length 0 lo)).take (HT.sIx (ns.map V.int).length (ns.map V.int).length hi - HT.sIx (ns.map V.int).length 0 lo), ?_, ?_⟩
  · unfold cutV
    rw [List.map_take, List.map_drop]
  · rw [List.length_take, List.length_drop]
    omega
theorem ok_pen (F : Fun K "_law_pen" "_law_pen" sPen f fd) (T : Blt mg) : FnOk P w K mg base CX0 1 f fd ["script"] (spPen K) := by
  refine F.ok scPen (fun vs H Q E h => ?_) (fun cdv A outer s H vs Q E hr h => ?_)
  · obtain ⟨a, ns, rfl, _⟩ := h
    rfl
  · obtain ⟨a, ns, rfl, hS, hl, k⟩ := h
    refine ⟨_, pss_one (ps_ret (pe_lst (pa_cons (pe_callTy call_list_of (by rfl) T.lst (by decide +kernel) (pa_cons (pe_slice sl_list (pv 0) po_none (po_some pe_int)) pa_nil)) (pa_cons pe_int (pa_cons pe_int pa_nil))))), ?_⟩
    obtain ⟨ms, e, hm⟩ := ints_cut ns none (some 63)
    refine ⟨_, rfl, _, rfl, a, _, rfl, hS, fun p hp => ?_⟩
    rw [e]
    refine ⟨p, _, rfl, .inl (SqL.of upd_same), fun l hl' => ⟨by show 3 ≤ sizeLine; decide, fun r hr' => ?_⟩⟩
    have nl : l ≠ p := fun z => by
      rw [z, upd_same] at hl'
      cases hl'
    have nr : r ≠ l := fun z => by
      rw [z, upd_same] at hr'
      cases hr'
    refine k r l ms _ (by omega) ⟨upd_same, by rw [upd_ne nr.symm, upd_same]⟩ fun b o z => ?_
    have z1 : (upd H p (.lst (ms.map V.int))) b = some o := by rw [upd_ne (ne_of_none z hp)]; exact z
    have z2 : (upd (upd H p (.lst (ms.map V.int))) l (.lst (ms.map V.int))) b = some o := by rw [upd_ne (ne_of_none z1 hl')]; exact z1
    rw [upd_ne (ne_of_none z2 hr')]
    exact z2
end
end K06

set_option Elab.async false
set_option linter.all false
set_option maxRecDepth 100000
set_option maxHeartbeats 4000000
namespace K06
open PySem PySem.Spec PyProof.Rows L2
theorem scDraw : FnScope ["pen", "many", "digit", "turn", "drawn", "great", "mixed"] ["pen", "many"] (defScope sDraw) := ⟨rfl, rfl, rfl, by decide +kernel, rfl, by decide +kernel, by decide +kernel⟩
theorem op_fdivP {X : Cx} : OpR X (binaryOp .FloorDiv) (rI (fun _ j => 0 < j ∧ j.natAbs.log2 < 9000) fun i j => .int (i.fdiv j)) := opI fun i j _ _ _ _ _ hc q => by
  have h1 : (0 : Int) < j := hc.1
  exact floordiv_int (by omega) q (.inl (PyProof.noPylong_of_log2 hc.2))
theorem log30 {m : Int} (h0 : 0 < m) (h1 : m ≤ 10 ^ 30) : m.natAbs.log2 < 9000 := Nat.lt_of_lt_of_le (PySem.Flt.log2_lt_of (k := 100) (by decide) (by
  have : (10 : Int) ^ 30 < 2 ^ 100 := by decide
  omega)) (by decide)
theorem fm (i : Int) {m : Int} (h : 0 < m) : 0 ≤ i.fmod m ∧ i.fmod m < m := ⟨Int.fmod_nonneg_of_pos i h, Int.fmod_lt_of_pos i h⟩
theorem dp_ints {K : PySem.W.Frag} {H : Hp} : ∀ ns : List Int, DpAll K H (ns.map V.int) (ns.map PyData.int)
  | [] => .nil
  | n :: r => .cons (.int n) (dp_ints r)
theorem lay_ints : ∀ ns : List Int, PyData.canLayAll0 (ns.map PyData.int) = true
  | [] => rfl
  | n :: r => by
    show (PyData.canLay0 (.int n) && PyData.canLayAll0 (r.map PyData.int)) = true
    rw [lay_ints r]
    rfl
theorem deep_ints : ∀ ns : List Int, PyData.depthAll (ns.map PyData.int) ≤ 1
  | [] => Nat.zero_le _
  | n :: r => by
    have := deep_ints r
    show max (PyData.depth (.int n)) (PyData.depthAll (r.map PyData.int)) ≤ 1
    have e : PyData.depth (.int n) = 0 := rfl
    omega
theorem shaped_ints (ns : List Int) : SeqAt.shaped (.list (ns.map PyData.int)) = true := by
  have h1 : PyData.canLay0 (.list (ns.map PyData.int)) = true := lay_ints ns
  have h2 : PyData.depth (.list (ns.map PyData.int)) ≤ 64 := by
    have := deep_ints ns
    show PyData.depthAll (ns.map PyData.int) + 1 ≤ 64
    omega
  unfold SeqAt.shaped
  rw [h1, decide_eq_true h2]
  rfl
theorem eqv_none (ns : List Int) : PyData.eqv (.list (ns.map PyData.int)) (.list []) = ns.isEmpty := by
  cases ns <;> rfl
section
variable {P : Program} {w : World} {K : PySem.W.Frag} {mg : Str → Option Value} {base : Heap} {f : Addr} {fd : FuncData}
theorem ok_draw (F : Fun K "_law_draw" "_law_draw" sDraw f fd) (T : Blt mg) : FnOk P w K mg base CX0 1 f fd ["pen", "many"] spDraw := by
  refine F.ok scDraw (fun vs H Q E h => ?_) (fun cdv A outer s H vs Q E hr h => ?_)
  · obtain ⟨p, q, ns, s, g, m, rfl, _⟩ := h
    rfl
  · obtain ⟨p, q, ns, s, g, m, rfl, hP, hl, hs0, hs1, hm0, hm1, k⟩ := h
    have nd := scDraw.nd
    have hu : (cxOf CX0 P w K mg base ["pen", "many", "digit", "turn", "drawn", "great", "mixed"] "_law_draw" (defScope sDraw) f cdv A outer ‹Shared› H E).nox.A.units + 64 < cLine := by
      have z := hr.un
      show (A.deeper _).units + 64 < cLine
      omega
    refine ⟨_, pss_cons (ps_if (pt_cmpR op_gt (pe_ix ix_list (pv 0) pe_int (fun _ _ => rfl)) pe_int (nomark _))
        (pss_cons (ps_set (i := 2) nd rfl (Or.inl rfl) (pe_op op_modN (pe_callTy call_int1 (by rfl) T.int (by decide +kernel) (pa_cons (pe_ix ix_list (pv 0) pe_int (fun _ _ => rfl)) pa_nil)) (pv 1)))
          (pss_cons (ps_asg (pe_op op_fdivP (pe_callTy call_int1 (by rfl) T.int (by decide +kernel) (pa_cons (pe_ix ix_list (pv 0) pe_int (fun _ _ => rfl)) pa_nil)) (pv 1)) (pg_sub (pv 0) pe_int set_list))
            (pss_one (ps_ret (pv 2))))) pss_nil)
      (pss_cons (ps_set (i := 3) nd rfl (Or.inl rfl) (pe_ix ix_list (pv 0) pe_int (fun _ _ => rfl)))
      (pss_cons (ps_asg (pe_op op_add (pv 3) pe_int) (pg_sub (pv 0) pe_int set_list))
      (pss_cons (ps_set (i := 4) nd rfl (Or.inl rfl) (pe_op op_add (pe_op op_mul pe_int (pv 3)) pe_int))
      (pss_cons (ps_if (pt_cmpR (op_neD hu) (pe_ix ix_list (pv 0) pe_int (fun _ _ => rfl)) (pe_lst pa_nil) (nomark _))
        (pss_one (ps_set (i := 4) nd rfl (Or.inl rfl) (pe_ix ix_list (pe_ix ix_list (pv 0) pe_int (fun _ _ => rfl))
          (pe_op op_modN (pe_callTy call_int1 (by rfl) T.int (by decide +kernel) (pa_cons (pv 3) pa_nil)) (pe_callB call_len_seq (by rfl) T.len PySem.boot_len (pa_cons (pe_ix ix_list (pv 0) pe_int (fun _ _ => rfl)) pa_nil))) (fun _ _ => rfl)))) pss_nil)
      (pss_cons (ps_if (PW.pt (pw_and (pt_cmpR op_lt (pv 3) (pe_callB call_len_seq (by rfl) T.len PySem.boot_len (pa_cons (pe_ix ix_list (pv 0) pe_int (fun _ _ => rfl)) pa_nil)) (nomark _))
          (pw_and1 (pt_cmpR op_ge (pe_callB call_abs (by rfl) T.abs (by decide +kernel) (pa_cons (pv 4) pa_nil)) (pe_op op_pow pe_int pe_int) (nomark _)))))
        (pss_cons (ps_set (i := 5) nd rfl (Or.inl rfl) (pe_op op_add (pe_op op_mul pe_int (pe_op op_sub (pe_callB call_abs (by rfl) T.abs (by decide +kernel) (pa_cons (pv 4) pa_nil)) (pe_op op_pow pe_int pe_int)))
            (pe_callTy call_int1 (by rfl) T.int (by decide +kernel) (pa_cons (pe_cmpR op_lt (pv 4) pe_int (nomark _)) pa_nil))))
          (pss_cons (ps_asg (pe_op op_fdivP (pe_callTy call_int1 (by rfl) T.int (by decide +kernel) (pa_cons (pv 5) pa_nil)) (pv 1)) (pg_sub (pv 0) pe_int set_list))
            (pss_one (ps_ret (pe_op op_modN (pe_callTy call_int1 (by rfl) T.int (by decide +kernel) (pa_cons (pv 5) pa_nil)) (pv 1)))))) pss_nil)
      (pss_cons (ps_set (i := 6) nd rfl (Or.inl rfl) (pe_op op_modN (pe_callTy call_int1 (by rfl) T.int (by decide +kernel) (pa_cons (pe_op op_pow (pe_op op_add (pe_op op_add (pe_op op_modN (pe_callTy call_int1 (by rfl) T.int (by decide +kernel) (pa_cons (pv 4) pa_nil)) pe_int) (pe_op op_mul pe_int (pv 3))) pe_int) pe_int) pa_nil)) pe_int))
      (pss_cons (ps_set (i := 6) nd rfl (Or.inl rfl) (pe_op op_modN (pe_callTy call_int1 (by rfl) T.int (by decide +kernel) (pa_cons (pe_op op_pow (pe_op op_add (pe_op op_add (pe_op op_mul (pv 6) (pe_op op_add (pe_op op_mul pe_int (pv 3)) pe_int)) (pe_op op_mul (pe_op op_mul pe_int (pv 3)) (pv 3))) pe_int) pe_int) pa_nil)) pe_int))
      (pss_one (ps_ret (pe_op op_modN (pe_callTy call_int1 (by rfl) T.int (by decide +kernel) (pa_cons (pe_op op_fdivN (pv 6) pe_int) pa_nil)) (pv 1))))))))))), ?_⟩
    -- if pen[2] > 0
    refine ⟨_, rfl, p, _, 2, .int g, rfl, rfl, SqL.of hP.p, rfl, g, 0, rfl, rfl, _, rfl, ?_⟩
    refine ite2 (fun c => ?_) (fun c => ?_)
    · refine ⟨_, rfl, p, _, 2, .int g, rfl, rfl, SqL.of hP.p, rfl, .inl ⟨g, rfl, _, rfl, g, m, rfl, rfl, by omega, ?_⟩⟩
      refine ⟨_, rfl, p, _, 2, .int g, rfl, rfl, SqL.of hP.p, rfl, .inl ⟨g, rfl, _, rfl, g, m, rfl, rfl, ⟨hm0, log30 hm0 hm1⟩, ?_⟩⟩
      refine ⟨_, rfl, p, _, 2, 2, rfl, rfl, hP.p, rfl, ?_⟩
      refine ⟨_, rfl, k _ s (g.fdiv m) _ (fm g hm0).1 (fm g hm0).2 (Int.le_refl _) (by omega) ⟨upd_same, ?_⟩ fun b o e hb => ?_⟩
      · rw [upd_ne hP.ne.symm]
        exact hP.q
      · rw [upd_ne hb]
        exact e
    · -- spot = pen[1]; pen[1] = spot + 1; cell = ..
      refine ⟨_, rfl, p, _, 1, .int s, rfl, rfl, SqL.of hP.p, rfl, ?_⟩
      refine ⟨_, rfl, s, 1, rfl, rfl, ?_⟩
      refine ⟨_, rfl, p, _, 1, 1, rfl, rfl, hP.p, rfl, ?_⟩
      have hP1 : Pen (upd H p (.lst [.ref q, .int (s + 1), .int g])) p q ns (s + 1) g := ⟨upd_same, by rw [upd_ne hP.ne.symm]; exact hP.q⟩
      have hB1 : But p H (upd H p (.lst [.ref q, .int (s + 1), .int g])) := fun b o e hb => by rw [upd_ne hb]; exact e
      refine ⟨_, rfl, 51254, s, rfl, rfl, .inl ⟨by decide, by decide⟩, _, _, rfl, rfl, ?_⟩
      -- if pen[0] != []
      refine ⟨_, rfl, p, _, 0, .ref q, rfl, rfl, SqL.of hP1.p, rfl, by decide, fun l hl' => ?_⟩
      have hP2 : Pen (upd (upd H p (.lst [.ref q, .int (s + 1), .int g])) l (.lst [])) p q ns (s + 1) g :=
        ⟨by rw [upd_ne (ne_of_none hP1.p hl')]; exact hP1.p, by rw [upd_ne (ne_of_none hP1.q hl')]; exact hP1.q⟩
      have hB2 : But p H (upd (upd H p (.lst [.ref q, .int (s + 1), .int g])) l (.lst [])) := fun b o e hb => by
        rw [upd_ne (ne_of_none (hB1 b o e hb) hl')]
        exact hB1 b o e hb
      refine ⟨_, _, .lst (SqL.of hP2.q) (dp_ints ns), .lst (SqL.of upd_same) .nil, shaped_ints ns, rfl, _, rfl, ?_⟩
      rw [eqv_none]
      cases ns with
      | nil =>
        refine iteF ?_
        refine ⟨_, rfl, _, rfl, p, _, 0, .ref q, rfl, rfl, SqL.of hP2.p, rfl, q, _, rfl, .inl (SqL.of hP2.q), s, _, rfl, rfl, _, rfl, ?_⟩
        have e : decide (s < (((([] : List Int).map V.int).length : Nat) : Int)) = false := decide_eq_false (by show ¬ s < 0; omega)
        rw [e]
        refine iteF (iteF ?_)
        -- mixed = ..
        refine ⟨_, rfl, .inl ⟨51254 * s + 1504, rfl, ?_⟩⟩
        refine ⟨51254 * s + 1504, 2147483579, rfl, rfl, (show (2147483579 : Int) ≠ 0 by decide), ?_⟩
        refine ⟨_, rfl, 80030, s, rfl, rfl, .inl ⟨by decide, by decide⟩, ?_⟩
        refine ⟨_, _, rfl, rfl, _, _, rfl, rfl, ?_⟩
        have b1 := fm (51254 * s + 1504) (show (0 : Int) < 2147483579 by decide)
        refine ⟨_, 5, rfl, rfl, ⟨by decide, by decide, by omega⟩, .inl ⟨_, rfl, _, 2147483497, rfl, rfl, (show (2147483497 : Int) ≠ 0 by decide), ?_⟩⟩
        have b2 := fm ((Int.fmod (51254 * s + 1504) 2147483579 + 80030 * s + 1828) ^ (5 : Int).toNat) (show (0 : Int) < 2147483497 by decide)
        obtain ⟨y, hy⟩ : ∃ y, y = Int.fmod ((Int.fmod (51254 * s + 1504) 2147483579 + 80030 * s + 1828) ^ (5 : Int).toNat) 2147483497 := ⟨_, rfl⟩
        rw [← hy] at b2
        refine ⟨_, rfl, _, rfl, 2, s, rfl, rfl, .inl ⟨by decide, by decide⟩, _, _, rfl, rfl, y, _, congrArg V.int hy.symm, rfl, .inl ⟨by omega, by omega⟩, ?_⟩
        refine ⟨_, rfl, 84062, s, rfl, rfl, .inl ⟨by decide, by decide⟩, _, rfl, _, s, rfl, rfl, .inr ⟨by omega, by omega⟩, ?_⟩
        refine ⟨_, _, rfl, rfl, _, _, rfl, rfl, ?_⟩
        have b3 : 0 ≤ y * (2 * s + 934) ∧ y * (2 * s + 934) ≤ 2147483497 * 300000 := ⟨Int.mul_nonneg b2.1 (by omega), Int.mul_le_mul (by omega) (by omega) (by omega) (by decide)⟩
        have b4 : 0 ≤ 84062 * s * s ∧ 84062 * s * s ≤ 8406200000 * 100000 := ⟨Int.mul_nonneg (by omega) hs0, Int.mul_le_mul (by omega) (by omega) hs0 (by decide)⟩
        refine ⟨_, 3, rfl, rfl, ⟨by decide, by decide, by omega⟩, .inl ⟨_, rfl, _, 2147483647, rfl, rfl, (show (2147483647 : Int) ≠ 0 by decide), ?_⟩⟩
        refine ⟨_, rfl, _, 32, rfl, rfl, ⟨by decide, by decide⟩, .inl ⟨_, rfl, _, rfl, _, m, rfl, rfl, by omega, ?_⟩⟩
        exact k _ (s + 1) g _ (fm _ hm0).1 (fm _ hm0).2 (by omega) (Int.le_refl _) hP2 hB2
      | cons n0 r =>
        refine iteT ?_
        -- cell = pen[0][int(spot) % len(pen[0])]
        refine ⟨_, rfl, p, _, 0, .ref q, rfl, rfl, SqL.of hP2.p, rfl, ?_⟩
        refine ⟨_, rfl, .inl ⟨s, rfl, _, rfl, p, _, 0, .ref q, rfl, rfl, SqL.of hP2.p, rfl, q, _, rfl, .inl (SqL.of hP2.q), s, _, rfl, rfl, ?_, ?_⟩⟩
        · rw [List.length_map, List.length_cons]
          omega
        have hn : (0 : Int) < (((((n0 :: r) : List Int).map V.int).length : Nat) : Int) := by
          rw [List.length_map, List.length_cons]
          omega
        have b0 := fm s hn
        obtain ⟨c, hc⟩ : ∃ c : Int, atI ((n0 :: r).map V.int) (s.fmod ((((n0 :: r).map V.int).length : Nat) : Int)) = some (.int c) := by
          have hj : (s.fmod ((((n0 :: r).map V.int).length : Nat) : Int)).toNat < (n0 :: r).length := by
            rw [List.length_map] at b0 ⊢
            omega
          refine ⟨(n0 :: r)[(s.fmod ((((n0 :: r).map V.int).length : Nat) : Int)).toNat]'hj, at_of (j := (s.fmod ((((n0 :: r).map V.int).length : Nat) : Int)).toNat) (by omega) ?_⟩
          rw [List.getElem?_map, List.getElem?_eq_getElem hj]
          rfl
        refine ⟨q, _, _, .int c, rfl, rfl, SqL.of hP2.q, hc, ?_⟩
        -- if spot < len(pen[0]) and abs(cell) >= 10 ** 18
        refine ⟨_, rfl, _, rfl, p, _, 0, .ref q, rfl, rfl, SqL.of hP2.p, rfl, q, _, rfl, .inl (SqL.of hP2.q), s, _, rfl, rfl, _, rfl, ?_⟩
        refine ite2 (fun c1 => ?_) (fun c1 => iteF ?_)
        · refine ⟨_, rfl, c, rfl, 10, 18, rfl, rfl, ⟨by decide, by decide, by decide⟩, _, _, rfl, rfl, _, rfl, ?_⟩
          refine ite2 (fun c2 => ?_) (fun c2 => ?_)
          · -- great
            refine ⟨_, rfl, c, rfl, 10, 18, rfl, rfl, ⟨by decide, by decide, by decide⟩, _, _, rfl, rfl, 2, _, rfl, rfl, .inl ⟨by decide, by decide⟩, ?_⟩
            refine ⟨_, rfl, c, 0, rfl, rfl, .inr ⟨_, rfl, _, _, rfl, rfl, ?_⟩⟩
            refine ⟨_, rfl, .inl ⟨_, rfl, _, rfl, _, m, rfl, rfl, ⟨hm0, log30 hm0 hm1⟩, ?_⟩⟩
            refine ⟨_, rfl, p, _, 2, 2, rfl, rfl, hP2.p, rfl, ?_⟩
            refine ⟨_, rfl, .inl ⟨_, rfl, _, rfl, _, m, rfl, rfl, by omega, ?_⟩⟩
            refine k _ (s + 1) _ _ (fm _ hm0).1 (fm _ hm0).2 (by omega) (Int.le_refl _) ⟨upd_same, ?_⟩ fun b o e hb => ?_
            · rw [upd_ne hP2.ne.symm]
              exact hP2.q
            · rw [upd_ne hb]
              exact hB2 b o e hb
          · show tNext _ _ _
            -- mixed = ..
            refine ⟨_, rfl, .inl ⟨c, rfl, ?_⟩⟩
            refine ⟨c, 2147483579, rfl, rfl, (show (2147483579 : Int) ≠ 0 by decide), ?_⟩
            refine ⟨_, rfl, 80030, s, rfl, rfl, .inl ⟨by decide, by decide⟩, ?_⟩
            refine ⟨_, _, rfl, rfl, _, _, rfl, rfl, ?_⟩
            have b1 := fm (c) (show (0 : Int) < 2147483579 by decide)
            refine ⟨_, 5, rfl, rfl, ⟨by decide, by decide, by omega⟩, .inl ⟨_, rfl, _, 2147483497, rfl, rfl, (show (2147483497 : Int) ≠ 0 by decide), ?_⟩⟩
            have b2 := fm ((Int.fmod (c) 2147483579 + 80030 * s + 1828) ^ (5 : Int).toNat) (show (0 : Int) < 2147483497 by decide)
            obtain ⟨y, hy⟩ : ∃ y, y = Int.fmod ((Int.fmod (c) 2147483579 + 80030 * s + 1828) ^ (5 : Int).toNat) 2147483497 := ⟨_, rfl⟩
            rw [← hy] at b2
            refine ⟨_, rfl, _, rfl, 2, s, rfl, rfl, .inl ⟨by decide, by decide⟩, _, _, rfl, rfl, y, _, congrArg V.int hy.symm, rfl, .inl ⟨by omega, by omega⟩, ?_⟩
            refine ⟨_, rfl, 84062, s, rfl, rfl, .inl ⟨by decide, by decide⟩, _, rfl, _, s, rfl, rfl, .inr ⟨by omega, by omega⟩, ?_⟩
            refine ⟨_, _, rfl, rfl, _, _, rfl, rfl, ?_⟩
            have b3 : 0 ≤ y * (2 * s + 934) ∧ y * (2 * s + 934) ≤ 2147483497 * 300000 := ⟨Int.mul_nonneg b2.1 (by omega), Int.mul_le_mul (by omega) (by omega) (by omega) (by decide)⟩
            have b4 : 0 ≤ 84062 * s * s ∧ 84062 * s * s ≤ 8406200000 * 100000 := ⟨Int.mul_nonneg (by omega) hs0, Int.mul_le_mul (by omega) (by omega) hs0 (by decide)⟩
            refine ⟨_, 3, rfl, rfl, ⟨by decide, by decide, by omega⟩, .inl ⟨_, rfl, _, 2147483647, rfl, rfl, (show (2147483647 : Int) ≠ 0 by decide), ?_⟩⟩
            refine ⟨_, rfl, _, 32, rfl, rfl, ⟨by decide, by decide⟩, .inl ⟨_, rfl, _, rfl, _, m, rfl, rfl, by omega, ?_⟩⟩
            exact k _ (s + 1) g _ (fm _ hm0).1 (fm _ hm0).2 (by omega) (Int.le_refl _) hP2 hB2
        · -- mixed = ..
          refine ⟨_, rfl, .inl ⟨c, rfl, ?_⟩⟩
          refine ⟨c, 2147483579, rfl, rfl, (show (2147483579 : Int) ≠ 0 by decide), ?_⟩
          refine ⟨_, rfl, 80030, s, rfl, rfl, .inl ⟨by decide, by decide⟩, ?_⟩
          refine ⟨_, _, rfl, rfl, _, _, rfl, rfl, ?_⟩
          have b1 := fm (c) (show (0 : Int) < 2147483579 by decide)
          refine ⟨_, 5, rfl, rfl, ⟨by decide, by decide, by omega⟩, .inl ⟨_, rfl, _, 2147483497, rfl, rfl, (show (2147483497 : Int) ≠ 0 by decide), ?_⟩⟩
          have b2 := fm ((Int.fmod (c) 2147483579 + 80030 * s + 1828) ^ (5 : Int).toNat) (show (0 : Int) < 2147483497 by decide)
          obtain ⟨y, hy⟩ : ∃ y, y = Int.fmod ((Int.fmod (c) 2147483579 + 80030 * s + 1828) ^ (5 : Int).toNat) 2147483497 := ⟨_, rfl⟩
          rw [← hy] at b2
          refine ⟨_, rfl, _, rfl, 2, s, rfl, rfl, .inl ⟨by decide, by decide⟩, _, _, rfl, rfl, y, _, congrArg V.int hy.symm, rfl, .inl ⟨by omega, by omega⟩, ?_⟩
          refine ⟨_, rfl, 84062, s, rfl, rfl, .inl ⟨by decide, by decide⟩, _, rfl, _, s, rfl, rfl, .inr ⟨by omega, by omega⟩, ?_⟩
          refine ⟨_, _, rfl, rfl, _, _, rfl, rfl, ?_⟩
          have b3 : 0 ≤ y * (2 * s + 934) ∧ y * (2 * s + 934) ≤ 2147483497 * 300000 := ⟨Int.mul_nonneg b2.1 (by omega), Int.mul_le_mul (by omega) (by omega) (by omega) (by decide)⟩
          have b4 : 0 ≤ 84062 * s * s ∧ 84062 * s * s ≤ 8406200000 * 100000 := ⟨Int.mul_nonneg (by omega) hs0, Int.mul_le_mul (by omega) (by omega) hs0 (by decide)⟩
          refine ⟨_, 3, rfl, rfl, ⟨by decide, by decide, by omega⟩, .inl ⟨_, rfl, _, 2147483647, rfl, rfl, (show (2147483647 : Int) ≠ 0 by decide), ?_⟩⟩
          refine ⟨_, rfl, _, 32, rfl, rfl, ⟨by decide, by decide⟩, .inl ⟨_, rfl, _, rfl, _, m, rfl, rfl, by omega, ?_⟩⟩
          exact k _ (s + 1) g _ (fm _ hm0).1 (fm _ hm0).2 (by omega) (Int.le_refl _) hP2 hB2
end
end K06

set_option Elab.async false
set_option linter.all false
set_option maxRecDepth 100000
set_option maxHeartbeats 4000000
/-! What the law draws: one of some things, an amount. -/
namespace K06
open PySem PySem.Spec PyProof.Rows L2
def spPick : Sp := fun vs H Q _ => ∃ (p q : Addr) (ns : List Int) (s g : Int) (a : Addr) (xs : List V), vs = [.ref p, .ref a] ∧ Pen H p q ns s g ∧ ns.length ≤ 63 ∧ 0 ≤ s ∧ s < 100000 ∧ H a = some (.lst xs) ∧ a ≠ p ∧ 0 < xs.length ∧ xs.length < 100000 ∧
  ∀ (v : V) (s' g' : Int) (H' : Hp), v ∈ xs → s ≤ s' → s' ≤ s + 1 → Pen H' p q ns s' g' → But p H H' → Q v H'
theorem scPick : FnScope ["pen", "some"] ["pen", "some"] (defScope sPick) := ⟨rfl, rfl, rfl, by decide +kernel, rfl, by decide +kernel, by decide +kernel⟩
section
variable {P : Program} {w : World} {K : PySem.W.Frag} {mg : Str → Option Value} {base : Heap} {f fD fP : Addr} {fd fdD fdP : FuncData}
theorem ok_pick (F : Fun K "_law_pick" "_law_pick" sPick f fd) (T : Blt mg) (G : FnOk P w K mg base CX0 1 fD fdD ["pen", "many"] spDraw) (b : Binds K fdD ["pen", "many"] []) (gD : mg "_law_draw" = some (.ref fD)) (kD : PySem.W.keepIn K (.ref fD) = true) :
    FnOk P w K mg base CX0 2 f fd ["pen", "some"] spPick := by
  refine F.ok scPick (fun vs H Q E h => ?_) (fun cdv A outer s H vs Q E hr h => ?_)
  · obtain ⟨p, q, ns, s, g, a, xs, rfl, _⟩ := h
    rfl
  · obtain ⟨p, q, ns, s, g, a, xs, rfl, hP, hl, h0, h1, ha, nap, x0, x1, k⟩ := h
    refine ⟨_, pss_one (ps_ret (pe_ix ix_list (pv 1) (pe_call G hr (by rfl) gD kD b .nil pass0 (pa_cons (pv 0) (pa_cons (pe_callB call_len_seq (by rfl) T.len PySem.boot_len (pa_cons (pv 1) pa_nil)) pa_nil))) (fun _ _ => rfl))), ?_⟩
    refine ⟨_, rfl, _, rfl, _, rfl, a, xs, rfl, .inl (SqL.of ha), p, q, ns, s, g, _, rfl, hP, hl, h0, h1, by omega, by omega, fun n s' g' H' n0 n1 s0 s1 hP' hB => ?_⟩
    have hj : n.toNat < xs.length := by omega
    exact ⟨a, xs, n, xs[n.toNat], rfl, rfl, SqL.of (hB a _ ha nap), at_of (j := n.toNat) (by omega) (List.getElem?_eq_getElem hj), k _ s' g' H' (List.getElem_mem hj) s0 s1 hP' hB⟩
end
end K06

set_option Elab.async false
set_option linter.all false
set_option maxRecDepth 100000
set_option maxHeartbeats 2000000
/-! Table.__init__. -/
namespace Tb
open PySem PySem.Spec PyProof.Rows L2 EvP Cm Fk DtE KyS XG
def tmeth (j : Nat) : Stmt := match top 35 with
  | .ClassDef _ _ _ body _ _ _ _ _ _ _ => body.getD j (.Pass ⟨0, 0, 0, 0⟩)
  | _ => .Pass ⟨0, 0, 0, 0⟩
abbrev sTI : Stmt := tmeth 0
abbrev NI : List Str := ["self", "rows", "uses", "row", "use", "a", "x", "worth"]
theorem scTI : FnScope NI ["self", "rows", "uses"] (defScope sTI) := ⟨rfl, rfl, rfl, by decide +kernel, rfl, by decide +kernel, by decide +kernel⟩
theorem TabAt.ne {H : Hp} {d : Addr} {T : Tab} (h : TabAt H d T) : ∀ t ∈ T, t.2.1 ≠ d := fun t ht z => by
  have a := h.row t ht
  rw [z, h.at_] at a
  have b := HO.dK.inj (Option.some.inj a)
  cases c : t.2.2 with
  | nil =>
    rw [c] at b
    rw [List.map_eq_nil_iff.mp b] at ht
    cases ht
  | cons e r =>
    rw [c] at b
    cases T with
    | nil => cases ht
    | cons t0 T0 => cases (Prod.mk.inj (List.cons.inj b).1).2
theorem locks_nod {H : Hp} {d : Addr} {T : Tab} (h : TabAt H d T) (n : (T.map (·.2.1)).Nodup) : ((locks d T).map (·.1)).Nodup := by
  unfold locks
  rw [List.map_cons, List.map_map, List.nodup_cons]
  refine ⟨fun m => ?_, n⟩
  obtain ⟨t, ht, e⟩ := List.mem_map.mp m
  exact h.ne t ht e
theorem locks_at {H : Hp} {d : Addr} {T : Tab} (h : TabAt H d T) : ∀ p ∈ locks d T, H p.1 = some p.2 ∧ Mut (some p.2) := fun p hp => by
  rcases List.mem_cons.mp hp with rfl | hp
  · exact ⟨h.at_, True.intro⟩
  · obtain ⟨t, ht, rfl⟩ := List.mem_map.mp hp
    exact ⟨h.row t ht, True.intro⟩
theorem Froz.tab {H Hf : Hp} {d : Addr} {T : Tab} (f : Froz (locks d T) H Hf) : TabF Hf d T := ⟨f.at_ _ (.head _), fun t ht => f.at_ _ (.tail _ (List.mem_map.mpr ⟨t, ht, rfl⟩))⟩
/-- the names in the rows, one row behind another -/
def namesOf (T : Tab) : List Str := T.flatMap fun t => t.2.2.map (·.1)
def ysOf (T : Tab) : V → List V
  | .ref r => match T.find? (fun t => decide (t.2.1 = r)) with
    | some t => t.2.2.map fun e => V.str e.1
    | none => []
  | _ => []
theorem ysOf_of : ∀ {T : Tab}, (T.map (·.2.1)).Nodup → ∀ t ∈ T, ysOf T (.ref t.2.1) = t.2.2.map fun e => V.str e.1
  | [], _, t, h => by cases h
  | t0 :: T, n, t, h => by
    rw [List.map_cons, List.nodup_cons] at n
    by_cases c : t0.2.1 = t.2.1
    · rcases List.mem_cons.mp h with rfl | h
      · show (match List.find? (fun t' : Str × Addr × Fk.Row => decide (t'.2.1 = t.2.1)) (t :: T) with
          | some t => t.2.2.map fun e : Str × Int => V.str e.1
          | none => []) = _
        rw [List.find?_cons, decide_eq_true rfl]
      · exact absurd (List.mem_map.mpr ⟨t, h, c.symm⟩) n.1
    · have hT : t ∈ T := (List.mem_cons.mp h).resolve_left fun e => c (by rw [e])
      have ih := ysOf_of n.2 t hT
      show (match List.find? (fun t' : Str × Addr × Fk.Row => decide (t'.2.1 = t.2.1)) (t0 :: T) with
          | some t => t.2.2.map fun e : Str × Int => V.str e.1
          | none => []) = _
      rw [List.find?_cons, decide_eq_false c]
      exact ih
theorem ys_flat {T : Tab} (n : (T.map (·.2.1)).Nodup) : ((T.map fun t => V.ref t.2.1).flatMap (ysOf T)) = (namesOf T).map V.str := by
  have e : ∀ (S : Tab), (∀ t ∈ S, t ∈ T) → (S.map fun t => V.ref t.2.1).flatMap (ysOf T) = (namesOf S).map V.str := fun S => by
    induction S with
    | nil => intro _; rfl
    | cons t S ih =>
      intro h
      unfold namesOf at ih ⊢
      rw [List.map_cons, List.flatMap_cons, List.flatMap_cons, List.map_append, ih fun t' ht' => h t' (.tail _ ht'), ysOf_of n t (h t (.head _)), List.map_map]
      rfl
  exact e T fun _ h => h
/-- the class Table -/
structure TblC (K : PySem.W.Frag) (C : Addr) : Prop where
  cl : Cls K C
  nS : NoAttr K C "sources"
  nU : NoAttr K C "uses"
  nW : NoAttr K C "_worths"
  nP : NoAttr K C "pairs"
/-- the table at x: its sources, its uses, its worths -/
structure TblAt (C : Addr) (H : Hp) (x : Addr) (ss xs : List Str) (r : TRow) : Prop where
  ex : ∃ (dx n1 n2 dw p : Addr) (prs : List V), H x = some (.ins C dx [("sources", .ref n1), ("uses", .ref n2), ("_worths", .ref dw), ("pairs", .ref p)]) ∧ H n1 = some (.tup (ss.map V.str)) ∧ H n2 = some (.tup (xs.map V.str)) ∧ H dw = some (.dT (tents r)) ∧
    H p = some (.tup prs) ∧ All2 H ((sortK (r.map (·.1))).map fun k => tupV (k.map kV)) prs
theorem TblAt.mono {C x : Addr} {H H' : Hp} {ss xs : List Str} {r : TRow} (e : Ex H H') (h : TblAt C H x ss xs r) : TblAt C H' x ss xs r := by
  obtain ⟨dx, n1, n2, dw, p, prs, h1, h2, h3, h4, h5, h6⟩ := h
  exact ⟨dx, n1, n2, dw, p, prs, e _ _ h1, e _ _ h2, e _ _ h3, e _ _ h4, e _ _ h5, h6.ex e⟩
/-- all uses of a table -/
def usesOf (us : List Str) (T : Tab) : List Str := srt (firsts (us ++ namesOf T))
def spTI (K : PySem.W.Frag) (C : Addr) : Sp := fun vs H Q _ => ∃ (x d u dx : Addr) (T : Tab) (us : List Str), vs = [.ref x, .ref d, .ref u] ∧ H x = some (.ins C dx []) ∧ TabAt H d T ∧ TabOk T ∧ T.length ≤ 6 ∧ SqA K H u (us.map V.str) ∧ (∀ n ∈ us, NameV (.str n)) ∧ us.length ≤ 100 ∧ (usesOf us T).length ≤ 6 ∧
  ∀ H', (∀ b o, H b = some o → b ≠ x → H' b = some o) → TblAt C H' x (srt (T.map (·.1))) (usesOf us T) (worths T) → Q .non H'
theorem spTI_len {K : PySem.W.Frag} {C : Addr} : ∀ vs H Q E, spTI K C vs H Q E → vs.length = (["self", "rows", "uses"] : List Str).length := fun vs H Q E h => by
  obtain ⟨x, d, u, dx, T, us, rfl, _⟩ := h
  rfl
theorem FunD.okG {P : Program} {w : World} {K : PySem.W.Frag} {mg : Str → Option Value} {base : Heap} {x qual : Str} {params : Arguments} {body : List Stmt} {scope : Scope} {dvs : List V} {kws : List (Str × V)} {f : Addr} {fd : FuncData} {N ps : List Str} {k : Nat} {sp : Sp}
    (F : FunD K x qual params body scope dvs kws f fd) (S : FnScope N ps scope) (len : ∀ vs H Q E, sp vs H Q E → vs.length = ps.length)
    (walk : ∀ (cdv : Value) (A : Around) (outer : List Env) (s : Shared) (H : Hp) (vs : List V) (Q : VK) (E : XK), A.guards = some [] → Room k (A.deeper (envOfC qual scope s.heap.objs.size f cdv)) → sp vs H Q E →
      ∃ t, PSs (cxOf CX0 P w K mg base N qual scope f cdv A outer s H E).nox body t ∧ t { nx := fun _ H' => Q .non H', rt := Q } (start N vs) H) : FnG P w K mg base CX0 (k + 1) f fd ps sp := by
  obtain ⟨oc, od, dV, kV, doc, pm, an, cdv, ct, osl, rfl, lk, hcd, _, _⟩ := F.ex
  refine fnG_of lk hcd S len fun A outer s H vs Q E gd room h => ?_
  obtain ⟨t, a, b⟩ := walk cdv A outer s H vs Q E gd room h
  exact ⟨t, a.nox, b⟩
section
variable {P : Program} {w : World} {K : PySem.W.Frag} {mg : Str → Option Value} {base : Heap} {C f fC fA fJ : Addr} {fd fdC fdA fdJ : FuncData} {dvs : List V} {kws : List (Str × V)} {σ : L2.St} {H : Hp}
theorem g_ascL {ns : List Str} {te : TE} (h : EvP.Gives te σ H (lstV (ns.map V.str))) : EvP.Gives (tCall (spAsc K) [] E0 (tCons te tNil)) σ H (tupV ((srt ns).map V.str)) := fun H1 e Q q =>
  h H1 e _ fun v H2 e2 ⟨a, ev, ha⟩ => by
    subst ev
    exact ⟨a, ns.map V.str, keyS, rfl, SqL.of ha, KeyV.strs ns, fun p2 H3 e3 np h3 => q _ H3 (e2.trans e3) ⟨p2, rfl, by rw [h3, byKey_strs]⟩⟩
theorem g_listD {i : Nat} {d : Addr} {kvs : List (Key × V)} (hi : σ[i]? = some (some (.ref d))) (hd : H d = some (.dK kvs)) : EvP.Gives (tCB (fun xs H Q => ∃ (a : Addr) (kvs : List (Key × V)), xs = [.ref a] ∧ Rd H a (.dK kvs) ∧ ∀ p, H p = none → Q (.ref p) (upd H p (.lst (kvs.map fun kv => kV kv.1)))) (tCons (tVar i) tNil)) σ H (lstV (kvs.map fun kv => kV kv.1)) :=
  fun H1 e Q q => ⟨_, hi, d, kvs, rfl, .inl (e _ _ hd), fun p hp => q _ _ (Ex.new hp) ⟨p, rfl, upd_same⟩⟩
/-- [use for row in rows.values() for use in row] -/
theorem g_uses {x d u : Addr} {T : Tab} (h : TabAt H d T) (ok : TabOk T) : EvP.Gives (tLockL (tLc2 (iVals (tVar 1)) (gName 3) tYes (iKeys (tVar 3)) (gName 4) tYes (tVar 4) [3, 4] [4])) (σ0 x d u) H (lstV ((namesOf T).map V.str)) := by
  refine g_lockL (locks_nod h ok.nodA) (locks_at h) fun H1 e1 Hf fr => ?_
  have tf := Froz.tab fr
  obtain ⟨od, hd⟩ := tf.at_
  have w := walks_vals (m := 1) (σ := σ0 x d u) rfl hd
  rw [List.map_map] at w
  have few : (namesOf T).length ≤ 1000 := by
    have l : ∀ (S : Tab), (∀ t ∈ S, t ∈ T) → (namesOf S).length ≤ 12 * S.length := fun S => by
      induction S with
      | nil => intro _; simp [namesOf]
      | cons t S ih =>
        intro hS
        have := ih fun t' ht' => hS t' (.tail _ ht')
        have := (ok.row t (hS t (.head _))).2.2
        unfold namesOf at *
        rw [List.flatMap_cons, List.length_append, List.length_map, List.length_cons]
        omega
    have := l T fun _ h => h
    have := ok.few
    omega
  have c := comp2 (te := tVar 4) (i := 3) (j := 4) (vs := [3, 4]) (vs1 := [4]) (wi1 := iKeys (tVar 3)) (ys := ysOf T) id w (by
      show ((T.map fun t => V.ref t.2.1).flatMap (ysOf T)).length ≤ 1000
      rw [ys_flat ok.nodA, List.length_map]
      exact few) (fun _ => rfl) (fun _ _ => rfl) (fun y hy => ?_) (fun y hy z hz => EvP.var rfl)
  · rw [List.map_id] at c
    rw [← ys_flat ok.nodA]
    exact c
  · obtain ⟨t, ht, rfl⟩ := List.mem_map.mp hy
    obtain ⟨o2, h2⟩ := tf.row t ht
    have wk := walksD_keys (m := 3) (σ := (wipe (σ0 x d u) [3, 4]).set 3 (some (.ref t.2.1))) (H := Hf) rfl h2
    have e : (ents t.2.2).map (fun p => kV p.1) = ysOf T (.ref t.2.1) := by
      rw [ysOf_of ok.nodA t ht]
      unfold ents
      rw [List.map_map]
      rfl
    rw [e] at wk
    exact wk
end
end Tb

set_option Elab.async false
set_option linter.all false
set_option maxRecDepth 100000
set_option maxHeartbeats 4000000
/-! Tests and signs that only add objects; a walk over a side. -/
namespace Cm
open PySem PySem.Spec PyProof.Rows L2 EvP
/-- a test that says b, and only adds -/
def Tst (tt : TT) (σ : L2.St) (H : Hp) (b : Bool) : Prop := ∀ H1, Ex H H1 → ∀ Q : Bool → Hp → Prop, (∀ H2, Ex H1 H2 → Q b H2) → tt σ H1 Q
section
variable {K : PySem.W.Frag} {σ : L2.St} {H : Hp} {ta tb te tc : TE} {P R S : PR} {tt tu : TT} {b c : Bool} {t u : TS} {D : Ends}
theorem t_or (h : Tst tt σ H false) (k : Tst tu σ H b) : Tst (tOr tt tu) σ H b := fun H1 e Q q =>
  h H1 e _ fun H2 e2 => (by
    show tu σ H2 Q
    exact k H2 (e.trans e2) Q fun H3 e3 => q H3 (e2.trans e3))
theorem t_and (h : Tst tt σ H true) (k : Tst tu σ H b) : Tst (tAnd tt tu) σ H b := fun H1 e Q q =>
  h H1 e _ fun H2 e2 => (by
    show tu σ H2 Q
    exact k H2 (e.trans e2) Q fun H3 e3 => q H3 (e2.trans e3))
theorem t_andF (h : Tst tt σ H false) : Tst (tAnd tt tu) σ H false := fun H1 e Q q => h H1 e _ fun H2 e2 => q H2 e2
theorem t_not (h : Tst tt σ H b) : Tst (tNot tt) σ H (!b) := fun H1 e Q q => h H1 e _ q
theorem t_val (h : EvP.Gives te σ H (is (.bl b))) : Tst (tB te) σ H b := fun H1 e Q q => h H1 e _ fun v H2 e2 ev => ⟨b, ev, q _ e2⟩
theorem t_test (h : EvP.Gives te σ H (is (.bl b))) : Tst (tTest te) σ H b := fun H1 e Q q => h H1 e _ fun v H2 e2 ev => ⟨b, ev, q _ e2⟩
/-- a sign of two values -/
theorem g_op {r : R2} (h : EvP.Gives ta σ H P) (k : EvP.Gives tb σ H R) (step : ∀ x y H1, Ex H H1 → P.R x H1 → R.R y H1 → ∀ Q : VK, (∀ v H2, Ex H1 H2 → S.R v H2 → Q v H2) → r x y H1 Q) : EvP.Gives (tOp r ta tb) σ H S := fun H1 e Q q =>
  h H1 e _ fun x H2 e2 hx => k H2 (e.trans e2) _ fun y H3 e3 hy => step x y H3 ((e.trans e2).trans e3) (P.mono _ _ _ e3 hx) hy Q fun v H4 e4 hv => q v H4 ((e2.trans e3).trans e4) hv
/-- a call of a built-in, one argument -/
theorem g_call {r : List V → Hp → VK → Prop} (h : EvP.Gives te σ H P) (step : ∀ x H1, Ex H H1 → P.R x H1 → ∀ Q : VK, (∀ v H2, Ex H1 H2 → S.R v H2 → Q v H2) → r [x] H1 Q) : EvP.Gives (tCB r (tCons te tNil)) σ H S := fun H1 e Q q =>
  h H1 e _ fun x H2 e2 hx => step x H2 (e.trans e2) hx Q fun v H3 e3 hv => q v H3 (e2.trans e3) hv
theorem g_and (h : EvP.Gives ta σ H (is (.bl true))) (k : EvP.Gives tb σ H P) : EvP.Gives (tAndV ta tb) σ H P := fun H1 e Q q =>
  h H1 e _ fun v H2 e2 ev => ⟨true, ev, (by
    show tb σ H2 Q
    exact k H2 (e.trans e2) Q fun u H3 e3 hu => q u H3 (e2.trans e3) hu)⟩
theorem st_ifF (h : Tst tt σ H false) (k : ∀ H1, Ex H H1 → u D σ H1) : tSeq (tIfS tt t tNext) u D σ H := h H (Ex.refl H) _ k
theorem st_ifT (h : Tst tt σ H true) (k : ∀ H1, Ex H H1 → t { D with nx := u D } σ H1) : tSeq (tIfS tt t tNext) u D σ H := h H (Ex.refl H) _ k
/-- the last statement of a block -/
theorem st_ifF1 (h : Tst tt σ H false) (k : ∀ H1, Ex H H1 → D.nx σ H1) : tIfS tt t tNext D σ H := h H (Ex.refl H) _ k
end
end Cm

set_option Elab.async false
set_option linter.all false
set_option maxRecDepth 100000
set_option maxHeartbeats 4000000
/-! Table.__init__: the body. -/
namespace Tb
open PySem PySem.Spec PyProof.Rows L2 EvP Cm Fk DtE KyS XG
theorem g_gt6 {K : PySem.W.Frag} {σ : L2.St} {H : Hp} {te : TE} {xs : List V} (h : EvP.Gives te σ H (tupV xs)) (l : xs.length ≤ 6) {r : List V → Hp → VK → Prop} (hr : ∀ p H1 Q, SqT K H1 p xs → Q (.int (xs.length : Nat)) H1 → r [.ref p] H1 Q) :
    Tst (tTest (tOp (rI0 fun i j => .bl (decide (j < i))) (tCB r (tCons te tNil)) (tC (.int 6)))) σ H false :=
  t_test (g_op (P := is (.int (xs.length : Nat))) (R := is (.int 6)) (g_call h fun x H1 e ⟨a, ev, ha⟩ Q q => by
    subst ev
    exact hr a H1 Q (SqT.of ha) (q _ _ (Ex.refl _) rfl)) EvP.cst fun x y H1 e ex ey Q q => ⟨(xs.length : Nat), 6, ex, ey, by
    show Q (.bl (decide ((6 : Int) < (xs.length : Nat)))) H1
    rw [decide_eq_false (by omega)]
    exact q _ _ (Ex.refl _) rfl⟩)
theorem TabAt.but {H G : Hp} {x d C dx : Addr} {fs : List (Str × V)} {T : Tab} (hx : H x = some (.ins C dx fs)) (k : ∀ b o, H b = some o → b ≠ x → G b = some o) (h : TabAt H d T) : TabAt G d T :=
  ⟨k _ _ h.at_ (ne_of h.at_ hx fun z => nomatch z), fun t ht => k _ _ (h.row t ht) (ne_of (h.row t ht) hx fun z => nomatch z)⟩
theorem SqA.but {K : PySem.W.Frag} {H G : Hp} {x a C dx : Addr} {fs : List (Str × V)} {xs : List V} (hx : H x = some (.ins C dx fs)) (k : ∀ b o, H b = some o → b ≠ x → G b = some o) (h : SqA K H a xs) : SqA K G a xs := by
  rcases h with ((h | ⟨o, h⟩) | h) | ((h | ⟨o, h⟩) | h)
  · exact .inl (.inl (.inl (k _ _ h (ne_of h hx fun z => nomatch z))))
  · exact .inl (.inl (.inr ⟨o, k _ _ h (ne_of h hx fun z => nomatch z)⟩))
  · exact .inl (.inr h)
  · exact .inr (.inl (.inl (k _ _ h (ne_of h hx fun z => nomatch z))))
  · exact .inr (.inl (.inr ⟨o, k _ _ h (ne_of h hx fun z => nomatch z)⟩))
  · exact .inr (.inr h)
theorem keys_stay {H : Hp} {x : Addr} {o o' : HO} (hx : H x = some o) (ho : ∀ ys, o ≠ .tup ys) : ∀ {ks : List (List Key)} {vs : List V}, All2 H (ks.map fun k => tupV (k.map kV)) vs → All2 (upd H x o') (ks.map fun k => tupV (k.map kV)) vs
  | [], _, .nil => .nil
  | k :: ks, _, .cons ⟨a, ev, ha⟩ r => .cons ⟨a, ev, by
    rw [upd_ne (fun z => by
      rw [z, hx] at ha
      exact ho _ (Option.some.inj ha))]
    exact ha⟩ (keys_stay hx ho r)
theorem names_few {T : Tab} (ok : TabOk T) : (namesOf T).length ≤ 144 := by
  have l : ∀ (S : Tab), (∀ t ∈ S, t ∈ T) → (namesOf S).length ≤ 12 * S.length := fun S => by
    induction S with
    | nil => intro _; simp [namesOf]
    | cons t S ih =>
      intro hS
      have := ih fun t' ht' => hS t' (.tail _ ht')
      have := (ok.row t (hS t (.head _))).2.2
      unfold namesOf at *
      rw [List.flatMap_cons, List.length_append, List.length_map, List.length_cons]
      omega
  have := l T fun _ h => h
  have := ok.few
  omega
theorem worths_few {T : Tab} (ok : TabOk T) : (worths T).length ≤ 144 := by
  have l : ∀ (S : Tab), (worths S).length ≤ (namesOf S).length := fun S => by
    induction S with
    | nil => simp [worths, namesOf]
    | cons t S ih =>
      unfold worths namesOf wrow at *
      rw [List.flatMap_cons, List.flatMap_cons, List.length_append, List.length_append, List.length_map, List.length_map]
      have := List.length_filter_le (fun e : Str × Int => decide (0 < e.2)) t.2.2
      omega
  exact Nat.le_trans (l T) (names_few ok)
theorem mem_worths {T : Tab} {z : List Key × Int} (h : z ∈ worths T) : ∃ t ∈ T, ∃ e ∈ t.2.2, 0 < e.2 ∧ z = (key2 t.1 e.1, e.2) := by
  obtain ⟨t, ht, hz⟩ := List.mem_flatMap.mp h
  obtain ⟨e, he, rfl⟩ := List.mem_map.mp hz
  exact ⟨t, ht, e, (List.mem_filter.mp he).1, of_decide_eq_true (List.mem_filter.mp he).2, rfl⟩
theorem key2_inj {a b x y : Str} (h : key2 a x = key2 b y) : a = b ∧ x = y := by
  unfold key2 at h
  have h1 := (List.cons.inj h).1
  have h2 := (List.cons.inj (List.cons.inj h).2).1
  exact ⟨Sum.inr.inj h1, Sum.inr.inj h2⟩
theorem wrow_nod (a : Str) {r : Fk.Row} (h : (r.map (·.1)).Nodup) : ((wrow a r).map (·.1)).Nodup := by
  unfold wrow
  rw [List.map_map]
  have h2 : ((r.filter fun e => decide (0 < e.2)).map (·.1)).Nodup := h.sublist (List.filter_sublist.map _)
  rw [List.nodup_iff_pairwise_ne, List.pairwise_map] at h2 ⊢
  exact h2.imp fun ne e => ne (key2_inj e).2
theorem worths_nod {T : Tab} (ok : TabOk T) : ((worths T).map (·.1)).Nodup := by
  have l : ∀ (S : Tab), (S.map (·.1)).Nodup → (∀ t ∈ S, t ∈ T) → ((worths S).map (·.1)).Nodup := fun S => by
    induction S with
    | nil => intro _ _; exact List.nodup_nil
    | cons t S ih =>
      intro nd hS
      rw [List.map_cons, List.nodup_cons] at nd
      have i2 := ih nd.2 fun t' ht' => hS t' (.tail _ ht')
      have e : worths (t :: S) = wrow t.1 t.2.2 ++ worths S := by
        unfold worths
        rw [List.flatMap_cons]
      rw [e, List.map_append, List.nodup_append]
      refine ⟨wrow_nod _ (ok.row t (hS t (.head _))).1, i2, fun k hk k' hk' ee => ?_⟩
      obtain ⟨z, hz, rfl⟩ := List.mem_map.mp hk
      obtain ⟨z', hz', rfl⟩ := List.mem_map.mp hk'
      obtain ⟨c, _, rfl⟩ := List.mem_map.mp hz
      obtain ⟨t', ht', c', _, _, rfl⟩ := mem_worths hz'
      have := (key2_inj ee).1
      exact nd.1 (List.mem_map.mpr ⟨t', ht', this.symm⟩)
  exact l T ok.nod fun _ h => h
theorem worths_pair {T : Tab} (ok : TabOk T) : ∀ z ∈ worths T, PairK z.1 := fun z hz => by
  obtain ⟨t, ht, e, he, _, rfl⟩ := mem_worths hz
  exact ⟨t.1, e.1, rfl, ok.nm t ht, ((ok.row t ht).2.1 e he).1⟩
end Tb

set_option Elab.async false
set_option linter.all false
set_option maxRecDepth 100000
set_option maxHeartbeats 4000000
/-! Signs of own instances: a def of the class that keeps a promise, asked by a sign. -/
namespace Own
open PySem PySem.Spec PyProof.Rows L2
/-- the method m of the class at C: its def at f keeps sp -/
structure Mt (P : Program) (w : World) (K : PySem.W.Frag) (mg : Str → Option Value) (base : Heap) (C : Addr) (m : Str) (k : Nat) (ps : List Str) (sp : Sp) (f : Addr) (fd : FuncData) : Prop where
  at_ : PySem.W.findIn K (.ref C) m = some (some (.ref f))
  fn : PySem.W.isFn K (.ref f) = true
  ok : FnOk P w K mg base CX0 k f fd ps sp
  b : Binds K fd ps []
section
variable {X : Cx} {pins : List (Addr × Obj)} {σ : L2.St} {H : Hp} {s : Shared} {C f : Addr} {fd : FuncData} {k : Nat} {ps : List Str} {sp : Sp} {m : Str}
/-- the call of a def within the builtins that the frame runs -/
theorem run_at {A' : Around} {vs : List V} {us : List Value} {Q : VK} (F : FnOk X.prog X.w X.K X.mg X.base CX0 k f fd ps sp) (b : Binds X.K fd ps []) (frames : A'.frames = X.A.frames) (hr : Room k A') (I : Inv X pins σ H s) (r : Vals vs us) (h : sp vs H Q E0) :
    wpAny (model X.prog X.w) A' (call (.ref f) us) (EP X pins σ Q) X.xe s := by
  have e := I.env0
  have n : (us ++ []).length = ps.length := by rw [List.append_nil, ← r.length]; exact F.len _ _ _ _ h
  refine wpAny_call (codeAny_mono (F.run A' X.stack s H ⟨us, []⟩ (us ++ []) vs Q E0 hr ⟨frames.trans e.frames, e.mod, e.bs, e.bsz, e.funs, e.frf, e.hok, e.bare⟩ (b s us I.kIn n) (by rw [List.append_nil]; exact r) h) fun r s' q => ?_)
  cases r with
  | error e => exact (show False from q).elim
  | ok fl =>
    cases fl with
    | ret u => exact I.after q
    | next => exact (show False from q).elim
    | brk => exact (show False from q).elim
    | cont => exact (show False from q).elim
theorem ins_at {a dx : Addr} {fs : List (Str × V)} (I : Inv X pins σ H s) (e : H a = some (.ins C dx fs)) : ∃ ox od, PySem.W.InstAt s.heap a ox C od := by
  obtain ⟨mA, O, _⟩ := ins_get I.hok e
  obtain ⟨od, J, _⟩ := O.look
  exact ⟨_, _, J⟩
theorem not_ni {v : V} {u : Value} (r : RelV v u) : u ≠ .notImplemented := by
  rintro rfl
  cases v with
  | non => cases (show Value.notImplemented = Value.none from r)
  | bl b => cases (show Value.notImplemented = Value.bool b from r)
  | int i => obtain ⟨t, e⟩ := (show ∃ t, Value.notImplemented = Value.int i t from r); cases e
  | str i => obtain ⟨t, e⟩ := (show ∃ t, Value.notImplemented = Value.str i t from r); cases e
  | byt i => obtain ⟨t, e⟩ := (show ∃ t, Value.notImplemented = Value.bytes i t from r); cases e
  | flt i => obtain ⟨t, e⟩ := (show ∃ t, Value.notImplemented = Value.float i t from r); cases e
  | ref i => cases (show Value.notImplemented = Value.ref i from r)
  | ty i => cases (show Value.notImplemented = Value.type i from r)
theorem cmp_back {Q : VK} {u : Value} {s' : Shared} (h : EP X pins σ Q u s') : PySem.W.CmpBack (EP X pins σ Q) u s' := by
  obtain ⟨v, H', I', r, q⟩ := h
  have n := not_ni r
  cases u <;> first | exact absurd rfl n | exact ⟨v, H', I', r, q⟩
/-- an instance of the class at C -/
def Ins (H : Hp) (x : V) (C : Addr) : Prop := ∃ a dx fs, x = .ref a ∧ H a = some (.ins C dx fs)
/-- x op y, both of the class -/
def rOwn (C : Addr) (sp : Sp) : R2 := fun x y H Q => Ins H x C ∧ Ins H y C ∧ sp [x, y] H Q E0
theorem op_own {op : Operator} (M : Mt X.prog X.w X.K X.mg X.base C (PySem.dunder op.info.2) k ps sp f fd) (first : PySem.W.selfFirst X.K C = true) (hr : Room k X.A) : OpR X (binaryOp op) (rOwn C sp) := by
  intro pins s σ H x y v u Q I rx ry h
  obtain ⟨⟨a, dx, fs, rfl, ha⟩, ⟨b, dy, gs, rfl, hb⟩, h⟩ := h
  cases rx
  cases ry
  obtain ⟨ox, od, J⟩ := ins_at I ha
  obtain ⟨oy, oe, L⟩ := ins_at I hb
  obtain ⟨m, fr⟩ := I.fr
  exact PySem.W.binop_K fr I.ok.mod.kin J L.type first M.at_ M.fn (wpAny_mono (run_at M.ok M.b rfl hr I (.cons (show RelV (V.ref a) (Value.ref a) from rfl) (.cons (show RelV (V.ref b) (Value.ref b) from rfl) .nil)) h) (fun _ _ z => cmp_back z) fun _ _ z => z)
/-- x op y, a comparison that is no identity: y's type is told by t -/
def rCmpOwn (K : PySem.W.Frag) (C : Addr) (sp : Sp) : R2 := fun x y H Q => Ins H x C ∧ Ins H y C ∧ sp [x, y] H Q E0
theorem cmp_own {op : CmpOp} (M : Mt X.prog X.w X.K X.mg X.base C (cmpInfo op).2.1 k ps sp f fd) (hr : Room k X.A) (hop : ∀ a b : Value, compareOp op a b = richCompare op a b := by intro _ _; rfl) : OpR X (compareOp op) (rCmpOwn X.K C sp) := by
  intro pins s σ H x y v u Q I rx ry h
  obtain ⟨⟨a, dx, fs, rfl, ha⟩, ⟨b, dy, gs, rfl, hb⟩, h⟩ := h
  cases rx
  cases ry
  obtain ⟨ox, od, J⟩ := ins_at I ha
  obtain ⟨oy, oe, L⟩ := ins_at I hb
  obtain ⟨m, fr⟩ := I.fr
  rw [hop]
  exact PySem.W.cmp_K (tb := .ref C) (by have := hr.un; omega) fr I.ok.mod.kin J L.type (by unfold PySem.W.notFirst; simp) M.at_ M.fn (wpAny_mono (run_at M.ok M.b rfl hr I (.cons (show RelV (V.ref a) (Value.ref a) from rfl) (.cons (show RelV (V.ref b) (Value.ref b) from rfl) .nil)) h) (fun _ _ z => cmp_back z) fun _ _ z => z)
/-- y in x, by the class's own def, which answers True or False -/
def rInOwn (neg : Bool) (C : Addr) (sp : Sp) : R2 := fun y x H Q => Ins H x C ∧ sp [x, y] H (fun v H' => ∃ b, v = .bl b ∧ Q (.bl (if neg then !b else b)) H') E0
theorem in_own (M : Mt X.prog X.w X.K X.mg X.base C "__contains__" k ps sp f fd) (hr : Room k X.A) : OpR X (compareOp .In) (rInOwn false C sp) := by
  intro pins s σ H y x v u Q I ry rx h
  obtain ⟨⟨a, dx, fs, rfl, ha⟩, h⟩ := h
  cases rx
  obtain ⟨ox, od, J⟩ := ins_at I ha
  obtain ⟨m, fr⟩ := I.fr
  refine PySem.W.in_K fr I.ok.mod.kin J M.at_ M.fn (wpAny_mono (run_at M.ok M.b rfl hr I (.cons (show RelV (V.ref a) (Value.ref a) from rfl) (.cons ry .nil)) h) (fun r s' z => ?_) fun _ _ z => z)
  obtain ⟨v', H', I', rv, b, rfl, q⟩ := z
  obtain rfl : r = Value.bool b := rv
  exact wpAny_truthy_bool ⟨.bl b, _, I', rfl, q⟩
theorem notIn_own (M : Mt X.prog X.w X.K X.mg X.base C "__contains__" k ps sp f fd) (hr : Room k X.A) : OpR X (compareOp .NotIn) (rInOwn true C sp) := by
  intro pins s σ H y x v u Q I ry rx h
  obtain ⟨⟨a, dx, fs, rfl, ha⟩, h⟩ := h
  cases rx
  obtain ⟨ox, od, J⟩ := ins_at I ha
  obtain ⟨m, fr⟩ := I.fr
  refine PySem.W.notIn_K fr I.ok.mod.kin J M.at_ M.fn (wpAny_mono (run_at M.ok M.b rfl hr I (.cons (show RelV (V.ref a) (Value.ref a) from rfl) (.cons ry .nil)) h) (fun r s' z => ?_) fun _ _ z => z)
  obtain ⟨v', H', I', rv, b, rfl, q⟩ := z
  obtain rfl : r = Value.bool b := rv
  exact wpAny_truthy_bool ⟨.bl (!b), _, I', rfl, q⟩
/-- x[y] by the class's own def -/
def rIxOwn (C : Addr) (sp : Sp) : R2 := fun x y H Q => Ins H x C ∧ sp [x, y] H Q E0
theorem ix_own (M : Mt X.prog X.w X.K X.mg X.base C "__getitem__" k ps sp f fd) (fi : PySem.W.fnIn X.K f = true) (hr : Room (k + 1) X.A)
    (hsl : ∀ (slice : Expr) (v u : Value), subscripted slice true v u = runValue (.builtin "lifetime.subscript" ⟨[v, u], []⟩) := by intro _ _ _; with_unfolding_all rfl) : IxR X (rIxOwn C sp) := by
  intro value slice pins s σ H x y v u Q I rx ry h hs
  obtain ⟨⟨a, dx, fs, rfl, ha⟩, h⟩ := h
  cases rx
  obtain ⟨ox, od, J⟩ := ins_at I ha
  obtain ⟨m, fr⟩ := I.fr
  exact PySem.W.sub_K fr I.ok.mod.kin J M.at_ fi M.fn (run_at M.ok M.b rfl hr.in1 I (.cons (show RelV (V.ref a) (Value.ref a) from rfl) (.cons ry .nil)) h) (hsl _ _ _)
/-- len(x) by the class's own def -/
def rLenOwn (C : Addr) (sp : Sp) : List V → Hp → VK → Prop := fun xs H Q => ∃ x, xs = [x] ∧ Ins H x C ∧ sp [x] H (fun v H' => ∃ n : Nat, v = .int n ∧ n < 1000000 ∧ Q (.int n) H') E0
theorem call_lenOwn (M : Mt X.prog X.w X.K X.mg X.base C "__len__" k ps sp f fd) (hr : Room (k + 1) X.A) : CallR X (.builtin "len") (rLenOwn C sp) := by
  intro pins s σ H xs us Q I r h
  obtain ⟨_, rfl, ⟨a, dx, fs, rfl, ha⟩, h⟩ := h
  obtain ⟨u, rfl, ru⟩ := vals1 r
  cases ru
  obtain ⟨ox, od, J⟩ := ins_at I ha
  obtain ⟨m, fr⟩ := I.fr
  refine PySem.W.len_K fr I.ok.mod.kin J M.at_ M.fn (wpAny_mono (run_at M.ok M.b rfl hr.in1 I (.cons (show RelV (V.ref a) (Value.ref a) from rfl) .nil) h) (fun r s' z => ?_) fun _ _ z => z)
  obtain ⟨v', H', I', rv, n, rfl, hn, q⟩ := z
  obtain ⟨t, rfl⟩ := rv
  exact ⟨⟨by omega, by omega⟩, .int n, H', I'.tok _, ⟨_, rfl⟩, q⟩
/-- str(x) by the class's own def -/
def rStrOwn (C : Addr) (sp : Sp) : List V → Hp → VK → Prop := fun xs H Q => ∃ x, xs = [x] ∧ Ins H x C ∧ sp [x] H (fun v H' => ∃ z : Str, v = .str z ∧ Q (.str z) H') E0
theorem call_strOwn (M : Mt X.prog X.w X.K X.mg X.base C "__str__" k ps sp f fd) (hr : Room (k + 2) X.A) : CallR X (.type "str") (rStrOwn C sp) := by
  intro pins s σ H xs us Q I r h
  obtain ⟨_, rfl, ⟨a, dx, fs, rfl, ha⟩, h⟩ := h
  obtain ⟨u, rfl, ru⟩ := vals1 r
  cases ru
  obtain ⟨ox, od, J⟩ := ins_at I ha
  refine PySem.W.kso_call (by have := hr.un; show X.A.units + 1 + 1 < cLine; omega) I.kIn J M.at_ M.fn (wpAny_mono (run_at M.ok M.b rfl hr.in1.in1 I (.cons (show RelV (V.ref a) (Value.ref a) from rfl) .nil) h) (fun r s' z => ?_) fun _ _ z => z)
  obtain ⟨v', H', I', rv, t, rfl, q⟩ := z
  obtain ⟨u, rfl⟩ := rv
  exact ⟨.str t, H', I', ⟨_, rfl⟩, q⟩
/-- ~x by the class's own def -/
theorem un_own (M : Mt X.prog X.w X.K X.mg X.base C "__invert__" k ps sp f fd) (hr : Room k X.A) : UnR X (unaryOp .Invert) (fun x H Q => Ins H x C ∧ sp [x] H Q E0) := by
  intro pins s σ H x v Q I rx h
  obtain ⟨⟨a, dx, fs, rfl, ha⟩, h⟩ := h
  cases rx
  obtain ⟨ox, od, J⟩ := ins_at I ha
  obtain ⟨m, fr⟩ := I.fr
  exact PySem.W.ksp_inv fr I.ok.mod.kin J M.at_ M.fn (run_at M.ok M.b rfl hr I (.cons (show RelV (V.ref a) (Value.ref a) from rfl) .nil) h)
end
end Own

set_option Elab.async false
set_option linter.all false
set_option maxRecDepth 100000
set_option maxHeartbeats 4000000
/-! The truth of an own instance by its __len__. -/
namespace Own
open PySem PySem.Spec PyProof.Rows L2
section
variable {X : Cx} {C f : Addr} {fd : FuncData} {k : Nat} {ps : List Str} {sp : Sp}
def rTruOwn (C : Addr) (sp : Sp) : V → Hp → (Bool → Hp → Prop) → Prop := fun x H Q => Ins H x C ∧ sp [x] H (fun v H' => ∃ n : Nat, v = .int n ∧ n < 1000000 ∧ Q ((n : Int) != 0) H') E0
theorem tru_own (hb : PySem.W.findIn X.K (.ref C) "__bool__" = some none) (M : Mt X.prog X.w X.K X.mg X.base C "__len__" k ps sp f fd) (hr : Room (k + 1) X.A) : TruR X (rTruOwn C sp) := by
  intro pins s σ H x v Q I rx h
  obtain ⟨⟨a, dx, fs, rfl, ha⟩, h⟩ := h
  cases rx
  obtain ⟨ox, od, J⟩ := ins_at I ha
  unfold truthy
  refine wpAny_bind (m := callSpecial? (.ref a) (Str.ofString "__bool__")) (wpAny_bind (wpAny_bind (J.type.here ((PySem.W.looks_findIn I.kIn hb).here (wpAny_pure ?_)))))
  refine wpAny_bind (wpAny_bind (J.type.here ((PySem.W.looks_findIn I.kIn M.at_).here ?_)))
  show wpAny _ _ (runValue (.builtin "len" ⟨[.ref a], []⟩) >>= _) _ _ _
  refine wpAny_bind (wpAny_runValue (codeAny_builtin PySem.entry_len ?_))
  rw [Around.under_plainId PySem.plain_len _]
  unfold Builtin.«len»
  refine wpAny_bind (m := oneArg "len" _) (wpAny_pure ?_)
  refine wpAny_bind (m := callSpecial? (.ref a) (Str.ofString "__len__")) (PySem.W.special_fn I.kIn J M.at_ (beq_iff_eq.mp M.fn) (wpAny_mono (run_at M.ok M.b rfl hr.in1 I (.cons (show RelV (V.ref a) (Value.ref a) from rfl) .nil) h) (fun r s' z => ?_) fun _ _ z => z))
  obtain ⟨v', H', I', rv, n, rfl, hn, q⟩ := z
  obtain ⟨t, rfl⟩ := rv
  refine wpAny_bind (wpAny_holding (wpAny_pure ?_))
  refine wpAny_bind (wpAny_letGo ?_)
  show wpAny _ _ (if (n : Int) < 0 then _ else _) _ _ _
  rw [if_neg (by omega)]
  show wpAny _ _ (if (n : Int) ≥ 2 ^ 63 then _ else _) _ _ _
  rw [if_neg (by omega)]
  refine wpAny_bind (wpAny_mkInt (wpAny_pure ?_))
  exact wpAny_pure ⟨H', I'.tok _, q⟩
end
end Own

set_option Elab.async false
set_option linter.all false
set_option maxRecDepth 100000
set_option maxHeartbeats 4000000
/-! x != y of own instances, where the class has __eq__ and no __ne__. -/
namespace Own
open PySem PySem.Spec PySem.Calls PyProof.Rows PySem.W L2
section
variable {X : Cx} {C f : Addr} {fd : FuncData} {k : Nat} {ps : List Str} {sp : Sp}
theorem ifBound_b {M : Model} {A : Around} {E : Value → Shared → Prop} {s : Shared} {K : Frag} {x C : Addr} {ox : Obj} {od : Option Obj} {name : Str} {id : String} {args : List Value} {Q : Option Value → Shared → Prop} (kin : K.In s.heap) (J : InstAt s.heap x ox C od)
    (hs : findIn K (.ref C) name = some (some (.builtin id))) (hb : ∀ self, bindSpecial (.builtin id) self = pure (.builtin id, [self])) (h : wpAny M A (call (.builtin id) (.ref x :: args)) (fun v => Q (some v)) E s) : wpAny M A (callSpecialIfBound? (.ref x) name args) Q E s := by
  simp only [callSpecialIfBound?, bindSpecialIfBound?]
  refine wpAny_holding (wpAny_bind (wpAny_bind (wpAny_bind (J.type.here ((looks_findIn kin hs).here ?_)))))
  refine wpAny_bind (wpAny_askSetting (wpAny_ite ?_))
  have fin : wpAny M A (call (.builtin id) ([.ref x] ++ args) >>= fun v => pure (some v)) Q E s := wpAny_bind (wpAny_mono h (fun v s' y => wpAny_pure y) fun _ _ y => y)
  split
  · exact wpAny_bind ((Looks.of_pure (hb _)).here (wpAny_pure (by exact fin)))
  · exact wpAny_tryCatch (wpAny_bind ((Looks.of_pure (hb _)).here (wpAny_pure (by exact fin))))
/-- x != y: the class's __eq__, turned about -/
def rNeOwn (C : Addr) (sp : Sp) : R2 := fun x y H Q => Ins H x C ∧ Ins H y C ∧ sp [x, y] H (fun v H' => ∃ b, v = .bl b ∧ Q (.bl (!b)) H') E0
open Builtin in
theorem ne_own (M : Mt X.prog X.w X.K X.mg X.base C "__eq__" k ps sp f fd) (hne : findIn X.K (.ref C) "__ne__" = some (some (.builtin "object.__ne__"))) (hm : mroIn X.K C (.type "object") = some true) (hr : Room (k + 1) X.A) : OpR X (compareOp .NotEq) (rNeOwn C sp) := by
  intro pins s σ H x y v u Q I rx ry h
  obtain ⟨⟨a, dx, fs, rfl, ha⟩, ⟨b, dy, gs, rfl, hb⟩, h⟩ := h
  cases rx
  cases ry
  obtain ⟨ox, od, J⟩ := ins_at I ha
  obtain ⟨oy, oe, L⟩ := ins_at I hb
  have hu : X.A.units < cLine := by have := hr.un; omega
  have hu1 : X.A.in1.units < cLine := by have := hr.in1.un; omega
  show wpAny _ _ (richCompare .NotEq (.ref a) (.ref b)) _ _ _
  have one : wpAny (model X.prog X.w) X.A (tryCompare (.ref a) (cmpInfo .NotEq).2.1 (.ref b)) (fun r s' => ∃ v, r = some v ∧ EP X pins σ Q v s') X.xe s := by
    unfold tryCompare
    refine wpAny_bind (m := callSpecialIfBound? (.ref a) (Str.ofString "__ne__") [.ref b]) (ifBound_b I.kIn J hne PySem.F.slot_object_ne.bind ?_)
    refine wpAny_call (codeAny_call_builtin PySem.F.slot_object_ne.plain PySem.F.entry_object_ne (check_slot (i := "object.__ne__") (owner := "object") (n := "__ne__") (by decide +kernel) (by decide +kernel) (J.type.andThen (looks_mroIn I.kIn hm)) (PySem.F.args_object_ne_2 _ _) ?_))
    unfold Builtin.«object.__ne__»
    refine wpAny_bind (m := slotArgs "__ne__" 1 _) (wpAny_pure ?_)
    refine wpAny_bind (m := cRoomFor _ _) (wpAny_cRoomFor hu1 ?_)
    refine wpAny_bind (m := callSpecialIfBound? (.ref a) (Str.ofString "__eq__") [.ref b]) (ifBound_K I.kIn J M.at_ M.fn (wpAny_mono (run_at M.ok M.b rfl hr.in1 I (.cons (show RelV (V.ref a) (Value.ref a) from rfl) (.cons (show RelV (V.ref b) (Value.ref b) from rfl) .nil)) h) (fun r s' z => ?_) fun _ _ z => z))
    obtain ⟨v', H', I', rv, c, rfl, q⟩ := z
    obtain rfl : r = Value.bool c := rv
    refine wpAny_bind (wpAny_truthy_bool (wpAny_pure ?_))
    exact wpAny_pure ⟨_, rfl, .bl (!c), H', I', rfl, q⟩
  unfold richCompare
  simp only [oneThing_ref]
  refine wpAny_holding (wpAny_bind (wpAny_cRoomFor hu ?_))
  refine wpAny_bind (J.type.here (wpAny_bind (L.type.here ?_)))
  have same : ((Value.ref C) != (Value.ref C)) = false := by simp
  rw [same]
  refine wpAny_bind (wpAny_pure ?_)
  simp only [Bool.false_eq_true, if_false]
  refine wpAny_bind (wpAny_mono one (fun r s' z => ?_) fun _ _ e => e)
  obtain ⟨v, rfl, hq⟩ := z
  exact wpAny_pure hq
end
end Own

set_option Elab.async false
set_option linter.all false
set_option maxRecDepth 100000
set_option maxHeartbeats 4000000
/-! bool(x) of an own instance. -/
namespace Own
open PySem PySem.Spec PyProof.Rows L2
section
variable {X : Cx} {pins : List (Addr × Obj)} {σ : L2.St} {H : Hp} {s : Shared} {C f : Addr} {fd : FuncData} {k : Nat} {ps : List Str} {sp : Sp}
/-- the truth within the builtins that the frame runs -/
theorem tru_at {A' : Around} {a : Addr} {Q : Bool → Hp → Prop} (hb : PySem.W.findIn X.K (.ref C) "__bool__" = some none) (M : Mt X.prog X.w X.K X.mg X.base C "__len__" k ps sp f fd) (frames : A'.frames = X.A.frames) (hr : Room (k + 1) A') (I : Inv X pins σ H s)
    (h : rTruOwn C sp (.ref a) H Q) : wpAny (model X.prog X.w) A' (truthy (.ref a)) (TP X pins σ Q) X.xe s := by
  obtain ⟨⟨_, dx, fs, e, ha⟩, h⟩ := h
  cases e
  obtain ⟨ox, od, J⟩ := ins_at I ha
  unfold truthy
  refine wpAny_bind (m := callSpecial? (.ref a) (Str.ofString "__bool__")) (wpAny_bind (wpAny_bind (J.type.here ((PySem.W.looks_findIn I.kIn hb).here (wpAny_pure ?_)))))
  refine wpAny_bind (wpAny_bind (J.type.here ((PySem.W.looks_findIn I.kIn M.at_).here ?_)))
  show wpAny _ _ (runValue (.builtin "len" ⟨[.ref a], []⟩) >>= _) _ _ _
  refine wpAny_bind (wpAny_runValue (codeAny_builtin PySem.entry_len ?_))
  rw [Around.under_plainId PySem.plain_len _]
  unfold Builtin.«len»
  refine wpAny_bind (m := oneArg "len" _) (wpAny_pure ?_)
  refine wpAny_bind (m := callSpecial? (.ref a) (Str.ofString "__len__")) (PySem.W.special_fn I.kIn J M.at_ (beq_iff_eq.mp M.fn) (wpAny_mono (run_at M.ok M.b frames hr.in1 I (.cons (show RelV (V.ref a) (Value.ref a) from rfl) .nil) h) (fun r s' z => ?_) fun _ _ z => z))
  obtain ⟨v', H', I', rv, n, rfl, hn, q⟩ := z
  obtain ⟨t, rfl⟩ := rv
  refine wpAny_bind (wpAny_holding (wpAny_pure ?_))
  refine wpAny_bind (wpAny_letGo ?_)
  show wpAny _ _ (if (n : Int) < 0 then _ else _) _ _ _
  rw [if_neg (by omega)]
  show wpAny _ _ (if (n : Int) ≥ 2 ^ 63 then _ else _) _ _ _
  rw [if_neg (by omega)]
  refine wpAny_bind (wpAny_mkInt (wpAny_pure ?_))
  exact wpAny_pure ⟨H', I'.tok _, q⟩
theorem call_boolOwn (hb : PySem.W.findIn X.K (.ref C) "__bool__" = some none) (M : Mt X.prog X.w X.K X.mg X.base C "__len__" k ps sp f fd) (hr : Room (k + 3) X.A) : CallR X (.type "bool") (fun xs H Q => ∃ a, xs = [.ref a] ∧ rTruOwn C sp (.ref a) H fun b H' => Q (.bl b) H') := by
  intro pins s σ H xs us Q I r h
  obtain ⟨a, rfl, h⟩ := h
  obtain rfl := Vals.ref1 r
  refine callType_codes (Q₁ := fun obj s1 => ∃ b, obj = Value.bool b ∧ TP X pins σ (fun b H' => Q (.bl b) H') b s1) F.called_bool (F.typeCall_bool_1 _) F.entry_object_init ?_ fun obj s1 z => ?_
  · refine codeAny_call_builtin F.called_bool.plain F.entry_bool_new (wpAny_of_eq (F.newCall_bool_1 _) ?_)
    unfold Builtin.«bool.__new__»
    have f1 := F.conv_sub_bool
    show wpAny _ _ (isType (Value.type "bool") >>= _) _ _ _
    refine wpAny_bind (wpAny_of_eq (show isType (Value.type "bool") = pure true from by kernel_rfl) ?_)
    dsimp only
    rw [if_neg (by decide)]
    refine wpAny_bind (wpAny_of_eq f1 ?_)
    rw [if_neg (by decide)]
    refine wpAny_bind (wpAny_of_eq (show someArgs "bool" 0 1 { pos := [Value.ref a] } = pure [Value.ref a] from by rfl) ?_)
    dsimp only
    refine wpAny_bind (wpAny_mono (tru_at (A' := X.A.in1.in1) hb M rfl hr.in1.in1 I h) (fun b s1 z => ?_) fun _ _ z => z)
    exact wpAny_pure ⟨b, rfl, z⟩
  · obtain ⟨b, rfl, H', I', q⟩ := z
    refine ⟨rfl, F.args_object_init_2 _ _, ?_⟩
    exact (object_init_meets F.called_bool.init.lookup F.called_bool.made F.newNe_bool) _ _ _ _ s1 ⟨rfl, rfl, .bl b, H', I', rfl, q⟩
end
end Own

set_option Elab.async false
set_option linter.all false
set_option maxRecDepth 100000
set_option maxHeartbeats 4000000
/-! x[y] of an own instance. -/
namespace Own
open PySem PySem.Spec PyProof.Rows L2
/-- x[y], y no slice -/
theorem pe_ixOwn {X : Cx} {C f : Addr} {fd : FuncData} {k : Nat} {ps : List Str} {sp : Sp} {a b : Expr} {ta tb : TE} {pos : Pos} (M : Mt X.prog X.w X.K X.mg X.base C "__getitem__" k ps sp f fd) (fi : PySem.W.fnIn X.K f = true) (hr : Room (k + 1) X.A) (ha : PE X a ta) (hb : PE X b tb)
    (hsl : ∀ v u : Value, subscripted b true v u = runValue (.builtin "lifetime.subscript" ⟨[v, u], []⟩) := by intro _ _; rfl) : PE X (.Subscript a b pos) (tOp (rIxOwn C sp) ta tb) := by
  refine ⟨fun pins s σ H Q I h => ?_⟩
  refine Subscript_ (binT ha hb I h fun v u s2 x y H2 I2 rx ry q => ?_)
  obtain ⟨⟨z, dx, fs, rfl, hz⟩, h⟩ := q
  cases rx
  obtain ⟨ox, od, J⟩ := ins_at I2 hz
  obtain ⟨m, fr⟩ := I2.fr
  exact PySem.W.sub_K fr I2.ok.mod.kin J M.at_ fi M.fn (run_at M.ok M.b rfl hr.in1 I2 (.cons (show RelV (V.ref z) (Value.ref z) from rfl) (.cons ry .nil)) h) (hsl _ _)
end Own

set_option Elab.async false
set_option linter.all false
set_option maxRecDepth 100000
set_option maxHeartbeats 4000000
/-! Table's signs: [ ], <=, <, >=, >. -/
namespace Tb
open PySem PySem.Spec PyProof.Rows L2 EvP Cm Fk DtE KyS XG
/-- what a table holds at a key -/
def wk (r : TRow) (k : List Key) : Int := (lookT r k).getD 0
/-- no worth of r is above that of r' -/
def leT (r r' : TRow) : Bool := (r.map (·.1)).all fun k => decide (wk r k ≤ wk r' k)
theorem tbl_ins {C : Addr} {H : Hp} {x : Addr} {ss xs : List Str} {r : TRow} (h : TblAt C H x ss xs r) : Own.Ins H (.ref x) C := by
  obtain ⟨dx, n1, n2, dw, p, prs, h1, _⟩ := h
  exact ⟨x, dx, _, rfl, h1⟩
/-- the class, asked of its own instances -/
structure TblI (K : PySem.W.Frag) (C : Addr) : Prop where
  ha : PySem.W.findIn K (.ref C) "__class__" = some (some (.builtin "object.__class__"))
  hn : PySem.W.specialIn K (.builtin "object.__class__") "__get__" = some (some (.builtin "getset_descriptor.__get__"))
  htk : PySem.W.takesIn K (.builtin "object.__class__") = some true
  hm : PySem.W.mroIn K C (.type "object") = some true
/-- a table's worths have pairs of names for keys -/
def RowOk (r : TRow) : Prop := ∀ t ∈ r, PairK t.1
def spTItem (C : Addr) : Sp := fun vs H Q _ => ∃ (x p : Addr) (ss xs : List Str) (r : TRow) (k : List Key), vs = [.ref x, .ref p] ∧ TblAt C H x ss xs r ∧ H p = some (.tup (k.map kV)) ∧ PairK k ∧ Q (.int (wk r k)) H
def spTOther (C : Addr) : Sp := fun vs H Q _ => ∃ (x : Addr) (ss xs : List Str) (r : TRow), vs = [.ref x] ∧ TblAt C H x ss xs r ∧ Q .non H
/-- two tables -/
def spTwo (C : Addr) (f : TRow → TRow → Bool) : Sp := fun vs H Q _ => ∃ (x y : Addr) (ss xs ss' xs' : List Str) (r r' : TRow), vs = [.ref x, .ref y] ∧ TblAt C H x ss xs r ∧ TblAt C H y ss' xs' r' ∧ RowOk r ∧ RowOk r' ∧ r.length ≤ 100 ∧ r'.length ≤ 100 ∧ ∀ H', Ex H H' → Q (.bl (f r r')) H'
abbrev sTItem : Stmt := tmeth 4
abbrev sTLe : Stmt := tmeth 15
abbrev sTLt : Stmt := tmeth 16
abbrev sTGe : Stmt := tmeth 17
abbrev sTGt : Stmt := tmeth 18
abbrev sTOther : Stmt := top 37
abbrev NL : List Str := ["self", "other", "pair"]
theorem scTItem : FnScope ["self", "at"] ["self", "at"] (defScope sTItem) := ⟨rfl, rfl, rfl, by decide +kernel, rfl, by decide +kernel, by decide +kernel⟩
theorem scTOther : FnScope ["other"] ["other"] (defScope sTOther) := ⟨rfl, rfl, rfl, by decide +kernel, rfl, by decide +kernel, by decide +kernel⟩
theorem scTLe : FnScope NL ["self", "other"] (defScope sTLe) := ⟨rfl, rfl, rfl, by decide +kernel, rfl, by decide +kernel, by decide +kernel⟩
theorem scTLt : FnScope ["self", "other"] ["self", "other"] (defScope sTLt) := ⟨rfl, rfl, rfl, by decide +kernel, rfl, by decide +kernel, by decide +kernel⟩
theorem scTGe : FnScope ["self", "other"] ["self", "other"] (defScope sTGe) := ⟨rfl, rfl, rfl, by decide +kernel, rfl, by decide +kernel, by decide +kernel⟩
theorem scTGt : FnScope ["self", "other"] ["self", "other"] (defScope sTGt) := ⟨rfl, rfl, rfl, by decide +kernel, rfl, by decide +kernel, by decide +kernel⟩
/-- a key from what its tuple holds -/
def unK (ys : List V) : List Key := ys.map fun v => match v with
  | .str x => Sum.inr x
  | .int i => Sum.inl i
  | _ => Sum.inl 0
theorem unK_kV (k : List Key) : unK (k.map kV) = k := by
  unfold unK
  rw [List.map_map]
  have : ∀ y ∈ k, ((fun v : V => match v with
    | .str x => (Sum.inr x : Key)
    | .int i => Sum.inl i
    | _ => Sum.inl 0) ∘ kV) y = y := fun y _ => by cases y <;> rfl
  exact (List.map_congr_left this).trans (List.map_id k)
def byH (H : Hp) (g : List Key → V) : V → V
  | .ref b => match H b with
    | some (.tup ys) => g (unK ys)
    | _ => .non
  | _ => .non
theorem byH_of {H : Hp} {g : List Key → V} {b : Addr} {k : List Key} (h : H b = some (.tup (k.map kV))) : byH H g (.ref b) = g k := by
  show (match H b with
    | some (.tup ys) => g (unK ys)
    | _ => .non) = _
  rw [h]
  show g (unK (k.map kV)) = _
  rw [unK_kV]
theorem byH_all {H : Hp} {g : List Key → V} : ∀ {ks : List (List Key)} {prs : List V}, All2 H (ks.map fun k => tupV (k.map kV)) prs → prs.map (byH H g) = ks.map g
  | [], _, .nil => rfl
  | k :: ks, _, .cons ⟨a, ev, ha⟩ t => by
    subst ev
    rw [List.map_cons, List.map_cons, byH_of ha, byH_all t]
theorem all2_in {H : Hp} : ∀ {ks : List (List Key)} {prs : List V}, All2 H (ks.map fun k => tupV (k.map kV)) prs → ∀ v ∈ prs, ∃ k ∈ ks, ∃ b, v = .ref b ∧ H b = some (.tup (k.map kV))
  | [], _, .nil, v, h => by cases h
  | k :: ks, _, .cons ⟨a, ev, ha⟩ t, v, h => by
    rcases List.mem_cons.mp h with rfl | h
    · exact ⟨k, .head _, a, ev, ha⟩
    · obtain ⟨k', h1, h2⟩ := all2_in t v h
      exact ⟨k', .tail _ h1, h2⟩
section
variable {P : Program} {w : World} {K : PySem.W.Frag} {mg : Str → Option Value} {base : Heap} {C f fN fI : Addr} {fd fdN fdI : FuncData} {σ : L2.St} {H : Hp}
theorem ok_titem (F : Fun K "__getitem__" "Table.__getitem__" sTItem f fd) (S : TblC K C) (G : FnOk P w K mg base CX0 2 fN fdN ["value"] (spPair K)) (b : Binds K fdN ["value"] []) (gN : mg "is_pair" = some (.ref fN)) (kN : PySem.W.keepIn K (.ref fN) = true) :
    FnOk P w K mg base CX0 3 f fd ["self", "at"] (spTItem C) := by
  refine F.ok scTItem (fun vs H Q E h => ?_) (fun cdv A outer s H vs Q E hr h => ?_)
  · obtain ⟨x, p, ss, xs, r, k, rfl, _⟩ := h
    rfl
  · obtain ⟨x, p, ss, xs, r, k, rfl, ⟨dx, n1, n2, dw, pp, prs, h1, h2, h3, h4, h5, h6⟩, hp, pk, q⟩ := h
    refine ⟨_, pss_cons (ps_if (pt_not (pt_val (pe_call G hr (by rfl) gN kN b .nil pass0 (pa_cons (pv 1) pa_nil)))) (pss_one ps_dead) pss_nil)
      (pss_one (ps_ret (pe_dget2 (hu_of hr) (pe_fld (pv 0) rfl) (pv 1) pe_int ⟨rfl, rfl, rfl, rfl⟩))), ?_⟩
    obtain ⟨a, y, rfl, na, ny⟩ := pk
    refine ⟨_, rfl, p, a, y, rfl, hp, na, ny, _, rfl, ?_⟩
    refine ⟨_, rfl, x, C, dx, _, _, rfl, h1, S.cl, S.nW, rfl, dw, rfl, .inr ⟨_, .inl h4⟩, _, rfl, _, DGet.t h4 hp, ?_⟩
    rw [valV_tents]
    unfold wk at q
    cases hl : lookT r (key2 a y) with
    | none =>
      rw [hl] at q
      exact q
    | some m =>
      rw [hl] at q
      exact q
theorem ok_tother (F : Fun K "check_other" "check_other" sTOther f fd) (S : TblC K C) (SI : TblI K C) (T : Blt mg) (gS : mg "Table" = some (.ref C)) : FnOk P w K mg base CX0 1 f fd ["other"] (spTOther C) := by
  refine F.ok scTOther (fun vs H Q E h => ?_) (fun cdv A outer s H vs Q E hr h => ?_)
  · obtain ⟨x, ss, xs, r, rfl, _⟩ := h
    rfl
  · obtain ⟨x, ss, xs, r, rfl, ⟨dx, n1, n2, dw, pp, prs, h1, _⟩, q⟩ := h
    refine ⟨_, pss_one (ps_if (pt_not (pt_val (pe_callB call_isi (by rfl) T.isi (by decide +kernel) (pa_cons (pv 0) (pa_cons (pe_glob (v := .ref C) (by rfl) gS rfl) pa_nil))))) (pss_one ps_dead) pss_nil), ?_⟩
    exact ⟨_, rfl, _, _, _, _, true, rfl, .own C, .base (.ins h1 S.cl SI.ha SI.hn SI.htk SI.hm), (by
      unfold PySem.W.kitOne
      rw [if_pos (by simp)]), _, rfl, q⟩
theorem g_tix {i j : Nat} {x b : Addr} {ss xs : List Str} {r : TRow} {k : List Key} (hi : σ[i]? = some (some (.ref x))) (hj : σ[j]? = some (some (.ref b))) (sa : TblAt C H x ss xs r) (hb : H b = some (.tup (k.map kV))) (pk : PairK k) :
    EvP.Gives (tOp (Own.rIxOwn C (spTItem C)) (tVar i) (tVar j)) σ H (is (.int (wk r k))) := fun H1 e Q q =>
  ⟨_, hi, _, hj, tbl_ins (sa.mono e), x, b, ss, xs, r, k, rfl, sa.mono e, e _ _ hb, pk, q _ _ (Ex.refl H1) rfl⟩
theorem perm_all {α : Type} {l m : List α} (p : l.Perm m) (f : α → Bool) : l.all f = m.all f := by
  rw [Bool.eq_iff_iff, List.all_eq_true, List.all_eq_true]
  exact ⟨fun h x hx => h x (p.mem_iff.mpr hx), fun h x hx => h x (p.mem_iff.mp hx)⟩
theorem ok_tle (F : Fun K "__le__" "Table.__le__" sTLe f fd) (S : TblC K C) (M : Own.Mt P w K mg base C "__getitem__" 3 ["self", "at"] (spTItem C) fI fdI) (MF : PySem.W.fnIn K fI = true) (hA : mg "all" = none)
    (GO : FnOk P w K mg base CX0 1 fN fdN ["other"] (spTOther C)) (bO : Binds K fdN ["other"] []) (gO : mg "check_other" = some (.ref fN)) (kO : PySem.W.keepIn K (.ref fN) = true) : FnOk P w K mg base CX0 5 f fd ["self", "other"] (spTwo C leT) := by
  have nd := scTLe.nd
  refine F.ok scTLe (fun vs H Q E h => ?_) (fun cdv A outer s H vs Q E hr h => ?_)
  · obtain ⟨x, y, ss, xs, ss', xs', r, r', rfl, _⟩ := h
    rfl
  · obtain ⟨x, y, ss, xs, ss', xs', r, r', rfl, sa, sb, or1, or2, l1, l2, q⟩ := h
    refine ⟨_, pss_cons (ps_expr (pe_call GO (hr.mono (by decide)) (by rfl) gO kO bO .nil pass0 (pa_cons (pv 1) pa_nil)))
      (pss_one (ps_ret (pe_callB (cr_all rfl) (by rfl) hA (by decide +kernel) (pa_cons (pe_lc (own := [("pair", 2)]) (g := gName 2) (tt := tYes) (te := tOp (rI0 fun i j => .bl (decide (i ≤ j))) (tOp (Own.rIxOwn C (spTItem C)) (tVar 0) (tVar 2)) (tOp (Own.rIxOwn C (spTItem C)) (tVar 1) (tVar 2))) rfl nd (pi_tup (pe_fld (pv 0) rfl)) (blkOk_by (N := NL) (sc := defScope sTLe) (by decide +kernel))
        (fun _ _ _ _ _ => pg_name (i := 2) nd rfl (Or.inl rfl)) (fun _ _ _ _ _ => pts_nil) (fun _ _ _ _ _ => pe_cmpR op_le (Own.pe_ixOwn M MF hr (pv 0) (pv 2)) (Own.pe_ixOwn M MF hr (pv 1) (pv 2)) (nomark _))) pa_nil)))), ?_⟩
    refine ⟨_, rfl, y, ss', xs', r', rfl, sb, ?_⟩
    dsimp only
    have sa' := sa
    obtain ⟨dx, n1, n2, dw, pp, prs, h1, h2, h3, h4, h5, h6⟩ := sa'
    have lp : prs.length ≤ 1000 := by
      rw [h6.length, List.length_map]
      unfold sortK
      rw [(List.mergeSort_perm _ _).length_eq, List.length_map]
      omega
    have w0 : Walks (iTup K (tFld K (tVar 0) "pairs")) [some (.ref x), some (.ref y), none] H prs := walks_tup (g_fld rfl h1 S.cl S.nP rfl (⟨pp, rfl, h5⟩ : (tupV prs).R (.ref pp) H))
    have z := comp_is (te := tOp (rI0 fun i j => .bl (decide (i ≤ j))) (tOp (Own.rIxOwn C (spTItem C)) (tVar 0) (tVar 2)) (tOp (Own.rIxOwn C (spTItem C)) (tVar 1) (tVar 2))) (tt := tYes) (i := 2) (vs := [2]) (fun _ => true) (byH H fun k => .bl (decide (wk r k ≤ wk r' k))) w0 lp (fun _ => rfl) (fun _ _ H2 _ Q h => h) (fun v hv _ => by
      obtain ⟨k, hk, b, rfl, hb⟩ := all2_in h6 v hv
      rw [byH_of hb]
      have pk : PairK k := by
        unfold sortK at hk
        obtain ⟨t, ht, rfl⟩ := List.mem_map.mp ((List.mergeSort_perm _ _).mem_iff.mp hk)
        exact or1 t ht
      exact g_op (P := is (.int (wk r k))) (R := is (.int (wk r' k))) (g_tix rfl rfl sa hb pk) (g_tix rfl rfl sb hb pk) fun a c H1 e ea ec Q k => ⟨_, _, ea, ec, k _ _ (Ex.refl _) rfl⟩)
    rw [List.filter_eq_self.mpr (fun _ _ => rfl), byH_all h6] at z
    have eb : (sortK (r.map (·.1))).map (fun k => V.bl (decide (wk r k ≤ wk r' k))) = ((sortK (r.map (·.1))).map fun k => decide (wk r k ≤ wk r' k)).map V.bl := by
      rw [List.map_map]
      rfl
    rw [eb] at z
    have ea : ((sortK (r.map (·.1))).map fun k => decide (wk r k ≤ wk r' k)).all id = leT r r' := by
      rw [List.all_map]
      exact perm_all (List.mergeSort_perm _ _) _
    refine' EvP.st_ret (P := is (.bl (leT r r'))) (g_call z ?h2) ?k
    case h2 =>
      rintro v H1 e1 ⟨l, rfl, hl⟩ Q k
      refine ⟨l, _, rfl, SqL.of hl, ?_⟩
      rw [ea]
      exact k _ _ (Ex.refl _) rfl
    case k =>
      intro v H1 e1 ev
      rw [show v = _ from ev]
      exact q H1 e1
theorem ok_tlt (F : Fun K "__lt__" "Table.__lt__" sTLt f fd) {fL : Addr} {dL : FuncData} (ML : Own.Mt P w K mg base C "__le__" 5 ["self", "other"] (spTwo C leT) fL dL) : FnOk P w K mg base CX0 6 f fd ["self", "other"] (spTwo C fun r r' => leT r r' && !leT r' r) := by
  refine F.ok scTLt (fun vs H Q E h => ?_) (fun cdv A outer s H vs Q E hr h => ?_)
  · obtain ⟨x, y, ss, xs, ss', xs', r, r', rfl, _⟩ := h
    rfl
  · obtain ⟨x, y, ss, xs, ss', xs', r, r', rfl, sa, sb, or1, or2, l1, l2, q⟩ := h
    refine ⟨_, pss_one (ps_ret (pe_and (pe_cmpR (Own.cmp_own (op := .LtE) ML hr) (pv 0) (pv 1) (nomark _)) (pe_one (pe_not (pe_cmpR (Own.cmp_own (op := .LtE) ML hr) (pv 1) (pv 0) (nomark _)))))), ?_⟩
    refine ⟨_, rfl, _, rfl, tbl_ins sa, tbl_ins sb, x, y, ss, xs, ss', xs', r, r', rfl, sa, sb, or1, or2, l1, l2, fun H1 e1 => ⟨_, rfl, ?_⟩⟩
    cases hl : leT r r' with
    | false =>
      have this : Q (.bl (leT r r' && !leT r' r)) H1 := q H1 e1
      rw [hl] at this
      exact this
    | true =>
      refine ⟨_, rfl, _, rfl, tbl_ins (sb.mono e1), tbl_ins (sa.mono e1), y, x, ss', xs', ss, xs, r', r, rfl, sb.mono e1, sa.mono e1, or2, or1, l2, l1, fun H2 e2 => ⟨_, rfl, ?_⟩⟩
      have this : Q (.bl (leT r r' && !leT r' r)) H2 := q H2 (e1.trans e2)
      rw [hl] at this
      exact this
theorem ok_tge (F : Fun K "__ge__" "Table.__ge__" sTGe f fd) {fL : Addr} {dL : FuncData} (ML : Own.Mt P w K mg base C "__le__" 5 ["self", "other"] (spTwo C leT) fL dL)
    (GO : FnOk P w K mg base CX0 1 fN fdN ["other"] (spTOther C)) (bO : Binds K fdN ["other"] []) (gO : mg "check_other" = some (.ref fN)) (kO : PySem.W.keepIn K (.ref fN) = true) : FnOk P w K mg base CX0 6 f fd ["self", "other"] (spTwo C fun r r' => leT r' r) := by
  refine F.ok scTGe (fun vs H Q E h => ?_) (fun cdv A outer s H vs Q E hr h => ?_)
  · obtain ⟨x, y, ss, xs, ss', xs', r, r', rfl, _⟩ := h
    rfl
  · obtain ⟨x, y, ss, xs, ss', xs', r, r', rfl, sa, sb, or1, or2, l1, l2, q⟩ := h
    refine ⟨_, pss_cons (ps_expr (pe_call GO (hr.mono (by decide)) (by rfl) gO kO bO .nil pass0 (pa_cons (pv 1) pa_nil))) (pss_one (ps_ret (pe_cmpR (Own.cmp_own (op := .LtE) ML hr) (pv 1) (pv 0) (nomark _)))), ?_⟩
    exact ⟨_, rfl, y, ss', xs', r', rfl, sb, _, rfl, _, rfl, tbl_ins sb, tbl_ins sa, y, x, ss', xs', ss, xs, r', r, rfl, sb, sa, or2, or1, l2, l1, q⟩
theorem ok_tgt (F : Fun K "__gt__" "Table.__gt__" sTGt f fd) {fL : Addr} {dL : FuncData} (ML : Own.Mt P w K mg base C "__lt__" 6 ["self", "other"] (spTwo C fun r r' => leT r r' && !leT r' r) fL dL)
    (GO : FnOk P w K mg base CX0 1 fN fdN ["other"] (spTOther C)) (bO : Binds K fdN ["other"] []) (gO : mg "check_other" = some (.ref fN)) (kO : PySem.W.keepIn K (.ref fN) = true) : FnOk P w K mg base CX0 7 f fd ["self", "other"] (spTwo C fun r r' => leT r' r && !leT r r') := by
  refine F.ok scTGt (fun vs H Q E h => ?_) (fun cdv A outer s H vs Q E hr h => ?_)
  · obtain ⟨x, y, ss, xs, ss', xs', r, r', rfl, _⟩ := h
    rfl
  · obtain ⟨x, y, ss, xs, ss', xs', r, r', rfl, sa, sb, or1, or2, l1, l2, q⟩ := h
    refine ⟨_, pss_cons (ps_expr (pe_call GO (hr.mono (by decide)) (by rfl) gO kO bO .nil pass0 (pa_cons (pv 1) pa_nil))) (pss_one (ps_ret (pe_cmpR (Own.cmp_own (op := .Lt) ML hr) (pv 1) (pv 0) (nomark _)))), ?_⟩
    exact ⟨_, rfl, y, ss', xs', r', rfl, sb, _, rfl, _, rfl, tbl_ins sb, tbl_ins sa, y, x, ss', xs', ss, xs, r', r, rfl, sb, sa, or2, or1, l2, l1, q⟩
end
end Tb

set_option Elab.async false
set_option linter.all false
set_option maxRecDepth 100000
set_option maxHeartbeats 4000000
/-! An own instance is walked: its __iter__ hands back the iterator of a tuple. -/
namespace Own
open PySem PySem.Spec PyProof.Rows L2 ItX
/-- at it an iterator over the tuple at t, at its start -/
def ItT (t it : Addr) : HO := .ext fun h => h.IsTupleIter it t 0
theorem itT_ok {P : Program} {w : World} {H : Hp} {h : Heap} {t it : Addr} (e : h.IsTupleIter it t 0) : ObjOk P w H h it (ItT t it) := by
  obtain ⟨o, ho, r⟩ := e
  exact ⟨⟨o, ho, r⟩, ⟨o, ho⟩, fun h1 h2 z k => by
    obtain ⟨o1, e1, r1⟩ := z
    exact ⟨o1, k _ e1, r1⟩⟩
section
variable {X : Cx} {pins : List (Addr × Obj)} {σ : L2.St} {H : Hp} {s : Shared}
theorem itT_get {t it : Addr} (I : Inv X pins σ H s) (e : H it = some (ItT t it)) : s.heap.IsTupleIter it t 0 := by
  have x : ObjOk X.prog X.w H s.heap it (.ext fun h => h.IsTupleIter it t 0) := I.hok it _ e
  exact x.1
/-- iter(t), t a tuple; n: what the heap held when the def began -/
def rIterT (K : PySem.W.Frag) (n : Nat) : List V → Hp → VK → Prop := fun xs H Q => ∃ (t : Addr) (zs : List V), xs = [.ref t] ∧ SqT K H t zs ∧ ∀ it, H it = none → n ≤ it → Q (.ref it) (upd H it (ItT t it))
theorem call_iterT : CallR X (.builtin "iter") (rIterT X.K X.s_0.heap.objs.size) := by
  intro pins s σ H xs us Q I r h
  obtain ⟨t, zs, rfl, hq, q⟩ := h
  obtain ⟨u, rfl, ru⟩ := vals1 r
  cases ru
  obtain ⟨its, rv, p, hz⟩ := I.tuple hq
  refine Calls.call_function_entry (by decide +kernel) (by decide +kernel) PySem.W.kdk_entry_iter (PySem.W.kdk_args_iter _) ?_
  unfold Builtin.«iter»
  refine wpAny_bind (m := someArgs "iter" 1 2 _) (wpAny_of_eq (a := [Value.ref t]) (by first | rfl | kernel_rfl!) ?_)
  show wpAny _ _ (pyIter (.ref t) >>= _) _ _ _
  refine wpAny_bind (wpAny_pyIter_tuple (show s.heap.IsTuple t its.toArray from p) (wpAny_pure ⟨_, rfl, ?_⟩))
  have new : (s.heap.push { cls := .type "tuple_iterator", data := .fields #[.ref t, .int 0 0] }).IsTupleIter s.heap.objs.size t 0 := ⟨_, Heap.get?_push_size _ rfl, rfl, rfl⟩
  exact ⟨.ref s.heap.objs.size, _, I.laid (t' := s.toks) (fun b u e => Heap.get?_push_of_some _ e) (Nat.le_refl _) (itT_ok new), rfl, q _ (I.hok.fresh (Nat.le_refl _)) I.sz⟩
end
section
variable {P : Program} {w : World} {K : PySem.W.Frag} {mg : Str → Option Value} {base : Heap} {k : Nat} {f : Addr} {fd : FuncData} {ps : List Str}
/-- a def whose promise may speak of the size of the heap at its call -/
structure FnZ (P : Program) (w : World) (K : PySem.W.Frag) (mg : Str → Option Value) (base : Heap) (k : Nat) (f : Addr) (ps : List Str) (fd : FuncData) (sp : Nat → Sp) : Prop where
  run : ∀ (A : Around) (outer : List Env) (s : Shared) (H : Hp) (args : Args) (us : List Value) (vs : List V) (Q : VK), Room k A → Env0 P w K mg base A outer s H →
    BindsTo s fd args (ps.zip us) → Vals vs us → vs.length = ps.length → sp s.heap.objs.size vs H Q E0 → codeAny (model P w) A (.call (.ref f) args) (CR CX0 outer P w H s Q E0) s
theorem Fun.okZ {sp : Nat → Sp} {x qual : Str} {st : Stmt} {N : List Str} (F : Fun K x qual st f fd) (S : FnScope N ps (defScope st))
    (walk : ∀ (cdv : Value) (A : Around) (outer : List Env) (s : Shared) (H : Hp) (vs : List V) (Q : VK), Room k (A.deeper (envOfC qual (defScope st) s.heap.objs.size f cdv)) → sp s.heap.objs.size vs H Q E0 →
      ∃ t, PSs (cxOf CX0 P w K mg base N qual (defScope st) f cdv A outer s H E0).nox (defBody st) t ∧ t { nx := fun _ H' => Q .non H', rt := Q } (start N vs) H) : FnZ P w K mg base (k + 1) f ps fd sp := by
  obtain ⟨oc, od, kV, doc, pm, an, cdv, ct, osl, rfl, lk, hcd⟩ := F.ex
  refine ⟨fun A outer s H args us vs Q room e0 bd r n1 h => ?_⟩
  have inH : ∀ b o, base.get? b = some o → s.heap.get? b = some o := fun b o e => (e0.bs b o e).1
  have kin : K.In s.heap := e0.mod.kin.keeps inH
  have par : ∀ y ∈ ps.zip us, (defScope st).names.lookup y.1 = some .local ∨ ((defScope st).names.lookup y.1 = some .cell ∧ ((cellsFrom (s.heap.objs.size + 1) (defScope st).names []).lookup y.1).isSome = true) := by
    rintro ⟨y, z⟩ hy
    exact (S.par y (List.of_mem_zip hy).1).imp id fun q => ⟨q, PySem.W.cellsFrom_some _ _ _ (.inl q)⟩
  refine codeAny_call_function room.depth (kin _ _ lk) rfl S.co S.gen rfl (PySem.W.codeRec_of kin hcd) (bd _ _ _ _ (wpAny_newFunctionEnv_cells S.kind par fun env he s1 z => ?_))
  subst he
  refine ⟨(e0.mod.nolimit.keeps inH).keeps z.toInCall.keep, codeAny_func ?_⟩
  obtain ⟨t, ok, ends⟩ := walk cdv A outer s H vs Q (room.deeper _) h
  have J := inv_start (CX := CX0) (E := E0) S room.hd e0 n1 r z
  refine wpAny_mono (ok.nox.run [] s1 _ H _ J ends) (fun fl s' q => ?_) fun e s' q => q
  rcases fl with u | _ | _ | _
  all_goals first
    | (obtain ⟨v, σ', H', J', rv, q⟩ := q; exact ⟨v, H', J'.os, J'.bare, J'.base, J'.hok, rv, q⟩)
    | (obtain ⟨σ', H', J', q⟩ := q; exact ⟨V.non, H', J'.os, J'.bare, J'.base, J'.hok, rfl, q⟩)
    | (obtain ⟨_, _, _, q⟩ := q; exact q.elim)
end
section
variable {X : Cx} {C f : Addr} {fd : FuncData} {k : Nat} {ps : List Str} {sp : Nat → Sp} {tg e : Expr} {te : TE}
/-- for .. in e, e an own instance -/
def iOwn (K : PySem.W.Frag) (C : Addr) (sp : Nat → Sp) (te : TE) : TI := fun σ H R => te σ H fun x H1 => Ins H1 x C ∧ ∀ n, sp n [x] H1 (fun v H2 => ∃ it t, v = .ref it ∧ H2 it = some (ItT t it) ∧ n ≤ it ∧ R (Itt K t) (dropH H2 it)) E0
theorem pi_own (at_ : PySem.W.findIn X.K (.ref C) "__iter__" = some (some (.ref f))) (fn : PySem.W.isFn X.K (.ref f) = true) (F : FnZ X.prog X.w X.K X.mg X.base k f ["self"] fd sp) (b : Binds X.K fd ["self"] []) (hr : Room k X.A) (he : PE X e te) : PI X tg e (iOwn X.K C sp te) := by
  refine ⟨fun pins s σ H R I h => thn (he.run pins s σ H _ I h) fun v s1 ⟨x, H1, I1, r1, ⟨a, dx, fs, ex, ha⟩, q⟩ => ?_⟩
  subst ex
  cases r1
  obtain ⟨ox, od, J⟩ := ins_at I1 ha
  obtain ⟨m, fr⟩ := I1.fr
  have e0 := I1.env0
  refine PySem.W.owit_iter fr I1.ok.mod.kin J at_ fn (wpAny_call (codeAny_mono (F.run X.A X.stack s1 H1 ⟨[.ref a], []⟩ [.ref a] [.ref a] _ hr e0 (b s1 [.ref a] I1.kIn rfl) (.cons rfl .nil) rfl (q s1.heap.objs.size)) fun r s' z => ?_))
  cases r with
  | error e => exact (show False from z).elim
  | ok fl =>
    cases fl with
    | next => exact (show False from z).elim
    | brk => exact (show False from z).elim
    | cont => exact (show False from z).elim
    | ret u =>
      obtain ⟨v, H2, I2, rv, it, t, rfl, hi, hn, hR⟩ := I1.after z
      cases rv
      have st := itT_get I2 hi
      obtain ⟨o, ho, hc, hd⟩ := id st
      show PySem.W.OwitIt _ _ _ _ _ _
      unfold PySem.W.OwitIt specialOf
      have ty : s'.TypeIs (.ref it) "tuple_iterator" := ⟨o, ho, hc⟩
      refine wpAny_bind (wpAny_typeOf ty ?_)
      rw [PySem.F.slot_tuple_iterator_next.lookup]
      refine wpAny_pure ?_
      have hi' := hi
      unfold ItT at hi'
      refine ⟨it, [it], _, _, dropH H2 it, rfl, inv_drop I2 hi', turn_tuple t it, st, fun b hb => ?_, hR⟩
      obtain rfl : b = it := by simpa using hb
      exact inv_fp I2 hi (Nat.le_trans I1.sz hn)
end
end Own

set_option Elab.async false
set_option linter.all false
set_option maxRecDepth 100000
set_option maxHeartbeats 4000000
/-! list(x), x an own instance: its __iter__ hands back the iterator of a tuple, its __len__ tells an integer. -/
namespace Own
open PySem PySem.Spec PyProof.Rows L2 ItX
section
variable {X : Cx} {pins : List (Addr × Obj)} {σ : L2.St}
theorem fp_upd {H : Hp} {q it : Addr} {o : HO} (h : FpOk X pins H it) (ne : it ≠ q) : FpOk X pins (upd H q o) it := ⟨by rw [upd_ne ne]; exact h.1, h.2⟩
theorem it_loop {A1 : Around} {q t it : Addr} {zs : List V} {Rs : Result → Shared → Prop} (hh : A1.handled = none) (hz : zs.length ≤ sizeLine) :
    ∀ (k i : Nat) (H : Hp) (s : Shared), zs.length - i = k → i ≤ zs.length → Inv X pins σ H s → H q = some (.lst (zs.take i)) → SqT X.K H t zs → t ≠ q → FpOk X pins H it → s.heap.IsTupleIter it t i →
      (∀ s', Inv X pins σ (upd H q (.lst zs)) s' → Rs (.ok (.ret .none)) s') → codeAny (model X.prog X.w) A1 (.builtin "list.extend.loop" ⟨[.ref q, .ref it, .none], []⟩) Rs s := by
  intro k
  induction k with
  | zero =>
    intro i H s hk hi I hq ht tq hf st hR
    have e : i = zs.length := by omega
    subst e
    rw [List.take_length] at hq
    have eH : upd H q (.lst zs) = H := by
      funext b
      by_cases hb : b = q
      · rw [hb, upd_same, hq]
      · rw [upd_ne hb]
    rw [eH] at hR
    obtain ⟨its, rv, p, _⟩ := I.tuple ht
    obtain ⟨f0, f1, f2, f3, f4, f5⟩ := hf
    have hl := rv.length
    refine codeAny_builtin PySem.F.entry_extend_loop ?_
    rw [Around.under_plainId PySem.F.plain_extend_loop _]
    show wpAny _ A1.in1 (pyNext (.ref it) >>= _) _ _ s
    refine wpAny_bind (wpAny_pyNext_tuple_end (show A1.in1.handled = none from hh) st (show s.heap.IsTuple t its.toArray from p) (by simp; omega) fun h' eb => ?_)
    exact wpAny_pure (hR _ (I.turned (t' := s.toks) (fun b o hb e => eb b o hb e) f0 f1 f3 f4 f5))
  | succ k ih =>
    intro i H s hk hi I hq ht tq hf st hR
    have hlt : i < zs.length := by omega
    have hx : zs[i]? = some zs[i] := List.getElem?_eq_getElem hlt
    obtain ⟨its, rv, p, _⟩ := I.tuple ht
    obtain ⟨u, hu, ru⟩ := rv.get hx
    have hf' := hf
    obtain ⟨f0, f1, f2, f3, f4, f5⟩ := hf
    have iq : it ≠ q := fun z => by
      rw [z, hq] at f0
      cases f0
    refine codeAny_builtin PySem.F.entry_extend_loop ?_
    rw [Around.under_plainId PySem.F.plain_extend_loop _]
    show wpAny _ A1.in1 (pyNext (.ref it) >>= _) _ _ s
    refine wpAny_bind (wpAny_pyNext_tuple_item st (show s.heap.IsTuple t its.toArray from p) (x := u) (by simpa using hu) fun h' st' sb => ?_)
    have I1 : Inv X pins σ H { s with heap := h' } := I.turned (t' := s.toks) (fun b o hb e => (sb.2 b hb).trans e) f0 f1 f3 f4 f5
    show wpAny _ A1.in1 (updateSeq q (·.push u) >>= _) _ _ _
    obtain ⟨z, its2, n2, r2, hl2, e2⟩ := I1.lstM hq
    have lt2 : its2.length < sizeLine := by
      rw [← hl2, List.length_take]
      omega
    refine wpAny_bind (wpAny_updateSeq e2 rfl (wpAny_pure ⟨plainId_quiet PySem.F.plain_extend_loop _, ?_⟩) (by rw [List.size_toArray]; omega) (by show (its2.toArray.push u).size ≤ sizeLine + 1; rw [Array.size_push, List.size_toArray]; omega))
    have tk : zs.take (i + 1) = zs.take i ++ [zs[i]] := by rw [List.take_add_one, hx]; rfl
    refine ih (i + 1) (upd H q (.lst (zs.take (i + 1)))) _ (by omega) (by omega) ?_ upd_same ?_ tq (fp_upd hf' iq) ?_ fun s' I' => hR s' (by rw [upd_upd] at I'; exact I')
    · rw [tk]
      exact I1.lset (its' := its2 ++ [u]) (t' := s.toks) hq e2 (by simp) (r2.append (.cons ru .nil)) (by rw [List.length_append, List.length_singleton, List.length_take]; omega)
    · rcases ht with ht | ht
      · refine .inl ?_
        rcases ht with ht | ⟨o, ht⟩
        · exact .inl (by rw [upd_ne tq]; exact ht)
        · exact .inr ⟨o, by rw [upd_ne tq]; exact ht⟩
      · exact .inr ht
    · exact st'.at fun o e => (Heap.get?_update_other _ _ (Ne.symm iq)).trans e
end
section
variable {X : Cx} {pins : List (Addr × Obj)} {σ : L2.St} {H : Hp} {s : Shared} {f : Addr} {fd : FuncData} {k : Nat} {ps : List Str} {sp : Sp}
/-- the call of a def that lets nothing out, wherever an error would go -/
theorem run_atE {A' : Around} {E : Value → Shared → Prop} {vs : List V} {us : List Value} {Q : VK} (F : FnOk X.prog X.w X.K X.mg X.base CX0 k f fd ps sp) (b : Binds X.K fd ps []) (frames : A'.frames = X.A.frames) (hr : Room k A') (I : Inv X pins σ H s) (r : Vals vs us) (h : sp vs H Q E0) :
    wpAny (model X.prog X.w) A' (call (.ref f) us) (EP X pins σ Q) E s := by
  have e := I.env0
  have n : (us ++ []).length = ps.length := by rw [List.append_nil, ← r.length]; exact F.len _ _ _ _ h
  refine wpAny_call (codeAny_mono (F.run A' X.stack s H ⟨us, []⟩ (us ++ []) vs Q E0 hr ⟨frames.trans e.frames, e.mod, e.bs, e.bsz, e.funs, e.frf, e.hok, e.bare⟩ (b s us I.kIn n) (by rw [List.append_nil]; exact r) h) fun r s' q => ?_)
  cases r with
  | error e => exact (show False from q).elim
  | ok fl =>
    cases fl with
    | ret u => exact I.after q
    | next => exact (show False from q).elim
    | brk => exact (show False from q).elim
    | cont => exact (show False from q).elim
end
section
variable {X : Cx} {C fI fL : Addr} {fdI fdL : FuncData} {kI kL : Nat} {psI psL : List Str} {spI : Nat → Sp} {spN : Sp}
/-- list(x): n is what the heap holds when __iter__ begins -/
def rListIt (K : PySem.W.Frag) (C : Addr) (spI : Nat → Sp) (spN : Sp) : List V → Hp → VK → Prop := fun xs H Q => ∃ x, xs = [x] ∧ Ins H x C ∧ ∀ q, H q = none → ∀ n, spI n [x] (upd H q (.lst [])) (fun v H2 => ∃ it t zs, v = .ref it ∧ H2 it = some (ItT t it) ∧ n ≤ it ∧ Ins H2 x C ∧ H2 q = some (.lst []) ∧
  spN [x] (dropH H2 it) (fun v H3 => ∃ k : Nat, v = .int k ∧ k < 1000000 ∧ H3 q = some (.lst []) ∧ t ≠ q ∧ SqT K H3 t zs ∧ zs.length ≤ 1000 ∧ Q (.ref q) (upd H3 q (.lst zs))) E0) E0
theorem call_listIt (itA : PySem.W.findIn X.K (.ref C) "__iter__" = some (some (.ref fI))) (itN : PySem.W.isFn X.K (.ref fI) = true) (FI : FnZ X.prog X.w X.K X.mg X.base kI fI ["self"] fdI spI) (bI : Binds X.K fdI ["self"] [])
    (M : Mt X.prog X.w X.K X.mg X.base C "__len__" kL ["self"] spN fL fdL) (hrI : Room (kI + 3) X.A) (hrL : Room (kL + 3) X.A) (hcalm : X.calm = true) : CallR X (.type "list") (rListIt X.K C spI spN) := by
  intro pins s σ H xs us Q I rv h
  obtain ⟨_, rfl, ⟨a, dx, fs, rfl, ha⟩, hq⟩ := h
  obtain ⟨u, rfl, ru⟩ := rv.one
  cases ru
  refine callType_codes (Q₁ := fun obj s₁ => obj = .ref s.heap.objs.size ∧ s₁ = { s with heap := s.heap.push { cls := .type "list", data := .seq #[] } }) PySem.F.called_list (PySem.F.typeCall_list_1 _) PySem.F.entry_list_init
    (code_list_new _ ⟨rfl, rfl⟩) fun obj s₁ h₁ => ?_
  obtain ⟨rfl, rfl⟩ := h₁
  have hS : (s.heap.push { cls := .type "list", data := .seq #[] }).get? s.heap.objs.size = some { cls := .type "list", data := .seq #[] } := Heap.get?_push_size _ rfl
  refine ⟨⟨_, hS, rfl⟩, PySem.F.args_list_init_2 _ _, ?_⟩
  have fr : H s.heap.objs.size = none := I.hok.fresh (Nat.le_refl _)
  have I1 : Inv X pins σ (upd H s.heap.objs.size (.lst [])) { s with heap := s.heap.push { cls := .type "list", data := .seq #[] } } := I.lnew (its := []) (t' := s.toks) .nil (Nat.zero_le _)
  show wpAny _ _ (do let old ← Builtin.List.listItems (.ref s.heap.objs.size); Builtin.List.listUpdate (.ref s.heap.objs.size) (fun _ => #[]); letGo old.toList.reverse; Builtin.List.listExtendWith (.ref s.heap.objs.size) (.ref a) .none) _ _ _
  refine wpAny_bind ?_
  unfold Builtin.List.listItems
  refine wpAny_bind (wpAny_seqItems hS rfl (wpAny_pure ?_))
  show wpAny _ _ (updateSeq s.heap.objs.size (fun _ => #[]) >>= fun _ => letGo (#[] : Array Value).toList.reverse >>= fun _ => Builtin.List.listExtendWith (.ref s.heap.objs.size) (.ref a) .none) _ _ _
  refine wpAny_bind (wpAny_updateSeq hS rfl ?_)
  have I2 := I1.lset (f := fun _ => #[]) (its := []) (its' := []) (ys := []) (t' := s.toks) upd_same hS rfl .nil (Nat.zero_le _)
  rw [upd_upd] at I2
  refine wpAny_bind (wpAny_letGo ?_)
  have ha2 : upd H s.heap.objs.size (.lst []) a = some (.ins C dx fs) := by rw [upd_ne (ne_of_none ha fr)]; exact ha
  have hne : s.heap.objs.size ≠ a := (ne_of_none ha fr).symm
  have hq2 : upd H s.heap.objs.size (.lst []) s.heap.objs.size = some (.lst []) := upd_same
  have hspI := hq s.heap.objs.size fr
  generalize upd H s.heap.objs.size (.lst []) = G at I2 ha2 hq2 hspI
  generalize s.heap.objs.size = q at I2 ha2 hq2 hspI hne
  generalize { s with heap := _, toks := s.toks } = s2 at I2
  obtain ⟨ox, od, J⟩ := ins_at I2 ha2
  obtain ⟨m0, hF⟩ := I2.fr
  unfold Builtin.List.listExtendWith
  refine wpAny_bind (J.type.here ?_)
  have h1 : Builtin.List.listSameRef (.ref q) (.ref a) = false := by simp [Builtin.List.listSameRef, hne]
  have h2 : (Value.ref C == Value.type "list") = false := rfl
  have h3 : (Value.ref C == Value.type "tuple") = false := rfl
  simp only [h1, h2, h3, Bool.or_false, Bool.false_eq_true, if_false]
  have e0 := I2.env0
  refine wpAny_bind (PySem.W.owit_iter hF I2.ok.mod.kin J itA itN (wpAny_call (codeAny_mono (FI.run X.A.in1.in1 X.stack s2 G ⟨[.ref a], []⟩ [.ref a] [.ref a] _ (hrI.mono (by omega)).in1.in1 ⟨e0.frames, e0.mod, e0.bs, e0.bsz, e0.funs, e0.frf, e0.hok, e0.bare⟩ (bI s2 [.ref a] I2.kIn rfl) (.cons rfl .nil) rfl (hspI s2.heap.objs.size)) fun r s' z => ?_)))
  cases r with
  | error e => exact (show False from z).elim
  | ok fl =>
    cases fl with
    | next => exact (show False from z).elim
    | brk => exact (show False from z).elim
    | cont => exact (show False from z).elim
    | ret u =>
      obtain ⟨v, H2, I3, rv3, it, t, zs, rfl, hit, hn, ⟨b, dx3, fs3, eb, hb⟩, hq3, hspN⟩ := I2.after z
      cases eb
      cases rv3
      have st := itT_get I3 hit
      obtain ⟨o, ho, hc, hd⟩ := id st
      show PySem.W.OwitIt _ _ _ _ _ _
      unfold PySem.W.OwitIt specialOf
      have ty : s'.TypeIs (.ref it) "tuple_iterator" := ⟨o, ho, hc⟩
      refine wpAny_bind (wpAny_typeOf ty ?_)
      rw [PySem.F.slot_tuple_iterator_next.lookup]
      refine wpAny_pure ?_
      have hit' := hit
      unfold ItT at hit'
      have I4 := inv_drop I3 hit'
      have fp4 : FpOk X pins (dropH H2 it) it := inv_fp I3 hit (Nat.le_trans I2.sz hn)
      have T := turn_tuple (P := X.prog) (w := X.w) (K := X.K) (tg := .Name "x" ⟨0, 0, 0, 0⟩) t it
      have I5 := I4.pinned (fp := [it]) (fun b hb => by
        obtain rfl : b = it := by simpa using hb
        exact fp4) (fun b hb => by
        obtain rfl : b = it := by simpa using hb
        exact ⟨o, ho, fun v z => by rw [hd] at z; cases z⟩)
      have ab : a ≠ it := fun z => by
        rw [z, hit'] at hb
        cases hb
      have hb4 : dropH H2 it a = some (.ins C dx3 fs3) := by rw [dropH_ne ab]; exact hb
      obtain ⟨ox5, od5, J5⟩ := ins_at I5 hb4
      obtain ⟨m5, hF5⟩ := I5.fr
      refine wpAny_bind (wpAny_holding ?_)
      unfold Builtin.List.listLengthHint
      refine wpAny_bind (wpAny_bind (J5.type.here ((PySem.W.looks_findIn I5.kIn M.at_).here ?_)))
      refine PySem.W.KFB.if_not rfl ?_
      refine PySem.W.KFB.if_so rfl ?_
      refine wpAny_bind (wpAny_rule ?_)
      refine wpAny_bind (wpAny_attempt ?_)
      have ne' : a ≠ q := hne.symm
      refine PySem.W.len_K hF5 I5.ok.mod.kin J5 M.at_ M.fn (wpAny_mono (run_atE (E := fun _ _ => False) M.ok M.b rfl (hrL.mono (by omega)).in1.in1.in1 I5 (.cons (show RelV (V.ref a) (Value.ref a) from rfl) .nil) hspN) (fun r6 s6 z6 => ?_) fun _ _ z => z.elim)
      obtain ⟨v6, H6, I6, rv6, n6, rfl, h6, hq6, tq, ht6, hz6, q6⟩ := z6
      obtain ⟨t6, rfl⟩ := rv6
      refine ⟨⟨by omega, by omega⟩, ?_⟩
      show wpAny _ _ (asInt? (Value.int (n6 : Int) s6.toks) >>= _) _ _ _
      refine wpAny_bind (wpAny_of_eq (a := some (n6 : Int)) rfl ?_)
      refine PySem.W.KFB.if_not (notLongL (by rw [sizeLine_eq]; simp; omega)) ?_
      refine wpAny_pure ?_
      have I7 := I6.unpinned
      have pin := fun o e => I6.pin (it, o) (List.mem_append_right _ (List.mem_append_right _ (mem_pinsAt (fp := [it]) (h := s'.heap) (by simp) e)))
      have st6 : s6.heap.IsTupleIter it t 0 := st.at fun o e => (pin o e).1
      have fp6 : FpOk X pins H6 it := ⟨(pin o ho).2.1, fp4.2⟩
      have zl : zs.length ≤ sizeLine := by rw [sizeLine_eq]; omega
      have fin : ∀ s8, Inv X pins σ (upd H6 q (.lst zs)) s8 → wants (fun r s₂ => r = .none ∧ EP X pins σ Q (.ref q) s₂) X.xe (.ok (.ret .none)) s8 := fun s8 I8 => ⟨rfl, .ref q, _, I8, rfl, q6⟩
      have eH : upd H6 q (.lst []) = H6 := by
        funext b
        by_cases hb : b = q
        · rw [hb, upd_same, hq6]
        · rw [upd_ne hb]
      have I7' : Inv X pins σ H6 { s6 with toks := s6.toks + 1 } := I7.tok _
      obtain ⟨z3, its3, k3, r3, hl3, e3⟩ := I7'.lstM hq6
      cases r3
      refine wpAny_ite_split (fun _ => ?_) (fun _ => wpAny_pure ⟨plainId_quiet PySem.F.plain_extend_loop _, it_loop (A1 := X.A.in1) (I.ok.hd hcalm) zl zs.length 0 H6 _ (by omega) (by omega) I7' (by rw [List.take_zero]; exact hq6) ht6 tq fp6 st6 fin⟩)
      refine wpAny_bind (wpAny_rule ?_)
      refine wpAny_bind ?_
      show wpAny _ _ (updateSeq q (·.push .none) >>= fun _ => updateSeq q (·.pop)) _ _ _
      refine wpAny_bind (wpAny_updateSeq e3 rfl ?_)
      have I8 := I7'.lset (f := (·.push Value.none)) (its' := [Value.none]) (ys := [.non]) (t' := s6.toks + 1) hq6 e3 (by simp) (.cons rfl .nil) (by rw [List.length_singleton, sizeLine_eq]; decide)
      obtain ⟨z4, its4, k4, r4, hl4, e4⟩ := I8.lstM upd_same
      obtain ⟨u4, rfl, ru4⟩ := r4.one
      refine wpAny_updateSeq e4 rfl ?_ (by show 1 ≤ sizeLine; rw [sizeLine_eq]; decide) (by show 0 ≤ sizeLine + 1; exact Nat.zero_le _)
      have I9 := I8.lset (f := (·.pop)) (its := [u4]) (its' := []) (ys := []) (t' := s6.toks + 1) upd_same e4 (by rfl) .nil (Nat.zero_le _)
      rw [upd_upd, eH] at I9
      have itq : it ≠ q := fun z => by
        have := fp6.1
        rw [z, hq6] at this
        cases this
      exact wpAny_pure ⟨plainId_quiet PySem.F.plain_extend_loop _, it_loop (A1 := X.A.in1) (I.ok.hd hcalm) zl zs.length 0 H6 _ (by omega) (by omega) I9 (by rw [List.take_zero]; exact hq6) ht6 tq fp6 (st6.at fun o e => (Heap.get?_update_other _ _ (Ne.symm itq)).trans ((Heap.get?_update_other _ _ (Ne.symm itq)).trans e)) fin⟩
end
end Own

set_option Elab.async false
set_option linter.all false
set_option maxRecDepth 100000
set_option maxHeartbeats 4000000
/-! Table.__eq__, Table.__iter__. -/
namespace Tb
open PySem PySem.Spec PyProof.Rows L2 EvP Cm Fk DtE KyS XG
abbrev sTEq : Stmt := tmeth 19
abbrev sTIter : Stmt := tmeth 2
theorem scTEq : FnScope ["self", "other"] ["self", "other"] (defScope sTEq) := ⟨rfl, rfl, rfl, by decide +kernel, rfl, by decide +kernel, by decide +kernel⟩
theorem scTIter : FnScope ["self"] ["self"] (defScope sTIter) := ⟨rfl, rfl, rfl, by decide +kernel, rfl, by decide +kernel, by decide +kernel⟩
def strsD (ss : List Str) : PyData := .tuple (ss.map PyData.str)
theorem dp_strs {K : PySem.W.Frag} {H : Hp} : ∀ ss : List Str, DpAll K H (ss.map V.str) (ss.map PyData.str)
  | [] => .nil
  | s :: r => .cons (.str s) (dp_strs r)
theorem eqv_strs : ∀ ss ts : List Str, PyData.eqvAll (ss.map PyData.str) (ts.map PyData.str) = decide (ss = ts)
  | [], [] => rfl
  | [], _ :: _ => rfl
  | _ :: _, [] => rfl
  | s :: ss, t :: ts => by
    show ((s == t) && PyData.eqvAll (ss.map PyData.str) (ts.map PyData.str)) = _
    rw [eqv_strs ss ts]
    by_cases h1 : s = t
    · by_cases h2 : ss = ts
      · simp [h1, h2]
      · simp [h2]
    · simp [h1]
theorem lay_strs : ∀ {ss : List Str}, (∀ s ∈ ss, PyData.strOk s = true) → PyData.canLayAll0 (ss.map PyData.str) = true
  | [], _ => rfl
  | s :: r, h => by
    show (PyData.strOk s && PyData.canLayAll0 (r.map PyData.str)) = true
    rw [h s (.head _), lay_strs fun y hy => h y (.tail _ hy)]
    rfl
theorem depth_strs : ∀ ss : List Str, PyData.depthAll (ss.map PyData.str) = 0
  | [] => rfl
  | s :: r => by
    show max 0 (PyData.depthAll (r.map PyData.str)) = 0
    rw [depth_strs r]
    rfl
theorem shaped_strs {ss : List Str} (h : ∀ s ∈ ss, PyData.strOk s = true) : SeqAt.shaped (strsD ss) = true := by
  show (PyData.canLayAll0 (ss.map PyData.str) && decide (PyData.depthAll (ss.map PyData.str) + 1 ≤ 64)) = true
  rw [lay_strs h, depth_strs]
  rfl
def eqT (ss xs ss' xs' : List Str) (r r' : TRow) : Bool := decide (ss = ss') && (decide (xs = xs') && sameT r r')
def Oks (ss : List Str) : Prop := ∀ s ∈ ss, PyData.strOk s = true
def spTEq (K : PySem.W.Frag) (C : Addr) : Sp := fun vs H Q _ => (∃ (x y : Addr) (ss xs ss' xs' : List Str) (r r' : TRow), vs = [.ref x, .ref y] ∧ TblAt C H x ss xs r ∧ TblAt C H y ss' xs' r' ∧ Oks ss ∧ Oks xs ∧ Oks ss' ∧ Oks xs' ∧ Q (.bl (eqT ss xs ss' xs' r r')) H) ∨
  ∃ x y t, vs = [x, y] ∧ TyX K H y t ∧ PySem.W.kitOne K t (.ref C) = some false ∧ Q (.bl false) H
def spTIter (C : Addr) (n : Nat) : Sp := fun vs H Q _ => ∃ x ss xs r, vs = [.ref x] ∧ TblAt C H x ss xs r ∧ ∀ p prs it, H p = some (.tup prs) → All2 H ((sortK (r.map (·.1))).map fun k => tupV (k.map kV)) prs → H it = none → n ≤ it → Q (.ref it) (upd H it (Own.ItT p it))
section
variable {P : Program} {w : World} {K : PySem.W.Frag} {mg : Str → Option Value} {base : Heap} {C f : Addr} {fd : FuncData}
theorem ok_teq (F : Fun K "__eq__" "Table.__eq__" sTEq f fd) (S : TblC K C) (SI : TblI K C) (T : Blt mg) (gS : mg "Table" = some (.ref C)) : FnOk P w K mg base CX0 1 f fd ["self", "other"] (spTEq K C) := by
  refine F.ok scTEq (fun vs H Q E h => ?_) (fun cdv A outer s H vs Q E hr h => ?_)
  · rcases h with ⟨x, y, ss, xs, ss', xs', r, r', rfl, _⟩ | ⟨x, y, t, rfl, _⟩ <;> rfl
  · refine ⟨_, pss_one (ps_ret (pe_and (pe_callB call_isi (by rfl) T.isi (by decide +kernel) (pa_cons (pv 1) (pa_cons (pe_glob (v := .ref C) (by rfl) gS rfl) pa_nil)))
      (pe_and (pe_cmpR (op_eqD hr.units) (pe_fld (pv 0) rfl) (pe_fld (pv 1) rfl) (nomark _))
      (pe_and (pe_cmpR (op_eqD hr.units) (pe_fld (pv 0) rfl) (pe_fld (pv 1) rfl) (nomark _))
      (pe_one (pe_cmpR (op_eqT (hu_of hr)) (pe_fld (pv 0) rfl) (pe_fld (pv 1) rfl) (nomark _))))))), ?_⟩
    rcases h with ⟨x, y, ss, xs, ss', xs', r, r', rfl, ⟨dx, n1, n2, dw, pp, prs, h1, h2, h3, h4, h5, h6⟩, ⟨dx', n1', n2', dw', pp', prs', k1, k2, k3, k4, k5, k6⟩, o1, o2, o3, o4, q⟩ | ⟨x, y, t, rfl, ty, kt, q⟩
    · refine ⟨_, rfl, _, _, _, _, true, rfl, .own C, .base (.ins k1 S.cl SI.ha SI.hn SI.htk SI.hm), ?_, _, rfl, ?_⟩
      · unfold PySem.W.kitOne
        rw [if_pos (by simp)]
      unfold eqT at q
      refine ⟨_, rfl, x, C, dx, _, _, rfl, h1, S.cl, S.nS, rfl, _, rfl, y, C, dx', _, _, rfl, k1, S.cl, S.nS, rfl, strsD ss, strsD ss', .tup (SqT.of h2) (dp_strs ss), .tup (SqT.of k2) (dp_strs ss'), shaped_strs o1, shaped_strs o3, ?_⟩
      rw [show PyData.eqv (strsD ss) (strsD ss') = decide (ss = ss') from eqv_strs ss ss']
      refine ⟨_, rfl, ?_⟩
      cases c1 : decide (ss = ss') with
      | false =>
        rw [c1] at q
        exact q
      | true =>
        rw [c1, Bool.true_and] at q
        refine ⟨_, rfl, x, C, dx, _, _, rfl, h1, S.cl, S.nU, rfl, _, rfl, y, C, dx', _, _, rfl, k1, S.cl, S.nU, rfl, strsD xs, strsD xs', .tup (SqT.of h3) (dp_strs xs), .tup (SqT.of k3) (dp_strs xs'), shaped_strs o2, shaped_strs o4, ?_⟩
        rw [show PyData.eqv (strsD xs) (strsD xs') = decide (xs = xs') from eqv_strs xs xs']
        refine ⟨_, rfl, ?_⟩
        cases c2 : decide (xs = xs') with
        | false =>
          rw [c2] at q
          exact q
        | true =>
          rw [c2, Bool.true_and] at q
          exact ⟨_, rfl, x, C, dx, _, _, rfl, h1, S.cl, S.nW, rfl, _, rfl, y, C, dx', _, _, rfl, k1, S.cl, S.nW, rfl, dw, dw', r, r', rfl, rfl, h4, k4, q⟩
    · exact ⟨_, rfl, _, _, _, _, false, rfl, .own C, ty, kt, _, rfl, q⟩
theorem ok_titer (F : Fun K "__iter__" "Table.__iter__" sTIter f fd) (S : TblC K C) (hI : mg "iter" = none) : Own.FnZ P w K mg base 1 f ["self"] fd (spTIter C) := by
  refine Own.Fun.okZ F scTIter fun cdv A outer s H vs Q hr h => ?_
  obtain ⟨x, ss, xs, r, rfl, ⟨dx, n1, n2, dw, pp, prs, h1, h2, h3, h4, h5, h6⟩, q⟩ := h
  refine ⟨_, pss_one (ps_ret (pe_callB Own.call_iterT (by rfl) hI (by decide +kernel) (pa_cons (pe_fld (pv 0) rfl) pa_nil))), ?_⟩
  exact ⟨_, rfl, x, C, dx, _, _, rfl, h1, S.cl, S.nP, rfl, pp, prs, rfl, SqT.of h5, fun it hit hn => q pp prs it h5 h6 hit hn⟩
end
end Tb

set_option Elab.async false
set_option linter.all false
set_option maxRecDepth 100000
set_option maxHeartbeats 4000000
/-! row_text, Table.__str__. -/
namespace Tb
open PySem PySem.Spec PyProof.Rows L2 EvP Cm Fk DtE KyS XG
abbrev sRowT : Stmt := top 34
abbrev NR : List Str := ["table", "source", "words", "use"]
theorem scRowT : FnScope NR ["table", "source"] (defScope sRowT) := ⟨rfl, rfl, rfl, by decide +kernel, rfl, by decide +kernel, by decide +kernel⟩
/-- the words of a row -/
def rowW (s : Str) (xs : List Str) (r : TRow) : List Str := s :: xs.map fun u => numT (wk r (key2 s u))
def rowT (s0 s : Str) (xs : List Str) (r : TRow) : Str := Txt.join " " (if s = s0 then rowW s xs r else ";" :: rowW s xs r)
/-- worths that are written -/
def Wks (r : TRow) : Prop := ∀ k, 0 ≤ wk r k ∧ wk r k < 10 ^ 64
def spRowT (C : Addr) : Sp := fun vs H Q _ => ∃ (x : Addr) (s s0 : Str) (ss xs : List Str) (r : TRow), vs = [.ref x, .str s] ∧ TblAt C H x (s0 :: ss) xs r ∧ NameV (.str s) ∧ (∀ u ∈ xs, NameV (.str u)) ∧ xs.length ≤ 6 ∧ Wks r ∧ ∀ H', Ex H H' → Q (.str (rowT s0 s xs r)) H'
theorem sum_le {α : Type} (f : α → Nat) {n : Nat} : ∀ {l : List α}, (∀ x ∈ l, f x ≤ n) → (l.map f).sum ≤ n * l.length
  | [], _ => by simp
  | x :: l, h => by
    have ih := sum_le f fun y hy => h y (.tail _ hy)
    have h0 := h x (.head _)
    rw [List.map_cons, List.sum_cons, List.length_cons, Nat.mul_add]
    omega
theorem numT_len {n : Int} (h0 : 0 ≤ n) (h1 : n < 10 ^ 64) : (numT n).length ≤ 64 := toString_length_le h0 (k := 64) (by decide) h1
theorem name_le {x : Str} (h : NameV (.str x)) : x.length ≤ 8 := by
  obtain ⟨y, ey, _, hb⟩ := h
  cases ey
  exact (name_small hb).1
theorem rowW_sum {s : Str} {xs : List Str} {r : TRow} (hs : NameV (.str s)) (l : xs.length ≤ 6) (w : Wks r) : ((rowW s xs r).map (·.length)).sum ≤ 400 ∧ (rowW s xs r).length ≤ 7 := by
  have a := name_le hs
  have b := sum_le (fun u : Str => (numT (wk r (key2 s u))).length) (n := 64) (l := xs) fun u _ => numT_len (w _).1 (w _).2
  unfold rowW
  rw [List.map_cons, List.sum_cons, List.map_map, List.length_cons, List.length_map]
  refine ⟨?_, by omega⟩
  have e : (xs.map ((fun x : Str => x.length) ∘ fun u => numT (wk r (key2 s u)))).sum = (xs.map fun u => (numT (wk r (key2 s u))).length).sum := rfl
  rw [e]
  have : 64 * xs.length ≤ 64 * 6 := Nat.mul_le_mul_left _ l
  omega
section
variable {P : Program} {w : World} {K : PySem.W.Frag} {mg : Str → Option Value} {base : Heap} {C f fN fI fR : Addr} {fd fdN fdI fdR : FuncData}
theorem ok_rowT (F : Fun K "row_text" "row_text" sRowT f fd) (S : TblC K C) (M : Own.Mt P w K mg base C "__getitem__" 3 ["self", "at"] (spTItem C) fI fdI) (MF : PySem.W.fnIn K fI = true)
    (G : FnOk P w K mg base CX0 1 fN fdN ["number"] spNum) (b : Binds K fdN ["number"] []) (gN : mg "number_text" = some (.ref fN)) (kN : PySem.W.keepIn K (.ref fN) = true) : FnOk P w K mg base CX0 5 f fd ["table", "source"] (spRowT C) := by
  have nd := scRowT.nd
  refine F.ok scRowT (fun vs H Q E h => ?_) (fun cdv A outer s H vs Q E hr h => ?_)
  · obtain ⟨x, s, s0, ss, xs, r, rfl, _⟩ := h
    rfl
  · obtain ⟨x, sc, s0, ss, xs, r, rfl, sa, hs, hx, l6, wr, q⟩ := h
    refine ⟨_, pss_cons (ps_set (i := 2) nd rfl (Or.inl rfl) (pe_lst (pa_cons (pv 1) (StX.pa_star (pe_lc (own := [("use", 3)]) (g := gName 3) (tt := tYes) (te := tCall spNum [] E0 (tCons (tOp (Own.rIxOwn C (spTItem C)) (tVar 0) (tTup (tCons (tVar 1) (tCons (tVar 3) tNil)))) tNil)) rfl nd (pi_tup (pe_fld (pv 0) rfl)) (blkOk_by (N := NR) (sc := defScope sRowT) (by decide +kernel))
        (fun _ _ _ _ _ => pg_name (i := 3) nd rfl (Or.inl rfl)) (fun _ _ _ _ _ => pts_nil) (fun _ _ _ _ _ => pe_call G (hr.mono (by decide)) (by rfl) gN kN b .nil pass0 (pa_cons (Own.pe_ixOwn M MF hr (pv 0) (pe_tup (pa_cons (pv 1) (pa_cons (pv 3) pa_nil)))) pa_nil))) pa_nil))))
      (pss_cons (ps_if (pt_cmpR op_ne (pv 1) (pe_ix ix_tup (pe_fld (pv 0) rfl) pe_int (fun _ _ => rfl)) (nomark _)) (pss_one (ps_set (i := 2) nd rfl (Or.inl rfl) (pe_lst (pa_cons pe_str (StX.pa_star (pv 2) pa_nil))))) pss_nil)
      (pss_one (ps_ret (pe_join pe_str (pv 2))))), ?_⟩
    have sa' := sa
    obtain ⟨dx, n1, n2, dw, pp, prs, h1, h2, h3, h4, h5, h6⟩ := sa'
    have w0 : Walks (iTup K (tFld K (tVar 0) "uses")) [some (.ref x), some (.str sc), none, none] H (xs.map V.str) := walks_tup (g_fld rfl h1 S.cl S.nU rfl (⟨n2, rfl, h3⟩ : (tupV (xs.map V.str)).R (.ref n2) H))
    have z := comp_is (te := tCall spNum [] E0 (tCons (tOp (Own.rIxOwn C (spTItem C)) (tVar 0) (tTup (tCons (tVar 1) (tCons (tVar 3) tNil)))) tNil)) (tt := tYes) (i := 3) (vs := [3]) (fun _ => true) (fun v => match v with
      | .str u => V.str (numT (wk r (key2 sc u)))
      | _ => .non) w0 (by rw [List.length_map]; omega) (fun _ => rfl) (fun _ _ H2 _ Q h => h) (fun v hv _ => by
        obtain ⟨u, hu, rfl⟩ := List.mem_map.mp hv
        intro H1 e1 Q1 q1
        refine ⟨_, rfl, _, rfl, _, rfl, by show 2 ≤ sizeLine; decide, fun p hp => ?_⟩
        have e2 := Ex.new (o := .tup [.str sc, .str u]) hp
        exact ⟨tbl_ins (sa.mono (e1.trans e2)), x, p, s0 :: ss, xs, r, key2 sc u, rfl, sa.mono (e1.trans e2), upd_same, ⟨sc, u, rfl, hs, hx u hu⟩, _, rfl, (wr _).1, (wr _).2, fun H' e' => q1 _ H' (e2.trans e') rfl⟩)
    rw [List.filter_eq_self.mpr (fun _ _ => rfl), List.map_map] at z
    have ez : (xs.map ((fun v : V => match v with
      | .str u => V.str (numT (wk r (key2 sc u)))
      | _ => .non) ∘ V.str)) = (xs.map fun u => numT (wk r (key2 sc u))).map V.str := by
      rw [List.map_map]
      rfl
    rw [ez] at z
    obtain ⟨sm, sl⟩ := rowW_sum (r := r) hs l6 wr
    refine ⟨_, rfl, z H (Ex.refl H) _ fun v H1 e1 ⟨l, ev, hl⟩ => ⟨l, _, ev, .inr (SqL.of hl), ?_, fun p hp => ?_⟩⟩
    · rw [sizeLine_eq]
      simp only [List.length_append, List.length_cons, List.length_map, List.length_nil]
      omega
    have e2 := Ex.new (o := .lst (.str sc :: ((xs.map fun u => numT (wk r (key2 sc u))).map V.str ++ []))) hp
    have hp1 : upd H1 p (.lst (.str sc :: ((xs.map fun u => numT (wk r (key2 sc u))).map V.str ++ []))) p = some (.lst ((rowW sc xs r).map V.str)) := by
      rw [upd_same, List.append_nil]
      rfl
    generalize upd H1 p (.lst (.str sc :: ((xs.map fun u => numT (wk r (key2 sc u))).map V.str ++ []))) = H2 at e2 hp1 ⊢
    have e12 := e1.trans e2
    refine ⟨_, rfl, _, rfl, ?_⟩
    refine ⟨x, C, dx, _, _, rfl, e12 _ _ h1, S.cl, S.nS, rfl, n1, (s0 :: ss).map V.str, 0, .str s0, rfl, rfl, SqT.of (e12 _ _ h2), atI_nat (xs := (s0 :: ss).map V.str) (j := 0) rfl, rfl, _, rfl, ?_⟩
    have eqd : decide (V.str sc = V.str s0) = decide (sc = s0) := by
      by_cases c : sc = s0
      · rw [c]
        simp
      · have : ¬ V.str sc = V.str s0 := fun z => c (V.str.inj z)
        rw [decide_eq_false c, decide_eq_false this]
    rw [eqd]
    by_cases c : sc = s0
    · rw [decide_eq_true c]
      dsimp only [Bool.not_true, tNext]
      rw [if_neg (show ¬ (!true) = true by decide)]
      refine ⟨⟨_, rfl⟩, _, rfl, " ", p, rowW sc xs r, rfl, rfl, .inl (SqL.of hp1), ?_, ?_⟩
      · show _ + _ * 1 ≤ 16777216
        omega
      · have := q H2 e12
        unfold rowT at this
        rw [if_pos c] at this
        exact this
    · rw [decide_eq_false c]
      dsimp only [Bool.not_false]
      rw [if_pos (show (!false) = true by decide)]
      refine ⟨_, rfl, p, _, rfl, .inr (SqL.of hp1), ?_, fun p2 hp2 => ?_⟩
      · rw [sizeLine_eq]
        simp only [List.length_cons, List.length_append, List.length_map, List.length_nil]
        omega
      refine ⟨⟨_, rfl⟩, _, rfl, " ", p2, (";" : Str) :: rowW sc xs r, rfl, rfl, .inl (SqL.of (by rw [upd_same, List.append_nil]; rfl)), ?_, ?_⟩
      · rw [List.map_cons, List.sum_cons, List.length_cons]
        show 1 + _ + (_ + 1) * 1 ≤ 16777216
        omega
      · have := q _ (e12.trans (Ex.new (o := .lst (V.str ";" :: ((rowW sc xs r).map V.str ++ []))) hp2))
        unfold rowT at this
        rw [if_neg c] at this
        exact this
end
end Tb
namespace Tb
open PySem PySem.Spec PyProof.Rows L2 EvP Cm Fk DtE KyS XG
abbrev sTStr : Stmt := (match top 35 with
  | .ClassDef _ _ _ body _ _ _ _ _ _ _ => body.getD 24 (.Pass ⟨0, 0, 0, 0⟩)
  | _ => .Pass ⟨0, 0, 0, 0⟩)
theorem scTStr : FnScope ["self", "source"] ["self"] (defScope sTStr) := ⟨rfl, rfl, rfl, by decide +kernel, rfl, by decide +kernel, by decide +kernel⟩
def rowsT (ss xs : List Str) (r : TRow) : List Str := ss.map fun s => rowT (ss.headD s) s xs r
def tblT (ss xs : List Str) (r : TRow) : Str := Txt.join " " (xs ++ (":" : Str) :: rowsT ss xs r)
theorem rowT_len {s0 s : Str} {xs : List Str} {r : TRow} (hs : NameV (.str s)) (l : xs.length ≤ 6) (w : Wks r) : (rowT s0 s xs r).length ≤ 420 := by
  obtain ⟨a, b⟩ := rowW_sum (r := r) hs l w
  unfold rowT
  show (Builtin.Str.glued _ _).length ≤ 420
  rw [PySem.size_glued]
  have one : ((" " : String) : Str).length = 1 := rfl
  rw [one]
  split
  · omega
  · rw [List.map_cons, List.sum_cons, List.length_cons]
    have : ((";" : String) : Str).length = 1 := rfl
    rw [this]
    omega
def spTStr (C : Addr) : Sp := fun vs H Q _ => ∃ (x : Addr) (ss xs : List Str) (r : TRow), vs = [.ref x] ∧ TblAt C H x ss xs r ∧ (∀ u ∈ ss, NameV (.str u)) ∧ (∀ u ∈ xs, NameV (.str u)) ∧ ss.length ≤ 6 ∧ xs.length ≤ 6 ∧ Wks r ∧ ∀ H', Ex H H' → Q (.str (tblT ss xs r)) H'
section
variable {P : Program} {w : World} {K : PySem.W.Frag} {mg : Str → Option Value} {base : Heap} {C f fR : Addr} {fd fdR : FuncData}
theorem ok_tstr (F : Fun K "__str__" "Table.__str__" sTStr f fd) (S : TblC K C) (G : FnOk P w K mg base CX0 5 fR fdR ["table", "source"] (spRowT C)) (b : Binds K fdR ["table", "source"] []) (gR : mg "row_text" = some (.ref fR)) (kR : PySem.W.keepIn K (.ref fR) = true) : FnOk P w K mg base CX0 6 f fd ["self"] (spTStr C) := by
  have nd := scTStr.nd
  refine F.ok scTStr (fun vs H Q E h => ?_) (fun cdv A outer s H vs Q E hr h => ?_)
  · obtain ⟨x, ss, xs, r, rfl, _⟩ := h
    rfl
  · obtain ⟨x, ss, xs, r, rfl, sa, hs, hx, l5, l6, wr, q⟩ := h
    refine ⟨_, pss_one (ps_ret (pe_join pe_str (pe_lst (StX.pa_star (pe_fld (pv 0) rfl) (pa_cons pe_str (StX.pa_star (pe_lc (own := [("source", 1)]) (g := gName 1) (tt := tYes) (te := tCall (spRowT C) [] E0 (tCons (tVar 0) (tCons (tVar 1) tNil))) rfl nd (pi_tup (pe_fld (pv 0) rfl)) (blkOk_by (N := ["self", "source"]) (sc := defScope sTStr) (by decide +kernel))
        (fun _ _ _ _ _ => pg_name (i := 1) nd rfl (Or.inl rfl)) (fun _ _ _ _ _ => pts_nil) (fun _ _ _ _ _ => pe_call G hr (by rfl) gR kR b .nil pass0 (pa_cons (pv 0) (pa_cons (pv 1) pa_nil)))) pa_nil)))))), ?_⟩
    have sa' := sa
    obtain ⟨dx, n1, n2, dw, pp, prs, h1, h2, h3, h4, h5, h6⟩ := sa'
    have w0 : Walks (iTup K (tFld K (tVar 0) "sources")) [some (.ref x), none] H (ss.map V.str) := walks_tup (g_fld rfl h1 S.cl S.nS rfl (⟨n1, rfl, h2⟩ : (tupV (ss.map V.str)).R (.ref n1) H))
    have z := comp_is (te := tCall (spRowT C) [] E0 (tCons (tVar 0) (tCons (tVar 1) tNil))) (tt := tYes) (i := 1) (vs := [1]) (fun _ => true) (fun v => match v with
      | .str u => V.str (rowT (ss.headD u) u xs r)
      | _ => .non) w0 (by rw [List.length_map]; omega) (fun _ => rfl) (fun _ _ H2 _ Q h => h) (fun v hv _ => by
        obtain ⟨u, hu, rfl⟩ := List.mem_map.mp hv
        intro H1 e1 Q1 q1
        cases ss with
        | nil => cases hu
        | cons s0 st => exact ⟨_, rfl, _, rfl, x, u, s0, st, xs, r, rfl, sa.mono e1, hs u hu, hx, l6, wr, fun H' e' => q1 _ H' e' rfl⟩)
    rw [List.filter_eq_self.mpr (fun _ _ => rfl), List.map_map] at z
    have ez : (ss.map ((fun v : V => match v with
      | .str u => V.str (rowT (ss.headD u) u xs r)
      | _ => .non) ∘ V.str)) = (rowsT ss xs r).map V.str := by
      unfold rowsT
      rw [List.map_map]
      rfl
    rw [ez] at z
    have sum1 := sum_le (fun s : Str => (rowT (ss.headD s) s xs r).length) (n := 420) (l := ss) fun s hh => rowT_len (hs s hh) l6 wr
    have sum2 := sum_le (fun s : Str => s.length) (n := 8) (l := xs) fun s hh => name_le (hx s hh)
    have m1 : 420 * ss.length ≤ 420 * 6 := Nat.mul_le_mul_left _ l5
    have m2 : 8 * xs.length ≤ 8 * 6 := Nat.mul_le_mul_left _ l6
    have lr : (rowsT ss xs r).length = ss.length := List.length_map _
    refine ⟨⟨_, rfl⟩, _, rfl, x, C, dx, _, _, rfl, h1, S.cl, S.nU, rfl, n2, xs.map V.str, rfl, .inl (SqT.of h3), ?_⟩
    unfold tCons tC StX.tStar
    dsimp only
    refine z H (Ex.refl H) _ fun v H1 e1 ⟨l, ev, hl⟩ => ⟨l, (rowsT ss xs r).map V.str, ev, .inr (SqL.of hl), ?_, fun p hp => ?_⟩
    · rw [sizeLine_eq]
      simp only [List.length_append, List.length_cons, List.length_map, List.length_nil, lr]
      omega
    · refine ⟨" ", p, xs ++ (":" : Str) :: rowsT ss xs r, rfl, rfl, .inl (SqL.of (by rw [upd_same, List.map_append, List.append_nil]; rfl)), ?_, q _ (e1.trans (Ex.new hp))⟩
      rw [List.map_append, List.sum_append, List.map_cons, List.sum_cons, List.length_append, List.length_cons, lr]
      have e3 : ((rowsT ss xs r).map (·.length)).sum = (ss.map fun s => (rowT (ss.headD s) s xs r).length).sum := by
        unfold rowsT
        rw [List.map_map]
        rfl
      rw [e3]
      have c1 : ((":" : String) : Str).length = 1 := rfl
      have c2 : ((" " : String) : Str).length = 1 := rfl
      rw [c1, c2]
      have e4 : (xs.map (·.length)).sum = (xs.map fun s : Str => s.length).sum := rfl
      omega
end
end Tb

set_option Elab.async false
set_option linter.all false
set_option maxRecDepth 100000
set_option maxHeartbeats 4000000
/-! _law_plain: drawn names, drawn worths. -/
namespace K06
open PySem PySem.Spec PyProof.Rows L2
open DtE (TRow tents lookT valV_tents)
open Tb (key2 PairK Oks)
open Fk (NameV nameB)
open EvP (Ex)
abbrev sPlain : Stmt := top 42
abbrev NP : List Str := ["pen", "most", "pool", "sources_so", "uses_so", "found", "source", "use", "worth_so"]
theorem scPlain : FnScope NP ["pen", "most"] (defScope sPlain) := ⟨rfl, rfl, rfl, by decide +kernel, rfl, by decide +kernel, by decide +kernel⟩
def poolA : List Str := ["a", "b", "c", "d", "e", "f"]
def poolB : List Str := ["x", "b", "zzzzzzzz", "ab", "y", "a"]
def poolC : List Str := ["x", "y", "z", "u", "v", "w"]
def poolD : List Str := ["z", "y", "x", "a", "zzzzzzzz", "c"]
/-- names that a table takes -/
structure NamesOk (ss : List Str) : Prop where
  nod : ss.Nodup
  nm : ∀ n ∈ ss, NameV (.str n)
  few : ss.length ≤ 6
theorem namesOk_of {ss : List Str} (h : (decide ss.Nodup && ss.all nameB && decide (ss.length ≤ 6)) = true) : NamesOk ss := by
  simp only [Bool.and_eq_true, decide_eq_true_eq, List.all_eq_true] at h
  refine ⟨h.1.1, fun n hn => ⟨n, rfl, ?_, h.1.2 n hn⟩, h.2⟩
  have := (Tb.name_small (h.1.2 n hn)).1
  rw [sizeLine_eq]
  omega
/-- worths of pairs of these names -/
structure WorthsOk (ss xs : List Str) (r : TRow) : Prop where
  nod : (r.map (·.1)).Nodup
  key : ∀ t ∈ r, ∃ a ∈ ss, ∃ x ∈ xs, t.1 = key2 a x
  pos : ∀ t ∈ r, 0 < t.2 ∧ t.2 < 10 ^ 30
structure PlainAt (H : Hp) (v : V) (ss xs : List Str) (r : TRow) : Prop where
  ex : ∃ t a b d, v = .ref t ∧ H t = some (.tup [.ref a, .ref b, .ref d]) ∧ H a = some (.lst (ss.map V.str)) ∧ H b = some (.lst (xs.map V.str)) ∧ H d = some (.dT (tents r))
structure PlainOk (ss xs : List Str) (r : TRow) : Prop where
  s : NamesOk ss
  u : NamesOk xs
  w : WorthsOk ss xs r
def spPlain : Sp := fun vs H Q _ => ∃ (p q : Addr) (ns : List Int) (s g m : Int), vs = [.ref p, .int m] ∧ Pen H p q ns s g ∧ ns.length ≤ 63 ∧ 0 ≤ s ∧ s < 99000 ∧ 0 < m ∧ m ≤ 10 ^ 30 ∧
  ∀ (v : V) (ss xs : List Str) (r : TRow) (s' g' : Int) (H' : Hp), PlainOk ss xs r → PlainAt H' v ss xs r → s ≤ s' → s' ≤ s + 200 → Pen H' p q ns s' g' → But p H H' → Q v H'
theorem cut_str {l : List Str} (h : l.length = 6) (k : Int) (hk : k = 0 ∨ k = 1 ∨ k = 2 ∨ k = 3 ∨ k = 6) : cutV (l.map V.str) none (some k) = (l.take k.toNat).map V.str := by
  match l, h with
  | [a, b, c, d, e, f], _ => rcases hk with rfl | rfl | rfl | rfl | rfl <;> rfl
theorem pools_ok (k : Int) (hk : k = 0 ∨ k = 1 ∨ k = 2 ∨ k = 3 ∨ k = 6) : NamesOk (poolA.take k.toNat) ∧ NamesOk (poolB.take k.toNat) ∧ NamesOk (poolC.take k.toNat) ∧ NamesOk (poolD.take k.toNat) := by
  rcases hk with rfl | rfl | rfl | rfl | rfl <;> exact ⟨namesOk_of (by decide +kernel), namesOk_of (by decide +kernel), namesOk_of (by decide +kernel), namesOk_of (by decide +kernel)⟩
/-- some pairs are told, those of the sources before the i-th, and of it with the uses before the j-th -/
structure Mid (ss xs : List Str) (i j : Nat) (r : TRow) : Prop where
  nod : (r.map (·.1)).Nodup
  key : ∀ t ∈ r, ∃ a x, t.1 = key2 a x ∧ ((a ∈ ss.take i ∧ x ∈ xs) ∨ (ss[i]? = some a ∧ x ∈ xs.take j))
  pos : ∀ t ∈ r, 0 < t.2 ∧ t.2 < 10 ^ 30
theorem nodup_le {α : Type} [DecidableEq α] : ∀ {l m : List α}, l.Nodup → (∀ x ∈ l, x ∈ m) → l.length ≤ m.length
  | [], _, _, _ => Nat.zero_le _
  | x :: l, m, n, h => by
    rw [List.nodup_cons] at n
    have hx : x ∈ m := h x (.head _)
    have e := List.length_erase_of_mem hx
    have p : 0 < m.length := List.length_pos_of_mem hx
    have ih := nodup_le (m := m.erase x) n.2 fun y hy => (List.mem_erase_of_ne fun z => n.1 (by rw [← z]; exact hy)).mpr (h y (.tail _ hy))
    rw [List.length_cons]
    omega
theorem Mid.len {ss xs : List Str} {i j : Nat} {r : TRow} (m : Mid ss xs i j r) (hs : NamesOk ss) (hx : NamesOk xs) : r.length ≤ 1000 := by
  have sub : ∀ k ∈ r.map (·.1), k ∈ ss.flatMap fun a => xs.map fun x => key2 a x := fun k hk => by
    obtain ⟨t, ht, rfl⟩ := List.mem_map.mp hk
    obtain ⟨a, x, e, h⟩ := m.key t ht
    rw [e]
    rcases h with ⟨h1, h2⟩ | ⟨h1, h2⟩
    · exact List.mem_flatMap.mpr ⟨a, List.mem_of_mem_take h1, List.mem_map.mpr ⟨x, h2, rfl⟩⟩
    · exact List.mem_flatMap.mpr ⟨a, List.mem_of_getElem? h1, List.mem_map.mpr ⟨x, List.mem_of_mem_take h2, rfl⟩⟩
  have l1 : (r.map (·.1)).length ≤ (ss.flatMap fun a => xs.map fun x => key2 a x).length := by
    exact nodup_le m.nod sub
  rw [List.length_map, List.length_flatMap] at l1
  have l2 := Tb.sum_le (fun a : Str => (xs.map fun x => key2 a x).length) (n := 6) (l := ss) fun a _ => by rw [List.length_map]; exact hx.few
  have : 6 * ss.length ≤ 6 * 6 := Nat.mul_le_mul_left _ hs.few
  omega
theorem Mid.step_i {ss xs : List Str} {i : Nat} {r : TRow} {a : Str} (h : ss[i]? = some a) (m : Mid ss xs i xs.length r) : Mid ss xs (i + 1) 0 r := ⟨m.nod, fun t ht => by
  obtain ⟨b, x, e, h2⟩ := m.key t ht
  refine ⟨b, x, e, .inl ?_⟩
  rw [List.take_add_one, h]
  rcases h2 with ⟨h2, h3⟩ | ⟨h2, h3⟩
  · exact ⟨List.mem_append_left _ h2, h3⟩
  · rw [h] at h2
    rw [List.take_length] at h3
    exact ⟨List.mem_append_right _ (by rw [Option.some.inj h2]; exact List.mem_singleton.mpr rfl), h3⟩, m.pos⟩
theorem Mid.skip {ss xs : List Str} {i j : Nat} {r : TRow} (m : Mid ss xs i j r) : Mid ss xs i (j + 1) r := ⟨m.nod, fun t ht => by
  obtain ⟨b, x, e, h2⟩ := m.key t ht
  refine ⟨b, x, e, h2.imp id fun h3 => ⟨h3.1, ?_⟩⟩
  rw [List.take_add_one]
  exact List.mem_append_left _ h3.2, m.pos⟩
theorem take_no {l : List Str} (n : l.Nodup) {j : Nat} {x : Str} (h : l[j]? = some x) : x ∉ l.take j := fun m => by
  obtain ⟨t, ht, et⟩ := List.getElem_of_mem m
  rw [List.getElem_take] at et
  obtain ⟨jl, ej⟩ := List.getElem?_eq_some_iff.mp h
  have lt : t < j := by
    rw [List.length_take] at ht
    omega
  exact List.pairwise_iff_getElem.mp n t j (by rw [List.length_take] at ht; omega) jl lt (et.trans ej.symm)
theorem Mid.put {ss xs : List Str} {i j : Nat} {r : TRow} {a x : Str} {n : Int} (m : Mid ss xs i j r) (hs : NamesOk ss) (hx : NamesOk xs) (ha : ss[i]? = some a) (hu : xs[j]? = some x) (h0 : 0 < n) (h1 : n < 10 ^ 30) : Mid ss xs i (j + 1) (r ++ [(key2 a x, n)]) := by
  refine ⟨?_, fun t ht => ?_, fun t ht => ?_⟩
  · rw [List.map_append, List.nodup_append]
    refine ⟨m.nod, List.nodup_cons.mpr ⟨List.not_mem_nil, List.nodup_nil⟩, fun k hk k' hk' e => ?_⟩
    obtain ⟨t, ht, rfl⟩ := List.mem_map.mp hk
    obtain rfl := List.mem_singleton.mp hk'
    obtain ⟨b, y, e2, h⟩ := m.key t ht
    obtain ⟨rfl, rfl⟩ := Tb.key2_inj (e2.symm.trans e)
    rcases h with ⟨h2, _⟩ | ⟨_, h2⟩
    · exact take_no hs.nod ha h2
    · exact take_no hx.nod hu h2
  · rcases List.mem_append.mp ht with ht | ht
    · exact (Mid.skip m).key t ht
    · obtain rfl := List.mem_singleton.mp ht
      refine ⟨a, x, rfl, .inr ⟨ha, ?_⟩⟩
      rw [List.take_add_one, hu]
      exact List.mem_append_right _ (List.mem_singleton.mpr rfl)
  · rcases List.mem_append.mp ht with ht | ht
    · exact m.pos t ht
    · obtain rfl := List.mem_singleton.mp ht
      exact ⟨h0, h1⟩
theorem Mid.done {ss xs : List Str} {r : TRow} (m : Mid ss xs ss.length 0 r) : WorthsOk ss xs r := ⟨m.nod, (fun t ht => by
  obtain ⟨a, x, e, h⟩ := m.key t ht
  rcases h with ⟨h1, h2⟩ | ⟨h1, h2⟩
  · exact ⟨a, List.mem_of_mem_take h1, x, h2, e⟩
  · rw [List.take_zero] at h2
    cases h2), m.pos⟩
theorem But.new {p l : Addr} {H H' : Hp} {o : HO} (nl : H l = none) (h : But p (upd H l o) H') : But p H H' := fun b u hb ne => h b u (by
  rw [upd_ne (ne_of_none hb nl)]
  exact hb) ne
theorem Pen.new {H : Hp} {p q l : Addr} {ns : List Int} {s g : Int} {o : HO} (nl : H l = none) (h : Pen H p q ns s g) : Pen (upd H l o) p q ns s g := ⟨by
  rw [upd_ne (ne_of_none h.p nl)]
  exact h.p, by
  rw [upd_ne (ne_of_none h.q nl)]
  exact h.q⟩
theorem But.trans {p : Addr} {H H1 H2 : Hp} (a : But p H H1) (b : But p H1 H2) : But p H H2 := fun c o h n => b c o (a c o h n) n
theorem pick_ints {H : Hp} {p q : Addr} {ns : List Int} {s g : Int} {ks : List Int} {Q : VK} {E : XK} (hP : Pen H p q ns s g) (hl : ns.length ≤ 63) (h0 : 0 ≤ s) (h1 : s < 100000) (z0 : 0 < ks.length) (z1 : ks.length < 100000) {l : Addr} (nl : H l = none)
    (k : ∀ (n s' g' : Int) (H' : Hp), n ∈ ks → s ≤ s' → s' ≤ s + 1 → Pen H' p q ns s' g' → But p H H' → Q (.int n) H') : spPick [.ref p, .ref l] (upd H l (.lst (ks.map V.int))) Q E :=
  ⟨p, q, ns, s, g, l, ks.map V.int, rfl, hP.new nl, hl, h0, h1, upd_same, (ne_of_none hP.p nl).symm, by rw [List.length_map]; exact z0, by rw [List.length_map]; exact z1, fun v s' g' H' hv a1 a2 a3 a4 => by
    obtain ⟨n, hn, rfl⟩ := List.mem_map.mp hv
    exact k n s' g' H' hn a1 a2 a3 (a4.new nl)⟩
theorem pick_lists {H : Hp} {p q : Addr} {ns : List Int} {s g : Int} {X Y : List Str} {Q : VK} {E : XK} (hP : Pen H p q ns s g) (hl : ns.length ≤ 63) (h0 : 0 ≤ s) (h1 : s < 100000) {l1 l2 l3 : Addr} (n1 : H l1 = none) (n2 : upd H l1 (.lst (X.map V.str)) l2 = none)
    (n3 : upd (upd H l1 (.lst (X.map V.str))) l2 (.lst (Y.map V.str)) l3 = none)
    (k : ∀ (a : Addr) (ss : List Str) (s' g' : Int) (H' : Hp), ss = X ∨ ss = Y → H' a = some (.lst (ss.map V.str)) → a ≠ p → s ≤ s' → s' ≤ s + 1 → Pen H' p q ns s' g' → But p H H' → Q (.ref a) H') :
    spPick [.ref p, .ref l3] (upd (upd (upd H l1 (.lst (X.map V.str))) l2 (.lst (Y.map V.str))) l3 (.lst [.ref l1, .ref l2])) Q E := by
  have p1 := hP.new (o := .lst (X.map V.str)) n1
  have p2 := p1.new (o := .lst (Y.map V.str)) n2
  have p3 := p2.new (o := .lst [.ref l1, .ref l2]) n3
  have a1 : upd (upd (upd H l1 (.lst (X.map V.str))) l2 (.lst (Y.map V.str))) l3 (.lst [.ref l1, .ref l2]) l1 = some (.lst (X.map V.str)) := by
    have z : upd H l1 (.lst (X.map V.str)) l1 = some (.lst (X.map V.str)) := upd_same
    have z2 := Ex.new (o := .lst (Y.map V.str)) n2 _ _ z
    exact Ex.new (o := .lst [.ref l1, .ref l2]) n3 _ _ z2
  have a2 : upd (upd (upd H l1 (.lst (X.map V.str))) l2 (.lst (Y.map V.str))) l3 (.lst [.ref l1, .ref l2]) l2 = some (.lst (Y.map V.str)) := Ex.new (o := .lst [.ref l1, .ref l2]) n3 _ _ upd_same
  have e1 : l1 ≠ p := (ne_of_none hP.p n1).symm
  have e2 : l2 ≠ p := (ne_of_none p1.p n2).symm
  refine ⟨p, q, ns, s, g, l3, [.ref l1, .ref l2], rfl, p3, hl, h0, h1, upd_same, (ne_of_none p2.p n3).symm, by show 0 < 2; decide, by show 2 < 100000; decide, fun v s' g' H' hv b1 b2 b3 b4 => ?_⟩
  have bt := ((b4.new n3).new n2).new n1
  rcases List.mem_cons.mp hv with rfl | hv
  · exact k l1 X s' g' H' (.inl rfl) (b4 _ _ a1 e1) e1 b1 b2 b3 bt
  · obtain rfl := List.mem_singleton.mp hv
    exact k l2 Y s' g' H' (.inr rfl) (b4 _ _ a2 e2) e2 b1 b2 b3 bt
/-- what is kept while worths are drawn -/
def Kept (p d : Addr) (H H' : Hp) : Prop := ∀ b o, H b = some o → b ≠ p → b ≠ d → H' b = some o
section
variable {P : Program} {w : World} {K : PySem.W.Frag} {mg : Str → Option Value} {base : Heap} {f fD fP : Addr} {fd fdD fdP : FuncData}
theorem ok_plain (F : Fun K "_law_plain" "_law_plain" sPlain f fd) (GP : FnOk P w K mg base CX0 2 fP fdP ["pen", "some"] spPick) (bP : Binds K fdP ["pen", "some"] []) (gP : mg "_law_pick" = some (.ref fP)) (kP : PySem.W.keepIn K (.ref fP) = true)
    (G : FnOk P w K mg base CX0 1 fD fdD ["pen", "many"] spDraw) (b : Binds K fdD ["pen", "many"] []) (gD : mg "_law_draw" = some (.ref fD)) (kD : PySem.W.keepIn K (.ref fD) = true) : FnOk P w K mg base CX0 3 f fd ["pen", "most"] spPlain := by
  have nd := scPlain.nd
  refine F.ok scPlain (fun vs H Q E h => ?_) (fun cdv A outer s H vs Q E hr h => ?_)
  · obtain ⟨p, q, ns, s, g, m, rfl, _⟩ := h
    rfl
  · obtain ⟨p, q, ns, s, g, m, rfl, hP, hl, h0, h1, m0, m1, k⟩ := h
    refine ⟨_, pss_cons (ps_set (i := 2) nd rfl (Or.inl rfl) (pe_call GP hr (by rfl) gP kP bP .nil pass0 (pa_cons (pv 0) (pa_cons (pe_lst (pa_cons (pe_lst (pa_cons pe_str (pa_cons pe_str (pa_cons pe_str (pa_cons pe_str (pa_cons pe_str (pa_cons pe_str pa_nil)))))))
        (pa_cons (pe_lst (pa_cons pe_str (pa_cons pe_str (pa_cons pe_str (pa_cons pe_str (pa_cons pe_str (pa_cons pe_str pa_nil))))))) pa_nil))) pa_nil))))
      (pss_cons (ps_set (i := 3) nd rfl (Or.inl rfl) (pe_slice sl_list (pv 2) po_none (po_some (pe_call GP hr (by rfl) gP kP bP .nil pass0 (pa_cons (pv 0) (pa_cons (pe_lst (pa_cons pe_int (pa_cons pe_int (pa_cons pe_int (pa_cons pe_int (pa_cons pe_int (pa_cons pe_int pa_nil))))))) pa_nil))))))
      (pss_cons (ps_set (i := 4) nd rfl (Or.inl rfl) (pe_call GP hr (by rfl) gP kP bP .nil pass0 (pa_cons (pv 0) (pa_cons (pe_lst (pa_cons (pe_lst (pa_cons pe_str (pa_cons pe_str (pa_cons pe_str (pa_cons pe_str (pa_cons pe_str (pa_cons pe_str pa_nil)))))))
        (pa_cons (pe_lst (pa_cons pe_str (pa_cons pe_str (pa_cons pe_str (pa_cons pe_str (pa_cons pe_str (pa_cons pe_str pa_nil))))))) pa_nil))) pa_nil))))
      (pss_cons (ps_set (i := 4) nd rfl (Or.inl rfl) (pe_slice sl_list (pv 4) po_none (po_some (pe_call GP hr (by rfl) gP kP bP .nil pass0 (pa_cons (pv 0) (pa_cons (pe_lst (pa_cons pe_int (pa_cons pe_int (pa_cons pe_int (pa_cons pe_int (pa_cons pe_int (pa_cons pe_int pa_nil))))))) pa_nil))))))
      (pss_cons (ps_set (i := 5) nd rfl (Or.inl rfl) pe_dnewT)
      (pss_cons (ps_for PassesOwn.never rfl (pi_list (pv 3)) (pg_name (i := 6) nd rfl (Or.inl rfl)) (pss_one (ps_for PassesOwn.never rfl (pi_list (pv 4)) (pg_name (i := 7) nd rfl (Or.inl rfl))
        (pss_cons (ps_set (i := 8) nd rfl (Or.inl rfl) (pe_call GP hr (by rfl) gP kP bP .nil pass0 (pa_cons (pv 0) (pa_cons (pe_lst (pa_cons pe_int (pa_cons pe_int (pa_cons pe_int (pa_cons (pe_op op_add pe_int (pe_call G (hr.mono (by decide)) (by rfl) gD kD b .nil pass0 (pa_cons (pv 0) (pa_cons pe_int pa_nil))))
          (pa_cons (pe_call G (hr.mono (by decide)) (by rfl) gD kD b .nil pass0 (pa_cons (pv 0) (pa_cons (pv 1) pa_nil))) pa_nil)))))) pa_nil))))
        (pss_one (ps_if (pt_cmpR op_gt (pv 8) pe_int (nomark _)) (pss_one (ps_dput (hu_of hr) (pv 5) (pe_tup (pa_cons (pv 6) (pa_cons (pv 7) pa_nil))) (pv 8) rfl)) pss_nil))))))
      (pss_one (ps_ret (pe_tup (pa_cons (pv 3) (pa_cons (pv 4) (pa_cons (pv 5) pa_nil))))))))))), ?_⟩
    -- pool
    refine ⟨_, rfl, by show 6 ≤ sizeLine; decide, fun l1 n1 => ⟨by show 6 ≤ sizeLine; decide, fun l2 n2 => ⟨by show 2 ≤ sizeLine; decide, fun l3 n3 => ?_⟩⟩⟩
    refine pick_lists (E := E0) (X := poolA) (Y := poolB) hP hl h0 (by omega) n1 n2 n3 fun a1 P1 s1 g1 H1 c1 ha1 na1 u1 v1 hP1 b1 => ?_
    -- sources_so
    refine ⟨_, rfl, _, rfl, by show 6 ≤ sizeLine; decide, fun l4 n4 => ?_⟩
    refine pick_ints (E := E0) (ks := [1, 2, 2, 3, 6, 0]) hP1 hl (by omega) (by omega) (by decide) (by decide) n4 fun k1 s2 g2 H2 hk1 u2 v2 hP2 b2 => ⟨k1, rfl, a1, _, rfl, SqL.of (b2 _ _ ha1 na1), fun a3 n5 => ?_⟩
    have kk1 : k1 = 0 ∨ k1 = 1 ∨ k1 = 2 ∨ k1 = 3 ∨ k1 = 6 := by
      simp only [List.mem_cons, List.not_mem_nil, or_false] at hk1
      omega
    have P16 : P1.length = 6 := by rcases c1 with rfl | rfl <;> rfl
    have ok1 : NamesOk (P1.take k1.toNat) := by
      rcases c1 with rfl | rfl
      · exact (pools_ok k1 kk1).1
      · exact (pools_ok k1 kk1).2.1
    rw [cut_str P16 k1 kk1]
    generalize P1.take k1.toNat = ss at ok1
    have e3 := Ex.new (o := .lst (ss.map V.str)) n5
    have ha3 : upd H2 a3 (.lst (ss.map V.str)) a3 = some (.lst (ss.map V.str)) := upd_same
    have na3 : a3 ≠ p := (ne_of_none hP2.p n5).symm
    have hP3 := hP2.new (o := .lst (ss.map V.str)) n5
    have b3 : But p H (upd H2 a3 (.lst (ss.map V.str))) := fun c o hc ne => e3 _ _ (b2 _ _ (b1 _ _ hc ne) ne)
    generalize upd H2 a3 (.lst (ss.map V.str)) = H3 at ha3 hP3 b3 ⊢
    -- uses_so
    refine ⟨_, rfl, by show 6 ≤ sizeLine; decide, fun l5 n6 => ⟨by show 6 ≤ sizeLine; decide, fun l6 n7 => ⟨by show 2 ≤ sizeLine; decide, fun l7 n8 => ?_⟩⟩⟩
    refine pick_lists (E := E0) (X := poolC) (Y := poolD) hP3 hl (by omega) (by omega) n6 n7 n8 fun a4 P2 s4 g4 H4 c2 ha4 na4 u4 v4 hP4 b4 => ?_
    refine ⟨_, rfl, _, rfl, by show 6 ≤ sizeLine; decide, fun l9 n9 => ?_⟩
    refine pick_ints (E := E0) (ks := [1, 2, 2, 3, 6, 0]) hP4 hl (by omega) (by omega) (by decide) (by decide) n9 fun k2 s5 g5 H5 hk2 u5 v5 hP5 b5 => ⟨k2, rfl, a4, _, rfl, SqL.of (b5 _ _ ha4 na4), fun a5 n10 => ?_⟩
    have kk2 : k2 = 0 ∨ k2 = 1 ∨ k2 = 2 ∨ k2 = 3 ∨ k2 = 6 := by
      simp only [List.mem_cons, List.not_mem_nil, or_false] at hk2
      omega
    have P26 : P2.length = 6 := by rcases c2 with rfl | rfl <;> rfl
    have ok2 : NamesOk (P2.take k2.toNat) := by
      rcases c2 with rfl | rfl
      · exact (pools_ok k2 kk2).2.2.1
      · exact (pools_ok k2 kk2).2.2.2
    rw [cut_str P26 k2 kk2]
    generalize P2.take k2.toNat = xs at ok2
    have e6 := Ex.new (o := .lst (xs.map V.str)) n10
    have ha5 : upd H5 a5 (.lst (xs.map V.str)) a5 = some (.lst (xs.map V.str)) := upd_same
    have na5 : a5 ≠ p := (ne_of_none hP5.p n10).symm
    have hP6 := hP5.new (o := .lst (xs.map V.str)) n10
    have b6 : But p H3 (upd H5 a5 (.lst (xs.map V.str))) := fun c o hc ne => e6 _ _ (b5 _ _ (b4 _ _ hc ne) ne)
    have ha3' := b6 _ _ ha3 na3
    have b36 := b3.trans b6
    generalize upd H5 a5 (.lst (xs.map V.str)) = H6 at ha5 hP6 b36 ha3' ⊢
    -- found
    intro d nd'
    have dp : d ≠ p := (ne_of_none hP6.p nd').symm
    have d3 : a3 ≠ d := ne_of_none ha3' nd'
    have d5 : a5 ≠ d := ne_of_none ha5 nd'
    have hd : upd H6 d (.dT []) d = some (.dT (tents [])) := upd_same
    have hP7 := hP6.new (o := .dT []) nd'
    have ha37 := Ex.new (o := .dT []) nd' _ _ ha3'
    have ha57 := Ex.new (o := .dT []) nd' _ _ ha5
    have b7 : ∀ c o, H c = some o → c ≠ p → upd H6 d (.dT []) c = some o ∧ c ≠ d := fun c o hc ne => ⟨Ex.new (o := .dT []) nd' _ _ (b36 _ _ hc ne), ne_of_none (b36 _ _ hc ne) nd'⟩
    generalize upd H6 d (.dT []) = H7 at hd hP7 ha37 ha57 b7 ⊢
    have qp : q ≠ p := hP.ne.symm
    have qd : ∀ {H' : Hp} {g' s' : Int} {r : TRow}, Pen H' p q ns s' g' → H' d = some (.dT (tents r)) → q ≠ d := fun x y => ne_of x.q y (fun z => nomatch z)
    refine ⟨_, rfl, a3, rfl, ⟨_, SqL.of ha37⟩, for_list (xs := ss.map V.str) (fun i sg H' => ∃ (s' g' : Int) (o6 o7 o8 : Option V) (r : TRow), sg = [some (.ref p), some (.int m), some (.ref a1), some (.ref a3), some (.ref a5), some (.ref d), o6, o7, o8] ∧ Pen H' p q ns s' g' ∧ s ≤ s' ∧ s' ≤ s + 4 + 18 * i ∧ H' d = some (.dT (tents r)) ∧ Mid ss xs i 0 r ∧ Kept p d H7 H')
      ⟨s5, g5, none, none, none, [], rfl, hP7, by omega, by omega, hd, ⟨List.nodup_nil, (fun t ht => nomatch ht), (fun t ht => nomatch ht)⟩, fun _ _ h _ _ => h⟩ (fun i sg H' _ ⟨_, _, _, _, _, _, _, _, _, _, _, _, kp⟩ => SqL.of (kp _ _ ha37 na3 d3)) (fun i z sg H' hi ⟨s', g', o6, o7, o8, r, esg, pn, i1, i2, i3, i4, kp⟩ => ?_) (fun sg H' ⟨s', g', o6, o7, o8, r, esg, pn, i1, i2, i3, i4, kp⟩ => ?_)⟩
    · subst esg
      rw [List.getElem?_map] at hi
      obtain ⟨a, ha, rfl⟩ := Option.map_eq_some_iff.mp hi
      have ilt : i < ss.length := (List.getElem?_eq_some_iff.mp ha).1
      have il : i < 6 := Nat.lt_of_lt_of_le ilt ok1.few
      refine ⟨_, rfl, a5, rfl, ⟨_, SqL.of (kp _ _ ha57 na5 d5)⟩, for_list (xs := xs.map V.str) (fun j sg H' => ∃ (s' g' : Int) (o7 o8 : Option V) (r : TRow), sg = [some (.ref p), some (.int m), some (.ref a1), some (.ref a3), some (.ref a5), some (.ref d), some (.str a), o7, o8] ∧ Pen H' p q ns s' g' ∧ s ≤ s' ∧ s' ≤ s + 4 + 18 * i + 3 * j ∧ H' d = some (.dT (tents r)) ∧ Mid ss xs i j r ∧ Kept p d H7 H')
        ⟨s', g', o7, o8, r, rfl, pn, i1, by omega, i3, i4, kp⟩ (fun j sg H' _ ⟨_, _, _, _, _, _, _, _, _, _, _, kp⟩ => SqL.of (kp _ _ ha57 na5 d5)) (fun j z sg H' hj ⟨s', g', o7, o8, r, esg, pn, i1, i2, i3, i4, kp⟩ => ?_) (fun sg H' ⟨s', g', o7, o8, r, esg, pn, i1, i2, i3, i4, kp⟩ => ?_)⟩
      · subst esg
        rw [List.getElem?_map] at hj
        obtain ⟨u, hu, rfl⟩ := Option.map_eq_some_iff.mp hj
        have jlt : j < xs.length := (List.getElem?_eq_some_iff.mp hu).1
        have jl : j < 6 := Nat.lt_of_lt_of_le jlt ok2.few
        refine ⟨_, rfl, _, rfl, p, q, ns, s', g', 9, rfl, pn, hl, by omega, by omega, by decide, by decide, fun w1 sa ga Ha wa wb sa1 sa2 pna ba => ⟨1, w1, rfl, rfl, ?_⟩⟩
        refine ⟨_, rfl, _, rfl, p, q, ns, sa, ga, m, rfl, pna, hl, by omega, by omega, m0, m1, fun w2 sb gb Hb wc wd sb1 sb2 pnb bb => ⟨by show 5 ≤ sizeLine; decide, fun l nl => ?_⟩⟩
        refine pick_ints (E := E0) (ks := [0, 0, 1, 1 + w1, w2]) pnb hl (by omega) (by omega) (by show 0 < 5; decide) (by show 5 < 100000; decide) nl fun n sc gc Hc hn sc1 sc2 pnc bc => ?_
        have n30 : n < 10 ^ 30 := by
          simp only [List.mem_cons, List.not_mem_nil, or_false] at hn
          omega
        have kept : Kept p d H' Hc := fun c o hc ne _ => bc _ _ (bb _ _ (ba _ _ hc ne) ne) ne
        have kp2 : Kept p d H7 Hc := fun c o hc n1 n2 => kept _ _ (kp _ _ hc n1 n2) n1 n2
        have hdc : Hc d = some (.dT (tents r)) := bc _ _ (bb _ _ (ba _ _ i3 dp) dp) dp
        refine ⟨_, rfl, n, 0, rfl, rfl, _, rfl, ?_⟩
        by_cases c : 0 < n
        · rw [decide_eq_true c]
          dsimp only
          rw [if_pos rfl]
          refine ⟨_, rfl, _, rfl, _, rfl, _, rfl, by show 2 ≤ sizeLine; decide, fun t nt => ?_⟩
          have e9 := Ex.new (o := .tup [.str a, .str u]) nt
          have hd9 := e9 _ _ hdc
          have m9 := i4.put ok1 ok2 ha hu c n30
          have lr := i4.len ok1 ok2
          refine ⟨d, _, rfl, DPut.t (k := key2 a u) hd9 upd_same (by unfold tents; rw [List.length_map, sizeLine_eq]; omega), ?_⟩
          rw [Tb.tents_put m9.nod]
          refine ⟨sc, gc, _, _, r ++ [(key2 a u, n)], rfl, ⟨?_, ?_⟩, by omega, by omega, upd_same, m9, fun x o hx n1 n2 => ?_⟩
          · rw [upd_ne dp.symm]
            exact e9 _ _ pnc.p
          · rw [upd_ne (qd pnc hdc)]
            exact e9 _ _ pnc.q
          · rw [upd_ne n2]
            exact e9 _ _ (kp2 _ _ hx n1 n2)
        · rw [decide_eq_false c]
          dsimp only [tNext]
          rw [if_neg Bool.false_ne_true]
          exact ⟨sc, gc, _, _, r, rfl, pnc, by omega, by omega, hdc, i4.skip, kp2⟩
      · subst esg
        rw [List.length_map] at i2 i4
        have : xs.length ≤ 6 := ok2.few
        exact ⟨s', g', _, _, _, r, rfl, pn, i1, by omega, i3, i4.step_i ha, kp⟩
    · subst esg
      rw [List.length_map] at i2 i4
      have : ss.length ≤ 6 := ok1.few
      refine ⟨_, rfl, _, rfl, _, rfl, by show 3 ≤ sizeLine; decide, fun t nt => ?_⟩
      have e9 := Ex.new (o := .tup [.ref a3, .ref a5, .ref d]) nt
      exact k (.ref t) ss xs r s' g' _ ⟨ok1, ok2, i4.done⟩ ⟨t, a3, a5, d, rfl, upd_same, e9 _ _ (kp _ _ ha37 na3 d3), e9 _ _ (kp _ _ ha57 na5 d5), e9 _ _ i3⟩ i1 (by omega) (pn.new nt) fun c o hc ne => e9 _ _ (kp _ _ (b7 _ _ hc ne).1 ne (b7 _ _ hc ne).2)
end
end K06

set_option Elab.async false
set_option linter.all false
set_option maxRecDepth 100000
set_option maxHeartbeats 4000000
/-! _law_rows: the rows that a table is made of. -/
namespace K06
open PySem PySem.Spec PyProof.Rows L2
open DtE (TRow tents lookT valV_tents)
open Tb (key2 PairK Oks Tab TabAt TabOk worths wk rowsO)
open Fk (NameV nameB ents)
open EvP (Ex)
abbrev sRows : Stmt := top 44
abbrev NW : List Str := ["pen", "plain", "sources_so", "uses_so", "found", "rows_so", "turned", "source", "row", "some", "use"]
theorem scRows : FnScope NW ["pen", "plain"] (defScope sRows) := ⟨rfl, rfl, rfl, by decide +kernel, rfl, by decide +kernel, by decide +kernel⟩
/-- a row of the worths r: some of the names, each with its worth, all of those with a worth among them -/
structure RowOf (r : TRow) (a : Str) (xs : List Str) (row : Fk.Row) : Prop where
  nod : (row.map (·.1)).Nodup
  mem : ∀ e ∈ row, e.1 ∈ xs ∧ e.2 = wk r (key2 a e.1)
  all : ∀ x ∈ xs, (lookT r (key2 a x)).isSome = true → x ∈ row.map (·.1)
/-- the rows of these sources -/
structure TabOf (r : TRow) (L xs : List Str) (T : Tab) : Prop where
  names : T.map (·.1) = L
  nodA : (T.map (·.2.1)).Nodup
  row : ∀ t ∈ T, RowOf r t.1 xs t.2.2
def spRows : Sp := fun vs H Q _ => ∃ (p q : Addr) (ns : List Int) (s g : Int) (v : V) (ss xs : List Str) (r : TRow), vs = [.ref p, v] ∧ Pen H p q ns s g ∧ ns.length ≤ 63 ∧ 0 ≤ s ∧ s < 99000 ∧ PlainAt H v ss xs r ∧ (∀ c, v = .ref c → c ≠ p) ∧ PlainOk ss xs r ∧
  ∀ (t d u : Addr) (T : Tab) (L : List Str) (s' g' : Int) (H' : Hp), H' t = some (.tup [.ref d, .ref u]) → TabAt H' d T → L.Perm ss → TabOf r L xs T → H' u = some (.lst (xs.map V.str)) → s ≤ s' → s' ≤ s + 100 → Pen H' p q ns s' g' → But p H H' → Q (.ref t) H'
theorem strs_ne {H : Hp} {p q a : Addr} {ns : List Int} {s g : Int} {ss : List Str} (hP : Pen H p q ns s g) (h : H a = some (.lst (ss.map V.str))) : a ≠ p := fun e => by
  rw [e, hP.p] at h
  have z := HO.lst.inj (Option.some.inj h)
  match ss, z with
  | [], z => cases z
  | x :: r, z => cases (List.cons.inj z).1
/-- a row amid its making -/
structure RowMid (r : TRow) (a : Str) (M : List Str) (j : Nat) (row : Fk.Row) : Prop where
  nod : (row.map (·.1)).Nodup
  mem : ∀ e ∈ row, e.1 ∈ M.take j ∧ e.2 = wk r (key2 a e.1)
  all : ∀ x ∈ M.take j, (lookT r (key2 a x)).isSome = true → x ∈ row.map (·.1)
theorem RowMid.put {r : TRow} {a x : Str} {M : List Str} {j : Nat} {row : Fk.Row} (m : RowMid r a M j row) (n : M.Nodup) (h : M[j]? = some x) : RowMid r a M (j + 1) (row ++ [(x, wk r (key2 a x))]) := by
  have tk : M.take (j + 1) = M.take j ++ [x] := by
    rw [List.take_add_one, h]
    rfl
  refine ⟨?_, fun e he => ?_, fun y hy iy => ?_⟩
  · rw [List.map_append, List.nodup_append]
    refine ⟨m.nod, List.nodup_cons.mpr ⟨List.not_mem_nil, List.nodup_nil⟩, fun k hk k' hk' e => ?_⟩
    obtain ⟨z, hz, rfl⟩ := List.mem_map.mp hk
    obtain rfl := List.mem_singleton.mp hk'
    exact take_no n h (by rw [← e]; exact (m.mem z hz).1)
  · rw [tk]
    rcases List.mem_append.mp he with he | he
    · exact ⟨List.mem_append_left _ (m.mem e he).1, (m.mem e he).2⟩
    · obtain rfl := List.mem_singleton.mp he
      exact ⟨List.mem_append_right _ (List.mem_singleton.mpr rfl), rfl⟩
  · rw [tk] at hy
    rw [List.map_append]
    rcases List.mem_append.mp hy with hy | hy
    · exact List.mem_append_left _ (m.all y hy iy)
    · obtain rfl := List.mem_singleton.mp hy
      exact List.mem_append_right _ (List.mem_singleton.mpr rfl)
theorem RowMid.skip {r : TRow} {a x : Str} {M : List Str} {j : Nat} {row : Fk.Row} (m : RowMid r a M j row) (h : M[j]? = some x) (no : (lookT r (key2 a x)).isSome = false) : RowMid r a M (j + 1) row := by
  have tk : M.take (j + 1) = M.take j ++ [x] := by
    rw [List.take_add_one, h]
    rfl
  refine ⟨m.nod, fun e he => ?_, fun y hy iy => ?_⟩
  · rw [tk]
    exact ⟨List.mem_append_left _ (m.mem e he).1, (m.mem e he).2⟩
  · rw [tk] at hy
    rcases List.mem_append.mp hy with hy | hy
    · exact m.all y hy iy
    · obtain rfl := List.mem_singleton.mp hy
      rw [no] at iy
      cases iy
theorem ents_new {row : Fk.Row} {x : Str} {n : Int} (h : x ∉ row.map (·.1)) : putK (ents row) (Sum.inr x) (.int n) = ents (row ++ [(x, n)]) := by
  have z : valV (ents row) (Sum.inr x) = none := by
    have no : ¬ ((ents row).any fun kv => decide (kv.1 = (Sum.inr x : Key))) = true := fun y => by
      obtain ⟨e, he, ee⟩ := List.any_eq_true.mp y
      unfold ents at he
      obtain ⟨t, ht, rfl⟩ := List.mem_map.mp he
      exact h (List.mem_map.mpr ⟨t, ht, Sum.inr.inj (of_decide_eq_true ee)⟩)
    rw [valV_any] at no
    simpa using no
  rw [putK_new _ z]
  unfold ents
  rw [List.map_append]
  rfl
theorem rows_new {T : Tab} {x : Str} {d : Addr} {row : Fk.Row} (h : x ∉ T.map (·.1)) : putK (T.map fun t => ((Sum.inr t.1 : Key), V.ref t.2.1)) (Sum.inr x) (.ref d) = (T ++ [(x, d, row)]).map fun t => (Sum.inr t.1, V.ref t.2.1) := by
  have z : valV (T.map fun t => ((Sum.inr t.1 : Key), V.ref t.2.1)) (Sum.inr x) = none := by
    have no : ¬ ((T.map fun t => ((Sum.inr t.1 : Key), V.ref t.2.1)).any fun kv => decide (kv.1 = (Sum.inr x : Key))) = true := fun y => by
      obtain ⟨e, he, ee⟩ := List.any_eq_true.mp y
      obtain ⟨t, ht, rfl⟩ := List.mem_map.mp he
      exact h (List.mem_map.mpr ⟨t, ht, Sum.inr.inj (of_decide_eq_true ee)⟩)
    rw [valV_any] at no
    simpa using no
  rw [putK_new _ z, List.map_append]
  rfl
/-- a list of names, or it turned about -/
theorem g_rev {K : PySem.W.Frag} {σ : L2.St} {H : Hp} {m : Nat} {a : Addr} {ss : List Str} {Q : VK} {c : Bool} (hm : σ[m]? = some (some (.ref a))) (ha : H a = some (.lst (ss.map V.str))) (k : ∀ (la : Addr) (L : List Str) (H' : Hp), L.Perm ss → H' la = some (.lst (L.map V.str)) → Ex H H' → Q (.ref la) H') :
    if c = true then tRevL K (tVar m) σ H Q else tVar m σ H Q := by
  cases c with
  | true =>
    rw [if_pos rfl]
    exact ⟨_, hm, a, _, rfl, SqL.of ha, fun p hp => k p ss.reverse _ (List.reverse_perm _) (by rw [upd_same, List.map_reverse]) (Ex.new hp)⟩
  | false =>
    rw [if_neg Bool.false_ne_true]
    exact ⟨_, hm, k a ss H (List.Perm.refl _) ha (Ex.refl H)⟩
theorem getD_wk (r : TRow) (k : List Key) : (valV (tents r) k).getD (.int 0) = .int (wk r k) := by
  rw [valV_tents]
  unfold wk
  cases lookT r k <;> rfl
/-- row[use] = found.get((source, use), 0) -/
theorem put_at {σ : L2.St} {Hx : Hp} {D : Ends} {dr d : Addr} {sc u : Str} {r : TRow} {row : Fk.Row} (h8 : σ[8]? = some (some (.ref dr))) (h10 : σ[10]? = some (some (.str u))) (h4 : σ[4]? = some (some (.ref d))) (h7 : σ[7]? = some (some (.str sc)))
    (hr : Hx dr = some (.dK (ents row))) (hd : Hx d = some (.dT (tents r))) (no : u ∉ row.map (·.1)) (few : row.length ≤ 100) (k : ∀ Hy : Hp, (∀ c o, Hx c = some o → c ≠ dr → Hy c = some o) → Hy dr = some (.dK (ents (row ++ [(u, wk r (key2 sc u))]))) → D.nx σ Hy) :
    sDPut (tVar 8) (tVar 10) (tDGet2 (tVar 4) (tTup (tCons (tVar 7) (tCons (tVar 10) tNil))) (tC (.int 0))) D σ Hx := by
  refine ⟨_, h4, d, rfl, .inr ⟨_, .inl hd⟩, _, h7, _, h10, by show 2 ≤ sizeLine; decide, fun tq nq => ?_⟩
  have e := Ex.new (o := .tup [.str sc, .str u]) nq
  refine ⟨_, DGet.t (k := key2 sc u) (e _ _ hd) upd_same, ?_⟩
  rw [getD_wk]
  refine ⟨_, h8, _, h10, dr, _, rfl, DPut.k (k := Sum.inr u) (e _ _ hr) (by unfold ents; rw [List.length_map, sizeLine_eq]; omega), ?_⟩
  rw [ents_new no]
  exact k _ (fun c o hc ne => by
    rw [upd_ne ne]
    exact e _ _ hc) upd_same
section
variable {P : Program} {w : World} {K : PySem.W.Frag} {mg : Str → Option Value} {base : Heap} {f fD : Addr} {fd fdD : FuncData}
theorem ok_rows (F : Fun K "_law_rows" "_law_rows" sRows f fd) (T : Blt mg)
    (G : FnOk P w K mg base CX0 1 fD fdD ["pen", "many"] spDraw) (b : Binds K fdD ["pen", "many"] []) (gD : mg "_law_draw" = some (.ref fD)) (kD : PySem.W.keepIn K (.ref fD) = true) : FnOk P w K mg base CX0 2 f fd ["pen", "plain"] spRows := by
  have nd := scRows.nd
  refine F.ok scRows (fun vs H Q E h => ?_) (fun cdv A outer s H vs Q E hr h => ?_)
  · obtain ⟨p, q, ns, s, g, v, ss, xs, r, rfl, _⟩ := h
    rfl
  · obtain ⟨p, q, ns, s, g, v, ss, xs, r, rfl, hP, hl, h0, h1, ⟨t, a, bb, d, rfl, ht, ha, hb, hd⟩, np, ok, k⟩ := h
    have hu := hu_of hr
    refine ⟨_, pss_cons (ps_asg (pv 1) (pg_tup rfl (pgs_cons (pg_name (i := 2) nd rfl (Or.inl rfl)) (pgs_cons (pg_name (i := 3) nd rfl (Or.inl rfl)) (pgs_cons (pg_name (i := 4) nd rfl (Or.inl rfl)) pgs_nil)))))
      (pss_cons (ps_par (i := 5) (j := 6) (by rfl) nd rfl rfl (by decide) rfl rfl (pa_cons pe_dnewK (pa_cons (pe_cmpR op_eq (pe_call G hr (by rfl) gD kD b .nil pass0 (pa_cons (pv 0) (pa_cons pe_int pa_nil))) pe_int (nomark _)) pa_nil)) (by rfl))
      (pss_cons (ps_for PassesOwn.never rfl (pi_list (pe_ifExp (pt_val (pv 6)) (pe_revL (pv 2)) (pv 2))) (pg_name (i := 7) nd rfl (Or.inl rfl))
        (pss_cons (ps_par (i := 8) (j := 9) (by rfl) nd rfl rfl (by decide) rfl rfl (pa_cons pe_dnewK (pa_cons (pe_ifExp (pt_cmpR op_eq (pe_call G hr (by rfl) gD kD b .nil pass0 (pa_cons (pv 0) (pa_cons pe_int pa_nil))) pe_int (nomark _)) (pe_revL (pv 3)) (pv 3)) pa_nil)) (by rfl))
        (pss_cons (ps_for PassesOwn.never rfl (pi_list (pv 9)) (pg_name (i := 10) nd rfl (Or.inl rfl))
          (pss_one (ps_if (PW.pt (pw_or (pt_cmp (pc_din hu (pe_tup (pa_cons (pv 7) (pa_cons (pv 10) pa_nil))) (pv 4))) (pw_or1 (pt_cmpR op_eq (pe_call G hr (by rfl) gD kD b .nil pass0 (pa_cons (pv 0) (pa_cons pe_int pa_nil))) pe_int (nomark _)))))
            (pss_one (ps_dput hu (pv 8) (pv 10) (pe_dget2 hu (pv 4) (pe_tup (pa_cons (pv 7) (pa_cons (pv 10) pa_nil))) pe_int ⟨rfl, rfl, rfl, rfl⟩) rfl)) pss_nil)))
        (pss_one (ps_dput hu (pv 5) (pv 7) (pv 8) rfl)))))
      (pss_one (ps_ret (pe_tup (pa_cons (pv 5) (pa_cons (pe_callTy (T := "list") call_list_of (by rfl) T.lst (by decide +kernel) (pa_cons (pv 3) pa_nil)) pa_nil))))))), ?_⟩
    refine ⟨_, rfl, t, _, rfl, SqT.of ht, rfl, _, _, rfl, _, _, rfl, _, _, rfl, rfl, ?_⟩
    intro dR nR
    have eR := Ex.new (o := .dK []) nR
    have hP1 := hP.new (o := .dK []) nR
    have hR : upd H dR (.dK []) dR = some (rowsO []) := upd_same
    have ha1 := eR _ _ ha
    have hb1 := eR _ _ hb
    have hd1 := eR _ _ hd
    have pR : dR ≠ p := (ne_of_none hP.p nR).symm
    have nbR : ∀ c o, H c = some o → c ≠ dR := fun c o hc => ne_of_none hc nR
    generalize upd H dR (.dK []) = H1 at eR hP1 hR ha1 hb1 hd1 ⊢
    refine ⟨_, rfl, p, q, ns, s, g, 2, rfl, hP1, hl, h0, by omega, by decide, by decide, fun w0 s1 g1 H2 wa wb sa1 sa2 hP2 b2 => ⟨rfl, ?_⟩⟩
    refine ⟨_, _, rfl, ?_⟩
    have ha2 := b2 _ _ ha1 (strs_ne hP1 ha1)
    have hb2 := b2 _ _ hb1 (strs_ne hP1 hb1)
    have dp : d ≠ p := ne_of hd1 hP1.p (fun z => nomatch z)
    have hd2 := b2 _ _ hd1 dp
    have hR2 := b2 _ _ hR pR
    refine ⟨_, rfl, _, rfl, g_rev (K := K) (m := 2) rfl ha2 fun la L H3 pL hla e3 => ?_⟩
    have hP3 : Pen H3 p q ns s1 g1 := ⟨e3 _ _ hP2.p, e3 _ _ hP2.q⟩
    have hb3 := e3 _ _ hb2
    have hd3 := e3 _ _ hd2
    have hR3 := e3 _ _ hR2
    have b3 : ∀ c o, H c = some o → c ≠ p → H3 c = some o := fun c o hc ne => e3 _ _ (b2 _ _ (eR _ _ hc) ne)
    have nL : L.Nodup := pL.nodup_iff.mpr ok.s.nod
    have lL : L.length ≤ 6 := by
      rw [pL.length_eq]
      exact ok.s.few
    have nap := strs_ne hP3 hla
    have nbp := strs_ne hP3 hb3
    have laR : la ≠ dR := fun z => by
      rw [z, hR3] at hla
      cases hla
    have bbR : bb ≠ dR := fun z => by
      rw [z, hR3] at hb3
      cases hb3
    have ddR : d ≠ dR := fun z => by
      rw [z, hR3] at hd3
      cases hd3
    refine ⟨la, rfl, ⟨_, SqL.of hla⟩, for_list (xs := L.map V.str) (fun i sg H' => ∃ (s' g' : Int) (o7 o8 o9 o10 : Option V) (T : Tab) (tb : Bool), sg = [some (.ref p), some (.ref t), some (.ref a), some (.ref bb), some (.ref d), some (.ref dR), some (.bl tb), o7, o8, o9, o10] ∧ Pen H' p q ns s' g' ∧ s ≤ s' ∧ s' ≤ s + 1 + 7 * i ∧ TabAt H' dR T ∧ TabOf r (L.take i) xs T ∧ Kept p dR H3 H')
      ⟨s1, g1, none, none, none, none, [], _, rfl, hP3, by omega, by omega, ⟨hR3, (fun t ht => nomatch ht)⟩, ⟨rfl, List.nodup_nil, (fun t ht => nomatch ht)⟩, fun _ _ h _ _ => h⟩ (fun i sg H' _ ⟨_, _, _, _, _, _, _, _, _, _, _, _, _, _, kp⟩ => SqL.of (kp _ _ hla nap laR)) (fun i z sg H' hi ⟨s', g', o7, o8, o9, o10, T, tb, esg, pn, i1, i2, i3, i4, kp⟩ => ?_) (fun sg H' ⟨s', g', o7, o8, o9, o10, T, tb, esg, pn, i1, i2, i3, i4, kp⟩ => ?_)⟩
    · subst esg
      rw [List.getElem?_map] at hi
      obtain ⟨sc, hsc, rfl⟩ := Option.map_eq_some_iff.mp hi
      have ilt : i < L.length := (List.getElem?_eq_some_iff.mp hsc).1
      intro dr nr
      have er := Ex.new (o := .dK []) nr
      have pn5 := pn.new (o := .dK []) nr
      have hr5 : upd H' dr (.dK []) dr = some (.dK (ents [])) := upd_same
      have tab5 := i3.ex er
      have hb5 := er _ _ (kp _ _ hb3 nbp bbR)
      have hd5 := er _ _ (kp _ _ hd3 dp ddR)
      have drp : dr ≠ p := (ne_of_none pn.p nr).symm
      have drR : dR ≠ dr := ne_of_none i3.at_ nr
      have drT : ∀ z ∈ T, z.2.1 ≠ dr := fun z hz => ne_of_none (i3.row z hz) nr
      have kp5 : ∀ c o, H3 c = some o → c ≠ p → c ≠ dR → upd H' dr (.dK []) c = some o ∧ c ≠ dr := fun c o hc n1 n2 => ⟨er _ _ (kp _ _ hc n1 n2), ne_of_none (kp _ _ hc n1 n2) nr⟩
      generalize upd H' dr (.dK []) = H5 at pn5 hr5 tab5 hb5 hd5 kp5 ⊢
      refine ⟨_, rfl, p, q, ns, s', g', 2, rfl, pn5, hl, by omega, by omega, by decide, by decide, fun w1 s4 g4 H6 wc wd sb1 sb2 hP6 b6 => ⟨rfl, _, rfl, ?_⟩⟩
      have hb6 := b6 _ _ hb5 nbp
      refine g_rev (K := K) (m := 3) rfl hb6 fun lm M H7 pM hlm e7 => ⟨_, _, rfl, ?_⟩
      have hP7 : Pen H7 p q ns s4 g4 := ⟨e7 _ _ hP6.p, e7 _ _ hP6.q⟩
      have hd7 := e7 _ _ (b6 _ _ hd5 dp)
      have hr7 := e7 _ _ (b6 _ _ hr5 drp)
      have Tp : ∀ z ∈ T, z.2.1 ≠ p := fun z hz => ne_of (tab5.row z hz) pn5.p (fun y => nomatch y)
      have tab7 : TabAt H7 dR T := ⟨e7 _ _ (b6 _ _ tab5.at_ pR), fun z hz => e7 _ _ (b6 _ _ (tab5.row z hz) (Tp z hz))⟩
      have kp7 : ∀ c o, H3 c = some o → c ≠ p → c ≠ dR → H7 c = some o ∧ c ≠ dr := fun c o hc n1 n2 => ⟨e7 _ _ (b6 _ _ (kp5 _ _ hc n1 n2).1 n1), (kp5 _ _ hc n1 n2).2⟩
      have nM : M.Nodup := pM.nodup_iff.mpr ok.u.nod
      have lM : M.length ≤ 6 := by
        rw [pM.length_eq]
        exact ok.u.few
      have lmp := strs_ne hP7 hlm
      have lmr : lm ≠ dr := fun z => by
        rw [z, hr7] at hlm
        cases hlm
      have ddr : d ≠ dr := fun z => by
        rw [z, hr7] at hd7
        cases hd7
      refine ⟨_, rfl, lm, rfl, ⟨_, SqL.of hlm⟩, for_list (xs := M.map V.str) (fun j sg H' => ∃ (s' g' : Int) (o10 : Option V) (row : Fk.Row), sg = [some (.ref p), some (.ref t), some (.ref a), some (.ref bb), some (.ref d), some (.ref dR), some (.bl tb), some (.str sc), some (.ref dr), some (.ref lm), o10] ∧ Pen H' p q ns s' g' ∧ s ≤ s' ∧ s' ≤ s + 2 + 7 * i + j ∧ H' dr = some (.dK (ents row)) ∧ RowMid r sc M j row ∧ Kept p dr H7 H')
        ⟨s4, g4, o10, [], rfl, hP7, by omega, by omega, hr7, ⟨List.nodup_nil, (fun e he => nomatch he), (fun y hy => by rw [List.take_zero] at hy; cases hy)⟩, fun _ _ h _ _ => h⟩ (fun j sg H' _ ⟨_, _, _, _, _, _, _, _, _, _, kq⟩ => SqL.of (kq _ _ hlm lmp lmr)) (fun j z sg H' hj ⟨s', g', o10, row, esg, pn, j1, j2, j3, j4, kq⟩ => ?_) (fun sg H' ⟨s', g', o10, row, esg, pn, j1, j2, j3, j4, kq⟩ => ?_)⟩
      · subst esg
        rw [List.getElem?_map] at hj
        obtain ⟨u, hu', rfl⟩ := Option.map_eq_some_iff.mp hj
        have jlt : j < M.length := (List.getElem?_eq_some_iff.mp hu').1
        have hdx := kq _ _ hd7 dp ddr
        refine ⟨_, rfl, _, rfl, by show 2 ≤ sizeLine; decide, fun tp ntp => ⟨_, rfl, d, _, rfl, DGet.t (k := key2 sc u) (Ex.new ntp _ _ hdx) upd_same, _, rfl, ?_⟩⟩
        have ep := Ex.new (o := .tup [.str sc, .str u]) ntp
        have pnp := pn.new (o := .tup [.str sc, .str u]) ntp
        have hdp := ep _ _ hdx
        have hrp := ep _ _ j3
        have kqp : Kept p dr H7 (upd H' tp (.tup [.str sc, .str u])) := fun c o hc n1 n2 => ep _ _ (kq _ _ hc n1 n2)
        generalize upd H' tp (.tup [.str sc, .str u]) = H8 at pnp hdp hrp kqp ⊢
        have no : u ∉ row.map (·.1) := fun m => by
          obtain ⟨e, he, ee⟩ := List.mem_map.mp m
          exact take_no nM hu' (by rw [← ee]; exact (j4.mem e he).1)
        have few : row.length ≤ 100 := by
          have l1 := nodup_le (m := M.take j) j4.nod fun x hx => by
            obtain ⟨e, he, rfl⟩ := List.mem_map.mp hx
            exact (j4.mem e he).1
          rw [List.length_map, List.length_take] at l1
          omega
        rw [valV_tents]
        cases hq : lookT r (key2 sc u) with
        | some n =>
          refine put_at (sc := sc) (u := u) (r := r) rfl rfl rfl rfl hrp hdp no few fun Hy k1 k2 => ?_
          exact ⟨s', g', _, _, rfl, ⟨k1 _ _ pnp.p drp.symm, k1 _ _ pnp.q (ne_of pnp.q hrp fun z => nomatch z)⟩, j1, by omega, k2, j4.put nM hu', fun c o hc n1 n2 => k1 _ _ (kqp _ _ hc n1 n2) n2⟩
        | none =>
          refine ⟨_, rfl, p, q, ns, s', g', 2, rfl, pnp, hl, by omega, by omega, by decide, by decide, fun w2 s5 g5 H9 we wf sc1 sc2 hP9 b9 => ⟨rfl, _, rfl, ?_⟩⟩
          have hd9 := b9 _ _ hdp dp
          have hr9 := b9 _ _ hrp drp
          have kq9 : Kept p dr H7 H9 := fun c o hc n1 n2 => b9 _ _ (kqp _ _ hc n1 n2) n1
          cases hw : decide (V.int w2 = V.int 0) with
          | true =>
            refine put_at (sc := sc) (u := u) (r := r) rfl rfl rfl rfl hr9 hd9 no few fun Hy k1 k2 => ?_
            exact ⟨s5, g5, _, _, rfl, ⟨k1 _ _ hP9.p drp.symm, k1 _ _ hP9.q (ne_of hP9.q hr9 fun z => nomatch z)⟩, by omega, by omega, k2, j4.put nM hu', fun c o hc n1 n2 => k1 _ _ (kq9 _ _ hc n1 n2) n2⟩
          | false => exact ⟨s5, g5, _, row, rfl, hP9, by omega, by omega, hr9, j4.skip hu' (by rw [hq]; rfl), kq9⟩
      · subst esg
        rw [List.length_map] at j2 j4
        have tabx : TabAt H' dR T := ⟨kq _ _ tab7.at_ pR drR, fun z hz => kq _ _ (tab7.row z hz) (Tp z hz) (drT z hz)⟩
        have notin : sc ∉ T.map (·.1) := by
          rw [i4.names]
          exact take_no nL hsc
        have lT : T.length ≤ 6 := by
          have := congrArg List.length i4.names
          rw [List.length_map, List.length_take] at this
          omega
        refine ⟨_, rfl, _, rfl, _, rfl, dR, _, rfl, DPut.k (k := Sum.inr sc) tabx.at_ (by rw [List.length_map, sizeLine_eq]; omega), ?_⟩
        rw [rows_new (row := row) notin]
        refine ⟨s', g', _, _, _, _, T ++ [(sc, dr, row)], tb, rfl, ⟨?_, ?_⟩, j1, by omega, ⟨upd_same, fun z hz => ?_⟩, ⟨?_, ?_, fun z hz => ?_⟩, fun c o hc n1 n2 => ?_⟩
        · rw [upd_ne pR.symm]
          exact pn.p
        · rw [upd_ne (ne_of pn.q tabx.at_ fun z => nomatch z)]
          exact pn.q
        · rcases List.mem_append.mp hz with hz | hz
          · rw [upd_ne (tabx.ne z hz)]
            exact tabx.row z hz
          · obtain rfl := List.mem_singleton.mp hz
            rw [upd_ne drR.symm]
            exact j3
        · rw [List.map_append, i4.names, List.take_add_one, hsc]
          rfl
        · rw [List.map_append, List.nodup_append]
          refine ⟨i4.nodA, List.nodup_cons.mpr ⟨List.not_mem_nil, List.nodup_nil⟩, fun x hx y hy e => ?_⟩
          obtain ⟨z, hz, rfl⟩ := List.mem_map.mp hx
          obtain rfl := List.mem_singleton.mp hy
          exact drT z hz e
        · rcases List.mem_append.mp hz with hz | hz
          · exact i4.row z hz
          · obtain rfl := List.mem_singleton.mp hz
            exact ⟨j4.nod, fun e he => ⟨pM.mem_iff.mp (List.mem_of_mem_take (j4.mem e he).1), (j4.mem e he).2⟩, fun y hy => j4.all y (by rw [List.take_length]; exact pM.mem_iff.mpr hy)⟩
        · rw [upd_ne n2]
          exact kq _ _ (kp7 _ _ hc n1 n2).1 n1 (kp7 _ _ hc n1 n2).2
    · subst esg
      rw [List.length_map] at i2 i4
      rw [List.take_length] at i4
      refine ⟨_, rfl, _, rfl, bb, _, rfl, .inl (SqL.of (kp _ _ hb3 nbp bbR)), fun u nu => ⟨by show 2 ≤ sizeLine; decide, fun tt ntt => ?_⟩⟩
      have eu := Ex.new (o := .lst (xs.map V.str)) nu
      have et := Ex.new (o := .tup [.ref dR, .ref u]) ntt
      exact k tt dR u T L s' g' _ upd_same ⟨et _ _ (eu _ _ i3.at_), fun z hz => et _ _ (eu _ _ (i3.row z hz))⟩ pL i4 (et _ _ upd_same) i1 (by omega) ((pn.new nu).new ntt) fun c o hc ne => et _ _ (eu _ _ (kp _ _ (b3 _ _ hc ne) ne (nbR _ _ hc)))
end
end K06

set_option Elab.async false
set_option linter.all false
set_option maxRecDepth 100000
set_option maxHeartbeats 4000000
/-! C(..) whose __init__ keeps its promise while no object is being shown; _law_made. -/
namespace XG
open PySem PySem.Spec PyProof.Rows L2
section
variable {X : Cx} {k : Nat} {f C : Addr} {fd : FuncData} {ps : List Str} {sp : Sp} {x : Str} {p pos : Pos} {e : Expr} {es : List Expr} {t : TA}
theorem run_makeG {pins : List (Addr × Obj)} {σ : L2.St} {H : Hp} {s : Shared} {Q : VK} {us : List Value} {vs : List V} (M : Mk X.K C f) (F : FnG X.prog X.w X.K X.mg X.base CX0 k f fd ps sp) (len : ∀ vs H Q E, sp vs H Q E → vs.length = ps.length) (gd : X.A.guards = some []) (hr : Room (k + 1) X.A) (hb : Binds X.K fd ps [])
    (I : Inv X pins σ H s) (r : Vals vs us) (h : ∀ x dx, H x = none → H dx = none → dx ≠ x → sp (.ref x :: vs) (upd (upd H dx (.own x)) x (.ins C dx [])) (fun v H2 => v = .non ∧ Q (.ref x) H2) E0) : wpAny (model X.prog X.w) X.A (call (.ref C) us) (EP X pins σ Q) X.xe s := by
  have q := h (s.heap.objs.size + 1) s.heap.objs.size (I.hok.fresh (Nat.le_succ _)) (I.hok.fresh (Nat.le_refl _)) (Nat.ne_of_lt (Nat.lt_succ_self _))
  have J := Inv.made (C := C) I
  have rr : Vals (V.ref (s.heap.objs.size + 1) :: vs) (Value.ref (s.heap.objs.size + 1) :: us) := .cons rfl r
  have n : (Value.ref (s.heap.objs.size + 1) :: us ++ []).length = ps.length := by rw [List.append_nil, ← rr.length]; exact len _ _ _ _ q
  refine wpAny_call (make_map (f := f) I.kIn M.makes M.init (beq_iff_eq.mp M.fn) (codeAny_mono (F _ X.stack _ _ ⟨Value.ref (s.heap.objs.size + 1) :: us, []⟩ (Value.ref (s.heap.objs.size + 1) :: us ++ []) _ _ E0 gd (hr.make C us []) (J.env0.make C us []) (hb _ (Value.ref (s.heap.objs.size + 1) :: us) J.kIn n) (by rw [List.append_nil]; exact rr) q) fun r' s' hq => ?_))
  cases r' with
  | error e => exact (show False from hq).elim
  | ok fl =>
    cases fl with
    | ret u =>
      obtain ⟨v, H', I3, rv, ev, q3⟩ := J.after hq
      subst ev
      exact ⟨rv, V.ref (s.heap.objs.size + 1), H', I3, rfl, q3⟩
    | next => exact False.elim hq
    | brk => exact False.elim hq
    | cont => exact False.elim hq
def tMakeG (C : Addr) (sp : Sp) (t : TA) : TE := fun σ H Q => t σ H fun vs H1 => ∀ x dx, H1 x = none → H1 dx = none → dx ≠ x → sp (.ref x :: vs) (upd (upd H1 dx (.own x)) x (.ins C dx [])) (fun v H2 => v = .non ∧ Q (.ref x) H2) E0
theorem pe_makeG (M : Mk X.K C f) (F : FnG X.prog X.w X.K X.mg X.base CX0 k f fd ps sp) (len : ∀ vs H Q E, sp vs H Q E → vs.length = ps.length) (gd : X.A.guards = some []) (hr : Room (k + 1) X.A) (hb : Binds X.K fd ps []) (hg : Gl X x) (hm : X.mg x = some (.ref C))
    (ha : PA X (e :: es) t) (hdb : (x == ("__debug__" : Str)) = false := by decide) (he : starEach (e :: es) X.env = (false, eval e X.env) :: starEach es X.env := by rfl) (hpl : (backTo pos (starEach es X.env)).any (·.1) = false := by rfl) : PE X (.Call (.Name x p) (e :: es) [] pos) (tMakeG C sp t) := by
  refine ⟨fun pins s σ H Q I h => wpAny_Call_Name_kw (ld_glob I hg hm ?_ hdb)⟩
  exact PySem.W.callWith_K (h₀ := X.base) I.ok.mod.kin M.kp (thn (ha.run pos pins s σ H _ I h) fun us s1 ⟨vs, H1, I1, r, q⟩ => ⟨I1.kIn, run_makeG M F len gd hr hb I1 r q⟩) he hpl
end
end XG
namespace K06
open PySem PySem.Spec PyProof.Rows L2
open DtE (TRow tents lookT valV_tents)
open Tb (key2 PairK Oks Tab TabAt TabOk worths wk rowsO TblAt RowOk usesOf namesOf leT mem_worths worths_nod worths_few worths_pair key2_inj)
open Fk (NameV nameB ents srt srt_perm)
open EvP (Ex)
/-- the same worths -/
structure Alike (r' r : TRow) : Prop where
  look : ∀ k, lookT r' k = lookT r k
  nod : (r'.map (·.1)).Nodup
  row : RowOk r'
  few : r'.length ≤ 144
theorem look_mem {w : TRow} (n : (w.map (·.1)).Nodup) {k : List Key} {v : Int} : lookT w k = some v ↔ (k, v) ∈ w := by
  induction w with
  | nil => exact ⟨fun h => (by cases h), fun h => (by cases h)⟩
  | cons t w ih =>
    rw [List.map_cons, List.nodup_cons] at n
    have ih := ih n.2
    unfold lookT at ih ⊢
    by_cases e : t.1 = k
    · rw [List.find?_cons, decide_eq_true e]
      show some t.2 = some v ↔ _
      constructor
      · intro h
        rw [← e, ← Option.some.inj h]
        exact .head _
      · intro h
        rcases List.mem_cons.mp h with h | h
        · rw [← h]
        · exact absurd (List.mem_map.mpr ⟨_, h, e.symm⟩) n.1
    · rw [List.find?_cons, decide_eq_false e]
      show (w.find? fun t => decide (t.1 = k)).map (·.2) = some v ↔ _
      rw [ih]
      exact ⟨fun h => .tail _ h, fun h => (List.mem_cons.mp h).resolve_left fun h => e (by rw [← h])⟩
theorem look_none {w : TRow} {k : List Key} (h : lookT w k = none) : ∀ v, (k, v) ∉ w := fun v m => by
  unfold lookT at h
  rw [Option.map_eq_none_iff, List.find?_eq_none] at h
  exact h _ m (decide_eq_true rfl)
theorem wk_nn {ss xs : List Str} {r : TRow} (ok : WorthsOk ss xs r) (k : List Key) : 0 ≤ wk r k ∧ wk r k < 10 ^ 30 := by
  unfold wk
  cases h : lookT r k with
  | none => exact ⟨Int.le_refl _, by decide⟩
  | some n =>
    have := ok.pos _ ((look_mem ok.nod).mp h)
    exact ⟨Int.le_of_lt this.1, this.2⟩
theorem tabOk_of {r : TRow} {ss xs L : List Str} {T : Tab} (ok : PlainOk ss xs r) (p : L.Perm ss) (h : TabOf r L xs T) : TabOk T where
  nod := by
    rw [h.names]
    exact p.nodup_iff.mpr ok.s.nod
  nodA := h.nodA
  nm := fun t ht => by
    have : t.1 ∈ L := by
      rw [← h.names]
      exact List.mem_map.mpr ⟨t, ht, rfl⟩
    exact ok.s.nm _ (p.mem_iff.mp this)
  row := fun t ht => by
    have ro := h.row t ht
    refine ⟨ro.nod, fun e he => ⟨ok.u.nm _ (ro.mem e he).1, ?_⟩, ?_⟩
    · rw [(ro.mem e he).2]
      exact (wk_nn ok.w _).1
    · have l := nodup_le (m := xs) ro.nod fun x hx => by
        obtain ⟨e, he, rfl⟩ := List.mem_map.mp hx
        exact (ro.mem e he).1
      rw [List.length_map] at l
      exact Nat.le_trans l (Nat.le_trans ok.u.few (by decide))
  few := by
    have := congrArg List.length h.names
    rw [List.length_map, p.length_eq] at this
    rw [this]
    exact Nat.le_trans ok.s.few (by decide)
theorem worths_alike {r : TRow} {ss xs L : List Str} {T : Tab} (ok : PlainOk ss xs r) (p : L.Perm ss) (h : TabOf r L xs T) : Alike (worths T) r := by
  have to := tabOk_of ok p h
  have wn := worths_nod to
  refine ⟨fun k => ?_, wn, worths_pair to, Nat.le_trans (worths_few to) (by decide)⟩
  cases q : lookT r k with
  | some n =>
    have m := (look_mem ok.w.nod).mp q
    obtain ⟨a, ha, x, hx, e⟩ := ok.w.key _ m
    have np := (ok.w.pos _ m).1
    have ek : k = key2 a x := e
    have aL : a ∈ T.map (·.1) := by
      rw [h.names]
      exact p.mem_iff.mpr ha
    obtain ⟨t, ht, et⟩ := List.mem_map.mp aL
    have ro := h.row t ht
    rw [et] at ro
    have xm := ro.all x hx (by rw [← ek, q]; rfl)
    obtain ⟨c, hc, ec⟩ := List.mem_map.mp xm
    have cv : c.2 = n := by
      rw [(ro.mem c hc).2, ec, ← ek]
      unfold wk
      rw [q]
      rfl
    refine (look_mem wn).mpr ?_
    refine List.mem_flatMap.mpr ⟨t, ht, List.mem_map.mpr ⟨c, List.mem_filter.mpr ⟨hc, decide_eq_true (by rw [cv]; exact np)⟩, ?_⟩⟩
    rw [et, ec, cv, ek]
  | none =>
    cases q2 : lookT (worths T) k with
    | none => rfl
    | some n =>
      exfalso
      obtain ⟨t, ht, c, hc, cp, ee⟩ := mem_worths ((look_mem wn).mp q2)
      have ek : k = key2 t.1 c.1 := (Prod.mk.inj ee).1
      have v := ((h.row t ht).mem c hc).2
      rw [← ek] at v
      unfold wk at v
      rw [q] at v
      have : c.2 = 0 := v
      omega
theorem firsts_in : ∀ (ys acc : List Str), (∀ y ∈ ys, y ∈ acc) → ys.foldl (fun acc n => if n ∈ acc then acc else acc ++ [n]) acc = acc
  | [], _, _ => rfl
  | y :: ys, acc, h => by
    rw [List.foldl_cons, if_pos (h y (.head _))]
    exact firsts_in ys acc fun z hz => h z (.tail _ hz)
theorem firsts_nod : ∀ (ys acc : List Str), (acc ++ ys).Nodup → ys.foldl (fun acc n => if n ∈ acc then acc else acc ++ [n]) acc = acc ++ ys
  | [], acc, _ => by simp
  | y :: ys, acc, h => by
    have no : y ∉ acc := fun m => by
      rw [List.nodup_append] at h
      exact h.2.2 y m y (.head _) rfl
    rw [List.foldl_cons, if_neg no, firsts_nod ys (acc ++ [y]) (by rw [List.append_assoc]; exact h), List.append_assoc]
    rfl
theorem uses_of {r : TRow} {ss xs L : List Str} {T : Tab} (ok : PlainOk ss xs r) (h : TabOf r L xs T) : usesOf xs T = srt xs := by
  unfold usesOf Tb.firsts
  rw [List.foldl_append, firsts_nod xs [] ok.u.nod, List.nil_append, firsts_in _ _ fun y hy => ?_]
  unfold Tb.namesOf at hy
  obtain ⟨t, ht, hy⟩ := List.mem_flatMap.mp hy
  obtain ⟨e, he, rfl⟩ := List.mem_map.mp hy
  exact ((h.row t ht).mem e he).1
abbrev sMade : Stmt := top 45
abbrev ND : List Str := ["pen", "plain", "rows_so", "further"]
theorem scMade : FnScope ND ["pen", "plain"] (defScope sMade) := ⟨rfl, rfl, rfl, by decide +kernel, rfl, by decide +kernel, by decide +kernel⟩
def spMade (C : Addr) : Sp := fun vs H Q _ => ∃ (p q : Addr) (ns : List Int) (s g : Int) (v : V) (ss xs : List Str) (r : TRow), vs = [.ref p, v] ∧ Pen H p q ns s g ∧ ns.length ≤ 63 ∧ 0 ≤ s ∧ s < 99000 ∧ PlainAt H v ss xs r ∧ PlainOk ss xs r ∧
  ∀ (x : Addr) (r' : TRow) (s' g' : Int) (H' : Hp), TblAt C H' x (srt ss) (srt xs) r' → Alike r' r → s ≤ s' → s' ≤ s + 100 → Pen H' p q ns s' g' → But p H H' → Q (.ref x) H'
theorem spMade_len {C : Addr} : ∀ vs H Q E, spMade C vs H Q E → vs.length = (["pen", "plain"] : List Str).length := fun vs H Q E h => by
  obtain ⟨p, q, ns, s, g, v, ss, xs, r, rfl, _⟩ := h
  rfl
section
variable {P : Program} {w : World} {K : PySem.W.Frag} {mg : Str → Option Value} {base : Heap} {C f fR fI : Addr} {fd fdR fdI : FuncData}
theorem ok_made (F : Fun K "_law_made" "_law_made" sMade f fd) (GR : FnOk P w K mg base CX0 2 fR fdR ["pen", "plain"] spRows) (bR : Binds K fdR ["pen", "plain"] []) (gR : mg "_law_rows" = some (.ref fR)) (kR : PySem.W.keepIn K (.ref fR) = true)
    (M : Mk K C fI) (GI : XG.FnG P w K mg base CX0 5 fI fdI ["self", "rows", "uses"] (Tb.spTI K C)) (bI : Binds K fdI ["self", "rows", "uses"] []) (gT : mg "Table" = some (.ref C)) : XG.FnG P w K mg base CX0 7 f fd ["pen", "plain"] (spMade C) := by
  have nd := scMade.nd
  refine XG.Fun.okG F scMade spMade_len fun cdv A outer sh H vs Q E gd hr h => ?_
  obtain ⟨p, q, ns, s, g, v, ss, xs, r, rfl, hP, hl, h0, h1, pa, ok, k⟩ := h
  refine ⟨_, pss_cons (ps_asg (pe_call GR (hr.mono (by decide)) (by rfl) gR kR bR .nil pass0 (pa_cons (pv 0) (pa_cons (pv 1) pa_nil))) (pg_tup rfl (pgs_cons (pg_name (i := 2) nd rfl (Or.inl rfl)) (pgs_cons (pg_name (i := 3) nd rfl (Or.inl rfl)) pgs_nil))))
    (pss_one (ps_ret (XG.pe_makeG M GI Tb.spTI_len gd hr bI (by rfl) gT (pa_cons (pv 2) (pa_cons (pv 3) pa_nil))))), ?_⟩
  have np : ∀ c, v = .ref c → c ≠ p := fun c ec => by
    obtain ⟨t, a, b, d, ev, ht, _⟩ := pa
    rw [ev] at ec
    cases ec
    exact ne_of ht hP.p (fun z => nomatch z)
  refine ⟨_, rfl, _, rfl, p, q, ns, s, g, v, ss, xs, r, rfl, hP, hl, h0, h1, pa, np, ok, fun t d u T L s' g' H' ht hT pL hO hu i1 i2 pn bt => ?_⟩
  refine ⟨t, _, rfl, SqT.of ht, rfl, _, _, rfl, _, _, rfl, rfl, ?_⟩
  refine ⟨_, rfl, _, rfl, fun x dx nx ndx ne => ?_⟩
  have e1 := Ex.new (o := .own x) ndx
  have nx2 : upd H' dx (.own x) x = none := by
    rw [upd_ne ne.symm]
    exact nx
  have e2 := e1.trans (Ex.new (o := .ins C dx []) nx2)
  have hx : upd (upd H' dx (.own x)) x (.ins C dx []) x = some (.ins C dx []) := upd_same
  generalize upd (upd H' dx (.own x)) x (.ins C dx []) = H2 at e2 hx ⊢
  have to := tabOk_of ok pL hO
  have eu := uses_of ok hO
  refine ⟨x, d, u, dx, T, xs, rfl, hx, hT.ex e2, to, (by have := congrArg List.length hO.names; rw [List.length_map, pL.length_eq] at this; rw [this]; exact ok.s.few), .inl (SqL.of (e2 _ _ hu)), ok.u.nm, Nat.le_trans ok.u.few (by decide), by rw [eu, (srt_perm _).length_eq]; exact ok.u.few, fun H3 k3 ta => ⟨rfl, ?_⟩⟩
  rw [eu, hO.names, Fk.srt_eq pL] at ta
  have keep : ∀ c o, H' c = some o → H3 c = some o := fun c o hc => k3 _ _ (e2 _ _ hc) (ne_of_none hc nx)
  exact k x (worths T) s' g' H3 ta (worths_alike ok pL hO) i1 i2 ⟨keep _ _ pn.p, keep _ _ pn.q⟩ fun c o hc n => keep _ _ (bt _ _ hc n)
end
end K06

set_option Elab.async false
set_option linter.all false
set_option maxRecDepth 100000
set_option maxHeartbeats 2000000
/-! The pairs of a table are its sources in order, with the uses in order. -/
namespace Tb
open PySem PySem.Spec PyProof.Rows L2 EvP Cm Fk DtE KyS XG
def ltK (k k' : List Key) : Prop := (textK k).cps.toList < (textK k').cps.toList
def dueK (r : TRow) (ss xs : List Str) : List (List Key) := ss.flatMap fun a => (xs.filter fun x => (lookT r (key2 a x)).isSome).map (key2 a)
theorem srt_lt {l : List Str} (n : l.Nodup) : (srt l).Pairwise fun a b => a.cps.toList < b.cps.toList := by
  have h1 := srt_pairwise l
  have h2 : (srt l).Nodup := (srt_perm l).nodup_iff.mpr n
  refine (List.pairwise_and_iff.mpr ⟨h1, h2⟩).imp fun {a b} h => ?_
  by_cases c : a.cps.toList < b.cps.toList
  · exact c
  · exact absurd (leS_anti h.1 (show leS b a from List.not_lt.mp c)) h.2
theorem due_lt {r : TRow} {ss xs : List Str} (hs : ∀ n ∈ ss, nameB n = true) (hx : ∀ n ∈ xs, nameB n = true) (ns : ss.Nodup) (nx : xs.Nodup) : (dueK r (srt ss) (srt xs)).Pairwise ltK := by
  have ms : ∀ n ∈ srt ss, nameB n = true := fun n h => hs n ((srt_perm ss).mem_iff.mp h)
  have mx : ∀ n ∈ srt xs, nameB n = true := fun n h => hx n ((srt_perm xs).mem_iff.mp h)
  unfold dueK
  rw [List.pairwise_flatMap]
  refine ⟨fun a ha => ?_, ?_⟩
  · rw [List.pairwise_map]
    refine List.Pairwise.imp_of_mem (fun {x y} hx hy h => ?_) ((srt_lt nx).filter _)
    have x1 := mx x (List.mem_filter.mp hx).1
    have y1 := mx y (List.mem_filter.mp hy).1
    show (textK _).cps.toList < (textK _).cps.toList
    rw [text_key (ms a ha) x1, text_key (ms a ha) y1]
    exact tx_lt2 (low_of x1) (low_of y1) h
  · refine List.Pairwise.imp_of_mem (fun {a b} ha hb h => fun k hk k' hk' => ?_) (srt_lt ns)
    obtain ⟨x, hx, rfl⟩ := List.mem_map.mp hk
    obtain ⟨y, hy, rfl⟩ := List.mem_map.mp hk'
    show (textK _).cps.toList < (textK _).cps.toList
    rw [text_key (ms a ha) (mx x (List.mem_filter.mp hx).1), text_key (ms b hb) (mx y (List.mem_filter.mp hy).1)]
    exact tx_lt1 (low_of (ms a ha)) (low_of (ms b hb)) h
theorem lt_tri {l : List (List Key)} (h : l.Pairwise ltK) : ∀ k ∈ l, ∀ k' ∈ l, leK k k' = true → leK k' k = true → k = k' := by
  have no : ∀ {k k' : List Key}, ltK k k' → leK k' k = true → False := fun {k k'} h e => by
    rw [leK_iff, Bool.not_eq_true', decide_eq_false_iff_not] at e
    exact e h
  induction l with
  | nil => intro k hk; cases hk
  | cons z l ih =>
    rw [List.pairwise_cons] at h
    intro k hk k' hk' e1 e2
    rcases List.mem_cons.mp hk with c | ik
    · subst c
      rcases List.mem_cons.mp hk' with c' | ik'
      · exact c'.symm
      · exact (no (h.1 _ ik') e2).elim
    · rcases List.mem_cons.mp hk' with c' | ik'
      · subst c'
        exact (no (h.1 _ ik) e1).elim
      · exact ih h.2 k ik k' ik' e1 e2
theorem sort_due {r r' : TRow} {ss xs : List Str} (hs : ∀ n ∈ ss, nameB n = true) (hx : ∀ n ∈ xs, nameB n = true) (ns : ss.Nodup) (nx : xs.Nodup) (nod : (r'.map (·.1)).Nodup) (look : ∀ k, lookT r' k = lookT r k)
    (key : ∀ t ∈ r', ∃ a ∈ ss, ∃ x ∈ xs, t.1 = key2 a x) : sortK (r'.map (·.1)) = dueK r (srt ss) (srt xs) := by
  have pw := due_lt (r := r) hs hx ns nx
  have p1 : (sortK (r'.map (·.1))).Perm (r'.map (·.1)) := List.mergeSort_perm _ _
  have nd : (dueK r (srt ss) (srt xs)).Nodup := pw.imp fun {a b} h e => by
    subst e
    exact List.lt_irrefl _ h
  have p2 : (r'.map (·.1)).Perm (dueK r (srt ss) (srt xs)) := (List.perm_ext_iff_of_nodup nod nd).mpr fun k => by
    constructor
    · intro hk
      obtain ⟨t, ht, rfl⟩ := List.mem_map.mp hk
      obtain ⟨a, ha, x, hx, e⟩ := key t ht
      have lk := (K06.look_mem nod).mpr (show (t.1, t.2) ∈ r' from ht)
      rw [look, e] at lk
      rw [e]
      exact List.mem_flatMap.mpr ⟨a, (srt_perm ss).mem_iff.mpr ha, List.mem_map.mpr ⟨x, List.mem_filter.mpr ⟨(srt_perm xs).mem_iff.mpr hx, by rw [lk]; rfl⟩, rfl⟩⟩
    · intro hk
      obtain ⟨a, ha, hk⟩ := List.mem_flatMap.mp hk
      obtain ⟨x, hx, rfl⟩ := List.mem_map.mp hk
      obtain ⟨v, hv⟩ := Option.isSome_iff_exists.mp (List.mem_filter.mp hx).2
      rw [← look] at hv
      exact List.mem_map.mpr ⟨_, (K06.look_mem nod).mp hv, rfl⟩
  refine List.Perm.eq_of_pairwise (le := fun k k' => leK k k' = true) (fun k k' hk hk' h1 h2 => lt_tri pw k ((p1.trans p2).mem_iff.mp hk) k' hk' h1 h2) ?_ (pw.imp fun h => leK_of h) (p1.trans p2)
  have tot : PySem.W.TotalLe leK := by
    unfold leK PySem.W.dataLe
    exact PySem.W.sortLe_total _ _ _
  have z := List.pairwise_mergeSort (le := leK) (fun a b c => tot.trans a b c) (fun a b => by
    rw [Bool.or_eq_true]
    exact tot.total a b) (r'.map (·.1))
  exact z
end Tb

set_option Elab.async false
set_option linter.all false
set_option maxRecDepth 100000
set_option maxHeartbeats 4000000
/-! _law_names, _law_at_most. -/
namespace K06
open PySem PySem.Spec PyProof.Rows L2 Cm
open DtE (TRow tents lookT valV_tents)
open Tb (key2 PairK wk leT)
open Fk (NameV nameB srt)
open EvP (Ex All2)
abbrev sNms : Stmt := top 43
theorem scNms : FnScope ["names_so", "name"] ["names_so"] (defScope sNms) := ⟨rfl, rfl, rfl, by decide +kernel, rfl, by decide +kernel, by decide +kernel⟩
def spNms : Sp := fun vs H Q _ => ∃ (a : Addr) (ns : List Str), vs = [.ref a] ∧ H a = some (.lst (ns.map V.str)) ∧ ns.length < 64 ∧ ∀ p H', Ex H H' → H' p = some (.lst ((srt ns).map V.str)) → Q (.ref p) H'
/-- a pair as data -/
def pD (k : List Key) : PyData := .tuple (k.map Tb.toD)
theorem dp_pairs {K : PySem.W.Frag} {H : Hp} : ∀ {ks : List (List Key)} {vs : List V}, (∀ k ∈ ks, PairK k) → All2 H (ks.map fun k => tupV (k.map kV)) vs → DpAll K H vs (ks.map pD)
  | [], _, _, .nil => .nil
  | k :: ks, _, h, .cons ⟨a, ev, ha⟩ t => by
    subst ev
    obtain ⟨b, x, rfl, _, _⟩ := h k (.head _)
    exact .cons (.tup (SqT.of ha) (.cons (.str b) (.cons (.str x) .nil))) (dp_pairs (fun k hk => h k (.tail _ hk)) t)
theorem ok_str {x : Str} (h : NameV (.str x)) : PyData.strOk x = true := by
  obtain ⟨y, ey, _, hb⟩ := h
  cases ey
  unfold nameB at hb
  simp only [Bool.and_eq_true] at hb
  have a := hb.1.1.2
  unfold Txt.isascii at a
  unfold PyData.strOk
  rw [Array.all_eq_true] at a ⊢
  intro i hi
  have := of_decide_eq_true (a i hi)
  exact decide_eq_true (Nat.lt_trans this (by decide))
theorem lay_pairs : ∀ {ks : List (List Key)}, (∀ k ∈ ks, PairK k) → PyData.canLayAll0 (ks.map pD) = true
  | [], _ => rfl
  | k :: ks, h => by
    have ih := lay_pairs fun y hy => h y (.tail _ hy)
    obtain ⟨a, x, rfl, ha, hx⟩ := h k (.head _)
    show (PyData.canLay0 (pD (key2 a x)) && PyData.canLayAll0 (ks.map pD)) = true
    rw [ih, Bool.and_true]
    show (PyData.strOk a && (PyData.strOk x && true)) = true
    rw [ok_str ha, ok_str hx]
    rfl
theorem depth_pairs : ∀ {ks : List (List Key)}, (∀ k ∈ ks, PairK k) → PyData.depthAll (ks.map pD) ≤ 1
  | [], _ => Nat.zero_le _
  | k :: ks, h => by
    have ih := depth_pairs fun y hy => h y (.tail _ hy)
    obtain ⟨a, x, rfl, ha, hx⟩ := h k (.head _)
    show max (PyData.depth (pD (key2 a x))) (PyData.depthAll (ks.map pD)) ≤ 1
    have : PyData.depth (pD (key2 a x)) = 1 := rfl
    omega
theorem shaped_pairs {ks : List (List Key)} (h : ∀ k ∈ ks, PairK k) : SeqAt.shaped (.list (ks.map pD)) = true := by
  have d := depth_pairs h
  show (PyData.canLayAll0 (ks.map pD) && decide (PyData.depthAll (ks.map pD) + 1 ≤ 64)) = true
  rw [lay_pairs h, decide_eq_true (by omega)]
  rfl
theorem eqv_nil6 (ds : List PyData) : PyData.eqv (.list ds) (.list []) = ds.isEmpty := by cases ds <;> rfl
theorem le_filter {r r' : TRow} (n : (r.map (·.1)).Nodup) : ((r.filter fun t => decide (wk r' t.1 < t.2)).map (·.1)).isEmpty = leT r r' := by
  have e : ∀ t ∈ r, wk r t.1 = t.2 := fun t ht => by
    unfold wk
    rw [(look_mem n).mpr (show (t.1, t.2) ∈ r from ht)]
    rfl
  unfold leT
  rw [Bool.eq_iff_iff, List.isEmpty_iff, List.map_eq_nil_iff, List.filter_eq_nil_iff, List.all_eq_true]
  constructor
  · intro h k hk
    obtain ⟨t, ht, rfl⟩ := List.mem_map.mp hk
    have := h t ht
    rw [decide_eq_true_eq] at this
    exact decide_eq_true (by rw [e t ht]; omega)
  · intro h t ht
    have := of_decide_eq_true (h t.1 (List.mem_map.mpr ⟨t, ht, rfl⟩))
    rw [e t ht] at this
    rw [decide_eq_true_eq]
    omega
section
variable {P : Program} {w : World} {K : PySem.W.Frag} {mg : Str → Option Value} {base : Heap} {f : Addr} {fd : FuncData}
theorem ok_nms (F : Fun K "_law_names" "_law_names" sNms f fd) (T : Fk.Blt mg) (T2 : Fk.Blt2 mg) : FnOk P w K mg base CX0 1 f fd ["names_so"] spNms := by
  have nd := scNms.nd
  refine F.ok scNms (fun vs H Q E h => ?_) (fun cdv A outer s H vs Q E hr h => ?_)
  · obtain ⟨a, ns, rfl, _⟩ := h
    rfl
  · obtain ⟨a, ns, rfl, ha, few, q⟩ := h
    refine ⟨_, pss_one (ps_ret (pe_callB cr_sortedS (by rfl) T2.sorted (by decide +kernel) (pa_cons (pe_lc (own := [("name", 1)]) (g := gName 1) (tt := tYes) rfl nd (pi_list (pv 0)) (blkOk_by (N := ["names_so", "name"]) (sc := defScope sNms) (by decide +kernel))
        (fun _ _ _ _ _ => pg_name (i := 1) nd rfl (Or.inl rfl)) (fun _ _ _ _ _ => pts_nil) (fun _ _ _ _ _ => pe_callTy (T := "str") SkE.call_str_str (by rfl) T.str (by decide +kernel) (pa_cons (pv 1) pa_nil))) pa_nil))), ?_⟩
    have z := comp_is (te := tCB (fun xs H Q => ∃ a, xs = [V.str a] ∧ Q (.str a) H) (tCons (tVar 1) tNil)) (tt := tYes) (i := 1) (vs := [1]) (fun _ => true) id (walks_list (K := K) (EvP.varP (σ := [some (.ref a), none]) (i := 0) (P := lstV (ns.map V.str)) rfl ⟨a, rfl, ha⟩)) (by rw [List.length_map]; omega) (fun _ => rfl) (fun _ _ H2 _ Q h => h) (fun v hv _ => by
      obtain ⟨n, hn, rfl⟩ := List.mem_map.mp hv
      exact fun H1 e1 Q1 q1 => ⟨_, rfl, n, rfl, q1 _ _ (Ex.refl _) rfl⟩)
    rw [List.filter_eq_self.mpr (fun _ _ => rfl), List.map_id] at z
    exact g_sorted z few H (Ex.refl H) _ fun v H1 e1 ⟨p, ev, hp⟩ => by
      subst ev
      exact q p H1 e1 hp
end
end K06

set_option Elab.async false
set_option linter.all false
set_option maxRecDepth 100000
set_option maxHeartbeats 2000000
/-! repr of tuples of names and of pairs; a comprehension whose test adds objects. -/
namespace K06
open PySem PySem.Spec PyProof.Rows L2 EvP Cm Fk DtE
open Tb (key2 PairK)
theorem piled_le (b : Nat) : ∀ ts : List Str, (∀ t ∈ ts, t.length ≤ b) → piled ts ≤ ts.length * (b + 2)
  | [], _ => Nat.zero_le _
  | t :: ts, h => by
    have h1 := h t (.head _)
    have h2 := piled_le b ts fun x hx => h x (.tail _ hx)
    rw [piled_cons, List.length_cons, Nat.succ_mul]
    omega
theorem tt_len {b : Nat} {ts : List Str} (h : ∀ t ∈ ts, t.length ≤ b) : (tupleText ts).length ≤ ts.length * (b + 2) + 4 := by
  have p := piled_le b ts h
  have j : (Str.join ", " ts).length ≤ piled ts := by
    cases ts with
    | nil => exact Nat.zero_le _
    | cons t r =>
      have := join_length_add (t :: r) (by simp)
      omega
  have e : (if ts.length == 1 then ",)" else ")" : String).length ≤ 2 := by split <;> decide
  unfold tupleText
  rw [strLen_append, strLen_append, show (("(" : String) : Str).length = 1 from rfl, PySem.ofString_length]
  omega
theorem shown_strs : ∀ ss : List Str, PyData.shownAll (ss.map PyData.str) = ss.map reprText
  | [] => rfl
  | s :: r => by
    show reprText s :: PyData.shownAll (r.map PyData.str) = _
    rw [shown_strs r]
    rfl
theorem shown_pairs : ∀ ks : List (List Key), PyData.shownAll (ks.map pD) = ks.map fun k => (pD k).shown
  | [] => rfl
  | k :: r => by
    show (pD k).shown :: PyData.shownAll (r.map pD) = _
    rw [shown_pairs r]
    rfl
theorem repr_le {x : Str} (h : nameB x = true) : (reprText x).length ≤ 82 := by
  obtain ⟨h1, h2⟩ := Tb.name_small h
  have := StrLaws.reprText_len x h2
  omega
theorem strs_len {ss : List Str} (h : ∀ s ∈ ss, nameB s = true) (few : ss.length ≤ 64) : (PyData.tuple (ss.map PyData.str)).shown.length ≤ 100000 := by
  show (tupleText (PyData.shownAll (ss.map PyData.str))).length ≤ 100000
  rw [shown_strs]
  have := tt_len (b := 82) (ts := ss.map reprText) fun t ht => by
    obtain ⟨x, hx, rfl⟩ := List.mem_map.mp ht
    exact repr_le (h x hx)
  rw [List.length_map] at this
  omega
theorem name_of {x : Str} (h : NameV (.str x)) : nameB x = true := by
  obtain ⟨y, ey, _, hb⟩ := h
  cases ey
  exact hb
theorem pair_len {k : List Key} (h : PairK k) : (pD k).shown.length ≤ 172 := by
  obtain ⟨a, x, rfl, ha, hx⟩ := h
  show (tupleText [reprText a, reprText x]).length ≤ 172
  have := tt_len (b := 82) (ts := [reprText a, reprText x]) fun t ht => by
    rcases List.mem_cons.mp ht with rfl | ht
    · exact repr_le (name_of ha)
    · obtain rfl := List.mem_singleton.mp ht
      exact repr_le (name_of hx)
  exact this
theorem pairs_len {ks : List (List Key)} (h : ∀ k ∈ ks, PairK k) (few : ks.length ≤ 100) : (PyData.tuple (ks.map pD)).shown.length ≤ 100000 := by
  show (tupleText (PyData.shownAll (ks.map pD))).length ≤ 100000
  rw [shown_pairs]
  have := tt_len (b := 172) (ts := ks.map fun k => (pD k).shown) fun t ht => by
    obtain ⟨x, hx, rfl⟩ := List.mem_map.mp ht
    exact pair_len (h x hx)
  rw [List.length_map] at this
  omega
theorem dq_strs {p : Addr} {H : Hp} : ∀ ss : List Str, DqAll p H (ss.map V.str) (ss.map PyData.str)
  | [] => .nil
  | s :: r => .cons (.str s) (dq_strs r)
theorem dq_pairs {p : Addr} {H : Hp} (hp : ∀ xs, H p ≠ some (.tup xs)) : ∀ {ks : List (List Key)} {vs : List V}, (∀ k ∈ ks, PairK k) → All2 H (ks.map fun k => tupV (k.map kV)) vs → DqAll p H vs (ks.map pD)
  | [], _, _, .nil => .nil
  | k :: ks, _, h, .cons ⟨a, ev, ha⟩ t => by
    subst ev
    obtain ⟨b, x, rfl, _, _⟩ := h k (.head _)
    exact .cons (.tup ha (fun e => hp _ (e ▸ ha)) (.cons (.str b) (.cons (.str x) .nil))) (dq_pairs hp (fun k hk => h k (.tail _ hk)) t)
theorem show_strs : ∀ ss : List Str, PyData.showableAll (ss.map PyData.str) = true
  | [] => rfl
  | s :: r => show_strs r
theorem show_pairs : ∀ {ks : List (List Key)}, (∀ k ∈ ks, PairK k) → PyData.showableAll (ks.map pD) = true
  | [], _ => rfl
  | k :: r, h => by
    obtain ⟨a, x, rfl, _, _⟩ := h k (.head _)
    exact show_pairs (ks := r) fun y hy => h y (.tail _ hy)
theorem depth_strs5 : ∀ ss : List Str, PyData.depthAll (ss.map PyData.str) = 0
  | [] => rfl
  | s :: r => by
    show max 0 (PyData.depthAll (r.map PyData.str)) = 0
    rw [depth_strs5 r]
    rfl
section
variable {K : PySem.W.Frag} {σ : L2.St} {H : Hp} {te : TE} {wi : TI} {xs : List V} {vs : List Nat} {i : Nat} {tt : TT}
/-- a comprehension whose test adds objects -/
theorem compT (keep : V → Bool) (φ : V → PR) (hw : Walks wi σ H xs) (hz : xs.length ≤ 1000) (wp : ∀ x, wipe ((wipe σ vs).set i (some x)) vs = wipe σ vs)
    (ht : ∀ x ∈ xs, Tst tt ((wipe σ vs).set i (some x)) H (keep x)) (he : ∀ x ∈ xs, keep x = true → Gives te ((wipe σ vs).set i (some x)) H (φ x)) (st : ∀ x ∈ xs, Stays (φ x)) :
    Gives (tLc wi (gName i) tt te vs) σ H (lst H ((xs.filter keep).map φ)) := fun H1 e1 Q q => by
  refine hw H1 e1 _ fun J H2 e2 ⟨G, w, g⟩ D hD => ?_
  have mem : ∀ (j : Nat) (P : PR), P ∈ ((xs.take j).filter keep).map φ → Stays P := fun j P hP => by
    obtain ⟨x, hx, rfl⟩ := List.mem_map.mp hP
    exact st x (List.mem_of_mem_take (List.mem_filter.mp hx).1)
  have len : ∀ j, (((xs.take j).filter keep).map φ).length ≤ 1000 := fun j => by
    rw [List.length_map]
    exact Nat.le_trans (List.length_filter_le _ _) (by rw [List.length_take]; omega)
  refine lc_it w (fun j H' => ∃ acc, H' D = some (.lst acc) ∧ Ex H2 H' ∧ All2 H' (((xs.take j).filter keep).map φ) acc) ⟨[], upd_same, Ex.new hD, .nil⟩ (fun j H' _ ⟨_, _, e3, _⟩ => g _ e3) (fun j x H' H'' hj ⟨acc, a1, a2, a3⟩ y => ?_) (fun H' ⟨acc, a1, a2, a3⟩ => ?_)
  · obtain ⟨rfl, hx⟩ := y
    have mx := List.mem_of_getElem? hx
    have eH := (e1.trans e2).trans a2
    have tk : xs.take (j + 1) = xs.take j ++ [x] := by
      rw [List.take_add_one, hx]
      rfl
    refine ⟨wp x, ht x mx _ eH _ fun H3 e3 => ?_⟩
    have a1 := e3 _ _ a1
    have a2 := a2.trans e3
    have a3 := a3.ex e3
    have eH := eH.trans e3
    cases kx : keep x with
    | false =>
      refine ⟨acc, a1, a2, ?_⟩
      rw [tk, List.filter_append, List.filter_cons, kx]
      simpa using a3
    | true =>
      refine he x mx kx _ eH _ fun v H4 e4 hv => ⟨acc, e4 _ _ a1, ?_, acc ++ [v], upd_same, fun b o hb => ?_, ?_⟩
      · have := a3.length
        have := len j
        rw [sizeLine_eq]
        omega
      · rw [upd_ne (ne_of_none hb hD)]
        exact e4 _ _ (a2 _ _ hb)
      · rw [tk, List.filter_append, List.filter_cons, kx, List.map_append]
        refine all2_stays (e4 _ _ a1) (fun P hP => ?_) (all2_snoc (a3.ex e4) hv)
        rcases List.mem_append.mp hP with hP | hP
        · exact mem j P hP
        · rw [List.mem_singleton.mp hP]
          exact st x mx
  · rw [List.take_length] at a3
    exact q _ _ (e2.trans a2) ⟨D, acc, rfl, a1, (e1.trans e2).back hD, a3⟩
theorem g_repS {p : Addr} {kvs : List (List Key × V)} {ss : List Str} (hp : H p = some (.dT kvs)) (h : Gives te σ H (tupV (ss.map V.str))) (nm : ∀ s ∈ ss, nameB s = true) (few : ss.length ≤ 64) :
    Gives (tCB rRepr (tCons te tNil)) σ H (is (.str (PyData.tuple (ss.map PyData.str)).shown)) := g_call h fun x H1 e1 ⟨a, ex, ha⟩ Q k => by
  subst ex
  refine ⟨p, _, .tuple (ss.map PyData.str), rfl, .tup ha (fun e => ?_) (dq_strs ss), show_strs ss, ?_, strs_len nm few, k _ _ (Ex.refl _) rfl⟩
  · rw [e, e1 _ _ hp] at ha
    cases ha
  · show PyData.depthAll (ss.map PyData.str) + 1 ≤ 60
    rw [depth_strs5]
    decide
theorem g_repP {p : Addr} {kvs : List (List Key × V)} {ks : List (List Key)} (hp : H p = some (.dT kvs)) (h : Gives te σ H (tup (ks.map fun k => tupV (k.map kV)))) (pk : ∀ k ∈ ks, PairK k) (few : ks.length ≤ 100) :
    Gives (tCB rRepr (tCons te tNil)) σ H (is (.str (PyData.tuple (ks.map pD)).shown)) := g_call h fun x H1 e1 ⟨a, ws, ex, ha, hs⟩ Q k => by
  subst ex
  have hp1 := e1 _ _ hp
  refine ⟨p, _, .tuple (ks.map pD), rfl, .tup ha (fun e => ?_) (dq_pairs (fun xs z => by rw [hp1] at z; cases z) pk hs), show_pairs pk, ?_, pairs_len pk few, k _ _ (Ex.refl _) rfl⟩
  · rw [e, hp1] at ha
    cases ha
  · have := depth_pairs pk
    show PyData.depthAll (ks.map pD) + 1 ≤ 60
    omega
end
end K06

set_option Elab.async false
set_option linter.all false
set_option maxRecDepth 100000
set_option maxHeartbeats 4000000
/-! _law_is: the law's own look at a table. -/
namespace K06
open PySem PySem.Spec PyProof.Rows L2 Cm
open DtE (TRow tents lookT valV_tents)
open Tb (key2 PairK wk TblAt TblC TblI spTItem dueK)
open Fk (NameV nameB srt srt_perm)
open EvP (Ex All2 is tup lst Gives)
abbrev sIs5 : Stmt := top 46
abbrev NI5 : List Str := ["table", "plain", "sources_so", "uses_so", "found", "due", "source", "use", "pair"]
theorem scIs5 : FnScope NI5 ["table", "plain"] (defScope sIs5) := ⟨rfl, rfl, rfl, by decide +kernel, rfl, by decide +kernel, by decide +kernel⟩
def spIs5 (C : Addr) : Sp := fun vs H Q _ => ∃ (x : Addr) (v : V) (ss xs : List Str) (r r' : TRow), vs = [.ref x, v] ∧ TblAt C H x (srt ss) (srt xs) r' ∧ PlainAt H v ss xs r ∧ NamesOk ss ∧ NamesOk xs ∧
  (r.map (·.1)).Nodup ∧ (∀ t ∈ r, ∃ a ∈ ss, ∃ x ∈ xs, t.1 = key2 a x) ∧ (∀ t ∈ r, 0 < t.2 ∧ t.2 < 10 ^ 70) ∧ Alike r' r ∧ ∀ H', Ex H H' → Q (.bl true) H'
theorem spIs5_len {C : Addr} : ∀ vs H Q E, spIs5 C vs H Q E → vs.length = (["table", "plain"] : List Str).length := fun vs H Q E h => by
  obtain ⟨x, v, ss, xs, r, r', rfl, _⟩ := h
  rfl
theorem all2_mem {H : Hp} : ∀ {Ps : List EvP.PR} {vs : List V}, All2 H Ps vs → ∀ v ∈ vs, ∃ P ∈ Ps, P.R v H
  | _, _, .nil, v, h => by cases h
  | _, _, .cons (P := P) a t, v, h => by
    rcases List.mem_cons.mp h with rfl | h
    · exact ⟨_, .head _, a⟩
    · obtain ⟨Q, hq, q⟩ := all2_mem t v h
      exact ⟨Q, .tail _ hq, q⟩
theorem due_take {r : TRow} {ss xs : List Str} {j : Nat} {a : Str} (h : ss[j]? = some a) : dueK r (ss.take (j + 1)) xs = dueK r (ss.take j) xs ++ (xs.filter fun x => (lookT r (key2 a x)).isSome).map (key2 a) := by
  unfold dueK
  rw [List.take_add_one, h, List.flatMap_append]
  simp
section
variable {P : Program} {w : World} {K : PySem.W.Frag} {mg : Str → Option Value} {base : Heap} {C f fN fG : Addr} {fd fdN dG : FuncData}
theorem g_names {σ : L2.St} {H : Hp} {i : Nat} {a : Addr} {ss : List Str} (hi : σ[i]? = some (some (.ref a))) (ha : H a = some (.lst (ss.map V.str))) (few : ss.length < 64) :
    Gives (tCall spNms [] E0 (tCons (tVar i) tNil)) σ H (lstV ((srt ss).map V.str)) := fun H1 e Q q => ⟨_, hi, a, ss, rfl, e _ _ ha, few, fun p H' e' hp => q _ _ e' ⟨p, rfl, hp⟩⟩
theorem ok_is5 (F : Fun K "_law_is" "_law_is" sIs5 f fd) (S : TblC K C) (SI : TblI K C) (T : Fk.Blt mg) (gS : mg "Table" = some (.ref C)) (hT : mg "tuple" = none) (hR : mg "repr" = none)
    (GN : FnOk P w K mg base CX0 1 fN fdN ["names_so"] spNms) (bN : Binds K fdN ["names_so"] []) (gN : mg "_law_names" = some (.ref fN)) (kN : PySem.W.keepIn K (.ref fN) = true)
    (M : Own.Mt P w K mg base C "__getitem__" 3 ["self", "at"] (spTItem C) fG dG) (MF : PySem.W.fnIn K fG = true) : XG.FnG P w K mg base CX0 5 f fd ["table", "plain"] (spIs5 C) := by
  have nd := scIs5.nd
  refine XG.Fun.okG F scIs5 spIs5_len fun cdv A outer sh H vs Q E gd hr h => ?_
  obtain ⟨x, v, ss, xs, r, r', rfl, tb, ⟨t, a, b, d, rfl, ht, ha, hb, hd⟩, sN, uN, nod, key, vb, al, q⟩ := h
  have hu := hu_of hr
  refine ⟨_, pss_cons (ps_asg (pv 1) (pg_tup rfl (pgs_cons (pg_name (i := 2) nd rfl (Or.inl rfl)) (pgs_cons (pg_name (i := 3) nd rfl (Or.inl rfl)) (pgs_cons (pg_name (i := 4) nd rfl (Or.inr rfl)) pgs_nil)))))
    (pss_cons (ps_if (PW.pt (pw_or (pt_not (pt_val (pe_callB call_isi (by rfl) T.isi (by decide +kernel) (pa_cons (pv 0) (pa_cons (pe_glob (v := .ref C) (by rfl) gS rfl) pa_nil)))))
        (pw_or1 (pt_cmpR op_ne (pe_callB (call_reprG gd hr.units) (by rfl) hR (by decide +kernel) (pa_cons (pe_fld (pv 0) rfl) pa_nil)) (pe_callB (call_reprG gd hr.units) (by rfl) hR (by decide +kernel) (pa_cons (pe_tupleOf (by rfl) hT (pe_call GN (hr.mono (by decide)) (by rfl) gN kN bN .nil pass0 (pa_cons (pv 2) pa_nil))) pa_nil)) (nomark _)))))
      (pss_one (ps_ret pe_bl)) pss_nil)
    (pss_cons (ps_if (pt_cmpR op_ne (pe_callB (call_reprG gd hr.units) (by rfl) hR (by decide +kernel) (pa_cons (pe_fld (pv 0) rfl) pa_nil)) (pe_callB (call_reprG gd hr.units) (by rfl) hR (by decide +kernel) (pa_cons (pe_tupleOf (by rfl) hT (pe_call GN (hr.mono (by decide)) (by rfl) gN kN bN .nil pass0 (pa_cons (pv 3) pa_nil))) pa_nil)) (nomark _))
      (pss_one (ps_ret pe_bl)) pss_nil)
    (pss_cons (ps_set (i := 5) nd rfl (Or.inl rfl) (pe_lst pa_nil))
    (pss_cons (ps_for PassesOwn.never rfl (pi_list (pe_call GN (hr.mono (by decide)) (by rfl) gN kN bN .nil pass0 (pa_cons (pv 2) pa_nil))) (pg_name (i := 6) nd rfl (Or.inr rfl))
      (pss_one (ps_set (i := 5) nd rfl (Or.inl rfl) (pe_op op_cat (pv 5) (pe_lc (own := [("use", 7)]) (g := gName 7) (tt := tB (tDIn (tTup (tCons (tVar 6) (tCons (tVar 7) tNil))) (tVar 4))) (te := tTup (tCons (tVar 6) (tCons (tVar 7) tNil))) rfl nd (pi_list (pe_call GN (hr.mono (by decide)) (by rfl) gN kN bN .nil pass0 (pa_cons (pv 3) pa_nil))) (blkOk_by (N := NI5) (sc := defScope sIs5) (by decide +kernel))
        (fun _ _ _ _ _ => pg_name (i := 7) nd rfl (Or.inl rfl)) (fun _ _ _ _ _ => pts_one (pt_cmp (pc_din hu (pe_tup (pa_cons (pv 6) (pa_cons (pv 7) pa_nil))) (pv 4)))) (fun _ _ _ _ _ => pe_tup (pa_cons (pv 6) (pa_cons (pv 7) pa_nil))))))))
    (pss_cons (ps_if (pt_cmpR op_ne (pe_callB (call_reprG gd hr.units) (by rfl) hR (by decide +kernel) (pa_cons (pe_fld (pv 0) rfl) pa_nil)) (pe_callB (call_reprG gd hr.units) (by rfl) hR (by decide +kernel) (pa_cons (pe_tupleOf (by rfl) hT (pv 5)) pa_nil)) (nomark _))
      (pss_one (ps_ret pe_bl)) pss_nil)
    (pss_one (ps_ret (pe_cmpR (op_eqD hr.units) (pe_lc (own := [("pair", 8)]) (g := gName 8) (tt := tTest (tOp rNe (tCB rRepr (tCons (tOp (Own.rIxOwn C (spTItem C)) (tVar 0) (tVar 8)) tNil)) (tCB rRepr (tCons (tDGet (tVar 4) (tVar 8)) tNil)))) (te := tVar 8) rfl nd (pi_list (pv 5)) (blkOk_by (N := NI5) (sc := defScope sIs5) (by decide +kernel))
        (fun _ _ _ _ _ => pg_name (i := 8) nd rfl (Or.inl rfl)) (fun _ _ _ _ _ => pts_one (pt_cmpR op_ne (pe_callB (call_reprG gd hr.units) (by rfl) hR (by decide +kernel) (pa_cons (Own.pe_ixOwn M MF (hr.mono (by decide)) (pv 0) (pv 8)) pa_nil)) (pe_callB (call_reprG gd hr.units) (by rfl) hR (by decide +kernel) (pa_cons (pe_dget hu (pv 4) (pv 8) (fun _ _ => rfl)) pa_nil)) (nomark _))) (fun _ _ _ _ _ => pv 8)) (pe_lst pa_nil) (nomark _))))))))), ?_⟩
  obtain ⟨dx, n1, n2, dw, pp, prs, h1, h2, h3, h4, h5, h6⟩ := tb.ex
  have sB : ∀ n ∈ srt ss, nameB n = true := fun n hn => name_of (sN.nm n ((srt_perm ss).mem_iff.mp hn))
  have uB : ∀ n ∈ srt xs, nameB n = true := fun n hn => name_of (uN.nm n ((srt_perm xs).mem_iff.mp hn))
  have sF : ss.length < 64 := Nat.lt_of_le_of_lt sN.few (by decide)
  have uF : xs.length < 64 := Nat.lt_of_le_of_lt uN.few (by decide)
  have sL : (srt ss).length ≤ 64 := by rw [(srt_perm ss).length_eq]; omega
  have uL : (srt xs).length ≤ 64 := by rw [(srt_perm xs).length_eq]; omega
  have ne : ∀ {X : Str} {x y : V} {H2 : Hp} {Q : VK}, (is (.str X)).R x H2 → (is (.str X)).R y H2 → (∀ v H3, Ex H2 H3 → (is (.bl false)).R v H3 → Q v H3) → rNe x y H2 Q := fun {X x y H2 Q} ex ey k => by
    rw [show x = _ from ex, show y = _ from ey]
    exact ⟨rfl, k _ _ (Ex.refl _) (by show V.bl (!decide _) = V.bl false; simp)⟩
  -- names apart
  refine ⟨_, rfl, t, _, rfl, SqT.of ht, rfl, _, _, rfl, _, _, rfl, _, _, rfl, rfl, ?_⟩
  dsimp only
  refine' Cm.st_ifF ?c1 ?k1
  case c1 =>
    refine t_or (t_not (b := true) (t_val ?_)) (t_test (g_op (g_repS hd (ss := srt ss) ?_ sB sL) (g_repS hd (g_tupV (g_names rfl ha sF)) sB sL) (fun x y H2 e2 ex ey Q k => ne ex ey k)))
    · exact fun H2 e2 Q2 k2 => ⟨_, rfl, _, _, _, _, true, rfl, .own C, .base (.ins (e2 _ _ h1) S.cl SI.ha SI.hn SI.htk SI.hm), (by
        unfold PySem.W.kitOne
        rw [if_pos (by simp)]), k2 _ _ (Ex.refl _) rfl⟩
    · exact fun H2 e2 Q2 k2 => ⟨_, rfl, x, C, dx, _, _, rfl, e2 _ _ h1, S.cl, S.nS, rfl, k2 _ _ (Ex.refl _) ⟨n1, rfl, e2 _ _ h2⟩⟩
  intro H1 e1
  refine' Cm.st_ifF ?c2 ?k2
  case c2 =>
    refine t_test (g_op (g_repS (e1 _ _ hd) (ss := srt xs) ?_ uB uL) (g_repS (e1 _ _ hd) (g_tupV (g_names rfl (e1 _ _ hb) uF)) uB uL) (fun x y H2 e2 ex ey Q k => ne ex ey k))
    exact fun H2 e2 Q2 k2 => ⟨_, rfl, x, C, dx, _, _, rfl, e2 _ _ (e1 _ _ h1), S.cl, S.nU, rfl, k2 _ _ (Ex.refl _) ⟨n2, rfl, e2 _ _ (e1 _ _ h3)⟩⟩
  intro H2 e2
  refine EvP.st_set (EvP.list (H0 := H2) (Ps := []) (Ex.refl H2) EvP.nil (by decide)) fun v H3 e3 hv => ?_
  have E3 : Ex H H3 := (e1.trans e2).trans e3
  refine (g_names rfl (E3 _ _ ha) sF) H3 (Ex.refl H3) _ fun v2 H4 e4 hv2 => ?_
  obtain ⟨p, ev2, hp⟩ := hv2
  have duN : ∀ j, (dueK r ((srt ss).take j) (srt xs)).length ≤ 64 := fun j => by
    unfold dueK
    rw [List.length_flatMap]
    have := Tb.sum_le (fun a : Str => (((srt xs).filter fun x => (lookT r (key2 a x)).isSome).map (key2 a)).length) (n := 6) (l := (srt ss).take j) fun a _ => by
      rw [List.length_map]
      exact Nat.le_trans (List.length_filter_le _ _) (by rw [(srt_perm xs).length_eq]; exact uN.few)
    have l6 : ((srt ss).take j).length ≤ 6 := by
      rw [List.length_take, (srt_perm ss).length_eq]
      have := sN.few
      omega
    have : 6 * ((srt ss).take j).length ≤ 6 * 6 := Nat.mul_le_mul_left _ l6
    omega
  refine ⟨p, ev2, ⟨_, SqL.of hp⟩, for_list (xs := (srt ss).map V.str) (fun j sg H' => ∃ (o6 : Option V) (dv : V), sg = [some (.ref x), some (.ref t), some (.ref a), some (.ref b), some (.ref d), some dv, o6, none, none] ∧ Ex H4 H' ∧ (lst H2 ((dueK r ((srt ss).take j) (srt xs)).map fun k => tupV (k.map kV))).R dv H')
    ⟨none, v, rfl, Ex.refl H4, (lst H2 []).mono _ _ _ e4 hv⟩ (fun j sg H' _ ⟨_, _, _, e, _⟩ => SqL.of (e _ _ hp)) (fun j z sg H' hj ⟨o6, dv, esg, e5, hdv⟩ => ?_) (fun sg H' ⟨o6, dv, esg, e5, hdv⟩ => ?_)⟩
  · subst esg
    rw [List.getElem?_map] at hj
    obtain ⟨c, hc, rfl⟩ := Option.map_eq_some_iff.mp hj
    have eH : Ex H H' := (E3.trans e4).trans e5
    have e2H : Ex H2 H' := (e3.trans e4).trans e5
    have eq : (((srt xs).map V.str).filter fun v => match v with | .str u => (lookT r (key2 c u)).isSome | _ => false).map (fun v => tupV [.str c, v]) = (((srt xs).filter fun u => (lookT r (key2 c u)).isSome).map (key2 c)).map fun k => tupV (k.map kV) := by
      rw [List.filter_map, List.map_map, List.map_map]
      rfl
    refine (EvP.cat (H0 := H2) (Qs := (((srt xs).filter fun u => (lookT r (key2 c u)).isSome).map (key2 c)).map fun k => tupV (k.map kV)) e2H (EvP.varP rfl hdv) (Fk.Gives.imp (compT (i := 7) (fun v => match v with | .str u => (lookT r (key2 c u)).isSome | _ => false) (fun v => tupV [.str c, v]) (walks_list (g_names rfl (eH _ _ hb) uF)) (by rw [List.length_map]; omega) (fun _ => rfl) (fun u hu => ?_) (fun u hu _ => ?_) (fun u _ => stays_tupV _)) fun v H ⟨a, vs, q1, q2, q0, q3⟩ => ⟨a, vs, q1, q2, e2H.back q0, by rw [← eq]; exact q3⟩) ?_) H' (Ex.refl H') _ fun nv H6 e6 hnv => ⟨_, nv, rfl, e5.trans e6, by
      rw [due_take hc, List.map_append]
      exact hnv⟩
    · obtain ⟨u, hu, rfl⟩ := List.mem_map.mp hu
      refine t_val (fun H7 e7 Q7 k7 => ⟨_, rfl, _, rfl, by show 2 ≤ sizeLine; decide, fun tp np => ⟨_, rfl, d, _, rfl, .inr ⟨tents r, key2 c u, tp, .inl (Ex.new np _ _ (e7 _ _ (eH _ _ hd))), rfl, upd_same, rfl⟩, k7 _ _ (Ex.new np) ?_⟩⟩)
      show V.bl _ = V.bl _
      rw [valV_tents, Option.isSome_map]
    · exact Fk.Gives.imp (EvP.tuple (EvP.cons (EvP.var rfl) (EvP.cons (EvP.var rfl) EvP.nil)) (by show 2 ≤ 1000; decide)) fun _ _ h => Fk.tup_is (xs := [.str c, u]) h
    · have l1 := duN j
      have l2 : (((srt xs).filter fun u => (lookT r (key2 c u)).isSome).map (key2 c)).length ≤ 64 := by
        rw [List.length_map]
        exact Nat.le_trans (List.length_filter_le _ _) uL
      rw [List.length_map, List.length_map]
      omega
  · subst esg
    rw [List.length_map, List.take_length] at hdv
    have eH : Ex H H' := (E3.trans e4).trans e5
    have key' : ∀ t ∈ r', ∃ a ∈ ss, ∃ x ∈ xs, t.1 = key2 a x := fun t ht => by
      have := (look_mem al.nod).mpr (show (t.1, t.2) ∈ r' from ht)
      rw [al.look] at this
      exact key _ ((look_mem nod).mp this)
    have due : Tb.sortK (r'.map (·.1)) = dueK r (srt ss) (srt xs) := Tb.sort_due (fun n hn => name_of (sN.nm n hn)) (fun n hn => name_of (uN.nm n hn)) sN.nod uN.nod al.nod al.look key'
    have inr : ∀ k ∈ dueK r (srt ss) (srt xs), ∃ n, lookT r k = some n := fun k hk => by
      obtain ⟨a, _, hk⟩ := List.mem_flatMap.mp hk
      obtain ⟨u, hu, rfl⟩ := List.mem_map.mp hk
      exact Option.isSome_iff_exists.mp (List.mem_filter.mp hu).2
    have pk : ∀ k ∈ dueK r (srt ss) (srt xs), PairK k := fun k hk => by
      obtain ⟨n, hn⟩ := inr k hk
      obtain ⟨a, ha, u, hu, e⟩ := key _ ((look_mem nod).mp hn)
      exact ⟨a, u, e, sN.nm a ha, uN.nm u hu⟩
    rw [due] at h6
    have duL := duN (srt ss).length
    rw [List.take_length] at duL
    dsimp only
    refine' Cm.st_ifF ?c3 ?k3
    case c3 =>
      refine t_test (g_op (g_repP (eH _ _ hd) (ks := dueK r (srt ss) (srt xs)) ?_ pk (by omega)) (g_repP (eH _ _ hd) (Cm.g_tup (EvP.varP rfl hdv)) pk (by omega)) (fun x y H2 e2 ex ey Q k => ne ex ey k))
      exact fun H2 e2 Q2 k2 => ⟨_, rfl, x, C, dx, _, _, rfl, e2 _ _ (eH _ _ h1), S.cl, S.nP, rfl, k2 _ _ (Ex.refl _) ⟨pp, prs, rfl, e2 _ _ (eH _ _ h5), (h6.ex eH).ex e2⟩⟩
    intro H7 e7
    obtain ⟨ad, acc, rfl, had, _, hs⟩ := hdv
    have al2 := hs.length
    rw [List.length_map] at al2
    have E7 : Ex H H7 := eH.trans e7
    refine EvP.st_ret (P := is (.bl true)) (g_op (P := lst H7 []) (R := lstV []) (Fk.Gives.imp (compT (i := 8) (xs := acc) (fun _ => false) (fun v => is v) (walks_list (EvP.varP rfl ⟨ad, rfl, e7 _ _ had⟩)) (by omega) (fun _ => rfl) (fun y hy => ?_) (fun _ _ h => by cases h) (fun y _ => stays_is y)) fun v H h => ?_) (fun H2 e2 Q k => ⟨by show 0 ≤ sizeLine; decide, fun p hp => k _ _ (Ex.new hp) ⟨p, rfl, upd_same⟩⟩) (fun x y H2 e2 hx hy Q k => ?_)) fun v H8 e8 ev => ?_
    · obtain ⟨P, hP, hR⟩ := all2_mem hs y hy
      obtain ⟨k, hk, rfl⟩ := List.mem_map.mp hP
      obtain ⟨pq, rfl, hq⟩ := hR
      obtain ⟨n, hn⟩ := inr k hk
      have b := vb _ ((look_mem nod).mp hn)
      have lg : n.natAbs.log2 < 1920 := Nat.lt_of_lt_of_le (PySem.Flt.log2_lt_of (k := 240) (by decide) (by
        have : (10 : Int) ^ 70 < 2 ^ 240 := by decide
        have h1 : 0 < n := b.1
        have h2 : n < 10 ^ 70 := b.2
        omega)) (by decide)
      have rp : ∀ {te : TE} {σ : L2.St} {H : Hp}, Gives te σ H (is (.int n)) → Gives (tCB rRepr (tCons te tNil)) σ H (is (.str (PyData.int n).shown)) := fun {te σ H} h => g_call h fun v H1 e1 ev Q k => by
        rw [show v = _ from ev]
        refine ⟨d, .int n, .int n, rfl, .int n, decide_eq_true lg, by show (0 : Nat) ≤ 60; decide, ?_, k _ _ (Ex.refl _) rfl⟩
        have := int_text_len_1921 lg
        show (Str.ofString (toString n)).length ≤ 100000
        omega
      have wn : wk r' k = n := by
        unfold wk
        rw [al.look, hn]
        rfl
      refine t_test (g_op (rp (fun H9 e9 Q q => ⟨_, rfl, _, rfl, Tb.tbl_ins (tb.mono (E7.trans e9)), x, pq, srt ss, srt xs, r', k, rfl, tb.mono (E7.trans e9), e9 _ _ (e7 _ _ hq), pk k hk, q _ _ (Ex.refl _) (by
        show V.int _ = V.int _
        rw [wn])⟩)) (rp (fun H9 e9 Q q => ⟨_, rfl, _, rfl, d, .int n, rfl, .inr ⟨tents r, k, pq, .inl ((E7.trans e9) _ _ hd), rfl, e9 _ _ (e7 _ _ hq), (by
        rw [valV_tents, hn]
        rfl)⟩, q _ _ (Ex.refl _) rfl⟩)) (fun x y H2 e2 ex ey Q k => ne ex ey k))
    · rw [List.filter_eq_nil_iff.mpr (fun _ _ h => by cases h)] at h
      exact h
    · obtain ⟨p1, w1, rfl, g1, _, g3⟩ := hx
      obtain ⟨p2, rfl, g2⟩ := hy
      cases g3
      exact ⟨.list [], .list [], .lst (SqL.of g1) .nil, .lst (SqL.of g2) .nil, rfl, rfl, k _ _ (Ex.refl _) rfl⟩
    · rw [show v = V.bl true from ev]
      exact q _ (E7.trans e8)
end
end K06

set_option Elab.async false
set_option linter.all false
set_option maxRecDepth 100000
set_option maxHeartbeats 4000000
/-! {a: {x: e for x in xs} for a in ss}: a new dict of new rows. -/
namespace K06
open PySem PySem.Spec PyProof.Rows L2 Cm
open DtE (TRow tents lookT valV_tents)
open Tb (key2 PairK wk TblAt TblC Tab TabAt rowsO)
open Fk (NameV nameB srt srt_perm ents)
open EvP (Ex All2 is Gives)
/-- a new dict of new rows -/
structure TabNew (H0 : Hp) (B : List (Str × Fk.Row)) (v : V) (H : Hp) : Prop where
  ex : ∃ (d : Addr) (T : Tab), v = .ref d ∧ TabAt H d T ∧ T.map (fun t : Str × Addr × Fk.Row => (t.1, t.2.2)) = B ∧ (T.map (fun t : Str × Addr × Fk.Row => t.2.1)).Nodup ∧ H0 d = none
def tabN (H0 : Hp) (B : List (Str × Fk.Row)) : EvP.PR := ⟨TabNew H0 B, fun _ _ _ e h => by
  obtain ⟨d, T, h1, h2, h3, h4, h5⟩ := h.ex
  exact ⟨d, T, h1, ⟨e _ _ h2.at_, fun t ht => e _ _ (h2.row t ht)⟩, h3, h4, h5⟩⟩
section
variable {K : PySem.W.Frag} {σ : L2.St} {H : Hp} {tl tv : TE} {vs : List Nat} {i : Nat}
theorem comp_tab {ss : List Str} (f : Str → Fk.Row) (h : Gives tl σ H (tupV (ss.map V.str))) (hz : ss.length ≤ 1000) (nod : ss.Nodup) (hi : i < σ.length) (wp : ∀ x, wipe ((wipe σ vs).set i (some x)) vs = wipe σ vs)
    (he : ∀ n ∈ ss, ∀ H1, Ex H H1 → Gives tv ((wipe σ vs).set i (some (.str n))) H1 (dictN H1 (ents (f n)))) : Gives (tDc (iTup K tl) (gName i) tYes (tVar i) tv vs) σ H (tabN H (ss.map fun n => (n, f n))) := fun H1 e1 Q q => by
  refine h H1 e1 _ fun v H2 e2 ⟨a, ev, ha⟩ => ⟨a, ev, ⟨_, SqT.of ha⟩, fun D hD => ?_⟩
  refine dc_tup (xs := ss.map V.str) (fun j H' => ∃ T : Tab, H' D = some (.dK (T.map fun t => (Sum.inr t.1, V.ref t.2.1))) ∧ T.map (fun t => (t.1, t.2.2)) = (ss.take j).map (fun n => (n, f n)) ∧ (T.map (·.2.1)).Nodup ∧ (∀ t ∈ T, H' t.2.1 = some (.dK (ents t.2.2)) ∧ t.2.1 ≠ D) ∧ Ex H2 H') ⟨[], upd_same, by rw [List.take_zero]; rfl, List.nodup_nil, (fun t ht => nomatch ht), Ex.new hD⟩ (fun j H' _ ⟨_, _, _, _, _, e3⟩ => SqT.of (e3 _ _ ha)) (fun j x H' hx ⟨T, a1, a2, a3, a4, a5⟩ => ?_) (fun H' ⟨T, a1, a2, a3, a4, a5⟩ => ?_)
  · rw [List.getElem?_map] at hx
    obtain ⟨n, hn, rfl⟩ := Option.map_eq_some_iff.mp hx
    have eH := (e1.trans e2).trans a5
    have lw : (wipe σ vs).length = σ.length := wipe_length σ vs
    have lT : T.length = (ss.take j).length := by
      have := congrArg List.length a2
      rwa [List.length_map, List.length_map] at this
    refine ⟨wp _, .str n, by rw [List.getElem?_set_self (by rw [lw]; exact hi)], he n (List.mem_of_getElem? hn) _ eH _ (Ex.refl _) _ fun v H4 e4 hv => ?_⟩
    obtain ⟨ra, rfl, hra, fra⟩ := hv
    have nD : ra ≠ D := fun z => by
      rw [z, a1] at fra
      cases fra
    refine ⟨_, Sum.inr n, rfl, e4 _ _ a1, ?_, T ++ [(n, ra, f n)], ?_, ?_, ?_, fun t ht => ?_, fun b o hb => ?_⟩
    · rw [List.length_map, lT, List.length_take, sizeLine_eq]
      omega
    · have new : valV (T.map fun t => ((Sum.inr t.1 : Key), V.ref t.2.1)) (Sum.inr n) = none := by
        have no : ¬ ((T.map fun t => ((Sum.inr t.1 : Key), V.ref t.2.1)).any fun kv => decide (kv.1 = Sum.inr n)) = true := by
          intro y
          obtain ⟨p, hp, ep⟩ := List.any_eq_true.mp y
          obtain ⟨m, hm, rfl⟩ := List.mem_map.mp hp
          have e : m.1 = n := Sum.inr.inj (of_decide_eq_true ep)
          have mm : (m.1, m.2.2) ∈ (ss.take j).map fun n => (n, f n) := by
            rw [← a2]
            exact List.mem_map.mpr ⟨m, hm, rfl⟩
          obtain ⟨z, hz2, ez⟩ := List.mem_map.mp mm
          have ez1 : z = n := (Prod.mk.inj ez).1.trans e
          rw [ez1] at hz2
          exact take_no nod hn hz2
        rw [valV_any] at no
        simpa using no
      rw [upd_same, putK_new _ new, List.map_append]
      rfl
    · rw [List.map_append, a2, List.take_add_one, hn, List.map_append]
      rfl
    · rw [List.map_append, List.nodup_append]
      refine ⟨a3, List.nodup_cons.mpr ⟨List.not_mem_nil, List.nodup_nil⟩, fun k hk k' hk' e => ?_⟩
      obtain ⟨t, ht, rfl⟩ := List.mem_map.mp hk
      obtain rfl := List.mem_singleton.mp hk'
      have := (a4 t ht).1
      rw [e, fra] at this
      cases this
    · rcases List.mem_append.mp ht with ht | ht
      · exact ⟨by rw [upd_ne (a4 t ht).2]; exact e4 _ _ (a4 t ht).1, (a4 t ht).2⟩
      · obtain rfl := List.mem_singleton.mp ht
        exact ⟨by rw [upd_ne nD]; exact hra, nD⟩
    · rw [upd_ne (ne_of_none hb hD)]
      exact e4 _ _ (a5 _ _ hb)
  · rw [List.length_map, List.take_length] at a2
    exact q _ _ (e2.trans a5) ⟨D, T, rfl, ⟨a1, fun t ht => (a4 t ht).1⟩, a2, a3, (e1.trans e2).back hD⟩
end
end K06

set_option Elab.async false
set_option linter.all false
set_option maxRecDepth 100000
set_option maxHeartbeats 2000000
/-! Worths by a rule of the pairs. -/
namespace K06
open PySem PySem.Spec PyProof.Rows L2
open DtE (TRow tents lookT sameT)
open Tb (key2 PairK wk wrow RowOk)
open Fk (NameV nameB srt srt_perm)
/-- worths above 0 of pairs of these names -/
structure GoodR (ss xs : List Str) (r : TRow) : Prop where
  nod : (r.map (·.1)).Nodup
  key : ∀ t ∈ r, ∃ a ∈ ss, ∃ x ∈ xs, t.1 = key2 a x
  pos : ∀ t ∈ r, 0 < t.2
theorem GoodR.look {ss xs : List Str} {r : TRow} (g : GoodR ss xs r) (k : List Key) : lookT r k = if 0 < wk r k then some (wk r k) else none := by
  unfold wk
  cases h : lookT r k with
  | none => rfl
  | some n =>
    have p := g.pos _ ((look_mem g.nod).mp h)
    show some n = if 0 < n then some n else none
    rw [if_pos p]
theorem GoodR.nn {ss xs : List Str} {r : TRow} (g : GoodR ss xs r) (k : List Key) : 0 ≤ wk r k := by
  unfold wk
  cases h : lookT r k with
  | none => exact Int.le_refl _
  | some n => exact Int.le_of_lt (g.pos _ ((look_mem g.nod).mp h))
theorem GoodR.out {ss xs : List Str} {r : TRow} (g : GoodR ss xs r) {k : List Key} (h : ¬ ∃ a ∈ ss, ∃ x ∈ xs, k = key2 a x) : wk r k = 0 := by
  unfold wk
  cases c : lookT r k with
  | none => rfl
  | some n => exact absurd (g.key _ ((look_mem g.nod).mp c)) h
theorem look_ext {ss xs ss' xs' : List Str} {r r' : TRow} (g : GoodR ss xs r) (g' : GoodR ss' xs' r') (h : ∀ k, wk r k = wk r' k) (k : List Key) : lookT r k = lookT r' k := by
  rw [g.look, g'.look, h]
theorem same_of {ss xs ss' xs' : List Str} {r r' : TRow} (g : GoodR ss xs r) (g' : GoodR ss' xs' r') (h : ∀ k, wk r k = wk r' k) : sameT r r' = true := by
  have e := look_ext g g' h
  have p : (r.map (·.1)).Perm (r'.map (·.1)) := (List.perm_ext_iff_of_nodup g.nod g'.nod).mpr fun k => by
    constructor
    · intro hk
      obtain ⟨t, ht, rfl⟩ := List.mem_map.mp hk
      have := (look_mem g.nod).mpr (show (t.1, t.2) ∈ r from ht)
      rw [e] at this
      exact List.mem_map.mpr ⟨_, (look_mem g'.nod).mp this, rfl⟩
    · intro hk
      obtain ⟨t, ht, rfl⟩ := List.mem_map.mp hk
      have := (look_mem g'.nod).mpr (show (t.1, t.2) ∈ r' from ht)
      rw [← e] at this
      exact List.mem_map.mpr ⟨_, (look_mem g.nod).mp this, rfl⟩
  have l := p.length_eq
  rw [List.length_map, List.length_map] at l
  unfold sameT
  rw [l, beq_self_eq_true, Bool.true_and, List.all_eq_true]
  intro t ht
  have := (look_mem g.nod).mpr (show (t.1, t.2) ∈ r from ht)
  rw [e] at this
  exact decide_eq_true this
/-- the worths above 0 by a rule, in order -/
def genR (g : List Key → Int) (ss xs : List Str) : TRow := ss.flatMap fun a => wrow a (xs.map fun x => (x, g (key2 a x)))
theorem mem_gen {g : List Key → Int} {ss xs : List Str} {t : List Key × Int} : t ∈ genR g ss xs ↔ ∃ a ∈ ss, ∃ x ∈ xs, 0 < g (key2 a x) ∧ t = (key2 a x, g (key2 a x)) := by
  unfold genR wrow
  constructor
  · intro h
    obtain ⟨a, ha, h⟩ := List.mem_flatMap.mp h
    obtain ⟨e, he, rfl⟩ := List.mem_map.mp h
    obtain ⟨h1, h2⟩ := List.mem_filter.mp he
    obtain ⟨x, hx, rfl⟩ := List.mem_map.mp h1
    exact ⟨a, ha, x, hx, of_decide_eq_true h2, rfl⟩
  · rintro ⟨a, ha, x, hx, p, rfl⟩
    exact List.mem_flatMap.mpr ⟨a, ha, List.mem_map.mpr ⟨(x, g (key2 a x)), List.mem_filter.mpr ⟨List.mem_map.mpr ⟨x, hx, rfl⟩, decide_eq_true p⟩, rfl⟩⟩
theorem nod_gen {g : List Key → Int} {ss xs : List Str} (ns : ss.Nodup) (nx : xs.Nodup) : ((genR g ss xs).map (·.1)).Nodup := by
  unfold genR
  rw [List.map_flatMap, List.nodup_iff_pairwise_ne, List.pairwise_flatMap]
  refine ⟨fun a _ => ?_, ?_⟩
  · have := Tb.wrow_nod a (r := xs.map fun x => (x, g (key2 a x))) (by rw [List.map_map]; exact (List.map_id xs).symm ▸ nx)
    exact List.nodup_iff_pairwise_ne.mp this
  · refine (List.nodup_iff_pairwise_ne.mp ns).imp fun {a b} ne k hk k' hk' e => ?_
    obtain ⟨t, ht, rfl⟩ := List.mem_map.mp hk
    obtain ⟨t', ht', rfl⟩ := List.mem_map.mp hk'
    unfold wrow at ht ht'
    obtain ⟨c, _, rfl⟩ := List.mem_map.mp ht
    obtain ⟨c', _, rfl⟩ := List.mem_map.mp ht'
    exact ne (Tb.key2_inj e).1
theorem good_gen {g : List Key → Int} {ss xs : List Str} (ns : ss.Nodup) (nx : xs.Nodup) : GoodR ss xs (genR g ss xs) := ⟨nod_gen ns nx, fun t ht => by
  obtain ⟨a, ha, x, hx, _, rfl⟩ := mem_gen.mp ht
  exact ⟨a, ha, x, hx, rfl⟩, fun t ht => by
  obtain ⟨a, ha, x, hx, p, rfl⟩ := mem_gen.mp ht
  exact p⟩
theorem wk_gen {g : List Key → Int} {ss xs : List Str} (ns : ss.Nodup) (nx : xs.Nodup) (out : ∀ k, (¬ ∃ a ∈ ss, ∃ x ∈ xs, k = key2 a x) → g k = 0) (nn : ∀ k, 0 ≤ g k) (k : List Key) : wk (genR g ss xs) k = g k := by
  have no := nod_gen (g := g) ns nx
  by_cases c : ∃ a ∈ ss, ∃ x ∈ xs, k = key2 a x
  · obtain ⟨a, ha, x, hx, rfl⟩ := c
    by_cases p : 0 < g (key2 a x)
    · have := (look_mem no).mpr (mem_gen.mpr ⟨a, ha, x, hx, p, rfl⟩)
      unfold wk
      rw [this]
      rfl
    · have z : g (key2 a x) = 0 := by
        have := nn (key2 a x)
        omega
      unfold wk
      cases h : lookT (genR g ss xs) (key2 a x) with
      | none => exact z.symm
      | some n =>
        obtain ⟨b, _, y, _, q, e⟩ := mem_gen.mp ((look_mem no).mp h)
        have e1 := (Prod.mk.inj e).1
        rw [← e1] at q
        exact absurd q p
  · rw [(good_gen ns nx).out c, out k c]
theorem GoodR.perm {ss xs ss' xs' : List Str} {r : TRow} (g : GoodR ss xs r) (p : ss.Perm ss') (q : xs.Perm xs') : GoodR ss' xs' r := ⟨g.nod, fun t ht => by
  obtain ⟨a, ha, x, hx, e⟩ := g.key t ht
  exact ⟨a, p.mem_iff.mp ha, x, q.mem_iff.mp hx, e⟩, g.pos⟩
theorem GoodR.rowOk {ss xs : List Str} {r : TRow} (g : GoodR ss xs r) (ns : ∀ n ∈ ss, NameV (.str n)) (nx : ∀ n ∈ xs, NameV (.str n)) : RowOk r := fun t ht => by
  obtain ⟨a, ha, x, hx, e⟩ := g.key t ht
  exact ⟨a, x, e, ns a ha, nx x hx⟩
theorem GoodR.len {ss xs : List Str} {r : TRow} (g : GoodR ss xs r) : r.length ≤ ss.length * xs.length := by
  have s : ∀ k ∈ r.map (·.1), k ∈ ss.flatMap fun a => xs.map (key2 a) := fun k hk => by
    obtain ⟨t, ht, rfl⟩ := List.mem_map.mp hk
    obtain ⟨a, ha, x, hx, e⟩ := g.key t ht
    exact List.mem_flatMap.mpr ⟨a, ha, List.mem_map.mpr ⟨x, hx, e.symm⟩⟩
  have l := nodup_le g.nod s
  rw [List.length_map] at l
  have e : ∀ (l : List Str), (l.flatMap fun a => xs.map (key2 a)).length = l.length * xs.length := fun l => by
    induction l with
    | nil => simp
    | cons a l ih => rw [List.flatMap_cons, List.length_append, ih, List.length_map, List.length_cons, Nat.add_mul, Nat.one_mul, Nat.add_comm]
  rw [e] at l
  exact l
theorem GoodR.len36 {ss xs : List Str} {r : TRow} (g : GoodR ss xs r) (hs : ss.length ≤ 6) (hx : xs.length ≤ 6) : r.length ≤ 36 :=
  Nat.le_trans g.len (Nat.mul_le_mul hs hx)
end K06

set_option Elab.async false
set_option linter.all false
set_option maxRecDepth 100000
set_option maxHeartbeats 4000000
/-! Defs that may raise and are called while nothing is being shown; Table.__init__ with its last two errors. -/
namespace XG
open PySem PySem.Spec PyProof.Rows L2
section
variable {P : Program} {w : World} {K : PySem.W.Frag} {mg : Str → Option Value} {base : Heap} {x qual : Str} {f : Addr} {fd : FuncData} {N ps : List Str} {k : Nat} {sp : Sp}
theorem Fun.okGX {st : Stmt} (F : Fun K x qual st f fd) (S : FnScope N ps (defScope st)) (len : ∀ vs H Q E, sp vs H Q E → vs.length = ps.length)
    (walk : ∀ (cdv : Value) (A : Around) (outer : List Env) (s : Shared) (H : Hp) (vs : List V) (Q : VK) (E : XK), A.guards = some [] → Room k (A.deeper (envOfC qual (defScope st) s.heap.objs.size f cdv)) → sp vs H Q E →
      ∃ t, PSs (cxOf (L2.CX P w) P w K mg base N qual (defScope st) f cdv A outer s H E) (defBody st) t ∧ t { nx := fun _ H' => Q .non H', rt := Q } (start N vs) H) : FnG P w K mg base (L2.CX P w) (k + 1) f fd ps sp := by
  obtain ⟨oc, od, kV, doc, pm, an, cdv, ct, osl, rfl, lk, hcd⟩ := F.ex
  exact fnG_of lk hcd S len fun A outer s H vs Q E gd room h => walk cdv A outer s H vs Q E gd room h
theorem FunD.okGX {params : Arguments} {body : List Stmt} {scope : Scope} {dvs : List V} {kws : List (Str × V)} (F : FunD K x qual params body scope dvs kws f fd) (S : FnScope N ps scope) (len : ∀ vs H Q E, sp vs H Q E → vs.length = ps.length)
    (walk : ∀ (cdv : Value) (A : Around) (outer : List Env) (s : Shared) (H : Hp) (vs : List V) (Q : VK) (E : XK), A.guards = some [] → Room k (A.deeper (envOfC qual scope s.heap.objs.size f cdv)) → sp vs H Q E →
      ∃ t, PSs (cxOf (L2.CX P w) P w K mg base N qual scope f cdv A outer s H E) body t ∧ t { nx := fun _ H' => Q .non H', rt := Q } (start N vs) H) : FnG P w K mg base (L2.CX P w) (k + 1) f fd ps sp := by
  obtain ⟨oc, od, dV, kV, doc, pm, an, cdv, ct, osl, rfl, lk, hcd, _, _⟩ := F.ex
  exact fnG_of lk hcd S len fun A outer s H vs Q E gd room h => walk cdv A outer s H vs Q E gd room h
/-- what raises nothing where it is asked so -/
theorem FnG.calm {sp' : Sp} (F : FnG P w K mg base (L2.CX P w) k f fd ps sp) (h : ∀ vs H Q E, sp' vs H Q E → sp vs H Q E0) : FnG P w K mg base CX0 k f fd ps sp' := fun A outer s H args us vs Q E gd room e0 bd r q => by
  refine codeAny_mono (F A outer s H args us vs Q E0 gd room e0 bd r (h _ _ _ _ q)) fun r s' z => ?_
  cases r with
  | ok fl => cases fl <;> exact z
  | error e =>
    obtain ⟨_, _, _, _, _, _, _, _, _, _, _, _, z⟩ := z
    exact z.elim
end
section
variable {X : Cx} {x : Str} {f C : Addr} {fd : FuncData} {k : Nat} {ps : List Str} {sp : Sp} {e : Expr} {es : List Expr} {t : TA} {p pos : Pos} {E : XK}
/-- the call of a def that may raise: what it lets out is E's business -/
theorem pe_callGX (F : FnG X.prog X.w X.K X.mg X.base (L2.CX X.prog X.w) k f fd ps sp) (len : ∀ vs H Q E, sp vs H Q E → vs.length = ps.length) (gd : X.A.guards = some []) (hr : Room k X.A) (hg : Gl X x) (hm : X.mg x = some (.ref f)) (hk : PySem.W.keepIn X.K (.ref f) = true) (hb : Binds X.K fd ps [])
    (hx : ∀ σ, PassesAt (L2.CX X.prog X.w) X σ E) (ha : PA X (e :: es) t) (hdb : (x == ("__debug__" : Str)) = false := by decide) (he : starEach (e :: es) X.env = (false, eval e X.env) :: starEach es X.env := by rfl) (hpl : (backTo pos (starEach es X.env)).any (·.1) = false := by rfl) :
    PE X (.Call (.Name x p) (e :: es) [] pos) (tCall sp [] E t) := by
  refine ⟨fun pins s σ H Q I h => wpAny_Call_Name_kw (ld_glob I hg hm (PySem.W.callWith_K (h₀ := X.base) I.ok.mod.kin hk (thn (ha.run pos pins s σ H _ I h) fun us s1 ⟨vs, H1, I1, r, q⟩ => ⟨I1.kIn, ?_⟩) he hpl) hdb)⟩
  replace q : sp vs H1 Q E := by
    have z : sp (vs ++ []) H1 Q E := q
    rw [List.append_nil] at z
    exact z
  have n : (us ++ []).length = ps.length := by rw [List.append_nil, ← r.length]; exact len _ _ _ _ q
  refine wpAny_call (codeAny_mono (F X.A X.stack s1 H1 ⟨us, []⟩ (us ++ []) vs Q E gd hr I1.env0 (hb s1 us I1.kIn n) (by rw [List.append_nil]; exact r) q) fun r' s' z => ?_)
  cases r' with
  | error e => exact hx σ pins H1 s1 e s' I1 z
  | ok fl => cases fl with
    | ret u => exact I1.after z
    | _ => exact (show False from z).elim
theorem run_makeGX {pins : List (Addr × Obj)} {σ : L2.St} {H : Hp} {s : Shared} {Q : VK} {us : List Value} {vs : List V} (M : Mk X.K C f) (F : FnG X.prog X.w X.K X.mg X.base (L2.CX X.prog X.w) k f fd ps sp) (len : ∀ vs H Q E, sp vs H Q E → vs.length = ps.length) (gd : X.A.guards = some []) (hr : Room (k + 1) X.A) (hb : Binds X.K fd ps [])
    (hx : ∀ σ, PassesAt (L2.CX X.prog X.w) X σ E) (I : Inv X pins σ H s) (r : Vals vs us) (h : ∀ x dx, H x = none → H dx = none → dx ≠ x → sp (.ref x :: vs) (upd (upd H dx (.own x)) x (.ins C dx [])) (fun v H2 => v = .non ∧ Q (.ref x) H2) E) : wpAny (model X.prog X.w) X.A (call (.ref C) us) (EP X pins σ Q) X.xe s := by
  have q := h (s.heap.objs.size + 1) s.heap.objs.size (I.hok.fresh (Nat.le_succ _)) (I.hok.fresh (Nat.le_refl _)) (Nat.ne_of_lt (Nat.lt_succ_self _))
  have J := Inv.made (C := C) I
  have rr : Vals (V.ref (s.heap.objs.size + 1) :: vs) (Value.ref (s.heap.objs.size + 1) :: us) := .cons rfl r
  have n : (Value.ref (s.heap.objs.size + 1) :: us ++ []).length = ps.length := by rw [List.append_nil, ← rr.length]; exact len _ _ _ _ q
  refine wpAny_call (make_map (f := f) I.kIn M.makes M.init (beq_iff_eq.mp M.fn) (codeAny_mono (F _ X.stack _ _ ⟨Value.ref (s.heap.objs.size + 1) :: us, []⟩ (Value.ref (s.heap.objs.size + 1) :: us ++ []) _ _ E gd (hr.make C us []) (J.env0.make C us []) (hb _ (Value.ref (s.heap.objs.size + 1) :: us) J.kIn n) (by rw [List.append_nil]; exact rr) q) fun r' s' z => ?_))
  cases r' with
  | error e => exact hx σ pins _ _ e s' J z
  | ok fl => cases fl with
    | ret u =>
      obtain ⟨v, H', I3, rv, ev, q3⟩ := J.after z
      subst ev
      exact ⟨rv, V.ref (s.heap.objs.size + 1), H', I3, rfl, q3⟩
    | _ => exact (show False from z).elim
def tMakeGX (C : Addr) (sp : Sp) (E : XK) (t : TA) : TE := fun σ H Q => t σ H fun vs H1 => ∀ x dx, H1 x = none → H1 dx = none → dx ≠ x → sp (.ref x :: vs) (upd (upd H1 dx (.own x)) x (.ins C dx [])) (fun v H2 => v = .non ∧ Q (.ref x) H2) E
theorem pe_makeGX (M : Mk X.K C f) (F : FnG X.prog X.w X.K X.mg X.base (L2.CX X.prog X.w) k f fd ps sp) (len : ∀ vs H Q E, sp vs H Q E → vs.length = ps.length) (gd : X.A.guards = some []) (hr : Room (k + 1) X.A) (hb : Binds X.K fd ps []) (hx : ∀ σ, PassesAt (L2.CX X.prog X.w) X σ E) (hg : Gl X x) (hm : X.mg x = some (.ref C))
    (ha : PA X (e :: es) t) (hdb : (x == ("__debug__" : Str)) = false := by decide) (he : starEach (e :: es) X.env = (false, eval e X.env) :: starEach es X.env := by rfl) (hpl : (backTo pos (starEach es X.env)).any (·.1) = false := by rfl) : PE X (.Call (.Name x p) (e :: es) [] pos) (tMakeGX C sp E t) := by
  refine ⟨fun pins s σ H Q I h => wpAny_Call_Name_kw (ld_glob I hg hm ?_ hdb)⟩
  exact PySem.W.callWith_K (h₀ := X.base) I.ok.mod.kin M.kp (thn (ha.run pos pins s σ H _ I h) fun us s1 ⟨vs, H1, I1, r, q⟩ => ⟨I1.kIn, run_makeGX M F len gd hr hb hx I1 r q⟩) he hpl
end
end XG
namespace Tb
open PySem PySem.Spec PyProof.Rows L2 EvP Cm Fk DtE KyS XG
theorem g_gtB {K : PySem.W.Frag} {σ : L2.St} {H : Hp} {te : TE} {xs : List V} (h : EvP.Gives te σ H (tupV xs)) {r : List V → Hp → VK → Prop} (hr : ∀ p H1 Q, SqT K H1 p xs → Q (.int (xs.length : Nat)) H1 → r [.ref p] H1 Q) :
    Tst (tTest (tOp (rI0 fun i j => .bl (decide (j < i))) (tCB r (tCons te tNil)) (tC (.int 6)))) σ H (decide (6 < xs.length)) :=
  t_test (g_op (P := is (.int (xs.length : Nat))) (R := is (.int 6)) (g_call h fun v H1 e ⟨a, ev, ha⟩ Q q => by
    subst ev
    exact hr a H1 Q (SqT.of ha) (q _ _ (Ex.refl _) rfl)) EvP.cst fun x y H1 e ex ey Q q => ⟨(xs.length : Nat), 6, ex, ey, q _ _ (Ex.refl _) (by
    show V.bl (decide ((6 : Int) < (xs.length : Nat))) = V.bl (decide (6 < xs.length))
    by_cases c : 6 < xs.length
    · rw [decide_eq_true c, decide_eq_true (by omega)]
    · rw [decide_eq_false c, decide_eq_false (by omega)])⟩)
/-- if t: ..; both ways -/
theorem st_ifB {tt : TT} {t u : TS} {D : Ends} {σ : L2.St} {H : Hp} {b : Bool} (h : Tst tt σ H b) (kT : b = true → ∀ H1, Ex H H1 → t { D with nx := u D } σ H1) (kF : b = false → ∀ H1, Ex H H1 → u D σ H1) : tSeq (tIfS tt t tNext) u D σ H := h H (Ex.refl H) _ fun H1 e => by
  cases b with
  | true => exact kT rfl H1 e
  | false => exact kF rfl H1 e
/-- the error's class, as the top has written it -/
structure ManyC (P : Program) (w : World) (K : PySem.W.Frag) (mg : Str → Option Value) (base : Heap) (CT fE : Addr) (fdE : FuncData) : Prop where
  T : OexC K CT
  iC : PySem.W.findIn K (.ref CT) "__init__" = some (some (.ref fE))
  tI : PySem.W.typeIn K (.ref fE) = some (.type "function")
  n1 : PySem.W.findIn K (.ref CT) "what" = some none
  n2 : PySem.W.findIn K (.ref CT) "most" = some none
  G : FnOk P w K mg base CX0 1 fE fdE ["self", "what", "most"] (spInit2 K "what" "most")
  b : Binds K fdE ["self", "what", "most"] []
  g : mg "TooMany" = some (.ref CT)
/-- what a TooMany keeps -/
abbrev manyF (s : Str) : List (Str × V) := [(("most" : Str), V.int 6), (("what" : Str), V.str s)]
/-- raise TooMany(s, 6): the way out -/
theorem raise_many {P : Program} {w : World} {K : PySem.W.Frag} {mg : Str → Option Value} {base : Heap} {CT fE : Addr} {fdE : FuncData} {σ : L2.St} {H : Hp} {s : Str} {E : XK} (L : ManyC P w K mg base CT fE fdE) (k : ∀ d H', Ex H H' → H' d = some (.xd (manyF s)) → E (.ref CT) (some d) H') :
    tMkO CT (spInit2 K "what" "most") [] (tCons (tC (.str s)) (tCons (tC (.int 6)) tNil)) σ H (fun cls d H' => E cls d H') := by
  refine ⟨(by show 2 ≤ 1000; decide), fun a ha => ?_⟩
  refine ⟨a, CT, .str s, .int 6, rfl, L.T, L.n1, L.n2, upd_same, fun d hd ne => ?_⟩
  have hd' : H d = none := by rw [upd_ne ne] at hd; exact hd
  refine ⟨rfl, d, manyF s, by rw [upd_ne ne.symm, upd_same], upd_same, hd', ?_⟩
  refine k d _ (fun b o z => ?_) upd_same
  rw [upd_ne (ne_of_none z hd'), del_ne (ne_of_none z ha), upd_ne (ne_of_none z hd'), upd_ne (ne_of_none z ha), upd_ne (ne_of_none z hd'), upd_ne (ne_of_none z ha)]
  exact z
/-- all but x stays -/
abbrev ButX (x : Addr) (H H' : Hp) : Prop := ∀ b o, H b = some o → b ≠ x → H' b = some o
def spTIX (K : PySem.W.Frag) (C CT : Addr) : Sp := fun vs H Q E => ∃ (x d u dx : Addr) (T : Tab) (us : List Str), vs = [.ref x, .ref d, .ref u] ∧ H x = some (.ins C dx []) ∧ TabAt H d T ∧ TabOk T ∧ SqA K H u (us.map V.str) ∧ (∀ n ∈ us, NameV (.str n)) ∧ us.length ≤ 100 ∧
  (6 < T.length → ∀ dd H', ButX x H H' → H' dd = some (.xd (manyF "sources")) → E (.ref CT) (some dd) H') ∧ (T.length ≤ 6 → 6 < (usesOf us T).length → ∀ dd H', ButX x H H' → H' dd = some (.xd (manyF "uses")) → E (.ref CT) (some dd) H') ∧
  (T.length ≤ 6 → (usesOf us T).length ≤ 6 → ∀ H', ButX x H H' → TblAt C H' x (srt (T.map (·.1))) (usesOf us T) (worths T) → Q .non H')
theorem spTIX_len {K : PySem.W.Frag} {C CT : Addr} : ∀ vs H Q E, spTIX K C CT vs H Q E → vs.length = (["self", "rows", "uses"] : List Str).length := fun vs H Q E h => by
  obtain ⟨x, d, u, dx, T, us, rfl, _⟩ := h
  rfl
theorem spTI_X {K : PySem.W.Frag} {C CT : Addr} : ∀ vs H Q E, spTI K C vs H Q E → spTIX K C CT vs H Q E0 := fun vs H Q E h => by
  obtain ⟨x, d, u, dx, T, us, h1, h2, h3, h4, h5, h6, h7, h8, h9, h10⟩ := h
  exact ⟨x, d, u, dx, T, us, h1, h2, h3, h4, h6, h7, h8, fun c => by omega, fun _ c => by omega, fun _ _ => h10⟩
section
variable {P : Program} {w : World} {K : PySem.W.Frag} {mg : Str → Option Value} {base : Heap} {C CT f fC fA fJ fE : Addr} {fd fdC fdA fdJ fdE : FuncData} {dvs : List V} {kws : List (Str × V)}
theorem ok_tinitX {t6 : Tok} (F : FunD K "__init__" "Table.__init__" (defArgs sTI) (defBody sTI) (defScope sTI) dvs kws f fd) (S : TblC K C) (L : ManyC P w K mg base CT fE fdE) (T : Blt mg) (R : BltR mg) (gM : mg "MOST_NAMES" = some (.int 6 t6))
    (GC : FnOk P w K mg base CX0 4 fC fdC ["rows", "uses"] (spCheck K)) (bC : Binds K fdC ["rows", "uses"] []) (gC : mg "check_table" = some (.ref fC)) (kC : PySem.W.keepIn K (.ref fC) = true)
    (GA : FnG P w K mg base CX0 1 fA fdA ["values"] (spAsc K)) (bA : Binds K fdA ["values"] []) (gA : mg "ascending" = some (.ref fA)) (kA : PySem.W.keepIn K (.ref fA) = true)
    (GJ : FnG P w K mg base CX0 3 fJ fdJ ["one", "other"] (spJoined K)) (bJ : Binds K fdJ ["one", "other"] []) (gJ : mg "joined" = some (.ref fJ)) (kJ : PySem.W.keepIn K (.ref fJ) = true) :
    FnG P w K mg base (L2.CX P w) 5 f fd ["self", "rows", "uses"] (spTIX K C CT) := by
  have nd := scTI.nd
  refine FunD.okGX F scTI spTIX_len fun cdv A outer s H vs Q E gd hr h => ?_
  obtain ⟨x, d, u, dx, Tb, us, rfl, hx, hT, ok, hU, nU, fu, kS, kU, q⟩ := h
  have hu : A.units + 3 + 1 < cLine := by
    have : A.units + 3 + 16 * 4 + 200 < cLine := hr.un
    omega
  refine ⟨_, pss_cons (ps_expr (pe_call GC hr (by rfl) gC kC bC .nil pass0 (pa_cons (pv 1) (pa_cons (pv 2) pa_nil))))
    (pss_cons (ps_fld (pv 0) (pe_callG GA spAsc_len gd (hr.mono (by decide)) (by rfl) gA kA bA (pa_cons (pe_callTy (T := "list") (call_listD rfl) (by rfl) R.list (by decide +kernel) (pa_cons (pv 1) pa_nil)) pa_nil)) rfl)
    (pss_cons (ps_fld (pv 0) (pe_callG GJ spJoined_len gd (hr.mono (by decide)) (by rfl) gJ kJ bJ (pa_cons (pv 2) (pa_cons (pe_lockL (pe_lc2 (own := [("row", 3), ("use", 4)]) (vs1 := [4]) (g := gName 3) (tt := tYes) (wi1 := iKeys (tVar 3)) (g1 := gName 4) (tt1 := tYes) (te := tVar 4) rfl nd (pi_values (pv 1)) (blkOk_by (N := NI) (sc := defScope sTI) (by decide +kernel)) (by decide)
        (fun _ _ _ _ _ => pg_name (i := 3) nd rfl (Or.inl rfl)) (fun _ _ _ _ _ => pts_nil) (fun _ _ _ _ _ => pi_keys (pv 3)) (fun _ _ _ _ _ => pg_name (i := 4) nd rfl (Or.inl rfl)) (fun _ _ _ _ _ => pts_nil) (fun _ _ _ _ _ => pv 4))) pa_nil))) rfl)
    (pss_cons (ps_if (pt_cmpR op_gt (pe_callB call_len_seq (by rfl) T.len PySem.boot_len (pa_cons (pe_fld (pv 0) rfl) pa_nil)) (pe_glob (v := .int 6) (by rfl) gM ⟨_, rfl⟩) (nomark _)) (pss_one (ps_raise (W := fun cls d _ H => E cls d H) rfl (takes_of rfl rfl rfl rfl) (pmk_oex (CX := CX0) L.T L.iC L.tI L.G (hr.mono (by decide)) L.b .nil pass0 (by rfl) L.g (pa_cons pe_str (pa_cons (pe_glob (v := .int 6) (by rfl) gM ⟨_, rfl⟩) pa_nil))))) pss_nil)
    (pss_cons (ps_if (pt_cmpR op_gt (pe_callB call_len_seq (by rfl) T.len PySem.boot_len (pa_cons (pe_fld (pv 0) rfl) pa_nil)) (pe_glob (v := .int 6) (by rfl) gM ⟨_, rfl⟩) (nomark _)) (pss_one (ps_raise (W := fun cls d _ H => E cls d H) rfl (takes_of rfl rfl rfl rfl) (pmk_oex (CX := CX0) L.T L.iC L.tI L.G (hr.mono (by decide)) L.b .nil pass0 (by rfl) L.g (pa_cons pe_str (pa_cons (pe_glob (v := .int 6) (by rfl) gM ⟨_, rfl⟩) pa_nil))))) pss_nil)
    (pss_cons (ps_fld (pv 0) (pe_lockL (Dc2.pe_dc2 (own := [("a", 5), ("row", 3), ("x", 6), ("worth", 7)]) (vs1 := [6, 7]) (g := gTup K 2 (gCons (gName 5) (gCons (gName 3) gNil))) (tt := tYes) (wi1 := iItems (tVar 3)) (g1 := gTup K 2 (gCons (gName 6) (gCons (gName 7) gNil)))
        (tt1 := tTest (tOp (rI0 fun i j => .bl (decide (j < i))) (tVar 7) (tC (.int 0)))) (tk := tTup (tCons (tVar 5) (tCons (tVar 6) tNil))) (tv := tVar 7) hu rfl nd (by exact pi_items (pv 1)) (blkOk_by (N := NI) (sc := defScope sTI) (by decide +kernel)) (by decide)
        (fun _ _ _ _ _ => by exact pg_tup rfl (pgs_cons (pg_name (i := 5) nd rfl (Or.inl rfl)) (pgs_cons (pg_name (i := 3) nd rfl (Or.inl rfl)) pgs_nil))) (fun _ _ _ _ _ => pts_nil) (fun _ _ _ _ _ => by exact pi_items (pv 3))
        (fun _ _ _ _ _ => by exact pg_tup rfl (pgs_cons (pg_name (i := 6) nd rfl (Or.inl rfl)) (pgs_cons (pg_name (i := 7) nd rfl (Or.inl rfl)) pgs_nil))) (fun _ _ _ _ _ => pts_one (pt_cmpR op_gt (pv 7) pe_int (nomark _)))
        (fun _ _ _ _ _ => pe_tup (pa_cons (pv 5) (pa_cons (pv 6) pa_nil))) (fun _ _ _ _ _ => pv 7))) rfl)
    (pss_one (ps_fld (pv 0) (pe_callG GA spAsc_len gd (hr.mono (by decide)) (by rfl) gA kA bA (pa_cons (pe_callTy (T := "list") (call_list_dT rfl) (by rfl) R.list (by decide +kernel) (pa_cons (pe_fld (pv 0) rfl) pa_nil)) pa_nil)) rfl))))))), ?_⟩
  refine ⟨_, rfl, _, rfl, d, u, Tb, us, rfl, hT, ok, hU, nU, fun H1 e1 => ?_⟩
  dsimp only
  have hx1 := e1 _ _ hx
  have en : (Tb.map fun t => ((Sum.inr t.1 : Key), V.ref t.2.1)).map (fun kv => kV kv.1) = (Tb.map (·.1)).map V.str := by
    rw [List.map_map, List.map_map]
    rfl
  -- sources
  refine' st_fld ?s1 ?k1
  case s1 =>
    refine g_ascL (ns := Tb.map (·.1)) ?_
    rw [← en]
    exact g_listD rfl (e1 _ _ hT.at_)
  intro v1 H2 e2 ⟨n1, ev, h1⟩
  subst ev
  have hx2 := e2 _ _ hx1
  have ne1 : n1 ≠ x := ne_of h1 hx2 (fun z => nomatch z)
  refine ⟨x, C, dx, [], rfl, hx2, S.cl, S.nS, by show 0 < 1000; decide, ?_⟩
  have k2 : ∀ b o, H b = some o → b ≠ x → upd H2 x (.ins C dx (putF "sources" (.ref n1) [])) b = some o := fun b o h ne => by
    rw [upd_ne ne]
    exact e2 _ _ (e1 _ _ h)
  have f2 := upd_same (H := H2) (a := x) (o := .ins C dx (putF "sources" (.ref n1) []))
  have g1 : upd H2 x (.ins C dx (putF "sources" (.ref n1) [])) n1 = some (.tup ((srt (Tb.map (·.1))).map V.str)) := by
    rw [upd_ne ne1]
    exact h1
  generalize upd H2 x (.ins C dx (putF "sources" (.ref n1) [])) = G2 at k2 f2 g1 ⊢
  have T2 := hT.but hx k2
  have U2 := SqA.but hx k2 hU
  -- uses
  refine' st_fld (P := tupV ((usesOf us Tb).map V.str)) ?s2 ?k2
  case s2 =>
    intro H3 e3 Q3 q3
    refine ⟨_, rfl, g_uses (T2.ex e3) ok H3 (Ex.refl H3) _ fun v H4 e4 ⟨b, eb, hb⟩ => ?_⟩
    subst eb
    refine ⟨u, b, us, namesOf Tb, rfl, SqA.keep (e3.trans e4) U2, .inl (SqL.of hb), by have := names_few ok; omega, fun p H5 e5 np h5 => q3 _ H5 (e4.trans e5) ⟨p, rfl, h5⟩⟩
  intro v2 H3 e3 ⟨n2, ev, h2⟩
  subst ev
  have hx3 := e3 _ _ f2
  have ne2 : n2 ≠ x := ne_of h2 hx3 (fun z => nomatch z)
  refine ⟨x, C, dx, _, rfl, hx3, S.cl, S.nU, by show 1 < 1000; decide, ?_⟩
  have k3 : ∀ b o, G2 b = some o → b ≠ x → upd H3 x (.ins C dx (putF "uses" (.ref n2) (putF "sources" (.ref n1) []))) b = some o := fun b o h ne => by
    rw [upd_ne ne]
    exact e3 _ _ h
  have f3 := upd_same (H := H3) (a := x) (o := .ins C dx (putF "uses" (.ref n2) (putF "sources" (.ref n1) [])))
  have g2 : upd H3 x (.ins C dx (putF "uses" (.ref n2) (putF "sources" (.ref n1) []))) n2 = some (.tup ((usesOf us Tb).map V.str)) := by
    rw [upd_ne ne2]
    exact h2
  generalize upd H3 x (.ins C dx (putF "uses" (.ref n2) (putF "sources" (.ref n1) []))) = G3 at k3 f3 g2 ⊢
  have g1' := k3 _ _ g1 ne1
  have T3 := T2.but f2 k3
  -- too many
  have s6 : ((srt (Tb.map (·.1))).map V.str).length = Tb.length := by
    rw [List.length_map, (srt_perm _).length_eq, List.length_map]
  have back : ∀ H', Ex G3 H' → ButX x H H' := fun H' e b o h ne => e _ _ (k3 _ _ (k2 _ _ h ne) ne)
  refine st_ifB (g_gtB (K := K) (g_fld rfl f3 S.cl S.nS rfl (⟨n1, rfl, g1'⟩ : (tupV ((srt (Tb.map (·.1))).map V.str)).R (.ref n1) G3)) fun p H1 Q h q => ⟨p, _, rfl, .inr h, q⟩) (fun c6 H4 e4 => ?_) fun c6 H4 e4 => ?_
  · rw [s6, decide_eq_true_eq] at c6
    exact raise_many L fun dd H5 e5 hd => kS c6 dd H5 (back H5 (e4.trans e5)) hd
  rw [s6, decide_eq_false_iff_not] at c6
  have l6 : Tb.length ≤ 6 := by omega
  refine st_ifB (g_gtB (K := K) (g_fld rfl (e4 _ _ f3) S.cl S.nU rfl (⟨n2, rfl, e4 _ _ g2⟩ : (tupV ((usesOf us Tb).map V.str)).R (.ref n2) H4)) fun p H1 Q h q => ⟨p, _, rfl, .inr h, q⟩) (fun c7 H5 e5 => ?_) fun c7 H5 e5 => ?_
  · rw [List.length_map, decide_eq_true_eq] at c7
    exact raise_many L fun dd H6 e6 hd => kU l6 c7 dd H6 (back H6 ((e4.trans e5).trans e6)) hd
  rw [List.length_map, decide_eq_false_iff_not] at c7
  replace q := q l6 (by omega)
  have e45 := e4.trans e5
  have T5 := T3.ex e45
  have f5 := e45 _ _ f3
  -- worths
  refine' st_fld (P := dictT H5 (worths Tb)) ?s3 ?k3
  case s3 =>
    refine g_lock (locks_nod T5 ok.nodA) (locks_at T5) (P0 := ⟨fun v Hz => ∃ a, v = .ref a ∧ Hz a = some (.dT (tents (worths Tb))) ∧ H5 a = none, fun _ _ _ e ⟨a, h1, h2, h3⟩ => ⟨a, h1, e _ _ h2, h3⟩⟩) (fun H6 e6 Hf fr => ?_) fun v H6 Hf H7 H8 e6 fr e7 th ⟨a, ev, ha, na⟩ => ⟨a, ev, th.new fr e7 ha fun _ _ z => (nomatch z), na⟩
    refine Gives.imp (comp_worths (K := K) (Froz.tab fr) (worths_nod ok) (Nat.le_trans (worths_few ok) (by decide))) fun v Hz ⟨a, ev, ha, na⟩ => ⟨a, ev, ha, ?_⟩
    cases hz : H5 a with
    | none => rfl
    | some o =>
      exfalso
      by_cases m : a ∈ (locks d Tb).map (·.1)
      · obtain ⟨p, hp, rfl⟩ := List.mem_map.mp m
        obtain ⟨od, y⟩ := fr.at_ p hp
        rw [y] at na
        cases na
      · rw [fr.old a m, e6 _ _ hz] at na
        cases na
  intro v3 H6 e6 ⟨dw, ev, h3, nw⟩
  subst ev
  have hx6 := e6 _ _ f5
  have ne3 : dw ≠ x := ne_of h3 hx6 (fun z => nomatch z)
  refine ⟨x, C, dx, _, rfl, hx6, S.cl, S.nW, by show 2 < 1000; decide, ?_⟩
  have k6 : ∀ b o, G3 b = some o → b ≠ x → upd H6 x (.ins C dx (putF "_worths" (.ref dw) (putF "uses" (.ref n2) (putF "sources" (.ref n1) [])))) b = some o := fun b o h ne => by
    rw [upd_ne ne]
    exact e6 _ _ (e45 _ _ h)
  have f6' := upd_same (H := H6) (a := x) (o := .ins C dx (putF "_worths" (.ref dw) (putF "uses" (.ref n2) (putF "sources" (.ref n1) []))))
  have g3 : upd H6 x (.ins C dx (putF "_worths" (.ref dw) (putF "uses" (.ref n2) (putF "sources" (.ref n1) [])))) dw = some (.dT (tents (worths Tb))) := by
    rw [upd_ne ne3]
    exact h3
  generalize upd H6 x (.ins C dx (putF "_worths" (.ref dw) (putF "uses" (.ref n2) (putF "sources" (.ref n1) [])))) = G6 at k6 f6' g3 ⊢
  have g1'' := k6 _ _ g1' ne1
  have g2'' := k6 _ _ g2 ne2
  -- pairs
  refine' st_fld1 (P := tup ((sortK ((worths Tb).map (·.1))).map fun k => tupV (k.map kV))) ?s4 ?k4
  case s4 =>
    intro H7 e7 Q7 q7
    refine g_fld (K := K) (P := is (.ref dw)) rfl f6' S.cl S.nW rfl rfl H7 e7 _ fun v H8 e8 ev => ?_
    cases (show v = .ref dw from ev)
    refine ⟨dw, tents (worths Tb), rfl, .inl (e8 _ _ (e7 _ _ g3)), fun p bs hp kk => ?_⟩
    have kk2 : IsKeys (upd H8 p (.lst (bs.map V.ref))) (tents (worths Tb)) bs := Paired.mapP kk fun _ _ z => Ex.new hp _ _ z
    obtain ⟨a1, a2⟩ := asc_pairs kk2 (worths_pair ok)
    exact ⟨p, bs.map V.ref, _, rfl, SqL.of upd_same, a1, fun p2 H9 e9 np h9 => q7 _ H9 ((e8.trans (Ex.new hp)).trans e9) ⟨p2, _, rfl, h9, a2.ex e9⟩⟩
  intro v4 H7 e7 ⟨p, prs, ev, h4, hprs⟩
  subst ev
  have hx7 := e7 _ _ f6'
  have ne4 : p ≠ x := ne_of h4 hx7 (fun z => nomatch z)
  refine ⟨x, C, dx, _, rfl, hx7, S.cl, S.nP, by show 3 < 1000; decide, ?_⟩
  have un : ∀ {b o o'}, H7 b = some o → b ≠ x → upd H7 x o' b = some o := fun h ne => by
    rw [upd_ne ne]
    exact h
  exact q _ (fun b o h ne => un (e7 _ _ (k6 _ _ (k3 _ _ (k2 _ _ h ne) ne) ne)) ne) ⟨dx, n1, n2, dw, p, prs, upd_same, un (e7 _ _ g1'') ne1, un (e7 _ _ g2'') ne2, un (e7 _ _ g3) ne3, un h4 ne4, keys_stay hx7 (fun ys z => nomatch z) hprs⟩
end
end Tb

set_option Elab.async false
set_option linter.all false
set_option maxRecDepth 100000
set_option maxHeartbeats 4000000
/-! Table(..) of a new dict of new rows, and a tuple of its uses: up to twelve names, refused beyond six. -/
namespace K06
open PySem PySem.Spec PyProof.Rows L2 Cm
open DtE (TRow tents lookT)
open Tb (key2 PairK wk TblAt TblC Tab TabAt rowsO firsts manyF)
open Fk (NameV nameB srt srt_perm ents)
open EvP (Ex All2 is Gives)
/-- the table of these names and worths -/
def tblV (C : Addr) (ss xs : List Str) (r : TRow) : EvP.PR := ⟨fun v H => ∃ x, v = .ref x ∧ TblAt C H x ss xs r, fun _ _ _ e ⟨x, h1, h2⟩ => ⟨x, h1, h2.mono e⟩⟩
theorem NamesOk.perm {A B : List Str} (n : NamesOk A) (p : A.Perm B) : NamesOk B := ⟨p.nodup_iff.mp n.nod, fun x hx => n.nm x (p.mem_iff.mpr hx), by rw [← p.length_eq]; exact n.few⟩
theorem NamesOk.srt {A : List Str} (n : NamesOk A) : NamesOk (srt A) := n.perm (srt_perm A).symm
/-- names, perhaps more than a table takes -/
structure NamesL (ss : List Str) : Prop where
  nod : ss.Nodup
  nm : ∀ n ∈ ss, Fk.NameV (.str n)
  few : ss.length ≤ 12
theorem NamesL.srt {A : List Str} (n : NamesL A) : NamesL (srt A) := ⟨(srt_perm A).nodup_iff.mpr n.nod, fun x hx => n.nm x ((srt_perm A).mem_iff.mp hx), by rw [(srt_perm A).length_eq]; exact n.few⟩
theorem firsts_acc : ∀ (l acc : List Str), acc.Nodup → (l.foldl (fun acc n => if n ∈ acc then acc else acc ++ [n]) acc).Nodup ∧ ∀ x, x ∈ l.foldl (fun acc n => if n ∈ acc then acc else acc ++ [n]) acc ↔ x ∈ acc ∨ x ∈ l
  | [], acc, h => ⟨h, fun x => by simp⟩
  | n :: l, acc, h => by
    rw [List.foldl_cons]
    by_cases c : n ∈ acc
    · rw [if_pos c]
      obtain ⟨a, b⟩ := firsts_acc l acc h
      refine ⟨a, fun x => (b x).trans ⟨fun z => z.imp id (.tail _), fun z => ?_⟩⟩
      rcases z with z | z
      · exact .inl z
      · rcases List.mem_cons.mp z with rfl | z
        · exact .inl c
        · exact .inr z
    · rw [if_neg c]
      obtain ⟨a, b⟩ := firsts_acc l (acc ++ [n]) (by
        rw [List.nodup_append]
        refine ⟨h, by simp, fun x hx y hy e => c ?_⟩
        rw [List.mem_singleton.mp hy] at e
        rw [← e]
        exact hx)
      refine ⟨a, fun x => (b x).trans ?_⟩
      rw [List.mem_append, List.mem_singleton, List.mem_cons, or_assoc]
theorem firsts_nodup (l : List Str) : (firsts l).Nodup := (firsts_acc l [] List.nodup_nil).1
theorem mem_firsts {l : List Str} {x : Str} : x ∈ firsts l ↔ x ∈ l := by
  have := (firsts_acc l [] List.nodup_nil).2 x
  unfold firsts
  rw [this]
  simp
theorem firsts_L {l : List Str} (h : ∀ n ∈ l, Fk.NameV (.str n)) (z : l.length ≤ 12) : NamesL (firsts l) := ⟨firsts_nodup l, fun n hn => h n (mem_firsts.mp hn), by
  have := Tb.firsts_len l []
  unfold firsts
  rw [List.length_nil] at this
  omega⟩
def rowG (g : List Key → Int) (B : List Str) (a : Str) : Fk.Row := B.map fun x => (x, g (key2 a x))
theorem rowG_keys {g : List Key → Int} {B : List Str} {a : Str} : (rowG g B a).map (·.1) = B := by
  unfold rowG
  rw [List.map_map]
  exact List.map_id _
theorem mk_tab {A B : List Str} {g : List Key → Int} {T : Tab} (nA : NamesL A) (nB : NamesL B) (eT : T.map (fun t => (t.1, t.2.2)) = A.map fun a => (a, rowG g B a)) (nod : (T.map (·.2.1)).Nodup) (nn : ∀ k, 0 ≤ g k) :
    Tb.TabOk T ∧ T.map (·.1) = A ∧ Tb.usesOf B T = srt B ∧ Tb.worths T = genR g A B := by
  have nT : T.map (·.1) = A := by
    have := congrArg (List.map Prod.fst) eT
    rw [List.map_map, List.map_map] at this
    exact this.trans (List.map_id _)
  have mT : ∀ t ∈ T, t.1 ∈ A ∧ t.2.2 = rowG g B t.1 := fun t ht => by
    have : (t.1, t.2.2) ∈ A.map fun n => (n, rowG g B n) := by
      rw [← eT]
      exact List.mem_map.mpr ⟨t, ht, rfl⟩
    obtain ⟨n, hn, e⟩ := List.mem_map.mp this
    obtain ⟨f1, f2⟩ := Prod.mk.inj e
    exact ⟨by rw [← f1]; exact hn, by rw [← f1, ← f2]⟩
  refine ⟨⟨by rw [nT]; exact nA.nod, nod, fun t ht => nA.nm _ (mT t ht).1, fun t ht => ?_, ?_⟩, nT, ?_, ?_⟩
  · rw [(mT t ht).2]
    refine ⟨by rw [rowG_keys]; exact nB.nod, fun e he => ?_, by unfold rowG; rw [List.length_map]; exact nB.few⟩
    obtain ⟨u, hu, rfl⟩ := List.mem_map.mp he
    exact ⟨nB.nm u hu, nn _⟩
  · have := congrArg List.length nT
    rw [List.length_map] at this
    rw [this]
    exact nA.few
  · unfold Tb.usesOf Tb.firsts
    rw [List.foldl_append, firsts_nod B [] nB.nod, List.nil_append, firsts_in _ _ fun y hy => ?_]
    unfold Tb.namesOf at hy
    obtain ⟨t, ht, hy⟩ := List.mem_flatMap.mp hy
    rw [(mT t ht).2, rowG_keys] at hy
    exact hy
  · have : Tb.worths T = (T.map fun t => (t.1, t.2.2)).flatMap fun p => Tb.wrow p.1 p.2 := by
      rw [List.flatMap_map]
      rfl
    rw [this, eT, List.flatMap_map]
    rfl
section
variable {K : PySem.W.Frag} {σ : L2.St} {H H0 : Hp} {td tu : TE} {C CT : Addr} {E : XK} {Q : VK}
theorem go_makeT {A B : List Str} {g : List Key → Int} (hd : Gives td σ H (tabN H0 (A.map fun a => (a, rowG g B a)))) (hu : Gives tu σ H (tupV (B.map V.str))) (nA : NamesL A) (nB : NamesL B) (nn : ∀ k, 0 ≤ g k)
    (kS : 6 < A.length → ∀ dd H', Ex H H' → H' dd = some (.xd (manyF "sources")) → E (.ref CT) (some dd) H') (kU : A.length ≤ 6 → 6 < B.length → ∀ dd H', Ex H H' → H' dd = some (.xd (manyF "uses")) → E (.ref CT) (some dd) H')
    (kQ : A.length ≤ 6 → B.length ≤ 6 → ∀ v H', Ex H H' → (tblV C (srt A) (srt B) (genR g A B)).R v H' → Q v H') : XG.tMakeGX C (Tb.spTIX K C CT) E (tCons td (tCons tu tNil)) σ H Q := by
  unfold XG.tMakeGX tCons
  dsimp only
  refine hd H (Ex.refl H) _ fun v H2 e2 hv => ?_
  refine hu H2 e2 _ fun w H3 e3 ⟨u, ew, h3⟩ => ?_
  subst ew
  obtain ⟨d, T, rfl, hT, eT, nod, _⟩ := hv.ex
  obtain ⟨to, nT, eu, ewr⟩ := mk_tab nA nB eT nod nn
  refine fun x' dx' nx ndx ne => ?_
  have e4 := Ex.new (o := .own x') ndx
  have nx2 : upd H3 dx' (.own x') x' = none := by
    rw [upd_ne ne.symm]
    exact nx
  have e5 := e4.trans (Ex.new (o := .ins C dx' []) nx2)
  have hx : upd (upd H3 dx' (.own x')) x' (.ins C dx' []) x' = some (.ins C dx' []) := upd_same
  generalize upd (upd H3 dx' (.own x')) x' (.ins C dx' []) = H4 at e5 hx ⊢
  have lT : T.length = A.length := by
    have := congrArg List.length nT
    rwa [List.length_map] at this
  have lB : (Tb.usesOf B T).length = B.length := by rw [eu, (srt_perm _).length_eq]
  have back : ∀ {H'}, Tb.ButX x' H4 H' → Ex H H' := fun k c o hc => k _ _ (e5 _ _ (e3 _ _ (e2 _ _ hc))) (ne_of_none (e3 _ _ (e2 _ _ hc)) nx)
  refine ⟨x', d, u, dx', T, B, rfl, hx, hT.ex (e3.trans e5), to, .inr (SqT.of (e5 _ _ h3)), nB.nm, Nat.le_trans nB.few (by decide), fun c dd H' k hd => kS (by omega) dd H' (back k) hd, fun c1 c2 dd H' k hd => kU (by omega) (by omega) dd H' (back k) hd, fun c1 c2 H5 k5 ta => ⟨rfl, ?_⟩⟩
  rw [eu, nT, ewr] at ta
  exact kQ (by omega) (by omega) _ H5 (back k5) ⟨x', rfl, ta⟩
/-- x, y = a, b -/
theorem st_two {ta tb : TE} {i j : Nat} {P R : EvP.PR} {u : TS} {D : Ends} (h : EvP.Gives ta σ H P) (k : EvP.Gives tb σ H R) (c : ∀ v w H1, Ex H H1 → P.R v H1 → R.R w H1 → u D ((σ.set i (some v)).set j (some w)) H1) : tSeq (tAsg (tTup (tCons ta (tCons tb tNil))) (gTup K 2 (gCons (gName i) (gCons (gName j) gNil)))) u D σ H :=
  h H (Ex.refl H) _ fun v H1 e1 hv => k H1 e1 _ fun w H2 e2 hw => ⟨by show 2 ≤ sizeLine; decide, fun a ha => ⟨a, [v, w], rfl, SqT.of upd_same, rfl, v, _, rfl, w, _, rfl, rfl, c v w _ ((e1.trans e2).trans (Ex.new ha)) (P.mono _ _ _ (e2.trans (Ex.new ha)) hv) (R.mono _ _ _ (Ex.new ha) hw)⟩⟩
/-- joined(x.f, y.f) -/
theorem g_join {i j : Nat} {x y C dx dy n m : Addr} {fs gs : List (Str × V)} {f : Str} {ns ms : List Str} (hi : σ[i]? = some (some (.ref x))) (hj : σ[j]? = some (some (.ref y))) (hx : H x = some (.ins C dx fs)) (hy : H y = some (.ins C dy gs)) (c : Cls K C) (na : NoAttr K C f)
    (lx : fs.lookup f = some (.ref n)) (ly : gs.lookup f = some (.ref m)) (hn : H n = some (.tup (ns.map V.str))) (hm : H m = some (.tup (ms.map V.str))) (len : ns.length + ms.length ≤ 1000) :
    Gives (tCall (Tb.spJoined K) [] E0 (tCons (tFld K (tVar i) f) (tCons (tFld K (tVar j) f) tNil))) σ H (tupV ((srt (Tb.firsts (ns ++ ms))).map V.str)) := fun H1 e Q q =>
  ⟨_, hi, x, C, dx, fs, _, rfl, e _ _ hx, c, na, lx, _, hj, y, C, dy, gs, _, rfl, e _ _ hy, c, na, ly, n, m, ns, ms, rfl, .inr (SqT.of (e _ _ hn)), .inr (SqT.of (e _ _ hm)), len, fun p H' e' _ hp => q _ _ e' ⟨p, rfl, hp⟩⟩
/-- x[a, u] of a table -/
theorem g_ixT {i j l : Nat} {x : Addr} {ss xs : List Str} {r : TRow} {a u : Str} (hi : σ[i]? = some (some (.ref x))) (hj : σ[j]? = some (some (.str a))) (hl : σ[l]? = some (some (.str u))) (tb : TblAt C H x ss xs r) (na : Fk.NameV (.str a)) (nu : Fk.NameV (.str u)) :
    Gives (tOp (Own.rIxOwn C (Tb.spTItem C)) (tVar i) (tTup (tCons (tVar j) (tCons (tVar l) tNil)))) σ H (is (.int (wk r (key2 a u)))) := fun H9 e9 Q9 q9 =>
  ⟨_, hi, _, hj, _, hl, by show 2 ≤ sizeLine; decide, fun p np => by
    have en := Ex.new (o := .tup [.str a, .str u]) np
    have tb9 := tb.mono (e9.trans en)
    exact ⟨Tb.tbl_ins tb9, x, p, ss, xs, r, key2 a u, rfl, tb9, upd_same, ⟨a, u, rfl, na, nu⟩, q9 _ _ en rfl⟩⟩
theorem ents_rowG {g : List Key → Int} {B : List Str} {a : Str} : ents (rowG g B a) = B.map fun u => ((Sum.inr u : Key), V.int (g (key2 a u))) := by
  unfold ents rowG
  rw [List.map_map]
  rfl
end
end K06

set_option Elab.async false
set_option linter.all false
set_option maxRecDepth 100000
set_option maxHeartbeats 4000000
/-! x * n and n * x, x an own instance and n an int. -/
namespace Own
open PySem PySem.Spec PySem.Calls PyProof.Rows PySem.W L2
open AutoSeq1 (wpAny_loadPart')
section
variable {X : Cx} {C f g : Addr} {fd : FuncData} {k : Nat} {ps : List Str} {sp : Sp}
/-- x op n -/
def rOwnI (C : Addr) (sp : Sp) : R2 := fun x y H Q => Ins H x C ∧ (∃ i, y = .int i) ∧ sp [x, y] H Q E0
theorem op_ownI {op : Operator} {fo ro rc : Option Value} (M : Mt X.prog X.w X.K X.mg X.base C (PySem.dunder op.info.2) k ps sp f fd) (first : selfFirst X.K C = true) (hr' : findIn X.K (.ref C) (dunderR op.info.2) = some rc) (hp : rc = none ∨ ∃ g : Addr, rc = some (.ref g))
    (h1 : findIn X.K (.type "int") (PySem.dunder op.info.2) = some fo) (h2 : findIn X.K (.type "int") (dunderR op.info.2) = some ro) (hsub : subIn X.K (.type "int") (.ref C) = some false) (hr : Room k X.A) : OpR X (binaryOp op) (rOwnI C sp) := by
  intro pins s σ H x y v u Q I rx ry h
  obtain ⟨⟨a, dx, fs, rfl, ha⟩, ⟨i, rfl⟩, h⟩ := h
  cases rx
  have ry' := ry
  obtain ⟨t, rfl⟩ := ry
  obtain ⟨ox, od, J⟩ := ins_at I ha
  obtain ⟨m, fr⟩ := I.fr
  exact ksp_binT fr I.ok.mod.kin J (rfl : typeOf (.int i t) = pure (.type "int")) first M.at_ M.fn hr' hp h1 h2 hsub (wpAny_mono (run_at M.ok M.b rfl hr I (.cons (show RelV (V.ref a) (Value.ref a) from rfl) (.cons ry' .nil)) h) (fun _ _ z => cmp_back z) fun _ _ z => z)
theorem int_mul_declines (b : Int) (u : Tok) (l D dx : Addr) :
    Meets (Builtin.«int.__mul__» ⟨[.int b u, .ref l], []⟩) (fun _ R s => s.heap.get? l = some (instObj D dx) ∧ R (.ok (.ret .notImplemented)) s) :=
  .of_wp fun prog w A R s h => by
    obtain ⟨hp, g, d, tk, os⟩ := s
    obtain ⟨hl, h⟩ := h
    wp_walk using wpAny_loadPart' hl, wpAny_load hl
    exact ⟨_, rfl, h⟩
/-- n * x, by the class's __rmul__ -/
def rROwn (C : Addr) (sp : Sp) : R2 := fun x y H Q => (∃ i, x = .int i) ∧ Ins H y C ∧ sp [y, x] H Q E0
theorem op_rmul (M : Mt X.prog X.w X.K X.mg X.base C "__rmul__" k ps sp f fd) (first : selfFirst X.K C = true) (hs : findIn X.K (.ref C) "__mul__" = some (some (.ref g))) (hsub : subIn X.K (.ref C) (.type "int") = some false) (hr : Room k X.A) : OpR X (binaryOp .Mult) (rROwn C sp) := by
  intro pins s σ H x y v u Q I rx ry h
  obtain ⟨⟨i, rfl⟩, ⟨a, dx, fs, rfl, ha⟩, h⟩ := h
  have rx' := rx
  obtain ⟨t, rfl⟩ := rx
  cases ry
  obtain ⟨mA, O, _⟩ := ins_get I.hok ha
  have ob := O.1
  obtain ⟨ox, od, J⟩ := ins_at I ha
  obtain ⟨cd, rest, hcd, hm⟩ := ksp_first first
  have kin := I.kIn
  have one : wpAny (model X.prog X.w) X.A (tryMethod (.ref a) "__rmul__" (.int i t)) (fun r s' => ∃ v, r = some v ∧ EP X pins σ Q v s') X.xe s :=
    ksp_try kin J M.at_ M.fn (wpAny_mono (run_at M.ok M.b rfl hr I (.cons (show RelV (V.ref a) (Value.ref a) from rfl) (.cons rx' .nil)) h) (fun _ _ z => cmp_back z) fun _ _ z => z)
  obtain ⟨hh, gg, d, tt, os⟩ := s
  have L1 : Looks (model X.prog X.w) hh (typeOf (.int i t)) (.type "int") := Looks.of_pure rfl
  have L2 : Looks (model X.prog X.w) hh (typeOf (.ref a)) (.ref C) := J.type
  have L3 : Looks (model X.prog X.w) hh (fillsNumberSlot (.type "int") "mul") true := Looks.of_pure F.fills_int_mul
  have L4 : Looks (model X.prog X.w) hh (fillsNumberSlot (.ref C) "mul") true := fills_K kin hcd hm hs
  have L5 : Looks (model X.prog X.w) hh (isSubtype (.ref C) (.type "int")) false := looks_subIn kin hsub
  have L7 : Looks (model X.prog X.w) hh (numberSlotInPython (.type "int") "mul") false := Looks.of_pure rfl
  have hne : (Value.type "int" == Value.ref C) = false := rfl
  have dec : wpAny (model X.prog X.w) X.A (tryMethod (.int i t) (dunder "mul") (.ref a)) (fun r s' => r = none ∧ s' = ⟨hh, gg, d, tt, os⟩) X.xe ⟨hh, gg, d, tt, os⟩ :=
    wpAny_tryMethod_declines (typeIs_int _ i t) F.slot_int_mul (call_meets F.slot_int_mul (typeIs_int _ i t) F.entry_int_mul (F.args_int_mul_2 _ _) (int_mul_declines i t a C dx) ⟨ob, rfl, rfl, rfl⟩)
  show wpAny _ _ (binaryOp .Mult (.int i t) (.ref a)) _ _ _
  simp only [binaryOp, Operator.info]
  refine wpAny_holding (wpAny_bind ?_)
  unfold binaryOp1
  refine wpAny_bind (L1.at (wpAny_bind (L2.at (wpAny_bind (L3.at ?_)))))
  simp only [hne, Bool.false_eq_true, if_false]
  ksp_lk
  refine wpAny_mono dec (fun r s' hr' => ?_) fun _ _ e => e
  obtain ⟨rfl, rfl⟩ := hr'
  ksp_lk
  refine wpAny_mono one (fun r s' hr' => ?_) fun _ _ e => e
  obtain ⟨v, rfl, hq⟩ := hr'
  ksp_lk
  exact hq
end
end Own

set_option Elab.async false
set_option linter.all false
set_option maxRecDepth 100000
set_option maxHeartbeats 4000000
/-! Own signs by defs that keep their promise while no object is being shown. -/
namespace Own
open PySem PySem.Spec PySem.Calls PyProof.Rows PySem.W L2
structure MtG (P : Program) (w : World) (K : PySem.W.Frag) (mg : Str → Option Value) (base : Heap) (C : Addr) (m : Str) (k : Nat) (ps : List Str) (sp : Sp) (f : Addr) (fd : FuncData) : Prop where
  at_ : PySem.W.findIn K (.ref C) m = some (some (.ref f))
  fn : PySem.W.isFn K (.ref f) = true
  ok : XG.FnG P w K mg base CX0 k f fd ps sp
  len : ∀ vs H Q E, sp vs H Q E → vs.length = ps.length
  b : Binds K fd ps []
section
variable {X : Cx} {pins : List (Addr × Obj)} {σ : L2.St} {H : Hp} {s : Shared} {C f g : Addr} {fd : FuncData} {k : Nat} {ps : List Str} {sp : Sp} {m : Str}
theorem run_atG {A' : Around} {vs : List V} {us : List Value} {Q : VK} (F : XG.FnG X.prog X.w X.K X.mg X.base CX0 k f fd ps sp) (len : ∀ vs H Q E, sp vs H Q E → vs.length = ps.length) (b : Binds X.K fd ps []) (gd : A'.guards = some []) (frames : A'.frames = X.A.frames) (hr : Room k A') (I : Inv X pins σ H s) (r : Vals vs us) (h : sp vs H Q E0) :
    wpAny (model X.prog X.w) A' (call (.ref f) us) (EP X pins σ Q) X.xe s := by
  have e := I.env0
  have n : (us ++ []).length = ps.length := by rw [List.append_nil, ← r.length]; exact len _ _ _ _ h
  refine wpAny_call (codeAny_mono (F A' X.stack s H ⟨us, []⟩ (us ++ []) vs Q E0 gd hr ⟨frames.trans e.frames, e.mod, e.bs, e.bsz, e.funs, e.frf, e.hok, e.bare⟩ (b s us I.kIn n) (by rw [List.append_nil]; exact r) h) fun r s' q => ?_)
  cases r with
  | error e => exact (show False from q).elim
  | ok fl =>
    cases fl with
    | ret u => exact I.after q
    | next => exact (show False from q).elim
    | brk => exact (show False from q).elim
    | cont => exact (show False from q).elim
end
end Own

set_option Elab.async false
set_option linter.all false
set_option maxRecDepth 100000
set_option maxHeartbeats 4000000
/-! x * n and n * x, x an own instance and n an int, by defs that are FnG. -/
namespace Own
open PySem PySem.Spec PySem.Calls PyProof.Rows PySem.W L2
open AutoSeq1 (wpAny_loadPart')
section
variable {X : Cx} {C f g : Addr} {fd : FuncData} {k : Nat} {ps : List Str} {sp : Sp}
theorem op_ownIG {op : Operator} {fo ro rc : Option Value} (M : MtG X.prog X.w X.K X.mg X.base C (PySem.dunder op.info.2) k ps sp f fd) (first : selfFirst X.K C = true) (hr' : findIn X.K (.ref C) (dunderR op.info.2) = some rc) (hp : rc = none ∨ ∃ g : Addr, rc = some (.ref g))
    (h1 : findIn X.K (.type "int") (PySem.dunder op.info.2) = some fo) (h2 : findIn X.K (.type "int") (dunderR op.info.2) = some ro) (hsub : subIn X.K (.type "int") (.ref C) = some false) (gd : X.A.guards = some []) (hr : Room k X.A) : OpR X (binaryOp op) (rOwnI C sp) := by
  intro pins s σ H x y v u Q I rx ry h
  obtain ⟨⟨a, dx, fs, rfl, ha⟩, ⟨i, rfl⟩, h⟩ := h
  cases rx
  have ry' := ry
  obtain ⟨t, rfl⟩ := ry
  obtain ⟨ox, od, J⟩ := ins_at I ha
  obtain ⟨m, fr⟩ := I.fr
  exact ksp_binT fr I.ok.mod.kin J (rfl : typeOf (.int i t) = pure (.type "int")) first M.at_ M.fn hr' hp h1 h2 hsub (wpAny_mono (run_atG M.ok M.len M.b gd rfl hr I (.cons (show RelV (V.ref a) (Value.ref a) from rfl) (.cons ry' .nil)) h) (fun _ _ z => cmp_back z) fun _ _ z => z)
theorem op_rmulG (M : MtG X.prog X.w X.K X.mg X.base C "__rmul__" k ps sp f fd) (first : selfFirst X.K C = true) (hs : findIn X.K (.ref C) "__mul__" = some (some (.ref g))) (hsub : subIn X.K (.ref C) (.type "int") = some false) (gd : X.A.guards = some []) (hr : Room k X.A) : OpR X (binaryOp .Mult) (rROwn C sp) := by
  intro pins s σ H x y v u Q I rx ry h
  obtain ⟨⟨i, rfl⟩, ⟨a, dx, fs, rfl, ha⟩, h⟩ := h
  have rx' := rx
  obtain ⟨t, rfl⟩ := rx
  cases ry
  obtain ⟨mA, O, _⟩ := ins_get I.hok ha
  have ob := O.1
  obtain ⟨ox, od, J⟩ := ins_at I ha
  obtain ⟨cd, rest, hcd, hm⟩ := ksp_first first
  have kin := I.kIn
  have one : wpAny (model X.prog X.w) X.A (tryMethod (.ref a) "__rmul__" (.int i t)) (fun r s' => ∃ v, r = some v ∧ EP X pins σ Q v s') X.xe s :=
    ksp_try kin J M.at_ M.fn (wpAny_mono (run_atG M.ok M.len M.b gd rfl hr I (.cons (show RelV (V.ref a) (Value.ref a) from rfl) (.cons rx' .nil)) h) (fun _ _ z => cmp_back z) fun _ _ z => z)
  obtain ⟨hh, gg, d, tt, os⟩ := s
  have L1 : Looks (model X.prog X.w) hh (typeOf (.int i t)) (.type "int") := Looks.of_pure rfl
  have L2 : Looks (model X.prog X.w) hh (typeOf (.ref a)) (.ref C) := J.type
  have L3 : Looks (model X.prog X.w) hh (fillsNumberSlot (.type "int") "mul") true := Looks.of_pure F.fills_int_mul
  have L4 : Looks (model X.prog X.w) hh (fillsNumberSlot (.ref C) "mul") true := fills_K kin hcd hm hs
  have L5 : Looks (model X.prog X.w) hh (isSubtype (.ref C) (.type "int")) false := looks_subIn kin hsub
  have L7 : Looks (model X.prog X.w) hh (numberSlotInPython (.type "int") "mul") false := Looks.of_pure rfl
  have hne : (Value.type "int" == Value.ref C) = false := rfl
  have dec : wpAny (model X.prog X.w) X.A (tryMethod (.int i t) (dunder "mul") (.ref a)) (fun r s' => r = none ∧ s' = ⟨hh, gg, d, tt, os⟩) X.xe ⟨hh, gg, d, tt, os⟩ :=
    wpAny_tryMethod_declines (typeIs_int _ i t) F.slot_int_mul (call_meets F.slot_int_mul (typeIs_int _ i t) F.entry_int_mul (F.args_int_mul_2 _ _) (int_mul_declines i t a C dx) ⟨ob, rfl, rfl, rfl⟩)
  show wpAny _ _ (binaryOp .Mult (.int i t) (.ref a)) _ _ _
  simp only [binaryOp, Operator.info]
  refine wpAny_holding (wpAny_bind ?_)
  unfold binaryOp1
  refine wpAny_bind (L1.at (wpAny_bind (L2.at (wpAny_bind (L3.at ?_)))))
  simp only [hne, Bool.false_eq_true, if_false]
  ksp_lk
  refine wpAny_mono dec (fun r s' hr' => ?_) fun _ _ e => e
  obtain ⟨rfl, rfl⟩ := hr'
  ksp_lk
  refine wpAny_mono one (fun r s' hr' => ?_) fun _ _ e => e
  obtain ⟨v, rfl, hq⟩ := hr'
  ksp_lk
  exact hq
end
end Own

set_option Elab.async false
set_option linter.all false
set_option maxRecDepth 100000
set_option maxHeartbeats 4000000
/-! x op= y, where the class of x has no sign in place. -/
namespace Own
open PySem PySem.Spec PySem.Calls PyProof.Rows PySem.W L2
section
variable {X : Cx} {C f g : Addr} {fd : FuncData} {k : Nat} {ps : List Str} {sp : Sp}
/-- no class above has the sign in place -/
structure NoIn (K : Frag) (C : Addr) (nm : String) : Prop where
  cls : ∃ cd, clsIn K C = some cd ∧ cd.mro = [.ref C, .type "object"]
  here : findIn K (.ref C) (dunderI nm) = some none
  top : findIn K (.type "object") (dunderI nm) = some none
theorem no_inplace {M : Model} {h : Heap} {K : Frag} {nm : String} {add : Bool} (X : K.In h) (n : NoIn K C nm) : Looks M h (fillsInplaceSlot (.ref C) nm add) false := by
  intro A Q E s k q
  obtain ⟨cd, hc, hm⟩ := n.cls
  have Lm : Looks M h (mroOf (.ref C)) cd.mro := (looks_clsIn X hc).andThen (f := fun cd => pure cd.mro) .now
  have Lm' := Lm.keeps k
  obtain ⟨hh, g, d, tt, os⟩ := s
  have X' : K.In hh := X.keeps k
  have L1 : Looks M hh (typeLookup (.ref C) (dunderI nm)) none := looks_findIn X' n.here
  have L2 : Looks M hh (typeLookup (.type "object") (dunderI nm)) none := looks_findIn X' n.top
  unfold fillsInplaceSlot
  refine wpAny_bind (Lm'.at ?_)
  rw [hm, List.anyM_cons]
  refine wpAny_bind (wpAny_bind (L1.at ?_))
  refine wpAny_pure ?_
  simp only [Bool.false_eq_true, if_false]
  rw [List.anyM_cons]
  refine wpAny_bind (wpAny_bind (L2.at ?_))
  refine wpAny_pure ?_
  simp only [Bool.false_eq_true, if_false, List.anyM_nil]
  exact wpAny_pure q
def tIpOwn (C : Addr) (sp : Sp) : TIp := fun x y H Q => Ins H x C ∧ Ins H y C ∧ sp [x, y] H Q E0
theorem ip_own {op : Operator} (M : Mt X.prog X.w X.K X.mg X.base C (PySem.dunder op.info.2) k ps sp f fd) (first : selfFirst X.K C = true) (n : NoIn X.K C op.info.2) (hr : Room k X.A) : PIp X op (tIpOwn C sp) := by
  intro pins s σ H x y v u Q I rx ry h
  obtain ⟨⟨a, dx, fs, rfl, ha⟩, ⟨b, dy, gs, rfl, hb⟩, h⟩ := h
  cases rx
  cases ry
  obtain ⟨ox, od, J⟩ := ins_at I ha
  obtain ⟨oy, oe, L⟩ := ins_at I hb
  obtain ⟨cd, rest, hcd, hm⟩ := ksp_first first
  have kin := I.kIn
  have run := wpAny_mono (run_at M.ok M.b rfl hr I (.cons (show RelV (V.ref a) (Value.ref a) from rfl) (.cons (show RelV (V.ref b) (Value.ref b) from rfl) .nil)) h) (fun _ _ z => cmp_back z) fun _ _ z => z
  unfold inplaceOp
  refine wpAny_holding (wpAny_bind (J.type.here (wpAny_bind ((no_inplace kin n).here ?_))))
  simp only [Bool.false_eq_true, if_false]
  refine wpAny_bind ?_
  unfold binaryOp1
  refine wpAny_bind (J.type.here (wpAny_bind (L.type.here (wpAny_bind ((fills_K kin hcd hm M.at_).here ?_)))))
  simp only [beq_self_eq_true, if_true]
  refine wpAny_bind (wpAny_pure ?_)
  simp only [Bool.and_false, Bool.false_eq_true, if_false, Bool.false_and]
  refine wpAny_bind (wpAny_pure ?_)
  simp only [Bool.false_eq_true, if_false]
  refine wpAny_bind (m := tryMethod (.ref a) _ (.ref b)) ?_
  unfold tryMethod
  refine wpAny_bind (special_fn kin J M.at_ (beq_iff_eq.mp M.fn) (wpAny_mono run (fun v s' hv => ?_) fun _ _ e => e))
  cases v <;> first | exact hv.elim | exact wpAny_pure (wpAny_pure (wpAny_pure hv))
def tIpOwnI (C : Addr) (sp : Sp) : TIp := fun x y H Q => Ins H x C ∧ (∃ i, y = .int i) ∧ sp [x, y] H Q E0
theorem ip_ownI {op : Operator} {fo ro rc : Option Value} (M : Mt X.prog X.w X.K X.mg X.base C (PySem.dunder op.info.2) k ps sp f fd) (first : selfFirst X.K C = true) (n : NoIn X.K C op.info.2) (hr' : findIn X.K (.ref C) (dunderR op.info.2) = some rc) (hp : rc = none ∨ ∃ g : Addr, rc = some (.ref g))
    (h1 : findIn X.K (.type "int") (PySem.dunder op.info.2) = some fo) (h2 : findIn X.K (.type "int") (dunderR op.info.2) = some ro) (hsub : subIn X.K (.type "int") (.ref C) = some false) (hr : Room k X.A) : PIp X op (tIpOwnI C sp) := by
  intro pins s σ H x y v u Q I rx ry h
  obtain ⟨⟨a, dx, fs, rfl, ha⟩, ⟨i, rfl⟩, h⟩ := h
  cases rx
  have ry' := ry
  obtain ⟨t, rfl⟩ := ry
  obtain ⟨ox, od, J⟩ := ins_at I ha
  obtain ⟨cd, rest, hcd, hm⟩ := ksp_first first
  have kin := I.kIn
  have one : wpAny (model X.prog X.w) X.A (tryMethod (.ref a) (PySem.dunder op.info.2) (.int i t)) (fun r s' => ∃ v, r = some v ∧ EP X pins σ Q v s') X.xe s :=
    ksp_try kin J M.at_ M.fn (wpAny_mono (run_at M.ok M.b rfl hr I (.cons (show RelV (V.ref a) (Value.ref a) from rfl) (.cons ry' .nil)) h) (fun _ _ z => cmp_back z) fun _ _ z => z)
  have Lm : Looks (model X.prog X.w) s.heap (fillsInplaceSlot (.ref C) op.info.2 (op == .Add)) false := no_inplace kin n
  have at_ := M.at_
  obtain ⟨hh, gg, d, tt, os⟩ := s
  have L1 : Looks (model X.prog X.w) hh (typeOf (.ref a)) (.ref C) := J.type
  have L2 : Looks (model X.prog X.w) hh (typeOf (.int i t)) (.type "int") := Looks.of_pure rfl
  have L3 : Looks (model X.prog X.w) hh (fillsNumberSlot (.ref C) op.info.2) true := fills_K kin hcd hm at_
  have L4 : Looks (model X.prog X.w) hh (fillsNumberSlot (.type "int") op.info.2) ((fo.isSome && !isSeqSlot fo) || (ro.isSome && !isSeqSlot ro)) := ksp_fillsT kin h1 h2
  have L5 : Looks (model X.prog X.w) hh (isSubtype (.type "int") (.ref C)) false := looks_subIn kin hsub
  have L6 : Looks (model X.prog X.w) hh (numberSlotInPython (.ref C) op.info.2) true := ksp_inPy kin at_ hr' hp
  have L7 : Looks (model X.prog X.w) hh (numberSlotInPython (.type "int") op.info.2) false := Looks.of_pure rfl
  have L8 : Looks (model X.prog X.w) hh (typeLookup (.type "int") (dunderR op.info.2)) ro := looks_findIn kin h2
  generalize ((fo.isSome && !isSeqSlot fo) || (ro.isSome && !isSeqSlot ro)) = right at L4
  have hne : (Value.ref C == Value.type "int") = false := rfl
  unfold inplaceOp
  refine wpAny_holding (wpAny_bind (L1.at (wpAny_bind (Lm.at ?_))))
  simp only [Bool.false_eq_true, if_false]
  refine wpAny_bind ?_
  unfold binaryOp1
  refine wpAny_bind (L1.at (wpAny_bind (L2.at (wpAny_bind (L3.at ?_)))))
  simp only [hne, Bool.false_eq_true, if_false]
  cases right with
  | false =>
    ksp_lk
    refine wpAny_mono one (fun r s' hr' => ?_) fun _ _ e => e
    obtain ⟨v, rfl, hq⟩ := hr'
    ksp_lk
    exact hq
  | true =>
    ksp_lk
    refine wpAny_mono one (fun r s' hr' => ?_) fun _ _ e => e
    obtain ⟨v, rfl, hq⟩ := hr'
    ksp_lk
    exact hq
end
end Own

set_option Elab.async false
set_option linter.all false
set_option maxRecDepth 100000
set_option maxHeartbeats 4000000
/-! x op y of own instances, and x op= n, by defs that are FnG. -/
namespace Own
open PySem PySem.Spec PySem.Calls PyProof.Rows PySem.W L2
section
variable {X : Cx} {C f g : Addr} {fd : FuncData} {k : Nat} {ps : List Str} {sp : Sp}
theorem op_ownG {op : Operator} (M : MtG X.prog X.w X.K X.mg X.base C (PySem.dunder op.info.2) k ps sp f fd) (first : selfFirst X.K C = true) (gd : X.A.guards = some []) (hr : Room k X.A) : OpR X (binaryOp op) (rOwn C sp) := by
  intro pins s σ H x y v u Q I rx ry h
  obtain ⟨⟨a, dx, fs, rfl, ha⟩, ⟨b, dy, gs, rfl, hb⟩, h⟩ := h
  cases rx
  cases ry
  obtain ⟨ox, od, J⟩ := ins_at I ha
  obtain ⟨oy, oe, L⟩ := ins_at I hb
  obtain ⟨m, fr⟩ := I.fr
  exact PySem.W.binop_K fr I.ok.mod.kin J L.type first M.at_ M.fn (wpAny_mono (run_atG M.ok M.len M.b gd rfl hr I (.cons (show RelV (V.ref a) (Value.ref a) from rfl) (.cons (show RelV (V.ref b) (Value.ref b) from rfl) .nil)) h) (fun _ _ z => cmp_back z) fun _ _ z => z)
theorem ip_ownIG {op : Operator} {fo ro rc : Option Value} (M : MtG X.prog X.w X.K X.mg X.base C (PySem.dunder op.info.2) k ps sp f fd) (first : selfFirst X.K C = true) (n : NoIn X.K C op.info.2) (hr' : findIn X.K (.ref C) (dunderR op.info.2) = some rc) (hp : rc = none ∨ ∃ g : Addr, rc = some (.ref g))
    (h1 : findIn X.K (.type "int") (PySem.dunder op.info.2) = some fo) (h2 : findIn X.K (.type "int") (dunderR op.info.2) = some ro) (hsub : subIn X.K (.type "int") (.ref C) = some false) (gd : X.A.guards = some []) (hr : Room k X.A) : PIp X op (tIpOwnI C sp) := by
  intro pins s σ H x y v u Q I rx ry h
  obtain ⟨⟨a, dx, fs, rfl, ha⟩, ⟨i, rfl⟩, h⟩ := h
  cases rx
  have ry' := ry
  obtain ⟨t, rfl⟩ := ry
  obtain ⟨ox, od, J⟩ := ins_at I ha
  obtain ⟨cd, rest, hcd, hm⟩ := ksp_first first
  have kin := I.kIn
  have one : wpAny (model X.prog X.w) X.A (tryMethod (.ref a) (PySem.dunder op.info.2) (.int i t)) (fun r s' => ∃ v, r = some v ∧ EP X pins σ Q v s') X.xe s :=
    ksp_try kin J M.at_ M.fn (wpAny_mono (run_atG M.ok M.len M.b gd rfl hr I (.cons (show RelV (V.ref a) (Value.ref a) from rfl) (.cons ry' .nil)) h) (fun _ _ z => cmp_back z) fun _ _ z => z)
  have Lm : Looks (model X.prog X.w) s.heap (fillsInplaceSlot (.ref C) op.info.2 (op == .Add)) false := no_inplace kin n
  have at_ := M.at_
  obtain ⟨hh, gg, d, tt, os⟩ := s
  have L1 : Looks (model X.prog X.w) hh (typeOf (.ref a)) (.ref C) := J.type
  have L2 : Looks (model X.prog X.w) hh (typeOf (.int i t)) (.type "int") := Looks.of_pure rfl
  have L3 : Looks (model X.prog X.w) hh (fillsNumberSlot (.ref C) op.info.2) true := fills_K kin hcd hm at_
  have L4 : Looks (model X.prog X.w) hh (fillsNumberSlot (.type "int") op.info.2) ((fo.isSome && !isSeqSlot fo) || (ro.isSome && !isSeqSlot ro)) := ksp_fillsT kin h1 h2
  have L5 : Looks (model X.prog X.w) hh (isSubtype (.type "int") (.ref C)) false := looks_subIn kin hsub
  have L6 : Looks (model X.prog X.w) hh (numberSlotInPython (.ref C) op.info.2) true := ksp_inPy kin at_ hr' hp
  have L7 : Looks (model X.prog X.w) hh (numberSlotInPython (.type "int") op.info.2) false := Looks.of_pure rfl
  have L8 : Looks (model X.prog X.w) hh (typeLookup (.type "int") (dunderR op.info.2)) ro := looks_findIn kin h2
  generalize ((fo.isSome && !isSeqSlot fo) || (ro.isSome && !isSeqSlot ro)) = right at L4
  have hne : (Value.ref C == Value.type "int") = false := rfl
  unfold inplaceOp
  refine wpAny_holding (wpAny_bind (L1.at (wpAny_bind (Lm.at ?_))))
  simp only [Bool.false_eq_true, if_false]
  refine wpAny_bind ?_
  unfold binaryOp1
  refine wpAny_bind (L1.at (wpAny_bind (L2.at (wpAny_bind (L3.at ?_)))))
  simp only [hne, Bool.false_eq_true, if_false]
  cases right with
  | false =>
    ksp_lk
    refine wpAny_mono one (fun r s' hr' => ?_) fun _ _ e => e
    obtain ⟨v, rfl, hq⟩ := hr'
    ksp_lk
    exact hq
  | true =>
    ksp_lk
    refine wpAny_mono one (fun r s' hr' => ?_) fun _ _ e => e
    obtain ⟨v, rfl, hq⟩ := hr'
    ksp_lk
    exact hq
end
end Own

set_option Elab.async false
set_option linter.all false
set_option maxRecDepth 100000
set_option maxHeartbeats 4000000
/-! Sums of tables, greater and lesser worths. -/
namespace K06
open PySem PySem.Spec PyProof.Rows L2 Cm
open DtE (TRow tents lookT valV_tents)
open Tb (key2 PairK wk TblAt TblC Tab TabAt rowsO tmeth spTItem spTOther firsts manyF)
open Fk (NameV nameB srt srt_perm ents)
open EvP (Ex All2 is Gives)
abbrev NA5 : List Str := ["self", "other", "sources", "uses", "a", "x"]
def scInA : Scope := { kind := ScopeKind.function, names := [(Str.ofString ".0", NameKind.local), (Str.ofString "a", NameKind.cell), (Str.ofString "other", NameKind.cell), (Str.ofString "self", NameKind.cell), (Str.ofString "uses", NameKind.cell)], isGenerator := false, isCoroutine := false }
abbrev rInt1 : List V → Hp → VK → Prop := fun xs H Q => (∃ i, xs = [.int i] ∧ Q (.int i) H) ∨ ∃ k, xs = [.bl k] ∧ Q (.int (if k then 1 else 0)) H
abbrev rMx : List V → Hp → VK → Prop := fun xs H Q => ∃ i j, xs = [.int i, .int j] ∧ Q (.int (if j > i then j else i)) H
abbrev rMn : List V → Hp → VK → Prop := fun xs H Q => ∃ i j, xs = [.int i, .int j] ∧ Q (.int (if j < i then j else i)) H
abbrev tIx (C : Addr) (i : Nat) : TE := tOp (Own.rIxOwn C (spTItem C)) (tVar i) (tTup (tCons (tVar 4) (tCons (tVar 5) tNil)))
def opA (x y : Int) : Int := x + y
def opO (x y : Int) : Int := if y > x then y else x
def opN (x y : Int) : Int := if y < x then y else x
theorem g_two {K : PySem.W.Frag} {r : List V → Hp → VK → Prop} {op : Int → Int → Int} (hr : ∀ i j H Q, Q (.int (op i j)) H → r [.int i, .int j] H Q) {σ : L2.St} {H : Hp} {ta tb : TE} {i j : Int} (h : Gives ta σ H (is (.int i))) (k : Gives tb σ H (is (.int j))) :
    Gives (tCB r (tCons (tCB rInt1 (tCons ta tNil)) (tCons (tCB rInt1 (tCons tb tNil)) tNil))) σ H (is (.int (op i j))) := fun H1 e1 Q q =>
  h H1 e1 _ fun v H2 e2 ev => .inl ⟨i, by rw [show v = _ from ev], k H2 (e1.trans e2) _ fun w H3 e3 ew => .inl ⟨j, by rw [show w = _ from ew], hr i j H3 _ (q _ _ (e2.trans e3) rfl)⟩⟩
/-- two tables: their names joined, the worths by op; or too many names -/
def spTBoth (C CT : Addr) (op : Int → Int → Int) : Sp := fun vs H Q E => ∃ (x y : Addr) (ss xs ss' xs' : List Str) (r r' : TRow), vs = [.ref x, .ref y] ∧ TblAt C H x ss xs r ∧ TblAt C H y ss' xs' r' ∧ ss.length ≤ 6 ∧ xs.length ≤ 6 ∧ ss'.length ≤ 6 ∧ xs'.length ≤ 6 ∧ NamesL (firsts (ss ++ ss')) ∧ NamesL (firsts (xs ++ xs')) ∧
  (∀ k, 0 ≤ op (wk r k) (wk r' k)) ∧ (6 < (firsts (ss ++ ss')).length → ∀ dd H', Ex H H' → H' dd = some (.xd (manyF "sources")) → E (.ref CT) (some dd) H') ∧ ((firsts (ss ++ ss')).length ≤ 6 → 6 < (firsts (xs ++ xs')).length → ∀ dd H', Ex H H' → H' dd = some (.xd (manyF "uses")) → E (.ref CT) (some dd) H') ∧
  ((firsts (ss ++ ss')).length ≤ 6 → (firsts (xs ++ xs')).length ≤ 6 → ∀ c H', Ex H H' → TblAt C H' c (srt (firsts (ss ++ ss'))) (srt (firsts (xs ++ xs'))) (genR (fun k => op (wk r k) (wk r' k)) (srt (firsts (ss ++ ss'))) (srt (firsts (xs ++ xs')))) → Q (.ref c) H')
theorem spTBoth_len {C CT : Addr} {op : Int → Int → Int} : ∀ vs H Q E, spTBoth C CT op vs H Q E → vs.length = (["self", "other"] : List Str).length := fun vs H Q E h => by
  obtain ⟨x, y, ss, xs, ss', xs', r, r', rfl, _⟩ := h
  rfl
section
variable {P : Program} {w : World} {K : PySem.W.Frag} {mg : Str → Option Value} {base : Heap} {C CT f fO fI fG fJ : Addr} {fd fdO fdI dG fdJ : FuncData}
theorem sctadd : FnScope NA5 ["self", "other"] (defScope (tmeth 7)) := ⟨rfl, rfl, rfl, by decide +kernel, rfl, by decide +kernel, by decide +kernel⟩
theorem ok_tadd (F : Fun K "__add__" "Table.__add__" (tmeth 7) f fd) (S : TblC K C) (T : Fk.Blt mg) (GO : FnOk P w K mg base CX0 1 fO fdO ["other"] (spTOther C)) (bO : Binds K fdO ["other"] []) (gO : mg "check_other" = some (.ref fO)) (kO : PySem.W.keepIn K (.ref fO) = true)
    (GJ : XG.FnG P w K mg base CX0 3 fJ fdJ ["one", "other"] (Tb.spJoined K)) (bJ : Binds K fdJ ["one", "other"] []) (gJ : mg "joined" = some (.ref fJ)) (kJ : PySem.W.keepIn K (.ref fJ) = true)
    (M : Own.Mt P w K mg base C "__getitem__" 3 ["self", "at"] (spTItem C) fG dG) (MF : PySem.W.fnIn K fG = true)
    (MK : Mk K C fI) (GI : XG.FnG P w K mg base (L2.CX P w) 5 fI fdI ["self", "rows", "uses"] (Tb.spTIX K C CT)) (bI : Binds K fdI ["self", "rows", "uses"] []) (gT : mg "Table" = some (.ref C)) : XG.FnG P w K mg base (L2.CX P w) 7 f fd ["self", "other"] (spTBoth C CT opA) := by
  have nd := sctadd.nd
  refine XG.Fun.okGX F sctadd spTBoth_len fun cdv A outer sh H vs Q E gd hr h => ?_
  obtain ⟨x, y, ss, xs, ss', xs', r, r', rfl, tb, tb', l1, l2, l3, l4, nA, nB, nn, kS, kU, q⟩ := h
  refine ⟨_, pss_cons (ps_expr (pe_call GO (hr.mono (by decide)) (by rfl) gO kO bO .nil pass0 (pa_cons (pv 1) pa_nil)))
    (pss_cons (ps_asg (pe_tup (pa_cons (Tb.pe_callG GJ Tb.spJoined_len gd (hr.mono (by decide)) (by rfl) gJ kJ bJ (pa_cons (pe_fld (pv 0) rfl) (pa_cons (pe_fld (pv 1) rfl) pa_nil))) (pa_cons (Tb.pe_callG GJ Tb.spJoined_len gd (hr.mono (by decide)) (by rfl) gJ kJ bJ (pa_cons (pe_fld (pv 0) rfl) (pa_cons (pe_fld (pv 1) rfl) pa_nil))) pa_nil)))
      (pg_tup rfl (pgs_cons (pg_name (i := 2) nd rfl (Or.inl rfl)) (pgs_cons (pg_name (i := 3) nd rfl (Or.inr rfl)) pgs_nil))))
    (pss_one (ps_ret (XG.pe_makeGX MK GI Tb.spTIX_len gd hr bI (E := E) (fun σ => passAt (W := fun cls d _ H => E cls d H) (takes_of rfl rfl rfl rfl) σ) (by rfl) gT (pa_cons
      (pe_dc (own := [("a", 4)]) (g := gName 4) (tt := tYes) (tk := tVar 4) (tv := tDc (iTup K (tVar 3)) (gName 5) tYes (tVar 5) (tOp (rI0 fun i j => .int (i + j)) (tIx C 0) (tIx C 1)) [5]) rfl nd (pi_tup (pv 2)) (blkOk_by (N := NA5) (sc := defScope (tmeth 7)) (by decide +kernel))
        (fun _ _ _ _ _ => pg_name (i := 4) nd rfl (Or.inr rfl)) (fun _ _ _ _ _ => pts_nil) (fun _ _ _ _ _ => pv 4) (fun _ _ _ _ _ => by
          refine pe_dc (own := [("x", 5)]) (wi := iTup K (tVar 3)) (g := gName 5) (tt := tYes) (tk := tVar 5) (tv := (tOp (rI0 fun i j => .int (i + j)) (tIx C 0) (tIx C 1))) rfl nd (pi_tup (pv 3)) (blkOk_by (N := NA5) (sc := scInA) (by decide +kernel))
            (fun _ _ _ _ _ => pg_name (i := 5) nd rfl (Or.inl rfl)) (fun _ _ _ _ _ => pts_nil) (fun _ _ _ _ _ => pv 5) (fun _ _ _ _ _ => pe_op op_add (Own.pe_ixOwn M MF (hr.mono (by decide)) (pv 0) (pe_tup (pa_cons (pv 4) (pa_cons (pv 5) pa_nil)))) (Own.pe_ixOwn M MF (hr.mono (by decide)) (pv 1) (pe_tup (pa_cons (pv 4) (pa_cons (pv 5) pa_nil)))))))
      (pa_cons (pv 3) pa_nil)))))), ?_⟩
  have tbx := tb
  have tby := tb'
  obtain ⟨dx, n1, n2, dw, pp, prs, h1, h2, h3, h4, h5, h6⟩ := tb
  obtain ⟨dy, m1, m2, dw', pp', prs', k1, k2, k3, k4, k5, k6⟩ := tb'
  refine ⟨_, rfl, y, ss', xs', r', rfl, tby, ?_⟩
  dsimp only
  refine st_two (g_join rfl rfl h1 k1 S.cl S.nS rfl rfl h2 k2 (by omega)) (g_join rfl rfl h1 k1 S.cl S.nU rfl rfl h3 k3 (by omega)) fun v w H1 e1 ⟨n, ev, hn⟩ ⟨m, ew, hm⟩ => ?_
  subst ev
  subst ew
  have nA' := nA.srt
  have nB' := nB.srt
  have sA := Fk.srt_eq (srt_perm (firsts (ss ++ ss')))
  have sB := Fk.srt_eq (srt_perm (firsts (xs ++ xs')))
  have lA := (srt_perm (firsts (ss ++ ss'))).length_eq
  have lB := (srt_perm (firsts (xs ++ xs'))).length_eq
  rw [← lA] at kS kU q
  rw [← lB] at kU q
  generalize srt (firsts (ss ++ ss')) = A at nA' hn q sA kS kU ⊢
  generalize srt (firsts (xs ++ xs')) = B at nB' hm q sB kU ⊢
  have A6 := nA'.few
  have B6 := nB'.few
  refine go_makeT (K := K) (H0 := H1) (g := fun k => opA (wk r k) (wk r' k)) (comp_tab (K := K) (σ := [some (.ref x), some (.ref y), some (.ref n), some (.ref m), none, none]) (vs := [4]) (i := 4) (rowG (fun k => opA (wk r k) (wk r' k)) B) (EvP.varP rfl ⟨n, rfl, hn⟩) (by omega) nA'.nod (by show 4 < 6; decide) (fun _ => rfl) (fun a ha H2 e2 => ?_)) (EvP.varP rfl ⟨m, rfl, hm⟩) nA' nB' nn (fun c dd H2 e2 hd => kS c dd H2 (e1.trans e2) hd) (fun c c2 dd H2 e2 hd => kU c c2 dd H2 (e1.trans e2) hd) fun c c2 v H2 e2 ⟨z, ev, tc⟩ => ?_
  · rw [ents_rowG]
    refine Cm.comp_dict (i := 5) (fun u => V.int (opA (wk r (key2 a u)) (wk r' (key2 a u)))) (EvP.varP rfl ⟨m, rfl, e2 _ _ hm⟩) (by omega) nB'.nod (by show 5 < 6; decide) (fun _ => rfl) (fun u hu => ?_)
    exact g_op (P := is (.int (wk r (key2 a u)))) (R := is (.int (wk r' (key2 a u)))) (g_ixT rfl rfl rfl (tbx.mono (e1.trans e2)) (nA'.nm a ha) (nB'.nm u hu)) (g_ixT rfl rfl rfl (tby.mono (e1.trans e2)) (nA'.nm a ha) (nB'.nm u hu)) fun x y H9 e9 ex ey Q9 k9 => ⟨_, _, ex, ey, k9 _ _ (Ex.refl _) rfl⟩
  · subst ev
    rw [sA, sB] at tc
    exact q c c2 z H2 (e1.trans e2) tc
theorem sctor : FnScope NA5 ["self", "other"] (defScope (tmeth 8)) := ⟨rfl, rfl, rfl, by decide +kernel, rfl, by decide +kernel, by decide +kernel⟩
theorem ok_tor (F : Fun K "__or__" "Table.__or__" (tmeth 8) f fd) (S : TblC K C) (T : Fk.Blt mg) (hB : mg "max" = none) (GO : FnOk P w K mg base CX0 1 fO fdO ["other"] (spTOther C)) (bO : Binds K fdO ["other"] []) (gO : mg "check_other" = some (.ref fO)) (kO : PySem.W.keepIn K (.ref fO) = true)
    (GJ : XG.FnG P w K mg base CX0 3 fJ fdJ ["one", "other"] (Tb.spJoined K)) (bJ : Binds K fdJ ["one", "other"] []) (gJ : mg "joined" = some (.ref fJ)) (kJ : PySem.W.keepIn K (.ref fJ) = true)
    (M : Own.Mt P w K mg base C "__getitem__" 3 ["self", "at"] (spTItem C) fG dG) (MF : PySem.W.fnIn K fG = true)
    (MK : Mk K C fI) (GI : XG.FnG P w K mg base (L2.CX P w) 5 fI fdI ["self", "rows", "uses"] (Tb.spTIX K C CT)) (bI : Binds K fdI ["self", "rows", "uses"] []) (gT : mg "Table" = some (.ref C)) : XG.FnG P w K mg base (L2.CX P w) 7 f fd ["self", "other"] (spTBoth C CT opO) := by
  have nd := sctor.nd
  refine XG.Fun.okGX F sctor spTBoth_len fun cdv A outer sh H vs Q E gd hr h => ?_
  obtain ⟨x, y, ss, xs, ss', xs', r, r', rfl, tb, tb', l1, l2, l3, l4, nA, nB, nn, kS, kU, q⟩ := h
  refine ⟨_, pss_cons (ps_expr (pe_call GO (hr.mono (by decide)) (by rfl) gO kO bO .nil pass0 (pa_cons (pv 1) pa_nil)))
    (pss_cons (ps_asg (pe_tup (pa_cons (Tb.pe_callG GJ Tb.spJoined_len gd (hr.mono (by decide)) (by rfl) gJ kJ bJ (pa_cons (pe_fld (pv 0) rfl) (pa_cons (pe_fld (pv 1) rfl) pa_nil))) (pa_cons (Tb.pe_callG GJ Tb.spJoined_len gd (hr.mono (by decide)) (by rfl) gJ kJ bJ (pa_cons (pe_fld (pv 0) rfl) (pa_cons (pe_fld (pv 1) rfl) pa_nil))) pa_nil)))
      (pg_tup rfl (pgs_cons (pg_name (i := 2) nd rfl (Or.inl rfl)) (pgs_cons (pg_name (i := 3) nd rfl (Or.inr rfl)) pgs_nil))))
    (pss_one (ps_ret (XG.pe_makeGX MK GI Tb.spTIX_len gd hr bI (E := E) (fun σ => passAt (W := fun cls d _ H => E cls d H) (takes_of rfl rfl rfl rfl) σ) (by rfl) gT (pa_cons
      (pe_dc (own := [("a", 4)]) (g := gName 4) (tt := tYes) (tk := tVar 4) (tv := tDc (iTup K (tVar 3)) (gName 5) tYes (tVar 5) (tCB rMx (tCons (tCB rInt1 (tCons (tIx C 0) tNil)) (tCons (tCB rInt1 (tCons (tIx C 1) tNil)) tNil))) [5]) rfl nd (pi_tup (pv 2)) (blkOk_by (N := NA5) (sc := defScope (tmeth 8)) (by decide +kernel))
        (fun _ _ _ _ _ => pg_name (i := 4) nd rfl (Or.inr rfl)) (fun _ _ _ _ _ => pts_nil) (fun _ _ _ _ _ => pv 4) (fun _ _ _ _ _ => by
          refine pe_dc (own := [("x", 5)]) (wi := iTup K (tVar 3)) (g := gName 5) (tt := tYes) (tk := tVar 5) (tv := (tCB rMx (tCons (tCB rInt1 (tCons (tIx C 0) tNil)) (tCons (tCB rInt1 (tCons (tIx C 1) tNil)) tNil)))) rfl nd (pi_tup (pv 3)) (blkOk_by (N := NA5) (sc := scInA) (by decide +kernel))
            (fun _ _ _ _ _ => pg_name (i := 5) nd rfl (Or.inl rfl)) (fun _ _ _ _ _ => pts_nil) (fun _ _ _ _ _ => pv 5) (fun _ _ _ _ _ => pe_callB (call_max2 rfl) (by rfl) hB (by decide +kernel) (pa_cons (pe_callTy (T := "int") call_int1 (by rfl) T.int (by decide +kernel) (pa_cons (Own.pe_ixOwn M MF (hr.mono (by decide)) (pv 0) (pe_tup (pa_cons (pv 4) (pa_cons (pv 5) pa_nil)))) pa_nil)) (pa_cons (pe_callTy (T := "int") call_int1 (by rfl) T.int (by decide +kernel) (pa_cons (Own.pe_ixOwn M MF (hr.mono (by decide)) (pv 1) (pe_tup (pa_cons (pv 4) (pa_cons (pv 5) pa_nil)))) pa_nil)) pa_nil)))))
      (pa_cons (pv 3) pa_nil)))))), ?_⟩
  have tbx := tb
  have tby := tb'
  obtain ⟨dx, n1, n2, dw, pp, prs, h1, h2, h3, h4, h5, h6⟩ := tb
  obtain ⟨dy, m1, m2, dw', pp', prs', k1, k2, k3, k4, k5, k6⟩ := tb'
  refine ⟨_, rfl, y, ss', xs', r', rfl, tby, ?_⟩
  dsimp only
  refine st_two (g_join rfl rfl h1 k1 S.cl S.nS rfl rfl h2 k2 (by omega)) (g_join rfl rfl h1 k1 S.cl S.nU rfl rfl h3 k3 (by omega)) fun v w H1 e1 ⟨n, ev, hn⟩ ⟨m, ew, hm⟩ => ?_
  subst ev
  subst ew
  have nA' := nA.srt
  have nB' := nB.srt
  have sA := Fk.srt_eq (srt_perm (firsts (ss ++ ss')))
  have sB := Fk.srt_eq (srt_perm (firsts (xs ++ xs')))
  have lA := (srt_perm (firsts (ss ++ ss'))).length_eq
  have lB := (srt_perm (firsts (xs ++ xs'))).length_eq
  rw [← lA] at kS kU q
  rw [← lB] at kU q
  generalize srt (firsts (ss ++ ss')) = A at nA' hn q sA kS kU ⊢
  generalize srt (firsts (xs ++ xs')) = B at nB' hm q sB kU ⊢
  have A6 := nA'.few
  have B6 := nB'.few
  refine go_makeT (K := K) (H0 := H1) (g := fun k => opO (wk r k) (wk r' k)) (comp_tab (K := K) (σ := [some (.ref x), some (.ref y), some (.ref n), some (.ref m), none, none]) (vs := [4]) (i := 4) (rowG (fun k => opO (wk r k) (wk r' k)) B) (EvP.varP rfl ⟨n, rfl, hn⟩) (by omega) nA'.nod (by show 4 < 6; decide) (fun _ => rfl) (fun a ha H2 e2 => ?_)) (EvP.varP rfl ⟨m, rfl, hm⟩) nA' nB' nn (fun c dd H2 e2 hd => kS c dd H2 (e1.trans e2) hd) (fun c c2 dd H2 e2 hd => kU c c2 dd H2 (e1.trans e2) hd) fun c c2 v H2 e2 ⟨z, ev, tc⟩ => ?_
  · rw [ents_rowG]
    refine Cm.comp_dict (i := 5) (fun u => V.int (opO (wk r (key2 a u)) (wk r' (key2 a u)))) (EvP.varP rfl ⟨m, rfl, e2 _ _ hm⟩) (by omega) nB'.nod (by show 5 < 6; decide) (fun _ => rfl) (fun u hu => ?_)
    exact g_two (K := K) (op := opO) (fun i j H Q q => ⟨i, j, rfl, q⟩) (g_ixT rfl rfl rfl (tbx.mono (e1.trans e2)) (nA'.nm a ha) (nB'.nm u hu)) (g_ixT rfl rfl rfl (tby.mono (e1.trans e2)) (nA'.nm a ha) (nB'.nm u hu))
  · subst ev
    rw [sA, sB] at tc
    exact q c c2 z H2 (e1.trans e2) tc
theorem sctand : FnScope NA5 ["self", "other"] (defScope (tmeth 9)) := ⟨rfl, rfl, rfl, by decide +kernel, rfl, by decide +kernel, by decide +kernel⟩
theorem ok_tand (F : Fun K "__and__" "Table.__and__" (tmeth 9) f fd) (S : TblC K C) (T : Fk.Blt mg) (hB : mg "min" = none) (GO : FnOk P w K mg base CX0 1 fO fdO ["other"] (spTOther C)) (bO : Binds K fdO ["other"] []) (gO : mg "check_other" = some (.ref fO)) (kO : PySem.W.keepIn K (.ref fO) = true)
    (GJ : XG.FnG P w K mg base CX0 3 fJ fdJ ["one", "other"] (Tb.spJoined K)) (bJ : Binds K fdJ ["one", "other"] []) (gJ : mg "joined" = some (.ref fJ)) (kJ : PySem.W.keepIn K (.ref fJ) = true)
    (M : Own.Mt P w K mg base C "__getitem__" 3 ["self", "at"] (spTItem C) fG dG) (MF : PySem.W.fnIn K fG = true)
    (MK : Mk K C fI) (GI : XG.FnG P w K mg base (L2.CX P w) 5 fI fdI ["self", "rows", "uses"] (Tb.spTIX K C CT)) (bI : Binds K fdI ["self", "rows", "uses"] []) (gT : mg "Table" = some (.ref C)) : XG.FnG P w K mg base (L2.CX P w) 7 f fd ["self", "other"] (spTBoth C CT opN) := by
  have nd := sctand.nd
  refine XG.Fun.okGX F sctand spTBoth_len fun cdv A outer sh H vs Q E gd hr h => ?_
  obtain ⟨x, y, ss, xs, ss', xs', r, r', rfl, tb, tb', l1, l2, l3, l4, nA, nB, nn, kS, kU, q⟩ := h
  refine ⟨_, pss_cons (ps_expr (pe_call GO (hr.mono (by decide)) (by rfl) gO kO bO .nil pass0 (pa_cons (pv 1) pa_nil)))
    (pss_cons (ps_asg (pe_tup (pa_cons (Tb.pe_callG GJ Tb.spJoined_len gd (hr.mono (by decide)) (by rfl) gJ kJ bJ (pa_cons (pe_fld (pv 0) rfl) (pa_cons (pe_fld (pv 1) rfl) pa_nil))) (pa_cons (Tb.pe_callG GJ Tb.spJoined_len gd (hr.mono (by decide)) (by rfl) gJ kJ bJ (pa_cons (pe_fld (pv 0) rfl) (pa_cons (pe_fld (pv 1) rfl) pa_nil))) pa_nil)))
      (pg_tup rfl (pgs_cons (pg_name (i := 2) nd rfl (Or.inl rfl)) (pgs_cons (pg_name (i := 3) nd rfl (Or.inr rfl)) pgs_nil))))
    (pss_one (ps_ret (XG.pe_makeGX MK GI Tb.spTIX_len gd hr bI (E := E) (fun σ => passAt (W := fun cls d _ H => E cls d H) (takes_of rfl rfl rfl rfl) σ) (by rfl) gT (pa_cons
      (pe_dc (own := [("a", 4)]) (g := gName 4) (tt := tYes) (tk := tVar 4) (tv := tDc (iTup K (tVar 3)) (gName 5) tYes (tVar 5) (tCB rMn (tCons (tCB rInt1 (tCons (tIx C 0) tNil)) (tCons (tCB rInt1 (tCons (tIx C 1) tNil)) tNil))) [5]) rfl nd (pi_tup (pv 2)) (blkOk_by (N := NA5) (sc := defScope (tmeth 9)) (by decide +kernel))
        (fun _ _ _ _ _ => pg_name (i := 4) nd rfl (Or.inr rfl)) (fun _ _ _ _ _ => pts_nil) (fun _ _ _ _ _ => pv 4) (fun _ _ _ _ _ => by
          refine pe_dc (own := [("x", 5)]) (wi := iTup K (tVar 3)) (g := gName 5) (tt := tYes) (tk := tVar 5) (tv := (tCB rMn (tCons (tCB rInt1 (tCons (tIx C 0) tNil)) (tCons (tCB rInt1 (tCons (tIx C 1) tNil)) tNil)))) rfl nd (pi_tup (pv 3)) (blkOk_by (N := NA5) (sc := scInA) (by decide +kernel))
            (fun _ _ _ _ _ => pg_name (i := 5) nd rfl (Or.inl rfl)) (fun _ _ _ _ _ => pts_nil) (fun _ _ _ _ _ => pv 5) (fun _ _ _ _ _ => pe_callB (call_min2 rfl) (by rfl) hB (by decide +kernel) (pa_cons (pe_callTy (T := "int") call_int1 (by rfl) T.int (by decide +kernel) (pa_cons (Own.pe_ixOwn M MF (hr.mono (by decide)) (pv 0) (pe_tup (pa_cons (pv 4) (pa_cons (pv 5) pa_nil)))) pa_nil)) (pa_cons (pe_callTy (T := "int") call_int1 (by rfl) T.int (by decide +kernel) (pa_cons (Own.pe_ixOwn M MF (hr.mono (by decide)) (pv 1) (pe_tup (pa_cons (pv 4) (pa_cons (pv 5) pa_nil)))) pa_nil)) pa_nil)))))
      (pa_cons (pv 3) pa_nil)))))), ?_⟩
  have tbx := tb
  have tby := tb'
  obtain ⟨dx, n1, n2, dw, pp, prs, h1, h2, h3, h4, h5, h6⟩ := tb
  obtain ⟨dy, m1, m2, dw', pp', prs', k1, k2, k3, k4, k5, k6⟩ := tb'
  refine ⟨_, rfl, y, ss', xs', r', rfl, tby, ?_⟩
  dsimp only
  refine st_two (g_join rfl rfl h1 k1 S.cl S.nS rfl rfl h2 k2 (by omega)) (g_join rfl rfl h1 k1 S.cl S.nU rfl rfl h3 k3 (by omega)) fun v w H1 e1 ⟨n, ev, hn⟩ ⟨m, ew, hm⟩ => ?_
  subst ev
  subst ew
  have nA' := nA.srt
  have nB' := nB.srt
  have sA := Fk.srt_eq (srt_perm (firsts (ss ++ ss')))
  have sB := Fk.srt_eq (srt_perm (firsts (xs ++ xs')))
  have lA := (srt_perm (firsts (ss ++ ss'))).length_eq
  have lB := (srt_perm (firsts (xs ++ xs'))).length_eq
  rw [← lA] at kS kU q
  rw [← lB] at kU q
  generalize srt (firsts (ss ++ ss')) = A at nA' hn q sA kS kU ⊢
  generalize srt (firsts (xs ++ xs')) = B at nB' hm q sB kU ⊢
  have A6 := nA'.few
  have B6 := nB'.few
  refine go_makeT (K := K) (H0 := H1) (g := fun k => opN (wk r k) (wk r' k)) (comp_tab (K := K) (σ := [some (.ref x), some (.ref y), some (.ref n), some (.ref m), none, none]) (vs := [4]) (i := 4) (rowG (fun k => opN (wk r k) (wk r' k)) B) (EvP.varP rfl ⟨n, rfl, hn⟩) (by omega) nA'.nod (by show 4 < 6; decide) (fun _ => rfl) (fun a ha H2 e2 => ?_)) (EvP.varP rfl ⟨m, rfl, hm⟩) nA' nB' nn (fun c dd H2 e2 hd => kS c dd H2 (e1.trans e2) hd) (fun c c2 dd H2 e2 hd => kU c c2 dd H2 (e1.trans e2) hd) fun c c2 v H2 e2 ⟨z, ev, tc⟩ => ?_
  · rw [ents_rowG]
    refine Cm.comp_dict (i := 5) (fun u => V.int (opN (wk r (key2 a u)) (wk r' (key2 a u)))) (EvP.varP rfl ⟨m, rfl, e2 _ _ hm⟩) (by omega) nB'.nod (by show 5 < 6; decide) (fun _ => rfl) (fun u hu => ?_)
    exact g_two (K := K) (op := opN) (fun i j H Q q => ⟨i, j, rfl, q⟩) (g_ixT rfl rfl rfl (tbx.mono (e1.trans e2)) (nA'.nm a ha) (nB'.nm u hu)) (g_ixT rfl rfl rfl (tby.mono (e1.trans e2)) (nA'.nm a ha) (nB'.nm u hu))
  · subst ev
    rw [sA, sB] at tc
    exact q c c2 z H2 (e1.trans e2) tc
end
end K06

set_option Elab.async false
set_option linter.all false
set_option maxRecDepth 100000
set_option maxHeartbeats 4000000
/-! x op y and x op= y of own instances, by defs that are FnG and may raise; _law_signs, _law_bound. -/
namespace Own
open PySem PySem.Spec PySem.Calls PyProof.Rows PySem.W L2
structure MtGX (P : Program) (w : World) (K : PySem.W.Frag) (mg : Str → Option Value) (base : Heap) (C : Addr) (m : Str) (k : Nat) (ps : List Str) (sp : Sp) (f : Addr) (fd : FuncData) : Prop where
  at_ : PySem.W.findIn K (.ref C) m = some (some (.ref f))
  fn : PySem.W.isFn K (.ref f) = true
  ok : XG.FnG P w K mg base (L2.CX P w) k f fd ps sp
  len : ∀ vs H Q E, sp vs H Q E → vs.length = ps.length
  b : Binds K fd ps []
section
variable {X : Cx} {pins : List (Addr × Obj)} {σ : L2.St} {H : Hp} {s : Shared} {C f g : Addr} {fd : FuncData} {k : Nat} {ps : List Str} {sp : Sp} {m : Str} {E : XK}
theorem pass_calm (σ : L2.St) : PassesAt (L2.CX X.prog X.w) X σ E0 := fun _ _ _ _ _ I c => passL _ _ _ _ _ _ I c
theorem run_atGX {vs : List V} {us : List Value} {Q : VK} (F : XG.FnG X.prog X.w X.K X.mg X.base (L2.CX X.prog X.w) k f fd ps sp) (len : ∀ vs H Q E, sp vs H Q E → vs.length = ps.length) (b : Binds X.K fd ps []) (gd : X.A.guards = some []) (hr : Room k X.A) (hx : PassesAt (L2.CX X.prog X.w) X σ E) (I : Inv X pins σ H s) (r : Vals vs us) (h : sp vs H Q E) :
    wpAny (model X.prog X.w) X.A (call (.ref f) us) (EP X pins σ Q) X.xe s := by
  have n : (us ++ []).length = ps.length := by rw [List.append_nil, ← r.length]; exact len _ _ _ _ h
  refine wpAny_call (codeAny_mono (F X.A X.stack s H ⟨us, []⟩ (us ++ []) vs Q E gd hr I.env0 (b s us I.kIn n) (by rw [List.append_nil]; exact r) h) fun r s' q => ?_)
  cases r with
  | error e => exact hx pins H s e s' I q
  | ok fl => cases fl with
    | ret u => exact I.after q
    | _ => exact (show False from q).elim
/-- x op y, what the def lets out is E's business -/
def rOwnE (C : Addr) (sp : Sp) (E : XK) : R2 := fun x y H Q => Ins H x C ∧ Ins H y C ∧ sp [x, y] H Q E
theorem op_ownGX {op : Operator} (M : MtGX X.prog X.w X.K X.mg X.base C (PySem.dunder op.info.2) k ps sp f fd) (first : PySem.W.selfFirst X.K C = true) (gd : X.A.guards = some []) (hr : Room k X.A) (hx : ∀ σ, PassesAt (L2.CX X.prog X.w) X σ E) : OpR X (binaryOp op) (rOwnE C sp E) := by
  intro pins s σ H x y v u Q I rx ry h
  obtain ⟨⟨a, dx, fs, rfl, ha⟩, ⟨b, dy, gs, rfl, hb⟩, h⟩ := h
  cases rx
  cases ry
  obtain ⟨ox, od, J⟩ := ins_at I ha
  obtain ⟨oy, oe, L⟩ := ins_at I hb
  obtain ⟨m, fr⟩ := I.fr
  exact PySem.W.binop_K fr I.ok.mod.kin J L.type first M.at_ M.fn (wpAny_mono (run_atGX M.ok M.len M.b gd hr (hx σ) I (.cons (show RelV (V.ref a) (Value.ref a) from rfl) (.cons (show RelV (V.ref b) (Value.ref b) from rfl) .nil)) h) (fun _ _ z => cmp_back z) fun _ _ z => z)
/-- x op= y, without a sign in place -/
def tIpE (C : Addr) (sp : Sp) (E : XK) : TIp := fun x y H Q => Ins H x C ∧ Ins H y C ∧ sp [x, y] H Q E
theorem ip_ownGX {op : Operator} (M : MtGX X.prog X.w X.K X.mg X.base C (PySem.dunder op.info.2) k ps sp f fd) (first : selfFirst X.K C = true) (n : NoIn X.K C op.info.2) (gd : X.A.guards = some []) (hr : Room k X.A) (hx : ∀ σ, PassesAt (L2.CX X.prog X.w) X σ E) : PIp X op (tIpE C sp E) := by
  intro pins s σ H x y v u Q I rx ry h
  obtain ⟨⟨a, dx, fs, rfl, ha⟩, ⟨b, dy, gs, rfl, hb⟩, h⟩ := h
  cases rx
  cases ry
  obtain ⟨ox, od, J⟩ := ins_at I ha
  obtain ⟨oy, oe, L⟩ := ins_at I hb
  obtain ⟨cd, rest, hcd, hm⟩ := ksp_first first
  have kin := I.kIn
  have run := wpAny_mono (run_atGX M.ok M.len M.b gd hr (hx σ) I (.cons (show RelV (V.ref a) (Value.ref a) from rfl) (.cons (show RelV (V.ref b) (Value.ref b) from rfl) .nil)) h) (fun _ _ z => cmp_back z) fun _ _ z => z
  unfold inplaceOp
  refine wpAny_holding (wpAny_bind (J.type.here (wpAny_bind ((no_inplace kin n).here ?_))))
  simp only [Bool.false_eq_true, if_false]
  refine wpAny_bind ?_
  unfold binaryOp1
  refine wpAny_bind (J.type.here (wpAny_bind (L.type.here (wpAny_bind ((fills_K kin hcd hm M.at_).here ?_)))))
  simp only [beq_self_eq_true, if_true]
  refine wpAny_bind (wpAny_pure ?_)
  simp only [Bool.and_false, Bool.false_eq_true, if_false, Bool.false_and]
  refine wpAny_bind (wpAny_pure ?_)
  simp only [Bool.false_eq_true, if_false]
  refine wpAny_bind (m := tryMethod (.ref a) _ (.ref b)) ?_
  unfold tryMethod
  refine wpAny_bind (special_fn kin J M.at_ (beq_iff_eq.mp M.fn) (wpAny_mono run (fun v s' hv => ?_) fun _ _ e => e))
  cases v <;> first | exact hv.elim | exact wpAny_pure (wpAny_pure (wpAny_pure hv))
end
end Own
namespace K06
open PySem PySem.Spec PyProof.Rows L2 Cm
open DtE (TRow tents lookT valV_tents)
open Tb (key2 PairK wk TblAt TblC)
open EvP (Ex)
/-- the class Table by its signs of two -/
structure TblB (P : Program) (w : World) (K : PySem.W.Frag) (mg : Str → Option Value) (base : Heap) (C CT : Addr) where
  first : PySem.W.selfFirst K C = true
  fA : Addr
  dA : FuncData
  add : Own.MtGX P w K mg base C "__add__" 7 ["self", "other"] (spTBoth C CT opA) fA dA
  fO : Addr
  dO : FuncData
  or_ : Own.MtGX P w K mg base C "__or__" 7 ["self", "other"] (spTBoth C CT opO) fO dO
  fN : Addr
  dN : FuncData
  and_ : Own.MtGX P w K mg base C "__and__" 7 ["self", "other"] (spTBoth C CT opN) fN dN
  nA : Own.NoIn K C "add"
  nO : Own.NoIn K C "or"
  nN : Own.NoIn K C "and"
/-- one way or another -/
def opWay (way : Int) : Int → Int → Int := if way = 0 then opA else if way = 1 then opO else opN
abbrev sSigns : Stmt := top 48
abbrev sBound : Stmt := top 49
theorem scSigns : FnScope ["one", "other", "way"] ["one", "other", "way"] (defScope sSigns) := ⟨rfl, rfl, rfl, by decide +kernel, rfl, by decide +kernel, by decide +kernel⟩
theorem scBound : FnScope ["one", "other", "way", "found"] ["one", "other", "way"] (defScope sBound) := ⟨rfl, rfl, rfl, by decide +kernel, rfl, by decide +kernel, by decide +kernel⟩
def spSigns (C CT : Addr) : Sp := fun vs H Q E => ∃ (x y : Addr) (way : Int), vs = [.ref x, .ref y, .int way] ∧ (way = 0 ∨ way = 1 ∨ way = 2) ∧ Own.Ins H (.ref x) C ∧ Own.Ins H (.ref y) C ∧ spTBoth C CT (opWay way) [.ref x, .ref y] H Q E
theorem spSigns_len {C CT : Addr} : ∀ vs H Q E, spSigns C CT vs H Q E → vs.length = (["one", "other", "way"] : List Str).length := fun vs H Q E h => by
  obtain ⟨x, y, way, rfl, _⟩ := h
  rfl
section
variable {P : Program} {w : World} {K : PySem.W.Frag} {mg : Str → Option Value} {base : Heap} {C CT f : Addr} {fd : FuncData}
theorem ok_signs (F : Fun K "_law_signs" "_law_signs" sSigns f fd) (M : TblB P w K mg base C CT) : XG.FnG P w K mg base (L2.CX P w) 8 f fd ["one", "other", "way"] (spSigns C CT) := by
  have nd := scSigns.nd
  refine XG.Fun.okGX F scSigns spSigns_len fun cdv A outer sh H vs Q E gd hr h => ?_
  obtain ⟨x, y, way, rfl, hw, ix, iy, h⟩ := h
  have hx : ∀ (σ : L2.St), PassesAt (L2.CX P w) (cxOf (L2.CX P w) P w K mg base ["one", "other", "way"] "_law_signs" (defScope sSigns) f cdv A outer sh H E) σ E := fun σ => passAt (W := fun cls d _ H => E cls d H) (takes_of rfl rfl rfl rfl) σ
  refine ⟨_, pss_cons (ps_if (pt_cmpR op_eq (pv 2) pe_int (nomark _)) (pss_one (ps_ret (pe_op (Own.op_ownGX (op := .Add) M.add M.first gd (hr.mono (by decide)) hx) (pv 0) (pv 1)))) pss_nil)
    (pss_one (ps_ret (pe_ifExp (pt_cmpR op_eq (pv 2) pe_int (nomark _)) (pe_op (Own.op_ownGX (op := .BitOr) M.or_ M.first gd (hr.mono (by decide)) hx) (pv 0) (pv 1)) (pe_op (Own.op_ownGX (op := .BitAnd) M.and_ M.first gd (hr.mono (by decide)) hx) (pv 0) (pv 1))))), ?_⟩
  rcases hw with rfl | rfl | rfl
  · exact ⟨_, rfl, rfl, _, rfl, _, rfl, _, rfl, ix, iy, h⟩
  · exact ⟨_, rfl, rfl, _, rfl, _, rfl, rfl, _, rfl, _, rfl, _, rfl, ix, iy, h⟩
  · exact ⟨_, rfl, rfl, _, rfl, _, rfl, rfl, _, rfl, _, rfl, _, rfl, ix, iy, h⟩
theorem ok_bound (F : Fun K "_law_bound" "_law_bound" sBound f fd) (M : TblB P w K mg base C CT) : XG.FnG P w K mg base (L2.CX P w) 8 f fd ["one", "other", "way"] (spSigns C CT) := by
  have nd := scBound.nd
  refine XG.Fun.okGX F scBound spSigns_len fun cdv A outer sh H vs Q E gd hr h => ?_
  obtain ⟨x, y, way, rfl, hw, ix, iy, h⟩ := h
  have hx : ∀ (σ : L2.St), PassesAt (L2.CX P w) (cxOf (L2.CX P w) P w K mg base ["one", "other", "way", "found"] "_law_bound" (defScope sBound) f cdv A outer sh H E) σ E := fun σ => passAt (W := fun cls d _ H => E cls d H) (takes_of rfl rfl rfl rfl) σ
  refine ⟨_, pss_cons (ps_set (i := 3) nd rfl (Or.inl rfl) (pv 0))
    (pss_cons (ps_if (pt_cmpR op_eq (pv 2) pe_int (nomark _)) (pss_one (ps_aug (i := 3) nd rfl (Or.inl rfl) (pv 1) (Own.ip_ownGX (op := .Add) M.add M.first M.nA gd (hr.mono (by decide)) hx)))
      (pss_one (ps_if (pt_cmpR op_eq (pv 2) pe_int (nomark _)) (pss_one (ps_aug (i := 3) nd rfl (Or.inl rfl) (pv 1) (Own.ip_ownGX (op := .BitOr) M.or_ M.first M.nO gd (hr.mono (by decide)) hx)))
        (pss_one (ps_aug (i := 3) nd rfl (Or.inl rfl) (pv 1) (Own.ip_ownGX (op := .BitAnd) M.and_ M.first M.nN gd (hr.mono (by decide)) hx))))))
    (pss_one (ps_ret (pv 3)))), ?_⟩
  have back : ∀ op, spTBoth C CT op [.ref x, .ref y] H Q E → spTBoth C CT op [.ref x, .ref y] H (fun v H' => ∃ u, ([some (V.ref x), some (V.ref y), some (V.int way), some v] : L2.St)[3]? = some (some u) ∧ Q u H') E := fun op ⟨x', y', ss, xs, ss', xs', r, r', e, a1, a2, a3, a4, a5, a6, a7, a8, a9, a10, a11, a12⟩ =>
    ⟨x', y', ss, xs, ss', xs', r, r', e, a1, a2, a3, a4, a5, a6, a7, a8, a9, a10, a11, fun c1 c2 c H' e t => ⟨_, rfl, a12 c1 c2 c H' e t⟩⟩
  replace h := back _ h
  rcases hw with rfl | rfl | rfl
  · exact ⟨_, rfl, _, rfl, rfl, _, rfl, _, rfl, _, rfl, ix, iy, h⟩
  · exact ⟨_, rfl, _, rfl, rfl, _, rfl, _, rfl, rfl, _, rfl, _, rfl, _, rfl, ix, iy, h⟩
  · exact ⟨_, rfl, _, rfl, rfl, _, rfl, _, rfl, rfl, _, rfl, _, rfl, _, rfl, ix, iy, h⟩
end
end K06

set_option Elab.async false
set_option linter.all false
set_option maxRecDepth 100000
set_option maxHeartbeats 4000000
/-! _law_joint: the plain table of two. -/
namespace K06
open PySem PySem.Spec PyProof.Rows L2 Cm
open DtE (TRow tents lookT valV_tents)
open Tb (key2 PairK wk TblAt TblC firsts)
open Fk (NameV nameB srt srt_perm)
open EvP (Ex All2 is Gives lst)
abbrev sJoint : Stmt := top 47
abbrev NJ : List Str := ["one", "other", "way", "sources_so", "uses_so", "found", "pair", "left", "right", "worth_so", "name"]
theorem scJoint : FnScope NJ ["one", "other", "way"] (defScope sJoint) := ⟨rfl, rfl, rfl, by decide +kernel, rfl, by decide +kernel, by decide +kernel⟩
/-- names of both, those of the first one ahead -/
def joinN (ss ts : List Str) : List Str := ss ++ ts.filter fun n => !decide (n ∈ ss)
theorem joinN_nod {ss ts : List Str} (h : ss.Nodup) (k : ts.Nodup) : (joinN ss ts).Nodup := by
  unfold joinN
  rw [List.nodup_append]
  refine ⟨h, k.filter _, fun x hx y hy e => ?_⟩
  subst e
  have := (List.mem_filter.mp hy).2
  rw [decide_eq_true hx] at this
  cases this
theorem mem_joinN {ss ts : List Str} {x : Str} : x ∈ joinN ss ts ↔ x ∈ ss ∨ x ∈ ts := by
  unfold joinN
  rw [List.mem_append, List.mem_filter]
  constructor
  · rintro (h | h)
    · exact .inl h
    · exact .inr h.1
  · rintro (h | h)
    · exact .inl h
    · by_cases c : x ∈ ss
      · exact .inl c
      · exact .inr ⟨h, by rw [decide_eq_false c]; rfl⟩
/-- keys of both, those of the first one ahead -/
def joinK (r r' : TRow) : List (List Key) := r.map (·.1) ++ (r'.filter fun z => !(lookT r z.1).isSome).map (·.1)
theorem look_some {r : TRow} (n : (r.map (·.1)).Nodup) {k : List Key} : (lookT r k).isSome = true ↔ k ∈ r.map (·.1) := by
  rw [Option.isSome_iff_exists]
  constructor
  · rintro ⟨v, hv⟩
    exact List.mem_map.mpr ⟨_, (look_mem n).mp hv, rfl⟩
  · intro h
    obtain ⟨t, ht, rfl⟩ := List.mem_map.mp h
    exact ⟨t.2, (look_mem n).mpr (show (t.1, t.2) ∈ r from ht)⟩
theorem joinK_nod {r r' : TRow} (n : (r.map (·.1)).Nodup) (n' : (r'.map (·.1)).Nodup) : (joinK r r').Nodup := by
  unfold joinK
  rw [List.nodup_append]
  refine ⟨n, n'.sublist (List.filter_sublist.map _), fun x hx y hy e => ?_⟩
  subst e
  obtain ⟨t, ht, e⟩ := List.mem_map.mp hy
  have a := (List.mem_filter.mp ht).2
  rw [Bool.not_eq_true', ← Bool.not_eq_true] at a
  exact a ((look_some n).mpr (by rw [e]; exact hx))
theorem mem_joinK {r r' : TRow} (n : (r.map (·.1)).Nodup) {k : List Key} : k ∈ joinK r r' ↔ k ∈ r.map (·.1) ∨ k ∈ r'.map (·.1) := by
  unfold joinK
  rw [List.mem_append]
  constructor
  · rintro (h | h)
    · exact .inl h
    · obtain ⟨t, ht, rfl⟩ := List.mem_map.mp h
      exact .inr (List.mem_map.mpr ⟨t, (List.mem_filter.mp ht).1, rfl⟩)
  · rintro (h | h)
    · exact .inl h
    · by_cases c : (lookT r k).isSome = true
      · exact .inl ((look_some n).mp c)
      · obtain ⟨t, ht, rfl⟩ := List.mem_map.mp h
        exact .inr (List.mem_map.mpr ⟨t, List.mem_filter.mpr ⟨ht, by rw [Bool.not_eq_true', ← Bool.not_eq_true]; exact c⟩, rfl⟩)
def ruleR (g : List Key → Int) (ks : List (List Key)) : TRow := (ks.filter fun k => decide (0 < g k)).map fun k => (k, g k)
theorem ruleR_snoc {g : List Key → Int} {ks : List (List Key)} {k : List Key} : ruleR g (ks ++ [k]) = ruleR g ks ++ if 0 < g k then [(k, g k)] else [] := by
  unfold ruleR
  rw [List.filter_append, List.map_append]
  by_cases c : 0 < g k
  · rw [if_pos c, List.filter_cons, decide_eq_true c]
    rfl
  · rw [if_neg c, List.filter_cons, decide_eq_false c]
    rfl
theorem ruleR_keys {g : List Key → Int} {ks : List (List Key)} : ((ruleR g ks).map (·.1)).Sublist ks := by
  unfold ruleR
  rw [List.map_map]
  have : (ks.filter fun k => decide (0 < g k)).map ((fun t : List Key × Int => t.1) ∘ fun k => (k, g k)) = ks.filter fun k => decide (0 < g k) := List.map_id _
  rw [this]
  exact List.filter_sublist
/-- what the rule gives at each key -/
theorem rule_wk {g : List Key → Int} {ks : List (List Key)} (n : ks.Nodup) (nn : ∀ k, 0 ≤ g k) (out : ∀ k, k ∉ ks → g k = 0) (k : List Key) : wk (ruleR g ks) k = g k := by
  have nod := ruleR_keys (g := g) |>.nodup n
  have mem : ∀ t, t ∈ ruleR g ks ↔ ∃ k ∈ ks, 0 < g k ∧ t = (k, g k) := fun t => by
    unfold ruleR
    constructor
    · intro h
      obtain ⟨k, hk, rfl⟩ := List.mem_map.mp h
      exact ⟨k, (List.mem_filter.mp hk).1, of_decide_eq_true (List.mem_filter.mp hk).2, rfl⟩
    · rintro ⟨k, hk, p, rfl⟩
      exact List.mem_map.mpr ⟨k, List.mem_filter.mpr ⟨hk, decide_eq_true p⟩, rfl⟩
  unfold wk
  cases c : lookT (ruleR g ks) k with
  | some v =>
    obtain ⟨k', _, _, e⟩ := (mem _).mp ((look_mem nod).mp c)
    obtain ⟨e1, e2⟩ := Prod.mk.inj e
    show v = g k
    rw [e1, e2]
  | none =>
    show 0 = g k
    by_cases h : k ∈ ks
    · by_cases p : 0 < g k
      · exact absurd ((mem _).mpr ⟨k, h, p, rfl⟩) (look_none c _)
      · have := nn k
        omega
    · exact (out k h).symm
theorem rule_good {g : List Key → Int} {ks : List (List Key)} {ss xs : List Str} (n : ks.Nodup) (key : ∀ k ∈ ks, ∃ a ∈ ss, ∃ x ∈ xs, k = key2 a x) : GoodR ss xs (ruleR g ks) := ⟨ruleR_keys.nodup n, fun t ht => by
  unfold ruleR at ht
  obtain ⟨k, hk, rfl⟩ := List.mem_map.mp ht
  exact key k (List.mem_filter.mp hk).1, fun t ht => by
  unfold ruleR at ht
  obtain ⟨k, hk, rfl⟩ := List.mem_map.mp ht
  exact of_decide_eq_true (List.mem_filter.mp hk).2⟩
section
variable {K : PySem.W.Frag} {σ : L2.St} {H : Hp} {vs : List Nat} {i l : Nat} {tt : TT}
/-- [k for k in d if ..], d's keys being tuples, d locked meanwhile -/
theorem comp_keysT {t a b d : Addr} {r : TRow} (keep : List Key → Bool) (hi : σ[i]? = some (some (.ref t))) (ht : H t = some (.tup [.ref a, .ref b, .ref d])) (hd : H d = some (.dT (tents r))) (hz : r.length ≤ 1000) (ll : l < σ.length) (wp : ∀ x, wipe ((wipe σ vs).set l (some x)) vs = wipe σ vs)
    (hk : ∀ z ∈ r, ∀ q H1, (∀ c o, H c = some o → c ≠ d → H1 c = some o) → (∃ od, H1 d = some (.frz od (.dT (tents r)))) → H1 q = some (.tup (z.1.map kV)) → ∀ Q : Bool → Hp → Prop, Q (keep z.1) H1 → tt ((wipe σ vs).set l (some (.ref q))) H1 Q) :
    Gives (tLockE (tLc (iKeys (tOp (rIxT K) (tVar i) (tC (.int 2)))) (gName l) tt (tVar l) vs)) σ H (lst H (((r.filter fun z => keep z.1).map (·.1)).map fun k => tupV (k.map kV))) := fun H1 e1 Q q => by
  have h1 := e1 _ _ hd
  have t1 := e1 _ _ ht
  have td : t ≠ d := ne_of t1 h1 (fun z => nomatch z)
  refine ⟨d, _, h1, True.intro, fun od => ⟨_, hi, t, _, 2, .ref d, rfl, rfl, SqT.of (by rw [upd_ne td]; exact t1), atI_nat (xs := [V.ref a, .ref b, .ref d]) (j := 2) rfl, d, od, rfl, .inr ⟨tents r, upd_same, fun D hD => ?_⟩⟩⟩
  have nd : d ≠ D := fun z => by
    rw [← z, upd_same] at hD
    cases hD
  have nD : H1 D = none := by rw [upd_ne nd.symm] at hD; exact hD
  have lw : (wipe σ vs).length = σ.length := wipe_length σ vs
  have kp : ∀ c o, H1 c = some o → c ≠ d → upd (upd H1 d (.frz od (.dT (tents r)))) D (.lst []) c = some o := fun c o hc ne => by
    rw [upd_ne (ne_of_none hc nD), upd_ne ne]
    exact hc
  refine lc_it walk_keysT (fun j H' => ∃ acc, H' D = some (.lst acc) ∧ H' d = some (.frz od (.dT (tents r))) ∧ (∀ c o, H1 c = some o → c ≠ d → H' c = some o) ∧ All2 H' ((((r.take j).filter fun z => keep z.1).map (·.1)).map fun k => tupV (k.map kV)) acc) ⟨[], upd_same, by rw [upd_ne nd]; exact upd_same, kp, .nil⟩ (fun j H' _ ⟨_, _, e, _⟩ => e) (fun j x H' H'' hj ⟨acc, a1, a2, a3, a4⟩ y => ?_) (fun H' ⟨acc, a1, a2, a3, a4⟩ => ?_)
  · obtain ⟨rfl, kk, vv, qq, hkk, rfl, hq⟩ := y
    unfold tents at hkk
    rw [List.getElem?_map] at hkk
    obtain ⟨z, hz', ez⟩ := Option.map_eq_some_iff.mp hkk
    obtain ⟨rfl, rfl⟩ := Prod.mk.inj ez
    have tk : r.take (j + 1) = r.take j ++ [z] := by
      rw [List.take_add_one, hz']
      rfl
    refine ⟨wp _, hk z (List.mem_of_getElem? hz') qq H'' (fun c o hc ne => a3 _ _ (e1 _ _ hc) ne) ⟨od, a2⟩ hq _ ?_⟩
    cases kx : keep z.1 with
    | false =>
      show ∃ _, _
      refine ⟨acc, a1, a2, a3, ?_⟩
      rw [tk, List.filter_append, List.filter_cons, kx]
      simpa using a4
    | true =>
      refine ⟨_, List.getElem?_set_self (by rw [lw]; exact ll), acc, a1, ?_, acc ++ [.ref qq], upd_same, by rw [upd_ne nd]; exact a2, fun c o hc ne => by rw [upd_ne (ne_of_none hc nD)]; exact a3 _ _ hc ne, ?_⟩
      · have := a4.length
        rw [List.length_map, List.length_map] at this
        have h2 := List.length_filter_le (fun z : List Key × Int => keep z.1) (r.take j)
        rw [List.length_take] at h2
        rw [sizeLine_eq]
        omega
      · rw [tk, List.filter_append, List.filter_cons, kx, List.map_append, List.map_append]
        refine all2_stays a1 (fun P hP => ?_) (all2_snoc a4 ⟨qq, rfl, hq⟩)
        rcases List.mem_append.mp hP with hP | hP
        · obtain ⟨k, _, rfl⟩ := List.mem_map.mp hP
          exact stays_tupV _
        · rw [List.mem_singleton.mp hP]
          exact stays_tupV _
  · have e : (tents r).length = r.length := List.length_map _
    rw [e, List.take_length] at a4
    have Dd := nd.symm
    refine ⟨a2, q _ _ (fun c o hc => ?_) ⟨D, acc, rfl, by rw [upd_ne Dd]; exact a1, e1.back nD, Tb.keys_stay a2 (fun ys z => nomatch z) a4⟩⟩
    by_cases cd : c = d
    · rw [cd, upd_same, ← h1, ← cd]
      exact hc
    · rw [upd_ne cd]
      exact a3 _ _ hc cd
end
theorem WorthsOk.good {ss xs : List Str} {r : TRow} (w : WorthsOk ss xs r) : GoodR ss xs r := ⟨w.nod, w.key, fun t ht => (w.pos t ht).1⟩
/-- the law's own table -/
def plainP (ss xs : List Str) (r : TRow) : EvP.PR := ⟨fun v H => PlainAt H v ss xs r, fun _ _ _ e h => by
  obtain ⟨t, a, b, d, h0, h1, h2, h3, h4⟩ := h.ex
  exact ⟨t, a, b, d, h0, e _ _ h1, e _ _ h2, e _ _ h3, e _ _ h4⟩⟩
def spJoint : Sp := fun vs H Q _ => ∃ (v1 v2 : V) (ss xs ss' xs' : List Str) (r r' : TRow) (way : Int), vs = [v1, v2, .int way] ∧ PlainAt H v1 ss xs r ∧ PlainAt H v2 ss' xs' r' ∧ PlainOk ss xs r ∧ PlainOk ss' xs' r' ∧ (way = 0 ∨ way = 1 ∨ way = 2) ∧
  ∀ t' H', Ex H H' → PlainAt H' (.ref t') (joinN ss ss') (joinN xs xs') (ruleR (fun k => opWay way (wk r k) (wk r' k)) (joinK r r')) → Q (.ref t') H'
theorem inV_str (x : Str) (ss : List Str) : inV (.str x) (ss.map V.str) = decide (x ∈ ss) := by
  unfold inV
  induction ss with
  | nil => rfl
  | cons s ss ih =>
    rw [List.map_cons, List.any_cons, ih]
    have e : eqV (V.str s) (.str x) = decide (s = x) := by
      show (s == x) = _
      by_cases c : s = x
      · simp [c]
      · simp [c]
    rw [e]
    by_cases c : x = s
    · subst c
      simp
    · have c' : ¬ s = x := fun z => c z.symm
      simp [c, c']
theorem flat_strs (ss : List Str) : (ss.map V.str).all flatV = true := by
  rw [List.all_eq_true]
  intro v hv
  obtain ⟨s, _, rfl⟩ := List.mem_map.mp hv
  rfl
section
variable {P : Program} {w : World} {K : PySem.W.Frag} {mg : Str → Option Value} {base : Heap} {f : Addr} {fd : FuncData} {σ : L2.St} {H : Hp}
/-- names + [name for name in others if name not in names] -/
theorem g_joinN {i l m : Nat} {t a b d p : Addr} {ss ts : List Str} {vs : List Nat} (jj : Int) (hi : σ[i]? = some (some (.ref t))) (ht : H t = some (.tup [.ref a, .ref b, .ref d])) (hj : atI [V.ref a, .ref b, .ref d] jj = some (.ref p)) (hp : H p = some (.lst (ts.map V.str))) {q : Addr} (hl : σ[l]? = some (some (.ref q))) (hq : H q = some (.lst (ss.map V.str)))
    (z1 : ss.length ≤ 6) (z2 : ts.length ≤ 6) (wp : ∀ x, wipe ((wipe σ vs).set m (some x)) vs = wipe σ vs) (wl : ∀ x, ((wipe σ vs).set m (some x))[l]? = some (some (.ref q))) (wm : ∀ x, ((wipe σ vs).set m (some x))[m]? = some (some x)) :
    Gives (tOp rCat (tVar l) (tLc (iList K (tOp (rIxT K) (tVar i) (tC (.int jj)))) (gName m) (tTest (tOp (rIn K true) (tVar m) (tVar l))) (tVar m) vs)) σ H (lstV ((joinN ss ts).map V.str)) := by
  have z := comp_is (te := tVar m) (tt := tTest (tOp (rIn K true) (tVar m) (tVar l))) (i := m) (vs := vs) (σ := σ) (H := H) (fun v => match v with | .str n => !decide (n ∈ ss) | _ => false) id (walks_list (K := K) (tl := tOp (rIxT K) (tVar i) (tC (.int jj))) (xs := ts.map V.str) (fun H1 e Q k => ⟨_, hi, t, _, jj, .ref p, rfl, rfl, SqT.of (e _ _ ht), hj, k _ _ (Ex.refl _) ⟨p, rfl, e _ _ hp⟩⟩)) (by rw [List.length_map]; omega) wp
    (fun v hv H2 e2 Q h => by
      obtain ⟨n, hn, rfl⟩ := List.mem_map.mp hv
      refine ⟨_, wm _, _, wl _, q, _, rfl, .inl (SqL.of (e2 _ _ hq)), rfl, flat_strs ss, _, rfl, ?_⟩
      rw [if_pos rfl, inV_str]
      exact h) (fun v hv _ => EvP.var (wm v))
  rw [List.map_id, List.filter_map] at z
  refine g_op (P := lstV (ss.map V.str)) (R := lstV _) (EvP.varP hl ⟨q, rfl, hq⟩) z fun x y H1 e ⟨c1, ex, h1⟩ ⟨c2, ey, h2⟩ Q k => ?_
  subst ex
  subst ey
  refine ⟨c1, c2, _, _, rfl, rfl, h1, h2, ?_, fun D hD => k _ _ (Ex.new hD) ⟨D, rfl, ?_⟩⟩
  · have := List.length_filter_le ((fun v => match v with | .str n => !decide (n ∈ ss) | _ => false) ∘ V.str) ts
    rw [List.length_map, List.length_map, sizeLine_eq]
    omega
  · rw [upd_same]
    unfold joinN
    rw [List.map_append]
    rfl
theorem opWay_zero {way : Int} : opWay way 0 0 = 0 := by
  unfold opWay
  split
  · rfl
  · split <;> rfl
theorem opWay_nn {way a b : Int} (ha : 0 ≤ a) (hb : 0 ≤ b) : 0 ≤ opWay way a b := by
  unfold opWay
  split
  · exact Int.add_nonneg ha hb
  · split
    · show 0 ≤ if b > a then b else a
      split <;> omega
    · show 0 ≤ if b < a then b else a
      split <;> omega
theorem ok_joint (F : Fun K "_law_joint" "_law_joint" sJoint f fd) (T : Blt mg) (hMx : mg "max" = none) (hMn : mg "min" = none) : FnOk P w K mg base CX0 1 f fd ["one", "other", "way"] spJoint := by
  have nd := scJoint.nd
  refine F.ok scJoint (fun vs H Q E h => ?_) (fun cdv A outer s H vs Q E hr h => ?_)
  · obtain ⟨v1, v2, ss, xs, ss', xs', r, r', way, rfl, _⟩ := h
    rfl
  · obtain ⟨v1, v2, ss, xs, ss', xs', r, r', way, rfl, ⟨t, a, b, d, rfl, ht, ha, hb, hd⟩, ⟨t', a', b', d', rfl, ht', ha', hb', hd'⟩, ok, ok', hw, q⟩ := h
    have hu := hu_of hr
    refine ⟨_, pss_cons (ps_asg (pe_tup (pa_cons (pe_callTy (T := "list") call_list_of (by rfl) T.lst (by decide +kernel) (pa_cons (pe_ix ix_tup (pv 0) pe_int (fun _ _ => rfl)) pa_nil)) (pa_cons (pe_callTy (T := "list") call_list_of (by rfl) T.lst (by decide +kernel) (pa_cons (pe_ix ix_tup (pv 0) pe_int (fun _ _ => rfl)) pa_nil)) pa_nil))) (pg_tup rfl (pgs_cons (pg_name (i := 3) nd rfl (Or.inr rfl)) (pgs_cons (pg_name (i := 4) nd rfl (Or.inr rfl)) pgs_nil))))
      (pss_cons (ps_set (i := 3) nd rfl (Or.inr rfl) (pe_op op_cat (pv 3) (pe_lc (own := [("name", 10)]) (g := gName 10) (tt := tTest (tOp (rIn K true) (tVar 10) (tVar 3))) (te := tVar 10) rfl nd (pi_list (pe_ix ix_tup (pv 1) pe_int (fun _ _ => rfl))) (blkOk_by (N := NJ) (sc := defScope sJoint) (by decide +kernel))
        (fun _ _ _ _ _ => pg_name (i := 10) nd rfl (Or.inl rfl)) (fun _ _ _ _ _ => pts_one (pt_cmpR op_notIn_seq (pv 10) (pv 3) (by rfl))) (fun _ _ _ _ _ => pv 10))))
      (pss_cons (ps_set (i := 4) nd rfl (Or.inr rfl) (pe_op op_cat (pv 4) (pe_lc (own := [("name", 10)]) (g := gName 10) (tt := tTest (tOp (rIn K true) (tVar 10) (tVar 4))) (te := tVar 10) rfl nd (pi_list (pe_ix ix_tup (pv 1) pe_int (fun _ _ => rfl))) (blkOk_by (N := NJ) (sc := defScope sJoint) (by decide +kernel))
        (fun _ _ _ _ _ => pg_name (i := 10) nd rfl (Or.inl rfl)) (fun _ _ _ _ _ => pts_one (pt_cmpR op_notIn_seq (pv 10) (pv 4) (by rfl))) (fun _ _ _ _ _ => pv 10))))
      (pss_cons (ps_set (i := 5) nd rfl (Or.inl rfl) pe_dnewT)
      (pss_cons (ps_for PassesOwn.never rfl (pi_list (pe_op op_cat (pe_lock (pe_lc (own := [("pair", 6)]) (g := gName 6) (tt := tYes) (te := tVar 6) rfl nd (pi_keys (pe_ix ix_tup (pv 0) pe_int (fun _ _ => rfl))) (blkOk_by (N := NJ) (sc := defScope sJoint) (by decide +kernel))
          (fun _ _ _ _ _ => pg_name (i := 6) nd rfl (Or.inl rfl)) (fun _ _ _ _ _ => pts_nil) (fun _ _ _ _ _ => pv 6)))
          (pe_lock (pe_lc (own := [("pair", 6)]) (g := gName 6) (tt := tTest (tDNotIn (tVar 6) (tOp (rIxT K) (tVar 0) (tC (.int 2))))) (te := tVar 6) rfl nd (pi_keys (pe_ix ix_tup (pv 1) pe_int (fun _ _ => rfl))) (blkOk_by (N := NJ) (sc := defScope sJoint) (by decide +kernel))
          (fun _ _ _ _ _ => pg_name (i := 6) nd rfl (Or.inl rfl)) (fun _ _ _ _ _ => pts_one (pt_cmp (pc_dnotin hu (pv 6) (pe_ix ix_tup (pv 0) pe_int (fun _ _ => rfl))))) (fun _ _ _ _ _ => pv 6))))) (pg_name (i := 6) nd rfl (Or.inl rfl))
        (pss_cons (ps_par (i := 7) (j := 8) (by rfl) nd rfl rfl (by decide) rfl rfl (pa_cons (pe_callTy (T := "int") call_int1 (by rfl) T.int (by decide +kernel) (pa_cons (pe_dget2 hu (pe_ix ix_tup (pv 0) pe_int (fun _ _ => rfl)) (pv 6) pe_int ⟨rfl, rfl, rfl, rfl⟩) pa_nil))
          (pa_cons (pe_callTy (T := "int") call_int1 (by rfl) T.int (by decide +kernel) (pa_cons (pe_dget2 hu (pe_ix ix_tup (pv 1) pe_int (fun _ _ => rfl)) (pv 6) pe_int ⟨rfl, rfl, rfl, rfl⟩) pa_nil)) pa_nil)) (by rfl))
        (pss_cons (ps_set (i := 9) nd rfl (Or.inl rfl) (pe_ix ix_list (pe_lst (pa_cons (pe_op op_add (pv 7) (pv 8))
          (pa_cons (pe_callB (call_max2 rfl) (by rfl) hMx (by decide +kernel) (pa_cons (pe_callTy call_int1 (by rfl) T.int (by decide +kernel) (pa_cons (pv 7) pa_nil)) (pa_cons (pe_callTy call_int1 (by rfl) T.int (by decide +kernel) (pa_cons (pv 8) pa_nil)) pa_nil)))
          (pa_cons (pe_callB (call_min2 rfl) (by rfl) hMn (by decide +kernel) (pa_cons (pe_callTy call_int1 (by rfl) T.int (by decide +kernel) (pa_cons (pv 7) pa_nil)) (pa_cons (pe_callTy call_int1 (by rfl) T.int (by decide +kernel) (pa_cons (pv 8) pa_nil)) pa_nil))) pa_nil)))) (pv 2) (fun _ _ => rfl)))
        (pss_one (ps_if (pt_cmpR op_gt (pv 9) pe_int (nomark _)) (pss_one (ps_dput hu (pv 5) (pv 6) (pv 9) rfl)) pss_nil)))))
      (pss_one (ps_ret (pe_tup (pa_cons (pv 3) (pa_cons (pv 4) (pa_cons (pv 5) pa_nil)))))))))), ?_⟩
    have gl : ∀ {H : Hp} {ls : List Str} {p : Addr} (jj : Int), H t = some (.tup [.ref a, .ref b, .ref d]) → atI [V.ref a, .ref b, .ref d] jj = some (.ref p) → H p = some (.lst (ls.map V.str)) → Gives (tCB (fun xs H Q => ∃ p ys, xs = [.ref p] ∧ (SqL K H p ys ∨ SqT K H p ys) ∧ ∀ l, H l = none → Q (.ref l) (upd H l (.lst ys))) (tCons (tOp (rIxT K) (tVar 0) (tC (.int jj))) tNil)) (start NJ [.ref t, .ref t', .int way]) H (lstV (ls.map V.str)) := fun jj h1 h2 h3 H1 e Q k =>
      ⟨_, rfl, t, _, jj, _, rfl, rfl, SqT.of (e _ _ h1), h2, _, _, rfl, .inl (SqL.of (e _ _ h3)), fun l nl => k _ _ (Ex.new nl) ⟨l, rfl, upd_same⟩⟩
    refine st_two (gl 0 ht (atI_nat (xs := [V.ref a, .ref b, .ref d]) (j := 0) rfl) ha) (gl 1 ht (atI_nat (xs := [V.ref a, .ref b, .ref d]) (j := 1) rfl) hb) fun u1 u2 H1 e1 ⟨a1, ev, h1⟩ ⟨a2, ew, h2⟩ => ?_
    subst ev
    subst ew
    refine EvP.st_set (P := lstV ((joinN ss ss').map V.str)) (g_joinN (K := K) (t := t') (p := a') (q := a1) 0 rfl (e1 _ _ ht') (atI_nat (xs := [V.ref a', .ref b', .ref d']) (j := 0) rfl) (e1 _ _ ha') rfl h1 ok.s.few ok'.s.few (fun _ => rfl) (fun _ => rfl) (fun _ => rfl)) fun u3 H2 e2 ⟨a3, ev, h3⟩ => ?_
    subst ev
    have E2 := e1.trans e2
    refine EvP.st_set (P := lstV ((joinN xs xs').map V.str)) (g_joinN (K := K) (t := t') (p := b') (q := a2) 1 rfl (E2 _ _ ht') (atI_nat (xs := [V.ref a', .ref b', .ref d']) (j := 1) rfl) (E2 _ _ hb') rfl (e2 _ _ h2) ok.u.few ok'.u.few (fun _ => rfl) (fun _ => rfl) (fun _ => rfl)) fun u4 H3 e3 ⟨a4, ev, h4⟩ => ?_
    subst ev
    have E3 := E2.trans e3
    have h3 := e3 _ _ h3
    intro D nD
    have eD := Ex.new (o := .dT []) nD
    have hD : upd H3 D (.dT []) D = some (.dT (tents [])) := upd_same
    have E4 := E3.trans eD
    have h3 := eD _ _ h3
    have h4 := eD _ _ h4
    have old : ∀ c o, H c = some o → c ≠ D := fun c o hc => ne_of_none (E3 _ _ hc) nD
    have n3 : a3 ≠ D := ne_of h3 hD (fun z => nomatch z)
    have n4 : a4 ≠ D := ne_of h4 hD (fun z => nomatch z)
    generalize upd H3 D (.dT []) = H4 at hD E4 h3 h4 ⊢
    have ht4 := E4 _ _ ht
    have ht4' := E4 _ _ ht'
    have hd4 := E4 _ _ hd
    have hd4' := E4 _ _ hd'
    have lr : r.length ≤ 36 := ok.w.good.len36 ok.s.few ok.u.few
    have lr' : r'.length ≤ 36 := ok'.w.good.len36 ok'.s.few ok'.u.few
    have td : t ≠ d := ne_of ht hd (fun z => nomatch z)
    have td' : t ≠ d' := ne_of ht hd' (fun z => nomatch z)
    dsimp only [gName]
    have c1 : Gives (tLockE (tLc (iKeys (tOp (rIxT K) (tVar 0) (tC (.int 2)))) (gName 6) tYes (tVar 6) [6])) [some (.ref t), some (.ref t'), some (.int way), some (.ref a3), some (.ref a4), some (.ref D), none, none, none, none, none] H4 (lst H4 ((r.map (·.1)).map fun k => tupV (k.map kV))) := by
      have z := comp_keysT (K := K) (H := H4) (σ := [some (.ref t), some (.ref t'), some (.int way), some (.ref a3), some (.ref a4), some (.ref D), none, none, none, none, none]) (vs := [6]) (i := 0) (l := 6) (tt := tYes) (fun _ => true) rfl ht4 hd4 (by omega) (by show 6 < 11; decide) (fun _ => rfl) (fun z hz q H1 _ _ _ Q h => h)
      rw [List.filter_eq_self.mpr (fun _ _ => rfl)] at z
      exact z
    have c2 : Gives (tLockE (tLc (iKeys (tOp (rIxT K) (tVar 1) (tC (.int 2)))) (gName 6) (tTest (tDNotIn (tVar 6) (tOp (rIxT K) (tVar 0) (tC (.int 2))))) (tVar 6) [6])) [some (.ref t), some (.ref t'), some (.int way), some (.ref a3), some (.ref a4), some (.ref D), none, none, none, none, none] H4 (lst H4 (((r'.filter fun z => !(lookT r z.1).isSome).map (·.1)).map fun k => tupV (k.map kV))) := by
      refine comp_keysT (K := K) (fun k => !(lookT r k).isSome) rfl ht4' hd4' (by omega) (by show 6 < 11; decide) (fun _ => rfl) (fun z hz q H1 kp fz hq Q h => ?_)
      refine ⟨_, rfl, _, rfl, t, _, 2, .ref d, rfl, rfl, SqT.of (kp _ _ ht4 td'), atI_nat (xs := [V.ref a, .ref b, .ref d]) (j := 2) rfl, d, valV (tents r) z.1, rfl, .inr ⟨tents r, z.1, q, ?_, rfl, hq, rfl⟩, _, rfl, ?_⟩
      · by_cases c : d = d'
        · obtain ⟨od, fz⟩ := fz
          subst c
          have e : tents r = tents r' := by
            rw [hd4] at hd4'
            exact HO.dT.inj (Option.some.inj hd4')
          rw [e]
          exact .inr ⟨od, fz⟩
        · exact .inl (kp _ _ hd4 c)
      · rw [valV_tents, Option.isSome_map]
        exact h
    have cc := EvP.cat (H0 := H4) (Ex.refl _) c1 c2 (by
      have := List.length_filter_le (fun z : List Key × Int => !(lookT r z.1).isSome) r'
      simp only [List.length_map]
      omega)
    rw [← List.map_append] at cc
    refine cc H4 (Ex.refl _) _ fun u5 H5 e5 ⟨al, acc, ev, hal, nal, hac⟩ => ?_
    subst ev
    change All2 H5 ((joinK r r').map fun k => tupV (k.map kV)) acc at hac
    have nodK := joinK_nod ok.w.nod ok'.w.nod
    have lK : (joinK r r').length ≤ 72 := by
      have := List.length_filter_le (fun z : List Key × Int => !(lookT r z.1).isSome) r'
      unfold joinK
      simp only [List.length_append, List.length_map]
      omega
    have lacc := hac.length
    rw [List.length_map] at lacc
    have hD5 := e5 _ _ hD
    have alD : al ≠ D := ne_of hal hD5 (fun z => nomatch z)
    refine ⟨al, rfl, ⟨_, SqL.of hal⟩, for_list (xs := acc) (fun j sg H' => ∃ (o6 o7 o8 o9 : Option V), sg = [some (.ref t), some (.ref t'), some (.int way), some (.ref a3), some (.ref a4), some (.ref D), o6, o7, o8, o9, none] ∧ H' D = some (.dT (tents (ruleR (fun k => opWay way (wk r k) (wk r' k)) ((joinK r r').take j)))) ∧ ∀ c o, H5 c = some o → c ≠ D → H' c = some o)
      ⟨none, none, none, none, rfl, by rw [List.take_zero]; exact hD5, fun _ _ h _ => h⟩ (fun j sg H' _ ⟨_, _, _, _, _, _, e⟩ => SqL.of (e _ _ hal alD)) (fun j x sg H' hj ⟨o6, o7, o8, o9, esg, f1, f2⟩ => ?_) (fun sg H' ⟨o6, o7, o8, o9, esg, f1, f2⟩ => ?_)⟩
    · subst esg
      have hlt : j < (joinK r r').length := by
        have := (List.getElem?_eq_some_iff.mp hj).1
        omega
      obtain ⟨k, hk⟩ : ∃ k, (joinK r r')[j]? = some k := ⟨_, List.getElem?_eq_getElem hlt⟩
      obtain ⟨y, hy, pq, rfl, hpq⟩ := hac.get (i := j) (P := tupV (k.map kV)) (by rw [List.getElem?_map, hk]; rfl)
      obtain rfl : x = .ref pq := Option.some.inj (hj.symm.trans hy)
      have kp : ∀ c o, H4 c = some o → c ≠ D → H' c = some o := fun c o hc ne => f2 _ _ (e5 _ _ hc) ne
      have pqD : pq ≠ D := ne_of hpq hD5 (fun z => nomatch z)
      have hpq' := f2 _ _ hpq pqD
      have htx := kp _ _ ht4 (old _ _ ht)
      have htx' := kp _ _ ht4' (old _ _ ht')
      have hdx := kp _ _ hd4 (old _ _ hd)
      have hdx' := kp _ _ hd4' (old _ _ hd')
      have tk : (joinK r r').take (j + 1) = (joinK r r').take j ++ [k] := by
        rw [List.take_add_one, hk]
        rfl
      refine ⟨_, rfl, t, _, 2, .ref d, rfl, rfl, SqT.of htx, atI_nat (xs := [V.ref a, .ref b, .ref d]) (j := 2) rfl, d, rfl, .inr ⟨_, .inl hdx⟩, _, rfl, _, DGet.t hdx hpq', .inl ⟨wk r k, by rw [getD_wk], ?_⟩⟩
      refine ⟨_, rfl, t', _, 2, .ref d', rfl, rfl, SqT.of htx', atI_nat (xs := [V.ref a', .ref b', .ref d']) (j := 2) rfl, d', rfl, .inr ⟨_, .inl hdx'⟩, _, rfl, _, DGet.t hdx' hpq', .inl ⟨wk r' k, by rw [getD_wk], ?_⟩⟩
      refine ⟨_, _, rfl, ?_⟩
      have gk := opWay_nn (way := way) (ok.w.good.nn k) (ok'.w.good.nn k)
      refine ⟨_, rfl, _, rfl, wk r k, wk r' k, rfl, rfl, _, rfl, .inl ⟨_, rfl, _, rfl, .inl ⟨_, rfl, _, _, rfl, _, rfl, .inl ⟨_, rfl, _, rfl, .inl ⟨_, rfl, _, _, rfl, by show 3 ≤ sizeLine; decide, fun l nl => ?_⟩⟩⟩⟩⟩
      refine ⟨_, rfl, l, _, way, .int (opWay way (wk r k) (wk r' k)), rfl, rfl, SqL.of upd_same, by rcases hw with rfl | rfl | rfl <;> rfl, ?_⟩
      have f1' := Ex.new (o := HO.lst [V.int (wk r k + wk r' k), .int (if wk r' k > wk r k then wk r' k else wk r k), .int (if wk r' k < wk r k then wk r' k else wk r k)]) nl _ _ f1
      have hpq6 := Ex.new (o := HO.lst [V.int (wk r k + wk r' k), .int (if wk r' k > wk r k then wk r' k else wk r k), .int (if wk r' k < wk r k then wk r' k else wk r k)]) nl _ _ hpq'
      have f2' : ∀ c o, H5 c = some o → c ≠ D → upd H' l (HO.lst [V.int (wk r k + wk r' k), .int (if wk r' k > wk r k then wk r' k else wk r k), .int (if wk r' k < wk r k then wk r' k else wk r k)]) c = some o := fun c o hc ne => Ex.new nl _ _ (f2 _ _ hc ne)
      generalize upd H' l (HO.lst [V.int (wk r k + wk r' k), .int (if wk r' k > wk r k then wk r' k else wk r k), .int (if wk r' k < wk r k then wk r' k else wk r k)]) = H6 at f1' hpq6 f2' ⊢
      refine ⟨_, rfl, opWay way (wk r k) (wk r' k), 0, rfl, rfl, _, rfl, ?_⟩
      have nod : ((ruleR (fun k => opWay way (wk r k) (wk r' k)) ((joinK r r').take (j + 1))).map (·.1)).Nodup := ruleR_keys.nodup (nodK.sublist (List.take_sublist _ _))
      have few : (ruleR (fun k => opWay way (wk r k) (wk r' k)) ((joinK r r').take j)).length ≤ 1000 := by
        have := (ruleR_keys (g := fun k => opWay way (wk r k) (wk r' k)) (ks := (joinK r r').take j)).length_le
        rw [List.length_map, List.length_take] at this
        omega
      rw [tk, ruleR_snoc] at nod
      by_cases c : 0 < opWay way (wk r k) (wk r' k)
      · rw [decide_eq_true c]
        dsimp only
        rw [if_pos rfl]
        rw [if_pos c] at nod
        refine ⟨_, rfl, _, rfl, _, rfl, D, _, rfl, DPut.t (k := k) f1' hpq6 (by unfold tents; rw [List.length_map, sizeLine_eq]; omega), ?_⟩
        rw [Tb.tents_put nod]
        refine ⟨_, _, _, _, rfl, ?_, fun c o hc ne => ?_⟩
        · rw [tk, ruleR_snoc, if_pos c]
          exact upd_same
        · rw [upd_ne ne]
          exact f2' _ _ hc ne
      · rw [decide_eq_false c]
        dsimp only [tNext]
        rw [if_neg Bool.false_ne_true]
        refine ⟨_, _, _, _, rfl, ?_, f2'⟩
        rw [tk, ruleR_snoc, if_neg c, List.append_nil]
        exact f1'
    · subst esg
      rw [lacc, List.take_length] at f1
      refine ⟨_, rfl, _, rfl, _, rfl, by show 3 ≤ sizeLine; decide, fun t9 nt => ?_⟩
      have e9 := Ex.new (o := HO.tup [V.ref a3, .ref a4, .ref D]) nt
      refine q t9 _ (fun c o hc => e9 _ _ (f2 _ _ (e5 _ _ (E4 _ _ hc)) (old _ _ hc))) ⟨t9, a3, a4, D, rfl, upd_same, e9 _ _ (f2 _ _ (e5 _ _ h3) n3), e9 _ _ (f2 _ _ (e5 _ _ h4) n4), e9 _ _ f1⟩
end
end K06

set_option Elab.async false
set_option linter.all false
set_option maxRecDepth 100000
set_option maxHeartbeats 4000000
/-! try: .. except X as error: caught = error: the exception is held by a name behind the try. -/
namespace L2
open PySem PySem.Spec PyProof.Rows
/-- at a: an exception that was caught; its class, its dict -/
def ExK (cls : Value) (d : Option Addr) (a : Addr) : HO := .ext fun h => ∃ (oe : Obj) (vs : Array Value), h.get? a = some oe ∧ Zc cls d oe ∧ oe.data = .fields vs
theorem exK_ok {P : Program} {w : World} {H : Hp} {h : Heap} {a : Addr} {cls : Value} {d : Option Addr} {oe : Obj} {vs : Array Value} (e : h.get? a = some oe) (z : Zc cls d oe) (k : oe.data = .fields vs) : ObjOk P w H h a (ExK cls d a) :=
  ⟨⟨oe, vs, e, z, k⟩, ⟨oe, e⟩, fun _ _ ⟨o, v, q, r⟩ k => ⟨o, v, k o q, r⟩⟩
theorem exK_at {P : Program} {w : World} {H : Hp} {h : Heap} {a : Addr} {cls : Value} {d : Option Addr} (hok : HOk P w H h) (e : H a = some (ExK cls d a)) : ∃ (oe : Obj) (vs : Array Value), h.get? a = some oe ∧ Zc cls d oe ∧ oe.data = .fields vs := by
  have x : ObjOk P w H h a (.ext fun h => ∃ (oe : Obj) (vs : Array Value), h.get? a = some oe ∧ Zc cls d oe ∧ oe.data = .fields vs) := hok a _ e
  exact x.1
section
variable {X : Cx} {pins : List (Addr × Obj)} {σ : St} {H : Hp} {s : Shared}
/-- a pinned exception, new since the entry, is tracked from now on -/
theorem Inv.track {a : Addr} {oe : Obj} {vs : Array Value} {cls : Value} {d : Option Addr} (J : Inv X ((a, oe) :: pins) σ H s) (h0 : X.s_0.heap.get? a = none) (hp : ∀ p ∈ X.pn ++ pins, p.1 ≠ a) (z : Zc cls d oe) (hd : oe.data = .fields vs) :
    Inv X pins σ (upd H a (ExK cls d a)) s := by
  obtain ⟨ha, na, nL, nF, nc⟩ := J.pin (a, oe) (List.mem_append_right _ List.mem_cons_self)
  have n0 : ∀ b o, X.s_0.heap.get? b = some o → b ≠ a := fun b o e q => by
    rw [q, h0] at e
    cases e
  refine ⟨J.ok, J.os, J.bare, ⟨J.base.keep, J.base.slot, fun b o e n hx => ?_, J.base.there, fun b xs e => ?_, fun b o u e => ?_, fun b ps e => ?_⟩, J.loc, J.cell, ?_, fun x c e => ?_, fun p h => ?_, J.hok.laidN (fun _ _ q => q) na (exK_ok ha z hd), J.len⟩
  · rw [upd_ne (n0 b o e)]
    exact J.base.free b o e n hx
  · have q := J.base.tups b xs e
    rw [upd_ne (ne_of_none q na)]
    exact q
  · have q := J.base.frzs b o u e
    rw [upd_ne (ne_of_none q na)]
    exact q
  · obtain ⟨more, q⟩ := J.base.tbls b ps e
    exact ⟨more, by rw [upd_ne (ne_of_none q na)]; exact q⟩
  · rw [upd_ne nL.symm]
    exact J.free
  · have ne : c ≠ a := by
      rintro rfl
      obtain ⟨v, hv⟩ := J.cell x _ e
      obtain ⟨o, ho, hdv⟩ := hv
      rw [ha] at ho
      cases ho
      exact nc _ hdv
    rw [upd_ne ne]
    exact J.freeC x c e
  · have hm : p ∈ X.pn ++ (a, oe) :: pins := by
      rcases List.mem_append.mp h with h | h
      · exact List.mem_append_left _ h
      · exact List.mem_append_right _ (List.mem_cons_of_mem _ h)
    obtain ⟨e1, e2, e3⟩ := J.pin p hm
    exact ⟨e1, by rw [upd_ne (hp p h)]; exact e2, e3⟩
theorem Inv.suitePin {a : Addr} {q : Addr × Obj} (I : Inv (X.suite a (q :: (X.pn ++ pins))) [] σ H s) (ok : X.Ok) : Inv X (q :: pins) σ H s :=
  ⟨ok, I.os, I.bare, I.base, I.loc, I.cell, I.free, I.freeC, fun p hp => I.pin p (by
    rw [List.append_nil]
    show p ∈ q :: (X.pn ++ pins)
    rcases List.mem_append.mp hp with h | h
    · exact List.mem_cons_of_mem _ (List.mem_append_left _ h)
    · rcases List.mem_cons.mp h with h | h
      · rw [h]
        exact List.mem_cons_self
      · exact List.mem_cons_of_mem _ (List.mem_append_right _ h)), I.hok, I.len⟩
end
/-- an exception that has landed in this frame: it is new since the entry, apart from all that is pinned -/
structure Landed (X : Cx) (pins : List (Addr × Obj)) (σ : St) (H : Hp) (a : Addr) (cls : Value) (d : Option Addr) (s : Shared) : Prop where
  inv : Inv X pins σ H s
  new0 : X.s_0.heap.get? a = none
  npin : ∀ p ∈ X.pn ++ pins, p.1 ≠ a
  nL : a ≠ X.env.locals
  nF : a ∉ X.fs
  obj : ∃ oe vs, s.heap.get? a = some oe ∧ Zc cls d oe ∧ oe.data = .fields vs
section
variable {X : Cx} {pins : List (Addr × Obj)} {σ : St} {H : Hp} {sI s' : Shared} {B h : Heap} {a : Addr} {cls : Value} {d : Option Addr}
theorem landed_of (hs : X.stack = X.env :: X.outer) (hf : X.env.frame = some X.env.locals) (hx : X.ex = []) (J : Inv X pins σ H sI) (nb : ∀ b o, sI.heap.get? b = some o → b ∉ frs X.stack → B.get? b = some o)
    (os : s'.os = sI.os) (ag : AllBare s'.gens) (fl : HandSPX.FlyingZ B (X.env :: X.outer) a (Zc cls d) h) (up : sI.heap.UpToSlots h) : Landed X pins σ H a cls d { s' with heap := h } := by
  have ob := fl.there
  obtain ⟨oe, vs, he, _, hd⟩ := id ob
  -- no frame is a record of fields
  have nfr : a ∉ frs (X.env :: X.outer) := fun hm => by
    obtain ⟨_, o, e, k⟩ := fl.2.2.1.mem hm
    cases he.symm.trans e
    exact k _ hd
  have nI : ∀ o, sI.heap.get? a ≠ some o := fun o e => by
    have z := (nb a o e (by rw [hs]; exact nfr)).symm.trans fl.2.1
    cases z
  refine ⟨J.landed (s' := { s' with heap := h }) nb fl.1 up os ag, ?_, fun p hp q => nI p.2 (by rw [← q]; exact (J.pin p hp).1), ?_, ?_, ob⟩
  · cases e : X.s_0.heap.get? a with
    | none => rfl
    | some o =>
      obtain ⟨o', z⟩ := J.base.there a o e (by rw [hx]; exact List.not_mem_nil)
      exact absurd z (nI o')
  · rintro rfl
    exact nfr (List.mem_filterMap.mpr ⟨X.env, .head _, hf⟩)
  · intro hm
    obtain ⟨e, he, q⟩ := List.mem_filterMap.mp hm
    exact nfr (List.mem_filterMap.mpr ⟨e, .tail _ he, q⟩)
theorem Landed.suite (L : Landed X pins σ H a cls d s') (na : H a = none) : ∃ oe vs, Zc cls d oe ∧ oe.data = .fields vs ∧ Inv (X.suite a ((a, oe) :: (X.pn ++ pins))) [] σ H s' := by
  obtain ⟨oe, vs, he, hz, hd⟩ := L.obj
  exact ⟨oe, vs, hz, hd, L.inv.suite he hd na L.nL L.nF⟩
end
/-- what the clause wishes: the exception is one of its class; slot i is its name in the suite, slot j the name that keeps it -/
def wKeep (K : PySem.W.Frag) (c : Value) (i j : Nat) (D : Ends) : WX := fun cls d σ H =>
  PySem.W.exmOne K cls c = some true ∧ ∀ a, H a = none → D.nx (((σ.set i (some (.ref a))).set j (some (.ref a))).set i none) (upd H a (ExK cls d a))
section
variable {X : Cx} {x n : Str} {c : Value} {i j : Nat} {body suite : List Stmt} {b₀ : Stmt} {np pos pos' : Pos} {tb : WX → TS}
theorem ps_try_keep (hs : X.stack = X.env :: X.outer) (hf : X.env.frame = some X.env.locals) (hx : X.ex = []) (hN : X.N.Nodup) (hi : X.N[i]? = some n) (hln : X.env.kindOf n = some .local) (hc : Names X x c)
    (hb : ∀ (W : WX) (pn : List (Addr × Obj)) (xe : Value → Shared → Prop), Takes (X.tr pn xe) W → PSs (X.tr pn xe) body (tb W))
    (hsu : ∀ (a : Addr) (oe : Obj) (pn : List (Addr × Obj)), PSs (X.suite a ((a, oe) :: pn)) (b₀ :: suite) (tAsg (tVar i) (gName j))) :
    PS X (.Try body [.ExceptHandler (some (.Name x np)) (some n) (b₀ :: suite) pos'] [] [] pos) (fun D σ H => tb (wKeep X.K c i j D) D σ H) :=
  ⟨fun pins s σ H D I h => wpAny_Try_except (by
    refine wpAny_mono ((hb (wKeep X.K c i j D) (X.pn ++ pins) _ ?takes).run [] s σ H D (I.toTry _) h) (fun f s1 hsp => ?_) (fun _ _ z => z)
    case takes =>
      rintro _ s' ⟨a, B, sI, pins', σ', H', cls, d, rfl, J', nb, up, sky, na, os, ag, hm, hyes⟩
      have J : Inv X pins σ' H' sI := J'.ofTry I.ok
      refine Sky.land Zc.steady (I.ok.frames.trans (congrArg some hs)) hf (by rw [← hs]; exact sky) fun h3 fl3 up3 => ?_
      have L3 := landed_of (s' := s') hs hf hx J nb os ag fl3 (up.trans up3)
      obtain ⟨oe3, vs3, _, _, S3⟩ := L3.suite na
      have look : PySem.W.Looks (model X.prog X.w) h3 (typeOf (.ref a)) cls := fun A Q E s k q => by
        obtain ⟨oe, _, he, hz, _⟩ := L3.obj
        exact wpAny_typeOf_ref (k _ _ he) (by rw [hz.1]; exact q)
      refine wpAny_handleBy_cons (codeAny_handlers_test ?_) nofun
      refine (show ∀ {Q : Value → Shared → Prop} {E : Value → Shared → Prop}, Q c { s' with heap := h3 } → wpAny (model X.prog X.w) (X.A.mark (some (.ref a))) (eval (.Name x np) X.env) Q E { s' with heap := h3 } from fun q => ?name) ((PySem.W.exm_one L3.inv.kIn look hm).here ?_)
      case name =>
        rcases hc with ⟨hg, hd, k | ⟨k1, k2, k3⟩⟩
        · exact ld_glob S3 hg k q hd
        · exact ld_blt S3 hg k1 k2 q k3 hd
      refine codeAny_handlers_suite_as (HandSPX.lands_againZ fl3 fun h4 fl4 up4 => ?_)
      have L4 := landed_of (s' := s') hs hf hx J nb os ag fl4 ((up.trans up3).trans up4)
      obtain ⟨oe4, vs4, hz4, hd4, S4⟩ := L4.suite na
      refine store_ok (X := X.suite a ((a, oe4) :: (X.pn ++ pins))) (v := .ref a) S4 hN hi (.inl hln) rfl (fun s5 S5 => ?_) (.inr hln)
      have hlt : i < σ'.length := J.len ▸ (List.getElem?_eq_some_iff.mp hi).1
      refine wpAny_mono ((hsu a oe4 (X.pn ++ pins)).run [] s5 _ H' { nx := fun σ6 H6 => σ6 = (σ'.set i (some (.ref a))).set j (some (.ref a)) ∧ H6 = H', rt := fun _ _ => False, bk := fun _ _ => False, ct := fun _ _ => False } S5 ⟨.ref a, List.getElem?_set_self hlt, rfl, rfl⟩) (fun f s6 z => ?_) (fun _ _ z => z.elim)
      cases f with
      | next =>
        obtain ⟨_, _, S6, rfl, rfl⟩ := z
        exact gone_ok (S6.suitePin I.ok) hN hi hln fun s7 J7 => ⟨_, _, J7.track L4.new0 L4.npin hz4 hd4, hyes a na⟩
      | ret u => exact (let ⟨_, _, _, _, _, q⟩ := z; q.elim)
      | brk => exact (let ⟨_, _, _, q⟩ := z; q.elim)
      | cont => exact (let ⟨_, _, _, q⟩ := z; q.elim)
    cases f with
    | next => exact (let ⟨_, _, J, q⟩ := hsp; wpAny_execs_nil ⟨_, _, J.ofTry I.ok, q⟩)
    | ret u => exact (let ⟨_, _, _, J, r, q⟩ := hsp; ⟨_, _, _, J.ofTry I.ok, r, q⟩)
    | brk => exact (let ⟨_, _, J, q⟩ := hsp; ⟨_, _, J.ofTry I.ok, q⟩)
    | cont => exact (let ⟨_, _, J, q⟩ := hsp; ⟨_, _, J.ofTry I.ok, q⟩))⟩
end
end L2

set_option Elab.async false
set_option linter.all false
set_option maxRecDepth 100000
set_option maxHeartbeats 4000000
/-! A lambda is called while nothing is being shown: what is known of the guards goes along. -/
namespace LamG
open PySem PySem.Spec PyProof.Rows L2 LamX
section
variable {X : Cx} {pins : List (Addr × Obj)} {σ : L2.St} {H HZ : Hp} {s t : Shared} {f c : Addr} {pm cv : Value} {params : Arguments} {body : Expr} {scope : Scope} {k : Nat} {te : TE} {E : XK}
/-- the lambda that X made, as it lies at f -/
abbrev made (X : Cx) (params : Arguments) (body : Expr) (scope : Scope) (pm : Value) (c : Addr) (cv : Value) : Obj :=
  PySem.W.kla_obj "<lambda>" (X.env.qual ++ "<lambda>") params body scope (cloFrom X.env.cells scope.names []) pm c cv
/-- its call, around A -/
theorem lam_call {A : Around} {outer : List Env} {Q : VK} (I : Inv X pins σ H s) (L : LamS X.env.scope scope) (at_ : t.heap.get? f = some (made X params body scope pm c cv))
    (bind : bindArgs (PySem.W.kla_fn "<lambda>" (X.env.qual ++ "<lambda>") params body scope (cloFrom X.env.cells scope.names []) pm (.ref c) cv) ⟨[], []⟩ = pure [])
    (e0 : Env0 X.prog X.w X.K X.mg X.base A outer t HZ) (room : Room (k + 1) A) (lim : t.heap.NoLimit) (un : Un (frs X.stack) [] H HZ s.heap t.heap) (code : HZ c = some (CodeO c (X.env.qual ++ "<lambda>")))
    (walk : Room k (A.deeper (lamEnv X scope t.heap.objs.size f c)) → PE (lamCx X A outer t HZ E scope f c) body te) (h : te σ HZ Q) :
    codeAny (model X.prog X.w) A (.call (.ref f) ⟨[], []⟩) (CR (L2.CX X.prog X.w) outer X.prog X.w HZ t Q E) t := by
  obtain ⟨⟨oc, rec, tk, c1, c2, c3⟩, -, -⟩ := e0.hok c _ code
  refine PySem.W.kla_callFunE room.depth at_ rfl L.co L.gen rfl ⟨c, oc, rec, tk, rfl, c1, c2, c3⟩ ?_
  rw [bind]
  refine wpAny_pure (wpAny_newFunctionEnv (fun y hy => (L.own y hy).2) (fun y hy => absurd hy List.not_mem_nil) (fun h1 ns below => ⟨lim.fresh _ below, PySem.W.kla_codeExpr ?_⟩) L.kind)
  have stay : ∀ b o, t.heap.get? b = some o → h1.get? b = some o := fun b o e => below.extBut b o (Nat.ne_of_lt (Heap.lt_size e)) (Heap.get?_push_of_some _ e)
  have J := lam_start2 (E := E) (tk := t.toks + 0) (f := f) (c' := c) I L e0 room.hd un ns stay
  refine wpAny_mono ((walk (room.deeper _)).run [] _ _ HZ Q J h) (fun v s2 z => ?_) fun _ _ z => z
  obtain ⟨u, H2, J2, r, q⟩ := z
  exact ⟨u, H2, J2.os, J2.bare, J2.base, J2.hok, r, q⟩
/-- a(), in the def that was handed the lambda -/
theorem pe_actG {Eg : XK} {CXg : CXT} {Ng : List Str} {qg a : Str} {sg : Scope} {g : Addr} {cdg : Value} {i : Nat} {pn : List (Addr × Obj)} {xe : Value → Shared → Prop} {W : WX} {p1 p2 : Pos}
    (I : Inv X pins σ H s) (L : LamS X.env.scope scope) (at_ : s.heap.get? f = some (made X params body scope pm c cv)) (nf : H f = none) (nfr : f ∉ frs X.stack)
    (bind : bindArgs (PySem.W.kla_fn "<lambda>" (X.env.qual ++ "<lambda>") params body scope (cloFrom X.env.cells scope.names []) pm (.ref c) cv) ⟨[], []⟩ = pure [])
    (tk : Takes ((cxOf CXg X.prog X.w X.K X.mg X.base Ng qg sg g cdg X.A X.stack s H Eg).tr pn xe) W) (hW : ∀ cls d σ' H', E cls d H' → W cls d σ' H') (room : Room (k + 1) (X.A.deeper (envOfC qg sg s.heap.objs.size g cdg)))
    (walk : ∀ (A : Around) (outer : List Env) (t : Shared) (H : Hp), A.guards = X.A.guards → Room k (A.deeper (lamEnv X scope t.heap.objs.size f c)) → PE (lamCx X A outer t H E scope f c) body te)
    (hN : Ng[i]? = some a) (hv : Vis sg a) (d1 : (a == ("__debug__" : Str)) = false := by decide) (d2 : (a == ("__classdict__" : Str)) = false := by decide) :
    PE ((cxOf CXg X.prog X.w X.K X.mg X.base Ng qg sg g cdg X.A X.stack s H Eg).tr pn xe) (.Call (.Name a p1) [] [] p2)
      (fun σZ HZ Q => σZ[i]? = some (some (.ref f)) ∧ HZ c = some (CodeO c (X.env.qual ++ "<lambda>")) ∧ te σ HZ Q) := by
  refine ⟨fun pz sz σz Hz Q Iz h => wpAny_Call_Name_kw (thn ((pe_var (pos := p1) (i := i) hN hv d1 d2).run pz sz σz Hz (fun v H1 => v = .ref f ∧ H1 = Hz) Iz ⟨.ref f, h.1, rfl, rfl⟩) fun u s1 z => ?_)⟩
  obtain ⟨v, H1, I1, r1, rfl, rfl⟩ := z
  cases (show u = Value.ref f from r1)
  have at1 : s1.heap.get? f = some (made X params body scope pm c cv) := I1.base.keep f _ at_ nf nfr List.not_mem_nil
  refine PySem.W.callWith_F0 ⟨_, _, _, _, at1⟩ (wpAny_call (codeAny_mono (lam_call (X := X) (pins := pins) (σ := σ) (H := H) (s := s) (E := E) I L at1 bind I1.env0 room I1.nolimit I1.base h.2.1 (walk _ _ s1 H1 rfl) h.2.2) fun r s2 z => ?_))
  cases r with
  | error e => exact passes_call tk hW pz σz H1 s1 e s2 I1 z
  | ok fl => cases fl with
    | ret u => exact I1.after z
    | _ => exact (show False from z).elim
/-- the def that calls what it got, while nothing is being shown -/
def GivesG (X : Cx) (Ng : List Str) (x : Str) (sg : Scope) (g : Addr) (cdg : Value) (bg : List Stmt) (a q : Str) (TT : (XK → Hp → VK → Prop) → Hp → VK → Prop) : Prop :=
  ∀ (f c : Addr) (s : Shared) (H : Hp) (Q : VK) (tl : XK → Hp → VK → Prop),
    (∀ (W : WX) (pn : List (Addr × Obj)) (xe : Value → Shared → Prop) (E : XK) (p1 p2 : Pos), Takes ((cxOf C8.CX0 X.prog X.w X.K X.mg X.base Ng x sg g cdg X.A X.stack s H C8.E0).tr pn xe) W → (∀ cls d σ' H', E cls d H' → W cls d σ' H') →
      PE ((cxOf C8.CX0 X.prog X.w X.K X.mg X.base Ng x sg g cdg X.A X.stack s H C8.E0).tr pn xe) (.Call (.Name a p1) [] [] p2) (fun σZ HZ Q => σZ[0]? = some (some (.ref f)) ∧ HZ c = some (CodeO c q) ∧ tl E HZ Q)) →
    H c = some (CodeO c q) → TT tl H Q →
    ∃ t, PSs (cxOf C8.CX0 X.prog X.w X.K X.mg X.base Ng x sg g cdg X.A X.stack s H C8.E0).nox bg t ∧ t { nx := fun _ H' => Q .non H', rt := Q } (L2.start Ng [.ref f]) H
/-- x(lambda: body) -/
theorem pe_lamG {T : List (Addr × Str)} {TT : (XK → Hp → VK → Prop) → Hp → VK → Prop} {x a : Str} {g c P : Addr} {pg : Arguments} {bg : List Stmt} {sg : Scope} {dV kV doc pm cdv ct oc : Value} {an od : Option Addr} {osl : Array (Option Value)} {Ng : List Str}
    {t : XK → TE} {p lpos pos : Pos} (hg : Gl X x) (hm : X.mg x = some (.ref g)) (hk : PySem.W.keepIn X.K (.ref g) = true) (lk : X.K.lookup g = some ⟨oc, od, .func (PySem.W.fnOf x x pg bg sg dV kV doc pm an cdv ct), osl⟩) (hcg : PySem.W.codeIn X.K cdv x = true)
    (hb : L2.Binds X.K (PySem.W.fnOf x x pg bg sg dV kV doc pm an cdv ct) [a] []) (Sg : FnScope Ng [a] sg) (hNg : Ng[0]? = some a) (hva : Vis sg a) (hG : GivesG X Ng x sg g cdv bg a (X.env.qual ++ "<lambda>") TT) (TB : TabB X.base X.mg c P) (hcode : X.env.code = .ref c)
    (hmT : (P, X.env.qual ++ "<lambda>") ∈ T) (hu : ∀ p ∈ T, p.1 = P → p.2 = X.env.qual ++ "<lambda>") (hr : Room (k + 2) X.A) (L : LamS X.env.scope scope) (hdef : defaultsOf params X.env = ([], []))
    (hbind : ∀ (q : Str) (cl : List (Str × Addr)) (pm cv ctv : Value), bindArgs (PySem.W.kla_fn "<lambda>" q params body scope cl pm cv ctv) ⟨[], []⟩ = pure [])
    (walk : ∀ (A : Around) (outer : List Env) (s : Shared) (H : Hp) (E : XK) (f c : Addr), A.guards = X.A.guards → Room k (A.deeper (lamEnv X scope s.heap.objs.size f c)) → PE (lamCx X A outer s H E scope f c) body (t E))
    (hdb : (x == ("__debug__" : Str)) = false := by decide) (d1 : (a == ("__debug__" : Str)) = false := by decide) (d2 : (a == ("__classdict__" : Str)) = false := by decide) :
    PE X (.Call (.Name x p) [.Lambda params body scope lpos] [] pos) (tLam T TT t) := by
  refine ⟨fun pins s σ H Q I ⟨hT, h⟩ => wpAny_Call_Name_kw (ld_glob I hg hm (PySem.W.callWith_K (h₀ := X.base) I.ok.mod.kin hk ?_ (by rfl) (by rfl)) hdb)⟩
  show wpAny _ _ (spliced ((false, eval (.Lambda params body scope lpos) X.env) :: backTo pos (starEach [] X.env))) _ _ s
  refine Calls.spliced_cons (lam_make2 I TB hcode hmT hu hT hdef (L.has I.ok) fun f c' pm' ctv H1 s1 I1 eN T1 hf hfn hfr hco => Calls.spliced_nil ⟨I1.kIn, wpAny_call (codeAny_mono (R := CR C8.CX0 X.stack X.prog X.w H1 s1 Q C8.E0) ?_ fun r s2 z => ?_)⟩)
  · refine run_ofS (N := Ng) (ps := [a]) (us := [.ref f]) (vs := [.ref f]) lk hcg Sg hr I1.env0 (hb s1 [.ref f] I1.kIn rfl) (.cons rfl .nil) rfl fun room => ?_
    obtain ⟨t1, w1, q1⟩ := hG f c' s1 H1 Q (fun E H' Q' => t E σ H' Q') (fun W pn xe E p1 p2 tk hW => pe_actG (i := 0) I1 L hf hfn hfr (hbind _ _ _ _ _) tk hW room (fun A outer s H gd hr2 => walk A outer s H E f c' gd hr2) hNg hva d1 d2) hco (h H1 eN T1)
    exact ⟨t1, w1.nox, q1⟩
  · cases r with
    | error e => exact (show False from z).elim
    | ok fl => cases fl with
      | ret u => exact I1.after z
      | _ => exact (show False from z).elim
end
end LamG

set_option Elab.async false
set_option linter.all false
set_option maxRecDepth 100000
set_option maxHeartbeats 4000000
/-! try: .. except X as n: ..; except ..: only the first clause is met. -/
namespace L2
open PySem PySem.Spec PyProof.Rows
/-- what is wished of an exception of the body: the first clause takes it -/
def wFirst (K : PySem.W.Frag) (c : Value) (i : Nat) (ts : Addr → Value → Option Addr → TS) (D : Ends) : WX := fun cls d σ H =>
  PySem.W.exmOne K cls c = some true ∧ ∀ a, H a = none → ts a cls d { nx := fun _ _ => False, rt := D.rt, bk := fun _ _ => False, ct := fun _ _ => False } (σ.set i (some (.ref a))) H
section
variable {X : Cx} {x n : Str} {c : Value} {i : Nat} {body suite : List Stmt} {b₀ : Stmt} {np pos pos' : Pos} {tb : WX → TS} {ts : Addr → Value → Option Addr → TS} {hds : List ExceptHandler}
theorem ps_try_first (hs : X.stack = X.env :: X.outer) (hf : X.env.frame = some X.env.locals) (hx : X.ex = []) (hN : X.N.Nodup) (hi : X.N[i]? = some n) (hln : X.env.kindOf n = some .local) (hc : Names X x c)
    (hb : ∀ (W : WX) (pn : List (Addr × Obj)) (xe : Value → Shared → Prop), Takes (X.tr pn xe) W → PSs (X.tr pn xe) body (tb W))
    (hsu : ∀ (a : Addr) (oe : Obj) (cls : Value) (d : Option Addr) (pn : List (Addr × Obj)), Zc cls d oe → (∃ vs, oe.data = .fields vs) → PSs (X.suite a ((a, oe) :: pn)) (b₀ :: suite) (ts a cls d)) :
    PS X (.Try body (.ExceptHandler (some (.Name x np)) (some n) (b₀ :: suite) pos' :: hds) [] [] pos) (fun D σ H => tb (wFirst X.K c i ts D) D σ H) :=
  ⟨fun pins s σ H D I h => wpAny_Try_except (by
    refine wpAny_mono ((hb (wFirst X.K c i ts D) (X.pn ++ pins) _ ?takes).run [] s σ H D (I.toTry _) h) (fun f s1 hsp => ?_) (fun _ _ z => z)
    case takes =>
      rintro _ s' ⟨a, B, sI, pins', σ', H', cls, d, rfl, J', nb, up, sky, na, os, ag, hm, hyes⟩
      have J : Inv X pins σ' H' sI := J'.ofTry I.ok
      refine Sky.land Zc.steady (I.ok.frames.trans (congrArg some hs)) hf (by rw [← hs]; exact sky) fun h3 fl3 up3 => ?_
      have L3 := landed_of (s' := s') hs hf hx J nb os ag fl3 (up.trans up3)
      obtain ⟨oe3, vs3, _, _, S3⟩ := L3.suite na
      have look : PySem.W.Looks (model X.prog X.w) h3 (typeOf (.ref a)) cls := fun A Q E s k q => by
        obtain ⟨oe, _, he, hz, _⟩ := L3.obj
        exact wpAny_typeOf_ref (k _ _ he) (by rw [hz.1]; exact q)
      refine wpAny_handleBy_cons (codeAny_handlers_test ?_) nofun
      refine (show ∀ {Q : Value → Shared → Prop} {E : Value → Shared → Prop}, Q c { s' with heap := h3 } → wpAny (model X.prog X.w) (X.A.mark (some (.ref a))) (eval (.Name x np) X.env) Q E { s' with heap := h3 } from fun q => ?name) ((PySem.W.exm_one L3.inv.kIn look hm).here ?_)
      case name =>
        rcases hc with ⟨hg, hd, k | ⟨k1, k2, k3⟩⟩
        · exact ld_glob S3 hg k q hd
        · exact ld_blt S3 hg k1 k2 q k3 hd
      refine codeAny_handlers_suite_as (HandSPX.lands_againZ fl3 fun h4 fl4 up4 => ?_)
      have L4 := landed_of (s' := s') hs hf hx J nb os ag fl4 ((up.trans up3).trans up4)
      obtain ⟨oe4, vs4, hz4, hd4, S4⟩ := L4.suite na
      refine store_ok (X := X.suite a ((a, oe4) :: (X.pn ++ pins))) (v := .ref a) S4 hN hi (.inl hln) rfl (fun s5 S5 => ?_) (.inr hln)
      refine wpAny_mono ((hsu a oe4 cls d (X.pn ++ pins) hz4 ⟨_, hd4⟩).run [] s5 _ H' _ S5 (hyes a na)) (fun f s6 z => ?_) (fun _ _ z => z.elim)
      cases f with
      | ret u =>
        obtain ⟨v, _, _, S6, rv, q⟩ := z
        exact gone_ok (S6.unsuite I.ok) hN hi hln fun s7 J7 => ⟨v, _, _, J7, rv, q⟩
      | next => exact (let ⟨_, _, _, q⟩ := z; q.elim)
      | brk => exact (let ⟨_, _, _, q⟩ := z; q.elim)
      | cont => exact (let ⟨_, _, _, q⟩ := z; q.elim)
    cases f with
    | next => exact (let ⟨_, _, J, q⟩ := hsp; wpAny_execs_nil ⟨_, _, J.ofTry I.ok, q⟩)
    | ret u => exact (let ⟨_, _, _, J, r, q⟩ := hsp; ⟨_, _, _, J.ofTry I.ok, r, q⟩)
    | brk => exact (let ⟨_, _, J, q⟩ := hsp; ⟨_, _, J.ofTry I.ok, q⟩)
    | cont => exact (let ⟨_, _, J, q⟩ := hsp; ⟨_, _, J.ofTry I.ok, q⟩))⟩
end
end L2
namespace K06
open PySem PySem.Spec PyProof.Rows L2 Cm LamX LamG
open Tb (manyF)
open EvP (Ex)
abbrev sWhat : Stmt := top 50
abbrev NWh : List Str := ["ask", "error"]
theorem scWhat : FnScope NWh ["ask"] (defScope sWhat) := ⟨rfl, rfl, rfl, by decide +kernel, rfl, by decide +kernel, by decide +kernel⟩
/-- a reading may be told of less -/
theorem pe_less {X : Cx} {e : Expr} {te : TE} (h : PE X e te) : PE X e (fun σ H Q => ∃ Q' : VK, (∀ v H1, Q' v H1 → Q v H1) ∧ te σ H Q') :=
  ⟨fun pins s σ H Q I ⟨Q', hq, ht⟩ => wpAny_mono (h.run pins s σ H Q' I ht) (fun _ _ ⟨v, H1, I1, r, q⟩ => ⟨v, H1, I1, r, hq v H1 q⟩) fun _ _ z => z⟩
/-- what is told of an ask that raises TooMany: a tuple of what, and how many -/
def TWhat (CT : Addr) : (XK → Hp → VK → Prop) → Hp → VK → Prop := fun tl H Q =>
  tl (fun cls d H1 => ∃ s dd, cls = .ref CT ∧ d = some dd ∧ H1 dd = some (.xd (manyF s)) ∧ ∀ t H2, Ex H1 H2 → H2 t = some (.tup [.str s, .int 6]) → Q (.ref t) H2) H (fun _ _ => False)
/-- the class TooMany, as it is caught -/
structure ManyX (K : PySem.W.Frag) (mg : Str → Option Value) (CT : Addr) : Prop where
  g : mg "TooMany" = some (.ref CT)
  te : PySem.W.exmOne K (.ref CT) (.ref CT) = some true
  XC : XfC K CT
  n1 : PySem.W.findIn K (.ref CT) "what" = some none
  n2 : PySem.W.findIn K (.ref CT) "most" = some none
theorem what_gives {X : Cx} {q : Str} {g CT : Addr} {cdg : Value} (L : ManyX X.K X.mg CT) : GivesG X NWh "_law_what" (defScope sWhat) g cdg (defBody sWhat) "ask" q (TWhat CT) := by
  have nd := scWhat.nd
  intro f c' s H Q tl act hc h
  refine ⟨_, pss_cons (ps_try_first (c := .ref CT) (i := 1) (tb := fun W D σ H => ∃ Ech : XK, (∀ cls d (σ' : L2.St) H', σ'.length = 2 → Ech cls d H' → W cls d σ' H') ∧ σ[0]? = some (some (.ref f)) ∧ H c' = some (CodeO c' q) ∧ tl Ech H (fun _ _ => False))
      (ts := fun a cls d => tRet (tTup (tCons (tXf a cls d CT "what" (tVar 1)) (tCons (tXf a cls d CT "most" (tVar 1)) tNil))))
      rfl rfl rfl nd rfl rfl ⟨by rfl, by decide, .inl L.g⟩ (fun W pn xe tk => ?_) (fun a oe cls d pn hz hd => pss_one (ps_ret (pe_tup (pa_cons (pe_xf L.XC L.n1 hz hd (pv 1)) (pa_cons (pe_xf L.XC L.n2 hz hd (pv 1)) pa_nil))))))
    (pss_one (ps_ret pe_non)), ?_⟩
  · refine ⟨fun pins s' σ H' D I h' => ?_⟩
    obtain ⟨Ech, hW, h1, h2, h3⟩ := h'
    have hp := fun p1 p2 => act (fun cls d σ H => σ.length = 2 → W cls d σ H) pn xe Ech p1 p2 (fun u s' ⟨a, B, sI, pins, σ, H, cls, d, e, I, nb, up, sky, na, os, ag, w⟩ => tk u s' ⟨a, B, sI, pins, σ, H, cls, d, e, I, nb, up, sky, na, os, ag, w I.len⟩) (fun cls d σ' H' e l => hW cls d σ' H' l e)
    exact (pss_one (ps_expr (pe_less (hp _ _)))).run pins s' σ H' D I ⟨fun _ _ => False, fun _ _ z => z.elim, h1, h2, h3⟩
  · refine ⟨_, ?_, rfl, hc, h⟩
    rintro cls d σ' H2 hl ⟨t, dd, rfl, rfl, hx, k⟩
    obtain ⟨s0, s1, rfl⟩ : ∃ s0 s1, σ' = [s0, s1] := by
      match σ', hl with
      | [s0, s1], _ => exact ⟨s0, s1, rfl⟩
    refine ⟨L.te, fun a na => ?_⟩
    refine ⟨.ref a, rfl, rfl, rfl, dd, _, .str t, rfl, hx, rfl, .ref a, rfl, rfl, rfl, dd, _, .int 6, rfl, hx, rfl, by show 2 ≤ sizeLine; decide, fun p hp => k p _ (Ex.new hp) upd_same⟩
end K06

set_option Elab.async false
set_option linter.all false
set_option maxRecDepth 100000
set_option maxHeartbeats 4000000
/-! Tables by the worth of each pair; what the signs give; defs of the top that keep promises. -/
namespace XG
open PySem PySem.Spec PyProof.Rows L2
section
variable {X : Cx} {k : Nat} {f C : Addr} {fd : FuncData} {ps : List Str} {sp : Sp} {x : Str} {p pos : Pos} {e : Expr} {es : List Expr} {t : TA} {dvs : List V} {ds : List Value}
theorem run_makeGD {pins : List (Addr × Obj)} {σ : L2.St} {H : Hp} {s : Shared} {Q : VK} {us : List Value} {vs : List V} (M : Mk X.K C f) (F : FnG X.prog X.w X.K X.mg X.base CX0 k f fd ps sp) (len : ∀ vs H Q E, sp vs H Q E → vs.length = ps.length) (gd : X.A.guards = some []) (hr : Room (k + 1) X.A) (hb : Binds X.K fd ps ds) (hd : Vals dvs ds)
    (I : Inv X pins σ H s) (r : Vals vs us) (h : ∀ x dx, H x = none → H dx = none → dx ≠ x → sp (.ref x :: (vs ++ dvs)) (upd (upd H dx (.own x)) x (.ins C dx [])) (fun v H2 => v = .non ∧ Q (.ref x) H2) E0) : wpAny (model X.prog X.w) X.A (call (.ref C) us) (EP X pins σ Q) X.xe s := by
  have q := h (s.heap.objs.size + 1) s.heap.objs.size (I.hok.fresh (Nat.le_succ _)) (I.hok.fresh (Nat.le_refl _)) (Nat.ne_of_lt (Nat.lt_succ_self _))
  have J := Inv.made (C := C) I
  have rr : Vals (V.ref (s.heap.objs.size + 1) :: (vs ++ dvs)) (Value.ref (s.heap.objs.size + 1) :: us ++ ds) := .cons rfl (r.append hd)
  have n : (Value.ref (s.heap.objs.size + 1) :: us ++ ds).length = ps.length := by rw [← rr.length]; exact len _ _ _ _ q
  refine wpAny_call (make_map (f := f) I.kIn M.makes M.init (beq_iff_eq.mp M.fn) (codeAny_mono (F _ X.stack _ _ ⟨Value.ref (s.heap.objs.size + 1) :: us, []⟩ (Value.ref (s.heap.objs.size + 1) :: us ++ ds) _ _ E0 gd (hr.make C us []) (J.env0.make C us []) (hb _ (Value.ref (s.heap.objs.size + 1) :: us) J.kIn n) rr q) fun r' s' hq => ?_))
  cases r' with
  | error e => exact (show False from hq).elim
  | ok fl =>
    cases fl with
    | ret u =>
      obtain ⟨v, H', I3, rv, ev, q3⟩ := J.after hq
      subst ev
      exact ⟨rv, V.ref (s.heap.objs.size + 1), H', I3, rfl, q3⟩
    | next => exact False.elim hq
    | brk => exact False.elim hq
    | cont => exact False.elim hq
def tMakeGD (C : Addr) (sp : Sp) (dvs : List V) (t : TA) : TE := fun σ H Q => t σ H fun vs H1 => ∀ x dx, H1 x = none → H1 dx = none → dx ≠ x → sp (.ref x :: (vs ++ dvs)) (upd (upd H1 dx (.own x)) x (.ins C dx [])) (fun v H2 => v = .non ∧ Q (.ref x) H2) E0
theorem pe_makeGD (M : Mk X.K C f) (F : FnG X.prog X.w X.K X.mg X.base CX0 k f fd ps sp) (len : ∀ vs H Q E, sp vs H Q E → vs.length = ps.length) (gd : X.A.guards = some []) (hr : Room (k + 1) X.A) (hb : Binds X.K fd ps ds) (hd : Vals dvs ds) (hg : Gl X x) (hm : X.mg x = some (.ref C))
    (ha : PA X (e :: es) t) (hdb : (x == ("__debug__" : Str)) = false := by decide) (he : starEach (e :: es) X.env = (false, eval e X.env) :: starEach es X.env := by rfl) (hpl : (backTo pos (starEach es X.env)).any (·.1) = false := by rfl) : PE X (.Call (.Name x p) (e :: es) [] pos) (tMakeGD C sp dvs t) := by
  refine ⟨fun pins s σ H Q I h => wpAny_Call_Name_kw (ld_glob I hg hm ?_ hdb)⟩
  exact PySem.W.callWith_K (h₀ := X.base) I.ok.mod.kin M.kp (thn (ha.run pos pins s σ H _ I h) fun us s1 ⟨vs, H1, I1, r, q⟩ => ⟨I1.kIn, run_makeGD M F len gd hr hb hd I1 r q⟩) he hpl
end
end XG
namespace K06
open PySem PySem.Spec PyProof.Rows L2 Cm LamX
open DtE (TRow tents lookT sameT)
open Tb (key2 PairK wk TblAt TblC TblI Tab TabAt spTEq spTItem firsts manyF tblT rowsT rowT rowW Wks spTStr)
open Fk (NameV nameB srt srt_perm)
open EvP (Ex All2 is Gives)
/-- as Fun, its code object at c -/
structure FunC (K : PySem.W.Frag) (x qual : Str) (st : Stmt) (f c : Addr) (fd : FuncData) : Prop where
  ex : ∃ (oc : Value) (od : Option Addr) (kV doc pm : Value) (an : Option Addr) (ct : Value) (osl : Array (Option Value)),
    fd = PySem.W.fnOf x qual (defArgs st) (defBody st) (defScope st) .none kV doc pm an (.ref c) ct ∧ K.lookup f = some ⟨oc, od, .func fd, osl⟩ ∧ PySem.W.codeIn K (.ref c) qual = true
  kp : PySem.W.keepIn K (.ref f) = true
theorem FunC.okG {P : Program} {w : World} {K : PySem.W.Frag} {mg : Str → Option Value} {base : Heap} {k : Nat} {f c : Addr} {ps : List Str} {sp : Sp} {x qual : Str} {st : Stmt} {fd : FuncData} {N : List Str} (F : FunC K x qual st f c fd) (S : FnScope N ps (defScope st)) (len : ∀ vs H Q E, sp vs H Q E → vs.length = ps.length)
    (walk : ∀ (A : Around) (outer : List Env) (s : Shared) (H : Hp) (vs : List V) (Q : VK) (E : XK), A.guards = some [] → Room k (A.deeper (envOfC qual (defScope st) s.heap.objs.size f (.ref c))) → sp vs H Q E →
      ∃ t, PSs (cxOf CX0 P w K mg base N qual (defScope st) f (.ref c) A outer s H E).nox (defBody st) t ∧ t { nx := fun _ H' => Q .non H', rt := Q } (start N vs) H) : XG.FnG P w K mg base CX0 (k + 1) f fd ps sp := by
  obtain ⟨oc, od, kV, doc, pm, an, ct, osl, rfl, lk, hcd⟩ := F.ex
  refine XG.fnG_of lk hcd S len fun A outer s H vs Q E gd room h => ?_
  obtain ⟨t, a, b⟩ := walk A outer s H vs Q E gd room h
  exact ⟨t, a.nox, b⟩
structure CalD (P : Program) (w : World) (K : PySem.W.Frag) (mg : Str → Option Value) (base : Heap) (k : Nat) (x : Str) (ps : List Str) (sp : Sp) where
  f : Addr
  fd : FuncData
  ok : FnOk P w K mg base CX0 k f fd ps sp
  b : Binds K fd ps []
  g : mg x = some (.ref f)
  kp : PySem.W.keepIn K (.ref f) = true
structure CalG (P : Program) (w : World) (K : PySem.W.Frag) (mg : Str → Option Value) (base : Heap) (k : Nat) (x : Str) (ps : List Str) (sp : Sp) where
  f : Addr
  fd : FuncData
  ok : XG.FnG P w K mg base CX0 k f fd ps sp
  len : ∀ vs H Q E, sp vs H Q E → vs.length = ps.length
  b : Binds K fd ps []
  g : mg x = some (.ref f)
  kp : PySem.W.keepIn K (.ref f) = true
structure CalX (P : Program) (w : World) (K : PySem.W.Frag) (mg : Str → Option Value) (base : Heap) (k : Nat) (x : Str) (ps : List Str) (sp : Sp) where
  f : Addr
  fd : FuncData
  ok : XG.FnG P w K mg base (L2.CX P w) k f fd ps sp
  len : ∀ vs H Q E, sp vs H Q E → vs.length = ps.length
  b : Binds K fd ps []
  g : mg x = some (.ref f)
  kp : PySem.W.keepIn K (.ref f) = true
theorem PlainAt.but {H H' : Hp} {v : V} {ss xs : List Str} {r : TRow} {p q : Addr} {ns : List Int} {s g : Int} (h : PlainAt H v ss xs r) (hP : Pen H p q ns s g) (k : But p H H') : PlainAt H' v ss xs r := by
  obtain ⟨t, a, b, d, h0, h1, h2, h3, h4⟩ := h
  exact ⟨t, a, b, d, h0, k _ _ h1 (ne_of h1 hP.p fun z => nomatch z), k _ _ h2 (strs_ne hP h2), k _ _ h3 (strs_ne hP h3), k _ _ h4 (ne_of h4 hP.p fun z => nomatch z)⟩
theorem Alike.good {ss xs : List Str} {r r' : TRow} (a : Alike r' r) (g : GoodR ss xs r) : GoodR ss xs r' ∧ ∀ k, wk r' k = wk r k := by
  have m : ∀ t ∈ r', t ∈ r := fun t ht => by
    have := (look_mem a.nod).mpr (show (t.1, t.2) ∈ r' from ht)
    rw [a.look] at this
    exact (look_mem g.nod).mp this
  refine ⟨⟨a.nod, fun t ht => g.key t (m t ht), fun t ht => g.pos t (m t ht)⟩, fun k => ?_⟩
  unfold wk
  rw [a.look]
/-- a table over these names, by the worth of each pair -/
structure TabW (C : Addr) (ss xs : List Str) (g : List Key → Int) (v : V) (H : Hp) : Prop where
  ex : ∃ (x : Addr) (r : TRow), v = .ref x ∧ TblAt C H x (srt ss) (srt xs) r ∧ GoodR ss xs r ∧ ∀ k, wk r k = g k
def tabW (C : Addr) (ss xs : List Str) (g : List Key → Int) : EvP.PR := ⟨TabW C ss xs g, fun _ _ _ e h => by
  obtain ⟨x, r, h1, h2, h3, h4⟩ := h.ex
  exact ⟨x, r, h1, h2.mono e, h3, h4⟩⟩
theorem oks_of {ss : List Str} (n : NamesOk ss) : Tb.Oks (srt ss) := fun s hs => ok_str (n.nm s ((srt_perm ss).mem_iff.mp hs))
/-- all but the tables of code stays, also what is no table of code -/
theorem TblAt_N {C x : Addr} {H H' : Hp} {ss xs : List Str} {r : TRow} (e : ExtN H H') (h : TblAt C H x ss xs r) : TblAt C H' x ss xs r := by
  obtain ⟨dx, n1, n2, dw, p, prs, h1, h2, h3, h4, h5, h6⟩ := h
  have all : ∀ {ks : List (List Key)} {vs : List V}, All2 H (ks.map fun k => tupV (k.map kV)) vs → All2 H' (ks.map fun k => tupV (k.map kV)) vs := fun {ks} => by
    induction ks with
    | nil => intro vs h; cases h; exact .nil
    | cons k ks ih =>
      intro vs h
      cases h with
      | cons a t =>
        obtain ⟨b, ev, hb⟩ := a
        exact .cons ⟨b, ev, e _ _ hb (fun ps z => nomatch z)⟩ (ih t)
  exact ⟨dx, n1, n2, dw, p, prs, e _ _ h1 (fun ps z => nomatch z), e _ _ h2 (fun ps z => nomatch z), e _ _ h3 (fun ps z => nomatch z), e _ _ h4 (fun ps z => nomatch z), e _ _ h5 (fun ps z => nomatch z), all h6⟩
theorem TabW_N {C : Addr} {ss xs : List Str} {g : List Key → Int} {v : V} {H H' : Hp} (e : ExtN H H') (h : TabW C ss xs g v H) : TabW C ss xs g v H' := by
  obtain ⟨x, r, h1, h2, h3, h4⟩ := h.ex
  exact ⟨x, r, h1, TblAt_N e h2, h3, h4⟩
theorem PlainAt_N {H H' : Hp} {v : V} {ss xs : List Str} {r : TRow} (e : ExtN H H') (h : PlainAt H v ss xs r) : PlainAt H' v ss xs r := by
  obtain ⟨t, a, b, d, h0, h1, h2, h3, h4⟩ := h.ex
  exact ⟨t, a, b, d, h0, e _ _ h1 (fun ps z => nomatch z), e _ _ h2 (fun ps z => nomatch z), e _ _ h3 (fun ps z => nomatch z), e _ _ h4 (fun ps z => nomatch z)⟩
theorem Pen.N {H H' : Hp} {p q : Addr} {ns : List Int} {s g : Int} (x : Pen H p q ns s g) (e : ExtN H H') : Pen H' p q ns s g := ⟨e _ _ x.p (fun ps z => nomatch z), e _ _ x.q (fun ps z => nomatch z)⟩
theorem Tabs_but {T : List (Addr × Str)} {H H' : Hp} {p : Addr} {xs : List V} (t : Tabs T H) (hp : H p = some (.lst xs)) (k : But p H H') : Tabs T H' := fun x hx => by
  obtain ⟨ps, h1, h2, h3⟩ := t x hx
  refine ⟨ps, k _ _ h1 (ne_of h1 hp fun z => nomatch z), h2, fun pos cv hc => ?_⟩
  obtain ⟨c, e1, e2⟩ := h3 pos cv hc
  exact ⟨c, e1, k _ _ e2 (ne_of e2 hp fun z => by
    unfold CodeO at z
    cases z)⟩
theorem firsts_join {ss ts : List Str} (n : ss.Nodup) (m : ts.Nodup) : (firsts (srt ss ++ srt ts)).Perm (joinN ss ts) := (List.perm_ext_iff_of_nodup (firsts_nodup _) (joinN_nod n m)).mpr fun x => by
  rw [mem_firsts, List.mem_append, mem_joinN, (srt_perm ss).mem_iff, (srt_perm ts).mem_iff]
theorem srt_join {ss ts : List Str} (n : ss.Nodup) (m : ts.Nodup) : srt (firsts (srt ss ++ srt ts)) = srt (joinN ss ts) := Fk.srt_eq (firsts_join n m)
section
variable {K : PySem.W.Frag} {C CT : Addr} {σ : L2.St} {H : Hp} {ta tb te : TE} {ss xs ss' xs' : List Str} {g g' : List Key → Int} {m : Int} {r : TRow} {tt : TT} {P : EvP.PR} {b : Bool}
theorem eq_true {r r' : TRow} (gr : GoodR ss xs r) (gr' : GoodR ss xs r') (h : ∀ k, wk r k = wk r' k) : Tb.eqT (srt ss) (srt xs) (srt ss) (srt xs) r r' = true := by
  unfold Tb.eqT
  rw [decide_eq_true rfl, decide_eq_true rfl, same_of gr gr' h]
  rfl
theorem g_eqT (sN : NamesOk ss) (uN : NamesOk xs) (h : Gives ta σ H (tabW C ss xs g)) (k : Gives tb σ H (tabW C ss xs g')) (e : ∀ k, g k = g' k) : Gives (tOp (Own.rCmpOwn K C (spTEq K C)) ta tb) σ H (is (.bl true)) :=
  g_op h k fun x y H1 _ hx hy Q q => by
    obtain ⟨x, r, rfl, tb, gr, gw⟩ := hx.ex
    obtain ⟨y, r', rfl, tb', gr', gw'⟩ := hy.ex
    refine ⟨Tb.tbl_ins tb, Tb.tbl_ins tb', .inl ⟨x, y, _, _, _, _, r, r', rfl, tb, tb', oks_of sN, oks_of uN, oks_of sN, oks_of uN, ?_⟩⟩
    rw [eq_true gr gr' fun k => by rw [gw, gw', e]]
    exact q _ _ (Ex.refl _) rfl
theorem g_neT (sN : NamesOk ss) (uN : NamesOk xs) (h : Gives ta σ H (tabW C ss xs g)) (k : Gives tb σ H (tabW C ss xs g')) (e : ∀ k, g k = g' k) : Gives (tOp (Own.rNeOwn C (spTEq K C)) ta tb) σ H (is (.bl false)) :=
  g_op h k fun x y H1 _ hx hy Q q => by
    obtain ⟨x, r, rfl, tb, gr, gw⟩ := hx.ex
    obtain ⟨y, r', rfl, tb', gr', gw'⟩ := hy.ex
    refine ⟨Tb.tbl_ins tb, Tb.tbl_ins tb', .inl ⟨x, y, _, _, _, _, r, r', rfl, tb, tb', oks_of sN, oks_of uN, oks_of sN, oks_of uN, true, ?_, ?_⟩⟩
    · rw [eq_true gr gr' fun k => by rw [gw, gw', e]]
    · exact q _ _ (Ex.refl _) rfl
theorem g_is5 (sN : NamesOk ss) (uN : NamesOk xs) (h : Gives ta σ H (tabW C ss xs g)) (k : Gives tb σ H (plainP ss xs r)) (gr : GoodR ss xs r) (e : ∀ k, g k = wk r k) (b : ∀ k, wk r k < 10 ^ 70) : Gives (tCall (spIs5 C) [] E0 (tCons ta (tCons tb tNil))) σ H (is (.bl true)) := fun H1 e1 Q q =>
  h H1 e1 _ fun v H2 e2 hv => k H2 (e1.trans e2) _ fun u H3 e3 hu => by
    obtain ⟨x, r', rfl, t, gr', gw⟩ := hv.ex
    refine ⟨x, u, ss, xs, r, r', rfl, t.mono e3, hu, sN, uN, gr.nod, gr.key, fun t ht => ⟨gr.pos t ht, ?_⟩, ⟨look_ext gr' gr fun k => by rw [gw, e], gr'.nod, gr'.rowOk sN.nm uN.nm, Nat.le_trans (gr'.len36 sN.few uN.few) (by decide)⟩, fun H' e' => q _ _ ((e2.trans e3).trans e') rfl⟩
    have w : wk r t.1 = t.2 := by
      unfold wk
      rw [(look_mem gr.nod).mpr (show (t.1, t.2) ∈ r from ht)]
      rfl
    rw [← w]
    exact b _
theorem g_eqI {i j : Int} {b : Bool} (h : Gives ta σ H (is (.int i))) (k : Gives tb σ H (is (.int j))) (e : decide (i = j) = b) : Gives (tOp rEq ta tb) σ H (is (.bl b)) := g_op h k fun x y H1 _ ex ey Q q => by
  rw [show x = _ from ex, show y = _ from ey]
  refine ⟨rfl, q _ _ (Ex.refl _) ?_⟩
  show V.bl (decide (V.int i = V.int j)) = .bl b
  rw [← e]
  by_cases c : i = j
  · rw [c]
    simp
  · rw [decide_eq_false c, decide_eq_false fun z => c (V.int.inj z)]
theorem g_ifE (h : Tst tt σ H b) (k : b = true → Gives ta σ H P) (l : b = false → Gives tb σ H P) : Gives (tIf tt ta tb) σ H P := fun H1 e Q q => h H1 e _ fun H2 e2 => by
  cases b with
  | true => exact k rfl H2 (e.trans e2) Q fun v H3 e3 hv => q v H3 (e2.trans e3) hv
  | false => exact l rfl H2 (e.trans e2) Q fun v H3 e3 hv => q v H3 (e2.trans e3) hv
/-- two tables joined by a sign -/
theorem go_signs {way : Int} {v u : V} {Q : VK} {E : XK} (hw : way = 0 ∨ way = 1 ∨ way = 2) (hv : TabW C ss xs g v H) (hu : TabW C ss' xs' g' u H) (sN : NamesOk ss) (uN : NamesOk xs) (sN' : NamesOk ss') (uN' : NamesOk xs')
    (kS : 6 < (joinN ss ss').length → ∀ dd H', Ex H H' → H' dd = some (.xd (manyF "sources")) → E (.ref CT) (some dd) H') (kU : (joinN ss ss').length ≤ 6 → 6 < (joinN xs xs').length → ∀ dd H', Ex H H' → H' dd = some (.xd (manyF "uses")) → E (.ref CT) (some dd) H')
    (kQ : (joinN ss ss').length ≤ 6 → (joinN xs xs').length ≤ 6 → ∀ z H', Ex H H' → TabW C (joinN ss ss') (joinN xs xs') (fun k => opWay way (g k) (g' k)) z H' → Q z H') : spSigns C CT [v, u, .int way] H Q E := by
  obtain ⟨x, r, rfl, tb, gr, gw⟩ := hv.ex
  obtain ⟨y, r', rfl, tb', gr', gw'⟩ := hu.ex
  have pS := firsts_join sN.nod sN'.nod
  have pU := firsts_join uN.nod uN'.nod
  have lS := pS.length_eq
  have lU := pU.length_eq
  have q1 := sN.srt
  have q2 := uN.srt
  have q3 := sN'.srt
  have q4 := uN'.srt
  have nS : NamesL (firsts (srt ss ++ srt ss')) := firsts_L (fun n hn => (List.mem_append.mp hn).elim (q1.nm n) (q3.nm n)) (by have := q1.few; have := q3.few; rw [List.length_append]; omega)
  have nU : NamesL (firsts (srt xs ++ srt xs')) := firsts_L (fun n hn => (List.mem_append.mp hn).elim (q2.nm n) (q4.nm n)) (by have := q2.few; have := q4.few; rw [List.length_append]; omega)
  refine ⟨x, y, way, rfl, hw, Tb.tbl_ins tb, Tb.tbl_ins tb', x, y, srt ss, srt xs, srt ss', srt xs', r, r', rfl, tb, tb', q1.few, q2.few, q3.few, q4.few, nS, nU, fun k => opWay_nn (gr.nn k) (gr'.nn k), fun c => kS (by omega), fun c1 c2 => kU (by omega) (by omega), fun c1 c2 z H' e t => ?_⟩
  rw [srt_join sN.nod sN'.nod, srt_join uN.nod uN'.nod] at t
  have s1 : (srt (joinN ss ss')).Nodup := (srt_perm _).nodup_iff.mpr (joinN_nod sN.nod sN'.nod)
  have s2 : (srt (joinN xs xs')).Nodup := (srt_perm _).nodup_iff.mpr (joinN_nod uN.nod uN'.nod)
  refine kQ (by omega) (by omega) _ H' e ⟨z, _, rfl, t, (good_gen s1 s2).perm (srt_perm _) (srt_perm _), fun k => ?_⟩
  rw [wk_gen s1 s2 (fun k h => ?_) (fun k => opWay_nn (gr.nn k) (gr'.nn k)), gw, gw']
  rw [gr.out (fun ⟨a, ha, x, hx, e⟩ => h ⟨a, (srt_perm _).mem_iff.mpr (mem_joinN.mpr (.inl ha)), x, (srt_perm _).mem_iff.mpr (mem_joinN.mpr (.inl hx)), e⟩), gr'.out (fun ⟨a, ha, x, hx, e⟩ => h ⟨a, (srt_perm _).mem_iff.mpr (mem_joinN.mpr (.inr ha)), x, (srt_perm _).mem_iff.mpr (mem_joinN.mpr (.inr hx)), e⟩)]
  exact opWay_zero
end
theorem tblT_ext {ss xs : List Str} {r r' : TRow} (h : ∀ k, wk r k = wk r' k) : tblT ss xs r = tblT ss xs r' := by
  have e : wk r = wk r' := funext h
  unfold tblT rowsT rowT rowW
  rw [e]
section
variable {K : PySem.W.Frag} {C : Addr} {σ : L2.St} {H : Hp} {ta tb te : TE} {ss xs : List Str} {g g' : List Key → Int} {r : TRow}
/-- str(table) -/
theorem g_strT (sN : NamesOk ss) (uN : NamesOk xs) (h : Gives ta σ H (tabW C ss xs g)) (e : ∀ k, g k = wk r k) (b : ∀ k, 0 ≤ g k ∧ g k < 10 ^ 64) : Gives (tCB (Own.rStrOwn C (spTStr C)) (tCons ta tNil)) σ H (is (.str (tblT (srt ss) (srt xs) r))) :=
  g_call h fun v H1 _ hv Q q => by
    obtain ⟨x, r', rfl, tb, gr, gw⟩ := hv.ex
    have s1 := sN.srt
    have s2 := uN.srt
    refine ⟨_, rfl, Tb.tbl_ins tb, x, srt ss, srt xs, r', rfl, tb, s1.nm, s2.nm, s1.few, s2.few, fun k => by rw [gw]; exact b k, fun H' e' => ⟨_, rfl, q _ _ e' ?_⟩⟩
    exact congrArg V.str (tblT_ext fun k => by rw [gw, e])
end
/-- lists of texts as data -/
theorem shaped_strsL {ss : List Str} (h : ∀ s ∈ ss, PyData.strOk s = true) : SeqAt.shaped (.list (ss.map PyData.str)) = true := by
  show (PyData.canLayAll0 (ss.map PyData.str) && decide (PyData.depthAll (ss.map PyData.str) + 1 ≤ 64)) = true
  rw [Tb.lay_strs h, Tb.depth_strs]
  rfl
theorem eqv_strsL (ss ts : List Str) : PyData.eqv (.list (ss.map PyData.str)) (.list (ts.map PyData.str)) = decide (ss = ts) := Tb.eqv_strs ss ts
end K06

set_option Elab.async false
set_option linter.all false
set_option maxRecDepth 100000
set_option maxHeartbeats 4000000
/-! _law_right. -/
namespace K06
open PySem PySem.Spec PyProof.Rows L2 Cm LamX LamG
open DtE (TRow tents lookT sameT)
open Tb (key2 PairK wk TblAt TblC TblI spTEq spTItem manyF)
open Fk (NameV nameB srt srt_perm)
open EvP (Ex All2 is Gives)
abbrev sRight4 : Stmt := top 51
abbrev NR4 : List Str := ["pen", "left", "right", "one", "other", "way", "due", "many", "made"]
theorem scRight4 : FnScope NR4 ["pen", "left", "right"] (defScope sRight4) := ⟨rfl, rfl, rfl, by decide +kernel, rfl, by decide +kernel, by decide +kernel⟩
def nmR : Str := "_law_right.<locals>.<lambda>"
/-- all but the pen and the tables of code stays -/
def ButN (p : Addr) (H H' : Hp) : Prop := ∀ b o, H b = some o → b ≠ p → (∀ ps, o ≠ .tbl ps) → H' b = some o
def spRight4 (T : List (Addr × Str)) : Sp := fun vs H Q _ => ∃ (p q : Addr) (ns : List Int) (s g : Int) (v1 v2 : V) (ss xs ss' xs' : List Str) (r r' : TRow), vs = [.ref p, v1, v2] ∧ Pen H p q ns s g ∧ ns.length ≤ 63 ∧ 0 ≤ s ∧ s < 98000 ∧ PlainAt H v1 ss xs r ∧ PlainAt H v2 ss' xs' r' ∧ PlainOk ss xs r ∧ PlainOk ss' xs' r' ∧ Tabs T H ∧
  ∀ (s' g' : Int) (H' : Hp), s ≤ s' → s' ≤ s + 200 → Pen H' p q ns s' g' → ButN p H H' → Tabs T H' → Q (.bl true) H'
theorem spRight4_len {T : List (Addr × Str)} : ∀ vs H Q E, spRight4 T vs H Q E → vs.length = (["pen", "left", "right"] : List Str).length := fun vs H Q E h => by
  obtain ⟨p, q, ns, s, g, v1, v2, ss, xs, ss', xs', r, r', rfl, _⟩ := h
  rfl
/-- the class Table by its looks of two -/
structure TblE (P : Program) (w : World) (K : PySem.W.Frag) (mg : Str → Option Value) (base : Heap) (C : Addr) where
  fQ : Addr
  dQ : FuncData
  eq : Own.Mt P w K mg base C "__eq__" 1 ["self", "other"] (spTEq K C) fQ dQ
  ne : PySem.W.findIn K (.ref C) "__ne__" = some (some (.builtin "object.__ne__"))
  mro : PySem.W.mroIn K C (.type "object") = some true
theorem TblAt_but {C x p q : Addr} {H H' : Hp} {ss xs : List Str} {r : TRow} {ns : List Int} {s g : Int} (hP : Pen H p q ns s g) (e : But p H H') (h : TblAt C H x ss xs r) : TblAt C H' x ss xs r := by
  obtain ⟨dx, n1, n2, dw, p', prs, h1, h2, h3, h4, h5, h6⟩ := h
  have up : ∀ {b o}, H b = some o → o ≠ .lst [.ref q, .int s, .int g] → H' b = some o := fun h n => e _ _ h (ne_of h hP.p n)
  have all : ∀ {ks : List (List Key)} {vs : List V}, All2 H (ks.map fun k => tupV (k.map kV)) vs → All2 H' (ks.map fun k => tupV (k.map kV)) vs := fun {ks} => by
    induction ks with
    | nil => intro vs h; cases h; exact .nil
    | cons k ks ih =>
      intro vs h
      cases h with
      | cons a t =>
        obtain ⟨b, ev, hb⟩ := a
        exact .cons ⟨b, ev, up hb fun z => nomatch z⟩ (ih t)
  exact ⟨dx, n1, n2, dw, p', prs, up h1 (fun z => nomatch z), up h2 (fun z => nomatch z), up h3 (fun z => nomatch z), up h4 (fun z => nomatch z), up h5 (fun z => nomatch z), all h6⟩
theorem TabW.perm {C : Addr} {ss xs ts ys : List Str} {g : List Key → Int} {v : V} {H : Hp} (p : ss.Perm ts) (q : xs.Perm ys) (h : TabW C ss xs g v H) : TabW C ts ys g v H := by
  obtain ⟨x, r, h1, h2, h3, h4⟩ := h.ex
  exact ⟨x, r, h1, by rw [← Fk.srt_eq p, ← Fk.srt_eq q]; exact h2, h3.perm p q, h4⟩
theorem joinN_comm {ss ts : List Str} (h : ss.Nodup) (k : ts.Nodup) : (joinN ss ts).Perm (joinN ts ss) := (List.perm_ext_iff_of_nodup (joinN_nod h k) (joinN_nod k h)).mpr fun x => by
  rw [mem_joinN, mem_joinN, or_comm]
theorem opWay_comm {way a b : Int} : opWay way a b = opWay way b a := by
  unfold opWay
  split
  · exact Int.add_comm a b
  · split
    · show (if b > a then b else a) = if a > b then a else b
      split <;> split <;> omega
    · show (if b < a then b else a) = if a < b then a else b
      split <;> split <;> omega
theorem opWay_lt {way a b : Int} (ha : 0 ≤ a) (hb : 0 ≤ b) : opWay way a b ≤ a + b := by
  unfold opWay
  split
  · exact Int.le_refl _
  · split
    · show (if b > a then b else a) ≤ a + b
      split <;> omega
    · show (if b < a then b else a) ≤ a + b
      split <;> omega
theorem joinN_ok {ss ts : List Str} (n : NamesOk ss) (m : NamesOk ts) (h : (joinN ss ts).length ≤ 6) : NamesOk (joinN ss ts) := ⟨joinN_nod n.nod m.nod, fun x hx => (mem_joinN.mp hx).elim (n.nm x) (m.nm x), h⟩
theorem out_wk {r : TRow} {k : List Key} (n : (r.map (·.1)).Nodup) (h : k ∉ r.map (·.1)) : wk r k = 0 := by
  unfold wk
  cases c : lookT r k with
  | none => rfl
  | some v => exact absurd ((look_some n).mp (by rw [c]; rfl)) h
section
variable {K : PySem.W.Frag} {C CT : Addr} {σ : L2.St} {H : Hp} {ta tb tc te : TE} {ss xs ss' xs' : List Str} {g g' : List Key → Int} {way : Int}
theorem t_len6 {ls : List Str} {rr : List V → Hp → VK → Prop} (h : Gives te σ H (lstV (ls.map V.str))) (hr : ∀ p H1 Q, SqL K H1 p (ls.map V.str) → Q (.int ((ls.map V.str).length : Nat)) H1 → rr [.ref p] H1 Q) :
    Tst (tTest (tOp (rI0 fun i j => .bl (decide (j < i))) (tCB rr (tCons te tNil)) (tC (.int 6)))) σ H (decide (6 < ls.length)) :=
  t_test (g_op (P := is (.int (ls.length : Nat))) (R := is (.int 6)) (g_call h fun v H1 e ⟨a, ev, ha⟩ Q q => by
    subst ev
    exact hr a H1 Q (SqL.of ha) (q _ _ (Ex.refl _) (by rw [List.length_map]; rfl))) EvP.cst fun x y H1 e ex ey Q q => ⟨(ls.length : Nat), 6, ex, ey, q _ _ (Ex.refl _) (by
    show V.bl (decide ((6 : Int) < (ls.length : Nat))) = V.bl (decide (6 < ls.length))
    by_cases c : 6 < ls.length
    · rw [decide_eq_true c, decide_eq_true (by omega)]
    · rw [decide_eq_false c, decide_eq_false (by omega)])⟩)
/-- "sources" if .. else "uses" if .. else None -/
def manyV (LS LX : List Str) : V := if 6 < LS.length then V.str "sources" else if 6 < LX.length then V.str "uses" else .non
theorem g_many {i : Nat} {td da db dd : Addr} {LS LX : List Str} {rr : List V → Hp → VK → Prop} (hi : σ[i]? = some (some (.ref td))) (d1 : H td = some (.tup [.ref da, .ref db, .ref dd])) (d2 : H da = some (.lst (LS.map V.str))) (d3 : H db = some (.lst (LX.map V.str)))
    (hr : ∀ p H1 Q (ls : List Str), SqL K H1 p (ls.map V.str) → Q (.int ((ls.map V.str).length : Nat)) H1 → rr [.ref p] H1 Q) :
    Gives (tIf (tTest (tOp (rI0 fun i j => .bl (decide (j < i))) (tCB rr (tCons (tOp (rIxT K) (tVar i) (tC (.int 0))) tNil)) (tC (.int 6)))) (tC (.str "sources")) (tIf (tTest (tOp (rI0 fun i j => .bl (decide (j < i))) (tCB rr (tCons (tOp (rIxT K) (tVar i) (tC (.int 1))) tNil)) (tC (.int 6)))) (tC (.str "uses")) (tC .non))) σ H (is (manyV LS LX)) := by
  have a1 : Gives (tOp (rIxT K) (tVar i) (tC (.int 0))) σ H (lstV (LS.map V.str)) := fun H1 e Q k => ⟨_, hi, td, _, 0, _, rfl, rfl, SqT.of (e _ _ d1), atI_nat (xs := [V.ref da, .ref db, .ref dd]) (j := 0) rfl, k _ _ (Ex.refl _) ⟨_, rfl, e _ _ d2⟩⟩
  have a2 : Gives (tOp (rIxT K) (tVar i) (tC (.int 1))) σ H (lstV (LX.map V.str)) := fun H1 e Q k => ⟨_, hi, td, _, 1, _, rfl, rfl, SqT.of (e _ _ d1), atI_nat (xs := [V.ref da, .ref db, .ref dd]) (j := 1) rfl, k _ _ (Ex.refl _) ⟨_, rfl, e _ _ d3⟩⟩
  refine g_ifE (t_len6 (K := K) a1 fun p H1 Q => hr p H1 Q LS) (fun c => ?_) fun c => g_ifE (t_len6 (K := K) a2 fun p H1 Q => hr p H1 Q LX) (fun d => ?_) fun d => ?_
  · unfold manyV
    rw [if_pos (of_decide_eq_true c)]
    exact EvP.cst
  · unfold manyV
    rw [if_neg (of_decide_eq_false c), if_pos (of_decide_eq_true d)]
    exact EvP.cst
  · unfold manyV
    rw [if_neg (of_decide_eq_false c), if_neg (of_decide_eq_false d)]
    exact EvP.cst
theorem g_signs (hw : way = 0 ∨ way = 1 ∨ way = 2) (ha : Gives ta σ H (tabW C ss xs g)) (hb : Gives tb σ H (tabW C ss' xs' g')) (hc : Gives tc σ H (is (.int way))) (sN : NamesOk ss) (uN : NamesOk xs) (sN' : NamesOk ss') (uN' : NamesOk xs') (l1 : (joinN ss ss').length ≤ 6) (l2 : (joinN xs xs').length ≤ 6) :
    Gives (tCall (spSigns C CT) [] E0 (tCons ta (tCons tb (tCons tc tNil)))) σ H (tabW C (joinN ss ss') (joinN xs xs') fun k => opWay way (g k) (g' k)) := fun H1 e1 Q q =>
  ha H1 e1 _ fun v H2 e2 hv => hb H2 (e1.trans e2) _ fun u H3 e3 hu => hc H3 ((e1.trans e2).trans e3) _ fun z H4 e4 ez => by
    rw [show z = _ from ez]
    exact go_signs hw ((tabW C ss xs g).mono _ _ _ (e3.trans e4) hv) ((tabW C ss' xs' g').mono _ _ _ e4 hu) sN uN sN' uN' (fun c => absurd c (by omega)) (fun _ c => absurd c (by omega)) fun _ _ z H' e t => q z H' (((e2.trans e3).trans e4).trans e) t
end
section
variable {P : Program} {w : World} {K : PySem.W.Frag} {mg : Str → Option Value} {base : Heap} {C CT f c PT gW : Addr} {fd dW : FuncData} {T : List (Addr × Str)}
theorem ok_right4 (F : FunC K "_law_right" "_law_right" sRight4 f c fd) (M : TblE P w K mg base C) (LX : ManyX K mg CT) (hR : mg "range" = none) (hL : mg "len" = none) (DM : CalG P w K mg base 7 "_law_made" ["pen", "plain"] (spMade C)) (DI : CalG P w K mg base 5 "_law_is" ["table", "plain"] (spIs5 C)) (DJ : CalD P w K mg base 1 "_law_joint" ["one", "other", "way"] spJoint)
    (DS : CalX P w K mg base 8 "_law_signs" ["one", "other", "way"] (spSigns C CT)) (DB : CalX P w K mg base 8 "_law_bound" ["one", "other", "way"] (spSigns C CT))
    (FW : Fun K "_law_what" "_law_what" sWhat gW dW) (bW : Binds K dW ["ask"] []) (gWm : mg "_law_what" = some (.ref gW)) (kW : PySem.W.keepIn K (.ref gW) = true)
    (TB : TabB base mg c PT) (hmT : (PT, nmR) ∈ T) (hu : ∀ p ∈ T, p.1 = PT → p.2 = nmR) : XG.FnG P w K mg base CX0 11 f fd ["pen", "left", "right"] (spRight4 T) := by
  have nd := scRight4.nd
  obtain ⟨oc, od, kV, doc, pm, an, cdv, ct, osl, rfl, lk, hcd⟩ := FW.ex
  refine FunC.okG F scRight4 spRight4_len fun A outer sh H vs Q E gd hr h => ?_
  obtain ⟨p, q, ns, s, g, v1, v2, ss, xs, ss', xs', r, r', rfl, hP, hl, s0, s1, pa, pa', ok, ok', t0, k⟩ := h
  refine ⟨_, pss_cons (ps_asg (pe_tup (pa_cons (Tb.pe_callG DM.ok DM.len gd (hr.mono (by decide)) (by rfl) DM.g DM.kp DM.b (pa_cons (pv 0) (pa_cons (pv 1) pa_nil))) (pa_cons (Tb.pe_callG DM.ok DM.len gd (hr.mono (by decide)) (by rfl) DM.g DM.kp DM.b (pa_cons (pv 0) (pa_cons (pv 2) pa_nil))) pa_nil)))
      (pg_tup rfl (pgs_cons (pg_name (i := 3) nd rfl (Or.inr rfl)) (pgs_cons (pg_name (i := 4) nd rfl (Or.inr rfl)) pgs_nil))))
    (pss_cons (ps_for PassesOwn.never rfl (pi_range1 rfl hR (pa_cons pe_int pa_nil)) (pg_name (i := 5) nd rfl (Or.inr rfl))
      (pss_cons (ps_set (i := 6) nd rfl (Or.inl rfl) (pe_call DJ.ok (hr.mono (by decide)) (by rfl) DJ.g DJ.kp DJ.b .nil pass0 (pa_cons (pv 1) (pa_cons (pv 2) (pa_cons (pv 5) pa_nil)))))
      (pss_cons (ps_set (i := 7) nd rfl (Or.inl rfl) (pe_ifExp (pt_cmpR op_gt (pe_callB call_len_seq (by rfl) hL PySem.boot_len (pa_cons (pe_ix ix_tup (pv 6) pe_int (fun _ _ => rfl)) pa_nil)) pe_int (nomark _)) pe_str (pe_ifExp (pt_cmpR op_gt (pe_callB call_len_seq (by rfl) hL PySem.boot_len (pa_cons (pe_ix ix_tup (pv 6) pe_int (fun _ _ => rfl)) pa_nil)) pe_int (nomark _)) pe_str pe_non)))
      (pss_one (ps_if (pt_cmp (pc_notN (pv 7)))
        (pss_one (ps_if (pt_cmpR (op_neD hr.units) (pe_lamG (k := 8) (T := T) (TT := TWhat CT) (t := fun E => tCall (spSigns C CT) [] E (tCons (tVar 3) (tCons (tVar 4) (tCons (tVar 5) tNil)))) (by rfl) gWm kW lk hcd bW scWhat rfl (.inl rfl) (what_gives LX) TB rfl (by exact hmT) (by exact hu) (hr.mono (by decide)) (lamS_by (by show lamSB (defScope sRight4) _ = true; decide +kernel)) rfl (fun _ _ _ _ _ => rfl)
            (fun A outer s H E f c2 gd2 hr2 => XG.pe_callGX DS.ok DS.len (gd2.trans gd) hr2 (by rfl) DS.g DS.kp DS.b (fun σ => passAt (W := fun cls d _ H => E cls d H) (takes_of rfl rfl rfl rfl) σ) (pa_cons (pv 3) (pa_cons (pv 4) (pa_cons (pv 5) pa_nil))))) (pe_tup (pa_cons (pv 7) (pa_cons pe_int pa_nil))) (nomark _)) (pss_one (ps_ret pe_bl)) pss_nil))
        (pss_cons (ps_set (i := 8) nd rfl (Or.inl rfl) (XG.pe_callGX DS.ok DS.len gd (hr.mono (by decide)) (by rfl) DS.g DS.kp DS.b Own.pass_calm (pa_cons (pv 3) (pa_cons (pv 4) (pa_cons (pv 5) pa_nil)))))
        (pss_one (ps_if (PW.pt (pw_or (pt_not (pt_val (Tb.pe_callG DI.ok DI.len gd (hr.mono (by decide)) (by rfl) DI.g DI.kp DI.b (pa_cons (pv 8) (pa_cons (pv 6) pa_nil)))))
            (pw_or (pt_cmpR (Own.ne_own M.eq M.ne M.mro (hr.mono (by decide))) (XG.pe_callGX DS.ok DS.len gd (hr.mono (by decide)) (by rfl) DS.g DS.kp DS.b Own.pass_calm (pa_cons (pv 4) (pa_cons (pv 3) (pa_cons (pv 5) pa_nil)))) (pv 8) (nomark _))
            (pw_or1 (pt_cmpR (Own.ne_own M.eq M.ne M.mro (hr.mono (by decide))) (XG.pe_callGX DB.ok DB.len gd (hr.mono (by decide)) (by rfl) DB.g DB.kp DB.b Own.pass_calm (pa_cons (pv 3) (pa_cons (pv 4) (pa_cons (pv 5) pa_nil)))) (pv 8) (nomark _)))))) (pss_one (ps_ret pe_bl)) pss_nil))))))))
    (pss_one (ps_ret (pe_and (Tb.pe_callG DI.ok DI.len gd (hr.mono (by decide)) (by rfl) DI.g DI.kp DI.b (pa_cons (pv 3) (pa_cons (pv 1) pa_nil))) (pe_one (Tb.pe_callG DI.ok DI.len gd (hr.mono (by decide)) (by rfl) DI.g DI.kp DI.b (pa_cons (pv 4) (pa_cons (pv 2) pa_nil)))))))), ?_⟩
  -- one, other = ..
  refine ⟨_, rfl, _, rfl, p, q, ns, s, g, v1, ss, xs, r, rfl, hP, hl, s0, by omega, pa, ok, fun x r1 sa ga H1 tb al a1 a2 hP1 bt1 => ?_⟩
  have pa1 := pa.but hP bt1
  have pa1' := pa'.but hP bt1
  have t1 := Tabs_but t0 hP.p bt1
  refine ⟨_, rfl, _, rfl, p, q, ns, sa, ga, v2, ss', xs', r', rfl, hP1, hl, by omega, by omega, pa1', ok', fun y r2 sb gb H2 tb' al' b1 b2 hP2 bt2 => ?_⟩
  have pa2 := pa1.but hP1 bt2
  have pa2' := pa1'.but hP1 bt2
  have t2 := Tabs_but t1 hP1.p bt2
  have tbx := TblAt_but hP1 bt2 tb
  refine ⟨by show 2 ≤ sizeLine; decide, fun tp ntp => ⟨tp, [.ref x, .ref y], rfl, SqT.of upd_same, rfl, _, _, rfl, _, _, rfl, rfl, ?_⟩⟩
  have e3 := Ex.new (o := .tup [.ref x, .ref y]) ntp
  obtain ⟨g1, w1⟩ := al.good ok.w.good
  obtain ⟨g2, w2⟩ := al'.good ok'.w.good
  have T1 : TabW C ss xs (wk r) (.ref x) (upd H2 tp (.tup [.ref x, .ref y])) := ⟨x, r1, rfl, tbx.mono e3, g1, w1⟩
  have T2 : TabW C ss' xs' (wk r') (.ref y) (upd H2 tp (.tup [.ref x, .ref y])) := ⟨y, r2, rfl, tb'.mono e3, g2, w2⟩
  have pa3 : PlainAt _ v1 ss xs r := (plainP ss xs r).mono _ _ _ e3 pa2
  have pa3' : PlainAt _ v2 ss' xs' r' := (plainP ss' xs' r').mono _ _ _ e3 pa2'
  have t3 := t2.ext e3
  have hP3 : Pen _ p q ns sb gb := ⟨e3 _ _ hP2.p, e3 _ _ hP2.q⟩
  have b3 : But p H (upd H2 tp (.tup [.ref x, .ref y])) := fun b o hb ne => e3 _ _ (bt2 _ _ (bt1 _ _ hb ne) ne)
  generalize upd H2 tp (.tup [.ref x, .ref y]) = H3 at T1 T2 pa3 pa3' t3 hP3 b3 ⊢
  have wb := wk_nn ok.w
  have wb' := wk_nn ok'.w
  dsimp only [gName]
  refine ⟨3, rfl, by decide, by decide, for_range (lo := 0) (n := 3) (fun k sg H' => ∃ (o5 o6 o7 o8 : Option V), sg = [some (.ref p), some v1, some v2, some (.ref x), some (.ref y), o5, o6, o7, o8] ∧ ExtN H3 H' ∧ Tabs T H') ⟨_, _, _, _, rfl, ExtN.refl _, t3⟩ ?_ ?_⟩
  · rintro j sg H' hj ⟨o5, o6, o7, o8, rfl, eN, tN⟩
    have hw : (0 + (j : Int)) = 0 ∨ (0 + (j : Int)) = 1 ∨ (0 + (j : Int)) = 2 := by omega
    generalize (0 + (j : Int)) = way at hw ⊢
    refine ⟨_, rfl, _, rfl, _, rfl, v1, v2, ss, xs, ss', xs', r, r', way, rfl, PlainAt_N eN pa3, PlainAt_N eN pa3', ok, ok', hw, fun td H4 e4 pd => ?_⟩
    have eN4 := eN.trans (ExtN.of e4)
    have tN4 := tN.ext e4
    obtain ⟨td', da, db, dd, etd, d1, d2, d3, d4⟩ := pd.ex
    cases etd
    dsimp only [gName]
    refine' EvP.st_set (P := is (manyV (joinN ss ss') (joinN xs xs'))) ?hmany ?kmany
    case hmany => exact g_many (K := K) rfl d1 d2 d3 fun p H1 Q ls h q => ⟨p, _, rfl, .inl h, q⟩
    rintro v H5 e5 rfl
    have eN5 := eN4.trans (ExtN.of e5)
    have tN5 := tN4.ext e5
    have pd5 : PlainAt H5 (.ref td) (joinN ss ss') (joinN xs xs') _ := (plainP _ _ _).mono _ _ _ e5 pd
    refine ⟨_, rfl, _, rfl, ?_⟩
    have fin : ∀ H9, ExtN H3 H9 → Tabs T H9 → ∀ (u7 u8 : Option V), ∃ (o5 o6 o7 o8 : Option V), ([some (.ref p), some v1, some v2, some (.ref x), some (.ref y), some (.int way), some (.ref td), u7, u8] : L2.St) = [some (.ref p), some v1, some v2, some (.ref x), some (.ref y), o5, o6, o7, o8] ∧ ExtN H3 H9 ∧ Tabs T H9 := fun H9 e t u7 u8 => ⟨_, _, _, _, rfl, e, t⟩
    -- too many names: what is told
    have told : ∀ (n : Str) (u8 : Option V) (D : Ends), PyData.strOk n = true → (∀ (E : XK) H6, ExtN H3 H6 → (∀ dd H', Ex H6 H' → H' dd = some (.xd (manyF n)) → E (.ref CT) (some dd) H') → spSigns C CT [.ref x, .ref y, .int way] H6 (fun _ _ => False) E) →
        (∀ H9, ExtN H3 H9 → Tabs T H9 → D.nx [some (.ref p), some v1, some v2, some (.ref x), some (.ref y), some (.int way), some (.ref td), some (.str n), u8] H9) →
        tIfS (tTest (tOp (rNeD K) (tLam T (TWhat CT) (fun E => tCall (spSigns C CT) [] E (tCons (tVar 3) (tCons (tVar 4) (tCons (tVar 5) tNil))))) (tTup (tCons (tVar 7) (tCons (tC (.int 6)) tNil))))) (tRet (tC (.bl false))) tNext D [some (.ref p), some v1, some v2, some (.ref x), some (.ref y), some (.int way), some (.ref td), some (.str n), u8] H5 := fun n u8 D on hs kD => by
      refine ⟨tN5, fun H6 e6 t6 => ⟨_, rfl, _, rfl, _, rfl, hs _ H6 (eN5.trans e6) fun dd H7 e7 hd => ⟨n, dd, rfl, rfl, hd, fun t H8 e8 ht => ?_⟩⟩⟩
      refine ⟨_, rfl, by show 2 ≤ sizeLine; decide, fun t2 nt2 => ?_⟩
      have e9 := Ex.new (o := .tup [.str n, .int 6]) nt2
      have sd : SeqAt.shaped (.tuple [.str n, .int 6]) = true := by
        show ((PyData.strOk n && (true && true)) && decide (PyData.depthAll [.str n, .int 6] + 1 ≤ 64)) = true
        rw [on]
        rfl
      refine ⟨.tuple [.str n, .int 6], .tuple [.str n, .int 6], .tup (SqT.of (e9 _ _ ht)) (.cons (.str _) (.cons (.int _) .nil)), .tup (SqT.of upd_same) (.cons (.str _) (.cons (.int _) .nil)), sd, sd, _, rfl, ?_⟩
      have q1 : PyData.eqv (.tuple [.str n, .int 6]) (.tuple [.str n, .int 6]) = true := by
        show ((n == n) && (((6 : Int) == 6) && true)) = true
        simp
      rw [q1]
      dsimp only [tNext]
      rw [if_neg (show ¬ (!true) = true by decide)]
      have ee := (e7.trans e8).trans e9
      exact kD _ ((eN5.trans e6).trans (ExtN.of ee)) (t6.ext ee)
    have nS := ok.s
    have nU := ok.u
    have nS' := ok'.s
    have nU' := ok'.u
    by_cases c1 : 6 < (joinN ss ss').length
    · have em : manyV (joinN ss ss') (joinN xs xs') = .str "sources" := if_pos c1
      rw [em]
      rw [show (!decide (V.str "sources" = V.non)) = true by simp]
      dsimp only
      rw [if_pos rfl]
      exact told "sources" _ _ (by decide +kernel) (fun E H6 e6 kE => go_signs hw (TabW_N e6 T1) (TabW_N e6 T2) nS nU nS' nU' (fun _ => kE) (fun c => absurd c1 (by omega)) fun c => absurd c1 (by omega)) fun H9 e t => fin H9 e t _ _
    by_cases c2 : 6 < (joinN xs xs').length
    · have em : manyV (joinN ss ss') (joinN xs xs') = .str "uses" := (if_neg c1).trans (if_pos c2)
      rw [em]
      rw [show (!decide (V.str "uses" = V.non)) = true by simp]
      dsimp only
      rw [if_pos rfl]
      exact told "uses" _ _ (by decide +kernel) (fun E H6 e6 kE => go_signs hw (TabW_N e6 T1) (TabW_N e6 T2) nS nU nS' nU' (fun c => absurd c (by omega)) (fun _ _ => kE) fun _ c => absurd c2 (by omega)) fun H9 e t => fin H9 e t _ _
    have em : manyV (joinN ss ss') (joinN xs xs') = .non := (if_neg c1).trans (if_neg c2)
    rw [em]
    rw [show (!decide (V.non = V.non)) = false by simp]
    dsimp only
    rw [if_neg Bool.false_ne_true]
    have l1 : (joinN ss ss').length ≤ 6 := by omega
    have l2 : (joinN xs xs').length ≤ 6 := by omega
    have l1' : (joinN ss' ss).length ≤ 6 := by rw [(joinN_comm nS'.nod nS.nod).length_eq]; exact l1
    have l2' : (joinN xs' xs).length ≤ 6 := by rw [(joinN_comm nU'.nod nU.nod).length_eq]; exact l2
    have jS := joinN_ok nS nS' l1
    have jU := joinN_ok nU nU' l2
    have gx : ∀ {σ : L2.St} {H : Hp}, ExtN H3 H → σ[3]? = some (some (.ref x)) → Gives (tVar 3) σ H (tabW C ss xs (wk r)) := fun e h => EvP.varP h (TabW_N e T1)
    have gy : ∀ {σ : L2.St} {H : Hp}, ExtN H3 H → σ[4]? = some (some (.ref y)) → Gives (tVar 4) σ H (tabW C ss' xs' (wk r')) := fun e h => EvP.varP h (TabW_N e T2)
    refine' EvP.st_set (P := tabW C (joinN ss ss') (joinN xs xs') fun k => opWay way (wk r k) (wk r' k)) ?hmade ?kmade
    case hmade => exact g_signs hw (gx eN5 rfl) (gy eN5 rfl) (EvP.var rfl) nS nU nS' nU' l1 l2
    rintro v8 H6 e6 T8
    have eN6 := eN5.trans (ExtN.of e6)
    have tN6 := tN5.ext e6
    have nodK := joinK_nod ok.w.nod ok'.w.nod
    have nnK : ∀ k, 0 ≤ opWay way (wk r k) (wk r' k) := fun k => opWay_nn (wb k).1 (wb' k).1
    have outK : ∀ k, k ∉ joinK r r' → opWay way (wk r k) (wk r' k) = 0 := fun k h => by
      rw [mem_joinK ok.w.nod] at h
      rw [out_wk ok.w.nod fun z => h (.inl z), out_wk ok'.w.nod fun z => h (.inr z)]
      exact opWay_zero
    have wJ := rule_wk (g := fun k => opWay way (wk r k) (wk r' k)) nodK nnK outK
    have gJ : GoodR (joinN ss ss') (joinN xs xs') (ruleR (fun k => opWay way (wk r k) (wk r' k)) (joinK r r')) := rule_good nodK fun k hk => by
      rcases (mem_joinK ok.w.nod).mp hk with h | h
      · obtain ⟨t, ht, rfl⟩ := List.mem_map.mp h
        obtain ⟨a, ha, u, hu, e⟩ := ok.w.key t ht
        exact ⟨a, mem_joinN.mpr (.inl ha), u, mem_joinN.mpr (.inl hu), e⟩
      · obtain ⟨t, ht, rfl⟩ := List.mem_map.mp h
        obtain ⟨a, ha, u, hu, e⟩ := ok'.w.key t ht
        exact ⟨a, mem_joinN.mpr (.inr ha), u, mem_joinN.mpr (.inr hu), e⟩
    have g8 : ∀ {σ : L2.St}, σ[8]? = some (some v8) → Gives (tVar 8) σ H6 (tabW C (joinN ss ss') (joinN xs xs') fun k => opWay way (wk r k) (wk r' k)) := fun h => EvP.varP h T8
    have g6 : ∀ {σ : L2.St}, σ[6]? = some (some (.ref td)) → Gives (tVar 6) σ H6 (plainP (joinN ss ss') (joinN xs xs') (ruleR (fun k => opWay way (wk r k) (wk r' k)) (joinK r r'))) := fun h => EvP.varP h ((plainP _ _ _).mono _ _ _ e6 pd5)
    have swp : ∀ v H, (tabW C (joinN ss' ss) (joinN xs' xs) fun k => opWay way (wk r' k) (wk r k)).R v H → (tabW C (joinN ss ss') (joinN xs xs') fun k => opWay way (wk r' k) (wk r k)).R v H := fun v H h => TabW.perm (joinN_comm nS'.nod nS.nod) (joinN_comm nU'.nod nU.nod) h
    refine' Cm.st_ifF1 ?htest ?kend
    case htest =>
      refine t_or (t_not (b := true) (t_val (g_is5 jS jU (g8 rfl) (g6 rfl) gJ (fun k => (wJ k).symm) fun k => ?_))) (t_or (t_test (g_neT jS jU (Fk.Gives.imp (g_signs hw (gy eN6 rfl) (gx eN6 rfl) (EvP.var rfl) nS' nU' nS nU l1' l2') swp) (g8 rfl) fun k => opWay_comm)) (t_test (g_neT jS jU (g_signs hw (gx eN6 rfl) (gy eN6 rfl) (EvP.var rfl) nS nU nS' nU' l1 l2) (g8 rfl) fun k => rfl)))
      rw [wJ]
      have h1 := opWay_lt (way := way) (wb k).1 (wb' k).1
      have h2 := (wb k).2
      have h3 := (wb' k).2
      have h4 : (10 : Int) ^ 30 + 10 ^ 30 < 10 ^ 70 := by decide
      omega
    intro H7 e7
    exact ⟨_, _, _, _, rfl, eN6.trans (ExtN.of e7), tN6.ext e7⟩
  · rintro sg H' ⟨o5, o6, o7, o8, rfl, eN, tN⟩
    have lt1 : ∀ k, wk r k < 10 ^ 70 := fun k => Int.lt_trans (wb k).2 (by decide)
    have lt2 : ∀ k, wk r' k < 10 ^ 70 := fun k => Int.lt_trans (wb' k).2 (by decide)
    dsimp only
    refine' EvP.st_ret (P := is (.bl true)) ?hret ?kret
    case hret => exact g_and (g_is5 ok.s ok.u (EvP.varP rfl (TabW_N eN T1)) (EvP.varP rfl (PlainAt_N eN pa3)) ok.w.good (fun _ => rfl) lt1) (g_is5 ok'.s ok'.u (EvP.varP rfl (TabW_N eN T2)) (EvP.varP rfl (PlainAt_N eN pa3')) ok'.w.good (fun _ => rfl) lt2)
    rintro v H9 e9 rfl
    have eN9 := eN.trans (ExtN.of e9)
    exact k sb gb H9 (by omega) (by omega) (hP3.N eN9) (fun b o hb ne nt => eN9 _ _ (b3 _ _ hb ne) nt) (tN.ext e9)
end
end K06

set_option Elab.async false
set_option linter.all false
set_option maxRecDepth 100000
set_option maxHeartbeats 4000000
/-! Table.flat: a static method, called by the class's name; dicts of lists. -/
namespace Cm
open PySem PySem.Spec PyProof.Rows L2 EvP
/-- a dict comprehension over a walk -/
theorem dc_walk {J : It} {n : Nat} {G : Hp → Prop} {Y : Nat → Hp → V → Hp → Prop} (w : Walk J n G Y) {g : TG} {tt : TT} {tk tv : TE} {vs : List Nat} {σ : L2.St} {H1 : Hp} {D : Addr} {Qd : Hp → Prop} (Pv : Nat → Hp → Prop) (h0 : Pv 0 (upd H1 D (.dK []))) (hG : ∀ i H, i ≤ n → Pv i H → G H)
    (hs : ∀ i x H H', i < n → Pv i H → Y i H x H' → g x (wipe σ vs) H' fun σ2 H2 => wipe σ2 vs = wipe σ vs ∧ tt σ2 H2 fun b H3 => if b = true then tk σ2 H3 fun y H4 => tv σ2 H4 fun z H5 => ∃ kvs k, y = kV k ∧ H5 D = some (.dK kvs) ∧ kvs.length < sizeLine ∧ Pv (i + 1) (upd H5 D (.dK (putK kvs k z))) else Pv (i + 1) H3) (hd : ∀ H, Pv n H → Qd H) :
    ∃ W : Nat → Nat → Hp → Prop, (∃ m, W 0 m (upd H1 D (.dK []))) ∧ ∀ i m H, W i m H → (J.stop i H ∧ Qd H) ∨ (J.go i H ∧ ∃ Nx : Hp → Prop, (∀ H', Nx H' → ∃ m', m' < m ∧ W (i + 1) m' H') ∧ ∀ x H', J.yld i H x H' → g x (wipe σ vs) H' fun σ2 H2 => wipe σ2 vs = wipe σ vs ∧ tt σ2 H2 fun b H3 =>
      if b = true then tk σ2 H3 fun y H4 => tv σ2 H4 fun z H5 => ∃ kvs k, y = kV k ∧ H5 D = some (.dK kvs) ∧ kvs.length < sizeLine ∧ Nx (upd H5 D (.dK (putK kvs k z))) else Nx H3) := by
  refine ⟨fun i m H => m = n - i ∧ i ≤ n ∧ Pv i H, ⟨n, by simp, Nat.zero_le _, h0⟩, ?_⟩
  rintro i m H ⟨rfl, hi, p⟩
  have q := hG i H hi p
  by_cases lt : i < n
  · exact .inr ⟨w.goes i H lt q, Pv (i + 1), fun H' p' => ⟨n - (i + 1), by omega, rfl, lt, p'⟩, fun x H' y => hs i x H H' lt p (w.yields i H x H' lt q y)⟩
  · have e : i = n := by omega
    subst e
    exact .inl ⟨w.stops H q, hd H p⟩
section
variable {K : PySem.W.Frag} {σ : L2.St} {H : Hp} {tv : TE} {wi : TI} {vs : List Nat} {i : Nat}
theorem new_key {α : Type} {ss : List Str} {j : Nat} {n : Str} (f : Str → V) (nod : ss.Nodup) (hn : ss[j]? = some n) : valV ((ss.take j).map fun n => ((Sum.inr n : Key), f n)) (Sum.inr n) = none := by
  have no : ¬ (((ss.take j).map fun n => ((Sum.inr n : Key), f n)).any fun kv => decide (kv.1 = Sum.inr n)) = true := by
    intro y
    obtain ⟨p, hp, ep⟩ := List.any_eq_true.mp y
    obtain ⟨m, hm, rfl⟩ := List.mem_map.mp hp
    have e : m = n := Sum.inr.inj (of_decide_eq_true ep)
    rw [e] at hm
    exact K06.take_no nod hn hm
  rw [valV_any] at no
  simpa using no
/-- {n: e for n in names}, over any walk of names -/
theorem comp_dictW {ss : List Str} (f : Str → V) (hw : Walks wi σ H (ss.map V.str)) (hz : ss.length ≤ 1000) (nod : ss.Nodup) (hi : i < σ.length) (wp : ∀ x, wipe ((wipe σ vs).set i (some x)) vs = wipe σ vs)
    (he : ∀ n ∈ ss, Gives tv ((wipe σ vs).set i (some (.str n))) H (is (f n))) : Gives (tDc wi (gName i) tYes (tVar i) tv vs) σ H (dictN H (ss.map fun n => ((Sum.inr n : Key), f n))) := fun H1 e1 Q q => by
  refine hw H1 e1 _ fun J H2 e2 ⟨G, w, g⟩ D hD => ?_
  have lw : (wipe σ vs).length = σ.length := wipe_length σ vs
  refine dc_walk w (fun j H' => H' D = some (.dK ((ss.take j).map fun n => ((Sum.inr n : Key), f n))) ∧ Ex H2 H') ⟨by rw [List.take_zero]; exact upd_same, Ex.new hD⟩ (fun j H' _ ⟨_, e3⟩ => g _ e3) (fun j x H' H'' hj ⟨a1, a2⟩ y => ?_) (fun H' ⟨a1, a2⟩ => ?_)
  · obtain ⟨rfl, hx⟩ := y
    rw [List.getElem?_map] at hx
    obtain ⟨n, hn, rfl⟩ := Option.map_eq_some_iff.mp hx
    have eH := (e1.trans e2).trans a2
    refine ⟨wp _, .str n, by rw [List.getElem?_set_self (by rw [lw]; exact hi)], he n (List.mem_of_getElem? hn) _ eH _ fun v H4 e4 hv => ⟨_, Sum.inr n, rfl, e4 _ _ a1, ?_, ?_, fun b o hb => ?_⟩⟩
    · rw [List.length_map, List.length_take, sizeLine_eq]
      omega
    · rw [upd_same, putK_new _ (new_key (α := Unit) f nod hn), List.take_add_one, hn, List.map_append, show v = f n from hv]
      rfl
    · rw [upd_ne (ne_of_none hb hD)]
      exact e4 _ _ (a2 _ _ hb)
  · rw [List.length_map, List.take_length] at a1
    exact q _ _ (e2.trans a2) ⟨D, rfl, a1, (e1.trans e2).back hD⟩
end
end Cm
namespace K06
open PySem PySem.Spec PyProof.Rows L2 Cm
open DtE (TRow tents lookT)
open Tb (key2 PairK wk TblAt TblC Tab TabAt rowsO tmeth firsts wrow)
open Fk (NameV nameB srt srt_perm ents)
open EvP (Ex All2 is Gives)
/-- C.m is a static method: its record at p, its def at g -/
structure SMet (K : PySem.W.Frag) (C : Addr) (mc : Value) (m : Str) (p g : Addr) : Prop where
  at_ : PySem.W.findCls K (.ref C) mc m = some (.get (.builtin "staticmethod.__get__") (.ref p) .none (.ref C))
  rc : ∃ rest, PySem.W.recIn K p "staticmethod" = some (.ref g :: rest)
  kp : PySem.W.keepIn K (.ref g) = true
/-- C.m(..), m a static method -/
def tSM (C : Addr) (sp : Sp) (dvs : List V) (ta : TE) (t : TA) : TE := fun σ H Q => ta σ H fun x H1 => x = .ref C ∧ t σ H1 fun vs H2 => sp (vs ++ dvs) H2 Q E0
section
variable {X : Cx} {k : Nat} {C p g : Addr} {fd : FuncData} {ps : List Str} {mc : Value} {sp : Sp} {o e : Expr} {es : List Expr} {m : Str} {pos apos : Pos} {ta : TE} {t : TA} {pl : Sem Bool} {dvs : List V} {ds : List Value}
theorem pe_smG (he : PE X o ta) (r : ClX.CRead X.K C mc) (c : SMet X.K C mc m p g) (F : XG.FnG X.prog X.w X.K X.mg X.base CX0 k g fd ps sp) (len : ∀ vs H Q E, sp vs H Q E → vs.length = ps.length) (gd : X.A.guards = some []) (hr : Room k X.A) (hb : Binds X.K fd ps ds) (hd : Vals dvs ds) (ha : PA X (e :: es) t)
    (hst : starEach (e :: es) X.env = (false, eval e X.env) :: starEach es X.env := by rfl) (hpl : (backTo pos (starEach es X.env)).any (·.1) = false := by rfl)
    (ht : eval (.Call (.Attribute o m apos) (e :: es) [] pos) X.env = (do let ov ← eval o X.env; standAt apos.atName; let (f, first) ← holding [ov] (getMethod ov m pl); callWith pos f first (backTo pos (starEach (e :: es) X.env)) (backToKw pos (keywordEach [] X.env))) := by rfl) :
    PE X (.Call (.Attribute o m apos) (e :: es) [] pos) (tSM C sp dvs ta t) := by
  refine ⟨fun pins s σ H Q I h => PySem.W.methodCall_KW (pl := pl) (thn (he.run pins s σ H _ I h) fun u s1 ⟨x, H1, I1, rx, ex, q⟩ => ?_) ht⟩
  subst ex
  cases (show u = Value.ref C from rx)
  obtain ⟨rest, hp⟩ := c.rc
  refine PySem.W.method_cls I1.kIn r.ga (PySem.W.cls_bind I1.kIn r.rd c.at_ (wpAny_call (PySem.W.sm_get (s := { s1 with toks := s1.toks + 1 }) I1.kIn hp (PySem.W.handed_on rfl ?_))))
  have I2 : Inv X pins σ H1 { s1 with toks := s1.toks + 1 } := I1.tok _
  refine PySem.W.callWith_K (h₀ := X.base) I1.ok.mod.kin c.kp (thn (ha.run pos pins _ σ H1 _ I2 q) fun us s3 ⟨vs, H2, I3, rv, q2⟩ => ⟨I3.kIn, ?_⟩) hst hpl
  have rr : Vals (vs ++ dvs) (us ++ ds) := rv.append hd
  have n : (us ++ ds).length = ps.length := by rw [← rr.length]; exact len _ _ _ _ q2
  show wpAny _ _ (call (.ref g) us) _ _ _
  refine wpAny_call (codeAny_mono (F X.A X.stack s3 H2 ⟨us, []⟩ (us ++ ds) (vs ++ dvs) Q E0 gd hr I3.env0 (hb s3 us I3.kIn n) rr q2) fun r' s' z => ?_)
  cases r' with
  | error e => exact (show False from z).elim
  | ok fl => cases fl with
    | ret u => exact I3.after z
    | _ => exact (show False from z).elim
end
/-- scopes: names with lists of names -/
abbrev Sc := List (Str × Addr × List Str)
abbrev scO (S : Sc) : HO := .dK (S.map fun t => ((Sum.inr t.1 : Key), V.ref t.2.1))
structure ScAt (H : Hp) (d : Addr) (S : Sc) : Prop where
  at_ : H d = some (scO S)
  row : ∀ t ∈ S, H t.2.1 = some (.lst (t.2.2.map V.str))
structure ScOk (S : Sc) : Prop where
  nod : (S.map (·.1)).Nodup
  nm : ∀ t ∈ S, NameV (.str t.1)
  row : ∀ t ∈ S, t.2.2.Nodup ∧ (∀ n ∈ t.2.2, NameV (.str n)) ∧ t.2.2.length ≤ 6
  few : S.length ≤ 6
theorem ScAt.ex {H H' : Hp} {d : Addr} {S : Sc} (e : Ex H H') (h : ScAt H d S) : ScAt H' d S := ⟨e _ _ h.at_, fun t ht => e _ _ (h.row t ht)⟩
theorem ScAt.ne {H : Hp} {d : Addr} {S : Sc} (h : ScAt H d S) : ∀ t ∈ S, t.2.1 ≠ d := fun t ht => ne_of (h.row t ht) h.at_ fun z => nomatch z
/-- its rows, each worth w -/
def rowsSc (S : Sc) (w : Int) : List (Str × Fk.Row) := S.map fun t => (t.1, t.2.2.map fun u => (u, w))
def scUses (S : Sc) : List Str := srt (firsts (S.flatMap fun t => t.2.2))
def scWorths (S : Sc) (w : Int) : TRow := (rowsSc S w).flatMap fun t => wrow t.1 t.2
def spFlat (C : Addr) : Sp := fun vs H Q _ => ∃ (d : Addr) (S : Sc) (w : Int), vs = [.ref d, .int w] ∧ ScAt H d S ∧ ScOk S ∧ 0 ≤ w ∧ (scUses S).length ≤ 6 ∧ ∀ c H', Ex H H' → TblAt C H' c (srt (S.map (·.1))) (scUses S) (scWorths S w) → Q (.ref c) H'
theorem spFlat_len {C : Addr} : ∀ vs H Q E, spFlat C vs H Q E → vs.length = (["scopes", "worth"] : List Str).length := fun vs H Q E h => by
  obtain ⟨d, S, w, rfl, _⟩ := h
  rfl
abbrev sFlat : Stmt := tmeth 22
abbrev NFl : List Str := ["scopes", "worth", "uses", "source", "row", "use"]
theorem scFlat : FnScope NFl ["scopes", "worth"] (defScope sFlat) := ⟨rfl, rfl, rfl, by decide +kernel, rfl, by decide +kernel, by decide +kernel⟩
section
variable {K : PySem.W.Frag} {σ : L2.St} {H : Hp}
theorem froz_sc {d : Addr} {S : Sc} {Hf : Hp} (h : ScAt H d S) (f : Froz [(d, scO S)] H Hf) : (∃ od, Hf d = some (.frz od (scO S))) ∧ ∀ t ∈ S, Hf t.2.1 = some (.lst (t.2.2.map V.str)) :=
  ⟨f.at_ _ (.head _), fun t ht => by
    rw [f.old _ (by simpa using h.ne t ht)]
    exact h.row t ht⟩
/-- for uses in scopes.values(): .. -/
theorem st_forSc {m i : Nat} {d : Addr} {S : Sc} {tb u : TS} {D : Ends} (hd : σ[m]? = some (some (.ref d))) (h : ScAt H d S) (h0 : ∃ z, σ = σ.set i z)
    (turn : ∀ t ∈ S, ∀ H1, H1 t.2.1 = some (.lst (t.2.2.map V.str)) → ∀ D' : Ends, (∀ H2, Ex H1 H2 → D'.nx (σ.set i (some (.ref t.2.1))) H2) → tb D' (σ.set i (some (.ref t.2.1))) H1) (k : ∀ y H1, Ex H H1 → u D (σ.set i y) H1) :
    tSeq (tLock (tFor (iVals (tVar m)) (gName i) tb)) u D σ H := by
  refine ⟨d, scO S, h.at_, True.intro, fun od => ?_⟩
  have rows : ∀ t ∈ S, upd H d (.frz od (scO S)) t.2.1 = some (.lst (t.2.2.map V.str)) := fun t ht => by
    rw [upd_ne (h.ne t ht)]
    exact h.row t ht
  have hf : upd H d (.frz od (scO S)) d = some (.frz od (scO S)) := upd_same
  have back : ∀ H', Ex (upd H d (.frz od (scO S))) H' → Ex H (upd H' d (scO S)) := fun H' e b o hb => by
    by_cases c : b = d
    · rw [c, upd_same, ← h.at_, ← c]
      exact hb
    · rw [upd_ne c]
      exact e _ _ (by rw [upd_ne c]; exact hb)
  generalize upd H d (.frz od (scO S)) = Hf at rows hf back ⊢
  refine ⟨_, hd, d, od, _, rfl, hf, for_it walk_values (fun n o H' => Ex Hf H' ∧ ∃ y, o = σ.set i y) ⟨Ex.refl Hf, h0⟩ (fun n o H' _ q => q.1 _ _ hf) (fun n x o H' H2 hn q y => ?_) (fun o H' q => ?_)⟩
  · obtain ⟨e, z, rfl⟩ := q
    obtain ⟨rfl, ky, hk⟩ := y
    rw [List.getElem?_map] at hk
    obtain ⟨t, ht, et⟩ := Option.map_eq_some_iff.mp hk
    have et2 := (Prod.mk.inj et).2
    subst et2
    show tb _ ((σ.set i z).set i (some (.ref t.2.1))) H2
    rw [List.set_set]
    exact turn t (List.mem_of_getElem? ht) H2 (e _ _ (rows t (List.mem_of_getElem? ht))) _ fun H3 e3 => ⟨e.trans e3, _, rfl⟩
  · obtain ⟨e, z, rfl⟩ := q
    exact ⟨e _ _ hf, k z _ (back _ e)⟩
end
end K06

set_option Elab.async false
set_option linter.all false
set_option maxRecDepth 100000
set_option maxHeartbeats 4000000
/-! Table.flat. -/
namespace K06
open PySem PySem.Spec PyProof.Rows L2 Cm
open DtE (TRow tents lookT)
open Tb (key2 PairK wk TblAt TblC Tab TabAt rowsO tmeth firsts wrow)
open Fk (NameV nameB srt srt_perm ents spSeq spAll AmtV)
open EvP (Ex All2 is Gives)
theorem spRow_len {K : PySem.W.Frag} : ∀ vs H Q E, Fk.spRow K vs H Q E → vs.length = (["value"] : List Str).length := fun vs H Q E h => by
  obtain ⟨a, xs, rfl, _⟩ := h
  rfl
abbrev rowF (w : Int) (ns : List Str) : Fk.Row := ns.map fun u => (u, w)
section
variable {K : PySem.W.Frag} {H : Hp}
/-- {source: {use: worth for use in row} for source, row in scopes.items()} -/
theorem comp_flat {d : Addr} {S : Sc} {w : Int} {y : Option V} (h : ScAt H d S) (ok : ScOk S) :
    Gives (tLockE (tDc (iItems (tVar 0)) (gTup K 2 (gCons (gName 3) (gCons (gName 4) gNil))) tYes (tVar 3) (tDc (iList K (tVar 4)) (gName 5) tYes (tVar 5) (tVar 1) [5]) [3, 4])) [some (.ref d), some (.int w), y, none, none, none] H (tabN H (rowsSc S w)) := fun H0 e0 Q q => by
  refine ⟨d, scO S, e0 _ _ h.at_, True.intro, fun od => ?_⟩
  have h := h.ex e0
  have rows : ∀ t ∈ S, upd H0 d (.frz od (scO S)) t.2.1 = some (.lst (t.2.2.map V.str)) := fun t ht => by
    rw [upd_ne (h.ne t ht)]
    exact h.row t ht
  have hf : upd H0 d (.frz od (scO S)) d = some (.frz od (scO S)) := upd_same
  have back : ∀ H', Ex (upd H0 d (.frz od (scO S))) H' → Ex H0 (upd H' d (scO S)) := fun H' e b o hb => by
    by_cases c : b = d
    · rw [c, upd_same, ← h.at_, ← c]
      exact hb
    · rw [upd_ne c]
      exact e _ _ (by rw [upd_ne c]; exact hb)
  have new0 : ∀ a, upd H0 d (.frz od (scO S)) a = none → H0 a = none ∧ a ≠ d := fun a ha => by
    have ne : a ≠ d := fun z => by
      rw [z, upd_same] at ha
      cases ha
    rw [upd_ne ne] at ha
    exact ⟨ha, ne⟩
  generalize upd H0 d (.frz od (scO S)) = H1 at rows hf back new0 ⊢
  refine ⟨_, rfl, d, od, _, rfl, hf, fun D hD => ?_⟩
  have fewS := ok.few
  have wi := walk_items (d := d) (o := od) (kvs := S.map fun t => ((Sum.inr t.1 : Key), V.ref t.2.1))
  rw [List.length_map] at wi
  have nodS := ok.nod
  refine dc_walk wi (fun j H' => ∃ T : Tab, H' D = some (.dK (T.map fun t => (Sum.inr t.1, V.ref t.2.1))) ∧ T.map (fun t => (t.1, t.2.2)) = rowsSc (S.take j) w ∧ (T.map (·.2.1)).Nodup ∧ (∀ t ∈ T, H' t.2.1 = some (.dK (ents t.2.2)) ∧ t.2.1 ≠ D ∧ H1 t.2.1 = none) ∧ Ex H1 H')
    ⟨[], upd_same, by rw [List.take_zero]; rfl, List.nodup_nil, (fun t ht => nomatch ht), Ex.new hD⟩ (fun j H' _ ⟨_, _, _, _, _, e3⟩ => e3 _ _ hf) (fun j x H' H'' hj ⟨T, a1, a2, a3, a4, a5⟩ yy => ?_) (fun H' ⟨T, a1, a2, a3, a4, a5⟩ => ?_)
  · obtain ⟨P, y1, y2, rfl, nP, rfl, hy1, hy2⟩ := yy
    obtain ⟨t, ht⟩ : ∃ t, S[j]? = some t := ⟨S[j], List.getElem?_eq_getElem hj⟩
    have mt := List.mem_of_getElem? ht
    simp only [List.getElem?_map, ht, Option.map_some, Option.some.injEq] at hy1 hy2
    subst hy1 hy2
    have eP := Ex.new (o := .tup [kV (Sum.inr t.1), V.ref t.2.1]) nP
    have a1' := eP _ _ a1
    have a5' := a5.trans eP
    have a4' : ∀ z ∈ T, upd H' P (.tup [kV (Sum.inr t.1), V.ref t.2.1]) z.2.1 = some (.dK (ents z.2.2)) ∧ z.2.1 ≠ D ∧ H1 z.2.1 = none := fun z hz => ⟨eP _ _ (a4 z hz).1, (a4 z hz).2⟩
    have hP : upd H' P (.tup [kV (Sum.inr t.1), V.ref t.2.1]) P = some (.tup [.str t.1, V.ref t.2.1]) := upd_same
    generalize upd H' P (.tup [kV (Sum.inr t.1), V.ref t.2.1]) = H4 at a1' a4' a5' hP
    clear a1 a4 a5 eP
    refine ⟨P, _, rfl, SqT.of hP, rfl, _, _, rfl, _, _, rfl, rfl, ⟨rfl, ?_⟩⟩
    refine ⟨.str t.1, rfl, ?_⟩
    have ro := ok.row t mt
    refine comp_dictW (σ := [some (.ref d), some (.int w), y, some (.str t.1), some (.ref t.2.1), none]) (ss := t.2.2) (fun _ => V.int w) (walks_list (xs := t.2.2.map V.str) (EvP.varP rfl ⟨_, rfl, a5' _ _ (rows t mt)⟩)) (by omega) ro.1 (by show 5 < 6; decide) (fun _ => rfl) (fun n _ => EvP.varP rfl rfl) H4 (Ex.refl _) _ fun v H5 e5 hv => ?_
    obtain ⟨ra, rfl, hra, fra⟩ := hv
    have nD : ra ≠ D := fun z => by
      rw [z, a1'] at fra
      cases fra
    have a1'' := e5 _ _ a1'
    have lT : T.length = (S.take j).length := by
      have := congrArg List.length a2
      unfold rowsSc at this
      rwa [List.length_map, List.length_map] at this
    refine ⟨_, Sum.inr t.1, rfl, a1'', ?_, T ++ [(t.1, ra, rowF w t.2.2)], ?_, ?_, ?_, fun t' ht' => ?_, fun b o hb => ?_⟩
    · rw [List.length_map, lT, List.length_take, sizeLine_eq]
      omega
    · have new : valV (T.map fun t => ((Sum.inr t.1 : Key), V.ref t.2.1)) (Sum.inr t.1) = none := by
        have no : ¬ ((T.map fun t => ((Sum.inr t.1 : Key), V.ref t.2.1)).any fun kv => decide (kv.1 = Sum.inr t.1)) = true := by
          intro y
          obtain ⟨p, hp, ep⟩ := List.any_eq_true.mp y
          obtain ⟨m, hm, rfl⟩ := List.mem_map.mp hp
          have e : m.1 = t.1 := Sum.inr.inj (of_decide_eq_true ep)
          have mm : (m.1, m.2.2) ∈ rowsSc (S.take j) w := by
            rw [← a2]
            exact List.mem_map.mpr ⟨m, hm, rfl⟩
          obtain ⟨z, hz2, ez⟩ := List.mem_map.mp mm
          have ez1 : z.1 = t.1 := (Prod.mk.inj ez).1.trans e
          have hj1 : (S.map (·.1))[j]? = some t.1 := by
            rw [List.getElem?_map, ht]
            rfl
          refine take_no nodS hj1 ?_
          rw [← List.map_take, ← ez1]
          exact List.mem_map.mpr ⟨z, hz2, rfl⟩
        rw [valV_any] at no
        simpa using no
      rw [upd_same, putK_new _ new, List.map_append]
      rfl
    · unfold rowsSc
      rw [List.map_append, a2, List.take_add_one, ht]
      unfold rowsSc
      rw [Option.toList_some, List.map_append]
      rfl
    · rw [List.map_append, List.nodup_append]
      refine ⟨a3, List.nodup_cons.mpr ⟨List.not_mem_nil, List.nodup_nil⟩, fun k hk k' hk' e => ?_⟩
      obtain ⟨t1, ht1, rfl⟩ := List.mem_map.mp hk
      obtain rfl := List.mem_singleton.mp hk'
      have := (a4' t1 ht1).1
      rw [e, fra] at this
      cases this
    · rcases List.mem_append.mp ht' with ht' | ht'
      · exact ⟨by rw [upd_ne (a4' t' ht').2.1]; exact e5 _ _ (a4' t' ht').1, (a4' t' ht').2⟩
      · obtain rfl := List.mem_singleton.mp ht'
        refine ⟨?_, nD, ?_⟩
        · rw [upd_ne nD, hra]
          unfold ents rowF
          rw [List.map_map]
          rfl
        · cases hc : H1 ra with
          | none => rfl
          | some o =>
            rw [a5' _ _ hc] at fra
            cases fra
    · rw [upd_ne (ne_of_none hb hD)]
      exact e5 _ _ (a5' _ _ hb)
  · rw [List.take_length] at a2
    have hd' := a5 _ _ hf
    obtain ⟨D0, Dd⟩ := new0 D hD
    refine ⟨hd', q _ _ (back H' a5) ⟨D, T, rfl, ⟨by rw [upd_ne Dd]; exact a1, fun t ht => by rw [upd_ne (new0 _ (a4 t ht).2.2).2]; exact (a4 t ht).1⟩, a2, a3, e0.back D0⟩⟩
end
theorem flat_ok {S : Sc} {w : Int} {T : Tab} (ok : ScOk S) (w0 : 0 ≤ w) (eT : T.map (fun t => (t.1, t.2.2)) = rowsSc S w) (nod : (T.map (·.2.1)).Nodup) :
    Tb.TabOk T ∧ T.map (·.1) = S.map (·.1) ∧ Tb.usesOf [] T = scUses S ∧ Tb.worths T = scWorths S w := by
  have nT : T.map (·.1) = S.map (·.1) := by
    have := congrArg (List.map Prod.fst) eT
    unfold rowsSc at this
    rw [List.map_map, List.map_map] at this
    exact this
  have lT : T.length = S.length := by
    have := congrArg List.length nT
    rwa [List.length_map, List.length_map] at this
  have mT : ∀ t ∈ T, ∃ z ∈ S, t.1 = z.1 ∧ t.2.2 = rowF w z.2.2 := fun t ht => by
    have : (t.1, t.2.2) ∈ rowsSc S w := by
      rw [← eT]
      exact List.mem_map.mpr ⟨t, ht, rfl⟩
    obtain ⟨z, hz, e⟩ := List.mem_map.mp this
    obtain ⟨f1, f2⟩ := Prod.mk.inj e
    exact ⟨z, hz, f1.symm, f2.symm⟩
  have keys : ∀ (w : Int) (ns : List Str), (rowF w ns).map (·.1) = ns := fun w ns => by
    unfold rowF
    rw [List.map_map]
    exact List.map_id _
  refine ⟨⟨by rw [nT]; exact ok.nod, nod, fun t ht => ?_, fun t ht => ?_, by rw [lT]; exact Nat.le_trans ok.few (by decide)⟩, nT, ?_, ?_⟩
  · obtain ⟨z, hz, e1, _⟩ := mT t ht
    rw [e1]
    exact ok.nm z hz
  · obtain ⟨z, hz, _, e2⟩ := mT t ht
    have r := ok.row z hz
    rw [e2, keys]
    refine ⟨r.1, fun e he => ?_, by rw [List.length_map]; omega⟩
    obtain ⟨u, hu, rfl⟩ := List.mem_map.mp he
    exact ⟨r.2.1 u hu, w0⟩
  · have e : Tb.namesOf T = S.flatMap fun t => t.2.2 := by
      have h : Tb.namesOf T = (T.map fun t => (t.1, t.2.2)).flatMap fun p => p.2.map (·.1) := by
        rw [List.flatMap_map]
        rfl
      rw [h, eT]
      unfold rowsSc
      rw [List.flatMap_map]
      congr 1
      funext t
      exact keys w t.2.2
    unfold Tb.usesOf scUses
    rw [List.nil_append, e]
  · have h : Tb.worths T = (T.map fun t => (t.1, t.2.2)).flatMap fun p => wrow p.1 p.2 := by
      rw [List.flatMap_map]
      rfl
    rw [h, eT]
    rfl
theorem flat_names {S : Sc} (ok : ScOk S) {x : Str} (h : x ∈ S.flatMap fun t => t.2.2) : NameV (.str x) := by
  obtain ⟨t, ht, hx⟩ := List.mem_flatMap.mp h
  exact (ok.row t ht).2.1 x hx
def scInF : Scope := { kind := ScopeKind.function, names := [(Str.ofString ".0", NameKind.local), (Str.ofString "source", NameKind.local), (Str.ofString "row", NameKind.local), (Str.ofString "worth", NameKind.cell)], isGenerator := false, isCoroutine := false }
section
variable {P : Program} {w : World} {K : PySem.W.Frag} {mg : Str → Option Value} {base : Heap} {C f fI fR fN fW aE : Addr} {fd fdI fdR fdN fdW : FuncData} {dvs : List V} {kws : List (Str × V)} {ds : List Value}
theorem ok_flat (F : FunD K "flat" "Table.flat" (defArgs sFlat) (defBody sFlat) (defScope sFlat) dvs kws f fd) (T : Fk.Blt mg) (R : Fk.BltR mg) (hD : mg "dict" = none) (hA : mg "all" = none)
    (GR : FnOk P w K mg base CX0 1 fR fdR ["value"] (Fk.spRow K)) (bR : Binds K fdR ["value"] []) (gR : mg "is_row" = some (.ref fR)) (kR : PySem.W.keepIn K (.ref fR) = true)
    (GN : FnOk P w K mg base CX0 2 fN fdN ["values"] (spSeq K NameV)) (bN : Binds K fdN ["values"] []) (gN : mg "check_names" = some (.ref fN)) (kN : PySem.W.keepIn K (.ref fN) = true)
    (GW : FnOk P w K mg base CX0 3 fW fdW ["values"] (spAll K AmtV)) (bW : Binds K fdW ["values"] []) (gW : mg "check_worths" = some (.ref fW)) (kW : PySem.W.keepIn K (.ref fW) = true)
    (MK : Mk K C fI) (GI : XG.FnG P w K mg base CX0 5 fI fdI ["self", "rows", "uses"] (Tb.spTI K C)) (bI : Binds K fdI ["self", "rows", "uses"] ds) (hds : Vals [V.ref aE] ds) (hE : ∀ H, SqT K H aE []) (gT : mg "Table" = some (.ref C)) :
    XG.FnG P w K mg base CX0 7 f fd ["scopes", "worth"] (spFlat C) := by
  have nd := scFlat.nd
  refine Tb.FunD.okG F scFlat spFlat_len fun cdv A outer s H vs Q E gd hr h => ?_
  obtain ⟨d, S, wo, rfl, hS, ok, w0, few, q⟩ := h
  refine ⟨_, pss_cons (ps_if (PW.pt (pw_or (pt_not (pt_val (pe_callB call_isi (by rfl) T.isi (by decide +kernel) (pa_cons (pv 0) (pa_cons (pe_bltn (v := .ty "dict") (by rfl) hD (by decide +kernel) rfl) pa_nil)))))
      (pw_or1 (pt_not (pt_val (pe_callB (cr_all rfl) (by rfl) hA (by decide +kernel) (pa_cons (pe_lockL (pe_lc (own := [("uses", 2)]) (g := gName 2) (tt := tYes) (te := tCall (Fk.spRow K) [] E0 (tCons (tVar 2) tNil)) rfl nd (pi_values (pv 0)) (blkOk_by (N := NFl) (sc := defScope sFlat) (by decide +kernel))
          (fun _ _ _ _ _ => pg_name (i := 2) nd rfl (Or.inl rfl)) (fun _ _ _ _ _ => pts_nil) (fun _ _ _ _ _ => pe_call GR (hr.mono (by decide)) (by rfl) gR kR bR .nil pass0 (pa_cons (pv 2) pa_nil)))) pa_nil))))))) (pss_one Fk.ps_dead) pss_nil)
    (pss_cons (ps_expr (pe_call GN (hr.mono (by decide)) (by rfl) gN kN bN .nil pass0 (pa_cons (pe_callTy (T := "list") (call_listD rfl) (by rfl) R.list (by decide +kernel) (pa_cons (pv 0) pa_nil)) pa_nil)))
    (pss_cons (ps_lock (ps_for PassesOwn.never rfl (pi_values (pv 0)) (pg_name (i := 2) nd rfl (Or.inl rfl))
      (pss_one (ps_expr (pe_call GN (hr.mono (by decide)) (by rfl) gN kN bN .nil pass0 (pa_cons (pv 2) pa_nil))))))
    (pss_cons (ps_expr (pe_call GW (hr.mono (by decide)) (by rfl) gW kW bW .nil pass0 (pa_cons (pe_lst (pa_cons (pv 1) pa_nil)) pa_nil)))
    (pss_one (ps_ret (XG.pe_makeGD MK GI Tb.spTI_len gd hr bI hds (by rfl) gT (pa_cons
      (pe_lock (pe_dc (own := [("source", 3), ("row", 4)]) (g := gTup K 2 (gCons (gName 3) (gCons (gName 4) gNil))) (tt := tYes) (tk := tVar 3) (tv := tDc (iList K (tVar 4)) (gName 5) tYes (tVar 5) (tVar 1) [5]) rfl nd (by exact pi_items (pv 0)) (blkOk_by (N := NFl) (sc := defScope sFlat) (by decide +kernel))
        (fun _ _ _ _ _ => by exact pg_tup rfl (pgs_cons (pg_name (i := 3) nd rfl (Or.inl rfl)) (pgs_cons (pg_name (i := 4) nd rfl (Or.inl rfl)) pgs_nil))) (fun _ _ _ _ _ => pts_nil) (fun _ _ _ _ _ => pv 3) (fun _ _ _ _ _ => by
          refine pe_dc (own := [("use", 5)]) (wi := iList K (tVar 4)) (g := gName 5) (tt := tYes) (tk := tVar 5) (tv := tVar 1) rfl nd (pi_list (pv 4)) (blkOk_by (N := NFl) (sc := scInF) (by decide +kernel))
            (fun _ _ _ _ _ => pg_name (i := 5) nd rfl (Or.inl rfl)) (fun _ _ _ _ _ => pts_nil) (fun _ _ _ _ _ => pv 5) (fun _ _ _ _ _ => pv 1)))) pa_nil))))))), ?_⟩
  have all : Gives (tCB (rAll K) (tCons (tLockL (tLc (iVals (tVar 0)) (gName 2) tYes (tCall (Fk.spRow K) [] E0 (tCons (tVar 2) tNil)) [2])) tNil)) [some (.ref d), some (.int wo), none, none, none, none] H (is (.bl true)) := by
    refine Tb.g_allT (n := S.length) (Tb.g_lockL (ds := [(d, scO S)]) (by simp) (fun p hp => ?_) fun H1 e1 Hf fr => ?_)
    · rw [List.mem_singleton.mp hp]
      exact ⟨hS.at_, True.intro⟩
    · obtain ⟨⟨od, f1⟩, f2⟩ := froz_sc (hS.ex e1) fr
      have fs := ok.few
      have w := comp_is (i := 2) (vs := [2]) (te := tCall (Fk.spRow K) [] E0 (tCons (tVar 2) tNil)) (tt := tYes) (σ := [some (.ref d), some (.int wo), none, none, none, none]) (H := Hf) (fun _ => true) (fun _ => V.bl true) (walks_vals (m := 0) rfl f1)
        (by rw [List.length_map, List.length_map]; omega) (fun _ => rfl) (fun _ _ H2 _ Q h => h) (fun y hy _ => fun H2 e2 Q q => ?_)
      · rw [List.filter_eq_self.mpr (fun _ _ => rfl), List.map_map, List.map_map, show ((fun _ => V.bl true) ∘ (fun x : Key × V => x.2)) ∘ (fun t : Str × Addr × List Str => ((Sum.inr t.1 : Key), V.ref t.2.1)) = fun _ => V.bl true from rfl, List.map_const'] at w
        exact w
      · rw [List.map_map] at hy
        obtain ⟨t, ht, rfl⟩ := List.mem_map.mp hy
        exact ⟨_, rfl, t.2.1, _, rfl, .inl (SqL.of (e2 _ _ (f2 t ht))), fun H' k => q _ _ k rfl⟩
  refine ⟨_, rfl, _, _, _, _, true, rfl, .ty _, .base (.dK hS.at_), kit_ty (by decide +kernel), _, rfl, ?_⟩
  refine all H (Ex.refl H) _ fun v H1 e1 ev => ?_
  cases (show v = .bl true from ev)
  refine ⟨_, rfl, ?_⟩
  dsimp only [Bool.not_true, tNext]
  rw [if_neg (show ¬ (!true) = true by decide)]
  refine ⟨_, rfl, d, _, rfl, .inl (e1 _ _ hS.at_), fun p1 h1 => ⟨p1, _, rfl, .inl (SqL.of upd_same), fun y hy => ?_, ?_⟩⟩
  · rw [List.map_map] at hy
    obtain ⟨t, ht, rfl⟩ := List.mem_map.mp hy
    exact ok.nm t ht
  have e2 := e1.trans (Ex.new (o := .lst ((S.map fun t => ((Sum.inr t.1 : Key), V.ref t.2.1)).map fun kv => kV kv.1)) h1)
  generalize upd H1 p1 (.lst ((S.map fun t => ((Sum.inr t.1 : Key), V.ref t.2.1)).map fun kv => kV kv.1)) = H2 at e2 ⊢
  refine st_forSc (σ := [some (.ref d), some (.int wo), none, none, none, none]) (m := 0) (i := 2) rfl (hS.ex e2) ⟨none, rfl⟩ (fun t ht H4 h4 D' k => ?_) fun y H5 e5 => ?_
  · refine ⟨_, rfl, t.2.1, _, rfl, .inl (SqL.of h4), fun y hy => ?_, k _ (Ex.refl _)⟩
    obtain ⟨n, hn, rfl⟩ := List.mem_map.mp hy
    exact (ok.row t ht).2.1 n hn
  have e6 := e2.trans e5
  refine ⟨_, rfl, by show 1 ≤ sizeLine; decide, fun p2 h2 => ⟨p2, [.int wo], rfl, SqL.of upd_same, fun y hy => ?_, ?_⟩⟩
  · rw [List.mem_singleton.mp hy]
    exact ⟨wo, rfl, w0⟩
  have e7 := e6.trans (Ex.new (o := .lst [.int wo]) h2)
  generalize upd H5 p2 (.lst [.int wo]) = H7 at e7 ⊢
  refine comp_flat (K := K) (y := y) (w := wo) (hS.ex e7) ok H7 (Ex.refl _) _ fun v H8 e8 hv => ?_
  obtain ⟨c, Tt, rfl, hT, eT, nod, _⟩ := hv.ex
  obtain ⟨to, nT, eu, ewr⟩ := flat_ok ok w0 eT nod
  have lT : Tt.length = S.length := by
    have := congrArg List.length nT
    rwa [List.length_map, List.length_map] at this
  refine fun x' dx' nx ndx ne => ?_
  have e9 := Ex.new (o := .own x') ndx
  have nx2 : upd H8 dx' (.own x') x' = none := by
    rw [upd_ne ne.symm]
    exact nx
  have e10 := e9.trans (Ex.new (o := .ins C dx' []) nx2)
  have hx : upd (upd H8 dx' (.own x')) x' (.ins C dx' []) x' = some (.ins C dx' []) := upd_same
  generalize upd (upd H8 dx' (.own x')) x' (.ins C dx' []) = H9 at e10 hx ⊢
  refine ⟨x', c, aE, dx', Tt, [], rfl, hx, hT.ex e10, to, by rw [lT]; exact ok.few, .inr (hE _), (fun n hn => nomatch hn), by decide, by rw [eu]; exact few, fun H11 k5 ta => ⟨rfl, ?_⟩⟩
  rw [eu, nT, ewr] at ta
  exact q _ H11 (fun c o hc => k5 _ _ (e10 _ _ (e8 _ _ (e7 _ _ hc))) (ne_of_none (e8 _ _ (e7 _ _ hc)) nx)) ta
end
end K06

set_option Elab.async false
set_option linter.all false
set_option maxRecDepth 100000
set_option maxHeartbeats 4000000
/-! The law itself. -/
namespace K06
open PySem PySem.Spec PyProof.Rows L2 Cm LamX
open DtE (TRow tents lookT sameT)
open Tb (key2 PairK wk TblAt TblC Tab TabAt tblT spTStr firsts)
open Fk (NameV nameB srt srt_perm)
open EvP (Ex All2 is Gives)
abbrev sLaw4 : Stmt := top 52
abbrev NL4 : List Str := ["script", "pen", "turn", "left", "right", "near", "one", "other", "found"]
theorem scLaw4 : FnScope NL4 ["script"] (defScope sLaw4) := ⟨rfl, rfl, rfl, by decide +kernel, rfl, by decide +kernel, by decide +kernel⟩
def spLaw4 (K : PySem.W.Frag) (T : List (Addr × Str)) : Sp := fun vs H Q _ => ∃ (a : Addr) (ns : List Int), vs = [.ref a] ∧ SqL K H a (ns.map V.int) ∧ ns.length ≤ 63 ∧ Tabs T H ∧ ∀ H', Q (.bl true) H'
theorem spLaw4_len {K : PySem.W.Frag} {T : List (Addr × Str)} : ∀ vs H Q E, spLaw4 K T vs H Q E → vs.length = (["script"] : List Str).length := fun vs H Q E h => by
  obtain ⟨a, ns, rfl, _⟩ := h
  rfl
theorem PlainAt.butN {H H' : Hp} {v : V} {ss xs : List Str} {r : TRow} {p q : Addr} {ns : List Int} {s g : Int} (h : PlainAt H v ss xs r) (hP : Pen H p q ns s g) (k : ButN p H H') : PlainAt H' v ss xs r := by
  obtain ⟨t, a, b, d, h0, h1, h2, h3, h4⟩ := h
  exact ⟨t, a, b, d, h0, k _ _ h1 (ne_of h1 hP.p fun z => nomatch z) (fun ps z => nomatch z), k _ _ h2 (strs_ne hP h2) (fun ps z => nomatch z), k _ _ h3 (strs_ne hP h3) (fun ps z => nomatch z), k _ _ h4 (ne_of h4 hP.p fun z => nomatch z) (fun ps z => nomatch z)⟩
theorem names0 : NamesOk [] := ⟨List.nodup_nil, (fun n hn => nomatch hn), by decide⟩
theorem worths0 {ss xs : List Str} : WorthsOk ss xs [] := ⟨List.nodup_nil, (fun t ht => nomatch ht), (fun t ht => nomatch ht)⟩
section
variable {K : PySem.W.Frag} {C CT : Addr} {σ : L2.St} {H : Hp} {ta tb tc te : TE} {ss xs ss' xs' : List Str} {g g' : List Key → Int} {r r' : TRow} {way : Int}
theorem g_plain0 : Gives (tTup (tCons (tLst tNil) (tCons (tLst tNil) (tCons tDNewT tNil)))) σ H (plainP [] [] []) := fun H1 e1 Q q => by
  refine ⟨by show 0 ≤ sizeLine; decide, fun a na => ⟨by show 0 ≤ sizeLine; decide, fun b nb => fun d nd => ⟨by show 3 ≤ sizeLine; decide, fun t nt => ?_⟩⟩⟩
  have x1 := Ex.new (o := .lst []) na
  have x2 := Ex.new (o := .lst []) nb
  have x3 := Ex.new (o := .dT []) nd
  have x4 := Ex.new (o := .tup [.ref a, .ref b, .ref d]) nt
  exact q _ _ (((x1.trans x2).trans x3).trans x4) ⟨t, a, b, d, rfl, upd_same, x4 _ _ (x3 _ _ (x2 _ _ upd_same)), x4 _ _ (x3 _ _ upd_same), x4 _ _ upd_same⟩
theorem g_plainI {i : Nat} {v : V} (hi : σ[i]? = some (some v)) (hv : PlainAt H v ss xs r) : Gives (tTup (tCons (tOp (rIxT K) (tVar i) (tC (.int 0))) (tCons (tOp (rIxT K) (tVar i) (tC (.int 1))) (tCons tDNewT tNil)))) σ H (plainP ss xs []) := fun H1 e1 Q q => by
  obtain ⟨t, a, b, d, rfl, h1, h2, h3, h4⟩ := hv.ex
  refine ⟨_, hi, t, _, 0, _, rfl, rfl, SqT.of (e1 _ _ h1), atI_nat (xs := [V.ref a, .ref b, .ref d]) (j := 0) rfl, _, hi, t, _, 1, _, rfl, rfl, SqT.of (e1 _ _ h1), atI_nat (xs := [V.ref a, .ref b, .ref d]) (j := 1) rfl, fun d2 nd => ⟨by show 3 ≤ sizeLine; decide, fun t2 nt => ?_⟩⟩
  have x3 := Ex.new (o := .dT []) nd
  have x4 := Ex.new (o := .tup [.ref a, .ref b, .ref d2]) nt
  exact q _ _ (x3.trans x4) ⟨t2, a, b, d2, rfl, upd_same, x4 _ _ (x3 _ _ (e1 _ _ h2)), x4 _ _ (x3 _ _ (e1 _ _ h3)), x4 _ _ upd_same⟩
/-- any of the four -/
theorem near_ok {vs : List V} {v : V} (ok : PlainOk ss xs r) (ok' : PlainOk ss' xs' r') (h : All2 H [plainP ss' xs' r', plainP ss xs r, plainP [] [] [], plainP ss xs []] vs) (hv : v ∈ vs) : ∃ (ns nx : List Str) (nr : TRow), PlainOk ns nx nr ∧ PlainAt H v ns nx nr := by
  cases h with
  | cons h1 t => cases t with
    | cons h2 t => cases t with
      | cons h3 t => cases t with
        | cons h4 t =>
          cases t
          simp only [List.mem_cons, List.not_mem_nil, or_false] at hv
          rcases hv with rfl | rfl | rfl | rfl
          · exact ⟨_, _, _, ok', h1⟩
          · exact ⟨_, _, _, ok, h2⟩
          · exact ⟨_, _, _, ⟨names0, names0, worths0⟩, h3⟩
          · exact ⟨_, _, _, ⟨ok.s, ok.u, worths0⟩, h4⟩
/-- table op table -/
theorem g_opT {op : Int → Int → Int} (hw : way = 0 ∨ way = 1 ∨ way = 2) (eo : opWay way = op) (ha : Gives ta σ H (tabW C ss xs g)) (hb : Gives tb σ H (tabW C ss' xs' g')) (sN : NamesOk ss) (uN : NamesOk xs) (sN' : NamesOk ss') (uN' : NamesOk xs') (l1 : (joinN ss ss').length ≤ 6) (l2 : (joinN xs xs').length ≤ 6) :
    Gives (tOp (Own.rOwnE C (spTBoth C CT op) E0) ta tb) σ H (tabW C (joinN ss ss') (joinN xs xs') fun k => op (g k) (g' k)) := fun H1 e1 Q q =>
  ha H1 e1 _ fun v H2 e2 hv => hb H2 (e1.trans e2) _ fun u H3 e3 hu => by
    subst eo
    obtain ⟨x, y, way', e0, _, ix, iy, h⟩ := go_signs (CT := CT) (Q := Q) (E := E0) hw ((tabW C ss xs g).mono _ _ _ e3 hv) hu sN uN sN' uN' (fun c => absurd c (by omega)) (fun _ c => absurd c (by omega)) fun _ _ z H' e t => q z H' ((e2.trans e3).trans e) t
    cases e0
    exact ⟨ix, iy, h⟩
theorem wk_op (gr : GoodR ss xs r) (gr' : GoodR ss' xs' r') (n1 : ss.Nodup) (n2 : xs.Nodup) (n1' : ss'.Nodup) (n2' : xs'.Nodup) (k : List Key) :
    opWay way (wk r k) (wk r' k) = wk (genR (fun k => opWay way (wk r k) (wk r' k)) (joinN ss ss') (joinN xs xs')) k := by
  rw [wk_gen (joinN_nod n1 n1') (joinN_nod n2 n2') (fun k h => ?_) (fun k => opWay_nn (gr.nn k) (gr'.nn k))]
  rw [gr.out (fun ⟨a, ha, x, hx, e⟩ => h ⟨a, mem_joinN.mpr (.inl ha), x, mem_joinN.mpr (.inl hx), e⟩), gr'.out (fun ⟨a, ha, x, hx, e⟩ => h ⟨a, mem_joinN.mpr (.inr ha), x, mem_joinN.mpr (.inr hx), e⟩)]
  exact opWay_zero
/-- str(table op table) -/
theorem g_strO {op : Int → Int → Int} {A B : List Str} {tx : Str} (hw : way = 0 ∨ way = 1 ∨ way = 2) (eo : opWay way = op) (ha : Gives ta σ H (tabW C ss xs (wk r))) (hb : Gives tb σ H (tabW C ss' xs' (wk r'))) (sN : NamesOk ss) (uN : NamesOk xs) (sN' : NamesOk ss') (uN' : NamesOk xs') (gr : GoodR ss xs r) (gr' : GoodR ss' xs' r')
    (eA : joinN ss ss' = A) (eB : joinN xs xs' = B) (l1 : A.length ≤ 6) (l2 : B.length ≤ 6) (sA : srt A = A) (sB : srt B = B) (b : ∀ k, wk r k < 10 ^ 30) (b' : ∀ k, wk r' k < 10 ^ 30) (et : tblT A B (genR (fun k => opWay way (wk r k) (wk r' k)) A B) = tx) :
    Gives (tCB (Own.rStrOwn C (spTStr C)) (tCons (tOp (Own.rOwnE C (spTBoth C CT op) E0) ta tb) tNil)) σ H (is (.str tx)) := by
  have l1' : (joinN ss ss').length ≤ 6 := by rw [eA]; exact l1
  have l2' : (joinN xs xs').length ≤ 6 := by rw [eB]; exact l2
  have jS := joinN_ok sN sN' l1'
  have jU := joinN_ok uN uN' l2'
  have z := g_strT jS jU (g_opT (CT := CT) hw eo ha hb sN uN sN' uN' l1' l2') (r := genR (fun k => opWay way (wk r k) (wk r' k)) (joinN ss ss') (joinN xs xs')) (fun k => by subst eo; exact wk_op gr gr' sN.nod uN.nod sN'.nod uN'.nod k) fun k => by
    subst eo
    have h0 := opWay_nn (way := way) (gr.nn k) (gr'.nn k)
    have h1 := opWay_lt (way := way) (gr.nn k) (gr'.nn k)
    have h2 := b k
    have h3 := b' k
    have h4 : (10 : Int) ^ 30 + 10 ^ 30 < 10 ^ 64 := by decide
    exact ⟨h0, by omega⟩
  rw [eA, eB, sA, sB, et] at z
  exact z
end
/-- the law's last tables -/
abbrev sZ : List Str := ["a", "b"]
abbrev xZ : List Str := ["x", "y"]
abbrev rZ : TRow := [(key2 "a" "x", 3), (key2 "a" "y", 2), (key2 "b" "y", 1)]
abbrev sW : List Str := ["a", "c"]
abbrev xW : List Str := ["x"]
abbrev rW : TRow := [(key2 "a" "x", 1), (key2 "c" "x", 1)]
theorem sZ_ok : NamesOk sZ := namesOk_of (by decide +kernel)
theorem xZ_ok : NamesOk xZ := namesOk_of (by decide +kernel)
theorem sW_ok : NamesOk sW := namesOk_of (by decide +kernel)
theorem xW_ok : NamesOk xW := namesOk_of (by decide +kernel)
theorem srt_sZ : srt sZ = sZ := (Fk.srt_of (List.Perm.refl _) (by decide +kernel)).symm
theorem srt_xZ : srt xZ = xZ := (Fk.srt_of (List.Perm.refl _) (by decide +kernel)).symm
theorem srt_xW : srt xW = xW := (Fk.srt_of (List.Perm.refl _) (by decide +kernel)).symm
abbrev sV : List Str := ["a", "b", "c"]
theorem srt_abc : srt sV = sV := (Fk.srt_of (List.Perm.refl _) (by decide +kernel)).symm
theorem rZ_good : GoodR sZ xZ rZ := ⟨by decide +kernel, fun t ht => by
  simp only [List.mem_cons, List.not_mem_nil, or_false] at ht
  rcases ht with rfl | rfl | rfl
  · exact ⟨"a", by simp, "x", by simp, rfl⟩
  · exact ⟨"a", by simp, "y", by simp, rfl⟩
  · exact ⟨"b", by simp, "y", by simp, rfl⟩, by decide +kernel⟩
theorem rW_good : GoodR sW xW rW := ⟨by decide +kernel, fun t ht => by
  simp only [List.mem_cons, List.not_mem_nil, or_false] at ht
  rcases ht with rfl | rfl
  · exact ⟨"a", by simp, "x", by simp, rfl⟩
  · exact ⟨"c", by simp, "x", by simp, rfl⟩, by decide +kernel⟩
theorem rZ_lt (k : List Key) : wk rZ k < 10 ^ 30 := by
  unfold wk
  cases h : lookT rZ k with
  | none => decide
  | some n =>
    have m := (look_mem rZ_good.nod).mp h
    simp only [List.mem_cons, List.not_mem_nil, or_false, Prod.mk.injEq] at m
    show n < 10 ^ 30
    rcases m with ⟨_, rfl⟩ | ⟨_, rfl⟩ | ⟨_, rfl⟩ <;> decide
theorem rW_lt (k : List Key) : wk rW k < 10 ^ 30 := by
  unfold wk
  cases h : lookT rW k with
  | none => decide
  | some n =>
    have m := (look_mem rW_good.nod).mp h
    simp only [List.mem_cons, List.not_mem_nil, or_false, Prod.mk.injEq] at m
    show n < 10 ^ 30
    rcases m with ⟨_, rfl⟩ | ⟨_, rfl⟩ <;> decide
theorem txt_A : tblT sZ xZ (genR (fun k => opWay 0 (wk rZ k) (wk rZ k)) sZ xZ) = "x y : a 6 4 ; b 0 2" := by decide +kernel
theorem txt_N : tblT sV xZ (genR (fun k => opWay 2 (wk rZ k) (wk rW k)) sV xZ) = "x y : a 1 0 ; b 0 0 ; c 0 0" := by decide +kernel
theorem txt_O : tblT sV xZ (genR (fun k => opWay 1 (wk rZ k) (wk rW k)) sV xZ) = "x y : a 3 2 ; b 0 1 ; c 1 0" := by decide +kernel
abbrev rowA : List (Key × V) := [(Sum.inr "x", .int 3), (Sum.inr "y", .int 2)]
abbrev rowB' : List (Key × V) := [(Sum.inr "y", .int 1)]
theorem merge_two {s t : Str} (h : decide ((Sum.inr s : Key) = Sum.inr t) = false) (p2 p3 : Addr) : mergeK [] [((Sum.inr s : Key), V.ref p2), ((Sum.inr t : Key), V.ref p3)] = [((Sum.inr s : Key), V.ref p2), ((Sum.inr t : Key), V.ref p3)] := by
  show putK (putK [] (Sum.inr s : Key) (V.ref p2)) (Sum.inr t : Key) (V.ref p3) = _
  have e : putK ([] : List (Key × V)) (Sum.inr s : Key) (V.ref p2) = [((Sum.inr s : Key), V.ref p2)] := rfl
  rw [e]
  unfold putK
  rw [List.any_cons, h]
  rfl
/-- the rows of the law's last table -/
abbrev tZ (p2 p3 : Addr) : Tab := [("a", p2, [("x", 3), ("y", 2)]), ("b", p3, [("y", 1)])]
theorem tZ_ok {p2 p3 : Addr} (n : p2 ≠ p3) : Tb.TabOk (tZ p2 p3) where
  nod := by
    show ([("a" : Str), "b"] : List Str).Nodup
    decide +kernel
  nodA := by
    show ([p2, p3] : List Addr).Nodup
    simp [n]
  nm := fun t ht => by
    simp only [tZ, List.mem_cons, List.not_mem_nil, or_false] at ht
    rcases ht with rfl | rfl
    · exact sZ_ok.nm "a" (by simp)
    · exact sZ_ok.nm "b" (by simp)
  row := fun t ht => by
    simp only [tZ, List.mem_cons, List.not_mem_nil, or_false] at ht
    rcases ht with rfl | rfl
    · refine ⟨by show ([("x" : Str), "y"] : List Str).Nodup; decide +kernel, fun e he => ?_, by show 2 ≤ 12; decide⟩
      simp only [List.mem_cons, List.not_mem_nil, or_false] at he
      rcases he with rfl | rfl
      · exact ⟨xZ_ok.nm "x" (by simp), by decide⟩
      · exact ⟨xZ_ok.nm "y" (by simp), by decide⟩
    · refine ⟨by show ([("y" : Str)] : List Str).Nodup; decide +kernel, fun e he => ?_, by show 1 ≤ 12; decide⟩
      simp only [List.mem_cons, List.not_mem_nil, or_false] at he
      rcases he with rfl
      exact ⟨xZ_ok.nm "y" (by simp), by decide⟩
  few := by show 2 ≤ 12; decide
theorem tZ_uses (p2 p3 : Addr) : Tb.usesOf [] (tZ p2 p3) = xZ := by
  have e : Tb.firsts ([] ++ Tb.namesOf (tZ p2 p3)) = xZ := by
    show Tb.firsts [("x" : Str), "y", "y"] = xZ
    decide +kernel
  unfold Tb.usesOf
  rw [e, srt_xZ]
theorem tZ_worths (p2 p3 : Addr) : Tb.worths (tZ p2 p3) = rZ := by
  show Tb.wrow "a" [("x", 3), ("y", 2)] ++ (Tb.wrow "b" [("y", 1)] ++ []) = rZ
  decide +kernel
abbrev cW (l1 l2 : Addr) : Sc := [("a", l1, ["x"]), ("c", l2, ["x"])]
theorem cW_ok (l1 l2 : Addr) : ScOk (cW l1 l2) where
  nod := by
    show ([("a" : Str), "c"] : List Str).Nodup
    decide +kernel
  nm := fun t ht => by
    simp only [cW, List.mem_cons, List.not_mem_nil, or_false] at ht
    rcases ht with rfl | rfl
    · exact sW_ok.nm "a" (by simp)
    · exact sW_ok.nm "c" (by simp)
  row := fun t ht => by
    simp only [cW, List.mem_cons, List.not_mem_nil, or_false] at ht
    rcases ht with rfl | rfl
    · exact ⟨xW_ok.nod, xW_ok.nm, by show 1 ≤ 6; decide⟩
    · exact ⟨xW_ok.nod, xW_ok.nm, by show 1 ≤ 6; decide⟩
  few := by show 2 ≤ 6; decide
theorem cW_uses (l1 l2 : Addr) : scUses (cW l1 l2) = xW := by
  have e : Tb.firsts ((cW l1 l2).flatMap fun t => t.2.2) = xW := by
    show Tb.firsts [("x" : Str), "x"] = xW
    decide +kernel
  unfold scUses
  rw [e, srt_xW]
theorem cW_worths (l1 l2 : Addr) : scWorths (cW l1 l2) 1 = rW := by
  show Tb.wrow "a" [("x", 1)] ++ (Tb.wrow "c" [("x", 1)] ++ []) = rW
  decide +kernel
end K06

set_option Elab.async false
set_option linter.all false
set_option maxRecDepth 100000
set_option maxHeartbeats 4000000
/-! The law itself. -/
namespace K06
open PySem PySem.Spec PyProof.Rows L2 Cm LamX
open DtE (TRow tents lookT sameT)
open Tb (key2 PairK wk TblAt TblC Tab TabAt tblT spTStr firsts)
open Fk (NameV nameB srt srt_perm)
open EvP (Ex All2 is Gives)
section
variable {P : Program} {w : World} {K : PySem.W.Frag} {mg : Str → Option Value} {base : Heap} {C CT f fI aE pF gF : Addr} {fd fdI fdF : FuncData} {ds dsF : List Value} {mc : Value} {T : List (Addr × Str)}
theorem ok_law4 (F : Fun K "law" "law" sLaw4 f fd) (M : TblB P w K mg base C CT) (hR : mg "range" = none) (hS : mg "str" = none)
    (DP : CalD P w K mg base 1 "_law_pen" ["script"] (spPen K)) (DK : CalD P w K mg base 2 "_law_pick" ["pen", "some"] spPick) (DL : CalD P w K mg base 3 "_law_plain" ["pen", "most"] spPlain)
    (DR : CalG P w K mg base 11 "_law_right" ["pen", "left", "right"] (spRight4 T)) {fS : Addr} {dS : FuncData} (MS : Own.Mt P w K mg base C "__str__" 6 ["self"] (spTStr C) fS dS)
    (MK : Mk K C fI) (GI : XG.FnG P w K mg base CX0 5 fI fdI ["self", "rows", "uses"] (Tb.spTI K C)) (bI : Binds K fdI ["self", "rows", "uses"] ds) (hds : Vals [V.ref aE] ds) (hE : ∀ H, SqT K H aE []) (gT : mg "Table" = some (.ref C))
    (RC : ClX.CRead K C mc) (SM : SMet K C mc "flat" pF gF) (GF : XG.FnG P w K mg base CX0 7 gF fdF ["scopes", "worth"] (spFlat C)) (bF : Binds K fdF ["scopes", "worth"] dsF) (hdF : Vals [V.int 1] dsF) : XG.FnG P w K mg base CX0 12 f fd ["script"] (spLaw4 K T) := by
  have nd := scLaw4.nd
  refine XG.Fun.okG F scLaw4 spLaw4_len fun cdv A outer sh H vs Q E gd hr h => ?_
  obtain ⟨a, ns, rfl, hSq, hl, t0, q⟩ := h
  have hu := hu_of hr
  have hx : ∀ (σ : L2.St), PassesAt (L2.CX P w) (cxOf CX0 P w K mg base NL4 "law" (defScope sLaw4) f cdv A outer sh H E).nox σ E0 := Own.pass_calm
  refine ⟨_, pss_cons (ps_set (i := 1) nd rfl (Or.inl rfl) (pe_call DP.ok (hr.mono (by decide)) (by rfl) DP.g DP.kp DP.b .nil pass0 (pa_cons (pv 0) pa_nil)))
    (pss_cons (ps_for PassesOwn.never rfl (pi_range1 rfl hR (pa_cons pe_int pa_nil)) (pg_name (i := 2) nd rfl (Or.inl rfl))
      (pss_cons (ps_par (i := 3) (j := 4) (by rfl) nd rfl rfl (by decide) rfl rfl (pa_cons (pe_call DL.ok (hr.mono (by decide)) (by rfl) DL.g DL.kp DL.b .nil pass0 (pa_cons (pv 1) (pa_cons (pe_op op_pow pe_int pe_int) pa_nil))) (pa_cons (pe_call DL.ok (hr.mono (by decide)) (by rfl) DL.g DL.kp DL.b .nil pass0 (pa_cons (pv 1) (pa_cons (pe_op op_pow pe_int pe_int) pa_nil))) pa_nil)) (by rfl))
      (pss_cons (ps_set (i := 5) nd rfl (Or.inl rfl) (pe_call DK.ok (hr.mono (by decide)) (by rfl) DK.g DK.kp DK.b .nil pass0 (pa_cons (pv 1) (pa_cons (pe_lst (pa_cons (pv 4) (pa_cons (pv 3) (pa_cons (pe_tup (pa_cons (pe_lst pa_nil) (pa_cons (pe_lst pa_nil) (pa_cons pe_dnewT pa_nil)))) (pa_cons (pe_tup (pa_cons (pe_ix ix_tup (pv 3) pe_int (fun _ _ => rfl)) (pa_cons (pe_ix ix_tup (pv 3) pe_int (fun _ _ => rfl)) (pa_cons pe_dnewT pa_nil)))) pa_nil))))) pa_nil))))
      (pss_one (ps_if (PW.pt (pw_or (pt_not (pt_val (Tb.pe_callG DR.ok DR.len gd hr (by rfl) DR.g DR.kp DR.b (pa_cons (pv 1) (pa_cons (pv 3) (pa_cons (pv 4) pa_nil)))))) (pw_or1 (pt_not (pt_val (Tb.pe_callG DR.ok DR.len gd hr (by rfl) DR.g DR.kp DR.b (pa_cons (pv 1) (pa_cons (pv 5) (pa_cons (pv 3) pa_nil))))))))) (pss_one (ps_ret pe_bl)) pss_nil)))))
    (pss_cons (ps_par (i := 6) (j := 7) (by rfl) nd rfl rfl (by decide) rfl rfl (pa_cons (XG.pe_makeGD MK GI Tb.spTI_len gd (hr.mono (by decide)) bI hds (by rfl) gT (pa_cons (pe_disp (pps_cons pe_str (pe_disp (pps_cons pe_str pe_int (pps_cons pe_str pe_int pps_nil)) rfl rfl (by decide) (by decide)) (pps_cons pe_str (pe_disp (pps_cons pe_str pe_int pps_nil) rfl rfl (by decide) (by decide)) pps_nil)) rfl rfl (by decide) (by decide)) pa_nil))
      (pa_cons (pe_smG (pe_glob (v := .ref C) (by rfl) gT rfl) RC SM GF spFlat_len gd (hr.mono (by decide)) bF hdF (pa_cons (pe_disp (pps_cons pe_str (pe_lst (pa_cons pe_str pa_nil)) (pps_cons pe_str (pe_lst (pa_cons pe_str pa_nil)) pps_nil)) rfl rfl (by decide) (by decide)) pa_nil)) pa_nil)) (by rfl))
    (pss_cons (ps_set (i := 8) nd rfl (Or.inl rfl) (pe_lst (pa_cons (pe_callTy (T := "str") (Own.call_strOwn MS (hr.mono (by decide))) (by rfl) hS (by decide +kernel) (pa_cons (pe_op (Own.op_ownGX (op := .Add) M.add M.first gd (hr.mono (by decide)) hx) (pv 6) (pv 6)) pa_nil))
      (pa_cons (pe_callTy (T := "str") (Own.call_strOwn MS (hr.mono (by decide))) (by rfl) hS (by decide +kernel) (pa_cons (pe_op (Own.op_ownGX (op := .BitAnd) M.and_ M.first gd (hr.mono (by decide)) hx) (pv 6) (pv 7)) pa_nil))
      (pa_cons (pe_callTy (T := "str") (Own.call_strOwn MS (hr.mono (by decide))) (by rfl) hS (by decide +kernel) (pa_cons (pe_op (Own.op_ownGX (op := .BitOr) M.or_ M.first gd (hr.mono (by decide)) hx) (pv 6) (pv 7)) pa_nil)) pa_nil)))))
    (pss_one (ps_ret (pe_cmpR (op_eqD hr.units) (pv 8) (pe_lst (pa_cons pe_str (pa_cons pe_str (pa_cons pe_str pa_nil)))) (nomark _))))))), ?_⟩
  -- pen = _law_pen(script)
  refine ⟨_, rfl, a, ns, rfl, hSq, hl, fun p qc ms H1 hm hP1 x1 => ?_⟩
  have t1 := t0.ext x1
  -- for turn in range(7)
  refine ⟨7, rfl, by decide, by decide, for_range (lo := 0) (n := 7) (fun k σ H' => ∃ (o2 o3 o4 o5 : Option V) (s g : Int), σ = [some (.ref a), some (.ref p), o2, o3, o4, o5, none, none, none] ∧ Pen H' p qc ms s g ∧ 0 ≤ s ∧ s ≤ 1000 * (k : Int) ∧ Tabs T H') ?_ ?_ ?_⟩
  · exact ⟨none, none, none, none, 0, 0, rfl, hP1, by omega, by omega, t1⟩
  · rintro k σ H2 hk ⟨o2, o3, o4, o5, s, g, rfl, hP2, s0, s1, t2⟩
    -- left, right = ..
    refine ⟨_, rfl, 10, 29, rfl, rfl, ⟨by decide, by decide, by decide⟩, p, qc, ms, s, g, _, rfl, hP2, hm, s0, by omega, by decide, by decide, fun v1 ss xs r sa ga H3 ok1 pa1 a1 b1 hP3 hB3 => ?_⟩
    refine ⟨_, rfl, 10, 29, rfl, rfl, ⟨by decide, by decide, by decide⟩, p, qc, ms, sa, ga, _, rfl, hP3, hm, by omega, by omega, by decide, by decide, fun v2 ss' xs' r' sb gb H4 ok2 pa2 a2 b2 hP4 hB4 => ?_⟩
    refine ⟨_, _, rfl, ?_⟩
    have pa1' := pa1.but hP3 hB4
    have t4 := Tabs_but (Tabs_but t2 hP2.p hB3) hP3.p hB4
    dsimp only [gName]
    -- near = ..
    refine ⟨_, rfl, EvP.list (H0 := H4) (Ex.refl _) (EvP.cons (EvP.varP (P := plainP ss' xs' r') rfl pa2) (EvP.cons (EvP.varP (P := plainP ss xs r) rfl pa1') (EvP.cons g_plain0 (EvP.cons (g_plainI rfl pa1') EvP.nil)))) (by show 4 ≤ 1000; decide) H4 (Ex.refl _) _ fun vl H5 e5 hvl => ?_⟩
    obtain ⟨l, vs, rfl, hl5, nl5, all⟩ := hvl
    have lp : l ≠ p := (ne_of_none hP4.p nl5).symm
    have lv : vs.length = 4 := all.length
    have hP5 : Pen H5 p qc ms sb gb := ⟨e5 _ _ hP4.p, e5 _ _ hP4.q⟩
    have t5 := t4.ext e5
    refine ⟨p, qc, ms, sb, gb, l, vs, rfl, hP5, hm, by omega, by omega, hl5, lp, by omega, by omega, fun v3 sc gc H6 hv3 a3 b3 hP6 hB6 => ?_⟩
    obtain ⟨ns3, nx3, nr3, ok3, pa3⟩ := near_ok ok1 ok2 all hv3
    have pb1 := (((plainP ss xs r).mono _ _ _ e5 pa1' : PlainAt _ v1 ss xs r)).but hP5 hB6
    have pb2 := (((plainP ss' xs' r').mono _ _ _ e5 pa2 : PlainAt _ v2 ss' xs' r')).but hP5 hB6
    have pb3 := pa3.but hP5 hB6
    have t6 := Tabs_but t5 hP5.p hB6
    dsimp only
    -- if not .. or not ..
    refine ⟨_, rfl, _, rfl, _, rfl, p, qc, ms, sc, gc, v1, v2, ss, xs, ss', xs', r, r', rfl, hP6, hm, by omega, by omega, pb1, pb2, ok1, ok2, t6, fun sd gd' H7 a4 b4 hP7 hB7 t7 => ⟨true, rfl, ?_⟩⟩
    have pc1 := pb1.butN hP6 hB7
    have pc3 := pb3.butN hP6 hB7
    refine ⟨_, rfl, _, rfl, _, rfl, p, qc, ms, sd, gd', v3, v1, ns3, nx3, ss, xs, nr3, r, rfl, hP7, hm, by omega, by omega, pc3, pc1, ok3, ok1, t7, fun se ge H8 a5 b5 hP8 hB8 t8 => ⟨true, rfl, ?_⟩⟩
    exact ⟨_, _, _, _, se, ge, rfl, hP8, by omega, by
      push_cast
      omega, t8⟩
  · rintro σ H2 ⟨o2, o3, o4, o5, s, g, rfl, hP2, s0, s1, t2⟩
    clear hP2 s0 s1 t2 t1 t0
    -- Table({..})
    refine fun p1 np1 => fun p2 np2 => ?_
    have h2a : upd (upd H2 p1 (.dK [])) p2 (.dK []) p2 = some (.dK []) := upd_same
    refine ⟨h2a, rowA, rfl, by decide, fun p3 np3 => ?_⟩
    have h3a : upd (upd (upd (upd H2 p1 (.dK [])) p2 (.dK [])) p2 (.dK (mergeK [] rowA))) p3 (.dK []) p3 = some (.dK []) := upd_same
    refine ⟨h3a, rowB', rfl, by decide, ?_⟩
    have mA : mergeK [] rowA = rowA := by decide +kernel
    have mB : mergeK [] rowB' = rowB' := rfl
    rw [mA, mB]
    rw [mA] at np3
    have n12 : p1 ≠ p2 := fun z => by
      rw [← z, upd_same] at np2
      cases np2
    have n13 : p1 ≠ p3 := fun z => by
      rw [← z, upd_ne n12, upd_ne n12, upd_same] at np3
      cases np3
    have n23 : p2 ≠ p3 := fun z => by
      rw [← z, upd_same] at np3
      cases np3
    refine ⟨by rw [upd_ne n13, upd_ne n13, upd_ne n12, upd_ne n12, upd_same], [(Sum.inr "a", .ref p2), (Sum.inr "b", .ref p3)], rfl, by show 2 ≤ 15; decide, ?_⟩
    rw [merge_two (by decide +kernel)]
    have hT : ∀ Hx : Hp, Hx p2 = some (.dK rowA) → Hx p3 = some (.dK rowB') → Hx p1 = some (.dK [((Sum.inr "a" : Key), V.ref p2), ((Sum.inr "b" : Key), V.ref p3)]) → TabAt Hx p1 (tZ p2 p3) := fun Hx q2 q3 q1 => ⟨q1, fun t ht => by
      simp only [tZ, List.mem_cons, List.not_mem_nil, or_false] at ht
      rcases ht with rfl | rfl
      · exact q2
      · exact q3⟩
    have hT' := hT (upd (upd (upd (upd (upd (upd H2 p1 (.dK [])) p2 (.dK [])) p2 (.dK rowA)) p3 (.dK [])) p3 (.dK rowB')) p1 (.dK [((Sum.inr "a" : Key), V.ref p2), ((Sum.inr "b" : Key), V.ref p3)])) (by rw [upd_ne n12.symm, upd_ne n23, upd_ne n23, upd_same]) (by rw [upd_ne n13.symm, upd_same]) upd_same
    generalize upd (upd (upd (upd (upd (upd H2 p1 (.dK [])) p2 (.dK [])) p2 (.dK rowA)) p3 (.dK [])) p3 (.dK rowB')) p1 (.dK [((Sum.inr "a" : Key), V.ref p2), ((Sum.inr "b" : Key), V.ref p3)]) = H3 at hT' ⊢
    clear hT h3a h2a np3 np2
    refine fun x dx nx ndx ne => ?_
    have e1 := Ex.new (o := .own x) ndx
    have nx2 : upd H3 dx (.own x) x = none := by
      rw [upd_ne ne.symm]
      exact nx
    have e2 := e1.trans (Ex.new (o := .ins C dx []) nx2)
    have hx : upd (upd H3 dx (.own x)) x (.ins C dx []) x = some (.ins C dx []) := upd_same
    generalize upd (upd H3 dx (.own x)) x (.ins C dx []) = H4 at e2 hx ⊢
    have uz := tZ_uses p2 p3
    refine ⟨x, p1, aE, dx, tZ p2 p3, [], rfl, hx, hT'.ex e2, tZ_ok n23, (by show 2 ≤ 6; decide), .inr (hE _), (fun n hn => nomatch hn), by decide, by rw [uz]; decide, fun H5 k5 ta => ⟨rfl, ?_⟩⟩
    have tn : srt ((tZ p2 p3).map (·.1)) = srt sZ := rfl
    rw [uz, tZ_worths, tn, ← srt_xZ] at ta
    have tw : TabW C sZ xZ (wk rZ) (.ref x) H5 := ⟨x, rZ, rfl, ta, rZ_good, fun _ => rfl⟩
    clear ta k5 hx e2 nx2 e1 nx ndx ne hT'
    -- Table.flat({..})
    refine ⟨rfl, fun d1 nd1 => ?_⟩
    refine ⟨by show 1 ≤ sizeLine; decide, fun l1 nl1 => ⟨by show 1 ≤ sizeLine; decide, fun l2 nl2 => ?_⟩⟩
    have n1 : l1 ≠ d1 := fun z => by
      rw [z, upd_same] at nl1
      cases nl1
    have n2 : l2 ≠ l1 := fun z => by
      rw [z, upd_same] at nl2
      cases nl2
    have n3 : l2 ≠ d1 := fun z => by
      rw [z, upd_ne n1.symm, upd_same] at nl2
      cases nl2
    refine ⟨by rw [upd_ne n3.symm, upd_ne n1.symm, upd_same], [(Sum.inr "a", .ref l1), (Sum.inr "c", .ref l2)], rfl, by show 2 ≤ 15; decide, ?_⟩
    rw [merge_two (by decide +kernel)]
    have eS : Ex H5 (upd (upd (upd (upd H5 d1 (.dK [])) l1 (.lst [.str "x"])) l2 (.lst [.str "x"])) d1 (.dK [((Sum.inr "a" : Key), V.ref l1), ((Sum.inr "c" : Key), V.ref l2)])) := fun b o hb => by
      have c1 := ne_of_none hb nd1
      rw [upd_ne c1]
      exact Ex.new nl2 _ _ (Ex.new nl1 _ _ (Ex.new nd1 _ _ hb))
    have hS : ScAt (upd (upd (upd (upd H5 d1 (.dK [])) l1 (.lst [.str "x"])) l2 (.lst [.str "x"])) d1 (.dK [((Sum.inr "a" : Key), V.ref l1), ((Sum.inr "c" : Key), V.ref l2)])) d1 (cW l1 l2) := ⟨upd_same, fun t ht => by
      simp only [cW, List.mem_cons, List.not_mem_nil, or_false] at ht
      rcases ht with rfl | rfl
      · show upd _ d1 _ l1 = _
        rw [upd_ne n1, upd_ne n2.symm, upd_same]
        rfl
      · show upd _ d1 _ l2 = _
        rw [upd_ne n3, upd_same]
        rfl⟩
    generalize upd (upd (upd (upd H5 d1 (.dK [])) l1 (.lst [.str "x"])) l2 (.lst [.str "x"])) d1 (.dK [((Sum.inr "a" : Key), V.ref l1), ((Sum.inr "c" : Key), V.ref l2)]) = H6 at eS hS ⊢
    have uw := cW_uses l1 l2
    refine ⟨d1, cW l1 l2, 1, rfl, hS, cW_ok l1 l2, by decide, by rw [uw]; decide, fun y H7 e7 tb => ?_⟩
    have tn2 : srt ((cW l1 l2).map (·.1)) = srt sW := rfl
    rw [uw, cW_worths, tn2, ← srt_xW] at tb
    have tw2 : TabW C sW xW (wk rW) (.ref y) H7 := ⟨y, rW, rfl, tb, rW_good, fun _ => rfl⟩
    have tw1 : TabW C sZ xZ (wk rZ) (.ref x) H7 := (tabW C sZ xZ (wk rZ)).mono _ _ _ (eS.trans e7) tw
    refine ⟨_, _, rfl, ?_⟩
    dsimp only [gName]
    have g6 : ∀ {σ : L2.St}, σ[6]? = some (some (.ref x)) → Gives (tVar 6) σ H7 (tabW C sZ xZ (wk rZ)) := fun h => EvP.varP h tw1
    have g7 : ∀ {σ : L2.St}, σ[7]? = some (some (.ref y)) → Gives (tVar 7) σ H7 (tabW C sW xW (wk rW)) := fun h => EvP.varP h tw2
    let tx : List Str := ["x y : a 6 4 ; b 0 2", "x y : a 1 0 ; b 0 0 ; c 0 0", "x y : a 3 2 ; b 0 1 ; c 1 0"]
    refine EvP.st_set (P := EvP.lst H7 (tx.map fun t => is (.str t))) (EvP.list (Ex.refl _)
      (EvP.cons (g_strO (CT := CT) (way := 0) (.inl rfl) rfl (g6 rfl) (g6 rfl) sZ_ok xZ_ok sZ_ok xZ_ok rZ_good rZ_good (A := sZ) (B := xZ) (by decide +kernel) (by decide +kernel) (by decide) (by decide) srt_sZ srt_xZ rZ_lt rZ_lt txt_A)
      (EvP.cons (g_strO (CT := CT) (way := 2) (.inr (.inr rfl)) rfl (g6 rfl) (g7 rfl) sZ_ok xZ_ok sW_ok xW_ok rZ_good rW_good (A := sV) (B := xZ) (by decide +kernel) (by decide +kernel) (by decide) (by decide) srt_abc srt_xZ rZ_lt rW_lt txt_N)
      (EvP.cons (g_strO (CT := CT) (way := 1) (.inr (.inl rfl)) rfl (g6 rfl) (g7 rfl) sZ_ok xZ_ok sW_ok xW_ok rZ_good rW_good (A := sV) (B := xZ) (by decide +kernel) (by decide +kernel) (by decide) (by decide) srt_abc srt_xZ rZ_lt rW_lt txt_O) EvP.nil))) (by show 3 ≤ 1000; decide)) fun v6 H8 e8 h8 => ?_
    refine EvP.st_ret (P := is (.bl true)) (g_op (P := EvP.lst H7 (tx.map fun t => is (.str t))) (R := EvP.lst H8 (tx.map fun t => is (.str t))) (EvP.varP rfl h8) (EvP.list (Ex.refl _) (EvP.cons EvP.cst (EvP.cons EvP.cst (EvP.cons EvP.cst EvP.nil))) (by show 3 ≤ 1000; decide)) fun y z H9 e9 hy hz Q' k' => ?_) fun v H10 e10 ev => ?_
    · have get : ∀ {H0 H : Hp} {v : V}, (EvP.lst H0 (tx.map fun t => is (.str t))).R v H → ∃ a, v = .ref a ∧ H a = some (.lst (tx.map V.str)) := fun {H0 H v} ⟨a, vs, ev, ha, _, hs⟩ => ⟨a, ev, by
        rw [ha]
        cases hs with
        | cons h1 t => cases t with
          | cons h2 t => cases t with
            | cons h3 t => cases t with
              | nil =>
                rw [show _ = V.str _ from h1, show _ = V.str _ from h2, show _ = V.str _ from h3]
                rfl⟩
      obtain ⟨a1, ey, q1⟩ := get hy
      obtain ⟨a2, ez, q2⟩ := get hz
      subst ey
      subst ez
      have ok : ∀ s ∈ tx, PyData.strOk s = true := by decide +kernel
      refine ⟨.list (tx.map PyData.str), .list (tx.map PyData.str), .lst (SqL.of q1) (Tb.dp_strs _), .lst (SqL.of q2) (Tb.dp_strs _), shaped_strsL ok, shaped_strsL ok, ?_⟩
      rw [eqv_strsL, decide_eq_true rfl]
      exact k' _ _ (Ex.refl _) rfl
    · rw [show v = V.bl true from ev]
      exact q _
end
end K06

set_option Elab.async false
set_option linter.all false
set_option maxRecDepth 100000
set_option maxHeartbeats 4000000
/-! The claim's call: nothing is being shown, and defs hold lambdas. -/
namespace XT
open PySem PySem.Spec PyProof.Rows L2 LamX
def eTab : Obj := { cls := .none, data := .fields #[] }
/-- what is tracked when the call begins: perhaps the script at a, and the tables -/
structure Begun (K : PySem.W.Frag) (cs : List (Addr × Addr)) (a : Addr) (ns : List Int) (H : Hp) : Prop where
  tb : ∀ p ∈ cs, H p.2 = some (.tbl #[])
  all : ∀ b, H b = none ∨ (∃ p ∈ cs, b = p.2) ∨ (b = a ∧ ∃ o xs, H b = some (.frz o (.lst xs)))
  off : ∀ b, H b ≠ none → K.lookup b = none
  seq : SqL K H a (ns.map V.int)
section
variable {P : Program} {w : World} {K : PySem.W.Frag} {mg mb : Str → Option Value} {k : Nat} {f a : Addr} {sp : Sp} {fd : FuncData} {x : Str} {s₁ : Shared} {vs : List Value} {ns : List Int} {cs : List (Addr × Addr)} {H : Hp}
/-- what stands at b is no list, no empty table: it is not tracked -/
theorem Begun.un (B : Begun K cs a ns H) (ht : ∀ p ∈ cs, s₁.heap.get? p.2 = some eTab) (ha : s₁.heap.get? a = some { cls := .type "list", data := .seq vs.toArray }) {b : Addr} {o : Obj} (e : s₁.heap.get? b = some o) (n1 : ∀ us n, o.data ≠ .seq us n) (n2 : o.data ≠ .fields #[]) : H b = none := by
  rcases B.all b with z | ⟨p, hp, rfl⟩ | ⟨rfl, _⟩
  · exact z
  · rw [ht p hp] at e
    cases e
    exact absurd rfl n2
  · rw [ha] at e
    cases e
    exact absurd rfl (n1 _ _)
theorem Begun.nss (B : Begun K cs a ns H) (ht : ∀ p ∈ cs, s₁.heap.get? p.2 = some eTab) (ha : s₁.heap.get? a = some { cls := .type "list", data := .seq vs.toArray }) {b : Addr} {m : Str → Option Value} : s₁.heap.Ns b m → (hidT s₁.heap H).Ns b m := fun ⟨o, es, ep, e, d, r⟩ =>
  ⟨o, es, ep, hidT_get e (B.un ht ha e (fun us n z => by rw [d] at z; cases z) (fun z => by rw [d] at z; cases z)), d, r⟩
theorem Begun.kin (B : Begun K cs a ns H) (kin : K.In s₁.heap) : K.In (hidT s₁.heap H) := fun b o e => hidT_get (kin b o e) (by
  cases q : H b with
  | none => rfl
  | some u =>
    have z := B.off b (by rw [q]; exact fun w => nomatch w)
    rw [z] at e
    cases e)
theorem Begun.tabB (B : Begun K cs a ns H) (ht : ∀ p ∈ cs, s₁.heap.get? p.2 = some eTab) (ha : s₁.heap.get? a = some { cls := .type "list", data := .seq vs.toArray }) (hns : s₁.heap.Ns mainGlobals mg) (hc : ∀ p ∈ cs, PySem.W.CodeHd s₁.heap p.1 p.2)
    (hbm : ∃ (bm : Addr) (ob : Obj), mg "__builtins__" = some (.ref bm) ∧ bm ≠ builtinsNs ∧ s₁.heap.get? bm = some ob ∧ ob.cls = .type "module" ∧ ob.dict = some builtinsNs ∧ ob.data = .plain) : ∀ p ∈ cs, TabB (hidT s₁.heap H) mg p.1 p.2 := fun p hp => by
  obtain ⟨og, eg, pg, hg, dg, _⟩ := hns
  have tp := ht p hp
  refine ⟨?_, ?_, fun z => ?_⟩
  · obtain ⟨o, us, file, tf, flags, tg, inF, text, tt, e1, r1, r2, r3, r4⟩ := hc p hp
    refine ⟨o, us, file, tf, flags, tg, inF, text, tt, hidT_get e1 (B.un ht ha e1 (fun us n z => ?_) fun z => ?_), r1, r2, r3, r4⟩
    · rw [r2] at z
      cases z
    · rw [r2] at z
      cases z
      simp at r3
  · obtain ⟨bm, ob, b1, b2, b3, b4, b5, b6⟩ := hbm
    refine ⟨bm, ob, b1, b2, fun q => ?_, fun q => ?_, hidT_get b3 (B.un ht ha b3 (fun us n z => ?_) fun z => ?_), b4, b5, b6⟩
    · rw [q, hg] at b3
      cases b3
      rw [dg] at b6
      cases b6
    · rw [q, tp] at b3
      cases b3
      cases b6
    · rw [b6] at z
      cases z
    · rw [b6] at z
      cases z
  · rw [z, tp] at hg
    cases hg
    cases dg
theorem run_begun (B : Begun K cs a ns H) (kin : K.In s₁.heap) (hns : s₁.heap.Ns mainGlobals mg) (hb : s₁.heap.Ns builtinsNs mb) (hbb : ∀ x : Str, x ≠ "__name__" → mb x = bootBuiltins x) (lim : s₁.heap.NoLimit) (gens : s₁.gens = #[])
    (ht : ∀ p ∈ cs, s₁.heap.get? p.2 = some eTab) (hc : ∀ p ∈ cs, PySem.W.CodeHd s₁.heap p.1 p.2) (hbm : ∃ (bm : Addr) (ob : Obj), mg "__builtins__" = some (.ref bm) ∧ bm ≠ builtinsNs ∧ s₁.heap.get? bm = some ob ∧ ob.cls = .type "module" ∧ ob.dict = some builtinsNs ∧ ob.data = .plain)
    (ha : s₁.heap.get? a = some { cls := .type "list", data := .seq vs.toArray }) (room : Room k callerA) (hok : HOk P w H s₁.heap)
    (F : ∀ base : Heap, K.In base → base.Ns mainGlobals mg → (∀ p ∈ cs, TabB base mg p.1 p.2) → XG.FnG P w K mg base CX0 k f fd [x] sp) (bind : ∀ (s : Shared) (u : Value), BindsTo s fd ⟨[u], []⟩ [(x, u)])
    (h : sp [.ref a] H (fun v _ => v = .bl true) fun _ _ _ => False) :
    codeAny (model P w) callerA (.call (.ref f) ⟨[.ref a], []⟩) (fun r s' => r = .ok (.ret (.bool true)) ∧ OldK s₁.heap s'.heap ∧ s'.os = s₁.os ∧ AllBare s'.gens) s₁ := by
  have kinI := B.kin kin
  obtain ⟨mc, lim1, lim2⟩ := lim
  have e0 : Env0 P w K mg (hidT s₁.heap H) callerA [] s₁ H := {
    frames := rfl
    mod := ⟨kinI, B.nss ht ha hns, ⟨mb, B.nss ht ha hb, hbb⟩, mc, B.nss ht ha lim1, lim2⟩
    bs := fun b o e => of_hidT e
    bsz := Nat.le_of_eq (hidT_size _ _)
    funs := trivial
    frf := fun b z => absurd (show b ∈ ([] : List Addr) from z) List.not_mem_nil
    hok := hok
    bare := .of_eq gens }
  have run := F _ kinI (B.nss ht ha hns) (B.tabB ht ha hns hc hbm) callerA [] s₁ H ⟨[.ref a], []⟩ [.ref a] [.ref a] _ _ rfl room e0 (bind s₁ (.ref a)) (.cons rfl .nil) h
  refine codeAny_mono run fun r s' z => ?_
  rcases r with e | (u | _ | _ | _)
  all_goals first | exact (show False from z).elim | skip
  obtain ⟨v, H', os, bare, un, hok', rv, q⟩ := z
  obtain rfl : v = .bl true := q
  cases (show _ = Value.bool true from rv)
  have grow : ∀ p ∈ cs, ∃ more : Array Value, s'.heap.get? p.2 = some { cls := .none, data := .fields more } := fun p hp => by
    obtain ⟨more, z⟩ := un.tbls p.2 #[] (B.tb p hp)
    exact ⟨_, hok' p.2 _ z⟩
  have stay : ∀ b o, (¬ ∃ p ∈ cs, b = p.2) → s₁.heap.get? b = some o → s'.heap.get? b = some o := fun b o no e => by
    cases q : H b with
    | none => exact un.keep b o e q (fun z => List.not_mem_nil (show b ∈ ([] : List Addr) from z)) List.not_mem_nil
    | some t =>
      rcases B.all b with z | z | ⟨_, ob, xs, z⟩
      · rw [q] at z
        cases z
      · exact absurd z no
      · have before := (hok b _ z).1
        rw [e] at before
        cases before
        exact (hok' b _ (un.frzs b _ _ z)).1
  refine ⟨rfl, ⟨fun b o e => ?_, fun b o e => ?_⟩, os, bare⟩
  · by_cases hm : ∃ p ∈ cs, b = p.2
    · obtain ⟨p, hp, rfl⟩ := hm
      obtain ⟨more, g⟩ := grow p hp
      have tp := ht p hp
      have e' := e
      rw [tp] at e'
      cases e'
      exact .inr (.inl ⟨((hc p hp).tab tp).isCodeTable, rfl, #[], more, rfl, by rw [Array.empty_append]; exact g⟩)
    · exact .inl (stay b o hm e)
  · by_cases hm : ∃ p ∈ cs, b = p.2
    · obtain ⟨p, hp, rfl⟩ := hm
      obtain ⟨more, g⟩ := grow p hp
      exact ⟨_, g⟩
    · exact ⟨o, stay b o hm e⟩
end
/-- what is known of the law's promise at the head's heap -/
def AtG (l : PySem.W.OpenLaw) (w : World) (K : PySem.W.Frag) (k n : Nat) (x : Str) (mg : Str → Option Value) (fa : Addr) (h : Heap) : Prop :=
  ∃ (fd : FuncData) (cs : List (Addr × Addr)) (sp : Sp), (∀ p ∈ cs, h.get? p.2 = some eTab) ∧ (∀ p ∈ cs, K.lookup p.2 = none) ∧ (∀ p ∈ cs, PySem.W.CodeHd h p.1 p.2) ∧ (∀ (s : Shared) (u : Value), BindsTo s fd ⟨[u], []⟩ [(x, u)]) ∧
    (∀ (H : Hp) (a : Addr) (ns : List Int), ns.length ≤ n → (∀ p ∈ cs, H p.2 = some (.tbl #[])) → SqL K H a (ns.map V.int) → sp [.ref a] H (fun v _ => v = .bl true) fun _ _ _ => False) ∧
    ∀ base : Heap, K.In base → base.Ns mainGlobals mg → (∀ p ∈ cs, TabB base mg p.1 p.2) → XG.FnG l.prog w K mg base CX0 k fa fd [x] sp
theorem walk_tabs {l : PySem.W.OpenLaw} {n k : Nat} {q : Program} {loose : List Str} {XP : (Str → Option Value) → Heap → Prop} {YP : World → Heap → Prop} {d : DefRec} {K : Params → PySem.W.Frag} {x : Str} (xs : List Str)
    (hn : l.most = some n) (hn2 : n ≤ sizeLine) (hdf : d.params.defaults = []) (room : Room k callerA) (hrec : ∀ y ∈ xs, ((recsOf q).any fun e => e.name == y) = true) (hY : ∀ (w : World) (h : Heap), YP w h → (K w.params).In h)
    (F : ∀ (w : World) (mg : Str → Option Value) (fa : Addr) (h : Heap), YP w h → (K w.params).In h → h.Ns mainGlobals mg → mg d.name = some (.ref fa) → (∀ y ∈ xs, ∀ fy, mg y = some (.ref fy) → OwnTab (K w.params) fy h) → AtG l w (K w.params) k n x mg fa h) :
    PySem.W.WalkO q loose XP YP l.row.toRowW d [] (fun f vs => PySem.call f vs) := by
  refine Att.attach_call hn hdf fun w s₀ s₁ mg mb fa o pm cd doc a vs ns G Y _ _ _ hmg obj hints short gens => ?_
  have kin := hY w _ Y
  have own : ∀ y ∈ xs, ∀ fy, mg y = some (.ref fy) → OwnTab (K w.params) fy s₁.heap := fun y hy fy hfy c P o1 fd1 e dd vs1 sl k1 k2 k3 k4 k5 => by
    obtain ⟨r, hm, hn1⟩ := List.any_eq_true.mp (hrec y hy)
    have hn2 : r.name = y := beq_iff_eq.mp hn1
    obtain ⟨a', o', fd', c', P', h1, h2, h3, h4, h5, ⟨oc, vc, g1, _, g3, g4⟩, hP⟩ := G.T.tab r hm
    rw [hn2, hfy] at h1
    cases h1
    have y1 := kin _ _ k1
    rw [y1] at h2
    cases h2
    rw [k2] at h3
    cases h3
    rw [k3] at h4
    cases h4
    have y2 := kin _ _ k4
    rw [y2] at g1
    cases g1
    cases g3
    rw [k5] at g4
    cases g4
    exact hP
  obtain ⟨fd, cs, sp, ht, off, hc, bind, hsp, hF⟩ := F w mg fa _ Y kin G.T.g hmg own
  have rv := vals_ints hints
  have lz : (ns.map V.int).length ≤ sizeLine := by rw [List.length_map]; exact Nat.le_trans short hn2
  have go : ∀ {H : Hp}, Begun (K w.params) cs a ns H → HOk l.prog w H s₁.heap → _ := fun {H} B hok =>
    run_begun (x := x) B kin G.T.g G.T.b G.T.builtins G.T.nolimit gens ht hc G.T.bmain obj room hok hF bind (hsp H a ns short B.tb B.seq)
  have aT : ¬ ∃ p ∈ cs, a = p.2 := fun ⟨p, hp, z⟩ => by
    have e := ht p hp
    rw [← z, obj] at e
    exact absurd (congrArg Obj.data (Option.some.inj e)) (fun z => nomatch (show Data.seq vs.toArray _ = Data.fields #[] from z))
  classical
  let Ht : Hp := fun b => if ∃ p ∈ cs, b = p.2 then some (.tbl #[]) else none
  have atT : ∀ p ∈ cs, Ht p.2 = some (.tbl #[]) := fun p hp => if_pos ⟨p, hp, rfl⟩
  cases hk : (K w.params).lookup a with
  | some u =>
    have e := kin a u hk
    rw [obj] at e
    cases e
    refine go (H := Ht) ⟨atT, fun b => ?_, fun b z => ?_, .inr ⟨_, vs.toArray, _, hk, rfl, rfl, rfl, by rw [List.size_toArray, hints.length]; exact Nat.le_trans short hn2, by simpa using rv⟩⟩ fun b t z => ?_
    · by_cases hb : ∃ p ∈ cs, b = p.2
      · exact .inr (.inl hb)
      · exact .inl (if_neg hb)
    · by_cases hb : ∃ p ∈ cs, b = p.2
      · obtain ⟨p, hp, rfl⟩ := hb
        exact off p hp
      · exact absurd (if_neg hb) z
    · by_cases hb : ∃ p ∈ cs, b = p.2
      · cases (if_pos hb).symm.trans z
        obtain ⟨p, hp, rfl⟩ := hb
        exact ht p hp
      · cases (if_neg hb).symm.trans z
  | none =>
    let fz : HO := .frz { cls := .type "list", data := .seq vs.toArray } (.lst (ns.map V.int))
    refine go (H := upd Ht a fz) ⟨fun p hp => ?_, fun b => ?_, fun b z => ?_, .inl (.inr ⟨_, upd_same⟩)⟩ fun b t z => ?_
    · rw [upd_ne (fun w => aT ⟨p, hp, w.symm⟩)]
      exact atT p hp
    · by_cases ha : b = a
      · exact .inr (.inr ⟨ha, _, _, by rw [ha]; exact upd_same⟩)
      · rw [upd_ne ha]
        by_cases hb : ∃ p ∈ cs, b = p.2
        · exact .inr (.inl hb)
        · exact .inl (if_neg hb)
    · by_cases ha : b = a
      · rw [ha]
        exact hk
      · rw [upd_ne ha] at z
        by_cases hb : ∃ p ∈ cs, b = p.2
        · obtain ⟨p, hp, rfl⟩ := hb
          exact off p hp
        · exact absurd (if_neg hb) z
    · by_cases ha : b = a
      · rw [ha, upd_same] at z
        cases z
        rw [ha]
        exact ⟨obj, lz, vs, _, rv, obj⟩
      · rw [upd_ne ha] at z
        by_cases hb : ∃ p ∈ cs, b = p.2
        · cases (if_pos hb).symm.trans z
          obtain ⟨p, hp, rfl⟩ := hb
          exact ht p hp
        · cases (if_neg hb).symm.trans z
end XT

set_option Elab.async false
set_option linter.all false
set_option maxRecDepth 100000
set_option maxHeartbeats 4000000
/-! The facts of the text, put together. -/
namespace K06
open PySem PySem.Spec PyProof.Rows L2 LamX XT
def errM : Stmt := match top 10 with
  | .ClassDef _ _ _ body _ _ _ _ _ _ _ => body.getD 0 (.Pass ⟨0, 0, 0, 0⟩)
  | _ => .Pass ⟨0, 0, 0, 0⟩
theorem scErr : FnScope ["self", "what", "most"] ["self", "what", "most"] (defScope errM) := ⟨rfl, rfl, rfl, by decide +kernel, rfl, by decide +kernel, by decide +kernel⟩
/-- what the class of errors tells -/
def excB (K : PySem.W.Frag) (CL fE : Addr) : Bool :=
  decide (PySem.W.findIn K (.ref CL) "__getattribute__" = some (some (.builtin "BaseException.__getattribute__"))) && (decide (PySem.W.findIn K (.ref CL) "__getattr__" = some none) &&
  (decide (PySem.W.subIn K (.ref CL) (.type "BaseException") = some true) && (PySem.W.hasDictIn K CL && (decide (PySem.W.typeIn K (.ref CL) = some (.type "type")) && (PySem.W.keepIn K (.ref CL) && (decide (PySem.W.findIn K (.ref CL) "__setattr__" = some (some (.builtin "object.__setattr__"))) &&
  (decide (PySem.W.typeIn K (.ref fE) = some (.type "function")) && (decide (PySem.W.findIn K (.ref CL) "what" = some none) && (decide (PySem.W.findIn K (.ref CL) "most" = some none) && decide (PySem.W.exmOne K (.ref CL) (.ref CL) = some true))))))))))
/-- what the signs ask of the class -/
def signB (K : PySem.W.Frag) (C : Addr) : Bool :=
  PySem.W.selfFirst K C && ((PySem.W.clsIn K C).any (fun cd => decide (cd.mro = [.ref C, .type "object"])) && (["add", "or", "and"].all (fun n => decide (PySem.W.findIn K (.ref C) (dunderI n) = some none) && decide (PySem.W.findIn K (.type "object") (dunderI n) = some none))))
theorem and2 {a b : Bool} (h : (a && b) = true) : a = true ∧ b = true := Bool.and_eq_true_iff.mp h
theorem all_mk {P : Program} {w : World} {K : PySem.W.Frag} {l : PySem.W.OpenLaw} {h : Heap} {mg : Str → Option Value} {fa : Addr} (hl : l.prog = P) (X : K.In h) (G : h.Ns mainGlobals mg) (hfa : mg "law" = some (.ref fa)) (own : ∀ y ∈ (["_law_right"] : List Str), ∀ fy, mg y = some (.ref fy) → OwnTab K fy h)
    {g0 : Addr} {Oc0 KV0 Dc0 Pm0 Cd0 Ct0 : Value} {Od0 An0 : Option Addr} {Sl0 : Array (Option Value)}
    {g1 : Addr} {Oc1 KV1 Dc1 Pm1 Cd1 Ct1 : Value} {Od1 An1 : Option Addr} {Sl1 : Array (Option Value)}
    {g2 : Addr} {Oc2 KV2 Dc2 Pm2 Cd2 Ct2 : Value} {Od2 An2 : Option Addr} {Sl2 : Array (Option Value)}
    {g3 : Addr} {Oc3 KV3 Dc3 Pm3 Cd3 Ct3 : Value} {Od3 An3 : Option Addr} {Sl3 : Array (Option Value)}
    {g4 : Addr} {Oc4 KV4 Dc4 Pm4 Cd4 Ct4 : Value} {Od4 An4 : Option Addr} {Sl4 : Array (Option Value)}
    {g5 : Addr} {Oc5 KV5 Dc5 Pm5 Cd5 Ct5 : Value} {Od5 An5 : Option Addr} {Sl5 : Array (Option Value)}
    {g6 : Addr} {Oc6 KV6 Dc6 Pm6 Cd6 Ct6 : Value} {Od6 An6 : Option Addr} {Sl6 : Array (Option Value)}
    {g7 : Addr} {Oc7 KV7 Dc7 Pm7 Cd7 Ct7 : Value} {Od7 An7 : Option Addr} {Sl7 : Array (Option Value)}
    {g8 : Addr} {Oc8 KV8 Dc8 Pm8 Cd8 Ct8 : Value} {Od8 An8 : Option Addr} {Sl8 : Array (Option Value)}
    {g9 : Addr} {Oc9 KV9 Dc9 Pm9 Cd9 Ct9 : Value} {Od9 An9 : Option Addr} {Sl9 : Array (Option Value)}
    {g10 : Addr} {Oc10 KV10 Dc10 Pm10 Cd10 Ct10 : Value} {Od10 An10 : Option Addr} {Sl10 : Array (Option Value)}
    {g11 : Addr} {Oc11 KV11 Dc11 Pm11 Cd11 Ct11 : Value} {Od11 An11 : Option Addr} {Sl11 : Array (Option Value)}
    {g12 : Addr} {Oc12 KV12 Dc12 Pm12 Cd12 Ct12 : Value} {Od12 An12 : Option Addr} {Sl12 : Array (Option Value)}
    {g13 : Addr} {Oc13 KV13 Dc13 Pm13 Cd13 Ct13 : Value} {Od13 An13 : Option Addr} {Sl13 : Array (Option Value)}
    {g14 : Addr} {Oc14 KV14 Dc14 Pm14 Cd14 Ct14 : Value} {Od14 An14 : Option Addr} {Sl14 : Array (Option Value)}
    {g15 : Addr} {Oc15 KV15 Dc15 Pm15 Cd15 Ct15 : Value} {Od15 An15 : Option Addr} {Sl15 : Array (Option Value)}
    {g16 : Addr} {Oc16 KV16 Dc16 Pm16 Cd16 Ct16 : Value} {Od16 An16 : Option Addr} {Sl16 : Array (Option Value)}
    {g17 : Addr} {Oc17 KV17 Dc17 Pm17 Cd17 Ct17 : Value} {Od17 An17 : Option Addr} {Sl17 : Array (Option Value)}
    {g18 : Addr} {Oc18 KV18 Dc18 Pm18 Cd18 Ct18 : Value} {Od18 An18 : Option Addr} {Sl18 : Array (Option Value)}
    {g19 : Addr} {Oc19 KV19 Dc19 Pm19 Cd19 Ct19 : Value} {Od19 An19 : Option Addr} {Sl19 : Array (Option Value)}
    {g20 : Addr} {Oc20 KV20 Dc20 Pm20 Cd20 Ct20 : Value} {Od20 An20 : Option Addr} {Sl20 : Array (Option Value)}
    {g21 : Addr} {Oc21 KV21 Dc21 Pm21 Cd21 Ct21 : Value} {Od21 An21 : Option Addr} {Sl21 : Array (Option Value)}
    {g22 : Addr} {Oc22 KV22 Dc22 Pm22 Cd22 Ct22 : Value} {Od22 An22 : Option Addr} {Sl22 : Array (Option Value)}
    {g23 : Addr} {Oc23 KV23 Dc23 Pm23 Cd23 Ct23 : Value} {Od23 An23 : Option Addr} {Sl23 : Array (Option Value)}
    {g24 : Addr} {Oc24 KV24 Dc24 Pm24 Cd24 Ct24 : Value} {Od24 An24 : Option Addr} {Sl24 : Array (Option Value)}
    {g25 : Addr} {Oc25 KV25 Dc25 Pm25 Cd25 Ct25 : Value} {Od25 An25 : Option Addr} {Sl25 : Array (Option Value)}
    {gR cR PR : Addr} {OcR KVR DcR PmR CtR eR : Value} {OdR AnR ddR : Option Addr} {SlR slR : Array (Option Value)} {vsR : Array Value}
    {gI : Addr} {OcI KVI DcI PmI CdI CtI : Value} {OdI AnI : Option Addr} {SlI : Array (Option Value)} {TI : Addr} {cTI : Value} {dTI : Option Addr} {nTI : Nat} {sTI : Array (Option Value)}
    {tL t1 t2 t6 : Tok} {aN : Addr} {dN : Option Addr} {nN : Nat} {sN : Array (Option Value)}
    {CX_ fE : Addr} {nmE qE : Str} {NE : Addr} {bsE bmE : List Value} {snE : List Str} {subE : List Value} {abE : Bool} {colE : Option Bool} {ddE : Option Addr} {m0E m1E m2E m3E m5E : Option Value} {ocE kVE dcE pmE cdE ctE : Value} {odE anE : Option Addr} {slE : Array (Option Value)}
    {C fi aE TE : Addr} {oci kVi dci pmi cdi cti : Value} {odi ani dE : Option Addr} {sli sE : Array (Option Value)} {nE : Nat} {cTE : Value} {dTE : Option Addr} {nTE : Nat} {sTE : Array (Option Value)}
    {f0 : Addr} {oc0 kV0 dc0 pm0 cd0 ct0 : Value} {od0 an0 : Option Addr} {sl0 : Array (Option Value)}
    {f1 : Addr} {oc1 kV1 dc1 pm1 cd1 ct1 : Value} {od1 an1 : Option Addr} {sl1 : Array (Option Value)}
    {f2 : Addr} {oc2 kV2 dc2 pm2 cd2 ct2 : Value} {od2 an2 : Option Addr} {sl2 : Array (Option Value)}
    {f3 : Addr} {oc3 kV3 dc3 pm3 cd3 ct3 : Value} {od3 an3 : Option Addr} {sl3 : Array (Option Value)}
    {f4 : Addr} {oc4 kV4 dc4 pm4 cd4 ct4 : Value} {od4 an4 : Option Addr} {sl4 : Array (Option Value)}
    {f5 : Addr} {oc5 kV5 dc5 pm5 cd5 ct5 : Value} {od5 an5 : Option Addr} {sl5 : Array (Option Value)}
    {f6 : Addr} {oc6 kV6 dc6 pm6 cd6 ct6 : Value} {od6 an6 : Option Addr} {sl6 : Array (Option Value)}
    {pF gF TF : Addr} {rF : List Value} {ocF kVF dcF pmF cdF ctF : Value} {odF anF : Option Addr} {slF : Array (Option Value)} {tF : Tok} {cTF : Value} {dTF : Option Addr} {nTF : Nat} {sTF : Array (Option Value)}
    (A0 : PySem.W.nsIn K mainGlobals "is_amount" = some (some (.ref g0)))
    (L0 : K.lookup g0 = some ⟨Oc0, Od0, .func (PySem.W.fnOf "is_amount" "is_amount" (defArgs Fk.sAmount) (defBody Fk.sAmount) (defScope Fk.sAmount) .none KV0 Dc0 Pm0 An0 Cd0 Ct0), Sl0⟩)
    (D0 : PySem.W.codeIn K Cd0 "is_amount" = true)
    (E0 : PySem.W.keepIn K (.ref g0) = true)
    (A1 : PySem.W.nsIn K mainGlobals "is_name" = some (some (.ref g1)))
    (L1 : K.lookup g1 = some ⟨Oc1, Od1, .func (PySem.W.fnOf "is_name" "is_name" (defArgs Fk.sName) (defBody Fk.sName) (defScope Fk.sName) .none KV1 Dc1 Pm1 An1 Cd1 Ct1), Sl1⟩)
    (D1 : PySem.W.codeIn K Cd1 "is_name" = true)
    (E1 : PySem.W.keepIn K (.ref g1) = true)
    (A2 : PySem.W.nsIn K mainGlobals "check_names" = some (some (.ref g2)))
    (L2 : K.lookup g2 = some ⟨Oc2, Od2, .func (PySem.W.fnOf "check_names" "check_names" (defArgs Fk.sNames) (defBody Fk.sNames) (defScope Fk.sNames) .none KV2 Dc2 Pm2 An2 Cd2 Ct2), Sl2⟩)
    (D2 : PySem.W.codeIn K Cd2 "check_names" = true)
    (E2 : PySem.W.keepIn K (.ref g2) = true)
    (A3 : PySem.W.nsIn K mainGlobals "number_text" = some (some (.ref g3)))
    (L3 : K.lookup g3 = some ⟨Oc3, Od3, .func (PySem.W.fnOf "number_text" "number_text" (defArgs Fk.sNum) (defBody Fk.sNum) (defScope Fk.sNum) .none KV3 Dc3 Pm3 An3 Cd3 Ct3), Sl3⟩)
    (D3 : PySem.W.codeIn K Cd3 "number_text" = true)
    (E3 : PySem.W.keepIn K (.ref g3) = true)
    (A4 : PySem.W.nsIn K mainGlobals "check_worths" = some (some (.ref g4)))
    (L4 : K.lookup g4 = some ⟨Oc4, Od4, .func (PySem.W.fnOf "check_worths" "check_worths" (defArgs Fk.sAmounts) (defBody Fk.sAmounts) (defScope Fk.sAmounts) .none KV4 Dc4 Pm4 An4 Cd4 Ct4), Sl4⟩)
    (D4 : PySem.W.codeIn K Cd4 "check_worths" = true)
    (E4 : PySem.W.keepIn K (.ref g4) = true)
    (A5 : PySem.W.nsIn K mainGlobals "is_pair" = some (some (.ref g5)))
    (L5 : K.lookup g5 = some ⟨Oc5, Od5, .func (PySem.W.fnOf "is_pair" "is_pair" (defArgs Fk.sPair) (defBody Fk.sPair) (defScope Fk.sPair) .none KV5 Dc5 Pm5 An5 Cd5 Ct5), Sl5⟩)
    (D5 : PySem.W.codeIn K Cd5 "is_pair" = true)
    (E5 : PySem.W.keepIn K (.ref g5) = true)
    (A6 : PySem.W.nsIn K mainGlobals "is_row" = some (some (.ref g6)))
    (L6 : K.lookup g6 = some ⟨Oc6, Od6, .func (PySem.W.fnOf "is_row" "is_row" (defArgs Fk.sRow) (defBody Fk.sRow) (defScope Fk.sRow) .none KV6 Dc6 Pm6 An6 Cd6 Ct6), Sl6⟩)
    (D6 : PySem.W.codeIn K Cd6 "is_row" = true)
    (E6 : PySem.W.keepIn K (.ref g6) = true)
    (A7 : PySem.W.nsIn K mainGlobals "ascending" = some (some (.ref g7)))
    (L7 : K.lookup g7 = some ⟨Oc7, Od7, .func (PySem.W.fnOf "ascending" "ascending" (defArgs Tb.sAsc) (defBody Tb.sAsc) (defScope Tb.sAsc) .none KV7 Dc7 Pm7 An7 Cd7 Ct7), Sl7⟩)
    (D7 : PySem.W.codeIn K Cd7 "ascending" = true)
    (E7 : PySem.W.keepIn K (.ref g7) = true)
    (A8 : PySem.W.nsIn K mainGlobals "unlike" = some (some (.ref g8)))
    (L8 : K.lookup g8 = some ⟨Oc8, Od8, .func (PySem.W.fnOf "unlike" "unlike" (defArgs Tb.sUnlike) (defBody Tb.sUnlike) (defScope Tb.sUnlike) .none KV8 Dc8 Pm8 An8 Cd8 Ct8), Sl8⟩)
    (D8 : PySem.W.codeIn K Cd8 "unlike" = true)
    (E8 : PySem.W.keepIn K (.ref g8) = true)
    (A9 : PySem.W.nsIn K mainGlobals "joined" = some (some (.ref g9)))
    (L9 : K.lookup g9 = some ⟨Oc9, Od9, .func (PySem.W.fnOf "joined" "joined" (defArgs Tb.sJoined) (defBody Tb.sJoined) (defScope Tb.sJoined) .none KV9 Dc9 Pm9 An9 Cd9 Ct9), Sl9⟩)
    (D9 : PySem.W.codeIn K Cd9 "joined" = true)
    (E9 : PySem.W.keepIn K (.ref g9) = true)
    (A10 : PySem.W.nsIn K mainGlobals "check_table" = some (some (.ref g10)))
    (L10 : K.lookup g10 = some ⟨Oc10, Od10, .func (PySem.W.fnOf "check_table" "check_table" (defArgs Tb.sCheck) (defBody Tb.sCheck) (defScope Tb.sCheck) .none KV10 Dc10 Pm10 An10 Cd10 Ct10), Sl10⟩)
    (D10 : PySem.W.codeIn K Cd10 "check_table" = true)
    (E10 : PySem.W.keepIn K (.ref g10) = true)
    (A11 : PySem.W.nsIn K mainGlobals "check_other" = some (some (.ref g11)))
    (L11 : K.lookup g11 = some ⟨Oc11, Od11, .func (PySem.W.fnOf "check_other" "check_other" (defArgs Tb.sTOther) (defBody Tb.sTOther) (defScope Tb.sTOther) .none KV11 Dc11 Pm11 An11 Cd11 Ct11), Sl11⟩)
    (D11 : PySem.W.codeIn K Cd11 "check_other" = true)
    (E11 : PySem.W.keepIn K (.ref g11) = true)
    (A12 : PySem.W.nsIn K mainGlobals "row_text" = some (some (.ref g12)))
    (L12 : K.lookup g12 = some ⟨Oc12, Od12, .func (PySem.W.fnOf "row_text" "row_text" (defArgs Tb.sRowT) (defBody Tb.sRowT) (defScope Tb.sRowT) .none KV12 Dc12 Pm12 An12 Cd12 Ct12), Sl12⟩)
    (D12 : PySem.W.codeIn K Cd12 "row_text" = true)
    (E12 : PySem.W.keepIn K (.ref g12) = true)
    (A13 : PySem.W.nsIn K mainGlobals "_law_pen" = some (some (.ref g13)))
    (L13 : K.lookup g13 = some ⟨Oc13, Od13, .func (PySem.W.fnOf "_law_pen" "_law_pen" (defArgs K06.sPen) (defBody K06.sPen) (defScope K06.sPen) .none KV13 Dc13 Pm13 An13 Cd13 Ct13), Sl13⟩)
    (D13 : PySem.W.codeIn K Cd13 "_law_pen" = true)
    (E13 : PySem.W.keepIn K (.ref g13) = true)
    (A14 : PySem.W.nsIn K mainGlobals "_law_draw" = some (some (.ref g14)))
    (L14 : K.lookup g14 = some ⟨Oc14, Od14, .func (PySem.W.fnOf "_law_draw" "_law_draw" (defArgs K06.sDraw) (defBody K06.sDraw) (defScope K06.sDraw) .none KV14 Dc14 Pm14 An14 Cd14 Ct14), Sl14⟩)
    (D14 : PySem.W.codeIn K Cd14 "_law_draw" = true)
    (E14 : PySem.W.keepIn K (.ref g14) = true)
    (A15 : PySem.W.nsIn K mainGlobals "_law_pick" = some (some (.ref g15)))
    (L15 : K.lookup g15 = some ⟨Oc15, Od15, .func (PySem.W.fnOf "_law_pick" "_law_pick" (defArgs K06.sPick) (defBody K06.sPick) (defScope K06.sPick) .none KV15 Dc15 Pm15 An15 Cd15 Ct15), Sl15⟩)
    (D15 : PySem.W.codeIn K Cd15 "_law_pick" = true)
    (E15 : PySem.W.keepIn K (.ref g15) = true)
    (A16 : PySem.W.nsIn K mainGlobals "_law_plain" = some (some (.ref g16)))
    (L16 : K.lookup g16 = some ⟨Oc16, Od16, .func (PySem.W.fnOf "_law_plain" "_law_plain" (defArgs K06.sPlain) (defBody K06.sPlain) (defScope K06.sPlain) .none KV16 Dc16 Pm16 An16 Cd16 Ct16), Sl16⟩)
    (D16 : PySem.W.codeIn K Cd16 "_law_plain" = true)
    (E16 : PySem.W.keepIn K (.ref g16) = true)
    (A17 : PySem.W.nsIn K mainGlobals "_law_names" = some (some (.ref g17)))
    (L17 : K.lookup g17 = some ⟨Oc17, Od17, .func (PySem.W.fnOf "_law_names" "_law_names" (defArgs K06.sNms) (defBody K06.sNms) (defScope K06.sNms) .none KV17 Dc17 Pm17 An17 Cd17 Ct17), Sl17⟩)
    (D17 : PySem.W.codeIn K Cd17 "_law_names" = true)
    (E17 : PySem.W.keepIn K (.ref g17) = true)
    (A18 : PySem.W.nsIn K mainGlobals "_law_rows" = some (some (.ref g18)))
    (L18 : K.lookup g18 = some ⟨Oc18, Od18, .func (PySem.W.fnOf "_law_rows" "_law_rows" (defArgs K06.sRows) (defBody K06.sRows) (defScope K06.sRows) .none KV18 Dc18 Pm18 An18 Cd18 Ct18), Sl18⟩)
    (D18 : PySem.W.codeIn K Cd18 "_law_rows" = true)
    (E18 : PySem.W.keepIn K (.ref g18) = true)
    (A19 : PySem.W.nsIn K mainGlobals "_law_made" = some (some (.ref g19)))
    (L19 : K.lookup g19 = some ⟨Oc19, Od19, .func (PySem.W.fnOf "_law_made" "_law_made" (defArgs K06.sMade) (defBody K06.sMade) (defScope K06.sMade) .none KV19 Dc19 Pm19 An19 Cd19 Ct19), Sl19⟩)
    (D19 : PySem.W.codeIn K Cd19 "_law_made" = true)
    (E19 : PySem.W.keepIn K (.ref g19) = true)
    (A20 : PySem.W.nsIn K mainGlobals "_law_is" = some (some (.ref g20)))
    (L20 : K.lookup g20 = some ⟨Oc20, Od20, .func (PySem.W.fnOf "_law_is" "_law_is" (defArgs K06.sIs5) (defBody K06.sIs5) (defScope K06.sIs5) .none KV20 Dc20 Pm20 An20 Cd20 Ct20), Sl20⟩)
    (D20 : PySem.W.codeIn K Cd20 "_law_is" = true)
    (E20 : PySem.W.keepIn K (.ref g20) = true)
    (A21 : PySem.W.nsIn K mainGlobals "_law_joint" = some (some (.ref g21)))
    (L21 : K.lookup g21 = some ⟨Oc21, Od21, .func (PySem.W.fnOf "_law_joint" "_law_joint" (defArgs K06.sJoint) (defBody K06.sJoint) (defScope K06.sJoint) .none KV21 Dc21 Pm21 An21 Cd21 Ct21), Sl21⟩)
    (D21 : PySem.W.codeIn K Cd21 "_law_joint" = true)
    (E21 : PySem.W.keepIn K (.ref g21) = true)
    (A22 : PySem.W.nsIn K mainGlobals "_law_signs" = some (some (.ref g22)))
    (L22 : K.lookup g22 = some ⟨Oc22, Od22, .func (PySem.W.fnOf "_law_signs" "_law_signs" (defArgs K06.sSigns) (defBody K06.sSigns) (defScope K06.sSigns) .none KV22 Dc22 Pm22 An22 Cd22 Ct22), Sl22⟩)
    (D22 : PySem.W.codeIn K Cd22 "_law_signs" = true)
    (E22 : PySem.W.keepIn K (.ref g22) = true)
    (A23 : PySem.W.nsIn K mainGlobals "_law_bound" = some (some (.ref g23)))
    (L23 : K.lookup g23 = some ⟨Oc23, Od23, .func (PySem.W.fnOf "_law_bound" "_law_bound" (defArgs K06.sBound) (defBody K06.sBound) (defScope K06.sBound) .none KV23 Dc23 Pm23 An23 Cd23 Ct23), Sl23⟩)
    (D23 : PySem.W.codeIn K Cd23 "_law_bound" = true)
    (E23 : PySem.W.keepIn K (.ref g23) = true)
    (A24 : PySem.W.nsIn K mainGlobals "_law_what" = some (some (.ref g24)))
    (L24 : K.lookup g24 = some ⟨Oc24, Od24, .func (PySem.W.fnOf "_law_what" "_law_what" (defArgs K06.sWhat) (defBody K06.sWhat) (defScope K06.sWhat) .none KV24 Dc24 Pm24 An24 Cd24 Ct24), Sl24⟩)
    (D24 : PySem.W.codeIn K Cd24 "_law_what" = true)
    (E24 : PySem.W.keepIn K (.ref g24) = true)
    (A25 : PySem.W.nsIn K mainGlobals "law" = some (some (.ref g25)))
    (L25 : K.lookup g25 = some ⟨Oc25, Od25, .func (PySem.W.fnOf "law" "law" (defArgs K06.sLaw4) (defBody K06.sLaw4) (defScope K06.sLaw4) .none KV25 Dc25 Pm25 An25 Cd25 Ct25), Sl25⟩)
    (D25 : PySem.W.codeIn K Cd25 "law" = true)
    (E25 : PySem.W.keepIn K (.ref g25) = true)
    (AR : PySem.W.nsIn K mainGlobals "_law_right" = some (some (.ref gR)))
    (LR : K.lookup gR = some ⟨OcR, OdR, .func (PySem.W.fnOf "_law_right" "_law_right" (defArgs K06.sRight4) (defBody K06.sRight4) (defScope K06.sRight4) .none KVR DcR PmR AnR (.ref cR) CtR), SlR⟩)
    (DR : PySem.W.codeIn K (.ref cR) "_law_right" = true)
    (ER : PySem.W.keepIn K (.ref gR) = true)
    (CR_ : K.lookup cR = some ⟨eR, ddR, .fields vsR, slR⟩)
    (VR : vsR[11]? = some (.ref PR))
    (WR : PySem.W.codeHdIn K cR PR = true)
    (NR : (K.lookup PR).isNone = true)
    (AI : PySem.W.nsIn K mainGlobals "is_integer" = some (some (.ref gI)))
    (LI : K.lookup gI = some ⟨OcI, OdI, .func (PySem.W.fnOf "is_integer" "is_integer" (defArgs Fk.sInteger) (defBody Fk.sInteger) (defScope Fk.sInteger) (.ref TI) KVI DcI PmI AnI CdI CtI), SlI⟩)
    (DI : PySem.W.codeIn K CdI "is_integer" = true)
    (EI : PySem.W.keepIn K (.ref gI) = true)
    (TIl : K.lookup TI = some ⟨cTI, dTI, .seq #[Value.none] nTI, sTI⟩)
    (ALN : PySem.W.nsIn K mainGlobals "LONGEST_NAME" = some (some (.int 8 tL)))
    (AMN : PySem.W.nsIn K mainGlobals "MOST_NAMES" = some (some (.int 6 t6)))
    (ANN : PySem.W.nsIn K mainGlobals "NO_NAMES" = some (some (.ref aN)))
    (LN : K.lookup aN = some ⟨.type "tuple", dN, .seq #[Value.str "none" t1, Value.str "self" t2] nN, sN⟩)
    (AK : PySem.W.nsIn K mainGlobals "TooMany" = some (some (.ref CX_)))
    (xL : K.lookup CX_ = some (excClassObj nmE qE CX_ NE bsE bmE true snE subE abE colE ddE m0E m1E m2E m3E m5E "ValueError.__new__"))
    (hmE : PySem.HandSPX.refsVE bmE = true)
    (aE_ : PySem.W.findIn K (.ref CX_) "__init__" = some (some (.ref fE)))
    (lE : K.lookup fE = some ⟨ocE, odE, .func (PySem.W.fnOf "__init__" "TooMany.__init__" (defArgs errM) (defBody errM) (defScope errM) .none kVE dcE pmE anE cdE ctE), slE⟩)
    (cE : PySem.W.codeIn K cdE "TooMany.__init__" = true)
    (kE : PySem.W.keepIn K (.ref fE) = true)
    (bE : excB K CX_ fE = true)
    (AC : PySem.W.nsIn K mainGlobals "Table" = some (some (.ref C)))
    (ai : PySem.W.findIn K (.ref C) "__init__" = some (some (.ref fi)))
    (li : K.lookup fi = some ⟨oci, odi, .func (PySem.W.fnOf "__init__" "Table.__init__" (defArgs (Tb.tmeth 0)) (defBody (Tb.tmeth 0)) (defScope (Tb.tmeth 0)) (.ref TE) kVi dci pmi ani cdi cti), sli⟩)
    (ci : PySem.W.codeIn K cdi "Table.__init__" = true)
    (ki : PySem.W.keepIn K (.ref fi) = true)
    (ni : PySem.W.isFn K (.ref fi) = true)
    (TEl : K.lookup TE = some ⟨cTE, dTE, .seq #[Value.ref aE] nTE, sTE⟩)
    (El : K.lookup aE = some ⟨.type "tuple", dE, .seq #[] nE, sE⟩)
    (a0 : PySem.W.findIn K (.ref C) "__len__" = some (some (.ref f0)))
    (l0 : K.lookup f0 = some ⟨oc0, od0, .func (PySem.W.fnOf "__len__" "Table.__len__" (defArgs (Tb.tmeth 1)) (defBody (Tb.tmeth 1)) (defScope (Tb.tmeth 1)) .none kV0 dc0 pm0 an0 cd0 ct0), sl0⟩)
    (c0 : PySem.W.codeIn K cd0 "Table.__len__" = true)
    (k0 : PySem.W.keepIn K (.ref f0) = true)
    (n0 : PySem.W.isFn K (.ref f0) = true)
    (a1 : PySem.W.findIn K (.ref C) "__getitem__" = some (some (.ref f1)))
    (l1 : K.lookup f1 = some ⟨oc1, od1, .func (PySem.W.fnOf "__getitem__" "Table.__getitem__" (defArgs (Tb.tmeth 4)) (defBody (Tb.tmeth 4)) (defScope (Tb.tmeth 4)) .none kV1 dc1 pm1 an1 cd1 ct1), sl1⟩)
    (c1 : PySem.W.codeIn K cd1 "Table.__getitem__" = true)
    (k1 : PySem.W.keepIn K (.ref f1) = true)
    (n1 : PySem.W.isFn K (.ref f1) = true)
    (i1 : PySem.W.fnIn K f1 = true)
    (a2 : PySem.W.findIn K (.ref C) "__add__" = some (some (.ref f2)))
    (l2 : K.lookup f2 = some ⟨oc2, od2, .func (PySem.W.fnOf "__add__" "Table.__add__" (defArgs (Tb.tmeth 7)) (defBody (Tb.tmeth 7)) (defScope (Tb.tmeth 7)) .none kV2 dc2 pm2 an2 cd2 ct2), sl2⟩)
    (c2 : PySem.W.codeIn K cd2 "Table.__add__" = true)
    (k2 : PySem.W.keepIn K (.ref f2) = true)
    (n2 : PySem.W.isFn K (.ref f2) = true)
    (a3 : PySem.W.findIn K (.ref C) "__or__" = some (some (.ref f3)))
    (l3 : K.lookup f3 = some ⟨oc3, od3, .func (PySem.W.fnOf "__or__" "Table.__or__" (defArgs (Tb.tmeth 8)) (defBody (Tb.tmeth 8)) (defScope (Tb.tmeth 8)) .none kV3 dc3 pm3 an3 cd3 ct3), sl3⟩)
    (c3 : PySem.W.codeIn K cd3 "Table.__or__" = true)
    (k3 : PySem.W.keepIn K (.ref f3) = true)
    (n3 : PySem.W.isFn K (.ref f3) = true)
    (a4 : PySem.W.findIn K (.ref C) "__and__" = some (some (.ref f4)))
    (l4 : K.lookup f4 = some ⟨oc4, od4, .func (PySem.W.fnOf "__and__" "Table.__and__" (defArgs (Tb.tmeth 9)) (defBody (Tb.tmeth 9)) (defScope (Tb.tmeth 9)) .none kV4 dc4 pm4 an4 cd4 ct4), sl4⟩)
    (c4 : PySem.W.codeIn K cd4 "Table.__and__" = true)
    (k4 : PySem.W.keepIn K (.ref f4) = true)
    (n4 : PySem.W.isFn K (.ref f4) = true)
    (a5 : PySem.W.findIn K (.ref C) "__eq__" = some (some (.ref f5)))
    (l5 : K.lookup f5 = some ⟨oc5, od5, .func (PySem.W.fnOf "__eq__" "Table.__eq__" (defArgs (Tb.tmeth 19)) (defBody (Tb.tmeth 19)) (defScope (Tb.tmeth 19)) .none kV5 dc5 pm5 an5 cd5 ct5), sl5⟩)
    (c5 : PySem.W.codeIn K cd5 "Table.__eq__" = true)
    (k5 : PySem.W.keepIn K (.ref f5) = true)
    (n5 : PySem.W.isFn K (.ref f5) = true)
    (a6 : PySem.W.findIn K (.ref C) "__str__" = some (some (.ref f6)))
    (l6 : K.lookup f6 = some ⟨oc6, od6, .func (PySem.W.fnOf "__str__" "Table.__str__" (defArgs (Tb.tmeth 24)) (defBody (Tb.tmeth 24)) (defScope (Tb.tmeth 24)) .none kV6 dc6 pm6 an6 cd6 ct6), sl6⟩)
    (c6 : PySem.W.codeIn K cd6 "Table.__str__" = true)
    (k6 : PySem.W.keepIn K (.ref f6) = true)
    (n6 : PySem.W.isFn K (.ref f6) = true)
    (aF : PySem.W.findCls K (.ref C) (.type "type") "flat" = some (.get (.builtin "staticmethod.__get__") (.ref pF) .none (.ref C)))
    (rcF : PySem.W.recIn K pF "staticmethod" = some (.ref gF :: rF))
    (lF : K.lookup gF = some ⟨ocF, odF, .func (PySem.W.fnOf "flat" "Table.flat" (defArgs K06.sFlat) (defBody K06.sFlat) (defScope K06.sFlat) (.ref TF) kVF dcF pmF anF cdF ctF), slF⟩)
    (cF : PySem.W.codeIn K cdF "Table.flat" = true)
    (kF : PySem.W.keepIn K (.ref gF) = true)
    (TFl : K.lookup TF = some ⟨cTF, dTF, .seq #[Value.int 1 tF] nTF, sTF⟩)
    (q_rd : PySem.W.readsIn K C (.type "type") = true)
    (q_ga : PySem.W.specialIn K (.ref C) "__getattribute__" = some (some (.builtin "type.__getattribute__")))
    (q_pg : PySem.W.plainGet K C Str.empty = true)
    (q_hd : PySem.W.hasDictIn K C = true)
    (q_po : PySem.W.plainOver K C = true)
    (q_sa : PySem.W.findIn K (.ref C) "__setattr__" = some (some (.builtin "object.__setattr__")))
    (q_nS : PySem.W.findIn K (.ref C) "sources" = some none)
    (q_nU : PySem.W.findIn K (.ref C) "uses" = some none)
    (q_nW : PySem.W.findIn K (.ref C) "_worths" = some none)
    (q_nP : PySem.W.findIn K (.ref C) "pairs" = some none)
    (q_ha : PySem.W.findIn K (.ref C) "__class__" = some (some (.builtin "object.__class__")))
    (q_hn : PySem.W.specialIn K (.builtin "object.__class__") "__get__" = some (some (.builtin "getset_descriptor.__get__")))
    (q_htk : PySem.W.takesIn K (.builtin "object.__class__") = some true)
    (q_hm : PySem.W.mroIn K C (.type "object") = some true)
    (q_mk : PySem.W.makesIn K C = true)
    (q_kp : PySem.W.keepIn K (.ref C) = true)
    (q_ne : PySem.W.findIn K (.ref C) "__ne__" = some (some (.builtin "object.__ne__")))
    (q_sg : signB K C = true)
    (z_isinstance : PySem.W.nsIn K mainGlobals "isinstance" = some none)
    (z_int : PySem.W.nsIn K mainGlobals "int" = some none)
    (z_bool : PySem.W.nsIn K mainGlobals "bool" = some none)
    (z_str : PySem.W.nsIn K mainGlobals "str" = some none)
    (z_len : PySem.W.nsIn K mainGlobals "len" = some none)
    (z_sorted : PySem.W.nsIn K mainGlobals "sorted" = some none)
    (z_tuple : PySem.W.nsIn K mainGlobals "tuple" = some none)
    (z_sum : PySem.W.nsIn K mainGlobals "sum" = some none)
    (z_list : PySem.W.nsIn K mainGlobals "list" = some none)
    (z_dict : PySem.W.nsIn K mainGlobals "dict" = some none)
    (z_range : PySem.W.nsIn K mainGlobals "range" = some none)
    (z_abs : PySem.W.nsIn K mainGlobals "abs" = some none)
    (z_max : PySem.W.nsIn K mainGlobals "max" = some none)
    (z_min : PySem.W.nsIn K mainGlobals "min" = some none)
    (z_all : PySem.W.nsIn K mainGlobals "all" = some none)
    (z_repr : PySem.W.nsIn K mainGlobals "repr" = some none) : AtG l w K 12 63 "script" mg fa h := by
  subst hl
  have e := hfa.symm.trans (PySem.W.mg_of X G A25)
  cases e
  have F0 := fun_mk (st := Fk.sAmount) L0 D0 E0
  have F1 := fun_mk (st := Fk.sName) L1 D1 E1
  have F2 := fun_mk (st := Fk.sNames) L2 D2 E2
  have F3 := fun_mk (st := Fk.sNum) L3 D3 E3
  have F4 := fun_mk (st := Fk.sAmounts) L4 D4 E4
  have F5 := fun_mk (st := Fk.sPair) L5 D5 E5
  have F6 := fun_mk (st := Fk.sRow) L6 D6 E6
  have F7 := fun_mk (st := Tb.sAsc) L7 D7 E7
  have F8 := fun_mk (st := Tb.sUnlike) L8 D8 E8
  have F9 := fun_mk (st := Tb.sJoined) L9 D9 E9
  have F10 := fun_mk (st := Tb.sCheck) L10 D10 E10
  have F11 := fun_mk (st := Tb.sTOther) L11 D11 E11
  have F12 := fun_mk (st := Tb.sRowT) L12 D12 E12
  have F13 := fun_mk (st := K06.sPen) L13 D13 E13
  have F14 := fun_mk (st := K06.sDraw) L14 D14 E14
  have F15 := fun_mk (st := K06.sPick) L15 D15 E15
  have F16 := fun_mk (st := K06.sPlain) L16 D16 E16
  have F17 := fun_mk (st := K06.sNms) L17 D17 E17
  have F18 := fun_mk (st := K06.sRows) L18 D18 E18
  have F19 := fun_mk (st := K06.sMade) L19 D19 E19
  have F20 := fun_mk (st := K06.sIs5) L20 D20 E20
  have F21 := fun_mk (st := K06.sJoint) L21 D21 E21
  have F22 := fun_mk (st := K06.sSigns) L22 D22 E22
  have F23 := fun_mk (st := K06.sBound) L23 D23 E23
  have F24 := fun_mk (st := K06.sWhat) L24 D24 E24
  have F25 := fun_mk (st := K06.sLaw4) L25 D25 E25
  have b0 := F0.binds (ps := ["value"]) fun _ _ _ _ _ _ us hl => match us, hl with | [_], _ => rfl
  have b1 := F1.binds (ps := ["value"]) fun _ _ _ _ _ _ us hl => match us, hl with | [_], _ => rfl
  have b2 := F2.binds (ps := ["values"]) fun _ _ _ _ _ _ us hl => match us, hl with | [_], _ => rfl
  have b3 := F3.binds (ps := ["number"]) fun _ _ _ _ _ _ us hl => match us, hl with | [_], _ => rfl
  have b4 := F4.binds (ps := ["values"]) fun _ _ _ _ _ _ us hl => match us, hl with | [_], _ => rfl
  have b5 := F5.binds (ps := ["value"]) fun _ _ _ _ _ _ us hl => match us, hl with | [_], _ => rfl
  have b6 := F6.binds (ps := ["value"]) fun _ _ _ _ _ _ us hl => match us, hl with | [_], _ => rfl
  have b7 := F7.binds (ps := ["values"]) fun _ _ _ _ _ _ us hl => match us, hl with | [_], _ => rfl
  have b8 := F8.binds (ps := ["names"]) fun _ _ _ _ _ _ us hl => match us, hl with | [_], _ => rfl
  have b9 := F9.binds (ps := ["one", "other"]) fun _ _ _ _ _ _ us hl => match us, hl with | [_, _], _ => rfl
  have b10 := F10.binds (ps := ["rows", "uses"]) fun _ _ _ _ _ _ us hl => match us, hl with | [_, _], _ => rfl
  have b11 := F11.binds (ps := ["other"]) fun _ _ _ _ _ _ us hl => match us, hl with | [_], _ => rfl
  have b12 := F12.binds (ps := ["table", "source"]) fun _ _ _ _ _ _ us hl => match us, hl with | [_, _], _ => rfl
  have b13 := F13.binds (ps := ["script"]) fun _ _ _ _ _ _ us hl => match us, hl with | [_], _ => rfl
  have b14 := F14.binds (ps := ["pen", "many"]) fun _ _ _ _ _ _ us hl => match us, hl with | [_, _], _ => rfl
  have b15 := F15.binds (ps := ["pen", "some"]) fun _ _ _ _ _ _ us hl => match us, hl with | [_, _], _ => rfl
  have b16 := F16.binds (ps := ["pen", "most"]) fun _ _ _ _ _ _ us hl => match us, hl with | [_, _], _ => rfl
  have b17 := F17.binds (ps := ["names_so"]) fun _ _ _ _ _ _ us hl => match us, hl with | [_], _ => rfl
  have b18 := F18.binds (ps := ["pen", "plain"]) fun _ _ _ _ _ _ us hl => match us, hl with | [_, _], _ => rfl
  have b19 := F19.binds (ps := ["pen", "plain"]) fun _ _ _ _ _ _ us hl => match us, hl with | [_, _], _ => rfl
  have b20 := F20.binds (ps := ["table", "plain"]) fun _ _ _ _ _ _ us hl => match us, hl with | [_, _], _ => rfl
  have b21 := F21.binds (ps := ["one", "other", "way"]) fun _ _ _ _ _ _ us hl => match us, hl with | [_, _, _], _ => rfl
  have b22 := F22.binds (ps := ["one", "other", "way"]) fun _ _ _ _ _ _ us hl => match us, hl with | [_, _, _], _ => rfl
  have b23 := F23.binds (ps := ["one", "other", "way"]) fun _ _ _ _ _ _ us hl => match us, hl with | [_, _, _], _ => rfl
  have b24 := F24.binds (ps := ["ask"]) fun _ _ _ _ _ _ us hl => match us, hl with | [_], _ => rfl
  have b25 := F25.binds (ps := ["script"]) fun _ _ _ _ _ _ us hl => match us, hl with | [_], _ => rfl
  have M0 := fun_mk (st := Tb.tmeth 1) l0 c0 k0
  have d0 := M0.binds (ps := ["self"]) fun _ _ _ _ _ _ us hl => match us, hl with | [_], _ => rfl
  have M1 := fun_mk (st := Tb.tmeth 4) l1 c1 k1
  have d1 := M1.binds (ps := ["self", "at"]) fun _ _ _ _ _ _ us hl => match us, hl with | [_, _], _ => rfl
  have M2 := fun_mk (st := Tb.tmeth 7) l2 c2 k2
  have d2 := M2.binds (ps := ["self", "other"]) fun _ _ _ _ _ _ us hl => match us, hl with | [_, _], _ => rfl
  have M3 := fun_mk (st := Tb.tmeth 8) l3 c3 k3
  have d3 := M3.binds (ps := ["self", "other"]) fun _ _ _ _ _ _ us hl => match us, hl with | [_, _], _ => rfl
  have M4 := fun_mk (st := Tb.tmeth 9) l4 c4 k4
  have d4 := M4.binds (ps := ["self", "other"]) fun _ _ _ _ _ _ us hl => match us, hl with | [_, _], _ => rfl
  have M5 := fun_mk (st := Tb.tmeth 19) l5 c5 k5
  have d5 := M5.binds (ps := ["self", "other"]) fun _ _ _ _ _ _ us hl => match us, hl with | [_, _], _ => rfl
  have M6 := fun_mk (st := Tb.tmeth 24) l6 c6 k6
  have d6 := M6.binds (ps := ["self"]) fun _ _ _ _ _ _ us hl => match us, hl with | [_], _ => rfl
  have m : ∀ {x : Str} {v : Value}, PySem.W.nsIn K mainGlobals x = some (some v) → mg x = some v := fun h => PySem.W.mg_of X G h
  have z : ∀ {x : Str}, PySem.W.nsIn K mainGlobals x = some none → mg x = none := fun h => PySem.W.mg_none_of X G h
  have FI : FunD K "is_integer" "is_integer" (defArgs Fk.sInteger) (defBody Fk.sInteger) (defScope Fk.sInteger) [.non] [] gI (PySem.W.fnOf "is_integer" "is_integer" (defArgs Fk.sInteger) (defBody Fk.sInteger) (defScope Fk.sInteger) (.ref TI) KVI DcI PmI AnI CdI CtI) := ⟨⟨OcI, OdI, .ref TI, KVI, DcI, PmI, AnI, CdI, CtI, SlI, rfl, LI, DI, .inr ⟨by simp, TI, _, [Value.none], nTI, rfl, TIl, rfl, .cons rfl .nil⟩, .inl rfl⟩, EI⟩
  have bI : Binds K (PySem.W.fnOf "is_integer" "is_integer" (defArgs Fk.sInteger) (defBody Fk.sInteger) (defScope Fk.sInteger) (.ref TI) KVI DcI PmI AnI CdI CtI) ["value", "least"] [] := by
    obtain ⟨ds, rd, bd⟩ := FI.binds1 (ps := ["value", "least"]) 2 1 (by simp) rfl fun T kV doc pm an cdv ct us its hu hi => match us, its, hu, hi with | [_, _], [_], _, _ => ⟨_, rfl, rfl⟩
    cases rd
    exact bd
  have FT : FunD K "__init__" "Table.__init__" (defArgs Tb.sTI) (defBody Tb.sTI) (defScope Tb.sTI) [.ref aE] [] fi (PySem.W.fnOf "__init__" "Table.__init__" (defArgs Tb.sTI) (defBody Tb.sTI) (defScope Tb.sTI) (.ref TE) kVi dci pmi ani cdi cti) := ⟨⟨oci, odi, .ref TE, kVi, dci, pmi, ani, cdi, cti, sli, rfl, li, ci, .inr ⟨by simp, TE, _, [Value.ref aE], nTE, rfl, TEl, rfl, .cons rfl .nil⟩, .inl rfl⟩, ki⟩
  have bT : Binds K (PySem.W.fnOf "__init__" "Table.__init__" (defArgs Tb.sTI) (defBody Tb.sTI) (defScope Tb.sTI) (.ref TE) kVi dci pmi ani cdi cti) ["self", "rows", "uses"] [] := by
    obtain ⟨ds, rd, bd⟩ := FT.binds1 (ps := ["self", "rows", "uses"]) 3 1 (by simp) rfl fun T kV doc pm an cdv ct us its hu hi => match us, its, hu, hi with | [_, _, _], [_], _, _ => ⟨_, rfl, rfl⟩
    cases rd
    exact bd
  obtain ⟨dsT, rT, bT2⟩ := FT.binds1 (ps := ["self", "rows", "uses"]) 2 0 (by simp) rfl fun T kV doc pm an cdv ct us its hu hi => match us, its, hu, hi with | [_, _], [_], _, _ => ⟨_, rfl, rfl⟩
  have B : Fk.Blt mg := ⟨z z_isinstance, z z_int, z z_bool, z z_str, z z_len⟩
  have T2 : Fk.Blt2 mg := ⟨z z_sorted, z z_tuple, z z_sum⟩
  have T3 : K06.Blt mg := ⟨z z_int, z z_len, z z_abs, z z_list⟩
  have R : Fk.BltR mg := ⟨z z_list, z z_tuple⟩
  have gT := m AC
  have hN : ∀ H, SqT K H aN [.str "none", .str "self"] := fun H => .inr ⟨_, _, _, LN, rfl, rfl, by show 2 ≤ sizeLine; decide, .cons ⟨t1, rfl⟩ (.cons ⟨t2, rfl⟩ .nil)⟩
  have hE : ∀ H, SqT K H aE [] := fun H => .inr ⟨_, _, _, El, rfl, rfl, by show 0 ≤ sizeLine; decide, .nil⟩
  have S : Tb.TblC K C := ⟨⟨q_pg, q_hd, q_po, q_sa⟩, q_nS, q_nU, q_nW, q_nP⟩
  have SI : Tb.TblI K C := ⟨q_ha, q_hn, q_htk, q_hm⟩
  obtain ⟨v1, q_sg⟩ := and2 q_sg
  obtain ⟨v2, v3⟩ := and2 q_sg
  have nomro : ∃ cd, PySem.W.clsIn K C = some cd ∧ cd.mro = [.ref C, .type "object"] := by
    cases hc : PySem.W.clsIn K C with
    | none => rw [hc] at v2; cases v2
    | some cd => rw [hc] at v2; exact ⟨cd, rfl, of_decide_eq_true v2⟩
  have noin : ∀ n ∈ (["add", "or", "and"] : List String), Own.NoIn K C n := fun n hn => by
    have w := List.all_eq_true.mp v3 n hn
    obtain ⟨w1, w2⟩ := and2 w
    exact ⟨nomro, of_decide_eq_true w1, of_decide_eq_true w2⟩
  -- the error's class
  obtain ⟨u1, bE⟩ := and2 bE
  obtain ⟨u2, bE⟩ := and2 bE
  obtain ⟨u3, bE⟩ := and2 bE
  obtain ⟨u4, bE⟩ := and2 bE
  obtain ⟨u5, bE⟩ := and2 bE
  obtain ⟨u6, bE⟩ := and2 bE
  obtain ⟨u7, bE⟩ := and2 bE
  obtain ⟨u8, bE⟩ := and2 bE
  obtain ⟨u9, bE⟩ := and2 bE
  obtain ⟨u10, u11⟩ := and2 bE
  have ME := fun_mk (st := errM) lE cE kE
  have dE_ := ME.binds (ps := ["self", "what", "most"]) fun _ _ _ _ _ _ us hl => match us, hl with | [_, _, _], _ => rfl
  have oex : OexC K CX_ := ⟨⟨nmE, qE, NE, bsE, bmE, snE, subE, abE, colE, ddE, m0E, m1E, m2E, m3E, m5E, xL, hmE⟩, of_decide_eq_true u7, of_decide_eq_true u3, of_decide_eq_true u5, u6⟩
  have xfc : XfC K CX_ := ⟨of_decide_eq_true u1, of_decide_eq_true u2, of_decide_eq_true u3, u4⟩
  have LX : ManyX K mg CX_ := ⟨m AK, of_decide_eq_true u11, xfc, of_decide_eq_true u9, of_decide_eq_true u10⟩
  -- the static method
  have FF : FunD K "flat" "Table.flat" (defArgs K06.sFlat) (defBody K06.sFlat) (defScope K06.sFlat) [.int 1] [] gF (PySem.W.fnOf "flat" "Table.flat" (defArgs K06.sFlat) (defBody K06.sFlat) (defScope K06.sFlat) (.ref TF) kVF dcF pmF anF cdF ctF) := ⟨⟨ocF, odF, .ref TF, kVF, dcF, pmF, anF, cdF, ctF, slF, rfl, lF, cF, .inr ⟨by simp, TF, _, [Value.int 1 tF], nTF, rfl, TFl, rfl, .cons ⟨tF, rfl⟩ .nil⟩, .inl rfl⟩, kF⟩
  obtain ⟨dsF, rF2, bF⟩ := FF.binds1 (ps := ["scopes", "worth"]) 1 0 (by simp) rfl fun T kV doc pm an cdv ct us its hu hi => match us, its, hu, hi with | [_], [_], _, _ => ⟨_, rfl, rfl⟩
  have RC : ClX.CRead K C (.type "type") := ⟨q_rd, q_ga⟩
  have SM : SMet K C (.type "type") "flat" pF gF := ⟨aF, ⟨rF, rcF⟩, kF⟩
  -- the table of code
  have tabR := own "_law_right" (by simp) gR (m AR) cR PR _ _ _ _ _ _ LR rfl rfl CR_ VR
  refine ⟨PySem.W.fnOf "law" "law" (defArgs K06.sLaw4) (defBody K06.sLaw4) (defScope K06.sLaw4) .none KV25 Dc25 Pm25 An25 Cd25 Ct25, [(cR, PR)], spLaw4 K [(PR, nmR)], fun p hp => ?_, fun p hp => ?_, fun p hp => ?_, fun s v => .of_eq rfl, fun H a ns ln hH hS => ?_, fun base _ _ TB => ?_⟩
  · rw [List.mem_singleton.mp hp]
    exact tabR
  · rw [List.mem_singleton.mp hp]
    exact Option.isNone_iff_eq_none.mp NR
  · rw [List.mem_singleton.mp hp]
    exact PySem.W.codeHd_of_K X WR
  · refine ⟨a, ns, rfl, hS, ln, fun p hp => ?_, fun _ => rfl⟩
    rw [List.mem_singleton.mp hp]
    exact TabS.nil (hH (cR, PR) (by simp))
  have LM : Tb.ManyC l.prog w K mg base CX_ fE _ := ⟨oex, aE_, of_decide_eq_true u8, of_decide_eq_true u9, of_decide_eq_true u10, ok_init2 ME rfl scErr (fun _ => rfl) (fun _ => rfl) rfl rfl rfl rfl, dE_, m AK⟩
  have okI := Fk.ok_integer (P := l.prog) (w := w) (base := base) (mg := mg) FI B
  have okA := Fk.ok_amount (P := l.prog) (w := w) (base := base) F0 okI bI (m AI) EI
  have okN := Fk.ok_name (tN := 0) (P := l.prog) (w := w) (base := base) F1 B (m ALN) (m ANN) hN
  have okNs := Fk.ok_names (P := l.prog) (w := w) (base := base) F2 okN b1 (m A1) E1
  have okNum := Fk.ok_num (P := l.prog) (w := w) (base := base) F3 B
  have okW := Fk.ok_amounts (P := l.prog) (w := w) (base := base) F4 okA b0 (m A0) E0
  have okP := Tb.ok_pair (P := l.prog) (w := w) (base := base) F5 B R okN b1 (m A1) E1
  have okR := Tb.ok_row (P := l.prog) (w := w) (base := base) F6 B R
  have okAsc := Tb.ok_asc (P := l.prog) (w := w) (base := base) F7 B T2
  have okUn := Tb.ok_unlike (P := l.prog) (w := w) (base := base) F8 B R okAsc b7 (m A7) E7
  have okJ := Tb.ok_joined (P := l.prog) (w := w) (base := base) F9 okUn b8 (m A8) E8
  have okC := Tb.ok_check (P := l.prog) (w := w) (base := base) F10 B R (z z_dict) (z z_all) okR b6 (m A6) E6 okNs b2 (m A2) E2 okW b4 (m A4) E4
  have okO := Tb.ok_tother (P := l.prog) (w := w) (base := base) F11 S SI B gT
  have oIniX := Tb.ok_tinitX (P := l.prog) (w := w) (base := base) FT S LM B R (m AMN) okC b10 (m A10) E10 okAsc b7 (m A7) E7 okJ b9 (m A9) E9
  have oIni : XG.FnG l.prog w K mg base CX0 5 fi _ ["self", "rows", "uses"] (Tb.spTI K C) := XG.FnG.calm oIniX Tb.spTI_X
  have mk : Mk K C fi := ⟨q_mk, ai, ni, q_kp⟩
  have oItem := Tb.ok_titem (P := l.prog) (w := w) (base := base) M1 S okP b5 (m A5) E5
  have mItem : Own.Mt l.prog w K mg base C "__getitem__" 3 ["self", "at"] (Tb.spTItem C) f1 _ := ⟨a1, n1, oItem, d1⟩
  have oEq := Tb.ok_teq (P := l.prog) (w := w) (base := base) M5 S SI B gT
  have oRow := Tb.ok_rowT (P := l.prog) (w := w) (base := base) F12 S mItem i1 okNum b3 (m A3) E3
  have oStr := Tb.ok_tstr (P := l.prog) (w := w) (base := base) M6 S oRow b12 (m A12) E12
  have oAdd := ok_tadd (P := l.prog) (w := w) (base := base) M2 S B okO b11 (m A11) E11 okJ b9 (m A9) E9 mItem i1 mk oIniX bT gT
  have oOr := ok_tor (P := l.prog) (w := w) (base := base) M3 S B (z z_max) okO b11 (m A11) E11 okJ b9 (m A9) E9 mItem i1 mk oIniX bT gT
  have oAnd := ok_tand (P := l.prog) (w := w) (base := base) M4 S B (z z_min) okO b11 (m A11) E11 okJ b9 (m A9) E9 mItem i1 mk oIniX bT gT
  have Q : TblB l.prog w K mg base C CX_ := { first := v1, fA := _, dA := _, add := ⟨a2, n2, oAdd, spTBoth_len, d2⟩, fO := _, dO := _, or_ := ⟨a3, n3, oOr, spTBoth_len, d3⟩, fN := _, dN := _, and_ := ⟨a4, n4, oAnd, spTBoth_len, d4⟩, nA := noin "add" (by simp), nO := noin "or" (by simp), nN := noin "and" (by simp) }
  have QE : TblE l.prog w K mg base C := { fQ := _, dQ := _, eq := ⟨a5, n5, oEq, d5⟩, ne := q_ne, mro := q_hm }
  have oFlat := ok_flat (P := l.prog) (w := w) (base := base) FF B R (z z_dict) (z z_all) okR b6 (m A6) E6 okNs b2 (m A2) E2 okW b4 (m A4) E4 mk oIni bT2 rT hE gT
  have dDraw := ok_draw (P := l.prog) (w := w) (base := base) F14 T3
  have dPick := ok_pick (P := l.prog) (w := w) (base := base) F15 T3 dDraw b14 (m A14) E14
  have dPlain := ok_plain (P := l.prog) (w := w) (base := base) F16 dPick b15 (m A15) E15 dDraw b14 (m A14) E14
  have dNms := ok_nms (P := l.prog) (w := w) (base := base) F17 B T2
  have dRows := ok_rows (P := l.prog) (w := w) (base := base) F18 T3 dDraw b14 (m A14) E14
  have dMade := ok_made (P := l.prog) (w := w) (base := base) F19 dRows b18 (m A18) E18 mk oIni bT gT
  have dIs := ok_is5 (P := l.prog) (w := w) (base := base) F20 S SI B gT (z z_tuple) (z z_repr) dNms b17 (m A17) E17 mItem i1
  have dJoint := ok_joint (P := l.prog) (w := w) (base := base) F21 T3 (z z_max) (z z_min)
  have dSigns := ok_signs (P := l.prog) (w := w) (base := base) F22 Q
  have dBound := ok_bound (P := l.prog) (w := w) (base := base) F23 Q
  have FR : FunC K "_law_right" "_law_right" K06.sRight4 gR cR _ := ⟨⟨_, _, _, _, _, _, _, _, rfl, LR, DR⟩, ER⟩
  have bR : Binds K _ ["pen", "left", "right"] [] := (fun_mk (st := K06.sRight4) LR DR ER).binds (ps := ["pen", "left", "right"]) fun _ _ _ _ _ _ us hl => match us, hl with | [_, _, _], _ => rfl
  have uR : ∀ p ∈ ([(PR, nmR)] : List (Addr × Str)), p.1 = PR → p.2 = nmR := fun p hp _ => by rw [List.mem_singleton.mp hp]
  have dRight := ok_right4 (P := l.prog) (w := w) (base := base) (T := [(PR, nmR)]) FR QE LX (z z_range) (z z_len) ⟨_, _, dMade, spMade_len, b19, m A19, E19⟩ ⟨_, _, dIs, spIs5_len, b20, m A20, E20⟩ ⟨_, _, dJoint, b21, m A21, E21⟩ ⟨_, _, dSigns, spSigns_len, b22, m A22, E22⟩ ⟨_, _, dBound, spSigns_len, b23, m A23, E23⟩ F24 b24 (m A24) E24 (TB (cR, PR) (by simp)) (by simp) uR
  exact ok_law4 F25 Q (z z_range) (z z_str) ⟨_, _, ok_pen (P := l.prog) (w := w) (base := base) F13 T3, b13, m A13, E13⟩ ⟨_, _, dPick, b15, m A15, E15⟩ ⟨_, _, dPlain, b16, m A16, E16⟩ ⟨_, _, dRight, spRight4_len, bR, m AR, ER⟩ ⟨a6, n6, oStr, d6⟩ mk oIni bT2 rT hE gT RC SM oFlat bF rF2
end K06

set_option Elab.async false
set_option linter.all false
open PySem PySem.W PyProof.Rows
set_option maxRecDepth 100000 in
set_option maxHeartbeats 0 in
theorem PySem.Challenge.cw_filledrow_k04_tables_joined_holds : PySem.Challenge.rw_filledrow_k04_tables_joined.Holds := by
  w_on; o_law; k_head; (case hw => w_witness2)
  k_fill
  refine XT.walk_tabs (l := PySem.Challenge.rw_filledrow_k04_tables_joined) (n := 63) (k := 12) (x := "script") ["_law_right"] rfl (by decide) rfl ⟨rfl, by decide, by decide⟩ (by decide +kernel) (fun w h Y => PySem.W.km_in_of Y) ?F
  case F =>
    intro w mg fa h Y KX G hmg own
    refine' K06.all_mk rfl KX G hmg own ?A0 ?L0 ?D0 ?E0 ?A1 ?L1 ?D1 ?E1 ?A2 ?L2 ?D2 ?E2 ?A3 ?L3 ?D3 ?E3 ?A4 ?L4 ?D4 ?E4 ?A5 ?L5 ?D5 ?E5 ?A6 ?L6 ?D6 ?E6 ?A7 ?L7 ?D7 ?E7 ?A8 ?L8 ?D8 ?E8 ?A9 ?L9 ?D9 ?E9 ?A10 ?L10 ?D10 ?E10 ?A11 ?L11 ?D11 ?E11 ?A12 ?L12 ?D12 ?E12 ?A13 ?L13 ?D13 ?E13 ?A14 ?L14 ?D14 ?E14 ?A15 ?L15 ?D15 ?E15 ?A16 ?L16 ?D16 ?E16 ?A17 ?L17 ?D17 ?E17 ?A18 ?L18 ?D18 ?E18 ?A19 ?L19 ?D19 ?E19 ?A20 ?L20 ?D20 ?E20 ?A21 ?L21 ?D21 ?E21 ?A22 ?L22 ?D22 ?E22 ?A23 ?L23 ?D23 ?E23 ?A24 ?L24 ?D24 ?E24 ?A25 ?L25 ?D25 ?E25 ?AR ?LR ?DR ?ER ?CR_ ?VR ?WR ?NR ?AI ?LI ?DI ?EI ?TIl ?ALN ?AMN ?ANN ?LN ?AK ?xL ?hmE ?aE_ ?lE ?cE ?kE ?bE ?AC ?ai ?li ?ci ?ki ?ni ?TEl ?El ?a0 ?l0 ?c0 ?k0 ?n0 ?a1 ?l1 ?c1 ?k1 ?n1 ?i1 ?a2 ?l2 ?c2 ?k2 ?n2 ?a3 ?l3 ?c3 ?k3 ?n3 ?a4 ?l4 ?c4 ?k4 ?n4 ?a5 ?l5 ?c5 ?k5 ?n5 ?a6 ?l6 ?c6 ?k6 ?n6 ?aF ?rcF ?lF ?cF ?kF ?TFl ?q_rd ?q_ga ?q_pg ?q_hd ?q_po ?q_sa ?q_nS ?q_nU ?q_nW ?q_nP ?q_ha ?q_hn ?q_htk ?q_hm ?q_mk ?q_kp ?q_ne ?q_sg ?z_isinstance ?z_int ?z_bool ?z_str ?z_len ?z_sorted ?z_tuple ?z_sum ?z_list ?z_dict ?z_range ?z_abs ?z_max ?z_min ?z_all ?z_repr
    (case A0 => k_is)
    (case L0 => k_is)
    (case D0 => k_is)
    (case E0 => k_is)
    (case A1 => k_is)
    (case L1 => k_is)
    (case D1 => k_is)
    (case E1 => k_is)
    (case A2 => k_is)
    (case L2 => k_is)
    (case D2 => k_is)
    (case E2 => k_is)
    (case A3 => k_is)
    (case L3 => k_is)
    (case D3 => k_is)
    (case E3 => k_is)
    (case A4 => k_is)
    (case L4 => k_is)
    (case D4 => k_is)
    (case E4 => k_is)
    (case A5 => k_is)
    (case L5 => k_is)
    (case D5 => k_is)
    (case E5 => k_is)
    (case A6 => k_is)
    (case L6 => k_is)
    (case D6 => k_is)
    (case E6 => k_is)
    (case A7 => k_is)
    (case L7 => k_is)
    (case D7 => k_is)
    (case E7 => k_is)
    (case A8 => k_is)
    (case L8 => k_is)
    (case D8 => k_is)
    (case E8 => k_is)
    (case A9 => k_is)
    (case L9 => k_is)
    (case D9 => k_is)
    (case E9 => k_is)
    (case A10 => k_is)
    (case L10 => k_is)
    (case D10 => k_is)
    (case E10 => k_is)
    (case A11 => k_is)
    (case L11 => k_is)
    (case D11 => k_is)
    (case E11 => k_is)
    (case A12 => k_is)
    (case L12 => k_is)
    (case D12 => k_is)
    (case E12 => k_is)
    (case A13 => k_is)
    (case L13 => k_is)
    (case D13 => k_is)
    (case E13 => k_is)
    (case A14 => k_is)
    (case L14 => k_is)
    (case D14 => k_is)
    (case E14 => k_is)
    (case A15 => k_is)
    (case L15 => k_is)
    (case D15 => k_is)
    (case E15 => k_is)
    (case A16 => k_is)
    (case L16 => k_is)
    (case D16 => k_is)
    (case E16 => k_is)
    (case A17 => k_is)
    (case L17 => k_is)
    (case D17 => k_is)
    (case E17 => k_is)
    (case A18 => k_is)
    (case L18 => k_is)
    (case D18 => k_is)
    (case E18 => k_is)
    (case A19 => k_is)
    (case L19 => k_is)
    (case D19 => k_is)
    (case E19 => k_is)
    (case A20 => k_is)
    (case L20 => k_is)
    (case D20 => k_is)
    (case E20 => k_is)
    (case A21 => k_is)
    (case L21 => k_is)
    (case D21 => k_is)
    (case E21 => k_is)
    (case A22 => k_is)
    (case L22 => k_is)
    (case D22 => k_is)
    (case E22 => k_is)
    (case A23 => k_is)
    (case L23 => k_is)
    (case D23 => k_is)
    (case E23 => k_is)
    (case A24 => k_is)
    (case L24 => k_is)
    (case D24 => k_is)
    (case E24 => k_is)
    (case A25 => k_is)
    (case L25 => k_is)
    (case D25 => k_is)
    (case E25 => k_is)
    (case AR => k_is)
    (case LR => k_is)
    (case DR => k_is)
    (case ER => k_is)
    (case CR_ => k_is)
    (case VR => rfl)
    (case WR => kernel_rfl)
    (case NR => kernel_rfl)
    (case AI => k_is)
    (case LI => k_is)
    (case DI => k_is)
    (case EI => k_is)
    (case TIl => k_is)
    (case ALN => k_is)
    (case AMN => k_is)
    (case ANN => k_is)
    (case LN => k_is)
    (case AK => k_is)
    (case xL => k_is)
    (case hmE => rfl)
    (case aE_ => k_is)
    (case lE => k_is)
    (case cE => k_is)
    (case kE => k_is)
    (case bE => kernel_rfl)
    (case AC => k_is)
    (case ai => k_is)
    (case li => k_is)
    (case ci => k_is)
    (case ki => k_is)
    (case ni => k_is)
    (case TEl => k_is)
    (case El => k_is)
    (case a0 => k_is)
    (case l0 => k_is)
    (case c0 => k_is)
    (case k0 => k_is)
    (case n0 => k_is)
    (case a1 => k_is)
    (case l1 => k_is)
    (case c1 => k_is)
    (case k1 => k_is)
    (case n1 => k_is)
    (case i1 => k_is)
    (case a2 => k_is)
    (case l2 => k_is)
    (case c2 => k_is)
    (case k2 => k_is)
    (case n2 => k_is)
    (case a3 => k_is)
    (case l3 => k_is)
    (case c3 => k_is)
    (case k3 => k_is)
    (case n3 => k_is)
    (case a4 => k_is)
    (case l4 => k_is)
    (case c4 => k_is)
    (case k4 => k_is)
    (case n4 => k_is)
    (case a5 => k_is)
    (case l5 => k_is)
    (case c5 => k_is)
    (case k5 => k_is)
    (case n5 => k_is)
    (case a6 => k_is)
    (case l6 => k_is)
    (case c6 => k_is)
    (case k6 => k_is)
    (case n6 => k_is)
    (case aF => k_is)
    (case rcF => k_is)
    (case lF => k_is)
    (case cF => k_is)
    (case kF => k_is)
    (case TFl => k_is)
    (case q_rd => k_is)
    (case q_ga => k_is)
    (case q_pg => k_is)
    (case q_hd => k_is)
    (case q_po => k_is)
    (case q_sa => k_is)
    (case q_nS => k_is)
    (case q_nU => k_is)
    (case q_nW => k_is)
    (case q_nP => k_is)
    (case q_ha => k_is)
    (case q_hn => k_is)
    (case q_htk => k_is)
    (case q_hm => k_is)
    (case q_mk => k_is)
    (case q_kp => k_is)
    (case q_ne => k_is)
    (case q_sg => kernel_rfl)
    (case z_isinstance => k_is)
    (case z_int => k_is)
    (case z_bool => k_is)
    (case z_str => k_is)
    (case z_len => k_is)
    (case z_sorted => k_is)
    (case z_tuple => k_is)
    (case z_sum => k_is)
    (case z_list => k_is)
    (case z_dict => k_is)
    (case z_range => k_is)
    (case z_abs => k_is)
    (case z_max => k_is)
    (case z_min => k_is)
    (case z_all => k_is)
    (case z_repr => k_is)

