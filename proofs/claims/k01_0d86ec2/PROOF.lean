import PyProof.Rows.All
import Wide.All
import OpenK.AllK
import Wide.FinOn
import HandS.Base
import HandS.Call
import HandS.List
import HandS.Exc
import HandS.ForMost
import HandS.ExcOwn
import HandS.ExcInit
import HandS.ExcIs
import HandS.ExcField
import HandS.ExcValue
import HandS.IsInst
import HandS.Defaults
import HandS.RaiseMore
import PyProof.ReprRoads
import PyProof.CallFns
import HandS.Ends
import HandS.Words
import HandS.WordsList
import PySem.Challenge.RW_filledrow_k01_errors_and_their_fields
import HandS.Comp
set_option Elab.async false
set_option linter.all false
set_option maxRecDepth 100000
set_option maxHeartbeats 4000000
/-! An own class of errors is called with keywords too: what BaseException.__new__ makes, then its own __init__. -/
namespace PySem
namespace XK
open PySem.W PySem.Calls PyProof.Rows PySem.HandSPX
section
variable {prog : Program} {w : World} {A : Around} {E : Value → Shared → Prop} {R : Result → Shared → Prop} {h : Heap} {g : Array GenState} {d : Drawn} {t : Nat} {os : OsState}
variable {nm q : Str} {C N : Addr} {bs bm up : List Value} {hdct : Bool} {sn : List Str} {sub : List Value} {ab : Bool} {col : Option Bool} {dd : Option Addr} {k0 k1 k2 k3 k5 : Option Value} {B newId initId : String} {us : List Value} {kw : List (Str × Value)} {fI : Addr}
/-- the class C, with bm above it, has the builtin ones that the base's chain `up` has -/
theorem above (same : ∀ n : String, bm.contains (.type n) = up.contains (.type n)) {n : String} {b : Bool} (e : up.contains (.type n) = b) : (Value.ref C :: bm).contains (.type n) = b := by
  rw [List.contains_cons, same, e]
  rfl
/-- new(C, *us, **kw): the error, its args a new tuple -/
theorem new_kw (F : ExcBaseFacts B newId initId up) (same : ∀ n : String, bm.contains (.type n) = up.contains (.type n)) (at_C : h.get? C = some (excClassObj nm q C N bs bm hdct sn sub ab col dd k0 k1 k2 k3 k5 newId)) (short : us.length ≤ sizeLine)
    (k : R (.ok (.ret (.ref (h.objs.size + 1)))) ⟨(h.push (W.kdv_tup us)).push (excO C h.objs.size), g, d, t, os⟩) : codeAny (model prog w) A (.builtin newId ⟨.ref C :: us, kw⟩) R ⟨h, g, d, t, os⟩ := by
  have yes := above (C := C) same F.hasB
  have noA := above (C := C) same F.noAttr
  have noN := above (C := C) same F.noName
  have room := F.ends
  refine codeAny_builtinAt F.entry ?_
  unfold Builtin.«BaseException.__new__»
  refine wpAt_bind ?_
  show wpAt _ _ _ (stack >>= _) _ _ _
  refine wpAt_bind (wpAt_stack fun _ _ => wpAt_of_wpAny ?_)
  wp_walk
  refine wpAt_of_wpAny ?_
  rw [F.owner]
  repeat (first
    | with_reducible refine wpAny_madeHere_exc F.canon at_C ?_
    | with_reducible refine wpAny_loadPart_at at_C ?_
    | (with_reducible refine wpAny_isSubtype_exc at_C ?_; (first | rw [yes] | rw [noA] | rw [noN]))
    | wp_step)
  show R _ _
  rw [Heap.size_push]
  exact k
/-- type.__call__(C, *us, **kw): the error at the second new address; then __init__ at fI has it -/
theorem type_call_kw {Q : Fin → Shared → Prop} (F : ExcBaseFacts B newId initId up) (same : ∀ n : String, bm.contains (.type n) = up.contains (.type n)) (at_C : h.get? C = some (excClassObj nm q C N bs bm hdct sn sub ab col dd k0 k1 k2 k3 k5 newId)) (short : us.length ≤ sizeLine)
    (init : W.Looks (model prog w) h (typeLookup (.ref C) "__init__") (some (.ref fI))) (bind : ∀ self, W.Looks (model prog w) h (bindSpecial (.ref fI) self) (.ref fI, [self]))
    (k : codeAny (model prog w) A (.call (.ref fI) ⟨.ref (h.objs.size + 1) :: us, kw⟩)
      (fun r s' => match r with | .ok (.ret v) => v = .none ∧ Q (.done (.ret (.ref (h.objs.size + 1)))) s' | .ok _ => False | .error e => E e s') ⟨(h.push (W.kdv_tup us)).push (excO C h.objs.size), g, d, t, os⟩) :
    wpAny (model prog w) A (Builtin.«type.__call__» ⟨.ref C :: us, kw⟩) Q E ⟨h, g, d, t, os⟩ := by
  have old : ∀ b o, h.get? b = some o → ((h.push (W.kdv_tup us)).push (excO C h.objs.size)).get? b = some o := fun b o e => Heap.get?_push_of_some _ (Heap.get?_push_of_some _ e)
  have made : ((h.push (W.kdv_tup us)).push (excO C h.objs.size)).get? (h.objs.size + 1) = some (excO C h.objs.size) := by heap_get
  have itself : (Value.ref C :: bm).contains (.ref C) = true := by simp
  have yes := above (C := C) same F.hasB
  have star := F.noStar
  repeat (first | with_reducible refine wpAny_loadPart_at at_C ?_ | with_reducible refine wpAny_madeBy_exc at_C ?_ | wp_step)
  refine codeAny_call_builtin_code (Code.quiet_builtin _ F.quiet) ?_
  -- new's own arguments pass: any, with any keywords
  simp only [checkBuiltinCall, F.newKind, F.newSplit, F.newRow]
  repeat (first
    | refine wpAny_loadPart_at at_C ?_
    | (refine wpAny_isSubtype_exc at_C ?_; rw [yes])
    | refine wpAny_staticBase_exc at_C ?_
    | refine wpAny_madeBy_exc at_C ?_
    | simp only [bne_self_eq_false, Bool.false_eq_true, if_false]
    | wp_step)
  refine new_kw F same at_C short ?_
  show wpAny _ _ _ _ _ _
  unfold isInstance
  have at_C' := old _ _ at_C
  repeat (first | with_reducible refine wpAny_loadPart_at made ?_ | (with_reducible refine wpAny_isSubtype_exc at_C' ?_; rw [itself]) | wp_step)
  show wpAny _ _ (typeLookup (.ref C) _) _ _ _
  refine (init.keeps old).at (wpAny_holding (wpAny_bind (((bind _).keeps old).at (wpAny_bind (wpAny_call (codeAny_mono k fun r s' z => ?_))))))
  rcases r with e | (v | _ | _ | _)
  all_goals first | exact z | exact z.elim | skip
  obtain ⟨rfl, z⟩ := z
  first
    | exact wpAny_pure (wpAny_pure z)
    | (wp_walk; exact z)
/-- C(*us, **kw) -/
theorem call_kw (F : ExcBaseFacts B newId initId up) (same : ∀ n : String, bm.contains (.type n) = up.contains (.type n)) (at_C : h.get? C = some (excClassObj nm q C N bs bm hdct sn sub ab col dd k0 k1 k2 k3 k5 newId)) (short : us.length ≤ sizeLine)
    (init : W.Looks (model prog w) h (typeLookup (.ref C) "__init__") (some (.ref fI))) (bind : ∀ self, W.Looks (model prog w) h (bindSpecial (.ref fI) self) (.ref fI, [self]))
    (k : codeAny (model prog w) (A.under (.builtin "type.__call__" ⟨.ref C :: us, kw⟩)) (.call (.ref fI) ⟨.ref (h.objs.size + 1) :: us, kw⟩) (W.InitBack (h.objs.size + 1) R) ⟨(h.push (W.kdv_tup us)).push (excO C h.objs.size), g, d, t, os⟩) :
    codeAny (model prog w) A (.call (.ref C) ⟨us, kw⟩) R ⟨h, g, d, t, os⟩ := by
  have look := tc_lookup
  have self := tc_bind (.ref C)
  have isT : (⟨h, g, d, t, os⟩ : Shared).TypeIs (.ref C) "type" := ⟨_, at_C, rfl⟩
  refine codeAny_of_tree ?_
  show wpAny _ _ (callAny (.ref C) _) _ _ _
  repeat (any_goals (first | assumption | with_reducible refine wpAny_loadPart_at at_C ?_ | wp_step))
  refine ⟨rfl, codeAny_call_builtin_at (Code.quiet_builtin _ (by decide +kernel)) entry_typeCall (wpAny_check_type_call_sub at_C (type_call_kw F same at_C short init bind (codeAny_mono k fun r s' z => ?_)))⟩
  rcases r with e | (v | _ | _ | _) <;> exact z
end
end XK
end PySem

set_option Elab.async false
set_option linter.all false
set_option maxRecDepth 100000
set_option maxHeartbeats 4000000
namespace PySem
namespace XK
open PySem.W PySem.Calls PyProof.Rows PySem.HandSPX
section
variable {prog : Program} {w : World} {A : Around} {E : Value → Shared → Prop} {s : Shared} {K : Frag} {x D : Addr} {ox : Obj}
/-- a data descriptor of the class goes ahead of the object's own dict -/
theorem found_data {C : Addr} {od : Option Obj} {n : Str} {a g : Value} {cd : ClassData} (c : clsIn K C = some cd) (ha : findIn K (.ref C) n = some (some a)) (hg : specialIn K a "__get__" = some (some g)) (ht : takesIn K a = some true) : findObj K C od n = some (.bind g a) := by
  simp [findObj, c, ha, hg, ht]
/-- what the class D of an error must say, so that isinstance asks its objects rightly -/
structure Asked (K : Frag) (D : Addr) : Prop where
  ga : findIn K (.ref D) "__getattribute__" = some (some (.builtin "BaseException.__getattribute__"))
  gg : findIn K (.ref D) "__getattr__" = some none
  ex : subIn K (.ref D) (.type "BaseException") = some true
  cd : ∃ cd : ClassData, clsIn K D = some cd
  cl : findIn K (.ref D) "__class__" = some (some (.builtin "object.__class__"))
  ge : specialIn K (.builtin "object.__class__") "__get__" = some (some (.builtin "getset_descriptor.__get__"))
  tk : takesIn K (.builtin "object.__class__") = some true
  mo : mroIn K D (.type "object") = some true
theorem Asked.obj (T : Asked K D) : ∃ c d cd sl, K.lookup D = some ⟨c, d, .cls cd, sl⟩ := by
  obtain ⟨cd, e⟩ := T.cd
  unfold clsIn at e
  split at e
  · exact ⟨_, _, _, _, by assumption⟩
  · cases e
/-- e.__class__, e an error with or without a dict of its own -/
theorem Asked.get {od : Option Obj} {Q : Option Value → Shared → Prop} (T : Asked K D) (X : K.In s.heap) (I : InstAt s.heap x ox D od) (k : Q (some (.ref D)) { s with toks := s.toks + 1 }) : wpAny (model prog w) A (getAttr? (.ref x) "__class__") Q E s := by
  obtain ⟨cd, hcd⟩ := T.cd
  have found := looks_find (M := model prog w) X I (found_data (od := od) hcd T.cl T.ge T.tk)
  obtain ⟨hp, g, d, t, os⟩ := s
  have ty := I.type (M := model prog w)
  have isE : Looks (model prog w) hp (isInstance (.ref x) (.type "BaseException")) true := ty.andThen (looks_subIn X T.ex)
  have no : (onTheHeap (Value.ref D) && Value.builtin "BaseException.__getattribute__" == Value.builtin "object.__getattribute__") = false := by
    rw [show (Value.builtin "BaseException.__getattribute__" == Value.builtin "object.__getattribute__") = false by decide +kernel]
    rfl
  unfold getAttr? getAttrBy? getAttrBy
  refine wpAny_bind (wpAny_mkText (wpAny_bind (wpAny_attempt (wpAny_holding (wpAny_bind (ty.at (wpAny_bind ((looks_findIn X T.ga).at ?_))))))))
  show wpAny _ _ (if (onTheHeap (Value.ref D) && Value.builtin "BaseException.__getattribute__" == Value.builtin "object.__getattribute__") = true then _ else _) _ _ _
  rw [if_neg (by rw [no]; decide)]
  unfold getAttrByItsOwn hookBefore
  refine wpAny_bind ?_
  rw [if_pos (show onTheHeap (Value.ref D) = true from rfl)]
  refine (looks_findIn X T.gg).at (wpAny_bind (wpAny_attempt (wpAny_holding ?_)))
  unfold callGetattribute
  rw [if_neg (show ¬ (false && onTheHeap (Value.builtin "BaseException.__getattribute__")) = true by decide)]
  unfold boundAndCalled
  rw [PySem.F.excAttr_ValueError.ga.bind (.ref x)]
  refine wpAny_bind (wpAny_pure (wpAny_call (codeAny_call_builtin PySem.F.excAttr_ValueError.ga.plain PySem.F.entry_bexc_ga ?_)))
  refine @check_slot (model prog w) _ _ ⟨hp, g, d, t + 1, os⟩ "BaseException.__getattribute__" "BaseException" "__getattribute__" (.ref x) [.str "__class__" t] [] _ (by decide +kernel) (by decide +kernel) isE (PySem.F.args_bexc_ga (.ref x) (.str "__class__" t)) ?_
  unfold Builtin.«object.__getattribute__»
  refine wpAny_bind (wpAny_of_eq (a := ((Value.ref x : Value), [Value.str "__class__" t])) (by first | rfl | (simp only [slotArgs]; rfl)) (wpAny_bind (wpAny_pure (wpAny_bind (ty.at (wpAny_bind (found.at ?_)))))))
  show wpAny _ _ (holding [Value.builtin "object.__class__"] (call (.builtin "getset_descriptor.__get__") [.builtin "object.__class__", .ref x, .ref D]) >>= ret) _ _ _
  refine wpAny_bind (wpAny_holding (wpAny_call (class_get (s := ⟨hp, g, d, t + 1, os⟩) (ox := ox) (od := od) X I T.mo (wpAny_pure ?_))))
  show wpAny _ _ (handedOut (.ref D)) _ _ _
  rw [handedOut_of (v := .ref D) rfl]
  first
    | exact wpAny_pure (wpAny_pure k)
    | exact wpAny_pure k
    | exact wpAny_pure (wpAny_bind (wpAny_pure (wpAny_pure k)))
theorem Asked.kit {od : Option Obj} (T : Asked K D) : KitX K (.ref x) (.ref D) (fun h => InstAt h x ox D od) := by
  obtain ⟨c, d, cd, sl, ho⟩ := T.obj
  exact {
    ty := fun _ _ _ I => I.type
    it := fun _ _ X _ _ _ _ _ k q => by
      unfold isType loadHead
      exact wpAny_bind (wpAny_loadPart (k _ _ (X _ _ ho)) (wpAny_pure q))
    ne := fun h tp _ _ _ _ X there => Bool.eq_false_iff.mpr fun q => by
      obtain rfl : D = tp := Value.ref.inj (beq_iff_eq.mp q)
      cases (X _ _ ho).symm.trans there
    ca := fun X I k => T.get X I k }
end
end XK
end PySem

namespace L2
open PySem PySem.Spec PyProof.Rows
/-- at a: an exception of the class at C that is not raised, with its fields -/
def ErrAt (H : Hp) (a C : Addr) (fs : List (Str × V)) : Prop := (fs = [] ∧ H a = some (exo a C none)) ∨ ∃ d, H a = some (exo a C (some d)) ∧ H d = some (exd d fs)
theorem ErrAt.ex {H H' : Hp} {a C : Addr} {fs : List (Str × V)} (e : ∀ b o, H b = some o → H' b = some o) (h : ErrAt H a C fs) : ErrAt H' a C fs := by
  rcases h with ⟨e1, e2⟩ | ⟨d, e1, e2⟩
  · exact .inl ⟨e1, e _ _ e2⟩
  · exact .inr ⟨d, e _ _ e1, e _ _ e2⟩
section
variable {X : Cx} {pins : List (Addr × Obj)} {σ : St} {H : Hp} {s : Shared}
theorem ErrAt.inst {a C : Addr} {fs : List (Str × V)} (I : Inv X pins σ H s) (h : ErrAt H a C fs) : ∃ ox od, PySem.W.InstAt s.heap a ox C od := by
  rcases h with ⟨_, e⟩ | ⟨d, e, ed⟩
  · obtain ⟨t1, ho⟩ := exo_at I.hok e
    exact ⟨_, none, ho, rfl, rfl, trivial⟩
  · obtain ⟨t1, ho⟩ := exo_at I.hok e
    obtain ⟨mA, ⟨od, _, _, hd, _⟩, _⟩ := exd_at I.hok ed
    exact ⟨_, some od, ho, rfl, rfl, hd⟩
/-- isinstance(e, c), e an exception of an own class -/
def rIsX (K : PySem.W.Frag) : List V → Hp → VK → Prop := fun xs H Q => ∃ (a D : Addr) (fs : List (Str × V)) (c : V) (cv : Value) (b : Bool), xs = [.ref a, c] ∧ ErrAt H a D fs ∧ ExcC K D ∧ ClsV c cv ∧ PySem.W.kitOne K (.ref D) cv = some b ∧ Q (.bl b) H
theorem call_isX : CallR X (.builtin "isinstance") (rIsX X.K) := by
  intro pins s σ H xs us Q I r h
  obtain ⟨a, D, fs, c, cv, b, rfl, ea, C, k, e, q⟩ := h
  obtain ⟨u1, u2, rfl, r1, r2⟩ := vals2 r
  have e2 := k.eq r2
  subst e2
  cases r1
  obtain ⟨ox, od, J⟩ := ea.inst I
  exact PySem.W.kia_one (PySem.XK.Asked.kit (od := od) (ox := ox) ⟨C.hg, C.hk, C.hs, (let ⟨cd, hc, _⟩ := PySem.W.any_some C.hd; ⟨cd, hc⟩), C.ha, C.hn, C.ht, C.hm⟩) I.kIn J e (fun z => nomatch z) fun tk => ⟨.bl b, H, I.kept (t' := tk) fun _ _ z => z, rfl, q⟩
/-- e.f, e an exception of an own class -/
def tXv (K : PySem.W.Frag) (f : Str) (te : TE) : TE := fun σ H Q => te σ H fun x H1 => ∃ (a C : Addr) (fs : List (Str × V)) (v : V), x = .ref a ∧ XfC K C ∧ PySem.W.findIn K (.ref C) f = some none ∧ ErrAt H1 a C fs ∧ fs.lookup f = some v ∧ Q v H1
theorem pe_xv {e : Expr} {te : TE} {pos : Pos} {n : Str} (he : PE X e te) (hb : attributeBase e n X.env (eval e X.env) = eval e X.env := by rfl) :
    PE X (.Attribute e n pos) (tXv X.K n te) := by
  refine ⟨fun pins s σ H Q I h => ?_⟩
  refine attr_of hb (thn (he.run pins s σ H _ I h) fun u s1 hh => ?_)
  obtain ⟨x, H1, I1, rx, a, C, fs, v, ex, T, hno, ea, l, q⟩ := hh
  subst ex
  obtain rfl : u = Value.ref a := rx
  rcases ea with ⟨e1, _⟩ | ⟨dd, e1, ed⟩
  · subst e1
    cases l
  · obtain ⟨t1, ho⟩ := exo_at I1.hok e1
    obtain ⟨mA, hns, hr⟩ := exd_at I1.hok ed
    obtain ⟨od, hd, hl⟩ := lookIn_ns hns
    obtain ⟨u, hu, ru⟩ := RelO.some_of (v := v) (o := mA n) (by rw [← l]; exact hr n)
    have J : PySem.W.InstAt s1.heap a _ C (some od) := ⟨ho, rfl, rfl, hd⟩
    exact HandSPX.exc_get I1.kIn J T.ga T.gg T.exC (PySem.W.findObj_own T.hdC hno rfl (by rw [hl, hu])) (handed_of ru) ⟨v, H1, I1.tok _, ru, q⟩
/-- C(e, .., k = v, ..) as a value, C's own __init__ keeping sp -/
def tMkV (C : Addr) (n m : Nat) (sp : Sp) (gV : List V → List V → List V) (E : XK) (ta tk : TA) : TE := fun σ H Q => ta σ H fun vs H1 => tk σ H1 fun zs H2 => vs.length = n ∧ zs.length = m ∧
  ∀ a, H2 a = none → sp (gV (.ref a :: vs) zs) (upd H2 a (exo a C none)) (fun v H3 => v = .non ∧ Q (.ref a) H3) E
variable {CX : CXT} {k n : Nat} {f C fI : Addr} {fd : FuncData} {ps ks : List Str} {sp : Sp} {E : XK} {x : Str} {p pos : Pos} {e : Expr} {es : List Expr} {kws : List Keyword} {t tk : TA} {g : List Value → List Value → List Value} {gV : List V → List V → List V}
theorem run_mkv {Q : VK} {us ws : List Value} {vs zs : List V} (T : OexC X.K C) (iC : PySem.W.findIn X.K (.ref C) "__init__" = some (some (.ref fI))) (tI : PySem.W.typeIn X.K (.ref fI) = some (.type "function"))
    (F1 : FnOk X.prog X.w X.K X.mg X.base CX k fI fd ps sp) (hr : Room (k + 1) X.A) (hb : KBn X.K fd ps (n + 1) ks g gV) (hx : Passes CX X E) (I : Inv X pins σ H s) (r : Vals vs us) (rz : Vals zs ws) (l1 : vs.length = n) (l2 : zs.length = ks.length) (hn : n ≤ 1000)
    (h : ∀ a, H a = none → sp (gV (.ref a :: vs) zs) (upd H a (exo a C none)) (fun v H3 => v = .non ∧ Q (.ref a) H3) E) :
    wpAny (model X.prog X.w) X.A (call (.ref C) us (ks.zip ws)) (EP X pins σ Q) X.xe s := by
  obtain ⟨nm, q, N, bs, bm, sn, sub, ab, col, dd, k0, k1, k2, k3, k5, hC, hbm⟩ := T.cls
  obtain ⟨hp, gn, dr, tk, os⟩ := s
  have hsz : hp.objs.size ≤ hp.objs.size + 1 := Nat.le_succ _
  have hnn : H (hp.objs.size + 1) = none := I.hok.fresh hsz
  have hq := h (hp.objs.size + 1) hnn
  have kk : ∀ b o, hp.get? b = some o → ((hp.push (PySem.W.kdv_tup us)).push (PySem.HandSPX.excO C hp.objs.size)).get? b = some o := fun b o e => Heap.get?_push_of_some _ (Heap.get?_push_of_some _ e)
  have hget : ((hp.push (PySem.W.kdv_tup us)).push (PySem.HandSPX.excO C hp.objs.size)).get? (hp.objs.size + 1) = some (PySem.HandSPX.excO C hp.objs.size) := by heap_get
  have I2 : Inv X pins σ (upd H (hp.objs.size + 1) (exo (hp.objs.size + 1) C none)) ⟨(hp.push (PySem.W.kdv_tup us)).push (PySem.HandSPX.excO C hp.objs.size), gn, dr, tk, os⟩ :=
    I.laid (t' := tk) (a := hp.objs.size + 1) (o := exo (hp.objs.size + 1) C none) (h' := (hp.push (PySem.W.kdv_tup us)).push (PySem.HandSPX.excO C hp.objs.size)) kk hsz (exo_ok hget)
  have r1 : Vals (V.ref (hp.objs.size + 1) :: vs) (Value.ref (hp.objs.size + 1) :: us) := .cons rfl r
  have r2 := hb.rel r1 rz
  have e1 : (Value.ref (hp.objs.size + 1) :: us).length = n + 1 := r1.length.symm.trans (congrArg Nat.succ l1)
  have e2 : ws.length = ks.length := rz.length.symm.trans l2
  have hus : us.length ≤ sizeLine := by
    rw [← Paired.length r, sizeLine_eq, l1]
    omega
  refine wpAny_call (PySem.XK.call_kw F.excBase_ValueError (fun Y => PySem.HandSPX.refsVE_contains Y bm hbm) (I.kIn _ _ hC) hus (PySem.W.looks_findIn I.kIn iC) (fun self => PySem.W.bind_fn I.kIn self tI)
    (codeAny_mono (F1.run _ X.stack _ _ ⟨Value.ref (hp.objs.size + 1) :: us, ks.zip ws⟩ (g (Value.ref (hp.objs.size + 1) :: us) ws) _ _ E (hr.make C us (ks.zip ws)) (I2.env0.make C us (ks.zip ws)) (hb.to _ (Value.ref (hp.objs.size + 1) :: us) ws I2.kIn e1 e2) r2 hq) fun r s' hq' => ?_))
  cases r with
  | error er => exact hx pins σ _ _ er s' I2 hq'
  | ok fl =>
    cases fl with
    | ret u =>
      obtain ⟨v, H', I3, rv, ev, q3⟩ := I2.after hq'
      subst ev
      exact ⟨rv, ⟨V.ref (hp.objs.size + 1), H', I3, rfl, q3⟩⟩
    | next => exact False.elim hq'
    | brk => exact False.elim hq'
    | cont => exact False.elim hq'
/-- what such a class has -/
structure MkvC (K : PySem.W.Frag) (C fI : Addr) : Prop where
  o : OexC K C
  iC : PySem.W.findIn K (.ref C) "__init__" = some (some (.ref fI))
  tI : PySem.W.typeIn K (.ref fI) = some (.type "function")
/-- C(e, ..) -/
theorem pe_mkv (M : MkvC X.K C fI) (F : FnOk X.prog X.w X.K X.mg X.base CX k fI fd ps sp) (hr : Room (k + 1) X.A) (hg : Gl X x) (hm : X.mg x = some (.ref C)) (hb : KBn X.K fd ps (n + 1) [] g gV) (hx : Passes CX X E) (hn : n ≤ 1000)
    (ha : PA X (e :: es) t) (hdb : (x == ("__debug__" : Str)) = false := by decide) (he : starEach (e :: es) X.env = (false, eval e X.env) :: starEach es X.env := by rfl) (hpl : (backTo pos (starEach es X.env)).any (·.1) = false := by rfl) :
    PE X (.Call (.Name x p) (e :: es) [] pos) (tMkV C n 0 sp gV E t tNil) := by
  refine ⟨fun pins s σ H Q I h => ?_⟩
  refine wpAny_Call_Name_kw (ld_glob I hg hm ?_ hdb)
  refine PySem.W.callWith_K (h₀ := X.base) I.ok.mod.kin M.o.kC (thn (ha.run pos pins s σ H _ I h) fun us s1 ⟨vs, H1, I1, r, l1, l2, q⟩ => ⟨I1.kIn, ?_⟩) he hpl
  exact run_mkv (ks := []) (ws := []) (zs := []) M.o M.iC M.tI F hr hb hx I1 r .nil l1 rfl hn q
/-- C(k = v, ..) -/
theorem pe_mkv0 (M : MkvC X.K C fI) (F : FnOk X.prog X.w X.K X.mg X.base CX k fI fd ps sp) (hr : Room (k + 1) X.A) (hg : Gl X x) (hm : X.mg x = some (.ref C)) (hb : KBn X.K fd ps 1 ks g gV) (hx : Passes CX X E) (hkw : PK X kws tk)
    (hall : (backToKw pos (keywordEach kws X.env)).all (·.1.isSome) = true := by rfl) (hks : (backToKw pos (keywordEach kws X.env)).filterMap (·.1) = ks := by rfl) (hdb : (x == ("__debug__" : Str)) = false := by decide)
    (hpl : ((backTo pos (starEach [] X.env)).any (·.1) || (backToKw pos (keywordEach kws X.env)).any (·.1.isNone)) = false := by rfl) :
    PE X (.Call (.Name x p) [] kws pos) (tMkV C 0 ks.length sp gV E tNil tk) := by
  refine ⟨fun pins s σ H Q I h => ?_⟩
  refine wpAny_Call_Name_kw (ld_glob I hg hm ?_ hdb)
  refine PySem.W.callWith_KW0 (h₀ := X.base) I.ok.mod.kin M.o.kC hall ?_ hpl
  refine thn (hkw.run pos pins s σ H _ I h) fun ws s2 ⟨zs, H2, I2, rz, l1, l2, q2⟩ => ⟨I2.kIn, ?_⟩
  rw [hks]
  exact run_mkv (us := []) (vs := []) M.o M.iC M.tI F hr hb hx I2 .nil rz rfl l2 (by decide) q2
/-- C(e, .., k = v, ..) -/
theorem pe_mkvK (M : MkvC X.K C fI) (F : FnOk X.prog X.w X.K X.mg X.base CX k fI fd ps sp) (hr : Room (k + 1) X.A) (hg : Gl X x) (hm : X.mg x = some (.ref C)) (hb : KBn X.K fd ps (n + 1) ks g gV) (hx : Passes CX X E) (hn : n ≤ 1000) (ha : PA X (e :: es) t) (hkw : PK X kws tk)
    (hall : (backToKw pos (keywordEach kws X.env)).all (·.1.isSome) = true := by rfl) (hks : (backToKw pos (keywordEach kws X.env)).filterMap (·.1) = ks := by rfl) (hdb : (x == ("__debug__" : Str)) = false := by decide)
    (he : starEach (e :: es) X.env = (false, eval e X.env) :: starEach es X.env := by rfl) (hpl : ((backTo pos (starEach (e :: es) X.env)).any (·.1) || (backToKw pos (keywordEach kws X.env)).any (·.1.isNone)) = false := by rfl) :
    PE X (.Call (.Name x p) (e :: es) kws pos) (tMkV C n ks.length sp gV E t tk) := by
  refine ⟨fun pins s σ H Q I h => ?_⟩
  refine wpAny_Call_Name_kw (ld_glob I hg hm ?_ hdb)
  refine PySem.W.callWith_KW (h₀ := X.base) I.ok.mod.kin M.o.kC hall (thn (ha.run pos pins s σ H _ I h) fun us s1 ⟨vs, H1, I1, r, q⟩ => ?_) hpl he
  refine thn (hkw.run pos pins s1 σ H1 _ I1 q) fun ws s2 ⟨zs, H2, I2, rz, l1, l2, q2⟩ => ⟨I2.kIn, ?_⟩
  rw [hks]
  exact run_mkv M.o M.iC M.tI F hr hb hx I2 r rz l1 l2 hn q2
/-- C(), C(e), C an own class without own __init__ -/
theorem run_exc {Q : VK} {us : List Value} {bmB : List Value} {B newId initId : String} (F : ExcBaseFacts B newId initId bmB) (q : PySem.W.excIn X.K C bmB newId = true) (I : Inv X pins σ H s) (hl : us.length ≤ 1000)
    (h : ∀ a, H a = none → Q (.ref a) (upd H a (exo a C none))) : wpAny (model X.prog X.w) X.A (call (.ref C) us) (EP X pins σ Q) X.xe s := by
  obtain ⟨hp, gn, dr, tk, os⟩ := s
  obtain ⟨bm, N, nm, qn, bs, hdct, sn, sub, ab, col, dd, k0, k1, k2, k3, k5, mN, hC, hN, hni, T⟩ := exc_obj I.kIn q
  refine wpAny_call_exc_subT F T hC hN hni (fun h' a hm => ?_) (by rw [sizeLine_eq]; omega)
  have hn : H a = none := I.hok.gone hm.new
  obtain ⟨t, ht, _, _⟩ := hm.there
  exact ⟨.ref a, upd H a (exo a C none), I.laidN hm.keeps hm.new hn (exo_ok ht), rfl, h a hn⟩
end
end L2

set_option Elab.async false
set_option linter.all false
set_option maxRecDepth 100000
set_option maxHeartbeats 4000000
/-! Defs that are called while no repr is under way. -/
namespace XG
open PySem PySem.Spec PyProof.Rows L2
section
variable {CX : CXT} {P : Program} {w : World} {K : PySem.W.Frag} {mg : Str → Option Value} {base : Heap} {k : Nat} {f : Addr} {ps : List Str} {sp : Sp}
/-- the def at f keeps sp wherever no object is being shown -/
def FnG (P : Program) (w : World) (K : PySem.W.Frag) (mg : Str → Option Value) (base : Heap) (CX : CXT) (k : Nat) (f : Addr) (fd : FuncData) (ps : List Str) (sp : Sp) : Prop :=
  ∀ (A : Around) (outer : List Env) (s : Shared) (H : Hp) (args : Args) (us : List Value) (vs : List V) (Q : VK) (E : XK), A.guards = some [] → Room k A → Env0 P w K mg base A outer s H →
    BindsTo s fd args (ps.zip us) → Vals vs us → sp vs H Q E → codeAny (model P w) A (.call (.ref f) args) (CR CX outer P w H s Q E) s
theorem fnG_of {qual x : Str} {params : Arguments} {body : List Stmt} {scope : Scope} {dV kV doc pm cdv ct oc : Value} {an od : Option Addr} {osl : Array (Option Value)} {N : List Str}
    (lk : K.lookup f = some ⟨oc, od, .func (PySem.W.fnOf x qual params body scope dV kV doc pm an cdv ct), osl⟩) (hcd : PySem.W.codeIn K cdv qual = true) (S : FnScope N ps scope) (len : ∀ vs H Q E, sp vs H Q E → vs.length = ps.length)
    (walk : ∀ (A : Around) (outer : List Env) (s : Shared) (H : Hp) (vs : List V) (Q : VK) (E : XK), A.guards = some [] → Room k (A.deeper (envOfC qual scope s.heap.objs.size f cdv)) → sp vs H Q E →
      ∃ t, PSs (cxOf CX P w K mg base N qual scope f cdv A outer s H E) body t ∧ t { nx := fun _ H' => Q .non H', rt := Q } (start N vs) H) :
    FnG P w K mg base CX (k + 1) f (PySem.W.fnOf x qual params body scope dV kV doc pm an cdv ct) ps sp := by
  intro A outer s H args us vs Q E gd room e0 bd r h
  have n1 := len _ _ _ _ h
  have inH : ∀ b o, base.get? b = some o → s.heap.get? b = some o := fun b o e => (e0.bs b o e).1
  have kin : K.In s.heap := e0.mod.kin.keeps inH
  have par : ∀ y ∈ ps.zip us, scope.names.lookup y.1 = some .local ∨ (scope.names.lookup y.1 = some .cell ∧ ((cellsFrom (s.heap.objs.size + 1) scope.names []).lookup y.1).isSome = true) := by
    rintro ⟨y, z⟩ hy
    exact (S.par y (List.of_mem_zip hy).1).imp id fun q => ⟨q, PySem.W.cellsFrom_some _ _ _ (.inl q)⟩
  refine codeAny_call_function room.depth (kin _ _ lk) rfl S.co S.gen rfl (PySem.W.codeRec_of kin hcd) (bd _ _ _ _ (wpAny_newFunctionEnv_cells S.kind par fun env he s1 z => ?_))
  subst he
  refine ⟨(e0.mod.nolimit.keeps inH).keeps z.toInCall.keep, codeAny_func ?_⟩
  obtain ⟨t, body_ok, ends⟩ := walk A outer s H vs Q E gd (room.deeper _) h
  have J := inv_start (CX := CX) (E := E) S room.hd e0 n1 r z
  refine wpAny_mono (body_ok.run [] s1 _ H _ J ends) (fun fl s' q => ?_) fun e s' q => q
  rcases fl with u | _ | _ | _
  all_goals first
    | (obtain ⟨v, σ', H', J', rv, q⟩ := q; exact ⟨v, H', J'.os, J'.bare, J'.base, J'.hok, rv, q⟩)
    | (obtain ⟨σ', H', J', q⟩ := q; exact ⟨V.non, H', J'.os, J'.bare, J'.base, J'.hok, rfl, q⟩)
    | (obtain ⟨_, _, _, q⟩ := q; exact q.elim)
theorem Fun.okG {x qual : Str} {st : Stmt} {fd : FuncData} {N : List Str} (F : Fun K x qual st f fd) (S : FnScope N ps (defScope st)) (len : ∀ vs H Q E, sp vs H Q E → vs.length = ps.length)
    (walk : ∀ (cdv : Value) (A : Around) (outer : List Env) (s : Shared) (H : Hp) (vs : List V) (Q : VK) (E : XK), A.guards = some [] → Room k (A.deeper (envOfC qual (defScope st) s.heap.objs.size f cdv)) → sp vs H Q E →
      ∃ t, PSs (cxOf CX0 P w K mg base N qual (defScope st) f cdv A outer s H E).nox (defBody st) t ∧ t { nx := fun _ H' => Q .non H', rt := Q } (start N vs) H) : FnG P w K mg base CX0 (k + 1) f fd ps sp := by
  obtain ⟨oc, od, kV, doc, pm, an, cdv, ct, osl, rfl, lk, hcd⟩ := F.ex
  refine fnG_of lk hcd S len fun A outer s H vs Q E gd room h => ?_
  obtain ⟨t, a, b⟩ := walk cdv A outer s H vs Q E gd room h
  exact ⟨t, a.nox, b⟩
/-- the claim's call, from a heap in which nothing but the script is tracked -/
theorem core {mb : Str → Option Value} {fd : FuncData} {a : Addr} {x : Str} {s₁ : Shared} {vs : List Value} (kin : K.In s₁.heap) (hns : s₁.heap.Ns mainGlobals mg) (hb : s₁.heap.Ns builtinsNs mb) (hbb : ∀ x : Str, x ≠ "__name__" → mb x = bootBuiltins x)
    (lim : s₁.heap.NoLimit) (gens : s₁.gens = #[]) (ha : s₁.heap.get? a = some { cls := .type "list", data := .seq vs.toArray }) (room : Room k callerA)
    (F : ∀ base : Heap, K.In base → base.Ns mainGlobals mg → FnG P w K mg base CX k f fd [x] sp) (bind : ∀ (s : Shared) (u : Value), BindsTo s fd ⟨[u], []⟩ [(x, u)])
    (none' : ∀ H e s', CX [] H s₁ (fun _ _ _ => False) e s' → False) {H : Hp} (only : Only H) (h : sp [.ref a] H (fun v _ => v = .bl true) fun _ _ _ => False) (hok : HOk P w H s₁.heap) (at_a : ∀ b, H b ≠ none → b = a) (not_K : H a ≠ none → K.lookup a = none) :
    codeAny (model P w) callerA (.call (.ref f) ⟨[.ref a], []⟩) (fun r s' => r = .ok (.ret (.bool true)) ∧ OldK s₁.heap s'.heap ∧ s'.os = s₁.os ∧ AllBare s'.gens) s₁ := by
  have tr : ∀ {b : Addr}, H b ≠ none → H a ≠ none := fun {b} z => at_a b z ▸ z
  have nsI : ∀ {b : Addr} {m : Str → Option Value}, s₁.heap.Ns b m → (hidT s₁.heap H).Ns b m := fun {b m} ⟨o, es, ep, e, d, r⟩ => by
    refine ⟨o, es, ep, hidT_get e ?_, d, r⟩
    by_cases q : H b = none
    · exact q
    · obtain rfl := at_a b q
      rw [ha] at e
      cases e
      cases (show Data.seq vs.toArray _ = Data.dict es ep from d)
  have kinI : K.In (hidT s₁.heap H) := fun b o e => hidT_get (kin b o e) (by
    by_cases q : H b = none
    · exact q
    · obtain rfl := at_a b q
      rw [not_K q] at e
      cases e)
  obtain ⟨mc, lim1, lim2⟩ := lim
  have e0 : Env0 P w K mg (hidT s₁.heap H) callerA [] s₁ H := {
    frames := rfl
    mod := ⟨kinI, nsI hns, ⟨mb, nsI hb, hbb⟩, mc, nsI lim1, lim2⟩
    bs := fun b o e => of_hidT e
    bsz := Nat.le_of_eq (hidT_size _ _)
    funs := trivial
    frf := fun b z => absurd (show b ∈ ([] : List Addr) from z) List.not_mem_nil
    hok := hok
    bare := .of_eq gens }
  have run := F _ kinI (nsI hns) callerA [] s₁ H ⟨[.ref a], []⟩ [.ref a] [.ref a] _ _ rfl room e0 (bind s₁ (.ref a)) (.cons rfl .nil) h
  refine codeAny_mono run fun r s' z => ?_
  rcases r with e | (u | _ | _ | _)
  all_goals first | exact (none' H e s' z).elim | exact (show False from z).elim | skip
  obtain ⟨v, H', os, bare, un, hok', rv, q⟩ := z
  obtain rfl : v = .bl true := q
  cases (show _ = Value.bool true from rv)
  refine ⟨rfl, OldK.of_keep fun b o e => ?_, os, bare⟩
  cases q : H b with
  | none => exact un.keep b o e q (fun z => List.not_mem_nil (show b ∈ ([] : List Addr) from z)) List.not_mem_nil
  | some t =>
    rcases only b with z | ⟨ob, xs, z⟩
    · rw [q] at z
      cases z
    · have before := (hok b _ z).1
      rw [e] at before
      cases before
      exact (hok' b _ (un.frzs b _ _ z)).1
end
/-- the law's own call, from its promise -/
theorem walk_ofG {l : PySem.W.OpenLaw} {n k : Nat} {q : Program} {loose : List Str} {XP : (Str → Option Value) → Heap → Prop} {YP : World → Heap → Prop} {d : DefRec} {K : Params → PySem.W.Frag} {sp : World → Sp} {x : Str}
    (hn : l.most = some n) (hn2 : n ≤ sizeLine) (hdf : d.params.defaults = []) (room : Room k callerA) (hY : ∀ (w : World) (h : Heap), YP w h → (K w.params).In h)
    (F : ∀ (w : World) (mg : Str → Option Value) (fa : Addr) (h : Heap), (K w.params).In h → h.Ns mainGlobals mg → mg d.name = some (.ref fa) →
      ∃ fd : FuncData, (∀ (s : Shared) (u : Value), BindsTo s fd ⟨[u], []⟩ [(x, u)]) ∧ ∀ base : Heap, (K w.params).In base → base.Ns mainGlobals mg → FnG l.prog w (K w.params) mg base CX0 k fa fd [x] (sp w))
    (hsp : ∀ (w : World) (H : Hp) (a : Addr) (ns : List Int), ns.length ≤ n → Only H → SqL (K w.params) H a (ns.map V.int) → sp w [.ref a] H (fun v _ => v = .bl true) fun _ _ _ => False) :
    PySem.W.WalkO q loose XP YP l.row.toRowW d [] (fun f vs => PySem.call f vs) := by
  refine Att.attach_call hn hdf fun w s₀ s₁ mg mb fa o pm cd doc a vs ns G Y _ _ _ hmg obj hints short gens => ?_
  have kin := hY w _ Y
  obtain ⟨fd, bind, hF⟩ := F w mg fa _ kin G.T.g hmg
  have rv := vals_ints hints
  have lz : (ns.map V.int).length ≤ sizeLine := by rw [List.length_map]; exact Nat.le_trans short hn2
  have go : ∀ {H : Hp}, Only H → SqL (K w.params) H a (ns.map V.int) → HOk l.prog w H s₁.heap → (∀ b, H b ≠ none → b = a) → (H a ≠ none → (K w.params).lookup a = none) → _ :=
    fun {H} only seq hok at_a not_K => core kin G.T.g G.T.b G.T.builtins G.T.nolimit gens obj room hF bind (fun _ _ _ z => z) only (hsp w H a ns short only seq) hok at_a not_K
  cases hk : (K w.params).lookup a with
  | some u =>
    have e := kin a u hk
    rw [obj] at e
    cases e
    exact go (H := fun _ => none) (fun _ => .inl rfl) (.inr ⟨_, vs.toArray, _, hk, rfl, rfl, rfl, by rw [List.size_toArray, hints.length]; exact Nat.le_trans short hn2, by simpa using rv⟩)
      (fun b u z => nomatch (show (none : Option HO) = some u from z)) (fun b z => absurd rfl z) fun z => absurd rfl z
  | none =>
    let fz : HO := .frz { cls := .type "list", data := .seq vs.toArray } (.lst (ns.map V.int))
    have at_ : ∀ b, (upd (fun _ => none) a fz) b ≠ none → b = a := fun b z => by
      by_cases hb : b = a
      · exact hb
      · exact absurd (upd_ne hb) z
    refine go (H := upd (fun _ => none) a fz) (fun b => ?_) (.inl (.inr ⟨_, upd_same⟩)) (fun b u z => ?_) at_ fun _ => hk
    · by_cases hb : b = a
      · rw [hb]
        exact .inr ⟨_, _, upd_same⟩
      · exact .inl (upd_ne hb)
    · obtain rfl := at_ b (by rw [z]; exact fun q => nomatch q)
      rw [upd_same] at z
      cases z
      exact ⟨obj, lz, vs, _, rv, obj⟩
end XG

set_option Elab.async false
set_option linter.all false
set_option maxRecDepth 100000
set_option maxHeartbeats 4000000
namespace L2
open PySem PySem.Spec PyProof.Rows
/-! ### what a value shows -/
mutual
/-- v is the datum d in H; nothing of it stands at p -/
inductive Dq (p : Addr) (H : Hp) : V → PyData → Prop
  | non : Dq p H .non .none
  | bl (b : Bool) : Dq p H (.bl b) (.bool b)
  | int (i : Int) : Dq p H (.int i) (.int i)
  | str (x : Str) : Dq p H (.str x) (.str x)
  | lst {a : Addr} {xs : List V} {ds : List PyData} : H a = some (.lst xs) → a ≠ p → a ≠ sysModules → DqAll p H xs ds → Dq p H (.ref a) (.list ds)
  | tup {a : Addr} {xs : List V} {ds : List PyData} : H a = some (.tup xs) → a ≠ p → DqAll p H xs ds → Dq p H (.ref a) (.tuple ds)
  | dct {a : Addr} : H a = some (.dK []) → a ≠ p → Dq p H (.ref a) (.dict [])
inductive DqAll (p : Addr) (H : Hp) : List V → List PyData → Prop
  | nil : DqAll p H [] []
  | cons {v : V} {vs : List V} {d : PyData} {ds : List PyData} : Dq p H v d → DqAll p H vs ds → DqAll p H (v :: vs) (d :: ds)
end
mutual
theorem Dq.ex {p : Addr} {H H' : Hp} (e : ∀ b o, H b = some o → b ≠ p → H' b = some o) : ∀ {v : V} (d : PyData), Dq p H v d → Dq p H' v d
  | _, .none, .non => .non
  | _, .bool b, .bl _ => .bl b
  | _, .int i, .int _ => .int i
  | _, .str x, .str _ => .str x
  | _, .list _, .lst h m n a => .lst (e _ _ h m) m n (DqAll.ex e _ a)
  | _, .tuple _, .tup h m a => .tup (e _ _ h m) m (DqAll.ex e _ a)
  | _, .dict _, .dct h m => .dct (e _ _ h m) m
theorem DqAll.ex {p : Addr} {H H' : Hp} (e : ∀ b o, H b = some o → b ≠ p → H' b = some o) : ∀ {vs : List V} (ds : List PyData), DqAll p H vs ds → DqAll p H' vs ds
  | _, [], .nil => .nil
  | _, _ :: _, .cons h t => .cons (Dq.ex e _ h) (DqAll.ex e _ t)
end
section
variable {X : Cx} {pins : List (Addr × Obj)} {σ : St} {H : Hp} {s : Shared} {q : Addr}
mutual
theorem Dq.reads (I : Inv X pins σ H s) : ∀ (d : PyData) (v : V) (u : Value), Dq q H v d → RelV v u → ∃ as, Reads s.heap u d as ∧ sysModules ∉ as
  | .none, _, _, h, r => by
    cases h
    cases r
    exact ⟨_, Reads.none, List.not_mem_nil⟩
  | .bool b, _, _, h, r => by
    cases h
    cases r
    exact ⟨_, Reads.bool b, List.not_mem_nil⟩
  | .int i, _, _, h, r => by
    cases h
    obtain ⟨t, rfl⟩ := r
    exact ⟨_, Reads.int i t, List.not_mem_nil⟩
  | .str x, _, _, h, r => by
    cases h
    obtain ⟨t, rfl⟩ := r
    exact ⟨_, Reads.str x t, List.not_mem_nil⟩
  | .list ds, _, _, h, r => by
    cases h with
    | lst hs _ n ha =>
      cases r
      obtain ⟨_, its, m, rv, g⟩ := (show ObjOk X.prog X.w H s.heap _ (.lst _) from I.hok _ _ hs)
      obtain ⟨as, hr, hn⟩ := DqAll.reads I ds _ its ha rv
      exact ⟨_, Reads.list g rfl rfl (by simpa using hr), fun z => by
        rcases List.mem_cons.mp z with z | z
        · exact n z.symm
        · exact hn z⟩
  | .tuple ds, _, _, h, r => by
    cases h with
    | tup hs _ ha =>
      cases r
      obtain ⟨_, its, rv, o, g, c, n, dt⟩ := (show ObjOk X.prog X.w H s.heap _ (.tup _) from I.hok _ _ hs)
      obtain ⟨as, hr, hn⟩ := DqAll.reads I ds _ its ha rv
      exact ⟨_, Reads.tuple g c dt (by simpa using hr), hn⟩
  | .dict [], _, _, h, r => by
    cases h with
    | @dct a hs _ =>
      cases r
      obtain ⟨_, ne, vs, rel, o, es, ep, g, ty, dt, hk⟩ := dk_of I.hok hs
      cases rel
      obtain ⟨_, prs, _⟩ := hk
      have z : es.toList = [] := by
        cases h0 : es.toList with
        | nil => rfl
        | cons a r =>
          rw [h0] at prs
          cases prs
      have z2 : es = #[] := Array.toList_inj.mp z
      subst z2
      exact ⟨_, Reads.dict (as := []) (bs := []) g ty.1 dt .nil .nil, fun q => by
        have q' : sysModules = a := by simpa using q
        exact absurd q'.symm (beq_eq_false_iff_ne.mp ne)⟩
  | .dict (_ :: _), _, _, h, _ => by cases h
theorem DqAll.reads (I : Inv X pins σ H s) : ∀ (ds : List PyData) (vs : List V) (us : List Value), DqAll q H vs ds → Vals vs us → ∃ as, ReadsAll s.heap us ds as ∧ sysModules ∉ as
  | [], _, _, h, r => by
    cases h
    cases r
    exact ⟨_, ReadsAll.nil, List.not_mem_nil⟩
  | d :: ds, _, _, h, r => by
    cases h with
    | cons h1 h2 =>
      cases r with
      | cons r1 r2 =>
        obtain ⟨as, a1, n1⟩ := Dq.reads I d _ _ h1 r1
        obtain ⟨bs, a2, n2⟩ := DqAll.reads I ds _ _ h2 r2
        exact ⟨_, ReadsAll.cons a1 a2, fun z => (List.mem_append.mp z).elim n1 n2⟩
end
/-- repr(v) -/
def rRepr : List V → Hp → VK → Prop := fun xs H Q => ∃ (p : Addr) (v : V) (d : PyData), xs = [v] ∧ Dq p H v d ∧ d.showable = true ∧ d.depth ≤ 60 ∧ d.shown.length ≤ 100000 ∧ Q (.str d.shown) H
theorem call_reprG (hg : X.A.guards = some []) (hu : X.A.units + 64 < cLine) : CallR X (.builtin "repr") rRepr := by
  intro pins s σ H xs us Q I r h
  obtain ⟨p, v, d, rfl, hd, sh, dp, sz, q⟩ := h
  obtain ⟨u, rfl, ru⟩ := vals1 r
  have sz' : d.shown.length ≤ sizeLine := by rw [sizeLine_eq]; omega
  have by_ref : ∀ a : Addr, u = .ref a → wpAny (model X.prog X.w) X.A (call (.builtin "repr") [u]) (EP X pins σ Q) X.xe s := by
    rintro a rfl
    obtain ⟨as, rd, nm⟩ := hd.reads I d v _ ru
    exact repr_of_reads' rd sh (fun _ => nm) hg (by omega) (fun _ _ z => z) (fun h' u tk hk => ⟨.str _, H, I.kept (t' := tk) hk, ⟨u, rfl⟩, q⟩) sz'
  cases hd with
  | non =>
    cases ru
    exact PySem.P.repr_of_none ⟨.str _, H, I.tok _, ⟨_, rfl⟩, q⟩
  | bl b =>
    cases ru
    refine PySem.P.repr_of_bool ⟨.str _, H, I.tok _, ⟨_, rfl⟩, ?_⟩
    cases b <;> exact q
  | int i =>
    obtain ⟨t, rfl⟩ := ru
    exact PySem.P.repr_of_int (of_decide_eq_true sh) ⟨.str _, H, I.tok _, ⟨_, rfl⟩, q⟩
  | str x =>
    obtain ⟨t, rfl⟩ := ru
    exact PySem.P.repr_of_str ⟨.str _, H, I.tok _, ⟨_, rfl⟩, q⟩ (hsz := sz')
  | lst _ _ _ _ => exact by_ref _ ru
  | tup _ _ _ => exact by_ref _ ru
  | dct _ _ => exact by_ref _ ru
/-- [a, b, ..], told that it is not the table of modules -/
def tLstN (t : TA) : TE := fun σ H Q => t σ H fun xs H1 => xs.length ≤ sizeLine ∧ ∀ p, H1 p = none → p ≠ sysModules → Q (.ref p) (upd H1 p (.lst xs))
theorem pe_lstN {es : List Expr} {t : TA} {pos : Pos} (h : PA X es t) : PE X (.List es pos) (tLstN t) := by
  refine ⟨fun pins s σ H Q I hq => wpAny_List_spliced (thn (h.run pos pins s σ H _ I hq) fun us s1 ⟨xs, H1, I1, r, z, q⟩ => ⟨r.length ▸ z, ?_⟩)⟩
  have big : sysModules < s1.heap.objs.size := I1.big
  refine ⟨.ref s1.heap.objs.size, _, I1.laid (t' := s1.toks) (fun b u e => Heap.get?_push_of_some _ e) (Nat.le_refl _) ?_, rfl, q _ (I1.hok.fresh (Nat.le_refl _)) (Nat.ne_of_gt big)⟩
  exact ⟨z, us, 0, r, Heap.get?_push_size _ rfl⟩
variable {C : Addr} {x : Str} {p pos : Pos} {e : Expr} {es : List Expr} {t : TA} {bmB : List Value} {B newId initId : String}
/-- C(), C an own exception class without __init__ -/
def tExc0 (C : Addr) : TE := fun _ H Q => ∀ a, H a = none → Q (.ref a) (upd H a (exo a C none))
theorem pe_excv0 (F : ExcBaseFacts B newId initId bmB) (q : PySem.W.excIn X.K C bmB newId = true) (gC : X.mg x = some (.ref C)) (kC : PySem.W.keepIn X.K (.ref C) = true) (hg : Gl X x) (hdb : (x == ("__debug__" : Str)) = false := by decide) :
    PE X (.Call (.Name x p) [] [] pos) (tExc0 C) := by
  refine ⟨fun pins s σ H Q I h => wpAny_Call_Name_kw (ld_glob I hg gC ?_ hdb)⟩
  exact PySem.W.callWith_K0 I.kIn kC (run_exc (us := []) F q I (by decide) h)
/-- C(e) of such a class -/
def tExc1 (C : Addr) (te : TE) : TE := fun σ H Q => te σ H fun _ H1 => ∀ a, H1 a = none → Q (.ref a) (upd H1 a (exo a C none))
theorem pe_excv1 {te : TE} (F : ExcBaseFacts B newId initId bmB) (q : PySem.W.excIn X.K C bmB newId = true) (gC : X.mg x = some (.ref C)) (kC : PySem.W.keepIn X.K (.ref C) = true) (hg : Gl X x) (he : PE X e te)
    (hs : starEach [e] X.env = (false, eval e X.env) :: starEach [] X.env := by rfl) (hdb : (x == ("__debug__" : Str)) = false := by decide) : PE X (.Call (.Name x p) [e] [] pos) (tExc1 C te) := by
  refine ⟨fun pins s σ H Q I h => wpAny_Call_Name_kw (ld_glob I hg gC ?_ hdb)⟩
  refine PySem.W.callWith_K (h₀ := X.base) I.ok.mod.kin kC ?_ hs (by rfl)
  rw [hs]
  show wpAny _ _ (spliced ((false, eval e X.env) :: backTo pos (starEach [] X.env))) _ _ s
  refine Calls.spliced_cons (thn (he.run pins s σ H _ I h) fun u s1 ⟨v, H1, I1, r1, q1⟩ => Calls.spliced_nil ⟨I1.kIn, ?_⟩)
  exact run_exc (us := [u]) F q I1 (by show 1 ≤ 1000; decide) q1
end
/-! ### __init__(self, f): self.f = f -/
def spInit1 (K : PySem.W.Frag) (f : Str) : Sp := fun vs H Q _ => ∃ (a C : Addr) (y : V), vs = [.ref a, y] ∧ OexC K C ∧ PySem.W.findIn K (.ref C) f = some none ∧ H a = some (exo a C none) ∧
  ∀ d, H d = none → d ≠ a → Q .non (upd (upd H d (exd d [(f, y)])) a (exo a C (some d)))
def spInit2 (K : PySem.W.Frag) (f g : Str) : Sp := fun vs H Q _ => ∃ (a C : Addr) (y z : V), vs = [.ref a, y, z] ∧ OexC K C ∧ PySem.W.findIn K (.ref C) f = some none ∧ PySem.W.findIn K (.ref C) g = some none ∧ H a = some (exo a C none) ∧
  ∀ d, H d = none → d ≠ a → Q .non (upd (upd (upd H d (exd d [(f, y)])) a (exo a C (some d))) d (exd d [(g, z), (f, y)]))
theorem vis_of {N Ps : List Str} {sc : Scope} (S : FnScope N Ps sc) {x : Str} (h : x ∈ Ps) : Vis sc x := by
  rcases S.par x h with e | e
  · exact Or.inl e
  · exact Or.inr (Or.inl e)
section
variable {P : Program} {w : World} {K : PySem.W.Frag} {mg : Str → Option Value} {base : Heap} {fI : Addr} {fd : FuncData} {qual f g : Str} {st : Stmt} {q1 q2 q3 q4 r1 r2 r3 r4 : Pos}
theorem ok_init1 (F : Fun K "__init__" qual st fI fd) (hb : defBody st = [.Assign [.Attribute (.Name "self" q1) f q2] (.Name f q3) q4]) (S : FnScope ["self", f] ["self", f] (defScope st))
    (hs : ∀ env : Env, swapsWith (.Name f q3) (some (.Attribute (.Name "self" q1) f q2)) q4.line env = pure false) (h1 : (f == ("__debug__" : Str)) = false) (h2 : (f == ("__classdict__" : Str)) = false) : FnOk P w K mg base CX0 1 fI fd ["self", f] (spInit1 K f) := by
  refine F.ok S (fun vs H Q E h => ?_) (fun cdv A outer s H vs Q E hr h => ?_)
  · obtain ⟨a, C, y, rfl, _⟩ := h
    rfl
  · obtain ⟨a, C, y, rfl, T, hf, ea, k⟩ := h
    rw [hb]
    refine ⟨_, pss_one (ps_ost (pe_var (i := 0) rfl (vis_of S (by simp))) (pe_var (i := 1) rfl (vis_of S (by simp)) h1 h2) (hs _)), ?_⟩
    exact ⟨_, rfl, _, rfl, a, C, rfl, T, hf, .inl ⟨ea, k⟩⟩
theorem ok_init2 (F : Fun K "__init__" qual st fI fd) (hb : defBody st = [.Assign [.Attribute (.Name "self" q1) f q2] (.Name f q3) q4, .Assign [.Attribute (.Name "self" r1) g r2] (.Name g r3) r4]) (S : FnScope ["self", f, g] ["self", f, g] (defScope st))
    (hs : ∀ env : Env, swapsWith (.Name f q3) (some (.Attribute (.Name "self" q1) f q2)) q4.line env = pure false) (hs2 : ∀ env : Env, swapsWith (.Name g r3) (some (.Attribute (.Name "self" r1) g r2)) r4.line env = pure false)
    (h1 : (f == ("__debug__" : Str)) = false) (h2 : (f == ("__classdict__" : Str)) = false) (h3 : (g == ("__debug__" : Str)) = false) (h4 : (g == ("__classdict__" : Str)) = false) : FnOk P w K mg base CX0 1 fI fd ["self", f, g] (spInit2 K f g) := by
  refine F.ok S (fun vs H Q E h => ?_) (fun cdv A outer s H vs Q E hr h => ?_)
  · obtain ⟨a, C, y, z, rfl, _⟩ := h
    rfl
  · obtain ⟨a, C, y, z, rfl, T, hf, hg, ea, k⟩ := h
    rw [hb]
    refine ⟨_, pss_cons (ps_ost (pe_var (i := 0) rfl (vis_of S (by simp))) (pe_var (i := 1) rfl (vis_of S (by simp)) h1 h2) (hs _))
      (pss_one (ps_ost (pe_var (i := 0) rfl (vis_of S (by simp))) (pe_var (i := 2) rfl (vis_of S (by simp)) h3 h4) (hs2 _))), ?_⟩
    refine ⟨_, rfl, _, rfl, a, C, rfl, T, hf, .inl ⟨ea, fun d hd ne => ?_⟩⟩
    exact ⟨_, rfl, _, rfl, a, C, rfl, T, hg, .inr ⟨d, [(f, y)], upd_same, by rw [upd_ne ne, upd_same], (by show 1 ≤ 900; decide), k d hd ne⟩⟩
/-- how a call with keywords binds: no defaults -/
theorem Fun.kbn {x : Str} {ps ks : List Str} {n : Nat} {gv : List Value → List Value → List Value} {gV : List V → List V → List V} (F : Fun K x qual st fI fd)
    (hrel : ∀ {vs : List V} {us : List Value} {zs : List V} {ws : List Value}, Vals vs us → Vals zs ws → Vals (gV vs zs) (gv us ws))
    (h : ∀ (kV doc pm : Value) (an : Option Addr) (cdv ct : Value) (us ws : List Value), us.length = n → ws.length = ks.length → bindArgs (PySem.W.fnOf x qual (defArgs st) (defBody st) (defScope st) .none kV doc pm an cdv ct) ⟨us, ks.zip ws⟩ = pure (ps.zip (gv us ws))) : KBn K fd ps n ks gv gV := by
  obtain ⟨oc, od, kV, doc, pm, an, cdv, ct, osl, rfl, lk, hcd⟩ := F.ex
  exact ⟨fun s us ws X l1 l2 => .of_eq (h kV doc pm an cdv ct us ws l1 l2), hrel⟩
end
end L2

set_option Elab.async false
set_option linter.all false
set_option maxRecDepth 100000
set_option maxHeartbeats 4000000
/-! What an expression leaves, by a property that lasts. -/
namespace EvP
open PySem L2
def Ex (H H' : Hp) : Prop := ∀ a o, H a = some o → H' a = some o
theorem Ex.refl (H : Hp) : Ex H H := fun _ _ h => h
theorem Ex.trans {H H1 H2 : Hp} (a : Ex H H1) (b : Ex H1 H2) : Ex H H2 := fun x o h => b x o (a x o h)
theorem Ex.new {H : Hp} {p : Addr} {o : HO} (h : H p = none) : Ex H (upd H p o) := fun a u e => by rw [upd_ne (ne_of_none e h)]; exact e
theorem Ex.back {H H' : Hp} (e : Ex H H') {p : Addr} (h : H' p = none) : H p = none := by
  cases h1 : H p with
  | none => rfl
  | some o =>
    rw [e p o h1] at h
    cases h
/-- a property of a value that lasts while objects are only added -/
structure PR where
  R : V → Hp → Prop
  mono : ∀ v H H', Ex H H' → R v H → R v H'
/-- te gives a value with R, and only adds -/
def Gives (te : TE) (σ : St) (H : Hp) (P : PR) : Prop := ∀ H1, Ex H H1 → ∀ Q : VK, (∀ v H2, Ex H1 H2 → P.R v H2 → Q v H2) → te σ H1 Q
inductive All2 (H : Hp) : List PR → List V → Prop
  | nil : All2 H [] []
  | cons {P : PR} {Ps : List PR} {v : V} {vs : List V} : P.R v H → All2 H Ps vs → All2 H (P :: Ps) (v :: vs)
theorem All2.ex {H H' : Hp} (e : Ex H H') : ∀ {Ps : List PR} {vs : List V}, All2 H Ps vs → All2 H' Ps vs
  | _, _, .nil => .nil
  | _, _, .cons h t => .cons (PR.mono _ _ _ _ e h) (All2.ex e t)
theorem All2.length {H : Hp} : ∀ {Ps : List PR} {vs : List V}, All2 H Ps vs → vs.length = Ps.length
  | _, _, .nil => rfl
  | _, _, .cons _ t => congrArg Nat.succ (All2.length t)
theorem All2.append {H : Hp} : ∀ {Ps Qs : List PR} {vs ws : List V}, All2 H Ps vs → All2 H Qs ws → All2 H (Ps ++ Qs) (vs ++ ws)
  | _, _, _, _, .nil, k => k
  | _, _, _, _, .cons h t, k => .cons h (All2.append t k)
theorem All2.get {H : Hp} : ∀ {Ps : List PR} {vs : List V} {i : Nat} {P : PR}, All2 H Ps vs → Ps[i]? = some P → ∃ v, vs[i]? = some v ∧ P.R v H
  | _, _, _, _, .nil, e => by simp at e
  | _, _, 0, _, .cons h _, e => by
    simp at e
    subst e
    exact ⟨_, rfl, h⟩
  | _, _, i + 1, _, .cons _ t, e => by
    obtain ⟨v, h1, h2⟩ := All2.get (i := i) t (by simpa using e)
    exact ⟨v, by simpa using h1, h2⟩
def GivesA (ta : TA) (σ : St) (H : Hp) (Ps : List PR) : Prop := ∀ H1, Ex H H1 → ∀ Q : List V → Hp → Prop, (∀ vs H2, Ex H1 H2 → All2 H2 Ps vs → Q vs H2) → ta σ H1 Q
/-- this very value -/
def is (v : V) : PR := ⟨fun u _ => u = v, fun _ _ _ _ h => h⟩
/-- a tuple of such -/
def tup (Ps : List PR) : PR := ⟨fun u H => ∃ a vs, u = .ref a ∧ H a = some (.tup vs) ∧ All2 H Ps vs, fun _ _ _ e ⟨a, vs, h1, h2, h3⟩ => ⟨a, vs, h1, e _ _ h2, h3.ex e⟩⟩
/-- a list of such, new over H0 -/
def lst (H0 : Hp) (Ps : List PR) : PR := ⟨fun u H => ∃ a vs, u = .ref a ∧ H a = some (.lst vs) ∧ H0 a = none ∧ All2 H Ps vs, fun _ _ _ e ⟨a, vs, h1, h2, h0, h3⟩ => ⟨a, vs, h1, e _ _ h2, h0, h3.ex e⟩⟩
/-- the same, and not the table of modules -/
def lstN (H0 : Hp) (Ps : List PR) : PR := ⟨fun u H => ∃ a vs, u = .ref a ∧ H a = some (.lst vs) ∧ H0 a = none ∧ a ≠ sysModules ∧ All2 H Ps vs, fun _ _ _ e ⟨a, vs, h1, h2, h0, hn, h3⟩ => ⟨a, vs, h1, e _ _ h2, h0, hn, h3.ex e⟩⟩
/-- an exception of the class at C with these fields -/
def err (C : Addr) (fs : List (Str × V)) : PR := ⟨fun u H => ∃ a, u = .ref a ∧ ErrAt H a C fs, fun _ _ _ e ⟨a, h1, h2⟩ => ⟨a, h1, h2.ex e⟩⟩
section
variable {K : PySem.W.Frag} {σ : St} {H : Hp} {te tf : TE} {ta tb : TA} {P : PR} {Ps Qs : List PR} {v : V} {i : Nat} {C fI : Addr} {f g : Str} {x y z : V}
theorem var (h : σ[i]? = some (some v)) : Gives (tVar i) σ H (is v) := fun H1 _ _ q => ⟨v, h, q _ _ (Ex.refl H1) rfl⟩
theorem cst : Gives (tC v) σ H (is v) := fun H1 _ _ q => q _ _ (Ex.refl H1) rfl
theorem nil : GivesA tNil σ H [] := fun H1 _ _ q => q _ _ (Ex.refl H1) .nil
theorem cons (h : Gives te σ H P) (t : GivesA ta σ H Ps) : GivesA (tCons te ta) σ H (P :: Ps) := fun H1 e Q q =>
  h H1 e _ fun v H2 e2 hv => t H2 (e.trans e2) _ fun vs H3 e3 hs => q _ _ (e2.trans e3) (.cons (P.mono _ _ _ e3 hv) hs)
theorem tuple (h : GivesA ta σ H Ps) (hl : Ps.length ≤ 1000) : Gives (tTup ta) σ H (tup Ps) := fun H1 e Q q =>
  h H1 e _ fun vs H2 e2 hs => ⟨by rw [hs.length, sizeLine_eq]; omega, fun p hp => q _ _ (e2.trans (Ex.new hp)) ⟨p, vs, rfl, upd_same, hs.ex (Ex.new hp)⟩⟩
theorem list {H0 : Hp} (e0 : Ex H0 H) (h : GivesA ta σ H Ps) (hl : Ps.length ≤ 1000) : Gives (tLst ta) σ H (lst H0 Ps) := fun H1 e Q q =>
  h H1 e _ fun vs H2 e2 hs => ⟨by rw [hs.length, sizeLine_eq]; omega, fun p hp => q _ _ (e2.trans (Ex.new hp)) ⟨p, vs, rfl, upd_same, ((e0.trans e).trans e2).back hp, hs.ex (Ex.new hp)⟩⟩
theorem listN {H0 : Hp} (e0 : Ex H0 H) (h : GivesA ta σ H Ps) (hl : Ps.length ≤ 1000) : Gives (tLstN ta) σ H (lstN H0 Ps) := fun H1 e Q q =>
  h H1 e _ fun vs H2 e2 hs => ⟨by rw [hs.length, sizeLine_eq]; omega, fun p hp hn => q _ _ (e2.trans (Ex.new hp)) ⟨p, vs, rfl, upd_same, ((e0.trans e).trans e2).back hp, hn, hs.ex (Ex.new hp)⟩⟩
/-- xs + ys, both new -/
theorem cat {H0 : Hp} (e0 : Ex H0 H) (h : Gives te σ H (lst H0 Ps)) (k : Gives tf σ H (lst H0 Qs)) (hl : Ps.length + Qs.length ≤ 1000) : Gives (tOp rCat te tf) σ H (lst H0 (Ps ++ Qs)) := fun H1 e Q q => by
  refine h H1 e _ fun v H2 e2 hv => k H2 (e.trans e2) _ fun u H3 e3 hu => ?_
  obtain ⟨a, vs, rfl, ha, na, va⟩ := (lst H0 Ps).mono _ _ _ e3 hv
  obtain ⟨b, ws, rfl, hb, nb, vb⟩ := hu
  refine ⟨a, b, vs, ws, rfl, rfl, ha, hb, by rw [va.length, vb.length, sizeLine_eq]; omega, fun p hp => ?_⟩
  exact q _ _ ((e2.trans e3).trans (Ex.new hp)) ⟨p, _, rfl, upd_same, (((e0.trans e).trans e2).trans e3).back hp, (va.append vb).ex (Ex.new hp)⟩
theorem varP (h : σ[i]? = some (some v)) (hp : P.R v H) : Gives (tVar i) σ H P := fun H1 e _ q => ⟨v, h, q _ _ (Ex.refl H1) (P.mono _ _ _ e hp)⟩
/-- C(e): the one field -/
theorem err1 {gV : List V → List V → List V} (T : OexC K C) (hf : PySem.W.findIn K (.ref C) f = some none) (h : Gives te σ H (is y)) (hg : ∀ a u, gV [.ref a, u] [] = [.ref a, u]) : Gives (tMkV C 1 0 (spInit1 K f) gV E0 (tCons te tNil) tNil) σ H (err C [(f, y)]) := fun H1 e Q q =>
  h H1 e _ fun v H2 e2 hv => ⟨rfl, rfl, fun a ha => by
    rw [hg, show v = y from hv]
    refine ⟨a, C, y, rfl, T, hf, upd_same, fun d hd ne => ⟨rfl, q _ _ (e2.trans ?_) ⟨a, rfl, .inr ⟨d, upd_same, by rw [upd_ne ne, upd_same]⟩⟩⟩⟩
    have hd' : H2 d = none := by rw [upd_ne ne] at hd; exact hd
    intro b o z
    rw [upd_ne (ne_of_none z ha), upd_ne (ne_of_none z hd'), upd_ne (ne_of_none z ha)]
    exact z⟩
/-- C(f = e) -/
theorem err1K {gV : List V → List V → List V} (T : OexC K C) (hf : PySem.W.findIn K (.ref C) f = some none) (h : Gives te σ H (is y)) (hg : ∀ a u, gV [.ref a] [u] = [.ref a, u]) : Gives (tMkV C 0 1 (spInit1 K f) gV E0 tNil (tCons te tNil)) σ H (err C [(f, y)]) := fun H1 e Q q =>
  h H1 e _ fun v H2 e2 hv => ⟨rfl, rfl, fun a ha => by
    rw [hg, show v = y from hv]
    refine ⟨a, C, y, rfl, T, hf, upd_same, fun d hd ne => ⟨rfl, q _ _ (e2.trans ?_) ⟨a, rfl, .inr ⟨d, upd_same, by rw [upd_ne ne, upd_same]⟩⟩⟩⟩
    have hd' : H2 d = none := by rw [upd_ne ne] at hd; exact hd
    intro b o z
    rw [upd_ne (ne_of_none z ha), upd_ne (ne_of_none z hd'), upd_ne (ne_of_none z ha)]
    exact z⟩
theorem init2_end {H1 H2 : Hp} {Q : VK} {a d : Addr} (e : Ex H1 H2) (ha : H2 a = none) (hd : upd H2 a (exo a C none) d = none) (ne : d ≠ a) (q : ∀ v H3, Ex H1 H3 → (err C [(g, z), (f, y)]).R v H3 → Q v H3) :
    Q (.ref a) (upd (upd (upd (upd H2 a (exo a C none)) d (exd d [(f, y)])) a (exo a C (some d))) d (exd d [(g, z), (f, y)])) := by
  have hd' : H2 d = none := by rw [upd_ne ne] at hd; exact hd
  refine q _ _ (e.trans fun b o w => ?_) ⟨a, rfl, .inr ⟨d, by rw [upd_ne ne.symm, upd_same], upd_same⟩⟩
  rw [upd_ne (ne_of_none w hd'), upd_ne (ne_of_none w ha), upd_ne (ne_of_none w hd'), upd_ne (ne_of_none w ha)]
  exact w
/-- C(f = e, g = e') in the written order of the two -/
theorem err2K {gV : List V → List V → List V} (T : OexC K C) (hf : PySem.W.findIn K (.ref C) f = some none) (hg0 : PySem.W.findIn K (.ref C) g = some none) (h : Gives te σ H (is z)) (k : Gives tf σ H (is y))
    (hg : ∀ a u w, gV [.ref a] [u, w] = [.ref a, w, u]) : Gives (tMkV C 0 2 (spInit2 K f g) gV E0 tNil (tCons te (tCons tf tNil))) σ H (err C [(g, z), (f, y)]) := fun H1 e Q q =>
  h H1 e _ fun v H2 e2 hv => k H2 (e.trans e2) _ fun u H3 e3 hu => ⟨rfl, rfl, fun a ha => by
    rw [hg, show v = z from hv, show u = y from hu]
    exact ⟨a, C, y, z, rfl, T, hf, hg0, upd_same, fun d hd ne => ⟨rfl, init2_end (e2.trans e3) ha hd ne q⟩⟩⟩
/-- C(e, g = e') -/
theorem err2P {gV : List V → List V → List V} (T : OexC K C) (hf : PySem.W.findIn K (.ref C) f = some none) (hg0 : PySem.W.findIn K (.ref C) g = some none) (h : Gives te σ H (is y)) (k : Gives tf σ H (is z))
    (hg : ∀ a u w, gV [.ref a, u] [w] = [.ref a, u, w]) : Gives (tMkV C 1 1 (spInit2 K f g) gV E0 (tCons te tNil) (tCons tf tNil)) σ H (err C [(g, z), (f, y)]) := fun H1 e Q q =>
  h H1 e _ fun v H2 e2 hv => k H2 (e.trans e2) _ fun u H3 e3 hu => ⟨rfl, rfl, fun a ha => by
    rw [hg, show v = y from hv, show u = z from hu]
    exact ⟨a, C, y, z, rfl, T, hf, hg0, upd_same, fun d hd ne => ⟨rfl, init2_end (e2.trans e3) ha hd ne q⟩⟩⟩
theorem err0 : Gives (tExc0 C) σ H (err C []) := fun H1 _ Q q a ha => q _ _ (Ex.new ha) ⟨a, rfl, .inl ⟨rfl, upd_same⟩⟩
variable {u : TS} {D : Ends}
theorem st_set (h : Gives te σ H P) (k : ∀ v H1, Ex H H1 → P.R v H1 → u D (σ.set i (some v)) H1) : tSeq (tAsg te (gName i)) u D σ H := h H (Ex.refl H) _ k
theorem go {Q : VK} (h : Gives te σ H P) (k : ∀ v H1, Ex H H1 → P.R v H1 → Q v H1) : te σ H Q := h H (Ex.refl H) _ k
theorem st_ret (h : Gives te σ H P) (k : ∀ v H1, Ex H H1 → P.R v H1 → D.rt v H1) : tRet te D σ H := h H (Ex.refl H) _ k
end
end EvP

set_option Elab.async false
set_option linter.all false
set_option maxRecDepth 100000
set_option maxHeartbeats 4000000
namespace K01
open PySem PySem.Spec PyProof.Rows L2
def top (i : Nat) : Stmt := PySem.Challenge.pw_filledrow_k01_errors_and_their_fields.main.body.getD i (.Pass ⟨0, 0, 0, 0⟩)
abbrev sPen : Stmt := top 25
abbrev sDraw : Stmt := top 26
abbrev sPick : Stmt := top 27
/-! ### the pen -/
/-- the pen at p: its cells ns at q, how many were drawn, what is left of a great one -/
structure Pen (H : Hp) (p q : Addr) (ns : List Int) (s g : Int) : Prop where
  p : H p = some (.lst [.ref q, .int s, .int g])
  q : H q = some (.lst (ns.map V.int))
theorem Pen.ne {H : Hp} {p q : Addr} {ns : List Int} {s g : Int} (x : Pen H p q ns s g) : p ≠ q := ne_of x.p x.q (by
  intro z
  cases ns with
  | nil => cases z
  | cons a r => cases z)
/-- all stands but at p -/
def But (p : Addr) (H H' : Hp) : Prop := ∀ b o, H b = some o → b ≠ p → H' b = some o
def spPen (K : PySem.W.Frag) : Sp := fun vs H Q _ => ∃ (a : Addr) (ns : List Int), vs = [.ref a] ∧ SqL K H a (ns.map V.int) ∧ ns.length ≤ 63 ∧
  ∀ (p q : Addr) (ms : List Int) (H' : Hp), ms.length ≤ 63 → Pen H' p q ms 0 0 → (∀ b o, H b = some o → H' b = some o) → Q (.ref p) H'
def spDraw : Sp := fun vs H Q _ => ∃ (p q : Addr) (ns : List Int) (s g m : Int), vs = [.ref p, .int m] ∧ Pen H p q ns s g ∧ ns.length ≤ 63 ∧ 0 ≤ s ∧ s < 100000 ∧ 0 < m ∧ m < 100000 ∧
  ∀ (k s' g' : Int) (H' : Hp), 0 ≤ k → k < m → s ≤ s' → s' ≤ s + 1 → Pen H' p q ns s' g' → But p H H' → Q (.int k) H'
/-- the built-ins that are still themselves -/
structure Blt (mg : Str → Option Value) : Prop where
  int : mg "int" = none
  len : mg "len" = none
  abs : mg "abs" = none
  lst : mg "list" = none
section
variable {P : Program} {w : World} {K : PySem.W.Frag} {mg : Str → Option Value} {base : Heap} {f : Addr} {fd : FuncData}
theorem scPen : FnScope ["script"] ["script"] (defScope sPen) := ⟨rfl, rfl, rfl, by decide +kernel, rfl, by decide +kernel, by decide +kernel⟩
theorem ints_cut : ∀ (ns : List Int) (lo hi : Option Int), ∃ ms : List Int, cutV (ns.map V.int) lo hi = ms.map V.int ∧ ms.length ≤ ns.length := by
  intro ns lo hi
  refine ⟨(ns.drop (HT.sIx (ns.map V.int).length 0 lo)).take (HT.sIx (ns.map V.int).length (ns.map V.int).length hi - HT.sIx (ns.map V.int).length 0 lo), ?_, ?_⟩
  · unfold cutV
    rw [List.map_take, List.map_drop]
  · rw [List.length_take, List.length_drop]
    omega
theorem ok_pen (F : Fun K "_law_pen" "_law_pen" sPen f fd) (T : Blt mg) : FnOk P w K mg base CX0 1 f fd ["script"] (spPen K) := by
  refine F.ok scPen (fun vs H Q E h => ?_) (fun cdv A outer s H vs Q E hr h => ?_)
  · obtain ⟨a, ns, rfl, _⟩ := h
    rfl
  · obtain ⟨a, ns, rfl, hS, hl, k⟩ := h
    refine ⟨_, pss_one (ps_ret (pe_lst (pa_cons (pe_callTy call_list_of (by rfl) T.lst (by decide +kernel) (pa_cons (pe_slice sl_list (pv 0) po_none (po_some pe_int)) pa_nil)) (pa_cons pe_int (pa_cons pe_int pa_nil))))), ?_⟩
    obtain ⟨ms, e, hm⟩ := ints_cut ns none (some 59)
    refine ⟨_, rfl, _, rfl, a, _, rfl, hS, fun p hp => ?_⟩
    rw [e]
    refine ⟨p, _, rfl, .inl (SqL.of upd_same), fun l hl' => ⟨by show 3 ≤ sizeLine; decide, fun r hr' => ?_⟩⟩
    have nl : l ≠ p := fun z => by
      rw [z, upd_same] at hl'
      cases hl'
    have nr : r ≠ l := fun z => by
      rw [z, upd_same] at hr'
      cases hr'
    refine k r l ms _ (by omega) ⟨upd_same, by rw [upd_ne nr.symm, upd_same]⟩ fun b o z => ?_
    have z1 : (upd H p (.lst (ms.map V.int))) b = some o := by rw [upd_ne (ne_of_none z hp)]; exact z
    have z2 : (upd (upd H p (.lst (ms.map V.int))) l (.lst (ms.map V.int))) b = some o := by rw [upd_ne (ne_of_none z1 hl')]; exact z1
    rw [upd_ne (ne_of_none z2 hr')]
    exact z2
end
end K01

set_option Elab.async false
set_option linter.all false
set_option maxRecDepth 100000
set_option maxHeartbeats 4000000
namespace K01
open PySem PySem.Spec PyProof.Rows L2
theorem scDraw : FnScope ["pen", "many", "digit", "spot", "cell", "great", "mixed"] ["pen", "many"] (defScope sDraw) := ⟨rfl, rfl, rfl, by decide +kernel, rfl, by decide +kernel, by decide +kernel⟩
theorem fm (i : Int) {m : Int} (h : 0 < m) : 0 ≤ i.fmod m ∧ i.fmod m < m := ⟨Int.fmod_nonneg_of_pos i h, Int.fmod_lt_of_pos i h⟩
theorem dp_ints {K : PySem.W.Frag} {H : Hp} : ∀ ns : List Int, DpAll K H (ns.map V.int) (ns.map PyData.int)
  | [] => .nil
  | n :: r => .cons (.int n) (dp_ints r)
theorem lay_ints : ∀ ns : List Int, PyData.canLayAll0 (ns.map PyData.int) = true
  | [] => rfl
  | n :: r => by
    show (PyData.canLay0 (.int n) && PyData.canLayAll0 (r.map PyData.int)) = true
    rw [lay_ints r]
    rfl
theorem deep_ints : ∀ ns : List Int, PyData.depthAll (ns.map PyData.int) ≤ 1
  | [] => Nat.zero_le _
  | n :: r => by
    have := deep_ints r
    show max (PyData.depth (.int n)) (PyData.depthAll (r.map PyData.int)) ≤ 1
    have e : PyData.depth (.int n) = 0 := rfl
    omega
theorem shaped_ints (ns : List Int) : SeqAt.shaped (.list (ns.map PyData.int)) = true := by
  have h1 : PyData.canLay0 (.list (ns.map PyData.int)) = true := lay_ints ns
  have h2 : PyData.depth (.list (ns.map PyData.int)) ≤ 64 := by
    have := deep_ints ns
    show PyData.depthAll (ns.map PyData.int) + 1 ≤ 64
    omega
  unfold SeqAt.shaped
  rw [h1, decide_eq_true h2]
  rfl
theorem eqv_none (ns : List Int) : PyData.eqv (.list (ns.map PyData.int)) (.list []) = ns.isEmpty := by
  cases ns <;> rfl
section
variable {P : Program} {w : World} {K : PySem.W.Frag} {mg : Str → Option Value} {base : Heap} {f : Addr} {fd : FuncData}
theorem ok_draw (F : Fun K "_law_draw" "_law_draw" sDraw f fd) (T : Blt mg) : FnOk P w K mg base CX0 1 f fd ["pen", "many"] spDraw := by
  refine F.ok scDraw (fun vs H Q E h => ?_) (fun cdv A outer s H vs Q E hr h => ?_)
  · obtain ⟨p, q, ns, s, g, m, rfl, _⟩ := h
    rfl
  · obtain ⟨p, q, ns, s, g, m, rfl, hP, hl, hs0, hs1, hm0, hm1, k⟩ := h
    have nd := scDraw.nd
    have hu : (cxOf CX0 P w K mg base ["pen", "many", "digit", "spot", "cell", "great", "mixed"] "_law_draw" (defScope sDraw) f cdv A outer ‹Shared› H E).nox.A.units + 64 < cLine := by
      have z := hr.un
      show (A.deeper _).units + 64 < cLine
      omega
    refine ⟨_, pss_cons (ps_if (pt_cmpR op_gt (pe_ix ix_list (pv 0) pe_int (fun _ _ => rfl)) pe_int (nomark _))
        (pss_cons (ps_set (i := 2) nd rfl (Or.inl rfl) (pe_op op_modN (pe_callTy call_int1 (by rfl) T.int (by decide +kernel) (pa_cons (pe_ix ix_list (pv 0) pe_int (fun _ _ => rfl)) pa_nil)) (pv 1)))
          (pss_cons (ps_asg (pe_op op_fdivN (pe_callTy call_int1 (by rfl) T.int (by decide +kernel) (pa_cons (pe_ix ix_list (pv 0) pe_int (fun _ _ => rfl)) pa_nil)) (pv 1)) (pg_sub (pv 0) pe_int set_list))
            (pss_one (ps_ret (pv 2))))) pss_nil)
      (pss_cons (ps_set (i := 3) nd rfl (Or.inl rfl) (pe_ix ix_list (pv 0) pe_int (fun _ _ => rfl)))
      (pss_cons (ps_asg (pe_op op_add (pv 3) pe_int) (pg_sub (pv 0) pe_int set_list))
      (pss_cons (ps_set (i := 4) nd rfl (Or.inl rfl) (pe_op op_add (pe_op op_mul pe_int (pv 3)) pe_int))
      (pss_cons (ps_if (pt_cmpR (op_neD hu) (pe_ix ix_list (pv 0) pe_int (fun _ _ => rfl)) (pe_lst pa_nil) (nomark _))
        (pss_one (ps_set (i := 4) nd rfl (Or.inl rfl) (pe_ix ix_list (pe_ix ix_list (pv 0) pe_int (fun _ _ => rfl))
          (pe_op op_modN (pe_callTy call_int1 (by rfl) T.int (by decide +kernel) (pa_cons (pv 3) pa_nil)) (pe_callB call_len_seq (by rfl) T.len PySem.boot_len (pa_cons (pe_ix ix_list (pv 0) pe_int (fun _ _ => rfl)) pa_nil))) (fun _ _ => rfl)))) pss_nil)
      (pss_cons (ps_if (PW.pt (pw_and (pt_cmpR op_lt (pv 3) (pe_callB call_len_seq (by rfl) T.len PySem.boot_len (pa_cons (pe_ix ix_list (pv 0) pe_int (fun _ _ => rfl)) pa_nil)) (nomark _))
          (pw_and1 (pt_cmpR op_ge (pe_callB call_abs (by rfl) T.abs (by decide +kernel) (pa_cons (pv 4) pa_nil)) (pe_op op_pow pe_int pe_int) (nomark _)))))
        (pss_cons (ps_set (i := 5) nd rfl (Or.inl rfl) (pe_op op_add (pe_op op_mul pe_int (pe_op op_sub (pe_callB call_abs (by rfl) T.abs (by decide +kernel) (pa_cons (pv 4) pa_nil)) (pe_op op_pow pe_int pe_int)))
            (pe_callTy call_int1 (by rfl) T.int (by decide +kernel) (pa_cons (pe_cmpR op_lt (pv 4) pe_int (nomark _)) pa_nil))))
          (pss_cons (ps_asg (pe_op op_fdivN (pe_callTy call_int1 (by rfl) T.int (by decide +kernel) (pa_cons (pv 5) pa_nil)) (pv 1)) (pg_sub (pv 0) pe_int set_list))
            (pss_one (ps_ret (pe_op op_modN (pe_callTy call_int1 (by rfl) T.int (by decide +kernel) (pa_cons (pv 5) pa_nil)) (pv 1)))))) pss_nil)
      (pss_cons (ps_set (i := 6) nd rfl (Or.inl rfl) (pe_op op_modN (pe_callTy call_int1 (by rfl) T.int (by decide +kernel) (pa_cons (pe_op op_pow (pe_op op_add (pe_op op_add (pe_op op_modN (pe_callTy call_int1 (by rfl) T.int (by decide +kernel) (pa_cons (pv 4) pa_nil)) pe_int) (pe_op op_mul pe_int (pv 3))) pe_int) pe_int) pa_nil)) pe_int))
      (pss_cons (ps_set (i := 6) nd rfl (Or.inl rfl) (pe_op op_modN (pe_callTy call_int1 (by rfl) T.int (by decide +kernel) (pa_cons (pe_op op_pow (pe_op op_add (pe_op op_add (pe_op op_mul (pv 6) (pe_op op_add (pe_op op_mul pe_int (pv 3)) pe_int)) (pe_op op_mul (pe_op op_mul pe_int (pv 3)) (pv 3))) pe_int) pe_int) pa_nil)) pe_int))
      (pss_one (ps_ret (pe_op op_modN (pe_callTy call_int1 (by rfl) T.int (by decide +kernel) (pa_cons (pe_op op_fdivN (pv 6) pe_int) pa_nil)) (pv 1))))))))))), ?_⟩
    -- if pen[2] > 0
    refine ⟨_, rfl, p, _, 2, .int g, rfl, rfl, SqL.of hP.p, rfl, g, 0, rfl, rfl, _, rfl, ?_⟩
    refine ite2 (fun c => ?_) (fun c => ?_)
    · refine ⟨_, rfl, p, _, 2, .int g, rfl, rfl, SqL.of hP.p, rfl, .inl ⟨g, rfl, _, rfl, g, m, rfl, rfl, by omega, ?_⟩⟩
      refine ⟨_, rfl, p, _, 2, .int g, rfl, rfl, SqL.of hP.p, rfl, .inl ⟨g, rfl, _, rfl, g, m, rfl, rfl, ⟨by omega, by omega⟩, ?_⟩⟩
      refine ⟨_, rfl, p, _, 2, 2, rfl, rfl, hP.p, rfl, ?_⟩
      refine ⟨_, rfl, k _ s (g.fdiv m) _ (fm g hm0).1 (fm g hm0).2 (Int.le_refl _) (by omega) ⟨upd_same, ?_⟩ fun b o e hb => ?_⟩
      · rw [upd_ne hP.ne.symm]
        exact hP.q
      · rw [upd_ne hb]
        exact e
    · -- spot = pen[1]; pen[1] = spot + 1; cell = ..
      refine ⟨_, rfl, p, _, 1, .int s, rfl, rfl, SqL.of hP.p, rfl, ?_⟩
      refine ⟨_, rfl, s, 1, rfl, rfl, ?_⟩
      refine ⟨_, rfl, p, _, 1, 1, rfl, rfl, hP.p, rfl, ?_⟩
      have hP1 : Pen (upd H p (.lst [.ref q, .int (s + 1), .int g])) p q ns (s + 1) g := ⟨upd_same, by rw [upd_ne hP.ne.symm]; exact hP.q⟩
      have hB1 : But p H (upd H p (.lst [.ref q, .int (s + 1), .int g])) := fun b o e hb => by rw [upd_ne hb]; exact e
      refine ⟨_, rfl, 47466, s, rfl, rfl, .inl ⟨by decide, by decide⟩, _, _, rfl, rfl, ?_⟩
      -- if pen[0] != []
      refine ⟨_, rfl, p, _, 0, .ref q, rfl, rfl, SqL.of hP1.p, rfl, by decide, fun l hl' => ?_⟩
      have hP2 : Pen (upd (upd H p (.lst [.ref q, .int (s + 1), .int g])) l (.lst [])) p q ns (s + 1) g :=
        ⟨by rw [upd_ne (ne_of_none hP1.p hl')]; exact hP1.p, by rw [upd_ne (ne_of_none hP1.q hl')]; exact hP1.q⟩
      have hB2 : But p H (upd (upd H p (.lst [.ref q, .int (s + 1), .int g])) l (.lst [])) := fun b o e hb => by
        rw [upd_ne (ne_of_none (hB1 b o e hb) hl')]
        exact hB1 b o e hb
      refine ⟨_, _, .lst (SqL.of hP2.q) (dp_ints ns), .lst (SqL.of upd_same) .nil, shaped_ints ns, rfl, _, rfl, ?_⟩
      rw [eqv_none]
      cases ns with
      | nil =>
        refine iteF ?_
        refine ⟨_, rfl, _, rfl, p, _, 0, .ref q, rfl, rfl, SqL.of hP2.p, rfl, q, _, rfl, .inl (SqL.of hP2.q), s, _, rfl, rfl, _, rfl, ?_⟩
        have e : decide (s < (((([] : List Int).map V.int).length : Nat) : Int)) = false := decide_eq_false (by show ¬ s < 0; omega)
        rw [e]
        refine iteF (iteF ?_)
        -- mixed = ..
        refine ⟨_, rfl, .inl ⟨47466 * s + 2248, rfl, ?_⟩⟩
        refine ⟨47466 * s + 2248, 2147483543, rfl, rfl, (show (2147483543 : Int) ≠ 0 by decide), ?_⟩
        refine ⟨_, rfl, 51116, s, rfl, rfl, .inl ⟨by decide, by decide⟩, ?_⟩
        refine ⟨_, _, rfl, rfl, _, _, rfl, rfl, ?_⟩
        have b1 := fm (47466 * s + 2248) (show (0 : Int) < 2147483543 by decide)
        refine ⟨_, 5, rfl, rfl, ⟨by decide, by decide, by omega⟩, .inl ⟨_, rfl, _, 2147483563, rfl, rfl, (show (2147483563 : Int) ≠ 0 by decide), ?_⟩⟩
        have b2 := fm ((Int.fmod (47466 * s + 2248) 2147483543 + 51116 * s + 646) ^ (5 : Int).toNat) (show (0 : Int) < 2147483563 by decide)
        obtain ⟨y, hy⟩ : ∃ y, y = Int.fmod ((Int.fmod (47466 * s + 2248) 2147483543 + 51116 * s + 646) ^ (5 : Int).toNat) 2147483563 := ⟨_, rfl⟩
        rw [← hy] at b2
        refine ⟨_, rfl, _, rfl, 2, s, rfl, rfl, .inl ⟨by decide, by decide⟩, _, _, rfl, rfl, y, _, congrArg V.int hy.symm, rfl, .inl ⟨by omega, by omega⟩, ?_⟩
        refine ⟨_, rfl, 52950, s, rfl, rfl, .inl ⟨by decide, by decide⟩, _, rfl, _, s, rfl, rfl, .inr ⟨by omega, by omega⟩, ?_⟩
        refine ⟨_, _, rfl, rfl, _, _, rfl, rfl, ?_⟩
        have b3 : 0 ≤ y * (2 * s + 241) ∧ y * (2 * s + 241) ≤ 2147483563 * 300000 := ⟨Int.mul_nonneg b2.1 (by omega), Int.mul_le_mul (by omega) (by omega) (by omega) (by decide)⟩
        have b4 : 0 ≤ 52950 * s * s ∧ 52950 * s * s ≤ 5295000000 * 100000 := ⟨Int.mul_nonneg (by omega) hs0, Int.mul_le_mul (by omega) (by omega) hs0 (by decide)⟩
        refine ⟨_, 3, rfl, rfl, ⟨by decide, by decide, by omega⟩, .inl ⟨_, rfl, _, 2147483629, rfl, rfl, (show (2147483629 : Int) ≠ 0 by decide), ?_⟩⟩
        refine ⟨_, rfl, _, 32, rfl, rfl, ⟨by decide, by decide⟩, .inl ⟨_, rfl, _, rfl, _, m, rfl, rfl, by omega, ?_⟩⟩
        exact k _ (s + 1) g _ (fm _ hm0).1 (fm _ hm0).2 (by omega) (Int.le_refl _) hP2 hB2
      | cons n0 r =>
        refine iteT ?_
        -- cell = pen[0][int(spot) % len(pen[0])]
        refine ⟨_, rfl, p, _, 0, .ref q, rfl, rfl, SqL.of hP2.p, rfl, ?_⟩
        refine ⟨_, rfl, .inl ⟨s, rfl, _, rfl, p, _, 0, .ref q, rfl, rfl, SqL.of hP2.p, rfl, q, _, rfl, .inl (SqL.of hP2.q), s, _, rfl, rfl, ?_, ?_⟩⟩
        · rw [List.length_map, List.length_cons]
          omega
        have hn : (0 : Int) < (((((n0 :: r) : List Int).map V.int).length : Nat) : Int) := by
          rw [List.length_map, List.length_cons]
          omega
        have b0 := fm s hn
        obtain ⟨c, hc⟩ : ∃ c : Int, atI ((n0 :: r).map V.int) (s.fmod ((((n0 :: r).map V.int).length : Nat) : Int)) = some (.int c) := by
          have hj : (s.fmod ((((n0 :: r).map V.int).length : Nat) : Int)).toNat < (n0 :: r).length := by
            rw [List.length_map] at b0 ⊢
            omega
          refine ⟨(n0 :: r)[(s.fmod ((((n0 :: r).map V.int).length : Nat) : Int)).toNat]'hj, at_of (j := (s.fmod ((((n0 :: r).map V.int).length : Nat) : Int)).toNat) (by omega) ?_⟩
          rw [List.getElem?_map, List.getElem?_eq_getElem hj]
          rfl
        refine ⟨q, _, _, .int c, rfl, rfl, SqL.of hP2.q, hc, ?_⟩
        -- if spot < len(pen[0]) and abs(cell) >= 10 ** 18
        refine ⟨_, rfl, _, rfl, p, _, 0, .ref q, rfl, rfl, SqL.of hP2.p, rfl, q, _, rfl, .inl (SqL.of hP2.q), s, _, rfl, rfl, _, rfl, ?_⟩
        refine ite2 (fun c1 => ?_) (fun c1 => iteF ?_)
        · refine ⟨_, rfl, c, rfl, 10, 18, rfl, rfl, ⟨by decide, by decide, by decide⟩, _, _, rfl, rfl, _, rfl, ?_⟩
          refine ite2 (fun c2 => ?_) (fun c2 => ?_)
          · -- great
            refine ⟨_, rfl, c, rfl, 10, 18, rfl, rfl, ⟨by decide, by decide, by decide⟩, _, _, rfl, rfl, 2, _, rfl, rfl, .inl ⟨by decide, by decide⟩, ?_⟩
            refine ⟨_, rfl, c, 0, rfl, rfl, .inr ⟨_, rfl, _, _, rfl, rfl, ?_⟩⟩
            refine ⟨_, rfl, .inl ⟨_, rfl, _, rfl, _, m, rfl, rfl, ⟨by omega, by omega⟩, ?_⟩⟩
            refine ⟨_, rfl, p, _, 2, 2, rfl, rfl, hP2.p, rfl, ?_⟩
            refine ⟨_, rfl, .inl ⟨_, rfl, _, rfl, _, m, rfl, rfl, by omega, ?_⟩⟩
            refine k _ (s + 1) _ _ (fm _ hm0).1 (fm _ hm0).2 (by omega) (Int.le_refl _) ⟨upd_same, ?_⟩ fun b o e hb => ?_
            · rw [upd_ne hP2.ne.symm]
              exact hP2.q
            · rw [upd_ne hb]
              exact hB2 b o e hb
          · show tNext _ _ _
            -- mixed = ..
            refine ⟨_, rfl, .inl ⟨c, rfl, ?_⟩⟩
            refine ⟨c, 2147483543, rfl, rfl, (show (2147483543 : Int) ≠ 0 by decide), ?_⟩
            refine ⟨_, rfl, 51116, s, rfl, rfl, .inl ⟨by decide, by decide⟩, ?_⟩
            refine ⟨_, _, rfl, rfl, _, _, rfl, rfl, ?_⟩
            have b1 := fm (c) (show (0 : Int) < 2147483543 by decide)
            refine ⟨_, 5, rfl, rfl, ⟨by decide, by decide, by omega⟩, .inl ⟨_, rfl, _, 2147483563, rfl, rfl, (show (2147483563 : Int) ≠ 0 by decide), ?_⟩⟩
            have b2 := fm ((Int.fmod (c) 2147483543 + 51116 * s + 646) ^ (5 : Int).toNat) (show (0 : Int) < 2147483563 by decide)
            obtain ⟨y, hy⟩ : ∃ y, y = Int.fmod ((Int.fmod (c) 2147483543 + 51116 * s + 646) ^ (5 : Int).toNat) 2147483563 := ⟨_, rfl⟩
            rw [← hy] at b2
            refine ⟨_, rfl, _, rfl, 2, s, rfl, rfl, .inl ⟨by decide, by decide⟩, _, _, rfl, rfl, y, _, congrArg V.int hy.symm, rfl, .inl ⟨by omega, by omega⟩, ?_⟩
            refine ⟨_, rfl, 52950, s, rfl, rfl, .inl ⟨by decide, by decide⟩, _, rfl, _, s, rfl, rfl, .inr ⟨by omega, by omega⟩, ?_⟩
            refine ⟨_, _, rfl, rfl, _, _, rfl, rfl, ?_⟩
            have b3 : 0 ≤ y * (2 * s + 241) ∧ y * (2 * s + 241) ≤ 2147483563 * 300000 := ⟨Int.mul_nonneg b2.1 (by omega), Int.mul_le_mul (by omega) (by omega) (by omega) (by decide)⟩
            have b4 : 0 ≤ 52950 * s * s ∧ 52950 * s * s ≤ 5295000000 * 100000 := ⟨Int.mul_nonneg (by omega) hs0, Int.mul_le_mul (by omega) (by omega) hs0 (by decide)⟩
            refine ⟨_, 3, rfl, rfl, ⟨by decide, by decide, by omega⟩, .inl ⟨_, rfl, _, 2147483629, rfl, rfl, (show (2147483629 : Int) ≠ 0 by decide), ?_⟩⟩
            refine ⟨_, rfl, _, 32, rfl, rfl, ⟨by decide, by decide⟩, .inl ⟨_, rfl, _, rfl, _, m, rfl, rfl, by omega, ?_⟩⟩
            exact k _ (s + 1) g _ (fm _ hm0).1 (fm _ hm0).2 (by omega) (Int.le_refl _) hP2 hB2
        · -- mixed = ..
          refine ⟨_, rfl, .inl ⟨c, rfl, ?_⟩⟩
          refine ⟨c, 2147483543, rfl, rfl, (show (2147483543 : Int) ≠ 0 by decide), ?_⟩
          refine ⟨_, rfl, 51116, s, rfl, rfl, .inl ⟨by decide, by decide⟩, ?_⟩
          refine ⟨_, _, rfl, rfl, _, _, rfl, rfl, ?_⟩
          have b1 := fm (c) (show (0 : Int) < 2147483543 by decide)
          refine ⟨_, 5, rfl, rfl, ⟨by decide, by decide, by omega⟩, .inl ⟨_, rfl, _, 2147483563, rfl, rfl, (show (2147483563 : Int) ≠ 0 by decide), ?_⟩⟩
          have b2 := fm ((Int.fmod (c) 2147483543 + 51116 * s + 646) ^ (5 : Int).toNat) (show (0 : Int) < 2147483563 by decide)
          obtain ⟨y, hy⟩ : ∃ y, y = Int.fmod ((Int.fmod (c) 2147483543 + 51116 * s + 646) ^ (5 : Int).toNat) 2147483563 := ⟨_, rfl⟩
          rw [← hy] at b2
          refine ⟨_, rfl, _, rfl, 2, s, rfl, rfl, .inl ⟨by decide, by decide⟩, _, _, rfl, rfl, y, _, congrArg V.int hy.symm, rfl, .inl ⟨by omega, by omega⟩, ?_⟩
          refine ⟨_, rfl, 52950, s, rfl, rfl, .inl ⟨by decide, by decide⟩, _, rfl, _, s, rfl, rfl, .inr ⟨by omega, by omega⟩, ?_⟩
          refine ⟨_, _, rfl, rfl, _, _, rfl, rfl, ?_⟩
          have b3 : 0 ≤ y * (2 * s + 241) ∧ y * (2 * s + 241) ≤ 2147483563 * 300000 := ⟨Int.mul_nonneg b2.1 (by omega), Int.mul_le_mul (by omega) (by omega) (by omega) (by decide)⟩
          have b4 : 0 ≤ 52950 * s * s ∧ 52950 * s * s ≤ 5295000000 * 100000 := ⟨Int.mul_nonneg (by omega) hs0, Int.mul_le_mul (by omega) (by omega) hs0 (by decide)⟩
          refine ⟨_, 3, rfl, rfl, ⟨by decide, by decide, by omega⟩, .inl ⟨_, rfl, _, 2147483629, rfl, rfl, (show (2147483629 : Int) ≠ 0 by decide), ?_⟩⟩
          refine ⟨_, rfl, _, 32, rfl, rfl, ⟨by decide, by decide⟩, .inl ⟨_, rfl, _, rfl, _, m, rfl, rfl, by omega, ?_⟩⟩
          exact k _ (s + 1) g _ (fm _ hm0).1 (fm _ hm0).2 (by omega) (Int.le_refl _) hP2 hB2
end
end K01

set_option Elab.async false
set_option linter.all false
set_option maxRecDepth 100000
set_option maxHeartbeats 4000000
namespace K01
open PySem PySem.Spec PyProof.Rows L2
abbrev sValue : Stmt := top 28
abbrev sMade : Stmt := top 29
abbrev sNamed : Stmt := top 30
abbrev sFields : Stmt := top 31
abbrev sClasses : Stmt := top 32
abbrev sLaw : Stmt := top 33
/-! ### the fields of a class -/
inductive Kd where
  | one (f : Str) | two (f g : Str) | zero
def txt : Kd → Str
  | .one f => f
  | .two f g => f ++ " " ++ g
  | .zero => ""
def vals : Kd → V → V → List V
  | .one _, y, _ => [y]
  | .two _ _, y, z => [y, z]
  | .zero, _, _ => []
def flds : Kd → V → V → List (Str × V)
  | .one f, y, _ => [(f, y)]
  | .two f g, y, z => [(g, z), (f, y)]
  | .zero, _, _ => []
def names : Kd → List Str
  | .one f => [f]
  | .two f g => [f, g]
  | .zero => []
def kds : List Kd := [.one "value", .one "value", .one "value", .one "part", .one "part", .one "part", .one "value", .one "part", .one "part", .one "part", .one "part", .one "part", .one "value", .one "part",
  .two "line" "word", .one "word", .one "name", .one "pair", .one "name", .two "what" "most", .zero, .zero]
def kd (i : Nat) : Kd := kds.getD i .zero
/-! ### _law_pick, _law_value -/
def spPick : Sp := fun vs H Q _ => ∃ (p q : Addr) (ns : List Int) (s g : Int) (a : Addr) (xs : List V), vs = [.ref p, .ref a] ∧ Pen H p q ns s g ∧ ns.length ≤ 63 ∧ 0 ≤ s ∧ s < 100000 ∧ H a = some (.lst xs) ∧ a ≠ p ∧ 0 < xs.length ∧ xs.length < 100000 ∧
  ∀ (v : V) (s' g' : Int) (H' : Hp), v ∈ xs → s ≤ s' → s' ≤ s + 1 → Pen H' p q ns s' g' → But p H H' → Q v H'
/-- a value that can be shown; nothing of it stands at p -/
def Shw (p : Addr) (H : Hp) (v : V) : Prop := ∃ d : PyData, Dq p H v d ∧ d.showable = true ∧ d.depth ≤ 5 ∧ d.shown.length ≤ 1000
def spValue : Sp := fun vs H Q _ => ∃ (p q : Addr) (ns : List Int) (s g : Int), vs = [.ref p] ∧ Pen H p q ns s g ∧ ns.length ≤ 63 ∧ 0 ≤ s ∧ s < 100000 ∧
  ∀ (v : V) (s' g' : Int) (H' : Hp), Shw p H' v → s ≤ s' → s' ≤ s + 1 → Pen H' p q ns s' g' → But p H H' → Q v H'
theorem scPick : FnScope ["pen", "some"] ["pen", "some"] (defScope sPick) := ⟨rfl, rfl, rfl, by decide +kernel, rfl, by decide +kernel, by decide +kernel⟩
theorem scValue : FnScope ["pen"] ["pen"] (defScope sValue) := ⟨rfl, rfl, rfl, by decide +kernel, rfl, by decide +kernel, by decide +kernel⟩
section
variable {P : Program} {w : World} {K : PySem.W.Frag} {mg : Str → Option Value} {base : Heap} {f fD fP : Addr} {fd fdD fdP : FuncData}
theorem ok_pick (F : Fun K "_law_pick" "_law_pick" sPick f fd) (T : Blt mg) (G : FnOk P w K mg base CX0 1 fD fdD ["pen", "many"] spDraw) (b : Binds K fdD ["pen", "many"] []) (gD : mg "_law_draw" = some (.ref fD)) (kD : PySem.W.keepIn K (.ref fD) = true) :
    FnOk P w K mg base CX0 2 f fd ["pen", "some"] spPick := by
  refine F.ok scPick (fun vs H Q E h => ?_) (fun cdv A outer s H vs Q E hr h => ?_)
  · obtain ⟨p, q, ns, s, g, a, xs, rfl, _⟩ := h
    rfl
  · obtain ⟨p, q, ns, s, g, a, xs, rfl, hP, hl, h0, h1, ha, nap, x0, x1, k⟩ := h
    refine ⟨_, pss_one (ps_ret (pe_ix ix_list (pv 1) (pe_call G hr (by rfl) gD kD b .nil pass0 (pa_cons (pv 0) (pa_cons (pe_callB call_len_seq (by rfl) T.len PySem.boot_len (pa_cons (pv 1) pa_nil)) pa_nil))) (fun _ _ => rfl))), ?_⟩
    refine ⟨_, rfl, _, rfl, _, rfl, a, xs, rfl, .inl (SqL.of ha), p, q, ns, s, g, _, rfl, hP, hl, h0, h1, by omega, by omega, fun n s' g' H' n0 n1 s0 s1 hP' hB => ?_⟩
    have hj : n.toNat < xs.length := by omega
    exact ⟨a, xs, n, xs[n.toNat], rfl, rfl, SqL.of (hB a _ ha nap), at_of (j := n.toNat) (by omega) (List.getElem?_eq_getElem hj), k _ s' g' H' (List.getElem_mem hj) s0 s1 hP' hB⟩
theorem ok_value (F : Fun K "_law_value" "_law_value" sValue f fd) (G : FnOk P w K mg base CX0 2 fP fdP ["pen", "some"] spPick) (b : Binds K fdP ["pen", "some"] []) (gP : mg "_law_pick" = some (.ref fP)) (kP : PySem.W.keepIn K (.ref fP) = true) :
    FnOk P w K mg base CX0 3 f fd ["pen"] spValue := by
  refine F.ok scValue (fun vs H Q E h => ?_) (fun cdv A outer s H vs Q E hr h => ?_)
  · obtain ⟨p, q, ns, s, g, rfl, _⟩ := h
    rfl
  · obtain ⟨p, q, ns, s, g, rfl, hP, hl, h0, h1, k⟩ := h
    refine ⟨_, pss_one (ps_ret (pe_call G hr (by rfl) gP kP b .nil pass0 (pa_cons (pv 0) (pa_cons (pe_lst (pa_cons pe_non (pa_cons pe_bl (pa_cons pe_int (pa_cons (pe_un un_neg pe_int) (pa_cons (pe_op op_pow pe_int pe_int)
      (pa_cons pe_str (pa_cons pe_str (pa_cons pe_str (pa_cons (pe_tup pa_nil) (pa_cons (pe_tup (pa_cons pe_str (pa_cons pe_int pa_nil))) (pa_cons (pe_lstN pa_nil) (pa_cons pe_dnewK (pa_cons pe_bl pa_nil)))))))))))))) pa_nil)))), ?_⟩
    refine ⟨_, rfl, 1, rfl, 10, 39, rfl, rfl, ⟨by decide, by decide, by decide⟩, by show 0 ≤ sizeLine; decide, fun t0 n0 => ⟨by show 2 ≤ sizeLine; decide, fun t1 n1 => ⟨by show 0 ≤ sizeLine; decide, fun l n2 m2 d n3 => ⟨by show 13 ≤ sizeLine; decide, fun a n4 => ?_⟩⟩⟩⟩
    have e1 := EvP.Ex.new (o := .tup []) n0
    have e2 := EvP.Ex.new (o := .tup [V.str "a", V.int 1]) n1
    have e3 := EvP.Ex.new (o := .lst []) n2
    have e4 := EvP.Ex.new (o := .dK []) n3
    have e5 := EvP.Ex.new (o := .lst [V.non, V.bl true, V.int 0, V.int (-1), V.int (10 ^ (39 : Int).toNat), V.str "", V.str "a", V.str "two words", V.ref t0, V.ref t1, V.ref l, V.ref d, V.bl false]) n4
    have all := (((e1.trans e2).trans e3).trans e4).trans e5
    have nap : ∀ {b : Addr} {H1 : Hp}, EvP.Ex H H1 → H1 b = none → b ≠ p := fun {b H1} e z => (ne_of_none (e p _ hP.p) z).symm
    refine ⟨p, q, ns, s, g, a, _, rfl, ⟨all _ _ hP.p, all _ _ hP.q⟩, hl, h0, h1, upd_same, nap (((e1.trans e2).trans e3).trans e4) n4, by show 0 < 13; decide, by show 13 < 100000; decide, fun v s' g' H' hv s0 s1 hP' hB => k v s' g' H' ?_ s0 s1 hP' fun b o z hb => hB b o (all b o z) hb⟩
    have p0 : t0 ≠ p := nap (EvP.Ex.refl H) n0
    have p1 : t1 ≠ p := nap e1 n1
    have p2 : l ≠ p := nap (e1.trans e2) n2
    have p3 : d ≠ p := nap ((e1.trans e2).trans e3) n3
    have g0 : H' t0 = some (.tup []) := hB t0 _ (e5 _ _ (e4 _ _ (e3 _ _ (e2 _ _ upd_same)))) p0
    have g1 : H' t1 = some (.tup [V.str "a", V.int 1]) := hB t1 _ (e5 _ _ (e4 _ _ (e3 _ _ upd_same))) p1
    have g2 : H' l = some (.lst []) := hB l _ (e5 _ _ (e4 _ _ upd_same)) p2
    have g3 : H' d = some (.dK []) := hB d _ (e5 _ _ upd_same) p3
    simp only [List.mem_cons, List.not_mem_nil, or_false] at hv
    rcases hv with rfl | rfl | rfl | rfl | rfl | rfl | rfl | rfl | rfl | rfl | rfl | rfl | rfl
    · exact ⟨_, .non, by decide, by decide, by decide +kernel⟩
    · exact ⟨_, .bl true, by decide, by decide, by decide +kernel⟩
    · exact ⟨_, .int 0, by decide +kernel, by decide, by decide +kernel⟩
    · exact ⟨_, .int (-1), by decide +kernel, by decide, by decide +kernel⟩
    · exact ⟨_, .int _, by decide +kernel, by decide, by decide +kernel⟩
    · exact ⟨_, .str _, by decide +kernel, by decide, by decide +kernel⟩
    · exact ⟨_, .str _, by decide +kernel, by decide, by decide +kernel⟩
    · exact ⟨_, .str _, by decide +kernel, by decide, by decide +kernel⟩
    · exact ⟨_, .tup g0 p0 .nil, by decide +kernel, by decide +kernel, by decide +kernel⟩
    · exact ⟨_, .tup g1 p1 (.cons (.str _) (.cons (.int 1) .nil)), by decide +kernel, by decide +kernel, by decide +kernel⟩
    · exact ⟨_, .lst g2 p2 m2 .nil, by decide +kernel, by decide +kernel, by decide +kernel⟩
    · exact ⟨_, .dct g3 p3, by decide +kernel, by decide +kernel, by decide +kernel⟩
    · exact ⟨_, .bl false, by decide, by decide, by decide +kernel⟩
end
end K01

set_option Elab.async false
set_option linter.all false
set_option maxRecDepth 100000
set_option maxHeartbeats 4000000
namespace K01
open PySem PySem.Spec PyProof.Rows L2
def okKd : List Kd := [.two "line" "word", .two "what" "most", .one "value", .one "part", .one "pair", .one "word", .one "name", .zero]
/-- the class at C lets its fields be read -/
structure Rd (K : PySem.W.Frag) (C : Addr) (k : Kd) : Prop where
  xf : XfC K C
  no : ∀ f ∈ names k, PySem.W.findIn K (.ref C) f = some none
def spFields (K : PySem.W.Frag) : Sp := fun vs H Q _ => ∃ (e C : Addr) (k : Kd) (y z : V), vs = [.ref e, .str (txt k)] ∧ k ∈ okKd ∧ ErrAt H e C (flds k y z) ∧ Rd K C k ∧
  ∀ (v : V) (H' : Hp), EvP.Ex H H' → (EvP.lstN H ((vals k y z).map EvP.is)).R v H' → Q v H'
theorem scFields : FnScope ["error", "names"] ["error", "names"] (defScope sFields) := ⟨rfl, rfl, rfl, by decide +kernel, rfl, by decide +kernel, by decide +kernel⟩
theorem eq_no {a b : Str} {A B : Prop} (h : decide (a = b) = false) (k : B) : if decide (V.str a = V.str b) = true then A else B := by
  have e : V.str a ≠ V.str b := fun z => by
    cases z
    exact absurd rfl (of_decide_eq_false h)
  rw [if_neg (by simpa using e)]
  exact k
theorem eq_yes {a : Str} {A B : Prop} (k : A) : if decide (V.str a = V.str a) = true then A else B := by
  rw [if_pos (by simp)]
  exact k
section
variable {P : Program} {w : World} {K : PySem.W.Frag} {mg : Str → Option Value} {base : Heap} {f : Addr} {fd : FuncData}
theorem fld_gives {σ : L2.St} {H : Hp} {e C : Addr} {n : Str} {fs : List (Str × V)} {v : V} {te : TE} (he : EvP.Gives te σ H (EvP.is (.ref e))) (T : XfC K C) (hno : PySem.W.findIn K (.ref C) n = some none) (hE : ErrAt H e C fs) (hl : fs.lookup n = some v) :
    EvP.Gives (tXv K n te) σ H (EvP.is v) := fun H1 e1 Q q => he H1 e1 _ fun u H2 e2 hu => ⟨e, C, fs, v, hu, T, hno, hE.ex (e1.trans e2), hl, q _ _ e2 rfl⟩
theorem ok_fields (F : Fun K "_law_fields" "_law_fields" sFields f fd) : FnOk P w K mg base CX0 1 f fd ["error", "names"] (spFields K) := by
  refine F.ok scFields (fun vs H Q E h => ?_) (fun cdv A outer s H vs Q E hr h => ?_)
  · obtain ⟨e, C, k, y, z, rfl, _⟩ := h
    rfl
  · obtain ⟨e, C, k, y, z, rfl, hk, hE, R, q⟩ := h
    refine ⟨_, pss_cons (ps_if (pt_cmpR op_eq (pv 1) pe_str (nomark _)) (pss_one (ps_ret (pe_lstN (pa_cons (pe_xv (pv 0)) (pa_cons (pe_xv (pv 0)) pa_nil))))) pss_nil)
      (pss_cons (ps_if (pt_cmpR op_eq (pv 1) pe_str (nomark _)) (pss_one (ps_ret (pe_lstN (pa_cons (pe_xv (pv 0)) (pa_cons (pe_xv (pv 0)) pa_nil))))) pss_nil)
      (pss_cons (ps_if (pt_cmpR op_in_seq (pv 1) (pe_tup (pa_cons pe_str (pa_cons pe_str pa_nil))) (by rfl)) (pss_one (ps_ret (pe_ifExp (pt_cmpR op_eq (pv 1) pe_str (nomark _)) (pe_lstN (pa_cons (pe_xv (pv 0)) pa_nil)) (pe_lstN (pa_cons (pe_xv (pv 0)) pa_nil))))) pss_nil)
      (pss_cons (ps_if (pt_cmpR op_in_seq (pv 1) (pe_tup (pa_cons pe_str (pa_cons pe_str pa_nil))) (by rfl)) (pss_one (ps_ret (pe_ifExp (pt_cmpR op_eq (pv 1) pe_str (nomark _)) (pe_lstN (pa_cons (pe_xv (pv 0)) pa_nil)) (pe_lstN (pa_cons (pe_xv (pv 0)) pa_nil))))) pss_nil)
      (pss_one (ps_ret (pe_ifExp (pt_cmpR op_eq (pv 1) pe_str (nomark _)) (pe_lstN (pa_cons (pe_xv (pv 0)) pa_nil)) (pe_lstN pa_nil))))))), ?_⟩
    simp only [okKd, List.mem_cons, List.not_mem_nil, or_false] at hk
    rcases hk with rfl | rfl | rfl | rfl | rfl | rfl | rfl | rfl
    · refine ⟨_, rfl, rfl, _, rfl, eq_yes ?_⟩
      have eH := EvP.Ex.refl H
      exact (EvP.listN (H0 := H) eH (EvP.cons (fld_gives (EvP.var rfl) R.xf (R.no _ (by decide)) (hE.ex eH) rfl) (EvP.cons (fld_gives (EvP.var rfl) R.xf (R.no _ (by decide)) (hE.ex eH) rfl) EvP.nil)) (by simp [vals])) _ (EvP.Ex.refl _) _ fun v H2 e2 hv => q v H2 (eH.trans e2) hv
    · refine ⟨_, rfl, rfl, _, rfl, eq_no (by decide) ?_⟩
      refine ⟨_, rfl, rfl, _, rfl, eq_yes ?_⟩
      have eH := EvP.Ex.refl H
      exact (EvP.listN (H0 := H) eH (EvP.cons (fld_gives (EvP.var rfl) R.xf (R.no _ (by decide)) (hE.ex eH) rfl) (EvP.cons (fld_gives (EvP.var rfl) R.xf (R.no _ (by decide)) (hE.ex eH) rfl) EvP.nil)) (by simp [vals])) _ (EvP.Ex.refl _) _ fun v H2 e2 hv => q v H2 (eH.trans e2) hv
    · refine ⟨_, rfl, rfl, _, rfl, eq_no (by decide) ?_⟩
      refine ⟨_, rfl, rfl, _, rfl, eq_no (by decide) ?_⟩
      refine ⟨_, rfl, (by show 2 ≤ sizeLine; decide), fun t0 h0 => ⟨t0, _, rfl, .inr (SqT.of upd_same), rfl, rfl, _, rfl, ?_⟩⟩
      rw [show inV _ _ = true from by decide]
      refine iteT ?_
      refine ⟨_, rfl, rfl, _, rfl, eq_yes ?_⟩
      have eH := EvP.Ex.new (o := .tup [V.str "value", V.str "part"]) h0
      exact (EvP.listN (H0 := H) eH (EvP.cons (fld_gives (EvP.var rfl) R.xf (R.no _ (by decide)) (hE.ex eH) rfl) EvP.nil) (by simp [vals])) _ (EvP.Ex.refl _) _ fun v H2 e2 hv => q v H2 (eH.trans e2) hv
    · refine ⟨_, rfl, rfl, _, rfl, eq_no (by decide) ?_⟩
      refine ⟨_, rfl, rfl, _, rfl, eq_no (by decide) ?_⟩
      refine ⟨_, rfl, (by show 2 ≤ sizeLine; decide), fun t0 h0 => ⟨t0, _, rfl, .inr (SqT.of upd_same), rfl, rfl, _, rfl, ?_⟩⟩
      rw [show inV _ _ = true from by decide]
      refine iteT ?_
      refine ⟨_, rfl, rfl, _, rfl, eq_no (by decide) ?_⟩
      have eH := EvP.Ex.new (o := .tup [V.str "value", V.str "part"]) h0
      exact (EvP.listN (H0 := H) eH (EvP.cons (fld_gives (EvP.var rfl) R.xf (R.no _ (by decide)) (hE.ex eH) rfl) EvP.nil) (by simp [vals])) _ (EvP.Ex.refl _) _ fun v H2 e2 hv => q v H2 (eH.trans e2) hv
    · refine ⟨_, rfl, rfl, _, rfl, eq_no (by decide) ?_⟩
      refine ⟨_, rfl, rfl, _, rfl, eq_no (by decide) ?_⟩
      refine ⟨_, rfl, (by show 2 ≤ sizeLine; decide), fun t0 h0 => ⟨t0, _, rfl, .inr (SqT.of upd_same), rfl, rfl, _, rfl, ?_⟩⟩
      rw [show inV _ _ = false from by decide]
      refine iteF ?_
      refine ⟨_, rfl, (by show 2 ≤ sizeLine; decide), fun t1 h1 => ⟨t1, _, rfl, .inr (SqT.of upd_same), rfl, rfl, _, rfl, ?_⟩⟩
      rw [show inV _ _ = true from by decide]
      refine iteT ?_
      refine ⟨_, rfl, rfl, _, rfl, eq_yes ?_⟩
      have eH := (EvP.Ex.new (o := .tup [V.str "value", V.str "part"]) h0).trans (EvP.Ex.new (o := .tup [V.str "pair", V.str "word"]) h1)
      exact (EvP.listN (H0 := H) eH (EvP.cons (fld_gives (EvP.var rfl) R.xf (R.no _ (by decide)) (hE.ex eH) rfl) EvP.nil) (by simp [vals])) _ (EvP.Ex.refl _) _ fun v H2 e2 hv => q v H2 (eH.trans e2) hv
    · refine ⟨_, rfl, rfl, _, rfl, eq_no (by decide) ?_⟩
      refine ⟨_, rfl, rfl, _, rfl, eq_no (by decide) ?_⟩
      refine ⟨_, rfl, (by show 2 ≤ sizeLine; decide), fun t0 h0 => ⟨t0, _, rfl, .inr (SqT.of upd_same), rfl, rfl, _, rfl, ?_⟩⟩
      rw [show inV _ _ = false from by decide]
      refine iteF ?_
      refine ⟨_, rfl, (by show 2 ≤ sizeLine; decide), fun t1 h1 => ⟨t1, _, rfl, .inr (SqT.of upd_same), rfl, rfl, _, rfl, ?_⟩⟩
      rw [show inV _ _ = true from by decide]
      refine iteT ?_
      refine ⟨_, rfl, rfl, _, rfl, eq_no (by decide) ?_⟩
      have eH := (EvP.Ex.new (o := .tup [V.str "value", V.str "part"]) h0).trans (EvP.Ex.new (o := .tup [V.str "pair", V.str "word"]) h1)
      exact (EvP.listN (H0 := H) eH (EvP.cons (fld_gives (EvP.var rfl) R.xf (R.no _ (by decide)) (hE.ex eH) rfl) EvP.nil) (by simp [vals])) _ (EvP.Ex.refl _) _ fun v H2 e2 hv => q v H2 (eH.trans e2) hv
    · refine ⟨_, rfl, rfl, _, rfl, eq_no (by decide) ?_⟩
      refine ⟨_, rfl, rfl, _, rfl, eq_no (by decide) ?_⟩
      refine ⟨_, rfl, (by show 2 ≤ sizeLine; decide), fun t0 h0 => ⟨t0, _, rfl, .inr (SqT.of upd_same), rfl, rfl, _, rfl, ?_⟩⟩
      rw [show inV _ _ = false from by decide]
      refine iteF ?_
      refine ⟨_, rfl, (by show 2 ≤ sizeLine; decide), fun t1 h1 => ⟨t1, _, rfl, .inr (SqT.of upd_same), rfl, rfl, _, rfl, ?_⟩⟩
      rw [show inV _ _ = false from by decide]
      refine iteF ?_
      refine ⟨_, rfl, rfl, _, rfl, eq_yes ?_⟩
      have eH := (EvP.Ex.new (o := .tup [V.str "value", V.str "part"]) h0).trans (EvP.Ex.new (o := .tup [V.str "pair", V.str "word"]) h1)
      exact (EvP.listN (H0 := H) eH (EvP.cons (fld_gives (EvP.var rfl) R.xf (R.no _ (by decide)) (hE.ex eH) rfl) EvP.nil) (by simp [vals])) _ (EvP.Ex.refl _) _ fun v H2 e2 hv => q v H2 (eH.trans e2) hv
    · refine ⟨_, rfl, rfl, _, rfl, eq_no (by decide) ?_⟩
      refine ⟨_, rfl, rfl, _, rfl, eq_no (by decide) ?_⟩
      refine ⟨_, rfl, (by show 2 ≤ sizeLine; decide), fun t0 h0 => ⟨t0, _, rfl, .inr (SqT.of upd_same), rfl, rfl, _, rfl, ?_⟩⟩
      rw [show inV _ _ = false from by decide]
      refine iteF ?_
      refine ⟨_, rfl, (by show 2 ≤ sizeLine; decide), fun t1 h1 => ⟨t1, _, rfl, .inr (SqT.of upd_same), rfl, rfl, _, rfl, ?_⟩⟩
      rw [show inV _ _ = false from by decide]
      refine iteF ?_
      refine ⟨_, rfl, rfl, _, rfl, eq_no (by decide) ?_⟩
      have eH := (EvP.Ex.new (o := .tup [V.str "value", V.str "part"]) h0).trans (EvP.Ex.new (o := .tup [V.str "pair", V.str "word"]) h1)
      exact (EvP.listN (H0 := H) eH EvP.nil (by simp)) _ (EvP.Ex.refl _) _ fun v H2 e2 hv => q v H2 (eH.trans e2) hv
end
end K01

set_option Elab.async false
set_option linter.all false
set_option maxRecDepth 100000
set_option maxHeartbeats 4000000
namespace K01
open PySem PySem.Spec PyProof.Rows L2
def nms : List Str := ["BadName", "BadAmount", "BadWorth", "BadTable", "BadSide", "BadFilling", "BadPair", "BadOrder", "BadBars", "BadSeen", "BadOffer", "BadRule", "BadDay", "BadLedger", "BadText", "BadLine", "NoName", "NoPair", "Lacking", "TooMany", "IsNested", "NoChange"]
def nm (i : Nat) : Str := nms.getD i ""
/-- the classes of the package's errors -/
structure Cs (K : PySem.W.Frag) (mg : Str → Option Value) (C : Nat → Addr) : Prop where
  g : ∀ i, i < 22 → mg (nm i) = some (.ref (C i))
  ec : ∀ i, i < 22 → ExcC K (C i)
  kit : ∀ i j, i < 22 → j < 22 → PySem.W.kitOne K (.ref (C i)) (.ref (C j)) = some (decide (i = j))
structure Blt2 (mg : Str → Option Value) : Prop where
  isi : mg "isinstance" = none
  range : mg "range" = none
def spClasses (C : Nat → Addr) : Sp := fun vs H Q _ => ∃ (e : Addr) (i : Nat) (fs : List (Str × V)), vs = [.ref e] ∧ i < 22 ∧ ErrAt H e (C i) fs ∧
  ∀ (a : Addr) (H' : Hp), EvP.Ex H H' → H' a = some (.lst [.int (i : Nat)]) → Q (.ref a) H'
theorem isi_gives {K : PySem.W.Frag} {σ : L2.St} {H : Hp} {e D : Addr} {fs : List (Str × V)} {c : V} {cv : Value} {b : Bool} {te : TE} (he : EvP.Gives te σ H (EvP.is (.ref e))) (hE : ErrAt H e D fs) (X : ExcC K D) (k : ClsV c cv) (hb : PySem.W.kitOne K (.ref D) cv = some b) :
    EvP.Gives (tCB (rIsX K) (tCons te (tCons (tC c) tNil))) σ H (EvP.is (.bl b)) := fun H1 e1 Q q => he H1 e1 _ fun u H2 e2 hu => by
  rw [show u = .ref e from hu]
  exact ⟨e, D, fs, c, cv, b, rfl, hE.ex (e1.trans e2), X, k, hb, q _ _ e2 rfl⟩
theorem is_vals {H : Hp} : ∀ {xs vs : List V}, EvP.All2 H (xs.map EvP.is) vs → vs = xs
  | [], _, .nil => rfl
  | x :: r, _, .cons h t => by
    rw [show _ = x from h, is_vals t]
def flags (i n : Nat) : List V := (List.range n).map fun j => V.bl (decide (i = j))
theorem flags_at {i n k : Nat} (h : k < n) : (flags i n)[k]? = some (V.bl (decide (i = k))) := by
  unfold flags
  rw [List.getElem?_map, List.getElem?_range h]
  rfl
theorem scClasses : FnScope ["error", "told", "spot"] ["error"] (defScope sClasses) := ⟨rfl, rfl, rfl, by decide +kernel, rfl, by decide +kernel, by decide +kernel⟩
section
variable {P : Program} {w : World} {K : PySem.W.Frag} {mg : Str → Option Value} {base : Heap} {f : Addr} {fd : FuncData} {C : Nat → Addr}
theorem ok_classes (F : Fun K "_law_classes" "_law_classes" sClasses f fd) (S : Cs K mg C) (T : Blt2 mg) : FnOk P w K mg base CX0 1 f fd ["error"] (spClasses C) := by
  refine F.ok scClasses (fun vs H Q E h => ?_) (fun cdv A outer s H vs Q E hr h => ?_)
  · obtain ⟨e, i, fs, rfl, _⟩ := h
    rfl
  · obtain ⟨e, i, fs, rfl, hi, hE, q⟩ := h
    have nd := scClasses.nd
    have isi : ∀ {σ : L2.St} {H1 : Hp} (j : Nat), j < 22 → EvP.Ex H H1 → σ[0]? = some (some (V.ref e)) → EvP.Gives (tCB (rIsX K) (tCons (tVar 0) (tCons (tC (V.ref (C j))) tNil))) σ H1 (EvP.is (.bl (decide (i = j)))) :=
      fun {σ H1} j hj e1 h0 => isi_gives (EvP.var h0) (hE.ex e1) (S.ec i hi) (.own _) (S.kit i j hi hj)
    refine ⟨_, pss_cons (ps_set (i := 1) nd rfl (Or.inr rfl) (pe_lst (pa_cons (pe_callB (id := "isinstance") (r := rIsX K) call_isX (by rfl) T.isi (by decide +kernel) (pa_cons (pv 0) (pa_cons (pe_glob (v := .ref (C 0)) (by rfl) (S.g 0 (by decide)) rfl) pa_nil))) (pa_cons (pe_callB (id := "isinstance") (r := rIsX K) call_isX (by rfl) T.isi (by decide +kernel) (pa_cons (pv 0) (pa_cons (pe_glob (v := .ref (C 1)) (by rfl) (S.g 1 (by decide)) rfl) pa_nil))) (pa_cons (pe_callB (id := "isinstance") (r := rIsX K) call_isX (by rfl) T.isi (by decide +kernel) (pa_cons (pv 0) (pa_cons (pe_glob (v := .ref (C 2)) (by rfl) (S.g 2 (by decide)) rfl) pa_nil))) pa_nil)))))
      (pss_cons (ps_set (i := 1) nd rfl (Or.inr rfl) (pe_op op_cat (pv 1) (pe_lst (pa_cons (pe_callB (id := "isinstance") (r := rIsX K) call_isX (by rfl) T.isi (by decide +kernel) (pa_cons (pv 0) (pa_cons (pe_glob (v := .ref (C 3)) (by rfl) (S.g 3 (by decide)) rfl) pa_nil))) (pa_cons (pe_callB (id := "isinstance") (r := rIsX K) call_isX (by rfl) T.isi (by decide +kernel) (pa_cons (pv 0) (pa_cons (pe_glob (v := .ref (C 4)) (by rfl) (S.g 4 (by decide)) rfl) pa_nil))) (pa_cons (pe_callB (id := "isinstance") (r := rIsX K) call_isX (by rfl) T.isi (by decide +kernel) (pa_cons (pv 0) (pa_cons (pe_glob (v := .ref (C 5)) (by rfl) (S.g 5 (by decide)) rfl) pa_nil))) pa_nil))))))
      (pss_cons (ps_set (i := 1) nd rfl (Or.inr rfl) (pe_op op_cat (pv 1) (pe_lst (pa_cons (pe_callB (id := "isinstance") (r := rIsX K) call_isX (by rfl) T.isi (by decide +kernel) (pa_cons (pv 0) (pa_cons (pe_glob (v := .ref (C 6)) (by rfl) (S.g 6 (by decide)) rfl) pa_nil))) (pa_cons (pe_callB (id := "isinstance") (r := rIsX K) call_isX (by rfl) T.isi (by decide +kernel) (pa_cons (pv 0) (pa_cons (pe_glob (v := .ref (C 7)) (by rfl) (S.g 7 (by decide)) rfl) pa_nil))) (pa_cons (pe_callB (id := "isinstance") (r := rIsX K) call_isX (by rfl) T.isi (by decide +kernel) (pa_cons (pv 0) (pa_cons (pe_glob (v := .ref (C 8)) (by rfl) (S.g 8 (by decide)) rfl) pa_nil))) pa_nil))))))
      (pss_cons (ps_set (i := 1) nd rfl (Or.inr rfl) (pe_op op_cat (pv 1) (pe_lst (pa_cons (pe_callB (id := "isinstance") (r := rIsX K) call_isX (by rfl) T.isi (by decide +kernel) (pa_cons (pv 0) (pa_cons (pe_glob (v := .ref (C 9)) (by rfl) (S.g 9 (by decide)) rfl) pa_nil))) (pa_cons (pe_callB (id := "isinstance") (r := rIsX K) call_isX (by rfl) T.isi (by decide +kernel) (pa_cons (pv 0) (pa_cons (pe_glob (v := .ref (C 10)) (by rfl) (S.g 10 (by decide)) rfl) pa_nil))) (pa_cons (pe_callB (id := "isinstance") (r := rIsX K) call_isX (by rfl) T.isi (by decide +kernel) (pa_cons (pv 0) (pa_cons (pe_glob (v := .ref (C 11)) (by rfl) (S.g 11 (by decide)) rfl) pa_nil))) pa_nil))))))
      (pss_cons (ps_set (i := 1) nd rfl (Or.inr rfl) (pe_op op_cat (pv 1) (pe_lst (pa_cons (pe_callB (id := "isinstance") (r := rIsX K) call_isX (by rfl) T.isi (by decide +kernel) (pa_cons (pv 0) (pa_cons (pe_glob (v := .ref (C 12)) (by rfl) (S.g 12 (by decide)) rfl) pa_nil))) (pa_cons (pe_callB (id := "isinstance") (r := rIsX K) call_isX (by rfl) T.isi (by decide +kernel) (pa_cons (pv 0) (pa_cons (pe_glob (v := .ref (C 13)) (by rfl) (S.g 13 (by decide)) rfl) pa_nil))) (pa_cons (pe_callB (id := "isinstance") (r := rIsX K) call_isX (by rfl) T.isi (by decide +kernel) (pa_cons (pv 0) (pa_cons (pe_glob (v := .ref (C 14)) (by rfl) (S.g 14 (by decide)) rfl) pa_nil))) pa_nil))))))
      (pss_cons (ps_set (i := 1) nd rfl (Or.inr rfl) (pe_op op_cat (pv 1) (pe_lst (pa_cons (pe_callB (id := "isinstance") (r := rIsX K) call_isX (by rfl) T.isi (by decide +kernel) (pa_cons (pv 0) (pa_cons (pe_glob (v := .ref (C 15)) (by rfl) (S.g 15 (by decide)) rfl) pa_nil))) (pa_cons (pe_callB (id := "isinstance") (r := rIsX K) call_isX (by rfl) T.isi (by decide +kernel) (pa_cons (pv 0) (pa_cons (pe_glob (v := .ref (C 16)) (by rfl) (S.g 16 (by decide)) rfl) pa_nil))) (pa_cons (pe_callB (id := "isinstance") (r := rIsX K) call_isX (by rfl) T.isi (by decide +kernel) (pa_cons (pv 0) (pa_cons (pe_glob (v := .ref (C 17)) (by rfl) (S.g 17 (by decide)) rfl) pa_nil))) pa_nil))))))
      (pss_cons (ps_set (i := 1) nd rfl (Or.inr rfl) (pe_op op_cat (pv 1) (pe_lst (pa_cons (pe_callB (id := "isinstance") (r := rIsX K) call_isX (by rfl) T.isi (by decide +kernel) (pa_cons (pv 0) (pa_cons (pe_glob (v := .ref (C 18)) (by rfl) (S.g 18 (by decide)) rfl) pa_nil))) (pa_cons (pe_callB (id := "isinstance") (r := rIsX K) call_isX (by rfl) T.isi (by decide +kernel) (pa_cons (pv 0) (pa_cons (pe_glob (v := .ref (C 19)) (by rfl) (S.g 19 (by decide)) rfl) pa_nil))) (pa_cons (pe_callB (id := "isinstance") (r := rIsX K) call_isX (by rfl) T.isi (by decide +kernel) (pa_cons (pv 0) (pa_cons (pe_glob (v := .ref (C 20)) (by rfl) (S.g 20 (by decide)) rfl) pa_nil))) pa_nil))))))
      (pss_one (ps_ret (pe_lc (own := [("spot", 2)]) (g := gName 2) (tt := tB (tOp (rIxL K) (tOp rCat (tVar 1) (tLst (tCons (tCB (rIsX K) (tCons (tVar 0) (tCons (tC (.ref (C 21))) tNil))) tNil))) (tVar 2))) (te := tVar 2) (by rfl) nd (pi_range1 (by rfl) T.range (pa_cons pe_int pa_nil))
        (blkOk_by (own := [("spot", 2)]) (N := ["error", "told", "spot"]) (sc := defScope sClasses) (by decide +kernel)) (fun _ _ _ _ _ => pg_name (i := 2) nd rfl (Or.inl rfl))
        (fun _ _ _ _ _ => pts_one (pt_val (pe_ix ix_list (pe_op op_cat (pv 1) (pe_lst (pa_cons (pe_callB (id := "isinstance") (r := rIsX K) call_isX (by rfl) T.isi (by decide +kernel) (pa_cons (pv 0) (pa_cons (pe_glob (v := .ref (C 21)) (by rfl) (S.g 21 (by decide)) rfl) pa_nil))) pa_nil))) (pv 2) (fun _ _ => rfl)))) (fun _ _ _ _ _ => pv 2)))))))))), ?_⟩
    -- told = [..]; told = told + [..]
    refine' EvP.st_set ?h1 ?k1
    case h1 => exact (EvP.list (H0 := H) (EvP.Ex.refl H) (EvP.cons (isi 0 (by decide) (EvP.Ex.refl H) rfl) (EvP.cons (isi 1 (by decide) (EvP.Ex.refl H) rfl) (EvP.cons (isi 2 (by decide) (EvP.Ex.refl H) rfl) EvP.nil))) (by simp))
    intro v1 H1 e1 r1
    refine' EvP.st_set ?h2 ?k2
    case h2 => exact (EvP.cat (H0 := H) e1 (EvP.varP rfl r1) (EvP.list (H0 := H) e1 (EvP.cons (isi 3 (by decide) e1 rfl) (EvP.cons (isi 4 (by decide) e1 rfl) (EvP.cons (isi 5 (by decide) e1 rfl) EvP.nil))) (by simp)) (by simp))
    intro v2 H2 d2 r2
    have e2 := e1.trans d2
    refine' EvP.st_set ?h3 ?k3
    case h3 => exact (EvP.cat (H0 := H) e2 (EvP.varP rfl r2) (EvP.list (H0 := H) e2 (EvP.cons (isi 6 (by decide) e2 rfl) (EvP.cons (isi 7 (by decide) e2 rfl) (EvP.cons (isi 8 (by decide) e2 rfl) EvP.nil))) (by simp)) (by simp))
    intro v3 H3 d3 r3
    have e3 := e2.trans d3
    refine' EvP.st_set ?h4 ?k4
    case h4 => exact (EvP.cat (H0 := H) e3 (EvP.varP rfl r3) (EvP.list (H0 := H) e3 (EvP.cons (isi 9 (by decide) e3 rfl) (EvP.cons (isi 10 (by decide) e3 rfl) (EvP.cons (isi 11 (by decide) e3 rfl) EvP.nil))) (by simp)) (by simp))
    intro v4 H4 d4 r4
    have e4 := e3.trans d4
    refine' EvP.st_set ?h5 ?k5
    case h5 => exact (EvP.cat (H0 := H) e4 (EvP.varP rfl r4) (EvP.list (H0 := H) e4 (EvP.cons (isi 12 (by decide) e4 rfl) (EvP.cons (isi 13 (by decide) e4 rfl) (EvP.cons (isi 14 (by decide) e4 rfl) EvP.nil))) (by simp)) (by simp))
    intro v5 H5 d5 r5
    have e5 := e4.trans d5
    refine' EvP.st_set ?h6 ?k6
    case h6 => exact (EvP.cat (H0 := H) e5 (EvP.varP rfl r5) (EvP.list (H0 := H) e5 (EvP.cons (isi 15 (by decide) e5 rfl) (EvP.cons (isi 16 (by decide) e5 rfl) (EvP.cons (isi 17 (by decide) e5 rfl) EvP.nil))) (by simp)) (by simp))
    intro v6 H6 d6 r6
    have e6 := e5.trans d6
    refine' EvP.st_set ?h7 ?k7
    case h7 => exact (EvP.cat (H0 := H) e6 (EvP.varP rfl r6) (EvP.list (H0 := H) e6 (EvP.cons (isi 18 (by decide) e6 rfl) (EvP.cons (isi 19 (by decide) e6 rfl) (EvP.cons (isi 20 (by decide) e6 rfl) EvP.nil))) (by simp)) (by simp))
    intro v7 H7 d7 r7
    have e7 := e6.trans d7
    obtain ⟨a7, vs7, rfl, ha7, _, av7⟩ := r7
    obtain rfl := is_vals (xs := flags i 21) av7
    refine ⟨22, rfl, by decide, by decide, fun D hD => lc_range (lo := 0) (n := 22) (fun k H' => EvP.Ex H H' ∧ H' a7 = some (.lst (flags i 21)) ∧ H' D = some (.lst (if i < k then [V.int (i : Nat)] else []))) ⟨?_, ?_, ?_⟩ ?_ ?_⟩
    · exact e7.trans (EvP.Ex.new hD)
    · rw [upd_ne (ne_of_none ha7 hD)]
      exact ha7
    · rw [upd_same, if_neg (Nat.not_lt_zero i)]
    · rintro k H' hk ⟨x1, x2, x3⟩
      refine ⟨rfl, _, rfl, ?_⟩
      refine' EvP.go (te := tLst _) ?h9 ?k9
      case h9 => exact EvP.list (H0 := H) x1 (EvP.cons (isi 21 (by decide) x1 rfl) EvP.nil) (by simp)
      intro u H2 e2 r2
      obtain ⟨b, vs, rfl, hb, _, bv⟩ := r2
      obtain rfl := is_vals (xs := [V.bl (decide (i = 21))]) bv
      refine ⟨a7, b, _, _, rfl, rfl, e2 _ _ x2, hb, by simp only [flags, List.length_map, List.length_range, List.length_cons, List.length_nil]; decide, fun p hp => ?_⟩
      have hx : flags i 21 ++ [V.bl (decide (i = 21))] = flags i 22 := by
        unfold flags
        rw [List.range_succ (n := 21), List.map_append]
        rfl
      refine ⟨_, rfl, p, flags i 22, _, _, rfl, rfl, SqL.of (hx ▸ upd_same), at_of (j := k) (by omega) (flags_at hk), _, rfl, ?_⟩
      have y1 : EvP.Ex H' (upd H2 p (.lst (flags i 21 ++ [V.bl (decide (i = 21))]))) := e2.trans (EvP.Ex.new hp)
      by_cases c : i = k
      · rw [decide_eq_true c]
        refine iteT ⟨_, rfl, [], ?_, by show 0 < sizeLine; decide, ?_, ?_, ?_⟩
        · rw [y1 _ _ x3, if_neg (by omega)]
        · have nD : ∀ {b : Addr} {o : HO}, H b = some o → b ≠ D := fun {b o} z w => by
            rw [w] at z
            have := e7 _ _ z
            rw [hD] at this
            cases this
          intro b o z
          rw [upd_ne (nD z)]
          exact y1 b o (x1 b o z)
        · rw [upd_ne (ne_of_none ha7 hD)]
          exact y1 _ _ x2
        · rw [upd_same, if_pos (by omega), c, List.nil_append, Int.zero_add]
      · rw [decide_eq_false c]
        refine iteF ⟨x1.trans y1, y1 _ _ x2, ?_⟩
        rw [y1 _ _ x3]
        by_cases d : i < k
        · rw [if_pos d, if_pos (by omega)]
        · rw [if_neg d, if_neg (by omega)]
    · rintro H' ⟨x1, _, x3⟩
      rw [if_pos hi] at x3
      exact q D H' x1 x3
end
end K01

set_option Elab.async false
set_option linter.all false
set_option maxRecDepth 100000
set_option maxHeartbeats 4000000
namespace K01
open PySem PySem.Spec PyProof.Rows L2
/-- [a, b] as they come, [b, a] -/
def sw {α : Type} : List α → List α
  | [a, b] => [b, a]
  | l => l
theorem sw_vals {zs : List V} {ws : List Value} (r : Vals zs ws) : Vals (sw zs) (sw ws) := by
  cases r with
  | nil => exact .nil
  | cons r1 t1 =>
    cases t1 with
    | nil => exact .cons r1 .nil
    | cons r2 t2 =>
      cases t2 with
      | nil => exact .cons r2 (.cons r1 .nil)
      | cons r3 t3 => exact .cons r1 (.cons r2 (.cons r3 t3))
section
variable (P : Program) (w : World) (K : PySem.W.Frag) (mg : Str → Option Value) (base : Heap)
/-- a class with one field: how it is made -/
structure Cl1 (f : Str) (C fI : Addr) (fd : FuncData) : Prop where
  M : MkvC K C fI
  no : PySem.W.findIn K (.ref C) f = some none
  F : FnOk P w K mg base CX0 1 fI fd ["self", f] (spInit1 K f)
  bp : KBn K fd ["self", f] 2 [] (fun us _ => us) (fun vs _ => vs)
  bk : KBn K fd ["self", f] 1 [f] (fun us ws => us ++ ws) (fun vs zs => vs ++ zs)
/-- .. with two -/
structure Cl2 (f g : Str) (C fI : Addr) (fd : FuncData) : Prop where
  M : MkvC K C fI
  no : PySem.W.findIn K (.ref C) f = some none
  no2 : PySem.W.findIn K (.ref C) g = some none
  F : FnOk P w K mg base CX0 1 fI fd ["self", f, g] (spInit2 K f g)
  bk : KBn K fd ["self", f, g] 1 [g, f] (fun us ws => us ++ sw ws) (fun vs zs => vs ++ sw zs)
  bp : KBn K fd ["self", f, g] 2 [g] (fun us ws => us ++ ws) (fun vs zs => vs ++ zs)
/-- .. with none -/
structure Cl0 (C : Addr) : Prop where
  q : PySem.W.excIn K C [.type "ValueError", .type "Exception", .type "BaseException", .type "object"] "ValueError.__new__" = true
  kp : PySem.W.keepIn K (.ref C) = true
structure Mks (C fI : Nat → Addr) (fd : Nat → FuncData) : Prop where
  c0 : Cl1 P w K mg base "value" (C 0) (fI 0) (fd 0)
  c1 : Cl1 P w K mg base "value" (C 1) (fI 1) (fd 1)
  c2 : Cl1 P w K mg base "value" (C 2) (fI 2) (fd 2)
  c3 : Cl1 P w K mg base "part" (C 3) (fI 3) (fd 3)
  c4 : Cl1 P w K mg base "part" (C 4) (fI 4) (fd 4)
  c5 : Cl1 P w K mg base "part" (C 5) (fI 5) (fd 5)
  c6 : Cl1 P w K mg base "value" (C 6) (fI 6) (fd 6)
  c7 : Cl1 P w K mg base "part" (C 7) (fI 7) (fd 7)
  c8 : Cl1 P w K mg base "part" (C 8) (fI 8) (fd 8)
  c9 : Cl1 P w K mg base "part" (C 9) (fI 9) (fd 9)
  c10 : Cl1 P w K mg base "part" (C 10) (fI 10) (fd 10)
  c11 : Cl1 P w K mg base "part" (C 11) (fI 11) (fd 11)
  c12 : Cl1 P w K mg base "value" (C 12) (fI 12) (fd 12)
  c13 : Cl1 P w K mg base "part" (C 13) (fI 13) (fd 13)
  c14 : Cl2 P w K mg base "line" "word" (C 14) (fI 14) (fd 14)
  c15 : Cl1 P w K mg base "word" (C 15) (fI 15) (fd 15)
  c16 : Cl1 P w K mg base "name" (C 16) (fI 16) (fd 16)
  c17 : Cl1 P w K mg base "pair" (C 17) (fI 17) (fd 17)
  c18 : Cl1 P w K mg base "name" (C 18) (fI 18) (fd 18)
  c19 : Cl2 P w K mg base "what" "most" (C 19) (fI 19) (fd 19)
  c20 : Cl0 K (C 20)
  c21 : Cl0 K (C 21)
end
/-- the i-th row of _law_made -/
def ent (H0 : Hp) (C : Nat → Addr) (y z : V) (i : Nat) : EvP.PR := EvP.tup [EvP.err (C i) (flds (kd i) y z), EvP.is (.str (txt (kd i))), EvP.lstN H0 ((vals (kd i) y z).map EvP.is)]
/-- a row of _law_named -/
def ent1 (C : Nat → Addr) (y : V) (i : Nat) (f : Str) : EvP.PR := EvP.tup [EvP.err (C i) [(f, y)], EvP.is (.int i)]
def spMade (C : Nat → Addr) : Sp := fun vs H Q _ => ∃ y z : V, vs = [y, z] ∧ ∀ (v : V) (H' : Hp), EvP.Ex H H' → (EvP.lst H ((List.range 22).map (ent H C y z))).R v H' → Q v H'
theorem scMade : FnScope ["one", "two", "found"] ["one", "two"] (defScope sMade) := ⟨rfl, rfl, rfl, by decide +kernel, rfl, by decide +kernel, by decide +kernel⟩
section
variable {P : Program} {w : World} {K : PySem.W.Frag} {mg : Str → Option Value} {base : Heap} {f : Addr} {fd0 : FuncData} {C fI : Nat → Addr} {fd : Nat → FuncData}
theorem ok_made (F : Fun K "_law_made" "_law_made" sMade f fd0) (S : Cs K mg C) (M : Mks P w K mg base C fI fd) : FnOk P w K mg base CX0 3 f fd0 ["one", "two"] (spMade C) := by
  refine F.ok scMade (fun vs H Q E h => ?_) (fun cdv A outer s H vs Q E hr h => ?_)
  · obtain ⟨y, z, rfl, _⟩ := h
    rfl
  · obtain ⟨y, z, rfl, q⟩ := h
    have nd := scMade.nd
    refine ⟨_, pss_cons (ps_set (i := 2) nd rfl (Or.inl rfl) (pe_lst (pa_cons (pe_tup (pa_cons (pe_mkv M.c0.M M.c0.F hr (by rfl) (S.g 0 (by decide)) M.c0.bp pass0 (by decide) (pa_cons (pv 0) pa_nil)) (pa_cons pe_str (pa_cons (pe_lstN (pa_cons (pv 0) pa_nil)) pa_nil)))) (pa_cons (pe_tup (pa_cons (pe_mkv0 M.c1.M M.c1.F hr (by rfl) (S.g 1 (by decide)) M.c1.bk pass0 (pk_cons (pv 0) pk_nil)) (pa_cons pe_str (pa_cons (pe_lstN (pa_cons (pv 0) pa_nil)) pa_nil)))) (pa_cons (pe_tup (pa_cons (pe_mkv M.c2.M M.c2.F hr (by rfl) (S.g 2 (by decide)) M.c2.bp pass0 (by decide) (pa_cons (pv 0) pa_nil)) (pa_cons pe_str (pa_cons (pe_lstN (pa_cons (pv 0) pa_nil)) pa_nil)))) pa_nil)))))
      (pss_cons (ps_set (i := 2) nd rfl (Or.inl rfl) (pe_op op_cat (pv 2) (pe_lst (pa_cons (pe_tup (pa_cons (pe_mkv M.c3.M M.c3.F hr (by rfl) (S.g 3 (by decide)) M.c3.bp pass0 (by decide) (pa_cons (pv 0) pa_nil)) (pa_cons pe_str (pa_cons (pe_lstN (pa_cons (pv 0) pa_nil)) pa_nil)))) (pa_cons (pe_tup (pa_cons (pe_mkv0 M.c4.M M.c4.F hr (by rfl) (S.g 4 (by decide)) M.c4.bk pass0 (pk_cons (pv 0) pk_nil)) (pa_cons pe_str (pa_cons (pe_lstN (pa_cons (pv 0) pa_nil)) pa_nil)))) (pa_cons (pe_tup (pa_cons (pe_mkv M.c5.M M.c5.F hr (by rfl) (S.g 5 (by decide)) M.c5.bp pass0 (by decide) (pa_cons (pv 0) pa_nil)) (pa_cons pe_str (pa_cons (pe_lstN (pa_cons (pv 0) pa_nil)) pa_nil)))) pa_nil))))))
      (pss_cons (ps_set (i := 2) nd rfl (Or.inl rfl) (pe_op op_cat (pv 2) (pe_lst (pa_cons (pe_tup (pa_cons (pe_mkv0 M.c6.M M.c6.F hr (by rfl) (S.g 6 (by decide)) M.c6.bk pass0 (pk_cons (pv 0) pk_nil)) (pa_cons pe_str (pa_cons (pe_lstN (pa_cons (pv 0) pa_nil)) pa_nil)))) (pa_cons (pe_tup (pa_cons (pe_mkv M.c7.M M.c7.F hr (by rfl) (S.g 7 (by decide)) M.c7.bp pass0 (by decide) (pa_cons (pv 0) pa_nil)) (pa_cons pe_str (pa_cons (pe_lstN (pa_cons (pv 0) pa_nil)) pa_nil)))) (pa_cons (pe_tup (pa_cons (pe_mkv M.c8.M M.c8.F hr (by rfl) (S.g 8 (by decide)) M.c8.bp pass0 (by decide) (pa_cons (pv 0) pa_nil)) (pa_cons pe_str (pa_cons (pe_lstN (pa_cons (pv 0) pa_nil)) pa_nil)))) pa_nil))))))
      (pss_cons (ps_set (i := 2) nd rfl (Or.inl rfl) (pe_op op_cat (pv 2) (pe_lst (pa_cons (pe_tup (pa_cons (pe_mkv0 M.c9.M M.c9.F hr (by rfl) (S.g 9 (by decide)) M.c9.bk pass0 (pk_cons (pv 0) pk_nil)) (pa_cons pe_str (pa_cons (pe_lstN (pa_cons (pv 0) pa_nil)) pa_nil)))) (pa_cons (pe_tup (pa_cons (pe_mkv M.c10.M M.c10.F hr (by rfl) (S.g 10 (by decide)) M.c10.bp pass0 (by decide) (pa_cons (pv 0) pa_nil)) (pa_cons pe_str (pa_cons (pe_lstN (pa_cons (pv 0) pa_nil)) pa_nil)))) (pa_cons (pe_tup (pa_cons (pe_mkv M.c11.M M.c11.F hr (by rfl) (S.g 11 (by decide)) M.c11.bp pass0 (by decide) (pa_cons (pv 0) pa_nil)) (pa_cons pe_str (pa_cons (pe_lstN (pa_cons (pv 0) pa_nil)) pa_nil)))) pa_nil))))))
      (pss_cons (ps_set (i := 2) nd rfl (Or.inl rfl) (pe_op op_cat (pv 2) (pe_lst (pa_cons (pe_tup (pa_cons (pe_mkv M.c12.M M.c12.F hr (by rfl) (S.g 12 (by decide)) M.c12.bp pass0 (by decide) (pa_cons (pv 0) pa_nil)) (pa_cons pe_str (pa_cons (pe_lstN (pa_cons (pv 0) pa_nil)) pa_nil)))) (pa_cons (pe_tup (pa_cons (pe_mkv0 M.c13.M M.c13.F hr (by rfl) (S.g 13 (by decide)) M.c13.bk pass0 (pk_cons (pv 0) pk_nil)) (pa_cons pe_str (pa_cons (pe_lstN (pa_cons (pv 0) pa_nil)) pa_nil)))) pa_nil)))))
      (pss_cons (ps_set (i := 2) nd rfl (Or.inl rfl) (pe_op op_cat (pv 2) (pe_lst (pa_cons (pe_tup (pa_cons (pe_mkv0 M.c14.M M.c14.F hr (by rfl) (S.g 14 (by decide)) M.c14.bk pass0 (pk_cons (pv 1) (pk_cons (pv 0) pk_nil))) (pa_cons pe_str (pa_cons (pe_lstN (pa_cons (pv 0) (pa_cons (pv 1) pa_nil))) pa_nil)))) (pa_cons (pe_tup (pa_cons (pe_mkv0 M.c15.M M.c15.F hr (by rfl) (S.g 15 (by decide)) M.c15.bk pass0 (pk_cons (pv 0) pk_nil)) (pa_cons pe_str (pa_cons (pe_lstN (pa_cons (pv 0) pa_nil)) pa_nil)))) pa_nil)))))
      (pss_cons (ps_set (i := 2) nd rfl (Or.inl rfl) (pe_op op_cat (pv 2) (pe_lst (pa_cons (pe_tup (pa_cons (pe_mkv0 M.c16.M M.c16.F hr (by rfl) (S.g 16 (by decide)) M.c16.bk pass0 (pk_cons (pv 0) pk_nil)) (pa_cons pe_str (pa_cons (pe_lstN (pa_cons (pv 0) pa_nil)) pa_nil)))) (pa_cons (pe_tup (pa_cons (pe_mkv M.c17.M M.c17.F hr (by rfl) (S.g 17 (by decide)) M.c17.bp pass0 (by decide) (pa_cons (pv 0) pa_nil)) (pa_cons pe_str (pa_cons (pe_lstN (pa_cons (pv 0) pa_nil)) pa_nil)))) (pa_cons (pe_tup (pa_cons (pe_mkv M.c18.M M.c18.F hr (by rfl) (S.g 18 (by decide)) M.c18.bp pass0 (by decide) (pa_cons (pv 0) pa_nil)) (pa_cons pe_str (pa_cons (pe_lstN (pa_cons (pv 0) pa_nil)) pa_nil)))) pa_nil))))))
      (pss_one (ps_ret (pe_op op_cat (pv 2) (pe_lst (pa_cons (pe_tup (pa_cons (pe_mkv0 M.c19.M M.c19.F hr (by rfl) (S.g 19 (by decide)) M.c19.bk pass0 (pk_cons (pv 1) (pk_cons (pv 0) pk_nil))) (pa_cons pe_str (pa_cons (pe_lstN (pa_cons (pv 0) (pa_cons (pv 1) pa_nil))) pa_nil)))) (pa_cons (pe_tup (pa_cons (pe_excv0 PySem.F.excBase_ValueError M.c20.q (S.g 20 (by decide)) M.c20.kp (by rfl)) (pa_cons pe_str (pa_cons (pe_lstN pa_nil) pa_nil)))) (pa_cons (pe_tup (pa_cons (pe_excv0 PySem.F.excBase_ValueError M.c21.q (S.g 21 (by decide)) M.c21.kp (by rfl)) (pa_cons pe_str (pa_cons (pe_lstN pa_nil) pa_nil)))) pa_nil))))))))))))), ?_⟩
    refine' EvP.st_set ?h1 ?k1
    case h1 => exact (EvP.list (EvP.Ex.refl H) (EvP.cons (EvP.tuple (EvP.cons (EvP.err1 M.c0.M.o M.c0.no (EvP.var rfl) (fun _ _ => rfl)) (EvP.cons EvP.cst (EvP.cons (EvP.listN (EvP.Ex.refl H) (EvP.cons (EvP.var rfl) EvP.nil) (by simp)) EvP.nil))) (by simp)) (EvP.cons (EvP.tuple (EvP.cons (EvP.err1K M.c1.M.o M.c1.no (EvP.var rfl) (fun _ _ => rfl)) (EvP.cons EvP.cst (EvP.cons (EvP.listN (EvP.Ex.refl H) (EvP.cons (EvP.var rfl) EvP.nil) (by simp)) EvP.nil))) (by simp)) (EvP.cons (EvP.tuple (EvP.cons (EvP.err1 M.c2.M.o M.c2.no (EvP.var rfl) (fun _ _ => rfl)) (EvP.cons EvP.cst (EvP.cons (EvP.listN (EvP.Ex.refl H) (EvP.cons (EvP.var rfl) EvP.nil) (by simp)) EvP.nil))) (by simp)) EvP.nil))) (by simp))
    intro v1 H1 e1 r1
    refine' EvP.st_set ?h2 ?k2
    case h2 => exact EvP.cat (H0 := H) e1 (EvP.varP rfl r1) (EvP.list e1 (EvP.cons (EvP.tuple (EvP.cons (EvP.err1 M.c3.M.o M.c3.no (EvP.var rfl) (fun _ _ => rfl)) (EvP.cons EvP.cst (EvP.cons (EvP.listN e1 (EvP.cons (EvP.var rfl) EvP.nil) (by simp)) EvP.nil))) (by simp)) (EvP.cons (EvP.tuple (EvP.cons (EvP.err1K M.c4.M.o M.c4.no (EvP.var rfl) (fun _ _ => rfl)) (EvP.cons EvP.cst (EvP.cons (EvP.listN e1 (EvP.cons (EvP.var rfl) EvP.nil) (by simp)) EvP.nil))) (by simp)) (EvP.cons (EvP.tuple (EvP.cons (EvP.err1 M.c5.M.o M.c5.no (EvP.var rfl) (fun _ _ => rfl)) (EvP.cons EvP.cst (EvP.cons (EvP.listN e1 (EvP.cons (EvP.var rfl) EvP.nil) (by simp)) EvP.nil))) (by simp)) EvP.nil))) (by simp)) (by simp)
    intro v2 H2 d2 r2
    have e2 := e1.trans d2
    refine' EvP.st_set ?h3 ?k3
    case h3 => exact EvP.cat (H0 := H) e2 (EvP.varP rfl r2) (EvP.list e2 (EvP.cons (EvP.tuple (EvP.cons (EvP.err1K M.c6.M.o M.c6.no (EvP.var rfl) (fun _ _ => rfl)) (EvP.cons EvP.cst (EvP.cons (EvP.listN e2 (EvP.cons (EvP.var rfl) EvP.nil) (by simp)) EvP.nil))) (by simp)) (EvP.cons (EvP.tuple (EvP.cons (EvP.err1 M.c7.M.o M.c7.no (EvP.var rfl) (fun _ _ => rfl)) (EvP.cons EvP.cst (EvP.cons (EvP.listN e2 (EvP.cons (EvP.var rfl) EvP.nil) (by simp)) EvP.nil))) (by simp)) (EvP.cons (EvP.tuple (EvP.cons (EvP.err1 M.c8.M.o M.c8.no (EvP.var rfl) (fun _ _ => rfl)) (EvP.cons EvP.cst (EvP.cons (EvP.listN e2 (EvP.cons (EvP.var rfl) EvP.nil) (by simp)) EvP.nil))) (by simp)) EvP.nil))) (by simp)) (by simp)
    intro v3 H3 d3 r3
    have e3 := e2.trans d3
    refine' EvP.st_set ?h4 ?k4
    case h4 => exact EvP.cat (H0 := H) e3 (EvP.varP rfl r3) (EvP.list e3 (EvP.cons (EvP.tuple (EvP.cons (EvP.err1K M.c9.M.o M.c9.no (EvP.var rfl) (fun _ _ => rfl)) (EvP.cons EvP.cst (EvP.cons (EvP.listN e3 (EvP.cons (EvP.var rfl) EvP.nil) (by simp)) EvP.nil))) (by simp)) (EvP.cons (EvP.tuple (EvP.cons (EvP.err1 M.c10.M.o M.c10.no (EvP.var rfl) (fun _ _ => rfl)) (EvP.cons EvP.cst (EvP.cons (EvP.listN e3 (EvP.cons (EvP.var rfl) EvP.nil) (by simp)) EvP.nil))) (by simp)) (EvP.cons (EvP.tuple (EvP.cons (EvP.err1 M.c11.M.o M.c11.no (EvP.var rfl) (fun _ _ => rfl)) (EvP.cons EvP.cst (EvP.cons (EvP.listN e3 (EvP.cons (EvP.var rfl) EvP.nil) (by simp)) EvP.nil))) (by simp)) EvP.nil))) (by simp)) (by simp)
    intro v4 H4 d4 r4
    have e4 := e3.trans d4
    refine' EvP.st_set ?h5 ?k5
    case h5 => exact EvP.cat (H0 := H) e4 (EvP.varP rfl r4) (EvP.list e4 (EvP.cons (EvP.tuple (EvP.cons (EvP.err1 M.c12.M.o M.c12.no (EvP.var rfl) (fun _ _ => rfl)) (EvP.cons EvP.cst (EvP.cons (EvP.listN e4 (EvP.cons (EvP.var rfl) EvP.nil) (by simp)) EvP.nil))) (by simp)) (EvP.cons (EvP.tuple (EvP.cons (EvP.err1K M.c13.M.o M.c13.no (EvP.var rfl) (fun _ _ => rfl)) (EvP.cons EvP.cst (EvP.cons (EvP.listN e4 (EvP.cons (EvP.var rfl) EvP.nil) (by simp)) EvP.nil))) (by simp)) EvP.nil)) (by simp)) (by simp)
    intro v5 H5 d5 r5
    have e5 := e4.trans d5
    refine' EvP.st_set ?h6 ?k6
    case h6 => exact EvP.cat (H0 := H) e5 (EvP.varP rfl r5) (EvP.list e5 (EvP.cons (EvP.tuple (EvP.cons (EvP.err2K M.c14.M.o M.c14.no M.c14.no2 (EvP.var rfl) (EvP.var rfl) (fun _ _ _ => rfl)) (EvP.cons EvP.cst (EvP.cons (EvP.listN e5 (EvP.cons (EvP.var rfl) (EvP.cons (EvP.var rfl) EvP.nil)) (by simp)) EvP.nil))) (by simp)) (EvP.cons (EvP.tuple (EvP.cons (EvP.err1K M.c15.M.o M.c15.no (EvP.var rfl) (fun _ _ => rfl)) (EvP.cons EvP.cst (EvP.cons (EvP.listN e5 (EvP.cons (EvP.var rfl) EvP.nil) (by simp)) EvP.nil))) (by simp)) EvP.nil)) (by simp)) (by simp)
    intro v6 H6 d6 r6
    have e6 := e5.trans d6
    refine' EvP.st_set ?h7 ?k7
    case h7 => exact EvP.cat (H0 := H) e6 (EvP.varP rfl r6) (EvP.list e6 (EvP.cons (EvP.tuple (EvP.cons (EvP.err1K M.c16.M.o M.c16.no (EvP.var rfl) (fun _ _ => rfl)) (EvP.cons EvP.cst (EvP.cons (EvP.listN e6 (EvP.cons (EvP.var rfl) EvP.nil) (by simp)) EvP.nil))) (by simp)) (EvP.cons (EvP.tuple (EvP.cons (EvP.err1 M.c17.M.o M.c17.no (EvP.var rfl) (fun _ _ => rfl)) (EvP.cons EvP.cst (EvP.cons (EvP.listN e6 (EvP.cons (EvP.var rfl) EvP.nil) (by simp)) EvP.nil))) (by simp)) (EvP.cons (EvP.tuple (EvP.cons (EvP.err1 M.c18.M.o M.c18.no (EvP.var rfl) (fun _ _ => rfl)) (EvP.cons EvP.cst (EvP.cons (EvP.listN e6 (EvP.cons (EvP.var rfl) EvP.nil) (by simp)) EvP.nil))) (by simp)) EvP.nil))) (by simp)) (by simp)
    intro v7 H7 d7 r7
    have e7 := e6.trans d7
    refine' EvP.st_ret ?h8 ?k8
    case h8 => exact EvP.cat (H0 := H) e7 (EvP.varP rfl r7) (EvP.list e7 (EvP.cons (EvP.tuple (EvP.cons (EvP.err2K M.c19.M.o M.c19.no M.c19.no2 (EvP.var rfl) (EvP.var rfl) (fun _ _ _ => rfl)) (EvP.cons EvP.cst (EvP.cons (EvP.listN e7 (EvP.cons (EvP.var rfl) (EvP.cons (EvP.var rfl) EvP.nil)) (by simp)) EvP.nil))) (by simp)) (EvP.cons (EvP.tuple (EvP.cons EvP.err0 (EvP.cons EvP.cst (EvP.cons (EvP.listN e7 EvP.nil (by simp)) EvP.nil))) (by simp)) (EvP.cons (EvP.tuple (EvP.cons EvP.err0 (EvP.cons EvP.cst (EvP.cons (EvP.listN e7 EvP.nil (by simp)) EvP.nil))) (by simp)) EvP.nil))) (by simp)) (by simp)
    intro v H' d r
    exact q v H' (e7.trans d) r
end
end K01

set_option Elab.async false
set_option linter.all false
set_option maxRecDepth 100000
set_option maxHeartbeats 4000000
namespace K01
open PySem PySem.Spec PyProof.Rows L2
def nidx : List Nat := [0, 2, 3, 5, 7, 8, 10, 11, 12, 17, 18, 19]
/-- the values in the order of the fields, as _law_named gives them: the last one is one -/
def fst (i : Nat) (y z : V) : V := if i = 19 then z else y
def entN (C : Nat → Addr) (y z : V) (i : Nat) : EvP.PR := EvP.tup [EvP.err (C i) (flds (kd i) (fst i y z) y), EvP.is (.int (i : Nat))]
def spNamed (C : Nat → Addr) : Sp := fun vs H Q _ => ∃ y z : V, vs = [y, z] ∧ ∀ (v : V) (H' : Hp), EvP.Ex H H' → (EvP.lst H (nidx.map (entN C y z))).R v H' → Q v H'
theorem scNamed : FnScope ["one", "two", "found"] ["one", "two"] (defScope sNamed) := ⟨rfl, rfl, rfl, by decide +kernel, rfl, by decide +kernel, by decide +kernel⟩
section
variable {P : Program} {w : World} {K : PySem.W.Frag} {mg : Str → Option Value} {base : Heap} {f : Addr} {fd0 : FuncData} {C fI : Nat → Addr} {fd : Nat → FuncData}
theorem ok_named (F : Fun K "_law_named" "_law_named" sNamed f fd0) (S : Cs K mg C) (M : Mks P w K mg base C fI fd) : FnOk P w K mg base CX0 3 f fd0 ["one", "two"] (spNamed C) := by
  refine F.ok scNamed (fun vs H Q E h => ?_) (fun cdv A outer s H vs Q E hr h => ?_)
  · obtain ⟨y, z, rfl, _⟩ := h
    rfl
  · obtain ⟨y, z, rfl, q⟩ := h
    have nd := scNamed.nd
    refine ⟨_, pss_cons (ps_set (i := 2) nd rfl (Or.inl rfl) (pe_lst (pa_cons (pe_tup (pa_cons (pe_mkv0 M.c0.M M.c0.F hr (by rfl) (S.g 0 (by decide)) M.c0.bk pass0 (pk_cons (pv 0) pk_nil)) (pa_cons pe_int pa_nil))) (pa_cons (pe_tup (pa_cons (pe_mkv0 M.c2.M M.c2.F hr (by rfl) (S.g 2 (by decide)) M.c2.bk pass0 (pk_cons (pv 0) pk_nil)) (pa_cons pe_int pa_nil))) (pa_cons (pe_tup (pa_cons (pe_mkv0 M.c3.M M.c3.F hr (by rfl) (S.g 3 (by decide)) M.c3.bk pass0 (pk_cons (pv 0) pk_nil)) (pa_cons pe_int pa_nil))) (pa_cons (pe_tup (pa_cons (pe_mkv0 M.c5.M M.c5.F hr (by rfl) (S.g 5 (by decide)) M.c5.bk pass0 (pk_cons (pv 0) pk_nil)) (pa_cons pe_int pa_nil))) pa_nil))))))
      (pss_cons (ps_set (i := 2) nd rfl (Or.inl rfl) (pe_op op_cat (pv 2) (pe_lst (pa_cons (pe_tup (pa_cons (pe_mkv0 M.c7.M M.c7.F hr (by rfl) (S.g 7 (by decide)) M.c7.bk pass0 (pk_cons (pv 0) pk_nil)) (pa_cons pe_int pa_nil))) (pa_cons (pe_tup (pa_cons (pe_mkv0 M.c8.M M.c8.F hr (by rfl) (S.g 8 (by decide)) M.c8.bk pass0 (pk_cons (pv 0) pk_nil)) (pa_cons pe_int pa_nil))) (pa_cons (pe_tup (pa_cons (pe_mkv0 M.c10.M M.c10.F hr (by rfl) (S.g 10 (by decide)) M.c10.bk pass0 (pk_cons (pv 0) pk_nil)) (pa_cons pe_int pa_nil))) (pa_cons (pe_tup (pa_cons (pe_mkv0 M.c11.M M.c11.F hr (by rfl) (S.g 11 (by decide)) M.c11.bk pass0 (pk_cons (pv 0) pk_nil)) (pa_cons pe_int pa_nil))) pa_nil)))))))
      (pss_one (ps_ret (pe_op op_cat (pv 2) (pe_lst (pa_cons (pe_tup (pa_cons (pe_mkv0 M.c12.M M.c12.F hr (by rfl) (S.g 12 (by decide)) M.c12.bk pass0 (pk_cons (pv 0) pk_nil)) (pa_cons pe_int pa_nil))) (pa_cons (pe_tup (pa_cons (pe_mkv0 M.c17.M M.c17.F hr (by rfl) (S.g 17 (by decide)) M.c17.bk pass0 (pk_cons (pv 0) pk_nil)) (pa_cons pe_int pa_nil))) (pa_cons (pe_tup (pa_cons (pe_mkv0 M.c18.M M.c18.F hr (by rfl) (S.g 18 (by decide)) M.c18.bk pass0 (pk_cons (pv 0) pk_nil)) (pa_cons pe_int pa_nil))) (pa_cons (pe_tup (pa_cons (pe_mkvK M.c19.M M.c19.F hr (by rfl) (S.g 19 (by decide)) M.c19.bp pass0 (by decide) (pa_cons (pv 1) pa_nil) (pk_cons (pv 0) pk_nil)) (pa_cons pe_int pa_nil))) pa_nil))))))))), ?_⟩
    refine' EvP.st_set ?h1 ?k1
    case h1 => exact (EvP.list (EvP.Ex.refl H) (EvP.cons (EvP.tuple (EvP.cons (EvP.err1K M.c0.M.o M.c0.no (EvP.var rfl) (fun _ _ => rfl)) (EvP.cons EvP.cst EvP.nil)) (by simp)) (EvP.cons (EvP.tuple (EvP.cons (EvP.err1K M.c2.M.o M.c2.no (EvP.var rfl) (fun _ _ => rfl)) (EvP.cons EvP.cst EvP.nil)) (by simp)) (EvP.cons (EvP.tuple (EvP.cons (EvP.err1K M.c3.M.o M.c3.no (EvP.var rfl) (fun _ _ => rfl)) (EvP.cons EvP.cst EvP.nil)) (by simp)) (EvP.cons (EvP.tuple (EvP.cons (EvP.err1K M.c5.M.o M.c5.no (EvP.var rfl) (fun _ _ => rfl)) (EvP.cons EvP.cst EvP.nil)) (by simp)) EvP.nil)))) (by simp))
    intro v1 H1 e1 r1
    refine' EvP.st_set ?h2 ?k2
    case h2 => exact EvP.cat (H0 := H) e1 (EvP.varP rfl r1) (EvP.list e1 (EvP.cons (EvP.tuple (EvP.cons (EvP.err1K M.c7.M.o M.c7.no (EvP.var rfl) (fun _ _ => rfl)) (EvP.cons EvP.cst EvP.nil)) (by simp)) (EvP.cons (EvP.tuple (EvP.cons (EvP.err1K M.c8.M.o M.c8.no (EvP.var rfl) (fun _ _ => rfl)) (EvP.cons EvP.cst EvP.nil)) (by simp)) (EvP.cons (EvP.tuple (EvP.cons (EvP.err1K M.c10.M.o M.c10.no (EvP.var rfl) (fun _ _ => rfl)) (EvP.cons EvP.cst EvP.nil)) (by simp)) (EvP.cons (EvP.tuple (EvP.cons (EvP.err1K M.c11.M.o M.c11.no (EvP.var rfl) (fun _ _ => rfl)) (EvP.cons EvP.cst EvP.nil)) (by simp)) EvP.nil)))) (by simp)) (by simp)
    intro v2 H2 d2 r2
    have e2 := e1.trans d2
    refine' EvP.st_ret ?h3 ?k3
    case h3 => exact EvP.cat (H0 := H) e2 (EvP.varP rfl r2) (EvP.list e2 (EvP.cons (EvP.tuple (EvP.cons (EvP.err1K M.c12.M.o M.c12.no (EvP.var rfl) (fun _ _ => rfl)) (EvP.cons EvP.cst EvP.nil)) (by simp)) (EvP.cons (EvP.tuple (EvP.cons (EvP.err1K M.c17.M.o M.c17.no (EvP.var rfl) (fun _ _ => rfl)) (EvP.cons EvP.cst EvP.nil)) (by simp)) (EvP.cons (EvP.tuple (EvP.cons (EvP.err1K M.c18.M.o M.c18.no (EvP.var rfl) (fun _ _ => rfl)) (EvP.cons EvP.cst EvP.nil)) (by simp)) (EvP.cons (EvP.tuple (EvP.cons (EvP.err2P M.c19.M.o M.c19.no M.c19.no2 (EvP.var rfl) (EvP.var rfl) (fun _ _ _ => rfl)) (EvP.cons EvP.cst EvP.nil)) (by simp)) EvP.nil)))) (by simp)) (by simp)
    intro v H' d r
    exact q v H' (e2.trans d) r
end
end K01

set_option Elab.async false
set_option linter.all false
set_option maxRecDepth 100000
set_option maxHeartbeats 4000000
namespace K01
open PySem PySem.Spec PyProof.Rows L2
/-- what stands at the names of Python's own that the law asks for -/
structure Blt3 (mg : Str → Option Value) : Prop where
  repr : mg "repr" = none
  v : mg "ValueError" = none
  l : mg "LookupError" = none
  t : mg "TypeError" = none
  a : mg "ArithmeticError" = none
  at_ : mg "AttributeError" = none
  r : mg "RuntimeError" = none
/-- the base of the errors, and how the classes stand to Python's own -/
structure Bs (K : PySem.W.Frag) (mg : Str → Option Value) (C : Nat → Addr) (B : Addr) : Prop where
  g : mg "FillError" = some (.ref B)
  ec : ExcC K B
  q : PySem.W.excIn K B [.type "ValueError", .type "Exception", .type "BaseException", .type "object"] "ValueError.__new__" = true
  kp : PySem.W.keepIn K (.ref B) = true
  k0 : PySem.W.kitOne K (.ref B) (.ref (C 0)) = some false
  kv : PySem.W.kitOne K (.ref B) (.type "ValueError") = some true
  up : ∀ i, i < 22 → PySem.W.kitOne K (.ref (C i)) (.ref B) = some true
  v : ∀ i, i < 22 → PySem.W.kitOne K (.ref (C i)) (.type "ValueError") = some true
  l : ∀ i, i < 22 → PySem.W.kitOne K (.ref (C i)) (.type "LookupError") = some false
  t : ∀ i, i < 22 → PySem.W.kitOne K (.ref (C i)) (.type "TypeError") = some false
  a : ∀ i, i < 22 → PySem.W.kitOne K (.ref (C i)) (.type "ArithmeticError") = some false
  at_ : ∀ i, i < 22 → PySem.W.kitOne K (.ref (C i)) (.type "AttributeError") = some false
  r : ∀ i, i < 22 → PySem.W.kitOne K (.ref (C i)) (.type "RuntimeError") = some false
  rd : ∀ i, i < 22 → Rd K (C i) (kd i)
/-- a def of the law: where it stands, what it keeps -/
structure Df (P : Program) (w : World) (K : PySem.W.Frag) (mg : Str → Option Value) (base : Heap) (x : Str) (k : Nat) (ps : List Str) (sp : Sp) (f : Addr) (fd : FuncData) : Prop where
  g : mg x = some (.ref f)
  kp : PySem.W.keepIn K (.ref f) = true
  ok : FnOk P w K mg base CX0 k f fd ps sp
  b : Binds K fd ps []
def spLaw (K : PySem.W.Frag) : Sp := fun vs H Q _ => ∃ (a : Addr) (ns : List Int), vs = [.ref a] ∧ SqL K H a (ns.map V.int) ∧ ns.length ≤ 63 ∧ ∀ H', Q (.bl true) H'
theorem kd_ok : ∀ j, j < 22 → kd j ∈ okKd := by
  intro j hj
  have all : ∀ k ∈ kds, k ∈ okKd := by simp [kds, okKd]
  have e : kd j = kds[j]'hj := by
    unfold kd
    rw [List.getD_eq_getElem?_getD, List.getElem?_eq_getElem (h := hj)]
    rfl
  rw [e]
  exact all _ (List.getElem_mem hj)
theorem last_named : ∀ j ∈ nidx, ∀ y z : V, ∃ l, vals (kd j) (fst j y z) y = l ++ [y] := by
  intro j hj y z
  simp only [nidx, List.mem_cons, List.not_mem_nil, or_false] at hj
  rcases hj with rfl | rfl | rfl | rfl | rfl | rfl | rfl | rfl | rfl | rfl | rfl | rfl
  all_goals first | exact ⟨[], rfl⟩ | exact ⟨[z], rfl⟩
theorem listText2 (x y : Str) : (listText [x, y]).length ≤ x.length + y.length + 10 := by
  have e : listText [x, y] = ((((("[" : Str) ++ ("" : Str)) ++ x) ++ (", " : Str)) ++ y) ++ ("]" : Str) := rfl
  rw [e]
  simp only [Str.length_append]
  have e0 : (Str.ofString "").length = 0 := by decide
  have e1 : (Str.ofString "[").length = 1 := by decide
  have e2 : (Str.ofString "]").length = 1 := by decide
  have e3 : (Str.ofString ", ").length = 2 := by decide
  omega
theorem listText1 (x : Str) : (listText [x]).length ≤ x.length + 10 := by
  have e : listText [x] = ((("[" : Str) ++ ("" : Str)) ++ x) ++ ("]" : Str) := rfl
  rw [e]
  simp only [Str.length_append]
  have e0 : (Str.ofString "").length = 0 := by decide
  have e1 : (Str.ofString "[").length = 1 := by decide
  have e2 : (Str.ofString "]").length = 1 := by decide
  omega
/-- a list of the fields' values can be shown -/
theorem shw_vals {p : Addr} {H : Hp} {y z : V} (k : Kd) (h1 : Shw p H y) (h2 : Shw p H z) :
    ∃ ds, DqAll p H (vals k y z) ds ∧ (PyData.list ds).showable = true ∧ (PyData.list ds).depth ≤ 60 ∧ (PyData.list ds).shown.length ≤ 100000 := by
  obtain ⟨d1, a1, b1, c1, e1⟩ := h1
  obtain ⟨d2, a2, b2, c2, e2⟩ := h2
  cases k with
  | one f =>
    refine ⟨[d1], .cons a1 .nil, ?_, ?_, ?_⟩
    · show (d1.showable && true) = true
      rw [b1]
      rfl
    · show max d1.depth 0 + 1 ≤ 60
      omega
    · have := listText1 d1.shown
      show (listText [d1.shown]).length ≤ 100000
      omega
  | two f g =>
    refine ⟨[d1, d2], .cons a1 (.cons a2 .nil), ?_, ?_, ?_⟩
    · show (d1.showable && (d2.showable && true)) = true
      rw [b1, b2]
      rfl
    · show max d1.depth (max d2.depth 0) + 1 ≤ 60
      omega
    · have := listText2 d1.shown d2.shown
      show (listText [d1.shown, d2.shown]).length ≤ 100000
      omega
  | zero => exact ⟨[], .nil, rfl, by decide, by decide +kernel⟩
theorem scLaw : FnScope ["script", "pen", "turn", "one", "two", "made", "error", "spot", "names", "fields"] ["script"] (defScope sLaw) := ⟨rfl, rfl, rfl, by decide +kernel, rfl, by decide +kernel, by decide +kernel⟩
section
variable {P : Program} {w : World} {K : PySem.W.Frag} {mg : Str → Option Value} {base : Heap} {f fPen fV fM fN fF fC : Addr} {fd0 dPen dV dM dN dF dC : FuncData} {C : Nat → Addr} {B : Addr}
theorem ok_law (F : Fun K "law" "law" sLaw f fd0) (S : Cs K mg C) (Z : Bs K mg C B) (T : Blt mg) (T2 : Blt2 mg) (T3 : Blt3 mg) (Dp : Df P w K mg base "_law_pen" 1 ["script"] (spPen K) fPen dPen) (Dv : Df P w K mg base "_law_value" 3 ["pen"] spValue fV dV)
    (Dm : Df P w K mg base "_law_made" 3 ["one", "two"] (spMade C) fM dM) (Dn : Df P w K mg base "_law_named" 3 ["one", "two"] (spNamed C) fN dN) (Df_ : Df P w K mg base "_law_fields" 1 ["error", "names"] (spFields K) fF dF)
    (Dc : Df P w K mg base "_law_classes" 1 ["error"] (spClasses C) fC dC) : XG.FnG P w K mg base CX0 4 f fd0 ["script"] (spLaw K) := by
  refine XG.Fun.okG F scLaw (fun vs H Q E h => ?_) (fun cdv A outer s H vs Q E gd hr h => ?_)
  · obtain ⟨a, ns, rfl, _⟩ := h
    rfl
  · obtain ⟨a, ns, rfl, hS, hl, q⟩ := h
    have nd := scLaw.nd
    have hu : (cxOf CX0 P w K mg base ["script", "pen", "turn", "one", "two", "made", "error", "spot", "names", "fields"] "law" (defScope sLaw) f cdv A outer ‹Shared› H E).nox.A.units + 64 < cLine := by
      have z := hr.un
      show (A.deeper _).units + 64 < cLine
      omega
    have hg : (cxOf CX0 P w K mg base ["script", "pen", "turn", "one", "two", "made", "error", "spot", "names", "fields"] "law" (defScope sLaw) f cdv A outer ‹Shared› H E).nox.A.guards = some [] := gd
    have hr1 := hr.mono (show 1 ≤ 3 by decide)
    refine ⟨_, (pss_cons (ps_set (i := 1) nd rfl (Or.inl rfl) (pe_call Dp.ok hr1 (by rfl) Dp.g Dp.kp Dp.b .nil pass0 (pa_cons (pv 0) pa_nil)))
      (pss_cons (ps_for PassesOwn.never rfl (pi_range1 (by rfl) T2.range (pa_cons pe_int pa_nil)) (pg_name (i := 2) nd rfl (Or.inl rfl))
      (pss_cons (ps_par (i := 3) (j := 4) (by rfl) nd rfl rfl (by decide) rfl rfl (pa_cons (pe_call Dv.ok hr (by rfl) Dv.g Dv.kp Dv.b .nil pass0 (pa_cons (pv 1) pa_nil)) (pa_cons (pe_call Dv.ok hr (by rfl) Dv.g Dv.kp Dv.b .nil pass0 (pa_cons (pv 1) pa_nil)) pa_nil)) (by rfl))
      (pss_cons (ps_set (i := 5) nd rfl (Or.inl rfl) (pe_call Dm.ok hr (by rfl) Dm.g Dm.kp Dm.b .nil pass0 (pa_cons (pv 3) (pa_cons (pv 4) pa_nil))))
      (pss_cons (ps_for PassesOwn.never rfl (pi_list (pe_call Dn.ok hr (by rfl) Dn.g Dn.kp Dn.b .nil pass0 (pa_cons (pv 3) (pa_cons (pv 4) pa_nil)))) (pg_tup rfl (pgs_cons (pg_name (i := 6) nd rfl (Or.inl rfl)) (pgs_cons (pg_name (i := 7) nd rfl (Or.inl rfl)) pgs_nil)))
      (pss_one (ps_if (PW.pt (pw_or (pt_cmpR (op_neD hu) (pe_call Dc.ok hr1 (by rfl) Dc.g Dc.kp Dc.b .nil pass0 (pa_cons (pv 6) pa_nil)) (pe_lst (pa_cons (pv 7) pa_nil)) (nomark _))
      (pw_or1 (pt_cmpR op_ne (pe_callB (call_reprG hg hu) (by rfl) T3.repr (by decide +kernel) (pa_cons (pe_ix ix_list (pe_call Df_.ok hr1 (by rfl) Df_.g Df_.kp Df_.b .nil pass0 (pa_cons (pv 6) (pa_cons (pe_ix ix_tup (pe_ix ix_list (pv 5) (pv 7) (fun _ _ => rfl)) pe_int (fun _ _ => rfl)) pa_nil))) (pe_un un_neg pe_int) (fun _ _ => rfl)) pa_nil)) (pe_callB (call_reprG hg hu) (by rfl) T3.repr (by decide +kernel) (pa_cons (pv 3) pa_nil)) (nomark _))))) (pss_one (ps_ret pe_bl)) pss_nil)))
      (pss_one (ps_for PassesOwn.never rfl (pi_range1 (by rfl) T2.range (pa_cons (pe_callB call_len_seq (by rfl) T.len PySem.boot_len (pa_cons (pv 5) pa_nil)) pa_nil)) (pg_name (i := 7) nd rfl (Or.inl rfl))
      (pss_cons (ps_asg (pe_ix ix_list (pv 5) (pv 7) (fun _ _ => rfl)) (pg_tup rfl (pgs_cons (pg_name (i := 6) nd rfl (Or.inl rfl)) (pgs_cons (pg_name (i := 8) nd rfl (Or.inl rfl)) (pgs_cons (pg_name (i := 9) nd rfl (Or.inl rfl)) pgs_nil)))))
      (pss_cons (ps_if (PW.pt (pw_or (pt_cmpR op_ne (pe_callB (call_reprG hg hu) (by rfl) T3.repr (by decide +kernel) (pa_cons (pe_call Df_.ok hr1 (by rfl) Df_.g Df_.kp Df_.b .nil pass0 (pa_cons (pv 6) (pa_cons (pv 8) pa_nil))) pa_nil)) (pe_callB (call_reprG hg hu) (by rfl) T3.repr (by decide +kernel) (pa_cons (pv 9) pa_nil)) (nomark _))
      (pw_or1 (pt_cmpR (op_neD hu) (pe_call Dc.ok hr1 (by rfl) Dc.g Dc.kp Dc.b .nil pass0 (pa_cons (pv 6) pa_nil)) (pe_lst (pa_cons (pv 7) pa_nil)) (nomark _))))) (pss_one (ps_ret pe_bl)) pss_nil)
      (pss_cons (ps_if (PW.pt (pw_or (pt_not (pt_val (pe_callB call_isX (by rfl) T2.isi (by decide +kernel) (pa_cons (pv 6) (pa_cons (pe_glob (v := .ref B) (by rfl) Z.g rfl) pa_nil)))))
      (pw_or1 (pt_not (pt_val (pe_callB call_isX (by rfl) T2.isi (by decide +kernel) (pa_cons (pv 6) (pa_cons (pe_bltn (v := .ty "ValueError") (by rfl) T3.v (by decide +kernel) rfl) pa_nil)))))))) (pss_one (ps_ret pe_bl)) pss_nil)
      (pss_cons (ps_if (PW.pt (pw_or (pt_val (pe_callB call_isX (by rfl) T2.isi (by decide +kernel) (pa_cons (pv 6) (pa_cons (pe_bltn (v := .ty "LookupError") (by rfl) T3.l (by decide +kernel) rfl) pa_nil))))
      (pw_or (pt_val (pe_callB call_isX (by rfl) T2.isi (by decide +kernel) (pa_cons (pv 6) (pa_cons (pe_bltn (v := .ty "TypeError") (by rfl) T3.t (by decide +kernel) rfl) pa_nil))))
      (pw_or1 (pt_val (pe_callB call_isX (by rfl) T2.isi (by decide +kernel) (pa_cons (pv 6) (pa_cons (pe_bltn (v := .ty "ArithmeticError") (by rfl) T3.a (by decide +kernel) rfl) pa_nil)))))))) (pss_one (ps_ret pe_bl)) pss_nil)
      (pss_one (ps_if (PW.pt (pw_or (pt_val (pe_callB call_isX (by rfl) T2.isi (by decide +kernel) (pa_cons (pv 6) (pa_cons (pe_bltn (v := .ty "AttributeError") (by rfl) T3.at_ (by decide +kernel) rfl) pa_nil))))
      (pw_or1 (pt_val (pe_callB call_isX (by rfl) T2.isi (by decide +kernel) (pa_cons (pv 6) (pa_cons (pe_bltn (v := .ty "RuntimeError") (by rfl) T3.r (by decide +kernel) rfl) pa_nil))))))) (pss_one (ps_ret pe_bl)) pss_nil))))))))))))
      (pss_one (ps_ret (pe_and (pe_not (pe_callB call_isX (by rfl) T2.isi (by decide +kernel) (pa_cons (pe_excv1 PySem.F.excBase_ValueError Z.q Z.g Z.kp (by rfl) pe_str) (pa_cons (pe_glob (v := .ref (C 0)) (by rfl) (S.g 0 (by decide)) rfl) pa_nil)))) (pe_one (pe_callB call_isX (by rfl) T2.isi (by decide +kernel) (pa_cons (pe_excv1 PySem.F.excBase_ValueError Z.q Z.g Z.kp (by rfl) pe_str) (pa_cons (pe_bltn (v := .ty "ValueError") (by rfl) T3.v (by decide +kernel) rfl) pa_nil))))))))), ?_⟩
    -- pen = _law_pen(script)
    refine ⟨_, rfl, a, ns, rfl, hS, hl, fun p qc ms H1 hm hP1 x1 => ?_⟩
    -- for turn in range(8)
    refine ⟨8, rfl, by decide, by decide, for_range (lo := 0) (n := 8) (fun k σ H' => ∃ (o2 o3 o4 o5 o6 o7 o8 o9 : Option V) (s g : Int), σ = [some (.ref a), some (.ref p), o2, o3, o4, o5, o6, o7, o8, o9] ∧ Pen H' p qc ms s g ∧ 0 ≤ s ∧ s ≤ 2 * (k : Int)) ?_ ?_ ?_⟩
    · exact ⟨none, none, none, none, none, none, none, none, 0, 0, rfl, hP1, by omega, by omega⟩
    · rintro k σ H2 hk ⟨o2, o3, o4, o5, o6, o7, o8, o9, s, g, rfl, hP2, s0, s1⟩
      -- one, two = ..
      refine ⟨_, rfl, p, qc, ms, s, g, rfl, hP2, hm, s0, by omega, fun one sa ga H3 sh1 a1 b1 hP3 hB3 => ?_⟩
      refine ⟨_, rfl, p, qc, ms, sa, ga, rfl, hP3, hm, by omega, by omega, fun two sb gb H4 sh2 a2 b2 hP4 hB4 => ?_⟩
      refine ⟨one, two, rfl, ?_⟩
      have sh1' : Shw p H4 one := by
        obtain ⟨d, z, r⟩ := sh1
        exact ⟨d, z.ex hB4, r⟩
      -- made = _law_made(one, two)
      refine ⟨_, rfl, _, rfl, one, two, rfl, fun v H5 x5 rM => ?_⟩
      obtain ⟨aM, vM, rfl, hM, nM, allM⟩ := rM
      have lM : vM.length = 22 := allM.length
      -- for error, spot in _law_named(one, two)
      refine ⟨_, rfl, _, rfl, one, two, rfl, fun v H6 x6 rN => ?_⟩
      obtain ⟨aN, vN, rfl, hN, _, allN⟩ := rN
      have lN : vN.length = 12 := allN.length
      have x46 := x5.trans x6
      have sh : ∀ {H'' : Hp}, EvP.Ex H6 H'' → Shw p H'' one := fun {H''} x => by
        obtain ⟨d, z, r⟩ := sh1'
        exact ⟨d, z.ex (fun b o w _ => x b o (x46 b o w)), r⟩
      have sh' : ∀ {H'' : Hp}, EvP.Ex H6 H'' → Shw p H'' two := fun {H''} x => by
        obtain ⟨d, z, r⟩ := sh2
        exact ⟨d, z.ex (fun b o w _ => x b o (x46 b o w)), r⟩
      have rowM : ∀ j, j < 22 → ∃ (t e f : Addr), vM[j]? = some (.ref t) ∧ H5 t = some (.tup [.ref e, .str (txt (kd j)), .ref f]) ∧ ErrAt H5 e (C j) (flds (kd j) one two) ∧ H5 f = some (.lst (vals (kd j) one two)) ∧ H4 f = none ∧ f ≠ sysModules := fun j hj => by
        obtain ⟨u, hu, t, vs, rfl, ht, al⟩ := allM.get (i := j) (P := ent H4 C one two j) (by rw [List.getElem?_map, List.getElem?_range hj]; rfl)
        cases al with
        | cons r1 al =>
          cases al with
          | cons r2 al =>
            cases al with
            | cons r3 al =>
              cases al
              obtain ⟨e, rfl, hE⟩ := r1
              obtain rfl := r2
              obtain ⟨f, ws, rfl, hf, n1, n2, al⟩ := r3
              obtain rfl := is_vals al
              exact ⟨t, e, f, hu, ht, hE, hf, n1, n2⟩
      have pne : ∀ {b : Addr}, H4 b = none → b ≠ p := fun {b} z w => by
        rw [w, hP4.p] at z
        cases z
      refine ⟨aN, rfl, ⟨_, SqL.of hN⟩, for_list (K := K) (a := aN) (xs := vN) (fun i σ H' => ∃ o6 o7 o8 o9 : Option V, σ = [some (.ref a), some (.ref p), some (.int (0 + (k : Nat))), some one, some two, some (.ref aM), o6, o7, o8, o9] ∧ EvP.Ex H6 H') ?_ ?_ ?_ ?_⟩
      · exact ⟨o6, o7, o8, o9, rfl, EvP.Ex.refl H6⟩
      · rintro i σ H7 _ ⟨_, _, _, _, _, x7⟩
        exact SqL.of (x7 _ _ hN)
      · rintro i x σ H7 hi ⟨o6, o7, o8, o9, rfl, x7⟩
        have hi12 : i < 12 := by
          have := (List.getElem?_eq_some_iff.mp hi).1
          omega
        obtain ⟨j, hj⟩ : ∃ j, nidx[i]? = some j := ⟨nidx[i]'hi12, List.getElem?_eq_getElem hi12⟩
        have mj : j ∈ nidx := List.mem_of_getElem? hj
        have j22 : j < 22 := (show ∀ j ∈ nidx, j < 22 by decide) j mj
        obtain ⟨u, hu, t, vs, rfl, ht, al⟩ := allN.get (i := i) (P := entN C one two j) (by rw [List.getElem?_map, hj]; rfl)
        rw [hu] at hi
        cases hi
        cases al with
        | cons r1 al =>
          cases al with
          | cons r2 al =>
            cases al
            obtain ⟨e, rfl, hE⟩ := r1
            obtain rfl := r2
            refine ⟨t, _, rfl, SqT.of (x7 _ _ ht), rfl, _, _, rfl, _, _, rfl, rfl, ?_⟩
            -- _law_classes(error) != [spot]
            refine ⟨_, rfl, e, j, _, rfl, j22, hE.ex x7, fun aC H8 x8 hC => ?_⟩
            refine ⟨_, rfl, by show 1 ≤ sizeLine; decide, fun l hl' => ?_⟩
            have x9 := x8.trans (EvP.Ex.new (o := .lst [V.int (j : Nat)]) hl')
            refine ⟨_, _, .lst (SqL.of (EvP.Ex.new hl' _ _ hC)) (.cons (.int (j : Nat)) .nil), .lst (SqL.of upd_same) (.cons (.int (j : Nat)) .nil), rfl, rfl, _, rfl, ?_⟩
            rw [show PyData.eqv (.list [.int (j : Nat)]) (.list [.int (j : Nat)]) = true by simp [PyData.eqv, PyData.eqvAll]]
            refine iteF ?_
            -- repr(_law_fields(error, made[spot][1])[-1]) != repr(one)
            obtain ⟨t2, e2, f2, hr2, ht2, _, _, _, _⟩ := rowM j j22
            have xx := x7.trans x9
            refine ⟨_, rfl, _, rfl, _, rfl, aM, vM, _, _, rfl, rfl, SqL.of (xx _ _ (x6 _ _ hM)), at_of (j := j) rfl hr2, ?_⟩
            refine ⟨t2, _, 1, .str (txt (kd j)), rfl, rfl, SqT.of (xx _ _ (x6 _ _ ht2)), rfl, ?_⟩
            -- the call
            refine ⟨e, C j, kd j, fst j one two, one, rfl, kd_ok j j22, hE.ex xx, Z.rd j j22, fun v H9 x10 rF => ?_⟩
            obtain ⟨aF, vF, rfl, hF, _, _, allF⟩ := rF
            obtain rfl := is_vals allF
            obtain ⟨l0, hl0⟩ := last_named j mj one two
            obtain ⟨d, hd, hs, hp, hz⟩ := sh (xx.trans x10)
            refine ⟨1, rfl, aF, _, -1, one, rfl, rfl, SqL.of hF, by rw [hl0]; exact atI_last l0 one, p, one, d, rfl, hd, hs, by omega, by omega, ?_⟩
            refine ⟨_, rfl, p, one, d, rfl, hd, hs, by omega, by omega, rfl, _, rfl, ?_⟩
            refine iteNS rfl ?_
            exact ⟨_, _, _, _, rfl, xx.trans x10⟩
      · rintro σ H7 ⟨o6, o7, o8, o9, rfl, x7⟩
        -- for spot in range(len(made))
        have hM7 := x7 _ _ (x6 _ _ hM)
        refine ⟨_, rfl, aM, vM, rfl, .inl (SqL.of hM7), _, rfl, by omega, by rw [lM]; decide, for_range (lo := 0) (n := ((vM.length : Nat) : Int).toNat) (fun i σ H' => ∃ o6 o7 o8 o9 : Option V, σ = [some (.ref a), some (.ref p), some (.int (0 + (k : Nat))), some one, some two, some (.ref aM), o6, o7, o8, o9] ∧ EvP.Ex H7 H') ?_ ?_ ?_⟩
        · exact ⟨o6, o7, o8, o9, rfl, EvP.Ex.refl H7⟩
        · rintro i σ H8 hi ⟨o6, o7, o8, o9, rfl, x8⟩
          have i22 : i < 22 := by
            rw [lM] at hi
            omega
          obtain ⟨t, e, f, hr2, ht, hE, hf, nf, nf2⟩ := rowM i i22
          have y8 := x7.trans x8
          have z8 := x6.trans y8
          -- error, names, fields = made[spot]
          refine ⟨_, rfl, _, rfl, aM, vM, _, _, rfl, rfl, SqL.of (x8 _ _ hM7), at_of (j := i) (by omega) hr2, ?_⟩
          refine ⟨t, _, rfl, SqT.of (z8 _ _ ht), rfl, _, _, rfl, _, _, rfl, _, _, rfl, rfl, ?_⟩
          -- repr(_law_fields(error, names)) != repr(fields)
          refine ⟨_, rfl, _, rfl, e, C i, kd i, one, two, rfl, kd_ok i i22, hE.ex z8, Z.rd i i22, fun v H9 x9 rF => ?_⟩
          obtain ⟨aF, vF, rfl, hF, nF, nF2, allF⟩ := rF
          obtain rfl := is_vals allF
          have y9 := y8.trans x9
          obtain ⟨ds, hds, hs, hp, hz⟩ := shw_vals (kd i) (sh y9) (sh' y9)
          have pF : aF ≠ p := fun w => by
            rw [w, z8 _ _ (x5 _ _ hP4.p)] at nF
            cases nF
          refine ⟨p, .ref aF, .list ds, rfl, .lst hF pF nF2 hds, hs, hp, hz, ?_⟩
          refine ⟨_, rfl, p, .ref f, .list ds, rfl, .lst (x9 _ _ (z8 _ _ hf)) (pne nf) nf2 hds, hs, hp, hz, rfl, _, rfl, ?_⟩
          refine iteNS rfl ?_
          -- _law_classes(error) != [spot]
          have z9 := z8.trans x9
          refine ⟨_, rfl, e, i, _, rfl, i22, hE.ex z9, fun aC H10 x10 hC => ?_⟩
          refine ⟨_, rfl, by show 1 ≤ sizeLine; decide, fun l hl' => ?_⟩
          have x11 := x10.trans (EvP.Ex.new (o := .lst [V.int (0 + (i : Nat))]) hl')
          refine ⟨.list [.int (i : Nat)], .list [.int (0 + (i : Nat))], .lst (SqL.of (EvP.Ex.new hl' _ _ hC)) (.cons (.int (i : Nat)) .nil), .lst (SqL.of upd_same) (.cons (.int (0 + (i : Nat))) .nil), rfl, rfl, _, rfl, ?_⟩
          rw [show PyData.eqv (.list [.int (i : Nat)]) (.list [.int (0 + (i : Nat))]) = true by simp [PyData.eqv, PyData.eqvAll]]
          refine iteF ?_
          -- the classes above it, and those that are not
          have hE' := hE.ex (z9.trans x11)
          refine ⟨_, rfl, e, C i, _, _, _, true, rfl, hE', S.ec i i22, .own _, Z.up i i22, _, rfl, iteF ?_⟩
          refine ⟨_, rfl, e, C i, _, _, _, true, rfl, hE', S.ec i i22, .ty _, Z.v i i22, _, rfl, iteF ?_⟩
          refine ⟨_, rfl, e, C i, _, _, _, false, rfl, hE', S.ec i i22, .ty _, Z.l i i22, _, rfl, iteF ?_⟩
          refine ⟨_, rfl, e, C i, _, _, _, false, rfl, hE', S.ec i i22, .ty _, Z.t i i22, _, rfl, iteF ?_⟩
          refine ⟨_, rfl, e, C i, _, _, _, false, rfl, hE', S.ec i i22, .ty _, Z.a i i22, _, rfl, iteF ?_⟩
          refine ⟨_, rfl, e, C i, _, _, _, false, rfl, hE', S.ec i i22, .ty _, Z.at_ i i22, _, rfl, iteF ?_⟩
          refine ⟨_, rfl, e, C i, _, _, _, false, rfl, hE', S.ec i i22, .ty _, Z.r i i22, _, rfl, iteF ?_⟩
          exact ⟨_, _, _, _, rfl, (x8.trans x9).trans x11⟩
        · rintro σ H8 ⟨o6, o7, o8, o9, rfl, x8⟩
          have y8 := (x46.trans x7).trans x8
          exact ⟨_, _, _, _, _, _, _, _, sb, gb, rfl, ⟨y8 _ _ hP4.p, y8 _ _ hP4.q⟩, by omega, by omega⟩
    · -- return not isinstance(FillError('a'), BadName) and isinstance(FillError('a'), ValueError)
      rintro σ H2 ⟨o2, o3, o4, o5, o6, o7, o8, o9, s, g, rfl, _, _, _⟩
      refine fun x hx => ⟨x, B, [], _, _, false, rfl, .inl ⟨rfl, upd_same⟩, Z.ec, .own _, Z.k0, _, rfl, _, rfl, iteT ?_⟩
      exact fun y hy => ⟨y, B, [], _, _, true, rfl, .inl ⟨rfl, upd_same⟩, Z.ec, .ty _, Z.kv, q _⟩
end
end K01

set_option Elab.async false
set_option linter.all false
set_option maxRecDepth 100000
set_option maxHeartbeats 4000000
namespace K01
open PySem PySem.Spec PyProof.Rows L2
/-! ### the facts of the written part, each lot as one word -/
/-- of every class of the errors -/
def clsB (K : PySem.W.Frag) (C : Addr) : Bool :=
  decide (PySem.W.findIn K (.ref C) "__getattribute__" = some (some (.builtin "BaseException.__getattribute__"))) && (decide (PySem.W.findIn K (.ref C) "__getattr__" = some none) &&
  (decide (PySem.W.subIn K (.ref C) (.type "BaseException") = some true) && (PySem.W.hasDictIn K C && (decide (PySem.W.findIn K (.ref C) "__class__" = some (some (.builtin "object.__class__"))) &&
  (decide (PySem.W.mroIn K C (.type "object") = some true) && (decide (PySem.W.typeIn K (.ref C) = some (.type "type")) && PySem.W.keepIn K (.ref C)))))))
theorem and2 {a b : Bool} (h : (a && b) = true) : a = true ∧ b = true := Bool.and_eq_true_iff.mp h
structure ClsP (K : PySem.W.Frag) (C : Addr) : Prop where
  ga : PySem.W.findIn K (.ref C) "__getattribute__" = some (some (.builtin "BaseException.__getattribute__"))
  gg : PySem.W.findIn K (.ref C) "__getattr__" = some none
  ex : PySem.W.subIn K (.ref C) (.type "BaseException") = some true
  hd : PySem.W.hasDictIn K C = true
  cl : PySem.W.findIn K (.ref C) "__class__" = some (some (.builtin "object.__class__"))
  mo : PySem.W.mroIn K C (.type "object") = some true
  ty : PySem.W.typeIn K (.ref C) = some (.type "type")
  kp : PySem.W.keepIn K (.ref C) = true
theorem clsP {K : PySem.W.Frag} {C : Addr} (h : clsB K C = true) : ClsP K C := by
  obtain ⟨h1, h⟩ := and2 h
  obtain ⟨h2, h⟩ := and2 h
  obtain ⟨h3, h⟩ := and2 h
  obtain ⟨h4, h⟩ := and2 h
  obtain ⟨h5, h⟩ := and2 h
  obtain ⟨h6, h⟩ := and2 h
  obtain ⟨h7, h8⟩ := and2 h
  exact ⟨of_decide_eq_true h1, of_decide_eq_true h2, of_decide_eq_true h3, h4, of_decide_eq_true h5, of_decide_eq_true h6, of_decide_eq_true h7, h8⟩
/-- of a class with fields -/
def iniB (K : PySem.W.Frag) (C fI : Addr) (fs : List Str) : Bool :=
  decide (PySem.W.findIn K (.ref C) "__setattr__" = some (some (.builtin "object.__setattr__"))) && (decide (PySem.W.typeIn K (.ref fI) = some (.type "function")) && fs.all fun f => decide (PySem.W.findIn K (.ref C) f = some none))
/-- how the classes stand to one another and to Python's own -/
def kitB (K : PySem.W.Frag) (Cs : List Addr) (B : Addr) : Bool :=
  (List.range 22).all (fun i => (List.range 22).all fun j => decide (PySem.W.kitOne K (.ref (Cs.getD i 0)) (.ref (Cs.getD j 0)) = some (decide (i = j)))) &&
  ((List.range 22).all (fun i => decide (PySem.W.kitOne K (.ref (Cs.getD i 0)) (.ref B) = some true) && (decide (PySem.W.kitOne K (.ref (Cs.getD i 0)) (.type "ValueError") = some true) &&
    (decide (PySem.W.kitOne K (.ref (Cs.getD i 0)) (.type "LookupError") = some false) && (decide (PySem.W.kitOne K (.ref (Cs.getD i 0)) (.type "TypeError") = some false) &&
    (decide (PySem.W.kitOne K (.ref (Cs.getD i 0)) (.type "ArithmeticError") = some false) && (decide (PySem.W.kitOne K (.ref (Cs.getD i 0)) (.type "AttributeError") = some false) &&
    decide (PySem.W.kitOne K (.ref (Cs.getD i 0)) (.type "RuntimeError") = some false))))))) &&
  (decide (PySem.W.kitOne K (.ref B) (.ref (Cs.getD 0 0)) = some false) && decide (PySem.W.kitOne K (.ref B) (.type "ValueError") = some true)))
section
variable {P : Program} {w : World} {K : PySem.W.Frag} {mg : Str → Option Value} {base : Heap}
theorem cl1_mk {C fI : Addr} {x qual f : Str} {st : Stmt} {fd : FuncData} {q1 q2 q3 q4 : Pos} {nm q : Str} {N : Addr} {bs bm : List Value} {sn : List Str} {sub : List Value} {ab : Bool} {col : Option Bool} {dd : Option Addr} {m0 m1 m2 m3 m5 : Option Value}
    (xL : K.lookup C = some (excClassObj nm q C N bs bm true sn sub ab col dd m0 m1 m2 m3 m5 "ValueError.__new__")) (hm : PySem.HandSPX.refsVE bm = true) (a1 : PySem.W.findIn K (.ref C) "__init__" = some (some (.ref fI))) (F : Fun K "__init__" qual st fI fd)
    (hb : defBody st = [.Assign [.Attribute (.Name "self" q1) f q2] (.Name f q3) q4])
    (S : FnScope ["self", f] ["self", f] (defScope st)) (hs : ∀ env : Env, swapsWith (.Name f q3) (some (.Attribute (.Name "self" q1) f q2)) q4.line env = pure false) (h1 : (f == ("__debug__" : Str)) = false) (h2 : (f == ("__classdict__" : Str)) = false)
    (b1 : ∀ (kV doc pm : Value) (an : Option Addr) (cdv ct : Value) (us ws : List Value), us.length = 2 → ws.length = ([] : List Str).length → bindArgs (PySem.W.fnOf "__init__" qual (defArgs st) (defBody st) (defScope st) .none kV doc pm an cdv ct) ⟨us, ([] : List Str).zip ws⟩ = pure ((["self", f] : List Str).zip us))
    (b2 : ∀ (kV doc pm : Value) (an : Option Addr) (cdv ct : Value) (us ws : List Value), us.length = 1 → ws.length = ([f] : List Str).length → bindArgs (PySem.W.fnOf "__init__" qual (defArgs st) (defBody st) (defScope st) .none kV doc pm an cdv ct) ⟨us, ([f] : List Str).zip ws⟩ = pure ((["self", f] : List Str).zip (us ++ ws)))
    (c : clsB K C = true) (i : iniB K C fI [f] = true) : Cl1 P w K mg base f C fI fd := by
  have c := clsP c
  obtain ⟨i1, i⟩ := and2 i
  obtain ⟨i2, i3⟩ := and2 i
  have no : PySem.W.findIn K (.ref C) f = some none := of_decide_eq_true (by simpa using i3)
  exact ⟨⟨⟨⟨nm, q, N, bs, bm, sn, sub, ab, col, dd, m0, m1, m2, m3, m5, xL, hm⟩, of_decide_eq_true i1, c.ex, c.ty, c.kp⟩, a1, of_decide_eq_true i2⟩, no, ok_init1 F hb S hs h1 h2, F.kbn (fun r _ => r) b1, F.kbn (fun r t => r.append t) b2⟩
theorem cl2_mk {C fI : Addr} {x qual f g : Str} {st : Stmt} {fd : FuncData} {q1 q2 q3 q4 r1 r2 r3 r4 : Pos} {nm q : Str} {N : Addr} {bs bm : List Value} {sn : List Str} {sub : List Value} {ab : Bool} {col : Option Bool} {dd : Option Addr} {m0 m1 m2 m3 m5 : Option Value}
    (xL : K.lookup C = some (excClassObj nm q C N bs bm true sn sub ab col dd m0 m1 m2 m3 m5 "ValueError.__new__")) (hm : PySem.HandSPX.refsVE bm = true) (a1 : PySem.W.findIn K (.ref C) "__init__" = some (some (.ref fI))) (F : Fun K "__init__" qual st fI fd)
    (hb : defBody st = [.Assign [.Attribute (.Name "self" q1) f q2] (.Name f q3) q4, .Assign [.Attribute (.Name "self" r1) g r2] (.Name g r3) r4])
    (S : FnScope ["self", f, g] ["self", f, g] (defScope st)) (hs : ∀ env : Env, swapsWith (.Name f q3) (some (.Attribute (.Name "self" q1) f q2)) q4.line env = pure false) (hs2 : ∀ env : Env, swapsWith (.Name g r3) (some (.Attribute (.Name "self" r1) g r2)) r4.line env = pure false)
    (h1 : (f == ("__debug__" : Str)) = false) (h2 : (f == ("__classdict__" : Str)) = false) (h3 : (g == ("__debug__" : Str)) = false) (h4 : (g == ("__classdict__" : Str)) = false)
    (b1 : ∀ (kV doc pm : Value) (an : Option Addr) (cdv ct : Value) (us ws : List Value), us.length = 1 → ws.length = ([g, f] : List Str).length → bindArgs (PySem.W.fnOf "__init__" qual (defArgs st) (defBody st) (defScope st) .none kV doc pm an cdv ct) ⟨us, ([g, f] : List Str).zip ws⟩ = pure ((["self", f, g] : List Str).zip (us ++ sw ws)))
    (b2 : ∀ (kV doc pm : Value) (an : Option Addr) (cdv ct : Value) (us ws : List Value), us.length = 2 → ws.length = ([g] : List Str).length → bindArgs (PySem.W.fnOf "__init__" qual (defArgs st) (defBody st) (defScope st) .none kV doc pm an cdv ct) ⟨us, ([g] : List Str).zip ws⟩ = pure ((["self", f, g] : List Str).zip (us ++ ws)))
    (c : clsB K C = true) (i : iniB K C fI [f, g] = true) : Cl2 P w K mg base f g C fI fd := by
  have c := clsP c
  obtain ⟨i1, i⟩ := and2 i
  obtain ⟨i2, i3⟩ := and2 i
  have i3 : PySem.W.findIn K (.ref C) f = some none ∧ PySem.W.findIn K (.ref C) g = some none := by simpa using i3
  exact ⟨⟨⟨⟨nm, q, N, bs, bm, sn, sub, ab, col, dd, m0, m1, m2, m3, m5, xL, hm⟩, of_decide_eq_true i1, c.ex, c.ty, c.kp⟩, a1, of_decide_eq_true i2⟩, i3.1, i3.2, ok_init2 F hb S hs hs2 h1 h2 h3 h4, F.kbn (fun r t => r.append (sw_vals t)) b1, F.kbn (fun r t => r.append t) b2⟩
end
end K01

set_option Elab.async false
set_option linter.all false
set_option maxRecDepth 100000
set_option maxHeartbeats 8000000
namespace K01
open PySem PySem.Spec PyProof.Rows L2
theorem all_at {n : Nat} {p : Nat → Bool} (h : (List.range n).all p = true) {i : Nat} (hi : i < n) : p i = true := List.all_eq_true.mp h i (List.mem_range.mpr hi)
section
variable {P : Program} {w : World} {K : PySem.W.Frag} {mg : Str → Option Value} {base : Heap}
theorem sc_i0 : FnScope ["self", "value"] ["self", "value"] (defScope (inClass (top 2) 0)) := ⟨rfl, rfl, rfl, by decide +kernel, rfl, by decide +kernel, by decide +kernel⟩
theorem cl_0 {C0 f0 N0 : Addr} {nm0 q0 : Str} {bs0 bm0 sub0 : List Value} {sn0 : List Str} {ab0 : Bool} {col0 : Option Bool} {dd0 od0 an0 : Option Addr} {m00_ m10_ m20_ m30_ m50_ : Option Value} {oc0 kV0 dc0 pm0 cd0 ct0 : Value} {sl0 : Array (Option Value)}
    (xL0 : K.lookup C0 = some (excClassObj nm0 q0 C0 N0 bs0 bm0 true sn0 sub0 ab0 col0 dd0 m00_ m10_ m20_ m30_ m50_ "ValueError.__new__")) (hm0 : PySem.HandSPX.refsVE bm0 = true) (a0 : PySem.W.findIn K (.ref C0) "__init__" = some (some (.ref f0))) (l0 : K.lookup f0 = some ⟨oc0, od0, .func (PySem.W.fnOf "__init__" "BadName.__init__" (defArgs (inClass (top 2) 0)) (defBody (inClass (top 2) 0)) (defScope (inClass (top 2) 0)) .none kV0 dc0 pm0 an0 cd0 ct0), sl0⟩) (c0 : PySem.W.codeIn K cd0 "BadName.__init__" = true) (k0 : PySem.W.keepIn K (.ref f0) = true) (cb0 : clsB K C0 = true) (ib0 : iniB K C0 f0 ["value"] = true) :
    Cl1 P w K mg base "value" C0 f0 (PySem.W.fnOf "__init__" "BadName.__init__" (defArgs (inClass (top 2) 0)) (defBody (inClass (top 2) 0)) (defScope (inClass (top 2) 0)) .none kV0 dc0 pm0 an0 cd0 ct0) :=
  cl1_mk (x := "BadName") (st := (inClass (top 2) 0)) xL0 hm0 a0 (fun_mk (st := (inClass (top 2) 0)) l0 c0 k0) rfl sc_i0 (fun _ => rfl) rfl rfl (fun _ _ _ _ _ _ us ws e1 e2 => match us, e1, ws, e2 with | [_, _], _, [], _ => rfl) (fun _ _ _ _ _ _ us ws e1 e2 => match us, e1, ws, e2 with | [_], _, [_], _ => rfl) cb0 ib0
theorem sc_i1 : FnScope ["self", "value"] ["self", "value"] (defScope (inClass (top 3) 0)) := ⟨rfl, rfl, rfl, by decide +kernel, rfl, by decide +kernel, by decide +kernel⟩
theorem cl_1 {C1 f1 N1 : Addr} {nm1 q1 : Str} {bs1 bm1 sub1 : List Value} {sn1 : List Str} {ab1 : Bool} {col1 : Option Bool} {dd1 od1 an1 : Option Addr} {m01_ m11_ m21_ m31_ m51_ : Option Value} {oc1 kV1 dc1 pm1 cd1 ct1 : Value} {sl1 : Array (Option Value)}
    (xL1 : K.lookup C1 = some (excClassObj nm1 q1 C1 N1 bs1 bm1 true sn1 sub1 ab1 col1 dd1 m01_ m11_ m21_ m31_ m51_ "ValueError.__new__")) (hm1 : PySem.HandSPX.refsVE bm1 = true) (a1 : PySem.W.findIn K (.ref C1) "__init__" = some (some (.ref f1))) (l1 : K.lookup f1 = some ⟨oc1, od1, .func (PySem.W.fnOf "__init__" "BadAmount.__init__" (defArgs (inClass (top 3) 0)) (defBody (inClass (top 3) 0)) (defScope (inClass (top 3) 0)) .none kV1 dc1 pm1 an1 cd1 ct1), sl1⟩) (c1 : PySem.W.codeIn K cd1 "BadAmount.__init__" = true) (k1 : PySem.W.keepIn K (.ref f1) = true) (cb1 : clsB K C1 = true) (ib1 : iniB K C1 f1 ["value"] = true) :
    Cl1 P w K mg base "value" C1 f1 (PySem.W.fnOf "__init__" "BadAmount.__init__" (defArgs (inClass (top 3) 0)) (defBody (inClass (top 3) 0)) (defScope (inClass (top 3) 0)) .none kV1 dc1 pm1 an1 cd1 ct1) :=
  cl1_mk (x := "BadAmount") (st := (inClass (top 3) 0)) xL1 hm1 a1 (fun_mk (st := (inClass (top 3) 0)) l1 c1 k1) rfl sc_i1 (fun _ => rfl) rfl rfl (fun _ _ _ _ _ _ us ws e1 e2 => match us, e1, ws, e2 with | [_, _], _, [], _ => rfl) (fun _ _ _ _ _ _ us ws e1 e2 => match us, e1, ws, e2 with | [_], _, [_], _ => rfl) cb1 ib1
theorem sc_i2 : FnScope ["self", "value"] ["self", "value"] (defScope (inClass (top 4) 0)) := ⟨rfl, rfl, rfl, by decide +kernel, rfl, by decide +kernel, by decide +kernel⟩
theorem cl_2 {C2 f2 N2 : Addr} {nm2 q2 : Str} {bs2 bm2 sub2 : List Value} {sn2 : List Str} {ab2 : Bool} {col2 : Option Bool} {dd2 od2 an2 : Option Addr} {m02_ m12_ m22_ m32_ m52_ : Option Value} {oc2 kV2 dc2 pm2 cd2 ct2 : Value} {sl2 : Array (Option Value)}
    (xL2 : K.lookup C2 = some (excClassObj nm2 q2 C2 N2 bs2 bm2 true sn2 sub2 ab2 col2 dd2 m02_ m12_ m22_ m32_ m52_ "ValueError.__new__")) (hm2 : PySem.HandSPX.refsVE bm2 = true) (a2 : PySem.W.findIn K (.ref C2) "__init__" = some (some (.ref f2))) (l2 : K.lookup f2 = some ⟨oc2, od2, .func (PySem.W.fnOf "__init__" "BadWorth.__init__" (defArgs (inClass (top 4) 0)) (defBody (inClass (top 4) 0)) (defScope (inClass (top 4) 0)) .none kV2 dc2 pm2 an2 cd2 ct2), sl2⟩) (c2 : PySem.W.codeIn K cd2 "BadWorth.__init__" = true) (k2 : PySem.W.keepIn K (.ref f2) = true) (cb2 : clsB K C2 = true) (ib2 : iniB K C2 f2 ["value"] = true) :
    Cl1 P w K mg base "value" C2 f2 (PySem.W.fnOf "__init__" "BadWorth.__init__" (defArgs (inClass (top 4) 0)) (defBody (inClass (top 4) 0)) (defScope (inClass (top 4) 0)) .none kV2 dc2 pm2 an2 cd2 ct2) :=
  cl1_mk (x := "BadWorth") (st := (inClass (top 4) 0)) xL2 hm2 a2 (fun_mk (st := (inClass (top 4) 0)) l2 c2 k2) rfl sc_i2 (fun _ => rfl) rfl rfl (fun _ _ _ _ _ _ us ws e1 e2 => match us, e1, ws, e2 with | [_, _], _, [], _ => rfl) (fun _ _ _ _ _ _ us ws e1 e2 => match us, e1, ws, e2 with | [_], _, [_], _ => rfl) cb2 ib2
theorem sc_i3 : FnScope ["self", "part"] ["self", "part"] (defScope (inClass (top 5) 0)) := ⟨rfl, rfl, rfl, by decide +kernel, rfl, by decide +kernel, by decide +kernel⟩
theorem cl_3 {C3 f3 N3 : Addr} {nm3 q3 : Str} {bs3 bm3 sub3 : List Value} {sn3 : List Str} {ab3 : Bool} {col3 : Option Bool} {dd3 od3 an3 : Option Addr} {m03_ m13_ m23_ m33_ m53_ : Option Value} {oc3 kV3 dc3 pm3 cd3 ct3 : Value} {sl3 : Array (Option Value)}
    (xL3 : K.lookup C3 = some (excClassObj nm3 q3 C3 N3 bs3 bm3 true sn3 sub3 ab3 col3 dd3 m03_ m13_ m23_ m33_ m53_ "ValueError.__new__")) (hm3 : PySem.HandSPX.refsVE bm3 = true) (a3 : PySem.W.findIn K (.ref C3) "__init__" = some (some (.ref f3))) (l3 : K.lookup f3 = some ⟨oc3, od3, .func (PySem.W.fnOf "__init__" "BadTable.__init__" (defArgs (inClass (top 5) 0)) (defBody (inClass (top 5) 0)) (defScope (inClass (top 5) 0)) .none kV3 dc3 pm3 an3 cd3 ct3), sl3⟩) (c3 : PySem.W.codeIn K cd3 "BadTable.__init__" = true) (k3 : PySem.W.keepIn K (.ref f3) = true) (cb3 : clsB K C3 = true) (ib3 : iniB K C3 f3 ["part"] = true) :
    Cl1 P w K mg base "part" C3 f3 (PySem.W.fnOf "__init__" "BadTable.__init__" (defArgs (inClass (top 5) 0)) (defBody (inClass (top 5) 0)) (defScope (inClass (top 5) 0)) .none kV3 dc3 pm3 an3 cd3 ct3) :=
  cl1_mk (x := "BadTable") (st := (inClass (top 5) 0)) xL3 hm3 a3 (fun_mk (st := (inClass (top 5) 0)) l3 c3 k3) rfl sc_i3 (fun _ => rfl) rfl rfl (fun _ _ _ _ _ _ us ws e1 e2 => match us, e1, ws, e2 with | [_, _], _, [], _ => rfl) (fun _ _ _ _ _ _ us ws e1 e2 => match us, e1, ws, e2 with | [_], _, [_], _ => rfl) cb3 ib3
theorem sc_i4 : FnScope ["self", "part"] ["self", "part"] (defScope (inClass (top 6) 0)) := ⟨rfl, rfl, rfl, by decide +kernel, rfl, by decide +kernel, by decide +kernel⟩
theorem cl_4 {C4 f4 N4 : Addr} {nm4 q4 : Str} {bs4 bm4 sub4 : List Value} {sn4 : List Str} {ab4 : Bool} {col4 : Option Bool} {dd4 od4 an4 : Option Addr} {m04_ m14_ m24_ m34_ m54_ : Option Value} {oc4 kV4 dc4 pm4 cd4 ct4 : Value} {sl4 : Array (Option Value)}
    (xL4 : K.lookup C4 = some (excClassObj nm4 q4 C4 N4 bs4 bm4 true sn4 sub4 ab4 col4 dd4 m04_ m14_ m24_ m34_ m54_ "ValueError.__new__")) (hm4 : PySem.HandSPX.refsVE bm4 = true) (a4 : PySem.W.findIn K (.ref C4) "__init__" = some (some (.ref f4))) (l4 : K.lookup f4 = some ⟨oc4, od4, .func (PySem.W.fnOf "__init__" "BadSide.__init__" (defArgs (inClass (top 6) 0)) (defBody (inClass (top 6) 0)) (defScope (inClass (top 6) 0)) .none kV4 dc4 pm4 an4 cd4 ct4), sl4⟩) (c4 : PySem.W.codeIn K cd4 "BadSide.__init__" = true) (k4 : PySem.W.keepIn K (.ref f4) = true) (cb4 : clsB K C4 = true) (ib4 : iniB K C4 f4 ["part"] = true) :
    Cl1 P w K mg base "part" C4 f4 (PySem.W.fnOf "__init__" "BadSide.__init__" (defArgs (inClass (top 6) 0)) (defBody (inClass (top 6) 0)) (defScope (inClass (top 6) 0)) .none kV4 dc4 pm4 an4 cd4 ct4) :=
  cl1_mk (x := "BadSide") (st := (inClass (top 6) 0)) xL4 hm4 a4 (fun_mk (st := (inClass (top 6) 0)) l4 c4 k4) rfl sc_i4 (fun _ => rfl) rfl rfl (fun _ _ _ _ _ _ us ws e1 e2 => match us, e1, ws, e2 with | [_, _], _, [], _ => rfl) (fun _ _ _ _ _ _ us ws e1 e2 => match us, e1, ws, e2 with | [_], _, [_], _ => rfl) cb4 ib4
theorem sc_i5 : FnScope ["self", "part"] ["self", "part"] (defScope (inClass (top 7) 0)) := ⟨rfl, rfl, rfl, by decide +kernel, rfl, by decide +kernel, by decide +kernel⟩
theorem cl_5 {C5 f5 N5 : Addr} {nm5 q5 : Str} {bs5 bm5 sub5 : List Value} {sn5 : List Str} {ab5 : Bool} {col5 : Option Bool} {dd5 od5 an5 : Option Addr} {m05_ m15_ m25_ m35_ m55_ : Option Value} {oc5 kV5 dc5 pm5 cd5 ct5 : Value} {sl5 : Array (Option Value)}
    (xL5 : K.lookup C5 = some (excClassObj nm5 q5 C5 N5 bs5 bm5 true sn5 sub5 ab5 col5 dd5 m05_ m15_ m25_ m35_ m55_ "ValueError.__new__")) (hm5 : PySem.HandSPX.refsVE bm5 = true) (a5 : PySem.W.findIn K (.ref C5) "__init__" = some (some (.ref f5))) (l5 : K.lookup f5 = some ⟨oc5, od5, .func (PySem.W.fnOf "__init__" "BadFilling.__init__" (defArgs (inClass (top 7) 0)) (defBody (inClass (top 7) 0)) (defScope (inClass (top 7) 0)) .none kV5 dc5 pm5 an5 cd5 ct5), sl5⟩) (c5 : PySem.W.codeIn K cd5 "BadFilling.__init__" = true) (k5 : PySem.W.keepIn K (.ref f5) = true) (cb5 : clsB K C5 = true) (ib5 : iniB K C5 f5 ["part"] = true) :
    Cl1 P w K mg base "part" C5 f5 (PySem.W.fnOf "__init__" "BadFilling.__init__" (defArgs (inClass (top 7) 0)) (defBody (inClass (top 7) 0)) (defScope (inClass (top 7) 0)) .none kV5 dc5 pm5 an5 cd5 ct5) :=
  cl1_mk (x := "BadFilling") (st := (inClass (top 7) 0)) xL5 hm5 a5 (fun_mk (st := (inClass (top 7) 0)) l5 c5 k5) rfl sc_i5 (fun _ => rfl) rfl rfl (fun _ _ _ _ _ _ us ws e1 e2 => match us, e1, ws, e2 with | [_, _], _, [], _ => rfl) (fun _ _ _ _ _ _ us ws e1 e2 => match us, e1, ws, e2 with | [_], _, [_], _ => rfl) cb5 ib5
theorem sc_i6 : FnScope ["self", "value"] ["self", "value"] (defScope (inClass (top 8) 0)) := ⟨rfl, rfl, rfl, by decide +kernel, rfl, by decide +kernel, by decide +kernel⟩
theorem cl_6 {C6 f6 N6 : Addr} {nm6 q6 : Str} {bs6 bm6 sub6 : List Value} {sn6 : List Str} {ab6 : Bool} {col6 : Option Bool} {dd6 od6 an6 : Option Addr} {m06_ m16_ m26_ m36_ m56_ : Option Value} {oc6 kV6 dc6 pm6 cd6 ct6 : Value} {sl6 : Array (Option Value)}
    (xL6 : K.lookup C6 = some (excClassObj nm6 q6 C6 N6 bs6 bm6 true sn6 sub6 ab6 col6 dd6 m06_ m16_ m26_ m36_ m56_ "ValueError.__new__")) (hm6 : PySem.HandSPX.refsVE bm6 = true) (a6 : PySem.W.findIn K (.ref C6) "__init__" = some (some (.ref f6))) (l6 : K.lookup f6 = some ⟨oc6, od6, .func (PySem.W.fnOf "__init__" "BadPair.__init__" (defArgs (inClass (top 8) 0)) (defBody (inClass (top 8) 0)) (defScope (inClass (top 8) 0)) .none kV6 dc6 pm6 an6 cd6 ct6), sl6⟩) (c6 : PySem.W.codeIn K cd6 "BadPair.__init__" = true) (k6 : PySem.W.keepIn K (.ref f6) = true) (cb6 : clsB K C6 = true) (ib6 : iniB K C6 f6 ["value"] = true) :
    Cl1 P w K mg base "value" C6 f6 (PySem.W.fnOf "__init__" "BadPair.__init__" (defArgs (inClass (top 8) 0)) (defBody (inClass (top 8) 0)) (defScope (inClass (top 8) 0)) .none kV6 dc6 pm6 an6 cd6 ct6) :=
  cl1_mk (x := "BadPair") (st := (inClass (top 8) 0)) xL6 hm6 a6 (fun_mk (st := (inClass (top 8) 0)) l6 c6 k6) rfl sc_i6 (fun _ => rfl) rfl rfl (fun _ _ _ _ _ _ us ws e1 e2 => match us, e1, ws, e2 with | [_, _], _, [], _ => rfl) (fun _ _ _ _ _ _ us ws e1 e2 => match us, e1, ws, e2 with | [_], _, [_], _ => rfl) cb6 ib6
theorem sc_i7 : FnScope ["self", "part"] ["self", "part"] (defScope (inClass (top 9) 0)) := ⟨rfl, rfl, rfl, by decide +kernel, rfl, by decide +kernel, by decide +kernel⟩
theorem cl_7 {C7 f7 N7 : Addr} {nm7 q7 : Str} {bs7 bm7 sub7 : List Value} {sn7 : List Str} {ab7 : Bool} {col7 : Option Bool} {dd7 od7 an7 : Option Addr} {m07_ m17_ m27_ m37_ m57_ : Option Value} {oc7 kV7 dc7 pm7 cd7 ct7 : Value} {sl7 : Array (Option Value)}
    (xL7 : K.lookup C7 = some (excClassObj nm7 q7 C7 N7 bs7 bm7 true sn7 sub7 ab7 col7 dd7 m07_ m17_ m27_ m37_ m57_ "ValueError.__new__")) (hm7 : PySem.HandSPX.refsVE bm7 = true) (a7 : PySem.W.findIn K (.ref C7) "__init__" = some (some (.ref f7))) (l7 : K.lookup f7 = some ⟨oc7, od7, .func (PySem.W.fnOf "__init__" "BadOrder.__init__" (defArgs (inClass (top 9) 0)) (defBody (inClass (top 9) 0)) (defScope (inClass (top 9) 0)) .none kV7 dc7 pm7 an7 cd7 ct7), sl7⟩) (c7 : PySem.W.codeIn K cd7 "BadOrder.__init__" = true) (k7 : PySem.W.keepIn K (.ref f7) = true) (cb7 : clsB K C7 = true) (ib7 : iniB K C7 f7 ["part"] = true) :
    Cl1 P w K mg base "part" C7 f7 (PySem.W.fnOf "__init__" "BadOrder.__init__" (defArgs (inClass (top 9) 0)) (defBody (inClass (top 9) 0)) (defScope (inClass (top 9) 0)) .none kV7 dc7 pm7 an7 cd7 ct7) :=
  cl1_mk (x := "BadOrder") (st := (inClass (top 9) 0)) xL7 hm7 a7 (fun_mk (st := (inClass (top 9) 0)) l7 c7 k7) rfl sc_i7 (fun _ => rfl) rfl rfl (fun _ _ _ _ _ _ us ws e1 e2 => match us, e1, ws, e2 with | [_, _], _, [], _ => rfl) (fun _ _ _ _ _ _ us ws e1 e2 => match us, e1, ws, e2 with | [_], _, [_], _ => rfl) cb7 ib7
theorem sc_i8 : FnScope ["self", "part"] ["self", "part"] (defScope (inClass (top 10) 0)) := ⟨rfl, rfl, rfl, by decide +kernel, rfl, by decide +kernel, by decide +kernel⟩
theorem cl_8 {C8 f8 N8 : Addr} {nm8 q8 : Str} {bs8 bm8 sub8 : List Value} {sn8 : List Str} {ab8 : Bool} {col8 : Option Bool} {dd8 od8 an8 : Option Addr} {m08_ m18_ m28_ m38_ m58_ : Option Value} {oc8 kV8 dc8 pm8 cd8 ct8 : Value} {sl8 : Array (Option Value)}
    (xL8 : K.lookup C8 = some (excClassObj nm8 q8 C8 N8 bs8 bm8 true sn8 sub8 ab8 col8 dd8 m08_ m18_ m28_ m38_ m58_ "ValueError.__new__")) (hm8 : PySem.HandSPX.refsVE bm8 = true) (a8 : PySem.W.findIn K (.ref C8) "__init__" = some (some (.ref f8))) (l8 : K.lookup f8 = some ⟨oc8, od8, .func (PySem.W.fnOf "__init__" "BadBars.__init__" (defArgs (inClass (top 10) 0)) (defBody (inClass (top 10) 0)) (defScope (inClass (top 10) 0)) .none kV8 dc8 pm8 an8 cd8 ct8), sl8⟩) (c8 : PySem.W.codeIn K cd8 "BadBars.__init__" = true) (k8 : PySem.W.keepIn K (.ref f8) = true) (cb8 : clsB K C8 = true) (ib8 : iniB K C8 f8 ["part"] = true) :
    Cl1 P w K mg base "part" C8 f8 (PySem.W.fnOf "__init__" "BadBars.__init__" (defArgs (inClass (top 10) 0)) (defBody (inClass (top 10) 0)) (defScope (inClass (top 10) 0)) .none kV8 dc8 pm8 an8 cd8 ct8) :=
  cl1_mk (x := "BadBars") (st := (inClass (top 10) 0)) xL8 hm8 a8 (fun_mk (st := (inClass (top 10) 0)) l8 c8 k8) rfl sc_i8 (fun _ => rfl) rfl rfl (fun _ _ _ _ _ _ us ws e1 e2 => match us, e1, ws, e2 with | [_, _], _, [], _ => rfl) (fun _ _ _ _ _ _ us ws e1 e2 => match us, e1, ws, e2 with | [_], _, [_], _ => rfl) cb8 ib8
theorem sc_i9 : FnScope ["self", "part"] ["self", "part"] (defScope (inClass (top 11) 0)) := ⟨rfl, rfl, rfl, by decide +kernel, rfl, by decide +kernel, by decide +kernel⟩
theorem cl_9 {C9 f9 N9 : Addr} {nm9 q9 : Str} {bs9 bm9 sub9 : List Value} {sn9 : List Str} {ab9 : Bool} {col9 : Option Bool} {dd9 od9 an9 : Option Addr} {m09_ m19_ m29_ m39_ m59_ : Option Value} {oc9 kV9 dc9 pm9 cd9 ct9 : Value} {sl9 : Array (Option Value)}
    (xL9 : K.lookup C9 = some (excClassObj nm9 q9 C9 N9 bs9 bm9 true sn9 sub9 ab9 col9 dd9 m09_ m19_ m29_ m39_ m59_ "ValueError.__new__")) (hm9 : PySem.HandSPX.refsVE bm9 = true) (a9 : PySem.W.findIn K (.ref C9) "__init__" = some (some (.ref f9))) (l9 : K.lookup f9 = some ⟨oc9, od9, .func (PySem.W.fnOf "__init__" "BadSeen.__init__" (defArgs (inClass (top 11) 0)) (defBody (inClass (top 11) 0)) (defScope (inClass (top 11) 0)) .none kV9 dc9 pm9 an9 cd9 ct9), sl9⟩) (c9 : PySem.W.codeIn K cd9 "BadSeen.__init__" = true) (k9 : PySem.W.keepIn K (.ref f9) = true) (cb9 : clsB K C9 = true) (ib9 : iniB K C9 f9 ["part"] = true) :
    Cl1 P w K mg base "part" C9 f9 (PySem.W.fnOf "__init__" "BadSeen.__init__" (defArgs (inClass (top 11) 0)) (defBody (inClass (top 11) 0)) (defScope (inClass (top 11) 0)) .none kV9 dc9 pm9 an9 cd9 ct9) :=
  cl1_mk (x := "BadSeen") (st := (inClass (top 11) 0)) xL9 hm9 a9 (fun_mk (st := (inClass (top 11) 0)) l9 c9 k9) rfl sc_i9 (fun _ => rfl) rfl rfl (fun _ _ _ _ _ _ us ws e1 e2 => match us, e1, ws, e2 with | [_, _], _, [], _ => rfl) (fun _ _ _ _ _ _ us ws e1 e2 => match us, e1, ws, e2 with | [_], _, [_], _ => rfl) cb9 ib9
theorem sc_i10 : FnScope ["self", "part"] ["self", "part"] (defScope (inClass (top 12) 0)) := ⟨rfl, rfl, rfl, by decide +kernel, rfl, by decide +kernel, by decide +kernel⟩
theorem cl_10 {C10 f10 N10 : Addr} {nm10 q10 : Str} {bs10 bm10 sub10 : List Value} {sn10 : List Str} {ab10 : Bool} {col10 : Option Bool} {dd10 od10 an10 : Option Addr} {m010_ m110_ m210_ m310_ m510_ : Option Value} {oc10 kV10 dc10 pm10 cd10 ct10 : Value} {sl10 : Array (Option Value)}
    (xL10 : K.lookup C10 = some (excClassObj nm10 q10 C10 N10 bs10 bm10 true sn10 sub10 ab10 col10 dd10 m010_ m110_ m210_ m310_ m510_ "ValueError.__new__")) (hm10 : PySem.HandSPX.refsVE bm10 = true) (a10 : PySem.W.findIn K (.ref C10) "__init__" = some (some (.ref f10))) (l10 : K.lookup f10 = some ⟨oc10, od10, .func (PySem.W.fnOf "__init__" "BadOffer.__init__" (defArgs (inClass (top 12) 0)) (defBody (inClass (top 12) 0)) (defScope (inClass (top 12) 0)) .none kV10 dc10 pm10 an10 cd10 ct10), sl10⟩) (c10 : PySem.W.codeIn K cd10 "BadOffer.__init__" = true) (k10 : PySem.W.keepIn K (.ref f10) = true) (cb10 : clsB K C10 = true) (ib10 : iniB K C10 f10 ["part"] = true) :
    Cl1 P w K mg base "part" C10 f10 (PySem.W.fnOf "__init__" "BadOffer.__init__" (defArgs (inClass (top 12) 0)) (defBody (inClass (top 12) 0)) (defScope (inClass (top 12) 0)) .none kV10 dc10 pm10 an10 cd10 ct10) :=
  cl1_mk (x := "BadOffer") (st := (inClass (top 12) 0)) xL10 hm10 a10 (fun_mk (st := (inClass (top 12) 0)) l10 c10 k10) rfl sc_i10 (fun _ => rfl) rfl rfl (fun _ _ _ _ _ _ us ws e1 e2 => match us, e1, ws, e2 with | [_, _], _, [], _ => rfl) (fun _ _ _ _ _ _ us ws e1 e2 => match us, e1, ws, e2 with | [_], _, [_], _ => rfl) cb10 ib10
theorem sc_i11 : FnScope ["self", "part"] ["self", "part"] (defScope (inClass (top 13) 0)) := ⟨rfl, rfl, rfl, by decide +kernel, rfl, by decide +kernel, by decide +kernel⟩
theorem cl_11 {C11 f11 N11 : Addr} {nm11 q11 : Str} {bs11 bm11 sub11 : List Value} {sn11 : List Str} {ab11 : Bool} {col11 : Option Bool} {dd11 od11 an11 : Option Addr} {m011_ m111_ m211_ m311_ m511_ : Option Value} {oc11 kV11 dc11 pm11 cd11 ct11 : Value} {sl11 : Array (Option Value)}
    (xL11 : K.lookup C11 = some (excClassObj nm11 q11 C11 N11 bs11 bm11 true sn11 sub11 ab11 col11 dd11 m011_ m111_ m211_ m311_ m511_ "ValueError.__new__")) (hm11 : PySem.HandSPX.refsVE bm11 = true) (a11 : PySem.W.findIn K (.ref C11) "__init__" = some (some (.ref f11))) (l11 : K.lookup f11 = some ⟨oc11, od11, .func (PySem.W.fnOf "__init__" "BadRule.__init__" (defArgs (inClass (top 13) 0)) (defBody (inClass (top 13) 0)) (defScope (inClass (top 13) 0)) .none kV11 dc11 pm11 an11 cd11 ct11), sl11⟩) (c11 : PySem.W.codeIn K cd11 "BadRule.__init__" = true) (k11 : PySem.W.keepIn K (.ref f11) = true) (cb11 : clsB K C11 = true) (ib11 : iniB K C11 f11 ["part"] = true) :
    Cl1 P w K mg base "part" C11 f11 (PySem.W.fnOf "__init__" "BadRule.__init__" (defArgs (inClass (top 13) 0)) (defBody (inClass (top 13) 0)) (defScope (inClass (top 13) 0)) .none kV11 dc11 pm11 an11 cd11 ct11) :=
  cl1_mk (x := "BadRule") (st := (inClass (top 13) 0)) xL11 hm11 a11 (fun_mk (st := (inClass (top 13) 0)) l11 c11 k11) rfl sc_i11 (fun _ => rfl) rfl rfl (fun _ _ _ _ _ _ us ws e1 e2 => match us, e1, ws, e2 with | [_, _], _, [], _ => rfl) (fun _ _ _ _ _ _ us ws e1 e2 => match us, e1, ws, e2 with | [_], _, [_], _ => rfl) cb11 ib11
theorem sc_i12 : FnScope ["self", "value"] ["self", "value"] (defScope (inClass (top 14) 0)) := ⟨rfl, rfl, rfl, by decide +kernel, rfl, by decide +kernel, by decide +kernel⟩
theorem cl_12 {C12 f12 N12 : Addr} {nm12 q12 : Str} {bs12 bm12 sub12 : List Value} {sn12 : List Str} {ab12 : Bool} {col12 : Option Bool} {dd12 od12 an12 : Option Addr} {m012_ m112_ m212_ m312_ m512_ : Option Value} {oc12 kV12 dc12 pm12 cd12 ct12 : Value} {sl12 : Array (Option Value)}
    (xL12 : K.lookup C12 = some (excClassObj nm12 q12 C12 N12 bs12 bm12 true sn12 sub12 ab12 col12 dd12 m012_ m112_ m212_ m312_ m512_ "ValueError.__new__")) (hm12 : PySem.HandSPX.refsVE bm12 = true) (a12 : PySem.W.findIn K (.ref C12) "__init__" = some (some (.ref f12))) (l12 : K.lookup f12 = some ⟨oc12, od12, .func (PySem.W.fnOf "__init__" "BadDay.__init__" (defArgs (inClass (top 14) 0)) (defBody (inClass (top 14) 0)) (defScope (inClass (top 14) 0)) .none kV12 dc12 pm12 an12 cd12 ct12), sl12⟩) (c12 : PySem.W.codeIn K cd12 "BadDay.__init__" = true) (k12 : PySem.W.keepIn K (.ref f12) = true) (cb12 : clsB K C12 = true) (ib12 : iniB K C12 f12 ["value"] = true) :
    Cl1 P w K mg base "value" C12 f12 (PySem.W.fnOf "__init__" "BadDay.__init__" (defArgs (inClass (top 14) 0)) (defBody (inClass (top 14) 0)) (defScope (inClass (top 14) 0)) .none kV12 dc12 pm12 an12 cd12 ct12) :=
  cl1_mk (x := "BadDay") (st := (inClass (top 14) 0)) xL12 hm12 a12 (fun_mk (st := (inClass (top 14) 0)) l12 c12 k12) rfl sc_i12 (fun _ => rfl) rfl rfl (fun _ _ _ _ _ _ us ws e1 e2 => match us, e1, ws, e2 with | [_, _], _, [], _ => rfl) (fun _ _ _ _ _ _ us ws e1 e2 => match us, e1, ws, e2 with | [_], _, [_], _ => rfl) cb12 ib12
theorem sc_i13 : FnScope ["self", "part"] ["self", "part"] (defScope (inClass (top 15) 0)) := ⟨rfl, rfl, rfl, by decide +kernel, rfl, by decide +kernel, by decide +kernel⟩
theorem cl_13 {C13 f13 N13 : Addr} {nm13 q13 : Str} {bs13 bm13 sub13 : List Value} {sn13 : List Str} {ab13 : Bool} {col13 : Option Bool} {dd13 od13 an13 : Option Addr} {m013_ m113_ m213_ m313_ m513_ : Option Value} {oc13 kV13 dc13 pm13 cd13 ct13 : Value} {sl13 : Array (Option Value)}
    (xL13 : K.lookup C13 = some (excClassObj nm13 q13 C13 N13 bs13 bm13 true sn13 sub13 ab13 col13 dd13 m013_ m113_ m213_ m313_ m513_ "ValueError.__new__")) (hm13 : PySem.HandSPX.refsVE bm13 = true) (a13 : PySem.W.findIn K (.ref C13) "__init__" = some (some (.ref f13))) (l13 : K.lookup f13 = some ⟨oc13, od13, .func (PySem.W.fnOf "__init__" "BadLedger.__init__" (defArgs (inClass (top 15) 0)) (defBody (inClass (top 15) 0)) (defScope (inClass (top 15) 0)) .none kV13 dc13 pm13 an13 cd13 ct13), sl13⟩) (c13 : PySem.W.codeIn K cd13 "BadLedger.__init__" = true) (k13 : PySem.W.keepIn K (.ref f13) = true) (cb13 : clsB K C13 = true) (ib13 : iniB K C13 f13 ["part"] = true) :
    Cl1 P w K mg base "part" C13 f13 (PySem.W.fnOf "__init__" "BadLedger.__init__" (defArgs (inClass (top 15) 0)) (defBody (inClass (top 15) 0)) (defScope (inClass (top 15) 0)) .none kV13 dc13 pm13 an13 cd13 ct13) :=
  cl1_mk (x := "BadLedger") (st := (inClass (top 15) 0)) xL13 hm13 a13 (fun_mk (st := (inClass (top 15) 0)) l13 c13 k13) rfl sc_i13 (fun _ => rfl) rfl rfl (fun _ _ _ _ _ _ us ws e1 e2 => match us, e1, ws, e2 with | [_, _], _, [], _ => rfl) (fun _ _ _ _ _ _ us ws e1 e2 => match us, e1, ws, e2 with | [_], _, [_], _ => rfl) cb13 ib13
theorem sc_i14 : FnScope ["self", "line", "word"] ["self", "line", "word"] (defScope (inClass (top 16) 0)) := ⟨rfl, rfl, rfl, by decide +kernel, rfl, by decide +kernel, by decide +kernel⟩
theorem cl_14 {C14 f14 N14 : Addr} {nm14 q14 : Str} {bs14 bm14 sub14 : List Value} {sn14 : List Str} {ab14 : Bool} {col14 : Option Bool} {dd14 od14 an14 : Option Addr} {m014_ m114_ m214_ m314_ m514_ : Option Value} {oc14 kV14 dc14 pm14 cd14 ct14 : Value} {sl14 : Array (Option Value)}
    (xL14 : K.lookup C14 = some (excClassObj nm14 q14 C14 N14 bs14 bm14 true sn14 sub14 ab14 col14 dd14 m014_ m114_ m214_ m314_ m514_ "ValueError.__new__")) (hm14 : PySem.HandSPX.refsVE bm14 = true) (a14 : PySem.W.findIn K (.ref C14) "__init__" = some (some (.ref f14))) (l14 : K.lookup f14 = some ⟨oc14, od14, .func (PySem.W.fnOf "__init__" "BadText.__init__" (defArgs (inClass (top 16) 0)) (defBody (inClass (top 16) 0)) (defScope (inClass (top 16) 0)) .none kV14 dc14 pm14 an14 cd14 ct14), sl14⟩) (c14 : PySem.W.codeIn K cd14 "BadText.__init__" = true) (k14 : PySem.W.keepIn K (.ref f14) = true) (cb14 : clsB K C14 = true) (ib14 : iniB K C14 f14 ["line", "word"] = true) :
    Cl2 P w K mg base "line" "word" C14 f14 (PySem.W.fnOf "__init__" "BadText.__init__" (defArgs (inClass (top 16) 0)) (defBody (inClass (top 16) 0)) (defScope (inClass (top 16) 0)) .none kV14 dc14 pm14 an14 cd14 ct14) :=
  cl2_mk (x := "BadText") (st := (inClass (top 16) 0)) xL14 hm14 a14 (fun_mk (st := (inClass (top 16) 0)) l14 c14 k14) rfl sc_i14 (fun _ => rfl) (fun _ => rfl) rfl rfl rfl rfl (fun _ _ _ _ _ _ us ws e1 e2 => match us, e1, ws, e2 with | [_], _, [_, _], _ => rfl) (fun _ _ _ _ _ _ us ws e1 e2 => match us, e1, ws, e2 with | [_, _], _, [_], _ => rfl) cb14 ib14
theorem sc_i15 : FnScope ["self", "word"] ["self", "word"] (defScope (inClass (top 17) 0)) := ⟨rfl, rfl, rfl, by decide +kernel, rfl, by decide +kernel, by decide +kernel⟩
theorem cl_15 {C15 f15 N15 : Addr} {nm15 q15 : Str} {bs15 bm15 sub15 : List Value} {sn15 : List Str} {ab15 : Bool} {col15 : Option Bool} {dd15 od15 an15 : Option Addr} {m015_ m115_ m215_ m315_ m515_ : Option Value} {oc15 kV15 dc15 pm15 cd15 ct15 : Value} {sl15 : Array (Option Value)}
    (xL15 : K.lookup C15 = some (excClassObj nm15 q15 C15 N15 bs15 bm15 true sn15 sub15 ab15 col15 dd15 m015_ m115_ m215_ m315_ m515_ "ValueError.__new__")) (hm15 : PySem.HandSPX.refsVE bm15 = true) (a15 : PySem.W.findIn K (.ref C15) "__init__" = some (some (.ref f15))) (l15 : K.lookup f15 = some ⟨oc15, od15, .func (PySem.W.fnOf "__init__" "BadLine.__init__" (defArgs (inClass (top 17) 0)) (defBody (inClass (top 17) 0)) (defScope (inClass (top 17) 0)) .none kV15 dc15 pm15 an15 cd15 ct15), sl15⟩) (c15 : PySem.W.codeIn K cd15 "BadLine.__init__" = true) (k15 : PySem.W.keepIn K (.ref f15) = true) (cb15 : clsB K C15 = true) (ib15 : iniB K C15 f15 ["word"] = true) :
    Cl1 P w K mg base "word" C15 f15 (PySem.W.fnOf "__init__" "BadLine.__init__" (defArgs (inClass (top 17) 0)) (defBody (inClass (top 17) 0)) (defScope (inClass (top 17) 0)) .none kV15 dc15 pm15 an15 cd15 ct15) :=
  cl1_mk (x := "BadLine") (st := (inClass (top 17) 0)) xL15 hm15 a15 (fun_mk (st := (inClass (top 17) 0)) l15 c15 k15) rfl sc_i15 (fun _ => rfl) rfl rfl (fun _ _ _ _ _ _ us ws e1 e2 => match us, e1, ws, e2 with | [_, _], _, [], _ => rfl) (fun _ _ _ _ _ _ us ws e1 e2 => match us, e1, ws, e2 with | [_], _, [_], _ => rfl) cb15 ib15
theorem sc_i16 : FnScope ["self", "name"] ["self", "name"] (defScope (inClass (top 18) 0)) := ⟨rfl, rfl, rfl, by decide +kernel, rfl, by decide +kernel, by decide +kernel⟩
theorem cl_16 {C16 f16 N16 : Addr} {nm16 q16 : Str} {bs16 bm16 sub16 : List Value} {sn16 : List Str} {ab16 : Bool} {col16 : Option Bool} {dd16 od16 an16 : Option Addr} {m016_ m116_ m216_ m316_ m516_ : Option Value} {oc16 kV16 dc16 pm16 cd16 ct16 : Value} {sl16 : Array (Option Value)}
    (xL16 : K.lookup C16 = some (excClassObj nm16 q16 C16 N16 bs16 bm16 true sn16 sub16 ab16 col16 dd16 m016_ m116_ m216_ m316_ m516_ "ValueError.__new__")) (hm16 : PySem.HandSPX.refsVE bm16 = true) (a16 : PySem.W.findIn K (.ref C16) "__init__" = some (some (.ref f16))) (l16 : K.lookup f16 = some ⟨oc16, od16, .func (PySem.W.fnOf "__init__" "NoName.__init__" (defArgs (inClass (top 18) 0)) (defBody (inClass (top 18) 0)) (defScope (inClass (top 18) 0)) .none kV16 dc16 pm16 an16 cd16 ct16), sl16⟩) (c16 : PySem.W.codeIn K cd16 "NoName.__init__" = true) (k16 : PySem.W.keepIn K (.ref f16) = true) (cb16 : clsB K C16 = true) (ib16 : iniB K C16 f16 ["name"] = true) :
    Cl1 P w K mg base "name" C16 f16 (PySem.W.fnOf "__init__" "NoName.__init__" (defArgs (inClass (top 18) 0)) (defBody (inClass (top 18) 0)) (defScope (inClass (top 18) 0)) .none kV16 dc16 pm16 an16 cd16 ct16) :=
  cl1_mk (x := "NoName") (st := (inClass (top 18) 0)) xL16 hm16 a16 (fun_mk (st := (inClass (top 18) 0)) l16 c16 k16) rfl sc_i16 (fun _ => rfl) rfl rfl (fun _ _ _ _ _ _ us ws e1 e2 => match us, e1, ws, e2 with | [_, _], _, [], _ => rfl) (fun _ _ _ _ _ _ us ws e1 e2 => match us, e1, ws, e2 with | [_], _, [_], _ => rfl) cb16 ib16
theorem sc_i17 : FnScope ["self", "pair"] ["self", "pair"] (defScope (inClass (top 19) 0)) := ⟨rfl, rfl, rfl, by decide +kernel, rfl, by decide +kernel, by decide +kernel⟩
theorem cl_17 {C17 f17 N17 : Addr} {nm17 q17 : Str} {bs17 bm17 sub17 : List Value} {sn17 : List Str} {ab17 : Bool} {col17 : Option Bool} {dd17 od17 an17 : Option Addr} {m017_ m117_ m217_ m317_ m517_ : Option Value} {oc17 kV17 dc17 pm17 cd17 ct17 : Value} {sl17 : Array (Option Value)}
    (xL17 : K.lookup C17 = some (excClassObj nm17 q17 C17 N17 bs17 bm17 true sn17 sub17 ab17 col17 dd17 m017_ m117_ m217_ m317_ m517_ "ValueError.__new__")) (hm17 : PySem.HandSPX.refsVE bm17 = true) (a17 : PySem.W.findIn K (.ref C17) "__init__" = some (some (.ref f17))) (l17 : K.lookup f17 = some ⟨oc17, od17, .func (PySem.W.fnOf "__init__" "NoPair.__init__" (defArgs (inClass (top 19) 0)) (defBody (inClass (top 19) 0)) (defScope (inClass (top 19) 0)) .none kV17 dc17 pm17 an17 cd17 ct17), sl17⟩) (c17 : PySem.W.codeIn K cd17 "NoPair.__init__" = true) (k17 : PySem.W.keepIn K (.ref f17) = true) (cb17 : clsB K C17 = true) (ib17 : iniB K C17 f17 ["pair"] = true) :
    Cl1 P w K mg base "pair" C17 f17 (PySem.W.fnOf "__init__" "NoPair.__init__" (defArgs (inClass (top 19) 0)) (defBody (inClass (top 19) 0)) (defScope (inClass (top 19) 0)) .none kV17 dc17 pm17 an17 cd17 ct17) :=
  cl1_mk (x := "NoPair") (st := (inClass (top 19) 0)) xL17 hm17 a17 (fun_mk (st := (inClass (top 19) 0)) l17 c17 k17) rfl sc_i17 (fun _ => rfl) rfl rfl (fun _ _ _ _ _ _ us ws e1 e2 => match us, e1, ws, e2 with | [_, _], _, [], _ => rfl) (fun _ _ _ _ _ _ us ws e1 e2 => match us, e1, ws, e2 with | [_], _, [_], _ => rfl) cb17 ib17
theorem sc_i18 : FnScope ["self", "name"] ["self", "name"] (defScope (inClass (top 20) 0)) := ⟨rfl, rfl, rfl, by decide +kernel, rfl, by decide +kernel, by decide +kernel⟩
theorem cl_18 {C18 f18 N18 : Addr} {nm18 q18 : Str} {bs18 bm18 sub18 : List Value} {sn18 : List Str} {ab18 : Bool} {col18 : Option Bool} {dd18 od18 an18 : Option Addr} {m018_ m118_ m218_ m318_ m518_ : Option Value} {oc18 kV18 dc18 pm18 cd18 ct18 : Value} {sl18 : Array (Option Value)}
    (xL18 : K.lookup C18 = some (excClassObj nm18 q18 C18 N18 bs18 bm18 true sn18 sub18 ab18 col18 dd18 m018_ m118_ m218_ m318_ m518_ "ValueError.__new__")) (hm18 : PySem.HandSPX.refsVE bm18 = true) (a18 : PySem.W.findIn K (.ref C18) "__init__" = some (some (.ref f18))) (l18 : K.lookup f18 = some ⟨oc18, od18, .func (PySem.W.fnOf "__init__" "Lacking.__init__" (defArgs (inClass (top 20) 0)) (defBody (inClass (top 20) 0)) (defScope (inClass (top 20) 0)) .none kV18 dc18 pm18 an18 cd18 ct18), sl18⟩) (c18 : PySem.W.codeIn K cd18 "Lacking.__init__" = true) (k18 : PySem.W.keepIn K (.ref f18) = true) (cb18 : clsB K C18 = true) (ib18 : iniB K C18 f18 ["name"] = true) :
    Cl1 P w K mg base "name" C18 f18 (PySem.W.fnOf "__init__" "Lacking.__init__" (defArgs (inClass (top 20) 0)) (defBody (inClass (top 20) 0)) (defScope (inClass (top 20) 0)) .none kV18 dc18 pm18 an18 cd18 ct18) :=
  cl1_mk (x := "Lacking") (st := (inClass (top 20) 0)) xL18 hm18 a18 (fun_mk (st := (inClass (top 20) 0)) l18 c18 k18) rfl sc_i18 (fun _ => rfl) rfl rfl (fun _ _ _ _ _ _ us ws e1 e2 => match us, e1, ws, e2 with | [_, _], _, [], _ => rfl) (fun _ _ _ _ _ _ us ws e1 e2 => match us, e1, ws, e2 with | [_], _, [_], _ => rfl) cb18 ib18
theorem sc_i19 : FnScope ["self", "what", "most"] ["self", "what", "most"] (defScope (inClass (top 21) 0)) := ⟨rfl, rfl, rfl, by decide +kernel, rfl, by decide +kernel, by decide +kernel⟩
theorem cl_19 {C19 f19 N19 : Addr} {nm19 q19 : Str} {bs19 bm19 sub19 : List Value} {sn19 : List Str} {ab19 : Bool} {col19 : Option Bool} {dd19 od19 an19 : Option Addr} {m019_ m119_ m219_ m319_ m519_ : Option Value} {oc19 kV19 dc19 pm19 cd19 ct19 : Value} {sl19 : Array (Option Value)}
    (xL19 : K.lookup C19 = some (excClassObj nm19 q19 C19 N19 bs19 bm19 true sn19 sub19 ab19 col19 dd19 m019_ m119_ m219_ m319_ m519_ "ValueError.__new__")) (hm19 : PySem.HandSPX.refsVE bm19 = true) (a19 : PySem.W.findIn K (.ref C19) "__init__" = some (some (.ref f19))) (l19 : K.lookup f19 = some ⟨oc19, od19, .func (PySem.W.fnOf "__init__" "TooMany.__init__" (defArgs (inClass (top 21) 0)) (defBody (inClass (top 21) 0)) (defScope (inClass (top 21) 0)) .none kV19 dc19 pm19 an19 cd19 ct19), sl19⟩) (c19 : PySem.W.codeIn K cd19 "TooMany.__init__" = true) (k19 : PySem.W.keepIn K (.ref f19) = true) (cb19 : clsB K C19 = true) (ib19 : iniB K C19 f19 ["what", "most"] = true) :
    Cl2 P w K mg base "what" "most" C19 f19 (PySem.W.fnOf "__init__" "TooMany.__init__" (defArgs (inClass (top 21) 0)) (defBody (inClass (top 21) 0)) (defScope (inClass (top 21) 0)) .none kV19 dc19 pm19 an19 cd19 ct19) :=
  cl2_mk (x := "TooMany") (st := (inClass (top 21) 0)) xL19 hm19 a19 (fun_mk (st := (inClass (top 21) 0)) l19 c19 k19) rfl sc_i19 (fun _ => rfl) (fun _ => rfl) rfl rfl rfl rfl (fun _ _ _ _ _ _ us ws e1 e2 => match us, e1, ws, e2 with | [_], _, [_, _], _ => rfl) (fun _ _ _ _ _ _ us ws e1 e2 => match us, e1, ws, e2 with | [_, _], _, [_], _ => rfl) cb19 ib19
end
theorem all_mk {P : Program} {w : World} {K : PySem.W.Frag} {h : Heap} {mg : Str → Option Value} {fa : Addr} (X : K.In h) (G : h.Ns mainGlobals mg) (hfa : mg "law" = some (.ref fa))
    {C0 f0 N0 : Addr} {nm0 q0 : Str} {bs0 bm0 sub0 : List Value} {sn0 : List Str} {ab0 : Bool} {col0 : Option Bool} {dd0 od0 an0 : Option Addr} {m00_ m10_ m20_ m30_ m50_ : Option Value} {oc0 kV0 dc0 pm0 cd0 ct0 : Value} {sl0 : Array (Option Value)}
    {C1 f1 N1 : Addr} {nm1 q1 : Str} {bs1 bm1 sub1 : List Value} {sn1 : List Str} {ab1 : Bool} {col1 : Option Bool} {dd1 od1 an1 : Option Addr} {m01_ m11_ m21_ m31_ m51_ : Option Value} {oc1 kV1 dc1 pm1 cd1 ct1 : Value} {sl1 : Array (Option Value)}
    {C2 f2 N2 : Addr} {nm2 q2 : Str} {bs2 bm2 sub2 : List Value} {sn2 : List Str} {ab2 : Bool} {col2 : Option Bool} {dd2 od2 an2 : Option Addr} {m02_ m12_ m22_ m32_ m52_ : Option Value} {oc2 kV2 dc2 pm2 cd2 ct2 : Value} {sl2 : Array (Option Value)}
    {C3 f3 N3 : Addr} {nm3 q3 : Str} {bs3 bm3 sub3 : List Value} {sn3 : List Str} {ab3 : Bool} {col3 : Option Bool} {dd3 od3 an3 : Option Addr} {m03_ m13_ m23_ m33_ m53_ : Option Value} {oc3 kV3 dc3 pm3 cd3 ct3 : Value} {sl3 : Array (Option Value)}
    {C4 f4 N4 : Addr} {nm4 q4 : Str} {bs4 bm4 sub4 : List Value} {sn4 : List Str} {ab4 : Bool} {col4 : Option Bool} {dd4 od4 an4 : Option Addr} {m04_ m14_ m24_ m34_ m54_ : Option Value} {oc4 kV4 dc4 pm4 cd4 ct4 : Value} {sl4 : Array (Option Value)}
    {C5 f5 N5 : Addr} {nm5 q5 : Str} {bs5 bm5 sub5 : List Value} {sn5 : List Str} {ab5 : Bool} {col5 : Option Bool} {dd5 od5 an5 : Option Addr} {m05_ m15_ m25_ m35_ m55_ : Option Value} {oc5 kV5 dc5 pm5 cd5 ct5 : Value} {sl5 : Array (Option Value)}
    {C6 f6 N6 : Addr} {nm6 q6 : Str} {bs6 bm6 sub6 : List Value} {sn6 : List Str} {ab6 : Bool} {col6 : Option Bool} {dd6 od6 an6 : Option Addr} {m06_ m16_ m26_ m36_ m56_ : Option Value} {oc6 kV6 dc6 pm6 cd6 ct6 : Value} {sl6 : Array (Option Value)}
    {C7 f7 N7 : Addr} {nm7 q7 : Str} {bs7 bm7 sub7 : List Value} {sn7 : List Str} {ab7 : Bool} {col7 : Option Bool} {dd7 od7 an7 : Option Addr} {m07_ m17_ m27_ m37_ m57_ : Option Value} {oc7 kV7 dc7 pm7 cd7 ct7 : Value} {sl7 : Array (Option Value)}
    {C8 f8 N8 : Addr} {nm8 q8 : Str} {bs8 bm8 sub8 : List Value} {sn8 : List Str} {ab8 : Bool} {col8 : Option Bool} {dd8 od8 an8 : Option Addr} {m08_ m18_ m28_ m38_ m58_ : Option Value} {oc8 kV8 dc8 pm8 cd8 ct8 : Value} {sl8 : Array (Option Value)}
    {C9 f9 N9 : Addr} {nm9 q9 : Str} {bs9 bm9 sub9 : List Value} {sn9 : List Str} {ab9 : Bool} {col9 : Option Bool} {dd9 od9 an9 : Option Addr} {m09_ m19_ m29_ m39_ m59_ : Option Value} {oc9 kV9 dc9 pm9 cd9 ct9 : Value} {sl9 : Array (Option Value)}
    {C10 f10 N10 : Addr} {nm10 q10 : Str} {bs10 bm10 sub10 : List Value} {sn10 : List Str} {ab10 : Bool} {col10 : Option Bool} {dd10 od10 an10 : Option Addr} {m010_ m110_ m210_ m310_ m510_ : Option Value} {oc10 kV10 dc10 pm10 cd10 ct10 : Value} {sl10 : Array (Option Value)}
    {C11 f11 N11 : Addr} {nm11 q11 : Str} {bs11 bm11 sub11 : List Value} {sn11 : List Str} {ab11 : Bool} {col11 : Option Bool} {dd11 od11 an11 : Option Addr} {m011_ m111_ m211_ m311_ m511_ : Option Value} {oc11 kV11 dc11 pm11 cd11 ct11 : Value} {sl11 : Array (Option Value)}
    {C12 f12 N12 : Addr} {nm12 q12 : Str} {bs12 bm12 sub12 : List Value} {sn12 : List Str} {ab12 : Bool} {col12 : Option Bool} {dd12 od12 an12 : Option Addr} {m012_ m112_ m212_ m312_ m512_ : Option Value} {oc12 kV12 dc12 pm12 cd12 ct12 : Value} {sl12 : Array (Option Value)}
    {C13 f13 N13 : Addr} {nm13 q13 : Str} {bs13 bm13 sub13 : List Value} {sn13 : List Str} {ab13 : Bool} {col13 : Option Bool} {dd13 od13 an13 : Option Addr} {m013_ m113_ m213_ m313_ m513_ : Option Value} {oc13 kV13 dc13 pm13 cd13 ct13 : Value} {sl13 : Array (Option Value)}
    {C14 f14 N14 : Addr} {nm14 q14 : Str} {bs14 bm14 sub14 : List Value} {sn14 : List Str} {ab14 : Bool} {col14 : Option Bool} {dd14 od14 an14 : Option Addr} {m014_ m114_ m214_ m314_ m514_ : Option Value} {oc14 kV14 dc14 pm14 cd14 ct14 : Value} {sl14 : Array (Option Value)}
    {C15 f15 N15 : Addr} {nm15 q15 : Str} {bs15 bm15 sub15 : List Value} {sn15 : List Str} {ab15 : Bool} {col15 : Option Bool} {dd15 od15 an15 : Option Addr} {m015_ m115_ m215_ m315_ m515_ : Option Value} {oc15 kV15 dc15 pm15 cd15 ct15 : Value} {sl15 : Array (Option Value)}
    {C16 f16 N16 : Addr} {nm16 q16 : Str} {bs16 bm16 sub16 : List Value} {sn16 : List Str} {ab16 : Bool} {col16 : Option Bool} {dd16 od16 an16 : Option Addr} {m016_ m116_ m216_ m316_ m516_ : Option Value} {oc16 kV16 dc16 pm16 cd16 ct16 : Value} {sl16 : Array (Option Value)}
    {C17 f17 N17 : Addr} {nm17 q17 : Str} {bs17 bm17 sub17 : List Value} {sn17 : List Str} {ab17 : Bool} {col17 : Option Bool} {dd17 od17 an17 : Option Addr} {m017_ m117_ m217_ m317_ m517_ : Option Value} {oc17 kV17 dc17 pm17 cd17 ct17 : Value} {sl17 : Array (Option Value)}
    {C18 f18 N18 : Addr} {nm18 q18 : Str} {bs18 bm18 sub18 : List Value} {sn18 : List Str} {ab18 : Bool} {col18 : Option Bool} {dd18 od18 an18 : Option Addr} {m018_ m118_ m218_ m318_ m518_ : Option Value} {oc18 kV18 dc18 pm18 cd18 ct18 : Value} {sl18 : Array (Option Value)}
    {C19 f19 N19 : Addr} {nm19 q19 : Str} {bs19 bm19 sub19 : List Value} {sn19 : List Str} {ab19 : Bool} {col19 : Option Bool} {dd19 od19 an19 : Option Addr} {m019_ m119_ m219_ m319_ m519_ : Option Value} {oc19 kV19 dc19 pm19 cd19 ct19 : Value} {sl19 : Array (Option Value)}
    {C20 C21 B : Addr}
    {g0 : Addr} {Oc0 KV0 Dc0 Pm0 Cd0 Ct0 : Value} {Od0 An0 : Option Addr} {Sl0 : Array (Option Value)}
    {g1 : Addr} {Oc1 KV1 Dc1 Pm1 Cd1 Ct1 : Value} {Od1 An1 : Option Addr} {Sl1 : Array (Option Value)}
    {g2 : Addr} {Oc2 KV2 Dc2 Pm2 Cd2 Ct2 : Value} {Od2 An2 : Option Addr} {Sl2 : Array (Option Value)}
    {g3 : Addr} {Oc3 KV3 Dc3 Pm3 Cd3 Ct3 : Value} {Od3 An3 : Option Addr} {Sl3 : Array (Option Value)}
    {g4 : Addr} {Oc4 KV4 Dc4 Pm4 Cd4 Ct4 : Value} {Od4 An4 : Option Addr} {Sl4 : Array (Option Value)}
    {g5 : Addr} {Oc5 KV5 Dc5 Pm5 Cd5 Ct5 : Value} {Od5 An5 : Option Addr} {Sl5 : Array (Option Value)}
    {g6 : Addr} {Oc6 KV6 Dc6 Pm6 Cd6 Ct6 : Value} {Od6 An6 : Option Addr} {Sl6 : Array (Option Value)}
    {g7 : Addr} {Oc7 KV7 Dc7 Pm7 Cd7 Ct7 : Value} {Od7 An7 : Option Addr} {Sl7 : Array (Option Value)}
    {g8 : Addr} {Oc8 KV8 Dc8 Pm8 Cd8 Ct8 : Value} {Od8 An8 : Option Addr} {Sl8 : Array (Option Value)}
    (aC0 : PySem.W.nsIn K mainGlobals "BadName" = some (some (.ref C0))) (xL0 : K.lookup C0 = some (excClassObj nm0 q0 C0 N0 bs0 bm0 true sn0 sub0 ab0 col0 dd0 m00_ m10_ m20_ m30_ m50_ "ValueError.__new__")) (hm0 : PySem.HandSPX.refsVE bm0 = true) (a0 : PySem.W.findIn K (.ref C0) "__init__" = some (some (.ref f0))) (l0 : K.lookup f0 = some ⟨oc0, od0, .func (PySem.W.fnOf "__init__" "BadName.__init__" (defArgs (inClass (top 2) 0)) (defBody (inClass (top 2) 0)) (defScope (inClass (top 2) 0)) .none kV0 dc0 pm0 an0 cd0 ct0), sl0⟩) (c0 : PySem.W.codeIn K cd0 "BadName.__init__" = true) (k0 : PySem.W.keepIn K (.ref f0) = true) (cb0 : clsB K C0 = true) (ib0 : iniB K C0 f0 ["value"] = true)
    (aC1 : PySem.W.nsIn K mainGlobals "BadAmount" = some (some (.ref C1))) (xL1 : K.lookup C1 = some (excClassObj nm1 q1 C1 N1 bs1 bm1 true sn1 sub1 ab1 col1 dd1 m01_ m11_ m21_ m31_ m51_ "ValueError.__new__")) (hm1 : PySem.HandSPX.refsVE bm1 = true) (a1 : PySem.W.findIn K (.ref C1) "__init__" = some (some (.ref f1))) (l1 : K.lookup f1 = some ⟨oc1, od1, .func (PySem.W.fnOf "__init__" "BadAmount.__init__" (defArgs (inClass (top 3) 0)) (defBody (inClass (top 3) 0)) (defScope (inClass (top 3) 0)) .none kV1 dc1 pm1 an1 cd1 ct1), sl1⟩) (c1 : PySem.W.codeIn K cd1 "BadAmount.__init__" = true) (k1 : PySem.W.keepIn K (.ref f1) = true) (cb1 : clsB K C1 = true) (ib1 : iniB K C1 f1 ["value"] = true)
    (aC2 : PySem.W.nsIn K mainGlobals "BadWorth" = some (some (.ref C2))) (xL2 : K.lookup C2 = some (excClassObj nm2 q2 C2 N2 bs2 bm2 true sn2 sub2 ab2 col2 dd2 m02_ m12_ m22_ m32_ m52_ "ValueError.__new__")) (hm2 : PySem.HandSPX.refsVE bm2 = true) (a2 : PySem.W.findIn K (.ref C2) "__init__" = some (some (.ref f2))) (l2 : K.lookup f2 = some ⟨oc2, od2, .func (PySem.W.fnOf "__init__" "BadWorth.__init__" (defArgs (inClass (top 4) 0)) (defBody (inClass (top 4) 0)) (defScope (inClass (top 4) 0)) .none kV2 dc2 pm2 an2 cd2 ct2), sl2⟩) (c2 : PySem.W.codeIn K cd2 "BadWorth.__init__" = true) (k2 : PySem.W.keepIn K (.ref f2) = true) (cb2 : clsB K C2 = true) (ib2 : iniB K C2 f2 ["value"] = true)
    (aC3 : PySem.W.nsIn K mainGlobals "BadTable" = some (some (.ref C3))) (xL3 : K.lookup C3 = some (excClassObj nm3 q3 C3 N3 bs3 bm3 true sn3 sub3 ab3 col3 dd3 m03_ m13_ m23_ m33_ m53_ "ValueError.__new__")) (hm3 : PySem.HandSPX.refsVE bm3 = true) (a3 : PySem.W.findIn K (.ref C3) "__init__" = some (some (.ref f3))) (l3 : K.lookup f3 = some ⟨oc3, od3, .func (PySem.W.fnOf "__init__" "BadTable.__init__" (defArgs (inClass (top 5) 0)) (defBody (inClass (top 5) 0)) (defScope (inClass (top 5) 0)) .none kV3 dc3 pm3 an3 cd3 ct3), sl3⟩) (c3 : PySem.W.codeIn K cd3 "BadTable.__init__" = true) (k3 : PySem.W.keepIn K (.ref f3) = true) (cb3 : clsB K C3 = true) (ib3 : iniB K C3 f3 ["part"] = true)
    (aC4 : PySem.W.nsIn K mainGlobals "BadSide" = some (some (.ref C4))) (xL4 : K.lookup C4 = some (excClassObj nm4 q4 C4 N4 bs4 bm4 true sn4 sub4 ab4 col4 dd4 m04_ m14_ m24_ m34_ m54_ "ValueError.__new__")) (hm4 : PySem.HandSPX.refsVE bm4 = true) (a4 : PySem.W.findIn K (.ref C4) "__init__" = some (some (.ref f4))) (l4 : K.lookup f4 = some ⟨oc4, od4, .func (PySem.W.fnOf "__init__" "BadSide.__init__" (defArgs (inClass (top 6) 0)) (defBody (inClass (top 6) 0)) (defScope (inClass (top 6) 0)) .none kV4 dc4 pm4 an4 cd4 ct4), sl4⟩) (c4 : PySem.W.codeIn K cd4 "BadSide.__init__" = true) (k4 : PySem.W.keepIn K (.ref f4) = true) (cb4 : clsB K C4 = true) (ib4 : iniB K C4 f4 ["part"] = true)
    (aC5 : PySem.W.nsIn K mainGlobals "BadFilling" = some (some (.ref C5))) (xL5 : K.lookup C5 = some (excClassObj nm5 q5 C5 N5 bs5 bm5 true sn5 sub5 ab5 col5 dd5 m05_ m15_ m25_ m35_ m55_ "ValueError.__new__")) (hm5 : PySem.HandSPX.refsVE bm5 = true) (a5 : PySem.W.findIn K (.ref C5) "__init__" = some (some (.ref f5))) (l5 : K.lookup f5 = some ⟨oc5, od5, .func (PySem.W.fnOf "__init__" "BadFilling.__init__" (defArgs (inClass (top 7) 0)) (defBody (inClass (top 7) 0)) (defScope (inClass (top 7) 0)) .none kV5 dc5 pm5 an5 cd5 ct5), sl5⟩) (c5 : PySem.W.codeIn K cd5 "BadFilling.__init__" = true) (k5 : PySem.W.keepIn K (.ref f5) = true) (cb5 : clsB K C5 = true) (ib5 : iniB K C5 f5 ["part"] = true)
    (aC6 : PySem.W.nsIn K mainGlobals "BadPair" = some (some (.ref C6))) (xL6 : K.lookup C6 = some (excClassObj nm6 q6 C6 N6 bs6 bm6 true sn6 sub6 ab6 col6 dd6 m06_ m16_ m26_ m36_ m56_ "ValueError.__new__")) (hm6 : PySem.HandSPX.refsVE bm6 = true) (a6 : PySem.W.findIn K (.ref C6) "__init__" = some (some (.ref f6))) (l6 : K.lookup f6 = some ⟨oc6, od6, .func (PySem.W.fnOf "__init__" "BadPair.__init__" (defArgs (inClass (top 8) 0)) (defBody (inClass (top 8) 0)) (defScope (inClass (top 8) 0)) .none kV6 dc6 pm6 an6 cd6 ct6), sl6⟩) (c6 : PySem.W.codeIn K cd6 "BadPair.__init__" = true) (k6 : PySem.W.keepIn K (.ref f6) = true) (cb6 : clsB K C6 = true) (ib6 : iniB K C6 f6 ["value"] = true)
    (aC7 : PySem.W.nsIn K mainGlobals "BadOrder" = some (some (.ref C7))) (xL7 : K.lookup C7 = some (excClassObj nm7 q7 C7 N7 bs7 bm7 true sn7 sub7 ab7 col7 dd7 m07_ m17_ m27_ m37_ m57_ "ValueError.__new__")) (hm7 : PySem.HandSPX.refsVE bm7 = true) (a7 : PySem.W.findIn K (.ref C7) "__init__" = some (some (.ref f7))) (l7 : K.lookup f7 = some ⟨oc7, od7, .func (PySem.W.fnOf "__init__" "BadOrder.__init__" (defArgs (inClass (top 9) 0)) (defBody (inClass (top 9) 0)) (defScope (inClass (top 9) 0)) .none kV7 dc7 pm7 an7 cd7 ct7), sl7⟩) (c7 : PySem.W.codeIn K cd7 "BadOrder.__init__" = true) (k7 : PySem.W.keepIn K (.ref f7) = true) (cb7 : clsB K C7 = true) (ib7 : iniB K C7 f7 ["part"] = true)
    (aC8 : PySem.W.nsIn K mainGlobals "BadBars" = some (some (.ref C8))) (xL8 : K.lookup C8 = some (excClassObj nm8 q8 C8 N8 bs8 bm8 true sn8 sub8 ab8 col8 dd8 m08_ m18_ m28_ m38_ m58_ "ValueError.__new__")) (hm8 : PySem.HandSPX.refsVE bm8 = true) (a8 : PySem.W.findIn K (.ref C8) "__init__" = some (some (.ref f8))) (l8 : K.lookup f8 = some ⟨oc8, od8, .func (PySem.W.fnOf "__init__" "BadBars.__init__" (defArgs (inClass (top 10) 0)) (defBody (inClass (top 10) 0)) (defScope (inClass (top 10) 0)) .none kV8 dc8 pm8 an8 cd8 ct8), sl8⟩) (c8 : PySem.W.codeIn K cd8 "BadBars.__init__" = true) (k8 : PySem.W.keepIn K (.ref f8) = true) (cb8 : clsB K C8 = true) (ib8 : iniB K C8 f8 ["part"] = true)
    (aC9 : PySem.W.nsIn K mainGlobals "BadSeen" = some (some (.ref C9))) (xL9 : K.lookup C9 = some (excClassObj nm9 q9 C9 N9 bs9 bm9 true sn9 sub9 ab9 col9 dd9 m09_ m19_ m29_ m39_ m59_ "ValueError.__new__")) (hm9 : PySem.HandSPX.refsVE bm9 = true) (a9 : PySem.W.findIn K (.ref C9) "__init__" = some (some (.ref f9))) (l9 : K.lookup f9 = some ⟨oc9, od9, .func (PySem.W.fnOf "__init__" "BadSeen.__init__" (defArgs (inClass (top 11) 0)) (defBody (inClass (top 11) 0)) (defScope (inClass (top 11) 0)) .none kV9 dc9 pm9 an9 cd9 ct9), sl9⟩) (c9 : PySem.W.codeIn K cd9 "BadSeen.__init__" = true) (k9 : PySem.W.keepIn K (.ref f9) = true) (cb9 : clsB K C9 = true) (ib9 : iniB K C9 f9 ["part"] = true)
    (aC10 : PySem.W.nsIn K mainGlobals "BadOffer" = some (some (.ref C10))) (xL10 : K.lookup C10 = some (excClassObj nm10 q10 C10 N10 bs10 bm10 true sn10 sub10 ab10 col10 dd10 m010_ m110_ m210_ m310_ m510_ "ValueError.__new__")) (hm10 : PySem.HandSPX.refsVE bm10 = true) (a10 : PySem.W.findIn K (.ref C10) "__init__" = some (some (.ref f10))) (l10 : K.lookup f10 = some ⟨oc10, od10, .func (PySem.W.fnOf "__init__" "BadOffer.__init__" (defArgs (inClass (top 12) 0)) (defBody (inClass (top 12) 0)) (defScope (inClass (top 12) 0)) .none kV10 dc10 pm10 an10 cd10 ct10), sl10⟩) (c10 : PySem.W.codeIn K cd10 "BadOffer.__init__" = true) (k10 : PySem.W.keepIn K (.ref f10) = true) (cb10 : clsB K C10 = true) (ib10 : iniB K C10 f10 ["part"] = true)
    (aC11 : PySem.W.nsIn K mainGlobals "BadRule" = some (some (.ref C11))) (xL11 : K.lookup C11 = some (excClassObj nm11 q11 C11 N11 bs11 bm11 true sn11 sub11 ab11 col11 dd11 m011_ m111_ m211_ m311_ m511_ "ValueError.__new__")) (hm11 : PySem.HandSPX.refsVE bm11 = true) (a11 : PySem.W.findIn K (.ref C11) "__init__" = some (some (.ref f11))) (l11 : K.lookup f11 = some ⟨oc11, od11, .func (PySem.W.fnOf "__init__" "BadRule.__init__" (defArgs (inClass (top 13) 0)) (defBody (inClass (top 13) 0)) (defScope (inClass (top 13) 0)) .none kV11 dc11 pm11 an11 cd11 ct11), sl11⟩) (c11 : PySem.W.codeIn K cd11 "BadRule.__init__" = true) (k11 : PySem.W.keepIn K (.ref f11) = true) (cb11 : clsB K C11 = true) (ib11 : iniB K C11 f11 ["part"] = true)
    (aC12 : PySem.W.nsIn K mainGlobals "BadDay" = some (some (.ref C12))) (xL12 : K.lookup C12 = some (excClassObj nm12 q12 C12 N12 bs12 bm12 true sn12 sub12 ab12 col12 dd12 m012_ m112_ m212_ m312_ m512_ "ValueError.__new__")) (hm12 : PySem.HandSPX.refsVE bm12 = true) (a12 : PySem.W.findIn K (.ref C12) "__init__" = some (some (.ref f12))) (l12 : K.lookup f12 = some ⟨oc12, od12, .func (PySem.W.fnOf "__init__" "BadDay.__init__" (defArgs (inClass (top 14) 0)) (defBody (inClass (top 14) 0)) (defScope (inClass (top 14) 0)) .none kV12 dc12 pm12 an12 cd12 ct12), sl12⟩) (c12 : PySem.W.codeIn K cd12 "BadDay.__init__" = true) (k12 : PySem.W.keepIn K (.ref f12) = true) (cb12 : clsB K C12 = true) (ib12 : iniB K C12 f12 ["value"] = true)
    (aC13 : PySem.W.nsIn K mainGlobals "BadLedger" = some (some (.ref C13))) (xL13 : K.lookup C13 = some (excClassObj nm13 q13 C13 N13 bs13 bm13 true sn13 sub13 ab13 col13 dd13 m013_ m113_ m213_ m313_ m513_ "ValueError.__new__")) (hm13 : PySem.HandSPX.refsVE bm13 = true) (a13 : PySem.W.findIn K (.ref C13) "__init__" = some (some (.ref f13))) (l13 : K.lookup f13 = some ⟨oc13, od13, .func (PySem.W.fnOf "__init__" "BadLedger.__init__" (defArgs (inClass (top 15) 0)) (defBody (inClass (top 15) 0)) (defScope (inClass (top 15) 0)) .none kV13 dc13 pm13 an13 cd13 ct13), sl13⟩) (c13 : PySem.W.codeIn K cd13 "BadLedger.__init__" = true) (k13 : PySem.W.keepIn K (.ref f13) = true) (cb13 : clsB K C13 = true) (ib13 : iniB K C13 f13 ["part"] = true)
    (aC14 : PySem.W.nsIn K mainGlobals "BadText" = some (some (.ref C14))) (xL14 : K.lookup C14 = some (excClassObj nm14 q14 C14 N14 bs14 bm14 true sn14 sub14 ab14 col14 dd14 m014_ m114_ m214_ m314_ m514_ "ValueError.__new__")) (hm14 : PySem.HandSPX.refsVE bm14 = true) (a14 : PySem.W.findIn K (.ref C14) "__init__" = some (some (.ref f14))) (l14 : K.lookup f14 = some ⟨oc14, od14, .func (PySem.W.fnOf "__init__" "BadText.__init__" (defArgs (inClass (top 16) 0)) (defBody (inClass (top 16) 0)) (defScope (inClass (top 16) 0)) .none kV14 dc14 pm14 an14 cd14 ct14), sl14⟩) (c14 : PySem.W.codeIn K cd14 "BadText.__init__" = true) (k14 : PySem.W.keepIn K (.ref f14) = true) (cb14 : clsB K C14 = true) (ib14 : iniB K C14 f14 ["line", "word"] = true)
    (aC15 : PySem.W.nsIn K mainGlobals "BadLine" = some (some (.ref C15))) (xL15 : K.lookup C15 = some (excClassObj nm15 q15 C15 N15 bs15 bm15 true sn15 sub15 ab15 col15 dd15 m015_ m115_ m215_ m315_ m515_ "ValueError.__new__")) (hm15 : PySem.HandSPX.refsVE bm15 = true) (a15 : PySem.W.findIn K (.ref C15) "__init__" = some (some (.ref f15))) (l15 : K.lookup f15 = some ⟨oc15, od15, .func (PySem.W.fnOf "__init__" "BadLine.__init__" (defArgs (inClass (top 17) 0)) (defBody (inClass (top 17) 0)) (defScope (inClass (top 17) 0)) .none kV15 dc15 pm15 an15 cd15 ct15), sl15⟩) (c15 : PySem.W.codeIn K cd15 "BadLine.__init__" = true) (k15 : PySem.W.keepIn K (.ref f15) = true) (cb15 : clsB K C15 = true) (ib15 : iniB K C15 f15 ["word"] = true)
    (aC16 : PySem.W.nsIn K mainGlobals "NoName" = some (some (.ref C16))) (xL16 : K.lookup C16 = some (excClassObj nm16 q16 C16 N16 bs16 bm16 true sn16 sub16 ab16 col16 dd16 m016_ m116_ m216_ m316_ m516_ "ValueError.__new__")) (hm16 : PySem.HandSPX.refsVE bm16 = true) (a16 : PySem.W.findIn K (.ref C16) "__init__" = some (some (.ref f16))) (l16 : K.lookup f16 = some ⟨oc16, od16, .func (PySem.W.fnOf "__init__" "NoName.__init__" (defArgs (inClass (top 18) 0)) (defBody (inClass (top 18) 0)) (defScope (inClass (top 18) 0)) .none kV16 dc16 pm16 an16 cd16 ct16), sl16⟩) (c16 : PySem.W.codeIn K cd16 "NoName.__init__" = true) (k16 : PySem.W.keepIn K (.ref f16) = true) (cb16 : clsB K C16 = true) (ib16 : iniB K C16 f16 ["name"] = true)
    (aC17 : PySem.W.nsIn K mainGlobals "NoPair" = some (some (.ref C17))) (xL17 : K.lookup C17 = some (excClassObj nm17 q17 C17 N17 bs17 bm17 true sn17 sub17 ab17 col17 dd17 m017_ m117_ m217_ m317_ m517_ "ValueError.__new__")) (hm17 : PySem.HandSPX.refsVE bm17 = true) (a17 : PySem.W.findIn K (.ref C17) "__init__" = some (some (.ref f17))) (l17 : K.lookup f17 = some ⟨oc17, od17, .func (PySem.W.fnOf "__init__" "NoPair.__init__" (defArgs (inClass (top 19) 0)) (defBody (inClass (top 19) 0)) (defScope (inClass (top 19) 0)) .none kV17 dc17 pm17 an17 cd17 ct17), sl17⟩) (c17 : PySem.W.codeIn K cd17 "NoPair.__init__" = true) (k17 : PySem.W.keepIn K (.ref f17) = true) (cb17 : clsB K C17 = true) (ib17 : iniB K C17 f17 ["pair"] = true)
    (aC18 : PySem.W.nsIn K mainGlobals "Lacking" = some (some (.ref C18))) (xL18 : K.lookup C18 = some (excClassObj nm18 q18 C18 N18 bs18 bm18 true sn18 sub18 ab18 col18 dd18 m018_ m118_ m218_ m318_ m518_ "ValueError.__new__")) (hm18 : PySem.HandSPX.refsVE bm18 = true) (a18 : PySem.W.findIn K (.ref C18) "__init__" = some (some (.ref f18))) (l18 : K.lookup f18 = some ⟨oc18, od18, .func (PySem.W.fnOf "__init__" "Lacking.__init__" (defArgs (inClass (top 20) 0)) (defBody (inClass (top 20) 0)) (defScope (inClass (top 20) 0)) .none kV18 dc18 pm18 an18 cd18 ct18), sl18⟩) (c18 : PySem.W.codeIn K cd18 "Lacking.__init__" = true) (k18 : PySem.W.keepIn K (.ref f18) = true) (cb18 : clsB K C18 = true) (ib18 : iniB K C18 f18 ["name"] = true)
    (aC19 : PySem.W.nsIn K mainGlobals "TooMany" = some (some (.ref C19))) (xL19 : K.lookup C19 = some (excClassObj nm19 q19 C19 N19 bs19 bm19 true sn19 sub19 ab19 col19 dd19 m019_ m119_ m219_ m319_ m519_ "ValueError.__new__")) (hm19 : PySem.HandSPX.refsVE bm19 = true) (a19 : PySem.W.findIn K (.ref C19) "__init__" = some (some (.ref f19))) (l19 : K.lookup f19 = some ⟨oc19, od19, .func (PySem.W.fnOf "__init__" "TooMany.__init__" (defArgs (inClass (top 21) 0)) (defBody (inClass (top 21) 0)) (defScope (inClass (top 21) 0)) .none kV19 dc19 pm19 an19 cd19 ct19), sl19⟩) (c19 : PySem.W.codeIn K cd19 "TooMany.__init__" = true) (k19 : PySem.W.keepIn K (.ref f19) = true) (cb19 : clsB K C19 = true) (ib19 : iniB K C19 f19 ["what", "most"] = true)
    (aC20 : PySem.W.nsIn K mainGlobals "IsNested" = some (some (.ref C20))) (cb20 : clsB K C20 = true) (q20 : PySem.W.excIn K C20 [.type "ValueError", .type "Exception", .type "BaseException", .type "object"] "ValueError.__new__" = true)
    (aC21 : PySem.W.nsIn K mainGlobals "NoChange" = some (some (.ref C21))) (cb21 : clsB K C21 = true) (q21 : PySem.W.excIn K C21 [.type "ValueError", .type "Exception", .type "BaseException", .type "object"] "ValueError.__new__" = true)
    (aB : PySem.W.nsIn K mainGlobals "FillError" = some (some (.ref B))) (cbB : clsB K B = true) (qB : PySem.W.excIn K B [.type "ValueError", .type "Exception", .type "BaseException", .type "object"] "ValueError.__new__" = true)
    (kit : kitB K [C0, C1, C2, C3, C4, C5, C6, C7, C8, C9, C10, C11, C12, C13, C14, C15, C16, C17, C18, C19, C20, C21] B = true) (sp : PySem.W.specialIn K (.builtin "object.__class__") "__get__" = some (some (.builtin "getset_descriptor.__get__"))) (tks : PySem.W.takesIn K (.builtin "object.__class__") = some true)
    (A0 : PySem.W.nsIn K mainGlobals "_law_pen" = some (some (.ref g0))) (L0 : K.lookup g0 = some ⟨Oc0, Od0, .func (PySem.W.fnOf "_law_pen" "_law_pen" (defArgs sPen) (defBody sPen) (defScope sPen) .none KV0 Dc0 Pm0 An0 Cd0 Ct0), Sl0⟩) (D0 : PySem.W.codeIn K Cd0 "_law_pen" = true) (E0 : PySem.W.keepIn K (.ref g0) = true)
    (A1 : PySem.W.nsIn K mainGlobals "_law_draw" = some (some (.ref g1))) (L1 : K.lookup g1 = some ⟨Oc1, Od1, .func (PySem.W.fnOf "_law_draw" "_law_draw" (defArgs sDraw) (defBody sDraw) (defScope sDraw) .none KV1 Dc1 Pm1 An1 Cd1 Ct1), Sl1⟩) (D1 : PySem.W.codeIn K Cd1 "_law_draw" = true) (E1 : PySem.W.keepIn K (.ref g1) = true)
    (A2 : PySem.W.nsIn K mainGlobals "_law_pick" = some (some (.ref g2))) (L2 : K.lookup g2 = some ⟨Oc2, Od2, .func (PySem.W.fnOf "_law_pick" "_law_pick" (defArgs sPick) (defBody sPick) (defScope sPick) .none KV2 Dc2 Pm2 An2 Cd2 Ct2), Sl2⟩) (D2 : PySem.W.codeIn K Cd2 "_law_pick" = true) (E2 : PySem.W.keepIn K (.ref g2) = true)
    (A3 : PySem.W.nsIn K mainGlobals "_law_value" = some (some (.ref g3))) (L3 : K.lookup g3 = some ⟨Oc3, Od3, .func (PySem.W.fnOf "_law_value" "_law_value" (defArgs sValue) (defBody sValue) (defScope sValue) .none KV3 Dc3 Pm3 An3 Cd3 Ct3), Sl3⟩) (D3 : PySem.W.codeIn K Cd3 "_law_value" = true) (E3 : PySem.W.keepIn K (.ref g3) = true)
    (A4 : PySem.W.nsIn K mainGlobals "_law_made" = some (some (.ref g4))) (L4 : K.lookup g4 = some ⟨Oc4, Od4, .func (PySem.W.fnOf "_law_made" "_law_made" (defArgs sMade) (defBody sMade) (defScope sMade) .none KV4 Dc4 Pm4 An4 Cd4 Ct4), Sl4⟩) (D4 : PySem.W.codeIn K Cd4 "_law_made" = true) (E4 : PySem.W.keepIn K (.ref g4) = true)
    (A5 : PySem.W.nsIn K mainGlobals "_law_named" = some (some (.ref g5))) (L5 : K.lookup g5 = some ⟨Oc5, Od5, .func (PySem.W.fnOf "_law_named" "_law_named" (defArgs sNamed) (defBody sNamed) (defScope sNamed) .none KV5 Dc5 Pm5 An5 Cd5 Ct5), Sl5⟩) (D5 : PySem.W.codeIn K Cd5 "_law_named" = true) (E5 : PySem.W.keepIn K (.ref g5) = true)
    (A6 : PySem.W.nsIn K mainGlobals "_law_fields" = some (some (.ref g6))) (L6 : K.lookup g6 = some ⟨Oc6, Od6, .func (PySem.W.fnOf "_law_fields" "_law_fields" (defArgs sFields) (defBody sFields) (defScope sFields) .none KV6 Dc6 Pm6 An6 Cd6 Ct6), Sl6⟩) (D6 : PySem.W.codeIn K Cd6 "_law_fields" = true) (E6 : PySem.W.keepIn K (.ref g6) = true)
    (A7 : PySem.W.nsIn K mainGlobals "_law_classes" = some (some (.ref g7))) (L7 : K.lookup g7 = some ⟨Oc7, Od7, .func (PySem.W.fnOf "_law_classes" "_law_classes" (defArgs sClasses) (defBody sClasses) (defScope sClasses) .none KV7 Dc7 Pm7 An7 Cd7 Ct7), Sl7⟩) (D7 : PySem.W.codeIn K Cd7 "_law_classes" = true) (E7 : PySem.W.keepIn K (.ref g7) = true)
    (A8 : PySem.W.nsIn K mainGlobals "law" = some (some (.ref g8))) (L8 : K.lookup g8 = some ⟨Oc8, Od8, .func (PySem.W.fnOf "law" "law" (defArgs sLaw) (defBody sLaw) (defScope sLaw) .none KV8 Dc8 Pm8 An8 Cd8 Ct8), Sl8⟩) (D8 : PySem.W.codeIn K Cd8 "law" = true) (E8 : PySem.W.keepIn K (.ref g8) = true)
    (z_int : PySem.W.nsIn K mainGlobals "int" = some none)
    (z_len : PySem.W.nsIn K mainGlobals "len" = some none)
    (z_abs : PySem.W.nsIn K mainGlobals "abs" = some none)
    (z_list : PySem.W.nsIn K mainGlobals "list" = some none)
    (z_isinstance : PySem.W.nsIn K mainGlobals "isinstance" = some none)
    (z_range : PySem.W.nsIn K mainGlobals "range" = some none)
    (z_repr : PySem.W.nsIn K mainGlobals "repr" = some none)
    (z_ValueError : PySem.W.nsIn K mainGlobals "ValueError" = some none)
    (z_LookupError : PySem.W.nsIn K mainGlobals "LookupError" = some none)
    (z_TypeError : PySem.W.nsIn K mainGlobals "TypeError" = some none)
    (z_ArithmeticError : PySem.W.nsIn K mainGlobals "ArithmeticError" = some none)
    (z_AttributeError : PySem.W.nsIn K mainGlobals "AttributeError" = some none)
    (z_RuntimeError : PySem.W.nsIn K mainGlobals "RuntimeError" = some none)
    : ∃ fd : FuncData, (∀ (s : Shared) (v : Value), BindsTo s fd ⟨[v], []⟩ [("script", v)]) ∧ ∀ base : Heap, K.In base → base.Ns mainGlobals mg → XG.FnG P w K mg base CX0 4 fa fd ["script"] (spLaw K) := by
  have e := hfa.symm.trans (PySem.W.mg_of X G A8)
  cases e
  have F0 := fun_mk (st := sPen) L0 D0 E0
  have F1 := fun_mk (st := sDraw) L1 D1 E1
  have F2 := fun_mk (st := sPick) L2 D2 E2
  have F3 := fun_mk (st := sValue) L3 D3 E3
  have F4 := fun_mk (st := sMade) L4 D4 E4
  have F5 := fun_mk (st := sNamed) L5 D5 E5
  have F6 := fun_mk (st := sFields) L6 D6 E6
  have F7 := fun_mk (st := sClasses) L7 D7 E7
  have F8 := fun_mk (st := sLaw) L8 D8 E8
  have b0 := F0.binds (ps := ["script"]) fun _ _ _ _ _ _ us hl => match us, hl with | [_], _ => rfl
  have b1 := F1.binds (ps := ["pen", "many"]) fun _ _ _ _ _ _ us hl => match us, hl with | [_, _], _ => rfl
  have b2 := F2.binds (ps := ["pen", "some"]) fun _ _ _ _ _ _ us hl => match us, hl with | [_, _], _ => rfl
  have b3 := F3.binds (ps := ["pen"]) fun _ _ _ _ _ _ us hl => match us, hl with | [_], _ => rfl
  have b4 := F4.binds (ps := ["one", "two"]) fun _ _ _ _ _ _ us hl => match us, hl with | [_, _], _ => rfl
  have b5 := F5.binds (ps := ["one", "two"]) fun _ _ _ _ _ _ us hl => match us, hl with | [_, _], _ => rfl
  have b6 := F6.binds (ps := ["error", "names"]) fun _ _ _ _ _ _ us hl => match us, hl with | [_, _], _ => rfl
  have b7 := F7.binds (ps := ["error"]) fun _ _ _ _ _ _ us hl => match us, hl with | [_], _ => rfl
  have m : ∀ {x : Str} {v : Value}, PySem.W.nsIn K mainGlobals x = some (some v) → mg x = some v := fun h => PySem.W.mg_of X G h
  have z : ∀ {x : Str}, PySem.W.nsIn K mainGlobals x = some none → mg x = none := fun h => PySem.W.mg_none_of X G h
  let C : Nat → Addr := fun i => ([C0, C1, C2, C3, C4, C5, C6, C7, C8, C9, C10, C11, C12, C13, C14, C15, C16, C17, C18, C19, C20, C21] : List Addr).getD i 0
  let fI : Nat → Addr := fun i => ([f0, f1, f2, f3, f4, f5, f6, f7, f8, f9, f10, f11, f12, f13, f14, f15, f16, f17, f18, f19] : List Addr).getD i 0
  let fdI : Nat → FuncData := fun i => match i with
    | 0 => PySem.W.fnOf "__init__" "BadName.__init__" (defArgs (inClass (top 2) 0)) (defBody (inClass (top 2) 0)) (defScope (inClass (top 2) 0)) .none kV0 dc0 pm0 an0 cd0 ct0
    | 1 => PySem.W.fnOf "__init__" "BadAmount.__init__" (defArgs (inClass (top 3) 0)) (defBody (inClass (top 3) 0)) (defScope (inClass (top 3) 0)) .none kV1 dc1 pm1 an1 cd1 ct1
    | 2 => PySem.W.fnOf "__init__" "BadWorth.__init__" (defArgs (inClass (top 4) 0)) (defBody (inClass (top 4) 0)) (defScope (inClass (top 4) 0)) .none kV2 dc2 pm2 an2 cd2 ct2
    | 3 => PySem.W.fnOf "__init__" "BadTable.__init__" (defArgs (inClass (top 5) 0)) (defBody (inClass (top 5) 0)) (defScope (inClass (top 5) 0)) .none kV3 dc3 pm3 an3 cd3 ct3
    | 4 => PySem.W.fnOf "__init__" "BadSide.__init__" (defArgs (inClass (top 6) 0)) (defBody (inClass (top 6) 0)) (defScope (inClass (top 6) 0)) .none kV4 dc4 pm4 an4 cd4 ct4
    | 5 => PySem.W.fnOf "__init__" "BadFilling.__init__" (defArgs (inClass (top 7) 0)) (defBody (inClass (top 7) 0)) (defScope (inClass (top 7) 0)) .none kV5 dc5 pm5 an5 cd5 ct5
    | 6 => PySem.W.fnOf "__init__" "BadPair.__init__" (defArgs (inClass (top 8) 0)) (defBody (inClass (top 8) 0)) (defScope (inClass (top 8) 0)) .none kV6 dc6 pm6 an6 cd6 ct6
    | 7 => PySem.W.fnOf "__init__" "BadOrder.__init__" (defArgs (inClass (top 9) 0)) (defBody (inClass (top 9) 0)) (defScope (inClass (top 9) 0)) .none kV7 dc7 pm7 an7 cd7 ct7
    | 8 => PySem.W.fnOf "__init__" "BadBars.__init__" (defArgs (inClass (top 10) 0)) (defBody (inClass (top 10) 0)) (defScope (inClass (top 10) 0)) .none kV8 dc8 pm8 an8 cd8 ct8
    | 9 => PySem.W.fnOf "__init__" "BadSeen.__init__" (defArgs (inClass (top 11) 0)) (defBody (inClass (top 11) 0)) (defScope (inClass (top 11) 0)) .none kV9 dc9 pm9 an9 cd9 ct9
    | 10 => PySem.W.fnOf "__init__" "BadOffer.__init__" (defArgs (inClass (top 12) 0)) (defBody (inClass (top 12) 0)) (defScope (inClass (top 12) 0)) .none kV10 dc10 pm10 an10 cd10 ct10
    | 11 => PySem.W.fnOf "__init__" "BadRule.__init__" (defArgs (inClass (top 13) 0)) (defBody (inClass (top 13) 0)) (defScope (inClass (top 13) 0)) .none kV11 dc11 pm11 an11 cd11 ct11
    | 12 => PySem.W.fnOf "__init__" "BadDay.__init__" (defArgs (inClass (top 14) 0)) (defBody (inClass (top 14) 0)) (defScope (inClass (top 14) 0)) .none kV12 dc12 pm12 an12 cd12 ct12
    | 13 => PySem.W.fnOf "__init__" "BadLedger.__init__" (defArgs (inClass (top 15) 0)) (defBody (inClass (top 15) 0)) (defScope (inClass (top 15) 0)) .none kV13 dc13 pm13 an13 cd13 ct13
    | 14 => PySem.W.fnOf "__init__" "BadText.__init__" (defArgs (inClass (top 16) 0)) (defBody (inClass (top 16) 0)) (defScope (inClass (top 16) 0)) .none kV14 dc14 pm14 an14 cd14 ct14
    | 15 => PySem.W.fnOf "__init__" "BadLine.__init__" (defArgs (inClass (top 17) 0)) (defBody (inClass (top 17) 0)) (defScope (inClass (top 17) 0)) .none kV15 dc15 pm15 an15 cd15 ct15
    | 16 => PySem.W.fnOf "__init__" "NoName.__init__" (defArgs (inClass (top 18) 0)) (defBody (inClass (top 18) 0)) (defScope (inClass (top 18) 0)) .none kV16 dc16 pm16 an16 cd16 ct16
    | 17 => PySem.W.fnOf "__init__" "NoPair.__init__" (defArgs (inClass (top 19) 0)) (defBody (inClass (top 19) 0)) (defScope (inClass (top 19) 0)) .none kV17 dc17 pm17 an17 cd17 ct17
    | 18 => PySem.W.fnOf "__init__" "Lacking.__init__" (defArgs (inClass (top 20) 0)) (defBody (inClass (top 20) 0)) (defScope (inClass (top 20) 0)) .none kV18 dc18 pm18 an18 cd18 ct18
    | _ => PySem.W.fnOf "__init__" "TooMany.__init__" (defArgs (inClass (top 21) 0)) (defBody (inClass (top 21) 0)) (defScope (inClass (top 21) 0)) .none kV19 dc19 pm19 an19 cd19 ct19
  have cp : ∀ i, i < 22 → ClsP K (C i) := fun i hi => match i, hi with
    | 0, _ => clsP cb0
    | 1, _ => clsP cb1
    | 2, _ => clsP cb2
    | 3, _ => clsP cb3
    | 4, _ => clsP cb4
    | 5, _ => clsP cb5
    | 6, _ => clsP cb6
    | 7, _ => clsP cb7
    | 8, _ => clsP cb8
    | 9, _ => clsP cb9
    | 10, _ => clsP cb10
    | 11, _ => clsP cb11
    | 12, _ => clsP cb12
    | 13, _ => clsP cb13
    | 14, _ => clsP cb14
    | 15, _ => clsP cb15
    | 16, _ => clsP cb16
    | 17, _ => clsP cb17
    | 18, _ => clsP cb18
    | 19, _ => clsP cb19
    | 20, _ => clsP cb20
    | 21, _ => clsP cb21
    | n + 22, h => absurd h (by omega)
  have cpB := clsP cbB
  have ec : ∀ {D : Addr}, ClsP K D → ExcC K D := fun c => ⟨c.ga, c.gg, c.ex, c.hd, c.cl, sp, tks, c.mo⟩
  have xf : ∀ {D : Addr}, ClsP K D → XfC K D := fun c => ⟨c.ga, c.gg, c.ex, c.hd⟩
  obtain ⟨kit1, kit23⟩ := and2 kit
  obtain ⟨kit2, kit3⟩ := and2 kit23
  obtain ⟨k3a, k3b⟩ := and2 kit3
  have kk : ∀ i, i < 22 → (List.range 22).all (fun j => decide (PySem.W.kitOne K (.ref (C i)) (.ref (C j)) = some (decide (i = j)))) = true := fun i hi => all_at kit1 hi
  have S : Cs K mg C := ⟨fun i hi => match i, hi with
    | 0, _ => m aC0
    | 1, _ => m aC1
    | 2, _ => m aC2
    | 3, _ => m aC3
    | 4, _ => m aC4
    | 5, _ => m aC5
    | 6, _ => m aC6
    | 7, _ => m aC7
    | 8, _ => m aC8
    | 9, _ => m aC9
    | 10, _ => m aC10
    | 11, _ => m aC11
    | 12, _ => m aC12
    | 13, _ => m aC13
    | 14, _ => m aC14
    | 15, _ => m aC15
    | 16, _ => m aC16
    | 17, _ => m aC17
    | 18, _ => m aC18
    | 19, _ => m aC19
    | 20, _ => m aC20
    | 21, _ => m aC21
    | n + 22, h => absurd h (by omega), fun i hi => ec (cp i hi), fun i j hi hj => of_decide_eq_true (all_at (kk i hi) hj)⟩
  have ibs : ∀ i, i < 20 → iniB K (C i) (fI i) (names (kd i)) = true := fun i hi => match i, hi with
    | 0, _ => ib0
    | 1, _ => ib1
    | 2, _ => ib2
    | 3, _ => ib3
    | 4, _ => ib4
    | 5, _ => ib5
    | 6, _ => ib6
    | 7, _ => ib7
    | 8, _ => ib8
    | 9, _ => ib9
    | 10, _ => ib10
    | 11, _ => ib11
    | 12, _ => ib12
    | 13, _ => ib13
    | 14, _ => ib14
    | 15, _ => ib15
    | 16, _ => ib16
    | 17, _ => ib17
    | 18, _ => ib18
    | 19, _ => ib19
    | n + 20, h => absurd h (by omega)
  have rd : ∀ i, i < 22 → Rd K (C i) (kd i) := fun i hi => ⟨xf (cp i hi), fun f hf => by
    by_cases h20 : i < 20
    · have q := (and2 (and2 (ibs i h20)).2).2
      exact of_decide_eq_true (List.all_eq_true.mp q f hf)
    · have e : i = 20 ∨ i = 21 := by omega
      rcases e with rfl | rfl <;> cases hf⟩
  have kz := fun i (hi : i < 22) => and2 (all_at kit2 hi)
  have Z : Bs K mg C B := ⟨m aB, ec cpB, qB, cpB.kp, of_decide_eq_true k3a, of_decide_eq_true k3b, fun i hi => of_decide_eq_true (kz i hi).1, fun i hi => of_decide_eq_true (and2 (kz i hi).2).1, fun i hi => of_decide_eq_true (and2 (and2 (kz i hi).2).2).1,
    fun i hi => of_decide_eq_true (and2 (and2 (and2 (kz i hi).2).2).2).1, fun i hi => of_decide_eq_true (and2 (and2 (and2 (and2 (kz i hi).2).2).2).2).1, fun i hi => of_decide_eq_true (and2 (and2 (and2 (and2 (and2 (kz i hi).2).2).2).2).2).1,
    fun i hi => of_decide_eq_true (and2 (and2 (and2 (and2 (and2 (kz i hi).2).2).2).2).2).2, rd⟩
  have T : Blt mg := ⟨z z_int, z z_len, z z_abs, z z_list⟩
  have T2 : Blt2 mg := ⟨z z_isinstance, z z_range⟩
  have T3 : Blt3 mg := ⟨z z_repr, z z_ValueError, z z_LookupError, z z_TypeError, z z_ArithmeticError, z z_AttributeError, z z_RuntimeError⟩
  refine ⟨PySem.W.fnOf "law" "law" (defArgs sLaw) (defBody sLaw) (defScope sLaw) .none KV8 Dc8 Pm8 An8 Cd8 Ct8, fun s v => .of_eq rfl, fun base _ _ => ?_⟩
  have M : Mks P w K mg base C fI fdI := {
    c0 := cl_0 xL0 hm0 a0 l0 c0 k0 cb0 ib0
    c1 := cl_1 xL1 hm1 a1 l1 c1 k1 cb1 ib1
    c2 := cl_2 xL2 hm2 a2 l2 c2 k2 cb2 ib2
    c3 := cl_3 xL3 hm3 a3 l3 c3 k3 cb3 ib3
    c4 := cl_4 xL4 hm4 a4 l4 c4 k4 cb4 ib4
    c5 := cl_5 xL5 hm5 a5 l5 c5 k5 cb5 ib5
    c6 := cl_6 xL6 hm6 a6 l6 c6 k6 cb6 ib6
    c7 := cl_7 xL7 hm7 a7 l7 c7 k7 cb7 ib7
    c8 := cl_8 xL8 hm8 a8 l8 c8 k8 cb8 ib8
    c9 := cl_9 xL9 hm9 a9 l9 c9 k9 cb9 ib9
    c10 := cl_10 xL10 hm10 a10 l10 c10 k10 cb10 ib10
    c11 := cl_11 xL11 hm11 a11 l11 c11 k11 cb11 ib11
    c12 := cl_12 xL12 hm12 a12 l12 c12 k12 cb12 ib12
    c13 := cl_13 xL13 hm13 a13 l13 c13 k13 cb13 ib13
    c14 := cl_14 xL14 hm14 a14 l14 c14 k14 cb14 ib14
    c15 := cl_15 xL15 hm15 a15 l15 c15 k15 cb15 ib15
    c16 := cl_16 xL16 hm16 a16 l16 c16 k16 cb16 ib16
    c17 := cl_17 xL17 hm17 a17 l17 c17 k17 cb17 ib17
    c18 := cl_18 xL18 hm18 a18 l18 c18 k18 cb18 ib18
    c19 := cl_19 xL19 hm19 a19 l19 c19 k19 cb19 ib19
    c20 := ⟨q20, (clsP cb20).kp⟩
    c21 := ⟨q21, (clsP cb21).kp⟩ }
  have dDraw := ok_draw (P := P) (w := w) (base := base) F1 T
  have dPick := ok_pick (P := P) (w := w) (base := base) F2 T dDraw b1 (m A1) E1
  have dValue := ok_value (P := P) (w := w) (base := base) F3 dPick b2 (m A2) E2
  exact ok_law F8 S Z T T2 T3 ⟨m A0, E0, ok_pen F0 T, b0⟩ ⟨m A3, E3, dValue, b3⟩ ⟨m A4, E4, ok_made F4 S M, b4⟩ ⟨m A5, E5, ok_named F5 S M, b5⟩ ⟨m A6, E6, ok_fields F6, b6⟩ ⟨m A7, E7, ok_classes F7 S T2, b7⟩
theorem walk {l : PySem.W.OpenLaw} {q : Program} {loose : List Str} {XP : (Str → Option Value) → Heap → Prop} {YP : World → Heap → Prop} {d : DefRec} {K : Params → PySem.W.Frag} (hn : l.most = some 63) (hdf : d.params.defaults = [])
    (hY : ∀ (w : World) (h : Heap), YP w h → (K w.params).In h)
    (F : ∀ (w : World) (mg : Str → Option Value) (fa : Addr) (h : Heap), (K w.params).In h → h.Ns mainGlobals mg → mg d.name = some (.ref fa) →
      ∃ fd : FuncData, (∀ (s : Shared) (u : Value), BindsTo s fd ⟨[u], []⟩ [("script", u)]) ∧ ∀ base : Heap, (K w.params).In base → base.Ns mainGlobals mg → XG.FnG l.prog w (K w.params) mg base CX0 4 fa fd ["script"] (spLaw (K w.params))) :
    PySem.W.WalkO q loose XP YP l.row.toRowW d [] (fun f vs => PySem.call f vs) :=
  XG.walk_ofG (n := 63) (k := 4) (x := "script") (sp := fun w => spLaw (K w.params)) hn (by decide) hdf ⟨rfl, by decide, by decide⟩ hY F fun _ _ a ns hl _ hS => ⟨a, ns, rfl, hS, hl, fun _ => rfl⟩
end K01

set_option Elab.async false
set_option linter.all false
open PySem PySem.W PyProof.Rows
set_option maxRecDepth 100000 in
set_option maxHeartbeats 0 in
theorem PySem.Challenge.cw_filledrow_k01_errors_and_their_fields_holds : PySem.Challenge.rw_filledrow_k01_errors_and_their_fields.Holds := by
  w_on; o_law; k_head; (case hw => w_witness2)
  k_fill
  refine K01.walk (l := PySem.Challenge.rw_filledrow_k01_errors_and_their_fields) rfl rfl (fun w h Y => PySem.W.kIn_of Y) ?F
  case F =>
    intro w mg fa h KX G hmg
    refine' K01.all_mk KX G hmg ?aC0 ?xL0 ?hm0 ?a0 ?l0 ?c0 ?k0 ?cb0 ?ib0 ?aC1 ?xL1 ?hm1 ?a1 ?l1 ?c1 ?k1 ?cb1 ?ib1 ?aC2 ?xL2 ?hm2 ?a2 ?l2 ?c2 ?k2 ?cb2 ?ib2 ?aC3 ?xL3 ?hm3 ?a3 ?l3 ?c3 ?k3 ?cb3 ?ib3 ?aC4 ?xL4 ?hm4 ?a4 ?l4 ?c4 ?k4 ?cb4 ?ib4 ?aC5 ?xL5 ?hm5 ?a5 ?l5 ?c5 ?k5 ?cb5 ?ib5 ?aC6 ?xL6 ?hm6 ?a6 ?l6 ?c6 ?k6 ?cb6 ?ib6 ?aC7 ?xL7 ?hm7 ?a7 ?l7 ?c7 ?k7 ?cb7 ?ib7 ?aC8 ?xL8 ?hm8 ?a8 ?l8 ?c8 ?k8 ?cb8 ?ib8 ?aC9 ?xL9 ?hm9 ?a9 ?l9 ?c9 ?k9 ?cb9 ?ib9 ?aC10 ?xL10 ?hm10 ?a10 ?l10 ?c10 ?k10 ?cb10 ?ib10 ?aC11 ?xL11 ?hm11 ?a11 ?l11 ?c11 ?k11 ?cb11 ?ib11 ?aC12 ?xL12 ?hm12 ?a12 ?l12 ?c12 ?k12 ?cb12 ?ib12 ?aC13 ?xL13 ?hm13 ?a13 ?l13 ?c13 ?k13 ?cb13 ?ib13 ?aC14 ?xL14 ?hm14 ?a14 ?l14 ?c14 ?k14 ?cb14 ?ib14 ?aC15 ?xL15 ?hm15 ?a15 ?l15 ?c15 ?k15 ?cb15 ?ib15 ?aC16 ?xL16 ?hm16 ?a16 ?l16 ?c16 ?k16 ?cb16 ?ib16 ?aC17 ?xL17 ?hm17 ?a17 ?l17 ?c17 ?k17 ?cb17 ?ib17 ?aC18 ?xL18 ?hm18 ?a18 ?l18 ?c18 ?k18 ?cb18 ?ib18 ?aC19 ?xL19 ?hm19 ?a19 ?l19 ?c19 ?k19 ?cb19 ?ib19 ?aC20 ?cb20 ?q20 ?aC21 ?cb21 ?q21 ?aB ?cbB ?qB ?kit ?sp ?tks ?A0 ?L0 ?D0 ?E0 ?A1 ?L1 ?D1 ?E1 ?A2 ?L2 ?D2 ?E2 ?A3 ?L3 ?D3 ?E3 ?A4 ?L4 ?D4 ?E4 ?A5 ?L5 ?D5 ?E5 ?A6 ?L6 ?D6 ?E6 ?A7 ?L7 ?D7 ?E7 ?A8 ?L8 ?D8 ?E8 ?z_int ?z_len ?z_abs ?z_list ?z_isinstance ?z_range ?z_repr ?z_ValueError ?z_LookupError ?z_TypeError ?z_ArithmeticError ?z_AttributeError ?z_RuntimeError
    (case aC0 => k_is)
    (case xL0 => k_is)
    (case hm0 => rfl)
    (case a0 => k_is)
    (case l0 => k_is)
    (case c0 => k_is)
    (case k0 => k_is)
    (case cb0 => kernel_rfl)
    (case ib0 => kernel_rfl)
    (case aC1 => k_is)
    (case xL1 => k_is)
    (case hm1 => rfl)
    (case a1 => k_is)
    (case l1 => k_is)
    (case c1 => k_is)
    (case k1 => k_is)
    (case cb1 => kernel_rfl)
    (case ib1 => kernel_rfl)
    (case aC2 => k_is)
    (case xL2 => k_is)
    (case hm2 => rfl)
    (case a2 => k_is)
    (case l2 => k_is)
    (case c2 => k_is)
    (case k2 => k_is)
    (case cb2 => kernel_rfl)
    (case ib2 => kernel_rfl)
    (case aC3 => k_is)
    (case xL3 => k_is)
    (case hm3 => rfl)
    (case a3 => k_is)
    (case l3 => k_is)
    (case c3 => k_is)
    (case k3 => k_is)
    (case cb3 => kernel_rfl)
    (case ib3 => kernel_rfl)
    (case aC4 => k_is)
    (case xL4 => k_is)
    (case hm4 => rfl)
    (case a4 => k_is)
    (case l4 => k_is)
    (case c4 => k_is)
    (case k4 => k_is)
    (case cb4 => kernel_rfl)
    (case ib4 => kernel_rfl)
    (case aC5 => k_is)
    (case xL5 => k_is)
    (case hm5 => rfl)
    (case a5 => k_is)
    (case l5 => k_is)
    (case c5 => k_is)
    (case k5 => k_is)
    (case cb5 => kernel_rfl)
    (case ib5 => kernel_rfl)
    (case aC6 => k_is)
    (case xL6 => k_is)
    (case hm6 => rfl)
    (case a6 => k_is)
    (case l6 => k_is)
    (case c6 => k_is)
    (case k6 => k_is)
    (case cb6 => kernel_rfl)
    (case ib6 => kernel_rfl)
    (case aC7 => k_is)
    (case xL7 => k_is)
    (case hm7 => rfl)
    (case a7 => k_is)
    (case l7 => k_is)
    (case c7 => k_is)
    (case k7 => k_is)
    (case cb7 => kernel_rfl)
    (case ib7 => kernel_rfl)
    (case aC8 => k_is)
    (case xL8 => k_is)
    (case hm8 => rfl)
    (case a8 => k_is)
    (case l8 => k_is)
    (case c8 => k_is)
    (case k8 => k_is)
    (case cb8 => kernel_rfl)
    (case ib8 => kernel_rfl)
    (case aC9 => k_is)
    (case xL9 => k_is)
    (case hm9 => rfl)
    (case a9 => k_is)
    (case l9 => k_is)
    (case c9 => k_is)
    (case k9 => k_is)
    (case cb9 => kernel_rfl)
    (case ib9 => kernel_rfl)
    (case aC10 => k_is)
    (case xL10 => k_is)
    (case hm10 => rfl)
    (case a10 => k_is)
    (case l10 => k_is)
    (case c10 => k_is)
    (case k10 => k_is)
    (case cb10 => kernel_rfl)
    (case ib10 => kernel_rfl)
    (case aC11 => k_is)
    (case xL11 => k_is)
    (case hm11 => rfl)
    (case a11 => k_is)
    (case l11 => k_is)
    (case c11 => k_is)
    (case k11 => k_is)
    (case cb11 => kernel_rfl)
    (case ib11 => kernel_rfl)
    (case aC12 => k_is)
    (case xL12 => k_is)
    (case hm12 => rfl)
    (case a12 => k_is)
    (case l12 => k_is)
    (case c12 => k_is)
    (case k12 => k_is)
    (case cb12 => kernel_rfl)
    (case ib12 => kernel_rfl)
    (case aC13 => k_is)
    (case xL13 => k_is)
    (case hm13 => rfl)
    (case a13 => k_is)
    (case l13 => k_is)
    (case c13 => k_is)
    (case k13 => k_is)
    (case cb13 => kernel_rfl)
    (case ib13 => kernel_rfl)
    (case aC14 => k_is)
    (case xL14 => k_is)
    (case hm14 => rfl)
    (case a14 => k_is)
    (case l14 => k_is)
    (case c14 => k_is)
    (case k14 => k_is)
    (case cb14 => kernel_rfl)
    (case ib14 => kernel_rfl)
    (case aC15 => k_is)
    (case xL15 => k_is)
    (case hm15 => rfl)
    (case a15 => k_is)
    (case l15 => k_is)
    (case c15 => k_is)
    (case k15 => k_is)
    (case cb15 => kernel_rfl)
    (case ib15 => kernel_rfl)
    (case aC16 => k_is)
    (case xL16 => k_is)
    (case hm16 => rfl)
    (case a16 => k_is)
    (case l16 => k_is)
    (case c16 => k_is)
    (case k16 => k_is)
    (case cb16 => kernel_rfl)
    (case ib16 => kernel_rfl)
    (case aC17 => k_is)
    (case xL17 => k_is)
    (case hm17 => rfl)
    (case a17 => k_is)
    (case l17 => k_is)
    (case c17 => k_is)
    (case k17 => k_is)
    (case cb17 => kernel_rfl)
    (case ib17 => kernel_rfl)
    (case aC18 => k_is)
    (case xL18 => k_is)
    (case hm18 => rfl)
    (case a18 => k_is)
    (case l18 => k_is)
    (case c18 => k_is)
    (case k18 => k_is)
    (case cb18 => kernel_rfl)
    (case ib18 => kernel_rfl)
    (case aC19 => k_is)
    (case xL19 => k_is)
    (case hm19 => rfl)
    (case a19 => k_is)
    (case l19 => k_is)
    (case c19 => k_is)
    (case k19 => k_is)
    (case cb19 => kernel_rfl)
    (case ib19 => kernel_rfl)
    (case aC20 => k_is)
    (case cb20 => kernel_rfl)
    (case q20 => k_exc)
    (case aC21 => k_is)
    (case cb21 => kernel_rfl)
    (case q21 => k_exc)
    (case aB => k_is)
    (case cbB => kernel_rfl)
    (case qB => k_exc)
    (case kit => kernel_rfl)
    (case sp => k_is)
    (case tks => k_is)
    (case A0 => k_is)
    (case L0 => k_is)
    (case D0 => k_is)
    (case E0 => k_is)
    (case A1 => k_is)
    (case L1 => k_is)
    (case D1 => k_is)
    (case E1 => k_is)
    (case A2 => k_is)
    (case L2 => k_is)
    (case D2 => k_is)
    (case E2 => k_is)
    (case A3 => k_is)
    (case L3 => k_is)
    (case D3 => k_is)
    (case E3 => k_is)
    (case A4 => k_is)
    (case L4 => k_is)
    (case D4 => k_is)
    (case E4 => k_is)
    (case A5 => k_is)
    (case L5 => k_is)
    (case D5 => k_is)
    (case E5 => k_is)
    (case A6 => k_is)
    (case L6 => k_is)
    (case D6 => k_is)
    (case E6 => k_is)
    (case A7 => k_is)
    (case L7 => k_is)
    (case D7 => k_is)
    (case E7 => k_is)
    (case A8 => k_is)
    (case L8 => k_is)
    (case D8 => k_is)
    (case E8 => k_is)
    (case z_int => k_is)
    (case z_len => k_is)
    (case z_abs => k_is)
    (case z_list => k_is)
    (case z_isinstance => k_is)
    (case z_range => k_is)
    (case z_repr => k_is)
    (case z_ValueError => k_is)
    (case z_LookupError => k_is)
    (case z_TypeError => k_is)
    (case z_ArithmeticError => k_is)
    (case z_AttributeError => k_is)
    (case z_RuntimeError => k_is)

