import PyProof.Rows.All
import Wide.All
import OpenK.AllK
import Wide.FinOn
import HandS.ForMost
import KE.KCallOwn
import KE.KOpsOwn
import KE.KOwnIter
import HandS.Records
import OpenK.KOps
import KE.KFmtOwn
import PyProof.ListNew
import PyProof.Conv_bool
import HandS.IterVal
import PyProof.WalksMore
import HandS.Base
import HandS.Call
import HandS.Dict
import HandS.More
import PyProof.DictUpdate
import HandS.Star
import KE.KParD
import HandS.Words
import KE.KStar
import HandS.Defaults
import HandS.MakeKw
import HandS.List
import HandS.Exc
import HandS.ExcOwn
import HandS.ExcInit
import HandS.ExcIs
import HandS.ExcField
import HandS.ExcValue
import HandS.IsInst
import HandS.RaiseMore
import PyProof.ReprRoads
import PyProof.CallFns
import HandS.Ends
import HandS.WordsList
import HandS.StrMore
import HandS.Text
import HandS.Flow
import PySem.Challenge.RW_filledrow_k10_sides_made
import HandS.Style
import HandS.Codes
import PyProof.Rows.RegStrFacts
import PyProof.Rows.StrJoinMade
import HandS.Walk
import HandS.Iter
import HandS.Comp
import HandS.DictComp
import PyProof.Rows.StrMeet
import HandS.Conv
import HandS.ClsMeth
import HandS.Sort
import HandS.FStr
set_option Elab.async false
set_option linter.all false
set_option maxRecDepth 100000
set_option maxHeartbeats 4000000
/-! Signs of own instances: a def of the class that keeps a promise, asked by a sign. -/
namespace Own
open PySem PySem.Spec PyProof.Rows L2
/-- the method m of the class at C: its def at f keeps sp -/
structure Mt (P : Program) (w : World) (K : PySem.W.Frag) (mg : Str → Option Value) (base : Heap) (C : Addr) (m : Str) (k : Nat) (ps : List Str) (sp : Sp) (f : Addr) (fd : FuncData) : Prop where
  at_ : PySem.W.findIn K (.ref C) m = some (some (.ref f))
  fn : PySem.W.isFn K (.ref f) = true
  ok : FnOk P w K mg base CX0 k f fd ps sp
  b : Binds K fd ps []
section
variable {X : Cx} {pins : List (Addr × Obj)} {σ : L2.St} {H : Hp} {s : Shared} {C f : Addr} {fd : FuncData} {k : Nat} {ps : List Str} {sp : Sp} {m : Str}
/-- the call of a def within the builtins that the frame runs -/
theorem run_at {A' : Around} {vs : List V} {us : List Value} {Q : VK} (F : FnOk X.prog X.w X.K X.mg X.base CX0 k f fd ps sp) (b : Binds X.K fd ps []) (frames : A'.frames = X.A.frames) (hr : Room k A') (I : Inv X pins σ H s) (r : Vals vs us) (h : sp vs H Q E0) :
    wpAny (model X.prog X.w) A' (call (.ref f) us) (EP X pins σ Q) X.xe s := by
  have e := I.env0
  have n : (us ++ []).length = ps.length := by rw [List.append_nil, ← r.length]; exact F.len _ _ _ _ h
  refine wpAny_call (codeAny_mono (F.run A' X.stack s H ⟨us, []⟩ (us ++ []) vs Q E0 hr ⟨frames.trans e.frames, e.mod, e.bs, e.bsz, e.funs, e.frf, e.hok, e.bare⟩ (b s us I.kIn n) (by rw [List.append_nil]; exact r) h) fun r s' q => ?_)
  cases r with
  | error e => exact (show False from q).elim
  | ok fl =>
    cases fl with
    | ret u => exact I.after q
    | next => exact (show False from q).elim
    | brk => exact (show False from q).elim
    | cont => exact (show False from q).elim
theorem ins_at {a dx : Addr} {fs : List (Str × V)} (I : Inv X pins σ H s) (e : H a = some (.ins C dx fs)) : ∃ ox od, PySem.W.InstAt s.heap a ox C od := by
  obtain ⟨mA, O, _⟩ := ins_get I.hok e
  obtain ⟨od, J, _⟩ := O.look
  exact ⟨_, _, J⟩
theorem not_ni {v : V} {u : Value} (r : RelV v u) : u ≠ .notImplemented := by
  rintro rfl
  cases v with
  | non => cases (show Value.notImplemented = Value.none from r)
  | bl b => cases (show Value.notImplemented = Value.bool b from r)
  | int i => obtain ⟨t, e⟩ := (show ∃ t, Value.notImplemented = Value.int i t from r); cases e
  | str i => obtain ⟨t, e⟩ := (show ∃ t, Value.notImplemented = Value.str i t from r); cases e
  | byt i => obtain ⟨t, e⟩ := (show ∃ t, Value.notImplemented = Value.bytes i t from r); cases e
  | flt i => obtain ⟨t, e⟩ := (show ∃ t, Value.notImplemented = Value.float i t from r); cases e
  | ref i => cases (show Value.notImplemented = Value.ref i from r)
  | ty i => cases (show Value.notImplemented = Value.type i from r)
theorem cmp_back {Q : VK} {u : Value} {s' : Shared} (h : EP X pins σ Q u s') : PySem.W.CmpBack (EP X pins σ Q) u s' := by
  obtain ⟨v, H', I', r, q⟩ := h
  have n := not_ni r
  cases u <;> first | exact absurd rfl n | exact ⟨v, H', I', r, q⟩
/-- an instance of the class at C -/
def Ins (H : Hp) (x : V) (C : Addr) : Prop := ∃ a dx fs, x = .ref a ∧ H a = some (.ins C dx fs)
/-- x op y, both of the class -/
def rOwn (C : Addr) (sp : Sp) : R2 := fun x y H Q => Ins H x C ∧ Ins H y C ∧ sp [x, y] H Q E0
theorem op_own {op : Operator} (M : Mt X.prog X.w X.K X.mg X.base C (PySem.dunder op.info.2) k ps sp f fd) (first : PySem.W.selfFirst X.K C = true) (hr : Room k X.A) : OpR X (binaryOp op) (rOwn C sp) := by
  intro pins s σ H x y v u Q I rx ry h
  obtain ⟨⟨a, dx, fs, rfl, ha⟩, ⟨b, dy, gs, rfl, hb⟩, h⟩ := h
  cases rx
  cases ry
  obtain ⟨ox, od, J⟩ := ins_at I ha
  obtain ⟨oy, oe, L⟩ := ins_at I hb
  obtain ⟨m, fr⟩ := I.fr
  exact PySem.W.binop_K fr I.ok.mod.kin J L.type first M.at_ M.fn (wpAny_mono (run_at M.ok M.b rfl hr I (.cons (show RelV (V.ref a) (Value.ref a) from rfl) (.cons (show RelV (V.ref b) (Value.ref b) from rfl) .nil)) h) (fun _ _ z => cmp_back z) fun _ _ z => z)
/-- x op y, a comparison that is no identity: y's type is told by t -/
def rCmpOwn (K : PySem.W.Frag) (C : Addr) (sp : Sp) : R2 := fun x y H Q => Ins H x C ∧ Ins H y C ∧ sp [x, y] H Q E0
theorem cmp_own {op : CmpOp} (M : Mt X.prog X.w X.K X.mg X.base C (cmpInfo op).2.1 k ps sp f fd) (hr : Room k X.A) (hop : ∀ a b : Value, compareOp op a b = richCompare op a b := by intro _ _; rfl) : OpR X (compareOp op) (rCmpOwn X.K C sp) := by
  intro pins s σ H x y v u Q I rx ry h
  obtain ⟨⟨a, dx, fs, rfl, ha⟩, ⟨b, dy, gs, rfl, hb⟩, h⟩ := h
  cases rx
  cases ry
  obtain ⟨ox, od, J⟩ := ins_at I ha
  obtain ⟨oy, oe, L⟩ := ins_at I hb
  obtain ⟨m, fr⟩ := I.fr
  rw [hop]
  exact PySem.W.cmp_K (tb := .ref C) (by have := hr.un; omega) fr I.ok.mod.kin J L.type (by unfold PySem.W.notFirst; simp) M.at_ M.fn (wpAny_mono (run_at M.ok M.b rfl hr I (.cons (show RelV (V.ref a) (Value.ref a) from rfl) (.cons (show RelV (V.ref b) (Value.ref b) from rfl) .nil)) h) (fun _ _ z => cmp_back z) fun _ _ z => z)
/-- y in x, by the class's own def, which answers True or False -/
def rInOwn (neg : Bool) (C : Addr) (sp : Sp) : R2 := fun y x H Q => Ins H x C ∧ sp [x, y] H (fun v H' => ∃ b, v = .bl b ∧ Q (.bl (if neg then !b else b)) H') E0
theorem in_own (M : Mt X.prog X.w X.K X.mg X.base C "__contains__" k ps sp f fd) (hr : Room k X.A) : OpR X (compareOp .In) (rInOwn false C sp) := by
  intro pins s σ H y x v u Q I ry rx h
  obtain ⟨⟨a, dx, fs, rfl, ha⟩, h⟩ := h
  cases rx
  obtain ⟨ox, od, J⟩ := ins_at I ha
  obtain ⟨m, fr⟩ := I.fr
  refine PySem.W.in_K fr I.ok.mod.kin J M.at_ M.fn (wpAny_mono (run_at M.ok M.b rfl hr I (.cons (show RelV (V.ref a) (Value.ref a) from rfl) (.cons ry .nil)) h) (fun r s' z => ?_) fun _ _ z => z)
  obtain ⟨v', H', I', rv, b, rfl, q⟩ := z
  obtain rfl : r = Value.bool b := rv
  exact wpAny_truthy_bool ⟨.bl b, _, I', rfl, q⟩
theorem notIn_own (M : Mt X.prog X.w X.K X.mg X.base C "__contains__" k ps sp f fd) (hr : Room k X.A) : OpR X (compareOp .NotIn) (rInOwn true C sp) := by
  intro pins s σ H y x v u Q I ry rx h
  obtain ⟨⟨a, dx, fs, rfl, ha⟩, h⟩ := h
  cases rx
  obtain ⟨ox, od, J⟩ := ins_at I ha
  obtain ⟨m, fr⟩ := I.fr
  refine PySem.W.notIn_K fr I.ok.mod.kin J M.at_ M.fn (wpAny_mono (run_at M.ok M.b rfl hr I (.cons (show RelV (V.ref a) (Value.ref a) from rfl) (.cons ry .nil)) h) (fun r s' z => ?_) fun _ _ z => z)
  obtain ⟨v', H', I', rv, b, rfl, q⟩ := z
  obtain rfl : r = Value.bool b := rv
  exact wpAny_truthy_bool ⟨.bl (!b), _, I', rfl, q⟩
/-- x[y] by the class's own def -/
def rIxOwn (C : Addr) (sp : Sp) : R2 := fun x y H Q => Ins H x C ∧ sp [x, y] H Q E0
theorem ix_own (M : Mt X.prog X.w X.K X.mg X.base C "__getitem__" k ps sp f fd) (fi : PySem.W.fnIn X.K f = true) (hr : Room (k + 1) X.A)
    (hsl : ∀ (slice : Expr) (v u : Value), subscripted slice true v u = runValue (.builtin "lifetime.subscript" ⟨[v, u], []⟩) := by intro _ _ _; with_unfolding_all rfl) : IxR X (rIxOwn C sp) := by
  intro value slice pins s σ H x y v u Q I rx ry h hs
  obtain ⟨⟨a, dx, fs, rfl, ha⟩, h⟩ := h
  cases rx
  obtain ⟨ox, od, J⟩ := ins_at I ha
  obtain ⟨m, fr⟩ := I.fr
  exact PySem.W.sub_K fr I.ok.mod.kin J M.at_ fi M.fn (run_at M.ok M.b rfl hr.in1 I (.cons (show RelV (V.ref a) (Value.ref a) from rfl) (.cons ry .nil)) h) (hsl _ _ _)
/-- len(x) by the class's own def -/
def rLenOwn (C : Addr) (sp : Sp) : List V → Hp → VK → Prop := fun xs H Q => ∃ x, xs = [x] ∧ Ins H x C ∧ sp [x] H (fun v H' => ∃ n : Nat, v = .int n ∧ n < 1000000 ∧ Q (.int n) H') E0
theorem call_lenOwn (M : Mt X.prog X.w X.K X.mg X.base C "__len__" k ps sp f fd) (hr : Room (k + 1) X.A) : CallR X (.builtin "len") (rLenOwn C sp) := by
  intro pins s σ H xs us Q I r h
  obtain ⟨_, rfl, ⟨a, dx, fs, rfl, ha⟩, h⟩ := h
  obtain ⟨u, rfl, ru⟩ := vals1 r
  cases ru
  obtain ⟨ox, od, J⟩ := ins_at I ha
  obtain ⟨m, fr⟩ := I.fr
  refine PySem.W.len_K fr I.ok.mod.kin J M.at_ M.fn (wpAny_mono (run_at M.ok M.b rfl hr.in1 I (.cons (show RelV (V.ref a) (Value.ref a) from rfl) .nil) h) (fun r s' z => ?_) fun _ _ z => z)
  obtain ⟨v', H', I', rv, n, rfl, hn, q⟩ := z
  obtain ⟨t, rfl⟩ := rv
  exact ⟨⟨by omega, by omega⟩, .int n, H', I'.tok _, ⟨_, rfl⟩, q⟩
/-- str(x) by the class's own def -/
def rStrOwn (C : Addr) (sp : Sp) : List V → Hp → VK → Prop := fun xs H Q => ∃ x, xs = [x] ∧ Ins H x C ∧ sp [x] H (fun v H' => ∃ z : Str, v = .str z ∧ Q (.str z) H') E0
theorem call_strOwn (M : Mt X.prog X.w X.K X.mg X.base C "__str__" k ps sp f fd) (hr : Room (k + 2) X.A) : CallR X (.type "str") (rStrOwn C sp) := by
  intro pins s σ H xs us Q I r h
  obtain ⟨_, rfl, ⟨a, dx, fs, rfl, ha⟩, h⟩ := h
  obtain ⟨u, rfl, ru⟩ := vals1 r
  cases ru
  obtain ⟨ox, od, J⟩ := ins_at I ha
  refine PySem.W.kso_call (by have := hr.un; show X.A.units + 1 + 1 < cLine; omega) I.kIn J M.at_ M.fn (wpAny_mono (run_at M.ok M.b rfl hr.in1.in1 I (.cons (show RelV (V.ref a) (Value.ref a) from rfl) .nil) h) (fun r s' z => ?_) fun _ _ z => z)
  obtain ⟨v', H', I', rv, t, rfl, q⟩ := z
  obtain ⟨u, rfl⟩ := rv
  exact ⟨.str t, H', I', ⟨_, rfl⟩, q⟩
/-- ~x by the class's own def -/
theorem un_own (M : Mt X.prog X.w X.K X.mg X.base C "__invert__" k ps sp f fd) (hr : Room k X.A) : UnR X (unaryOp .Invert) (fun x H Q => Ins H x C ∧ sp [x] H Q E0) := by
  intro pins s σ H x v Q I rx h
  obtain ⟨⟨a, dx, fs, rfl, ha⟩, h⟩ := h
  cases rx
  obtain ⟨ox, od, J⟩ := ins_at I ha
  obtain ⟨m, fr⟩ := I.fr
  exact PySem.W.ksp_inv fr I.ok.mod.kin J M.at_ M.fn (run_at M.ok M.b rfl hr I (.cons (show RelV (V.ref a) (Value.ref a) from rfl) .nil) h)
end
end Own

set_option Elab.async false
set_option linter.all false
set_option maxRecDepth 100000
set_option maxHeartbeats 4000000
/-! The truth of an own instance by its __len__. -/
namespace Own
open PySem PySem.Spec PyProof.Rows L2
section
variable {X : Cx} {C f : Addr} {fd : FuncData} {k : Nat} {ps : List Str} {sp : Sp}
def rTruOwn (C : Addr) (sp : Sp) : V → Hp → (Bool → Hp → Prop) → Prop := fun x H Q => Ins H x C ∧ sp [x] H (fun v H' => ∃ n : Nat, v = .int n ∧ n < 1000000 ∧ Q ((n : Int) != 0) H') E0
theorem tru_own (hb : PySem.W.findIn X.K (.ref C) "__bool__" = some none) (M : Mt X.prog X.w X.K X.mg X.base C "__len__" k ps sp f fd) (hr : Room (k + 1) X.A) : TruR X (rTruOwn C sp) := by
  intro pins s σ H x v Q I rx h
  obtain ⟨⟨a, dx, fs, rfl, ha⟩, h⟩ := h
  cases rx
  obtain ⟨ox, od, J⟩ := ins_at I ha
  unfold truthy
  refine wpAny_bind (m := callSpecial? (.ref a) (Str.ofString "__bool__")) (wpAny_bind (wpAny_bind (J.type.here ((PySem.W.looks_findIn I.kIn hb).here (wpAny_pure ?_)))))
  refine wpAny_bind (wpAny_bind (J.type.here ((PySem.W.looks_findIn I.kIn M.at_).here ?_)))
  show wpAny _ _ (runValue (.builtin "len" ⟨[.ref a], []⟩) >>= _) _ _ _
  refine wpAny_bind (wpAny_runValue (codeAny_builtin PySem.entry_len ?_))
  rw [Around.under_plainId PySem.plain_len _]
  unfold Builtin.«len»
  refine wpAny_bind (m := oneArg "len" _) (wpAny_pure ?_)
  refine wpAny_bind (m := callSpecial? (.ref a) (Str.ofString "__len__")) (PySem.W.special_fn I.kIn J M.at_ (beq_iff_eq.mp M.fn) (wpAny_mono (run_at M.ok M.b rfl hr.in1 I (.cons (show RelV (V.ref a) (Value.ref a) from rfl) .nil) h) (fun r s' z => ?_) fun _ _ z => z))
  obtain ⟨v', H', I', rv, n, rfl, hn, q⟩ := z
  obtain ⟨t, rfl⟩ := rv
  refine wpAny_bind (wpAny_holding (wpAny_pure ?_))
  refine wpAny_bind (wpAny_letGo ?_)
  show wpAny _ _ (if (n : Int) < 0 then _ else _) _ _ _
  rw [if_neg (by omega)]
  show wpAny _ _ (if (n : Int) ≥ 2 ^ 63 then _ else _) _ _ _
  rw [if_neg (by omega)]
  refine wpAny_bind (wpAny_mkInt (wpAny_pure ?_))
  exact wpAny_pure ⟨H', I'.tok _, q⟩
end
end Own

set_option Elab.async false
set_option linter.all false
set_option maxRecDepth 100000
set_option maxHeartbeats 4000000
/-! x != y of own instances, where the class has __eq__ and no __ne__. -/
namespace Own
open PySem PySem.Spec PySem.Calls PyProof.Rows PySem.W L2
section
variable {X : Cx} {C f : Addr} {fd : FuncData} {k : Nat} {ps : List Str} {sp : Sp}
theorem ifBound_b {M : Model} {A : Around} {E : Value → Shared → Prop} {s : Shared} {K : Frag} {x C : Addr} {ox : Obj} {od : Option Obj} {name : Str} {id : String} {args : List Value} {Q : Option Value → Shared → Prop} (kin : K.In s.heap) (J : InstAt s.heap x ox C od)
    (hs : findIn K (.ref C) name = some (some (.builtin id))) (hb : ∀ self, bindSpecial (.builtin id) self = pure (.builtin id, [self])) (h : wpAny M A (call (.builtin id) (.ref x :: args)) (fun v => Q (some v)) E s) : wpAny M A (callSpecialIfBound? (.ref x) name args) Q E s := by
  simp only [callSpecialIfBound?, bindSpecialIfBound?]
  refine wpAny_holding (wpAny_bind (wpAny_bind (wpAny_bind (J.type.here ((looks_findIn kin hs).here ?_)))))
  refine wpAny_bind (wpAny_askSetting (wpAny_ite ?_))
  have fin : wpAny M A (call (.builtin id) ([.ref x] ++ args) >>= fun v => pure (some v)) Q E s := wpAny_bind (wpAny_mono h (fun v s' y => wpAny_pure y) fun _ _ y => y)
  split
  · exact wpAny_bind ((Looks.of_pure (hb _)).here (wpAny_pure (by exact fin)))
  · exact wpAny_tryCatch (wpAny_bind ((Looks.of_pure (hb _)).here (wpAny_pure (by exact fin))))
/-- x != y: the class's __eq__, turned about -/
def rNeOwn (C : Addr) (sp : Sp) : R2 := fun x y H Q => Ins H x C ∧ Ins H y C ∧ sp [x, y] H (fun v H' => ∃ b, v = .bl b ∧ Q (.bl (!b)) H') E0
open Builtin in
theorem ne_own (M : Mt X.prog X.w X.K X.mg X.base C "__eq__" k ps sp f fd) (hne : findIn X.K (.ref C) "__ne__" = some (some (.builtin "object.__ne__"))) (hm : mroIn X.K C (.type "object") = some true) (hr : Room (k + 1) X.A) : OpR X (compareOp .NotEq) (rNeOwn C sp) := by
  intro pins s σ H x y v u Q I rx ry h
  obtain ⟨⟨a, dx, fs, rfl, ha⟩, ⟨b, dy, gs, rfl, hb⟩, h⟩ := h
  cases rx
  cases ry
  obtain ⟨ox, od, J⟩ := ins_at I ha
  obtain ⟨oy, oe, L⟩ := ins_at I hb
  have hu : X.A.units < cLine := by have := hr.un; omega
  have hu1 : X.A.in1.units < cLine := by have := hr.in1.un; omega
  show wpAny _ _ (richCompare .NotEq (.ref a) (.ref b)) _ _ _
  have one : wpAny (model X.prog X.w) X.A (tryCompare (.ref a) (cmpInfo .NotEq).2.1 (.ref b)) (fun r s' => ∃ v, r = some v ∧ EP X pins σ Q v s') X.xe s := by
    unfold tryCompare
    refine wpAny_bind (m := callSpecialIfBound? (.ref a) (Str.ofString "__ne__") [.ref b]) (ifBound_b I.kIn J hne PySem.F.slot_object_ne.bind ?_)
    refine wpAny_call (codeAny_call_builtin PySem.F.slot_object_ne.plain PySem.F.entry_object_ne (check_slot (i := "object.__ne__") (owner := "object") (n := "__ne__") (by decide +kernel) (by decide +kernel) (J.type.andThen (looks_mroIn I.kIn hm)) (PySem.F.args_object_ne_2 _ _) ?_))
    unfold Builtin.«object.__ne__»
    refine wpAny_bind (m := slotArgs "__ne__" 1 _) (wpAny_pure ?_)
    refine wpAny_bind (m := cRoomFor _ _) (wpAny_cRoomFor hu1 ?_)
    refine wpAny_bind (m := callSpecialIfBound? (.ref a) (Str.ofString "__eq__") [.ref b]) (ifBound_K I.kIn J M.at_ M.fn (wpAny_mono (run_at M.ok M.b rfl hr.in1 I (.cons (show RelV (V.ref a) (Value.ref a) from rfl) (.cons (show RelV (V.ref b) (Value.ref b) from rfl) .nil)) h) (fun r s' z => ?_) fun _ _ z => z))
    obtain ⟨v', H', I', rv, c, rfl, q⟩ := z
    obtain rfl : r = Value.bool c := rv
    refine wpAny_bind (wpAny_truthy_bool (wpAny_pure ?_))
    exact wpAny_pure ⟨_, rfl, .bl (!c), H', I', rfl, q⟩
  unfold richCompare
  simp only [oneThing_ref]
  refine wpAny_holding (wpAny_bind (wpAny_cRoomFor hu ?_))
  refine wpAny_bind (J.type.here (wpAny_bind (L.type.here ?_)))
  have same : ((Value.ref C) != (Value.ref C)) = false := by simp
  rw [same]
  refine wpAny_bind (wpAny_pure ?_)
  simp only [Bool.false_eq_true, if_false]
  refine wpAny_bind (wpAny_mono one (fun r s' z => ?_) fun _ _ e => e)
  obtain ⟨v, rfl, hq⟩ := z
  exact wpAny_pure hq
end
end Own

set_option Elab.async false
set_option linter.all false
set_option maxRecDepth 100000
set_option maxHeartbeats 4000000
/-! bool(x) of an own instance. -/
namespace Own
open PySem PySem.Spec PyProof.Rows L2
section
variable {X : Cx} {pins : List (Addr × Obj)} {σ : L2.St} {H : Hp} {s : Shared} {C f : Addr} {fd : FuncData} {k : Nat} {ps : List Str} {sp : Sp}
/-- the truth within the builtins that the frame runs -/
theorem tru_at {A' : Around} {a : Addr} {Q : Bool → Hp → Prop} (hb : PySem.W.findIn X.K (.ref C) "__bool__" = some none) (M : Mt X.prog X.w X.K X.mg X.base C "__len__" k ps sp f fd) (frames : A'.frames = X.A.frames) (hr : Room (k + 1) A') (I : Inv X pins σ H s)
    (h : rTruOwn C sp (.ref a) H Q) : wpAny (model X.prog X.w) A' (truthy (.ref a)) (TP X pins σ Q) X.xe s := by
  obtain ⟨⟨_, dx, fs, e, ha⟩, h⟩ := h
  cases e
  obtain ⟨ox, od, J⟩ := ins_at I ha
  unfold truthy
  refine wpAny_bind (m := callSpecial? (.ref a) (Str.ofString "__bool__")) (wpAny_bind (wpAny_bind (J.type.here ((PySem.W.looks_findIn I.kIn hb).here (wpAny_pure ?_)))))
  refine wpAny_bind (wpAny_bind (J.type.here ((PySem.W.looks_findIn I.kIn M.at_).here ?_)))
  show wpAny _ _ (runValue (.builtin "len" ⟨[.ref a], []⟩) >>= _) _ _ _
  refine wpAny_bind (wpAny_runValue (codeAny_builtin PySem.entry_len ?_))
  rw [Around.under_plainId PySem.plain_len _]
  unfold Builtin.«len»
  refine wpAny_bind (m := oneArg "len" _) (wpAny_pure ?_)
  refine wpAny_bind (m := callSpecial? (.ref a) (Str.ofString "__len__")) (PySem.W.special_fn I.kIn J M.at_ (beq_iff_eq.mp M.fn) (wpAny_mono (run_at M.ok M.b frames hr.in1 I (.cons (show RelV (V.ref a) (Value.ref a) from rfl) .nil) h) (fun r s' z => ?_) fun _ _ z => z))
  obtain ⟨v', H', I', rv, n, rfl, hn, q⟩ := z
  obtain ⟨t, rfl⟩ := rv
  refine wpAny_bind (wpAny_holding (wpAny_pure ?_))
  refine wpAny_bind (wpAny_letGo ?_)
  show wpAny _ _ (if (n : Int) < 0 then _ else _) _ _ _
  rw [if_neg (by omega)]
  show wpAny _ _ (if (n : Int) ≥ 2 ^ 63 then _ else _) _ _ _
  rw [if_neg (by omega)]
  refine wpAny_bind (wpAny_mkInt (wpAny_pure ?_))
  exact wpAny_pure ⟨H', I'.tok _, q⟩
theorem call_boolOwn (hb : PySem.W.findIn X.K (.ref C) "__bool__" = some none) (M : Mt X.prog X.w X.K X.mg X.base C "__len__" k ps sp f fd) (hr : Room (k + 3) X.A) : CallR X (.type "bool") (fun xs H Q => ∃ a, xs = [.ref a] ∧ rTruOwn C sp (.ref a) H fun b H' => Q (.bl b) H') := by
  intro pins s σ H xs us Q I r h
  obtain ⟨a, rfl, h⟩ := h
  obtain rfl := Vals.ref1 r
  refine callType_codes (Q₁ := fun obj s1 => ∃ b, obj = Value.bool b ∧ TP X pins σ (fun b H' => Q (.bl b) H') b s1) F.called_bool (F.typeCall_bool_1 _) F.entry_object_init ?_ fun obj s1 z => ?_
  · refine codeAny_call_builtin F.called_bool.plain F.entry_bool_new (wpAny_of_eq (F.newCall_bool_1 _) ?_)
    unfold Builtin.«bool.__new__»
    have f1 := F.conv_sub_bool
    show wpAny _ _ (isType (Value.type "bool") >>= _) _ _ _
    refine wpAny_bind (wpAny_of_eq (show isType (Value.type "bool") = pure true from by kernel_rfl) ?_)
    dsimp only
    rw [if_neg (by decide)]
    refine wpAny_bind (wpAny_of_eq f1 ?_)
    rw [if_neg (by decide)]
    refine wpAny_bind (wpAny_of_eq (show someArgs "bool" 0 1 { pos := [Value.ref a] } = pure [Value.ref a] from by rfl) ?_)
    dsimp only
    refine wpAny_bind (wpAny_mono (tru_at (A' := X.A.in1.in1) hb M rfl hr.in1.in1 I h) (fun b s1 z => ?_) fun _ _ z => z)
    exact wpAny_pure ⟨b, rfl, z⟩
  · obtain ⟨b, rfl, H', I', q⟩ := z
    refine ⟨rfl, F.args_object_init_2 _ _, ?_⟩
    exact (object_init_meets F.called_bool.init.lookup F.called_bool.made F.newNe_bool) _ _ _ _ s1 ⟨rfl, rfl, .bl b, H', I', rfl, q⟩
end
end Own

set_option Elab.async false
set_option linter.all false
set_option maxRecDepth 100000
set_option maxHeartbeats 4000000
/-! An own instance is walked: its __iter__ hands back the iterator of a tuple. -/
namespace Own
open PySem PySem.Spec PyProof.Rows L2 ItX
/-- at it an iterator over the tuple at t, at its start -/
def ItT (t it : Addr) : HO := .ext fun h => h.IsTupleIter it t 0
theorem itT_ok {P : Program} {w : World} {H : Hp} {h : Heap} {t it : Addr} (e : h.IsTupleIter it t 0) : ObjOk P w H h it (ItT t it) := by
  obtain ⟨o, ho, r⟩ := e
  exact ⟨⟨o, ho, r⟩, ⟨o, ho⟩, fun h1 h2 z k => by
    obtain ⟨o1, e1, r1⟩ := z
    exact ⟨o1, k _ e1, r1⟩⟩
section
variable {X : Cx} {pins : List (Addr × Obj)} {σ : L2.St} {H : Hp} {s : Shared}
theorem itT_get {t it : Addr} (I : Inv X pins σ H s) (e : H it = some (ItT t it)) : s.heap.IsTupleIter it t 0 := by
  have x : ObjOk X.prog X.w H s.heap it (.ext fun h => h.IsTupleIter it t 0) := I.hok it _ e
  exact x.1
/-- iter(t), t a tuple; n: what the heap held when the def began -/
def rIterT (K : PySem.W.Frag) (n : Nat) : List V → Hp → VK → Prop := fun xs H Q => ∃ (t : Addr) (zs : List V), xs = [.ref t] ∧ SqT K H t zs ∧ ∀ it, H it = none → n ≤ it → Q (.ref it) (upd H it (ItT t it))
theorem call_iterT : CallR X (.builtin "iter") (rIterT X.K X.s_0.heap.objs.size) := by
  intro pins s σ H xs us Q I r h
  obtain ⟨t, zs, rfl, hq, q⟩ := h
  obtain ⟨u, rfl, ru⟩ := vals1 r
  cases ru
  obtain ⟨its, rv, p, hz⟩ := I.tuple hq
  refine Calls.call_function_entry (by decide +kernel) (by decide +kernel) PySem.W.kdk_entry_iter (PySem.W.kdk_args_iter _) ?_
  unfold Builtin.«iter»
  refine wpAny_bind (m := someArgs "iter" 1 2 _) (wpAny_of_eq (a := [Value.ref t]) (by first | rfl | kernel_rfl!) ?_)
  show wpAny _ _ (pyIter (.ref t) >>= _) _ _ _
  refine wpAny_bind (wpAny_pyIter_tuple (show s.heap.IsTuple t its.toArray from p) (wpAny_pure ⟨_, rfl, ?_⟩))
  have new : (s.heap.push { cls := .type "tuple_iterator", data := .fields #[.ref t, .int 0 0] }).IsTupleIter s.heap.objs.size t 0 := ⟨_, Heap.get?_push_size _ rfl, rfl, rfl⟩
  exact ⟨.ref s.heap.objs.size, _, I.laid (t' := s.toks) (fun b u e => Heap.get?_push_of_some _ e) (Nat.le_refl _) (itT_ok new), rfl, q _ (I.hok.fresh (Nat.le_refl _)) I.sz⟩
end
section
variable {P : Program} {w : World} {K : PySem.W.Frag} {mg : Str → Option Value} {base : Heap} {k : Nat} {f : Addr} {fd : FuncData} {ps : List Str}
/-- a def whose promise may speak of the size of the heap at its call -/
structure FnZ (P : Program) (w : World) (K : PySem.W.Frag) (mg : Str → Option Value) (base : Heap) (k : Nat) (f : Addr) (ps : List Str) (fd : FuncData) (sp : Nat → Sp) : Prop where
  run : ∀ (A : Around) (outer : List Env) (s : Shared) (H : Hp) (args : Args) (us : List Value) (vs : List V) (Q : VK), Room k A → Env0 P w K mg base A outer s H →
    BindsTo s fd args (ps.zip us) → Vals vs us → vs.length = ps.length → sp s.heap.objs.size vs H Q E0 → codeAny (model P w) A (.call (.ref f) args) (CR CX0 outer P w H s Q E0) s
theorem Fun.okZ {sp : Nat → Sp} {x qual : Str} {st : Stmt} {N : List Str} (F : Fun K x qual st f fd) (S : FnScope N ps (defScope st))
    (walk : ∀ (cdv : Value) (A : Around) (outer : List Env) (s : Shared) (H : Hp) (vs : List V) (Q : VK), Room k (A.deeper (envOfC qual (defScope st) s.heap.objs.size f cdv)) → sp s.heap.objs.size vs H Q E0 →
      ∃ t, PSs (cxOf CX0 P w K mg base N qual (defScope st) f cdv A outer s H E0).nox (defBody st) t ∧ t { nx := fun _ H' => Q .non H', rt := Q } (start N vs) H) : FnZ P w K mg base (k + 1) f ps fd sp := by
  obtain ⟨oc, od, kV, doc, pm, an, cdv, ct, osl, rfl, lk, hcd⟩ := F.ex
  refine ⟨fun A outer s H args us vs Q room e0 bd r n1 h => ?_⟩
  have inH : ∀ b o, base.get? b = some o → s.heap.get? b = some o := fun b o e => (e0.bs b o e).1
  have kin : K.In s.heap := e0.mod.kin.keeps inH
  have par : ∀ y ∈ ps.zip us, (defScope st).names.lookup y.1 = some .local ∨ ((defScope st).names.lookup y.1 = some .cell ∧ ((cellsFrom (s.heap.objs.size + 1) (defScope st).names []).lookup y.1).isSome = true) := by
    rintro ⟨y, z⟩ hy
    exact (S.par y (List.of_mem_zip hy).1).imp id fun q => ⟨q, PySem.W.cellsFrom_some _ _ _ (.inl q)⟩
  refine codeAny_call_function room.depth (kin _ _ lk) rfl S.co S.gen rfl (PySem.W.codeRec_of kin hcd) (bd _ _ _ _ (wpAny_newFunctionEnv_cells S.kind par fun env he s1 z => ?_))
  subst he
  refine ⟨(e0.mod.nolimit.keeps inH).keeps z.toInCall.keep, codeAny_func ?_⟩
  obtain ⟨t, ok, ends⟩ := walk cdv A outer s H vs Q (room.deeper _) h
  have J := inv_start (CX := CX0) (E := E0) S room.hd e0 n1 r z
  refine wpAny_mono (ok.nox.run [] s1 _ H _ J ends) (fun fl s' q => ?_) fun e s' q => q
  rcases fl with u | _ | _ | _
  all_goals first
    | (obtain ⟨v, σ', H', J', rv, q⟩ := q; exact ⟨v, H', J'.os, J'.bare, J'.base, J'.hok, rv, q⟩)
    | (obtain ⟨σ', H', J', q⟩ := q; exact ⟨V.non, H', J'.os, J'.bare, J'.base, J'.hok, rfl, q⟩)
    | (obtain ⟨_, _, _, q⟩ := q; exact q.elim)
end
section
variable {X : Cx} {C f : Addr} {fd : FuncData} {k : Nat} {ps : List Str} {sp : Nat → Sp} {tg e : Expr} {te : TE}
/-- for .. in e, e an own instance -/
def iOwn (K : PySem.W.Frag) (C : Addr) (sp : Nat → Sp) (te : TE) : TI := fun σ H R => te σ H fun x H1 => Ins H1 x C ∧ ∀ n, sp n [x] H1 (fun v H2 => ∃ it t, v = .ref it ∧ H2 it = some (ItT t it) ∧ n ≤ it ∧ R (Itt K t) (dropH H2 it)) E0
theorem pi_own (at_ : PySem.W.findIn X.K (.ref C) "__iter__" = some (some (.ref f))) (fn : PySem.W.isFn X.K (.ref f) = true) (F : FnZ X.prog X.w X.K X.mg X.base k f ["self"] fd sp) (b : Binds X.K fd ["self"] []) (hr : Room k X.A) (he : PE X e te) : PI X tg e (iOwn X.K C sp te) := by
  refine ⟨fun pins s σ H R I h => thn (he.run pins s σ H _ I h) fun v s1 ⟨x, H1, I1, r1, ⟨a, dx, fs, ex, ha⟩, q⟩ => ?_⟩
  subst ex
  cases r1
  obtain ⟨ox, od, J⟩ := ins_at I1 ha
  obtain ⟨m, fr⟩ := I1.fr
  have e0 := I1.env0
  refine PySem.W.owit_iter fr I1.ok.mod.kin J at_ fn (wpAny_call (codeAny_mono (F.run X.A X.stack s1 H1 ⟨[.ref a], []⟩ [.ref a] [.ref a] _ hr e0 (b s1 [.ref a] I1.kIn rfl) (.cons rfl .nil) rfl (q s1.heap.objs.size)) fun r s' z => ?_))
  cases r with
  | error e => exact (show False from z).elim
  | ok fl =>
    cases fl with
    | next => exact (show False from z).elim
    | brk => exact (show False from z).elim
    | cont => exact (show False from z).elim
    | ret u =>
      obtain ⟨v, H2, I2, rv, it, t, rfl, hi, hn, hR⟩ := I1.after z
      cases rv
      have st := itT_get I2 hi
      obtain ⟨o, ho, hc, hd⟩ := id st
      show PySem.W.OwitIt _ _ _ _ _ _
      unfold PySem.W.OwitIt specialOf
      have ty : s'.TypeIs (.ref it) "tuple_iterator" := ⟨o, ho, hc⟩
      refine wpAny_bind (wpAny_typeOf ty ?_)
      rw [PySem.F.slot_tuple_iterator_next.lookup]
      refine wpAny_pure ?_
      have hi' := hi
      unfold ItT at hi'
      refine ⟨it, [it], _, _, dropH H2 it, rfl, inv_drop I2 hi', turn_tuple t it, st, fun b hb => ?_, hR⟩
      obtain rfl : b = it := by simpa using hb
      exact inv_fp I2 hi (Nat.le_trans I1.sz hn)
end
end Own

set_option Elab.async false
set_option linter.all false
set_option maxRecDepth 100000
set_option maxHeartbeats 4000000
/-! What ** of a dict does: its entries go into another dict, one by one. -/
namespace Mrg
open PySem PySem.Spec PyProof.Rows L2
section
variable {prog : Program} {w : World} {κ : Type} [DecidableEq κ] {kd : KeyKind prog w κ} {A : Around} {E : Value → Shared → Prop} {s : Shared}
/-- one entry put into d -/
theorem put_at {d : Addr} {old : List (κ × Value)} {k : κ} {key v : Value} {Q : Unit → Shared → Prop} (is : kd.is k key = true) (m : s.heap.DictOf kd d old) (z : old.length ≤ sizeLine)
    (q : ∀ h1, h1.DictOf kd d (stored old k v) → Heap.SameBut d s.heap h1 → Q () { s with heap := h1 }) : wpAny (model prog w) A (dictPut d (kd.hash k) key v) Q E s := by
  obtain ⟨ob, arr, n, at_, ex, dat, ks, pr, nod⟩ := m
  have sz : arr.size ≤ sizeLine := by
    have a1 := pr.length
    rw [Array.length_toList] at a1
    omega
  have same : (arr.findIdx? fun e => kd.is k e.key) = old.findIdx? fun kv => decide (kv.1 = k) := by
    rw [← pr.findIdx k]
    cases arr
    simp
  unfold dictPut
  refine wpAny_bind (wpAny_dictFind_of is at_ dat ks ?_)
  cases fnd : arr.findIdx? fun e => kd.is k e.key with
  | none =>
    have no : ¬ (old.any fun x => decide (x.1 = k)) = true := by
      intro y
      obtain ⟨x, hx, ex⟩ := List.any_eq_true.mp y
      have n1 := List.findIdx?_eq_none_iff.mp (same.symm.trans fnd) x hx
      rw [n1] at ex
      cases ex
    have gone : k ∉ old.map (·.1) := fun y => by
      obtain ⟨x, hx, e⟩ := List.mem_map.mp y
      exact no (List.any_eq_true.mpr ⟨x, hx, decide_eq_true e⟩)
    have st : stored old k v = old ++ [(k, v)] := by
      unfold stored
      rw [if_neg no]
    refine wpAny_updateDictKeys (hz := sz) at_ dat (q _ ?_ (Heap.SameBut.update ..))
    rw [st]
    refine ⟨_, _, n + 1, Heap.get?_update_self _ at_ (Obj.isFreed_of_dict (Obj.data_mapDictKeys dat _)), ex.mapDictKeys _, Obj.data_mapDictKeys dat _, ks.push is _, ?_, ?_⟩
    · have a2 := pr.append is (kd.hash k) v
      cases arr
      simpa using a2
    · rw [List.map_append, List.nodup_append]
      refine ⟨nod, by simp, fun a ha b hb => ?_⟩
      obtain rfl : b = k := by simpa using hb
      intro e
      exact gone (e ▸ ha)
  | some i =>
    have yes : (old.any fun x => decide (x.1 = k)) = true := by
      obtain ⟨hi, h1, _⟩ := List.findIdx?_eq_some_iff_getElem.mp (same.symm.trans fnd)
      exact List.any_eq_true.mpr ⟨_, List.getElem_mem hi, h1⟩
    have st : stored old k v = old.map fun x => if x.1 = k then (x.1, v) else x := by
      unfold stored
      rw [if_pos yes]
    refine wpAny_updateDict at_ dat (q _ ?_ (Heap.SameBut.update ..))
    rw [st]
    refine ⟨_, _, n, Heap.get?_update_self _ at_ (Obj.isFreed_of_dict (Obj.data_mapDict dat _)), ex.mapDict _, Obj.data_mapDict dat _, ks.modify _ _, ?_, ?_⟩
    · have l : (arr.toList.findIdx? fun e => kd.is k e.key) = some i := by
        rw [← fnd]
        cases arr
        simp
      have a3 := pr.modify nod l v
      cases arr
      simpa using a3
    · rw [keys_map_store]
      exact nod
/-- the walk over the entries -/
theorem merge_tail {d o : Addr} {old more : List (κ × Value)} {u : Bool} {Q : Unit → Shared → Prop} (ne : d ≠ o) (hd : s.heap.DictOf kd d old) (ho : s.heap.DictOf kd o more) (hu : u = true → old = []) (z : old.length + more.length ≤ sizeLine)
    (q : ∀ h1, h1.DictOf kd d (merged old more) → h1.DictOf kd o more → Heap.SameBut d s.heap h1 → Q () { s with heap := h1 }) :
    wpAny (model prog w) A (do
      let l ← dictEntries o
      let epoch ← dictEpoch o
      forIn (List.range l.size) PUnit.unit fun i (_ : PUnit) => (do
        let now ← dictEntries o
        match now[i]? with
        | some e => do
          holding [e.key, e.val]
            (if u = true then do
              let r ← dictFind d e.key e.hash
              if r.isSome = true then do
                  rule "dict.merge.duplicate-key"
                  let x ← newExc (Value.type "KeyError") [e.key]
                  raiseNew x
                  dictPut d e.hash e.key e.val
                else dictPut d e.hash e.key e.val
            else dictPut d e.hash e.key e.val)
          let ep ← dictEpoch o
          if (ep != epoch) = true then do
              (unsupported "dict.changed-during-merge" : Sem PUnit)
              pure (ForInStep.yield PUnit.unit)
            else pure (ForInStep.yield PUnit.unit)
        | _ => do
          (unsupported "dict.changed-during-merge" : Sem PUnit)
          pure (ForInStep.yield PUnit.unit) : Sem (ForInStep PUnit))
      pure ()) Q E s := by
  obtain ⟨ob, arr, n, at_, ex, dat, ks, pr, nod⟩ := id ho
  have len : more.length = arr.size := by
    rw [← pr.length]
    exact Array.length_toList
  refine wpAny_bind (wpAny_dictEntries at_ dat (wpAny_bind (wpAny_dictEpoch at_ dat (wpAny_bind ?_))))
  rw [List.range_eq_range']
  refine wpAny_forIn_list _ (fun left _ s1 => ∃ (h1 : Heap) (i : Nat), s1 = { s with heap := h1 } ∧ left = List.range' i (arr.size - i) ∧ i ≤ arr.size ∧ h1.DictOf kd d (merged old (more.take i)) ∧ h1.get? o = some ob ∧ Heap.SameBut d s.heap h1) _ ?_ ?_ _ _
    ⟨s.heap, 0, rfl, rfl, Nat.zero_le _, hd, at_, Heap.SameBut.refl _ _⟩
  · rintro x left c s1 ⟨h1, i, rfl, el, hi, h1d, h1o, sb⟩
    have lt : i < arr.size := by
      rcases Nat.lt_or_ge i arr.size with y | y
      · exact y
      · rw [Nat.sub_eq_zero_of_le y] at el
        cases el
    have e1 : arr.size - i = (arr.size - (i + 1)) + 1 := by omega
    rw [e1, List.range'_succ] at el
    obtain ⟨rfl, rfl⟩ := List.cons.inj el
    refine wpAny_bind (wpAny_dictEntries h1o dat ?_)
    rw [Array.getElem?_eq_getElem lt]
    have lm : x < more.length := by omega
    have em : more[x]? = some more[x] := List.getElem?_eq_getElem lm
    obtain ⟨k1, v1⟩ := pr.get? (e := arr[x]) (by rw [Array.getElem?_toList, Array.getElem?_eq_getElem lt]) em
    obtain ⟨k', k2, hh⟩ := ks arr[x] (Array.getElem_mem lt)
    obtain rfl := kd.inj _ _ _ k2 k1
    dsimp only
    rw [hh, v1]
    have lz : (merged old (more.take x)).length ≤ sizeLine := by
      have a1 := merged_length_le old (more.take x)
      have a2 : (more.take x).length ≤ more.length := by
        rw [List.length_take]
        omega
      omega
    have fin : wpAny (model prog w) A (dictPut d (kd.hash more[x].1) arr[x].key more[x].2) (fun _ s2 => ∃ h2 : Heap, s2 = { s with heap := h2 } ∧ h2.DictOf kd d (merged old (more.take (x + 1))) ∧ h2.get? o = some ob ∧ Heap.SameBut d s.heap h2) E { s with heap := h1 } :=
      put_at k1 h1d lz fun h2 d2 sb2 => ⟨h2, rfl, by rw [merged_take_succ old more x more[x] em]; exact d2, (sb2.2 o (Ne.symm ne)).trans h1o, sb.trans sb2⟩
    refine wpAny_bind (wpAny_holding (wpAny_mono (Q := fun _ s2 => ∃ h2 : Heap, s2 = { s with heap := h2 } ∧ h2.DictOf kd d (merged old (more.take (x + 1))) ∧ h2.get? o = some ob ∧ Heap.SameBut d s.heap h2) ?_ (fun _ s2 y => ?_) fun _ _ y => y))
    · cases u with
      | false => exact fin
      | true =>
        obtain rfl := hu rfl
        obtain ⟨od, ard, nn, atd, exd, datd, ksd, prd, nodd⟩ := h1d
        rw [if_pos rfl]
        refine wpAny_bind (wpAny_dictFind_of k1 atd datd ksd ?_)
        have no : (ard.findIdx? fun e => kd.is more[x].1 e.key) = none := by
          have y : (ard.findIdx? fun e => kd.is more[x].1 e.key) = (merged [] (more.take x)).findIdx? fun kv => decide (kv.1 = more[x].1) := by
            rw [← prd.findIdx more[x].1]
            cases ard
            simp
          rw [y, List.findIdx?_eq_none_iff]
          intro p hp
          refine decide_eq_false fun e => ?_
          rw [merged_nil_of_nodup _ (by rw [List.map_take]; exact nod.sublist (List.take_sublist _ _))] at hp
          obtain ⟨j, hj, ej⟩ := List.getElem_of_mem hp
          rw [List.getElem_take] at ej
          have jx : j < x := by
            rw [List.length_take] at hj
            omega
          rw [← ej] at e
          exact List.pairwise_iff_getElem.mp nod j x (by rw [List.length_map]; omega) (by rw [List.length_map]; omega) jx (by rw [List.getElem_map, List.getElem_map]; exact e)
        rw [if_neg (show ¬ ((ard.findIdx? fun e => kd.is (more.get ⟨x, lm⟩).fst e.key).isSome = true) from by
          rw [show (ard.findIdx? fun e => kd.is (more.get ⟨x, lm⟩).fst e.key) = none from no]
          exact Bool.false_ne_true)]
        exact fin
    · obtain ⟨h2, rfl, d2, o2, sb2⟩ := y
      refine wpAny_bind (wpAny_dictEpoch o2 dat ?_)
      rw [if_neg (by simp)]
      exact wpAny_pure ⟨h2, x + 1, rfl, rfl, lt, d2, o2, sb2⟩
  · rintro c s1 ⟨h1, i, rfl, el, hi, h1d, h1o, sb⟩
    have ei : i = arr.size := by
      have y := congrArg List.length el
      rw [List.length_range'] at y
      simp at y
      omega
    subst ei
    refine wpAny_pure (q h1 ?_ ⟨ob, arr, n, h1o, ex, dat, ks, pr, nod⟩ sb)
    rw [← len, List.take_length] at h1d
    exact h1d
theorem merge_at {d o : Addr} {old more : List (κ × Value)} {u : Bool} {Q : Unit → Shared → Prop} (ne : d ≠ o) (ns : (o == sysModules) = false) (hd : s.heap.DictOf kd d old) (ho : s.heap.DictOf kd o more) (hu : u = true → old = []) (z : old.length + more.length ≤ sizeLine)
    (q : ∀ h1, h1.DictOf kd d (merged old more) → h1.DictOf kd o more → Heap.SameBut d s.heap h1 → Q () { s with heap := h1 }) : wpAny (model prog w) A (mergeMapping d (.ref o) u) Q E s := by
  obtain ⟨ob, arr, n, at_, ex, dat, ks, pr, nod⟩ := id ho
  obtain ⟨od, ard, nn, atd, exd, datd, ksd, prd, nodd⟩ := id hd
  unfold mergeMapping
  refine wpAny_bind (wpAny_isInstance ho.typeIs isSubtype_dict_dict ?_)
  simp only [if_true]
  refine wpAny_bind (wpAny_specialOf ho.typeIs F.slot_dict_iter.lookup (wpAny_bind (wpAny_pure ?_)))
  simp only [beq_self_eq_true]
  rw [if_neg (by rw [ns]; exact Bool.false_ne_true)]
  refine wpAny_bind (wpAny_dictEntries atd datd ?_)
  by_cases emp : ard.isEmpty = true
  · rw [if_pos emp]
    refine wpAny_bind (wpAny_dictEntries at_ dat (wpAny_bind ?_))
    rw [← Array.forIn_toList]
    refine wpAny_forIn_list _ (fun left _ s1 => s1 = s ∧ ∀ e ∈ left, e ∈ arr.toList) _ ?_ ?_ _ _ ⟨rfl, fun _ y => y⟩
    · rintro e left c s1 ⟨rfl, mem⟩
      obtain ⟨k, k1, _⟩ := ks e (Array.mem_toList_iff.mp (mem e (.head _)))
      have bv := kd.byValue k _ k1
      cases ek : e.key with
      | ref a =>
        rw [ek] at bv
        cases bv
      | _ => exact wpAny_pure ⟨rfl, fun x y => mem x (.tail _ y)⟩
    · rintro c s1 ⟨rfl, _⟩
      exact merge_tail ne hd ho hu z q
  · rw [if_neg emp]
    exact merge_tail ne hd ho hu z q
end
end Mrg

set_option Elab.async false
set_option linter.all false
set_option maxRecDepth 100000
set_option maxHeartbeats 4000000
/-! The dict that a parameter **d gets: new, filled by names. -/
namespace Mrg
open PySem PySem.Spec PyProof.Rows PySem.W L2
section
variable {prog : Program} {w : World} {A : Around} {E : Value → Shared → Prop}
def byName (es : List DictEntry) : Prop := ∀ e ∈ es, e.refKey = false
def lacks (es : List DictEntry) (k : Str) : Prop := ∀ e ∈ es, e.key.isStr k = false
theorem set_at {s : Shared} {d : Addr} {es : List DictEntry} {n : Nat} {k : Str} {v : Value} {Q : Unit → Shared → Prop} (at_ : s.heap.get? d = some (dictOf es n)) (l : lacks es k) (b : byName es)
    (q : ∀ h1 : Heap, h1.get? d = some (dictOf (es ++ [⟨PyData.keyHash w.params k, .str k s.toks, v⟩]) (n + 1)) → Heap.SameBut d s.heap h1 → Q () { s with heap := h1, toks := s.toks + 1 }) :
    wpAny (model prog w) A (nsSet d k v) Q E s := by
  have n1 : es.any (fun x => x.key.isStr k) = false := List.any_eq_false.mpr fun x hx => by
    rw [l x hx]
    exact Bool.false_ne_true
  have n2 : es.any (fun x => x.refKey) = false := List.any_eq_false.mpr fun x hx => by
    rw [b x hx]
    exact Bool.false_ne_true
  have no : aRefKeyMayBeTheName k es.toArray = false := by
    rw [aRefKeyMayBeTheName_at, ← Array.any_toList, ← Array.any_toList]
    exact (congrArg (fun z => !es.any (fun x => x.key.isStr k) && z) n2).trans (Bool.and_false _)
  have pn : Obj.putName k (PyData.keyHash w.params k) (.str k s.toks) v (dictOf es n) = dictOf (es ++ [⟨PyData.keyHash w.params k, .str k s.toks, v⟩]) (n + 1) := by
    rw [putName_dict, putL_new l]
    unfold putN
    rw [n1]
    rfl
  unfold nsSet
  refine wpAny_bind (wpAny_bind (wpAny_askSetting (wpAny_pure (wpAny_bind (wpAny_mkText (wpAny_bind (wpAny_loadPart at_ ?_)))))))
  dsimp only
  rw [no]
  refine wpAny_updatePart at_ (q _ ?_ (Heap.SameBut.update ..))
  have fr : (Obj.putName k (PyData.keyHash w.params k) (.str k s.toks) v (dictOf es n)).isFreed = false := by
    rw [pn]
    rfl
  rw [← pn]
  exact Heap.get?_update_self _ at_ fr
theorem fill_at {d : Addr} {Q : PUnit → Shared → Prop} : ∀ (ex : List (Str × Value)) (s : Shared) (es : List DictEntry) (n : Nat), s.heap.get? d = some (dictOf es n) → (∀ x ∈ ex, lacks es x.1) → byName es → (ex.map (·.1)).Nodup →
    (∀ h1 : Heap, h1.get? d = some (dictOf (es ++ kwEs w.params s.toks ex) (n + ex.length)) → Heap.SameBut d s.heap h1 → Q ⟨⟩ { s with heap := h1, toks := s.toks + ex.length }) →
    wpAny (model prog w) A (forIn ex PUnit.unit fun x _ => (nsSet d x.1 x.2 >>= fun _ => pure (ForInStep.yield PUnit.unit))) Q E s := by
  intro ex
  induction ex with
  | nil =>
    intro s es n at_ _ _ _ q
    rw [List.forIn_nil]
    refine wpAny_pure (q s.heap ?_ (Heap.SameBut.refl _ _))
    rw [show es ++ kwEs w.params s.toks [] = es from List.append_nil _]
    exact at_
  | cons x r ih =>
    intro s es n at_ l b nod q
    obtain ⟨nx, nr⟩ := List.nodup_cons.mp nod
    rw [List.forIn_cons]
    refine wpAny_bind (wpAny_bind (set_at at_ (l x (.head _)) b fun h1 a1 sb => wpAny_pure ?_))
    refine ih _ _ _ a1 (fun y hy e he => ?_) (fun e he => ?_) nr fun h2 a2 sb2 => ?_
    · rcases List.mem_append.mp he with he | he
      · exact l y (.tail _ hy) e he
      · cases List.mem_singleton.mp he
        refine beq_eq_false_iff_ne.mpr fun z => nx ?_
        show x.1 ∈ _
        rw [show x.1 = y.1 from z]
        exact List.mem_map_of_mem hy
    · rcases List.mem_append.mp he with he | he
      · exact b e he
      · cases List.mem_singleton.mp he
        rfl
    · have z := q h2 (by
        rw [List.append_assoc] at a2
        rw [show n + (x :: r).length = n + 1 + r.length by rw [List.length_cons]; omega]
        exact a2) (sb.trans sb2)
      rw [show s.toks + (x :: r).length = s.toks + 1 + r.length by rw [List.length_cons]; omega] at z
      exact z
theorem names_mix : ∀ (ex : List (Str × Value)) (t : Tok), Pairs (mixKind prog w) (kwEs w.params t ex) (ex.map fun x => ((Sum.inr x.1 : Key), x.2))
  | [], _ => .nil
  | x :: r, t => .cons (kV_is (k := Sum.inr x.1) ⟨t, rfl⟩) rfl (names_mix r (t + 1))
theorem names_dict {h : Heap} {d : Addr} {ex : List (Str × Value)} {t : Tok} {n : Nat} (at_ : h.get? d = some (dictOf (kwEs w.params t ex) n)) (nod : (ex.map (·.1)).Nodup) : h.DictOf (mixKind prog w) d (ex.map fun x => ((Sum.inr x.1 : Key), x.2)) := by
  refine ⟨_, (kwEs w.params t ex).toArray, n, at_, ⟨rfl, rfl, rfl⟩, rfl, fun e he => ?_, names_mix ex t, ?_⟩
  · obtain ⟨k, u, e1, e2⟩ := kwEs_key ex t e (List.mem_toArray.mp he)
    exact ⟨Sum.inr k, by rw [e1]; exact kV_is (k := Sum.inr k) ⟨u, rfl⟩, e2⟩
  · rw [List.map_map]
    have : ((fun x : Key × Value => x.1) ∘ fun x : Str × Value => ((Sum.inr x.1 : Key), x.2)) = (fun k : Str => (Sum.inr k : Key)) ∘ fun x => x.1 := rfl
    rw [this, ← List.map_map]
    exact List.Pairwise.map _ (fun a b ne e => ne (Sum.inr.inj e)) nod
end
end Mrg

set_option Elab.async false
set_option linter.all false
set_option maxRecDepth 100000
set_option maxHeartbeats 4000000
/-! How a def(self, **d) binds. -/
namespace Mrg
open PySem PySem.Spec PyProof.Rows PySem.W L2
section
variable {prog : Program} {w : World} {A : Around} {E : Value → Shared → Prop}
theorem forIn_yields {α β : Type} {f : α → β → Sem (ForInStep β)} {g : β → α → β} : ∀ (l : List α) (b : β), (∀ y ∈ l, ∀ b, f y b = pure (.yield (g b y))) → forIn l b f = (pure (l.foldl g b) : Sem β)
  | [], b, _ => List.forIn_nil ..
  | x :: r, b, h => by
    rw [List.forIn_cons, h x (.head _), pure_bind]
    exact forIn_yields r (g b x) fun y hy => h y (.tail _ hy)
theorem fold_ends {α : Type} (a : α) : ∀ (kw acc : List (Str × Value)), kw.foldl (fun (s : α × List (Str × Value)) y => (s.1, s.2 ++ [(y.1, y.2)])) (a, acc) = (a, acc ++ kw)
  | [], acc => by rw [List.append_nil]; rfl
  | x :: r, acc => by
    rw [List.foldl_cons, fold_ends a r]
    show (a, acc ++ [(x.1, x.2)] ++ r) = _
    rw [List.append_assoc]
    rfl
theorem bind_kw (qual : Str) (params : Arguments) (body : List Stmt) (scope : Scope) (kV doc pm : Value) (an : Option Addr) (cdv ct : Value) (nm : Str) (p1 pd : Str) (q1 q2 : Pos) (a1 a2 : Option Expr) (kd : List (Option Expr)) (df : List Expr)
   (hp : params = { posonlyargs := [], args := [⟨p1, a1, q1⟩], vararg := none, kwonlyargs := [], kw_defaults := kd, kwarg := some ⟨pd, a2, q2⟩, defaults := df })
   (x : Value) (kw : List (Str × Value)) (hk : ∀ y ∈ kw, y.1 ≠ p1) (hz : kw.length ≤ sizeLine) :
   bindArgs (fnOf nm qual params body scope .none kV doc pm an cdv ct) ⟨[x], kw⟩ = 
     ((alloc ({ cls := .type "dict", data := .dict #[] } : Obj) : Sem Addr) >>= fun d => forIn kw PUnit.unit (fun y _ => (nsSet d y.1 y.2 >>= fun _ => pure (ForInStep.yield PUnit.unit))) >>= fun _ => pure [(p1, x), (pd, Value.ref d)]) := by
  subst hp
  unfold bindArgs
  simp only [fnOf, List.map_cons, List.map_nil, List.nil_append, List.zip_cons_cons, List.zip_nil_right, List.length_cons, List.length_nil]
  rw [forIn_yields (g := fun s y => (s.1, s.2 ++ [(y.1, y.2)])) kw _ (fun y hy b => by
    have e : ([p1].contains y.1 || ([] : List Str).contains y.1) = false := by simpa using hk y hy
    rw [if_neg (by rw [e]; exact Bool.false_ne_true)]
    rfl), fold_ends, List.nil_append, pure_bind]
  simp [List.lookup, seqItems?, hz]
  rw [show notAStandIn Value.none = pure () from rfl, pure_bind, if_neg (by omega)]
end
end Mrg

set_option Elab.async false
set_option linter.all false
set_option maxRecDepth 100000
set_option maxHeartbeats 4000000
/-! A def(self, **d), called by keywords. -/
namespace Mrg
open PySem PySem.Spec PyProof.Rows PySem.W L2
section
variable {P : Program} {w : World} {K : PySem.W.Frag} {mg : Str → Option Value} {base : Heap} {A : Around} {outer : List Env} {s : Shared} {H : Hp}
/-- one object more, at the end of the heap -/
theorem env0_more {h1 : Heap} {t : Tok} {u : HO} (e0 : Env0 P w K mg base A outer s H) (kp : ∀ b x, s.heap.get? b = some x → h1.get? b = some x) (le : s.heap.objs.size ≤ h1.objs.size)
    (new : ObjOk P w (upd H s.heap.objs.size u) h1 s.heap.objs.size u) : Env0 P w K mg base A outer { s with heap := h1, toks := t } (upd H s.heap.objs.size u) where
  frames := e0.frames
  mod := e0.mod
  bs := fun b x e => ⟨kp b x (e0.bs b x e).1, by
    rw [upd_ne (Nat.ne_of_lt (Heap.lt_size (e0.bs b x e).1))]
    exact (e0.bs b x e).2⟩
  bsz := Nat.le_trans e0.bsz le
  funs := Heap.FunFrames.of_keeps (fun b x e _ => ⟨x, kp b x e, rfl⟩) e0.funs
  frf := fun b hb => by
    obtain ⟨_, x, hx, _⟩ := e0.funs.mem hb
    rw [upd_ne (Nat.ne_of_lt (Heap.lt_size hx))]
    exact e0.frf b hb
  hok := e0.hok.laid kp (Nat.le_refl _) new
  bare := e0.bare
/-- the entries by name -/
def nms (kvs : List (Str × V)) : List (Key × V) := kvs.map fun y => (Sum.inr y.1, y.2)
/-- the def at f, called with one value and keywords, keeps sp of the value and a new dict -/
def KwOk (P : Program) (w : World) (K : PySem.W.Frag) (mg : Str → Option Value) (base : Heap) (CX : CXT) (k : Nat) (f : Addr) (p1 : Str) (sp : Sp) : Prop :=
  ∀ (A : Around) (outer : List Env) (s : Shared) (H : Hp) (x : V) (u : Value) (kvs : List (Str × V)) (ws : List Value) (Q : VK) (E : XK), Room k A → Env0 P w K mg base A outer s H → RelV x u → Vals (kvs.map (·.2)) ws → (kvs.map (·.1)).Nodup →
    (∀ y ∈ kvs, y.1 ≠ p1) → kvs.length ≤ sizeLine → (∀ d, H d = none → d ≠ sysModules → sp [x, .ref d] (upd H d (.dK (nms kvs))) Q E) → codeAny (model P w) A (.call (.ref f) ⟨[u], (kvs.map (·.1)).zip ws⟩) (CR CX outer P w H s Q E) s
theorem kv_rel : ∀ {kvs : List (Str × V)} {ws : List Value}, Vals (kvs.map (·.2)) ws → KV (nms kvs) (((kvs.map (·.1)).zip ws).map fun x => ((Sum.inr x.1 : Key), x.2))
  | [], _, .nil => .nil
  | _ :: _, _, .cons r t => .cons ⟨rfl, r⟩ (kv_rel t)
theorem zip_fst : ∀ {kvs : List (Str × V)} {ws : List Value}, Vals (kvs.map (·.2)) ws → (((kvs.map (·.1)).zip ws).map (·.1)) = kvs.map (·.1)
  | [], _, .nil => rfl
  | _ :: _, _, .cons _ t => congrArg (List.cons _) (zip_fst t)
theorem fn_kw {CX : CXT} {k : Nat} {f : Addr} {nm qual : Str} {st : Stmt} {fd : FuncData} {N : List Str} {p1 pd : Str} {sp : Sp} (F : Fun K nm qual st f fd) (S : FnScope N [p1, pd] (defScope st)) (hCX : StX.CXUp CX)
    (hp : ∃ (q1 q2 : Pos) (a1 a2 : Option Expr) (kd : List (Option Expr)) (df : List Expr), defArgs st = { posonlyargs := [], args := [⟨p1, a1, q1⟩], vararg := none, kwonlyargs := [], kw_defaults := kd, kwarg := some ⟨pd, a2, q2⟩, defaults := df })
    (hbody : ∀ (cdv : Value) (A : Around) (outer : List Env) (s : Shared) (H : Hp) (vs : List V) (Q : VK) (E : XK), Room k (A.deeper (envOfC qual (defScope st) s.heap.objs.size f cdv)) → sp vs H Q E →
      ∃ t, PSs (cxOf CX P w K mg base N qual (defScope st) f cdv A outer s H E) (defBody st) t ∧ t { nx := fun _ H' => Q .non H', rt := Q } (start N vs) H) :
    KwOk P w K mg base CX (k + 1) f p1 sp := by
  intro A outer s H x u kvs ws Q E hr e0 rx rk nod hk hz hq
  obtain ⟨oc, od, kV, doc, pm, an, cdv, ct, osl, rfl, lk, hcd⟩ := F.ex
  obtain ⟨q1, q2, a1, a2, kd, df, hp⟩ := hp
  have hn : H s.heap.objs.size = none := e0.hok.fresh (Nat.le_refl _)
  have len : ((kvs.map (·.1)).zip ws).length = kvs.length := by
    have := congrArg List.length (zip_fst rk)
    simpa using this
  refine StX.run_bnd lk hcd S hr e0 (G := fun xs H2 => ∃ d, H d = none ∧ d ≠ sysModules ∧ xs = [x, .ref d] ∧ H2 = upd H d (.dK (nms kvs))) (fun A' Ex Q' h => ?_) fun s2 H2 xs ⟨d, hd, dn, ex, eH⟩ hr' => ?_
  · rw [bind_kw qual _ _ _ kV doc pm an cdv ct nm p1 pd q1 q2 a1 a2 kd df hp u _ (fun y hy => ?_) (by rw [len]; exact hz)]
    · have big := StX.env0_big e0
      refine wpAny_bind (wpAny_alloc (wpAny_bind (fill_at _ _ [] 0 (Heap.get?_push_size _ rfl) (fun _ _ _ e => nomatch e) (fun _ e => nomatch e) (by rw [zip_fst rk]; exact nod) fun h1 at1 sb => wpAny_pure ?_)))
      have kp : ∀ b o, s.heap.get? b = some o → h1.get? b = some o := fun b o e => (sb.2 b (Nat.ne_of_lt (Heap.lt_size e))).trans (Heap.get?_push_of_some _ e)
      have dd : h1.DictOf (mixKind P w) s.heap.objs.size (((kvs.map (·.1)).zip ws).map fun x => ((Sum.inr x.1 : Key), x.2)) := names_dict at1 (by rw [zip_fst rk]; exact nod)
      have new : ObjOk P w (upd H s.heap.objs.size (.dK (nms kvs))) h1 s.heap.objs.size (.dK (nms kvs)) := dk_new (by unfold nms; rw [List.length_map]; exact hz) (by simpa using Nat.ne_of_gt big) (kv_rel rk) dd
      have un : Un (frs outer) [] H (upd H s.heap.objs.size (.dK (nms kvs))) s.heap h1 := Un.laid kp (Nat.le_refl _) hn
      have e2 := env0_more (s := s) (t := s.toks + ((kvs.map (·.1)).zip ws).length) e0 kp (by rw [sb.1, show (s.heap.push ({ cls := .type "dict", data := .dict #[] } : Obj)).objs.size = s.heap.objs.size + 1 from Heap.size_push _ _]; exact Nat.le_succ _) new
      exact h _ _ [x, .ref s.heap.objs.size] [u, .ref s.heap.objs.size] e2 un rfl (fun e s' => hCX outer s H _ _ E e s' un kp rfl) (.cons rx (.cons rfl .nil)) rfl ⟨_, hn, Nat.ne_of_gt big, rfl, rfl⟩
    · have : y.1 ∈ kvs.map (·.1) := by
        rw [← zip_fst rk]
        exact List.mem_map_of_mem hy
      obtain ⟨z, hz', e⟩ := List.mem_map.mp this
      rw [← e]
      exact hk z hz'
  · subst ex eH
    exact hbody cdv A outer s2 _ _ Q E hr' (hq d hd dn)
end
end Mrg

set_option Elab.async false
set_option linter.all false
set_option maxRecDepth 100000
set_option maxHeartbeats 4000000
/-! A call f(**d). -/
namespace Mrg
open PySem PySem.Spec PyProof.Rows PySem.W L2
section
variable {P : Program} {w : World} {A : Around} {E : Value → Shared → Prop} {s : Shared}
def nameOf : Value → Str
  | .str z _ => z
  | _ => ""
def byN (ex : List (Str × Value)) : List (Key × Value) := ex.map fun x => ((Sum.inr x.1 : Key), x.2)
theorem keys_named : ∀ {es : List DictEntry} {ex : List (Str × Value)}, Pairs (mixKind P w) es (byN ex) → (∀ e ∈ es, ∃ z t, e.key = .str z t) ∧ ∀ acc, es.foldl (fun (b : List (Str × Value)) e => b ++ [(nameOf e.key, e.val)]) acc = acc ++ ex
  | [], [], _ => ⟨fun _ h => (by cases h), fun acc => (List.append_nil acc).symm⟩
  | e :: es, x :: ex, h => by
    cases h with
    | cons a b t =>
      obtain ⟨i1, i2⟩ := keys_named t
      have kk : ∃ t, e.key = .str x.1 t := by
        rcases keyIs_shape (show keyIs (Sum.inr x.1 : Key) e.key = true from a) with ⟨i, t, q, _⟩ | ⟨z, t, q, q2⟩
        · cases q
        · cases q
          exact ⟨t, q2⟩
      obtain ⟨t1, ek⟩ := kk
      refine ⟨fun y hy => ?_, fun acc => ?_⟩
      · rcases List.mem_cons.mp hy with rfl | hy
        · exact ⟨_, _, ek⟩
        · exact i1 y hy
      · rw [List.foldl_cons, i2, ek, show e.val = x.2 from b]
        show acc ++ [(x.1, x.2)] ++ ex = _
        rw [List.append_assoc]
        rfl
theorem keywords_at {f : Value} {d : Addr} {ex : List (Str × Value)} {Q : List (Str × Value) → Shared → Prop} (m : s.heap.DictOf (mixKind P w) d (byN ex)) (q : Q ex s) : wpAny (model P w) A (keywordsIn f d) Q E s := by
  obtain ⟨ob, arr, n, at_, x1, dat, ks, pr, nod⟩ := m
  obtain ⟨k1, k2⟩ := keys_named pr
  unfold keywordsIn
  refine wpAny_bind (wpAny_dictEntries at_ dat ?_)
  rw [← Array.forIn_toList, forIn_yields (g := fun (b : List (Str × Value)) e => b ++ [(nameOf e.key, e.val)]) _ _ (fun e he b => by
    obtain ⟨z, t, ek⟩ := k1 e he
    rw [ek]
    rfl), k2, List.nil_append]
  exact wpAny_bind (wpAny_pure (wpAny_pure q))
theorem args_star {f : Value} {T : Sem Value} {Q : Args → Shared → Prop}
    (h : wpAny (model P w) A T (fun v s1 => ∃ (o : Addr) (ex : List (Str × Value)), v = .ref o ∧ s.heap.objs.size ≠ o ∧ (o == sysModules) = false ∧ s1.heap.DictOf (mixKind P w) s.heap.objs.size [] ∧ s1.heap.DictOf (mixKind P w) o (byN ex) ∧ ex.length ≤ sizeLine ∧
      ∀ h2 : Heap, Heap.SameBut s.heap.objs.size s1.heap h2 → h2.DictOf (mixKind P w) s.heap.objs.size (byN ex) → Q ⟨[], ex⟩ { s1 with heap := h2 }) E { s with heap := s.heap.push ({ cls := .type "dict", data := .dict #[] } : Obj) }) :
    wpAny (model P w) A (evalArgs f true [] [(none, T)]) Q E s := by
  unfold evalArgs
  refine wpAny_bind ?_
  refine Calls.spliced_nil (wpAny_bind (wpAny_pure (wpAny_holding ?_)))
  rw [if_neg (show ¬ ([((none : Option Str), T)].all fun x => x.1.isSome) = true from Bool.false_ne_true)]
  refine wpAny_bind ?_
  unfold mergedKeywords
  refine wpAny_bind (wpAny_alloc (wpAny_bind (wpAny_holding ?_)))
  show wpAny _ _ (forIn [((none : Option Str), T)] ([] : List (Str × Sem Value)) _ >>= _) _ _ _
  refine wpAny_bind ?_
  rw [List.forIn_cons]
  refine wpAny_bind ?_
  show wpAny _ _ ((pure () : Sem Unit) >>= fun _ => T >>= fun v => _) _ _ _
  refine wpAny_bind (wpAny_pure (wpAny_bind (wpAny_mono h (fun v s1 z => ?_) fun _ _ y => y)))
  obtain ⟨o, ex, rfl, ne, lo, hd, ho, hz, q⟩ := z
  have em : merged [] (byN ex) = byN ex := merged_nil_of_nodup _ (by
    obtain ⟨_, _, _, _, _, _, _, _, nod⟩ := ho
    exact nod)
  refine wpAny_bind (wpAny_onRaise (wpAny_holding (wpAny_tryCatch (wpAny_onRaise (merge_at (kd := mixKind P w) ne lo hd ho (fun _ => rfl) (by unfold byN; rw [List.length_map, List.length_nil]; omega) fun h2 d2 o2 sb => ?_)))))
  refine wpAny_pure ?_
  show wpAny _ _ (forIn ([] : List (Option Str × Sem Value)) _ _) _ _ _
  rw [List.forIn_nil]
  refine wpAny_pure ?_
  show wpAny _ _ (pure () : Sem Unit) _ _ _
  refine wpAny_pure (wpAny_pure ?_)
  refine wpAny_bind (wpAny_pure (wpAny_bind (wpAny_holding (keywords_at (P := P) (w := w) (ex := ex) ?_ (wpAny_pure (q h2 sb ?_))))))
  · rw [← em]
    exact d2
  · rw [← em]
    exact d2
/-- the call's node -/
theorem node_star {K : Frag} {f : Value} {T : Sem Value} {pos : Pos} {Q : Value → Shared → Prop} (hk : keepIn K f = true)
    (h : wpAny (model P w) A (evalArgs f true [] [(none, T)]) (fun a s1 => K.In s1.heap ∧ wpAny (model P w) A (call f a.pos a.kw) Q E s1) E s) : wpAny (model P w) A (callWith pos f [] [] [(none, T)]) Q E s := by
  unfold callWith
  refine wpAny_bind (wpAny_holding (wpAny_mono h (fun a s1 z => wpAny_bind (wpAny_standAt ?_)) fun _ _ y => y))
  obtain ⟨k, k1, k2⟩ := keeps_K (M := model P w) hk _ z.1
  refine wpAny_bind (k2.here ?_)
  have fin : ∀ {t : Sem Value}, wpAny (model P w) A t Q E s1 → wpAny (model P w) A (t >>= fun r => holding [r] point >>= fun _ => pure r) Q E s1 :=
    fun y => wpAny_bind (wpAny_mono y (fun r s2 y2 => wpAny_bind (wpAny_holding (wpAny_point (wpAny_pure y2)))) fun _ _ y2 => y2)
  rcases k1 with rfl | rfl | rfl
  · refine fin ?_
    show wpAny _ _ (callMarked _ f a.pos a.kw) _ _ _
    unfold callMarked
    exact Calls.wpAny_keep z.2
  · exact fin (wpAny_operating z.2)
  · exact fin (wpAny_operating z.2)
end
end Mrg

set_option Elab.async false
set_option linter.all false
set_option maxRecDepth 100000
set_option maxHeartbeats 4000000
/-! C(a = v, ..), C(**d) where C's __init__ takes **d. -/
namespace Mrg
open PySem PySem.Spec PyProof.Rows PySem.W L2
/-- a new instance of C at x with its dict at dx -/
def made (H : Hp) (C x dx : Addr) : Hp := upd (upd H dx (.own x)) x (.ins C dx [])
/-- what making such an instance asks at H -/
def MadeW (C : Addr) (sp : Sp) (E : XK) (kvs : List (Str × V)) (H : Hp) (Q : VK) : Prop := ∀ x dx, H x = none → H dx = none → dx ≠ x → ∀ d, made H C x dx d = none → d ≠ sysModules →
  sp [.ref x, .ref d] (upd (made H C x dx) d (.dK (nms kvs))) (fun v H2 => v = .non ∧ Q (.ref x) H2) E
structure Kws (p1 : Str) (kvs : List (Str × V)) : Prop where
  nod : (kvs.map (·.1)).Nodup
  no : ∀ y ∈ kvs, y.1 ≠ p1
  few : kvs.length ≤ sizeLine
section
variable {X : Cx} {CX : CXT} {k : Nat} {f C : Addr} {p1 : Str} {sp : Sp} {E : XK} {pins : List (Addr × Obj)} {σ : L2.St} {H : Hp} {s : Shared} {Q : VK}
theorem run_makeW {kvs : List (Str × V)} {ws : List Value} (M : Mk X.K C f) (F : KwOk X.prog X.w X.K X.mg X.base CX k f p1 sp) (hr : Room (k + 1) X.A) (hx : Passes CX X E) (I : Inv X pins σ H s) (rk : Vals (kvs.map (·.2)) ws) (hk : Kws p1 kvs) (h : MadeW C sp E kvs H Q) :
    wpAny (model X.prog X.w) X.A (call (.ref C) [] ((kvs.map (·.1)).zip ws)) (EP X pins σ Q) X.xe s := by
  have hq := h (s.heap.objs.size + 1) s.heap.objs.size (I.hok.fresh (Nat.le_succ _)) (I.hok.fresh (Nat.le_refl _)) (Nat.ne_of_lt (Nat.lt_succ_self _))
  have I2 := Inv.made (C := C) I
  refine wpAny_call (make_map (f := f) I.kIn M.makes M.init (beq_iff_eq.mp M.fn) (codeAny_mono (F _ X.stack _ _ (.ref (s.heap.objs.size + 1)) (.ref (s.heap.objs.size + 1)) kvs ws _ E (hr.make C [] _) (I2.env0.make C [] _) rfl rk hk.nod hk.no hk.few hq) fun r s1 z => ?_))
  cases r with
  | error e => exact hx pins σ _ _ e s1 I2 z
  | ok fl =>
    cases fl with
    | ret u =>
      obtain ⟨v, H1, I3, rv, ev, q⟩ := I2.after z
      subst ev
      exact ⟨rv, ⟨.ref (s.heap.objs.size + 1), H1, I3, rfl, q⟩⟩
    | next => exact False.elim z
    | brk => exact False.elim z
    | cont => exact False.elim z
theorem zip_names : ∀ {ks : List Str} {zs : List V}, zs.length = ks.length → (ks.zip zs).map (·.1) = ks ∧ (ks.zip zs).map (·.2) = zs
  | [], [], _ => ⟨rfl, rfl⟩
  | k :: ks, z :: zs, h => by
    obtain ⟨a, b⟩ := zip_names (ks := ks) (zs := zs) (Nat.succ.inj h)
    exact ⟨congrArg (List.cons k) a, congrArg (List.cons z) b⟩
variable {x : Str} {p pos q : Pos} {kws : List Keyword} {ks : List Str} {tk : TA} {e : Expr} {te : TE}
/-- C(a = v, ..) -/
def tMakeW (C : Addr) (p1 : Str) (ks : List Str) (sp : Sp) (E : XK) (tk : TA) : TE := fun σ H Q => tk σ H fun zs H1 => zs.length = ks.length ∧ Kws p1 (ks.zip zs) ∧ MadeW C sp E (ks.zip zs) H1 Q
theorem pe_makeW (M : Mk X.K C f) (F : KwOk X.prog X.w X.K X.mg X.base CX k f p1 sp) (hr : Room (k + 1) X.A) (hg : Gl X x) (hm : X.mg x = some (.ref C)) (hx : Passes CX X E) (hkw : PK X kws tk)
    (hall : (backToKw pos (keywordEach kws X.env)).all (·.1.isSome) = true := by rfl) (hks : (backToKw pos (keywordEach kws X.env)).filterMap (·.1) = ks := by rfl) (hdb : (x == ("__debug__" : Str)) = false := by decide)
    (hpl : ((backTo pos (starEach [] X.env)).any (·.1) || (backToKw pos (keywordEach kws X.env)).any (·.1.isNone)) = false := by rfl) :
    PE X (.Call (.Name x p) [] kws pos) (tMakeW C p1 ks sp E tk) := by
  refine ⟨fun pins s σ H Q I h => ?_⟩
  refine wpAny_Call_Name_kw (ld_glob I hg hm ?_ hdb)
  refine callWith_KW0 (h₀ := X.base) I.ok.mod.kin M.kp hall (thn (hkw.run pos pins s σ H _ I h) fun ws s1 ⟨zs, H1, I1, rz, l, hk, q⟩ => ⟨I1.kIn, ?_⟩) hpl
  rw [hks]
  obtain ⟨n1, n2⟩ := zip_names l
  have z := run_makeW M F hr hx I1 (kvs := ks.zip zs) (ws := ws) (by rw [n2]; exact rz) hk q
  rw [n1] at z
  exact z
/-- C(**e) -/
def tMakeD (C : Addr) (p1 : Str) (sp : Sp) (E : XK) (te : TE) : TE := fun σ H Q => ∀ g, H g = none → te σ (upd H g (.dK [])) fun v H1 => H1 g = some (.dK []) ∧ ∃ (o : Addr) (kvs : List (Str × V)), v = .ref o ∧ g ≠ o ∧ Rd H1 o (.dK (nms kvs)) ∧ Kws p1 kvs ∧
  MadeW C sp E kvs (upd H1 g (.dK (nms kvs))) Q
theorem kv_names : ∀ {kvs : List (Str × V)} {vs : List (Key × Value)}, KV (nms kvs) vs → ∃ ws, Vals (kvs.map (·.2)) ws ∧ vs = byN ((kvs.map (·.1)).zip ws)
  | [], [], _ => ⟨[], .nil, rfl⟩
  | y :: kvs, v :: vs, h => by
    cases h with
    | cons a t =>
      obtain ⟨ws, r, e⟩ := kv_names t
      obtain ⟨a1, a2⟩ := a
      refine ⟨v.2 :: ws, .cons a2 r, ?_⟩
      rw [e]
      show v :: _ = ((Sum.inr y.1 : Key), v.2) :: _
      rw [show (Sum.inr y.1 : Key) = v.1 from a1]
      rfl
theorem pe_makeD (M : Mk X.K C f) (F : KwOk X.prog X.w X.K X.mg X.base CX k f p1 sp) (hr : Room (k + 1) X.A) (hg : Gl X x) (hm : X.mg x = some (.ref C)) (hx : Passes CX X E) (he : PE X e te) (hdb : (x == ("__debug__" : Str)) = false := by decide) :
    PE X (.Call (.Name x p) [] [⟨none, e, q⟩] pos) (tMakeD C p1 sp E te) := by
  refine ⟨fun pins s σ H Q I h => ?_⟩
  refine wpAny_Call_Name_kw (ld_glob I hg hm ?_ hdb)
  show wpAny _ _ (callWith pos (.ref C) [] [] [(none, (do let v ← eval e X.env; standAt pos; pure v))]) _ _ _
  refine node_star M.kp (args_star ?_)
  have I0 : Inv X pins σ (upd H s.heap.objs.size (.dK [])) { s with heap := s.heap.push ({ cls := .type "dict", data := .dict #[] } : Obj) } :=
    I.laid (a := s.heap.objs.size) (o := .dK []) (t' := s.toks) (fun _ _ q => Heap.get?_push_of_some _ q) (Nat.le_refl _) (dk_empty s.heap I.big)
  refine wpAny_bind (thn (he.run pins _ σ _ _ I0 (h _ (I.hok.fresh (Nat.le_refl _)))) fun v s1 ⟨y, H1, I1, ry, hgd, o, kvs, ey, ne, rd, hk, hq⟩ => wpAny_bind (wpAny_standAt (wpAny_pure ?_)))
  subst ey
  obtain rfl : v = Value.ref o := ry
  obtain ⟨z, lo, vs, rel, dd⟩ := dk_rd I1.hok rd
  obtain ⟨z0, lo0, vs0, rel0, dd0⟩ := dk_of I1.hok hgd
  obtain ⟨ws, rw', rfl⟩ := kv_names rel
  have e0 : vs0 = [] := by
    cases rel0
    rfl
  subst e0
  refine ⟨o, (kvs.map (·.1)).zip ws, rfl, ne, lo, dd0, dd, ?_, fun h2 sb d2 => ⟨?_, ?_⟩⟩
  · have := congrArg List.length (zip_fst rw')
    simp only [List.length_map] at this
    rw [this]
    exact hk.few
  all_goals
    have I2 : Inv X pins σ (upd H1 s.heap.objs.size (.dK (nms kvs))) { s1 with heap := h2 } := d_write (t' := s1.toks) I1 (by rw [hgd]; exact True.intro) sb (let ⟨q, _, _, hq, _⟩ := d2; ⟨q, hq⟩) (dk_new z lo0 rel d2)
  · exact I2.kIn
  · exact run_makeW M F hr hx I2 rw' hk hq
end
end Mrg

set_option Elab.async false
set_option linter.all false
set_option maxRecDepth 100000
set_option maxHeartbeats 4000000
/-! {**d, k: v}. -/
namespace Mrg
open PySem PySem.Spec PyProof.Rows PySem.W L2
section
variable {prog : Program} {w : World} {κ : Type} [DecidableEq κ] {kd : KeyKind prog w κ} {A : Around} {E : Value → Shared → Prop} {s : Shared}
abbrev nil0 : Obj := { cls := .type "dict", data := .dict #[] }
theorem display_star {T1 Tk Tv : Sem Value} {Q : Value → Shared → Prop}
    (h : wpAny (model prog w) A T1 (fun v s1 => ∃ (o : Addr) (more : List (κ × Value)), v = .ref o ∧ s.heap.objs.size ≠ o ∧ (o == sysModules) = false ∧ s1.heap.DictOf kd s.heap.objs.size [] ∧ s1.heap.DictOf kd o more ∧ more.length < sizeLine ∧
      ∀ h2 : Heap, Heap.SameBut s.heap.objs.size s1.heap h2 → h2.DictOf kd s.heap.objs.size more → s.heap.objs.size ≠ h2.objs.size ∧ (h2.objs.size == sysModules) = false ∧
        wpAny (model prog w) A (evalPairs [(Tk, Tv)]) (fun vs s3 => ∃ (k : κ) (v key : Value), vs = [(key, v)] ∧ Carries kd vs [(k, v)] ∧ s3.heap.DictOf kd h2.objs.size [] ∧ 
          ∀ h3 : Heap, h3.DictOf kd h2.objs.size [(k, v)] → Heap.SameBut h2.objs.size s3.heap h3 → ∃ now : List (κ × Value), h3.DictOf kd s.heap.objs.size now ∧ now.length < sizeLine ∧
            ∀ h4 : Heap, h4.DictOf kd s.heap.objs.size (stored now k v) → Heap.SameBut s.heap.objs.size h3 h4 → Q (.ref s.heap.objs.size) { s3 with heap := h4, toks := s3.toks + 1 }) E { s1 with heap := h2.push nil0 })
      E { s with heap := s.heap.push nil0 }) : wpAny (model prog w) A (dictDisplay [(none, T1), (some Tk, Tv)]) Q E s := by
  unfold dictDisplay
  show wpAny _ _ (forIn [((none : Option (Sem Value)), T1), (some Tk, Tv)] ((none, []) : Option Addr × List (Sem Value × Sem Value)) _ >>= _) _ _ _
  refine wpAny_bind ?_
  rw [List.forIn_cons]
  refine wpAny_bind ?_
  show wpAny _ _ ((pure (none : Option Addr) : Sem (Option Addr)) >>= _) _ _ _
  refine wpAny_bind (wpAny_pure ?_)
  show wpAny _ _ (alloc nil0 >>= _) _ _ _
  refine wpAny_bind (wpAny_alloc (wpAny_bind (wpAny_holding (wpAny_mono h (fun v s1 z => ?_) fun _ _ y => y))))
  obtain ⟨o, more, rfl, ne, lo, hd, ho, hz, q⟩ := z
  have em : merged [] more = more := merged_nil_of_nodup _ (by
    obtain ⟨_, _, _, _, _, _, _, _, nod⟩ := ho
    exact nod)
  refine wpAny_bind (wpAny_onRaise (wpAny_tryCatch (wpAny_onRaise (wpAny_holding (merge_at (kd := kd) ne lo hd ho (fun y => nomatch y) (by rw [List.length_nil]; omega) fun h2 d2 o2 sb => ?_)))))
  rw [em] at d2
  obtain ⟨ne2, lo2, q2⟩ := q h2 sb d2
  refine wpAny_pure ?_
  show wpAny _ _ (forIn [(some Tk, Tv)] ((some s.heap.objs.size, []) : Option Addr × List (Sem Value × Sem Value)) _) _ _ _
  rw [List.forIn_cons]
  refine wpAny_bind ?_
  show wpAny _ _ (pure (ForInStep.yield ((some s.heap.objs.size, [(Tk, Tv)]) : Option Addr × List (Sem Value × Sem Value))) : Sem (ForInStep (Option Addr × List (Sem Value × Sem Value)))) _ _ _
  refine wpAny_pure ?_
  show wpAny _ _ (forIn ([] : List (Option (Sem Value) × Sem Value)) _ _) _ _ _
  rw [List.forIn_nil]
  refine wpAny_pure ?_
  refine wpAny_bind ?_
  show wpAny _ _ (holding [.ref s.heap.objs.size] (subDict [(Tk, Tv)]) >>= _) _ _ _
  refine wpAny_bind (wpAny_holding (wpAny_subDict (knd := kd) (by show 1 ≤ 15; decide) (wpAny_mono q2 (fun vs s3 z => ?_) fun _ _ y => y)))
  obtain ⟨k, v, key, rfl, cr, sd, q3⟩ := z
  refine ⟨[(k, v)], cr, sd, fun h3 d3 sb3 => ?_⟩
  obtain ⟨now, d3', hz3, q4⟩ := q3 h3 d3 sb3
  refine wpAny_bind (wpAny_onRaise (wpAny_holding (merge_at (kd := kd) ne2 lo2 d3' d3 (fun y => nomatch y) (by show now.length + 1 ≤ sizeLine; omega) fun h4 d4 o4 sb4 => wpAny_pure (wpAny_pure (q4 h4 d4 sb4)))))
end
section
variable {X : Cx} {pos : Pos} {e kx vx : Expr} {te tk tv : TE}
def tDispD (te tk tv : TE) : TE := fun σ H Q => ∀ g, H g = none → te σ (upd H g (.dK [])) fun x H1 => H1 g = some (.dK []) ∧ ∃ (o : Addr) (kvs : List (Key × V)), x = .ref o ∧ g ≠ o ∧ Rd H1 o (.dK kvs) ∧ kvs.length < sizeLine ∧
  ∀ g2, upd H1 g (.dK kvs) g2 = none → g ≠ g2 → tPairs [(tk, tv)] σ (upd (upd H1 g (.dK kvs)) g2 (.dK [])) fun ps H4 => H4 g2 = some (.dK []) ∧ H4 g = some (.dK kvs) ∧ ∃ k z, ps = [(kV k, z)] ∧ Q (.ref g) (upd (upd H4 g2 (.dK [(k, z)])) g (.dK (putK kvs k z)))
theorem pe_dispD (he : PE X e te) (hk : PPs X pos [some kx] [vx] [(tk, tv)]) : PE X (.Dict [none, some kx] [e, vx] pos) (tDispD te tk tv) := by
  refine ⟨fun pins s σ H Q I h => ?_⟩
  rw [arm_eval_Dict]
  refine wpAny_bind (wpAny_standAt ?_)
  show wpAny _ _ (dictDisplay [(none, (do let v ← eval e X.env; standAt pos; pure v)), (some (eval kx X.env), (do let v ← eval vx X.env; standAt pos; pure v))]) _ _ _
  refine display_star (kd := mixKind X.prog X.w) ?_
  have I0 : Inv X pins σ (upd H s.heap.objs.size (.dK [])) { s with heap := s.heap.push nil0 } :=
    I.laid (a := s.heap.objs.size) (o := .dK []) (t' := s.toks) (fun _ _ q => Heap.get?_push_of_some _ q) (Nat.le_refl _) (dk_empty s.heap I.big)
  refine wpAny_bind (thn (he.run pins _ σ _ _ I0 (h _ (I.hok.fresh (Nat.le_refl _)))) fun v s1 ⟨y, H1, I1, ry, hgd, o, kvs, ey, ne, rd, hz, hq⟩ => wpAny_bind (wpAny_standAt (wpAny_pure ?_)))
  subst ey
  obtain rfl : v = Value.ref o := ry
  obtain ⟨z, lo, vs, rel, dd⟩ := dk_rd I1.hok rd
  obtain ⟨z0, lo0, vs0, rel0, dd0⟩ := dk_of I1.hok hgd
  have e0 : vs0 = [] := by
    cases rel0
    rfl
  subst e0
  refine ⟨o, vs, rfl, ne, lo, dd0, dd, by rw [← rel.length]; exact hz, fun h2 sb d2 => ?_⟩
  have I2 : Inv X pins σ (upd H1 s.heap.objs.size (.dK kvs)) { s1 with heap := h2 } := d_write (t' := s1.toks) I1 (by rw [hgd]; exact True.intro) sb (let ⟨q, _, _, hq, _⟩ := d2; ⟨q, hq⟩) (dk_new z lo0 rel d2)
  have big2 : sysModules < h2.objs.size := I2.big
  have lt2 : s.heap.objs.size < h2.objs.size := by
    obtain ⟨q, _, _, hq, _⟩ := d2
    exact Heap.lt_size hq
  refine ⟨Nat.ne_of_lt lt2, by simpa using Nat.ne_of_gt big2, ?_⟩
  have I3 : Inv X pins σ (upd (upd H1 s.heap.objs.size (.dK kvs)) h2.objs.size (.dK [])) { s1 with heap := h2.push nil0 } :=
    I2.laid (a := h2.objs.size) (o := .dK []) (t' := s1.toks) (fun _ _ q => Heap.get?_push_of_some _ q) (Nat.le_refl _) (dk_empty h2 big2)
  have hn2 : (upd H1 s.heap.objs.size (.dK kvs)) h2.objs.size = none := I2.hok.fresh (Nat.le_refl _)
  refine thn (hk.run pins _ σ _ _ I3 (hq _ hn2 (Nat.ne_of_lt lt2))) fun ws s3 ⟨ps, H4, I4, rps, h42, h41, k, z, eps, q⟩ => ?_
  subst eps
  cases rps with
  | cons a t =>
    cases t
    obtain ⟨rk, rv⟩ := a
    obtain ⟨z4, lo4, vs4, rel4, dd4⟩ := dk_of I4.hok h42
    have e4 : vs4 = [] := by
      cases rel4
      rfl
    subst e4
    refine ⟨k, _, _, rfl, ⟨kV_is rk, rfl, True.intro⟩, dd4, fun h3 d3 sb3 => ?_⟩
    have I5 : Inv X pins σ (upd H4 h2.objs.size (.dK [(k, z)])) { s3 with heap := h3 } := d_write (t' := s3.toks) I4 (by rw [h42]; exact True.intro) sb3 (let ⟨q, _, _, hq, _⟩ := d3; ⟨q, hq⟩)
      (dk_new (by show 1 ≤ sizeLine; decide) lo4 (.cons ⟨rfl, rv⟩ .nil) d3)
    have h51 : (upd H4 h2.objs.size (.dK [(k, z)])) s.heap.objs.size = some (.dK kvs) := by
      rw [upd_ne (Nat.ne_of_lt lt2)]
      exact h41
    obtain ⟨z5, lo5, vs5, rel5, dd5⟩ := dk_of I5.hok h51
    refine ⟨vs5, dd5, by rw [← rel5.length]; exact hz, fun h4 d4 sb4 => ⟨.ref s.heap.objs.size, _, ?_, rfl, q⟩⟩
    exact d_write (s := { s3 with heap := h3 }) (t' := s3.toks + 1) I5 (by rw [h51]; exact True.intro) sb4 (let ⟨q, _, _, hq, _⟩ := d4; ⟨q, hq⟩) (dk_new (by have := length_putK kvs k z; omega) lo5 (rel5.put k rv) d4)
end
end Mrg

set_option Elab.async false
set_option linter.all false
set_option maxRecDepth 100000
set_option maxHeartbeats 4000000
/-! An own class of errors is called with keywords too: what BaseException.__new__ makes, then its own __init__. -/
namespace PySem
namespace XK
open PySem.W PySem.Calls PyProof.Rows PySem.HandSPX
section
variable {prog : Program} {w : World} {A : Around} {E : Value → Shared → Prop} {R : Result → Shared → Prop} {h : Heap} {g : Array GenState} {d : Drawn} {t : Nat} {os : OsState}
variable {nm q : Str} {C N : Addr} {bs bm up : List Value} {hdct : Bool} {sn : List Str} {sub : List Value} {ab : Bool} {col : Option Bool} {dd : Option Addr} {k0 k1 k2 k3 k5 : Option Value} {B newId initId : String} {us : List Value} {kw : List (Str × Value)} {fI : Addr}
/-- the class C, with bm above it, has the builtin ones that the base's chain `up` has -/
theorem above (same : ∀ n : String, bm.contains (.type n) = up.contains (.type n)) {n : String} {b : Bool} (e : up.contains (.type n) = b) : (Value.ref C :: bm).contains (.type n) = b := by
  rw [List.contains_cons, same, e]
  rfl
/-- new(C, *us, **kw): the error, its args a new tuple -/
theorem new_kw (F : ExcBaseFacts B newId initId up) (same : ∀ n : String, bm.contains (.type n) = up.contains (.type n)) (at_C : h.get? C = some (excClassObj nm q C N bs bm hdct sn sub ab col dd k0 k1 k2 k3 k5 newId)) (short : us.length ≤ sizeLine)
    (k : R (.ok (.ret (.ref (h.objs.size + 1)))) ⟨(h.push (W.kdv_tup us)).push (excO C h.objs.size), g, d, t, os⟩) : codeAny (model prog w) A (.builtin newId ⟨.ref C :: us, kw⟩) R ⟨h, g, d, t, os⟩ := by
  have yes := above (C := C) same F.hasB
  have noA := above (C := C) same F.noAttr
  have noN := above (C := C) same F.noName
  have room := F.ends
  refine codeAny_builtinAt F.entry ?_
  unfold Builtin.«BaseException.__new__»
  refine wpAt_bind ?_
  show wpAt _ _ _ (stack >>= _) _ _ _
  refine wpAt_bind (wpAt_stack fun _ _ => wpAt_of_wpAny ?_)
  wp_walk
  refine wpAt_of_wpAny ?_
  rw [F.owner]
  repeat (first
    | with_reducible refine wpAny_madeHere_exc F.canon at_C ?_
    | with_reducible refine wpAny_loadPart_at at_C ?_
    | (with_reducible refine wpAny_isSubtype_exc at_C ?_; (first | rw [yes] | rw [noA] | rw [noN]))
    | wp_step)
  show R _ _
  rw [Heap.size_push]
  exact k
/-- type.__call__(C, *us, **kw): the error at the second new address; then __init__ at fI has it -/
theorem type_call_kw {Q : Fin → Shared → Prop} (F : ExcBaseFacts B newId initId up) (same : ∀ n : String, bm.contains (.type n) = up.contains (.type n)) (at_C : h.get? C = some (excClassObj nm q C N bs bm hdct sn sub ab col dd k0 k1 k2 k3 k5 newId)) (short : us.length ≤ sizeLine)
    (init : W.Looks (model prog w) h (typeLookup (.ref C) "__init__") (some (.ref fI))) (bind : ∀ self, W.Looks (model prog w) h (bindSpecial (.ref fI) self) (.ref fI, [self]))
    (k : codeAny (model prog w) A (.call (.ref fI) ⟨.ref (h.objs.size + 1) :: us, kw⟩)
      (fun r s' => match r with | .ok (.ret v) => v = .none ∧ Q (.done (.ret (.ref (h.objs.size + 1)))) s' | .ok _ => False | .error e => E e s') ⟨(h.push (W.kdv_tup us)).push (excO C h.objs.size), g, d, t, os⟩) :
    wpAny (model prog w) A (Builtin.«type.__call__» ⟨.ref C :: us, kw⟩) Q E ⟨h, g, d, t, os⟩ := by
  have old : ∀ b o, h.get? b = some o → ((h.push (W.kdv_tup us)).push (excO C h.objs.size)).get? b = some o := fun b o e => Heap.get?_push_of_some _ (Heap.get?_push_of_some _ e)
  have made : ((h.push (W.kdv_tup us)).push (excO C h.objs.size)).get? (h.objs.size + 1) = some (excO C h.objs.size) := by heap_get
  have itself : (Value.ref C :: bm).contains (.ref C) = true := by simp
  have yes := above (C := C) same F.hasB
  have star := F.noStar
  repeat (first | with_reducible refine wpAny_loadPart_at at_C ?_ | with_reducible refine wpAny_madeBy_exc at_C ?_ | wp_step)
  refine codeAny_call_builtin_code (Code.quiet_builtin _ F.quiet) ?_
  -- new's own arguments pass: any, with any keywords
  simp only [checkBuiltinCall, F.newKind, F.newSplit, F.newRow]
  repeat (first
    | refine wpAny_loadPart_at at_C ?_
    | (refine wpAny_isSubtype_exc at_C ?_; rw [yes])
    | refine wpAny_staticBase_exc at_C ?_
    | refine wpAny_madeBy_exc at_C ?_
    | simp only [bne_self_eq_false, Bool.false_eq_true, if_false]
    | wp_step)
  refine new_kw F same at_C short ?_
  show wpAny _ _ _ _ _ _
  unfold isInstance
  have at_C' := old _ _ at_C
  repeat (first | with_reducible refine wpAny_loadPart_at made ?_ | (with_reducible refine wpAny_isSubtype_exc at_C' ?_; rw [itself]) | wp_step)
  show wpAny _ _ (typeLookup (.ref C) _) _ _ _
  refine (init.keeps old).at (wpAny_holding (wpAny_bind (((bind _).keeps old).at (wpAny_bind (wpAny_call (codeAny_mono k fun r s' z => ?_))))))
  rcases r with e | (v | _ | _ | _)
  all_goals first | exact z | exact z.elim | skip
  obtain ⟨rfl, z⟩ := z
  first
    | exact wpAny_pure (wpAny_pure z)
    | (wp_walk; exact z)
/-- C(*us, **kw) -/
theorem call_kw (F : ExcBaseFacts B newId initId up) (same : ∀ n : String, bm.contains (.type n) = up.contains (.type n)) (at_C : h.get? C = some (excClassObj nm q C N bs bm hdct sn sub ab col dd k0 k1 k2 k3 k5 newId)) (short : us.length ≤ sizeLine)
    (init : W.Looks (model prog w) h (typeLookup (.ref C) "__init__") (some (.ref fI))) (bind : ∀ self, W.Looks (model prog w) h (bindSpecial (.ref fI) self) (.ref fI, [self]))
    (k : codeAny (model prog w) (A.under (.builtin "type.__call__" ⟨.ref C :: us, kw⟩)) (.call (.ref fI) ⟨.ref (h.objs.size + 1) :: us, kw⟩) (W.InitBack (h.objs.size + 1) R) ⟨(h.push (W.kdv_tup us)).push (excO C h.objs.size), g, d, t, os⟩) :
    codeAny (model prog w) A (.call (.ref C) ⟨us, kw⟩) R ⟨h, g, d, t, os⟩ := by
  have look := tc_lookup
  have self := tc_bind (.ref C)
  have isT : (⟨h, g, d, t, os⟩ : Shared).TypeIs (.ref C) "type" := ⟨_, at_C, rfl⟩
  refine codeAny_of_tree ?_
  show wpAny _ _ (callAny (.ref C) _) _ _ _
  repeat (any_goals (first | assumption | with_reducible refine wpAny_loadPart_at at_C ?_ | wp_step))
  refine ⟨rfl, codeAny_call_builtin_at (Code.quiet_builtin _ (by decide +kernel)) entry_typeCall (wpAny_check_type_call_sub at_C (type_call_kw F same at_C short init bind (codeAny_mono k fun r s' z => ?_)))⟩
  rcases r with e | (v | _ | _ | _) <;> exact z
end
end XK
end PySem

set_option Elab.async false
set_option linter.all false
set_option maxRecDepth 100000
set_option maxHeartbeats 4000000
namespace PySem
namespace XK
open PySem.W PySem.Calls PyProof.Rows PySem.HandSPX
section
variable {prog : Program} {w : World} {A : Around} {E : Value → Shared → Prop} {s : Shared} {K : Frag} {x D : Addr} {ox : Obj}
/-- a data descriptor of the class goes ahead of the object's own dict -/
theorem found_data {C : Addr} {od : Option Obj} {n : Str} {a g : Value} {cd : ClassData} (c : clsIn K C = some cd) (ha : findIn K (.ref C) n = some (some a)) (hg : specialIn K a "__get__" = some (some g)) (ht : takesIn K a = some true) : findObj K C od n = some (.bind g a) := by
  simp [findObj, c, ha, hg, ht]
/-- what the class D of an error must say, so that isinstance asks its objects rightly -/
structure Asked (K : Frag) (D : Addr) : Prop where
  ga : findIn K (.ref D) "__getattribute__" = some (some (.builtin "BaseException.__getattribute__"))
  gg : findIn K (.ref D) "__getattr__" = some none
  ex : subIn K (.ref D) (.type "BaseException") = some true
  cd : ∃ cd : ClassData, clsIn K D = some cd
  cl : findIn K (.ref D) "__class__" = some (some (.builtin "object.__class__"))
  ge : specialIn K (.builtin "object.__class__") "__get__" = some (some (.builtin "getset_descriptor.__get__"))
  tk : takesIn K (.builtin "object.__class__") = some true
  mo : mroIn K D (.type "object") = some true
theorem Asked.obj (T : Asked K D) : ∃ c d cd sl, K.lookup D = some ⟨c, d, .cls cd, sl⟩ := by
  obtain ⟨cd, e⟩ := T.cd
  unfold clsIn at e
  split at e
  · exact ⟨_, _, _, _, by assumption⟩
  · cases e
/-- e.__class__, e an error with or without a dict of its own -/
theorem Asked.get {od : Option Obj} {Q : Option Value → Shared → Prop} (T : Asked K D) (X : K.In s.heap) (I : InstAt s.heap x ox D od) (k : Q (some (.ref D)) { s with toks := s.toks + 1 }) : wpAny (model prog w) A (getAttr? (.ref x) "__class__") Q E s := by
  obtain ⟨cd, hcd⟩ := T.cd
  have found := looks_find (M := model prog w) X I (found_data (od := od) hcd T.cl T.ge T.tk)
  obtain ⟨hp, g, d, t, os⟩ := s
  have ty := I.type (M := model prog w)
  have isE : Looks (model prog w) hp (isInstance (.ref x) (.type "BaseException")) true := ty.andThen (looks_subIn X T.ex)
  have no : (onTheHeap (Value.ref D) && Value.builtin "BaseException.__getattribute__" == Value.builtin "object.__getattribute__") = false := by
    rw [show (Value.builtin "BaseException.__getattribute__" == Value.builtin "object.__getattribute__") = false by decide +kernel]
    rfl
  unfold getAttr? getAttrBy? getAttrBy
  refine wpAny_bind (wpAny_mkText (wpAny_bind (wpAny_attempt (wpAny_holding (wpAny_bind (ty.at (wpAny_bind ((looks_findIn X T.ga).at ?_))))))))
  show wpAny _ _ (if (onTheHeap (Value.ref D) && Value.builtin "BaseException.__getattribute__" == Value.builtin "object.__getattribute__") = true then _ else _) _ _ _
  rw [if_neg (by rw [no]; decide)]
  unfold getAttrByItsOwn hookBefore
  refine wpAny_bind ?_
  rw [if_pos (show onTheHeap (Value.ref D) = true from rfl)]
  refine (looks_findIn X T.gg).at (wpAny_bind (wpAny_attempt (wpAny_holding ?_)))
  unfold callGetattribute
  rw [if_neg (show ¬ (false && onTheHeap (Value.builtin "BaseException.__getattribute__")) = true by decide)]
  unfold boundAndCalled
  rw [PySem.F.excAttr_ValueError.ga.bind (.ref x)]
  refine wpAny_bind (wpAny_pure (wpAny_call (codeAny_call_builtin PySem.F.excAttr_ValueError.ga.plain PySem.F.entry_bexc_ga ?_)))
  refine @check_slot (model prog w) _ _ ⟨hp, g, d, t + 1, os⟩ "BaseException.__getattribute__" "BaseException" "__getattribute__" (.ref x) [.str "__class__" t] [] _ (by decide +kernel) (by decide +kernel) isE (PySem.F.args_bexc_ga (.ref x) (.str "__class__" t)) ?_
  unfold Builtin.«object.__getattribute__»
  refine wpAny_bind (wpAny_of_eq (a := ((Value.ref x : Value), [Value.str "__class__" t])) (by first | rfl | (simp only [slotArgs]; rfl)) (wpAny_bind (wpAny_pure (wpAny_bind (ty.at (wpAny_bind (found.at ?_)))))))
  show wpAny _ _ (holding [Value.builtin "object.__class__"] (call (.builtin "getset_descriptor.__get__") [.builtin "object.__class__", .ref x, .ref D]) >>= ret) _ _ _
  refine wpAny_bind (wpAny_holding (wpAny_call (class_get (s := ⟨hp, g, d, t + 1, os⟩) (ox := ox) (od := od) X I T.mo (wpAny_pure ?_))))
  show wpAny _ _ (handedOut (.ref D)) _ _ _
  rw [handedOut_of (v := .ref D) rfl]
  first
    | exact wpAny_pure (wpAny_pure k)
    | exact wpAny_pure k
    | exact wpAny_pure (wpAny_bind (wpAny_pure (wpAny_pure k)))
theorem Asked.kit {od : Option Obj} (T : Asked K D) : KitX K (.ref x) (.ref D) (fun h => InstAt h x ox D od) := by
  obtain ⟨c, d, cd, sl, ho⟩ := T.obj
  exact {
    ty := fun _ _ _ I => I.type
    it := fun _ _ X _ _ _ _ _ k q => by
      unfold isType loadHead
      exact wpAny_bind (wpAny_loadPart (k _ _ (X _ _ ho)) (wpAny_pure q))
    ne := fun h tp _ _ _ _ X there => Bool.eq_false_iff.mpr fun q => by
      obtain rfl : D = tp := Value.ref.inj (beq_iff_eq.mp q)
      cases (X _ _ ho).symm.trans there
    ca := fun X I k => T.get X I k }
end
end XK
end PySem

namespace L2
open PySem PySem.Spec PyProof.Rows
/-- at a: an exception of the class at C that is not raised, with its fields -/
def ErrAt (H : Hp) (a C : Addr) (fs : List (Str × V)) : Prop := (fs = [] ∧ H a = some (exo a C none)) ∨ ∃ d, H a = some (exo a C (some d)) ∧ H d = some (exd d fs)
theorem ErrAt.ex {H H' : Hp} {a C : Addr} {fs : List (Str × V)} (e : ∀ b o, H b = some o → H' b = some o) (h : ErrAt H a C fs) : ErrAt H' a C fs := by
  rcases h with ⟨e1, e2⟩ | ⟨d, e1, e2⟩
  · exact .inl ⟨e1, e _ _ e2⟩
  · exact .inr ⟨d, e _ _ e1, e _ _ e2⟩
section
variable {X : Cx} {pins : List (Addr × Obj)} {σ : St} {H : Hp} {s : Shared}
theorem ErrAt.inst {a C : Addr} {fs : List (Str × V)} (I : Inv X pins σ H s) (h : ErrAt H a C fs) : ∃ ox od, PySem.W.InstAt s.heap a ox C od := by
  rcases h with ⟨_, e⟩ | ⟨d, e, ed⟩
  · obtain ⟨t1, ho⟩ := exo_at I.hok e
    exact ⟨_, none, ho, rfl, rfl, trivial⟩
  · obtain ⟨t1, ho⟩ := exo_at I.hok e
    obtain ⟨mA, ⟨od, _, _, hd, _⟩, _⟩ := exd_at I.hok ed
    exact ⟨_, some od, ho, rfl, rfl, hd⟩
/-- isinstance(e, c), e an exception of an own class -/
def rIsX (K : PySem.W.Frag) : List V → Hp → VK → Prop := fun xs H Q => ∃ (a D : Addr) (fs : List (Str × V)) (c : V) (cv : Value) (b : Bool), xs = [.ref a, c] ∧ ErrAt H a D fs ∧ ExcC K D ∧ ClsV c cv ∧ PySem.W.kitOne K (.ref D) cv = some b ∧ Q (.bl b) H
theorem call_isX : CallR X (.builtin "isinstance") (rIsX X.K) := by
  intro pins s σ H xs us Q I r h
  obtain ⟨a, D, fs, c, cv, b, rfl, ea, C, k, e, q⟩ := h
  obtain ⟨u1, u2, rfl, r1, r2⟩ := vals2 r
  have e2 := k.eq r2
  subst e2
  cases r1
  obtain ⟨ox, od, J⟩ := ea.inst I
  exact PySem.W.kia_one (PySem.XK.Asked.kit (od := od) (ox := ox) ⟨C.hg, C.hk, C.hs, (let ⟨cd, hc, _⟩ := PySem.W.any_some C.hd; ⟨cd, hc⟩), C.ha, C.hn, C.ht, C.hm⟩) I.kIn J e (fun z => nomatch z) fun tk => ⟨.bl b, H, I.kept (t' := tk) fun _ _ z => z, rfl, q⟩
/-- e.f, e an exception of an own class -/
def tXv (K : PySem.W.Frag) (f : Str) (te : TE) : TE := fun σ H Q => te σ H fun x H1 => ∃ (a C : Addr) (fs : List (Str × V)) (v : V), x = .ref a ∧ XfC K C ∧ PySem.W.findIn K (.ref C) f = some none ∧ ErrAt H1 a C fs ∧ fs.lookup f = some v ∧ Q v H1
theorem pe_xv {e : Expr} {te : TE} {pos : Pos} {n : Str} (he : PE X e te) (hb : attributeBase e n X.env (eval e X.env) = eval e X.env := by rfl) :
    PE X (.Attribute e n pos) (tXv X.K n te) := by
  refine ⟨fun pins s σ H Q I h => ?_⟩
  refine attr_of hb (thn (he.run pins s σ H _ I h) fun u s1 hh => ?_)
  obtain ⟨x, H1, I1, rx, a, C, fs, v, ex, T, hno, ea, l, q⟩ := hh
  subst ex
  obtain rfl : u = Value.ref a := rx
  rcases ea with ⟨e1, _⟩ | ⟨dd, e1, ed⟩
  · subst e1
    cases l
  · obtain ⟨t1, ho⟩ := exo_at I1.hok e1
    obtain ⟨mA, hns, hr⟩ := exd_at I1.hok ed
    obtain ⟨od, hd, hl⟩ := lookIn_ns hns
    obtain ⟨u, hu, ru⟩ := RelO.some_of (v := v) (o := mA n) (by rw [← l]; exact hr n)
    have J : PySem.W.InstAt s1.heap a _ C (some od) := ⟨ho, rfl, rfl, hd⟩
    exact HandSPX.exc_get I1.kIn J T.ga T.gg T.exC (PySem.W.findObj_own T.hdC hno rfl (by rw [hl, hu])) (handed_of ru) ⟨v, H1, I1.tok _, ru, q⟩
/-- C(e, .., k = v, ..) as a value, C's own __init__ keeping sp -/
def tMkV (C : Addr) (n m : Nat) (sp : Sp) (gV : List V → List V → List V) (E : XK) (ta tk : TA) : TE := fun σ H Q => ta σ H fun vs H1 => tk σ H1 fun zs H2 => vs.length = n ∧ zs.length = m ∧
  ∀ a, H2 a = none → sp (gV (.ref a :: vs) zs) (upd H2 a (exo a C none)) (fun v H3 => v = .non ∧ Q (.ref a) H3) E
variable {CX : CXT} {k n : Nat} {f C fI : Addr} {fd : FuncData} {ps ks : List Str} {sp : Sp} {E : XK} {x : Str} {p pos : Pos} {e : Expr} {es : List Expr} {kws : List Keyword} {t tk : TA} {g : List Value → List Value → List Value} {gV : List V → List V → List V}
theorem run_mkv {Q : VK} {us ws : List Value} {vs zs : List V} (T : OexC X.K C) (iC : PySem.W.findIn X.K (.ref C) "__init__" = some (some (.ref fI))) (tI : PySem.W.typeIn X.K (.ref fI) = some (.type "function"))
    (F1 : FnOk X.prog X.w X.K X.mg X.base CX k fI fd ps sp) (hr : Room (k + 1) X.A) (hb : KBn X.K fd ps (n + 1) ks g gV) (hx : Passes CX X E) (I : Inv X pins σ H s) (r : Vals vs us) (rz : Vals zs ws) (l1 : vs.length = n) (l2 : zs.length = ks.length) (hn : n ≤ 1000)
    (h : ∀ a, H a = none → sp (gV (.ref a :: vs) zs) (upd H a (exo a C none)) (fun v H3 => v = .non ∧ Q (.ref a) H3) E) :
    wpAny (model X.prog X.w) X.A (call (.ref C) us (ks.zip ws)) (EP X pins σ Q) X.xe s := by
  obtain ⟨nm, q, N, bs, bm, sn, sub, ab, col, dd, k0, k1, k2, k3, k5, hC, hbm⟩ := T.cls
  obtain ⟨hp, gn, dr, tk, os⟩ := s
  have hsz : hp.objs.size ≤ hp.objs.size + 1 := Nat.le_succ _
  have hnn : H (hp.objs.size + 1) = none := I.hok.fresh hsz
  have hq := h (hp.objs.size + 1) hnn
  have kk : ∀ b o, hp.get? b = some o → ((hp.push (PySem.W.kdv_tup us)).push (PySem.HandSPX.excO C hp.objs.size)).get? b = some o := fun b o e => Heap.get?_push_of_some _ (Heap.get?_push_of_some _ e)
  have hget : ((hp.push (PySem.W.kdv_tup us)).push (PySem.HandSPX.excO C hp.objs.size)).get? (hp.objs.size + 1) = some (PySem.HandSPX.excO C hp.objs.size) := by heap_get
  have I2 : Inv X pins σ (upd H (hp.objs.size + 1) (exo (hp.objs.size + 1) C none)) ⟨(hp.push (PySem.W.kdv_tup us)).push (PySem.HandSPX.excO C hp.objs.size), gn, dr, tk, os⟩ :=
    I.laid (t' := tk) (a := hp.objs.size + 1) (o := exo (hp.objs.size + 1) C none) (h' := (hp.push (PySem.W.kdv_tup us)).push (PySem.HandSPX.excO C hp.objs.size)) kk hsz (exo_ok hget)
  have r1 : Vals (V.ref (hp.objs.size + 1) :: vs) (Value.ref (hp.objs.size + 1) :: us) := .cons rfl r
  have r2 := hb.rel r1 rz
  have e1 : (Value.ref (hp.objs.size + 1) :: us).length = n + 1 := r1.length.symm.trans (congrArg Nat.succ l1)
  have e2 : ws.length = ks.length := rz.length.symm.trans l2
  have hus : us.length ≤ sizeLine := by
    rw [← Paired.length r, sizeLine_eq, l1]
    omega
  refine wpAny_call (PySem.XK.call_kw F.excBase_ValueError (fun Y => PySem.HandSPX.refsVE_contains Y bm hbm) (I.kIn _ _ hC) hus (PySem.W.looks_findIn I.kIn iC) (fun self => PySem.W.bind_fn I.kIn self tI)
    (codeAny_mono (F1.run _ X.stack _ _ ⟨Value.ref (hp.objs.size + 1) :: us, ks.zip ws⟩ (g (Value.ref (hp.objs.size + 1) :: us) ws) _ _ E (hr.make C us (ks.zip ws)) (I2.env0.make C us (ks.zip ws)) (hb.to _ (Value.ref (hp.objs.size + 1) :: us) ws I2.kIn e1 e2) r2 hq) fun r s' hq' => ?_))
  cases r with
  | error er => exact hx pins σ _ _ er s' I2 hq'
  | ok fl =>
    cases fl with
    | ret u =>
      obtain ⟨v, H', I3, rv, ev, q3⟩ := I2.after hq'
      subst ev
      exact ⟨rv, ⟨V.ref (hp.objs.size + 1), H', I3, rfl, q3⟩⟩
    | next => exact False.elim hq'
    | brk => exact False.elim hq'
    | cont => exact False.elim hq'
/-- what such a class has -/
structure MkvC (K : PySem.W.Frag) (C fI : Addr) : Prop where
  o : OexC K C
  iC : PySem.W.findIn K (.ref C) "__init__" = some (some (.ref fI))
  tI : PySem.W.typeIn K (.ref fI) = some (.type "function")
/-- C(e, ..) -/
theorem pe_mkv (M : MkvC X.K C fI) (F : FnOk X.prog X.w X.K X.mg X.base CX k fI fd ps sp) (hr : Room (k + 1) X.A) (hg : Gl X x) (hm : X.mg x = some (.ref C)) (hb : KBn X.K fd ps (n + 1) [] g gV) (hx : Passes CX X E) (hn : n ≤ 1000)
    (ha : PA X (e :: es) t) (hdb : (x == ("__debug__" : Str)) = false := by decide) (he : starEach (e :: es) X.env = (false, eval e X.env) :: starEach es X.env := by rfl) (hpl : (backTo pos (starEach es X.env)).any (·.1) = false := by rfl) :
    PE X (.Call (.Name x p) (e :: es) [] pos) (tMkV C n 0 sp gV E t tNil) := by
  refine ⟨fun pins s σ H Q I h => ?_⟩
  refine wpAny_Call_Name_kw (ld_glob I hg hm ?_ hdb)
  refine PySem.W.callWith_K (h₀ := X.base) I.ok.mod.kin M.o.kC (thn (ha.run pos pins s σ H _ I h) fun us s1 ⟨vs, H1, I1, r, l1, l2, q⟩ => ⟨I1.kIn, ?_⟩) he hpl
  exact run_mkv (ks := []) (ws := []) (zs := []) M.o M.iC M.tI F hr hb hx I1 r .nil l1 rfl hn q
/-- C(k = v, ..) -/
theorem pe_mkv0 (M : MkvC X.K C fI) (F : FnOk X.prog X.w X.K X.mg X.base CX k fI fd ps sp) (hr : Room (k + 1) X.A) (hg : Gl X x) (hm : X.mg x = some (.ref C)) (hb : KBn X.K fd ps 1 ks g gV) (hx : Passes CX X E) (hkw : PK X kws tk)
    (hall : (backToKw pos (keywordEach kws X.env)).all (·.1.isSome) = true := by rfl) (hks : (backToKw pos (keywordEach kws X.env)).filterMap (·.1) = ks := by rfl) (hdb : (x == ("__debug__" : Str)) = false := by decide)
    (hpl : ((backTo pos (starEach [] X.env)).any (·.1) || (backToKw pos (keywordEach kws X.env)).any (·.1.isNone)) = false := by rfl) :
    PE X (.Call (.Name x p) [] kws pos) (tMkV C 0 ks.length sp gV E tNil tk) := by
  refine ⟨fun pins s σ H Q I h => ?_⟩
  refine wpAny_Call_Name_kw (ld_glob I hg hm ?_ hdb)
  refine PySem.W.callWith_KW0 (h₀ := X.base) I.ok.mod.kin M.o.kC hall ?_ hpl
  refine thn (hkw.run pos pins s σ H _ I h) fun ws s2 ⟨zs, H2, I2, rz, l1, l2, q2⟩ => ⟨I2.kIn, ?_⟩
  rw [hks]
  exact run_mkv (us := []) (vs := []) M.o M.iC M.tI F hr hb hx I2 .nil rz rfl l2 (by decide) q2
/-- C(e, .., k = v, ..) -/
theorem pe_mkvK (M : MkvC X.K C fI) (F : FnOk X.prog X.w X.K X.mg X.base CX k fI fd ps sp) (hr : Room (k + 1) X.A) (hg : Gl X x) (hm : X.mg x = some (.ref C)) (hb : KBn X.K fd ps (n + 1) ks g gV) (hx : Passes CX X E) (hn : n ≤ 1000) (ha : PA X (e :: es) t) (hkw : PK X kws tk)
    (hall : (backToKw pos (keywordEach kws X.env)).all (·.1.isSome) = true := by rfl) (hks : (backToKw pos (keywordEach kws X.env)).filterMap (·.1) = ks := by rfl) (hdb : (x == ("__debug__" : Str)) = false := by decide)
    (he : starEach (e :: es) X.env = (false, eval e X.env) :: starEach es X.env := by rfl) (hpl : ((backTo pos (starEach (e :: es) X.env)).any (·.1) || (backToKw pos (keywordEach kws X.env)).any (·.1.isNone)) = false := by rfl) :
    PE X (.Call (.Name x p) (e :: es) kws pos) (tMkV C n ks.length sp gV E t tk) := by
  refine ⟨fun pins s σ H Q I h => ?_⟩
  refine wpAny_Call_Name_kw (ld_glob I hg hm ?_ hdb)
  refine PySem.W.callWith_KW (h₀ := X.base) I.ok.mod.kin M.o.kC hall (thn (ha.run pos pins s σ H _ I h) fun us s1 ⟨vs, H1, I1, r, q⟩ => ?_) hpl he
  refine thn (hkw.run pos pins s1 σ H1 _ I1 q) fun ws s2 ⟨zs, H2, I2, rz, l1, l2, q2⟩ => ⟨I2.kIn, ?_⟩
  rw [hks]
  exact run_mkv M.o M.iC M.tI F hr hb hx I2 r rz l1 l2 hn q2
/-- C(), C(e), C an own class without own __init__ -/
theorem run_exc {Q : VK} {us : List Value} {bmB : List Value} {B newId initId : String} (F : ExcBaseFacts B newId initId bmB) (q : PySem.W.excIn X.K C bmB newId = true) (I : Inv X pins σ H s) (hl : us.length ≤ 1000)
    (h : ∀ a, H a = none → Q (.ref a) (upd H a (exo a C none))) : wpAny (model X.prog X.w) X.A (call (.ref C) us) (EP X pins σ Q) X.xe s := by
  obtain ⟨hp, gn, dr, tk, os⟩ := s
  obtain ⟨bm, N, nm, qn, bs, hdct, sn, sub, ab, col, dd, k0, k1, k2, k3, k5, mN, hC, hN, hni, T⟩ := exc_obj I.kIn q
  refine wpAny_call_exc_subT F T hC hN hni (fun h' a hm => ?_) (by rw [sizeLine_eq]; omega)
  have hn : H a = none := I.hok.gone hm.new
  obtain ⟨t, ht, _, _⟩ := hm.there
  exact ⟨.ref a, upd H a (exo a C none), I.laidN hm.keeps hm.new hn (exo_ok ht), rfl, h a hn⟩
end
end L2

set_option Elab.async false
set_option linter.all false
set_option maxRecDepth 100000
set_option maxHeartbeats 4000000
/-! Defs that are called while no repr is under way. -/
namespace XG
open PySem PySem.Spec PyProof.Rows L2
section
variable {CX : CXT} {P : Program} {w : World} {K : PySem.W.Frag} {mg : Str → Option Value} {base : Heap} {k : Nat} {f : Addr} {ps : List Str} {sp : Sp}
/-- the def at f keeps sp wherever no object is being shown -/
def FnG (P : Program) (w : World) (K : PySem.W.Frag) (mg : Str → Option Value) (base : Heap) (CX : CXT) (k : Nat) (f : Addr) (fd : FuncData) (ps : List Str) (sp : Sp) : Prop :=
  ∀ (A : Around) (outer : List Env) (s : Shared) (H : Hp) (args : Args) (us : List Value) (vs : List V) (Q : VK) (E : XK), A.guards = some [] → Room k A → Env0 P w K mg base A outer s H →
    BindsTo s fd args (ps.zip us) → Vals vs us → sp vs H Q E → codeAny (model P w) A (.call (.ref f) args) (CR CX outer P w H s Q E) s
theorem fnG_of {qual x : Str} {params : Arguments} {body : List Stmt} {scope : Scope} {dV kV doc pm cdv ct oc : Value} {an od : Option Addr} {osl : Array (Option Value)} {N : List Str}
    (lk : K.lookup f = some ⟨oc, od, .func (PySem.W.fnOf x qual params body scope dV kV doc pm an cdv ct), osl⟩) (hcd : PySem.W.codeIn K cdv qual = true) (S : FnScope N ps scope) (len : ∀ vs H Q E, sp vs H Q E → vs.length = ps.length)
    (walk : ∀ (A : Around) (outer : List Env) (s : Shared) (H : Hp) (vs : List V) (Q : VK) (E : XK), A.guards = some [] → Room k (A.deeper (envOfC qual scope s.heap.objs.size f cdv)) → sp vs H Q E →
      ∃ t, PSs (cxOf CX P w K mg base N qual scope f cdv A outer s H E) body t ∧ t { nx := fun _ H' => Q .non H', rt := Q } (start N vs) H) :
    FnG P w K mg base CX (k + 1) f (PySem.W.fnOf x qual params body scope dV kV doc pm an cdv ct) ps sp := by
  intro A outer s H args us vs Q E gd room e0 bd r h
  have n1 := len _ _ _ _ h
  have inH : ∀ b o, base.get? b = some o → s.heap.get? b = some o := fun b o e => (e0.bs b o e).1
  have kin : K.In s.heap := e0.mod.kin.keeps inH
  have par : ∀ y ∈ ps.zip us, scope.names.lookup y.1 = some .local ∨ (scope.names.lookup y.1 = some .cell ∧ ((cellsFrom (s.heap.objs.size + 1) scope.names []).lookup y.1).isSome = true) := by
    rintro ⟨y, z⟩ hy
    exact (S.par y (List.of_mem_zip hy).1).imp id fun q => ⟨q, PySem.W.cellsFrom_some _ _ _ (.inl q)⟩
  refine codeAny_call_function room.depth (kin _ _ lk) rfl S.co S.gen rfl (PySem.W.codeRec_of kin hcd) (bd _ _ _ _ (wpAny_newFunctionEnv_cells S.kind par fun env he s1 z => ?_))
  subst he
  refine ⟨(e0.mod.nolimit.keeps inH).keeps z.toInCall.keep, codeAny_func ?_⟩
  obtain ⟨t, body_ok, ends⟩ := walk A outer s H vs Q E gd (room.deeper _) h
  have J := inv_start (CX := CX) (E := E) S room.hd e0 n1 r z
  refine wpAny_mono (body_ok.run [] s1 _ H _ J ends) (fun fl s' q => ?_) fun e s' q => q
  rcases fl with u | _ | _ | _
  all_goals first
    | (obtain ⟨v, σ', H', J', rv, q⟩ := q; exact ⟨v, H', J'.os, J'.bare, J'.base, J'.hok, rv, q⟩)
    | (obtain ⟨σ', H', J', q⟩ := q; exact ⟨V.non, H', J'.os, J'.bare, J'.base, J'.hok, rfl, q⟩)
    | (obtain ⟨_, _, _, q⟩ := q; exact q.elim)
theorem Fun.okG {x qual : Str} {st : Stmt} {fd : FuncData} {N : List Str} (F : Fun K x qual st f fd) (S : FnScope N ps (defScope st)) (len : ∀ vs H Q E, sp vs H Q E → vs.length = ps.length)
    (walk : ∀ (cdv : Value) (A : Around) (outer : List Env) (s : Shared) (H : Hp) (vs : List V) (Q : VK) (E : XK), A.guards = some [] → Room k (A.deeper (envOfC qual (defScope st) s.heap.objs.size f cdv)) → sp vs H Q E →
      ∃ t, PSs (cxOf CX0 P w K mg base N qual (defScope st) f cdv A outer s H E).nox (defBody st) t ∧ t { nx := fun _ H' => Q .non H', rt := Q } (start N vs) H) : FnG P w K mg base CX0 (k + 1) f fd ps sp := by
  obtain ⟨oc, od, kV, doc, pm, an, cdv, ct, osl, rfl, lk, hcd⟩ := F.ex
  refine fnG_of lk hcd S len fun A outer s H vs Q E gd room h => ?_
  obtain ⟨t, a, b⟩ := walk cdv A outer s H vs Q E gd room h
  exact ⟨t, a.nox, b⟩
/-- the claim's call, from a heap in which nothing but the script is tracked -/
theorem core {mb : Str → Option Value} {fd : FuncData} {a : Addr} {x : Str} {s₁ : Shared} {vs : List Value} (kin : K.In s₁.heap) (hns : s₁.heap.Ns mainGlobals mg) (hb : s₁.heap.Ns builtinsNs mb) (hbb : ∀ x : Str, x ≠ "__name__" → mb x = bootBuiltins x)
    (lim : s₁.heap.NoLimit) (gens : s₁.gens = #[]) (ha : s₁.heap.get? a = some { cls := .type "list", data := .seq vs.toArray }) (room : Room k callerA)
    (F : ∀ base : Heap, K.In base → base.Ns mainGlobals mg → FnG P w K mg base CX k f fd [x] sp) (bind : ∀ (s : Shared) (u : Value), BindsTo s fd ⟨[u], []⟩ [(x, u)])
    (none' : ∀ H e s', CX [] H s₁ (fun _ _ _ => False) e s' → False) {H : Hp} (only : Only H) (h : sp [.ref a] H (fun v _ => v = .bl true) fun _ _ _ => False) (hok : HOk P w H s₁.heap) (at_a : ∀ b, H b ≠ none → b = a) (not_K : H a ≠ none → K.lookup a = none) :
    codeAny (model P w) callerA (.call (.ref f) ⟨[.ref a], []⟩) (fun r s' => r = .ok (.ret (.bool true)) ∧ OldK s₁.heap s'.heap ∧ s'.os = s₁.os ∧ AllBare s'.gens) s₁ := by
  have tr : ∀ {b : Addr}, H b ≠ none → H a ≠ none := fun {b} z => at_a b z ▸ z
  have nsI : ∀ {b : Addr} {m : Str → Option Value}, s₁.heap.Ns b m → (hidT s₁.heap H).Ns b m := fun {b m} ⟨o, es, ep, e, d, r⟩ => by
    refine ⟨o, es, ep, hidT_get e ?_, d, r⟩
    by_cases q : H b = none
    · exact q
    · obtain rfl := at_a b q
      rw [ha] at e
      cases e
      cases (show Data.seq vs.toArray _ = Data.dict es ep from d)
  have kinI : K.In (hidT s₁.heap H) := fun b o e => hidT_get (kin b o e) (by
    by_cases q : H b = none
    · exact q
    · obtain rfl := at_a b q
      rw [not_K q] at e
      cases e)
  obtain ⟨mc, lim1, lim2⟩ := lim
  have e0 : Env0 P w K mg (hidT s₁.heap H) callerA [] s₁ H := {
    frames := rfl
    mod := ⟨kinI, nsI hns, ⟨mb, nsI hb, hbb⟩, mc, nsI lim1, lim2⟩
    bs := fun b o e => of_hidT e
    bsz := Nat.le_of_eq (hidT_size _ _)
    funs := trivial
    frf := fun b z => absurd (show b ∈ ([] : List Addr) from z) List.not_mem_nil
    hok := hok
    bare := .of_eq gens }
  have run := F _ kinI (nsI hns) callerA [] s₁ H ⟨[.ref a], []⟩ [.ref a] [.ref a] _ _ rfl room e0 (bind s₁ (.ref a)) (.cons rfl .nil) h
  refine codeAny_mono run fun r s' z => ?_
  rcases r with e | (u | _ | _ | _)
  all_goals first | exact (none' H e s' z).elim | exact (show False from z).elim | skip
  obtain ⟨v, H', os, bare, un, hok', rv, q⟩ := z
  obtain rfl : v = .bl true := q
  cases (show _ = Value.bool true from rv)
  refine ⟨rfl, OldK.of_keep fun b o e => ?_, os, bare⟩
  cases q : H b with
  | none => exact un.keep b o e q (fun z => List.not_mem_nil (show b ∈ ([] : List Addr) from z)) List.not_mem_nil
  | some t =>
    rcases only b with z | ⟨ob, xs, z⟩
    · rw [q] at z
      cases z
    · have before := (hok b _ z).1
      rw [e] at before
      cases before
      exact (hok' b _ (un.frzs b _ _ z)).1
end
/-- the law's own call, from its promise -/
theorem walk_ofG {l : PySem.W.OpenLaw} {n k : Nat} {q : Program} {loose : List Str} {XP : (Str → Option Value) → Heap → Prop} {YP : World → Heap → Prop} {d : DefRec} {K : Params → PySem.W.Frag} {sp : World → Sp} {x : Str}
    (hn : l.most = some n) (hn2 : n ≤ sizeLine) (hdf : d.params.defaults = []) (room : Room k callerA) (hY : ∀ (w : World) (h : Heap), YP w h → (K w.params).In h)
    (F : ∀ (w : World) (mg : Str → Option Value) (fa : Addr) (h : Heap), (K w.params).In h → h.Ns mainGlobals mg → mg d.name = some (.ref fa) →
      ∃ fd : FuncData, (∀ (s : Shared) (u : Value), BindsTo s fd ⟨[u], []⟩ [(x, u)]) ∧ ∀ base : Heap, (K w.params).In base → base.Ns mainGlobals mg → FnG l.prog w (K w.params) mg base CX0 k fa fd [x] (sp w))
    (hsp : ∀ (w : World) (H : Hp) (a : Addr) (ns : List Int), ns.length ≤ n → Only H → SqL (K w.params) H a (ns.map V.int) → sp w [.ref a] H (fun v _ => v = .bl true) fun _ _ _ => False) :
    PySem.W.WalkO q loose XP YP l.row.toRowW d [] (fun f vs => PySem.call f vs) := by
  refine Att.attach_call hn hdf fun w s₀ s₁ mg mb fa o pm cd doc a vs ns G Y _ _ _ hmg obj hints short gens => ?_
  have kin := hY w _ Y
  obtain ⟨fd, bind, hF⟩ := F w mg fa _ kin G.T.g hmg
  have rv := vals_ints hints
  have lz : (ns.map V.int).length ≤ sizeLine := by rw [List.length_map]; exact Nat.le_trans short hn2
  have go : ∀ {H : Hp}, Only H → SqL (K w.params) H a (ns.map V.int) → HOk l.prog w H s₁.heap → (∀ b, H b ≠ none → b = a) → (H a ≠ none → (K w.params).lookup a = none) → _ :=
    fun {H} only seq hok at_a not_K => core kin G.T.g G.T.b G.T.builtins G.T.nolimit gens obj room hF bind (fun _ _ _ z => z) only (hsp w H a ns short only seq) hok at_a not_K
  cases hk : (K w.params).lookup a with
  | some u =>
    have e := kin a u hk
    rw [obj] at e
    cases e
    exact go (H := fun _ => none) (fun _ => .inl rfl) (.inr ⟨_, vs.toArray, _, hk, rfl, rfl, rfl, by rw [List.size_toArray, hints.length]; exact Nat.le_trans short hn2, by simpa using rv⟩)
      (fun b u z => nomatch (show (none : Option HO) = some u from z)) (fun b z => absurd rfl z) fun z => absurd rfl z
  | none =>
    let fz : HO := .frz { cls := .type "list", data := .seq vs.toArray } (.lst (ns.map V.int))
    have at_ : ∀ b, (upd (fun _ => none) a fz) b ≠ none → b = a := fun b z => by
      by_cases hb : b = a
      · exact hb
      · exact absurd (upd_ne hb) z
    refine go (H := upd (fun _ => none) a fz) (fun b => ?_) (.inl (.inr ⟨_, upd_same⟩)) (fun b u z => ?_) at_ fun _ => hk
    · by_cases hb : b = a
      · rw [hb]
        exact .inr ⟨_, _, upd_same⟩
      · exact .inl (upd_ne hb)
    · obtain rfl := at_ b (by rw [z]; exact fun q => nomatch q)
      rw [upd_same] at z
      cases z
      exact ⟨obj, lz, vs, _, rv, obj⟩
end XG

set_option Elab.async false
set_option linter.all false
set_option maxRecDepth 100000
set_option maxHeartbeats 4000000
namespace L2
open PySem PySem.Spec PyProof.Rows
/-! ### what a value shows -/
mutual
/-- v is the datum d in H; nothing of it stands at p -/
inductive Dq (p : Addr) (H : Hp) : V → PyData → Prop
  | non : Dq p H .non .none
  | bl (b : Bool) : Dq p H (.bl b) (.bool b)
  | int (i : Int) : Dq p H (.int i) (.int i)
  | str (x : Str) : Dq p H (.str x) (.str x)
  | lst {a : Addr} {xs : List V} {ds : List PyData} : H a = some (.lst xs) → a ≠ p → a ≠ sysModules → DqAll p H xs ds → Dq p H (.ref a) (.list ds)
  | tup {a : Addr} {xs : List V} {ds : List PyData} : H a = some (.tup xs) → a ≠ p → DqAll p H xs ds → Dq p H (.ref a) (.tuple ds)
  | dct {a : Addr} : H a = some (.dK []) → a ≠ p → Dq p H (.ref a) (.dict [])
inductive DqAll (p : Addr) (H : Hp) : List V → List PyData → Prop
  | nil : DqAll p H [] []
  | cons {v : V} {vs : List V} {d : PyData} {ds : List PyData} : Dq p H v d → DqAll p H vs ds → DqAll p H (v :: vs) (d :: ds)
end
mutual
theorem Dq.ex {p : Addr} {H H' : Hp} (e : ∀ b o, H b = some o → b ≠ p → H' b = some o) : ∀ {v : V} (d : PyData), Dq p H v d → Dq p H' v d
  | _, .none, .non => .non
  | _, .bool b, .bl _ => .bl b
  | _, .int i, .int _ => .int i
  | _, .str x, .str _ => .str x
  | _, .list _, .lst h m n a => .lst (e _ _ h m) m n (DqAll.ex e _ a)
  | _, .tuple _, .tup h m a => .tup (e _ _ h m) m (DqAll.ex e _ a)
  | _, .dict _, .dct h m => .dct (e _ _ h m) m
theorem DqAll.ex {p : Addr} {H H' : Hp} (e : ∀ b o, H b = some o → b ≠ p → H' b = some o) : ∀ {vs : List V} (ds : List PyData), DqAll p H vs ds → DqAll p H' vs ds
  | _, [], .nil => .nil
  | _, _ :: _, .cons h t => .cons (Dq.ex e _ h) (DqAll.ex e _ t)
end
section
variable {X : Cx} {pins : List (Addr × Obj)} {σ : St} {H : Hp} {s : Shared} {q : Addr}
mutual
theorem Dq.reads (I : Inv X pins σ H s) : ∀ (d : PyData) (v : V) (u : Value), Dq q H v d → RelV v u → ∃ as, Reads s.heap u d as ∧ sysModules ∉ as
  | .none, _, _, h, r => by
    cases h
    cases r
    exact ⟨_, Reads.none, List.not_mem_nil⟩
  | .bool b, _, _, h, r => by
    cases h
    cases r
    exact ⟨_, Reads.bool b, List.not_mem_nil⟩
  | .int i, _, _, h, r => by
    cases h
    obtain ⟨t, rfl⟩ := r
    exact ⟨_, Reads.int i t, List.not_mem_nil⟩
  | .str x, _, _, h, r => by
    cases h
    obtain ⟨t, rfl⟩ := r
    exact ⟨_, Reads.str x t, List.not_mem_nil⟩
  | .list ds, _, _, h, r => by
    cases h with
    | lst hs _ n ha =>
      cases r
      obtain ⟨_, its, m, rv, g⟩ := (show ObjOk X.prog X.w H s.heap _ (.lst _) from I.hok _ _ hs)
      obtain ⟨as, hr, hn⟩ := DqAll.reads I ds _ its ha rv
      exact ⟨_, Reads.list g rfl rfl (by simpa using hr), fun z => by
        rcases List.mem_cons.mp z with z | z
        · exact n z.symm
        · exact hn z⟩
  | .tuple ds, _, _, h, r => by
    cases h with
    | tup hs _ ha =>
      cases r
      obtain ⟨_, its, rv, o, g, c, n, dt⟩ := (show ObjOk X.prog X.w H s.heap _ (.tup _) from I.hok _ _ hs)
      obtain ⟨as, hr, hn⟩ := DqAll.reads I ds _ its ha rv
      exact ⟨_, Reads.tuple g c dt (by simpa using hr), hn⟩
  | .dict [], _, _, h, r => by
    cases h with
    | @dct a hs _ =>
      cases r
      obtain ⟨_, ne, vs, rel, o, es, ep, g, ty, dt, hk⟩ := dk_of I.hok hs
      cases rel
      obtain ⟨_, prs, _⟩ := hk
      have z : es.toList = [] := by
        cases h0 : es.toList with
        | nil => rfl
        | cons a r =>
          rw [h0] at prs
          cases prs
      have z2 : es = #[] := Array.toList_inj.mp z
      subst z2
      exact ⟨_, Reads.dict (as := []) (bs := []) g ty.1 dt .nil .nil, fun q => by
        have q' : sysModules = a := by simpa using q
        exact absurd q'.symm (beq_eq_false_iff_ne.mp ne)⟩
  | .dict (_ :: _), _, _, h, _ => by cases h
theorem DqAll.reads (I : Inv X pins σ H s) : ∀ (ds : List PyData) (vs : List V) (us : List Value), DqAll q H vs ds → Vals vs us → ∃ as, ReadsAll s.heap us ds as ∧ sysModules ∉ as
  | [], _, _, h, r => by
    cases h
    cases r
    exact ⟨_, ReadsAll.nil, List.not_mem_nil⟩
  | d :: ds, _, _, h, r => by
    cases h with
    | cons h1 h2 =>
      cases r with
      | cons r1 r2 =>
        obtain ⟨as, a1, n1⟩ := Dq.reads I d _ _ h1 r1
        obtain ⟨bs, a2, n2⟩ := DqAll.reads I ds _ _ h2 r2
        exact ⟨_, ReadsAll.cons a1 a2, fun z => (List.mem_append.mp z).elim n1 n2⟩
end
/-- repr(v) -/
def rRepr : List V → Hp → VK → Prop := fun xs H Q => ∃ (p : Addr) (v : V) (d : PyData), xs = [v] ∧ Dq p H v d ∧ d.showable = true ∧ d.depth ≤ 60 ∧ d.shown.length ≤ 100000 ∧ Q (.str d.shown) H
theorem call_reprG (hg : X.A.guards = some []) (hu : X.A.units + 64 < cLine) : CallR X (.builtin "repr") rRepr := by
  intro pins s σ H xs us Q I r h
  obtain ⟨p, v, d, rfl, hd, sh, dp, sz, q⟩ := h
  obtain ⟨u, rfl, ru⟩ := vals1 r
  have sz' : d.shown.length ≤ sizeLine := by rw [sizeLine_eq]; omega
  have by_ref : ∀ a : Addr, u = .ref a → wpAny (model X.prog X.w) X.A (call (.builtin "repr") [u]) (EP X pins σ Q) X.xe s := by
    rintro a rfl
    obtain ⟨as, rd, nm⟩ := hd.reads I d v _ ru
    exact repr_of_reads' rd sh (fun _ => nm) hg (by omega) (fun _ _ z => z) (fun h' u tk hk => ⟨.str _, H, I.kept (t' := tk) hk, ⟨u, rfl⟩, q⟩) sz'
  cases hd with
  | non =>
    cases ru
    exact PySem.P.repr_of_none ⟨.str _, H, I.tok _, ⟨_, rfl⟩, q⟩
  | bl b =>
    cases ru
    refine PySem.P.repr_of_bool ⟨.str _, H, I.tok _, ⟨_, rfl⟩, ?_⟩
    cases b <;> exact q
  | int i =>
    obtain ⟨t, rfl⟩ := ru
    exact PySem.P.repr_of_int (of_decide_eq_true sh) ⟨.str _, H, I.tok _, ⟨_, rfl⟩, q⟩
  | str x =>
    obtain ⟨t, rfl⟩ := ru
    exact PySem.P.repr_of_str ⟨.str _, H, I.tok _, ⟨_, rfl⟩, q⟩ (hsz := sz')
  | lst _ _ _ _ => exact by_ref _ ru
  | tup _ _ _ => exact by_ref _ ru
  | dct _ _ => exact by_ref _ ru
/-- [a, b, ..], told that it is not the table of modules -/
def tLstN (t : TA) : TE := fun σ H Q => t σ H fun xs H1 => xs.length ≤ sizeLine ∧ ∀ p, H1 p = none → p ≠ sysModules → Q (.ref p) (upd H1 p (.lst xs))
theorem pe_lstN {es : List Expr} {t : TA} {pos : Pos} (h : PA X es t) : PE X (.List es pos) (tLstN t) := by
  refine ⟨fun pins s σ H Q I hq => wpAny_List_spliced (thn (h.run pos pins s σ H _ I hq) fun us s1 ⟨xs, H1, I1, r, z, q⟩ => ⟨r.length ▸ z, ?_⟩)⟩
  have big : sysModules < s1.heap.objs.size := I1.big
  refine ⟨.ref s1.heap.objs.size, _, I1.laid (t' := s1.toks) (fun b u e => Heap.get?_push_of_some _ e) (Nat.le_refl _) ?_, rfl, q _ (I1.hok.fresh (Nat.le_refl _)) (Nat.ne_of_gt big)⟩
  exact ⟨z, us, 0, r, Heap.get?_push_size _ rfl⟩
variable {C : Addr} {x : Str} {p pos : Pos} {e : Expr} {es : List Expr} {t : TA} {bmB : List Value} {B newId initId : String}
/-- C(), C an own exception class without __init__ -/
def tExc0 (C : Addr) : TE := fun _ H Q => ∀ a, H a = none → Q (.ref a) (upd H a (exo a C none))
theorem pe_excv0 (F : ExcBaseFacts B newId initId bmB) (q : PySem.W.excIn X.K C bmB newId = true) (gC : X.mg x = some (.ref C)) (kC : PySem.W.keepIn X.K (.ref C) = true) (hg : Gl X x) (hdb : (x == ("__debug__" : Str)) = false := by decide) :
    PE X (.Call (.Name x p) [] [] pos) (tExc0 C) := by
  refine ⟨fun pins s σ H Q I h => wpAny_Call_Name_kw (ld_glob I hg gC ?_ hdb)⟩
  exact PySem.W.callWith_K0 I.kIn kC (run_exc (us := []) F q I (by decide) h)
/-- C(e) of such a class -/
def tExc1 (C : Addr) (te : TE) : TE := fun σ H Q => te σ H fun _ H1 => ∀ a, H1 a = none → Q (.ref a) (upd H1 a (exo a C none))
theorem pe_excv1 {te : TE} (F : ExcBaseFacts B newId initId bmB) (q : PySem.W.excIn X.K C bmB newId = true) (gC : X.mg x = some (.ref C)) (kC : PySem.W.keepIn X.K (.ref C) = true) (hg : Gl X x) (he : PE X e te)
    (hs : starEach [e] X.env = (false, eval e X.env) :: starEach [] X.env := by rfl) (hdb : (x == ("__debug__" : Str)) = false := by decide) : PE X (.Call (.Name x p) [e] [] pos) (tExc1 C te) := by
  refine ⟨fun pins s σ H Q I h => wpAny_Call_Name_kw (ld_glob I hg gC ?_ hdb)⟩
  refine PySem.W.callWith_K (h₀ := X.base) I.ok.mod.kin kC ?_ hs (by rfl)
  rw [hs]
  show wpAny _ _ (spliced ((false, eval e X.env) :: backTo pos (starEach [] X.env))) _ _ s
  refine Calls.spliced_cons (thn (he.run pins s σ H _ I h) fun u s1 ⟨v, H1, I1, r1, q1⟩ => Calls.spliced_nil ⟨I1.kIn, ?_⟩)
  exact run_exc (us := [u]) F q I1 (by show 1 ≤ 1000; decide) q1
end
/-! ### __init__(self, f): self.f = f -/
def spInit1 (K : PySem.W.Frag) (f : Str) : Sp := fun vs H Q _ => ∃ (a C : Addr) (y : V), vs = [.ref a, y] ∧ OexC K C ∧ PySem.W.findIn K (.ref C) f = some none ∧ H a = some (exo a C none) ∧
  ∀ d, H d = none → d ≠ a → Q .non (upd (upd H d (exd d [(f, y)])) a (exo a C (some d)))
def spInit2 (K : PySem.W.Frag) (f g : Str) : Sp := fun vs H Q _ => ∃ (a C : Addr) (y z : V), vs = [.ref a, y, z] ∧ OexC K C ∧ PySem.W.findIn K (.ref C) f = some none ∧ PySem.W.findIn K (.ref C) g = some none ∧ H a = some (exo a C none) ∧
  ∀ d, H d = none → d ≠ a → Q .non (upd (upd (upd H d (exd d [(f, y)])) a (exo a C (some d))) d (exd d [(g, z), (f, y)]))
theorem vis_of {N Ps : List Str} {sc : Scope} (S : FnScope N Ps sc) {x : Str} (h : x ∈ Ps) : Vis sc x := by
  rcases S.par x h with e | e
  · exact Or.inl e
  · exact Or.inr (Or.inl e)
section
variable {P : Program} {w : World} {K : PySem.W.Frag} {mg : Str → Option Value} {base : Heap} {fI : Addr} {fd : FuncData} {qual f g : Str} {st : Stmt} {q1 q2 q3 q4 r1 r2 r3 r4 : Pos}
theorem ok_init1 (F : Fun K "__init__" qual st fI fd) (hb : defBody st = [.Assign [.Attribute (.Name "self" q1) f q2] (.Name f q3) q4]) (S : FnScope ["self", f] ["self", f] (defScope st))
    (hs : ∀ env : Env, swapsWith (.Name f q3) (some (.Attribute (.Name "self" q1) f q2)) q4.line env = pure false) (h1 : (f == ("__debug__" : Str)) = false) (h2 : (f == ("__classdict__" : Str)) = false) : FnOk P w K mg base CX0 1 fI fd ["self", f] (spInit1 K f) := by
  refine F.ok S (fun vs H Q E h => ?_) (fun cdv A outer s H vs Q E hr h => ?_)
  · obtain ⟨a, C, y, rfl, _⟩ := h
    rfl
  · obtain ⟨a, C, y, rfl, T, hf, ea, k⟩ := h
    rw [hb]
    refine ⟨_, pss_one (ps_ost (pe_var (i := 0) rfl (vis_of S (by simp))) (pe_var (i := 1) rfl (vis_of S (by simp)) h1 h2) (hs _)), ?_⟩
    exact ⟨_, rfl, _, rfl, a, C, rfl, T, hf, .inl ⟨ea, k⟩⟩
theorem ok_init2 (F : Fun K "__init__" qual st fI fd) (hb : defBody st = [.Assign [.Attribute (.Name "self" q1) f q2] (.Name f q3) q4, .Assign [.Attribute (.Name "self" r1) g r2] (.Name g r3) r4]) (S : FnScope ["self", f, g] ["self", f, g] (defScope st))
    (hs : ∀ env : Env, swapsWith (.Name f q3) (some (.Attribute (.Name "self" q1) f q2)) q4.line env = pure false) (hs2 : ∀ env : Env, swapsWith (.Name g r3) (some (.Attribute (.Name "self" r1) g r2)) r4.line env = pure false)
    (h1 : (f == ("__debug__" : Str)) = false) (h2 : (f == ("__classdict__" : Str)) = false) (h3 : (g == ("__debug__" : Str)) = false) (h4 : (g == ("__classdict__" : Str)) = false) : FnOk P w K mg base CX0 1 fI fd ["self", f, g] (spInit2 K f g) := by
  refine F.ok S (fun vs H Q E h => ?_) (fun cdv A outer s H vs Q E hr h => ?_)
  · obtain ⟨a, C, y, z, rfl, _⟩ := h
    rfl
  · obtain ⟨a, C, y, z, rfl, T, hf, hg, ea, k⟩ := h
    rw [hb]
    refine ⟨_, pss_cons (ps_ost (pe_var (i := 0) rfl (vis_of S (by simp))) (pe_var (i := 1) rfl (vis_of S (by simp)) h1 h2) (hs _))
      (pss_one (ps_ost (pe_var (i := 0) rfl (vis_of S (by simp))) (pe_var (i := 2) rfl (vis_of S (by simp)) h3 h4) (hs2 _))), ?_⟩
    refine ⟨_, rfl, _, rfl, a, C, rfl, T, hf, .inl ⟨ea, fun d hd ne => ?_⟩⟩
    exact ⟨_, rfl, _, rfl, a, C, rfl, T, hg, .inr ⟨d, [(f, y)], upd_same, by rw [upd_ne ne, upd_same], (by show 1 ≤ 900; decide), k d hd ne⟩⟩
/-- how a call with keywords binds: no defaults -/
theorem Fun.kbn {x : Str} {ps ks : List Str} {n : Nat} {gv : List Value → List Value → List Value} {gV : List V → List V → List V} (F : Fun K x qual st fI fd)
    (hrel : ∀ {vs : List V} {us : List Value} {zs : List V} {ws : List Value}, Vals vs us → Vals zs ws → Vals (gV vs zs) (gv us ws))
    (h : ∀ (kV doc pm : Value) (an : Option Addr) (cdv ct : Value) (us ws : List Value), us.length = n → ws.length = ks.length → bindArgs (PySem.W.fnOf x qual (defArgs st) (defBody st) (defScope st) .none kV doc pm an cdv ct) ⟨us, ks.zip ws⟩ = pure (ps.zip (gv us ws))) : KBn K fd ps n ks gv gV := by
  obtain ⟨oc, od, kV, doc, pm, an, cdv, ct, osl, rfl, lk, hcd⟩ := F.ex
  exact ⟨fun s us ws X l1 l2 => .of_eq (h kV doc pm an cdv ct us ws l1 l2), hrel⟩
end
end L2

set_option Elab.async false
set_option linter.all false
set_option maxRecDepth 100000
set_option maxHeartbeats 4000000
/-! What an expression leaves, by a property that lasts. -/
namespace EvP
open PySem L2
def Ex (H H' : Hp) : Prop := ∀ a o, H a = some o → H' a = some o
theorem Ex.refl (H : Hp) : Ex H H := fun _ _ h => h
theorem Ex.trans {H H1 H2 : Hp} (a : Ex H H1) (b : Ex H1 H2) : Ex H H2 := fun x o h => b x o (a x o h)
theorem Ex.new {H : Hp} {p : Addr} {o : HO} (h : H p = none) : Ex H (upd H p o) := fun a u e => by rw [upd_ne (ne_of_none e h)]; exact e
theorem Ex.back {H H' : Hp} (e : Ex H H') {p : Addr} (h : H' p = none) : H p = none := by
  cases h1 : H p with
  | none => rfl
  | some o =>
    rw [e p o h1] at h
    cases h
/-- a property of a value that lasts while objects are only added -/
structure PR where
  R : V → Hp → Prop
  mono : ∀ v H H', Ex H H' → R v H → R v H'
/-- te gives a value with R, and only adds -/
def Gives (te : TE) (σ : St) (H : Hp) (P : PR) : Prop := ∀ H1, Ex H H1 → ∀ Q : VK, (∀ v H2, Ex H1 H2 → P.R v H2 → Q v H2) → te σ H1 Q
inductive All2 (H : Hp) : List PR → List V → Prop
  | nil : All2 H [] []
  | cons {P : PR} {Ps : List PR} {v : V} {vs : List V} : P.R v H → All2 H Ps vs → All2 H (P :: Ps) (v :: vs)
theorem All2.ex {H H' : Hp} (e : Ex H H') : ∀ {Ps : List PR} {vs : List V}, All2 H Ps vs → All2 H' Ps vs
  | _, _, .nil => .nil
  | _, _, .cons h t => .cons (PR.mono _ _ _ _ e h) (All2.ex e t)
theorem All2.length {H : Hp} : ∀ {Ps : List PR} {vs : List V}, All2 H Ps vs → vs.length = Ps.length
  | _, _, .nil => rfl
  | _, _, .cons _ t => congrArg Nat.succ (All2.length t)
theorem All2.append {H : Hp} : ∀ {Ps Qs : List PR} {vs ws : List V}, All2 H Ps vs → All2 H Qs ws → All2 H (Ps ++ Qs) (vs ++ ws)
  | _, _, _, _, .nil, k => k
  | _, _, _, _, .cons h t, k => .cons h (All2.append t k)
theorem All2.get {H : Hp} : ∀ {Ps : List PR} {vs : List V} {i : Nat} {P : PR}, All2 H Ps vs → Ps[i]? = some P → ∃ v, vs[i]? = some v ∧ P.R v H
  | _, _, _, _, .nil, e => by simp at e
  | _, _, 0, _, .cons h _, e => by
    simp at e
    subst e
    exact ⟨_, rfl, h⟩
  | _, _, i + 1, _, .cons _ t, e => by
    obtain ⟨v, h1, h2⟩ := All2.get (i := i) t (by simpa using e)
    exact ⟨v, by simpa using h1, h2⟩
def GivesA (ta : TA) (σ : St) (H : Hp) (Ps : List PR) : Prop := ∀ H1, Ex H H1 → ∀ Q : List V → Hp → Prop, (∀ vs H2, Ex H1 H2 → All2 H2 Ps vs → Q vs H2) → ta σ H1 Q
/-- this very value -/
def is (v : V) : PR := ⟨fun u _ => u = v, fun _ _ _ _ h => h⟩
/-- a tuple of such -/
def tup (Ps : List PR) : PR := ⟨fun u H => ∃ a vs, u = .ref a ∧ H a = some (.tup vs) ∧ All2 H Ps vs, fun _ _ _ e ⟨a, vs, h1, h2, h3⟩ => ⟨a, vs, h1, e _ _ h2, h3.ex e⟩⟩
/-- a list of such, new over H0 -/
def lst (H0 : Hp) (Ps : List PR) : PR := ⟨fun u H => ∃ a vs, u = .ref a ∧ H a = some (.lst vs) ∧ H0 a = none ∧ All2 H Ps vs, fun _ _ _ e ⟨a, vs, h1, h2, h0, h3⟩ => ⟨a, vs, h1, e _ _ h2, h0, h3.ex e⟩⟩
/-- the same, and not the table of modules -/
def lstN (H0 : Hp) (Ps : List PR) : PR := ⟨fun u H => ∃ a vs, u = .ref a ∧ H a = some (.lst vs) ∧ H0 a = none ∧ a ≠ sysModules ∧ All2 H Ps vs, fun _ _ _ e ⟨a, vs, h1, h2, h0, hn, h3⟩ => ⟨a, vs, h1, e _ _ h2, h0, hn, h3.ex e⟩⟩
/-- an exception of the class at C with these fields -/
def err (C : Addr) (fs : List (Str × V)) : PR := ⟨fun u H => ∃ a, u = .ref a ∧ ErrAt H a C fs, fun _ _ _ e ⟨a, h1, h2⟩ => ⟨a, h1, h2.ex e⟩⟩
section
variable {K : PySem.W.Frag} {σ : St} {H : Hp} {te tf : TE} {ta tb : TA} {P : PR} {Ps Qs : List PR} {v : V} {i : Nat} {C fI : Addr} {f g : Str} {x y z : V}
theorem var (h : σ[i]? = some (some v)) : Gives (tVar i) σ H (is v) := fun H1 _ _ q => ⟨v, h, q _ _ (Ex.refl H1) rfl⟩
theorem cst : Gives (tC v) σ H (is v) := fun H1 _ _ q => q _ _ (Ex.refl H1) rfl
theorem nil : GivesA tNil σ H [] := fun H1 _ _ q => q _ _ (Ex.refl H1) .nil
theorem cons (h : Gives te σ H P) (t : GivesA ta σ H Ps) : GivesA (tCons te ta) σ H (P :: Ps) := fun H1 e Q q =>
  h H1 e _ fun v H2 e2 hv => t H2 (e.trans e2) _ fun vs H3 e3 hs => q _ _ (e2.trans e3) (.cons (P.mono _ _ _ e3 hv) hs)
theorem tuple (h : GivesA ta σ H Ps) (hl : Ps.length ≤ 1000) : Gives (tTup ta) σ H (tup Ps) := fun H1 e Q q =>
  h H1 e _ fun vs H2 e2 hs => ⟨by rw [hs.length, sizeLine_eq]; omega, fun p hp => q _ _ (e2.trans (Ex.new hp)) ⟨p, vs, rfl, upd_same, hs.ex (Ex.new hp)⟩⟩
theorem list {H0 : Hp} (e0 : Ex H0 H) (h : GivesA ta σ H Ps) (hl : Ps.length ≤ 1000) : Gives (tLst ta) σ H (lst H0 Ps) := fun H1 e Q q =>
  h H1 e _ fun vs H2 e2 hs => ⟨by rw [hs.length, sizeLine_eq]; omega, fun p hp => q _ _ (e2.trans (Ex.new hp)) ⟨p, vs, rfl, upd_same, ((e0.trans e).trans e2).back hp, hs.ex (Ex.new hp)⟩⟩
theorem listN {H0 : Hp} (e0 : Ex H0 H) (h : GivesA ta σ H Ps) (hl : Ps.length ≤ 1000) : Gives (tLstN ta) σ H (lstN H0 Ps) := fun H1 e Q q =>
  h H1 e _ fun vs H2 e2 hs => ⟨by rw [hs.length, sizeLine_eq]; omega, fun p hp hn => q _ _ (e2.trans (Ex.new hp)) ⟨p, vs, rfl, upd_same, ((e0.trans e).trans e2).back hp, hn, hs.ex (Ex.new hp)⟩⟩
/-- xs + ys, both new -/
theorem cat {H0 : Hp} (e0 : Ex H0 H) (h : Gives te σ H (lst H0 Ps)) (k : Gives tf σ H (lst H0 Qs)) (hl : Ps.length + Qs.length ≤ 1000) : Gives (tOp rCat te tf) σ H (lst H0 (Ps ++ Qs)) := fun H1 e Q q => by
  refine h H1 e _ fun v H2 e2 hv => k H2 (e.trans e2) _ fun u H3 e3 hu => ?_
  obtain ⟨a, vs, rfl, ha, na, va⟩ := (lst H0 Ps).mono _ _ _ e3 hv
  obtain ⟨b, ws, rfl, hb, nb, vb⟩ := hu
  refine ⟨a, b, vs, ws, rfl, rfl, ha, hb, by rw [va.length, vb.length, sizeLine_eq]; omega, fun p hp => ?_⟩
  exact q _ _ ((e2.trans e3).trans (Ex.new hp)) ⟨p, _, rfl, upd_same, (((e0.trans e).trans e2).trans e3).back hp, (va.append vb).ex (Ex.new hp)⟩
theorem varP (h : σ[i]? = some (some v)) (hp : P.R v H) : Gives (tVar i) σ H P := fun H1 e _ q => ⟨v, h, q _ _ (Ex.refl H1) (P.mono _ _ _ e hp)⟩
/-- C(e): the one field -/
theorem err1 {gV : List V → List V → List V} (T : OexC K C) (hf : PySem.W.findIn K (.ref C) f = some none) (h : Gives te σ H (is y)) (hg : ∀ a u, gV [.ref a, u] [] = [.ref a, u]) : Gives (tMkV C 1 0 (spInit1 K f) gV E0 (tCons te tNil) tNil) σ H (err C [(f, y)]) := fun H1 e Q q =>
  h H1 e _ fun v H2 e2 hv => ⟨rfl, rfl, fun a ha => by
    rw [hg, show v = y from hv]
    refine ⟨a, C, y, rfl, T, hf, upd_same, fun d hd ne => ⟨rfl, q _ _ (e2.trans ?_) ⟨a, rfl, .inr ⟨d, upd_same, by rw [upd_ne ne, upd_same]⟩⟩⟩⟩
    have hd' : H2 d = none := by rw [upd_ne ne] at hd; exact hd
    intro b o z
    rw [upd_ne (ne_of_none z ha), upd_ne (ne_of_none z hd'), upd_ne (ne_of_none z ha)]
    exact z⟩
/-- C(f = e) -/
theorem err1K {gV : List V → List V → List V} (T : OexC K C) (hf : PySem.W.findIn K (.ref C) f = some none) (h : Gives te σ H (is y)) (hg : ∀ a u, gV [.ref a] [u] = [.ref a, u]) : Gives (tMkV C 0 1 (spInit1 K f) gV E0 tNil (tCons te tNil)) σ H (err C [(f, y)]) := fun H1 e Q q =>
  h H1 e _ fun v H2 e2 hv => ⟨rfl, rfl, fun a ha => by
    rw [hg, show v = y from hv]
    refine ⟨a, C, y, rfl, T, hf, upd_same, fun d hd ne => ⟨rfl, q _ _ (e2.trans ?_) ⟨a, rfl, .inr ⟨d, upd_same, by rw [upd_ne ne, upd_same]⟩⟩⟩⟩
    have hd' : H2 d = none := by rw [upd_ne ne] at hd; exact hd
    intro b o z
    rw [upd_ne (ne_of_none z ha), upd_ne (ne_of_none z hd'), upd_ne (ne_of_none z ha)]
    exact z⟩
theorem init2_end {H1 H2 : Hp} {Q : VK} {a d : Addr} (e : Ex H1 H2) (ha : H2 a = none) (hd : upd H2 a (exo a C none) d = none) (ne : d ≠ a) (q : ∀ v H3, Ex H1 H3 → (err C [(g, z), (f, y)]).R v H3 → Q v H3) :
    Q (.ref a) (upd (upd (upd (upd H2 a (exo a C none)) d (exd d [(f, y)])) a (exo a C (some d))) d (exd d [(g, z), (f, y)])) := by
  have hd' : H2 d = none := by rw [upd_ne ne] at hd; exact hd
  refine q _ _ (e.trans fun b o w => ?_) ⟨a, rfl, .inr ⟨d, by rw [upd_ne ne.symm, upd_same], upd_same⟩⟩
  rw [upd_ne (ne_of_none w hd'), upd_ne (ne_of_none w ha), upd_ne (ne_of_none w hd'), upd_ne (ne_of_none w ha)]
  exact w
/-- C(f = e, g = e') in the written order of the two -/
theorem err2K {gV : List V → List V → List V} (T : OexC K C) (hf : PySem.W.findIn K (.ref C) f = some none) (hg0 : PySem.W.findIn K (.ref C) g = some none) (h : Gives te σ H (is z)) (k : Gives tf σ H (is y))
    (hg : ∀ a u w, gV [.ref a] [u, w] = [.ref a, w, u]) : Gives (tMkV C 0 2 (spInit2 K f g) gV E0 tNil (tCons te (tCons tf tNil))) σ H (err C [(g, z), (f, y)]) := fun H1 e Q q =>
  h H1 e _ fun v H2 e2 hv => k H2 (e.trans e2) _ fun u H3 e3 hu => ⟨rfl, rfl, fun a ha => by
    rw [hg, show v = z from hv, show u = y from hu]
    exact ⟨a, C, y, z, rfl, T, hf, hg0, upd_same, fun d hd ne => ⟨rfl, init2_end (e2.trans e3) ha hd ne q⟩⟩⟩
/-- C(e, g = e') -/
theorem err2P {gV : List V → List V → List V} (T : OexC K C) (hf : PySem.W.findIn K (.ref C) f = some none) (hg0 : PySem.W.findIn K (.ref C) g = some none) (h : Gives te σ H (is y)) (k : Gives tf σ H (is z))
    (hg : ∀ a u w, gV [.ref a, u] [w] = [.ref a, u, w]) : Gives (tMkV C 1 1 (spInit2 K f g) gV E0 (tCons te tNil) (tCons tf tNil)) σ H (err C [(g, z), (f, y)]) := fun H1 e Q q =>
  h H1 e _ fun v H2 e2 hv => k H2 (e.trans e2) _ fun u H3 e3 hu => ⟨rfl, rfl, fun a ha => by
    rw [hg, show v = y from hv, show u = z from hu]
    exact ⟨a, C, y, z, rfl, T, hf, hg0, upd_same, fun d hd ne => ⟨rfl, init2_end (e2.trans e3) ha hd ne q⟩⟩⟩
theorem err0 : Gives (tExc0 C) σ H (err C []) := fun H1 _ Q q a ha => q _ _ (Ex.new ha) ⟨a, rfl, .inl ⟨rfl, upd_same⟩⟩
variable {u : TS} {D : Ends}
theorem st_set (h : Gives te σ H P) (k : ∀ v H1, Ex H H1 → P.R v H1 → u D (σ.set i (some v)) H1) : tSeq (tAsg te (gName i)) u D σ H := h H (Ex.refl H) _ k
theorem go {Q : VK} (h : Gives te σ H P) (k : ∀ v H1, Ex H H1 → P.R v H1 → Q v H1) : te σ H Q := h H (Ex.refl H) _ k
theorem st_ret (h : Gives te σ H P) (k : ∀ v H1, Ex H H1 → P.R v H1 → D.rt v H1) : tRet te D σ H := h H (Ex.refl H) _ k
end
end EvP

set_option Elab.async false
set_option linter.all false
set_option maxRecDepth 100000
set_option maxHeartbeats 4000000
/-! The small defs of the program that ask of which kind a value is. -/
namespace Fk
open PySem PySem.Spec PyProof.Rows L2
def top (i : Nat) : Stmt := PySem.Challenge.pw_filledrow_k10_sides_made.main.body.getD i (.Pass ⟨0, 0, 0, 0⟩)
abbrev sInteger : Stmt := top 11
abbrev sAmount : Stmt := top 12
abbrev sName : Stmt := top 13
abbrev sNames : Stmt := top 14
abbrev sAmounts : Stmt := top 22
/-- the built-ins that are still themselves, and the constants -/
structure Blt (mg : Str → Option Value) : Prop where
  isi : mg "isinstance" = none
  int : mg "int" = none
  bool : mg "bool" = none
  str : mg "str" = none
  len : mg "len" = none
/-- is_integer(value, least) -/
def spInteger (K : PySem.W.Frag) : Sp := fun vs H Q _ => ∃ (v : V) (n : Int), vs = [v, .int n] ∧
  ((∃ i, v = .int i ∧ Q (.bl (decide (n ≤ i))) H) ∨ (∃ b, v = .bl b ∧ Q (.bl false) H) ∨ (∃ t, TyX K H v (.type t) ∧ kitB t "int" = some false ∧ Q (.bl false) H))
def spAmount (K : PySem.W.Frag) : Sp := fun vs H Q _ => ∃ (v : V), vs = [v] ∧
  ((∃ i, v = .int i ∧ Q (.bl (decide (0 ≤ i))) H) ∨ (∃ b, v = .bl b ∧ Q (.bl false) H) ∨ (∃ t, TyX K H v (.type t) ∧ kitB t "int" = some false ∧ Q (.bl false) H))
/-- what a text is to be a name -/
def nameB (x : Str) : Bool := decide ((x.length : Int) ≤ 8) && !(inV (.str x) [.str "none", .str "self"]) && Txt.isascii x && Txt.isalpha x && Txt.islower x
def spName (K : PySem.W.Frag) : Sp := fun vs H Q _ => ∃ (v : V), vs = [v] ∧
  ((∃ x, v = .str x ∧ x.length ≤ sizeLine ∧ Q (.bl (nameB x)) H) ∨ (∃ t, TyX K H v (.type t) ∧ kitB t "str" = some false ∧ Q (.bl false) H))
theorem scInteger : FnScope ["value", "least"] ["value", "least"] (defScope sInteger) := ⟨rfl, rfl, rfl, by decide +kernel, rfl, by decide +kernel, by decide +kernel⟩
theorem scAmount : FnScope ["value"] ["value"] (defScope sAmount) := ⟨rfl, rfl, rfl, by decide +kernel, rfl, by decide +kernel, by decide +kernel⟩
theorem scName : FnScope ["value"] ["value"] (defScope sName) := ⟨rfl, rfl, rfl, by decide +kernel, rfl, by decide +kernel, by decide +kernel⟩
section
variable {P : Program} {w : World} {K : PySem.W.Frag} {mg : Str → Option Value} {base : Heap} {f fI fN : Addr} {fd fdI fdN : FuncData}
theorem ok_integer (F : FunD K "is_integer" "is_integer" (defArgs sInteger) (defBody sInteger) (defScope sInteger) [.non] [] f fd) (T : Blt mg) : FnOk P w K mg base CX0 1 f fd ["value", "least"] (spInteger K) := by
  refine F.ok (CX := CX0) scInteger (fun vs H Q E h => ?_) (fun cdv A outer s H vs Q E hr h => ?_)
  · obtain ⟨v, n, rfl, _⟩ := h
    rfl
  · obtain ⟨v, n, rfl, h⟩ := h
    refine ⟨_, PSs.nox (pss_one (ps_ret (pe_and (pe_callB call_isi (by rfl) T.isi (by decide +kernel) (pa_cons (pv 0) (pa_cons (pe_bltn (v := .ty "int") (by rfl) T.int (by decide +kernel) rfl) pa_nil)))
      (pe_and (pe_not (pe_callB call_isi (by rfl) T.isi (by decide +kernel) (pa_cons (pv 0) (pa_cons (pe_bltn (v := .ty "bool") (by rfl) T.bool (by decide +kernel) rfl) pa_nil)))) (pe_one (pe_or (pe_cmpR op_isN (pv 1) pe_non (nomark _)) (pe_one (pe_cmpR op_ge (pv 0) (pv 1) (nomark _))))))))), ?_⟩
    rcases h with ⟨i, rfl, q⟩ | ⟨b, rfl, q⟩ | ⟨t, ty, e, q⟩
    · exact ⟨_, rfl, _, _, _, _, true, rfl, .ty _, .base (.int i), kit_ty (by decide +kernel), _, rfl, _, rfl, _, _, _, _, false, rfl, .ty _, .base (.int i), kit_ty (by decide +kernel), _, rfl, true, rfl, _, rfl, rfl, _, rfl, _, rfl, _, rfl, _, _, rfl, rfl, q⟩
    · exact ⟨_, rfl, _, _, _, _, true, rfl, .ty _, .base (.bl b), kit_ty (by decide +kernel), _, rfl, _, rfl, _, _, _, _, true, rfl, .ty _, .base (.bl b), kit_ty (by decide +kernel), _, rfl, false, rfl, q⟩
    · exact ⟨_, rfl, _, _, _, _, false, rfl, .ty _, ty, kit_ty e, _, rfl, q⟩
theorem ok_amount (F : Fun K "is_amount" "is_amount" sAmount f fd) (G : FnOk P w K mg base CX0 1 fI fdI ["value", "least"] (spInteger K)) (b : Binds K fdI ["value", "least"] []) (gI : mg "is_integer" = some (.ref fI)) (kI : PySem.W.keepIn K (.ref fI) = true) :
    FnOk P w K mg base CX0 2 f fd ["value"] (spAmount K) := by
  refine F.ok scAmount (fun vs H Q E h => ?_) (fun cdv A outer s H vs Q E hr h => ?_)
  · obtain ⟨v, rfl, _⟩ := h
    rfl
  · obtain ⟨v, rfl, h⟩ := h
    refine ⟨_, pss_one (ps_ret (pe_call G hr (by rfl) gI kI b .nil pass0 (pa_cons (pv 0) (pa_cons pe_int pa_nil)))), ?_⟩
    exact ⟨_, rfl, v, 0, rfl, h⟩
theorem ok_name (F : Fun K "is_name" "is_name" sName f fd) (T : Blt mg) {tL tN : Nat} {aN : Addr} (gL : mg "LONGEST_NAME" = some (.int 8 tL)) (gN : mg "NO_NAMES" = some (.ref aN)) (hN : ∀ H, SqT K H aN [.str "none", .str "self"]) :
    FnOk P w K mg base CX0 1 f fd ["value"] (spName K) := by
  refine F.ok scName (fun vs H Q E h => ?_) (fun cdv A outer s H vs Q E hr h => ?_)
  · obtain ⟨v, rfl, _⟩ := h
    rfl
  · obtain ⟨v, rfl, h⟩ := h
    refine ⟨_, pss_cons (ps_if (PW.pt (pw_or (pt_not (pt_val (pe_callB call_isi (by rfl) T.isi (by decide +kernel) (pa_cons (pv 0) (pa_cons (pe_bltn (v := .ty "str") (by rfl) T.str (by decide +kernel) rfl) pa_nil)))))
        (pw_or (pt_cmpR op_gt (pe_callB call_len_str (by rfl) T.len PySem.boot_len (pa_cons (pv 0) pa_nil)) (pe_glob (v := .int 8) (by rfl) gL ⟨_, rfl⟩) (nomark _)) (pw_or1 (pt_cmpR op_in_seq (pv 0) (pe_glob (v := .ref aN) (by rfl) gN rfl) (by rfl))))))
        (pss_one (ps_ret pe_bl)) pss_nil)
      (pss_one (ps_ret (pe_and (pe_bm0 PySem.F.plainAttrs_str PySem.F.slot_str_isascii PySem.F.type_str_isascii mt_isascii (pv 0)) (pe_and (pe_bm0 PySem.F.plainAttrs_str PySem.F.slot_str_isalpha PySem.F.type_str_isalpha mt_isalpha (pv 0)) (pe_one (pe_bm0 PySem.F.plainAttrs_str PySem.F.slot_str_islower PySem.F.type_str_islower mt_islower (pv 0))))))), ?_⟩
    rcases h with ⟨x, rfl, hx, q⟩ | ⟨t, ty, e, q⟩
    · refine ⟨_, rfl, _, _, _, _, true, rfl, .ty _, .base (.str x), kit_ty (by decide +kernel), _, rfl, ?_⟩
      refine ⟨_, rfl, x, rfl, hx, _, _, rfl, rfl, _, rfl, ?_⟩
      by_cases h8 : (8 : Int) < x.length
      · rw [decide_eq_true h8]
        have e : nameB x = false := by
          unfold nameB
          rw [decide_eq_false (by omega)]
          rfl
        rw [e] at q
        exact q
      · rw [decide_eq_false h8]
        refine ⟨_, rfl, aN, _, rfl, .inr (hN H), rfl, rfl, _, rfl, ?_⟩
        cases hn : inV (.str x) [.str "none", .str "self"] with
        | true =>
          have e : nameB x = false := by
            unfold nameB
            rw [hn]
            simp
          rw [e] at q
          exact q
        | false =>
          have e : nameB x = (Txt.isascii x && Txt.isalpha x && Txt.islower x) := by
            unfold nameB
            rw [hn, decide_eq_true (by omega)]
            simp
          rw [e] at q
          refine ⟨_, rfl, rfl, x, rfl, rfl, trivial, _, rfl, ?_⟩
          cases h1 : Txt.isascii x with
          | false => rw [h1] at q; exact q
          | true =>
            refine ⟨_, rfl, rfl, x, rfl, rfl, trivial, _, rfl, ?_⟩
            cases h2 : Txt.isalpha x with
            | false => rw [h1, h2] at q; exact q
            | true =>
              rw [h1, h2] at q
              exact ⟨_, rfl, rfl, x, rfl, rfl, trivial, q⟩
    · exact ⟨_, rfl, _, _, _, _, false, rfl, .ty _, ty, kit_ty e, _, rfl, q⟩
/-- what is never reached -/
theorem ps_dead {X : Cx} {st : Stmt} : PS X st (fun _ _ _ => False) := ⟨fun _ _ _ _ _ _ h => h.elim⟩
/-- a text that is a name -/
def NameV (v : V) : Prop := ∃ x : Str, v = .str x ∧ x.length ≤ sizeLine ∧ nameB x = true
/-- an amount -/
def AmtV (v : V) : Prop := ∃ i : Int, v = .int i ∧ 0 ≤ i
/-- check_names(values), all of them names; check_amounts(values), all of them amounts -/
def spAll (K : PySem.W.Frag) (R : V → Prop) : Sp := fun vs H Q _ => ∃ (a : Addr) (xs : List V), vs = [.ref a] ∧ SqL K H a xs ∧ (∀ x ∈ xs, R x) ∧ Q .non H
theorem scNames : FnScope ["values", "value"] ["values"] (defScope sNames) := ⟨rfl, rfl, rfl, by decide +kernel, rfl, by decide +kernel, by decide +kernel⟩
theorem scAmounts : FnScope ["values", "value"] ["values"] (defScope sAmounts) := ⟨rfl, rfl, rfl, by decide +kernel, rfl, by decide +kernel, by decide +kernel⟩
theorem ok_names (F : Fun K "check_names" "check_names" sNames f fd) (G : FnOk P w K mg base CX0 1 fN fdN ["value"] (spName K)) (b : Binds K fdN ["value"] []) (gN : mg "is_name" = some (.ref fN)) (kN : PySem.W.keepIn K (.ref fN) = true) :
    FnOk P w K mg base CX0 2 f fd ["values"] (spAll K NameV) := by
  have nd := scNames.nd
  refine F.ok scNames (fun vs H Q E h => ?_) (fun cdv A outer s H vs Q E hr h => ?_)
  · obtain ⟨a, xs, rfl, _⟩ := h
    rfl
  · obtain ⟨a, xs, rfl, hS, hx, q⟩ := h
    refine ⟨_, pss_one (ps_for PassesOwn.never rfl (pi_list (pv 0)) (pg_name (i := 1) nd rfl (Or.inl rfl))
      (pss_one (ps_if (pt_not (pt_val (pe_call G hr (by rfl) gN kN b .nil pass0 (pa_cons (pv 1) pa_nil)))) (pss_one ps_dead) pss_nil))), ?_⟩
    refine ⟨_, rfl, a, rfl, ⟨_, hS⟩, for_list (xs := xs) (fun i σ H' => H' = H ∧ ∃ o, σ = [some (.ref a), o]) ⟨rfl, _, rfl⟩ (fun i σ H' _ h => by rw [h.1]; exact hS) (fun i x σ H' hi h => ?_) (fun σ H' h => ?_)⟩
    · obtain ⟨rfl, o, rfl⟩ := h
      obtain ⟨z, rfl, hz, hn⟩ := hx x (List.mem_of_getElem? hi)
      refine ⟨_, rfl, _, rfl, .inl ⟨z, rfl, hz, _, rfl, ?_⟩⟩
      rw [hn]
      exact ⟨rfl, _, rfl⟩
    · obtain ⟨rfl, o, rfl⟩ := h
      exact q
theorem ok_amounts (F : Fun K "check_amounts" "check_amounts" sAmounts f fd) (G : FnOk P w K mg base CX0 2 fN fdN ["value"] (spAmount K)) (b : Binds K fdN ["value"] []) (gN : mg "is_amount" = some (.ref fN)) (kN : PySem.W.keepIn K (.ref fN) = true) :
    FnOk P w K mg base CX0 3 f fd ["values"] (spAll K AmtV) := by
  have nd := scAmounts.nd
  refine F.ok scAmounts (fun vs H Q E h => ?_) (fun cdv A outer s H vs Q E hr h => ?_)
  · obtain ⟨a, xs, rfl, _⟩ := h
    rfl
  · obtain ⟨a, xs, rfl, hS, hx, q⟩ := h
    refine ⟨_, pss_one (ps_for PassesOwn.never rfl (pi_list (pv 0)) (pg_name (i := 1) nd rfl (Or.inl rfl))
      (pss_one (ps_if (pt_not (pt_val (pe_call G hr (by rfl) gN kN b .nil pass0 (pa_cons (pv 1) pa_nil)))) (pss_one ps_dead) pss_nil))), ?_⟩
    refine ⟨_, rfl, a, rfl, ⟨_, hS⟩, for_list (xs := xs) (fun i σ H' => H' = H ∧ ∃ o, σ = [some (.ref a), o]) ⟨rfl, _, rfl⟩ (fun i σ H' _ h => by rw [h.1]; exact hS) (fun i x σ H' hi h => ?_) (fun σ H' h => ?_)⟩
    · obtain ⟨rfl, o, rfl⟩ := h
      obtain ⟨z, rfl, hz⟩ := hx x (List.mem_of_getElem? hi)
      refine ⟨_, rfl, _, rfl, .inl ⟨z, rfl, _, rfl, ?_⟩⟩
      rw [decide_eq_true hz]
      exact ⟨rfl, _, rfl⟩
    · obtain ⟨rfl, o, rfl⟩ := h
      exact q
end
end Fk

set_option Elab.async false
set_option linter.all false
set_option maxRecDepth 100000
set_option maxHeartbeats 4000000
/-! The text of a number below 10 ^ 64. -/
namespace Fk
open PySem PySem.Spec PyProof.Rows L2
abbrev sNum : Stmt := top 17
/-- the text of a number -/
def numT (n : Int) : Str := Str.ofString (toString n)
def spNum : Sp := fun vs H Q _ => ∃ n : Int, vs = [.int n] ∧ 0 ≤ n ∧ n < 10 ^ 64 ∧ ∀ H', EvP.Ex H H' → Q (.str (numT n)) H'
theorem scNum : FnScope ["number", "parts", "rest"] ["number"] (defScope sNum) := ⟨rfl, rfl, rfl, by decide +kernel, rfl, by decide +kernel, by decide +kernel⟩
theorem log_small {n : Int} (h0 : 0 ≤ n) (h1 : n < 10 ^ 64) : n.natAbs.log2 < 1920 := by
  by_cases h : n.natAbs = 0
  · rw [h]
    decide
  · refine (Nat.log2_lt h).mpr ?_
    have : n.natAbs < 10 ^ 64 := by omega
    exact Nat.lt_of_lt_of_le this (by decide)
theorem pss_dead {X : Cx} {st : List Stmt} : PSs X st (fun _ _ _ => False) := ⟨fun _ _ _ _ _ _ h => h.elim⟩
section
variable {P : Program} {w : World} {K : PySem.W.Frag} {mg : Str → Option Value} {base : Heap} {f : Addr} {fd : FuncData}
theorem ok_num (F : Fun K "number_text" "number_text" sNum f fd) (T : Blt mg) : FnOk P w K mg base CX0 1 f fd ["number"] spNum := by
  have nd := scNum.nd
  refine F.ok scNum (fun vs H Q E h => ?_) (fun cdv A outer s H vs Q E hr h => ?_)
  · obtain ⟨n, rfl, _⟩ := h
    rfl
  · obtain ⟨n, rfl, h0, h1, q⟩ := h
    refine ⟨_, pss_cons (ps_set (i := 1) nd rfl (Or.inl rfl) (pe_lst pa_nil)) (pss_cons (ps_while PassesOwn.never (pt_cmpR op_ge (pv 0) (pe_op op_pow pe_int pe_int) (nomark _)) pss_dead)
      (pss_one (ps_ret (pe_join pe_str (pe_lst (pa_cons (pe_callTy call_str_int (by rfl) T.str (by decide +kernel) (pa_cons (pv 0) pa_nil)) (StX.pa_star (pe_revL (pv 1)) pa_nil))))))), ?_⟩
    refine ⟨by show 0 ≤ sizeLine; decide, fun p hp => ?_⟩
    have e1 := EvP.Ex.new (o := .lst []) hp
    refine ⟨fun m s h => s = [some (.int n), some (.ref p), none] ∧ h = upd H p (.lst []), ⟨0, rfl, rfl⟩, fun m σ H' h => ?_⟩
    obtain ⟨rfl, rfl⟩ := h
    refine ⟨_, rfl, 10, 64, rfl, rfl, ⟨by decide, by decide, by decide⟩, _, _, rfl, rfl, _, rfl, ?_⟩
    have hz : decide ((10 : Int) ^ (64 : Int).toNat ≤ n) = false := decide_eq_false (by
      show ¬ (10 : Int) ^ 64 ≤ n
      omega)
    rw [hz]
    refine ⟨⟨_, rfl⟩, _, rfl, n, rfl, ?_, _, rfl, p, [], rfl, SqL.of upd_same, fun r hr' => ?_⟩
    · exact log_small h0 h1
    · refine ⟨_, _, rfl, .inr (SqL.of upd_same), by show 1 ≤ sizeLine; decide, fun t ht => ?_⟩
      have e2 := EvP.Ex.new (o := .lst []) hr'
      refine ⟨_, t, [numT n], rfl, rfl, .inl (SqL.of upd_same), ?_, q _ ((e1.trans e2).trans (EvP.Ex.new ht))⟩
      have := toString_length_le h0 (by decide) h1
      show (Str.ofString (toString n)).length + 0 + (1 : Nat) * 0 ≤ 16777216
      omega
end
end Fk

set_option Elab.async false
set_option linter.all false
set_option maxRecDepth 100000
set_option maxHeartbeats 4000000
/-! Comprehensions that only add objects. -/
namespace Cm
open PySem PySem.Spec PyProof.Rows L2 EvP
/-- an iterable whose items are xs, while objects are only added -/
def Walks (wi : TI) (σ : L2.St) (H : Hp) (xs : List V) : Prop := ∀ H1, Ex H H1 → ∀ R : It → Hp → Prop, (∀ J H2, Ex H1 H2 → (∃ G : Hp → Prop, Walk J xs.length G (YAt xs) ∧ ∀ H3, Ex H2 H3 → G H3) → R J H2) → wi σ H1 R
/-- a list, a tuple of just these -/
def lstV (xs : List V) : PR := ⟨fun v H => ∃ a, v = .ref a ∧ H a = some (.lst xs), fun _ _ _ e ⟨a, h1, h2⟩ => ⟨a, h1, e _ _ h2⟩⟩
def tupV (xs : List V) : PR := ⟨fun v H => ∃ a, v = .ref a ∧ H a = some (.tup xs), fun _ _ _ e ⟨a, h1, h2⟩ => ⟨a, h1, e _ _ h2⟩⟩
section
variable {K : PySem.W.Frag} {σ : L2.St} {H : Hp} {tl te : TE} {tt : TT} {xs : List V} {vs : List Nat} {i : Nat} {wi : TI}
theorem walks_list (h : Gives tl σ H (lstV xs)) : Walks (iList K tl) σ H xs := fun H1 e R r =>
  h H1 e _ fun v H2 e2 ⟨a, ev, ha⟩ => ⟨a, ev, ⟨xs, SqL.of ha⟩, r _ _ e2 ⟨_, walk_list, fun H3 e3 => SqL.of (e3 _ _ ha)⟩⟩
theorem walks_tup (h : Gives tl σ H (tupV xs)) : Walks (iTup K tl) σ H xs := fun H1 e R r =>
  h H1 e _ fun v H2 e2 ⟨a, ev, ha⟩ => ⟨a, ev, ⟨xs, SqT.of ha⟩, r _ _ e2 ⟨_, walk_tup, fun H3 e3 => SqT.of (e3 _ _ ha)⟩⟩
theorem all2_snoc {H : Hp} : ∀ {Ps : List PR} {vs : List V} {P : PR} {v : V}, All2 H Ps vs → P.R v H → All2 H (Ps ++ [P]) (vs ++ [v])
  | _, _, _, _, .nil, h => .cons h .nil
  | _, _, _, _, .cons a t, h => .cons a (all2_snoc t h)
/-- what a list that grows does not touch -/
def Stays (P : PR) : Prop := ∀ v H D ys zs, P.R v H → H D = some (.lst ys) → P.R v (upd H D (.lst zs))
theorem all2_stays {H : Hp} {D : Addr} {ys zs : List V} (hD : H D = some (.lst ys)) : ∀ {Ps : List PR} {vs : List V}, (∀ P ∈ Ps, Stays P) → All2 H Ps vs → All2 (upd H D (.lst zs)) Ps vs
  | _, _, _, .nil => .nil
  | _, _, s, .cons a t => .cons (s _ (.head _) _ _ _ _ _ a hD) (all2_stays hD (fun P hP => s P (.tail _ hP)) t)
theorem stays_is (v : V) : Stays (is v) := fun _ _ _ _ _ h _ => h
theorem stays_tupV (ys : List V) : Stays (tupV ys) := fun v H D l1 l2 ⟨a, h1, h2⟩ hD => ⟨a, h1, by
  rw [upd_ne (ne_of h2 hD (fun z => nomatch z))]
  exact h2⟩
/-- [e for x in xs if t] -/
theorem comp (keep : V → Bool) (φ : V → PR) (hw : Walks wi σ H xs) (hz : xs.length ≤ 1000) (wp : ∀ x, wipe ((wipe σ vs).set i (some x)) vs = wipe σ vs)
    (ht : ∀ x ∈ xs, ∀ H1, Ex H H1 → ∀ Q : Bool → Hp → Prop, Q (keep x) H1 → tt ((wipe σ vs).set i (some x)) H1 Q) (he : ∀ x ∈ xs, keep x = true → Gives te ((wipe σ vs).set i (some x)) H (φ x)) (st : ∀ x ∈ xs, Stays (φ x)) :
    Gives (tLc wi (gName i) tt te vs) σ H (lst H ((xs.filter keep).map φ)) := fun H1 e1 Q q => by
  refine hw H1 e1 _ fun J H2 e2 ⟨G, w, g⟩ D hD => ?_
  have mem : ∀ (j : Nat) (P : PR), P ∈ ((xs.take j).filter keep).map φ → Stays P := fun j P hP => by
    obtain ⟨x, hx, rfl⟩ := List.mem_map.mp hP
    exact st x (List.mem_of_mem_take (List.mem_filter.mp hx).1)
  have len : ∀ j, (((xs.take j).filter keep).map φ).length ≤ 1000 := fun j => by
    rw [List.length_map]
    exact Nat.le_trans (List.length_filter_le _ _) (by rw [List.length_take]; omega)
  refine lc_it w (fun j H' => ∃ acc, H' D = some (.lst acc) ∧ Ex H2 H' ∧ All2 H' (((xs.take j).filter keep).map φ) acc) ⟨[], upd_same, Ex.new hD, .nil⟩ (fun j H' _ ⟨_, _, e3, _⟩ => g _ e3) (fun j x H' H'' hj ⟨acc, a1, a2, a3⟩ y => ?_) (fun H' ⟨acc, a1, a2, a3⟩ => ?_)
  · obtain ⟨rfl, hx⟩ := y
    have mx := List.mem_of_getElem? hx
    have eH := (e1.trans e2).trans a2
    have tk : xs.take (j + 1) = xs.take j ++ [x] := by
      rw [List.take_add_one, hx]
      rfl
    refine ⟨wp x, ht x mx _ eH _ ?_⟩
    cases kx : keep x with
    | false =>
      refine ⟨acc, a1, a2, ?_⟩
      rw [tk, List.filter_append, List.filter_cons, kx]
      simpa using a3
    | true =>
      refine he x mx kx _ eH _ fun v H4 e4 hv => ⟨acc, e4 _ _ a1, ?_, acc ++ [v], upd_same, fun b o hb => ?_, ?_⟩
      · have := a3.length
        have := len j
        rw [sizeLine_eq]
        omega
      · rw [upd_ne (ne_of_none hb hD)]
        exact e4 _ _ (a2 _ _ hb)
      · rw [tk, List.filter_append, List.filter_cons, kx, List.map_append]
        refine all2_stays (e4 _ _ a1) (fun P hP => ?_) (all2_snoc (a3.ex e4) hv)
        rcases List.mem_append.mp hP with hP | hP
        · exact mem j P hP
        · rw [List.mem_singleton.mp hP]
          exact st x mx
  · rw [List.take_length] at a3
    exact q _ _ (e2.trans a2) ⟨D, acc, rfl, a1, (e1.trans e2).back hD, a3⟩
theorem all2_is : ∀ {H : Hp} {ws vs : List V}, All2 H (ws.map is) vs → vs = ws
  | _, [], _, .nil => rfl
  | _, w :: ws, _, .cons a t => by rw [show _ = w from a, all2_is t]
/-- .. of values that are told -/
theorem comp_is (keep : V → Bool) (f : V → V) (hw : Walks wi σ H xs) (hz : xs.length ≤ 1000) (wp : ∀ x, wipe ((wipe σ vs).set i (some x)) vs = wipe σ vs)
    (ht : ∀ x ∈ xs, ∀ H1, Ex H H1 → ∀ Q : Bool → Hp → Prop, Q (keep x) H1 → tt ((wipe σ vs).set i (some x)) H1 Q) (he : ∀ x ∈ xs, keep x = true → Gives te ((wipe σ vs).set i (some x)) H (is (f x))) :
    Gives (tLc wi (gName i) tt te vs) σ H (lstV ((xs.filter keep).map f)) := fun H1 e1 Q q =>
  comp keep (fun x => is (f x)) hw hz wp ht he (fun _ _ => stays_is _) H1 e1 Q fun v H2 e2 ⟨a, ws, ev, ha, _, hs⟩ => q v H2 e2 ⟨a, ev, by
    have h2 : All2 H2 ((List.map f (xs.filter keep)).map is) ws := by
      rw [List.map_map]
      exact hs
    rw [← all2_is h2]
    exact ha⟩
/-- [e for k in d], d locked meanwhile -/
theorem comp_keys {m : Nat} {d : Addr} {kvs : List (Key × V)} (f : Key → V) (hd : σ[m]? = some (some (.ref d))) (at_ : H d = some (.dK kvs)) (hz : kvs.length ≤ 1000) (wp : ∀ x, wipe ((wipe σ vs).set i (some x)) vs = wipe σ vs)
    (he : ∀ x ∈ kvs, ∀ H1 (Q : VK), Q (f x.1) H1 → te ((wipe σ vs).set i (some (kV x.1))) H1 Q) :
    Gives (tLockE (tLc (iKeys (tVar m)) (gName i) tYes te vs)) σ H (lstV (kvs.map fun x => f x.1)) := fun H1 e1 Q q => by
  have h1 := e1 _ _ at_
  refine ⟨d, _, h1, True.intro, fun od => ⟨_, hd, d, od, rfl, .inl ⟨kvs, upd_same, fun D hD => ?_⟩⟩⟩
  have nd : d ≠ D := fun z => by
    rw [← z, upd_same] at hD
    cases hD
  have nD : H1 D = none := by rw [upd_ne nd.symm] at hD; exact hD
  refine lc_it walk_keys (fun j H' => H' = upd (upd H1 d (.frz od (.dK kvs))) D (.lst ((kvs.take j).map fun x => f x.1))) (by rw [List.take_zero]; rfl) (fun j H' _ e => by rw [e, upd_ne nd, upd_same]) (fun j x H' H'' hj e y => ?_) (fun H' e => ?_)
  · obtain ⟨rfl, k, v, hk, rfl⟩ := y
    refine ⟨wp _, he (k, v) (List.mem_of_getElem? hk) _ _ ⟨_, by rw [e]; exact upd_same, ?_, ?_⟩⟩
    · rw [List.length_map, List.length_take, sizeLine_eq]
      omega
    · rw [e, List.take_add_one, hk, List.map_append]
      funext b
      by_cases hb : b = D
      · rw [hb, upd_same, upd_same]
        rfl
      · rw [upd_ne hb, upd_ne hb, upd_ne hb]
  · refine ⟨by rw [e, upd_ne nd, upd_same], q _ _ (fun b o hb => ?_) ⟨D, rfl, ?_⟩⟩
    · rw [e]
      by_cases h : b = d
      · rw [h, upd_same, ← h1, ← h]
        exact hb
      · rw [upd_ne h, upd_ne (ne_of_none hb nD), upd_ne h]
        exact hb
    · rw [upd_ne nd.symm, e, upd_same, List.take_length]
end
end Cm

set_option Elab.async false
set_option linter.all false
set_option maxRecDepth 100000
set_option maxHeartbeats 4000000
/-! Names in their order; what a side tells. -/
namespace Fk
open PySem PySem.Spec PyProof.Rows L2 EvP
def leS (a b : Str) : Prop := a.cps.toList ≤ b.cps.toList
theorem leS_trans {a b c : Str} (h : leS a b) (k : leS b c) : leS a c := List.le_trans h k
theorem leS_anti {a b : Str} (h : leS a b) (k : leS b a) : a = b := by
  have := List.le_antisymm h k
  cases a
  cases b
  exact congrArg Str.mk (Array.toList_inj.mp this)
theorem leS_total (a b : Str) : leS a b ∨ leS b a := List.le_total _ _
theorem rising_pairwise : ∀ (l : List Str) (p : Str), risingS p l = true → (p :: l).Pairwise leS
  | [], _, _ => List.pairwise_singleton _ _
  | x :: r, p, h => by
    obtain ⟨h1, h2⟩ := Bool.and_eq_true_iff.mp (show (!ltCps x.cps.toList p.cps.toList && risingS x r) = true from h)
    have h3 : leS p x := by
      rw [ltCps_eq] at h1
      exact List.not_lt.mp (by simpa using h1)
    have ih := rising_pairwise r x h2
    refine List.pairwise_cons.mpr ⟨fun y hy => ?_, ih⟩
    rcases List.mem_cons.mp hy with rfl | hy
    · exact h3
    · exact leS_trans h3 ((List.pairwise_cons.mp ih).1 y hy)
theorem sorted_pairwise : ∀ {l : List Str}, sortedS l = true → l.Pairwise leS
  | [], _ => List.Pairwise.nil
  | x :: r, h => rising_pairwise r x h
/-- names in their order -/
def srt (xs : List Str) : List Str := xs.mergeSort fun a b => decide (a.cps.toList ≤ b.cps.toList)
theorem srt_pairwise (xs : List Str) : (srt xs).Pairwise leS := by
  have := List.pairwise_mergeSort (le := fun a b : Str => decide (a.cps.toList ≤ b.cps.toList)) (fun a b c h k => decide_eq_true (List.le_trans (of_decide_eq_true h) (of_decide_eq_true k)))
    (fun a b => by
      rcases leS_total a b with h | h
      · rw [decide_eq_true (show a.cps.toList ≤ b.cps.toList from h)]
        rfl
      · rw [decide_eq_true (show b.cps.toList ≤ a.cps.toList from h), Bool.or_true]) xs
  exact this.imp fun h => of_decide_eq_true h
theorem srt_perm (xs : List Str) : (srt xs).Perm xs := List.mergeSort_perm xs _
theorem srt_of {xs ys : List Str} (p : ys.Perm xs) (h : sortedS ys = true) : ys = srt xs :=
  List.Perm.eq_of_pairwise (le := leS) (fun _ _ _ _ h k => leS_anti h k) (sorted_pairwise h) (srt_pairwise xs) (p.trans (srt_perm xs).symm)
theorem srt_eq {xs ys : List Str} (p : ys.Perm xs) : srt ys = srt xs :=
  List.Perm.eq_of_pairwise (le := leS) (fun _ _ _ _ h k => leS_anti h k) (srt_pairwise ys) (srt_pairwise xs) ((srt_perm ys).trans (p.trans (srt_perm xs).symm))
/-- names with amounts -/
abbrev Row := List (Str × Int)
def amt (kvs : Row) (n : Str) : Int := (kvs.lookup n).getD 0
/-- all names in their order, each with its amount -/
def asc (kvs : Row) : Row := (srt (kvs.map (·.1))).map fun n => (n, amt kvs n)
/-- those above 0 -/
def told (kvs : Row) : Row := (asc kvs).filter fun t => decide (0 < t.2)
/-- as entries of a dict -/
def ents (kvs : Row) : List (Key × V) := kvs.map fun t => ((Sum.inr t.1 : Key), V.int t.2)
theorem valV_ents : ∀ (kvs : Row) (n : Str), valV (ents kvs) (Sum.inr n) = (kvs.lookup n).map V.int
  | [], _ => rfl
  | t :: r, n => by
    by_cases h : t.1 = n
    · rw [show ents (t :: r) = ((Sum.inr t.1 : Key), V.int t.2) :: ents r from rfl, valV_pos (by rw [h]), show ((t :: r).lookup n) = some t.2 by
        obtain ⟨a, b⟩ := t
        simp only at h
        subst h
        simp [List.lookup]]
      rfl
    · rw [show ents (t :: r) = ((Sum.inr t.1 : Key), V.int t.2) :: ents r from rfl, valV_neg (fun z => h (Sum.inr.inj z)), valV_ents r n, show ((t :: r).lookup n) = r.lookup n by
        obtain ⟨a, b⟩ := t
        have : (n == a) = false := beq_eq_false_iff_ne.mpr fun z => h z.symm
        simp [List.lookup, this]]
theorem lookup_mem : ∀ {kvs : Row} {n : Str}, n ∈ kvs.map (·.1) → ∃ a, kvs.lookup n = some a ∧ (n, a) ∈ kvs
  | (m, b) :: r, n, h => by
    by_cases e : n = m
    · subst e
      exact ⟨b, by simp [List.lookup], .head _⟩
    · rcases List.mem_cons.mp h with h | h
      · exact absurd h e
      · obtain ⟨a, h1, h2⟩ := lookup_mem h
        have : (n == m) = false := beq_eq_false_iff_ne.mpr e
        exact ⟨a, by simp [List.lookup, this, h1], .tail _ h2⟩
theorem amt_of {kvs : Row} {n : Str} (h : n ∈ kvs.map (·.1)) : kvs.lookup n = some (amt kvs n) ∧ (n, amt kvs n) ∈ kvs := by
  obtain ⟨a, h1, h2⟩ := lookup_mem h
  unfold amt
  rw [h1]
  exact ⟨rfl, h2⟩
theorem mem_srt {xs : List Str} {n : Str} : n ∈ srt xs ↔ n ∈ xs := (srt_perm xs).mem_iff
def meth (j : Nat) : Stmt := match top 24 with
  | .ClassDef _ _ _ body _ _ _ _ _ _ _ => body.getD j (.Pass ⟨0, 0, 0, 0⟩)
  | _ => .Pass ⟨0, 0, 0, 0⟩
abbrev sInit : Stmt := meth 0
end Fk

set_option Elab.async false
set_option linter.all false
set_option maxRecDepth 100000
set_option maxHeartbeats 4000000
/-! What calls and signs give, by values. -/
namespace Cm
open PySem PySem.Spec PyProof.Rows L2 EvP
def dictV (kvs : List (Key × V)) : PR := ⟨fun v H => ∃ a, v = .ref a ∧ H a = some (.dK kvs), fun _ _ _ e ⟨a, h1, h2⟩ => ⟨a, h1, e _ _ h2⟩⟩
/-- the same, new over H0 -/
def dictN (H0 : Hp) (kvs : List (Key × V)) : PR := ⟨fun v H => ∃ a, v = .ref a ∧ H a = some (.dK kvs) ∧ H0 a = none, fun _ _ _ e ⟨a, h1, h2, h3⟩ => ⟨a, h1, e _ _ h2, h3⟩⟩
section
variable {K : PySem.W.Frag} {σ : L2.St} {H : Hp} {te tl tv : TE} {xs : List V} {i j : Nat} {vs : List Nat}
theorem g_sorted {ss : List Str} (h : Gives te σ H (lstV (ss.map V.str))) (hz : ss.length < 64) : Gives (tCB (rSortedS K) (tCons te tNil)) σ H (lstV ((Fk.srt ss).map V.str)) := fun H1 e Q q =>
  h H1 e _ fun v H2 e2 ⟨a, ev, ha⟩ => ⟨a, ss, by rw [ev], SqL.of ha, hz, fun ys p pm so hp => by
    rw [Fk.srt_of pm so]
    exact q _ _ (e2.trans (Ex.new hp)) ⟨p, rfl, upd_same⟩⟩
theorem g_sum {ns : List Int} (h : Gives te σ H (lstV (ns.map V.int))) : Gives (tCB (rSum K) (tCons te tNil)) σ H (is (.int ns.sum)) := fun H1 e Q q =>
  h H1 e _ fun v H2 e2 ⟨a, ev, ha⟩ => ⟨a, ns, by rw [ev], SqL.of ha, q _ _ e2 rfl⟩
theorem g_tupV (h : Gives te σ H (lstV xs)) : Gives (tThen te (kTup K)) σ H (tupV xs) := fun H1 e Q q =>
  h H1 e _ fun v H2 e2 ⟨a, ev, ha⟩ => .inl ⟨a, xs, ev, SqL.of ha, fun p hp => q _ _ (e2.trans (Ex.new hp)) ⟨p, rfl, upd_same⟩⟩
theorem g_tup {H0 : Hp} {Ps : List PR} (h : Gives te σ H (lst H0 Ps)) : Gives (tThen te (kTup K)) σ H (tup Ps) := fun H1 e Q q =>
  h H1 e _ fun v H2 e2 ⟨a, ws, ev, ha, _, hs⟩ => .inl ⟨a, ws, ev, SqL.of ha, fun p hp => q _ _ (e2.trans (Ex.new hp)) ⟨p, ws, rfl, upd_same, hs.ex (Ex.new hp)⟩⟩
/-- d[k], d in slot i, k in slot j -/
theorem g_get {d : Addr} {kvs : List (Key × V)} {k : Key} {v : V} (hi : σ[i]? = some (some (.ref d))) (hj : σ[j]? = some (some (kV k))) (hd : H d = some (.dK kvs)) (hv : valV kvs k = some v) : Gives (tDGet (tVar i) (tVar j)) σ H (is v) := fun H1 e Q q =>
  ⟨_, hi, _, hj, d, v, rfl, by rw [← hv]; exact DGet.k (e _ _ hd), q _ _ (Ex.refl H1) rfl⟩
/-- x > n -/
theorem t_gt {a b : TE} {x y : Int} (h : Gives a σ H (is (.int x))) (k : Gives b σ H (is (.int y))) : ∀ H1, Ex H H1 → ∀ Q : Bool → Hp → Prop, (∀ H2, Ex H1 H2 → Q (decide (y < x)) H2) → tTest (tOp (rI0 fun i j => .bl (decide (j < i))) a b) σ H1 Q := fun H1 e Q q =>
  h H1 e _ fun v H2 e2 ev => k H2 (e.trans e2) _ fun u H3 e3 eu => ⟨x, y, ev, eu, _, rfl, q _ (e2.trans e3)⟩
/-- {n: e for n in names} over a tuple of names -/
theorem comp_dict {ss : List Str} (f : Str → V) (h : Gives tl σ H (tupV (ss.map V.str))) (hz : ss.length ≤ 1000) (nod : ss.Nodup) (hi : i < σ.length) (wp : ∀ x, wipe ((wipe σ vs).set i (some x)) vs = wipe σ vs)
    (he : ∀ n ∈ ss, Gives tv ((wipe σ vs).set i (some (.str n))) H (is (f n))) : Gives (tDc (iTup K tl) (gName i) tYes (tVar i) tv vs) σ H (dictN H (ss.map fun n => ((Sum.inr n : Key), f n))) := fun H1 e1 Q q => by
  refine h H1 e1 _ fun v H2 e2 ⟨a, ev, ha⟩ => ⟨a, ev, ⟨_, SqT.of ha⟩, fun D hD => ?_⟩
  refine dc_tup (xs := ss.map V.str) (fun j H' => H' D = some (.dK ((ss.take j).map fun n => ((Sum.inr n : Key), f n))) ∧ Ex H2 H') ⟨by rw [List.take_zero]; exact upd_same, Ex.new hD⟩ (fun j H' _ ⟨_, e3⟩ => SqT.of (e3 _ _ ha)) (fun j x H' hx ⟨a1, a2⟩ => ?_) (fun H' ⟨a1, a2⟩ => ?_)
  · rw [List.getElem?_map] at hx
    obtain ⟨n, hn, rfl⟩ := Option.map_eq_some_iff.mp hx
    have eH := (e1.trans e2).trans a2
    have lw : (wipe σ vs).length = σ.length := wipe_length σ vs
    refine ⟨wp _, .str n, by rw [List.getElem?_set_self (by rw [lw]; exact hi)], he n (List.mem_of_getElem? hn) _ eH _ fun v H4 e4 hv => ⟨_, Sum.inr n, rfl, e4 _ _ a1, ?_, ?_, fun b o hb => ?_⟩⟩
    · rw [List.length_map, List.length_take, sizeLine_eq]
      omega
    · have new : valV ((ss.take j).map fun n => ((Sum.inr n : Key), f n)) (Sum.inr n) = none := by
        have no : ¬ (((ss.take j).map fun n => ((Sum.inr n : Key), f n)).any fun kv => decide (kv.1 = Sum.inr n)) = true := by
          intro y
          obtain ⟨p, hp, ep⟩ := List.any_eq_true.mp y
          obtain ⟨m, hm, rfl⟩ := List.mem_map.mp hp
          have e : m = n := Sum.inr.inj (of_decide_eq_true ep)
          rw [e] at hm
          obtain ⟨t, ht, et⟩ := List.getElem_of_mem hm
          rw [List.getElem_take] at et
          have lt : t < j := by
            rw [List.length_take] at ht
            omega
          obtain ⟨jl, ej⟩ := List.getElem?_eq_some_iff.mp hn
          exact List.pairwise_iff_getElem.mp nod t j (by rw [List.length_take] at ht; omega) jl lt (et.trans ej.symm)
        rw [valV_any] at no
        simpa using no
      rw [upd_same, putK_new _ new, List.take_add_one, hn, List.map_append, show v = f n from hv]
      rfl
    · rw [upd_ne (ne_of_none hb hD)]
      exact e4 _ _ (a2 _ _ hb)
  · rw [List.length_map, List.take_length] at a1
    exact q _ _ (e2.trans a2) ⟨D, rfl, a1, (e1.trans e2).back hD⟩
end
end Cm

set_option Elab.async false
set_option linter.all false
set_option maxRecDepth 100000
set_option maxHeartbeats 4000000
/-! Side.__init__. -/
namespace Fk
open PySem PySem.Spec PyProof.Rows L2 EvP Cm
/-- more built-ins that are still themselves -/
structure Blt2 (mg : Str → Option Value) : Prop where
  sorted : mg "sorted" = none
  tuple : mg "tuple" = none
  sum : mg "sum" = none
/-- the class Side -/
structure SideC (K : PySem.W.Frag) (C : Addr) : Prop where
  cl : Cls K C
  nN : NoAttr K C "names"
  nT : NoAttr K C "total"
  nA : NoAttr K C "_amounts"
  nR : NoAttr K C "_rows"
/-- the side at a tells just ts -/
structure SideAt (C : Addr) (H : Hp) (a : Addr) (ts : Row) : Prop where
  ex : ∃ (dx n d r : Addr) (rows : List V), H a = some (.ins C dx [("names", .ref n), ("total", .int (ts.map (·.2)).sum), ("_amounts", .ref d), ("_rows", .ref r)]) ∧ H n = some (.tup (ts.map fun t => V.str t.1)) ∧ H d = some (.dK (ents ts)) ∧
    H r = some (.tup rows) ∧ All2 H (ts.map fun t => tupV [.str t.1, .int t.2]) rows
theorem SideAt.mono {C : Addr} {H H' : Hp} {a : Addr} {ts : Row} (e : Ex H H') (h : SideAt C H a ts) : SideAt C H' a ts := by
  obtain ⟨dx, n, d, r, rows, h1, h2, h3, h4, h5⟩ := h
  exact ⟨dx, n, d, r, rows, e _ _ h1, e _ _ h2, e _ _ h3, e _ _ h4, h5.ex e⟩
/-- the same, its dict of amounts new over H0 -/
def SideN (C : Addr) (H0 H : Hp) (a : Addr) (ts : Row) : Prop :=
  ∃ (dx n d r : Addr) (rows : List V), H a = some (.ins C dx [("names", .ref n), ("total", .int (ts.map (·.2)).sum), ("_amounts", .ref d), ("_rows", .ref r)]) ∧ H n = some (.tup (ts.map fun t => V.str t.1)) ∧ H d = some (.dK (ents ts)) ∧
    H r = some (.tup rows) ∧ All2 H (ts.map fun t => tupV [.str t.1, .int t.2]) rows ∧ H0 d = none
theorem SideN.at {C : Addr} {H0 H : Hp} {a : Addr} {ts : Row} (h : SideN C H0 H a ts) : SideAt C H a ts := by
  obtain ⟨dx, n, d, r, rows, h1, h2, h3, h4, h5, _⟩ := h
  exact ⟨dx, n, d, r, rows, h1, h2, h3, h4, h5⟩
theorem SideN.mono {C : Addr} {H0 H H' : Hp} {a : Addr} {ts : Row} (e : Ex H H') (h : SideN C H0 H a ts) : SideN C H0 H' a ts := by
  obtain ⟨dx, n, d, r, rows, h1, h2, h3, h4, h5, h6⟩ := h
  exact ⟨dx, n, d, r, rows, e _ _ h1, e _ _ h2, e _ _ h3, e _ _ h4, h5.ex e, h6⟩
theorem SideN.back {C : Addr} {H0 H1 H : Hp} {a : Addr} {ts : Row} (e : Ex H0 H1) (h : SideN C H1 H a ts) : SideN C H0 H a ts := by
  obtain ⟨dx, n, d, r, rows, h1, h2, h3, h4, h5, h6⟩ := h
  exact ⟨dx, n, d, r, rows, h1, h2, h3, h4, h5, e.back h6⟩
/-- amounts by name, good ones -/
structure Good (kvs : Row) : Prop where
  nod : (kvs.map (·.1)).Nodup
  nm : ∀ t ∈ kvs, NameV (.str t.1)
  am : ∀ t ∈ kvs, 0 ≤ t.2
  few : kvs.length < 64
def spInit (C : Addr) : Sp := fun vs H Q _ => ∃ (x d dx : Addr) (kvs : Row), vs = [.ref x, .ref d] ∧ H x = some (.ins C dx []) ∧ H d = some (.dK (ents kvs)) ∧ Good kvs ∧
  ∀ H', (∀ b o, H b = some o → b ≠ x → H' b = some o) → SideN C H H' x (told kvs) → Q .non H'
theorem scInit : FnScope ["side_itself", "amounts", "keywords", "name"] ["side_itself", "amounts"] (defScope sInit) := ⟨rfl, rfl, rfl, by decide +kernel, rfl, by decide +kernel, by decide +kernel⟩
abbrev NI : List Str := ["side_itself", "amounts", "keywords", "name"]
section
variable {K : PySem.W.Frag} {te ta : TE} {σ : L2.St} {H : Hp} {P : PR} {sp : Sp} {dvs : List V} {E : XK} {u : TS} {D : Ends} {f : Str}
theorem st_call (h : EvP.Gives te σ H P) (k : ∀ v H1, Ex H H1 → P.R v H1 → sp ([v] ++ dvs) H1 (fun _ H' => u D σ H') E) : tSeq (tDrop (tCall sp dvs E (tCons te tNil))) u D σ H := h H (Ex.refl H) _ k
theorem st_fld {i : Nat} (h : EvP.Gives te σ H P) (k : ∀ v H1, Ex H H1 → P.R v H1 → ∃ a C dx fs, σ[i]? = some (some (.ref a)) ∧ H1 a = some (.ins C dx fs) ∧ Cls K C ∧ NoAttr K C f ∧ fs.length < 1000 ∧ u D σ (upd H1 a (.ins C dx (putF f v fs)))) :
    tSeq (sFld K (tVar i) te f) u D σ H := h H (Ex.refl H) _ fun v H1 e r => by
  obtain ⟨a, C, dx, fs, h1, h2, h3, h4, h5, h6⟩ := k v H1 e r
  exact ⟨_, h1, a, C, dx, fs, rfl, h2, h3, h4, h5, h6⟩
theorem st_fld1 {i : Nat} (h : EvP.Gives te σ H P) (k : ∀ v H1, Ex H H1 → P.R v H1 → ∃ a C dx fs, σ[i]? = some (some (.ref a)) ∧ H1 a = some (.ins C dx fs) ∧ Cls K C ∧ NoAttr K C f ∧ fs.length < 1000 ∧ D.nx σ (upd H1 a (.ins C dx (putF f v fs)))) :
    sFld K (tVar i) te f D σ H := h H (Ex.refl H) _ fun v H1 e r => by
  obtain ⟨a, C, dx, fs, h1, h2, h3, h4, h5, h6⟩ := k v H1 e r
  exact ⟨_, h1, a, C, dx, fs, rfl, h2, h3, h4, h5, h6⟩
theorem g_fld {i : Nat} {a C dx : Addr} {fs : List (Str × V)} {v : V} (hi : σ[i]? = some (some (.ref a))) (ha : H a = some (.ins C dx fs)) (c : Cls K C) (n : NoAttr K C f) (l : fs.lookup f = some v) (hp : P.R v H) : EvP.Gives (tFld K (tVar i) f) σ H P :=
  fun H1 e Q q => ⟨_, hi, a, C, dx, fs, v, rfl, e _ _ ha, c, n, l, q _ _ (Ex.refl H1) (P.mono _ _ _ e hp)⟩
end
/-- a name's amount, by value -/
def amtV (kvs : Row) : V → V
  | .str n => .int (amt kvs n)
  | _ => .non
def posV (kvs : Row) : V → Bool
  | .str n => decide (0 < amt kvs n)
  | _ => false
def rowP (kvs : Row) : V → PR
  | .str n => tupV [.str n, .int (amt kvs n)]
  | _ => is .non
/-- the names that are told -/
def tns (kvs : Row) : List Str := (srt (kvs.map (·.1))).filter fun n => decide (0 < amt kvs n)
theorem told_eq (kvs : Row) : told kvs = (tns kvs).map fun n => (n, amt kvs n) := by
  unfold told asc tns
  rw [List.filter_map]
  rfl
theorem pos_names (kvs : Row) : ((srt (kvs.map (·.1))).map V.str).filter (posV kvs) = (tns kvs).map V.str := by
  rw [List.filter_map]
  rfl
theorem told_names (kvs : Row) : ((told kvs).map fun t => V.str t.1) = (tns kvs).map V.str := by
  rw [told_eq, List.map_map]
  rfl
theorem told_ents (kvs : Row) : ents (told kvs) = (tns kvs).map fun n => ((Sum.inr n : Key), amtV kvs (.str n)) := by
  unfold ents
  rw [told_eq, List.map_map]
  rfl
theorem told_rows (kvs : Row) : ((told kvs).map fun t => tupV [V.str t.1, .int t.2]) = ((tns kvs).map V.str).map (rowP kvs) := by
  rw [told_eq, List.map_map, List.map_map]
  rfl
theorem sum_pos (g : Str → Int) : ∀ l : List Str, (∀ n ∈ l, 0 ≤ g n) → (l.map g).sum = ((l.filter fun n => decide (0 < g n)).map g).sum
  | [], _ => rfl
  | n :: r, h => by
    have ih := sum_pos g r fun m hm => h m (.tail _ hm)
    have h0 := h n (.head _)
    by_cases p : 0 < g n
    · rw [List.filter_cons, decide_eq_true p, if_pos rfl, List.map_cons, List.map_cons, List.sum_cons, List.sum_cons, ih]
    · rw [List.filter_cons, decide_eq_false p, if_neg Bool.false_ne_true, List.map_cons, List.sum_cons, ih]
      omega
theorem told_sum (kvs : Row) (h : ∀ n ∈ kvs.map (·.1), 0 ≤ amt kvs n) : ((srt (kvs.map (·.1))).map (amt kvs)).sum = ((told kvs).map (·.2)).sum := by
  rw [sum_pos _ _ fun n hn => h n (mem_srt.mp hn), told_eq, List.map_map]
  rfl
theorem ents_keys (kvs : Row) : ((ents kvs).map fun x => kV x.1) = (kvs.map (·.1)).map V.str := by
  unfold ents
  rw [List.map_map, List.map_map]
  rfl
theorem Gives.imp {te : TE} {σ : L2.St} {H : Hp} {Q R : PR} (h : EvP.Gives te σ H Q) (k : ∀ v H, Q.R v H → R.R v H) : EvP.Gives te σ H R := fun H1 e q z => h H1 e q fun v H2 e2 hv => z v H2 e2 (k _ _ hv)
theorem tup_is {xs : List V} {v : V} {H : Hp} (h : (tup (xs.map is)).R v H) : (tupV xs).R v H := by
  obtain ⟨a, ws, ev, ha, hs⟩ := h
  exact ⟨a, ev, by rw [← all2_is hs]; exact ha⟩
theorem rows_stay {H : Hp} {x : Addr} {o o' : HO} (hx : H x = some o) (ho : ∀ ys, o ≠ .tup ys) : ∀ {ts : Row} {vs : List V}, All2 H (ts.map fun t => tupV [V.str t.1, .int t.2]) vs → All2 (upd H x o') (ts.map fun t => tupV [V.str t.1, .int t.2]) vs
  | [], _, .nil => .nil
  | t :: ts, _, .cons ⟨a, ev, ha⟩ r => .cons ⟨a, ev, by
    rw [upd_ne (fun z => by
      rw [z, hx] at ha
      exact ho _ (Option.some.inj ha))]
    exact ha⟩ (rows_stay hx ho r)
section
variable {P : Program} {w : World} {K : PySem.W.Frag} {mg : Str → Option Value} {base : Heap} {C f fN fA : Addr} {fd fdN fdA : FuncData}
theorem ok_init (F : Fun K "__init__" "Side.__init__" sInit f fd) (S : SideC K C) (T : Blt mg) (T2 : Blt2 mg) (G : FnOk P w K mg base CX0 2 fN fdN ["values"] (spAll K NameV)) (bN : Binds K fdN ["values"] []) (gN : mg "check_names" = some (.ref fN)) (kN : PySem.W.keepIn K (.ref fN) = true)
    (GA : FnOk P w K mg base CX0 3 fA fdA ["values"] (spAll K AmtV)) (bA : Binds K fdA ["values"] []) (gA : mg "check_amounts" = some (.ref fA)) (kA : PySem.W.keepIn K (.ref fA) = true) :
    Mrg.KwOk P w K mg base CX0 4 f "side_itself" (spInit C) := by
  have nd := scInit.nd
  refine Mrg.fn_kw (k := 3) F scInit StX.cxUp_none ⟨_, _, _, _, _, _, rfl⟩ fun cdv A outer s H vs Q E hr h => ?_
  obtain ⟨x, d, dx, kvs, rfl, hx, hd, gd, q⟩ := h
  have hu := hu_of hr
  refine ⟨_, pss_cons (ps_set (i := 2) nd rfl (Or.inl rfl) (pe_callB cr_sortedS (by rfl) T2.sorted (by decide +kernel) (pa_cons (pe_lock (pe_lc (own := [("name", 3)]) (g := gName 3) (tt := tYes) rfl nd (pi_keys (pv 1)) (blkOk_by (N := NI) (sc := defScope sInit) (by decide +kernel))
        (fun _ _ _ _ _ => pg_name (i := 3) nd rfl (Or.inl rfl)) (fun _ _ _ _ _ => pts_nil) (fun _ _ _ _ _ => pe_callTy (T := "str") SkE.call_str_str (by rfl) T.str (by decide +kernel) (pa_cons (pv 3) pa_nil)))) pa_nil)))
    (pss_cons (ps_expr (pe_call G (hr.mono (by decide)) (by rfl) gN kN bN .nil pass0 (pa_cons (pv 2) pa_nil)))
    (pss_cons (ps_expr (pe_call GA hr (by rfl) gA kA bA .nil pass0 (pa_cons (pe_lc (own := [("name", 3)]) (g := gName 3) (tt := tYes) (te := tDGet (tVar 1) (tVar 3)) rfl nd (pi_list (pv 2)) (blkOk_by (N := NI) (sc := defScope sInit) (by decide +kernel))
        (fun _ _ _ _ _ => pg_name (i := 3) nd rfl (Or.inl rfl)) (fun _ _ _ _ _ => pts_nil) (fun _ _ _ _ _ => pe_dget hu (pv 1) (pv 3) (fun _ _ => rfl))) pa_nil)))
    (pss_cons (ps_fld (pv 0) (pe_tupleOf (by rfl) T2.tuple (pe_lc (own := [("name", 3)]) (g := gName 3) (tt := tTest (tOp (rI0 fun i j => .bl (decide (j < i))) (tDGet (tVar 1) (tVar 3)) (tC (.int 0)))) (te := tVar 3) rfl nd (pi_list (pv 2)) (blkOk_by (N := NI) (sc := defScope sInit) (by decide +kernel))
        (fun _ _ _ _ _ => pg_name (i := 3) nd rfl (Or.inl rfl)) (fun _ _ _ _ _ => pts_one (pt_cmpR op_gt (pe_dget hu (pv 1) (pv 3) (fun _ _ => rfl)) pe_int (nomark _))) (fun _ _ _ _ _ => pv 3))) rfl)
    (pss_cons (ps_fld (pv 0) (pe_callB (cr_sum rfl) (by rfl) T2.sum (by decide +kernel) (pa_cons (pe_lc (own := [("name", 3)]) (g := gName 3) (tt := tYes) (te := tDGet (tVar 1) (tVar 3)) rfl nd (pi_list (pv 2)) (blkOk_by (N := NI) (sc := defScope sInit) (by decide +kernel))
        (fun _ _ _ _ _ => pg_name (i := 3) nd rfl (Or.inl rfl)) (fun _ _ _ _ _ => pts_nil) (fun _ _ _ _ _ => pe_dget hu (pv 1) (pv 3) (fun _ _ => rfl))) pa_nil)) rfl)
    (pss_cons (ps_fld (pv 0) (pe_dc (own := [("name", 3)]) (g := gName 3) (tt := tYes) (tk := tVar 3) (tv := tDGet (tVar 1) (tVar 3)) rfl nd (pi_tup (pe_fld (pv 0) rfl)) (blkOk_by (N := NI) (sc := defScope sInit) (by decide +kernel))
        (fun _ _ _ _ _ => pg_name (i := 3) nd rfl (Or.inl rfl)) (fun _ _ _ _ _ => pts_nil) (fun _ _ _ _ _ => pv 3) (fun _ _ _ _ _ => pe_dget hu (pv 1) (pv 3) (fun _ _ => rfl))) rfl)
    (pss_one (ps_fld (pv 0) (pe_tupleOf (by rfl) T2.tuple (pe_lc (own := [("name", 3)]) (g := gName 3) (tt := tYes) (te := tTup (tCons (tVar 3) (tCons (tDGet (tVar 1) (tVar 3)) tNil))) rfl nd (pi_tup (pe_fld (pv 0) rfl)) (blkOk_by (N := NI) (sc := defScope sInit) (by decide +kernel))
        (fun _ _ _ _ _ => pg_name (i := 3) nd rfl (Or.inl rfl)) (fun _ _ _ _ _ => pts_nil) (fun _ _ _ _ _ => pe_tup (pa_cons (pv 3) (pa_cons (pe_dget hu (pv 1) (pv 3) (fun _ _ => rfl)) pa_nil))))) rfl))))))), ?_⟩
  have few : kvs.length ≤ 1000 := Nat.le_trans (Nat.le_of_lt gd.few) (by decide)
  have inn : ∀ {n}, n ∈ srt (kvs.map (·.1)) → n ∈ kvs.map (·.1) := fun h => mem_srt.mp h
  have am0 : ∀ n ∈ kvs.map (·.1), 0 ≤ amt kvs n := fun n hn => gd.am _ (amt_of hn).2
  have len : (srt (kvs.map (·.1))).length = kvs.length := by rw [(srt_perm _).length_eq, List.length_map]
  have lenV : ((srt (kvs.map (·.1))).map V.str).length ≤ 1000 := by rw [List.length_map, len]; exact few
  have lenT : (tns kvs).length ≤ 1000 := Nat.le_trans (List.length_filter_le _ _) (by rw [len]; exact few)
  have nodT : (tns kvs).Nodup := ((srt_perm (kvs.map (·.1))).nodup_iff.mpr gd.nod).sublist List.filter_sublist
  have dx' : d ≠ x := ne_of hd hx (fun z => nomatch z)
  -- d[n]
  have get : ∀ (n : Str), n ∈ kvs.map (·.1) → ∀ (H1 : Hp) (o2 : Option V), H1 d = some (.dK (ents kvs)) → EvP.Gives (tDGet (tVar 1) (tVar 3)) [some (.ref x), some (.ref d), o2, some (.str n)] H1 (is (.int (amt kvs n))) := fun n hn H1 o2 h1 =>
    g_get (k := Sum.inr n) rfl rfl h1 (by rw [valV_ents, (amt_of hn).1]; rfl)
  -- keywords
  refine' EvP.st_set ?h1 ?k1
  case h1 =>
    exact (g_sorted (ss := kvs.map (·.1)) (by
      rw [← ents_keys]
      refine comp_keys (m := 1) (d := d) (kvs := ents kvs) kV rfl hd (by unfold ents; rw [List.length_map]; exact few) (fun _ => rfl) fun y hy H1 Q h => ?_
      obtain ⟨t, _, rfl⟩ := List.mem_map.mp hy
      exact ⟨_, rfl, _, rfl, h⟩) (by rw [List.length_map]; exact gd.few))
  intro v1 H1 e1 ⟨a, ev, ha⟩
  subst ev
  have hd1 := e1 _ _ hd
  -- check_names(keywords)
  refine ⟨_, rfl, a, _, rfl, SqL.of ha, fun y hy => ?_, ?_⟩
  · obtain ⟨n, hn, rfl⟩ := List.mem_map.mp hy
    obtain ⟨t, ht, rfl⟩ := List.mem_map.mp (inn hn)
    exact gd.nm t ht
  -- check_amounts([..])
  dsimp only
  refine' st_call ?h2 ?k2
  case h2 =>
    refine comp_is (fun _ => true) (amtV kvs) (walks_list (EvP.varP rfl ⟨a, rfl, ha⟩)) lenV (fun _ => rfl) (fun _ _ H2 _ Q h => h) (fun y hy _ => ?_)
    obtain ⟨n, hn, rfl⟩ := List.mem_map.mp hy
    exact get n (inn hn) H1 _ hd1
  intro v2 H2 e2 ⟨b, ev, hb⟩
  subst ev
  refine ⟨b, _, rfl, SqL.of hb, fun y hy => ?_, ?_⟩
  · obtain ⟨z, hz, rfl⟩ := List.mem_map.mp hy
    obtain ⟨n, hn, rfl⟩ := List.mem_map.mp (List.mem_filter.mp hz).1
    exact ⟨_, rfl, am0 n (inn hn)⟩
  have e12 := e1.trans e2
  have hd2 := e12 _ _ hd
  have ha2 := e2 _ _ ha
  -- names
  dsimp only
  refine' st_fld ?h3 ?k3
  case h3 =>
    refine g_tupV (comp_is (posV kvs) id (walks_list (EvP.varP rfl ⟨a, rfl, ha2⟩)) lenV (fun _ => rfl) (fun y hy H3 e3 Q h => ?_) (fun y hy _ => EvP.var rfl))
    obtain ⟨m, hm, rfl⟩ := List.mem_map.mp hy
    exact ⟨_, rfl, _, rfl, d, .int (amt kvs m), rfl, (by rw [show some (V.int (amt kvs m)) = valV (ents kvs) (Sum.inr m) by rw [valV_ents, (amt_of (inn hm)).1]; rfl]; exact DGet.k (k := Sum.inr m) (e3 _ _ hd2)), amt kvs m, 0, rfl, rfl, _, rfl, h⟩
  intro v3 H3 e3 ⟨n, ev, hn⟩
  subst ev
  rw [List.map_id, pos_names] at hn
  have e123 := e12.trans e3
  have hx3 := e123 _ _ hx
  have ax : a ≠ x := ne_of (e3 _ _ ha2) hx3 (fun z => nomatch z)
  have nx : n ≠ x := ne_of hn hx3 (fun z => nomatch z)
  refine ⟨x, C, dx, [], rfl, hx3, S.cl, S.nN, by decide, ?_⟩
  have k3 : ∀ b o, H3 b = some o → b ≠ x → upd H3 x (.ins C dx (putF "names" (.ref n) [])) b = some o := fun b o h ne => by
    rw [upd_ne ne]
    exact h
  have f3 := upd_same (H := H3) (a := x) (o := .ins C dx (putF "names" (.ref n) []))
  have hd3 := k3 _ _ (e123 _ _ hd) dx'
  have ha3 := k3 _ _ (e3 _ _ ha2) ax
  have hn3 := k3 _ _ hn nx
  generalize upd H3 x (.ins C dx (putF "names" (.ref n) [])) = G3 at k3 f3 hd3 ha3 hn3 ⊢
  -- total
  refine' st_fld ?h4 ?k4
  case h4 =>
    refine g_sum (ns := (srt (kvs.map (·.1))).map (amt kvs)) ?_
    have eq : (((srt (kvs.map (·.1))).map V.str).filter fun _ => true).map (amtV kvs) = ((srt (kvs.map (·.1))).map (amt kvs)).map V.int := by
      rw [List.filter_eq_self.mpr (fun _ _ => rfl), List.map_map, List.map_map]
      rfl
    rw [← eq]
    refine comp_is (fun _ => true) (amtV kvs) (walks_list (EvP.varP rfl ⟨a, rfl, ha3⟩)) lenV (fun _ => rfl) (fun _ _ H2 _ Q h => h) (fun y hy _ => ?_)
    obtain ⟨n, hn, rfl⟩ := List.mem_map.mp hy
    exact get n (inn hn) G3 _ hd3
  intro v4 H4 e4 ev
  subst ev
  have f4 := e4 _ _ f3
  refine ⟨x, C, dx, _, rfl, f4, S.cl, S.nT, by show 1 < 1000; decide, ?_⟩
  have k4 : ∀ b o, G3 b = some o → b ≠ x → upd H4 x (.ins C dx (putF "total" (.int ((srt (kvs.map (·.1))).map (amt kvs)).sum) (putF "names" (.ref n) []))) b = some o := fun b o h ne => by
    rw [upd_ne ne]
    exact e4 _ _ h
  have f5 := upd_same (H := H4) (a := x) (o := .ins C dx (putF "total" (.int ((srt (kvs.map (·.1))).map (amt kvs)).sum) (putF "names" (.ref n) [])))
  have hd4 := k4 _ _ hd3 dx'
  have hn4 := k4 _ _ hn3 nx
  generalize upd H4 x (.ins C dx (putF "total" (.int ((srt (kvs.map (·.1))).map (amt kvs)).sum) (putF "names" (.ref n) []))) = G4 at k4 f5 hd4 hn4 ⊢
  -- _amounts
  refine' st_fld ?h5 ?k5
  case h5 =>
    exact comp_dict (ss := tns kvs) (fun m => amtV kvs (.str m)) (g_fld rfl f5 S.cl S.nN rfl (⟨n, rfl, hn4⟩ : (tupV ((tns kvs).map V.str)).R (.ref n) G4)) lenT nodT (by show 3 < 4; decide) (fun _ => rfl) (fun m hm => get m (inn (List.mem_filter.mp hm).1) G4 _ hd4)
  intro v5 H5 e5 ⟨g, ev, hg, ng⟩
  subst ev
  rw [← told_ents] at hg
  have newg : H g = none := by
    cases hz : H g with
    | none => rfl
    | some o =>
      exfalso
      by_cases gx : g = x
      · rw [gx, f5] at ng
        cases ng
      · rw [k4 _ _ (k3 _ _ (e123 _ _ hz) gx) gx] at ng
        cases ng
  have f6 := e5 _ _ f5
  have gx : g ≠ x := ne_of hg f6 (fun z => nomatch z)
  refine ⟨x, C, dx, _, rfl, f6, S.cl, S.nA, by show 2 < 1000; decide, ?_⟩
  have k5 : ∀ b o, H5 b = some o → b ≠ x → upd H5 x (.ins C dx (putF "_amounts" (.ref g) (putF "total" (.int ((srt (kvs.map (·.1))).map (amt kvs)).sum) (putF "names" (.ref n) [])))) b = some o := fun b o h ne => by
    rw [upd_ne ne]
    exact h
  have f7 := upd_same (H := H5) (a := x) (o := .ins C dx (putF "_amounts" (.ref g) (putF "total" (.int ((srt (kvs.map (·.1))).map (amt kvs)).sum) (putF "names" (.ref n) []))))
  have hd5 := k5 _ _ (e5 _ _ hd4) dx'
  have hn5 := k5 _ _ (e5 _ _ hn4) nx
  have hg5 := k5 _ _ hg gx
  generalize upd H5 x (.ins C dx (putF "_amounts" (.ref g) (putF "total" (.int ((srt (kvs.map (·.1))).map (amt kvs)).sum) (putF "names" (.ref n) [])))) = G5 at k5 f7 hd5 hn5 hg5 ⊢
  -- _rows
  refine' st_fld1 ?h6 ?k6
  case h6 =>
    refine g_tup (comp (fun _ => true) (rowP kvs) (walks_tup (g_fld rfl f7 S.cl S.nN rfl (⟨n, rfl, hn5⟩ : (tupV ((tns kvs).map V.str)).R (.ref n) G5))) (by rw [List.length_map]; exact lenT) (fun _ => rfl) (fun _ _ H2 _ Q h => h) (fun y hy _ => ?_) (fun y hy => ?_))
    · obtain ⟨m, hm, rfl⟩ := List.mem_map.mp hy
      exact Gives.imp (EvP.tuple (EvP.cons (EvP.var rfl) (EvP.cons (get m (inn (List.mem_filter.mp hm).1) G5 _ hd5) EvP.nil)) (by show 2 ≤ 1000; decide)) fun v H h => tup_is (xs := [.str m, .int (amt kvs m)]) h
    · obtain ⟨m, hm, rfl⟩ := List.mem_map.mp hy
      exact stays_tupV _
  intro v6 H6 e6 ⟨r, rows, ev, hr6, hrows⟩
  subst ev
  rw [List.filter_eq_self.mpr (fun _ _ => rfl), ← told_rows] at hrows
  have f8 := e6 _ _ f7
  have rx : r ≠ x := ne_of hr6 f8 (fun z => nomatch z)
  refine ⟨x, C, dx, _, rfl, f8, S.cl, S.nR, by show 3 < 1000; decide, ?_⟩
  have un : ∀ {b o o'}, H6 b = some o → b ≠ x → upd H6 x o' b = some o := fun h ne => by
    rw [upd_ne ne]
    exact h
  refine q _ (fun b o h ne => un (e6 _ _ (k5 _ _ (e5 _ _ (k4 _ _ (k3 _ _ (e123 _ _ h) ne) ne)) ne)) ne) ⟨dx, n, g, r, rows, ?_, ?_, un (e6 _ _ hg5) gx, un hr6 rx, ?_, newg⟩
  · rw [upd_same, told_sum kvs am0] <;> rfl
  · rw [told_names]
    exact un (e6 _ _ hn5) nx
  · exact rows_stay f8 (fun ys z => nomatch z) hrows
end
end Fk

set_option Elab.async false
set_option linter.all false
set_option maxRecDepth 100000
set_option maxHeartbeats 4000000
/-! list(d.values()). -/
namespace Cm
open PySem PySem.Spec PyProof.Rows L2 EvP
theorem kv_vals : ∀ {kvs : List (Key × V)} {vs : List (Key × Value)}, KV kvs vs → Vals (kvs.map (·.2)) (vs.map (·.2))
  | [], [], _ => .nil
  | _ :: _, _ :: _, .cons a t => .cons a.2 (kv_vals t)
def tListVals (td : TE) : TE := fun σ H Q => td σ H fun x H1 => ∃ (a : Addr) (kvs : List (Key × V)), x = .ref a ∧ H1 a = some (.dK kvs) ∧ ∀ p, H1 p = none → Q (.ref p) (upd H1 p (.lst (kvs.map (·.2))))
theorem pe_listVals {X : Cx} {o : Expr} {td : TE} {p pos apos mpos : Pos} (hc : X.calm = true) (hg : Gl X "list") (hm : X.mg "list" = none) (hd : PE X o td) (hbase : attributeBase o "values" X.env (eval o X.env) = eval o X.env := by rfl) (hline : (apos.endLine == mpos.line) = true := by rfl)
    (hse : starEach [Expr.Call (.Attribute o "values" apos) [] [] mpos] X.env = [(false, eval (Expr.Call (.Attribute o "values" apos) [] [] mpos) X.env)] := by rfl) :
    PE X (.Call (.Name "list" p) [.Call (.Attribute o "values" apos) [] [] mpos] [] pos) (tListVals td) := by
  refine ⟨fun pins s σ H Q I h => ?_⟩
  refine wpAny_Call_Name_kw (ld_blt I hg hm (u := .type "list") (by decide +kernel) ?_ (by decide +kernel) (by decide +kernel))
  rw [hse]
  refine PySem.callWith_type1 (wpAny_Call_method0_late hbase hline (thn (hd.run pins s σ H _ I h) fun v s1 ⟨x, H1, I1, r1, a, kvs, ev, ha, q⟩ => ?_))
  subst ev
  obtain rfl : v = Value.ref a := r1
  obtain ⟨z, sy, vs, rel, dof⟩ := dk_of I1.hok ha
  obtain ⟨ep, dat⟩ := dof.dictAt
  have d2 := dat
  obtain ⟨ob, es, ho, ex, _⟩ := d2
  refine ⟨"dict", "dict.values", F.plainAttrs_dict, F.slot_dict_values, F.type_dict_values, ⟨ob, ho, ex.1⟩, fun b e => ?_, Calls.callWith_builtin rfl (PySem.evalArgs_none ?_)⟩
  · cases e
    exact ⟨ob, ho, ex.2.1⟩
  refine call_meetsIn F.slot_dict_values ⟨ob, ho, ex.1⟩ F.entry_dict_values (F.args_dict_values_1 _) (meets_dict_values (mixKind X.prog X.w) a sy) ⟨⟨vs, dof⟩, ?_⟩
  have k1 : ∀ b u, s1.heap.get? b = some u → (s1.heap.push { cls := .type "dict_values", data := .fields #[.ref a] }).get? b = some u := fun b u e => Heap.get?_push_of_some _ e
  have sz : (s1.heap.push { cls := .type "dict_values", data := .fields #[.ref a] }).objs.size = s1.heap.objs.size + 1 := Heap.size_push _ _
  refine PySem.W.kdl_call (PySem.W.kdl_values (knd := mixKind X.prog X.w) (r := s1.heap.objs.size) (d := a) (kvs := vs) (ep := ep)) (I.ok.hd hc) ⟨⟨_, Heap.get?_push_size _ rfl, rfl, rfl⟩, dat.keep k1⟩ (by rw [← rel.length]; exact z) fun h2 tk acc c2 hk hD hacc => ?_
  have hl : acc.toList = vs.map (·.2) := by
    refine List.ext_getElem? fun j => ?_
    rw [List.getElem?_map, Array.getElem?_toList]
    cases hj : acc[j]? with
    | some v =>
      obtain ⟨k, hk2⟩ := hacc.2 j v hj
      rw [hk2]
      rfl
    | none =>
      have : vs.length ≤ j := by
        rw [← hacc.1]
        exact Array.getElem?_eq_none_iff.mp hj
      rw [List.getElem?_eq_none_iff.mpr this]
      rfl
  have new : ObjOk X.prog X.w (upd H1 (s1.heap.objs.size + 1) (.lst (kvs.map (·.2)))) h2 (s1.heap.objs.size + 1) (.lst (kvs.map (·.2))) :=
    ⟨by rw [List.length_map]; exact z, acc.toList, c2, by rw [hl]; exact kv_vals rel, by rw [Array.toArray_toList, ← sz]; exact hD⟩
  have nn : H1 (s1.heap.objs.size + 1) = none := I1.hok.fresh (Nat.le_succ _)
  refine ⟨.ref (s1.heap.objs.size + 1), upd H1 (s1.heap.objs.size + 1) (.lst (kvs.map (·.2))), I1.laid (t' := tk) (fun b u e => hk b u (k1 b u e)) (Nat.le_succ _) new, ?_, q _ nn⟩
  show Value.ref _ = Value.ref _
  rw [sz]
end Cm

set_option Elab.async false
set_option linter.all false
set_option maxRecDepth 100000
set_option maxHeartbeats 4000000
/-! Side.of. -/
namespace Fk
open PySem PySem.Spec PyProof.Rows L2 EvP Cm
abbrev sOf : Stmt := meth 1
/-- a new side -/
theorem made_of {C : Addr} {kvs : Row} {H : Hp} {Q : VK} (g : Good kvs) (q : ∀ a H', Ex H H' → SideN C H H' a (told kvs) → Q (.ref a) H') : Mrg.MadeW C (spInit C) E0 (kvs.map fun t => (t.1, V.int t.2)) H Q := by
  intro x dx hx hdx ne d hd dn
  have dxx : d ≠ x := fun z => by
    rw [z] at hd
    unfold Mrg.made at hd
    rw [upd_same] at hd
    cases hd
  have en : Mrg.nms (kvs.map fun t => (t.1, V.int t.2)) = ents kvs := by
    unfold Mrg.nms ents
    rw [List.map_map]
    rfl
  have ex : Ex H (upd (Mrg.made H C x dx) d (.dK (Mrg.nms (kvs.map fun t => (t.1, V.int t.2))))) := fun b o hb => by
    have m : Mrg.made H C x dx b = some o := by
      unfold Mrg.made
      rw [upd_ne (ne_of_none hb hx), upd_ne (ne_of_none hb hdx)]
      exact hb
    rw [upd_ne (ne_of_none m hd)]
    exact m
  refine ⟨x, d, dx, kvs, rfl, ?_, ?_, g, fun H' k s => ⟨rfl, q x H' (fun b o hb => k b o ?_ (ne_of_none hb hx)) (SideN.back ex s)⟩⟩
  · rw [upd_ne dxx.symm]
    exact upd_same
  · rw [upd_same, en]
  · have m : Mrg.made H C x dx b = some o := by
      unfold Mrg.made
      rw [upd_ne (ne_of_none hb hx), upd_ne (ne_of_none hb hdx)]
      exact hb
    rw [upd_ne (ne_of_none m hd)]
    exact m
theorem good_kws {kvs : Row} (g : Good kvs) : Mrg.Kws "side_itself" (kvs.map fun t => (t.1, V.int t.2)) where
  nod := by
    rw [List.map_map]
    exact g.nod
  no := fun y hy e => by
    obtain ⟨t, ht, rfl⟩ := List.mem_map.mp hy
    obtain ⟨z, ez, _, hn⟩ := g.nm t ht
    cases ez
    rw [show t.1 = "side_itself" from e] at hn
    revert hn
    decide +kernel
  few := by
    rw [List.length_map, sizeLine_eq]
    have := g.few
    omega
def spOf (C : Addr) : Sp := fun vs H Q _ => ∃ (d : Addr) (kvs : Row), vs = [.ref C, .ref d] ∧ H d = some (.dK (ents kvs)) ∧ Good kvs ∧ ∀ a H', Ex H H' → SideN C H H' a (told kvs) → Q (.ref a) H'
theorem scOf : FnScope ["cls", "amounts"] ["cls", "amounts"] (defScope sOf) := ⟨rfl, rfl, rfl, by decide +kernel, rfl, by decide +kernel, by decide +kernel⟩
section
variable {P : Program} {w : World} {K : PySem.W.Frag} {mg : Str → Option Value} {base : Heap} {C f fN fA fI : Addr} {fd fdN fdA : FuncData}
theorem ok_of (F : Fun K "of" "Side.of" sOf f fd) (T : Blt mg) (hD : mg "dict" = none) (hL : mg "list" = none) (G : FnOk P w K mg base CX0 2 fN fdN ["values"] (spAll K NameV)) (bN : Binds K fdN ["values"] []) (gN : mg "check_names" = some (.ref fN)) (kN : PySem.W.keepIn K (.ref fN) = true)
    (GA : FnOk P w K mg base CX0 3 fA fdA ["values"] (spAll K AmtV)) (bA : Binds K fdA ["values"] []) (gA : mg "check_amounts" = some (.ref fA)) (kA : PySem.W.keepIn K (.ref fA) = true)
    (M : Mk K C fI) (GI : Mrg.KwOk P w K mg base CX0 4 fI "side_itself" (spInit C)) (gS : mg "Side" = some (.ref C)) : FnOk P w K mg base CX0 6 f fd ["cls", "amounts"] (spOf C) := by
  refine F.ok scOf (fun vs H Q E h => ?_) (fun cdv A outer s H vs Q E hr h => ?_)
  · obtain ⟨d, kvs, rfl, _⟩ := h
    rfl
  · obtain ⟨d, kvs, rfl, hd, g, q⟩ := h
    refine ⟨_, pss_cons (ps_if (pt_not (pt_val (pe_callB call_isi (by rfl) T.isi (by decide +kernel) (pa_cons (pv 1) (pa_cons (pe_bltn (v := .ty "dict") (by rfl) hD (by decide +kernel) rfl) pa_nil))))) (pss_one ps_dead) pss_nil)
      (pss_cons (ps_expr (pe_call G (hr.mono (by decide)) (by rfl) gN kN bN .nil pass0 (pa_cons (pe_callTy (T := "list") (call_listD rfl) (by rfl) hL (by decide +kernel) (pa_cons (pv 1) pa_nil)) pa_nil)))
      (pss_cons (ps_expr (pe_call GA (hr.mono (by decide)) (by rfl) gA kA bA .nil pass0 (pa_cons (pe_listVals rfl (by rfl) hL (pv 1)) pa_nil)))
      (pss_one (ps_ret (Mrg.pe_makeD M GI hr (by rfl) gS pass0 (pv 1)))))), ?_⟩
    refine ⟨_, rfl, _, _, _, _, true, rfl, .ty _, .base (.dK hd), kit_ty (by decide +kernel), _, rfl, ?_⟩
    refine ⟨_, rfl, d, ents kvs, rfl, .inl hd, fun p1 h1 => ⟨p1, _, rfl, SqL.of upd_same, fun y hy => ?_, ?_⟩⟩
    · obtain ⟨e, he, rfl⟩ := List.mem_map.mp hy
      obtain ⟨t, ht, rfl⟩ := List.mem_map.mp he
      exact g.nm t ht
    have e1 := Ex.new (H := H) (o := .lst ((ents kvs).map fun kv => kV kv.1)) h1
    refine ⟨_, rfl, d, ents kvs, rfl, e1 _ _ hd, fun p2 h2 => ⟨p2, _, rfl, SqL.of upd_same, fun y hy => ?_, ?_⟩⟩
    · obtain ⟨e, he, rfl⟩ := List.mem_map.mp hy
      obtain ⟨t, ht, rfl⟩ := List.mem_map.mp he
      exact ⟨t.2, rfl, g.am t ht⟩
    have e2 := Ex.new (o := .lst ((ents kvs).map (·.2))) h2
    intro c hc
    have e3 := Ex.new (o := .dK []) hc
    have en : Mrg.nms (kvs.map fun t => (t.1, V.int t.2)) = ents kvs := by
      unfold Mrg.nms ents
      rw [List.map_map]
      rfl
    have hd3 := e3 _ _ (e2 _ _ (e1 _ _ hd))
    have cd : c ≠ d := fun z => by
      rw [z] at hc
      rw [e2 _ _ (e1 _ _ hd)] at hc
      cases hc
    have exd : Ex H (upd (upd (upd (upd H p1 (.lst ((ents kvs).map fun kv => kV kv.1))) p2 (.lst ((ents kvs).map (·.2)))) c (.dK [])) c (.dK (Mrg.nms (kvs.map fun t => (t.1, V.int t.2))))) := fun b o hb => by
      have nb := ne_of_none (e2 _ _ (e1 _ _ hb)) hc
      rw [upd_ne nb, upd_ne nb]
      exact e2 _ _ (e1 _ _ hb)
    refine ⟨_, rfl, upd_same, d, kvs.map fun t => (t.1, V.int t.2), rfl, cd, .inl (by rw [en]; exact hd3), good_kws g, made_of g fun a H' e s => q a H' (fun b o hb => e b o (exd b o hb)) (SideN.back exd s)⟩
end
end Fk

set_option Elab.async false
set_option linter.all false
set_option maxRecDepth 100000
set_option maxHeartbeats 4000000
/-! Side's smaller methods. -/
namespace Fk
open PySem PySem.Spec PyProof.Rows L2 EvP Cm
abbrev sLen : Stmt := meth 2
abbrev sHas : Stmt := meth 4
abbrev sItem : Stmt := meth 5
abbrev sWith : Stmt := meth 17
/-- with another amount of a name -/
def putR (ts : Row) (n : Str) (m : Int) : Row := if (ts.any fun t => decide (t.1 = n)) = true then ts.map fun t => if t.1 = n then (t.1, m) else t else ts ++ [(n, m)]
theorem ents_put (ts : Row) (n : Str) (m : Int) : ents (putR ts n m) = putK (ents ts) (Sum.inr n) (.int m) := by
  have an : ((ents ts).any fun kv => decide (kv.1 = (Sum.inr n : Key))) = ts.any fun t => decide (t.1 = n) := by
    unfold ents
    rw [List.any_map]
    refine congrArg (fun p => ts.any p) (funext fun t => ?_)
    by_cases h : t.1 = n
    · simp [h]
    · have : ¬ (Sum.inr t.1 : Key) = Sum.inr n := fun z => h (Sum.inr.inj z)
      simp [h, this]
  unfold putR putK
  rw [an]
  by_cases h : (ts.any fun t => decide (t.1 = n)) = true
  · rw [if_pos h, if_pos h]
    unfold ents
    rw [List.map_map, List.map_map]
    refine List.map_congr_left fun t _ => ?_
    by_cases e : t.1 = n
    · simp [e]
    · have : ¬ (Sum.inr t.1 : Key) = Sum.inr n := fun z => e (Sum.inr.inj z)
      simp [e, this]
  · rw [if_neg h, if_neg h]
    unfold ents
    rw [List.map_append]
    rfl
theorem Good.put {ts : Row} {n : Str} {m : Int} (g : Good ts) (hn : NameV (.str n)) (hm : 0 ≤ m) (hz : ts.length < 63) : Good (putR ts n m) := by
  unfold putR
  by_cases h : (ts.any fun t => decide (t.1 = n)) = true
  · rw [if_pos h]
    have k : (ts.map fun t => if t.1 = n then (t.1, m) else t).map (·.1) = ts.map (·.1) := by
      rw [List.map_map]
      refine List.map_congr_left fun t _ => ?_
      show (if t.1 = n then (t.1, m) else t).1 = t.1
      split <;> rfl
    refine ⟨by rw [k]; exact g.nod, fun y hy => ?_, fun y hy => ?_, by rw [List.length_map]; exact g.few⟩
    · obtain ⟨t, ht, rfl⟩ := List.mem_map.mp hy
      by_cases e : t.1 = n
      · rw [if_pos e]
        exact g.nm t ht
      · rw [if_neg e]
        exact g.nm t ht
    · obtain ⟨t, ht, rfl⟩ := List.mem_map.mp hy
      by_cases e : t.1 = n
      · rw [if_pos e]
        exact hm
      · rw [if_neg e]
        exact g.am t ht
  · rw [if_neg h]
    have no : n ∉ ts.map (·.1) := fun z => by
      obtain ⟨t, ht, e⟩ := List.mem_map.mp z
      exact h (List.any_eq_true.mpr ⟨t, ht, decide_eq_true e⟩)
    refine ⟨?_, fun y hy => ?_, fun y hy => ?_, by rw [List.length_append]; show ts.length + 1 < 64; omega⟩
    · rw [List.map_append, List.nodup_append]
      refine ⟨g.nod, by simp, fun a ha b hb => ?_⟩
      obtain rfl : b = n := by simpa using hb
      intro e
      exact no (e ▸ ha)
    · rcases List.mem_append.mp hy with hy | hy
      · exact g.nm y hy
      · rw [List.mem_singleton.mp hy]
        exact hn
    · rcases List.mem_append.mp hy with hy | hy
      · exact g.am y hy
      · rw [List.mem_singleton.mp hy]
        exact hm
def spLen (C : Addr) : Sp := fun vs H Q _ => ∃ a ts, vs = [.ref a] ∧ SideAt C H a ts ∧ Q (.int ts.length) H
/-- x in side, x no object -/
def spHas (C : Addr) : Sp := fun vs H Q _ => ∃ a ts x, vs = [.ref a, x] ∧ SideAt C H a ts ∧ flatV x = true ∧ Q (.bl (inV x (ts.map fun t => V.str t.1))) H
/-- side[x] -/
def spItem (K : PySem.W.Frag) (C : Addr) : Sp := fun vs H Q _ => ∃ a ts x, vs = [.ref a, x] ∧ SideAt C H a ts ∧
  ((∃ z, x = .str z ∧ z.length ≤ sizeLine ∧ Q (.int (if nameB z then amt ts z else 0)) H) ∨ (∃ t, TyX K H x (.type t) ∧ kitB t "str" = some false ∧ Q (.int 0) H))
def spWith (C : Addr) : Sp := fun vs H Q _ => ∃ a ts n m, vs = [.ref a, .str n, .int m] ∧ SideAt C H a ts ∧ Good ts ∧ NameV (.str n) ∧ 0 ≤ m ∧ ts.length < 63 ∧ ∀ b H', Ex H H' → SideAt C H' b (told (putR ts n m)) → Q (.ref b) H'
theorem scLen : FnScope ["self"] ["self"] (defScope sLen) := ⟨rfl, rfl, rfl, by decide +kernel, rfl, by decide +kernel, by decide +kernel⟩
theorem scHas : FnScope ["self", "x"] ["self", "x"] (defScope sHas) := ⟨rfl, rfl, rfl, by decide +kernel, rfl, by decide +kernel, by decide +kernel⟩
theorem scItem : FnScope ["self", "at"] ["self", "at"] (defScope sItem) := ⟨rfl, rfl, rfl, by decide +kernel, rfl, by decide +kernel, by decide +kernel⟩
theorem scWith : FnScope ["self", "name", "amount"] ["self", "name", "amount"] (defScope sWith) := ⟨rfl, rfl, rfl, by decide +kernel, rfl, by decide +kernel, by decide +kernel⟩
section
variable {P : Program} {w : World} {K : PySem.W.Frag} {mg : Str → Option Value} {base : Heap} {C f fN : Addr} {fd fdN : FuncData}
theorem ok_len (F : Fun K "__len__" "Side.__len__" sLen f fd) (S : SideC K C) (T : Blt mg) : FnOk P w K mg base CX0 1 f fd ["self"] (spLen C) := by
  refine F.ok scLen (fun vs H Q E h => ?_) (fun cdv A outer s H vs Q E hr h => ?_)
  · obtain ⟨a, ts, rfl, _⟩ := h
    rfl
  · obtain ⟨a, ts, rfl, ⟨dx, n, d, r, rows, h1, h2, h3, h4, h5⟩, q⟩ := h
    refine ⟨_, pss_one (ps_ret (pe_callB call_len_seq (by rfl) T.len PySem.boot_len (pa_cons (pe_fld (pv 0) rfl) pa_nil))), ?_⟩
    refine ⟨_, rfl, a, C, dx, _, _, rfl, h1, S.cl, S.nN, rfl, n, _, rfl, .inr (SqT.of h2), ?_⟩
    rw [List.length_map]
    exact q
theorem ok_has (F : Fun K "__contains__" "Side.__contains__" sHas f fd) (S : SideC K C) : FnOk P w K mg base CX0 1 f fd ["self", "x"] (spHas C) := by
  refine F.ok scHas (fun vs H Q E h => ?_) (fun cdv A outer s H vs Q E hr h => ?_)
  · obtain ⟨a, ts, x, rfl, _⟩ := h
    rfl
  · obtain ⟨a, ts, x, rfl, ⟨dx, n, d, r, rows, h1, h2, h3, h4, h5⟩, fx, q⟩ := h
    refine ⟨_, pss_one (ps_ret (pe_cmpR op_in_seq (pv 1) (pe_fld (pv 0) rfl) (by rfl))), ?_⟩
    refine ⟨_, rfl, _, rfl, a, C, dx, _, _, rfl, h1, S.cl, S.nN, rfl, n, _, rfl, .inr (SqT.of h2), fx, ?_, q⟩
    rw [List.all_map]
    exact List.all_eq_true.mpr fun _ _ => rfl
theorem ok_item (F : Fun K "__getitem__" "Side.__getitem__" sItem f fd) (S : SideC K C) (G : FnOk P w K mg base CX0 1 fN fdN ["value"] (spName K)) (b : Binds K fdN ["value"] []) (gN : mg "is_name" = some (.ref fN)) (kN : PySem.W.keepIn K (.ref fN) = true) :
    FnOk P w K mg base CX0 2 f fd ["self", "at"] (spItem K C) := by
  refine F.ok scItem (fun vs H Q E h => ?_) (fun cdv A outer s H vs Q E hr h => ?_)
  · obtain ⟨a, ts, x, rfl, _⟩ := h
    rfl
  · obtain ⟨a, ts, x, rfl, ⟨dx, n, d, r, rows, h1, h2, h3, h4, h5⟩, q⟩ := h
    refine ⟨_, pss_cons (ps_if (pt_not (pt_val (pe_call G hr (by rfl) gN kN b .nil pass0 (pa_cons (pv 1) pa_nil)))) (pss_one (ps_ret pe_int)) pss_nil)
      (pss_one (ps_ret (pe_dget2 (hu_of hr) (pe_fld (pv 0) rfl) (pv 1) pe_int ⟨rfl, rfl, rfl, rfl⟩))), ?_⟩
    rcases q with ⟨z, rfl, hz, q⟩ | ⟨t, ty, e, q⟩
    · refine ⟨_, rfl, _, rfl, .inl ⟨z, rfl, hz, _, rfl, ?_⟩⟩
      cases hb : nameB z with
      | false =>
        rw [hb] at q
        exact q
      | true =>
        rw [hb] at q
        refine ⟨_, rfl, a, C, dx, _, _, rfl, h1, S.cl, S.nA, rfl, d, rfl, .inl ⟨_, .inl h3⟩, _, rfl, _, DGet.k (k := Sum.inr z) h3, ?_⟩
        rw [valV_ents]
        unfold amt at q
        cases hl : ts.lookup z with
        | none =>
          rw [hl] at q
          exact q
        | some m =>
          rw [hl] at q
          exact q
    · exact ⟨_, rfl, _, rfl, .inr ⟨t, ty, e, _, rfl, q⟩⟩
end
end Fk

set_option Elab.async false
set_option linter.all false
set_option maxRecDepth 100000
set_option maxHeartbeats 4000000
/-! Side.with_amount. -/
namespace Fk
open PySem PySem.Spec PyProof.Rows L2 EvP Cm
/-- a def that keeps a promise, by position alone -/
theorem FnOk.toR {P : Program} {w : World} {K : PySem.W.Frag} {mg : Str → Option Value} {base : Heap} {CX : CXT} {k : Nat} {f : Addr} {fd : FuncData} {ps : List Str} {sp : Sp} (F : FnOk P w K mg base CX k f fd ps sp) (b : Binds K fd ps []) : FnR P w K mg base CX k f sp := by
  intro A outer s H us vs Q E hr e0 r h
  have n : (us ++ []).length = ps.length := by rw [List.append_nil, ← r.length]; exact F.len _ _ _ _ h
  exact F.run A outer s H ⟨us, []⟩ (us ++ []) vs Q E hr e0 (b s us (e0.mod.kin.keeps fun b o e => (e0.bs b o e).1) n) (by rw [List.append_nil]; exact r) h
section
variable {P : Program} {w : World} {K : PySem.W.Frag} {mg : Str → Option Value} {base : Heap} {C f fN fA fO pO : Addr} {mc : Value} {fd fdN fdA fdO : FuncData}
theorem ok_with (F : Fun K "with_amount" "Side.with_amount" sWith f fd) (S : SideC K C) (G : FnOk P w K mg base CX0 2 fN fdN ["values"] (spAll K NameV)) (bN : Binds K fdN ["values"] []) (gN : mg "check_names" = some (.ref fN)) (kN : PySem.W.keepIn K (.ref fN) = true)
    (GA : FnOk P w K mg base CX0 3 fA fdA ["values"] (spAll K AmtV)) (bA : Binds K fdA ["values"] []) (gA : mg "check_amounts" = some (.ref fA)) (kA : PySem.W.keepIn K (.ref fA) = true)
    (GO : FnOk P w K mg base CX0 6 fO fdO ["cls", "amounts"] (spOf C)) (bO : Binds K fdO ["cls", "amounts"] []) (r : ClX.CRead K C mc) (c : ClX.CMet K C mc "of" pO fO) (gS : mg "Side" = some (.ref C)) : FnOk P w K mg base CX0 7 f fd ["self", "name", "amount"] (spWith C) := by
  refine F.ok scWith (fun vs H Q E h => ?_) (fun cdv A outer s H vs Q E hr h => ?_)
  · obtain ⟨a, ts, n, m, rfl, _⟩ := h
    rfl
  · obtain ⟨a, ts, n, m, rfl, sa, g, hn, hm, hz, q⟩ := h
    refine ⟨_, pss_cons (ps_expr (pe_call G (hr.mono (by decide)) (by rfl) gN kN bN .nil pass0 (pa_cons (pe_lst (pa_cons (pv 1) pa_nil)) pa_nil)))
      (pss_cons (ps_expr (pe_call GA (hr.mono (by decide)) (by rfl) gA kA bA .nil pass0 (pa_cons (pe_lst (pa_cons (pv 2) pa_nil)) pa_nil)))
      (pss_one (ps_ret (ClX.pe_cmeth (pe_glob (v := .ref C) (by rfl) gS rfl) r c (FnOk.toR GO bO) hr pass0 (pa_cons (Mrg.pe_dispD (pe_fld (pv 0) rfl) (pps_cons (pv 1) (pv 2) pps_nil)) pa_nil))))), ?_⟩
    refine ⟨_, rfl, by show 1 ≤ sizeLine; decide, fun l hl => ⟨l, _, rfl, SqL.of upd_same, fun y hy => ?_, ?_⟩⟩
    · rw [List.mem_singleton.mp hy]
      exact hn
    have e1 := Ex.new (H := H) (o := .lst [V.str n]) hl
    refine ⟨_, rfl, by show 1 ≤ sizeLine; decide, fun l2 hl2 => ⟨l2, _, rfl, SqL.of upd_same, fun y hy => ?_, ?_⟩⟩
    · rw [List.mem_singleton.mp hy]
      exact ⟨m, rfl, hm⟩
    have e2 := Ex.new (o := .lst [V.int m]) hl2
    have e12 := e1.trans e2
    refine ⟨rfl, fun c1 hc => ?_⟩
    have e3 := Ex.new (o := .dK []) hc
    obtain ⟨dx, nn, d, r', rows, h1, h2, h3, h4, h5⟩ := sa.mono (e12.trans e3)
    have hd := e12
    obtain ⟨dx', nn', d', r'', rows', k1, k2, k3, k4, k5⟩ := sa.mono e12
    have dd : d' = d := by
      have := (e3 _ _ k1).symm.trans h1
      injection this with this
      injection this with _ _ this
      injection this with _ this
      injection this with _ this
      injection this with this _
      injection this with _ this
      injection this
    have cd : c1 ≠ d := (ne_of_none (dd ▸ k3) hc).symm
    refine ⟨_, rfl, a, C, dx, _, _, rfl, h1, S.cl, S.nA, rfl, upd_same, d, ents ts, rfl, cd, .inl h3, by unfold ents; rw [List.length_map, sizeLine_eq]; omega, fun c2 hc2 c12 => ?_⟩
    refine ⟨_, rfl, _, rfl, upd_same, by rw [upd_ne c12, upd_same], Sum.inr n, .int m, rfl, c1, putR ts n m, rfl, by rw [upd_same, ents_put], g.put hn hm hz, fun b H' e sb => q b H' (fun p o hp => e p o ?_) sb.at⟩
    have p0 := e12 _ _ hp
    have p1 : p ≠ c1 := ne_of_none p0 hc
    have p2 : p ≠ c2 := ne_of_none (by rw [upd_ne p1]; exact e3 _ _ p0) hc2
    rw [upd_ne p1, upd_ne p2, upd_ne p2, upd_ne p1]
    exact e3 _ _ p0
end
end Fk

set_option Elab.async false
set_option linter.all false
set_option maxRecDepth 100000
set_option maxHeartbeats 4000000
/-! Side.__str__. -/
namespace Cm
open PySem PySem.Spec PyProof.Rows L2 EvP
section
variable {K : PySem.W.Frag} {σ : L2.St} {H : Hp} {te : TE} {xs : List V} {vs : List Nat} {wi : TI} {g : TG}
/-- [e for target in xs], place by place -/
theorem compP {Ps : List PR} (hw : Walks wi σ H xs) (hz : xs.length ≤ 1000) (hl : Ps.length = xs.length)
    (step : ∀ (j : Nat) (x : V) (P : PR), xs[j]? = some x → Ps[j]? = some P → ∃ σ2 : L2.St, wipe σ2 vs = wipe σ vs ∧ (∀ H1, Ex H H1 → ∀ Q : L2.St → Hp → Prop, Q σ2 H1 → g x (wipe σ vs) H1 Q) ∧ EvP.Gives te σ2 H P) (st : ∀ P ∈ Ps, Stays P) :
    EvP.Gives (tLc wi g tYes te vs) σ H (lst H Ps) := fun H1 e1 Q q => by
  refine hw H1 e1 _ fun J H2 e2 ⟨G, w, gd⟩ D hD => ?_
  refine lc_it w (fun j H' => ∃ acc, H' D = some (.lst acc) ∧ Ex H2 H' ∧ All2 H' (Ps.take j) acc) ⟨[], upd_same, Ex.new hD, .nil⟩ (fun j H' _ ⟨_, _, e3, _⟩ => gd _ e3) (fun j x H' H'' hj ⟨acc, a1, a2, a3⟩ y => ?_) (fun H' ⟨acc, a1, a2, a3⟩ => ?_)
  · obtain ⟨rfl, hx⟩ := y
    have eH := (e1.trans e2).trans a2
    have hP : Ps[j]? = some (Ps[j]'(by omega)) := List.getElem?_eq_getElem _
    obtain ⟨σ2, s1, s2, s3⟩ := step j x _ hx hP
    refine s2 _ eH _ ⟨s1, ?_⟩
    refine s3 _ eH _ fun v H4 e4 hv => ⟨acc, e4 _ _ a1, ?_, acc ++ [v], upd_same, fun b o hb => ?_, ?_⟩
    · have := a3.length
      rw [List.length_take] at this
      rw [sizeLine_eq]
      omega
    · rw [upd_ne (ne_of_none hb hD)]
      exact e4 _ _ (a2 _ _ hb)
    · rw [List.take_add_one, hP]
      refine all2_stays (e4 _ _ a1) (fun P hQ => ?_) (all2_snoc (a3.ex e4) hv)
      rcases List.mem_append.mp hQ with hQ | hQ
      · exact st P (List.mem_of_mem_take hQ)
      · rw [List.mem_singleton.mp hQ]
        exact st _ (List.getElem_mem _)
  · rw [← hl, List.take_length] at a3
    exact q _ _ (e2.trans a2) ⟨D, acc, rfl, a1, (e1.trans e2).back hD, a3⟩
theorem walks_tupA {Ps : List PR} {tl : TE} {zs : List V} (h : EvP.Gives tl σ H (tupV zs)) : Walks (iTup K tl) σ H zs := walks_tup h
end
end Cm
namespace Fk
open PySem PySem.Spec PyProof.Rows L2 EvP Cm
abbrev sStr : Stmt := meth 18
theorem st_retJoin {σ : L2.St} {H : Hp} {D : Ends} {P : PR} {te : TE} {a : Str} {r : V → List V → Hp → VK → Prop} (h : EvP.Gives te σ H P) (k : ∀ v H1, Ex H H1 → P.R v H1 → r (.str a) [v] H1 D.rt) : tRet (tM1 r (tC (.str a)) te) D σ H := ⟨⟨a, rfl⟩, h H (Ex.refl H) _ k⟩
/-- a name and its amount, written -/
def wordT (t : Str × Int) : Str := Str.empty ++ t.1 ++ " " ++ numT t.2
def lineT (ts : Row) : Str := if ts.isEmpty = true then "-" else Txt.join " " (ts.map wordT)
/-- amounts that are written at once -/
structure Small (ts : Row) : Prop where
  nm : ∀ t ∈ ts, NameV (.str t.1)
  lo : ∀ t ∈ ts, 0 ≤ t.2
  hi : ∀ t ∈ ts, t.2 < 10 ^ 64
  few : ts.length < 64
theorem name_len {x : Str} (h : nameB x = true) : x.length ≤ 8 := by
  unfold nameB at h
  simp only [Bool.and_eq_true, decide_eq_true_eq] at h
  omega
theorem word_len {t : Str × Int} (hn : NameV (.str t.1)) (lo : 0 ≤ t.2) (hi : t.2 < 10 ^ 64) : (Str.empty ++ t.1).length ≤ 8 ∧ (Str.empty ++ t.1 ++ " ").length ≤ 9 ∧ (wordT t).length ≤ 73 := by
  obtain ⟨z, ez, _, hb⟩ := hn
  cases ez
  have l1 := name_len hb
  have l2 := toString_length_le lo (k := 64) (by decide) hi
  have a0 : (Str.empty ++ t.1).length = t.1.length := by
    rw [Str.length_append]
    exact Nat.zero_add _
  have a1 : (Str.empty ++ t.1 ++ " ").length = t.1.length + 1 := by
    rw [Str.length_append, a0]
    rfl
  have a2 : (wordT t).length = t.1.length + 1 + (numT t.2).length := by
    unfold wordT
    rw [Str.length_append, a1]
  refine ⟨by omega, by omega, ?_⟩
  rw [a2]
  have : (numT t.2).length ≤ 64 := l2
  omega
def spStr (C : Addr) : Sp := fun vs H Q _ => ∃ a ts, vs = [.ref a] ∧ SideAt C H a ts ∧ Small ts ∧ ∀ H', Ex H H' → Q (.str (lineT ts)) H'
theorem words_len : ∀ {ts : Row}, (∀ t ∈ ts, (wordT t).length ≤ 73) → ((ts.map wordT).map (·.length)).sum ≤ ts.length * 73
  | [], _ => Nat.le_refl _
  | t :: r, h => by
    have ih := words_len fun y hy => h y (.tail _ hy)
    have h0 := h t (.head _)
    rw [List.map_cons, List.map_cons, List.sum_cons, List.length_cons]
    omega
theorem scStr : FnScope ["self", "name", "amount"] ["self"] (defScope sStr) := ⟨rfl, rfl, rfl, by decide +kernel, rfl, by decide +kernel, by decide +kernel⟩
section
variable {P : Program} {w : World} {K : PySem.W.Frag} {mg : Str → Option Value} {base : Heap} {C f fN : Addr} {fd fdN : FuncData}
theorem ok_str (F : Fun K "__str__" "Side.__str__" sStr f fd) (S : SideC K C) (G : FnOk P w K mg base CX0 1 fN fdN ["number"] spNum) (b : Binds K fdN ["number"] []) (gN : mg "number_text" = some (.ref fN)) (kN : PySem.W.keepIn K (.ref fN) = true) : FnOk P w K mg base CX0 2 f fd ["self"] (spStr C) := by
  have nd := scStr.nd
  refine F.ok scStr (fun vs H Q E h => ?_) (fun cdv A outer s H vs Q E hr h => ?_)
  · obtain ⟨a, ts, rfl, _⟩ := h
    rfl
  · obtain ⟨a, ts, rfl, ⟨dx, n, d, r, rows, h1, h2, h3, h4, h5⟩, sm, q⟩ := h
    refine ⟨_, pss_cons (ps_if (pt_not (pt_truth (pe_fld (pv 0) rfl) (by intro _; rfl))) (pss_one (ps_ret pe_str)) pss_nil)
      (pss_one (ps_ret (pe_join pe_str (pe_lc (own := [("name", 1), ("amount", 2)]) (g := gTup K 2 (gCons (gName 1) (gCons (gName 2) gNil))) (tt := tYes) rfl nd (pi_tup (pe_fld (pv 0) rfl)) (blkOk_by (N := ["self", "name", "amount"]) (sc := defScope sStr) (by decide +kernel))
        (fun _ _ _ _ _ => by exact pg_tup rfl (pgs_cons (pg_name (i := 1) nd rfl (Or.inl rfl)) (pgs_cons (pg_name (i := 2) nd rfl (Or.inl rfl)) pgs_nil))) (fun _ _ _ _ _ => pts_nil)
        (fun _ _ _ _ _ => pe_joined (.cons (pe_fmt (pv 1)) (.cons pe_str (.cons (pe_fmt (pe_call G hr (by rfl) gN kN b .nil pass0 (pa_cons (pv 2) pa_nil))) .nil)))))))), ?_⟩
    refine ⟨_, rfl, a, C, dx, _, _, rfl, h1, S.cl, S.nN, rfl, _, .inr (.inl ⟨_, SqT.of h2, rfl⟩), ?_⟩
    cases ts with
    | nil => exact q H (Ex.refl H)
    | cons t0 tr =>
      generalize hts : t0 :: tr = ts at *
      have ne : ts.isEmpty = false := by
        rw [← hts]
        rfl
      have line : lineT ts = Txt.join " " (ts.map wordT) := by
        unfold lineT
        rw [ne, if_neg Bool.false_ne_true]
      have emp : (ts.map fun t => V.str t.1).isEmpty = false := by
        rw [← hts]
        rfl
      rw [emp]
      have rl : rows.length = ts.length := by
        have := h5.length
        rw [List.length_map] at this
        exact this
      rw [if_neg (by decide)]
      dsimp only [tNext]
      refine' st_retJoin ?h1 ?k1
      case h1 =>
        refine compP (Ps := ts.map fun t => is (.str (wordT t))) (walks_tup (g_fld rfl h1 S.cl S.nR rfl (⟨r, rfl, h4⟩ : (tupV rows).R (.ref r) H))) (by rw [rl]; have := sm.few; omega) (by rw [List.length_map, rl]) (fun j x P hx hP => ?_) (fun P hP => ?_)
        · rw [List.getElem?_map] at hP
          obtain ⟨t, ht, rfl⟩ := Option.map_eq_some_iff.mp hP
          have mt := List.mem_of_getElem? ht
          obtain ⟨v, hv, p, ev, hp⟩ := h5.get (i := j) (P := tupV [.str t.1, .int t.2]) (by rw [List.getElem?_map, ht]; rfl)
          have exv : x = v := Option.some.inj (hx.symm.trans hv)
          subst exv
          subst ev
          obtain ⟨l1, l2, l3⟩ := word_len (sm.nm t mt) (sm.lo t mt) (sm.hi t mt)
          have big : ∀ {k}, k ≤ 73 → k ≤ sizeLine := fun h => by
            rw [sizeLine_eq]
            omega
          have ln : t.1.length ≤ sizeLine := by
            obtain ⟨z, ez, hz, _⟩ := sm.nm t mt
            cases ez
            exact hz
          have lm : (numT t.2).length ≤ sizeLine := by
            have := toString_length_le (sm.lo t mt) (k := 64) (by decide) (sm.hi t mt)
            exact big (Nat.le_trans this (by decide))
          refine ⟨[some (.ref a), some (.str t.1), some (.int t.2)], rfl, fun H1 e Q k => ⟨p, _, rfl, SqT.of (e _ _ hp), rfl, _, _, rfl, _, _, rfl, rfl, k⟩, fun H1 e Q k => ?_⟩
          exact ⟨_, rfl, .inl ⟨t.1, rfl, ln, t.1, rfl, big (by omega), " ", rfl, big (by omega), _, rfl, t.2, rfl, sm.lo t mt, sm.hi t mt, fun H' e' => .inl ⟨numT t.2, rfl, lm, numT t.2, rfl, big l3, k _ _ e' rfl⟩⟩⟩
        · obtain ⟨t, _, rfl⟩ := List.mem_map.mp hP
          exact stays_is _
      intro v H1 e1 ⟨D, ws, ev, hD, _, hs⟩
      subst ev
      have ews : ws = (ts.map wordT).map V.str := by
        rw [List.map_map]
        refine all2_is (H := H1) ?_
        rw [List.map_map]
        exact hs
      subst ews
      refine ⟨" ", D, ts.map wordT, rfl, rfl, .inl (SqL.of hD), ?_, by rw [← line]; exact q _ e1⟩
      have w := words_len (ts := ts) fun t mt => (word_len (sm.nm t mt) (sm.lo t mt) (sm.hi t mt)).2.2
      have f := sm.few
      rw [List.length_map]
      show _ + ts.length * 1 ≤ 16777216
      omega
end
end Fk

set_option Elab.async false
set_option linter.all false
set_option maxRecDepth 100000
set_option maxHeartbeats 4000000
/-! Side.__eq__ and Side.__iter__. -/
namespace Fk
open PySem PySem.Spec PyProof.Rows L2 EvP Cm
abbrev sIter : Stmt := meth 3
abbrev sEq : Stmt := meth 16
/-- a row as data -/
def rowD (t : Str × Int) : PyData := .tuple [.str t.1, .int t.2]
def rowsD (ts : Row) : PyData := .tuple (ts.map rowD)
theorem dp_rows {K : PySem.W.Frag} {H : Hp} : ∀ {ts : Row} {rows : List V}, All2 H (ts.map fun t => tupV [V.str t.1, .int t.2]) rows → DpAll K H rows (ts.map rowD)
  | [], _, .nil => .nil
  | _ :: _, _, .cons ⟨_, ev, ha⟩ r => by
    subst ev
    exact .cons (.tup (SqT.of ha) (.cons (.str _) (.cons (.int _) .nil))) (dp_rows r)
theorem eqv_rows : ∀ ts us : Row, PyData.eqvAll (ts.map rowD) (us.map rowD) = decide (ts = us)
  | [], [] => rfl
  | [], _ :: _ => rfl
  | _ :: _, [] => rfl
  | t :: ts, u :: us => by
    show (PyData.eqv (rowD t) (rowD u) && PyData.eqvAll (ts.map rowD) (us.map rowD)) = _
    rw [eqv_rows ts us]
    have e : PyData.eqv (rowD t) (rowD u) = decide (t = u) := by
      show ((t.1 == u.1) && ((t.2 == u.2) && true)) = _
      obtain ⟨a, b⟩ := t
      obtain ⟨c, d⟩ := u
      by_cases h1 : a = c
      · by_cases h2 : b = d
        · simp [h1, h2]
        · simp [h2]
      · simp [h1]
    rw [e]
    by_cases h1 : t = u
    · by_cases h2 : ts = us
      · simp [h1, h2]
      · simp [h2]
    · simp [h1]
theorem depth_rows : ∀ ts : Row, PyData.depthAll (ts.map rowD) ≤ 1
  | [] => Nat.zero_le _
  | t :: ts => by
    have ih := depth_rows ts
    show max (PyData.depth (rowD t)) (PyData.depthAll (ts.map rowD)) ≤ 1
    have : PyData.depth (rowD t) = 1 := rfl
    omega
theorem lay_rows : ∀ {ts : Row}, (∀ t ∈ ts, PyData.strOk t.1 = true) → PyData.canLayAll0 (ts.map rowD) = true
  | [], _ => rfl
  | t :: ts, h => by
    have ih := lay_rows fun y hy => h y (.tail _ hy)
    show (PyData.canLay0 (rowD t) && PyData.canLayAll0 (ts.map rowD)) = true
    rw [ih, Bool.and_true]
    show (PyData.strOk t.1 && (true && true)) = true
    rw [h t (.head _)]
    rfl
theorem shaped_rows {ts : Row} (h : ∀ t ∈ ts, PyData.strOk t.1 = true) : SeqAt.shaped (rowsD ts) = true := by
  have d := depth_rows ts
  show (PyData.canLayAll0 (ts.map rowD) && decide (PyData.depthAll (ts.map rowD) + 1 ≤ 64)) = true
  rw [lay_rows h, decide_eq_true (by omega)]
  rfl
/-- side == side -/
def spEq (C : Addr) : Sp := fun vs H Q _ => ∃ a b ts us, vs = [.ref a, .ref b] ∧ SideAt C H a ts ∧ SideAt C H b us ∧ (∀ t ∈ ts, PyData.strOk t.1 = true) ∧ (∀ t ∈ us, PyData.strOk t.1 = true) ∧ Q (.bl (decide (ts = us))) H
/-- side == any other kind of thing -/
def spNe (K : PySem.W.Frag) (C : Addr) : Sp := fun vs H Q _ => ∃ x y t, vs = [x, y] ∧ TyX K H y t ∧ PySem.W.kitOne K t (.ref C) = some false ∧ Q (.bl false) H
def spEqs (K : PySem.W.Frag) (C : Addr) : Sp := fun vs H Q E => spEq C vs H Q E ∨ spNe K C vs H Q E
theorem scEq : FnScope ["self", "other"] ["self", "other"] (defScope sEq) := ⟨rfl, rfl, rfl, by decide +kernel, rfl, by decide +kernel, by decide +kernel⟩
theorem scIter : FnScope ["self"] ["self"] (defScope sIter) := ⟨rfl, rfl, rfl, by decide +kernel, rfl, by decide +kernel, by decide +kernel⟩
/-- the class, asked of its own instances -/
structure SideI (K : PySem.W.Frag) (C : Addr) : Prop where
  ha : PySem.W.findIn K (.ref C) "__class__" = some (some (.builtin "object.__class__"))
  hn : PySem.W.specialIn K (.builtin "object.__class__") "__get__" = some (some (.builtin "getset_descriptor.__get__"))
  htk : PySem.W.takesIn K (.builtin "object.__class__") = some true
  hm : PySem.W.mroIn K C (.type "object") = some true
/-- iter(side) -/
def spIter (C : Addr) (n : Nat) : Sp := fun vs H Q _ => ∃ a ts, vs = [.ref a] ∧ SideAt C H a ts ∧ ∀ r rows it, H r = some (.tup rows) → All2 H (ts.map fun t => tupV [V.str t.1, .int t.2]) rows → H it = none → n ≤ it → Q (.ref it) (upd H it (Own.ItT r it))
section
variable {P : Program} {w : World} {K : PySem.W.Frag} {mg : Str → Option Value} {base : Heap} {C f : Addr} {fd : FuncData}
theorem ok_eq (F : Fun K "__eq__" "Side.__eq__" sEq f fd) (S : SideC K C) (SI : SideI K C) (T : Blt mg) (gS : mg "Side" = some (.ref C)) : FnOk P w K mg base CX0 1 f fd ["self", "other"] (spEqs K C) := by
  refine F.ok scEq (fun vs H Q E h => ?_) (fun cdv A outer s H vs Q E hr h => ?_)
  · rcases h with ⟨a, b, ts, us, rfl, _⟩ | ⟨x, y, t, rfl, _⟩ <;> rfl
  · refine ⟨_, pss_one (ps_ret (pe_and (pe_callB call_isi (by rfl) T.isi (by decide +kernel) (pa_cons (pv 1) (pa_cons (pe_glob (v := .ref C) (by rfl) gS rfl) pa_nil)))
      (pe_one (pe_cmpR (op_eqD hr.units) (pe_fld (pv 0) rfl) (pe_fld (pv 1) rfl) (nomark _))))), ?_⟩
    rcases h with ⟨a, b, ts, us, rfl, ⟨dx, n, d, r, rows, h1, h2, h3, h4, h5⟩, ⟨dx', n', d', r', rows', k1, k2, k3, k4, k5⟩, o1, o2, q⟩ | ⟨x, y, t, rfl, ty, kt, q⟩
    · refine ⟨_, rfl, _, _, _, _, true, rfl, .own C, .base (.ins k1 S.cl SI.ha SI.hn SI.htk SI.hm), ?_, _, rfl, ?_⟩
      · unfold PySem.W.kitOne
        rw [if_pos (by simp)]
      refine ⟨_, rfl, a, C, dx, _, _, rfl, h1, S.cl, S.nR, rfl, _, rfl, b, C, dx', _, _, rfl, k1, S.cl, S.nR, rfl, rowsD ts, rowsD us, .tup (SqT.of h4) (dp_rows h5), .tup (SqT.of k4) (dp_rows k5), shaped_rows o1, shaped_rows o2, ?_⟩
      rw [show PyData.eqv (rowsD ts) (rowsD us) = decide (ts = us) from eqv_rows ts us]
      exact q
    · exact ⟨_, rfl, _, _, _, _, false, rfl, .own C, ty, kt, _, rfl, q⟩
theorem ok_iter (F : Fun K "__iter__" "Side.__iter__" sIter f fd) (S : SideC K C) (hI : mg "iter" = none) : Own.FnZ P w K mg base 1 f ["self"] fd (spIter C) := by
  refine Own.Fun.okZ F scIter fun cdv A outer s H vs Q hr h => ?_
  obtain ⟨a, ts, rfl, ⟨dx, n, d, r, rows, h1, h2, h3, h4, h5⟩, q⟩ := h
  refine ⟨_, pss_one (ps_ret (pe_callB Own.call_iterT (by rfl) hI (by decide +kernel) (pa_cons (pe_fld (pv 0) rfl) pa_nil))), ?_⟩
  exact ⟨_, rfl, a, C, dx, _, _, rfl, h1, S.cl, S.nR, rfl, r, rows, rfl, SqT.of h4, fun it hit hn => q r rows it h4 h5 hit hn⟩
end
end Fk

set_option Elab.async false
set_option linter.all false
set_option maxRecDepth 100000
set_option maxHeartbeats 4000000
namespace K10
open PySem PySem.Spec PyProof.Rows L2
def top (i : Nat) : Stmt := PySem.Challenge.pw_filledrow_k10_sides_made.main.body.getD i (.Pass ⟨0, 0, 0, 0⟩)
abbrev sPen : Stmt := top 27
abbrev sDraw : Stmt := top 28
abbrev sPick : Stmt := top 29
/-! ### the pen -/
/-- the pen at p: its cells ns at q, how many were drawn, what is left of a great one -/
structure Pen (H : Hp) (p q : Addr) (ns : List Int) (s g : Int) : Prop where
  p : H p = some (.lst [.ref q, .int s, .int g])
  q : H q = some (.lst (ns.map V.int))
theorem Pen.ne {H : Hp} {p q : Addr} {ns : List Int} {s g : Int} (x : Pen H p q ns s g) : p ≠ q := ne_of x.p x.q (by
  intro z
  cases ns with
  | nil => cases z
  | cons a r => cases z)
/-- all stands but at p -/
def But (p : Addr) (H H' : Hp) : Prop := ∀ b o, H b = some o → b ≠ p → H' b = some o
def spPen (K : PySem.W.Frag) : Sp := fun vs H Q _ => ∃ (a : Addr) (ns : List Int), vs = [.ref a] ∧ SqL K H a (ns.map V.int) ∧ ns.length ≤ 63 ∧
  ∀ (p q : Addr) (ms : List Int) (H' : Hp), ms.length ≤ 63 → Pen H' p q ms 0 0 → (∀ b o, H b = some o → H' b = some o) → Q (.ref p) H'
def spDraw : Sp := fun vs H Q _ => ∃ (p q : Addr) (ns : List Int) (s g m : Int), vs = [.ref p, .int m] ∧ Pen H p q ns s g ∧ ns.length ≤ 63 ∧ 0 ≤ s ∧ s < 100000 ∧ 0 < m ∧ m < 100000 ∧
  ∀ (k s' g' : Int) (H' : Hp), 0 ≤ k → k < m → s ≤ s' → s' ≤ s + 1 → Pen H' p q ns s' g' → But p H H' → Q (.int k) H'
/-- the built-ins that are still themselves -/
structure Blt (mg : Str → Option Value) : Prop where
  int : mg "int" = none
  len : mg "len" = none
  abs : mg "abs" = none
  lst : mg "list" = none
section
variable {P : Program} {w : World} {K : PySem.W.Frag} {mg : Str → Option Value} {base : Heap} {f : Addr} {fd : FuncData}
theorem scPen : FnScope ["script"] ["script"] (defScope sPen) := ⟨rfl, rfl, rfl, by decide +kernel, rfl, by decide +kernel, by decide +kernel⟩
theorem ints_cut : ∀ (ns : List Int) (lo hi : Option Int), ∃ ms : List Int, cutV (ns.map V.int) lo hi = ms.map V.int ∧ ms.length ≤ ns.length := by
  intro ns lo hi
  refine ⟨(ns.drop (HT.sIx (ns.map V.int).length 0 lo)).take (HT.sIx (ns.map V.int).length (ns.map V.int).length hi - HT.sIx (ns.map V.int).length 0 lo), ?_, ?_⟩
  · unfold cutV
    rw [List.map_take, List.map_drop]
  · rw [List.length_take, List.length_drop]
    omega
theorem ok_pen (F : Fun K "_law_pen" "_law_pen" sPen f fd) (T : Blt mg) : FnOk P w K mg base CX0 1 f fd ["script"] (spPen K) := by
  refine F.ok scPen (fun vs H Q E h => ?_) (fun cdv A outer s H vs Q E hr h => ?_)
  · obtain ⟨a, ns, rfl, _⟩ := h
    rfl
  · obtain ⟨a, ns, rfl, hS, hl, k⟩ := h
    refine ⟨_, pss_one (ps_ret (pe_lst (pa_cons (pe_callTy call_list_of (by rfl) T.lst (by decide +kernel) (pa_cons (pe_slice sl_list (pv 0) po_none (po_some pe_int)) pa_nil)) (pa_cons pe_int (pa_cons pe_int pa_nil))))), ?_⟩
    obtain ⟨ms, e, hm⟩ := ints_cut ns none (some 59)
    refine ⟨_, rfl, _, rfl, a, _, rfl, hS, fun p hp => ?_⟩
    rw [e]
    refine ⟨p, _, rfl, .inl (SqL.of upd_same), fun l hl' => ⟨by show 3 ≤ sizeLine; decide, fun r hr' => ?_⟩⟩
    have nl : l ≠ p := fun z => by
      rw [z, upd_same] at hl'
      cases hl'
    have nr : r ≠ l := fun z => by
      rw [z, upd_same] at hr'
      cases hr'
    refine k r l ms _ (by omega) ⟨upd_same, by rw [upd_ne nr.symm, upd_same]⟩ fun b o z => ?_
    have z1 : (upd H p (.lst (ms.map V.int))) b = some o := by rw [upd_ne (ne_of_none z hp)]; exact z
    have z2 : (upd (upd H p (.lst (ms.map V.int))) l (.lst (ms.map V.int))) b = some o := by rw [upd_ne (ne_of_none z1 hl')]; exact z1
    rw [upd_ne (ne_of_none z2 hr')]
    exact z2
end
end K10

set_option Elab.async false
set_option linter.all false
set_option maxRecDepth 100000
set_option maxHeartbeats 4000000
namespace K10
open PySem PySem.Spec PyProof.Rows L2
theorem scDraw : FnScope ["pen", "many", "digit", "spot", "cell", "great", "mixed"] ["pen", "many"] (defScope sDraw) := ⟨rfl, rfl, rfl, by decide +kernel, rfl, by decide +kernel, by decide +kernel⟩
theorem fm (i : Int) {m : Int} (h : 0 < m) : 0 ≤ i.fmod m ∧ i.fmod m < m := ⟨Int.fmod_nonneg_of_pos i h, Int.fmod_lt_of_pos i h⟩
theorem dp_ints {K : PySem.W.Frag} {H : Hp} : ∀ ns : List Int, DpAll K H (ns.map V.int) (ns.map PyData.int)
  | [] => .nil
  | n :: r => .cons (.int n) (dp_ints r)
theorem lay_ints : ∀ ns : List Int, PyData.canLayAll0 (ns.map PyData.int) = true
  | [] => rfl
  | n :: r => by
    show (PyData.canLay0 (.int n) && PyData.canLayAll0 (r.map PyData.int)) = true
    rw [lay_ints r]
    rfl
theorem deep_ints : ∀ ns : List Int, PyData.depthAll (ns.map PyData.int) ≤ 1
  | [] => Nat.zero_le _
  | n :: r => by
    have := deep_ints r
    show max (PyData.depth (.int n)) (PyData.depthAll (r.map PyData.int)) ≤ 1
    have e : PyData.depth (.int n) = 0 := rfl
    omega
theorem shaped_ints (ns : List Int) : SeqAt.shaped (.list (ns.map PyData.int)) = true := by
  have h1 : PyData.canLay0 (.list (ns.map PyData.int)) = true := lay_ints ns
  have h2 : PyData.depth (.list (ns.map PyData.int)) ≤ 64 := by
    have := deep_ints ns
    show PyData.depthAll (ns.map PyData.int) + 1 ≤ 64
    omega
  unfold SeqAt.shaped
  rw [h1, decide_eq_true h2]
  rfl
theorem eqv_none (ns : List Int) : PyData.eqv (.list (ns.map PyData.int)) (.list []) = ns.isEmpty := by
  cases ns <;> rfl
section
variable {P : Program} {w : World} {K : PySem.W.Frag} {mg : Str → Option Value} {base : Heap} {f : Addr} {fd : FuncData}
theorem ok_draw (F : Fun K "_law_draw" "_law_draw" sDraw f fd) (T : Blt mg) : FnOk P w K mg base CX0 1 f fd ["pen", "many"] spDraw := by
  refine F.ok scDraw (fun vs H Q E h => ?_) (fun cdv A outer s H vs Q E hr h => ?_)
  · obtain ⟨p, q, ns, s, g, m, rfl, _⟩ := h
    rfl
  · obtain ⟨p, q, ns, s, g, m, rfl, hP, hl, hs0, hs1, hm0, hm1, k⟩ := h
    have nd := scDraw.nd
    have hu : (cxOf CX0 P w K mg base ["pen", "many", "digit", "spot", "cell", "great", "mixed"] "_law_draw" (defScope sDraw) f cdv A outer ‹Shared› H E).nox.A.units + 64 < cLine := by
      have z := hr.un
      show (A.deeper _).units + 64 < cLine
      omega
    refine ⟨_, pss_cons (ps_if (pt_cmpR op_gt (pe_ix ix_list (pv 0) pe_int (fun _ _ => rfl)) pe_int (nomark _))
        (pss_cons (ps_set (i := 2) nd rfl (Or.inl rfl) (pe_op op_modN (pe_callTy call_int1 (by rfl) T.int (by decide +kernel) (pa_cons (pe_ix ix_list (pv 0) pe_int (fun _ _ => rfl)) pa_nil)) (pv 1)))
          (pss_cons (ps_asg (pe_op op_fdivN (pe_callTy call_int1 (by rfl) T.int (by decide +kernel) (pa_cons (pe_ix ix_list (pv 0) pe_int (fun _ _ => rfl)) pa_nil)) (pv 1)) (pg_sub (pv 0) pe_int set_list))
            (pss_one (ps_ret (pv 2))))) pss_nil)
      (pss_cons (ps_set (i := 3) nd rfl (Or.inl rfl) (pe_ix ix_list (pv 0) pe_int (fun _ _ => rfl)))
      (pss_cons (ps_asg (pe_op op_add (pv 3) pe_int) (pg_sub (pv 0) pe_int set_list))
      (pss_cons (ps_set (i := 4) nd rfl (Or.inl rfl) (pe_op op_add (pe_op op_mul pe_int (pv 3)) pe_int))
      (pss_cons (ps_if (pt_cmpR (op_neD hu) (pe_ix ix_list (pv 0) pe_int (fun _ _ => rfl)) (pe_lst pa_nil) (nomark _))
        (pss_one (ps_set (i := 4) nd rfl (Or.inl rfl) (pe_ix ix_list (pe_ix ix_list (pv 0) pe_int (fun _ _ => rfl))
          (pe_op op_modN (pe_callTy call_int1 (by rfl) T.int (by decide +kernel) (pa_cons (pv 3) pa_nil)) (pe_callB call_len_seq (by rfl) T.len PySem.boot_len (pa_cons (pe_ix ix_list (pv 0) pe_int (fun _ _ => rfl)) pa_nil))) (fun _ _ => rfl)))) pss_nil)
      (pss_cons (ps_if (PW.pt (pw_and (pt_cmpR op_lt (pv 3) (pe_callB call_len_seq (by rfl) T.len PySem.boot_len (pa_cons (pe_ix ix_list (pv 0) pe_int (fun _ _ => rfl)) pa_nil)) (nomark _))
          (pw_and1 (pt_cmpR op_ge (pe_callB call_abs (by rfl) T.abs (by decide +kernel) (pa_cons (pv 4) pa_nil)) (pe_op op_pow pe_int pe_int) (nomark _)))))
        (pss_cons (ps_set (i := 5) nd rfl (Or.inl rfl) (pe_op op_add (pe_op op_mul pe_int (pe_op op_sub (pe_callB call_abs (by rfl) T.abs (by decide +kernel) (pa_cons (pv 4) pa_nil)) (pe_op op_pow pe_int pe_int)))
            (pe_callTy call_int1 (by rfl) T.int (by decide +kernel) (pa_cons (pe_cmpR op_lt (pv 4) pe_int (nomark _)) pa_nil))))
          (pss_cons (ps_asg (pe_op op_fdivN (pe_callTy call_int1 (by rfl) T.int (by decide +kernel) (pa_cons (pv 5) pa_nil)) (pv 1)) (pg_sub (pv 0) pe_int set_list))
            (pss_one (ps_ret (pe_op op_modN (pe_callTy call_int1 (by rfl) T.int (by decide +kernel) (pa_cons (pv 5) pa_nil)) (pv 1)))))) pss_nil)
      (pss_cons (ps_set (i := 6) nd rfl (Or.inl rfl) (pe_op op_modN (pe_callTy call_int1 (by rfl) T.int (by decide +kernel) (pa_cons (pe_op op_pow (pe_op op_add (pe_op op_add (pe_op op_modN (pe_callTy call_int1 (by rfl) T.int (by decide +kernel) (pa_cons (pv 4) pa_nil)) pe_int) (pe_op op_mul pe_int (pv 3))) pe_int) pe_int) pa_nil)) pe_int))
      (pss_cons (ps_set (i := 6) nd rfl (Or.inl rfl) (pe_op op_modN (pe_callTy call_int1 (by rfl) T.int (by decide +kernel) (pa_cons (pe_op op_pow (pe_op op_add (pe_op op_add (pe_op op_mul (pv 6) (pe_op op_add (pe_op op_mul pe_int (pv 3)) pe_int)) (pe_op op_mul (pe_op op_mul pe_int (pv 3)) (pv 3))) pe_int) pe_int) pa_nil)) pe_int))
      (pss_one (ps_ret (pe_op op_modN (pe_callTy call_int1 (by rfl) T.int (by decide +kernel) (pa_cons (pe_op op_fdivN (pv 6) pe_int) pa_nil)) (pv 1))))))))))), ?_⟩
    -- if pen[2] > 0
    refine ⟨_, rfl, p, _, 2, .int g, rfl, rfl, SqL.of hP.p, rfl, g, 0, rfl, rfl, _, rfl, ?_⟩
    refine ite2 (fun c => ?_) (fun c => ?_)
    · refine ⟨_, rfl, p, _, 2, .int g, rfl, rfl, SqL.of hP.p, rfl, .inl ⟨g, rfl, _, rfl, g, m, rfl, rfl, by omega, ?_⟩⟩
      refine ⟨_, rfl, p, _, 2, .int g, rfl, rfl, SqL.of hP.p, rfl, .inl ⟨g, rfl, _, rfl, g, m, rfl, rfl, ⟨by omega, by omega⟩, ?_⟩⟩
      refine ⟨_, rfl, p, _, 2, 2, rfl, rfl, hP.p, rfl, ?_⟩
      refine ⟨_, rfl, k _ s (g.fdiv m) _ (fm g hm0).1 (fm g hm0).2 (Int.le_refl _) (by omega) ⟨upd_same, ?_⟩ fun b o e hb => ?_⟩
      · rw [upd_ne hP.ne.symm]
        exact hP.q
      · rw [upd_ne hb]
        exact e
    · -- spot = pen[1]; pen[1] = spot + 1; cell = ..
      refine ⟨_, rfl, p, _, 1, .int s, rfl, rfl, SqL.of hP.p, rfl, ?_⟩
      refine ⟨_, rfl, s, 1, rfl, rfl, ?_⟩
      refine ⟨_, rfl, p, _, 1, 1, rfl, rfl, hP.p, rfl, ?_⟩
      have hP1 : Pen (upd H p (.lst [.ref q, .int (s + 1), .int g])) p q ns (s + 1) g := ⟨upd_same, by rw [upd_ne hP.ne.symm]; exact hP.q⟩
      have hB1 : But p H (upd H p (.lst [.ref q, .int (s + 1), .int g])) := fun b o e hb => by rw [upd_ne hb]; exact e
      refine ⟨_, rfl, 48807, s, rfl, rfl, .inl ⟨by decide, by decide⟩, _, _, rfl, rfl, ?_⟩
      -- if pen[0] != []
      refine ⟨_, rfl, p, _, 0, .ref q, rfl, rfl, SqL.of hP1.p, rfl, by decide, fun l hl' => ?_⟩
      have hP2 : Pen (upd (upd H p (.lst [.ref q, .int (s + 1), .int g])) l (.lst [])) p q ns (s + 1) g :=
        ⟨by rw [upd_ne (ne_of_none hP1.p hl')]; exact hP1.p, by rw [upd_ne (ne_of_none hP1.q hl')]; exact hP1.q⟩
      have hB2 : But p H (upd (upd H p (.lst [.ref q, .int (s + 1), .int g])) l (.lst [])) := fun b o e hb => by
        rw [upd_ne (ne_of_none (hB1 b o e hb) hl')]
        exact hB1 b o e hb
      refine ⟨_, _, .lst (SqL.of hP2.q) (dp_ints ns), .lst (SqL.of upd_same) .nil, shaped_ints ns, rfl, _, rfl, ?_⟩
      rw [eqv_none]
      cases ns with
      | nil =>
        refine iteF ?_
        refine ⟨_, rfl, _, rfl, p, _, 0, .ref q, rfl, rfl, SqL.of hP2.p, rfl, q, _, rfl, .inl (SqL.of hP2.q), s, _, rfl, rfl, _, rfl, ?_⟩
        have e : decide (s < (((([] : List Int).map V.int).length : Nat) : Int)) = false := decide_eq_false (by show ¬ s < 0; omega)
        rw [e]
        refine iteF (iteF ?_)
        -- mixed = ..
        refine ⟨_, rfl, .inl ⟨48807 * s + 2797, rfl, ?_⟩⟩
        refine ⟨48807 * s + 2797, 2147483647, rfl, rfl, (show (2147483647 : Int) ≠ 0 by decide), ?_⟩
        refine ⟨_, rfl, 52889, s, rfl, rfl, .inl ⟨by decide, by decide⟩, ?_⟩
        refine ⟨_, _, rfl, rfl, _, _, rfl, rfl, ?_⟩
        have b1 := fm (48807 * s + 2797) (show (0 : Int) < 2147483647 by decide)
        refine ⟨_, 5, rfl, rfl, ⟨by decide, by decide, by omega⟩, .inl ⟨_, rfl, _, 2147483477, rfl, rfl, (show (2147483477 : Int) ≠ 0 by decide), ?_⟩⟩
        have b2 := fm ((Int.fmod (48807 * s + 2797) 2147483647 + 52889 * s + 745) ^ (5 : Int).toNat) (show (0 : Int) < 2147483477 by decide)
        obtain ⟨y, hy⟩ : ∃ y, y = Int.fmod ((Int.fmod (48807 * s + 2797) 2147483647 + 52889 * s + 745) ^ (5 : Int).toNat) 2147483477 := ⟨_, rfl⟩
        rw [← hy] at b2
        refine ⟨_, rfl, _, rfl, 2, s, rfl, rfl, .inl ⟨by decide, by decide⟩, _, _, rfl, rfl, y, _, congrArg V.int hy.symm, rfl, .inl ⟨by omega, by omega⟩, ?_⟩
        refine ⟨_, rfl, 53877, s, rfl, rfl, .inl ⟨by decide, by decide⟩, _, rfl, _, s, rfl, rfl, .inr ⟨by omega, by omega⟩, ?_⟩
        refine ⟨_, _, rfl, rfl, _, _, rfl, rfl, ?_⟩
        have b3 : 0 ≤ y * (2 * s + 295) ∧ y * (2 * s + 295) ≤ 2147483477 * 300000 := ⟨Int.mul_nonneg b2.1 (by omega), Int.mul_le_mul (by omega) (by omega) (by omega) (by decide)⟩
        have b4 : 0 ≤ 53877 * s * s ∧ 53877 * s * s ≤ 5387700000 * 100000 := ⟨Int.mul_nonneg (by omega) hs0, Int.mul_le_mul (by omega) (by omega) hs0 (by decide)⟩
        refine ⟨_, 3, rfl, rfl, ⟨by decide, by decide, by omega⟩, .inl ⟨_, rfl, _, 2147483587, rfl, rfl, (show (2147483587 : Int) ≠ 0 by decide), ?_⟩⟩
        refine ⟨_, rfl, _, 32, rfl, rfl, ⟨by decide, by decide⟩, .inl ⟨_, rfl, _, rfl, _, m, rfl, rfl, by omega, ?_⟩⟩
        exact k _ (s + 1) g _ (fm _ hm0).1 (fm _ hm0).2 (by omega) (Int.le_refl _) hP2 hB2
      | cons n0 r =>
        refine iteT ?_
        -- cell = pen[0][int(spot) % len(pen[0])]
        refine ⟨_, rfl, p, _, 0, .ref q, rfl, rfl, SqL.of hP2.p, rfl, ?_⟩
        refine ⟨_, rfl, .inl ⟨s, rfl, _, rfl, p, _, 0, .ref q, rfl, rfl, SqL.of hP2.p, rfl, q, _, rfl, .inl (SqL.of hP2.q), s, _, rfl, rfl, ?_, ?_⟩⟩
        · rw [List.length_map, List.length_cons]
          omega
        have hn : (0 : Int) < (((((n0 :: r) : List Int).map V.int).length : Nat) : Int) := by
          rw [List.length_map, List.length_cons]
          omega
        have b0 := fm s hn
        obtain ⟨c, hc⟩ : ∃ c : Int, atI ((n0 :: r).map V.int) (s.fmod ((((n0 :: r).map V.int).length : Nat) : Int)) = some (.int c) := by
          have hj : (s.fmod ((((n0 :: r).map V.int).length : Nat) : Int)).toNat < (n0 :: r).length := by
            rw [List.length_map] at b0 ⊢
            omega
          refine ⟨(n0 :: r)[(s.fmod ((((n0 :: r).map V.int).length : Nat) : Int)).toNat]'hj, at_of (j := (s.fmod ((((n0 :: r).map V.int).length : Nat) : Int)).toNat) (by omega) ?_⟩
          rw [List.getElem?_map, List.getElem?_eq_getElem hj]
          rfl
        refine ⟨q, _, _, .int c, rfl, rfl, SqL.of hP2.q, hc, ?_⟩
        -- if spot < len(pen[0]) and abs(cell) >= 10 ** 18
        refine ⟨_, rfl, _, rfl, p, _, 0, .ref q, rfl, rfl, SqL.of hP2.p, rfl, q, _, rfl, .inl (SqL.of hP2.q), s, _, rfl, rfl, _, rfl, ?_⟩
        refine ite2 (fun c1 => ?_) (fun c1 => iteF ?_)
        · refine ⟨_, rfl, c, rfl, 10, 18, rfl, rfl, ⟨by decide, by decide, by decide⟩, _, _, rfl, rfl, _, rfl, ?_⟩
          refine ite2 (fun c2 => ?_) (fun c2 => ?_)
          · -- great
            refine ⟨_, rfl, c, rfl, 10, 18, rfl, rfl, ⟨by decide, by decide, by decide⟩, _, _, rfl, rfl, 2, _, rfl, rfl, .inl ⟨by decide, by decide⟩, ?_⟩
            refine ⟨_, rfl, c, 0, rfl, rfl, .inr ⟨_, rfl, _, _, rfl, rfl, ?_⟩⟩
            refine ⟨_, rfl, .inl ⟨_, rfl, _, rfl, _, m, rfl, rfl, ⟨by omega, by omega⟩, ?_⟩⟩
            refine ⟨_, rfl, p, _, 2, 2, rfl, rfl, hP2.p, rfl, ?_⟩
            refine ⟨_, rfl, .inl ⟨_, rfl, _, rfl, _, m, rfl, rfl, by omega, ?_⟩⟩
            refine k _ (s + 1) _ _ (fm _ hm0).1 (fm _ hm0).2 (by omega) (Int.le_refl _) ⟨upd_same, ?_⟩ fun b o e hb => ?_
            · rw [upd_ne hP2.ne.symm]
              exact hP2.q
            · rw [upd_ne hb]
              exact hB2 b o e hb
          · show tNext _ _ _
            -- mixed = ..
            refine ⟨_, rfl, .inl ⟨c, rfl, ?_⟩⟩
            refine ⟨c, 2147483647, rfl, rfl, (show (2147483647 : Int) ≠ 0 by decide), ?_⟩
            refine ⟨_, rfl, 52889, s, rfl, rfl, .inl ⟨by decide, by decide⟩, ?_⟩
            refine ⟨_, _, rfl, rfl, _, _, rfl, rfl, ?_⟩
            have b1 := fm (c) (show (0 : Int) < 2147483647 by decide)
            refine ⟨_, 5, rfl, rfl, ⟨by decide, by decide, by omega⟩, .inl ⟨_, rfl, _, 2147483477, rfl, rfl, (show (2147483477 : Int) ≠ 0 by decide), ?_⟩⟩
            have b2 := fm ((Int.fmod (c) 2147483647 + 52889 * s + 745) ^ (5 : Int).toNat) (show (0 : Int) < 2147483477 by decide)
            obtain ⟨y, hy⟩ : ∃ y, y = Int.fmod ((Int.fmod (c) 2147483647 + 52889 * s + 745) ^ (5 : Int).toNat) 2147483477 := ⟨_, rfl⟩
            rw [← hy] at b2
            refine ⟨_, rfl, _, rfl, 2, s, rfl, rfl, .inl ⟨by decide, by decide⟩, _, _, rfl, rfl, y, _, congrArg V.int hy.symm, rfl, .inl ⟨by omega, by omega⟩, ?_⟩
            refine ⟨_, rfl, 53877, s, rfl, rfl, .inl ⟨by decide, by decide⟩, _, rfl, _, s, rfl, rfl, .inr ⟨by omega, by omega⟩, ?_⟩
            refine ⟨_, _, rfl, rfl, _, _, rfl, rfl, ?_⟩
            have b3 : 0 ≤ y * (2 * s + 295) ∧ y * (2 * s + 295) ≤ 2147483477 * 300000 := ⟨Int.mul_nonneg b2.1 (by omega), Int.mul_le_mul (by omega) (by omega) (by omega) (by decide)⟩
            have b4 : 0 ≤ 53877 * s * s ∧ 53877 * s * s ≤ 5387700000 * 100000 := ⟨Int.mul_nonneg (by omega) hs0, Int.mul_le_mul (by omega) (by omega) hs0 (by decide)⟩
            refine ⟨_, 3, rfl, rfl, ⟨by decide, by decide, by omega⟩, .inl ⟨_, rfl, _, 2147483587, rfl, rfl, (show (2147483587 : Int) ≠ 0 by decide), ?_⟩⟩
            refine ⟨_, rfl, _, 32, rfl, rfl, ⟨by decide, by decide⟩, .inl ⟨_, rfl, _, rfl, _, m, rfl, rfl, by omega, ?_⟩⟩
            exact k _ (s + 1) g _ (fm _ hm0).1 (fm _ hm0).2 (by omega) (Int.le_refl _) hP2 hB2
        · -- mixed = ..
          refine ⟨_, rfl, .inl ⟨c, rfl, ?_⟩⟩
          refine ⟨c, 2147483647, rfl, rfl, (show (2147483647 : Int) ≠ 0 by decide), ?_⟩
          refine ⟨_, rfl, 52889, s, rfl, rfl, .inl ⟨by decide, by decide⟩, ?_⟩
          refine ⟨_, _, rfl, rfl, _, _, rfl, rfl, ?_⟩
          have b1 := fm (c) (show (0 : Int) < 2147483647 by decide)
          refine ⟨_, 5, rfl, rfl, ⟨by decide, by decide, by omega⟩, .inl ⟨_, rfl, _, 2147483477, rfl, rfl, (show (2147483477 : Int) ≠ 0 by decide), ?_⟩⟩
          have b2 := fm ((Int.fmod (c) 2147483647 + 52889 * s + 745) ^ (5 : Int).toNat) (show (0 : Int) < 2147483477 by decide)
          obtain ⟨y, hy⟩ : ∃ y, y = Int.fmod ((Int.fmod (c) 2147483647 + 52889 * s + 745) ^ (5 : Int).toNat) 2147483477 := ⟨_, rfl⟩
          rw [← hy] at b2
          refine ⟨_, rfl, _, rfl, 2, s, rfl, rfl, .inl ⟨by decide, by decide⟩, _, _, rfl, rfl, y, _, congrArg V.int hy.symm, rfl, .inl ⟨by omega, by omega⟩, ?_⟩
          refine ⟨_, rfl, 53877, s, rfl, rfl, .inl ⟨by decide, by decide⟩, _, rfl, _, s, rfl, rfl, .inr ⟨by omega, by omega⟩, ?_⟩
          refine ⟨_, _, rfl, rfl, _, _, rfl, rfl, ?_⟩
          have b3 : 0 ≤ y * (2 * s + 295) ∧ y * (2 * s + 295) ≤ 2147483477 * 300000 := ⟨Int.mul_nonneg b2.1 (by omega), Int.mul_le_mul (by omega) (by omega) (by omega) (by decide)⟩
          have b4 : 0 ≤ 53877 * s * s ∧ 53877 * s * s ≤ 5387700000 * 100000 := ⟨Int.mul_nonneg (by omega) hs0, Int.mul_le_mul (by omega) (by omega) hs0 (by decide)⟩
          refine ⟨_, 3, rfl, rfl, ⟨by decide, by decide, by omega⟩, .inl ⟨_, rfl, _, 2147483587, rfl, rfl, (show (2147483587 : Int) ≠ 0 by decide), ?_⟩⟩
          refine ⟨_, rfl, _, 32, rfl, rfl, ⟨by decide, by decide⟩, .inl ⟨_, rfl, _, rfl, _, m, rfl, rfl, by omega, ?_⟩⟩
          exact k _ (s + 1) g _ (fm _ hm0).1 (fm _ hm0).2 (by omega) (Int.le_refl _) hP2 hB2
end
end K10

set_option Elab.async false
set_option linter.all false
set_option maxRecDepth 100000
set_option maxHeartbeats 4000000
/-! What the law draws: one of some things, an amount. -/
namespace K10
open PySem PySem.Spec PyProof.Rows L2
abbrev sAmount : Stmt := top 30
def spPick : Sp := fun vs H Q _ => ∃ (p q : Addr) (ns : List Int) (s g : Int) (a : Addr) (xs : List V), vs = [.ref p, .ref a] ∧ Pen H p q ns s g ∧ ns.length ≤ 63 ∧ 0 ≤ s ∧ s < 100000 ∧ H a = some (.lst xs) ∧ a ≠ p ∧ 0 < xs.length ∧ xs.length < 100000 ∧
  ∀ (v : V) (s' g' : Int) (H' : Hp), v ∈ xs → s ≤ s' → s' ≤ s + 1 → Pen H' p q ns s' g' → But p H H' → Q v H'
def spAmount : Sp := fun vs H Q _ => ∃ (p q : Addr) (ns : List Int) (s g : Int), vs = [.ref p] ∧ Pen H p q ns s g ∧ ns.length ≤ 63 ∧ 0 ≤ s ∧ s < 99990 ∧
  ∀ (i : Int) (s' g' : Int) (H' : Hp), 0 ≤ i → i ≤ 10 ^ 29 → s ≤ s' → s' ≤ s + 2 → Pen H' p q ns s' g' → But p H H' → Q (.int i) H'
theorem scPick : FnScope ["pen", "some"] ["pen", "some"] (defScope sPick) := ⟨rfl, rfl, rfl, by decide +kernel, rfl, by decide +kernel, by decide +kernel⟩
theorem scAmount : FnScope ["pen"] ["pen"] (defScope sAmount) := ⟨rfl, rfl, rfl, by decide +kernel, rfl, by decide +kernel, by decide +kernel⟩
section
variable {P : Program} {w : World} {K : PySem.W.Frag} {mg : Str → Option Value} {base : Heap} {f fD fP : Addr} {fd fdD fdP : FuncData}
theorem ok_pick (F : Fun K "_law_pick" "_law_pick" sPick f fd) (T : Blt mg) (G : FnOk P w K mg base CX0 1 fD fdD ["pen", "many"] spDraw) (b : Binds K fdD ["pen", "many"] []) (gD : mg "_law_draw" = some (.ref fD)) (kD : PySem.W.keepIn K (.ref fD) = true) :
    FnOk P w K mg base CX0 2 f fd ["pen", "some"] spPick := by
  refine F.ok scPick (fun vs H Q E h => ?_) (fun cdv A outer s H vs Q E hr h => ?_)
  · obtain ⟨p, q, ns, s, g, a, xs, rfl, _⟩ := h
    rfl
  · obtain ⟨p, q, ns, s, g, a, xs, rfl, hP, hl, h0, h1, ha, nap, x0, x1, k⟩ := h
    refine ⟨_, pss_one (ps_ret (pe_ix ix_list (pv 1) (pe_call G hr (by rfl) gD kD b .nil pass0 (pa_cons (pv 0) (pa_cons (pe_callB call_len_seq (by rfl) T.len PySem.boot_len (pa_cons (pv 1) pa_nil)) pa_nil))) (fun _ _ => rfl))), ?_⟩
    refine ⟨_, rfl, _, rfl, _, rfl, a, xs, rfl, .inl (SqL.of ha), p, q, ns, s, g, _, rfl, hP, hl, h0, h1, by omega, by omega, fun n s' g' H' n0 n1 s0 s1 hP' hB => ?_⟩
    have hj : n.toNat < xs.length := by omega
    exact ⟨a, xs, n, xs[n.toNat], rfl, rfl, SqL.of (hB a _ ha nap), at_of (j := n.toNat) (by omega) (List.getElem?_eq_getElem hj), k _ s' g' H' (List.getElem_mem hj) s0 s1 hP' hB⟩
theorem ok_amount (F : Fun K "_law_amount" "_law_amount" sAmount f fd) (GP : FnOk P w K mg base CX0 2 fP fdP ["pen", "some"] spPick) (bP : Binds K fdP ["pen", "some"] []) (gP : mg "_law_pick" = some (.ref fP)) (kP : PySem.W.keepIn K (.ref fP) = true)
    (G : FnOk P w K mg base CX0 1 fD fdD ["pen", "many"] spDraw) (b : Binds K fdD ["pen", "many"] []) (gD : mg "_law_draw" = some (.ref fD)) (kD : PySem.W.keepIn K (.ref fD) = true) : FnOk P w K mg base CX0 3 f fd ["pen"] spAmount := by
  refine F.ok scAmount (fun vs H Q E h => ?_) (fun cdv A outer s H vs Q E hr h => ?_)
  · obtain ⟨p, q, ns, s, g, rfl, _⟩ := h
    rfl
  · obtain ⟨p, q, ns, s, g, rfl, hP, hl, h0, h1, k⟩ := h
    refine ⟨_, pss_one (ps_ret (pe_call GP hr (by rfl) gP kP bP .nil pass0 (pa_cons (pv 0) (pa_cons (pe_lst (pa_cons pe_int (pa_cons pe_int (pa_cons pe_int (pa_cons pe_int (pa_cons pe_int (pa_cons (pe_op op_pow pe_int pe_int)
      (pa_cons (pe_call G (hr.mono (by decide)) (by rfl) gD kD b .nil pass0 (pa_cons (pv 0) (pa_cons pe_int pa_nil))) pa_nil)))))))) pa_nil)))), ?_⟩
    refine ⟨_, rfl, 10, 29, rfl, rfl, ⟨by decide, by decide, by decide⟩, _, rfl, p, q, ns, s, g, 50, rfl, hP, hl, h0, by omega, by decide, by decide, fun n s1 g1 H1 n0 n1 a0 a1 hP1 hB1 => ⟨by show 7 ≤ sizeLine; decide, fun l nl => ?_⟩⟩
    have lp : l ≠ p := (ne_of_none hP1.p nl).symm
    have lq : l ≠ q := (ne_of_none hP1.q nl).symm
    refine ⟨p, q, ns, s1, g1, l, _, rfl, ⟨by rw [upd_ne lp.symm]; exact hP1.p, by rw [upd_ne lq.symm]; exact hP1.q⟩, hl, by omega, by omega, upd_same, lp, by show 0 < 7; decide, by show 7 < 100000; decide, fun v s2 g2 H2 hv b0 b1 hP2 hB2 => ?_⟩
    have keep : But p H H2 := fun b o hb nb => by
      have z := hB1 b o hb nb
      exact hB2 b o (by rw [upd_ne (ne_of_none z nl)]; exact z) nb
    have fin : ∀ i : Int, 0 ≤ i → i ≤ 10 ^ 29 → Q (.int i) H2 := fun i i0 i1 => k i s2 g2 H2 i0 i1 (by omega) (by omega) hP2 keep
    simp only [List.mem_cons, List.not_mem_nil, or_false] at hv
    rcases hv with rfl | rfl | rfl | rfl | rfl | rfl | rfl
    · exact fin 0 (by decide) (by decide)
    · exact fin 0 (by decide) (by decide)
    · exact fin 1 (by decide) (by decide)
    · exact fin 2 (by decide) (by decide)
    · exact fin 3 (by decide) (by decide)
    · exact fin _ (by decide) (by decide)
    · exact fin n n0 (Int.le_trans (Int.le_of_lt n1) (by decide))
end
end K10

set_option Elab.async false
set_option linter.all false
set_option maxRecDepth 100000
set_option maxHeartbeats 4000000
/-! Drawn amounts of names. -/
namespace K10
open PySem PySem.Spec PyProof.Rows L2
abbrev sPlain : Stmt := top 31
def eight : List Str := ["a", "b", "zz", "abcdefgh", "names", "total", "x", "jinx"]
/-- what is drawn: some of the eight names, each once -/
structure Drawn (kvs : Fk.Row) : Prop where
  nod : (kvs.map (·.1)).Nodup
  sub : ∀ t ∈ kvs, t.1 ∈ eight
  lo : ∀ t ∈ kvs, 0 ≤ t.2
  hi : ∀ t ∈ kvs, t.2 ≤ 10 ^ 29
  few : kvs.length ≤ 5
def spPlain : Sp := fun vs H Q _ => ∃ (p q : Addr) (ns : List Int) (s g : Int), vs = [.ref p] ∧ Pen H p q ns s g ∧ ns.length ≤ 63 ∧ 0 ≤ s ∧ s < 99000 ∧
  ∀ (f : Addr) (kvs : Fk.Row) (s' g' : Int) (H' : Hp), Drawn kvs → H f = none → H' f = some (.dK (Fk.ents kvs)) → s ≤ s' → s' ≤ s + 16 → Pen H' p q ns s' g' → But p H H' → Q (.ref f) H'
theorem scPlain : FnScope ["pen", "left", "found", "turn", "title"] ["pen"] (defScope sPlain) := ⟨rfl, rfl, rfl, by decide +kernel, rfl, by decide +kernel, by decide +kernel⟩
theorem erase_perm {α : Type} : ∀ (l : List α) (i : Nat) (h : i < l.length), (l[i] :: l.eraseIdx i).Perm l
  | x :: r, 0, _ => List.Perm.refl _
  | x :: r, i + 1, h => (List.Perm.swap x _ _).trans (List.Perm.cons x (erase_perm r i (Nat.lt_of_succ_lt_succ h)))
theorem erase_map {α β : Type} (f : α → β) : ∀ (l : List α) (i : Nat), (l.map f).eraseIdx i = (l.eraseIdx i).map f
  | [], _ => rfl
  | x :: r, 0 => rfl
  | x :: r, i + 1 => congrArg (List.cons (f x)) (erase_map f r i)
section
variable {P : Program} {w : World} {K : PySem.W.Frag} {mg : Str → Option Value} {base : Heap} {f fD fA : Addr} {fd fdD fdA : FuncData}
theorem ok_plain (F : Fun K "_law_plain" "_law_plain" sPlain f fd) (T : Blt mg) (hR : mg "range" = none) (G : FnOk P w K mg base CX0 1 fD fdD ["pen", "many"] spDraw) (b : Binds K fdD ["pen", "many"] []) (gD : mg "_law_draw" = some (.ref fD)) (kD : PySem.W.keepIn K (.ref fD) = true)
    (GA : FnOk P w K mg base CX0 3 fA fdA ["pen"] spAmount) (bA : Binds K fdA ["pen"] []) (gA : mg "_law_amount" = some (.ref fA)) (kA : PySem.W.keepIn K (.ref fA) = true) : FnOk P w K mg base CX0 4 f fd ["pen"] spPlain := by
  have nd := scPlain.nd
  refine F.ok scPlain (fun vs H Q E h => ?_) (fun cdv A outer s0 H vs Q E hr h => ?_)
  · obtain ⟨p, q, ns, s, g, rfl, _⟩ := h
    rfl
  · obtain ⟨p, q, ns, s, g, rfl, hP, hl, h0, h1, k⟩ := h
    have hu := hu_of hr
    refine ⟨_, pss_cons (ps_par (i := 1) (j := 2) (by rfl) nd rfl rfl (by decide) rfl rfl (pa_cons (pe_lst (pa_cons pe_str (pa_cons pe_str (pa_cons pe_str (pa_cons pe_str (pa_cons pe_str (pa_cons pe_str (pa_cons pe_str (pa_cons pe_str pa_nil))))))))) (pa_cons pe_dnewK pa_nil)) (by rfl))
      (pss_cons (ps_for PassesOwn.never rfl (pi_range1 rfl hR (pa_cons (pe_call G (hr.mono (by decide)) (by rfl) gD kD b .nil pass0 (pa_cons (pv 0) (pa_cons pe_int pa_nil))) pa_nil)) (pg_name (i := 3) nd rfl (Or.inl rfl))
        (pss_cons (ps_set (i := 4) nd rfl (Or.inl rfl) (pe_bm PySem.F.plainAttrs_list PySem.F.slot_list_pop PySem.F.type_list_pop mt_popAt (pv 1) (pa_cons (pe_call G (hr.mono (by decide)) (by rfl) gD kD b .nil pass0 (pa_cons (pv 0) (pa_cons (pe_callB call_len_seq (by rfl) T.len PySem.boot_len (pa_cons (pv 1) pa_nil)) pa_nil))) pa_nil)))
          (pss_one (ps_dput hu (pv 2) (pv 4) (pe_call GA hr (by rfl) gA kA bA .nil pass0 (pa_cons (pv 0) pa_nil)) rfl))))
      (pss_one (ps_ret (pv 2)))), ?_⟩
    refine ⟨by show 8 ≤ sizeLine; decide, fun l nl c nc => ⟨_, _, rfl, ?_⟩⟩
    have pl : p ≠ l := ne_of_none hP.p nl
    have ql : q ≠ l := ne_of_none hP.q nl
    have e1 := EvP.Ex.new (o := .lst (eight.map V.str)) nl
    have e2 := EvP.Ex.new (o := .dK []) nc
    have e12 := e1.trans e2
    have lc : l ≠ c := fun z => by
      rw [← z] at nc
      rw [upd_same] at nc
      cases nc
    have cH : H c = none := by
      rw [upd_ne lc.symm] at nc
      exact nc
    have hPc : Pen (upd (upd H l (.lst (eight.map V.str))) c (.dK [])) p q ns s g := ⟨e12 _ _ hP.p, e12 _ _ hP.q⟩
    refine ⟨_, rfl, p, q, ns, s, g, 6, rfl, hPc, hl, h0, by omega, by decide, by decide, fun n s1 g1 H1 n0 n1 a0 a1 hP1 hB1 => ?_⟩
    refine ⟨n, rfl, by omega, by omega, for_range (lo := 0) (n := n.toNat) (fun i σ H' => ∃ (rem : List Str) (kvs : Fk.Row) (s2 g2 : Int) (o3 o4 : Option V), σ = [some (.ref p), some (.ref l), some (.ref c), o3, o4] ∧ H' l = some (.lst (rem.map V.str)) ∧ H' c = some (.dK (Fk.ents kvs)) ∧
      kvs.length = i ∧ rem.length = 8 - i ∧ (kvs.map (·.1) ++ rem).Nodup ∧ (∀ m ∈ kvs.map (·.1) ++ rem, m ∈ eight) ∧ (∀ t ∈ kvs, 0 ≤ t.2 ∧ t.2 ≤ 10 ^ 29) ∧ s ≤ s2 ∧ s2 ≤ s + 1 + 3 * (i : Int) ∧ Pen H' p q ns s2 g2 ∧ But p H H') ?_ ?_ ?_⟩
    · have lp := pl.symm
      have cp : c ≠ p := (ne_of_none (e1 _ _ hP.p) nc).symm
      refine ⟨eight, [], s1, g1, _, _, rfl, hB1 l _ (by rw [upd_ne lc]; exact upd_same) lp, hB1 c _ upd_same cp, rfl, rfl, by decide +kernel, fun m hm => hm, fun t ht => (by cases ht), by omega, by omega, hP1, fun b o hb nb => hB1 b o (e12 _ _ hb) nb⟩
    · rintro i σ H2 hi ⟨rem, kvs, s2, g2, o3, o4, rfl, r1, r2, r3, r4, r5, r6, r7, r8, r9, hP2, hB2⟩
      have rl : 0 < rem.length := by omega
      have cl : c ≠ l := lc.symm
      have pn : p ≠ l := pl
      refine ⟨_, rfl, ?_, _, rfl, _, rfl, l, _, rfl, .inl (SqL.of r1), p, q, ns, s2, g2, _, rfl, hP2, hl, by omega, by omega, by rw [List.length_map]; omega, by rw [List.length_map]; omega, fun m s3 g3 H3 m0 m1 b0 b1 hP3 hB3 => ?_⟩
      · exact .inl ⟨rfl, _, SqL.of r1⟩
      have lp := pl.symm
      have cp : c ≠ p := (ne_of_none (e1 _ _ hP.p) nc).symm
      have m1 : m < rem.length := by rw [List.length_map] at m1; exact m1
      have kl : m.toNat < rem.length := by omega
      have l3 := hB3 l _ r1 lp
      have six : seqIndex? m (rem.map V.str).length = some m.toNat := by
        simp [seqIndex?, show ¬ m < 0 by omega, m0, m1]
      have hP4 : Pen (upd H3 l (.lst ((rem.map V.str).eraseIdx m.toNat))) p q ns s3 g3 := ⟨by rw [upd_ne pl]; exact hP3.p, by rw [upd_ne ql]; exact hP3.q⟩
      refine ⟨l, _, m, m.toNat, .str (rem[m.toNat]), rfl, rfl, l3, by omega, by omega, six, by rw [List.getElem?_map, List.getElem?_eq_getElem kl]; rfl, ?_⟩
      refine ⟨_, rfl, p, q, ns, s3, g3, rfl, hP4, hl, by omega, by omega, fun j s4 g4 H5 j0 j1 c0 c1 hP5 hB5 => ?_⟩
      have l5 := hB5 l _ upd_same lp
      have c5 := hB5 c _ (by rw [upd_ne cl]; exact hB3 c _ r2 cp) cp
      have pm : (rem[m.toNat] :: rem.eraseIdx m.toNat).Perm rem := erase_perm rem _ kl
      have pm2 : ((kvs ++ [(rem[m.toNat], j)]).map (·.1) ++ rem.eraseIdx m.toNat).Perm (kvs.map (·.1) ++ rem) := by
        rw [List.map_append, List.append_assoc]
        exact List.Perm.append_left _ pm
      have nin : ¬ (kvs.any fun t => decide (t.1 = rem[m.toNat])) = true := fun z => by
        obtain ⟨t, ht, et⟩ := List.any_eq_true.mp z
        exact (List.nodup_append.mp r5).2.2 _ (List.mem_map_of_mem ht) _ (List.getElem_mem kl) (of_decide_eq_true et)
      have en : putK (Fk.ents kvs) (Sum.inr rem[m.toNat]) (V.int j) = Fk.ents (kvs ++ [(rem[m.toNat], j)]) := by
        rw [← Fk.ents_put]
        unfold Fk.putR
        rw [if_neg nin]
      refine ⟨_, rfl, _, rfl, c, _, rfl, DPut.k (k := Sum.inr rem[m.toNat]) c5 (by unfold Fk.ents; rw [List.length_map, sizeLine_eq]; omega), rem.eraseIdx m.toNat, kvs ++ [(rem[m.toNat], j)], s4, g4, _, _, rfl, ?_, by rw [upd_same, en], by rw [List.length_append]; show kvs.length + 1 = i + 1; omega,
        by rw [List.length_eraseIdx_of_lt kl]; omega, pm2.nodup_iff.mpr r5, fun x hx => r6 x (pm2.mem_iff.mp hx), fun t ht => ?_, by omega, by omega, ⟨by rw [upd_ne cp.symm]; exact hP5.p, ?_⟩, fun b o hb nb => ?_⟩
      · rw [upd_ne lc, ← erase_map]
        exact l5
      · rcases List.mem_append.mp ht with ht | ht
        · exact r7 t ht
        · rw [List.mem_singleton.mp ht]
          exact ⟨j0, j1⟩
      · have cq : c ≠ q := (ne_of_none (e1 _ _ hP.q) nc).symm
        rw [upd_ne cq.symm]
        exact hP5.q
      · have bc : b ≠ c := ne_of_none hb cH
        have bl : b ≠ l := ne_of_none hb nl
        rw [upd_ne bc]
        exact hB5 b o (by rw [upd_ne bl]; exact hB3 b o (hB2 b o hb nb) nb) nb
    · rintro σ H2 ⟨rem, kvs, s2, g2, o3, o4, rfl, r1, r2, r3, r4, r5, r6, r7, r8, r9, hP2, hB2⟩
      refine ⟨_, rfl, k c kvs s2 g2 H2 ⟨?_, fun t ht => r6 _ (List.mem_append_left _ (List.mem_map_of_mem ht)), fun t ht => (r7 t ht).1, fun t ht => (r7 t ht).2, by omega⟩ cH r2 r8 (by omega) hP2 hB2⟩
      exact (List.nodup_append.mp r5).1
end
end K10

set_option Elab.async false
set_option linter.all false
set_option maxRecDepth 100000
set_option maxHeartbeats 4000000
/-! What the law tells of some amounts. -/
namespace K10
open PySem PySem.Spec PyProof.Rows L2 EvP Cm Fk
abbrev sTold : Stmt := top 32
def spTold : Sp := fun vs H Q _ => ∃ (d : Addr) (kvs : Fk.Row), vs = [.ref d] ∧ H d = some (.dK (ents kvs)) ∧ (kvs.map (·.1)).Nodup ∧ kvs.length < 64 ∧
  ∀ a ws H', Ex H H' → H a = none → H' a = some (.lst ws) → All2 H' ((told kvs).map fun t => tupV [V.str t.1, .int t.2]) ws → Q (.ref a) H'
theorem scTold : FnScope ["plain", "title", "one"] ["plain"] (defScope sTold) := ⟨rfl, rfl, rfl, by decide +kernel, rfl, by decide +kernel, by decide +kernel⟩
section
variable {P : Program} {w : World} {K : PySem.W.Frag} {mg : Str → Option Value} {base : Heap} {f : Addr} {fd : FuncData}
theorem ok_told (F : Fun K "_law_told" "_law_told" sTold f fd) (hS : mg "sorted" = none) (hT : mg "str" = none) : FnOk P w K mg base CX0 1 f fd ["plain"] spTold := by
  have nd := scTold.nd
  refine F.ok scTold (fun vs H Q E h => ?_) (fun cdv A outer s H vs Q E hr h => ?_)
  · obtain ⟨d, kvs, rfl, _⟩ := h
    rfl
  · obtain ⟨d, kvs, rfl, hd, nod, fw, q⟩ := h
    have hu := hu_of hr
    refine ⟨_, pss_one (ps_ret (pe_lc (own := [("title", 1)]) (g := gName 1) (tt := tTest (tOp (rI0 fun i j => .bl (decide (j < i))) (tDGet (tVar 0) (tVar 1)) (tC (.int 0)))) (te := tTup (tCons (tVar 1) (tCons (tDGet (tVar 0) (tVar 1)) tNil))) rfl nd
      (pi_list (pe_callB cr_sortedS (by rfl) hS (by decide +kernel) (pa_cons (pe_lock (pe_lc (own := [("one", 2)]) (g := gName 2) (tt := tYes) rfl nd (pi_keys (pv 0)) (blkOk_by (N := ["plain", "title", "one"]) (sc := defScope sTold) (by decide +kernel))
        (fun _ _ _ _ _ => pg_name (i := 2) nd rfl (Or.inl rfl)) (fun _ _ _ _ _ => pts_nil) (fun _ _ _ _ _ => pe_callTy (T := "str") SkE.call_str_str (by rfl) hT (by decide +kernel) (pa_cons (pv 2) pa_nil)))) pa_nil)))
      (blkOk_by (N := ["plain", "title", "one"]) (sc := defScope sTold) (by decide +kernel))
      (fun _ _ _ _ _ => pg_name (i := 1) nd rfl (Or.inl rfl)) (fun _ _ _ _ _ => pts_one (pt_cmpR op_gt (pe_dget hu (pv 0) (pv 1) (fun _ _ => rfl)) pe_int (nomark _))) (fun _ _ _ _ _ => pe_tup (pa_cons (pv 1) (pa_cons (pe_dget hu (pv 0) (pv 1) (fun _ _ => rfl)) pa_nil))))), ?_⟩
    have few : kvs.length ≤ 1000 := Nat.le_trans (Nat.le_of_lt fw) (by decide)
    have inn : ∀ {n}, n ∈ srt (kvs.map (·.1)) → n ∈ kvs.map (·.1) := fun h => mem_srt.mp h
    have len : (srt (kvs.map (·.1))).length = kvs.length := by rw [(srt_perm _).length_eq, List.length_map]
    have lenV : ((srt (kvs.map (·.1))).map V.str).length ≤ 1000 := by rw [List.length_map, len]; exact few
    have get : ∀ (n : Str), n ∈ kvs.map (·.1) → EvP.Gives (tDGet (tVar 0) (tVar 1)) [some (.ref d), some (.str n), none] H (is (.int (amt kvs n))) := fun n hn =>
      g_get (k := Sum.inr n) rfl rfl hd (by rw [valV_ents, (amt_of hn).1]; rfl)
    refine' EvP.st_ret ?h1 ?k1
    case h1 =>
      refine comp (posV kvs) (rowP kvs) (walks_list (g_sorted (ss := kvs.map (·.1)) ?_ (by rw [List.length_map]; exact fw))) lenV (fun _ => rfl) (fun y hy H3 e3 Q h => ?_) (fun y hy _ => ?_) (fun y hy => ?_)
      · rw [← ents_keys]
        refine comp_keys (m := 0) (d := d) (kvs := ents kvs) kV rfl hd (by unfold ents; rw [List.length_map]; exact few) (fun _ => rfl) fun y hy H1 Q h => ?_
        obtain ⟨t, _, rfl⟩ := List.mem_map.mp hy
        exact ⟨_, rfl, _, rfl, h⟩
      · obtain ⟨m, hm, rfl⟩ := List.mem_map.mp hy
        exact ⟨_, rfl, _, rfl, d, .int (amt kvs m), rfl, (by rw [show some (V.int (amt kvs m)) = valV (ents kvs) (Sum.inr m) by rw [valV_ents, (amt_of (inn hm)).1]; rfl]; exact DGet.k (k := Sum.inr m) (e3 _ _ hd)), amt kvs m, 0, rfl, rfl, _, rfl, h⟩
      · obtain ⟨m, hm, rfl⟩ := List.mem_map.mp hy
        exact Fk.Gives.imp (EvP.tuple (EvP.cons (EvP.var rfl) (EvP.cons (get m (inn hm)) EvP.nil)) (by show 2 ≤ 1000; decide)) fun v H h => tup_is (xs := [.str m, .int (amt kvs m)]) h
      · obtain ⟨m, hm, rfl⟩ := List.mem_map.mp hy
        exact stays_tupV _
    intro v H1 e1 ⟨a, ws, ev, ha, na, hs⟩
    subst ev
    rw [pos_names, ← told_rows] at hs
    exact q a ws H1 e1 na ha hs
end
end K10

set_option Elab.async false
set_option linter.all false
set_option maxRecDepth 100000
set_option maxHeartbeats 4000000
/-! The law's own text of some amounts. -/
namespace Cm
open PySem PySem.Spec PyProof.Rows L2 EvP
def lstA (Ps : List PR) : PR := ⟨fun v H => ∃ a ws, v = .ref a ∧ H a = some (.lst ws) ∧ All2 H Ps ws, fun _ _ _ e ⟨a, ws, h1, h2, h3⟩ => ⟨a, ws, h1, e _ _ h2, h3.ex e⟩⟩
section
variable {K : PySem.W.Frag} {σ : L2.St} {H : Hp} {tl te : TE} {vs : List Nat} {g : TG}
/-- [e for target in a new list], place by place -/
theorem compQ {Ps0 Ps : List PR} (h : EvP.Gives tl σ H (lstA Ps0)) (hz : Ps0.length ≤ 1000) (hl : Ps.length = Ps0.length)
    (step : ∀ (j : Nat) (x : V) (P0 P : PR) (H2 : Hp), Ex H H2 → Ps0[j]? = some P0 → Ps[j]? = some P → P0.R x H2 → ∃ σ2 : L2.St, wipe σ2 vs = wipe σ vs ∧ (∀ H1, Ex H2 H1 → ∀ Q : L2.St → Hp → Prop, Q σ2 H1 → g x (wipe σ vs) H1 Q) ∧ EvP.Gives te σ2 H2 P) (st : ∀ P ∈ Ps, Stays P) :
    EvP.Gives (tLc (iList K tl) g tYes te vs) σ H (lst H Ps) := fun H1 e1 Q q =>
  h H1 e1 _ fun v H2 e2 ⟨a, ws, ev, ha, hs⟩ => by
    have z : EvP.Gives (tLc (iList K (tC v)) g tYes te vs) σ H2 (lst H2 Ps) := compP (xs := ws) (walks_list (fun H3 e3 Q k => k v H3 (Ex.refl H3) ⟨a, ev, e3 _ _ ha⟩)) (by rw [hs.length]; exact hz) (by rw [hs.length]; exact hl) (fun j x P hx hP => by
      have hj : j < Ps0.length := by
        rw [← hl]
        exact (List.getElem?_eq_some_iff.mp hP).1
      obtain ⟨y, hy, hr⟩ := hs.get (i := j) (P := Ps0[j]) (List.getElem?_eq_getElem hj)
      have exy : x = y := Option.some.inj (hx.symm.trans hy)
      subst exy
      exact step j x _ P H2 (e1.trans e2) (List.getElem?_eq_getElem hj) hP hr) st
    exact z H2 (Ex.refl H2) Q fun u H3 e3 ⟨D, zs, eu, hD, nD, hz⟩ => q u H3 (e2.trans e3) ⟨D, zs, eu, hD, (e1.trans e2).back nD, hz⟩
end
end Cm
namespace K10
open PySem PySem.Spec PyProof.Rows L2 EvP Cm Fk
abbrev sLine : Stmt := top 33
theorem e_join {σ : L2.St} {H : Hp} {P : PR} {te : TE} {a : Str} {r : V → List V → Hp → VK → Prop} {Q : VK} (h : EvP.Gives te σ H P) (k : ∀ v H1, Ex H H1 → P.R v H1 → r (.str a) [v] H1 Q) : tM1 r (tC (.str a)) te σ H Q := ⟨⟨a, rfl⟩, h H (Ex.refl H) _ k⟩
theorem name_ok {x : Str} (h : nameB x = true) : PyData.strOk x = true := by
  unfold nameB at h
  simp only [Bool.and_eq_true] at h
  have a := h.1.1.2
  unfold Txt.isascii at a
  unfold PyData.strOk
  rw [Array.all_eq_true] at a ⊢
  intro i hi
  have := of_decide_eq_true (a i hi)
  exact decide_eq_true (Nat.lt_trans this (by decide))
theorem told_sub {kvs : Fk.Row} {t : Str × Int} (h : t ∈ told kvs) : t ∈ kvs := by
  rw [told_eq] at h
  obtain ⟨n, hn, rfl⟩ := List.mem_map.mp h
  exact (amt_of (mem_srt.mp (List.mem_filter.mp hn).1)).2
theorem told_len (kvs : Fk.Row) : (told kvs).length ≤ kvs.length := by
  rw [told_eq, List.length_map]
  refine Nat.le_trans (List.length_filter_le _ _) ?_
  rw [(srt_perm _).length_eq, List.length_map]
  exact Nat.le_refl _
/-- good amounts, each below 10 ^ 64 -/
structure Fine (kvs : Fk.Row) : Prop extends Good kvs where
  hi : ∀ t ∈ kvs, t.2 < 10 ^ 64
theorem Fine.small {kvs : Fk.Row} (g : Fine kvs) : Small (told kvs) where
  nm := fun t h => g.nm t (told_sub h)
  lo := fun t h => g.am t (told_sub h)
  hi := fun t h => g.hi t (told_sub h)
  few := Nat.lt_of_le_of_lt (told_len kvs) g.few
def spLine : Sp := fun vs H Q _ => ∃ (d : Addr) (kvs : Fk.Row), vs = [.ref d] ∧ H d = some (.dK (ents kvs)) ∧ Fine kvs ∧ ∀ H', Ex H H' → Q (.str (lineT (told kvs))) H'
theorem scLine : FnScope ["plain", "title", "many"] ["plain"] (defScope sLine) := ⟨rfl, rfl, rfl, by decide +kernel, rfl, by decide +kernel, by decide +kernel⟩
theorem shaped_list {ts : Fk.Row} (h : ∀ t ∈ ts, PyData.strOk t.1 = true) : SeqAt.shaped (.list (ts.map rowD)) = true := by
  have d := depth_rows ts
  show (PyData.canLayAll0 (ts.map rowD) && decide (PyData.depthAll (ts.map rowD) + 1 ≤ 64)) = true
  rw [lay_rows h, decide_eq_true (by omega)]
  rfl
section
variable {P : Program} {w : World} {K : PySem.W.Frag} {mg : Str → Option Value} {base : Heap} {f fT : Addr} {fd fdT : FuncData}
theorem ok_line (F : Fun K "_law_line" "_law_line" sLine f fd) (hT : mg "str" = none) (G : FnOk P w K mg base CX0 1 fT fdT ["plain"] spTold) (b : Binds K fdT ["plain"] []) (gT : mg "_law_told" = some (.ref fT)) (kT : PySem.W.keepIn K (.ref fT) = true) : FnOk P w K mg base CX0 2 f fd ["plain"] spLine := by
  have nd := scLine.nd
  refine F.ok scLine (fun vs H Q E h => ?_) (fun cdv A outer s H vs Q E hr h => ?_)
  · obtain ⟨d, kvs, rfl, _⟩ := h
    rfl
  · obtain ⟨d, kvs, rfl, hd, g, q⟩ := h
    refine ⟨_, pss_one (ps_ret (pe_ifExp (pt_cmpR (op_neD hr.units) (pe_call G hr (by rfl) gT kT b .nil pass0 (pa_cons (pv 0) pa_nil)) (pe_lst pa_nil) (nomark _))
      (pe_join pe_str (pe_lc (own := [("title", 1), ("many", 2)]) (g := gTup K 2 (gCons (gName 1) (gCons (gName 2) gNil))) (tt := tYes) rfl nd (pi_list (pe_call G hr (by rfl) gT kT b .nil pass0 (pa_cons (pv 0) pa_nil))) (blkOk_by (N := ["plain", "title", "many"]) (sc := defScope sLine) (by decide +kernel))
        (fun _ _ _ _ _ => by exact pg_tup rfl (pgs_cons (pg_name (i := 1) nd rfl (Or.inl rfl)) (pgs_cons (pg_name (i := 2) nd rfl (Or.inl rfl)) pgs_nil))) (fun _ _ _ _ _ => pts_nil)
        (fun _ _ _ _ _ => pe_op op_add_str (pe_op op_add_str (pv 1) pe_str) (pe_callTy (T := "str") call_str_int (by rfl) hT (by decide +kernel) (pa_cons (pv 2) pa_nil))))) pe_str)), ?_⟩
    have sm := g.small
    have fin : ∀ ts : Fk.Row, Small ts → ∀ t ∈ ts, PyData.strOk t.1 = true := fun ts s t ht => by
      obtain ⟨z, ez, _, hb⟩ := s.nm t ht
      cases ez
      exact name_ok hb
    refine ⟨_, rfl, d, kvs, rfl, hd, g.nod, g.few, fun a ws H1 e1 na ha hs => ⟨by show 0 ≤ sizeLine; decide, fun l hl => ?_⟩⟩
    have e2 := Ex.new (o := .lst []) hl
    refine ⟨.list ((told kvs).map rowD), .list [], .lst (SqL.of (e2 _ _ ha)) (dp_rows (hs.ex e2)), .lst (SqL.of upd_same) .nil, shaped_list (fin _ sm), by decide +kernel, _, rfl, ?_⟩
    have e12 := e1.trans e2
    rw [show PyData.eqv (.list ((told kvs).map rowD)) (.list []) = decide (told kvs = []) from eqv_rows (told kvs) []]
    by_cases emp : told kvs = []
    · rw [decide_eq_true emp]
      have := q _ e12
      unfold lineT at this
      rw [emp] at this
      exact this
    · rw [decide_eq_false emp]
      have hd2 := e12 _ _ hd
      have line : lineT (told kvs) = Txt.join " " ((told kvs).map wordT) := by
        unfold lineT
        rw [if_neg]
        intro z
        exact emp (List.isEmpty_iff.mp z)
      dsimp only
      rw [if_pos (by decide)]
      refine' e_join (P := lst (upd H1 l (.lst [])) ((told kvs).map fun t => is (.str (wordT t)))) ?h1 ?k1
      case h1 =>
        refine compQ (Ps0 := (told kvs).map fun t => tupV [V.str t.1, .int t.2]) (fun H3 e3 Q2 k2 => ⟨_, rfl, d, kvs, rfl, e3 _ _ hd2, g.nod, g.few, fun a2 ws2 H4 e4 _ ha2 hs2 => k2 _ _ e4 ⟨a2, ws2, rfl, ha2, hs2⟩⟩) ?_ (by rw [List.length_map, List.length_map]) (fun j x P0 P H2 e3 hP0 hP hx => ?_) (fun P hP => ?_)
        · rw [List.length_map]
          have := sm.few
          omega
        · rw [List.getElem?_map] at hP hP0
          obtain ⟨t, ht, rfl⟩ := Option.map_eq_some_iff.mp hP
          rw [ht] at hP0
          obtain rfl := Option.some.inj hP0
          obtain ⟨p, ep, hp⟩ := hx
          subst ep
          have mt := List.mem_of_getElem? ht
          obtain ⟨l1, l2, l3⟩ := word_len (sm.nm t mt) (sm.lo t mt) (sm.hi t mt)
          have e0 : Str.empty ++ t.1 = t.1 := Str.empty_append t.1
          have ew : wordT t = t.1 ++ " " ++ numT t.2 := by
            unfold wordT
            rw [e0]
          have lm : (numT t.2).length ≤ 64 := toString_length_le (sm.lo t mt) (k := 64) (by decide) (sm.hi t mt)
          refine ⟨[some (.ref d), some (.str t.1), some (.int t.2)], rfl, fun H3 e4 Q2 k2 => ⟨p, _, rfl, SqT.of (e4 _ _ hp), rfl, _, _, rfl, _, _, rfl, rfl, k2⟩, fun H3 e4 Q2 k2 => ?_⟩
          rw [e0] at l1 l2
          refine ⟨_, rfl, t.1, " ", rfl, rfl, by show t.1.length + 1 ≤ sizeLine; rw [sizeLine_eq]; omega, _, rfl, t.2, rfl, log_small (sm.lo t mt) (sm.hi t mt), t.1 ++ " ", numT t.2, rfl, rfl, ?_, k2 _ _ (Ex.refl H3) (by rw [ew]; rfl)⟩
          show (t.1 ++ " ").length + (numT t.2).length ≤ sizeLine
          rw [sizeLine_eq]
          omega
        · obtain ⟨t, _, rfl⟩ := List.mem_map.mp hP
          exact stays_is _
      intro v H3 e3 ⟨D, zs, ev, hD, _, hz⟩
      subst ev
      have ezs : zs = ((told kvs).map wordT).map V.str := by
        rw [List.map_map]
        refine all2_is (H := H3) ?_
        rw [List.map_map]
        exact hz
      subst ezs
      refine ⟨" ", D, (told kvs).map wordT, rfl, rfl, .inl (SqL.of hD), ?_, by rw [← line]; exact q _ (e12.trans e3)⟩
      have w := words_len (ts := told kvs) fun t mt => (word_len (sm.nm t mt) (sm.lo t mt) (sm.hi t mt)).2.2
      have f := sm.few
      rw [List.length_map]
      show _ + (told kvs).length * 1 ≤ 16777216
      omega
end
end K10

set_option Elab.async false
set_option linter.all false
set_option maxRecDepth 100000
set_option maxHeartbeats 4000000
/-! x in (texts), x a list, a tuple, a dict: never. -/
namespace Own
open PySem PySem.Spec PySem.Calls PyProof.Rows PySem.W L2
open AutoSeq1 (wpAny_loadPart')
open MeetsSeq MeetsSeq2 MeetsSeq3 SeqRoads2
theorem str_declines_dict (b : Str) (u : Tok) (l : Addr) (o : Obj) (hc : o.cls = .type "dict") (hn : ∃ es ep, o.data = .dict es ep) :
    Meets (Builtin.«str.__eq__» ⟨[.str b u, .ref l], []⟩) (fun _ R s => s.heap.get? l = some o ∧ R (.ok (.ret .notImplemented)) s) :=
  .of_wp fun prog w A R s h => by
    obtain ⟨hp, g, d, tk, os⟩ := s
    obtain ⟨hl, h⟩ := h
    obtain ⟨c, dd, dt, sl⟩ := o
    simp only at hc
    subst hc
    have f1 := F.sub_dict_str
    obtain ⟨es, ep, hd⟩ := hn
    simp only at hd
    subst hd
    wp_walk using wpAny_loadPart' hl, wpAny_load hl
    exact ⟨_, rfl, h⟩
theorem dict_declines_str (b : Str) (u : Tok) (l : Addr) (o : Obj) (hc : o.cls = .type "dict") :
    Meets (Builtin.«dict.__eq__» ⟨[.ref l, .str b u], []⟩) (fun _ R s => s.heap.get? l = some o ∧ R (.ok (.ret .notImplemented)) s) :=
  .of_wp fun prog w A R s h => by
    obtain ⟨hp, g, d, tk, os⟩ := s
    obtain ⟨hl, h⟩ := h
    obtain ⟨c, dd, dt, sl⟩ := o
    simp only at hc
    subst hc
    have f1 := F.sub_str_dict
    wp_walk using wpAny_loadPart' hl, wpAny_load hl
    exact ⟨_, rfl, h⟩
section
variable {A : Around} {s : Shared}
theorem rcAt_str_dict {l : Addr} {o : Obj} (b : Str) (u : Tok) (ho : s.heap.get? l = some o) (hc : o.cls = .type "dict") (hn : ∃ es ep, o.data = .dict es ep) (hu : A.units < cLine) : SeqAt.RcAt A s (.str b u) (.ref l) false := fun prog w E Q h =>
  SeqAt.rc_eq_decline_or (k := false) (typeIs_str s b u) ⟨_, ho, hc⟩ (by decide) F.sub_dict_str F.slot_str_eq F.slot_dict_eq_refl
    (fun _ hq => call_meets F.slot_str_eq (typeIs_str s b u) F.entry_str_eq (F.args_str_eq_2 _ _) (str_declines_dict b u l o hc hn) ⟨ho, hq⟩)
    (fun _ hq => call_meets F.slot_dict_eq_refl ⟨_, ho, hc⟩ F.entry_dict_eq (F.args_dict_eq_2 _ _) (dict_declines_str b u l o hc) ⟨ho, hq⟩)
    (fun _ hq => wpAny_of_eq (rfl : isSame (.str b u) (.ref l) = pure false) hq) (.inr hu) h
theorem eqAt_str_dict {l : Addr} {o : Obj} (b : Str) (u : Tok) (ho : s.heap.get? l = some o) (hc : o.cls = .type "dict") (hn : ∃ es ep, o.data = .dict es ep) (hu : A.units < cLine) : SeqAt.EqAt A s (.str b u) (.ref l) false := fun prog w E Q h => by
  unfold eqBool
  refine wpAny_holding ?_
  refine wpAny_ite_split (fun hab => absurd (eq_of_beq hab) nofun) (fun _ => ?_)
  exact wpAny_bind (rcAt_str_dict b u ho hc hn hu prog w E _ (wpAny_truthy_bool h))
end
section
variable {X : Cx}
/-- an object, no text -/
def Odd (H : Hp) (a : Addr) : Prop := (∃ xs, H a = some (.lst xs)) ∨ (∃ xs, H a = some (.tup xs)) ∨ (∃ kvs, H a = some (.dK kvs))
def rInStrs (K : PySem.W.Frag) : R2 := fun x y H Q => ∃ (a p : Addr) (ss : List Str), x = .ref a ∧ y = .ref p ∧ Odd H a ∧ SqT K H p (ss.map V.str) ∧ Q (.bl false) H
theorem op_in_strs (hu : X.A.units + 1 < cLine) : OpR X (compareOp .In) (rInStrs X.K) := by
  intro pins s σ H x y v u Q I rx ry h
  obtain ⟨a, p, ss, rfl, rfl, ho, hq, q⟩ := h
  cases rx
  cases ry
  obtain ⟨its, r, pl, hz⟩ := I.tuple hq
  have hu1 : X.A.in1.units < cLine := by show X.A.units + 1 < cLine; exact hu
  have allS : ∀ w ∈ its, ∃ (b : Str) (t : Tok), w = .str b t := fun w hw => by
    clear pl hz hq q ho
    induction ss generalizing its with
    | nil => cases r; cases hw
    | cons b bs ih =>
      cases r with
      | cons r1 r2 =>
        rcases List.mem_cons.mp hw with rfl | hw
        · obtain ⟨t, e⟩ := r1
          exact ⟨b, t, e⟩
        · exact ih _ r2 hw
  have key : ∀ w ∈ its, SeqAt.EqAt X.A.in1 s w (.ref a) false := fun w hw => by
    obtain ⟨b, t, rfl⟩ := allS w hw
    rcases ho with ⟨xs, hx⟩ | ⟨xs, hx⟩ | ⟨kvs, hx⟩
    · obtain ⟨jts, _, pl2, _⟩ := I.list (SqL.of (K := X.K) hx)
      exact SeqAt.EqAt.str_list b t pl2.isList hu1
    · obtain ⟨jts, _, pl2, _⟩ := I.tuple (SqT.of (K := X.K) hx)
      exact SeqAt.EqAt.str_tuple b t pl2 hu1
    · obtain ⟨_, _, vs, _, dof⟩ := dk_of I.hok hx
      obtain ⟨ep, ob, es, hob, ex, hd, _⟩ := dof.dictAt
      exact eqAt_str_dict b t hob ex.1 ⟨es, ep, hd⟩ hu1
  refine SeqAt.in_tupleAt (fun _ => false) pl (fun w hw => key w (by simpa using hw)) ⟨.bl _, H, I, rfl, ?_⟩
  rw [show its.toArray.any (fun _ => false) = false by simp]
  exact q
end
end Own

set_option Elab.async false
set_option linter.all false
set_option maxRecDepth 100000
set_option maxHeartbeats 4000000
/-! x in [..], x an own instance: each item declines, then the class's __eq__ answers no. -/
namespace Own
open PySem PySem.Spec PySem.Calls PyProof.Rows PySem.W L2
open AutoSeq1 (wpAny_loadPart')
open MeetsSeq MeetsSeq2 MeetsSeq3 SeqRoads2
theorem str_declines_ins (b : Str) (u : Tok) (l C dx : Addr) :
    Meets (Builtin.«str.__eq__» ⟨[.str b u, .ref l], []⟩) (fun _ R s => s.heap.get? l = some (instObj C dx) ∧ R (.ok (.ret .notImplemented)) s) :=
  .of_wp fun prog w A R s h => by
    obtain ⟨hp, g, d, tk, os⟩ := s
    obtain ⟨hl, h⟩ := h
    wp_walk using wpAny_loadPart' hl, wpAny_load hl
    exact ⟨_, rfl, h⟩
theorem none_declines_ins (l : Addr) :
    Meets (Builtin.«NoneType.__eq__» ⟨[.none, .ref l], []⟩) (fun _ R s => R (.ok (.ret .notImplemented)) s) :=
  .of_wp fun prog w A R s h => by
    obtain ⟨hp, g, d, tk, os⟩ := s
    wp_walk
    exact ⟨_, rfl, h⟩
theorem dict_declines_ins (l a : Addr) (o : Obj) (hc : o.cls = .type "dict") :
    Meets (Builtin.«dict.__eq__» ⟨[.ref l, .ref a], []⟩) (fun _ R s => s.heap.get? l = some o ∧ (∀ (M : Model) (A : Around) (E : Value → Shared → Prop) (Q : Bool → Shared → Prop), Q false s → wpAny M A (isInstance (.ref a) (.type "dict")) Q E s) ∧ R (.ok (.ret .notImplemented)) s) :=
  .of_wp fun prog w A R s h => by
    obtain ⟨hp, g, d, tk, os⟩ := s
    obtain ⟨hl, hI, h⟩ := h
    obtain ⟨c, dd, dt, sl⟩ := o
    simp only at hc
    subst hc
    wp_walk using wpAny_loadPart' hl, wpAny_load hl, hI _ _ _ _
    exact ⟨_, rfl, h⟩
section
variable {X : Cx} {pins : List (Addr × Obj)} {σ : L2.St} {H : Hp} {s : Shared} {C f : Addr} {fd : FuncData} {k : Nat} {ps : List Str} {sp : Sp}
/-- u == x, x an own instance, where u's own way declines -/
theorem rc_own_right {A' : Around} {a dx : Addr} {fs : List (Str × V)} {y : V} {u : Value} {T id : String} {Q : VK} (M : Mt X.prog X.w X.K X.mg X.base C "__eq__" k ps sp f fd) (frames : A'.frames = X.A.frames) (hr : Room k A') (I : Inv X pins σ H s)
    (ha : s.TypeIs u T) (hx : H a = some (.ins C dx fs)) (sub : subIn X.K (.ref C) (.type T) = some false) (slot : Slot T (cmpInfo .Eq).2.1 id) (hc : ∀ Q' : Value → Shared → Prop, Q' .notImplemented s → wpAny (model X.prog X.w) A' (call (.builtin id) [u, .ref a]) Q' X.xe s)
    (ry : RelV y u) (h : sp [.ref a, y] H Q E0) : wpAny (model X.prog X.w) A' (richCompare .Eq u (.ref a)) (EP X pins σ Q) X.xe s := by
  obtain ⟨ox, od, J⟩ := ins_at I hx
  have hu : A'.units < cLine := by have := hr.un; omega
  rcases hi : cmpInfo CmpOp.Eq with ⟨sym, g, r⟩
  have er : r = "__eq__" := by
    have : (cmpInfo CmpOp.Eq).2.2 = r := by rw [hi]
    rw [← this]
    rfl
  rw [hi] at slot
  simp only [richCompare, hi, ha.oneThing_none]
  refine wpAny_holding (wpAny_bind (wpAny_cRoomFor hu ?_))
  refine wpAny_bind (wpAny_typeOf ha (wpAny_bind (J.type.here ?_)))
  have ne : ((Value.type T) != (Value.ref C)) = true := rfl
  simp only [ne, if_true]
  refine wpAny_bind ((looks_subIn I.kIn sub).here ?_)
  simp only [Bool.false_eq_true, if_false, Bool.not_false, if_true]
  refine wpAny_bind (m := tryCompare u _ (.ref a)) (wpAny_tryCompare_declines ha slot (hc _ ⟨rfl, ?_⟩))
  have one : wpAny (model X.prog X.w) A' (tryCompare (.ref a) r u) (fun r s' => ∃ v, r = some v ∧ EP X pins σ Q v s') X.xe s := by
    rw [er]
    unfold tryCompare
    refine wpAny_bind (ifBound_K I.kIn J M.at_ M.fn (wpAny_mono (run_at M.ok M.b frames hr I (.cons (show RelV (V.ref a) (Value.ref a) from rfl) (.cons ry .nil)) h) (fun v s' z => ?_) fun _ _ z => z))
    obtain ⟨v', H', I', rv, q⟩ := z
    have n := not_ni rv
    cases v <;> first | exact absurd rfl n | exact wpAny_pure ⟨_, rfl, v', H', I', rv, q⟩
  refine wpAny_bind (wpAny_mono one (fun r s' z => ?_) fun _ _ e => e)
  obtain ⟨v, rfl, hq⟩ := z
  exact wpAny_pure hq
/-- what an item of the list can be -/
def Decl (H : Hp) (y : V) : Prop := y = .non ∨ (∃ z, y = .str z) ∨ ∃ d kvs, y = .ref d ∧ H d = some (.dK kvs)
theorem eq_decl {a dx : Addr} {fs : List (Str × V)} {y : V} {u : Value} (M : Mt X.prog X.w X.K X.mg X.base C "__eq__" k ps sp f fd) (hr : Room (k + 1) X.A) (I : Inv X pins σ H s) (hx : H a = some (.ins C dx fs)) (hd : Decl H y)
    (sN : subIn X.K (.ref C) (.type "NoneType") = some false) (sS : subIn X.K (.ref C) (.type "str") = some false) (sD : subIn X.K (.ref C) (.type "dict") = some false)
    (ry : RelV y u) (h : sp [.ref a, y] H (fun v H' => v = .bl false ∧ H' = H) E0) {Q : Bool → Shared → Prop} (q : ∀ s', Inv X pins σ H s' → Q false s') : wpAny (model X.prog X.w) X.A.in1 (eqBool u (.ref a)) Q X.xe s := by
  have ret : ∀ v s', EP X pins σ (fun v H' => v = .bl false ∧ H' = H) v s' → wpAny (model X.prog X.w) X.A.in1 (truthOfDropped v) Q X.xe s' := fun v s' z => by
    obtain ⟨v', H', I', rv, rfl, rfl⟩ := z
    obtain rfl : v = Value.bool false := rv
    exact wpAny_truthy_bool (q _ I')
  obtain ⟨mA, O, _⟩ := ins_get I.hok hx
  have ob := O.1
  rcases hd with rfl | ⟨z, rfl⟩ | ⟨d, kvs, rfl, hk⟩
  · obtain rfl : u = Value.none := ry
    unfold eqBool
    refine wpAny_holding (wpAny_ite_split (fun hab => absurd (eq_of_beq hab) nofun) (fun _ => wpAny_bind (wpAny_mono (rc_own_right (T := "NoneType") M rfl hr.in1 I rfl hx sN F.slot_NoneType_eq (fun Q' hq => call_meets F.slot_NoneType_eq rfl F.entry_NoneType_eq (F.args_NoneType_eq_2 _ _) (none_declines_ins a) hq) (show RelV V.non Value.none from rfl) h) ret fun _ _ e => e)))
  · obtain ⟨t, rfl⟩ := ry
    unfold eqBool
    refine wpAny_holding (wpAny_ite_split (fun hab => absurd (eq_of_beq hab) nofun) (fun _ => wpAny_bind (wpAny_mono (rc_own_right (T := "str") M rfl hr.in1 I (typeIs_str s z t) hx sS F.slot_str_eq (fun Q' hq => call_meets F.slot_str_eq (typeIs_str s z t) F.entry_str_eq (F.args_str_eq_2 _ _) (str_declines_ins z t a C dx) ⟨ob, hq⟩) (show RelV (V.str z) (Value.str z t) from ⟨t, rfl⟩) h) ret fun _ _ e => e)))
  · obtain rfl : u = Value.ref d := ry
    obtain ⟨_, _, vs, _, dof⟩ := dk_of I.hok hk
    obtain ⟨ep, o, es, hob, ex, hd, _⟩ := dof.dictAt
    have da : d ≠ a := fun z => by
      rw [z, hx] at hk
      cases hk
    obtain ⟨ox, od, J⟩ := ins_at I hx
    unfold eqBool
    refine wpAny_holding (wpAny_ite_split (fun hab => absurd (eq_of_beq hab) (fun z => da (by injection z))) (fun _ => wpAny_bind (wpAny_mono (rc_own_right (T := "dict") M rfl hr.in1 I ⟨o, hob, ex.1⟩ hx sD F.slot_dict_eq (fun Q' hq => call_meets F.slot_dict_eq ⟨o, hob, ex.1⟩ F.entry_dict_eq (F.args_dict_eq_2 _ _) (dict_declines_ins d a o ex.1) ⟨hob, fun M A E Q q => by
      unfold isInstance
      exact wpAny_bind (J.type.here ((looks_subIn I.kIn sD).here q)), hq⟩) (show RelV (V.ref d) (Value.ref d) from rfl) h) ret fun _ _ e => e)))
theorem own_loop {a dx l : Addr} {fs : List (Str × V)} {ys : List V} (M : Mt X.prog X.w X.K X.mg X.base C "__eq__" k ps sp f fd) (hr : Room (k + 1) X.A) (hx : H a = some (.ins C dx fs)) (hl : H l = some (.lst ys)) (hd : ∀ y ∈ ys, Decl H y)
    (sN : subIn X.K (.ref C) (.type "NoneType") = some false) (sS : subIn X.K (.ref C) (.type "str") = some false) (sD : subIn X.K (.ref C) (.type "dict") = some false)
    (h : ∀ y ∈ ys, sp [.ref a, y] H (fun v H' => v = .bl false ∧ H' = H) E0) {R : Result → Shared → Prop} (rE : ∀ e s', X.xe e s' → R (.error e) s') (q : ∀ s', Inv X pins σ H s' → R (.ok (.ret (.bool false))) s') :
    ∀ (n i : Nat) (s : Shared), ys.length - i = n → Inv X pins σ H s → wpAny (model X.prog X.w) X.A.in1 (Builtin.«list.__contains__.loop» ⟨[.ref l, .ref a, rawInt i], []⟩)
      (fun fin s' => match fin with | .done f => R (.ok f) s' | .again c' => c'.quiet = true ∧ codeAny (model X.prog X.w) X.A c' R s') (fun e s' => R (.error e) s') s := by
  intro n
  induction n with
  | zero =>
    intro i s hk I
    obtain ⟨its, rv, ⟨⟨cls, dd, data, sl⟩, m, ho, hc, hdn, hdt⟩, hz⟩ := I.list (SqL.of (K := X.K) hl)
    simp only at hc hdt
    subst hc hdt
    have len := rv.length
    have hi : its.toArray[((i : Nat) : Int).toNat]? = none := by simp; omega
    obtain ⟨hp, g, d, tk, os⟩ := s
    wp_walk using wpAny_loadPart' ho
    rw [hi]
    wp_walk
    exact q _ I
  | succ n ih =>
    intro i s hk I
    obtain ⟨its, rv, ⟨⟨cls, dd, data, sl⟩, m, ho, hc, hdn, hdt⟩, hz⟩ := I.list (SqL.of (K := X.K) hl)
    simp only at hc hdt
    subst hc hdt
    have len := rv.length
    have hlt : i < its.length := by omega
    have hly : i < ys.length := by omega
    have hi : its.toArray[((i : Nat) : Int).toNat]? = some its[i] := by simp [hlt]
    have ri : RelV ys[i] its[i] := by
      obtain ⟨u, e1, e2⟩ := Vals.get rv (List.getElem?_eq_getElem hly)
      rw [List.getElem?_eq_getElem hlt] at e1
      cases e1
      exact e2
    have my : ys[i] ∈ ys := List.getElem_mem hly
    obtain ⟨hp, g, d, tk, os⟩ := s
    wp_walk using wpAny_loadPart' ho
    rw [hi]
    refine wpAny_bind (wpAny_mono (eq_decl M hr I hx (hd _ my) sN sS sD ri (h _ my) (Q := fun b s' => b = false ∧ Inv X pins σ H s') fun s' I' => ⟨rfl, I'⟩) (fun b s' z => ?_) fun e s' z => rE e s' z)
    obtain ⟨rfl, I'⟩ := z
    have hc : ((i : Int) + 1) = ((i + 1 : Nat) : Int) := by push_cast; rfl
    wp_walk
    rw [hc]
    exact ⟨plainId_quiet plain_contains_loop _, codeAny_builtin entry_contains_loop (by
      rw [Around.under_plainId plain_contains_loop _]
      exact ih (i + 1) s' (by omega) I')⟩
/-- x in l: no item is x -/
def rInOwnL (C : Addr) (sp : Sp) : R2 := fun x y H Q => ∃ (l : Addr) (ys : List V), Ins H x C ∧ y = .ref l ∧ H l = some (.lst ys) ∧ (∀ y ∈ ys, Decl H y) ∧ (∀ y ∈ ys, sp [x, y] H (fun v H' => v = .bl false ∧ H' = H) E0) ∧ Q (.bl false) H
theorem in_ownL (M : Mt X.prog X.w X.K X.mg X.base C "__eq__" k ps sp f fd) (hr : Room (k + 1) X.A)
    (sN : subIn X.K (.ref C) (.type "NoneType") = some false) (sS : subIn X.K (.ref C) (.type "str") = some false) (sD : subIn X.K (.ref C) (.type "dict") = some false) : OpR X (compareOp .In) (rInOwnL C sp) := by
  intro pins s σ H x y v u Q I rx ry h
  obtain ⟨l, ys, ⟨a, dx, fs, rfl, ha⟩, rfl, hl, hd, he, q⟩ := h
  cases rx
  cases ry
  obtain ⟨its, rv, ⟨⟨cls, dd, data, sl⟩, m, ho, hc, hdn, hdt⟩, hz⟩ := I.list (SqL.of (K := X.K) hl)
  simp only at hc hdt
  subst hc hdt
  show wpAny (model X.prog X.w) X.A (do return Value.bool (← contains (.ref l) (.ref a))) (EP X pins σ Q) X.xe s
  refine wpAny_bind (wpAny_contains_slot ⟨_, ho, rfl⟩ F.slot_list_contains (wpAny_mono (Q := fun v s' => v = Value.bool false ∧ Inv X pins σ H s') (wpAny_call (codeAny_call_builtin F.slot_list_contains.plain F.entry_list_contains (F.slot_list_contains.check _ _ _ _ _ _ _ _ ⟨_, ho, rfl⟩ (F.args_list_contains_2 _ _) ?_))) (fun v s' hv => ?_) fun _ _ e => e))
  · obtain ⟨hp, g, d, tk, os⟩ := s
    wp_walk
    exact ⟨plainId_quiet plain_contains_loop _, codeAny_builtin entry_contains_loop (by
      rw [Around.under_plainId plain_contains_loop _]
      exact own_loop (R := fun r s' => match r with | .ok (.ret v) => v = Value.bool false ∧ Inv X pins σ H s' | .ok _ => False | .error e => X.xe e s') M hr ha hl hd sN sS sD he (fun _ _ z => z) (fun s' I' => ⟨rfl, I'⟩) _ 0 _ rfl I)⟩
  · obtain ⟨rfl, I'⟩ := hv
    exact wpAny_truthy_bool (wpAny_pure ⟨.bl false, H, I', rfl, q⟩)
end
end Own

set_option Elab.async false
set_option linter.all false
set_option maxRecDepth 100000
set_option maxHeartbeats 4000000
/-! Tests and signs that only add objects; a walk over a side. -/
namespace Cm
open PySem PySem.Spec PyProof.Rows L2 EvP
/-- a test that says b, and only adds -/
def Tst (tt : TT) (σ : L2.St) (H : Hp) (b : Bool) : Prop := ∀ H1, Ex H H1 → ∀ Q : Bool → Hp → Prop, (∀ H2, Ex H1 H2 → Q b H2) → tt σ H1 Q
section
variable {K : PySem.W.Frag} {σ : L2.St} {H : Hp} {ta tb te tc : TE} {P R S : PR} {tt tu : TT} {b c : Bool} {t u : TS} {D : Ends}
theorem t_or (h : Tst tt σ H false) (k : Tst tu σ H b) : Tst (tOr tt tu) σ H b := fun H1 e Q q =>
  h H1 e _ fun H2 e2 => (by
    show tu σ H2 Q
    exact k H2 (e.trans e2) Q fun H3 e3 => q H3 (e2.trans e3))
theorem t_and (h : Tst tt σ H true) (k : Tst tu σ H b) : Tst (tAnd tt tu) σ H b := fun H1 e Q q =>
  h H1 e _ fun H2 e2 => (by
    show tu σ H2 Q
    exact k H2 (e.trans e2) Q fun H3 e3 => q H3 (e2.trans e3))
theorem t_andF (h : Tst tt σ H false) : Tst (tAnd tt tu) σ H false := fun H1 e Q q => h H1 e _ fun H2 e2 => q H2 e2
theorem t_not (h : Tst tt σ H b) : Tst (tNot tt) σ H (!b) := fun H1 e Q q => h H1 e _ q
theorem t_val (h : EvP.Gives te σ H (is (.bl b))) : Tst (tB te) σ H b := fun H1 e Q q => h H1 e _ fun v H2 e2 ev => ⟨b, ev, q _ e2⟩
theorem t_test (h : EvP.Gives te σ H (is (.bl b))) : Tst (tTest te) σ H b := fun H1 e Q q => h H1 e _ fun v H2 e2 ev => ⟨b, ev, q _ e2⟩
/-- a sign of two values -/
theorem g_op {r : R2} (h : EvP.Gives ta σ H P) (k : EvP.Gives tb σ H R) (step : ∀ x y H1, Ex H H1 → P.R x H1 → R.R y H1 → ∀ Q : VK, (∀ v H2, Ex H1 H2 → S.R v H2 → Q v H2) → r x y H1 Q) : EvP.Gives (tOp r ta tb) σ H S := fun H1 e Q q =>
  h H1 e _ fun x H2 e2 hx => k H2 (e.trans e2) _ fun y H3 e3 hy => step x y H3 ((e.trans e2).trans e3) (P.mono _ _ _ e3 hx) hy Q fun v H4 e4 hv => q v H4 ((e2.trans e3).trans e4) hv
/-- a call of a built-in, one argument -/
theorem g_call {r : List V → Hp → VK → Prop} (h : EvP.Gives te σ H P) (step : ∀ x H1, Ex H H1 → P.R x H1 → ∀ Q : VK, (∀ v H2, Ex H1 H2 → S.R v H2 → Q v H2) → r [x] H1 Q) : EvP.Gives (tCB r (tCons te tNil)) σ H S := fun H1 e Q q =>
  h H1 e _ fun x H2 e2 hx => step x H2 (e.trans e2) hx Q fun v H3 e3 hv => q v H3 (e2.trans e3) hv
theorem g_and (h : EvP.Gives ta σ H (is (.bl true))) (k : EvP.Gives tb σ H P) : EvP.Gives (tAndV ta tb) σ H P := fun H1 e Q q =>
  h H1 e _ fun v H2 e2 ev => ⟨true, ev, (by
    show tb σ H2 Q
    exact k H2 (e.trans e2) Q fun u H3 e3 hu => q u H3 (e2.trans e3) hu)⟩
theorem st_ifF (h : Tst tt σ H false) (k : ∀ H1, Ex H H1 → u D σ H1) : tSeq (tIfS tt t tNext) u D σ H := h H (Ex.refl H) _ k
theorem st_ifT (h : Tst tt σ H true) (k : ∀ H1, Ex H H1 → t { D with nx := u D } σ H1) : tSeq (tIfS tt t tNext) u D σ H := h H (Ex.refl H) _ k
/-- the last statement of a block -/
theorem st_ifF1 (h : Tst tt σ H false) (k : ∀ H1, Ex H H1 → D.nx σ H1) : tIfS tt t tNext D σ H := h H (Ex.refl H) _ k
/-- for x in a list: each turn only adds -/
theorem st_forA {Ps : List PR} {tl : TE} {tb : TS} {i : Nat} (h : EvP.Gives tl σ H (lstA Ps)) (h0 : σ.set i none = σ)
    (turn : ∀ P ∈ Ps, ∀ x H1, Ex H H1 → P.R x H1 → ∀ D' : Ends, (∀ H2, Ex H1 H2 → D'.nx (σ.set i (some x)) H2) → D'.rt = D.rt → tb D' (σ.set i (some x)) H1) (k : ∀ y H1, Ex H H1 → u D (σ.set i y) H1) : tSeq (tFor (iList K tl) (gName i) tb) u D σ H := by
  refine h H (Ex.refl H) _ fun v H1 e1 ⟨a, ws, ev, ha, hs⟩ => ⟨a, ev, ⟨_, SqL.of ha⟩, for_list (xs := ws) (fun j o H' => Ex H1 H' ∧ ∃ y, o = σ.set i y) ⟨Ex.refl H1, none, h0.symm⟩ (fun j o H' _ p => SqL.of (p.1 _ _ ha)) (fun j x o H' hj p => ?_) (fun o H' p => ?_)⟩
  · obtain ⟨e2, y, rfl⟩ := p
    show tb _ ((σ.set i y).set i (some x)) H'
    rw [List.set_set]
    have hlt : j < Ps.length := by
      have := (List.getElem?_eq_some_iff.mp hj).1
      rw [hs.length] at this
      exact this
    obtain ⟨x', hx', r⟩ := hs.get (List.getElem?_eq_getElem hlt)
    have exx : x = x' := Option.some.inj (hj.symm.trans hx')
    subst exx
    exact turn _ (List.getElem_mem hlt) x H' (e1.trans e2) (PR.mono _ _ _ _ e2 r) _ (fun H2 e3 => ⟨e2.trans e3, _, rfl⟩) rfl
  · obtain ⟨e2, y, rfl⟩ := p
    exact k y H' (e1.trans e2)
theorem bb_ne (x y : Bool) : ((x != y) : Bool) = !(x == y) := rfl
end
end Cm
namespace Fk
open PySem PySem.Spec PyProof.Rows L2 EvP Cm
/-- a row of amounts: a tuple of a name and its amount -/
def pr (t : Str × Int) : PR := tupV [V.str t.1, .int t.2]
theorem pr_stays (t : Str × Int) : Stays (pr t) := stays_tupV _
def rowsL (ts : Row) : PyData := .list (ts.map rowD)
theorem eqv_list (ts us : Row) : PyData.eqv (rowsL ts) (rowsL us) = decide (ts = us) := eqv_rows ts us
theorem shaped_list {ts : Row} (h : ∀ t ∈ ts, PyData.strOk t.1 = true) : SeqAt.shaped (rowsL ts) = true := by
  have d := depth_rows ts
  show (PyData.canLayAll0 (ts.map rowD) && decide (PyData.depthAll (ts.map rowD) + 1 ≤ 64)) = true
  rw [lay_rows h, decide_eq_true (by omega)]
  rfl
theorem dp_list {K : PySem.W.Frag} {H : Hp} {ts : Row} {v : V} (h : (lstA (ts.map pr)).R v H) : Dp K H v (rowsL ts) := by
  obtain ⟨a, ws, rfl, ha, hs⟩ := h
  exact .lst (SqL.of ha) (dp_rows hs)
theorem lst_lstA {H0 : Hp} {Ps : List PR} {v : V} {H : Hp} (h : (lst H0 Ps).R v H) : (lstA Ps).R v H := by
  obtain ⟨a, ws, e, ha, _, hs⟩ := h
  exact ⟨a, ws, e, ha, hs⟩
/-- side, walked: its rows -/
theorem own_walk {K : PySem.W.Frag} {C a : Addr} {i : Nat} {σ : L2.St} {H : Hp} {ts : Row} {R : It → Hp → Prop} (hi : σ[i]? = some (some (.ref a))) (sa : SideAt C H a ts)
    (k : ∀ r rows, H r = some (.tup rows) → All2 H (ts.map pr) rows → R (Itt K r) H) : Own.iOwn K C (spIter C) (tVar i) σ H R := by
  have sa' := sa
  obtain ⟨dx, n, d, r, rows, h1, h2, h3, h4, h5⟩ := sa
  refine ⟨_, hi, ⟨a, dx, _, rfl, h1⟩, fun n => ⟨a, ts, rfl, sa', fun r rows it hr hs hit hn => ⟨it, r, rfl, upd_same, hn, ?_⟩⟩⟩
  rw [ItX.dropH_upd hit]
  exact k r rows hr hs
/-- [e for target in side], row by row -/
theorem compO {K : PySem.W.Frag} {C a : Addr} {i : Nat} {σ : L2.St} {H : Hp} {ts : Row} {Ps : List PR} {g : TG} {te : TE} {vs : List Nat} (hi : σ[i]? = some (some (.ref a))) (sa : SideAt C H a ts) (hz : ts.length ≤ 1000) (hl : Ps.length = ts.length)
    (step : ∀ (j : Nat) (x : V) (t : Str × Int) (P : PR) (H2 : Hp), Ex H H2 → ts[j]? = some t → Ps[j]? = some P → (pr t).R x H2 → ∃ σ2 : L2.St, wipe σ2 vs = wipe σ vs ∧ (∀ H1, Ex H2 H1 → ∀ Q : L2.St → Hp → Prop, Q σ2 H1 → g x (wipe σ vs) H1 Q) ∧ EvP.Gives te σ2 H2 P) (st : ∀ P ∈ Ps, Stays P) :
    EvP.Gives (tLc (Own.iOwn K C (spIter C) (tVar i)) g tYes te vs) σ H (lst H Ps) := fun H1 e1 Q q => by
  refine own_walk hi (sa.mono e1) fun r rows hr hs => ?_
  have hn := hs.length
  rw [List.length_map] at hn
  have z : EvP.Gives (tLc (iTup K (tC (.ref r))) g tYes te vs) σ H1 (lst H1 Ps) := compP (xs := rows) (walks_tup (fun H3 e3 Q k => k _ H3 (Ex.refl H3) ⟨r, rfl, e3 _ _ hr⟩)) (by rw [hn]; exact hz) (by rw [hn]; exact hl) (fun j x P hx hP => by
    have hj : j < ts.length := by
      rw [← hl]
      exact (List.getElem?_eq_some_iff.mp hP).1
    obtain ⟨y, hy, hr⟩ := hs.get (i := j) (P := pr ts[j]) (by rw [List.getElem?_map, List.getElem?_eq_getElem hj]; rfl)
    have exy : x = y := Option.some.inj (hx.symm.trans hy)
    subst exy
    exact step j x _ P H1 e1 (List.getElem?_eq_getElem hj) hP hr) st
  obtain ⟨a', ea, _, hR⟩ := z H1 (Ex.refl H1) Q fun u H3 e3 ⟨D, zs, eu, hD, nD, hz⟩ => q u H3 e3 ⟨D, zs, eu, hD, e1.back nD, hz⟩
  cases ea
  exact hR
end Fk

set_option Elab.async false
set_option linter.all false
set_option maxRecDepth 100000
set_option maxHeartbeats 4000000
/-! What is told of some amounts, name by name. -/
namespace Fk
open PySem PySem.Spec PyProof.Rows L2 EvP Cm
theorem lookup_map (f : Str → Int) (n : Str) : ∀ l : List Str, (l.map fun m => (m, f m)).lookup n = if n ∈ l then some (f n) else none
  | [] => rfl
  | m :: r => by
    by_cases h : n = m
    · subst h
      simp [List.lookup]
    · have : (n == m) = false := beq_eq_false_iff_ne.mpr h
      simp [List.lookup, this, lookup_map f n r, h]
theorem mem_tns {kvs : Row} {n : Str} : n ∈ tns kvs ↔ 0 < amt kvs n := by
  unfold tns
  rw [List.mem_filter, mem_srt]
  refine ⟨fun h => of_decide_eq_true h.2, fun h => ⟨?_, decide_eq_true h⟩⟩
  unfold amt at h
  cases e : kvs.lookup n with
  | none =>
    rw [e] at h
    exact absurd h (by decide)
  | some a =>
    clear h
    induction kvs with
    | nil => cases e
    | cons t r ih =>
      obtain ⟨m, b⟩ := t
      by_cases q : n = m
      · subst q
        exact .head _
      · have : (n == m) = false := beq_eq_false_iff_ne.mpr q
        simp only [List.lookup, this] at e
        exact .tail _ (ih e)
theorem amt_nn {kvs : Row} (h : ∀ t ∈ kvs, 0 ≤ t.2) (n : Str) : 0 ≤ amt kvs n := by
  unfold amt
  cases e : kvs.lookup n with
  | none => exact Int.le_refl _
  | some a =>
    have : (n, a) ∈ kvs := by
      induction kvs with
      | nil => cases e
      | cons t r ih =>
        obtain ⟨m, b⟩ := t
        by_cases q : n = m
        · subst q
          simp [List.lookup] at e
          subst e
          exact .head _
        · have : (n == m) = false := beq_eq_false_iff_ne.mpr q
          simp only [List.lookup, this] at e
          exact .tail _ (ih (fun t ht => h t (.tail _ ht)) e)
    exact h _ this
theorem amt_told {kvs : Row} (h : ∀ t ∈ kvs, 0 ≤ t.2) (n : Str) : amt (told kvs) n = amt kvs n := by
  rw [told_eq]
  show ((List.map _ (tns kvs)).lookup n).getD 0 = _
  rw [lookup_map (amt kvs) n]
  have nn := amt_nn h n
  by_cases q : n ∈ tns kvs
  · rw [if_pos q]
    rfl
  · rw [if_neg q]
    have : ¬ 0 < amt kvs n := fun z => q (mem_tns.mpr z)
    show 0 = amt kvs n
    omega
theorem amt_no {kvs : Row} {n : Str} (h : ∀ t ∈ kvs, NameV (.str t.1)) (hn : nameB n = false) : amt kvs n = 0 := by
  unfold amt
  cases e : kvs.lookup n with
  | none => rfl
  | some a =>
    exfalso
    have : ∃ t ∈ kvs, t.1 = n := by
      clear h
      induction kvs with
      | nil => cases e
      | cons t r ih =>
        obtain ⟨m, b⟩ := t
        by_cases q : n = m
        · exact ⟨_, .head _, q.symm⟩
        · have : (n == m) = false := beq_eq_false_iff_ne.mpr q
          simp only [List.lookup, this] at e
          obtain ⟨t, ht, et⟩ := ih e
          exact ⟨t, .tail _ ht, et⟩
    obtain ⟨t, ht, rfl⟩ := this
    obtain ⟨z, ez, _, hb⟩ := h t ht
    cases ez
    rw [hb] at hn
    cases hn
theorem inV_names (kvs : Row) (n : Str) : inV (.str n) ((told kvs).map fun t => V.str t.1) = decide (0 < amt kvs n) := by
  rw [told_names]
  unfold inV
  rw [List.any_map]
  by_cases h : 0 < amt kvs n
  · rw [decide_eq_true h]
    refine List.any_eq_true.mpr ⟨n, mem_tns.mpr h, ?_⟩
    show (n == n) = true
    exact beq_self_eq_true n
  · rw [decide_eq_false h]
    refine List.any_eq_false.mpr fun m hm => ?_
    show ¬ (m == n) = true
    intro z
    rw [eq_of_beq z] at hm
    exact h (mem_tns.mp hm)
theorem inV_odd {x : V} (h : ∀ m : Str, eqV (.str m) x = false) (ts : Row) : inV x (ts.map fun t => V.str t.1) = false := by
  unfold inV
  rw [List.any_map]
  exact List.any_eq_false.mpr fun t _ z => by
    have := h t.1
    rw [show eqV (V.str t.1) x = true from z] at this
    cases this
theorem op_or {X : Cx} {f : Value → Value → Sem Value} {r1 r2 : R2} (h1 : OpR X f r1) (h2 : OpR X f r2) : OpR X f (fun x y H Q => r1 x y H Q ∨ r2 x y H Q) := fun pins s σ H x y v u Q I rx ry h => by
  rcases h with h | h
  · exact h1 pins s σ H x y v u Q I rx ry h
  · exact h2 pins s σ H x y v u Q I rx ry h
/-- x in side -/
def spHasO (C : Addr) : Sp := fun vs H Q _ => ∃ a ts x, vs = [.ref a, x] ∧ SideAt C H a ts ∧ ((flatV x = true ∧ Q (.bl (inV x (ts.map fun t => V.str t.1))) H) ∨ (∃ b, x = .ref b ∧ Own.Odd H b ∧ Q (.bl false) H))
section
variable {P : Program} {w : World} {K : PySem.W.Frag} {mg : Str → Option Value} {base : Heap} {C f : Addr} {fd : FuncData}
theorem ok_hasO (F : Fun K "__contains__" "Side.__contains__" sHas f fd) (S : SideC K C) : FnOk P w K mg base CX0 1 f fd ["self", "x"] (spHasO C) := by
  refine F.ok scHas (fun vs H Q E h => ?_) (fun cdv A outer s H vs Q E hr h => ?_)
  · obtain ⟨a, ts, x, rfl, _⟩ := h
    rfl
  · obtain ⟨a, ts, x, rfl, ⟨dx, n, d, r, rows, h1, h2, h3, h4, h5⟩, q⟩ := h
    refine ⟨_, pss_one (ps_ret (pe_cmpR (op_or op_in_seq (Own.op_in_strs (hu_of hr))) (pv 1) (pe_fld (pv 0) rfl) (by rfl))), ?_⟩
    refine ⟨_, rfl, _, rfl, a, C, dx, _, _, rfl, h1, S.cl, S.nN, rfl, ?_⟩
    rcases q with ⟨fx, q⟩ | ⟨b, rfl, ho, q⟩
    · refine .inl ⟨n, _, rfl, .inr (SqT.of h2), fx, ?_, q⟩
      rw [List.all_map]
      exact List.all_eq_true.mpr fun _ _ => rfl
    · refine .inr ⟨b, n, ts.map (·.1), rfl, rfl, ho, ?_, q⟩
      rw [List.map_map]
      exact SqT.of h2
end
end Fk
namespace Cm
open PySem PySem.Spec PyProof.Rows L2 EvP
theorem lst_is {H0 H : Hp} {ws : List V} {v : V} (h : (lst H0 (ws.map is)).R v H) : (lstV ws).R v H := by
  obtain ⟨D, zs, ev, hD, _, hz⟩ := h
  exact ⟨D, ev, by rw [← all2_is hz]; exact hD⟩
theorem all2_self {H : Hp} : ∀ ws : List V, All2 H (ws.map is) ws
  | [] => .nil
  | w :: r => .cons (show (is w).R w H from rfl) (all2_self r)
/-- what a list that grows does not touch, but for itself -/
def StaysNe (P : PR) : Prop := ∀ v H D ys zs, v ≠ .ref D → P.R v H → H D = some (.lst ys) → P.R v (upd H D (.lst zs))
theorem staysNe_lstA {Ps : List PR} (h : ∀ P ∈ Ps, Stays P) : StaysNe (lstA Ps) := fun v H D ys zs ne ⟨a, ws, ev, ha, hs⟩ hD => ⟨a, ws, ev, by
  rw [upd_ne (fun z => ne (by rw [ev, z]))]
  exact ha, all2_stays hD h hs⟩
theorem all2_staysNe {H : Hp} {D : Addr} {ys zs : List V} (hD : H D = some (.lst ys)) : ∀ {Ps : List PR} {vs : List V}, (∀ P ∈ Ps, StaysNe P) → (∀ v ∈ vs, v ≠ .ref D) → All2 H Ps vs → All2 (upd H D (.lst zs)) Ps vs
  | _, _, _, _, .nil => .nil
  | _, _, s, n, .cons a t => .cons (s _ (.head _) _ _ _ _ _ (n _ (.head _)) a hD) (all2_staysNe hD (fun P hP => s P (.tail _ hP)) (fun v hv => n v (.tail _ hv)) t)
/-- [e for target in xs], where each item is a new object -/
theorem compN {σ : L2.St} {H : Hp} {te : TE} {xs : List V} {vs : List Nat} {wi : TI} {g : TG} {Ps : List PR} (hw : Walks wi σ H xs) (hz : xs.length ≤ 1000) (hl : Ps.length = xs.length)
    (step : ∀ (j : Nat) (x : V) (P : PR), xs[j]? = some x → Ps[j]? = some P → ∃ σ2 : L2.St, wipe σ2 vs = wipe σ vs ∧ (∀ H1, Ex H H1 → ∀ Q : L2.St → Hp → Prop, Q σ2 H1 → g x (wipe σ vs) H1 Q) ∧ ∀ H2, Ex H H2 → ∀ Q : VK, (∀ v H3, Ex H2 H3 → P.R v H3 → (∀ b, v = .ref b → H2 b = none) → Q v H3) → te σ2 H2 Q) (st : ∀ P ∈ Ps, StaysNe P) :
    EvP.Gives (tLc wi g tYes te vs) σ H (lst H Ps) := fun H1 e1 Q q => by
  refine hw H1 e1 _ fun J H2 e2 ⟨G, w, gd⟩ D hD => ?_
  refine lc_it w (fun j H' => ∃ acc, H' D = some (.lst acc) ∧ Ex H2 H' ∧ All2 H' (Ps.take j) acc ∧ ∀ v ∈ acc, v ≠ .ref D) ⟨[], upd_same, Ex.new hD, .nil, fun v hv => by cases hv⟩ (fun j H' _ ⟨_, _, e3, _⟩ => gd _ e3) (fun j x H' H'' hj ⟨acc, a1, a2, a3, a4⟩ y => ?_) (fun H' ⟨acc, a1, a2, a3, a4⟩ => ?_)
  · obtain ⟨rfl, hx⟩ := y
    have eH := (e1.trans e2).trans a2
    have hP : Ps[j]? = some (Ps[j]'(by omega)) := List.getElem?_eq_getElem _
    obtain ⟨σ2, s1, s2, s3⟩ := step j x _ hx hP
    refine s2 _ eH _ ⟨s1, ?_⟩
    refine s3 _ eH _ fun v H4 e4 hv nv => ⟨acc, e4 _ _ a1, ?_, acc ++ [v], upd_same, fun b o hb => ?_, ?_, ?_⟩
    · have := a3.length
      rw [List.length_take] at this
      rw [sizeLine_eq]
      omega
    · rw [upd_ne (ne_of_none hb hD)]
      exact e4 _ _ (a2 _ _ hb)
    · have ne : v ≠ .ref D := fun z => by
        have := nv D z
        rw [a1] at this
        cases this
      rw [List.take_add_one, hP]
      refine all2_staysNe (e4 _ _ a1) (fun P hQ => ?_) (fun u hu => ?_) (all2_snoc (a3.ex e4) hv)
      · rcases List.mem_append.mp hQ with hQ | hQ
        · exact st P (List.mem_of_mem_take hQ)
        · rw [List.mem_singleton.mp hQ]
          exact st _ (List.getElem_mem _)
      · rcases List.mem_append.mp hu with hu | hu
        · exact a4 u hu
        · rw [List.mem_singleton.mp hu]
          exact ne
    · intro u hu
      rcases List.mem_append.mp hu with hu | hu
      · exact a4 u hu
      · rw [List.mem_singleton.mp hu]
        intro z
        have := nv D z
        rw [a1] at this
        cases this
  · rw [← hl, List.take_length] at a3
    exact q _ _ (e2.trans a2) ⟨D, acc, rfl, a1, (e1.trans e2).back hD, a3⟩
end Cm
namespace Fk
open PySem PySem.Spec PyProof.Rows L2 EvP Cm
/-- [e for target in side], each item new -/
theorem compON {K : PySem.W.Frag} {C a : Addr} {i : Nat} {σ : L2.St} {H : Hp} {ts : Row} {Ps : List PR} {g : TG} {te : TE} {vs : List Nat} (hi : σ[i]? = some (some (.ref a))) (sa : SideAt C H a ts) (hz : ts.length ≤ 1000) (hl : Ps.length = ts.length)
    (step : ∀ (x : V) (P : PR), P ∈ Ps → ∃ σ2 : L2.St, wipe σ2 vs = wipe σ vs ∧ (∀ H1, Ex H H1 → ∀ Q : L2.St → Hp → Prop, Q σ2 H1 → g x (wipe σ vs) H1 Q) ∧ ∀ H2, Ex H H2 → ∀ Q : VK, (∀ v H3, Ex H2 H3 → P.R v H3 → (∀ b, v = .ref b → H2 b = none) → Q v H3) → te σ2 H2 Q) (st : ∀ P ∈ Ps, StaysNe P) :
    EvP.Gives (tLc (Own.iOwn K C (spIter C) (tVar i)) g tYes te vs) σ H (lst H Ps) := fun H1 e1 Q q => by
  refine own_walk hi (sa.mono e1) fun r rows hr hs => ?_
  have hn := hs.length
  rw [List.length_map] at hn
  have z : EvP.Gives (tLc (iTup K (tC (.ref r))) g tYes te vs) σ H1 (lst H1 Ps) := compN (xs := rows) (walks_tup (fun H3 e3 Q k => k _ H3 (Ex.refl H3) ⟨r, rfl, e3 _ _ hr⟩)) (by rw [hn]; exact hz) (by rw [hn]; exact hl) (fun j x P hx hP => by
    obtain ⟨σ2, s1, s2, s3⟩ := step x P (List.mem_of_getElem? hP)
    exact ⟨σ2, s1, fun H2 e2 => s2 H2 (e1.trans e2), fun H2 e2 => s3 H2 (e1.trans e2)⟩) st
  obtain ⟨a', ea, _, hR⟩ := z H1 (Ex.refl H1) Q fun u H3 e3 ⟨D, zs, eu, hD, nD, hz⟩ => q u H3 e3 ⟨D, zs, eu, hD, e1.back nD, hz⟩
  cases ea
  exact hR
end Fk

set_option Elab.async false
set_option linter.all false
set_option maxRecDepth 100000
set_option maxHeartbeats 4000000
/-! The law's own look at a side. -/
namespace Own
open PySem PySem.Spec PyProof.Rows L2
/-- x[y], y no slice -/
theorem pe_ixOwn {X : Cx} {C f : Addr} {fd : FuncData} {k : Nat} {ps : List Str} {sp : Sp} {a b : Expr} {ta tb : TE} {pos : Pos} (M : Mt X.prog X.w X.K X.mg X.base C "__getitem__" k ps sp f fd) (fi : PySem.W.fnIn X.K f = true) (hr : Room (k + 1) X.A) (ha : PE X a ta) (hb : PE X b tb)
    (hsl : ∀ v u : Value, subscripted b true v u = runValue (.builtin "lifetime.subscript" ⟨[v, u], []⟩) := by intro _ _; rfl) : PE X (.Subscript a b pos) (tOp (rIxOwn C sp) ta tb) := by
  refine ⟨fun pins s σ H Q I h => ?_⟩
  refine Subscript_ (binT ha hb I h fun v u s2 x y H2 I2 rx ry q => ?_)
  obtain ⟨⟨z, dx, fs, rfl, hz⟩, h⟩ := q
  cases rx
  obtain ⟨ox, od, J⟩ := ins_at I2 hz
  obtain ⟨m, fr⟩ := I2.fr
  exact PySem.W.sub_K fr I2.ok.mod.kin J M.at_ fi M.fn (run_at M.ok M.b rfl hr.in1 I2 (.cons (show RelV (V.ref z) (Value.ref z) from rfl) (.cons ry .nil)) h) (hsl _ _)
end Own
namespace Fk
open PySem PySem.Spec PyProof.Rows L2 EvP Cm
/-- the class Side by its methods -/
structure SideM (P : Program) (w : World) (K : PySem.W.Frag) (mg : Str → Option Value) (base : Heap) (C : Addr) where
  S : SideC K C
  SI : SideI K C
  gS : mg "Side" = some (.ref C)
  fL : Addr
  dL : FuncData
  len : Own.Mt P w K mg base C "__len__" 1 ["self"] (spLen C) fL dL
  fH : Addr
  dH : FuncData
  has : Own.Mt P w K mg base C "__contains__" 1 ["self", "x"] (spHasO C) fH dH
  fG : Addr
  dG : FuncData
  item : Own.Mt P w K mg base C "__getitem__" 2 ["self", "at"] (spItem K C) fG dG
  itemF : PySem.W.fnIn K fG = true
  fS : Addr
  dS : FuncData
  str : Own.Mt P w K mg base C "__str__" 2 ["self"] (spStr C) fS dS
  fE : Addr
  dE : FuncData
  eq : Own.Mt P w K mg base C "__eq__" 1 ["self", "other"] (spEqs K C) fE dE
  fI : Addr
  dI : FuncData
  itA : PySem.W.findIn K (.ref C) "__iter__" = some (some (.ref fI))
  itN : PySem.W.isFn K (.ref fI) = true
  it : Own.FnZ P w K mg base 1 fI ["self"] dI (spIter C)
  itB : Binds K dI ["self"] []
  noBool : PySem.W.findIn K (.ref C) "__bool__" = some none
end Fk
namespace K10
open PySem PySem.Spec PyProof.Rows L2 EvP Cm Fk
abbrev sIs : Stmt := top 34
def NS : List Str := ["side", "plain", "told", "title", "odd", "walks", "pair", "many", "other"]
theorem scIs : FnScope NS ["side", "plain"] (defScope sIs) := ⟨rfl, rfl, rfl, by decide +kernel, rfl, by decide +kernel, by decide +kernel⟩
/-- the scope of the walks -/
def scWalk : Scope := { kind := ScopeKind.function, names := [(Str.ofString ".0", NameKind.local), (Str.ofString "pair", NameKind.local), (Str.ofString "side", NameKind.cell)], isGenerator := false, isCoroutine := false }
def spIs (C : Addr) : Sp := fun vs H Q _ => ∃ (a d : Addr) (kvs : Fk.Row), vs = [.ref a, .ref d] ∧ SideAt C H a (told kvs) ∧ H d = some (.dK (ents kvs)) ∧ Fine kvs ∧ ∀ H', Ex H H' → Q (.bl true) H'
section
variable {P : Program} {w : World} {K : PySem.W.Frag} {mg : Str → Option Value} {base : Heap} {C f fT fN : Addr} {fd fdT fdN : FuncData}
theorem dp_strs {K : PySem.W.Frag} {H : Hp} : ∀ ss : List Str, DpAll K H (ss.map V.str) (ss.map PyData.str)
  | [] => .nil
  | s :: r => .cons (.str s) (dp_strs r)
theorem lay_strs : ∀ {ss : List Str}, (∀ s ∈ ss, PyData.strOk s = true) → PyData.canLayAll0 (ss.map PyData.str) = true
  | [], _ => rfl
  | s :: r, h => by
    show (PyData.strOk s && PyData.canLayAll0 (r.map PyData.str)) = true
    rw [h s (.head _), lay_strs fun y hy => h y (.tail _ hy)]
    rfl
theorem depth_strs : ∀ ss : List Str, PyData.depthAll (ss.map PyData.str) = 0
  | [] => rfl
  | s :: r => by
    show max 0 (PyData.depthAll (r.map PyData.str)) = 0
    rw [depth_strs r]
    rfl
theorem shaped_strs {ss : List Str} (h : ∀ s ∈ ss, PyData.strOk s = true) : SeqAt.shaped (.tuple (ss.map PyData.str)) = true := by
  show (PyData.canLayAll0 (ss.map PyData.str) && decide (PyData.depthAll (ss.map PyData.str) + 1 ≤ 64)) = true
  rw [lay_strs h, depth_strs]
  rfl
theorem eqv_strs : ∀ ss : List Str, PyData.eqvAll (ss.map PyData.str) (ss.map PyData.str) = true
  | [] => rfl
  | s :: r => by
    show ((s == s) && PyData.eqvAll (r.map PyData.str) (r.map PyData.str)) = true
    rw [eqv_strs r, beq_self_eq_true]
    rfl
theorem dp_lists {K : PySem.W.Frag} {H : Hp} {us : Fk.Row} : ∀ {ts : Fk.Row} {ws : List V}, All2 H (ts.map fun _ => lstA (us.map pr)) ws → DpAll K H ws (ts.map fun _ => rowsL us)
  | [], _, .nil => .nil
  | _ :: _, _, .cons h r => .cons (dp_list h) (dp_lists r)
theorem dp_same {K : PySem.W.Frag} {H : Hp} {v : V} {D : PyData} (h : Dp K H v D) : ∀ ts : Fk.Row, DpAll K H (ts.map fun _ => v) (ts.map fun _ => D)
  | [] => .nil
  | _ :: r => .cons h (dp_same h r)
theorem eqv_same {D : PyData} (h : PyData.eqv D D = true) : ∀ ts : Fk.Row, PyData.eqvAll (ts.map fun _ => D) (ts.map fun _ => D) = true
  | [] => rfl
  | _ :: r => by
    show (PyData.eqv D D && PyData.eqvAll (r.map fun _ => D) (r.map fun _ => D)) = true
    rw [h, eqv_same h r]
    rfl
theorem lay_same {D : PyData} (h : PyData.canLay0 D = true) : ∀ ts : Fk.Row, PyData.canLayAll0 (ts.map fun _ => D) = true
  | [] => rfl
  | _ :: r => by
    show (PyData.canLay0 D && PyData.canLayAll0 (r.map fun _ => D)) = true
    rw [h, lay_same h r]
    rfl
theorem depth_same {D : PyData} {n : Nat} (h : PyData.depth D ≤ n) : ∀ ts : Fk.Row, PyData.depthAll (ts.map fun _ => D) ≤ n
  | [] => Nat.zero_le _
  | _ :: r => by
    show max (PyData.depth D) (PyData.depthAll (r.map fun _ => D)) ≤ n
    have := depth_same h r
    omega
theorem shaped_lists {ts us : Fk.Row} (h : ∀ t ∈ us, PyData.strOk t.1 = true) : SeqAt.shaped (.list (ts.map fun _ => rowsL us)) = true := by
  have d : PyData.depth (rowsL us) ≤ 2 := by
    have := depth_rows us
    show PyData.depthAll (us.map rowD) + 1 ≤ 2
    omega
  have e := depth_same d ts
  show (PyData.canLayAll0 (ts.map fun _ => rowsL us) && decide (PyData.depthAll (ts.map fun _ => rowsL us) + 1 ≤ 64)) = true
  rw [lay_same (D := rowsL us) (show PyData.canLayAll0 (us.map rowD) = true from lay_rows h) ts, decide_eq_true (by omega)]
  rfl
/-- an object that is no text -/
def oddP : PR := ⟨fun v H => ∃ b, v = .ref b ∧ Own.Odd H b, fun _ _ _ e ⟨b, h1, h2⟩ => ⟨b, h1, by
  rcases h2 with ⟨xs, h⟩ | ⟨xs, h⟩ | ⟨xs, h⟩
  · exact .inl ⟨xs, e _ _ h⟩
  · exact .inr (.inl ⟨xs, e _ _ h⟩)
  · exact .inr (.inr ⟨xs, e _ _ h⟩)⟩⟩
theorem ok_is (F : Fun K "_law_is" "_law_is" sIs f fd) (M : SideM P w K mg base C) (T : Fk.Blt mg) (hL : mg "list" = none) (hT : mg "tuple" = none) (hS : mg "sum" = none)
    (G : FnOk P w K mg base CX0 1 fT fdT ["plain"] spTold) (b : Binds K fdT ["plain"] []) (gT : mg "_law_told" = some (.ref fT)) (kT : PySem.W.keepIn K (.ref fT) = true)
    (GN : FnOk P w K mg base CX0 2 fN fdN ["plain"] spLine) (bN : Binds K fdN ["plain"] []) (gN : mg "_law_line" = some (.ref fN)) (kN : PySem.W.keepIn K (.ref fN) = true) : FnOk P w K mg base CX0 5 f fd ["side", "plain"] (spIs C) := by
  have nd := scIs.nd
  refine F.ok scIs (fun vs H Q E h => ?_) (fun cdv A outer s H vs Q E hr h => ?_)
  · obtain ⟨a, d, kvs, rfl, _⟩ := h
    rfl
  · obtain ⟨a, d, kvs, rfl, sa, hd, g, q⟩ := h
    have hu := hu_of hr
    refine ⟨_, pss_cons (ps_set (i := 2) nd rfl (Or.inl rfl) (pe_call G (hr.mono (by decide)) (by rfl) gT kT b .nil pass0 (pa_cons (pv 1) pa_nil)))
      (pss_cons (ps_if (PW.pt (pw_or (pt_not (pt_val (pe_callB call_isi (by rfl) T.isi (by decide +kernel) (pa_cons (pv 0) (pa_cons (pe_glob (v := .ref C) (by rfl) M.gS rfl) pa_nil)))))
          (pw_or (pt_cmpR (op_neD hr.units) (pe_lc (own := [("pair", 6)]) (g := gName 6) (tt := tYes) (te := tVar 6) rfl nd (Own.pi_own M.itA M.itN M.it M.itB (hr.mono (by decide)) (pv 0)) (blkOk_by (N := NS) (sc := defScope sIs) (by decide +kernel))
              (fun _ _ _ _ _ => pg_name (i := 6) nd rfl (Or.inl rfl)) (fun _ _ _ _ _ => pts_nil) (fun _ _ _ _ _ => pv 6)) (pv 2) (nomark _))
          (pw_or (pt_cmpR op_ne (pe_callB (Own.call_lenOwn M.len (hr.mono (by decide))) (by rfl) T.len PySem.boot_len (pa_cons (pv 0) pa_nil)) (pe_callB call_len_seq (by rfl) T.len PySem.boot_len (pa_cons (pv 2) pa_nil)) (nomark _))
          (pw_or1 (pt_cmpR op_ne (pe_callTy (T := "bool") (Own.call_boolOwn M.noBool M.len hr) (by rfl) T.bool (by decide +kernel) (pa_cons (pv 0) pa_nil)) (pe_cmpR (op_neD hr.units) (pv 2) (pe_lst pa_nil) (nomark _)) (nomark _)))))))
        (pss_one (ps_ret pe_bl)) pss_nil)
      (pss_cons (ps_if (PW.pt (pw_or (pt_cmpR (op_neD hr.units) (pe_fld (pv 0) rfl) (pe_tupleOf (by rfl) hT (pe_lc (own := [("title", 3), ("many", 7)]) (g := gTup K 2 (gCons (gName 3) (gCons (gName 7) gNil))) (tt := tYes) (te := tVar 3) rfl nd (pi_list (pv 2)) (blkOk_by (N := NS) (sc := defScope sIs) (by decide +kernel))
              (fun _ _ _ _ _ => by exact pg_tup rfl (pgs_cons (pg_name (i := 3) nd rfl (Or.inl rfl)) (pgs_cons (pg_name (i := 7) nd rfl (Or.inl rfl)) pgs_nil))) (fun _ _ _ _ _ => pts_nil) (fun _ _ _ _ _ => pv 3))) (nomark _))
          (pw_or1 (pt_cmpR op_ne (pe_fld (pv 0) rfl) (pe_callB (cr_sum rfl) (by rfl) hS (by decide +kernel) (pa_cons (pe_lc (own := [("title", 3), ("many", 7)]) (g := gTup K 2 (gCons (gName 3) (gCons (gName 7) gNil))) (tt := tYes) (te := tVar 7) rfl nd (pi_list (pv 2)) (blkOk_by (N := NS) (sc := defScope sIs) (by decide +kernel))
              (fun _ _ _ _ _ => by exact pg_tup rfl (pgs_cons (pg_name (i := 3) nd rfl (Or.inl rfl)) (pgs_cons (pg_name (i := 7) nd rfl (Or.inl rfl)) pgs_nil))) (fun _ _ _ _ _ => pts_nil) (fun _ _ _ _ _ => pv 7)) pa_nil)) (nomark _)))))
        (pss_one (ps_ret pe_bl)) pss_nil)
      (pss_cons (ps_for PassesOwn.never rfl (pi_list (pe_op op_cat (pe_callTy (T := "list") (call_listD rfl) (by rfl) hL (by decide +kernel) (pa_cons (pv 1) pa_nil)) (pe_lst (pa_cons pe_str (pa_cons pe_str (pa_cons pe_str pa_nil)))))) (pg_name (i := 3) nd rfl (Or.inl rfl))
        (pss_one (ps_if (PW.pt (pw_or (pt_cmpR op_ne (Own.pe_ixOwn M.item M.itemF (hr.mono (by decide)) (pv 0) (pv 3)) (pe_dget2 hu (pv 1) (pv 3) pe_int ⟨rfl, rfl, rfl, rfl⟩) (nomark _))
            (pw_or1 (pt_cmpR op_ne (pe_cmpR (Own.in_own M.has (hr.mono (by decide))) (pv 3) (pv 0) (by rfl)) (pe_cmpR op_gt (pe_dget2 hu (pv 1) (pv 3) pe_int ⟨rfl, rfl, rfl, rfl⟩) pe_int (nomark _)) (nomark _)))))
          (pss_one (ps_ret pe_bl)) pss_nil)))
      (pss_cons (ps_for PassesOwn.never rfl (pi_list (pe_lst (pa_cons pe_non (pa_cons pe_int (pa_cons pe_bl (pa_cons (pe_tup (pa_cons pe_str pa_nil)) (pa_cons (pe_lst (pa_cons pe_str pa_nil)) (pa_cons pe_dnewK (pa_cons (pe_tup (pa_cons pe_str (pa_cons pe_str pa_nil))) pa_nil))))))))) (pg_name (i := 4) nd rfl (Or.inl rfl))
        (pss_one (ps_if (PW.pt (pw_or (pt_cmpR op_ne (Own.pe_ixOwn M.item M.itemF (hr.mono (by decide)) (pv 0) (pv 4)) pe_int (nomark _))
            (pw_or1 (pt_cmpR (Own.in_own M.has (hr.mono (by decide))) (pv 4) (pv 0) (by rfl)))))
          (pss_one (ps_ret pe_bl)) pss_nil)))
      (pss_cons (ps_setLc (i := 5) (own := [("pair", 6)]) (g := gName 6) (tt := tYes) (te := tLc (Own.iOwn K C (spIter C) (tVar 0)) (gName 8) tYes (tVar 8) [8]) rfl nd rfl rfl (sw_true rfl rfl rfl (by decide +kernel)) (Own.pi_own M.itA M.itN M.it M.itB (hr.mono (by decide)) (pv 0)) (blkOk_by (N := NS) (sc := defScope sIs) (by decide +kernel))
          (fun _ _ _ _ _ => pg_name (i := 6) nd rfl (Or.inl rfl)) (fun _ _ _ _ _ => pts_nil)
          (fun _ _ _ _ _ => by
            refine pe_lc (own := [("other", 8)]) (g := gName 8) (tt := tYes) (te := tVar 8) (wi := Own.iOwn K C (spIter C) (tVar 0)) rfl nd (Own.pi_own M.itA M.itN M.it M.itB (hr.mono (by decide)) (pv 0)) (blkOk_by (N := NS) (sc := scWalk) (by decide +kernel))
              (fun _ _ _ _ _ => pg_name (i := 8) nd rfl (Or.inl rfl)) (fun _ _ _ _ _ => pts_nil) (fun _ _ _ _ _ => pv 8)))
      (pss_one (ps_ret (pe_and (pe_cmpR op_eq (pe_callTy (T := "str") (Own.call_strOwn M.str hr) (by rfl) T.str (by decide +kernel) (pa_cons (pv 0) pa_nil)) (pe_call GN (hr.mono (by decide)) (by rfl) gN kN bN .nil pass0 (pa_cons (pv 1) pa_nil)) (nomark _))
        (pe_one (pe_cmpR (op_eqD hr.units) (pv 5) (pe_op op_rep (pe_lst (pa_cons (pv 2) pa_nil)) (pe_callB call_len_seq (by rfl) T.len PySem.boot_len (pa_cons (pv 2) pa_nil))) (nomark _))))))))))), ?_⟩
    have tl : (told kvs).length < 64 := Nat.lt_of_le_of_lt (told_len kvs) g.few
    have sm := g.small
    have okN : ∀ t ∈ told kvs, PyData.strOk t.1 = true := fun t ht => by
      obtain ⟨z, ez, _, hb⟩ := sm.nm t ht
      cases ez
      exact name_ok hb
    have nn := g.am
    -- told = _law_told(plain)
    refine' EvP.st_set (P := lstA ((told kvs).map pr)) ?h1 ?k1
    case h1 => exact fun H3 e3 Q2 k2 => ⟨_, rfl, d, kvs, rfl, e3 _ _ hd, g.nod, g.few, fun a2 ws2 H4 e4 _ ha2 hs2 => k2 _ _ e4 ⟨a2, ws2, rfl, ha2, hs2⟩⟩
    intro v1 H1 e1 hT
    have sa1 := sa.mono e1
    have sa1' := sa1
    obtain ⟨dx, n, dd, r, rows, hx, hn, hA, hr1, hs1⟩ := sa1'
    have hd1 := e1 _ _ hd
    have gT1 : ∀ {σ : L2.St}, σ[2]? = some (some v1) → EvP.Gives (tVar 2) σ H1 (lstA ((told kvs).map pr)) := fun h => EvP.varP h hT
    have gLen : ∀ {σ : L2.St}, σ[2]? = some (some v1) → EvP.Gives (tCB (fun xs H Q => ∃ p ys, xs = [.ref p] ∧ (SqL K H p ys ∨ SqT K H p ys) ∧ Q (.int ys.length) H) (tCons (tVar 2) tNil)) σ H1 (is (.int (told kvs).length)) := fun h =>
      g_call (gT1 h) fun x H2 e2 ⟨p, ws, ex, hp, hs⟩ Q k => ⟨p, ws, by rw [ex], .inl (SqL.of hp), by
        rw [hs.length, List.length_map]
        exact k _ _ (Ex.refl _) rfl⟩
    have nb : (((told kvs).length : Int) != 0) = !decide (told kvs = []) := by
      cases told kvs with
      | nil => rfl
      | cons t r =>
        rw [decide_eq_false (by simp)]
        simp
        omega
    -- the first if
    dsimp only
    refine' Cm.st_ifF ?h2 ?k2
    case h2 =>
      refine t_or (t_not (b := true) (t_val ?_)) (t_or (t_test ?_) (t_or (t_test ?_) (t_test ?_)))
      · exact fun H2 e2 Q2 k2 => ⟨_, rfl, _, _, _, _, true, rfl, .own C, .base (.ins (e2 _ _ hx) M.S.cl M.SI.ha M.SI.hn M.SI.htk M.SI.hm), (by
          unfold PySem.W.kitOne
          rw [if_pos (by simp)]), k2 _ _ (Ex.refl _) rfl⟩
      · refine g_op (P := lstA ((told kvs).map pr)) (R := lstA ((told kvs).map pr)) (Fk.Gives.imp (compO (i := 0) (Ps := (told kvs).map pr) rfl sa1 (by omega) (by simp) (fun j x t P H2 e2 ht hP hx => ?_) (fun P hP => ?_)) fun v H h => lst_lstA h) (gT1 rfl) (fun x y H2 e2 hx hy Q k => ?_)
        · rw [List.getElem?_map, ht] at hP
          obtain rfl := Option.some.inj hP
          exact ⟨[some (.ref a), some (.ref d), some v1, none, none, none, some x, none, none], rfl, fun H3 e3 Q3 k3 => k3, EvP.varP rfl hx⟩
        · obtain ⟨t, _, rfl⟩ := List.mem_map.mp hP
          exact pr_stays t
        · exact ⟨rowsL (told kvs), rowsL (told kvs), dp_list hx, dp_list hy, Fk.shaped_list okN, Fk.shaped_list okN, by
            rw [eqv_list, decide_eq_true rfl]
            exact k _ _ (Ex.refl _) rfl⟩
      · refine g_op (P := is (.int (told kvs).length)) (R := is (.int (told kvs).length)) (g_call (EvP.var rfl) fun x H2 e2 ex Q k => ?_) (gLen rfl) (fun x y H2 e2 ex ey Q k => ?_)
        · rw [show x = V.ref a from ex]
          exact ⟨_, rfl, ⟨a, dx, _, rfl, e2 _ _ hx⟩, a, told kvs, rfl, sa1.mono e2, _, rfl, by omega, k _ _ (Ex.refl _) rfl⟩
        · rw [show x = _ from ex, show y = _ from ey]
          exact ⟨rfl, k _ _ (Ex.refl _) (by show V.bl (!decide _) = _; simp)⟩
      · refine g_op (P := is (.bl (!decide (told kvs = [])))) (R := is (.bl (!decide (told kvs = [])))) (g_call (EvP.var rfl) fun x H2 e2 ex Q k => ?_) (g_op (P := lstA ((told kvs).map pr)) (R := lstV []) (gT1 rfl) (fun H2 e2 Q k => ⟨by show 0 ≤ sizeLine; decide, fun p hp => k _ _ (Ex.new hp) ⟨p, rfl, upd_same⟩⟩) (fun x y H2 e2 hx hy Q k => ?_)) (fun x y H2 e2 ex ey Q k => ?_)
        · rw [show x = V.ref a from ex]
          exact ⟨a, rfl, ⟨a, dx, _, rfl, e2 _ _ hx⟩, a, told kvs, rfl, sa1.mono e2, _, rfl, by omega, by
            rw [nb]
            exact k _ _ (Ex.refl _) rfl⟩
        · obtain ⟨p, ep, hp⟩ := hy
          subst ep
          exact ⟨rowsL (told kvs), rowsL [], dp_list hx, .lst (SqL.of hp) .nil, Fk.shaped_list okN, by decide +kernel, by
            rw [eqv_list]
            exact k _ _ (Ex.refl _) rfl⟩
        · rw [show x = _ from ex, show y = _ from ey]
          exact ⟨rfl, k _ _ (Ex.refl _) (by show V.bl (!decide _) = _; simp)⟩
    intro H2 e2
    have e12 := e1.trans e2
    have sa2 := sa.mono e12
    have hx2 := e2 _ _ hx
    have hn2 := e2 _ _ hn
    have hd2 := e12 _ _ hd
    have hT2 := PR.mono _ _ _ _ e2 hT
    -- the second if
    refine' Cm.st_ifF ?h3 ?k3
    case h3 =>
      have each : ∀ (te : TE) (φ : Str × Int → V), (∀ (t : Str × Int) (H3 : Hp) (x : V), EvP.Gives te [some (.ref a), some (.ref d), some v1, some (.str t.1), none, none, none, some (.int t.2), none] H3 (is (φ t))) →
          EvP.Gives (tLc (iList K (tVar 2)) (gTup K 2 (gCons (gName 3) (gCons (gName 7) gNil))) tYes te [3, 7]) [some (.ref a), some (.ref d), some v1, none, none, none, none, none, none] H2 (lstV ((told kvs).map φ)) := fun te φ ht => by
        refine Fk.Gives.imp (compQ (Ps0 := (told kvs).map pr) (Ps := (told kvs).map fun t => is (φ t)) (EvP.varP rfl hT2) (by rw [List.length_map]; omega) (by rw [List.length_map, List.length_map]) (fun j x P0 P H3 e3 hP0 hP hx => ?_) (fun P hP => ?_)) fun v H h => ?_
        · rw [List.getElem?_map] at hP hP0
          obtain ⟨t, ht', rfl⟩ := Option.map_eq_some_iff.mp hP
          rw [ht'] at hP0
          obtain rfl := Option.some.inj hP0
          obtain ⟨p, ep, hp⟩ := hx
          subst ep
          exact ⟨[some (.ref a), some (.ref d), some v1, some (.str t.1), none, none, none, some (.int t.2), none], rfl, fun H4 e4 Q2 k2 => ⟨p, _, rfl, SqT.of (e4 _ _ hp), rfl, _, _, rfl, _, _, rfl, rfl, k2⟩, ht t H3 (.ref p)⟩
        · obtain ⟨t, _, rfl⟩ := List.mem_map.mp hP
          exact stays_is _
        · obtain ⟨D, zs, ev, hD, _, hz⟩ := h
          refine ⟨D, ev, ?_⟩
          rw [← all2_is (H := H) (ws := (told kvs).map φ) (by rw [List.map_map]; exact hz)]
          exact hD
      refine t_or (t_test ?_) (t_test ?_)
      · refine g_op (P := tupV ((told kvs).map fun t => V.str t.1)) (R := tupV ((told kvs).map fun t => V.str t.1)) (Fk.g_fld rfl hx2 M.S.cl M.S.nN rfl ⟨n, rfl, hn2⟩) (g_tupV (each _ _ fun t H3 x => EvP.var rfl)) (fun x y H3 e3 ⟨p, ep, hp⟩ ⟨p', ep', hp'⟩ Q k => ?_)
        have em : ((told kvs).map fun t => V.str t.1) = ((told kvs).map (·.1)).map V.str := by rw [List.map_map]; rfl
        rw [em] at hp hp'
        have ok : ∀ s ∈ (told kvs).map (·.1), PyData.strOk s = true := fun s hs => by
          obtain ⟨t, ht, rfl⟩ := List.mem_map.mp hs
          exact okN t ht
        subst ep
        subst ep'
        exact ⟨.tuple (((told kvs).map (·.1)).map PyData.str), .tuple (((told kvs).map (·.1)).map PyData.str), .tup (SqT.of hp) (dp_strs _), .tup (SqT.of hp') (dp_strs _), shaped_strs ok, shaped_strs ok, by
          rw [show PyData.eqv (.tuple (((told kvs).map (·.1)).map PyData.str)) (.tuple (((told kvs).map (·.1)).map PyData.str)) = true from eqv_strs _]
          exact k _ _ (Ex.refl _) rfl⟩
      · refine g_op (P := is (.int ((told kvs).map fun t : Str × Int => t.2).sum)) (R := is (.int ((told kvs).map fun t : Str × Int => t.2).sum)) (Fk.g_fld rfl hx2 M.S.cl M.S.nT rfl rfl) (g_sum (ns := (told kvs).map (·.2)) ?_) (fun x y H3 e3 ex ey Q k => ?_)
        · have := each (tVar 7) (fun t => V.int t.2) fun t H3 x => EvP.var rfl
          rw [show ((told kvs).map fun t => V.int t.2) = ((told kvs).map (·.2)).map V.int by rw [List.map_map]; rfl] at this
          exact this
        · rw [show x = _ from ex, show y = _ from ey]
          exact ⟨rfl, k _ _ (Ex.refl _) (by show V.bl (!decide _) = _; simp)⟩
    intro H3 e3
    have e13 := e12.trans e3
    have hT3 := PR.mono _ _ _ _ e3 hT2
    -- for title in ..
    refine' Cm.st_forA (Ps := ((kvs.map fun t => V.str t.1) ++ [V.str "none", V.str "q", V.str "self"]).map is) ?h4 rfl ?t4 ?k4
    case h4 =>
      refine g_op (P := lstV (kvs.map fun t => V.str t.1)) (R := lstV [V.str "none", V.str "q", V.str "self"]) (g_call (EvP.var rfl) fun x H4 e4 ex Q k => ?_) (Fk.Gives.imp (EvP.list (H0 := H3) (Ps := [V.str "none", V.str "q", V.str "self"].map is) (Ex.refl _) (EvP.cons EvP.cst (EvP.cons EvP.cst (EvP.cons EvP.cst EvP.nil))) (by decide)) fun v H h => lst_is h) (fun x y H4 e4 ⟨p, ep, hp⟩ ⟨p', ep', hp'⟩ Q k => ?_)
      · rw [show x = V.ref d from ex]
        refine ⟨d, ents kvs, rfl, .inl (e4 _ _ (e13 _ _ hd)), fun p hp => k _ _ (Ex.new hp) ⟨p, rfl, ?_⟩⟩
        rw [upd_same]
        unfold ents
        rw [List.map_map]
        rfl
      · subst ep
        subst ep'
        exact ⟨p, p', _, _, rfl, rfl, hp, hp', by
          rw [List.length_map]
          have := g.few
          show kvs.length + 3 ≤ sizeLine
          rw [sizeLine_eq]
          omega, fun p2 hp2 => k _ _ (Ex.new hp2) ⟨p2, _, rfl, upd_same, all2_self _⟩⟩
    case t4 =>
      intro P hP x H4 e4 hx4 D' nx rt
      obtain ⟨w', hw, rfl⟩ := List.mem_map.mp hP
      obtain rfl : x = w' := hx4
      obtain ⟨z, rfl, hz, val⟩ : ∃ z, x = V.str z ∧ z.length ≤ sizeLine ∧ (if nameB z then amt (told kvs) z else 0) = amt kvs z := by
        have val : ∀ z, (if nameB z then amt (told kvs) z else 0) = amt kvs z := fun z => by
          cases hb : nameB z with
          | true => exact amt_told nn z
          | false => exact (amt_no g.nm hb).symm
        rcases List.mem_append.mp hw with hw | hw
        · obtain ⟨t, ht, rfl⟩ := List.mem_map.mp hw
          obtain ⟨z, ez, hz, _⟩ := g.nm t ht
          cases ez
          exact ⟨_, rfl, hz, val _⟩
        · simp only [List.mem_cons, List.not_mem_nil, or_false] at hw
          rcases hw with rfl | rfl | rfl <;> exact ⟨_, rfl, by decide +kernel, val _⟩
      have e14 := e13.trans e4
      have sa4 := sa.mono e14
      have hd4 := e14 _ _ hd
      have hx4 := e4 _ _ (e3 _ _ hx2)
      have gGet : ∀ {σ : L2.St}, σ[1]? = some (some (.ref d)) → σ[3]? = some (some (.str z)) → EvP.Gives (tDGet2 (tVar 1) (tVar 3) (tC (.int 0))) σ H4 (is (.int (amt kvs z))) := fun h h' H5 e5 Q k =>
        ⟨_, h, d, rfl, .inl ⟨_, .inl (e5 _ _ hd4)⟩, _, h', _, DGet.k (k := Sum.inr z) (e5 _ _ hd4), by
          refine k _ _ (Ex.refl _) ?_
          show (valV (ents kvs) (Sum.inr z)).getD (.int 0) = _
          rw [valV_ents]
          unfold amt
          cases kvs.lookup z <;> rfl⟩
      refine Cm.st_ifF1 (t_or (t_test (g_op (P := is (.int (amt kvs z))) (R := is (.int (amt kvs z))) ?_ (gGet rfl rfl) ?_)) (t_test (g_op (P := is (.bl (decide (0 < amt kvs z)))) (R := is (.bl (decide (0 < amt kvs z)))) ?_ (g_op (P := is (.int (amt kvs z))) (R := is (.int 0)) (gGet rfl rfl) EvP.cst ?_) ?_))) nx
      · refine g_op (P := is (.ref a)) (R := is (.str z)) (EvP.var rfl) (EvP.var rfl) fun x y H5 e5 ex ey Q k => ?_
        rw [show x = _ from ex, show y = _ from ey]
        exact ⟨⟨a, dx, _, rfl, e5 _ _ hx4⟩, a, told kvs, .str z, rfl, sa4.mono e5, .inl ⟨z, rfl, hz, by
          rw [val]
          exact k _ _ (Ex.refl _) rfl⟩⟩
      · intro x y H5 e5 ex ey Q k
        rw [show x = _ from ex, show y = _ from ey]
        exact ⟨rfl, k _ _ (Ex.refl _) (by show V.bl (!decide _) = _; simp)⟩
      · refine g_op (P := is (.str z)) (R := is (.ref a)) (EvP.var rfl) (EvP.var rfl) fun x y H5 e5 ex ey Q k => ?_
        rw [show x = _ from ex, show y = _ from ey]
        exact ⟨⟨a, dx, _, rfl, e5 _ _ hx4⟩, a, told kvs, .str z, rfl, sa4.mono e5, .inl ⟨rfl, _, rfl, by
          rw [inV_names]
          exact k _ _ (Ex.refl _) rfl⟩⟩
      · intro x y H5 e5 ex ey Q k
        rw [show x = _ from ex, show y = _ from ey]
        exact ⟨_, _, rfl, rfl, k _ _ (Ex.refl _) rfl⟩
      · intro x y H5 e5 ex ey Q k
        rw [show x = _ from ex, show y = _ from ey]
        exact ⟨rfl, k _ _ (Ex.refl _) (by show V.bl (!decide _) = _; simp)⟩
    intro y4 H4 e4
    have e14 := e13.trans e4
    have hx4 := e4 _ _ (e3 _ _ hx2)
    have hT4 := PR.mono _ _ _ _ e4 hT3
    -- for odd in ..
    refine' Cm.st_forA (Ps := [is V.non, is (V.int 0), is (V.bl true), oddP, oddP, oddP, oddP]) ?h5 rfl ?t5 ?k5
    case h5 =>
      refine Fk.Gives.imp (EvP.list (H0 := H4) (Ex.refl _) (EvP.cons EvP.cst (EvP.cons EvP.cst (EvP.cons EvP.cst (EvP.cons ?_ (EvP.cons ?_ (EvP.cons ?_ (EvP.cons ?_ EvP.nil))))))) (by decide)) fun v H h => lst_lstA h
      · exact Fk.Gives.imp (EvP.tuple (EvP.cons EvP.cst EvP.nil) (by decide)) fun v H ⟨b, ws, ev, hb, _⟩ => ⟨b, ev, .inr (.inl ⟨_, hb⟩)⟩
      · exact Fk.Gives.imp (EvP.list (H0 := H4) (Ex.refl _) (EvP.cons EvP.cst EvP.nil) (by decide)) fun v H ⟨b, ws, ev, hb, _⟩ => ⟨b, ev, .inl ⟨_, hb⟩⟩
      · exact fun H5 e5 Q k p hp => k _ _ (Ex.new hp) ⟨p, rfl, .inr (.inr ⟨[], upd_same⟩)⟩
      · exact Fk.Gives.imp (EvP.tuple (EvP.cons EvP.cst (EvP.cons EvP.cst EvP.nil)) (by decide)) fun v H ⟨b, ws, ev, hb, _⟩ => ⟨b, ev, .inr (.inl ⟨_, hb⟩)⟩
    case t5 =>
      intro P hP x H5 e5 hx5 D' nx rt
      have e15 := e14.trans e5
      have sa5 := sa.mono e15
      have hx6 := e5 _ _ hx4
      have facts : (∀ H6, Ex H5 H6 → ∃ t, TyX K H6 x (.type t) ∧ kitB t "str" = some false) ∧ (∀ H6, Ex H5 H6 → (flatV x = true ∧ ∀ m : Str, eqV (.str m) x = false) ∨ ∃ b, x = .ref b ∧ Own.Odd H6 b) := by
        simp only [List.mem_cons, List.not_mem_nil, or_false] at hP
        have odd : oddP.R x H5 → (∀ H6, Ex H5 H6 → ∃ t, TyX K H6 x (.type t) ∧ kitB t "str" = some false) ∧ (∀ H6, Ex H5 H6 → (flatV x = true ∧ ∀ m : Str, eqV (.str m) x = false) ∨ ∃ b, x = .ref b ∧ Own.Odd H6 b) := fun h =>
          ⟨fun H6 e6 => by
            obtain ⟨b, rfl, h2⟩ := oddP.mono _ _ _ e6 h
            rcases h2 with ⟨xs, h2⟩ | ⟨xs, h2⟩ | ⟨xs, h2⟩
            · exact ⟨_, .base (.lst h2), by decide +kernel⟩
            · exact ⟨_, .base (.tup h2), by decide +kernel⟩
            · exact ⟨_, .base (.dK h2), by decide +kernel⟩, fun H6 e6 => .inr (oddP.mono _ _ _ e6 h)⟩
        rcases hP with rfl | rfl | rfl | rfl | rfl | rfl | rfl
        · obtain rfl : x = V.non := hx5
          exact ⟨fun H6 _ => ⟨_, .base .non, by decide +kernel⟩, fun H6 _ => .inl ⟨rfl, fun _ => rfl⟩⟩
        · obtain rfl : x = V.int 0 := hx5
          exact ⟨fun H6 _ => ⟨_, .base (.int 0), by decide +kernel⟩, fun H6 _ => .inl ⟨rfl, fun _ => rfl⟩⟩
        · obtain rfl : x = V.bl true := hx5
          exact ⟨fun H6 _ => ⟨_, .base (.bl true), by decide +kernel⟩, fun H6 _ => .inl ⟨rfl, fun _ => rfl⟩⟩
        · exact odd hx5
        · exact odd hx5
        · exact odd hx5
        · exact odd hx5
      obtain ⟨ty, hs⟩ := facts
      refine Cm.st_ifF1 (t_or (t_test (g_op (P := is (.int 0)) (R := is (.int 0)) ?_ EvP.cst ?_)) (t_test ?_)) nx
      · refine g_op (P := is (.ref a)) (R := is x) (EvP.var rfl) (EvP.var rfl) fun x' y H6 e6 ex ey Q k => ?_
        rw [show x' = _ from ex, show y = _ from ey]
        obtain ⟨t, h1, h2⟩ := ty H6 e6
        exact ⟨⟨a, dx, _, rfl, e6 _ _ hx6⟩, a, told kvs, x, rfl, sa5.mono e6, .inr ⟨t, h1, h2, k _ _ (Ex.refl _) rfl⟩⟩
      · intro x' y H6 e6 ex ey Q k
        rw [show x' = _ from ex, show y = _ from ey]
        exact ⟨rfl, k _ _ (Ex.refl _) rfl⟩
      · refine g_op (P := is x) (R := is (.ref a)) (EvP.var rfl) (EvP.var rfl) fun x' y H6 e6 ex ey Q k => ?_
        rw [show x' = _ from ex, show y = _ from ey]
        refine ⟨⟨a, dx, _, rfl, e6 _ _ hx6⟩, a, told kvs, x, rfl, sa5.mono e6, ?_⟩
        rcases hs H6 e6 with ⟨f1, f2⟩ | ⟨b, eb, ob⟩
        · exact .inl ⟨f1, _, rfl, by
            rw [inV_odd f2]
            exact k _ _ (Ex.refl _) rfl⟩
        · exact .inr ⟨b, eb, ob, _, rfl, k _ _ (Ex.refl _) rfl⟩
    intro y5 H5 e5
    have e15 := e14.trans e5
    have sa5 := sa.mono e15
    have hx5 := e5 _ _ hx4
    have hT5 := PR.mono _ _ _ _ e5 hT4
    -- walks
    refine' EvP.st_set (P := lst H5 ((told kvs).map fun _ => lstA ((told kvs).map pr))) ?h6 ?k6
    case h6 =>
      refine compON (i := 0) rfl sa5 (by omega) (by rw [List.length_map]) (fun x P hP => ?_) (fun P hP => ?_)
      · obtain ⟨t, _, rfl⟩ := List.mem_map.mp hP
        refine ⟨[some (.ref a), some (.ref d), some v1, y4, y5, none, some x, none, none], rfl, fun H6 e6 Q6 k6 => k6, fun H6 e6 Q6 k6 => ?_⟩
        have z : EvP.Gives (tLc (Own.iOwn K C (spIter C) (tVar 0)) (gName 8) tYes (tVar 8) [8]) [some (.ref a), some (.ref d), some v1, y4, y5, none, some x, none, none] H6 (lst H6 ((told kvs).map pr)) := by
          refine compO (i := 0) rfl (sa5.mono e6) (by omega) (by simp) (fun j x' t P H7 e7 ht hP hx => ?_) (fun P hP => ?_)
          · rw [List.getElem?_map, ht] at hP
            obtain rfl := Option.some.inj hP
            exact ⟨[some (.ref a), some (.ref d), some v1, y4, y5, none, some x, none, some x'], rfl, fun H3 e3 Q3 k3 => k3, EvP.varP rfl hx⟩
          · obtain ⟨t, _, rfl⟩ := List.mem_map.mp hP
            exact pr_stays t
        exact z H6 (Ex.refl H6) Q6 fun v H7 e7 hv => k6 v H7 e7 (lst_lstA hv) fun b eb => by
          obtain ⟨a', ws, ev, _, nb', _⟩ := hv
          cases ev.symm.trans eb
          exact nb'
      · obtain ⟨t, _, rfl⟩ := List.mem_map.mp hP
        exact staysNe_lstA fun P hP => by
          obtain ⟨t, _, rfl⟩ := List.mem_map.mp hP
          exact pr_stays t
    intro v6 H6 e6 hW
    have e16 := e15.trans e6
    have sa6 := sa.mono e16
    have hx6 := e6 _ _ hx5
    have hT6 := PR.mono _ _ _ _ e6 hT5
    obtain ⟨aW, vW, rfl, hW1, _, hW2⟩ := hW
    -- the answer
    refine' EvP.st_ret (P := is (.bl true)) ?h7 ?k7
    case k7 =>
      intro v H7 e7 ev
      rw [show v = _ from ev]
      exact q _ (e16.trans e7)
    refine g_and (g_op (P := is (.str (lineT (told kvs)))) (R := is (.str (lineT (told kvs)))) (g_call (EvP.var rfl) fun x H7 e7 ex Q k => ?_) (fun H7 e7 Q k => ⟨_, rfl, d, kvs, rfl, e7 _ _ (e16 _ _ hd), g, fun H8 e8 => k _ _ e8 rfl⟩) (fun x y H7 e7 ex ey Q k => ?_))
      (g_op (P := ⟨fun v H => v = .ref aW ∧ H aW = some (.lst vW) ∧ All2 H ((told kvs).map fun _ => lstA ((told kvs).map pr)) vW, fun _ _ _ e ⟨h1, h2, h3⟩ => ⟨h1, e _ _ h2, h3.ex e⟩⟩) (R := lstV ((told kvs).map fun _ => v1)) (EvP.varP rfl ⟨rfl, hW1, hW2⟩)
        (g_op (P := lstV [v1]) (R := is (.int (told kvs).length)) (Fk.Gives.imp (EvP.list (H0 := H6) (Ps := [v1].map is) (Ex.refl _) (EvP.cons (EvP.var rfl) EvP.nil) (by show 1 ≤ 1000; decide)) fun v H h => lst_is h) (g_call (EvP.varP rfl hT6) fun x H7 e7 ⟨p, ws, ex, hp, hs⟩ Q k => ⟨p, ws, by rw [ex], .inl (SqL.of hp), by
          rw [hs.length, List.length_map]
          exact k _ _ (Ex.refl _) rfl⟩) (fun x y H7 e7 ⟨p, ep, hp⟩ ey Q k => ?_)) (fun x y H7 e7 ⟨ep, hp, hs⟩ ⟨p', ep', hp'⟩ Q k => ?_))
    · rw [show x = V.ref a from ex]
      exact ⟨_, rfl, ⟨a, dx, _, rfl, e7 _ _ hx6⟩, a, told kvs, rfl, sa6.mono e7, sm, fun H8 e8 => ⟨_, rfl, k _ _ e8 rfl⟩⟩
    · rw [show x = _ from ex, show y = _ from ey]
      exact ⟨rfl, k _ _ (Ex.refl _) (by show V.bl (decide _) = _; simp)⟩
    · rw [show y = _ from ey]
      subst ep
      refine ⟨p, _, [v1], rfl, rfl, hp, by omega, by omega, ?_, fun p2 hp2 => k _ _ (Ex.new hp2) ⟨p2, rfl, ?_⟩⟩
      · show 1 * (((told kvs).length : Int)).toNat ≤ sizeLine
        rw [sizeLine_eq]
        omega
      · rw [upd_same]
        have : (List.replicate (((told kvs).length : Int)).toNat [v1]).flatten = (told kvs).map fun _ => v1 := by
          rw [Int.toNat_natCast]
          induction told kvs with
          | nil => rfl
          | cons t r ih =>
            rw [List.length_cons, List.replicate_succ, List.flatten_cons, ih]
            rfl
        rw [this]
    · subst ep
      subst ep'
      exact ⟨.list ((told kvs).map fun _ => rowsL (told kvs)), .list ((told kvs).map fun _ => rowsL (told kvs)), .lst (SqL.of hp) (dp_lists hs), .lst (SqL.of hp') (dp_same (dp_list (PR.mono _ _ _ _ e7 hT6)) _), shaped_lists okN, shaped_lists okN, by
        rw [show PyData.eqv (.list ((told kvs).map fun _ => rowsL (told kvs))) (.list ((told kvs).map fun _ => rowsL (told kvs))) = true from eqv_same (by rw [eqv_list, decide_eq_true rfl]) _]
        exact k _ _ (Ex.refl _) rfl⟩
end
end K10

set_option Elab.async false
set_option linter.all false
set_option maxRecDepth 100000
set_option maxHeartbeats 4000000
/-! What is told depends on the amounts alone. -/
namespace Fk
open PySem PySem.Spec PyProof.Rows L2 EvP Cm
theorem tns_pairwise (kvs : Row) : (tns kvs).Pairwise leS := (srt_pairwise _).sublist List.filter_sublist
theorem tns_nodup {kvs : Row} (h : (kvs.map (·.1)).Nodup) : (tns kvs).Nodup := ((srt_perm (kvs.map (·.1))).nodup_iff.mpr h).sublist List.filter_sublist
theorem told_ext {kvs us : Row} (h : (kvs.map (·.1)).Nodup) (k : (us.map (·.1)).Nodup) (e : ∀ n, amt kvs n = amt us n) : told kvs = told us := by
  have t : tns kvs = tns us := List.Perm.eq_of_pairwise (le := leS) (fun _ _ _ _ h k => leS_anti h k) (tns_pairwise kvs) (tns_pairwise us)
    ((List.perm_ext_iff_of_nodup (tns_nodup h) (tns_nodup k)).mpr fun n => by rw [mem_tns, mem_tns, e n])
  rw [told_eq, told_eq, t]
  exact List.map_congr_left fun n _ => by rw [e n]
theorem amt_put (kvs : Row) (n : Str) (m : Int) (k : Str) : amt (putR kvs n m) k = if k = n then m else amt kvs k := by
  have h : valV (ents (putR kvs n m)) (Sum.inr k) = valV (putK (ents kvs) (Sum.inr n) (.int m)) (Sum.inr k) := by rw [ents_put]
  rw [valV_ents] at h
  rw [valV_put] at h
  by_cases q : k = n
  · rw [if_pos q]
    rw [if_pos (by rw [q])] at h
    unfold amt
    cases e : (putR kvs n m).lookup k with
    | none => rw [e] at h; cases h
    | some a => rw [e] at h; cases h; rfl
  · rw [if_neg q]
    rw [if_neg (fun z => q (Sum.inr.inj z)), valV_ents] at h
    unfold amt
    cases e : (putR kvs n m).lookup k with
    | none =>
      rw [e] at h
      cases e2 : kvs.lookup k with
      | none => rfl
      | some b => rw [e2] at h; cases h
    | some a =>
      rw [e] at h
      cases e2 : kvs.lookup k with
      | none => rw [e2] at h; cases h
      | some b => rw [e2] at h; cases h; rfl
end Fk

set_option Elab.async false
set_option linter.all false
set_option maxRecDepth 100000
set_option maxHeartbeats 4000000
/-! o.m(k = v, ..), C.m(k = v, ..) without positional arguments; not o, o an own instance. -/
namespace Mkw
open PySem PySem.Spec PyProof.Rows L2
section
variable {X : Cx} {CX : CXT} {k : Nat} {C p f : Addr} {fd : FuncData} {mc : Value} {ps ks : List Str} {sp : Sp} {E : XK} {o : Expr} {m : Str} {pos apos : Pos} {ta : TE} {tk : TA} {kws : List Keyword} {pl : Sem Bool} {g : List Value → List Value → List Value} {gV : List V → List V → List V}
def tMethK (C : Addr) (m : Str) (sp : Sp) (gV : List V → List V → List V) (E : XK) (ta : TE) (tk : TA) : TE := fun σ H Q => ta σ H fun x H1 => ∃ a dx fs, x = .ref a ∧ H1 a = some (.ins C dx fs) ∧ fs.lookup m = none ∧ tk σ H1 fun zs H2 => sp (gV [x] zs) H2 Q E
theorem pe_methK0 (he : PE X o ta) (c : Cls X.K C) (hm : Meth X.K C m f) (F : FnOk X.prog X.w X.K X.mg X.base CX k f fd ps sp) (hr : Room k X.A) (hb : KBinds X.K fd ps ks g gV) (hx : Passes CX X E) (hkw : PK X kws tk)
    (hall : (backToKw pos (keywordEach kws X.env)).all (·.1.isSome) = true := by rfl) (hks : (backToKw pos (keywordEach kws X.env)).filterMap (·.1) = ks := by rfl)
    (hpl : ((backTo pos (starEach [] X.env)).any (·.1) || (backToKw pos (keywordEach kws X.env)).any (·.1.isNone)) = false := by rfl)
    (ht : eval (.Call (.Attribute o m apos) [] kws pos) X.env = (do
      let ov ← eval o X.env
      standAt apos.atName
      let (f, first) ← holding [ov] (getMethod ov m pl)
      callWith pos f first (backTo pos (starEach [] X.env)) (backToKw pos (keywordEach kws X.env))) := by rfl) :
    PE X (.Call (.Attribute o m apos) [] kws pos) (tMethK C m sp gV E ta tk) := by
  refine ⟨fun pins s σ H Q I h => ?_⟩
  refine PySem.W.methodCall_KW (pl := pl) (thn (he.run pins s σ H _ I h) fun u s1 ⟨x, H1, I1, rx, a, dx, fs, ex, ea, l, q⟩ => ?_) ht
  subst ex
  obtain rfl : u = Value.ref a := rx
  refine getmeth_ok I1 ea c hm l ?_
  refine PySem.W.callWith_KW0 (first := [.ref a]) (h₀ := X.base) I.ok.mod.kin hm.kp hall (thn (hkw.run pos pins s1 σ H1 _ I1 q) fun ws s2 ⟨zs, H2, I2, rz, q2⟩ => ⟨I2.kIn, ?_⟩) hpl
  rw [hks]
  exact run_fnk (us := [.ref a]) (vs := [.ref a]) F hr hb hx I2 (.cons rfl .nil) rz q2
def tCMethK (C : Addr) (sp : Sp) (gV : List V → List V → List V) (E : XK) (ta : TE) (tk : TA) : TE := fun σ H Q => ta σ H fun x H1 => x = .ref C ∧ tk σ H1 fun zs H2 => sp (gV [.ref C] zs) H2 Q E
theorem run_cmK {σ : L2.St} {H : Hp} {s : Shared} {pins : List (Addr × Obj)} {q : Addr} {Q : VK} {ws : List Value} {zs : List V} (F : FnOk X.prog X.w X.K X.mg X.base CX k f fd ps sp) (hr : Room k X.A) (hb : KBinds X.K fd ps ks g gV) (hx : Passes CX X E)
    (I : Inv X ((q, PySem.W.methodObj (.ref f) (.ref C)) :: pins) σ H s) (r : Vals zs ws) (h : sp (gV [.ref C] zs) H Q E) : wpAny (model X.prog X.w) X.A (call (.ref q) [] (ks.zip ws)) (EP X pins σ Q) X.xe s := by
  have r2 := hb.rel (vs := [.ref C]) (us := [.ref C]) (.cons rfl .nil) r
  have hl : (g [.ref C] ws).length = ps.length := by rw [← r2.length]; exact F.len _ _ _ _ h
  have z : wpAny (model X.prog X.w) X.A (call (.ref q) [] (ks.zip ws)) (EP X ((q, PySem.W.methodObj (.ref f) (.ref C)) :: pins) σ Q) X.xe s := by
    refine wpAny_call (PySem.W.method_call (ClX.pin_at I) (codeAny_mono (F.run X.A X.stack s H ⟨[.ref C], ks.zip ws⟩ (g [.ref C] ws) (gV [.ref C] zs) Q E hr I.env0 (hb.to s [.ref C] ws I.kIn hl) r2 h) fun r s' hq => ?_))
    cases r with
    | error e => exact hx _ σ H s e s' I hq
    | ok fl =>
      cases fl with
      | ret u => exact I.after hq
      | next => exact False.elim hq
      | brk => exact False.elim hq
      | cont => exact False.elim hq
  exact thn z fun _ _ y => ClX.unpinE y
theorem pe_cmethK0 (he : PE X o ta) (r : ClX.CRead X.K C mc) (c : ClX.CMet X.K C mc m p f) (F : FnOk X.prog X.w X.K X.mg X.base CX k f fd ps sp) (hr : Room k X.A) (hb : KBinds X.K fd ps ks g gV) (hx : Passes CX X E) (hkw : PK X kws tk)
    (hall : (backToKw pos (keywordEach kws X.env)).all (·.1.isSome) = true := by rfl) (hks : (backToKw pos (keywordEach kws X.env)).filterMap (·.1) = ks := by rfl)
    (hpl : ((backTo pos (starEach [] X.env)).any (·.1) || (backToKw pos (keywordEach kws X.env)).any (·.1.isNone)) = false := by rfl)
    (ht : eval (.Call (.Attribute o m apos) [] kws pos) X.env = (do
      let ov ← eval o X.env
      standAt apos.atName
      let (f, first) ← holding [ov] (getMethod ov m pl)
      callWith pos f first (backTo pos (starEach [] X.env)) (backToKw pos (keywordEach kws X.env))) := by rfl) :
    PE X (.Call (.Attribute o m apos) [] kws pos) (tCMethK C sp gV E ta tk) := by
  refine ⟨fun pins s σ H Q I h => ?_⟩
  refine PySem.W.methodCall_KW (pl := pl) (thn (he.run pins s σ H _ I h) fun u s1 ⟨x, H1, I1, rx, ex, q⟩ => ?_) ht
  subst ex
  obtain rfl : u = Value.ref C := rx
  refine ClX.getmethcm_ok I1 r c fun s2 I2 => ?_
  refine PySem.W.callWith_of (P := PySem.W.MethP X.K s1.heap.objs.size f (.ref C)) hpl (PySem.W.keeps_M c.fi) (PyProof.Rows.evalArgs_kw2_nil hall (thn (hkw.run pos _ s2 σ H1 _ I2 q) fun ws s3 ⟨zs, H2, I3, rz, q2⟩ => ⟨⟨ClX.pin_at I3, I3.kIn⟩, ?_⟩))
  show wpAny _ X.A (call (.ref _) [] _) _ _ _
  rw [hks]
  exact run_cmK F hr hb hx I3 rz q2
/-- not o, by the class's __len__ -/
theorem pe_notOwn {D : Addr} {j : Nat} {q : List Str} {r : Sp} {e : Expr} {h : Addr} {hd : FuncData} (hb : PySem.W.findIn X.K (.ref D) "__bool__" = some none) (M : Own.Mt X.prog X.w X.K X.mg X.base D "__len__" j q r h hd) (hr : Room (j + 1) X.A) (ha : PE X e ta) :
    PE X (.UnaryOp .Not e pos) (fun σ H Q => ta σ H fun x H1 => Own.rTruOwn D r x H1 fun b H2 => Q (.bl (!b)) H2) := by
  refine ⟨fun pins s σ H Q I h => ?_⟩
  refine UnaryOp_ (thn (ha.run pins s σ H _ I h) fun v s1 ⟨x, H1, I1, r1, q1⟩ => ?_)
  exact not_of (thn (Own.tru_own hb M hr pins s1 σ H1 x v (fun b H2 => Q (.bl (!b)) H2) I1 r1 q1) fun c s2 ⟨H2, I2, q2⟩ => ⟨.bl (!c), H2, I2, rfl, q2⟩)
end
end Mkw

set_option Elab.async false
set_option linter.all false
set_option maxRecDepth 100000
set_option maxHeartbeats 4000000
/-! The law's own body. -/
namespace K10
open PySem PySem.Spec PyProof.Rows L2 EvP Cm Fk
abbrev sLaw : Stmt := top 35
def NLw : List Str := ["script", "pen", "turn", "plain", "other", "kept", "handed", "side", "title", "many", "bent"]
theorem scLaw : FnScope NLw ["script"] (defScope sLaw) := ⟨rfl, rfl, rfl, by decide +kernel, rfl, by decide +kernel, by decide +kernel⟩
/-- a def of the top that keeps a promise -/
structure CalD (P : Program) (w : World) (K : PySem.W.Frag) (mg : Str → Option Value) (base : Heap) (k : Nat) (x : Str) (ps : List Str) (sp : Sp) where
  f : Addr
  fd : FuncData
  ok : FnOk P w K mg base CX0 k f fd ps sp
  b : Binds K fd ps []
  g : mg x = some (.ref f)
  kp : PySem.W.keepIn K (.ref f) = true
/-- one by place and one by name; one by place and two by name, the second one first -/
def kwA {α : Type} : List α → List α → List α
  | [a], [b] => [a, b]
  | _, _ => []
def kwB {α : Type} : List α → List α → List α
  | [a], [b, c] => [a, c, b]
  | _, _ => []
/-- what else the law asks of the class -/
structure SideL (P : Program) (w : World) (K : PySem.W.Frag) (mg : Str → Option Value) (base : Heap) (C : Addr) where
  mc : Value
  r : ClX.CRead K C mc
  pO : Addr
  fO : Addr
  dO : FuncData
  c : ClX.CMet K C mc "of" pO fO
  of : FnOk P w K mg base CX0 6 fO dO ["cls", "amounts"] (spOf C)
  ofB : Binds K dO ["cls", "amounts"] []
  ofK : KBinds K dO ["cls", "amounts"] ["amounts"] kwA kwA
  fW : Addr
  dW : FuncData
  w1 : Meth K C "with_amount" fW
  wth : FnOk P w K mg base CX0 7 fW dW ["self", "name", "amount"] (spWith C)
  wthB : Binds K dW ["self", "name", "amount"] []
  wthK : KBinds K dW ["self", "name", "amount"] ["amount", "name"] kwB kwB
  fN : Addr
  mkC : Mk K C fN
  ini : Mrg.KwOk P w K mg base CX0 4 fN "side_itself" (spInit C)
  ne : PySem.W.findIn K (.ref C) "__ne__" = some (some (.builtin "object.__ne__"))
  mro : PySem.W.mroIn K C (.type "object") = some true
  sN : PySem.W.subIn K (.ref C) (.type "NoneType") = some false
  sS : PySem.W.subIn K (.ref C) (.type "str") = some false
  sD : PySem.W.subIn K (.ref C) (.type "dict") = some false
  kD : PySem.W.kitOne K (.type "dict") (.ref C) = some false
  kS : PySem.W.kitOne K (.type "str") (.ref C) = some false
  kN : PySem.W.kitOne K (.type "NoneType") (.ref C) = some false
def spLaw (K : PySem.W.Frag) : Sp := fun vs H Q _ => ∃ (a : Addr) (ns : List Int), vs = [.ref a] ∧ SqL K H a (ns.map V.int) ∧ ns.length ≤ 63 ∧ ∀ H', Q (.bl true) H'
end K10

set_option Elab.async false
set_option linter.all false
set_option maxRecDepth 100000
set_option maxHeartbeats 4000000
/-! What the law's pieces give. -/
namespace K10
open PySem PySem.Spec PyProof.Rows L2 EvP Cm Fk
/-- a side that tells ts -/
def sideP (C : Addr) (ts : Fk.Row) : PR := ⟨fun v H => ∃ b, v = .ref b ∧ SideAt C H b ts, fun _ _ _ e ⟨b, h1, h2⟩ => ⟨b, h1, h2.mono e⟩⟩
theorem told_told {kvs : Fk.Row} (h : ∀ t ∈ kvs, 0 ≤ t.2) (n : (kvs.map (·.1)).Nodup) : told (told kvs) = told kvs := by
  refine told_ext ?_ n fun m => amt_told h m
  have : (told kvs).map (·.1) = tns kvs := by
    rw [told_eq, List.map_map]
    exact List.map_id _
  rw [this]
  exact tns_nodup n
theorem good_told {kvs : Fk.Row} (g : Good kvs) : Good (told kvs) where
  nod := by
    have : (told kvs).map (·.1) = tns kvs := by
      rw [told_eq, List.map_map]
      exact List.map_id _
    rw [this]
    exact tns_nodup g.nod
  nm := fun t h => g.nm t (told_sub h)
  am := fun t h => g.am t (told_sub h)
  few := Nat.lt_of_le_of_lt (told_len kvs) g.few
theorem ok_names {ts : Fk.Row} (h : ∀ t ∈ ts, NameV (.str t.1)) : ∀ t ∈ ts, PyData.strOk t.1 = true := fun t ht => by
  obtain ⟨z, ez, _, hb⟩ := h t ht
  cases ez
  exact name_ok hb
section
variable {K : PySem.W.Frag} {C : Addr} {σ : L2.St} {H : Hp} {ta tb te : TE} {kvs ts us : Fk.Row} {gV : List V → List V → List V}
theorem SideN_put {H0 : Hp} {a c : Addr} {o o' : HO} {kv : List (Key × V)} (h : SideN C H0 H a ts) (h0 : H0 c = some o) (hc : H c = some (.dK kv)) : SideAt C (upd H c o') a ts := by
  obtain ⟨dx, n, d, r, rows, h1, h2, h3, h4, h5, h6⟩ := h
  refine ⟨dx, n, d, r, rows, ?_, ?_, ?_, ?_, rows_stay hc (fun ys z => nomatch z) h5⟩
  · rw [upd_ne (ne_of h1 hc (fun z => nomatch z))]
    exact h1
  · rw [upd_ne (ne_of h2 hc (fun z => nomatch z))]
    exact h2
  · rw [upd_ne (ne_of_none h0 h6).symm]
    exact h3
  · rw [upd_ne (ne_of h4 hc (fun z => nomatch z))]
    exact h4
theorem all2_keep {H' : Hp} (k : ∀ b o, H b = some o → (∀ ys, o ≠ .lst ys) → H' b = some o) : ∀ {ts : Fk.Row} {vs : List V}, All2 H (ts.map pr) vs → All2 H' (ts.map pr) vs
  | [], _, .nil => .nil
  | _ :: _, _, .cons ⟨a, ev, ha⟩ t => .cons ⟨a, ev, k _ _ ha (fun ys z => nomatch z)⟩ (all2_keep k t)
theorem SideAt_keep {H' : Hp} {a : Addr} (k : ∀ b o, H b = some o → (∀ ys, o ≠ .lst ys) → H' b = some o) (h : SideAt C H a ts) : SideAt C H' a ts := by
  obtain ⟨dx, n, d, r, rows, h1, h2, h3, h4, h5⟩ := h
  exact ⟨dx, n, d, r, rows, k _ _ h1 (fun ys z => nomatch z), k _ _ h2 (fun ys z => nomatch z), k _ _ h3 (fun ys z => nomatch z), k _ _ h4 (fun ys z => nomatch z), all2_keep k h5⟩
theorem side_ins {a : Addr} (h : SideAt C H a ts) : Own.Ins H (.ref a) C := by
  obtain ⟨dx, n, d, r, rows, h1, _⟩ := h
  exact ⟨a, dx, _, rfl, h1⟩
theorem g_of (h : EvP.Gives te σ H (dictV (ents kvs))) (g : Good kvs) : EvP.Gives (ClX.tCMeth C (spOf C) E0 (tC (.ref C)) (tCons te tNil)) σ H (sideP C (told kvs)) := fun H1 e Q k =>
  ⟨rfl, h H1 e _ fun v H2 e2 ⟨d, ev, hd⟩ => ⟨d, kvs, by rw [ev], hd, g, fun a H3 e3 s => k _ _ (e2.trans e3) ⟨a, rfl, s.at⟩⟩⟩
theorem g_ofK (h : EvP.Gives te σ H (dictV (ents kvs))) (g : Good kvs) (hg : ∀ v, gV [.ref C] [v] = [.ref C, v]) : EvP.Gives (Mkw.tCMethK C (spOf C) gV E0 (tC (.ref C)) (tCons te tNil)) σ H (sideP C (told kvs)) := fun H1 e Q k =>
  ⟨rfl, h H1 e _ fun v H2 e2 ⟨d, ev, hd⟩ => ⟨d, kvs, by rw [hg, ev], hd, g, fun a H3 e3 s => k _ _ (e2.trans e3) ⟨a, rfl, s.at⟩⟩⟩
theorem g_make {ks : List Str} {tk : TA} (h : GivesA tk σ H (kvs.map fun t => is (.int t.2))) (hk : ks = kvs.map (·.1)) (g : Good kvs) : EvP.Gives (Mrg.tMakeW C "side_itself" ks (spInit C) E0 tk) σ H (sideP C (told kvs)) := fun H1 e Q k =>
  h H1 e _ fun zs H2 e2 hz => by
    have ez : zs = kvs.map fun t => V.int t.2 := all2_is (H := H2) (by rw [List.map_map]; exact hz)
    subst hk
    subst ez
    have zz : (kvs.map (·.1)).zip (kvs.map fun t => V.int t.2) = kvs.map fun t => (t.1, V.int t.2) := by
      rw [List.zip_map']
    refine ⟨by rw [List.length_map, List.length_map], by rw [zz]; exact good_kws g, ?_⟩
    rw [zz]
    exact made_of g fun a H3 e3 s => k _ _ (e2.trans e3) ⟨a, rfl, s.at⟩
theorem g_is (h : EvP.Gives ta σ H (sideP C (told kvs))) (k : EvP.Gives tb σ H (dictV (ents kvs))) (g : Fine kvs) : EvP.Gives (tCall (spIs C) [] E0 (tCons ta (tCons tb tNil))) σ H (is (.bl true)) := fun H1 e Q q =>
  h H1 e _ fun v H2 e2 hv => k H2 (e.trans e2) _ fun u H3 e3 ⟨d, eu, hd⟩ => by
    obtain ⟨b, ev, sb⟩ := hv
    exact ⟨b, d, kvs, by rw [ev, eu]; rfl, sb.mono e3, hd, g, fun H' e' => q _ _ ((e2.trans e3).trans e') rfl⟩
theorem g_eqOwn (h : EvP.Gives ta σ H (sideP C ts)) (k : EvP.Gives tb σ H (sideP C us)) (o1 : ∀ t ∈ ts, PyData.strOk t.1 = true) (o2 : ∀ t ∈ us, PyData.strOk t.1 = true) : EvP.Gives (tOp (Own.rCmpOwn K C (spEqs K C)) ta tb) σ H (is (.bl (decide (ts = us)))) :=
  g_op h k fun x y H1 e ⟨a, ex, sa⟩ ⟨b, ey, sb⟩ Q q => by
    subst ex
    subst ey
    exact ⟨side_ins sa, side_ins sb, .inl ⟨a, b, ts, us, rfl, sa, sb, o1, o2, q _ _ (Ex.refl _) rfl⟩⟩
theorem g_neOwn (h : EvP.Gives ta σ H (sideP C ts)) (k : EvP.Gives tb σ H (sideP C us)) (o1 : ∀ t ∈ ts, PyData.strOk t.1 = true) (o2 : ∀ t ∈ us, PyData.strOk t.1 = true) : EvP.Gives (tOp (Own.rNeOwn C (spEqs K C)) ta tb) σ H (is (.bl (!decide (ts = us)))) :=
  g_op h k fun x y H1 e ⟨a, ex, sa⟩ ⟨b, ey, sb⟩ Q q => by
    subst ex
    subst ey
    exact ⟨side_ins sa, side_ins sb, .inl ⟨a, b, ts, us, rfl, sa, sb, o1, o2, _, rfl, q _ _ (Ex.refl _) rfl⟩⟩
theorem told_put {z : Str} {i : Int} (g : Good kvs) (hz : NameV (.str z)) (i0 : 0 ≤ i) (few : kvs.length < 63) : told (putR (told kvs) z i) = told (putR kvs z i) :=
  told_ext ((good_told g).put hz i0 (Nat.lt_of_le_of_lt (told_len kvs) few)).nod (g.put hz i0 few).nod fun n => by rw [amt_put, amt_put, amt_told g.am]
theorem g_with {t1 t2 : TE} {z : Str} {i : Int} (h : EvP.Gives ta σ H (sideP C (told kvs))) (h1 : EvP.Gives t1 σ H (is (.str z))) (h2 : EvP.Gives t2 σ H (is (.int i))) (g : Good kvs) (hz : NameV (.str z)) (i0 : 0 ≤ i) (few : kvs.length < 63) :
    EvP.Gives (tMeth C "with_amount" (spWith C) [] E0 ta (tCons t1 (tCons t2 tNil))) σ H (sideP C (told (putR kvs z i))) := fun H1 e Q q =>
  h H1 e _ fun v H2 e2 ⟨b, ev, sb⟩ => by
    have sb' := sb
    obtain ⟨dx, n, d, r, rows, k1, _⟩ := sb
    subst ev
    refine ⟨b, dx, _, rfl, k1, rfl, h1 H2 (e.trans e2) _ fun v1 H3 e3 ev1 => h2 H3 ((e.trans e2).trans e3) _ fun v2 H4 e4 ev2 => ?_⟩
    refine ⟨b, told kvs, z, i, by rw [show v1 = _ from ev1, show v2 = _ from ev2]; rfl, sb'.mono (e3.trans e4), good_told g, hz, i0, Nat.lt_of_le_of_lt (told_len kvs) few, fun c H' e' s' => q _ _ (((e2.trans e3).trans e4).trans e') ⟨c, rfl, ?_⟩⟩
    rw [← told_put g hz i0 few]
    exact s'
theorem g_withK {t1 t2 : TE} {z : Str} {i : Int} (h : EvP.Gives ta σ H (sideP C (told kvs))) (h1 : EvP.Gives t1 σ H (is (.str z))) (h2 : EvP.Gives t2 σ H (is (.int i))) (g : Good kvs) (hz : NameV (.str z)) (i0 : 0 ≤ i) (few : kvs.length < 63) :
    EvP.Gives (Mkw.tMethK C "with_amount" (spWith C) kwB E0 ta (tCons t2 (tCons t1 tNil))) σ H (sideP C (told (putR kvs z i))) := fun H1 e Q q =>
  h H1 e _ fun v H2 e2 ⟨b, ev, sb⟩ => by
    have sb' := sb
    obtain ⟨dx, n, d, r, rows, k1, _⟩ := sb
    subst ev
    refine ⟨b, dx, _, rfl, k1, rfl, h2 H2 (e.trans e2) _ fun v2 H3 e3 ev2 => h1 H3 ((e.trans e2).trans e3) _ fun v1 H4 e4 ev1 => ?_⟩
    refine ⟨b, told kvs, z, i, by rw [show v1 = _ from ev1, show v2 = _ from ev2]; rfl, sb'.mono (e3.trans e4), good_told g, hz, i0, Nat.lt_of_le_of_lt (told_len kvs) few, fun c H' e' s' => q _ _ (((e2.trans e3).trans e4).trans e') ⟨c, rfl, ?_⟩⟩
    rw [← told_put g hz i0 few]
    exact s'
theorem Fine.put {z : Str} {i : Int} (g : Fine kvs) (hz : NameV (.str z)) (i0 : 0 ≤ i) (i1 : i < 10 ^ 64) (few : kvs.length < 63) : Fine (putR kvs z i) where
  toGood := g.toGood.put hz i0 few
  hi := fun t ht => by
    unfold putR at ht
    split at ht
    · obtain ⟨u, hu, rfl⟩ := List.mem_map.mp ht
      by_cases e : u.1 = z
      · rw [if_pos e]
        exact i1
      · rw [if_neg e]
        exact g.hi u hu
    · rcases List.mem_append.mp ht with ht | ht
      · exact g.hi t ht
      · rw [List.mem_singleton.mp ht]
        exact i1
theorem g_told (h : EvP.Gives te σ H (dictV (ents kvs))) (n : (kvs.map (·.1)).Nodup) (few : kvs.length < 64) : EvP.Gives (tCall spTold [] E0 (tCons te tNil)) σ H (lstA ((told kvs).map pr)) := fun H1 e Q q =>
  h H1 e _ fun v H2 e2 ⟨d, ev, hd⟩ => ⟨d, kvs, by rw [ev]; rfl, hd, n, few, fun a ws H3 e3 _ ha hs => q _ _ (e2.trans e3) ⟨a, ws, rfl, ha, hs⟩⟩
theorem merge_app : ∀ (more acc : Fk.Row), ((acc ++ more).map (·.1)).Nodup → mergeK (ents acc) (ents more) = ents (acc ++ more)
  | [], acc, _ => by rw [List.append_nil]; rfl
  | t :: r, acc, n => by
    have no : valV (ents acc) (Sum.inr t.1) = none := by
      rw [valV_ents]
      cases e : acc.lookup t.1 with
      | none => rfl
      | some a =>
        exfalso
        have mem : t.1 ∈ acc.map (·.1) := by
          clear n
          induction acc with
          | nil => cases e
          | cons u us ih =>
            obtain ⟨m, b⟩ := u
            by_cases q : t.1 = m
            · exact q ▸ .head _
            · have : (t.1 == m) = false := beq_eq_false_iff_ne.mpr q
              simp only [List.lookup, this] at e
              exact .tail _ (ih e)
        rw [List.map_append, List.nodup_append] at n
        exact n.2.2 _ mem _ (.head _) rfl
    have ih := merge_app r (acc ++ [t]) (by rw [List.append_assoc]; exact n)
    rw [List.append_assoc] at ih
    rw [← show ents acc ++ [((Sum.inr t.1 : Key), V.int t.2)] = ents (acc ++ [t]) by unfold ents; rw [List.map_append]; rfl, ← putK_new _ no] at ih
    exact ih
theorem merge_ents (g : (kvs.map (·.1)).Nodup) : mergeK [] (ents kvs) = ents kvs := merge_app kvs [] g
/-- rows of amounts as entries -/
theorem rows_paired : ∀ {ts : Fk.Row} {ws : List V}, All2 H (ts.map pr) ws → ∃ ps : List Addr, ws = ps.map V.ref ∧ Paired (fun p (kv : Key × V) => SqT K H p [kV kv.1, kv.2]) ps (ents ts)
  | [], _, .nil => ⟨[], rfl, .nil⟩
  | _ :: _, _, .cons ⟨a, ev, ha⟩ t => by
    obtain ⟨ps, e, r⟩ := rows_paired t
    exact ⟨a :: ps, by rw [ev, e]; rfl, .cons (SqT.of ha) r⟩
/-- dict(rows) -/
theorem g_dictP (h : EvP.Gives te σ H (lstA (ts.map pr))) (g : (ts.map (·.1)).Nodup) : EvP.Gives (tCB (fun xs H Q => ∃ (a : Addr) (ps : List Addr) (kvs : List (Key × V)), xs = [.ref a] ∧ SqL K H a (ps.map V.ref) ∧ Paired (fun p kv => SqT K H p [kV kv.1, kv.2]) ps kvs ∧
    ∀ p, H p = none → Q (.ref p) (upd H p (.dK (mergeK [] kvs)))) (tCons te tNil)) σ H (dictV (ents ts)) := fun H1 e Q q =>
  h H1 e _ fun v H2 e2 ⟨a, ws, ev, ha, hs⟩ => by
    obtain ⟨ps, ew, pp⟩ := rows_paired (K := K) hs
    subst ew
    exact ⟨a, ps, ents ts, by rw [ev], SqL.of ha, pp, fun p hp => q _ _ (e2.trans (Ex.new hp)) ⟨p, rfl, by rw [upd_same, merge_ents g]⟩⟩
end
end K10

set_option Elab.async false
set_option linter.all false
set_option maxRecDepth 100000
set_option maxHeartbeats 4000000
/-! The law itself. -/
namespace K10
open PySem PySem.Spec PyProof.Rows L2 EvP Cm Fk
theorem eight_ok : ∀ n ∈ eight, NameV (.str n) := by
  intro n hn
  refine ⟨n, rfl, ?_, ?_⟩
  · revert n
    decide +kernel
  · revert n
    decide +kernel
theorem Drawn.fine {kvs : Fk.Row} (d : Drawn kvs) : Fine kvs where
  nod := d.nod
  nm := fun t ht => eight_ok _ (d.sub t ht)
  am := d.lo
  few := Nat.lt_of_le_of_lt d.few (by decide)
  hi := fun t ht => Int.lt_of_le_of_lt (d.hi t ht) (by decide)
theorem lookup_self : ∀ {kvs : Fk.Row} {t : Str × Int}, (kvs.map (·.1)).Nodup → t ∈ kvs → kvs.lookup t.1 = some t.2
  | (m, b) :: r, t, n, h => by
    obtain ⟨n1, n2⟩ := List.nodup_cons.mp n
    rcases List.mem_cons.mp h with rfl | h
    · simp [List.lookup]
    · have ne : t.1 ≠ m := fun z => n1 (by show m ∈ r.map (·.1); rw [← z]; exact List.mem_map_of_mem (f := Prod.fst) h)
      have : (t.1 == m) = false := beq_eq_false_iff_ne.mpr ne
      simp only [List.lookup, this]
      exact lookup_self n2 h
theorem pairs1 {P : PR} {t : TE} {k : Str} {σ : L2.St} {H : Hp} {Q : List (V × V) → Hp → Prop} (h : EvP.Gives t σ H P) (q : ∀ v H1, Ex H H1 → P.R v H1 → Q [(V.str k, v)] H1) : tPairs [(tC (.str k), t)] σ H Q := h H (Ex.refl H) _ q
theorem shaped_strsL {ss : List Str} (h : ∀ s ∈ ss, PyData.strOk s = true) : SeqAt.shaped (.list (ss.map PyData.str)) = true := by
  show (PyData.canLayAll0 (ss.map PyData.str) && decide (PyData.depthAll (ss.map PyData.str) + 1 ≤ 64)) = true
  rw [lay_strs h, depth_strs]
  rfl
section
variable {P : Program} {w : World} {K : PySem.W.Frag} {mg : Str → Option Value} {base : Heap} {C f : Addr} {fd : FuncData}
theorem ok_law (F : Fun K "law" "law" sLaw f fd) (M : SideM P w K mg base C) (L : SideL P w K mg base C) (hR : mg "range" = none) (hD : mg "dict" = none) (hL : mg "list" = none)
    (DP : CalD P w K mg base 1 "_law_pen" ["script"] (spPen K)) (DL : CalD P w K mg base 4 "_law_plain" ["pen"] spPlain) (DI : CalD P w K mg base 5 "_law_is" ["side", "plain"] (spIs C)) (DT : CalD P w K mg base 1 "_law_told" ["plain"] spTold)
    (DN : CalD P w K mg base 2 "_law_line" ["plain"] spLine) (DK : CalD P w K mg base 2 "_law_pick" ["pen", "some"] spPick) (DA : CalD P w K mg base 3 "_law_amount" ["pen"] spAmount) : FnOk P w K mg base CX0 8 f fd ["script"] (spLaw K) := by
  have nd := scLaw.nd
  refine F.ok scLaw (fun vs H Q E h => ?_) (fun cdv A outer s H vs Q E hr h => ?_)
  · obtain ⟨a, ns, rfl, _⟩ := h
    rfl
  · obtain ⟨a, ns, rfl, hS, hl, q⟩ := h
    have hu := hu_of hr
    refine ⟨_, pss_cons (ps_set (i := 1) nd rfl (Or.inl rfl) (pe_call DP.ok (hr.mono (by decide)) (by rfl) DP.g DP.kp DP.b .nil pass0 (pa_cons (pv 0) pa_nil)))
      (pss_cons (ps_for PassesOwn.never rfl (pi_range1 rfl hR (pa_cons pe_int pa_nil)) (pg_name (i := 2) nd rfl (Or.inl rfl))
        (pss_cons (ps_par (i := 3) (j := 4) (by rfl) nd rfl rfl (by decide) rfl rfl (pa_cons (pe_call DL.ok (hr.mono (by decide)) (by rfl) DL.g DL.kp DL.b .nil pass0 (pa_cons (pv 1) pa_nil)) (pa_cons (pe_call DL.ok (hr.mono (by decide)) (by rfl) DL.g DL.kp DL.b .nil pass0 (pa_cons (pv 1) pa_nil)) pa_nil)) (by rfl))
        (pss_cons (ps_par (i := 5) (j := 6) (by rfl) nd rfl rfl (by decide) rfl rfl (pa_cons (pe_callTy (T := "dict") call_dictD (by rfl) hD (by decide +kernel) (pa_cons (pv 3) pa_nil)) (pa_cons (pe_callTy (T := "dict") call_dictD (by rfl) hD (by decide +kernel) (pa_cons (pv 3) pa_nil)) pa_nil)) (by rfl))
        (pss_cons (ps_set (i := 7) nd rfl (Or.inl rfl) (ClX.pe_cmeth (pe_glob (v := .ref C) (by rfl) M.gS rfl) L.r L.c (FnOk.toR L.of L.ofB) (hr.mono (by decide)) pass0 (pa_cons (pv 6) pa_nil)))
        (pss_cons (ps_if (PW.pt (pw_or (pt_cmpR (op_ne_dictA hr.units0) (pv 6) (pv 5) (nomark _)) (pw_or1 (pt_cmpR (op_neD hr.units) (pe_callTy (T := "list") (call_listD rfl) (by rfl) hL (by decide +kernel) (pa_cons (pv 6) pa_nil)) (pe_callTy (T := "list") (call_listD rfl) (by rfl) hL (by decide +kernel) (pa_cons (pv 5) pa_nil)) (nomark _)))))
          (pss_one (ps_ret pe_bl)) pss_nil)
        (pss_cons (ps_dput hu (pv 6) pe_str pe_int rfl)
        (pss_cons (ps_if (PW.pt (pw_or (pt_not (pt_val (pe_call DI.ok (hr.mono (by decide)) (by rfl) DI.g DI.kp DI.b .nil pass0 (pa_cons (pv 7) (pa_cons (pv 3) pa_nil)))))
            (pw_or1 (pt_cmpR (Own.ne_own M.eq L.ne L.mro (hr.mono (by decide))) (pv 7) (Mkw.pe_cmethK0 (pe_glob (v := .ref C) (by rfl) M.gS rfl) L.r L.c L.of (hr.mono (by decide)) L.ofK pass0
              (pk_cons (pe_callTy (T := "dict") (call_dictP rfl) (by rfl) hD (by decide +kernel) (pa_cons (pe_call DT.ok (hr.mono (by decide)) (by rfl) DT.g DT.kp DT.b .nil pass0 (pa_cons (pv 3) pa_nil)) pa_nil)) pk_nil)) (nomark _)))))
          (pss_one (ps_ret pe_bl)) pss_nil)
        (pss_cons (ps_if (PW.pt (pw_or (pt_cmpR op_ne (pe_cmpR (Own.cmp_own (op := .Eq) M.eq (hr.mono (by decide))) (pv 7) (ClX.pe_cmeth (pe_glob (v := .ref C) (by rfl) M.gS rfl) L.r L.c (FnOk.toR L.of L.ofB) (hr.mono (by decide)) pass0 (pa_cons (pv 4) pa_nil)) (nomark _))
              (pe_cmpR (op_eqD hr.units) (pe_call DT.ok (hr.mono (by decide)) (by rfl) DT.g DT.kp DT.b .nil pass0 (pa_cons (pv 3) pa_nil)) (pe_call DT.ok (hr.mono (by decide)) (by rfl) DT.g DT.kp DT.b .nil pass0 (pa_cons (pv 4) pa_nil)) (nomark _)) (nomark _))
            (pw_or1 (pt_cmpR (Own.in_ownL M.eq (hr.mono (by decide)) L.sN L.sS L.sD) (pv 7) (pe_lst (pa_cons (pv 3) (pa_cons (pe_call DN.ok (hr.mono (by decide)) (by rfl) DN.g DN.kp DN.b .nil pass0 (pa_cons (pv 3) pa_nil)) (pa_cons pe_non pa_nil)))) (by rfl)))))
          (pss_one (ps_ret pe_bl)) pss_nil)
        (pss_cons (ps_par (i := 8) (j := 9) (by rfl) nd rfl rfl (by decide) rfl rfl (pa_cons (pe_call DK.ok (hr.mono (by decide)) (by rfl) DK.g DK.kp DK.b .nil pass0 (pa_cons (pv 1) (pa_cons (pe_lst (pa_cons pe_str (pa_cons pe_str (pa_cons pe_str (pa_cons pe_str (pa_cons pe_str pa_nil)))))) pa_nil)))
            (pa_cons (pe_call DA.ok (hr.mono (by decide)) (by rfl) DA.g DA.kp DA.b .nil pass0 (pa_cons (pv 1) pa_nil)) pa_nil)) (by rfl))
        (pss_cons (ps_set (i := 10) nd rfl (Or.inl rfl) (pe_callTy (T := "dict") call_dictD (by rfl) hD (by decide +kernel) (pa_cons (pv 3) pa_nil)))
        (pss_cons (ps_dput hu (pv 10) (pv 8) (pv 9) rfl)
        (pss_cons (ps_if (PW.pt (pw_or (pt_not (pt_val (pe_call DI.ok (hr.mono (by decide)) (by rfl) DI.g DI.kp DI.b .nil pass0 (pa_cons (pe_meth (pv 7) M.S.cl L.w1 L.wth hr L.wthB .nil pass0 (pa_cons (pv 8) (pa_cons (pv 9) pa_nil))) (pa_cons (pv 10) pa_nil)))))
            (pw_or1 (pt_cmpR (Own.ne_own M.eq L.ne L.mro (hr.mono (by decide))) (Mkw.pe_methK0 (pv 7) M.S.cl L.w1 L.wth hr L.wthK pass0 (pk_cons (pv 9) (pk_cons (pv 8) pk_nil)))
              (ClX.pe_cmeth (pe_glob (v := .ref C) (by rfl) M.gS rfl) L.r L.c (FnOk.toR L.of L.ofB) (hr.mono (by decide)) pass0 (pa_cons (pv 10) pa_nil)) (nomark _)))))
          (pss_one (ps_ret pe_bl)) pss_nil)
        (pss_cons (ps_if (pt_not (pt_val (pe_call DI.ok (hr.mono (by decide)) (by rfl) DI.g DI.kp DI.b .nil pass0 (pa_cons (Mrg.pe_makeW L.mkC L.ini (hr.mono (by decide)) (by rfl) M.gS pass0 (pk_cons (pe_dget2 hu (pv 3) pe_str pe_int ⟨rfl, rfl, rfl, rfl⟩) (pk_cons (pv 9) (pk_cons pe_int pk_nil))))
            (pa_cons (pe_disp (pps_cons pe_str pe_int (pps_cons pe_str (pv 9) (pps_cons pe_str (pe_dget2 hu (pv 3) pe_str pe_int ⟨rfl, rfl, rfl, rfl⟩) pps_nil))) (by rfl) (by rfl) (fun z => by cases z) (by decide)) pa_nil)))))
          (pss_one (ps_ret pe_bl)) pss_nil)
        (pss_one (ps_if (pt_not (pt_val (pe_call DI.ok (hr.mono (by decide)) (by rfl) DI.g DI.kp DI.b .nil pass0 (pa_cons (pv 7) (pa_cons (pv 3) pa_nil)))))
          (pss_one (ps_ret pe_bl)) pss_nil)))))))))))))))
      (pss_one (ps_ret (pe_and (pe_cmpR (Own.cmp_own (op := .Eq) M.eq (hr.mono (by decide))) (Mrg.pe_makeW L.mkC L.ini (hr.mono (by decide)) (by rfl) M.gS pass0 pk_nil) (Mrg.pe_makeW L.mkC L.ini (hr.mono (by decide)) (by rfl) M.gS pass0 (pk_cons pe_int pk_nil)) (nomark _))
        (pe_and (Mkw.pe_notOwn M.noBool M.len (hr.mono (by decide)) (Mrg.pe_makeW L.mkC L.ini (hr.mono (by decide)) (by rfl) M.gS pass0 pk_nil))
        (pe_one (pe_cmpR (Own.ne_own M.eq L.ne L.mro (hr.mono (by decide))) (Mrg.pe_makeW L.mkC L.ini (hr.mono (by decide)) (by rfl) M.gS pass0 (pk_cons pe_int pk_nil)) (Mrg.pe_makeW L.mkC L.ini (hr.mono (by decide)) (by rfl) M.gS pass0 (pk_cons pe_int pk_nil)) (nomark _)))))))), ?_⟩
    have bud : True := True.intro
    -- pen = _law_pen(script)
    refine ⟨_, rfl, a, ns, rfl, hS, hl, fun p qc ms H1 hm hP1 x1 => ?_⟩
    -- for turn in range(8)
    refine ⟨8, rfl, by decide, by decide, for_range (lo := 0) (n := 8) (fun k σ H' => ∃ (o2 o3 o4 o5 o6 o7 o8 o9 o10 : Option V) (s g : Int), σ = [some (.ref a), some (.ref p), o2, o3, o4, o5, o6, o7, o8, o9, o10] ∧ Pen H' p qc ms s g ∧ 0 ≤ s ∧ s ≤ 40 * (k : Int)) ?_ ?_ ?_⟩
    · exact ⟨none, none, none, none, none, none, none, none, none, 0, 0, rfl, hP1, by omega, by omega⟩
    · rintro k σ H2 hk ⟨o2, o3, o4, o5, o6, o7, o8, o9, o10, s, g, rfl, hP2, s0, s1⟩
      -- plain, other = ..
      refine ⟨_, rfl, p, qc, ms, s, g, rfl, hP2, hm, s0, by omega, fun f1 kv1 sa ga H3 dr1 n1 h1 a1 b1 hP3 hB3 => ?_⟩
      refine ⟨_, rfl, p, qc, ms, sa, ga, rfl, hP3, hm, by omega, by omega, fun f2 kv2 sb gb H4 dr2 n2 h2 a2 b2 hP4 hB4 => ?_⟩
      refine ⟨_, _, rfl, ?_⟩
      have fi1 := dr1.fine
      have fi2 := dr2.fine
      have f1p : f1 ≠ p := ne_of h1 hP3.p (fun z => nomatch z)
      have h1' := hB4 _ _ h1 f1p
      have f12 : f1 ≠ f2 := fun z => by
        rw [z] at h1
        rw [h1] at n2
        cases n2
      have ok1 := ok_names fi1.nm
      have okT1 : ∀ t ∈ told kv1, PyData.strOk t.1 = true := fun t ht => ok1 t (told_sub ht)
      have okT2 : ∀ t ∈ told kv2, PyData.strOk t.1 = true := fun t ht => ok_names fi2.nm t (told_sub ht)
      -- kept, handed = ..
      refine ⟨_, rfl, f1, ents kv1, rfl, .inl h1', fun c1 nc1 => ?_⟩
      have e1 := Ex.new (o := .dK (ents kv1)) nc1
      refine ⟨_, rfl, f1, ents kv1, rfl, .inl (e1 _ _ h1'), fun c2 nc2 => ⟨_, _, rfl, ?_⟩⟩
      have e2 := Ex.new (o := .dK (ents kv1)) nc2
      have c12 : c1 ≠ c2 := fun z => by
        rw [← z, upd_same] at nc2
        cases nc2
      have hc1 := e2 _ _ (upd_same (H := H4) (a := c1) (o := .dK (ents kv1)))
      have hc2 := upd_same (H := upd H4 c1 (.dK (ents kv1))) (a := c2) (o := .dK (ents kv1))
      have e12 := e1.trans e2
      have c2f1 : f1 ≠ c2 := ne_of_none (e1 _ _ h1') nc2
      have c2f2 : f2 ≠ c2 := ne_of_none (e1 _ _ h2) nc2
      have hP5 : Pen (upd (upd H4 c1 (.dK (ents kv1))) c2 (.dK (ents kv1))) p qc ms sb gb := ⟨e12 _ _ hP4.p, e12 _ _ hP4.q⟩
      have h15 := e12 _ _ h1'
      have h25 := e12 _ _ h2
      generalize upd (upd H4 c1 (.dK (ents kv1))) c2 (.dK (ents kv1)) = H5 at e2 hc1 hc2 e12 hP5 h15 h25 ⊢
      -- side = Side.of(handed)
      refine ⟨rfl, _, rfl, c2, kv1, rfl, hc2, fi1.toGood, fun sd H6 e6 sN => ?_⟩
      -- the first if
      dsimp only [gName]
      refine' Cm.st_ifF ?h1 ?k1
      case h1 =>
        refine t_or (t_test ?_) (t_test ?_)
        · refine g_op (P := is (.ref c2)) (R := is (.ref c1)) (EvP.var rfl) (EvP.var rfl) fun x y H e ex ey Q k => ?_
          refine ⟨c2, c1, ents kv1, ents kv1, ex, ey, e _ _ (e6 _ _ hc2), e _ _ (e6 _ _ hc1), rfl, fun q hq => ?_, k _ _ (Ex.refl _) rfl⟩
          obtain ⟨t, ht, rfl⟩ := List.mem_map.mp hq
          refine ⟨?_, rfl⟩
          show valV (ents kv1) (Sum.inr t.1) = some (.int t.2)
          rw [valV_ents, lookup_self fi1.nod ht]
          rfl
        · have gl : ∀ {σ : L2.St} {i : Nat} {c : Addr}, σ[i]? = some (some (.ref c)) → H6 c = some (.dK (ents kv1)) → EvP.Gives (tCB (fun xs H Q => ∃ (a : Addr) (kvs : List (Key × V)), xs = [.ref a] ∧ Rd H a (.dK kvs) ∧ ∀ p, H p = none → Q (.ref p) (upd H p (.lst (kvs.map fun kv => kV kv.1)))) (tCons (tVar i) tNil)) σ H6 (lstV ((kv1.map (·.1)).map V.str)) := fun hi hc =>
            g_call (EvP.var hi) fun x H e ex Q k => ⟨_, ents kv1, by rw [show x = _ from ex], .inl (e _ _ hc), fun q hq => k _ _ (Ex.new hq) ⟨q, rfl, by
              rw [upd_same, ← ents_keys]⟩⟩
          refine g_op (P := lstV ((kv1.map (·.1)).map V.str)) (R := lstV ((kv1.map (·.1)).map V.str)) (gl rfl (e6 _ _ hc2)) (gl rfl (e6 _ _ hc1)) fun x y H e ⟨q, eq, hq⟩ ⟨q', eq', hq'⟩ Q k => ?_
          subst eq
          subst eq'
          have ok : ∀ s ∈ kv1.map (·.1), PyData.strOk s = true := fun s hs => by
            obtain ⟨t, ht, rfl⟩ := List.mem_map.mp hs
            exact ok1 t ht
          exact ⟨.list ((kv1.map (·.1)).map PyData.str), .list ((kv1.map (·.1)).map PyData.str), .lst (SqL.of hq) (dp_strs _), .lst (SqL.of hq') (dp_strs _), shaped_strsL ok, shaped_strsL ok, by
            rw [show PyData.eqv (.list ((kv1.map (·.1)).map PyData.str)) (.list ((kv1.map (·.1)).map PyData.str)) = true from eqv_strs _]
            exact k _ _ (Ex.refl _) rfl⟩
      intro H7 e7
      have hc2' := e7 _ _ (e6 _ _ hc2)
      have sd0 := sN.mono e7
      have sG := SideN_put (o' := .dK (putK (ents kv1) (Sum.inr "q") (.int 5))) sd0 hc2 hc2'
      have e57 := e6.trans e7
      have lK : (ents kv1).length < sizeLine := by
        unfold ents
        rw [List.length_map, sizeLine_eq]
        have := fi1.few
        omega
      have hPG : Pen (upd H7 c2 (.dK (putK (ents kv1) (Sum.inr "q") (.int 5)))) p qc ms sb gb :=
        ⟨by rw [upd_ne (ne_of (e57 _ _ hP5.p) hc2' (fun z => nomatch z))]; exact e57 _ _ hP5.p, by rw [upd_ne (ne_of (e57 _ _ hP5.q) hc2' (fun z => nomatch z))]; exact e57 _ _ hP5.q⟩
      have h1G : upd H7 c2 (.dK (putK (ents kv1) (Sum.inr "q") (.int 5))) f1 = some (.dK (ents kv1)) := by
        rw [upd_ne c2f1]
        exact e57 _ _ h15
      have h2G : upd H7 c2 (.dK (putK (ents kv1) (Sum.inr "q") (.int 5))) f2 = some (.dK (ents kv2)) := by
        rw [upd_ne c2f2]
        exact e57 _ _ h25
      -- handed['q'] = 5
      refine ⟨_, rfl, c2, _, rfl, DPut.k (k := Sum.inr "q") hc2' lK, ?_⟩
      generalize upd H7 c2 (.dK (putK (ents kv1) (Sum.inr "q") (.int 5))) = G at sG hPG h1G h2G ⊢
      -- the second if
      dsimp only
      refine' Cm.st_ifF ?h2 ?k2
      case h2 =>
        refine t_or (t_not (b := true) (t_val (g_is (kvs := kv1) (EvP.varP rfl ⟨sd, rfl, sG⟩) (EvP.varP rfl ⟨f1, rfl, h1G⟩) fi1))) (t_test ?_)
        have tt := told_told fi1.am fi1.nod
        have gt := good_told fi1.toGood
        have z : ∀ {σ : L2.St}, σ[7]? = some (some (.ref sd)) → σ[3]? = some (some (.ref f1)) → EvP.Gives (tOp (Own.rNeOwn C (spEqs K C)) (tVar 7) (Mkw.tCMethK C (spOf C) kwA E0 (tC (.ref C)) (tCons (tCB _ (tCons (tCall spTold [] E0 (tCons (tVar 3) tNil)) tNil)) tNil))) σ G (is (.bl (!decide (told kv1 = told (told kv1))))) := fun h7 h3 =>
          g_neOwn (ts := told kv1) (us := told (told kv1)) (EvP.varP h7 ⟨sd, rfl, sG⟩) (g_ofK (kvs := told kv1) (g_dictP (K := K) (ts := told kv1) (g_told (kvs := kv1) (EvP.varP h3 ⟨f1, rfl, h1G⟩) fi1.nod fi1.few) gt.nod) gt (fun _ => rfl)) okT1 (by rw [tt]; exact okT1)
        rw [tt, decide_eq_true rfl] at z
        exact z rfl rfl
      intro H8 e8
      have s8 := sG.mono e8
      have h18 := e8 _ _ h1G
      have h28 := e8 _ _ h2G
      -- the third if
      refine' Cm.st_ifF ?h3 ?k3
      case h3 =>
        refine t_or (t_test (g_op (P := is (.bl (decide (told kv1 = told kv2)))) (R := is (.bl (decide (told kv1 = told kv2)))) (g_eqOwn (ts := told kv1) (us := told kv2) (EvP.varP rfl ⟨sd, rfl, s8⟩) (g_of (kvs := kv2) (EvP.varP rfl ⟨f2, rfl, h28⟩) fi2.toGood) okT1 okT2)
          (g_op (P := lstA ((told kv1).map pr)) (R := lstA ((told kv2).map pr)) (g_told (EvP.varP rfl ⟨f1, rfl, h18⟩) fi1.nod fi1.few) (g_told (EvP.varP rfl ⟨f2, rfl, h28⟩) fi2.nod fi2.few) fun x y H e hx hy Q k => ⟨rowsL (told kv1), rowsL (told kv2), dp_list hx, dp_list hy, Fk.shaped_list okT1, Fk.shaped_list okT2, by
            rw [eqv_list]
            exact k _ _ (Ex.refl _) rfl⟩) fun x y H e ex ey Q k => ?_)) (t_test ?_)
        · rw [show x = _ from ex, show y = _ from ey]
          exact ⟨rfl, k _ _ (Ex.refl _) (by show V.bl (!decide _) = _; simp)⟩
        · refine g_op (P := is (.ref sd)) (R := lstV [.ref f1, .str (lineT (told kv1)), .non]) (EvP.var rfl) (Fk.Gives.imp (EvP.list (H0 := H8) (Ps := [V.ref f1, .str (lineT (told kv1)), .non].map is) (Ex.refl _) (EvP.cons (EvP.var rfl) (EvP.cons (fun H e Q k => ⟨_, rfl, f1, kv1, rfl, e _ _ h18, fi1, fun H' e' => k _ _ e' rfl⟩) (EvP.cons EvP.cst EvP.nil))) (by show 3 ≤ 1000; decide)) fun v H h => lst_is h) fun x y H e ex ⟨l, ey, hl⟩ Q k => ?_
          rw [show x = _ from ex]
          refine ⟨l, _, side_ins (s8.mono e), ey, hl, fun y hy => ?_, fun y hy => ?_, k _ _ (Ex.refl _) rfl⟩
          · simp only [List.mem_cons, List.not_mem_nil, or_false] at hy
            rcases hy with rfl | rfl | rfl
            · exact .inr (.inr ⟨f1, _, rfl, e _ _ h18⟩)
            · exact .inr (.inl ⟨_, rfl⟩)
            · exact .inl rfl
          · simp only [List.mem_cons, List.not_mem_nil, or_false] at hy
            rcases hy with rfl | rfl | rfl
            · exact .inr ⟨_, _, _, rfl, .base (.dK (e _ _ h18)), L.kD, rfl, rfl⟩
            · exact .inr ⟨_, _, _, rfl, .base (.str _), L.kS, rfl, rfl⟩
            · exact .inr ⟨_, _, _, rfl, .base .non, L.kN, rfl, rfl⟩
      intro H9 e9
      have s9 := s8.mono e9
      have h19 := e9 _ _ h18
      have hP9 : Pen H9 p qc ms sb gb := ⟨e9 _ _ (e8 _ _ hPG.p), e9 _ _ (e8 _ _ hPG.q)⟩
      -- title, many = ..
      refine ⟨_, rfl, by show 5 ≤ sizeLine; decide, fun l nl => ?_⟩
      have lp : l ≠ p := (ne_of_none hP9.p nl).symm
      have lq : l ≠ qc := (ne_of_none hP9.q nl).symm
      refine ⟨p, qc, ms, sb, gb, l, _, rfl, ⟨by rw [upd_ne lp.symm]; exact hP9.p, by rw [upd_ne lq.symm]; exact hP9.q⟩, hm, by omega, by omega, upd_same, lp, by show 0 < 5; decide, by show 5 < 100000; decide, fun v s3 g3 HA hv d1 d2 hPA hBA => ?_⟩
      refine ⟨_, rfl, p, qc, ms, s3, g3, rfl, hPA, hm, by omega, by omega, fun i s4 g4 HB i0 i1 d3 d4 hPB hBB => ⟨_, _, rfl, ?_⟩⟩
      obtain ⟨z, rfl, hz⟩ : ∃ z, v = V.str z ∧ NameV (.str z) := by
        simp only [List.mem_cons, List.not_mem_nil, or_false] at hv
        rcases hv with rfl | rfl | rfl | rfl | rfl <;> exact ⟨_, rfl, _, rfl, by decide +kernel, by decide +kernel⟩
      have keep : ∀ b o, H9 b = some o → (∀ ys, o ≠ .lst ys) → HB b = some o := fun b o hb no => by
        have bp : b ≠ p := fun w => by
          rw [w, hP9.p] at hb
          exact no _ (Option.some.inj hb).symm
        have bl : b ≠ l := ne_of_none hb nl
        exact hBB b o (hBA b o (by rw [upd_ne bl]; exact hb) bp) bp
      have sB := SideAt_keep keep s9
      have h1B := keep _ _ h19 (fun ys w => nomatch w)
      have few : kv1.length < 63 := Nat.lt_of_le_of_lt dr1.few (by decide)
      -- bent = dict(plain)
      refine ⟨_, rfl, f1, ents kv1, rfl, .inl h1B, fun c3 nc3 => ?_⟩
      dsimp only [gName]
      -- bent[title] = many
      refine ⟨_, rfl, _, rfl, _, rfl, c3, _, rfl, DPut.k (k := Sum.inr z) upd_same lK, ?_⟩
      have e3 : Ex HB (upd (upd HB c3 (.dK (ents kv1))) c3 (.dK (putK (ents kv1) (Sum.inr z) (.int i)))) := fun b o hb => by
        have nb := ne_of_none hb nc3
        rw [upd_ne nb, upd_ne nb]
        exact hb
      have h3 : upd (upd HB c3 (.dK (ents kv1))) c3 (.dK (putK (ents kv1) (Sum.inr z) (.int i))) c3 = some (.dK (ents (putR kv1 z i))) := by
        rw [upd_same, ents_put]
      generalize upd (upd HB c3 (.dK (ents kv1))) c3 (.dK (putK (ents kv1) (Sum.inr z) (.int i))) = G2 at e3 h3 ⊢
      have sC := sB.mono e3
      have h1C := e3 _ _ h1B
      have hPC : Pen G2 p qc ms s4 g4 := ⟨e3 _ _ hPB.p, e3 _ _ hPB.q⟩
      have i64 : i < 10 ^ 64 := Int.lt_of_le_of_lt i1 (by decide)
      have fiB := Fine.put fi1 hz i0 i64 few
      have okB : ∀ t ∈ told (putR kv1 z i), PyData.strOk t.1 = true := fun t ht => ok_names fiB.nm t (told_sub ht)
      -- the fourth if
      dsimp only
      refine' Cm.st_ifF ?h4 ?k4
      case h4 =>
        refine t_or (t_not (b := true) (t_val (g_is (kvs := putR kv1 z i) (g_with (kvs := kv1) (z := z) (i := i) (EvP.varP rfl ⟨sd, rfl, sC⟩) (EvP.var rfl) (EvP.var rfl) fi1.toGood hz i0 few) (EvP.varP rfl ⟨c3, rfl, h3⟩) fiB))) (t_test ?_)
        have zz : ∀ {σ : L2.St}, σ[7]? = some (some (.ref sd)) → σ[8]? = some (some (.str z)) → σ[9]? = some (some (.int i)) → σ[10]? = some (some (.ref c3)) → EvP.Gives (tOp (Own.rNeOwn C (spEqs K C)) (Mkw.tMethK C "with_amount" (spWith C) kwB E0 (tVar 7) (tCons (tVar 9) (tCons (tVar 8) tNil))) (ClX.tCMeth C (spOf C) E0 (tC (.ref C)) (tCons (tVar 10) tNil))) σ G2 (is (.bl (!decide (told (putR kv1 z i) = told (putR kv1 z i))))) := fun h7 h8 h9 h10 =>
          g_neOwn (g_withK (kvs := kv1) (z := z) (i := i) (EvP.varP h7 ⟨sd, rfl, sC⟩) (EvP.var h8) (EvP.var h9) fi1.toGood hz i0 few) (g_of (kvs := putR kv1 z i) (EvP.varP h10 ⟨c3, rfl, h3⟩) fiB.toGood) okB okB
        rw [decide_eq_true rfl] at zz
        exact zz rfl rfl rfl rfl
      intro H10 e10
      have s10 := sC.mono e10
      have h110 := e10 _ _ h1C
      -- the fifth if
      refine' Cm.st_ifF ?h5 ?k5
      case h5 =>
        have x0 := amt_nn fi1.am "a"
        have xh : amt kv1 "a" < 10 ^ 64 := by
          by_cases hq : (0 : Int) < amt kv1 "a"
          · have := (amt_of (mem_srt.mp (List.mem_filter.mp (mem_tns.mpr hq)).1)).2
            exact fi1.hi _ this
          · exact Int.lt_of_le_of_lt (Int.not_lt.mp hq) (by decide)
        generalize hx : amt kv1 "a" = xa at x0 xh
        have gGet : ∀ {σ : L2.St}, σ[3]? = some (some (.ref f1)) → ∀ H11, Ex H10 H11 → EvP.Gives (tDGet2 (tVar 3) (tC (.str "a")) (tC (.int 0))) σ H11 (is (.int xa)) := fun h H11 e11 H5 e5 Q k =>
          ⟨_, h, f1, rfl, .inl ⟨_, .inl (e5 _ _ (e11 _ _ h110))⟩, _, DGet.k (k := Sum.inr "a") (e5 _ _ (e11 _ _ h110)), by
            refine k _ _ (Ex.refl _) ?_
            show (valV (ents kv1) (Sum.inr "a")).getD (.int 0) = _
            rw [valV_ents, ← hx]
            unfold amt
            cases kv1.lookup ("a" : Str) <;> rfl⟩
        have nmA : NameV (.str "a") := ⟨_, rfl, by decide +kernel, by decide +kernel⟩
        have nmT : NameV (.str "total") := ⟨_, rfl, by decide +kernel, by decide +kernel⟩
        have nmZ : NameV (.str "zz") := ⟨_, rfl, by decide +kernel, by decide +kernel⟩
        have fa : Fine [("a", xa), ("total", i), ("zz", 2)] := ⟨⟨by show (["a", "total", "zz"] : List Str).Nodup; decide +kernel, fun t ht => by
            simp only [List.mem_cons, List.not_mem_nil, or_false] at ht
            rcases ht with rfl | rfl | rfl
            · exact nmA
            · exact nmT
            · exact nmZ, fun t ht => by
            simp only [List.mem_cons, List.not_mem_nil, or_false] at ht
            rcases ht with rfl | rfl | rfl
            · exact x0
            · exact i0
            · exact (by decide : (0 : Int) ≤ 2), by show 3 < 64; decide⟩, fun t ht => by
            simp only [List.mem_cons, List.not_mem_nil, or_false] at ht
            rcases ht with rfl | rfl | rfl
            · exact xh
            · exact i64
            · exact (by decide : (2 : Int) < 10 ^ 64)⟩
        have fz : Fine [("zz", 2), ("total", i), ("a", xa)] := ⟨⟨by show (["zz", "total", "a"] : List Str).Nodup; decide +kernel, fun t ht => fa.nm t (by
            simp only [List.mem_cons, List.not_mem_nil, or_false] at ht ⊢
            rcases ht with rfl | rfl | rfl <;> simp), fun t ht => fa.am t (by
            simp only [List.mem_cons, List.not_mem_nil, or_false] at ht ⊢
            rcases ht with rfl | rfl | rfl <;> simp), by show 3 < 64; decide⟩, fun t ht => fa.hi t (by
            simp only [List.mem_cons, List.not_mem_nil, or_false] at ht ⊢
            rcases ht with rfl | rfl | rfl <;> simp)⟩
        have same : told [("a", xa), ("total", i), ("zz", 2)] = told [("zz", 2), ("total", i), ("a", xa)] := told_ext fa.nod fz.nod fun n => by
          have hat : ("a" : Str) ≠ "total" := by decide +kernel
          have haz : ("a" : Str) ≠ "zz" := by decide +kernel
          have htz : ("total" : Str) ≠ "zz" := by decide +kernel
          unfold amt
          by_cases na : n = "a"
          · subst na
            simp [List.lookup, beq_eq_false_iff_ne.mpr hat, beq_eq_false_iff_ne.mpr haz]
          · by_cases nt : n = "total"
            · subst nt
              simp [List.lookup, beq_eq_false_iff_ne.mpr hat.symm, beq_eq_false_iff_ne.mpr htz]
            · by_cases nz : n = "zz"
              · subst nz
                simp [List.lookup, beq_eq_false_iff_ne.mpr haz.symm, beq_eq_false_iff_ne.mpr htz.symm]
              · simp [List.lookup, beq_eq_false_iff_ne.mpr na, beq_eq_false_iff_ne.mpr nt, beq_eq_false_iff_ne.mpr nz]
        have mg := merge_ents fz.nod
        refine t_not (b := true) (t_val (g_is (kvs := [("zz", 2), ("total", i), ("a", xa)]) ?_ ?_ fz))
        · rw [← same]
          exact g_make (kvs := [("a", xa), ("total", i), ("zz", 2)]) (EvP.cons (gGet rfl H10 (Ex.refl _)) (EvP.cons (EvP.var rfl) (EvP.cons EvP.cst EvP.nil))) rfl fa.toGood
        · intro H11 e11 Q k pd hpd
          refine ⟨_, rfl, ?_⟩
          have e12 := Ex.new (o := .dK []) hpd
          refine pairs1 (P := is (.int xa)) (gGet rfl _ (e11.trans e12)) fun v H12 e13 ev => ⟨e13 _ _ upd_same, ents [("zz", 2), ("total", i), ("a", xa)], by rw [show v = _ from ev]; rfl, by show 3 ≤ 15; decide, k _ _ (fun b o hb => ?_) ⟨pd, rfl, by rw [upd_same, mg]⟩⟩
          rw [upd_ne (ne_of_none hb hpd)]
          exact e13 _ _ (e12 _ _ hb)
      intro H11 e11
      have s11 := s10.mono e11
      have h111 := e11 _ _ h110
      -- the sixth if
      refine Cm.st_ifF1 (t_not (b := true) (t_val (g_is (kvs := kv1) (EvP.varP rfl ⟨sd, rfl, s11⟩) (EvP.varP rfl ⟨f1, rfl, h111⟩) fi1))) fun H12 e12 => ?_
      have ee := e10.trans (e11.trans e12)
      exact ⟨_, _, _, _, _, _, _, _, _, s4, g4, rfl, ⟨ee _ _ hPC.p, ee _ _ hPC.q⟩, by omega, by
        push_cast
        omega⟩
    · rintro σ H3 ⟨o2, o3, o4, o5, o6, o7, o8, o9, o10, s, g, rfl, hP3, s0, s1⟩
      have one : ∀ (n : Str) (i : Int), nameB n = true → n.length ≤ sizeLine → 0 ≤ i → Good [(n, i)] := fun n i hb hz h0 => ⟨List.nodup_cons.mpr ⟨by simp, List.nodup_nil⟩, fun t ht => by
        rw [List.mem_singleton.mp ht]
        exact ⟨n, rfl, hz, hb⟩, fun t ht => by
        rw [List.mem_singleton.mp ht]
        exact h0, by show 1 < 64; decide⟩
      have g0 : Good [] := ⟨List.nodup_nil, (fun t ht => nomatch ht), (fun t ht => nomatch ht), (by show 0 < 64; decide)⟩
      have gA0 := one "a" 0 (by decide +kernel) (by decide +kernel) (by decide)
      have gA1 := one "a" 1 (by decide +kernel) (by decide +kernel) (by decide)
      have gB1 := one "b" 1 (by decide +kernel) (by decide +kernel) (by decide)
      have ok : ∀ {ts : Fk.Row}, Good ts → ∀ t ∈ told ts, PyData.strOk t.1 = true := fun g t ht => ok_names g.nm t (told_sub ht)
      have t0 : told [] = [] := List.eq_nil_of_length_eq_zero (Nat.le_zero.mp (told_len []))
      have t1 : told [] = told [(("a" : Str), (0 : Int))] := told_ext g0.nod gA0.nod fun n => by
        unfold amt
        by_cases na : n = "a"
        · subst na
          simp [List.lookup]
        · simp [List.lookup, beq_eq_false_iff_ne.mpr na]
      have t2 : told [(("a" : Str), (1 : Int))] ≠ told [(("b" : Str), (1 : Int))] := fun z => by
        have h1 := amt_told gA1.am "a"
        have h2 := amt_told gB1.am "a"
        rw [z, h2] at h1
        have hab : ("a" : Str) ≠ "b" := by decide +kernel
        unfold amt at h1
        simp [List.lookup, beq_eq_false_iff_ne.mpr hab] at h1
      dsimp only
      refine' EvP.st_ret (P := is (.bl true)) ?h6 ?k6
      case k6 =>
        intro v H4 e4 ev
        rw [show v = _ from ev]
        exact q _
      refine g_and ?_ (g_and ?_ ?_)
      · have z := g_eqOwn (K := K) (C := C) (σ := [some (.ref a), some (.ref p), o2, o3, o4, o5, o6, o7, o8, o9, o10]) (H := H3) (g_make (ks := []) (kvs := []) EvP.nil rfl g0) (g_make (ks := ["a"]) (kvs := [("a", 0)]) (EvP.cons EvP.cst EvP.nil) rfl gA0) (ok g0) (ok gA0)
        rw [decide_eq_true t1] at z
        exact z
      · exact fun H4 e4 Q4 k4 => g_make (ks := []) (kvs := []) EvP.nil rfl g0 H4 e4 _ fun v H5 e5 ⟨b, ev, sb⟩ => by
          subst ev
          refine ⟨side_ins sb, b, told [], rfl, sb, _, rfl, by rw [t0]; decide, ?_⟩
          rw [t0]
          exact k4 _ _ e5 rfl
      · have z := g_neOwn (K := K) (C := C) (σ := [some (.ref a), some (.ref p), o2, o3, o4, o5, o6, o7, o8, o9, o10]) (H := H3) (g_make (ks := ["a"]) (kvs := [("a", 1)]) (EvP.cons EvP.cst EvP.nil) rfl gA1) (g_make (ks := ["b"]) (kvs := [("b", 1)]) (EvP.cons EvP.cst EvP.nil) rfl gB1) (ok gA1) (ok gB1)
        rw [decide_eq_false t2] at z
        exact z
end
end K10

set_option Elab.async false
set_option linter.all false
set_option maxRecDepth 100000
set_option maxHeartbeats 4000000
/-! The facts of the text, put together. -/
namespace K10
open PySem PySem.Spec PyProof.Rows L2 EvP Cm Fk
theorem all_mk {P : Program} {w : World} {K : PySem.W.Frag} {h : Heap} {mg : Str → Option Value} {fa : Addr} (X : K.In h) (G : h.Ns mainGlobals mg) (hfa : mg "law" = some (.ref fa))
    {g0 : Addr} {Oc0 KV0 Dc0 Pm0 Cd0 Ct0 : Value} {Od0 An0 : Option Addr} {Sl0 : Array (Option Value)}
    {g1 : Addr} {Oc1 KV1 Dc1 Pm1 Cd1 Ct1 : Value} {Od1 An1 : Option Addr} {Sl1 : Array (Option Value)}
    {g2 : Addr} {Oc2 KV2 Dc2 Pm2 Cd2 Ct2 : Value} {Od2 An2 : Option Addr} {Sl2 : Array (Option Value)}
    {g3 : Addr} {Oc3 KV3 Dc3 Pm3 Cd3 Ct3 : Value} {Od3 An3 : Option Addr} {Sl3 : Array (Option Value)}
    {g4 : Addr} {Oc4 KV4 Dc4 Pm4 Cd4 Ct4 : Value} {Od4 An4 : Option Addr} {Sl4 : Array (Option Value)}
    {g5 : Addr} {Oc5 KV5 Dc5 Pm5 Cd5 Ct5 : Value} {Od5 An5 : Option Addr} {Sl5 : Array (Option Value)}
    {g6 : Addr} {Oc6 KV6 Dc6 Pm6 Cd6 Ct6 : Value} {Od6 An6 : Option Addr} {Sl6 : Array (Option Value)}
    {g7 : Addr} {Oc7 KV7 Dc7 Pm7 Cd7 Ct7 : Value} {Od7 An7 : Option Addr} {Sl7 : Array (Option Value)}
    {g8 : Addr} {Oc8 KV8 Dc8 Pm8 Cd8 Ct8 : Value} {Od8 An8 : Option Addr} {Sl8 : Array (Option Value)}
    {g9 : Addr} {Oc9 KV9 Dc9 Pm9 Cd9 Ct9 : Value} {Od9 An9 : Option Addr} {Sl9 : Array (Option Value)}
    {g10 : Addr} {Oc10 KV10 Dc10 Pm10 Cd10 Ct10 : Value} {Od10 An10 : Option Addr} {Sl10 : Array (Option Value)}
    {g11 : Addr} {Oc11 KV11 Dc11 Pm11 Cd11 Ct11 : Value} {Od11 An11 : Option Addr} {Sl11 : Array (Option Value)}
    {g12 : Addr} {Oc12 KV12 Dc12 Pm12 Cd12 Ct12 : Value} {Od12 An12 : Option Addr} {Sl12 : Array (Option Value)}
    {g13 : Addr} {Oc13 KV13 Dc13 Pm13 Cd13 Ct13 : Value} {Od13 An13 : Option Addr} {Sl13 : Array (Option Value)}
    {gI : Addr} {OcI KVI DcI PmI CdI CtI : Value} {OdI AnI : Option Addr} {SlI : Array (Option Value)} {TI : Addr} {cTI : Value} {dTI : Option Addr} {nTI : Nat} {sTI : Array (Option Value)}
    {tL t1 t2 : Tok} {aN : Addr} {dN : Option Addr} {nN : Nat} {sN : Array (Option Value)}
    {C pO : Addr} {rO : List Value}
    {f0 : Addr} {oc0 kV0 dc0 pm0 cd0 ct0 : Value} {od0 an0 : Option Addr} {sl0 : Array (Option Value)}
    {f1 : Addr} {oc1 kV1 dc1 pm1 cd1 ct1 : Value} {od1 an1 : Option Addr} {sl1 : Array (Option Value)}
    {f2 : Addr} {oc2 kV2 dc2 pm2 cd2 ct2 : Value} {od2 an2 : Option Addr} {sl2 : Array (Option Value)}
    {f3 : Addr} {oc3 kV3 dc3 pm3 cd3 ct3 : Value} {od3 an3 : Option Addr} {sl3 : Array (Option Value)}
    {f4 : Addr} {oc4 kV4 dc4 pm4 cd4 ct4 : Value} {od4 an4 : Option Addr} {sl4 : Array (Option Value)}
    {f5 : Addr} {oc5 kV5 dc5 pm5 cd5 ct5 : Value} {od5 an5 : Option Addr} {sl5 : Array (Option Value)}
    {f6 : Addr} {oc6 kV6 dc6 pm6 cd6 ct6 : Value} {od6 an6 : Option Addr} {sl6 : Array (Option Value)}
    {f7 : Addr} {oc7 kV7 dc7 pm7 cd7 ct7 : Value} {od7 an7 : Option Addr} {sl7 : Array (Option Value)}
    {f8 : Addr} {oc8 kV8 dc8 pm8 cd8 ct8 : Value} {od8 an8 : Option Addr} {sl8 : Array (Option Value)}
    (A0 : PySem.W.nsIn K mainGlobals "is_amount" = some (some (.ref g0)))
    (L0 : K.lookup g0 = some ⟨Oc0, Od0, .func (PySem.W.fnOf "is_amount" "is_amount" (defArgs Fk.sAmount) (defBody Fk.sAmount) (defScope Fk.sAmount) .none KV0 Dc0 Pm0 An0 Cd0 Ct0), Sl0⟩)
    (D0 : PySem.W.codeIn K Cd0 "is_amount" = true)
    (E0 : PySem.W.keepIn K (.ref g0) = true)
    (A1 : PySem.W.nsIn K mainGlobals "is_name" = some (some (.ref g1)))
    (L1 : K.lookup g1 = some ⟨Oc1, Od1, .func (PySem.W.fnOf "is_name" "is_name" (defArgs Fk.sName) (defBody Fk.sName) (defScope Fk.sName) .none KV1 Dc1 Pm1 An1 Cd1 Ct1), Sl1⟩)
    (D1 : PySem.W.codeIn K Cd1 "is_name" = true)
    (E1 : PySem.W.keepIn K (.ref g1) = true)
    (A2 : PySem.W.nsIn K mainGlobals "check_names" = some (some (.ref g2)))
    (L2 : K.lookup g2 = some ⟨Oc2, Od2, .func (PySem.W.fnOf "check_names" "check_names" (defArgs Fk.sNames) (defBody Fk.sNames) (defScope Fk.sNames) .none KV2 Dc2 Pm2 An2 Cd2 Ct2), Sl2⟩)
    (D2 : PySem.W.codeIn K Cd2 "check_names" = true)
    (E2 : PySem.W.keepIn K (.ref g2) = true)
    (A3 : PySem.W.nsIn K mainGlobals "number_text" = some (some (.ref g3)))
    (L3 : K.lookup g3 = some ⟨Oc3, Od3, .func (PySem.W.fnOf "number_text" "number_text" (defArgs Fk.sNum) (defBody Fk.sNum) (defScope Fk.sNum) .none KV3 Dc3 Pm3 An3 Cd3 Ct3), Sl3⟩)
    (D3 : PySem.W.codeIn K Cd3 "number_text" = true)
    (E3 : PySem.W.keepIn K (.ref g3) = true)
    (A4 : PySem.W.nsIn K mainGlobals "check_amounts" = some (some (.ref g4)))
    (L4 : K.lookup g4 = some ⟨Oc4, Od4, .func (PySem.W.fnOf "check_amounts" "check_amounts" (defArgs Fk.sAmounts) (defBody Fk.sAmounts) (defScope Fk.sAmounts) .none KV4 Dc4 Pm4 An4 Cd4 Ct4), Sl4⟩)
    (D4 : PySem.W.codeIn K Cd4 "check_amounts" = true)
    (E4 : PySem.W.keepIn K (.ref g4) = true)
    (A5 : PySem.W.nsIn K mainGlobals "_law_pen" = some (some (.ref g5)))
    (L5 : K.lookup g5 = some ⟨Oc5, Od5, .func (PySem.W.fnOf "_law_pen" "_law_pen" (defArgs K10.sPen) (defBody K10.sPen) (defScope K10.sPen) .none KV5 Dc5 Pm5 An5 Cd5 Ct5), Sl5⟩)
    (D5 : PySem.W.codeIn K Cd5 "_law_pen" = true)
    (E5 : PySem.W.keepIn K (.ref g5) = true)
    (A6 : PySem.W.nsIn K mainGlobals "_law_draw" = some (some (.ref g6)))
    (L6 : K.lookup g6 = some ⟨Oc6, Od6, .func (PySem.W.fnOf "_law_draw" "_law_draw" (defArgs K10.sDraw) (defBody K10.sDraw) (defScope K10.sDraw) .none KV6 Dc6 Pm6 An6 Cd6 Ct6), Sl6⟩)
    (D6 : PySem.W.codeIn K Cd6 "_law_draw" = true)
    (E6 : PySem.W.keepIn K (.ref g6) = true)
    (A7 : PySem.W.nsIn K mainGlobals "_law_pick" = some (some (.ref g7)))
    (L7 : K.lookup g7 = some ⟨Oc7, Od7, .func (PySem.W.fnOf "_law_pick" "_law_pick" (defArgs K10.sPick) (defBody K10.sPick) (defScope K10.sPick) .none KV7 Dc7 Pm7 An7 Cd7 Ct7), Sl7⟩)
    (D7 : PySem.W.codeIn K Cd7 "_law_pick" = true)
    (E7 : PySem.W.keepIn K (.ref g7) = true)
    (A8 : PySem.W.nsIn K mainGlobals "_law_amount" = some (some (.ref g8)))
    (L8 : K.lookup g8 = some ⟨Oc8, Od8, .func (PySem.W.fnOf "_law_amount" "_law_amount" (defArgs K10.sAmount) (defBody K10.sAmount) (defScope K10.sAmount) .none KV8 Dc8 Pm8 An8 Cd8 Ct8), Sl8⟩)
    (D8 : PySem.W.codeIn K Cd8 "_law_amount" = true)
    (E8 : PySem.W.keepIn K (.ref g8) = true)
    (A9 : PySem.W.nsIn K mainGlobals "_law_plain" = some (some (.ref g9)))
    (L9 : K.lookup g9 = some ⟨Oc9, Od9, .func (PySem.W.fnOf "_law_plain" "_law_plain" (defArgs K10.sPlain) (defBody K10.sPlain) (defScope K10.sPlain) .none KV9 Dc9 Pm9 An9 Cd9 Ct9), Sl9⟩)
    (D9 : PySem.W.codeIn K Cd9 "_law_plain" = true)
    (E9 : PySem.W.keepIn K (.ref g9) = true)
    (A10 : PySem.W.nsIn K mainGlobals "_law_told" = some (some (.ref g10)))
    (L10 : K.lookup g10 = some ⟨Oc10, Od10, .func (PySem.W.fnOf "_law_told" "_law_told" (defArgs K10.sTold) (defBody K10.sTold) (defScope K10.sTold) .none KV10 Dc10 Pm10 An10 Cd10 Ct10), Sl10⟩)
    (D10 : PySem.W.codeIn K Cd10 "_law_told" = true)
    (E10 : PySem.W.keepIn K (.ref g10) = true)
    (A11 : PySem.W.nsIn K mainGlobals "_law_line" = some (some (.ref g11)))
    (L11 : K.lookup g11 = some ⟨Oc11, Od11, .func (PySem.W.fnOf "_law_line" "_law_line" (defArgs K10.sLine) (defBody K10.sLine) (defScope K10.sLine) .none KV11 Dc11 Pm11 An11 Cd11 Ct11), Sl11⟩)
    (D11 : PySem.W.codeIn K Cd11 "_law_line" = true)
    (E11 : PySem.W.keepIn K (.ref g11) = true)
    (A12 : PySem.W.nsIn K mainGlobals "_law_is" = some (some (.ref g12)))
    (L12 : K.lookup g12 = some ⟨Oc12, Od12, .func (PySem.W.fnOf "_law_is" "_law_is" (defArgs K10.sIs) (defBody K10.sIs) (defScope K10.sIs) .none KV12 Dc12 Pm12 An12 Cd12 Ct12), Sl12⟩)
    (D12 : PySem.W.codeIn K Cd12 "_law_is" = true)
    (E12 : PySem.W.keepIn K (.ref g12) = true)
    (A13 : PySem.W.nsIn K mainGlobals "law" = some (some (.ref g13)))
    (L13 : K.lookup g13 = some ⟨Oc13, Od13, .func (PySem.W.fnOf "law" "law" (defArgs K10.sLaw) (defBody K10.sLaw) (defScope K10.sLaw) .none KV13 Dc13 Pm13 An13 Cd13 Ct13), Sl13⟩)
    (D13 : PySem.W.codeIn K Cd13 "law" = true)
    (E13 : PySem.W.keepIn K (.ref g13) = true)
    (AI : PySem.W.nsIn K mainGlobals "is_integer" = some (some (.ref gI)))
    (LI : K.lookup gI = some ⟨OcI, OdI, .func (PySem.W.fnOf "is_integer" "is_integer" (defArgs Fk.sInteger) (defBody Fk.sInteger) (defScope Fk.sInteger) (.ref TI) KVI DcI PmI AnI CdI CtI), SlI⟩)
    (DI : PySem.W.codeIn K CdI "is_integer" = true)
    (EI : PySem.W.keepIn K (.ref gI) = true)
    (TIl : K.lookup TI = some ⟨cTI, dTI, .seq #[Value.none] nTI, sTI⟩)
    (AL : PySem.W.nsIn K mainGlobals "LONGEST_NAME" = some (some (.int 8 tL)))
    (AN : PySem.W.nsIn K mainGlobals "NO_NAMES" = some (some (.ref aN)))
    (LN : K.lookup aN = some ⟨.type "tuple", dN, .seq #[Value.str "none" t1, Value.str "self" t2] nN, sN⟩)
    (AC : PySem.W.nsIn K mainGlobals "Side" = some (some (.ref C)))
    (a0 : PySem.W.findIn K (.ref C) "__init__" = some (some (.ref f0)))
    (l0 : K.lookup f0 = some ⟨oc0, od0, .func (PySem.W.fnOf "__init__" "Side.__init__" (defArgs (Fk.meth 0)) (defBody (Fk.meth 0)) (defScope (Fk.meth 0)) .none kV0 dc0 pm0 an0 cd0 ct0), sl0⟩)
    (c0 : PySem.W.codeIn K cd0 "Side.__init__" = true)
    (k0 : PySem.W.keepIn K (.ref f0) = true)
    (n0 : PySem.W.isFn K (.ref f0) = true)
    (i0 : PySem.W.fnIn K f0 = true)
    (aO : PySem.W.findCls K (.ref C) (.type "type") "of" = some (.get (.builtin "classmethod.__get__") (.ref pO) .none (.ref C)))
    (rcO : PySem.W.recIn K pO "classmethod" = some (.ref f1 :: rO))
    (l1 : K.lookup f1 = some ⟨oc1, od1, .func (PySem.W.fnOf "of" "Side.of" (defArgs (Fk.meth 1)) (defBody (Fk.meth 1)) (defScope (Fk.meth 1)) .none kV1 dc1 pm1 an1 cd1 ct1), sl1⟩)
    (c1 : PySem.W.codeIn K cd1 "Side.of" = true)
    (k1 : PySem.W.keepIn K (.ref f1) = true)
    (n1 : PySem.W.isFn K (.ref f1) = true)
    (i1 : PySem.W.fnIn K f1 = true)
    (a2 : PySem.W.findIn K (.ref C) "__len__" = some (some (.ref f2)))
    (l2 : K.lookup f2 = some ⟨oc2, od2, .func (PySem.W.fnOf "__len__" "Side.__len__" (defArgs (Fk.meth 2)) (defBody (Fk.meth 2)) (defScope (Fk.meth 2)) .none kV2 dc2 pm2 an2 cd2 ct2), sl2⟩)
    (c2 : PySem.W.codeIn K cd2 "Side.__len__" = true)
    (k2 : PySem.W.keepIn K (.ref f2) = true)
    (n2 : PySem.W.isFn K (.ref f2) = true)
    (i2 : PySem.W.fnIn K f2 = true)
    (a3 : PySem.W.findIn K (.ref C) "__iter__" = some (some (.ref f3)))
    (l3 : K.lookup f3 = some ⟨oc3, od3, .func (PySem.W.fnOf "__iter__" "Side.__iter__" (defArgs (Fk.meth 3)) (defBody (Fk.meth 3)) (defScope (Fk.meth 3)) .none kV3 dc3 pm3 an3 cd3 ct3), sl3⟩)
    (c3 : PySem.W.codeIn K cd3 "Side.__iter__" = true)
    (k3 : PySem.W.keepIn K (.ref f3) = true)
    (n3 : PySem.W.isFn K (.ref f3) = true)
    (i3 : PySem.W.fnIn K f3 = true)
    (a4 : PySem.W.findIn K (.ref C) "__contains__" = some (some (.ref f4)))
    (l4 : K.lookup f4 = some ⟨oc4, od4, .func (PySem.W.fnOf "__contains__" "Side.__contains__" (defArgs (Fk.meth 4)) (defBody (Fk.meth 4)) (defScope (Fk.meth 4)) .none kV4 dc4 pm4 an4 cd4 ct4), sl4⟩)
    (c4 : PySem.W.codeIn K cd4 "Side.__contains__" = true)
    (k4 : PySem.W.keepIn K (.ref f4) = true)
    (n4 : PySem.W.isFn K (.ref f4) = true)
    (i4 : PySem.W.fnIn K f4 = true)
    (a5 : PySem.W.findIn K (.ref C) "__getitem__" = some (some (.ref f5)))
    (l5 : K.lookup f5 = some ⟨oc5, od5, .func (PySem.W.fnOf "__getitem__" "Side.__getitem__" (defArgs (Fk.meth 5)) (defBody (Fk.meth 5)) (defScope (Fk.meth 5)) .none kV5 dc5 pm5 an5 cd5 ct5), sl5⟩)
    (c5 : PySem.W.codeIn K cd5 "Side.__getitem__" = true)
    (k5 : PySem.W.keepIn K (.ref f5) = true)
    (n5 : PySem.W.isFn K (.ref f5) = true)
    (i5 : PySem.W.fnIn K f5 = true)
    (a6 : PySem.W.findIn K (.ref C) "__eq__" = some (some (.ref f6)))
    (l6 : K.lookup f6 = some ⟨oc6, od6, .func (PySem.W.fnOf "__eq__" "Side.__eq__" (defArgs (Fk.meth 16)) (defBody (Fk.meth 16)) (defScope (Fk.meth 16)) .none kV6 dc6 pm6 an6 cd6 ct6), sl6⟩)
    (c6 : PySem.W.codeIn K cd6 "Side.__eq__" = true)
    (k6 : PySem.W.keepIn K (.ref f6) = true)
    (n6 : PySem.W.isFn K (.ref f6) = true)
    (i6 : PySem.W.fnIn K f6 = true)
    (a7 : PySem.W.findIn K (.ref C) "with_amount" = some (some (.ref f7)))
    (l7 : K.lookup f7 = some ⟨oc7, od7, .func (PySem.W.fnOf "with_amount" "Side.with_amount" (defArgs (Fk.meth 17)) (defBody (Fk.meth 17)) (defScope (Fk.meth 17)) .none kV7 dc7 pm7 an7 cd7 ct7), sl7⟩)
    (c7 : PySem.W.codeIn K cd7 "Side.with_amount" = true)
    (k7 : PySem.W.keepIn K (.ref f7) = true)
    (n7 : PySem.W.isFn K (.ref f7) = true)
    (i7 : PySem.W.fnIn K f7 = true)
    (a8 : PySem.W.findIn K (.ref C) "__str__" = some (some (.ref f8)))
    (l8 : K.lookup f8 = some ⟨oc8, od8, .func (PySem.W.fnOf "__str__" "Side.__str__" (defArgs (Fk.meth 18)) (defBody (Fk.meth 18)) (defScope (Fk.meth 18)) .none kV8 dc8 pm8 an8 cd8 ct8), sl8⟩)
    (c8 : PySem.W.codeIn K cd8 "Side.__str__" = true)
    (k8 : PySem.W.keepIn K (.ref f8) = true)
    (n8 : PySem.W.isFn K (.ref f8) = true)
    (i8 : PySem.W.fnIn K f8 = true)
    (q_pg : PySem.W.plainGet K C Str.empty = true)
    (q_hd : PySem.W.hasDictIn K C = true)
    (q_po : PySem.W.plainOver K C = true)
    (q_sa : PySem.W.findIn K (.ref C) "__setattr__" = some (some (.builtin "object.__setattr__")))
    (q_nN : PySem.W.findIn K (.ref C) "names" = some none)
    (q_nT : PySem.W.findIn K (.ref C) "total" = some none)
    (q_nA : PySem.W.findIn K (.ref C) "_amounts" = some none)
    (q_nR : PySem.W.findIn K (.ref C) "_rows" = some none)
    (q_ha : PySem.W.findIn K (.ref C) "__class__" = some (some (.builtin "object.__class__")))
    (q_hn : PySem.W.specialIn K (.builtin "object.__class__") "__get__" = some (some (.builtin "getset_descriptor.__get__")))
    (q_htk : PySem.W.takesIn K (.builtin "object.__class__") = some true)
    (q_hm : PySem.W.mroIn K C (.type "object") = some true)
    (q_mk : PySem.W.makesIn K C = true)
    (q_kp : PySem.W.keepIn K (.ref C) = true)
    (q_rd : PySem.W.readsIn K C (.type "type") = true)
    (q_ga : PySem.W.specialIn K (.ref C) "__getattribute__" = some (some (.builtin "type.__getattribute__")))
    (q_ne : PySem.W.findIn K (.ref C) "__ne__" = some (some (.builtin "object.__ne__")))
    (q_nb : PySem.W.findIn K (.ref C) "__bool__" = some none)
    (q_sN : PySem.W.subIn K (.ref C) (.type "NoneType") = some false)
    (q_sS : PySem.W.subIn K (.ref C) (.type "str") = some false)
    (q_sD : PySem.W.subIn K (.ref C) (.type "dict") = some false)
    (q_kD : decide (PySem.W.kitOne K (.type "dict") (.ref C) = some false) = true)
    (q_kS : decide (PySem.W.kitOne K (.type "str") (.ref C) = some false) = true)
    (q_kN : decide (PySem.W.kitOne K (.type "NoneType") (.ref C) = some false) = true)
    (z_isinstance : PySem.W.nsIn K mainGlobals "isinstance" = some none)
    (z_int : PySem.W.nsIn K mainGlobals "int" = some none)
    (z_bool : PySem.W.nsIn K mainGlobals "bool" = some none)
    (z_str : PySem.W.nsIn K mainGlobals "str" = some none)
    (z_len : PySem.W.nsIn K mainGlobals "len" = some none)
    (z_sorted : PySem.W.nsIn K mainGlobals "sorted" = some none)
    (z_tuple : PySem.W.nsIn K mainGlobals "tuple" = some none)
    (z_sum : PySem.W.nsIn K mainGlobals "sum" = some none)
    (z_list : PySem.W.nsIn K mainGlobals "list" = some none)
    (z_dict : PySem.W.nsIn K mainGlobals "dict" = some none)
    (z_range : PySem.W.nsIn K mainGlobals "range" = some none)
    (z_abs : PySem.W.nsIn K mainGlobals "abs" = some none)
    (z_iter : PySem.W.nsIn K mainGlobals "iter" = some none) :
    ∃ fd : FuncData, (∀ (s : Shared) (u : Value), BindsTo s fd ⟨[u], []⟩ [("script", u)]) ∧ ∀ base : Heap, K.In base → base.Ns mainGlobals mg → FnOk P w K mg base CX0 8 fa fd ["script"] (spLaw K) := by
  have e := hfa.symm.trans (PySem.W.mg_of X G A13)
  cases e
  have F0 := fun_mk (st := Fk.sAmount) L0 D0 E0
  have F1 := fun_mk (st := Fk.sName) L1 D1 E1
  have F2 := fun_mk (st := Fk.sNames) L2 D2 E2
  have F3 := fun_mk (st := Fk.sNum) L3 D3 E3
  have F4 := fun_mk (st := Fk.sAmounts) L4 D4 E4
  have F5 := fun_mk (st := K10.sPen) L5 D5 E5
  have F6 := fun_mk (st := K10.sDraw) L6 D6 E6
  have F7 := fun_mk (st := K10.sPick) L7 D7 E7
  have F8 := fun_mk (st := K10.sAmount) L8 D8 E8
  have F9 := fun_mk (st := K10.sPlain) L9 D9 E9
  have F10 := fun_mk (st := K10.sTold) L10 D10 E10
  have F11 := fun_mk (st := K10.sLine) L11 D11 E11
  have F12 := fun_mk (st := K10.sIs) L12 D12 E12
  have F13 := fun_mk (st := K10.sLaw) L13 D13 E13
  have b0 := F0.binds (ps := ["value"]) fun _ _ _ _ _ _ us hl => match us, hl with | [_], _ => rfl
  have b1 := F1.binds (ps := ["value"]) fun _ _ _ _ _ _ us hl => match us, hl with | [_], _ => rfl
  have b2 := F2.binds (ps := ["values"]) fun _ _ _ _ _ _ us hl => match us, hl with | [_], _ => rfl
  have b3 := F3.binds (ps := ["number"]) fun _ _ _ _ _ _ us hl => match us, hl with | [_], _ => rfl
  have b4 := F4.binds (ps := ["values"]) fun _ _ _ _ _ _ us hl => match us, hl with | [_], _ => rfl
  have b5 := F5.binds (ps := ["script"]) fun _ _ _ _ _ _ us hl => match us, hl with | [_], _ => rfl
  have b6 := F6.binds (ps := ["pen", "many"]) fun _ _ _ _ _ _ us hl => match us, hl with | [_, _], _ => rfl
  have b7 := F7.binds (ps := ["pen", "some"]) fun _ _ _ _ _ _ us hl => match us, hl with | [_, _], _ => rfl
  have b8 := F8.binds (ps := ["pen"]) fun _ _ _ _ _ _ us hl => match us, hl with | [_], _ => rfl
  have b9 := F9.binds (ps := ["pen"]) fun _ _ _ _ _ _ us hl => match us, hl with | [_], _ => rfl
  have b10 := F10.binds (ps := ["plain"]) fun _ _ _ _ _ _ us hl => match us, hl with | [_], _ => rfl
  have b11 := F11.binds (ps := ["plain"]) fun _ _ _ _ _ _ us hl => match us, hl with | [_], _ => rfl
  have b12 := F12.binds (ps := ["side", "plain"]) fun _ _ _ _ _ _ us hl => match us, hl with | [_, _], _ => rfl
  have b13 := F13.binds (ps := ["script"]) fun _ _ _ _ _ _ us hl => match us, hl with | [_], _ => rfl
  have M0 := fun_mk (st := Fk.meth 0) l0 c0 k0
  have M1 := fun_mk (st := Fk.meth 1) l1 c1 k1
  have d1 := M1.binds (ps := ["cls", "amounts"]) fun _ _ _ _ _ _ us hl => match us, hl with | [_, _], _ => rfl
  have M2 := fun_mk (st := Fk.meth 2) l2 c2 k2
  have d2 := M2.binds (ps := ["self"]) fun _ _ _ _ _ _ us hl => match us, hl with | [_], _ => rfl
  have M3 := fun_mk (st := Fk.meth 3) l3 c3 k3
  have d3 := M3.binds (ps := ["self"]) fun _ _ _ _ _ _ us hl => match us, hl with | [_], _ => rfl
  have M4 := fun_mk (st := Fk.meth 4) l4 c4 k4
  have d4 := M4.binds (ps := ["self", "x"]) fun _ _ _ _ _ _ us hl => match us, hl with | [_, _], _ => rfl
  have M5 := fun_mk (st := Fk.meth 5) l5 c5 k5
  have d5 := M5.binds (ps := ["self", "at"]) fun _ _ _ _ _ _ us hl => match us, hl with | [_, _], _ => rfl
  have M6 := fun_mk (st := Fk.meth 16) l6 c6 k6
  have d6 := M6.binds (ps := ["self", "other"]) fun _ _ _ _ _ _ us hl => match us, hl with | [_, _], _ => rfl
  have M7 := fun_mk (st := Fk.meth 17) l7 c7 k7
  have d7 := M7.binds (ps := ["self", "name", "amount"]) fun _ _ _ _ _ _ us hl => match us, hl with | [_, _, _], _ => rfl
  have M8 := fun_mk (st := Fk.meth 18) l8 c8 k8
  have d8 := M8.binds (ps := ["self"]) fun _ _ _ _ _ _ us hl => match us, hl with | [_], _ => rfl
  have m : ∀ {x : Str} {v : Value}, PySem.W.nsIn K mainGlobals x = some (some v) → mg x = some v := fun h => PySem.W.mg_of X G h
  have z : ∀ {x : Str}, PySem.W.nsIn K mainGlobals x = some none → mg x = none := fun h => PySem.W.mg_none_of X G h
  have FI : FunD K "is_integer" "is_integer" (defArgs Fk.sInteger) (defBody Fk.sInteger) (defScope Fk.sInteger) [.non] [] gI (PySem.W.fnOf "is_integer" "is_integer" (defArgs Fk.sInteger) (defBody Fk.sInteger) (defScope Fk.sInteger) (.ref TI) KVI DcI PmI AnI CdI CtI) := ⟨⟨OcI, OdI, .ref TI, KVI, DcI, PmI, AnI, CdI, CtI, SlI, rfl, LI, DI, .inr ⟨by simp, TI, _, [Value.none], nTI, rfl, TIl, rfl, .cons rfl .nil⟩, .inl rfl⟩, EI⟩
  have bI : Binds K (PySem.W.fnOf "is_integer" "is_integer" (defArgs Fk.sInteger) (defBody Fk.sInteger) (defScope Fk.sInteger) (.ref TI) KVI DcI PmI AnI CdI CtI) ["value", "least"] [] := by
    obtain ⟨ds, rd, bd⟩ := FI.binds1 (ps := ["value", "least"]) 2 1 (by simp) rfl fun T kV doc pm an cdv ct us its hu hi => match us, its, hu, hi with | [_, _], [_], _, _ => ⟨_, rfl, rfl⟩
    cases rd
    exact bd
  have T : Fk.Blt mg := ⟨z z_isinstance, z z_int, z z_bool, z z_str, z z_len⟩
  have T2 : Fk.Blt2 mg := ⟨z z_sorted, z z_tuple, z z_sum⟩
  have T3 : K10.Blt mg := ⟨z z_int, z z_len, z z_abs, z z_list⟩
  have gS := m AC
  have hN : ∀ H, SqT K H aN [.str "none", .str "self"] := fun H => .inr ⟨_, _, _, LN, rfl, rfl, by show 2 ≤ sizeLine; decide, .cons ⟨t1, rfl⟩ (.cons ⟨t2, rfl⟩ .nil)⟩
  have S : SideC K C := ⟨⟨q_pg, q_hd, q_po, q_sa⟩, q_nN, q_nT, q_nA, q_nR⟩
  have SI : SideI K C := ⟨q_ha, q_hn, q_htk, q_hm⟩
  refine ⟨PySem.W.fnOf "law" "law" (defArgs K10.sLaw) (defBody K10.sLaw) (defScope K10.sLaw) .none KV13 Dc13 Pm13 An13 Cd13 Ct13, fun s v => .of_eq rfl, fun base _ _ => ?_⟩
  have okI := ok_integer (P := P) (w := w) (mg := mg) (base := base) FI T
  have okA := Fk.ok_amount (P := P) (w := w) (base := base) F0 okI bI (m AI) EI
  have okN := ok_name (tN := 0) (P := P) (w := w) (base := base) F1 T (m AL) (m AN) hN
  have okNs := Fk.ok_names (P := P) (w := w) (base := base) F2 okN b1 (m A1) E1
  have okNum := ok_num (P := P) (w := w) (base := base) F3 T
  have okAs := ok_amounts (P := P) (w := w) (base := base) F4 okA b0 (m A0) E0
  have mk : Mk K C f0 := ⟨q_mk, a0, n0, q_kp⟩
  have oInit := ok_init (P := P) (w := w) (base := base) M0 S T T2 okNs b2 (m A2) E2 okAs b4 (m A4) E4
  have oOf := Fk.ok_of (P := P) (w := w) (base := base) M1 T (z z_dict) (z z_list) okNs b2 (m A2) E2 okAs b4 (m A4) E4 mk oInit gS
  have oLen := ok_len (P := P) (w := w) (mg := mg) (base := base) M2 S T
  have oIter := ok_iter (P := P) (w := w) (mg := mg) (base := base) M3 S (z z_iter)
  have oHas := ok_hasO (P := P) (w := w) (mg := mg) (base := base) M4 S
  have oItem := ok_item (P := P) (w := w) (base := base) M5 S okN b1 (m A1) E1
  have oEq := ok_eq (P := P) (w := w) (base := base) M6 S SI T gS
  have r : ClX.CRead K C (.type "type") := ⟨q_rd, q_ga⟩
  have cm : ClX.CMet K C (.type "type") "of" pO f1 := ⟨aO, ⟨rO, rcO⟩, i1⟩
  have oWith := ok_with (P := P) (w := w) (base := base) M7 S okNs b2 (m A2) E2 okAs b4 (m A4) E4 oOf d1 r cm gS
  have oStr := ok_str (P := P) (w := w) (base := base) M8 S okNum b3 (m A3) E3
  have kOf : KBinds K (PySem.W.fnOf "of" "Side.of" (defArgs (Fk.meth 1)) (defBody (Fk.meth 1)) (defScope (Fk.meth 1)) .none kV1 dc1 pm1 an1 cd1 ct1) ["cls", "amounts"] ["amounts"] kwA kwA := ⟨fun s us ws X' hl => match us, ws, hl with | [_], [_], _ => .of_eq rfl, fun {vs us zs ws} r1 r2 => by
    cases r1 with
    | nil => exact .nil
    | cons x1 x2 =>
      cases x2 with
      | cons _ _ => cases r2 <;> exact .nil
      | nil =>
        cases r2 with
        | nil => exact .nil
        | cons y1 y2 =>
          cases y2 with
          | cons _ _ => exact .nil
          | nil => exact .cons x1 (.cons y1 .nil)⟩
  have kWith : KBinds K (PySem.W.fnOf "with_amount" "Side.with_amount" (defArgs (Fk.meth 17)) (defBody (Fk.meth 17)) (defScope (Fk.meth 17)) .none kV7 dc7 pm7 an7 cd7 ct7) ["self", "name", "amount"] ["amount", "name"] kwB kwB := ⟨fun s us ws X' hl => match us, ws, hl with | [_], [_, _], _ => .of_eq rfl, fun {vs us zs ws} r1 r2 => by
    cases r1 with
    | nil => exact .nil
    | cons x1 x2 =>
      cases x2 with
      | cons _ _ => cases r2 <;> exact .nil
      | nil =>
        cases r2 with
        | nil => exact .nil
        | cons y1 y2 =>
          cases y2 with
          | nil => exact .nil
          | cons z1 z2 =>
            cases z2 with
            | cons _ _ => exact .nil
            | nil => exact .cons x1 (.cons z1 (.cons y1 .nil))⟩
  have M : SideM P w K mg base C := {
    S := S, SI := SI, gS := gS, fL := f2, dL := _, len := ⟨a2, n2, oLen, d2⟩, fH := f4, dH := _, has := ⟨a4, n4, oHas, d4⟩, fG := f5, dG := _, item := ⟨a5, n5, oItem, d5⟩, itemF := i5,
    fS := f8, dS := _, str := ⟨a8, n8, oStr, d8⟩, fE := f6, dE := _, eq := ⟨a6, n6, oEq, d6⟩, fI := f3, dI := _, itA := a3, itN := n3, it := oIter, itB := d3, noBool := q_nb }
  have L : SideL P w K mg base C := {
    mc := .type "type", r := r, pO := pO, fO := f1, dO := _, c := cm, of := oOf, ofB := d1, ofK := kOf, fW := f7, dW := _, w1 := ⟨a7, n7, k7⟩, wth := oWith, wthB := d7, wthK := kWith, fN := f0, mkC := mk, ini := oInit,
    ne := q_ne, mro := q_hm, sN := q_sN, sS := q_sS, sD := q_sD, kD := of_decide_eq_true q_kD, kS := of_decide_eq_true q_kS, kN := of_decide_eq_true q_kN }
  have dDraw := ok_draw (P := P) (w := w) (base := base) F6 T3
  have dPick := ok_pick (P := P) (w := w) (base := base) F7 T3 dDraw b6 (m A6) E6
  have dAmt := K10.ok_amount (P := P) (w := w) (base := base) F8 dPick b7 (m A7) E7 dDraw b6 (m A6) E6
  have dPlain := ok_plain (P := P) (w := w) (base := base) F9 T3 (z z_range) dDraw b6 (m A6) E6 dAmt b8 (m A8) E8
  have dTold := ok_told (P := P) (w := w) (base := base) F10 (z z_sorted) (z z_str)
  have dLine := ok_line (P := P) (w := w) (base := base) F11 (z z_str) dTold b10 (m A10) E10
  have dIs := ok_is (P := P) (w := w) (base := base) F12 M T (z z_list) (z z_tuple) (z z_sum) dTold b10 (m A10) E10 dLine b11 (m A11) E11
  exact ok_law F13 M L (z z_range) (z z_dict) (z z_list) ⟨_, _, ok_pen F5 T3, b5, m A5, E5⟩ ⟨_, _, dPlain, b9, m A9, E9⟩ ⟨_, _, dIs, b12, m A12, E12⟩ ⟨_, _, dTold, b10, m A10, E10⟩ ⟨_, _, dLine, b11, m A11, E11⟩ ⟨_, _, dPick, b7, m A7, E7⟩ ⟨_, _, dAmt, b8, m A8, E8⟩
theorem walk {l : PySem.W.OpenLaw} {q : Program} {loose : List Str} {XP : (Str → Option Value) → Heap → Prop} {YP : World → Heap → Prop} {d : DefRec} {K : Params → PySem.W.Frag} (hn : l.most = some 63) (hdf : d.params.defaults = [])
    (hY : ∀ (w : World) (h : Heap), YP w h → (K w.params).In h)
    (F : ∀ (w : World) (mg : Str → Option Value) (fa : Addr) (h : Heap), (K w.params).In h → h.Ns mainGlobals mg → mg d.name = some (.ref fa) →
      ∃ fd : FuncData, (∀ (s : Shared) (u : Value), BindsTo s fd ⟨[u], []⟩ [("script", u)]) ∧ ∀ base : Heap, (K w.params).In base → base.Ns mainGlobals mg → FnOk l.prog w (K w.params) mg base CX0 8 fa fd ["script"] (spLaw (K w.params))) :
    PySem.W.WalkO q loose XP YP l.row.toRowW d [] (fun f vs => PySem.call f vs) :=
  walk_of (n := 63) (k := 8) (x := "script") (CX := fun _ => CX0) (sp := fun w => spLaw (K w.params)) hn (by decide) hdf ⟨rfl, by decide, by decide⟩ hY F (fun _ _ a ns hl _ hS => ⟨a, ns, rfl, hS, hl, fun _ => rfl⟩) fun _ _ _ _ _ z => z
end K10

set_option Elab.async false
set_option linter.all false
open PySem PySem.W PyProof.Rows
set_option maxRecDepth 100000 in
set_option maxHeartbeats 0 in
theorem PySem.Challenge.cw_filledrow_k10_sides_made_holds : PySem.Challenge.rw_filledrow_k10_sides_made.Holds := by
  w_on; o_law; k_head; (case hw => w_witness2)
  k_fill
  refine K10.walk (l := PySem.Challenge.rw_filledrow_k10_sides_made) rfl rfl (fun w h Y => PySem.W.kIn_of Y) ?F
  case F =>
    intro w mg fa h KX G hmg
    refine' K10.all_mk KX G hmg ?A0 ?L0 ?D0 ?E0 ?A1 ?L1 ?D1 ?E1 ?A2 ?L2 ?D2 ?E2 ?A3 ?L3 ?D3 ?E3 ?A4 ?L4 ?D4 ?E4 ?A5 ?L5 ?D5 ?E5 ?A6 ?L6 ?D6 ?E6 ?A7 ?L7 ?D7 ?E7 ?A8 ?L8 ?D8 ?E8 ?A9 ?L9 ?D9 ?E9 ?A10 ?L10 ?D10 ?E10 ?A11 ?L11 ?D11 ?E11 ?A12 ?L12 ?D12 ?E12 ?A13 ?L13 ?D13 ?E13 ?AI ?LI ?DI ?EI ?TIl ?AL ?AN ?LN ?AC ?a0 ?l0 ?c0 ?k0 ?n0 ?i0 ?aO ?rcO ?l1 ?c1 ?k1 ?n1 ?i1 ?a2 ?l2 ?c2 ?k2 ?n2 ?i2 ?a3 ?l3 ?c3 ?k3 ?n3 ?i3 ?a4 ?l4 ?c4 ?k4 ?n4 ?i4 ?a5 ?l5 ?c5 ?k5 ?n5 ?i5 ?a6 ?l6 ?c6 ?k6 ?n6 ?i6 ?a7 ?l7 ?c7 ?k7 ?n7 ?i7 ?a8 ?l8 ?c8 ?k8 ?n8 ?i8 ?q_pg ?q_hd ?q_po ?q_sa ?q_nN ?q_nT ?q_nA ?q_nR ?q_ha ?q_hn ?q_htk ?q_hm ?q_mk ?q_kp ?q_rd ?q_ga ?q_ne ?q_nb ?q_sN ?q_sS ?q_sD ?q_kD ?q_kS ?q_kN ?z_isinstance ?z_int ?z_bool ?z_str ?z_len ?z_sorted ?z_tuple ?z_sum ?z_list ?z_dict ?z_range ?z_abs ?z_iter
    (case A0 => k_is)
    (case L0 => k_is)
    (case D0 => k_is)
    (case E0 => k_is)
    (case A1 => k_is)
    (case L1 => k_is)
    (case D1 => k_is)
    (case E1 => k_is)
    (case A2 => k_is)
    (case L2 => k_is)
    (case D2 => k_is)
    (case E2 => k_is)
    (case A3 => k_is)
    (case L3 => k_is)
    (case D3 => k_is)
    (case E3 => k_is)
    (case A4 => k_is)
    (case L4 => k_is)
    (case D4 => k_is)
    (case E4 => k_is)
    (case A5 => k_is)
    (case L5 => k_is)
    (case D5 => k_is)
    (case E5 => k_is)
    (case A6 => k_is)
    (case L6 => k_is)
    (case D6 => k_is)
    (case E6 => k_is)
    (case A7 => k_is)
    (case L7 => k_is)
    (case D7 => k_is)
    (case E7 => k_is)
    (case A8 => k_is)
    (case L8 => k_is)
    (case D8 => k_is)
    (case E8 => k_is)
    (case A9 => k_is)
    (case L9 => k_is)
    (case D9 => k_is)
    (case E9 => k_is)
    (case A10 => k_is)
    (case L10 => k_is)
    (case D10 => k_is)
    (case E10 => k_is)
    (case A11 => k_is)
    (case L11 => k_is)
    (case D11 => k_is)
    (case E11 => k_is)
    (case A12 => k_is)
    (case L12 => k_is)
    (case D12 => k_is)
    (case E12 => k_is)
    (case A13 => k_is)
    (case L13 => k_is)
    (case D13 => k_is)
    (case E13 => k_is)
    (case AI => k_is)
    (case LI => k_is)
    (case DI => k_is)
    (case EI => k_is)
    (case TIl => k_is)
    (case AL => k_is)
    (case AN => k_is)
    (case LN => k_is)
    (case AC => k_is)
    (case a0 => k_is)
    (case l0 => k_is)
    (case c0 => k_is)
    (case k0 => k_is)
    (case n0 => k_is)
    (case i0 => k_is)
    (case aO => k_is)
    (case rcO => k_is)
    (case l1 => k_is)
    (case c1 => k_is)
    (case k1 => k_is)
    (case n1 => k_is)
    (case i1 => k_is)
    (case a2 => k_is)
    (case l2 => k_is)
    (case c2 => k_is)
    (case k2 => k_is)
    (case n2 => k_is)
    (case i2 => k_is)
    (case a3 => k_is)
    (case l3 => k_is)
    (case c3 => k_is)
    (case k3 => k_is)
    (case n3 => k_is)
    (case i3 => k_is)
    (case a4 => k_is)
    (case l4 => k_is)
    (case c4 => k_is)
    (case k4 => k_is)
    (case n4 => k_is)
    (case i4 => k_is)
    (case a5 => k_is)
    (case l5 => k_is)
    (case c5 => k_is)
    (case k5 => k_is)
    (case n5 => k_is)
    (case i5 => k_is)
    (case a6 => k_is)
    (case l6 => k_is)
    (case c6 => k_is)
    (case k6 => k_is)
    (case n6 => k_is)
    (case i6 => k_is)
    (case a7 => k_is)
    (case l7 => k_is)
    (case c7 => k_is)
    (case k7 => k_is)
    (case n7 => k_is)
    (case i7 => k_is)
    (case a8 => k_is)
    (case l8 => k_is)
    (case c8 => k_is)
    (case k8 => k_is)
    (case n8 => k_is)
    (case i8 => k_is)
    (case q_pg => k_is)
    (case q_hd => k_is)
    (case q_po => k_is)
    (case q_sa => k_is)
    (case q_nN => k_is)
    (case q_nT => k_is)
    (case q_nA => k_is)
    (case q_nR => k_is)
    (case q_ha => k_is)
    (case q_hn => k_is)
    (case q_htk => k_is)
    (case q_hm => k_is)
    (case q_mk => k_is)
    (case q_kp => k_is)
    (case q_rd => k_is)
    (case q_ga => k_is)
    (case q_ne => k_is)
    (case q_nb => k_is)
    (case q_sN => k_is)
    (case q_sS => k_is)
    (case q_sD => k_is)
    (case q_kD => kernel_rfl)
    (case q_kS => kernel_rfl)
    (case q_kN => kernel_rfl)
    (case z_isinstance => k_is)
    (case z_int => k_is)
    (case z_bool => k_is)
    (case z_str => k_is)
    (case z_len => k_is)
    (case z_sorted => k_is)
    (case z_tuple => k_is)
    (case z_sum => k_is)
    (case z_list => k_is)
    (case z_dict => k_is)
    (case z_range => k_is)
    (case z_abs => k_is)
    (case z_iter => k_is)

