import PyProof.Rows.All
import Wide.All
import OpenK.AllK
import Wide.FinOn
import HandS.ForMost
import HandS.SlotsOwn
import HandS.Gcd
import KE.KOpsOwn
import KE.KCallOwn
import HandS.OwnEq
import PyProof.FactsAll.int_1
import PyProof.FactsAll.int_3
import PyProof.FactsAll.int_5
import PyProof.FactsAll.object_2
import PyProof.InstEq
import HandS.Text
import HandS.Exc
import HandS.Defaults
import HandS.MakeKwOnly
import HandS.MakeKw
import HandS.Property
import HandS.ClsMeth
import HandS.RaiseMore
import HandS.FStr
import HandS.WideBits
import HandS.IsInst
import HandS.Head2
import HandS.HeadEnd
import HandS.HeadHook2
import HandS.Style
import HandS.Head3
import PySem.Challenge.RW_producttables_k11_ratios_reckoned
set_option Elab.async false
set_option linter.all false
set_option maxRecDepth 100000
set_option maxHeartbeats 2000000
namespace Own
open PySem PySem.Spec PyProof.Rows L2

/-- what an operator's def of the class wants: both operands, the promise -/
structure Num (K : PySem.W.Frag) (C : Addr) (nm : String) (g : Addr) : Prop where
  sf : PySem.W.selfFirst K C = true
  fnd : PySem.W.findIn K (.ref C) (PySem.dunder nm) = some (some (.ref g))
  isf : PySem.W.isFn K (.ref g) = true
structure NumR (K : PySem.W.Frag) (C : Addr) (nm : String) (rc : Option Value) : Prop where
  fnd : PySem.W.findIn K (.ref C) (dunderR nm) = some rc
  ok : rc = none ∨ ∃ g : Addr, rc = some (.ref g)
/-- of the built-in type T -/
structure NumT (K : PySem.W.Frag) (C : Addr) (T nm : String) : Prop where
  l : ∃ fo, PySem.W.findIn K (.type T) (PySem.dunder nm) = some fo
  r : ∃ ro, PySem.W.findIn K (.type T) (dunderR nm) = some ro
  sub : PySem.W.subIn K (.type T) (.ref C) = some false

section
variable {X : Cx} {CX : CXT} {n : Nat} {C g : Addr} {sp : Sp} {E : XK}

/-- x op y, both instances of the class at C -/
def rBoth (C : Addr) (sp : Sp) (E : XK) : R2 := fun x y H Q => ∃ a dx fs b dy gs, x = .ref a ∧ y = .ref b ∧ H a = some (.ins C dx fs) ∧ H b = some (.ins C dy gs) ∧ sp [x, y] H Q E
theorem op_both {op : Operator} (k : Num X.K C op.info.2 g) (F : FnR X.prog X.w X.K X.mg X.base CX n g sp) (hr : Room n X.A) (hx : Passes CX X E) : OpR X (binaryOp op) (rBoth C sp E) := by
  intro pins s σ H x y v u Q I rx ry h
  obtain ⟨a, dx, fs, b, dy, gs, rfl, rfl, ha, hb, q⟩ := h
  cases (show v = Value.ref a from rx)
  cases (show u = Value.ref b from ry)
  obtain ⟨mA, O, _⟩ := ins_get I.hok ha
  obtain ⟨od, J, _⟩ := O.look
  obtain ⟨mB, O', _⟩ := ins_get I.hok hb
  obtain ⟨od', J', _⟩ := O'.look
  obtain ⟨m, hF⟩ := I.fr
  refine PySem.W.binop_K hF I.ok.mod.kin J J'.type k.sf k.fnd k.isf ?_
  refine wpAny_mono (wpAny_call (run_fnR (us := [.ref a, .ref b]) (vs := [.ref a, .ref b]) F hr hx I (.cons rfl (.cons rfl .nil)) q)) (fun w s' z => ?_) fun _ _ x => x
  obtain ⟨z', H', I', rz, qz⟩ := z
  exact SlX.cmpback rz ⟨z', H', I', rz, qz⟩

/-- x op y, x an instance, y a whole number -/
def rLeft (C : Addr) (sp : Sp) (E : XK) : R2 := fun x y H Q => ∃ a dx fs i, x = .ref a ∧ y = .int i ∧ H a = some (.ins C dx fs) ∧ sp [x, y] H Q E
theorem op_left {op : Operator} {rc : Option Value} (k : Num X.K C op.info.2 g) (k2 : NumR X.K C op.info.2 rc) (k3 : NumT X.K C "int" op.info.2) (F : FnR X.prog X.w X.K X.mg X.base CX n g sp) (hr : Room n X.A) (hx : Passes CX X E) : OpR X (binaryOp op) (rLeft C sp E) := by
  intro pins s σ H x y v u Q I rx ry h
  obtain ⟨a, dx, fs, i, rfl, rfl, ha, q⟩ := h
  cases (show v = Value.ref a from rx)
  obtain ⟨t, rfl⟩ := (show ∃ t, u = Value.int i t from ry)
  obtain ⟨mA, O, _⟩ := ins_get I.hok ha
  obtain ⟨od, J, _⟩ := O.look
  obtain ⟨m, hF⟩ := I.fr
  obtain ⟨fo, h1⟩ := k3.l
  obtain ⟨ro, h2⟩ := k3.r
  refine PySem.W.ksp_binT (T := "int") hF I.ok.mod.kin J rfl k.sf k.fnd k.isf k2.fnd k2.ok h1 h2 k3.sub ?_
  refine wpAny_mono (wpAny_call (run_fnR (us := [.ref a, .int i t]) (vs := [.ref a, .int i]) F hr hx I (.cons rfl (.cons ⟨t, rfl⟩ .nil)) q)) (fun w s' z => ?_) fun _ _ x => x
  obtain ⟨z', H', I', rz, qz⟩ := z
  exact SlX.cmpback rz ⟨z', H', I', rz, qz⟩
/-- -x -/
def rNeg (C : Addr) (sp : Sp) (E : XK) : V → Hp → VK → Prop := fun x H Q => ∃ a dx fs, x = .ref a ∧ H a = some (.ins C dx fs) ∧ sp [x] H Q E
theorem un_own (k : PySem.W.findIn X.K (.ref C) "__neg__" = some (some (.ref g))) (kf : PySem.W.isFn X.K (.ref g) = true) (F : FnR X.prog X.w X.K X.mg X.base CX n g sp) (hr : Room n X.A) (hx : Passes CX X E) : UnR X (unaryOp .USub) (rNeg C sp E) := by
  intro pins s σ H x v Q I rx h
  obtain ⟨a, dx, fs, rfl, ha, q⟩ := h
  cases (show v = Value.ref a from rx)
  obtain ⟨mA, O, _⟩ := ins_get I.hok ha
  obtain ⟨od, J, _⟩ := O.look
  obtain ⟨m, hF⟩ := I.fr
  refine PySem.W.ksp_neg hF I.ok.mod.kin J k kf ?_
  exact wpAny_call (run_fnR (us := [.ref a]) (vs := [.ref a]) F hr hx I (.cons rfl .nil) q)
/-- x == y and its kin: x an instance, y an instance of the same class or of a built-in type -/
inductive Rt (C : Addr) (H : Hp) : V → Value → Prop where
  | ins {b dy : Addr} {gs : List (Str × V)} (h : H b = some (.ins C dy gs)) : Rt C H (.ref b) (.ref C)
  | int (i : Int) : Rt C H (.int i) (.type "int")
def rEq (C : Addr) (sp : Sp) (E : XK) : R2 := fun x y H Q => ∃ a dx fs t, x = .ref a ∧ H a = some (.ins C dx fs) ∧ Rt C H y t ∧ sp [x, y] H Q E
theorem op_cmp {op : CmpOp} (hop : ∀ a b, compareOp op a b = richCompare op a b) (h0 : PySem.W.notFirst X.K C (.ref C) = true) (h1 : PySem.W.notFirst X.K C (.type "int") = true) (hs : PySem.W.findIn X.K (.ref C) (cmpInfo op).2.1 = some (some (.ref g))) (hf : PySem.W.isFn X.K (.ref g) = true)
    (F : FnR X.prog X.w X.K X.mg X.base CX n g sp) (hr : Room n X.A) (hx : Passes CX X E) : OpR X (compareOp op) (rEq C sp E) := by
  intro pins s σ H x y v u Q I rx ry h
  obtain ⟨a, dx, fs, t, rfl, ha, hy, q⟩ := h
  cases (show v = Value.ref a from rx)
  obtain ⟨mA, O, _⟩ := ins_get I.hok ha
  obtain ⟨od, J, _⟩ := O.look
  obtain ⟨m, hF⟩ := I.fr
  rw [hop]
  have fin : ∀ (tb : Value), PySem.W.Looks (model X.prog X.w) s.heap (typeOf u) tb → PySem.W.notFirst X.K C tb = true → wpAny (model X.prog X.w) X.A (richCompare op (.ref a) u) (EP X pins σ Q) X.xe s := by
    intro tb hb hn
    refine PySem.W.cmp_K (op := op) (tb := tb) hr.units0 hF I.ok.mod.kin J hb hn hs hf ?_
    refine wpAny_mono (wpAny_call (run_fnR (us := [.ref a, u]) (vs := [.ref a, y]) F hr hx I (.cons rfl (.cons ry .nil)) q)) (fun w s' z => ?_) fun _ _ x => x
    obtain ⟨z', H', I', rz, qz⟩ := z
    exact SlX.cmpback rz ⟨z', H', I', rz, qz⟩
  cases hy with
  | ins hb =>
    rename_i b dy gs
    cases (show u = Value.ref b from ry)
    obtain ⟨mB, O', _⟩ := ins_get I.hok hb
    obtain ⟨od', J', _⟩ := O'.look
    exact fin (.ref C) J'.type h0
  | int i =>
    obtain ⟨t, rfl⟩ := (show ∃ t, u = Value.int i t from ry)
    exact fin (.type "int") (PySem.W.Looks.of_pure rfl) h1
end
end Own

set_option Elab.async false
set_option linter.all false
set_option maxRecDepth 100000
set_option maxHeartbeats 2000000
namespace Own
open PySem PySem.Spec PyProof.Rows L2
section
variable {prog : Program} {w : World} {A : Around} {E : Value → Shared → Prop} {s : Shared} {K : PySem.W.Frag} {x C g : Addr} {ox od : Obj}

/-- the built-in whole numbers decline an object of one's own -/
theorem int_no {nm : String} {f : Int → Int → Sem PySem.Fin} {name : Str} {id : String} {i : Int} {t : Tok} {Q : Value → Shared → Prop} (J : PySem.W.InstAt s.heap x ox C (some od)) (hd : ox.data = .plain) (slot : Slot "int" name id)
    (entry : entryFor table id = some (Builtin.Int.intBinary nm f)) (args : argsOk id ⟨[.int i t, .ref x], []⟩) (h : ∀ tk, Q .notImplemented { s with toks := tk }) : wpAny (model prog w) A (call (.builtin id) [.int i t, .ref x]) Q E s := by
  refine GQ.call_here slot (by exact typeIs_int _ _ _) entry args ?_
  have ld := J.at_
  obtain ⟨hp, g', d, tk, os⟩ := s
  show wpAny _ _ (Builtin.Int.intBinary nm f false ⟨[.int i t, .ref x], []⟩) _ _ _
  unfold Builtin.Int.intBinary Builtin.Int.intOfSelf slotArgs asInt?
  wp_walk
  rw [hd]
  wp_walk
  exact h _
/-- i op x, x an instance -/
theorem int_op {op : Operator} {nm : String} {f : Int → Int → Sem PySem.Fin} {id : String} {i : Int} {t : Tok} {Q : Value → Shared → Prop} (X : K.In s.heap) (J : PySem.W.InstAt s.heap x ox C (some od)) (hd : ox.data = .plain) (sf : PySem.W.selfFirst K C = true) {gl : Addr}
    (h1 : PySem.W.findIn K (.ref C) (PySem.dunder op.info.2) = some (some (.ref gl))) (h2 : PySem.W.findIn K (.ref C) (dunderR op.info.2) = some (some (.ref g))) (hf : PySem.W.isFn K (.ref g) = true) (hs : PySem.W.subIn K (.ref C) (.type "int") = some false)
    (fills : fillsNumberSlot (.type "int") op.info.2 = pure true) (slot : Slot "int" (PySem.dunder op.info.2) id) (entry : entryFor table id = some (Builtin.Int.intBinary nm f)) (args : argsOk id ⟨[.int i t, .ref x], []⟩)
    (h : ∀ tk, wpAny (model prog w) A (call (.ref g) [.ref x, .int i t]) (PySem.W.CmpBack Q) E { s with toks := tk }) : wpAny (model prog w) A (binaryOp op (.int i t) (.ref x)) Q E s := by
  obtain ⟨cd, rest, hcd, hm⟩ := PySem.W.ksp_first sf
  rcases hi : op.info with ⟨sym, nm'⟩
  rw [hi] at h1 h2 fills slot
  dsimp only at h1 h2 fills slot
  have L2 : PySem.W.Looks (model prog w) s.heap (typeOf (.ref x)) (.ref C) := J.type
  have L4 : PySem.W.Looks (model prog w) s.heap (fillsNumberSlot (.ref C) nm') true := PySem.W.fills_K X hcd hm h1
  have L5 : PySem.W.Looks (model prog w) s.heap (isSubtype (.ref C) (.type "int")) false := PySem.W.looks_subIn X hs
  have hne : (Value.type "int" == Value.ref C) = false := Bool.eq_false_iff.mpr fun q => by cases beq_iff_eq.mp q
  simp only [binaryOp, hi]
  refine wpAny_holding (wpAny_bind ?_)
  unfold binaryOp1
  refine wpAny_bind (wpAny_typeOf (typeIs_int _ _ _) (wpAny_bind (L2.here (wpAny_bind (wpAny_of_eq fills ?_)))))
  simp only [hne, Bool.false_eq_true, if_false]
  refine wpAny_bind (L4.here ?_)
  simp only [Bool.and_self, if_true]
  refine wpAny_bind (L5.here ?_)
  have hpy : numberSlotInPython (.type "int") nm' = pure false := rfl
  simp only [Bool.false_eq_true, if_false, pure_bind, Bool.not_false, Bool.and_self, if_true, hpy]
  refine wpAny_bind (wpAny_tryMethod_declines (typeIs_int _ _ _) slot (int_no (Q := fun v s' => v = .notImplemented ∧ _) J hd slot entry args fun tk => ⟨rfl, ?_⟩))
  refine wpAny_bind (wpAny_mono (PySem.W.ksp_try (Q := Q) X J h2 hf (h tk)) (fun r s' hr => ?_) fun _ _ e => e)
  obtain ⟨v, rfl, hq⟩ := hr
  exact wpAny_bind (wpAny_rule (wpAny_pure (wpAny_pure hq)))
/-- i == x, x an instance -/
theorem int_eq {i : Int} {t : Tok} {Q : Value → Shared → Prop} (hu : A.units < cLine) (X : K.In s.heap) (J : PySem.W.InstAt s.heap x ox C (some od)) (hd : ox.data = .plain)
    (h2 : PySem.W.findIn K (.ref C) "__eq__" = some (some (.ref g))) (hf : PySem.W.isFn K (.ref g) = true) (hs : PySem.W.subIn K (.ref C) (.type "int") = some false)
    (h : ∀ tk, wpAny (model prog w) A (call (.ref g) [.ref x, .int i t]) (PySem.W.CmpBack Q) E { s with toks := tk }) : wpAny (model prog w) A (richCompare .Eq (.int i t) (.ref x)) Q E s := by
  have L2 : PySem.W.Looks (model prog w) s.heap (typeOf (.ref x)) (.ref C) := J.type
  have L5 : PySem.W.Looks (model prog w) s.heap (isSubtype (.ref C) (.type "int")) false := PySem.W.looks_subIn X hs
  have hne : (Value.type "int" != Value.ref C) = true := by
    rw [bne, Bool.not_eq_true']
    exact Bool.eq_false_iff.mpr fun q => by cases beq_iff_eq.mp q
  unfold richCompare
  refine wpAny_holding (wpAny_bind (wpAny_cRoomFor hu ?_))
  have h1 : oneThing? .Eq (.int i t) (.ref x) = none := by first | rfl | simp [oneThing?]
  simp only [h1]
  refine wpAny_bind (wpAny_typeOf (typeIs_int _ _ _) (wpAny_bind (L2.here ?_)))
  simp only [hne, if_true]
  refine wpAny_bind (L5.here ?_)
  simp only [Bool.false_eq_true, if_false]
  refine wpAny_bind (wpAny_tryCompare_declines (typeIs_int _ _ _) F.slot_int_eq (int_no (Q := fun v s' => v = .notImplemented ∧ _) J hd F.slot_int_eq F.entry_int_eq (F.args_int_eq_2 _ _) fun tk => ⟨rfl, ?_⟩))
  simp only [Bool.not_false, if_true]
  have one : wpAny (model prog w) A (tryCompare (.ref x) "__eq__" (.int i t)) (fun r s' => ∃ v, r = some v ∧ Q v s') E { s with toks := tk } := by
    unfold tryCompare
    refine wpAny_bind (PySem.W.ifBound_K X J h2 hf (wpAny_mono (h tk) (fun v s' hv => ?_) fun _ _ e => e))
    cases v <;> first | exact hv.elim | exact wpAny_pure ⟨_, rfl, hv⟩
  refine wpAny_bind (wpAny_mono one (fun r s' z => ?_) fun _ _ e => e)
  obtain ⟨v, rfl, hq⟩ := z
  exact wpAny_pure hq
/-- a built-in slot as it is bound -/
theorem ifBound_B {M : Model} {name : Str} {id : String} {args : List Value} {Q : Option Value → Shared → Prop} (X : K.In s.heap) (J : PySem.W.InstAt s.heap x ox C (some od)) (hs : PySem.W.findIn K (.ref C) name = some (some (.builtin id)))
    (hb : ∀ self, bindSpecial (.builtin id) self = pure (.builtin id, [self])) (h : wpAny M A (call (.builtin id) (.ref x :: args)) (fun v => Q (some v)) E s) : wpAny M A (callSpecialIfBound? (.ref x) name args) Q E s := by
  simp only [callSpecialIfBound?, bindSpecialIfBound?]
  refine wpAny_holding (wpAny_bind (wpAny_bind (wpAny_bind (J.type.here ((PySem.W.looks_findIn X hs).here ?_)))))
  refine wpAny_bind (wpAny_askSetting (wpAny_ite ?_))
  have fin : wpAny M A (call (.builtin id) ([.ref x] ++ args) >>= fun v => pure (some v)) Q E s := wpAny_bind (wpAny_mono h (fun v s' h' => wpAny_pure h') fun _ _ h' => h')
  split
  · exact wpAny_bind ((PySem.W.Looks.of_pure (hb _)).here (wpAny_pure (by exact fin)))
  · exact wpAny_tryCatch (wpAny_bind ((PySem.W.Looks.of_pure (hb _)).here (wpAny_pure (by exact fin))))
/-- x != y, both instances of C, whose class says == and leaves != to object -/
theorem own_ne {y : Addr} {oy ody : Obj} {Q : Value → Shared → Prop} (hu : A.units + 1 < cLine) (X : K.In s.heap) (J : PySem.W.InstAt s.heap x ox C (some od)) (J' : PySem.W.InstAt s.heap y oy C (some ody))
    (h1 : PySem.W.findIn K (.ref C) "__ne__" = some (some (.builtin "object.__ne__"))) (hm : PySem.W.mroIn K C (.type "object") = some true) (h2 : PySem.W.findIn K (.ref C) "__eq__" = some (some (.ref g))) (hf : PySem.W.isFn K (.ref g) = true)
    (h : wpAny (model prog w) A.in1 (call (.ref g) [.ref x, .ref y]) (fun v s' => ∃ b, v = .bool b ∧ Q (.bool (!b)) s') E s) : wpAny (model prog w) A (richCompare .NotEq (.ref x) (.ref y)) Q E s := by
  have hne : (Value.ref C != Value.ref C) = false := by simp
  unfold richCompare
  simp only [oneThing_ref]
  refine wpAny_holding (wpAny_bind (wpAny_cRoomFor (Nat.lt_of_succ_lt hu) ?_))
  refine wpAny_bind (J.type.here (wpAny_bind (J'.type.here ?_)))
  simp only [hne, Bool.false_eq_true, if_false]
  refine wpAny_bind (wpAny_pure ?_)
  simp only [Bool.false_eq_true, if_false]
  have one : wpAny (model prog w) A (tryCompare (.ref x) "__ne__" (.ref y)) (fun r s' => ∃ v, r = some v ∧ Q v s') E s := by
    unfold tryCompare
    refine wpAny_bind (ifBound_B X J h1 (fun self => PySem.F.slot_object_ne.bind self) (wpAny_call (codeAny_call_builtin PySem.F.slot_object_ne.plain PySem.F.cmpEntry_ne
      (PySem.W.check_slot (i := "object.__ne__") (owner := "object") (n := "__ne__") (by decide +kernel) (by decide +kernel) (J.type.andThen (PySem.W.looks_mroIn X hm)) (F.cmpArgs_ne _ _) ?_))))
    unfold Builtin.«object.__ne__»
    refine wpAny_bind (m := slotArgs "__ne__" 1 _) (wpAny_pure ?_)
    dsimp only
    refine wpAny_bind (m := cRoomFor _ _) (wpAny_cRoomFor hu ?_)
    refine wpAny_bind (m := callSpecialIfBound? (.ref x) (Str.ofString "__eq__") _) (PySem.W.ifBound_K X J h2 hf (wpAny_mono h (fun r s' hq => ?_) fun _ _ y => y))
    obtain ⟨b, rfl, hq⟩ := hq
    refine wpAny_bind (m := truthy (.bool b)) (wpAny_truthy_bool ?_)
    exact wpAny_pure (wpAny_pure ⟨_, rfl, hq⟩)
  refine wpAny_bind (wpAny_mono one (fun r s' z => ?_) fun _ _ e => e)
  obtain ⟨v, rfl, hq⟩ := z
  exact wpAny_pure hq
end
end Own

set_option Elab.async false
set_option linter.all false
set_option maxRecDepth 100000
set_option maxHeartbeats 2000000
namespace Own
open PySem PySem.Spec PyProof.Rows L2

/-- the promise of a def that is called while nothing is being told (no text of a list is under way) -/
structure FG (P : Program) (w : World) (K : PySem.W.Frag) (mg : Str → Option Value) (base : Heap)
    (CX : CXT) (k : Nat) (f : Addr) (fd : FuncData) (ps : List Str) (sp : Sp) : Prop where
  len : ∀ vs H Q E, sp vs H Q E → vs.length = ps.length
  run : ∀ (A : Around) (outer : List Env) (s : Shared) (H : Hp) (args : Args) (us : List Value) (vs : List V) (Q : VK) (E : XK),
    A.guards = some [] → Room k A → Env0 P w K mg base A outer s H → BindsTo s fd args (ps.zip us) → Vals vs us →
    sp vs H Q E → codeAny (model P w) A (.call (.ref f) args) (CR CX outer P w H s Q E) s
theorem FG.mono {P : Program} {w : World} {K : PySem.W.Frag} {mg : Str → Option Value} {base : Heap} {CX : CXT} {j k : Nat} {f : Addr} {fd : FuncData} {ps : List Str} {sp : Sp}
    (F : FG P w K mg base CX j f fd ps sp) (h : j ≤ k) : FG P w K mg base CX k f fd ps sp :=
  ⟨F.len, fun A outer s H args us vs Q E g hr => F.run A outer s H args us vs Q E g (hr.mono h)⟩
theorem FG.imp {P : Program} {w : World} {K : PySem.W.Frag} {mg : Str → Option Value} {base : Heap} {CX : CXT} {k : Nat} {f : Addr} {fd : FuncData} {ps : List Str} {sp sp2 : Sp}
    (F : FG P w K mg base CX k f fd ps sp) (h : ∀ vs H Q E, sp2 vs H Q E → sp vs H Q E) : FG P w K mg base CX k f fd ps sp2 :=
  ⟨fun vs H Q E q => F.len vs H Q E (h _ _ _ _ q),
    fun A outer s H args us vs Q E g hr he hb hv hs => F.run A outer s H args us vs Q E g hr he hb hv (h _ _ _ _ hs)⟩
theorem FG.of {P : Program} {w : World} {K : PySem.W.Frag} {mg : Str → Option Value} {base : Heap} {CX : CXT} {k : Nat} {f : Addr} {fd : FuncData} {ps : List Str} {sp : Sp}
    (F : FnOk P w K mg base CX k f fd ps sp) : FG P w K mg base CX k f fd ps sp := ⟨F.len, fun A outer s H args us vs Q E _ => F.run A outer s H args us vs Q E⟩

/-- a def by its body -/
theorem fg_of {CX : CXT} {P : Program} {w : World} {K : PySem.W.Frag} {mg : Str → Option Value} {base : Heap} {k : Nat} {f : Addr}
    {name qual : Str} {params : Arguments} {body : List Stmt} {scope : Scope} {dvs : List V} {kws : List (Str × V)} {fd : FuncData} {N ps : List Str} {sp : Sp}
    (F : FunD K name qual params body scope dvs kws f fd) (S : FnScope N ps scope)
    (len : ∀ vs H Q E, sp vs H Q E → vs.length = ps.length)
    (hb : ∀ (cdv : Value) (A : Around) (outer : List Env) (s : Shared) (H : Hp) (vs : List V) (Q : VK) (E : XK),
      (A.deeper (envOfC qual scope s.heap.objs.size f cdv)).guards = some [] →
      Room k (A.deeper (envOfC qual scope s.heap.objs.size f cdv)) → sp vs H Q E →
      ∃ t, PSs (cxOf CX P w K mg base N qual scope f cdv A outer s H E) body t ∧ t { nx := fun _ H2 => Q .non H2, rt := Q } (start N vs) H) :
    FG P w K mg base CX (k + 1) f fd ps sp := by
  obtain ⟨oc, od, dV, kV, doc, pm, an, cdv, ct, osl, rfl, look, code, _, _⟩ := F.ex
  refine ⟨len, fun A outer s H args us vs Q E hg hr e0 bd rv prom => ?_⟩
  have stand : ∀ b o, base.get? b = some o → s.heap.get? b = some o := fun b o e => (e0.bs b o e).1
  have inK : K.In s.heap := e0.mod.kin.keeps stand
  have nolim : s.heap.NoLimit := e0.mod.nolimit.keeps stand
  refine codeAny_call_function hr.depth (inK _ _ look) rfl S.co S.gen rfl
    (PySem.W.codeRec_of inK code) (bd _ _ _ _ ?_)
  have kinds : ∀ y ∈ ps.zip us, scope.names.lookup y.1 = some .local ∨
      (scope.names.lookup y.1 = some .cell ∧ ((cellsFrom (s.heap.objs.size + 1) scope.names []).lookup y.1).isSome = true) := by
    rintro ⟨n, v⟩ hy
    rcases S.par n (List.of_mem_zip hy).1 with z | z
    · exact Or.inl z
    · exact Or.inr ⟨z, PySem.W.cellsFrom_some _ _ _ (Or.inl z)⟩
  refine wpAny_newFunctionEnv_cells S.kind kinds fun env same s1 inn => ?_
  subst same
  refine ⟨nolim.keeps inn.toInCall.keep, codeAny_func ?_⟩
  obtain ⟨t, ht, hq⟩ := hb cdv A outer s H vs Q E hg (hr.deeper _) prom
  have I0 := inv_start (CX := CX) (E := E) S hr.hd e0 (len _ _ _ _ prom) rv inn
  refine wpAny_mono (ht.run [] s1 (start N vs) H _ I0 hq) (fun fl s2 z => ?_) fun e s2 z => z
  have out : ∀ {σ2 : L2.St} {H2 : Hp} {v : V} {u : Value},
      Inv (cxOf CX P w K mg base N qual scope f cdv A outer s H E) [] σ2 H2 s2 → L2.RelV v u → Q v H2 → CE outer P w H s Q u s2 := by
    intro σ2 H2 v u J r q
    exact ⟨v, H2, J.os, J.bare, J.base, J.hok, r, q⟩
  cases fl with
  | ret u =>
    obtain ⟨v, σ2, H2, J, r, q⟩ := z
    exact out J r q
  | next =>
    obtain ⟨σ2, H2, J, q⟩ := z
    exact out (v := .non) (u := .none) J rfl q
  | brk => exact z.choose_spec.choose_spec.2.elim
  | cont => exact z.choose_spec.choose_spec.2.elim

/-- a def by its body, where no exception leaves it -/
theorem fg_no {CX : CXT} {P : Program} {w : World} {K : PySem.W.Frag} {mg : Str → Option Value} {base : Heap} {k : Nat} {f : Addr}
    {name qual : Str} {params : Arguments} {body : List Stmt} {scope : Scope} {dvs : List V} {kws : List (Str × V)} {fd : FuncData} {N ps : List Str} {sp : Sp}
    (F : FunD K name qual params body scope dvs kws f fd) (S : FnScope N ps scope)
    (len : ∀ vs H Q E, sp vs H Q E → vs.length = ps.length)
    (hb : ∀ (cdv : Value) (A : Around) (outer : List Env) (s : Shared) (H : Hp) (vs : List V) (Q : VK) (E : XK),
      (A.deeper (envOfC qual scope s.heap.objs.size f cdv)).guards = some [] →
      Room k (A.deeper (envOfC qual scope s.heap.objs.size f cdv)) → sp vs H Q E →
      ∃ t, PSs (cxOf CX P w K mg base N qual scope f cdv A outer s H E).nox body t ∧ t { nx := fun _ H2 => Q .non H2, rt := Q } (start N vs) H) :
    FG P w K mg base CX (k + 1) f fd ps sp :=
  fg_of F S len fun cdv A outer s H vs Q E g hr h =>
    let ⟨t, p, q⟩ := hb cdv A outer s H vs Q E g hr h
    ⟨t, p.nox, q⟩

section
variable {X : Cx} {CX : CXT} {k n : Nat} {f C : Addr} {fd : FuncData} {ps ks : List Str} {sp : Sp} {dvs : List V} {ds : List Value} {E : XK}
  {x m : Str} {p pos apos : Pos} {e o : Expr} {es : List Expr} {kws : List Keyword} {ta : TE} {t tk : TA}
  {g : List Value → List Value → List Value} {gV : List V → List V → List V}
  {pins : List (Addr × Obj)} {σ : L2.St} {H : Hp} {s : Shared} {Q : VK} {us ws : List Value} {vs zs : List V}

/-- the end of a call's code -/
def Bk (X : Cx) (pins : List (Addr × Obj)) (σ : L2.St) (Q : VK) : Result → Shared → Prop := fun r s2 => match r with
  | .ok (.ret v) => EP X pins σ Q v s2
  | .ok _ => False
  | .error er => X.xe er s2
theorem bk_of (hx : Passes CX X E) (I : Inv X pins σ H s) {r : Result} {s2 : Shared} (z : CR CX X.stack X.prog X.w H s Q E r s2) : Bk X pins σ Q r s2 := by
  cases r with
  | error er => exact hx pins σ H s er s2 I z
  | ok fl =>
    cases fl with
    | ret u => exact I.after z
    | next => exact z
    | brk => exact z
    | cont => exact z
/-- the callee runs, its arguments bound anyhow -/
theorem run_g {args : Args} (F : FG X.prog X.w X.K X.mg X.base CX k f fd ps sp) (hg : X.A.guards = some []) (hr : Room k X.A) (hx : Passes CX X E)
    (I : Inv X pins σ H s) (bd : BindsTo s fd args (ps.zip us)) (rv : Vals vs us) (h : sp vs H Q E) :
    codeAny (model X.prog X.w) X.A (.call (.ref f) args) (Bk X pins σ Q) s :=
  codeAny_mono (F.run X.A X.stack s H args us vs Q E hg hr I.env0 bd rv h) fun r s2 z => bk_of hx I z
theorem run_gp (F : FG X.prog X.w X.K X.mg X.base CX k f fd ps sp) (hg : X.A.guards = some []) (hr : Room k X.A) (hb : Binds X.K fd ps ds) (hd : Vals dvs ds) (hx : Passes CX X E)
    (I : Inv X pins σ H s) (rv : Vals vs us) (h : sp (vs ++ dvs) H Q E) :
    codeAny (model X.prog X.w) X.A (.call (.ref f) ⟨us, []⟩) (Bk X pins σ Q) s := by
  have r2 := rv.append hd
  exact run_g F hg hr hx I (hb s us I.kIn (by rw [← r2.length]; exact F.len _ _ _ _ h)) r2 h
theorem run_gk (F : FG X.prog X.w X.K X.mg X.base CX k f fd ps sp) (hg : X.A.guards = some []) (hr : Room k X.A) (hb : KBn X.K fd ps n ks g gV) (hx : Passes CX X E)
    (I : Inv X pins σ H s) (rv : Vals vs us) (rz : Vals zs ws) (l1 : vs.length = n) (l2 : zs.length = ks.length) (h : sp (gV vs zs) H Q E) :
    codeAny (model X.prog X.w) X.A (.call (.ref f) ⟨us, ks.zip ws⟩) (Bk X pins σ Q) s :=
  run_g F hg hr hx I (hb.to s us ws I.kIn (rv.length.symm.trans l1) (rz.length.symm.trans l2)) (hb.rel rv rz) h
end
end Own

set_option Elab.async false
set_option linter.all false
set_option maxRecDepth 100000
set_option maxHeartbeats 2000000
namespace Own
open PySem PySem.Spec PyProof.Rows L2

theorem under_make_guards {A : Around} {C : Addr} {us : List Value} {kw : List (Str × Value)} (h : A.guards = some []) :
    (A.under (.builtin "type.__call__" ⟨.ref C :: us, kw⟩)).guards = some [] := by
  simp [Around.under, Code.guards, Code.isGuard, pushGuards, guardIds, h]

section
variable {X : Cx} {CX : CXT} {k n : Nat} {f C : Addr} {fd : FuncData} {ps ks : List Str} {sp : Sp} {dvs : List V} {ds : List Value} {E : XK}
  {x m : Str} {p pos apos : Pos} {e o : Expr} {es : List Expr} {kws : List Keyword} {ta : TE} {t tk : TA}
  {g : List Value → List Value → List Value} {gV : List V → List V → List V}
  {pins : List (Addr × Obj)} {σ : L2.St} {H : Hp} {s : Shared} {Q : VK} {us ws : List Value} {vs zs : List V}

/-- f(e, ..) -/
theorem pe_fn (F : FG X.prog X.w X.K X.mg X.base CX k f fd ps sp) (gg : X.A.guards = some []) (hr : Room k X.A) (hg : Gl X x)
    (hm : X.mg x = some (.ref f)) (hk : PySem.W.keepIn X.K (.ref f) = true) (hb : Binds X.K fd ps ds) (hd : Vals dvs ds) (hx : Passes CX X E)
    (ha : PA X (e :: es) t) (hdb : (x == ("__debug__" : Str)) = false := by decide)
    (he : starEach (e :: es) X.env = (false, eval e X.env) :: starEach es X.env := by rfl)
    (hpl : (backTo pos (starEach es X.env)).any (·.1) = false := by rfl) :
    PE X (.Call (.Name x p) (e :: es) [] pos) (tCall sp dvs E t) := by
  constructor
  intro pins s σ H Q I h
  refine wpAny_Call_Name_kw (ld_glob I hg hm ?_ hdb)
  refine PySem.W.callWith_K (h₀ := X.base) I.ok.mod.kin hk (thn (ha.run pos pins s σ H _ I h) ?_) he hpl
  rintro us s1 ⟨vs, H1, J, r, q⟩
  exact ⟨J.kIn, wpAny_call (run_gp F gg hr hb hd hx J r q)⟩
/-- f() -/
theorem pe_fn0 (F : FG X.prog X.w X.K X.mg X.base CX k f fd ps sp) (gg : X.A.guards = some []) (hr : Room k X.A) (hg : Gl X x)
    (hm : X.mg x = some (.ref f)) (hk : PySem.W.keepIn X.K (.ref f) = true) (hb : Binds X.K fd ps ds) (hd : Vals dvs ds) (hx : Passes CX X E)
    (hdb : (x == ("__debug__" : Str)) = false := by decide) : PE X (.Call (.Name x p) [] [] pos) (tCall sp dvs E tNil) := by
  constructor
  intro pins s σ H Q I h
  refine wpAny_Call_Name_kw (ld_glob I hg hm ?_ hdb)
  exact PySem.W.callWith_K0 I.kIn hk (wpAny_call (run_gp (us := []) F gg hr hb hd hx I .nil h))
/-- f(e, .., k = v, ..) -/
theorem pe_fnK (F : FG X.prog X.w X.K X.mg X.base CX k f fd ps sp) (gg : X.A.guards = some []) (hr : Room k X.A) (hg : Gl X x)
    (hm : X.mg x = some (.ref f)) (hk : PySem.W.keepIn X.K (.ref f) = true) (hb : KBn X.K fd ps n ks g gV) (hx : Passes CX X E)
    (ha : PA X (e :: es) t) (hkw : PK X kws tk) (hall : (backToKw pos (keywordEach kws X.env)).all (·.1.isSome) = true := by rfl)
    (hks : (backToKw pos (keywordEach kws X.env)).filterMap (·.1) = ks := by rfl) (hdb : (x == ("__debug__" : Str)) = false := by decide)
    (he : starEach (e :: es) X.env = (false, eval e X.env) :: starEach es X.env := by rfl)
    (hpl : ((backTo pos (starEach (e :: es) X.env)).any (·.1) || (backToKw pos (keywordEach kws X.env)).any (·.1.isNone)) = false := by rfl) :
    PE X (.Call (.Name x p) (e :: es) kws pos) (tCallN n ks.length sp gV E t tk) := by
  constructor
  intro pins s σ H Q I h
  refine wpAny_Call_Name_kw (ld_glob I hg hm ?_ hdb)
  refine PySem.W.callWith_KW (h₀ := X.base) I.ok.mod.kin hk hall (thn (ha.run pos pins s σ H _ I h) ?_) hpl he
  rintro us s1 ⟨vs, H1, J, r, q⟩
  refine thn (hkw.run pos pins s1 σ H1 _ J q) ?_
  rintro ws s2 ⟨zs, H2, J2, rz, l1, l2, q2⟩
  rw [hks]
  exact ⟨J2.kIn, wpAny_call (run_gk F gg hr hb hx J2 r rz l1 l2 q2)⟩
/-- f(k = v, ..) -/
theorem pe_fnK0 (F : FG X.prog X.w X.K X.mg X.base CX k f fd ps sp) (gg : X.A.guards = some []) (hr : Room k X.A) (hg : Gl X x)
    (hm : X.mg x = some (.ref f)) (hk : PySem.W.keepIn X.K (.ref f) = true) (hb : KBn X.K fd ps 0 ks g gV) (hx : Passes CX X E)
    (hkw : PK X kws tk) (hall : (backToKw pos (keywordEach kws X.env)).all (·.1.isSome) = true := by rfl)
    (hks : (backToKw pos (keywordEach kws X.env)).filterMap (·.1) = ks := by rfl) (hdb : (x == ("__debug__" : Str)) = false := by decide)
    (hpl : ((backTo pos (starEach [] X.env)).any (·.1) || (backToKw pos (keywordEach kws X.env)).any (·.1.isNone)) = false := by rfl) :
    PE X (.Call (.Name x p) [] kws pos) (tCallN 0 ks.length sp gV E tNil tk) := by
  constructor
  intro pins s σ H Q I h
  refine wpAny_Call_Name_kw (ld_glob I hg hm ?_ hdb)
  refine PySem.W.callWith_KW0 (h₀ := X.base) I.ok.mod.kin hk hall (thn (hkw.run pos pins s σ H _ I h) ?_) hpl
  rintro ws s2 ⟨zs, H2, J2, rz, l1, l2, q2⟩
  rw [hks]
  exact ⟨J2.kIn, wpAny_call (run_gk (us := []) (vs := []) F gg hr hb hx J2 .nil rz l1 l2 q2)⟩

/-- a new instance, its __init__ bound anyhow -/
theorem run_mk {args : List Value} {kw : List (Str × Value)} (M : Mk X.K C f) (F : FG X.prog X.w X.K X.mg X.base CX k f fd ps sp) (gg : X.A.guards = some [])
    (hr : Room (k + 1) X.A) (hx : Passes CX X E) (I : Inv X pins σ H s)
    (bd : ∀ (a : Addr) (s2 : Shared), X.K.In s2.heap → BindsTo s2 fd ⟨.ref a :: args, kw⟩ (ps.zip (.ref a :: us)))
    (rv : Vals vs us)
    (h : ∀ a dx, H a = none → H dx = none → dx ≠ a → sp (.ref a :: vs) (upd (upd H dx (.own a)) a (.ins C dx [])) (fun v H2 => v = .non ∧ Q (.ref a) H2) E) :
    wpAny (model X.prog X.w) X.A (call (.ref C) args kw) (EP X pins σ Q) X.xe s := by
  have prom := h (s.heap.objs.size + 1) s.heap.objs.size (I.hok.fresh (Nat.le_succ _)) (I.hok.fresh (Nat.le_refl _)) (Nat.ne_of_lt (Nat.lt_succ_self _))
  have J := Inv.made (C := C) I
  have r2 : Vals (V.ref (s.heap.objs.size + 1) :: vs) (Value.ref (s.heap.objs.size + 1) :: us) := .cons rfl rv
  refine wpAny_call (make_map (f := f) I.kIn M.makes M.init (beq_iff_eq.mp M.fn)
    (codeAny_mono (F.run _ X.stack _ _ ⟨_ :: args, kw⟩ _ _ _ E (under_make_guards gg) (hr.make C args kw) (J.env0.make C args kw) (bd _ _ J.kIn) r2 prom) ?_))
  intro r s2 z
  cases r with
  | error er => exact hx pins σ _ _ er s2 J z
  | ok fl =>
    cases fl with
    | ret u =>
      obtain ⟨v, H2, J2, ru, ev, q2⟩ := J.after z
      subst ev
      exact ⟨ru, ⟨V.ref (s.heap.objs.size + 1), H2, J2, rfl, q2⟩⟩
    | next => exact z.elim
    | brk => exact z.elim
    | cont => exact z.elim
theorem run_mkp (M : Mk X.K C f) (F : FG X.prog X.w X.K X.mg X.base CX k f fd ps sp) (gg : X.A.guards = some [])
    (hr : Room (k + 1) X.A) (hb : Binds X.K fd ps ds) (hd : Vals dvs ds) (hx : Passes CX X E) (I : Inv X pins σ H s) (rv : Vals vs us)
    (h : ∀ a dx, H a = none → H dx = none → dx ≠ a → sp (.ref a :: (vs ++ dvs)) (upd (upd H dx (.own a)) a (.ins C dx [])) (fun v H2 => v = .non ∧ Q (.ref a) H2) E) :
    wpAny (model X.prog X.w) X.A (call (.ref C) us) (EP X pins σ Q) X.xe s := by
  have r2 := rv.append hd
  have hl : (us ++ ds).length + 1 = ps.length := by
    rw [← r2.length]
    exact F.len _ _ _ _ (h (s.heap.objs.size + 1) s.heap.objs.size (I.hok.fresh (Nat.le_succ _)) (I.hok.fresh (Nat.le_refl _)) (Nat.ne_of_lt (Nat.lt_succ_self _)))
  exact run_mk (us := us ++ ds) (vs := vs ++ dvs) M F gg hr hx I (fun a s2 X2 => hb s2 (.ref a :: us) X2 (by rw [List.cons_append, List.length_cons]; exact hl)) r2 h
/-- C(e, ..) -/
theorem pe_mk (M : Mk X.K C f) (F : FG X.prog X.w X.K X.mg X.base CX k f fd ps sp) (gg : X.A.guards = some []) (hr : Room (k + 1) X.A) (hg : Gl X x)
    (hm : X.mg x = some (.ref C)) (hb : Binds X.K fd ps ds) (hd : Vals dvs ds) (hx : Passes CX X E) (ha : PA X (e :: es) t)
    (hdb : (x == ("__debug__" : Str)) = false := by decide) (he : starEach (e :: es) X.env = (false, eval e X.env) :: starEach es X.env := by rfl)
    (hpl : (backTo pos (starEach es X.env)).any (·.1) = false := by rfl) :
    PE X (.Call (.Name x p) (e :: es) [] pos) (tMake C sp dvs E t) := by
  constructor
  intro pins s σ H Q I h
  refine wpAny_Call_Name_kw (ld_glob I hg hm ?_ hdb)
  refine PySem.W.callWith_K (h₀ := X.base) I.ok.mod.kin M.kp (thn (ha.run pos pins s σ H _ I h) ?_) he hpl
  rintro us s1 ⟨vs, H1, J, r, q⟩
  exact ⟨J.kIn, run_mkp M F gg hr hb hd hx J r q⟩
/-- c(e, ..), c a local that holds the class -/
def tMakeL (i : Nat) (C : Addr) (sp : Sp) (dvs : List V) (E : XK) (t : TA) : TE := fun σ H Q => σ[i]? = some (some (.ref C)) ∧ tMake C sp dvs E t σ H Q
theorem pe_mkL {i : Nat} (M : Mk X.K C f) (F : FG X.prog X.w X.K X.mg X.base CX k f fd ps sp) (gg : X.A.guards = some []) (hr : Room (k + 1) X.A)
    (hN : X.N[i]? = some x) (hv : Vis X.env.scope x) (hb : Binds X.K fd ps ds) (hd : Vals dvs ds) (hx : Passes CX X E) (ha : PA X (e :: es) t)
    (hdb : (x == ("__debug__" : Str)) = false := by decide) (hcd : (x == ("__classdict__" : Str)) = false := by decide)
    (he : starEach (e :: es) X.env = (false, eval e X.env) :: starEach es X.env := by rfl)
    (hpl : (backTo pos (starEach es X.env)).any (·.1) = false := by rfl) :
    PE X (.Call (.Name x p) (e :: es) [] pos) (tMakeL i C sp dvs E t) := by
  constructor
  intro pins s σ H Q I h
  obtain ⟨hs, h⟩ := h
  refine wpAny_Call_Name_kw (thn ((pe_var (pos := p) hN hv hdb hcd).run pins s σ H (fun v H1 => v = .ref C ∧ H1 = H) I ⟨.ref C, hs, rfl, rfl⟩) ?_)
  rintro u s1 ⟨v, H1, J, r1, q1⟩
  obtain ⟨rfl, rfl⟩ := q1
  cases (show u = Value.ref C from r1)
  refine PySem.W.callWith_K (h₀ := X.base) J.ok.mod.kin M.kp (thn (ha.run pos pins s1 σ _ _ J h) ?_) he hpl
  rintro us s2 ⟨vs, H2, J2, r, q⟩
  exact ⟨J2.kIn, run_mkp M F gg hr hb hd hx J2 r q⟩
/-- C(k = v, ..) -/
theorem pe_mkK0 (M : Mk X.K C f) (F : FG X.prog X.w X.K X.mg X.base CX k f fd ps sp) (gg : X.A.guards = some []) (hr : Room (k + 1) X.A) (hg : Gl X x)
    (hm : X.mg x = some (.ref C)) (hb : KBn X.K fd ps 1 ks g gV) (hx : Passes CX X E) (hkw : PK X kws tk)
    (hall : (backToKw pos (keywordEach kws X.env)).all (·.1.isSome) = true := by rfl)
    (hks : (backToKw pos (keywordEach kws X.env)).filterMap (·.1) = ks := by rfl) (hdb : (x == ("__debug__" : Str)) = false := by decide)
    (hpl : ((backTo pos (starEach [] X.env)).any (·.1) || (backToKw pos (keywordEach kws X.env)).any (·.1.isNone)) = false := by rfl) :
    PE X (.Call (.Name x p) [] kws pos) (tMakeK C 0 ks.length sp gV E tNil tk) := by
  constructor
  intro pins s σ H Q I h
  refine wpAny_Call_Name_kw (ld_glob I hg hm ?_ hdb)
  refine PySem.W.callWith_KW0 (h₀ := X.base) I.ok.mod.kin M.kp hall (thn (hkw.run pos pins s σ H _ I h) ?_) hpl
  rintro ws s2 ⟨zs, H2, J, rz, l1, l2, q2⟩
  refine ⟨J.kIn, ?_⟩
  rw [hks]
  have prom := q2 (s2.heap.objs.size + 1) s2.heap.objs.size (J.hok.fresh (Nat.le_succ _)) (J.hok.fresh (Nat.le_refl _)) (Nat.ne_of_lt (Nat.lt_succ_self _))
  have J2 := Inv.made (C := C) J
  have r1 : Vals [V.ref (s2.heap.objs.size + 1)] [Value.ref (s2.heap.objs.size + 1)] := .cons rfl .nil
  refine wpAny_call (make_map (f := f) J.kIn M.makes M.init (beq_iff_eq.mp M.fn)
    (codeAny_mono (F.run _ X.stack _ _ ⟨_ :: [], ks.zip ws⟩ (g [_] ws) _ _ E (under_make_guards gg) (hr.make C [] (ks.zip ws)) (J2.env0.make C [] (ks.zip ws))
      (hb.to _ [_] ws J2.kIn rfl (rz.length.symm.trans l2)) (hb.rel r1 rz) prom) ?_))
  intro r s3 z
  cases r with
  | error er => exact hx pins σ _ _ er s3 J2 z
  | ok fl =>
    cases fl with
    | ret u =>
      obtain ⟨v, H3, J3, ru, ev, q3⟩ := J2.after z
      subst ev
      exact ⟨ru, ⟨V.ref (s2.heap.objs.size + 1), H3, J3, rfl, q3⟩⟩
    | next => exact z.elim
    | brk => exact z.elim
    | cont => exact z.elim

/-- o.f, a property -/
theorem pe_pr {pa : Addr} {f : Str} {gt : Addr} (he : PE X e ta) (c : Cls X.K C) (hp : PropOf X.K C f pa gt)
    (F : FG X.prog X.w X.K X.mg X.base CX k gt fd ps sp) (gg : X.A.guards = some []) (hr : Room (k + 1) X.A) (hb : Binds X.K fd ps ds) (hd : Vals dvs ds)
    (hx : Passes CX X.nox E) (hab : attributeBase e f X.env (eval e X.env) = eval e X.env := by rfl) : PE X (.Attribute e f pos) (tProp C sp dvs E ta) := by
  constructor
  intro pins s σ H Q I h
  refine attr_of hab (thn (he.run pins s σ H _ I h) ?_)
  rintro u s1 ⟨x, H1, I1, rx, a, dx, fs, rfl, ea, q⟩
  cases (show u = Value.ref a from rx)
  obtain ⟨mA, O, _⟩ := ins_get I1.hok ea
  obtain ⟨od, J, _⟩ := O.look
  obtain ⟨rest, hrec⟩ := hp.rec_
  have hc : (PySem.W.clsIn X.K C).isSome = true := by
    obtain ⟨cd, hcd, _⟩ := PySem.W.any_some c.hd
    rw [hcd]
    rfl
  have I2 := I1.tok (s1.toks + 1)
  have hl : ([Value.ref a] ++ ds).length = ps.length := by
    have l1 := F.len _ _ _ _ q
    have l2 := hd.length
    simp only [List.length_cons, List.length_append, List.length_nil] at l1 ⊢
    omega
  refine PySem.W.get_bind I1.kIn J (PySem.W.plainGet_of (c.get f)).1 (PySem.W.findObj_data hc hp.at_ hp.get hp.tak) (PySem.W.plainGet_of (c.get f)).2 ?_
  refine wpAny_call (PySem.W.prop_get (s := { s1 with toks := s1.toks + 1 }) I1.kIn hrec ?_)
  refine codeAny_mono (F.run X.A.in1 X.stack { s1 with toks := s1.toks + 1 } H1 ⟨[.ref a], []⟩ (.ref a :: ds) (.ref a :: dvs) Q E gg hr.in1 I2.env0.in1 (hb _ [.ref a] I2.kIn hl) (.cons rfl hd) q) ?_
  intro r s2 z2
  cases r with
  | error er => exact (hx pins σ H1 { s1 with toks := s1.toks + 1 } er s2 (I2.wish _) z2).elim
  | ok fl =>
    cases fl with
    | ret u =>
      obtain ⟨v, H2, I3, rv, q3⟩ := I2.after z2
      show wpAny _ _ (handedOut u) _ _ _
      rw [PySem.W.handedOut_of (handed_of rv)]
      exact wpAny_pure ⟨v, H2, I3, rv, q3⟩
    | next => exact z2.elim
    | brk => exact z2.elim
    | cont => exact z2.elim
/-- o.m(e, ..) -/
theorem pe_me {pl : Sem Bool} (he : PE X o ta) (c : Cls X.K C) (hm : Meth X.K C m f) (F : FG X.prog X.w X.K X.mg X.base CX k f fd ps sp)
    (gg : X.A.guards = some []) (hr : Room k X.A) (hb : Binds X.K fd ps ds) (hd : Vals dvs ds) (hx : Passes CX X E) (ha : PA X (e :: es) t)
    (hst : starEach (e :: es) X.env = (false, eval e X.env) :: starEach es X.env := by rfl) (hpl : (backTo pos (starEach es X.env)).any (·.1) = false := by rfl)
    (ht : eval (.Call (.Attribute o m apos) (e :: es) [] pos) X.env = (do
      let ov ← eval o X.env
      standAt apos.atName
      let (f2, first) ← holding [ov] (getMethod ov m pl)
      callWith pos f2 first (backTo pos (starEach (e :: es) X.env)) (backToKw pos (keywordEach [] X.env))) := by rfl) :
    PE X (.Call (.Attribute o m apos) (e :: es) [] pos) (tMeth C m sp dvs E ta t) := by
  constructor
  intro pins s σ H Q I h
  refine PySem.W.methodCall_KW (pl := pl) (thn (he.run pins s σ H _ I h) ?_) ht
  rintro u s1 ⟨x, H1, I1, rx, a, dx, fs, rfl, ea, l, q⟩
  cases (show u = Value.ref a from rx)
  refine getmeth_ok I1 ea c hm l ?_
  refine PySem.W.callWith_K (first := [.ref a]) (h₀ := X.base) I.ok.mod.kin hm.kp (thn (ha.run pos pins s1 σ H1 _ I1 q) ?_) hst hpl
  rintro us s2 ⟨vs, H2, I2, r, q2⟩
  exact ⟨I2.kIn, wpAny_call (run_gp (us := .ref a :: us) (vs := .ref a :: vs) F gg hr hb hd hx I2 (.cons rfl r) q2)⟩
/-- o.m() -/
theorem pe_me0 {pl : Sem Bool} (he : PE X o ta) (c : Cls X.K C) (hm : Meth X.K C m f) (F : FG X.prog X.w X.K X.mg X.base CX k f fd ps sp)
    (gg : X.A.guards = some []) (hr : Room k X.A) (hb : Binds X.K fd ps ds) (hd : Vals dvs ds) (hx : Passes CX X E)
    (ht : eval (.Call (.Attribute o m apos) [] [] pos) X.env = (do
      let ov ← eval o X.env
      standAt apos.atName
      let (f2, first) ← holding [ov] (getMethod ov m pl)
      callWith pos f2 first (backTo pos (starEach [] X.env)) (backToKw pos (keywordEach [] X.env))) := by rfl) :
    PE X (.Call (.Attribute o m apos) [] [] pos) (tMeth C m sp dvs E ta tNil) := by
  constructor
  intro pins s σ H Q I h
  refine PySem.W.methodCall_KW (pl := pl) (thn (he.run pins s σ H _ I h) ?_) ht
  rintro u s1 ⟨x, H1, I1, rx, a, dx, fs, rfl, ea, l, q⟩
  cases (show u = Value.ref a from rx)
  refine getmeth_ok I1 ea c hm l ?_
  exact PySem.W.callWith_K0 (first := [.ref a]) I1.kIn hm.kp (wpAny_call (run_gp (us := [.ref a]) (vs := [.ref a]) F gg hr hb hd hx I1 (.cons rfl .nil) q))
/-- o.m(k = v, ..) -/
def tMethK (C : Addr) (m : Str) (j : Nat) (sp : Sp) (gV : List V → List V → List V) (E : XK) (ta : TE) (tk : TA) : TE := fun σ H Q =>
  ta σ H fun x H1 => ∃ a dx fs, x = .ref a ∧ H1 a = some (.ins C dx fs) ∧ fs.lookup m = none ∧ tk σ H1 fun zs H2 => zs.length = j ∧ sp (gV [x] zs) H2 Q E
theorem pe_meK0 {pl : Sem Bool} (he : PE X o ta) (c : Cls X.K C) (hm : Meth X.K C m f) (F : FG X.prog X.w X.K X.mg X.base CX k f fd ps sp)
    (gg : X.A.guards = some []) (hr : Room k X.A) (hb : KBn X.K fd ps 1 ks g gV) (hx : Passes CX X E) (hkw : PK X kws tk)
    (hall : (backToKw pos (keywordEach kws X.env)).all (·.1.isSome) = true := by rfl)
    (hks : (backToKw pos (keywordEach kws X.env)).filterMap (·.1) = ks := by rfl)
    (hpl : ((backTo pos (starEach [] X.env)).any (·.1) || (backToKw pos (keywordEach kws X.env)).any (·.1.isNone)) = false := by rfl)
    (ht : eval (.Call (.Attribute o m apos) [] kws pos) X.env = (do
      let ov ← eval o X.env
      standAt apos.atName
      let (f2, first) ← holding [ov] (getMethod ov m pl)
      callWith pos f2 first (backTo pos (starEach [] X.env)) (backToKw pos (keywordEach kws X.env))) := by rfl) :
    PE X (.Call (.Attribute o m apos) [] kws pos) (tMethK C m ks.length sp gV E ta tk) := by
  constructor
  intro pins s σ H Q I h
  refine PySem.W.methodCall_KW (pl := pl) (thn (he.run pins s σ H _ I h) ?_) ht
  rintro u s1 ⟨x, H1, I1, rx, a, dx, fs, rfl, ea, l, q⟩
  cases (show u = Value.ref a from rx)
  refine getmeth_ok I1 ea c hm l ?_
  refine PySem.W.callWith_KW0 (first := [.ref a]) (h₀ := X.base) I.ok.mod.kin hm.kp hall (thn (hkw.run pos pins s1 σ H1 _ I1 q) ?_) hpl
  rintro ws s2 ⟨zs, H2, I2, rz, l2, q2⟩
  rw [hks]
  exact ⟨I2.kIn, wpAny_call (run_gk (us := [.ref a]) (vs := [.ref a]) F gg hr hb hx I2 (.cons rfl .nil) rz rfl l2 q2)⟩
/-- c.m(e, ..), m a classmethod of the class c -/
theorem pe_cm {mc : Value} {pc : Addr} {pl : Sem Bool} (he : PE X o ta) (cr : ClX.CRead X.K C mc) (c : ClX.CMet X.K C mc m pc f)
    (F : FG X.prog X.w X.K X.mg X.base CX k f fd ps sp) (gg : X.A.guards = some []) (hr : Room k X.A) (hb : Binds X.K fd ps ds) (hd : Vals dvs ds) (hx : Passes CX X E)
    (ha : PA X (e :: es) t) (hst : starEach (e :: es) X.env = (false, eval e X.env) :: starEach es X.env := by rfl)
    (hpl : (backTo pos (starEach es X.env)).any (·.1) = false := by rfl)
    (ht : eval (.Call (.Attribute o m apos) (e :: es) [] pos) X.env = (do
      let ov ← eval o X.env
      standAt apos.atName
      let (f2, first) ← holding [ov] (getMethod ov m pl)
      callWith pos f2 first (backTo pos (starEach (e :: es) X.env)) (backToKw pos (keywordEach [] X.env))) := by rfl) :
    PE X (.Call (.Attribute o m apos) (e :: es) [] pos) (ClX.tCMeth C (fun vs => sp (vs ++ dvs)) E ta t) := by
  constructor
  intro pins s σ H Q I h
  refine PySem.W.methodCall_KW (pl := pl) (thn (he.run pins s σ H _ I h) ?_) ht
  rintro u s1 ⟨x, H1, I1, rx, rfl, q⟩
  cases (show u = Value.ref C from rx)
  refine ClX.getmethcm_ok I1 cr c fun s2 I2 => ?_
  refine ClX.callwith_cm I2 (ClX.base_none I1 (Nat.le_refl _)) c.fi (thn (ha.run pos _ s2 σ H1 _ I2 q) ?_) hst hpl
  rintro us s3 ⟨vs, H2, I3, rv, q2⟩
  refine ⟨⟨ClX.pin_at I3, I3.kIn⟩, ?_⟩
  refine thn (wpAny_call (PySem.W.method_call (ClX.pin_at I3) (run_gp (us := .ref C :: us) (vs := .ref C :: vs) F gg hr hb hd hx I3 (.cons rfl rv) q2))) ?_
  intro _ _ y
  exact ClX.unpinE y
/-- c.m(k = v, ..) -/
def tCMethK (C : Addr) (j : Nat) (sp : Sp) (gV : List V → List V → List V) (E : XK) (ta : TE) (tk : TA) : TE := fun σ H Q =>
  ta σ H fun x H1 => x = .ref C ∧ tk σ H1 fun zs H2 => zs.length = j ∧ sp (gV [.ref C] zs) H2 Q E
theorem pe_cmK0 {mc : Value} {pc : Addr} {pl : Sem Bool} (he : PE X o ta) (cr : ClX.CRead X.K C mc) (c : ClX.CMet X.K C mc m pc f)
    (F : FG X.prog X.w X.K X.mg X.base CX k f fd ps sp) (gg : X.A.guards = some []) (hr : Room k X.A) (hb : KBn X.K fd ps 1 ks g gV) (hx : Passes CX X E) (hkw : PK X kws tk)
    (hall : (backToKw pos (keywordEach kws X.env)).all (·.1.isSome) = true := by rfl)
    (hks : (backToKw pos (keywordEach kws X.env)).filterMap (·.1) = ks := by rfl)
    (hpl : ((backTo pos (starEach [] X.env)).any (·.1) || (backToKw pos (keywordEach kws X.env)).any (·.1.isNone)) = false := by rfl)
    (ht : eval (.Call (.Attribute o m apos) [] kws pos) X.env = (do
      let ov ← eval o X.env
      standAt apos.atName
      let (f2, first) ← holding [ov] (getMethod ov m pl)
      callWith pos f2 first (backTo pos (starEach [] X.env)) (backToKw pos (keywordEach kws X.env))) := by rfl) :
    PE X (.Call (.Attribute o m apos) [] kws pos) (tCMethK C ks.length sp gV E ta tk) := by
  constructor
  intro pins s σ H Q I h
  refine PySem.W.methodCall_KW (pl := pl) (thn (he.run pins s σ H _ I h) ?_) ht
  rintro u s1 ⟨x, H1, I1, rx, rfl, q⟩
  cases (show u = Value.ref C from rx)
  refine ClX.getmethcm_ok I1 cr c fun s2 I2 => ?_
  refine PySem.W.callWith_of (P := PySem.W.MethP X.K _ f (.ref C)) hpl (PySem.W.keeps_M c.fi) (evalArgs_kw2_nil hall ?_)
  refine thn (hkw.run pos _ s2 σ H1 _ I2 q) ?_
  rintro ws s3 ⟨zs, H2, I3, rz, l2, q2⟩
  rw [hks]
  refine ⟨⟨ClX.pin_at I3, I3.kIn⟩, ?_⟩
  refine thn (wpAny_call (PySem.W.method_call (ClX.pin_at I3) (run_gk (us := [.ref C]) (vs := [.ref C]) F gg hr hb hx I3 (.cons rfl .nil) rz rfl l2 q2))) ?_
  intro _ _ y
  exact ClX.unpinE y
end
end Own

set_option Elab.async false
set_option linter.all false
set_option maxRecDepth 100000
set_option maxHeartbeats 2000000
namespace Own
open PySem PySem.Spec PyProof.Rows L2

section
variable {X : Cx} {CX : CXT} {n : Nat} {C g : Addr} {fd : FuncData} {ps : List Str} {sp : Sp} {E : XK}

/-- x op y, both instances of C -/
theorem og_both {op : Operator} (k : Num X.K C op.info.2 g) (F : FG X.prog X.w X.K X.mg X.base CX n g fd ps sp) (gg : X.A.guards = some []) (hr : Room n X.A)
    (hb : Binds X.K fd ps []) (hx : Passes CX X E) : OpR X (binaryOp op) (rBoth C sp E) := by
  rintro pins s σ H x y v u Q I rx ry ⟨a, dx, fs, b, dy, gs, rfl, rfl, ha, hb', q⟩
  cases (show v = Value.ref a from rx)
  cases (show u = Value.ref b from ry)
  obtain ⟨mA, O, _⟩ := ins_get I.hok ha
  obtain ⟨od, J, _⟩ := O.look
  obtain ⟨mB, O', _⟩ := ins_get I.hok hb'
  obtain ⟨od', J', _⟩ := O'.look
  obtain ⟨m, hF⟩ := I.fr
  refine PySem.W.binop_K hF I.ok.mod.kin J J'.type k.sf k.fnd k.isf ?_
  refine wpAny_mono (wpAny_call (run_gp (us := [.ref a, .ref b]) (vs := [.ref a, .ref b]) F gg hr hb .nil hx I (.cons rfl (.cons rfl .nil)) q)) (fun w s2 z => ?_) fun _ _ x => x
  obtain ⟨z1, H2, I2, rz, qz⟩ := z
  exact SlX.cmpback rz ⟨z1, H2, I2, rz, qz⟩
/-- x op i -/
theorem og_left {op : Operator} {rc : Option Value} (k : Num X.K C op.info.2 g) (k2 : NumR X.K C op.info.2 rc) (k3 : NumT X.K C "int" op.info.2)
    (F : FG X.prog X.w X.K X.mg X.base CX n g fd ps sp) (gg : X.A.guards = some []) (hr : Room n X.A) (hb : Binds X.K fd ps []) (hx : Passes CX X E) : OpR X (binaryOp op) (rLeft C sp E) := by
  rintro pins s σ H x y v u Q I rx ry ⟨a, dx, fs, i, rfl, rfl, ha, q⟩
  cases (show v = Value.ref a from rx)
  obtain ⟨t, rfl⟩ := (show ∃ t, u = Value.int i t from ry)
  obtain ⟨mA, O, _⟩ := ins_get I.hok ha
  obtain ⟨od, J, _⟩ := O.look
  obtain ⟨m, hF⟩ := I.fr
  obtain ⟨fo, h1⟩ := k3.l
  obtain ⟨ro, h2⟩ := k3.r
  refine PySem.W.ksp_binT (T := "int") hF I.ok.mod.kin J rfl k.sf k.fnd k.isf k2.fnd k2.ok h1 h2 k3.sub ?_
  refine wpAny_mono (wpAny_call (run_gp (us := [.ref a, .int i t]) (vs := [.ref a, .int i]) F gg hr hb .nil hx I (.cons rfl (.cons ⟨t, rfl⟩ .nil)) q)) (fun w s2 z => ?_) fun _ _ x => x
  obtain ⟨z1, H2, I2, rz, qz⟩ := z
  exact SlX.cmpback rz ⟨z1, H2, I2, rz, qz⟩
/-- i op x: the reflected def at g is asked with x first -/
def rRight (C : Addr) (sp : Sp) (E : XK) : R2 := fun x y H Q => ∃ a dx fs i, x = .int i ∧ y = .ref a ∧ H a = some (.ins C dx fs) ∧ sp [y, x] H Q E
structure NumI (K : PySem.W.Frag) (C : Addr) (nm : String) (gl gr : Addr) : Prop where
  sf : PySem.W.selfFirst K C = true
  l : PySem.W.findIn K (.ref C) (PySem.dunder nm) = some (some (.ref gl))
  r : PySem.W.findIn K (.ref C) (dunderR nm) = some (some (.ref gr))
  isf : PySem.W.isFn K (.ref gr) = true
  sub : PySem.W.subIn K (.ref C) (.type "int") = some false
theorem og_right {op : Operator} {gl : Addr} {nm : String} {fz : Int → Int → Sem PySem.Fin} {id : String} (k : NumI X.K C op.info.2 gl g)
    (fills : fillsNumberSlot (.type "int") op.info.2 = pure true) (slot : Slot "int" (PySem.dunder op.info.2) id) (entry : entryFor table id = some (Builtin.Int.intBinary nm fz))
    (args : ∀ a b, argsOk id ⟨[a, b], []⟩) (F : FG X.prog X.w X.K X.mg X.base CX n g fd ps sp) (gg : X.A.guards = some []) (hr : Room n X.A)
    (hb : Binds X.K fd ps []) (hx : Passes CX X E) : OpR X (binaryOp op) (rRight C sp E) := by
  rintro pins s σ H x y v u Q I rx ry ⟨a, dx, fs, i, rfl, rfl, ha, q⟩
  cases (show u = Value.ref a from ry)
  obtain ⟨t, rfl⟩ := (show ∃ t, v = Value.int i t from rx)
  obtain ⟨mA, O, _⟩ := ins_get I.hok ha
  obtain ⟨od, J, _⟩ := O.look
  refine int_op I.kIn J rfl k.sf k.l k.r k.isf k.sub fills slot entry (args _ _) fun tk => ?_
  have I2 := I.tok tk
  refine wpAny_mono (wpAny_call (run_gp (us := [.ref a, .int i t]) (vs := [.ref a, .int i]) F gg hr hb .nil hx I2 (.cons rfl (.cons ⟨t, rfl⟩ .nil)) q)) (fun w s2 z => ?_) fun _ _ x => x
  obtain ⟨z1, H2, I3, rz, qz⟩ := z
  exact SlX.cmpback rz ⟨z1, H2, I3, rz, qz⟩
theorem og_addR {gl : Addr} (k : NumI X.K C "add" gl g) (F : FG X.prog X.w X.K X.mg X.base CX n g fd ps sp) (gg : X.A.guards = some []) (hr : Room n X.A) (hb : Binds X.K fd ps []) (hx : Passes CX X E) :
    OpR X (binaryOp .Add) (rRight C sp E) := og_right (op := .Add) k PySem.F.fills_int_add PySem.F.slot_int_add PySem.F.entry_int_add PySem.F.args_int_add_2 F gg hr hb hx
/-- -x -/
theorem og_neg (k : PySem.W.findIn X.K (.ref C) "__neg__" = some (some (.ref g))) (kf : PySem.W.isFn X.K (.ref g) = true) (F : FG X.prog X.w X.K X.mg X.base CX n g fd ps sp)
    (gg : X.A.guards = some []) (hr : Room n X.A) (hb : Binds X.K fd ps []) (hx : Passes CX X E) : UnR X (unaryOp .USub) (rNeg C sp E) := by
  rintro pins s σ H x v Q I rx ⟨a, dx, fs, rfl, ha, q⟩
  cases (show v = Value.ref a from rx)
  obtain ⟨mA, O, _⟩ := ins_get I.hok ha
  obtain ⟨od, J, _⟩ := O.look
  obtain ⟨m, hF⟩ := I.fr
  exact PySem.W.ksp_neg hF I.ok.mod.kin J k kf (wpAny_call (run_gp (us := [.ref a]) (vs := [.ref a]) F gg hr hb .nil hx I (.cons rfl .nil) q))
/-- what == and != of the class want -/
structure EqC (K : PySem.W.Frag) (C g : Addr) : Prop where
  n0 : PySem.W.notFirst K C (.ref C) = true
  n1 : PySem.W.notFirst K C (.type "int") = true
  fnd : PySem.W.findIn K (.ref C) "__eq__" = some (some (.ref g))
  isf : PySem.W.isFn K (.ref g) = true
  ne : PySem.W.findIn K (.ref C) "__ne__" = some (some (.builtin "object.__ne__"))
  mro : PySem.W.mroIn K C (.type "object") = some true
  sub : PySem.W.subIn K (.ref C) (.type "int") = some false
theorem og_eq (k : EqC X.K C g) (F : FG X.prog X.w X.K X.mg X.base CX n g fd ps sp) (gg : X.A.guards = some []) (hr : Room n X.A) (hb : Binds X.K fd ps []) (hx : Passes CX X E) :
    OpR X (compareOp .Eq) (rEq C sp E) := by
  rintro pins s σ H x y v u Q I rx ry ⟨a, dx, fs, t, rfl, ha, hy, q⟩
  cases (show v = Value.ref a from rx)
  obtain ⟨mA, O, _⟩ := ins_get I.hok ha
  obtain ⟨od, J, _⟩ := O.look
  obtain ⟨m, hF⟩ := I.fr
  refine PySem.W.cmp_ofEq ?_
  have fin : ∀ (tb : Value), PySem.W.Looks (model X.prog X.w) s.heap (typeOf u) tb → PySem.W.notFirst X.K C tb = true →
      wpAny (model X.prog X.w) X.A (richCompare .Eq (.ref a) u) (EP X pins σ Q) X.xe s := by
    intro tb hb' hn
    refine PySem.W.cmp_K (op := .Eq) (tb := tb) hr.units0 hF I.ok.mod.kin J hb' hn k.fnd k.isf ?_
    refine wpAny_mono (wpAny_call (run_gp (us := [.ref a, u]) (vs := [.ref a, y]) F gg hr hb .nil hx I (.cons rfl (.cons ry .nil)) q)) (fun w s2 z => ?_) fun _ _ x => x
    obtain ⟨z1, H2, I2, rz, qz⟩ := z
    exact SlX.cmpback rz ⟨z1, H2, I2, rz, qz⟩
  cases hy with
  | ins hb' =>
    rename_i b dy gs
    cases (show u = Value.ref b from ry)
    obtain ⟨mB, O', _⟩ := ins_get I.hok hb'
    obtain ⟨od', J', _⟩ := O'.look
    exact fin (.ref C) J'.type k.n0
  | int i =>
    obtain ⟨t, rfl⟩ := (show ∃ t, u = Value.int i t from ry)
    exact fin (.type "int") (PySem.W.Looks.of_pure rfl) k.n1
/-- i == x -/
def rEqR (C : Addr) (sp : Sp) (E : XK) : R2 := fun x y H Q => ∃ a dx fs i, x = .int i ∧ y = .ref a ∧ H a = some (.ins C dx fs) ∧ sp [y, x] H Q E
theorem og_eqR (k : EqC X.K C g) (F : FG X.prog X.w X.K X.mg X.base CX n g fd ps sp) (gg : X.A.guards = some []) (hr : Room n X.A) (hb : Binds X.K fd ps []) (hx : Passes CX X E) :
    OpR X (compareOp .Eq) (rEqR C sp E) := by
  rintro pins s σ H x y v u Q I rx ry ⟨a, dx, fs, i, rfl, rfl, ha, q⟩
  cases (show u = Value.ref a from ry)
  obtain ⟨t, rfl⟩ := (show ∃ t, v = Value.int i t from rx)
  obtain ⟨mA, O, _⟩ := ins_get I.hok ha
  obtain ⟨od, J, _⟩ := O.look
  refine PySem.W.cmp_ofEq (int_eq hr.units0 I.kIn J rfl k.fnd k.isf k.sub fun tk => ?_)
  have I2 := I.tok tk
  refine wpAny_mono (wpAny_call (run_gp (us := [.ref a, .int i t]) (vs := [.ref a, .int i]) F gg hr hb .nil hx I2 (.cons rfl (.cons ⟨t, rfl⟩ .nil)) q)) (fun w s2 z => ?_) fun _ _ x => x
  obtain ⟨z1, H2, I3, rz, qz⟩ := z
  exact SlX.cmpback rz ⟨z1, H2, I3, rz, qz⟩
/-- x != y: the class's own == tells a truth value -/
def rNe (C : Addr) (sp : Sp) (E : XK) : R2 := fun x y H Q => ∃ a dx fs b dy gs, x = .ref a ∧ y = .ref b ∧ H a = some (.ins C dx fs) ∧ H b = some (.ins C dy gs) ∧
  sp [x, y] H (fun v H2 => ∃ c, v = .bl c ∧ Q (.bl (!c)) H2) E
theorem og_ne (k : EqC X.K C g) (F : FG X.prog X.w X.K X.mg X.base CX n g fd ps sp) (gg : X.A.guards = some []) (hr : Room (n + 1) X.A) (hb : Binds X.K fd ps []) (hx : Passes CX X E) :
    OpR X (compareOp .NotEq) (rNe C sp E) := by
  rintro pins s σ H x y v u Q I rx ry ⟨a, dx, fs, b, dy, gs, rfl, rfl, ha, hb', q⟩
  cases (show v = Value.ref a from rx)
  cases (show u = Value.ref b from ry)
  obtain ⟨mA, O, _⟩ := ins_get I.hok ha
  obtain ⟨od, J, _⟩ := O.look
  obtain ⟨mB, O', _⟩ := ins_get I.hok hb'
  obtain ⟨od', J', _⟩ := O'.look
  refine PySem.W.cmp_ofNotEq (own_ne (by have := hr.units; omega) I.kIn J J' k.ne k.mro k.fnd k.isf ?_)
  have hl : ([Value.ref a, Value.ref b] ++ []).length = ps.length := by
    have l1 := F.len _ _ _ _ q
    exact l1
  have call1 : codeAny (model X.prog X.w) X.A.in1 (.call (.ref g) ⟨[.ref a, .ref b], []⟩) (Bk X pins σ fun v H2 => ∃ c, v = .bl c ∧ Q (.bl (!c)) H2) s :=
    codeAny_mono (F.run X.A.in1 X.stack s H ⟨[.ref a, .ref b], []⟩ _ [.ref a, .ref b] _ E gg hr.in1 I.env0.in1 (hb s [.ref a, .ref b] I.kIn hl) (.cons rfl (.cons rfl .nil)) q) fun r s2 z => bk_of hx I z
  refine wpAny_mono (wpAny_call call1) (fun w s2 z => ?_) fun _ _ x => x
  obtain ⟨z1, H2, I2, rz, c, rfl, qz⟩ := z
  cases (show w = Value.bool c from rz)
  exact ⟨c, rfl, .bl (!c), H2, I2, rfl, qz⟩
theorem og_subR {gl : Addr} (k : NumI X.K C "sub" gl g) (F : FG X.prog X.w X.K X.mg X.base CX n g fd ps sp) (gg : X.A.guards = some []) (hr : Room n X.A) (hb : Binds X.K fd ps []) (hx : Passes CX X E) :
    OpR X (binaryOp .Sub) (rRight C sp E) := og_right (op := .Sub) k PySem.F.fills_int_sub PySem.F.slot_int_sub PySem.F.entry_int_sub PySem.F.args_int_sub_2 F gg hr hb hx
theorem og_mulR {gl : Addr} (k : NumI X.K C "mul" gl g) (F : FG X.prog X.w X.K X.mg X.base CX n g fd ps sp) (gg : X.A.guards = some []) (hr : Room n X.A) (hb : Binds X.K fd ps []) (hx : Passes CX X E) :
    OpR X (binaryOp .Mult) (rRight C sp E) := og_right (op := .Mult) k PySem.F.fills_int_mul PySem.F.slot_int_mul PySem.F.entry_int_mul PySem.F.args_int_mul_2 F gg hr hb hx
/-- str(x) -/
def rTell (C : Addr) (sp : Sp) (E : XK) : List V → Hp → VK → Prop := fun xs H Q => ∃ a dx fs, xs = [.ref a] ∧ H a = some (.ins C dx fs) ∧ sp [.ref a] H (fun v H2 => ∃ z, v = .str z ∧ Q (.str z) H2) E
theorem room_in1 {A : Around} {n : Nat} (h : Room (n + 1) A) : Room n A.in1 := h.in1
theorem call_at1 (F : FG X.prog X.w X.K X.mg X.base CX n g fd ps sp) (gg : X.A.guards = some []) (hr : Room (n + 1) X.A) (hb : Binds X.K fd ps []) (hx : Passes CX X E) {pins : List (Addr × Obj)} {σ : L2.St} {H : Hp} {s : Shared} {Q : VK} {a : Addr}
    (I : Inv X pins σ H s) (q : sp [.ref a] H Q E) : codeAny (model X.prog X.w) X.A.in1 (.call (.ref g) ⟨[.ref a], []⟩) (Bk X pins σ Q) s :=
  codeAny_mono (F.run X.A.in1 X.stack s H ⟨[.ref a], []⟩ _ [.ref a] _ E gg hr.in1 I.env0.in1 (hb s [.ref a] I.kIn (F.len _ _ _ _ q)) (.cons rfl .nil) q) fun r s2 z => bk_of hx I z
theorem call_at2 (F : FG X.prog X.w X.K X.mg X.base CX n g fd ps sp) (gg : X.A.guards = some []) (hr : Room (n + 2) X.A) (hb : Binds X.K fd ps []) (hx : Passes CX X E) {pins : List (Addr × Obj)} {σ : L2.St} {H : Hp} {s : Shared} {Q : VK} {a : Addr}
    (I : Inv X pins σ H s) (q : sp [.ref a] H Q E) : codeAny (model X.prog X.w) X.A.in1.in1 (.call (.ref g) ⟨[.ref a], []⟩) (Bk X pins σ Q) s :=
  codeAny_mono (F.run X.A.in1.in1 X.stack s H ⟨[.ref a], []⟩ _ [.ref a] _ E gg hr.in1.in1 I.env0.in1.in1 (hb s [.ref a] I.kIn (F.len _ _ _ _ q)) (.cons rfl .nil) q) fun r s2 z => bk_of hx I z
theorem strback {pins : List (Addr × Obj)} {σ : L2.St} {Q : VK} {w : Value} {s2 : Shared} (z : EP X pins σ (fun v H2 => ∃ y, v = .str y ∧ Q (.str y) H2) w s2) : PySem.W.StrBack (EP X pins σ Q) w s2 := by
  obtain ⟨z1, H2, I2, rz, c, rfl, qz⟩ := z
  obtain ⟨t, rfl⟩ := (show ∃ t, w = Value.str c t from rz)
  exact ⟨.str c, H2, I2, ⟨t, rfl⟩, qz⟩
theorem cg_str (k : PySem.W.findIn X.K (.ref C) "__str__" = some (some (.ref g))) (kf : PySem.W.isFn X.K (.ref g) = true) (F : FG X.prog X.w X.K X.mg X.base CX n g fd ps sp)
    (gg : X.A.guards = some []) (hr : Room (n + 2) X.A) (hb : Binds X.K fd ps []) (hx : Passes CX X E) : CallR X (.type "str") (rTell C sp E) := by
  rintro pins s σ H xs us Q I r ⟨a, dx, fs, rfl, ha, q⟩
  obtain ⟨u, rfl, ru⟩ := r.one
  cases (show u = Value.ref a from ru)
  obtain ⟨mA, O, _⟩ := ins_get I.hok ha
  obtain ⟨od, J, _⟩ := O.look
  refine PySem.W.kso_call (by have := hr.un; show X.A.units + 1 + 1 < _; omega) I.kIn J k kf ?_
  exact wpAny_mono (wpAny_call (call_at2 F gg hr hb hx I q)) (fun w s2 z => strback z) fun _ _ x => x
theorem cg_repr (k : PySem.W.findIn X.K (.ref C) "__repr__" = some (some (.ref g))) (kf : PySem.W.isFn X.K (.ref g) = true) (F : FG X.prog X.w X.K X.mg X.base CX n g fd ps sp)
    (gg : X.A.guards = some []) (hr : Room (n + 1) X.A) (hb : Binds X.K fd ps []) (hx : Passes CX X E) : CallR X (.builtin "repr") (rTell C sp E) := by
  rintro pins s σ H xs us Q I r ⟨a, dx, fs, rfl, ha, q⟩
  obtain ⟨u, rfl, ru⟩ := r.one
  cases (show u = Value.ref a from ru)
  obtain ⟨mA, O, _⟩ := ins_get I.hok ha
  obtain ⟨od, J, _⟩ := O.look
  obtain ⟨m, hF⟩ := I.fr
  refine PySem.W.repr_K (by have := hr.un; show X.A.units + 1 < _; omega) hF I.ok.mod.kin J k kf ?_
  exact wpAny_mono (wpAny_call (call_at1 F gg hr hb hx I q)) (fun w s2 z => strback z) fun _ _ x => x
/-- repr of a list or tuple of data -/
def rReprD (K : PySem.W.Frag) : List V → Hp → VK → Prop := fun xs H Q => ∃ a d, xs = [.ref a] ∧ Dp K H (.ref a) d ∧ d.showable = true ∧ d.hasDict = false ∧ d.depth ≤ 60 ∧ d.shown.length ≤ sizeLine ∧ Q (.str d.shown) H
theorem cg_reprD (gg : X.A.guards = some []) (hr : Room n X.A) : CallR X (.builtin "repr") (rReprD X.K) := by
  rintro pins s σ H xs us Q I r ⟨a, d, rfl, hd, h1, h2, h3, h4, q⟩
  obtain ⟨u, rfl, ru⟩ := r.one
  cases (show u = Value.ref a from ru)
  obtain ⟨as, rd⟩ := Dp.reads I d _ _ hd rfl
  refine repr_of_reads' rd h1 (PyData.noDict_hsm h2) gg (by have := hr.un; omega) (fun _ _ e => e) (fun h' u tk hk => ?_) h4
  exact ⟨.str d.shown, H, I.kept (t' := tk) hk, ⟨u, rfl⟩, q⟩
end
end Own

set_option Elab.async false
set_option linter.all false
set_option maxRecDepth 100000
set_option maxHeartbeats 2000000
namespace Own
open PySem PySem.Spec PyProof.Rows L2

section
variable {P : Program} {w : World} {K : PySem.W.Frag} {mg mb : Str → Option Value} {CX : CXT} {k : Nat} {fa a : Addr} {fd : FuncData} {x : Str} {sp : Sp} {s : Shared} {vs : List Value} {ns : List Int}
/-- the object of the script -/
abbrev scr (vs : List Value) : Obj := { cls := .type "list", data := .seq vs.toArray }
/-- from an abstract heap that tracks at most the script -/
theorem core_g {H : Hp} (KX : K.In s.heap) (g1 : s.heap.Ns mainGlobals mg) (b1 : s.heap.Ns builtinsNs mb) (b2 : ∀ x : Str, x ≠ "__name__" → mb x = bootBuiltins x)
    (lim : s.heap.NoLimit) (gn : s.gens = #[]) (ha : s.heap.get? a = some (scr vs)) (hr : Room k callerA)
    (F : ∀ base : Heap, K.In base → base.Ns mainGlobals mg → FG P w K mg base CX k fa fd [x] sp)
    (bd : ∀ (s : Shared) (u : Value), BindsTo s fd ⟨[u], []⟩ [(x, u)])
    (prom : sp [.ref a] H (fun v _ => v = .bl true) fun _ _ _ => False)
    (noX : ∀ e s2, CX [] H s (fun _ _ _ => False) e s2 → False)
    (hok : HOk P w H s.heap) (only : ∀ b, H b ≠ none → b = a ∧ K.lookup a = none ∧ ∃ xs, H b = some (.frz (scr vs) (.lst xs))) :
    codeAny (model P w) callerA (.call (.ref fa) ⟨[.ref a], []⟩)
      (fun r s2 => r = .ok (.ret (.bool true)) ∧ OldK s.heap s2.heap ∧ s2.os = s.os ∧ AllBare s2.gens) s := by
  have keptK : ∀ b o, K.lookup b = some o → H b = none := by
    intro b o e
    cases q : H b with
    | none => rfl
    | some u =>
      obtain ⟨rfl, z, _⟩ := only b (by rw [q]; simp)
      rw [z] at e
      cases e
  have free : ∀ {b : Addr} {o : Obj}, s.heap.get? b = some o → (∃ es ep, o.data = .dict es ep) → H b = none := by
    rintro b o e ⟨es, ep, d⟩
    cases q : H b with
    | none => rfl
    | some u =>
      obtain ⟨rfl, _⟩ := only b (by rw [q]; simp)
      rw [ha] at e
      cases e
      have d2 : Data.seq vs.toArray _ = Data.dict es ep := d
      cases d2
  have ns2 : ∀ {b : Addr} {m : Str → Option Value}, s.heap.Ns b m → (hidT s.heap H).Ns b m := by
    rintro b m ⟨o, es, ep, e, d, r⟩
    exact ⟨o, es, ep, hidT_get e (free e ⟨es, ep, d⟩), d, r⟩
  have inB : K.In (hidT s.heap H) := fun b o e => hidT_get (KX b o e) (keptK b o e)
  have md : Mod K mg (hidT s.heap H) := by
    obtain ⟨mc, z1, z2⟩ := lim
    exact ⟨inB, ns2 g1, ⟨mb, ns2 b1, b2⟩, ⟨mc, ns2 z1, z2⟩⟩
  have e0 : Env0 P w K mg (hidT s.heap H) callerA [] s H :=
    ⟨rfl, md, fun b o e => of_hidT e, Nat.le_of_eq (hidT_size _ _), trivial, fun b hb => absurd (show b ∈ ([] : List Addr) from hb) (by simp), hok, .of_eq gn⟩
  have run := (F _ inB (ns2 g1)).run callerA [] s H ⟨[.ref a], []⟩ [.ref a] [.ref a] _ _ rfl hr e0 (bd s (.ref a)) (.cons rfl .nil) prom
  refine codeAny_mono run ?_
  intro r s2 z
  cases r with
  | error e => exact (noX e s2 z).elim
  | ok fl =>
    cases fl with
    | next => exact z.elim
    | brk => exact z.elim
    | cont => exact z.elim
    | ret u =>
      obtain ⟨v, H2, os, bare, un, hok2, r2, q⟩ := z
      have q2 : v = .bl true := q
      subst q2
      cases (show u = Value.bool true from r2)
      refine ⟨rfl, OldK.of_keep fun b o e => ?_, os, bare⟩
      cases hb : H b with
      | none => exact un.keep b o e hb (by intro z; exact absurd (show b ∈ ([] : List Addr) from z) (by simp)) (by simp)
      | some t =>
        obtain ⟨_, _, xs, z⟩ := only b (by rw [hb]; simp)
        have z3 := un.frzs b _ _ z
        obtain ⟨e1, _⟩ := hok b _ z
        obtain ⟨e2, _⟩ := hok2 b _ z3
        rw [e] at e1
        cases e1
        exact e2
theorem law_g (KX : K.In s.heap) (g1 : s.heap.Ns mainGlobals mg) (b1 : s.heap.Ns builtinsNs mb) (b2 : ∀ x : Str, x ≠ "__name__" → mb x = bootBuiltins x)
    (lim : s.heap.NoLimit) (gn : s.gens = #[]) (ha : s.heap.get? a = some (scr vs)) (hi : IntsAre vs ns) (hl : ns.length ≤ sizeLine) (hr : Room k callerA)
    (F : ∀ base : Heap, K.In base → base.Ns mainGlobals mg → FG P w K mg base CX k fa fd [x] sp)
    (bd : ∀ (s : Shared) (u : Value), BindsTo s fd ⟨[u], []⟩ [(x, u)])
    (prom : ∀ H : Hp, SqL K H a (ns.map V.int) → sp [.ref a] H (fun v _ => v = .bl true) fun _ _ _ => False)
    (noX : ∀ H e s2, CX [] H s (fun _ _ _ => False) e s2 → False) :
    codeAny (model P w) callerA (.call (.ref fa) ⟨[.ref a], []⟩)
      (fun r s2 => r = .ok (.ret (.bool true)) ∧ OldK s.heap s2.heap ∧ s2.os = s.os ∧ AllBare s2.gens) s := by
  have rv := vals_ints hi
  have lenV := hi.length
  cases hk : K.lookup a with
  | some o =>
    have e := KX a o hk
    rw [ha] at e
    cases e
    refine core_g (H := fun _ => none) KX g1 b1 b2 lim gn ha hr F bd (prom _ (.inr ⟨_, vs.toArray, _, hk, rfl, rfl, rfl, ?_, by simpa using rv⟩)) (noX _) ?_ ?_
    · rw [List.size_toArray, lenV]
      exact hl
    · intro b u z
      have z2 : (none : Option HO) = some u := z
      cases z2
    · intro b z
      exact absurd rfl z
  | none =>
    have at_ : (fun b => if b = a then some (HO.frz (scr vs) (.lst (ns.map V.int))) else none : Hp) a = some (.frz (scr vs) (.lst (ns.map V.int))) := if_pos rfl
    refine core_g (H := fun b => if b = a then some (.frz (scr vs) (.lst (ns.map V.int))) else none) KX g1 b1 b2 lim gn ha hr F bd (prom _ (.inl (.inr ⟨_, at_⟩))) (noX _) ?_ ?_
    · intro b u z
      by_cases hb : b = a
      · have z2 := (if_pos hb).symm.trans z
        cases z2
        subst hb
        exact ⟨ha, by rw [List.length_map]; exact hl, vs, _, rv, ha⟩
      · have z2 := (if_neg hb).symm.trans z
        cases z2
    · intro b z
      by_cases hb : b = a
      · exact ⟨hb, hk, _, if_pos hb⟩
      · exact absurd (if_neg hb) z
end
/-- the end of a law's row -/
theorem end_g {l : PySem.W.OpenLaw} {n k : Nat} {q : Program} {loose : List Str} {XP : (Str → Option Value) → Heap → Prop} {YP : World → Heap → Prop} {d : DefRec} {CX : CXT} {x : Str}
    (hn : l.most = some n) (hn2 : n ≤ sizeLine) (hdf : d.params.defaults = []) (hr : Room k callerA)
    (F : ∀ (w : World) (mg : Str → Option Value) (fa : Addr) (h : Heap), YP w h → h.Ns mainGlobals mg → mg d.name = some (.ref fa) →
      ∃ (K : PySem.W.Frag) (fd : FuncData) (sp : Sp), K.In h ∧ (∀ (s : Shared) (u : Value), BindsTo s fd ⟨[u], []⟩ [(x, u)]) ∧
        (∀ (H : Hp) (a : Addr) (ns : List Int), ns.length ≤ n → SqL K H a (ns.map V.int) → sp [.ref a] H (fun v _ => v = .bl true) fun _ _ _ => False) ∧
        ∀ base : Heap, K.In base → base.Ns mainGlobals mg → FG l.prog w K mg base CX k fa fd [x] sp)
    (noX : ∀ (H : Hp) (s : Shared) (e : Value) (s2 : Shared), CX [] H s (fun _ _ _ => False) e s2 → False) :
    PySem.W.WalkO q loose XP YP l.row.toRowW d [] (fun f vs => PySem.call f vs) := by
  refine Att.attach_call hn hdf ?_
  intro w s₀ s₁ mg mb fa o pm cd doc a vs ns G Y ho hd hcd hmg hobj hints hlen hg
  obtain ⟨K, fd, sp, KX, hb, hsp, hF⟩ := F w mg fa _ Y G.T.g hmg
  exact law_g KX G.T.g G.T.b G.T.builtins G.T.nolimit hg hobj hints (Nat.le_trans hlen hn2) hr hF hb (fun H hS => hsp H a ns hlen hS) fun H e s2 => noX H s₁ e s2
end Own

set_option Elab.async false
set_option linter.all false
set_option maxRecDepth 100000
set_option maxHeartbeats 2000000
namespace Own
open PySem PySem.Spec PyProof.Rows L2
open PySem.W (Frag)

/-! ### defs by where they stand -/
def fdOf (K : Frag) (f : Addr) : FuncData := match K.lookup f with
  | some ⟨_, _, .func fd, _⟩ => fd
  | _ => PySem.W.fnOf "" "" { posonlyargs := [], args := [], vararg := none, kwonlyargs := [], kw_defaults := [], kwarg := none, defaults := [] } [] { kind := .function, names := [], isGenerator := false, isCoroutine := false } .none .none .none .none none .none .none
structure DX where
  adr : Frag → Addr
  name : Str
  qual : Str
  st : Stmt
  dvs : List V := []
abbrev See : Type := Option (Str × Str × Arguments × FuncBody × Scope × Addr × List (Str × Addr) × Addr)
def seeFn (fd : FuncData) : See := some (fd.name, fd.qualname, fd.params, fd.body, fd.scope, fd.globals, fd.closure, fd.builtins)
def DX.see (K : Frag) (d : DX) : See := match K.lookup (d.adr K) with
  | some ⟨_, _, .func fd, _⟩ => seeFn fd
  | _ => none
def DX.want (d : DX) : See := some (d.name, d.qual, defArgs d.st, .stmts (defBody d.st), defScope d.st, mainGlobals, [], builtinsNs)
def DX.good (K : Frag) (d : DX) : Bool := PySem.W.keepIn K (.ref (d.adr K)) && (match K.lookup (d.adr K) with
  | some ⟨_, _, .func fd, _⟩ => PySem.W.codeIn K fd.code d.qual && He.dflB K fd.defaults d.dvs
  | _ => false)
abbrev FX (K : Frag) (name qual : Str) (st : Stmt) (dvs : List V) (f : Addr) : Prop := FunD K name qual (defArgs st) (defBody st) (defScope st) dvs [] f (fdOf K f)
theorem DX.fun {K : Frag} {d : DX} (e : d.see K = d.want) (c : d.good K = true) : FX K d.name d.qual d.st d.dvs (d.adr K) := by
  obtain ⟨kp, c⟩ := Bool.and_eq_true_iff.mp c
  unfold DX.see at e
  cases q : K.lookup (d.adr K) with
  | none => rw [q] at c; cases c
  | some o =>
    obtain ⟨oc, od, dt, osl⟩ := o
    rw [q] at c e
    cases dt with
    | func fd =>
      have hfd : fdOf K (d.adr K) = fd := by unfold fdOf; rw [q]
      obtain ⟨c1, c2⟩ := Bool.and_eq_true_iff.mp (show (PySem.W.codeIn K fd.code d.qual && He.dflB K fd.defaults d.dvs) = true from c)
      have e2 : seeFn fd = some (d.name, d.qual, defArgs d.st, .stmts (defBody d.st), defScope d.st, mainGlobals, [], builtinsNs) := e
      unfold FX
      rw [hfd]
      obtain ⟨n1, n2, n3, n4, n5, n6, n7, n8, n9, n10, n11, n12, n13, n14, n15⟩ := fd
      unfold seeFn at e2
      simp only [Option.some.injEq, Prod.mk.injEq] at e2
      obtain ⟨h1, h2, h3, h4, h5, h6, h7, h8⟩ := e2
      subst h1 h2 h3 h4 h5 h6 h7 h8
      exact ⟨⟨oc, od, n8, n9, n10, n11, n12, n13, n14, osl, rfl, q, c1, He.dflB_ok c2, .inl rfl⟩, kp⟩
    | _ => cases c

/-! ### the hook: any facts that a Bool tells of the written part -/
abbrev AlX : Type := Bool × List See
def obsX (fs : List (Frag → Bool)) (ds : List DX) (K : Frag) : AlX := ((fs.all fun f => f K) && ds.all fun d => d.good K, ds.map fun d => d.see K)
def valX (ds : List DX) : AlX := (true, ds.map DX.want)
def SaysX (fs : List (Frag → Bool)) (ds : List DX) (K : Frag) : Prop := obsX fs ds K = valX ds
/-- what the module's names, and the C statics, reach in n steps -/
def asX (g : Addr → Option Obj) : Nat → List Addr
  | 0 => [mainGlobals, cStatics]
  | n + 1 => He.growD g (asX g n)
def obsXG (n : Nat) (fs : List (Frag → Bool)) (ds : List DX) (g : Addr → Option Obj) : AlX := obsX fs ds (He.frG g (asX g n))
def hookX (n : Nat) (fs : List (Frag → Bool)) (ds : List DX) : PySem.W.Hook where
  α := AlX
  obs := fun s => obsXG n fs ds s.heap.get?
  val := fun _ => valX ds
  says := fun _ h => ∃ K : Frag, K.In h ∧ SaysX fs ds K
  of := fun _ _ e => ⟨_, He.frG_in, e⟩
  keeps := fun _ _ _ ⟨K, hK, c⟩ k => ⟨K, PySem.W.Frag.In.keeps hK k, c⟩
theorem obsXG_eq {n : Nat} {fs : List (Frag → Bool)} {ds : List DX} {g : Addr → Option Obj} {s : Shared} (h : ∀ a, g a = s.heap.get? a) : obsXG n fs ds g = (hookX n fs ds).obs s := by
  have e : g = s.heap.get? := funext h
  subst e
  rfl
section
variable {fs : List (Frag → Bool)} {ds : List DX} {K : Frag}
theorem SaysX.at_ (c : SaysX fs ds K) (i : Nat) {f : Frag → Bool} (h : fs[i]? = some f := by rfl) : f K = true := by
  have c0 : ((fs.all fun f => f K) && ds.all fun d => d.good K) = true := congrArg Prod.fst c
  exact List.all_eq_true.mp (Bool.and_eq_true_iff.mp c0).1 f (List.mem_of_getElem? h)
theorem SaysX.fn (c : SaysX fs ds K) (i : Nat) {d : DX} (h : ds[i]? = some d := by rfl) : FX K d.name d.qual d.st d.dvs (d.adr K) := by
  have c0 : ((fs.all fun f => f K) && ds.all fun d => d.good K) = true := congrArg Prod.fst c
  have c1 : (ds.map fun d => d.see K) = ds.map DX.want := congrArg Prod.snd c
  have c2 : (ds.map fun d => d.see K)[i]? = (ds.map DX.want)[i]? := by rw [c1]
  rw [List.getElem?_map, List.getElem?_map, h] at c2
  exact DX.fun (Option.some.inj c2) (List.all_eq_true.mp (Bool.and_eq_true_iff.mp c0).2 d (List.mem_of_getElem? h))
end

/-! ### facts of a class by names -/
abbrev ga := He.ga
abbrev ma := He.ma
/-- the getter of the property f, the def of the classmethod m -/
def gt (K : Frag) (x f : Str) : Addr := match PySem.W.recIn K (ma K (ga K x) f) "property" with
  | some (.ref g :: _) => g
  | _ => 0
def cmP (K : Frag) (x m : Str) : Addr := match PySem.W.findCls K (.ref (ga K x)) (.type "type") m with
  | some (.get _ (.ref p) _ _) => p
  | _ => 0
def cmG (K : Frag) (x m : Str) : Addr := match PySem.W.recIn K (cmP K x m) "classmethod" with
  | some (.ref g :: _) => g
  | _ => 0
def bProp (x f : Str) (K : Frag) : Bool := He.eqO (PySem.W.findIn K (.ref (ga K x)) f) (some (some (.ref (ma K (ga K x) f)))) &&
  (He.eqO (PySem.W.specialIn K (.ref (ma K (ga K x) f)) "__get__") (some (some (.builtin "property.__get__"))) && (decide (PySem.W.takesIn K (.ref (ma K (ga K x) f)) = some true) &&
  (match PySem.W.recIn K (ma K (ga K x) f) "property" with | some (.ref g :: _) => decide (g = gt K x f) | _ => false)))
theorem bProp_ok {K : Frag} {x f : Str} (c : bProp x f K = true) : PropOf K (ga K x) f (ma K (ga K x) f) (gt K x f) := by
  obtain ⟨c1, c⟩ := Bool.and_eq_true_iff.mp c
  obtain ⟨c2, c⟩ := Bool.and_eq_true_iff.mp c
  obtain ⟨c3, c4⟩ := Bool.and_eq_true_iff.mp c
  refine ⟨He.eqO_ok c1, He.eqO_ok c2, of_decide_eq_true c3, ?_⟩
  split at c4
  · rename_i g r e
    have h := of_decide_eq_true c4
    subst h
    exact ⟨r, e⟩
  · cases c4
def bNum (x : Str) (nm : String) (K : Frag) : Bool := PySem.W.selfFirst K (ga K x) && (He.eqO (PySem.W.findIn K (.ref (ga K x)) (PySem.dunder nm)) (some (some (.ref (ma K (ga K x) (PySem.dunder nm))))) && PySem.W.isFn K (.ref (ma K (ga K x) (PySem.dunder nm))))
theorem bNum_ok {K : Frag} {x : Str} {nm : String} (c : bNum x nm K = true) : Num K (ga K x) nm (ma K (ga K x) (PySem.dunder nm)) := by
  obtain ⟨c1, c⟩ := Bool.and_eq_true_iff.mp c
  obtain ⟨c2, c3⟩ := Bool.and_eq_true_iff.mp c
  exact ⟨c1, He.eqO_ok c2, c3⟩
def bNumI (x : Str) (nm : String) (K : Frag) : Bool := bNum x nm K && (He.eqO (PySem.W.findIn K (.ref (ga K x)) (dunderR nm)) (some (some (.ref (ma K (ga K x) (dunderR nm))))) && (PySem.W.isFn K (.ref (ma K (ga K x) (dunderR nm))) &&
  (decide (PySem.W.subIn K (.ref (ga K x)) (.type "int") = some false) && (decide (PySem.W.subIn K (.type "int") (.ref (ga K x)) = some false) && ((PySem.W.findIn K (.type "int") (PySem.dunder nm)).isSome && (PySem.W.findIn K (.type "int") (dunderR nm)).isSome)))))
theorem bNumI_ok {K : Frag} {x : Str} {nm : String} (c : bNumI x nm K = true) : Num K (ga K x) nm (ma K (ga K x) (PySem.dunder nm)) ∧
    NumI K (ga K x) nm (ma K (ga K x) (PySem.dunder nm)) (ma K (ga K x) (dunderR nm)) ∧ NumR K (ga K x) nm (some (.ref (ma K (ga K x) (dunderR nm)))) ∧ NumT K (ga K x) "int" nm := by
  obtain ⟨c0, c⟩ := Bool.and_eq_true_iff.mp c
  obtain ⟨c1, c⟩ := Bool.and_eq_true_iff.mp c
  obtain ⟨c2, c⟩ := Bool.and_eq_true_iff.mp c
  obtain ⟨c3, c⟩ := Bool.and_eq_true_iff.mp c
  obtain ⟨c4, c⟩ := Bool.and_eq_true_iff.mp c
  obtain ⟨c5, c6⟩ := Bool.and_eq_true_iff.mp c
  have n0 := bNum_ok c0
  exact ⟨n0, ⟨n0.sf, n0.fnd, He.eqO_ok c1, c2, of_decide_eq_true c3⟩, ⟨He.eqO_ok c1, .inr ⟨_, rfl⟩⟩, ⟨Option.isSome_iff_exists.mp c5, Option.isSome_iff_exists.mp c6, of_decide_eq_true c4⟩⟩
/-- a special method of one's own that is found: __neg__, __str__, __repr__ -/
def bSpec (x m : Str) (K : Frag) : Bool := He.eqO (PySem.W.findIn K (.ref (ga K x)) m) (some (some (.ref (ma K (ga K x) m)))) && PySem.W.isFn K (.ref (ma K (ga K x) m))
theorem bSpec_ok {K : Frag} {x m : Str} (c : bSpec x m K = true) : PySem.W.findIn K (.ref (ga K x)) m = some (some (.ref (ma K (ga K x) m))) ∧ PySem.W.isFn K (.ref (ma K (ga K x) m)) = true := by
  obtain ⟨c1, c2⟩ := Bool.and_eq_true_iff.mp c
  exact ⟨He.eqO_ok c1, c2⟩
def bEq (x : Str) (K : Frag) : Bool := PySem.W.notFirst K (ga K x) (.ref (ga K x)) && (PySem.W.notFirst K (ga K x) (.type "int") && (bSpec x "__eq__" K &&
  (He.eqO (PySem.W.findIn K (.ref (ga K x)) "__ne__") (some (some (.builtin "object.__ne__"))) && (decide (PySem.W.mroIn K (ga K x) (.type "object") = some true) && decide (PySem.W.subIn K (.ref (ga K x)) (.type "int") = some false)))))
theorem bEq_ok {K : Frag} {x : Str} (c : bEq x K = true) : EqC K (ga K x) (ma K (ga K x) "__eq__") := by
  obtain ⟨c0, c⟩ := Bool.and_eq_true_iff.mp c
  obtain ⟨c1, c⟩ := Bool.and_eq_true_iff.mp c
  obtain ⟨c2, c⟩ := Bool.and_eq_true_iff.mp c
  obtain ⟨c3, c⟩ := Bool.and_eq_true_iff.mp c
  obtain ⟨c4, c5⟩ := Bool.and_eq_true_iff.mp c
  exact ⟨c0, c1, (bSpec_ok c2).1, (bSpec_ok c2).2, He.eqO_ok c3, of_decide_eq_true c4, of_decide_eq_true c5⟩
/-- what isinstance asks of an instance of the class -/
structure IsC (K : Frag) (C : Addr) : Prop where
  ha : PySem.W.findIn K (.ref C) "__class__" = some (some (.builtin "object.__class__"))
  hn : PySem.W.specialIn K (.builtin "object.__class__") "__get__" = some (some (.builtin "getset_descriptor.__get__"))
  htk : PySem.W.takesIn K (.builtin "object.__class__") = some true
  hm : PySem.W.mroIn K C (.type "object") = some true
def bIs (x : Str) (K : Frag) : Bool := He.eqO (PySem.W.findIn K (.ref (ga K x)) "__class__") (some (some (.builtin "object.__class__"))) && (He.eqO (PySem.W.specialIn K (.builtin "object.__class__") "__get__") (some (some (.builtin "getset_descriptor.__get__"))) &&
  (decide (PySem.W.takesIn K (.builtin "object.__class__") = some true) && decide (PySem.W.mroIn K (ga K x) (.type "object") = some true)))
theorem bIs_ok {K : Frag} {x : Str} (c : bIs x K = true) : IsC K (ga K x) := by
  obtain ⟨c0, c⟩ := Bool.and_eq_true_iff.mp c
  obtain ⟨c1, c⟩ := Bool.and_eq_true_iff.mp c
  obtain ⟨c2, c3⟩ := Bool.and_eq_true_iff.mp c
  exact ⟨He.eqO_ok c0, He.eqO_ok c1, of_decide_eq_true c2, of_decide_eq_true c3⟩
theorem IsC.ty {K : Frag} {C a dx : Addr} {H : Hp} {fs : List (Str × V)} (k : IsC K C) (c : Cls K C) (e : H a = some (.ins C dx fs)) : TyX K H (.ref a) (.ref C) := .base (.ins e c k.ha k.hn k.htk k.hm)
/-- isinstance of a value of the type t by the class x: b; of an instance of x by the built-in type t: b -/
def bKitO (t : String) (x : Str) (b : Bool) (K : Frag) : Bool := decide (PySem.W.kitOne K (.type t) (.ref (ga K x)) = some b)
theorem bKitO_ok {K : Frag} {t : String} {x : Str} {b : Bool} (c : bKitO t x b K = true) : PySem.W.kitOne K (.type t) (.ref (ga K x)) = some b := of_decide_eq_true c
def bKitT (x : Str) (t : String) (b : Bool) (K : Frag) : Bool := decide (PySem.W.kitOne K (.ref (ga K x)) (.type t) = some b)
theorem bKitT_ok {K : Frag} {t : String} {x : Str} {b : Bool} (c : bKitT x t b K = true) : PySem.W.kitOne K (.ref (ga K x)) (.type t) = some b := of_decide_eq_true c
def bKitC (x y : Str) (b : Bool) (K : Frag) : Bool := decide (PySem.W.kitOne K (.ref (ga K x)) (.ref (ga K y)) = some b)
theorem bKitC_ok {K : Frag} {x y : Str} {b : Bool} (c : bKitC x y b K = true) : PySem.W.kitOne K (.ref (ga K x)) (.ref (ga K y)) = some b := of_decide_eq_true c
/-- the class method m of x -/
def bCm (x m : Str) (K : Frag) : Bool := PySem.W.readsIn K (ga K x) (.type "type") && (He.eqO (PySem.W.specialIn K (.ref (ga K x)) "__getattribute__") (some (some (.builtin "type.__getattribute__"))) && ((match PySem.W.findCls K (.ref (ga K x)) (.type "type") m with
  | some (.get (.builtin b) (.ref p) .none (.ref c)) => decide (b = "classmethod.__get__") && (decide (p = cmP K x m) && decide (c = ga K x))
  | _ => false) && ((match PySem.W.recIn K (cmP K x m) "classmethod" with | some (.ref g :: _) => decide (g = cmG K x m) | _ => false) && PySem.W.fnIn K (cmG K x m))))
theorem bCm_ok {K : Frag} {x m : Str} (c : bCm x m K = true) : ClX.CRead K (ga K x) (.type "type") ∧ ClX.CMet K (ga K x) (.type "type") m (cmP K x m) (cmG K x m) := by
  obtain ⟨c0, c⟩ := Bool.and_eq_true_iff.mp c
  obtain ⟨c1, c⟩ := Bool.and_eq_true_iff.mp c
  obtain ⟨c2, c⟩ := Bool.and_eq_true_iff.mp c
  obtain ⟨c3, c4⟩ := Bool.and_eq_true_iff.mp c
  refine ⟨⟨c0, He.eqO_ok c1⟩, ?_, ?_, c4⟩
  · split at c2
    · rename_i b p cc e
      obtain ⟨d1, d⟩ := Bool.and_eq_true_iff.mp c2
      obtain ⟨d2, d3⟩ := Bool.and_eq_true_iff.mp d
      rw [e, of_decide_eq_true d1, of_decide_eq_true d2, of_decide_eq_true d3]
    · cases c2
  · split at c3
    · rename_i g r e
      rw [← of_decide_eq_true c3]
      exact ⟨r, e⟩
    · cases c3
/-- a module's name that stands for a built-in function -/
def bBlt (x : Str) (id : String) (K : Frag) : Bool := (match PySem.W.nsIn K mainGlobals x with | some (some (.builtin i)) => decide (i = id) | _ => false)
theorem bBlt_ok {K : Frag} {h : Heap} {mg : Str → Option Value} (X : K.In h) (G : h.Ns mainGlobals mg) {x : Str} {id : String} (c : bBlt x id K = true) : mg x = some (.builtin id) := by
  unfold bBlt at c
  split at c
  · rename_i i e
    rw [of_decide_eq_true c] at e
    exact PySem.W.mg_of X G e
  · cases c
end Own

set_option Elab.async false
set_option linter.all false
set_option maxRecDepth 100000
set_option maxHeartbeats 4000000
namespace K11
open PySem PySem.Spec PyProof.Rows L2 Own
def top (i : Nat) : Stmt := PySem.Challenge.pw_producttables_k11_ratios_reckoned.main.body.getD i (.Pass ⟨0, 0, 0, 0⟩)
abbrev s_is_integer : Stmt := top 2
theorem sc_is_integer : FnScope ["value"] ["value"] (defScope s_is_integer) := ⟨rfl, rfl, rfl, by decide +kernel, rfl, by decide +kernel, by decide +kernel⟩
abbrev s_is_count : Stmt := top 3
theorem sc_is_count : FnScope ["value"] ["value"] (defScope s_is_count) := ⟨rfl, rfl, rfl, by decide +kernel, rfl, by decide +kernel, by decide +kernel⟩
abbrev s_is_list : Stmt := top 4
theorem sc_is_list : FnScope ["value"] ["value"] (defScope s_is_list) := ⟨rfl, rfl, rfl, by decide +kernel, rfl, by decide +kernel, by decide +kernel⟩
abbrev s_Ratio_init : Stmt := inClass (top 10) 0
theorem sc_Ratio_init : FnScope ["self", "top", "bottom", "value", "shared"] ["self", "top", "bottom"] (defScope s_Ratio_init) := ⟨rfl, rfl, rfl, by decide +kernel, rfl, by decide +kernel, by decide +kernel⟩
abbrev s_Ratio_top : Stmt := inClass (top 10) 1
theorem sc_Ratio_top : FnScope ["self"] ["self"] (defScope s_Ratio_top) := ⟨rfl, rfl, rfl, by decide +kernel, rfl, by decide +kernel, by decide +kernel⟩
abbrev s_Ratio_bottom : Stmt := inClass (top 10) 2
theorem sc_Ratio_bottom : FnScope ["self"] ["self"] (defScope s_Ratio_bottom) := ⟨rfl, rfl, rfl, by decide +kernel, rfl, by decide +kernel, by decide +kernel⟩
abbrev s_Ratio_sign : Stmt := inClass (top 10) 3
theorem sc_Ratio_sign : FnScope ["self"] ["self"] (defScope s_Ratio_sign) := ⟨rfl, rfl, rfl, by decide +kernel, rfl, by decide +kernel, by decide +kernel⟩
abbrev s_Ratio_is_whole : Stmt := inClass (top 10) 4
theorem sc_Ratio_is_whole : FnScope ["self"] ["self"] (defScope s_Ratio_is_whole) := ⟨rfl, rfl, rfl, by decide +kernel, rfl, by decide +kernel, by decide +kernel⟩
abbrev s_Ratio_add : Stmt := inClass (top 10) 5
theorem sc_Ratio_add : FnScope ["self", "other", "right", "top"] ["self", "other"] (defScope s_Ratio_add) := ⟨rfl, rfl, rfl, by decide +kernel, rfl, by decide +kernel, by decide +kernel⟩
abbrev s_Ratio_radd : Stmt := inClass (top 10) 6
theorem sc_Ratio_radd : FnScope ["self", "other"] ["self", "other"] (defScope s_Ratio_radd) := ⟨rfl, rfl, rfl, by decide +kernel, rfl, by decide +kernel, by decide +kernel⟩
abbrev s_Ratio_sub : Stmt := inClass (top 10) 7
theorem sc_Ratio_sub : FnScope ["self", "other", "right", "top"] ["self", "other"] (defScope s_Ratio_sub) := ⟨rfl, rfl, rfl, by decide +kernel, rfl, by decide +kernel, by decide +kernel⟩
abbrev s_Ratio_rsub : Stmt := inClass (top 10) 8
theorem sc_Ratio_rsub : FnScope ["self", "other"] ["self", "other"] (defScope s_Ratio_rsub) := ⟨rfl, rfl, rfl, by decide +kernel, rfl, by decide +kernel, by decide +kernel⟩
abbrev s_Ratio_mul : Stmt := inClass (top 10) 9
theorem sc_Ratio_mul : FnScope ["self", "other", "right"] ["self", "other"] (defScope s_Ratio_mul) := ⟨rfl, rfl, rfl, by decide +kernel, rfl, by decide +kernel, by decide +kernel⟩
abbrev s_Ratio_rmul : Stmt := inClass (top 10) 10
theorem sc_Ratio_rmul : FnScope ["self", "other"] ["self", "other"] (defScope s_Ratio_rmul) := ⟨rfl, rfl, rfl, by decide +kernel, rfl, by decide +kernel, by decide +kernel⟩
abbrev s_Ratio_neg : Stmt := inClass (top 10) 11
theorem sc_Ratio_neg : FnScope ["self"] ["self"] (defScope s_Ratio_neg) := ⟨rfl, rfl, rfl, by decide +kernel, rfl, by decide +kernel, by decide +kernel⟩
abbrev s_Ratio_over : Stmt := inClass (top 10) 12
theorem sc_Ratio_over : FnScope ["self", "other", "right"] ["self", "other"] (defScope s_Ratio_over) := ⟨rfl, rfl, rfl, by decide +kernel, rfl, by decide +kernel, by decide +kernel⟩
abbrev s_Ratio_unsigned : Stmt := inClass (top 10) 13
theorem sc_Ratio_unsigned : FnScope ["self"] ["self"] (defScope s_Ratio_unsigned) := ⟨rfl, rfl, rfl, by decide +kernel, rfl, by decide +kernel, by decide +kernel⟩
abbrev s_Ratio_is_below : Stmt := inClass (top 10) 14
theorem sc_Ratio_is_below : FnScope ["self", "other", "right"] ["self", "other"] (defScope s_Ratio_is_below) := ⟨rfl, rfl, rfl, by decide +kernel, rfl, by decide +kernel, by decide +kernel⟩
abbrev s_Ratio_is_at_most : Stmt := inClass (top 10) 15
theorem sc_Ratio_is_at_most : FnScope ["self", "other", "right"] ["self", "other"] (defScope s_Ratio_is_at_most) := ⟨rfl, rfl, rfl, by decide +kernel, rfl, by decide +kernel, by decide +kernel⟩
abbrev s_Ratio_total : Stmt := inClass (top 10) 16
theorem sc_Ratio_total : FnScope ["cls", "numbers", "added", "number"] ["cls", "numbers"] (defScope s_Ratio_total) := ⟨rfl, rfl, rfl, by decide +kernel, rfl, by decide +kernel, by decide +kernel⟩
abbrev s_Ratio_eq : Stmt := inClass (top 10) 17
theorem sc_Ratio_eq : FnScope ["self", "other"] ["self", "other"] (defScope s_Ratio_eq) := ⟨rfl, rfl, rfl, by decide +kernel, rfl, by decide +kernel, by decide +kernel⟩
abbrev s_Ratio_str : Stmt := inClass (top 10) 18
theorem sc_Ratio_str : FnScope ["self"] ["self"] (defScope s_Ratio_str) := ⟨rfl, rfl, rfl, by decide +kernel, rfl, by decide +kernel, by decide +kernel⟩
abbrev s_Ratio_repr : Stmt := inClass (top 10) 19
theorem sc_Ratio_repr : FnScope ["self"] ["self"] (defScope s_Ratio_repr) := ⟨rfl, rfl, rfl, by decide +kernel, rfl, by decide +kernel, by decide +kernel⟩
abbrev s_is_number : Stmt := top 11
theorem sc_is_number : FnScope ["value"] ["value"] (defScope s_is_number) := ⟨rfl, rfl, rfl, by decide +kernel, rfl, by decide +kernel, by decide +kernel⟩
abbrev s_as_ratio : Stmt := top 12
theorem sc_as_ratio : FnScope ["number"] ["number"] (defScope s_as_ratio) := ⟨rfl, rfl, rfl, by decide +kernel, rfl, by decide +kernel, by decide +kernel⟩
abbrev s_law_pot : Stmt := top 14
theorem sc_law_pot : FnScope ["_law_script", "_law_k", "_law_cell"] ["_law_script", "_law_k"] (defScope s_law_pot) := ⟨rfl, rfl, rfl, by decide +kernel, rfl, by decide +kernel, by decide +kernel⟩
abbrev s_law_draw : Stmt := top 15
theorem sc_law_draw : FnScope ["_law_pot_here", "_law_size", "_law_digit"] ["_law_pot_here", "_law_size"] (defScope s_law_draw) := ⟨rfl, rfl, rfl, by decide +kernel, rfl, by decide +kernel, by decide +kernel⟩
abbrev s_law_pick : Stmt := top 16
theorem sc_law_pick : FnScope ["_law_pot_here", "_law_some"] ["_law_pot_here", "_law_some"] (defScope s_law_pick) := ⟨rfl, rfl, rfl, by decide +kernel, rfl, by decide +kernel, by decide +kernel⟩
abbrev s_law_low : Stmt := top 17
theorem sc_law_low : FnScope ["_law_top", "_law_bottom", "_law_one", "_law_other"] ["_law_top", "_law_bottom"] (defScope s_law_low) := ⟨rfl, rfl, rfl, by decide +kernel, rfl, by decide +kernel, by decide +kernel⟩
abbrev s_law_sum : Stmt := top 18
theorem sc_law_sum : FnScope ["_law_one", "_law_other"] ["_law_one", "_law_other"] (defScope s_law_sum) := ⟨rfl, rfl, rfl, by decide +kernel, rfl, by decide +kernel, by decide +kernel⟩
abbrev s_law_by : Stmt := top 19
theorem sc_law_by : FnScope ["_law_one", "_law_other"] ["_law_one", "_law_other"] (defScope s_law_by) := ⟨rfl, rfl, rfl, by decide +kernel, rfl, by decide +kernel, by decide +kernel⟩
abbrev s_law_less : Stmt := top 20
theorem sc_law_less : FnScope ["_law_one", "_law_other"] ["_law_one", "_law_other"] (defScope s_law_less) := ⟨rfl, rfl, rfl, by decide +kernel, rfl, by decide +kernel, by decide +kernel⟩
abbrev s_law_over : Stmt := top 21
theorem sc_law_over : FnScope ["_law_one", "_law_other"] ["_law_one", "_law_other"] (defScope s_law_over) := ⟨rfl, rfl, rfl, by decide +kernel, rfl, by decide +kernel, by decide +kernel⟩
abbrev s_law_total : Stmt := top 22
theorem sc_law_total : FnScope ["_law_pairs_here", "_law_found", "_law_pair_here"] ["_law_pairs_here"] (defScope s_law_total) := ⟨rfl, rfl, rfl, by decide +kernel, rfl, by decide +kernel, by decide +kernel⟩
abbrev s_law_pair : Stmt := top 23
theorem sc_law_pair : FnScope ["_law_value"] ["_law_value"] (defScope s_law_pair) := ⟨rfl, rfl, rfl, by decide +kernel, rfl, by decide +kernel, by decide +kernel⟩
abbrev s_law_pairs : Stmt := top 24
theorem sc_law_pairs : FnScope ["_law_value", "_law_one"] ["_law_value"] (defScope s_law_pairs) := ⟨rfl, rfl, rfl, by decide +kernel, rfl, by decide +kernel, by decide +kernel⟩
abbrev s_law_shown : Stmt := top 25
theorem sc_law_shown : FnScope ["_law_pair_here"] ["_law_pair_here"] (defScope s_law_shown) := ⟨rfl, rfl, rfl, by decide +kernel, rfl, by decide +kernel, by decide +kernel⟩
abbrev s_law_raw : Stmt := top 26
theorem sc_law_raw : FnScope ["_law_pot_here", "_law_top", "_law_bottom", "_law_common", "_law_sign"] ["_law_pot_here"] (defScope s_law_raw) := ⟨rfl, rfl, rfl, by decide +kernel, rfl, by decide +kernel, by decide +kernel⟩
abbrev s_law_one_right : Stmt := top 27
theorem sc_law_one_right : FnScope ["_law_raw_here", "_law_made", "_law_pair_here", "_law_sign"] ["_law_raw_here"] (defScope s_law_one_right) := ⟨rfl, rfl, rfl, by decide +kernel, rfl, by decide +kernel, by decide +kernel⟩
abbrev s_law_two_right : Stmt := top 28
theorem sc_law_two_right : FnScope ["_law_raw_here", "_law_other_raw", "_law_number", "_law_made", "_law_mate", "_law_one", "_law_two", "_law_whole", "_law_told", "_law_due", "_law_below", "_law_above"] ["_law_raw_here", "_law_other_raw", "_law_number"] (defScope s_law_two_right) := ⟨rfl, rfl, rfl, by decide +kernel, rfl, by decide +kernel, by decide +kernel⟩
abbrev s_law_right : Stmt := top 29
theorem sc_law_right : FnScope ["_law_pot_here", "_law_raws", "_law_raw_here", "_law_turn", "_law_pairs_here", "_law_given", "_law_told", "_law_values", "_law_due", "_law_one"] ["_law_pot_here"] (defScope s_law_right) := ⟨rfl, rfl, rfl, by decide +kernel, rfl, by decide +kernel, by decide +kernel⟩
abbrev s_law : Stmt := top 30
theorem sc_law : FnScope ["_law_script"] ["_law_script"] (defScope s_law) := ⟨rfl, rfl, rfl, by decide +kernel, rfl, by decide +kernel, by decide +kernel⟩
/-! ### what stands behind the top -/
def dl : List DX := [
  ⟨fun K => ga K "is_integer", "is_integer", "is_integer", s_is_integer, []⟩,
  ⟨fun K => ga K "is_count", "is_count", "is_count", s_is_count, []⟩,
  ⟨fun K => ga K "is_list", "is_list", "is_list", s_is_list, []⟩,
  ⟨fun K => ma K (ga K "Ratio") "__init__", "__init__", "Ratio.__init__", s_Ratio_init, [.int 1]⟩,
  ⟨fun K => gt K "Ratio" "top", "top", "Ratio.top", s_Ratio_top, []⟩,
  ⟨fun K => gt K "Ratio" "bottom", "bottom", "Ratio.bottom", s_Ratio_bottom, []⟩,
  ⟨fun K => gt K "Ratio" "sign", "sign", "Ratio.sign", s_Ratio_sign, []⟩,
  ⟨fun K => gt K "Ratio" "is_whole", "is_whole", "Ratio.is_whole", s_Ratio_is_whole, []⟩,
  ⟨fun K => ma K (ga K "Ratio") "__add__", "__add__", "Ratio.__add__", s_Ratio_add, []⟩,
  ⟨fun K => ma K (ga K "Ratio") "__radd__", "__radd__", "Ratio.__radd__", s_Ratio_radd, []⟩,
  ⟨fun K => ma K (ga K "Ratio") "__sub__", "__sub__", "Ratio.__sub__", s_Ratio_sub, []⟩,
  ⟨fun K => ma K (ga K "Ratio") "__rsub__", "__rsub__", "Ratio.__rsub__", s_Ratio_rsub, []⟩,
  ⟨fun K => ma K (ga K "Ratio") "__mul__", "__mul__", "Ratio.__mul__", s_Ratio_mul, []⟩,
  ⟨fun K => ma K (ga K "Ratio") "__rmul__", "__rmul__", "Ratio.__rmul__", s_Ratio_rmul, []⟩,
  ⟨fun K => ma K (ga K "Ratio") "__neg__", "__neg__", "Ratio.__neg__", s_Ratio_neg, []⟩,
  ⟨fun K => ma K (ga K "Ratio") "over", "over", "Ratio.over", s_Ratio_over, []⟩,
  ⟨fun K => ma K (ga K "Ratio") "unsigned", "unsigned", "Ratio.unsigned", s_Ratio_unsigned, []⟩,
  ⟨fun K => ma K (ga K "Ratio") "is_below", "is_below", "Ratio.is_below", s_Ratio_is_below, []⟩,
  ⟨fun K => ma K (ga K "Ratio") "is_at_most", "is_at_most", "Ratio.is_at_most", s_Ratio_is_at_most, []⟩,
  ⟨fun K => cmG K "Ratio" "total", "total", "Ratio.total", s_Ratio_total, []⟩,
  ⟨fun K => ma K (ga K "Ratio") "__eq__", "__eq__", "Ratio.__eq__", s_Ratio_eq, []⟩,
  ⟨fun K => ma K (ga K "Ratio") "__str__", "__str__", "Ratio.__str__", s_Ratio_str, []⟩,
  ⟨fun K => ma K (ga K "Ratio") "__repr__", "__repr__", "Ratio.__repr__", s_Ratio_repr, []⟩,
  ⟨fun K => ga K "is_number", "is_number", "is_number", s_is_number, []⟩,
  ⟨fun K => ga K "as_ratio", "as_ratio", "as_ratio", s_as_ratio, []⟩,
  ⟨fun K => ga K "_law_pot", "_law_pot", "_law_pot", s_law_pot, []⟩,
  ⟨fun K => ga K "_law_draw", "_law_draw", "_law_draw", s_law_draw, []⟩,
  ⟨fun K => ga K "_law_pick", "_law_pick", "_law_pick", s_law_pick, []⟩,
  ⟨fun K => ga K "_law_low", "_law_low", "_law_low", s_law_low, []⟩,
  ⟨fun K => ga K "_law_sum", "_law_sum", "_law_sum", s_law_sum, []⟩,
  ⟨fun K => ga K "_law_by", "_law_by", "_law_by", s_law_by, []⟩,
  ⟨fun K => ga K "_law_less", "_law_less", "_law_less", s_law_less, []⟩,
  ⟨fun K => ga K "_law_over", "_law_over", "_law_over", s_law_over, []⟩,
  ⟨fun K => ga K "_law_total", "_law_total", "_law_total", s_law_total, []⟩,
  ⟨fun K => ga K "_law_pair", "_law_pair", "_law_pair", s_law_pair, []⟩,
  ⟨fun K => ga K "_law_pairs", "_law_pairs", "_law_pairs", s_law_pairs, []⟩,
  ⟨fun K => ga K "_law_shown", "_law_shown", "_law_shown", s_law_shown, []⟩,
  ⟨fun K => ga K "_law_raw", "_law_raw", "_law_raw", s_law_raw, []⟩,
  ⟨fun K => ga K "_law_one_right", "_law_one_right", "_law_one_right", s_law_one_right, []⟩,
  ⟨fun K => ga K "_law_two_right", "_law_two_right", "_law_two_right", s_law_two_right, []⟩,
  ⟨fun K => ga K "_law_right", "_law_right", "_law_right", s_law_right, []⟩,
  ⟨fun K => ga K "law", "law", "law", s_law, []⟩]
def fl : List (PySem.W.Frag → Bool) := [
  fun K => (He.Fa.glo "is_integer").ok K,
  fun K => (He.Fa.glo "is_count").ok K,
  fun K => (He.Fa.glo "is_list").ok K,
  fun K => (He.Fa.glo "is_number").ok K,
  fun K => (He.Fa.glo "as_ratio").ok K,
  fun K => (He.Fa.glo "_law_pot").ok K,
  fun K => (He.Fa.glo "_law_draw").ok K,
  fun K => (He.Fa.glo "_law_pick").ok K,
  fun K => (He.Fa.glo "_law_low").ok K,
  fun K => (He.Fa.glo "_law_sum").ok K,
  fun K => (He.Fa.glo "_law_by").ok K,
  fun K => (He.Fa.glo "_law_less").ok K,
  fun K => (He.Fa.glo "_law_over").ok K,
  fun K => (He.Fa.glo "_law_total").ok K,
  fun K => (He.Fa.glo "_law_pair").ok K,
  fun K => (He.Fa.glo "_law_pairs").ok K,
  fun K => (He.Fa.glo "_law_shown").ok K,
  fun K => (He.Fa.glo "_law_raw").ok K,
  fun K => (He.Fa.glo "_law_one_right").ok K,
  fun K => (He.Fa.glo "_law_two_right").ok K,
  fun K => (He.Fa.glo "_law_right").ok K,
  fun K => (He.Fa.glo "law").ok K,
  fun K => (He.Fa.free "isinstance").ok K,
  fun K => (He.Fa.free "int").ok K,
  fun K => (He.Fa.free "bool").ok K,
  fun K => (He.Fa.free "list").ok K,
  fun K => (He.Fa.free "tuple").ok K,
  fun K => (He.Fa.free "abs").ok K,
  fun K => (He.Fa.free "str").ok K,
  fun K => (He.Fa.free "len").ok K,
  fun K => (He.Fa.free "max").ok K,
  fun K => (He.Fa.free "divmod").ok K,
  fun K => (He.Fa.free "repr").ok K,
  fun K => (He.Fa.free "range").ok K,
  bBlt "gcd" "math.gcd",
  fun K => (He.Fa.glo "Ratio").ok K,
  fun K => (He.Fa.cls "Ratio").ok K,
  fun K => (He.Fa.mkr "Ratio").ok K,
  bIs "Ratio",
  fun K => (He.Fa.noat "Ratio" "_top").ok K,
  fun K => (He.Fa.noat "Ratio" "_bottom").ok K,
  bProp "Ratio" "top",
  bProp "Ratio" "bottom",
  bProp "Ratio" "sign",
  bProp "Ratio" "is_whole",
  fun K => (He.Fa.meth "Ratio" "over").ok K,
  fun K => (He.Fa.meth "Ratio" "unsigned").ok K,
  fun K => (He.Fa.meth "Ratio" "is_below").ok K,
  fun K => (He.Fa.meth "Ratio" "is_at_most").ok K,
  bCm "Ratio" "total",
  bNumI "Ratio" "add",
  bNumI "Ratio" "sub",
  bNumI "Ratio" "mul",
  bSpec "Ratio" "__neg__",
  bSpec "Ratio" "__str__",
  bSpec "Ratio" "__repr__",
  bEq "Ratio",
  bKitO "int" "Ratio" false,
  bKitO "bool" "Ratio" false,
  bKitO "NoneType" "Ratio" false,
  bKitO "str" "Ratio" false,
  bKitO "list" "Ratio" false,
  bKitO "tuple" "Ratio" false,
  bKitT "Ratio" "int" false,
  bKitT "Ratio" "bool" false,
  bKitT "Ratio" "list" false,
  bKitT "Ratio" "tuple" false,
  bKitC "Ratio" "Ratio" true]
structure Tx (K : PySem.W.Frag) (mg : Str → Option Value) : Prop where
  F_is_integer : FX K "is_integer" "is_integer" s_is_integer [] (ga K "is_integer")
  F_is_count : FX K "is_count" "is_count" s_is_count [] (ga K "is_count")
  F_is_list : FX K "is_list" "is_list" s_is_list [] (ga K "is_list")
  F_Ratio_init : FX K "__init__" "Ratio.__init__" s_Ratio_init [.int 1] (ma K (ga K "Ratio") "__init__")
  F_Ratio_top : FX K "top" "Ratio.top" s_Ratio_top [] (gt K "Ratio" "top")
  F_Ratio_bottom : FX K "bottom" "Ratio.bottom" s_Ratio_bottom [] (gt K "Ratio" "bottom")
  F_Ratio_sign : FX K "sign" "Ratio.sign" s_Ratio_sign [] (gt K "Ratio" "sign")
  F_Ratio_is_whole : FX K "is_whole" "Ratio.is_whole" s_Ratio_is_whole [] (gt K "Ratio" "is_whole")
  F_Ratio_add : FX K "__add__" "Ratio.__add__" s_Ratio_add [] (ma K (ga K "Ratio") "__add__")
  F_Ratio_radd : FX K "__radd__" "Ratio.__radd__" s_Ratio_radd [] (ma K (ga K "Ratio") "__radd__")
  F_Ratio_sub : FX K "__sub__" "Ratio.__sub__" s_Ratio_sub [] (ma K (ga K "Ratio") "__sub__")
  F_Ratio_rsub : FX K "__rsub__" "Ratio.__rsub__" s_Ratio_rsub [] (ma K (ga K "Ratio") "__rsub__")
  F_Ratio_mul : FX K "__mul__" "Ratio.__mul__" s_Ratio_mul [] (ma K (ga K "Ratio") "__mul__")
  F_Ratio_rmul : FX K "__rmul__" "Ratio.__rmul__" s_Ratio_rmul [] (ma K (ga K "Ratio") "__rmul__")
  F_Ratio_neg : FX K "__neg__" "Ratio.__neg__" s_Ratio_neg [] (ma K (ga K "Ratio") "__neg__")
  F_Ratio_over : FX K "over" "Ratio.over" s_Ratio_over [] (ma K (ga K "Ratio") "over")
  F_Ratio_unsigned : FX K "unsigned" "Ratio.unsigned" s_Ratio_unsigned [] (ma K (ga K "Ratio") "unsigned")
  F_Ratio_is_below : FX K "is_below" "Ratio.is_below" s_Ratio_is_below [] (ma K (ga K "Ratio") "is_below")
  F_Ratio_is_at_most : FX K "is_at_most" "Ratio.is_at_most" s_Ratio_is_at_most [] (ma K (ga K "Ratio") "is_at_most")
  F_Ratio_total : FX K "total" "Ratio.total" s_Ratio_total [] (cmG K "Ratio" "total")
  F_Ratio_eq : FX K "__eq__" "Ratio.__eq__" s_Ratio_eq [] (ma K (ga K "Ratio") "__eq__")
  F_Ratio_str : FX K "__str__" "Ratio.__str__" s_Ratio_str [] (ma K (ga K "Ratio") "__str__")
  F_Ratio_repr : FX K "__repr__" "Ratio.__repr__" s_Ratio_repr [] (ma K (ga K "Ratio") "__repr__")
  F_is_number : FX K "is_number" "is_number" s_is_number [] (ga K "is_number")
  F_as_ratio : FX K "as_ratio" "as_ratio" s_as_ratio [] (ga K "as_ratio")
  F_law_pot : FX K "_law_pot" "_law_pot" s_law_pot [] (ga K "_law_pot")
  F_law_draw : FX K "_law_draw" "_law_draw" s_law_draw [] (ga K "_law_draw")
  F_law_pick : FX K "_law_pick" "_law_pick" s_law_pick [] (ga K "_law_pick")
  F_law_low : FX K "_law_low" "_law_low" s_law_low [] (ga K "_law_low")
  F_law_sum : FX K "_law_sum" "_law_sum" s_law_sum [] (ga K "_law_sum")
  F_law_by : FX K "_law_by" "_law_by" s_law_by [] (ga K "_law_by")
  F_law_less : FX K "_law_less" "_law_less" s_law_less [] (ga K "_law_less")
  F_law_over : FX K "_law_over" "_law_over" s_law_over [] (ga K "_law_over")
  F_law_total : FX K "_law_total" "_law_total" s_law_total [] (ga K "_law_total")
  F_law_pair : FX K "_law_pair" "_law_pair" s_law_pair [] (ga K "_law_pair")
  F_law_pairs : FX K "_law_pairs" "_law_pairs" s_law_pairs [] (ga K "_law_pairs")
  F_law_shown : FX K "_law_shown" "_law_shown" s_law_shown [] (ga K "_law_shown")
  F_law_raw : FX K "_law_raw" "_law_raw" s_law_raw [] (ga K "_law_raw")
  F_law_one_right : FX K "_law_one_right" "_law_one_right" s_law_one_right [] (ga K "_law_one_right")
  F_law_two_right : FX K "_law_two_right" "_law_two_right" s_law_two_right [] (ga K "_law_two_right")
  F_law_right : FX K "_law_right" "_law_right" s_law_right [] (ga K "_law_right")
  F_law : FX K "law" "law" s_law [] (ga K "law")
  g_is_integer : mg "is_integer" = some (.ref (ga K "is_integer"))
  g_is_count : mg "is_count" = some (.ref (ga K "is_count"))
  g_is_list : mg "is_list" = some (.ref (ga K "is_list"))
  g_is_number : mg "is_number" = some (.ref (ga K "is_number"))
  g_as_ratio : mg "as_ratio" = some (.ref (ga K "as_ratio"))
  g_law_pot : mg "_law_pot" = some (.ref (ga K "_law_pot"))
  g_law_draw : mg "_law_draw" = some (.ref (ga K "_law_draw"))
  g_law_pick : mg "_law_pick" = some (.ref (ga K "_law_pick"))
  g_law_low : mg "_law_low" = some (.ref (ga K "_law_low"))
  g_law_sum : mg "_law_sum" = some (.ref (ga K "_law_sum"))
  g_law_by : mg "_law_by" = some (.ref (ga K "_law_by"))
  g_law_less : mg "_law_less" = some (.ref (ga K "_law_less"))
  g_law_over : mg "_law_over" = some (.ref (ga K "_law_over"))
  g_law_total : mg "_law_total" = some (.ref (ga K "_law_total"))
  g_law_pair : mg "_law_pair" = some (.ref (ga K "_law_pair"))
  g_law_pairs : mg "_law_pairs" = some (.ref (ga K "_law_pairs"))
  g_law_shown : mg "_law_shown" = some (.ref (ga K "_law_shown"))
  g_law_raw : mg "_law_raw" = some (.ref (ga K "_law_raw"))
  g_law_one_right : mg "_law_one_right" = some (.ref (ga K "_law_one_right"))
  g_law_two_right : mg "_law_two_right" = some (.ref (ga K "_law_two_right"))
  g_law_right : mg "_law_right" = some (.ref (ga K "_law_right"))
  g_law : mg "law" = some (.ref (ga K "law"))
  n_isinstance : mg "isinstance" = none
  n_int : mg "int" = none
  n_bool : mg "bool" = none
  n_list : mg "list" = none
  n_tuple : mg "tuple" = none
  n_abs : mg "abs" = none
  n_str : mg "str" = none
  n_len : mg "len" = none
  n_max : mg "max" = none
  n_divmod : mg "divmod" = none
  n_repr : mg "repr" = none
  n_range : mg "range" = none
  m_gcd : mg "gcd" = some (.builtin "math.gcd")
  g_Ratio : mg "Ratio" = some (.ref (ga K "Ratio"))
  cl_Ratio : Cls K (ga K "Ratio")
  mk_Ratio : Mk K (ga K "Ratio") (ma K (ga K "Ratio") "__init__")
  is_Ratio : IsC K (ga K "Ratio")
  na_top : NoAttr K (ga K "Ratio") "_top"
  na_bottom : NoAttr K (ga K "Ratio") "_bottom"
  p_top : PropOf K (ga K "Ratio") "top" (ma K (ga K "Ratio") "top") (gt K "Ratio" "top")
  p_bottom : PropOf K (ga K "Ratio") "bottom" (ma K (ga K "Ratio") "bottom") (gt K "Ratio" "bottom")
  p_sign : PropOf K (ga K "Ratio") "sign" (ma K (ga K "Ratio") "sign") (gt K "Ratio" "sign")
  p_is_whole : PropOf K (ga K "Ratio") "is_whole" (ma K (ga K "Ratio") "is_whole") (gt K "Ratio" "is_whole")
  t_over : Meth K (ga K "Ratio") "over" (ma K (ga K "Ratio") "over")
  t_unsigned : Meth K (ga K "Ratio") "unsigned" (ma K (ga K "Ratio") "unsigned")
  t_is_below : Meth K (ga K "Ratio") "is_below" (ma K (ga K "Ratio") "is_below")
  t_is_at_most : Meth K (ga K "Ratio") "is_at_most" (ma K (ga K "Ratio") "is_at_most")
  c_total : ClX.CRead K (ga K "Ratio") (.type "type") ∧ ClX.CMet K (ga K "Ratio") (.type "type") "total" (cmP K "Ratio" "total") (cmG K "Ratio" "total")
  i_add : Num K (ga K "Ratio") "add" (ma K (ga K "Ratio") (PySem.dunder "add")) ∧ NumI K (ga K "Ratio") "add" (ma K (ga K "Ratio") (PySem.dunder "add")) (ma K (ga K "Ratio") (dunderR "add")) ∧ NumR K (ga K "Ratio") "add" (some (.ref (ma K (ga K "Ratio") (dunderR "add")))) ∧ NumT K (ga K "Ratio") "int" "add"
  i_sub : Num K (ga K "Ratio") "sub" (ma K (ga K "Ratio") (PySem.dunder "sub")) ∧ NumI K (ga K "Ratio") "sub" (ma K (ga K "Ratio") (PySem.dunder "sub")) (ma K (ga K "Ratio") (dunderR "sub")) ∧ NumR K (ga K "Ratio") "sub" (some (.ref (ma K (ga K "Ratio") (dunderR "sub")))) ∧ NumT K (ga K "Ratio") "int" "sub"
  i_mul : Num K (ga K "Ratio") "mul" (ma K (ga K "Ratio") (PySem.dunder "mul")) ∧ NumI K (ga K "Ratio") "mul" (ma K (ga K "Ratio") (PySem.dunder "mul")) (ma K (ga K "Ratio") (dunderR "mul")) ∧ NumR K (ga K "Ratio") "mul" (some (.ref (ma K (ga K "Ratio") (dunderR "mul")))) ∧ NumT K (ga K "Ratio") "int" "mul"
  x_neg : PySem.W.findIn K (.ref (ga K "Ratio")) "__neg__" = some (some (.ref (ma K (ga K "Ratio") "__neg__"))) ∧ PySem.W.isFn K (.ref (ma K (ga K "Ratio") "__neg__")) = true
  x_str : PySem.W.findIn K (.ref (ga K "Ratio")) "__str__" = some (some (.ref (ma K (ga K "Ratio") "__str__"))) ∧ PySem.W.isFn K (.ref (ma K (ga K "Ratio") "__str__")) = true
  x_repr : PySem.W.findIn K (.ref (ga K "Ratio")) "__repr__" = some (some (.ref (ma K (ga K "Ratio") "__repr__"))) ∧ PySem.W.isFn K (.ref (ma K (ga K "Ratio") "__repr__")) = true
  q_Ratio : EqC K (ga K "Ratio") (ma K (ga K "Ratio") "__eq__")
  ko_int : PySem.W.kitOne K (.type "int") (.ref (ga K "Ratio")) = some false
  ko_bool : PySem.W.kitOne K (.type "bool") (.ref (ga K "Ratio")) = some false
  ko_NoneType : PySem.W.kitOne K (.type "NoneType") (.ref (ga K "Ratio")) = some false
  ko_str : PySem.W.kitOne K (.type "str") (.ref (ga K "Ratio")) = some false
  ko_list : PySem.W.kitOne K (.type "list") (.ref (ga K "Ratio")) = some false
  ko_tuple : PySem.W.kitOne K (.type "tuple") (.ref (ga K "Ratio")) = some false
  kt_int : PySem.W.kitOne K (.ref (ga K "Ratio")) (.type "int") = some false
  kt_bool : PySem.W.kitOne K (.ref (ga K "Ratio")) (.type "bool") = some false
  kt_list : PySem.W.kitOne K (.ref (ga K "Ratio")) (.type "list") = some false
  kt_tuple : PySem.W.kitOne K (.ref (ga K "Ratio")) (.type "tuple") = some false
  kk_Ratio : PySem.W.kitOne K (.ref (ga K "Ratio")) (.ref (ga K "Ratio")) = some true
theorem tx_of {K : PySem.W.Frag} {h : Heap} {mg : Str → Option Value} (X : K.In h) (G : h.Ns mainGlobals mg) (c : SaysX fl dl K) : Tx K mg where
  F_is_integer := c.fn 0
  F_is_count := c.fn 1
  F_is_list := c.fn 2
  F_Ratio_init := c.fn 3
  F_Ratio_top := c.fn 4
  F_Ratio_bottom := c.fn 5
  F_Ratio_sign := c.fn 6
  F_Ratio_is_whole := c.fn 7
  F_Ratio_add := c.fn 8
  F_Ratio_radd := c.fn 9
  F_Ratio_sub := c.fn 10
  F_Ratio_rsub := c.fn 11
  F_Ratio_mul := c.fn 12
  F_Ratio_rmul := c.fn 13
  F_Ratio_neg := c.fn 14
  F_Ratio_over := c.fn 15
  F_Ratio_unsigned := c.fn 16
  F_Ratio_is_below := c.fn 17
  F_Ratio_is_at_most := c.fn 18
  F_Ratio_total := c.fn 19
  F_Ratio_eq := c.fn 20
  F_Ratio_str := c.fn 21
  F_Ratio_repr := c.fn 22
  F_is_number := c.fn 23
  F_as_ratio := c.fn 24
  F_law_pot := c.fn 25
  F_law_draw := c.fn 26
  F_law_pick := c.fn 27
  F_law_low := c.fn 28
  F_law_sum := c.fn 29
  F_law_by := c.fn 30
  F_law_less := c.fn 31
  F_law_over := c.fn 32
  F_law_total := c.fn 33
  F_law_pair := c.fn 34
  F_law_pairs := c.fn 35
  F_law_shown := c.fn 36
  F_law_raw := c.fn 37
  F_law_one_right := c.fn 38
  F_law_two_right := c.fn 39
  F_law_right := c.fn 40
  F_law := c.fn 41
  g_is_integer := He.glo_ok X G (c.at_ 0)
  g_is_count := He.glo_ok X G (c.at_ 1)
  g_is_list := He.glo_ok X G (c.at_ 2)
  g_is_number := He.glo_ok X G (c.at_ 3)
  g_as_ratio := He.glo_ok X G (c.at_ 4)
  g_law_pot := He.glo_ok X G (c.at_ 5)
  g_law_draw := He.glo_ok X G (c.at_ 6)
  g_law_pick := He.glo_ok X G (c.at_ 7)
  g_law_low := He.glo_ok X G (c.at_ 8)
  g_law_sum := He.glo_ok X G (c.at_ 9)
  g_law_by := He.glo_ok X G (c.at_ 10)
  g_law_less := He.glo_ok X G (c.at_ 11)
  g_law_over := He.glo_ok X G (c.at_ 12)
  g_law_total := He.glo_ok X G (c.at_ 13)
  g_law_pair := He.glo_ok X G (c.at_ 14)
  g_law_pairs := He.glo_ok X G (c.at_ 15)
  g_law_shown := He.glo_ok X G (c.at_ 16)
  g_law_raw := He.glo_ok X G (c.at_ 17)
  g_law_one_right := He.glo_ok X G (c.at_ 18)
  g_law_two_right := He.glo_ok X G (c.at_ 19)
  g_law_right := He.glo_ok X G (c.at_ 20)
  g_law := He.glo_ok X G (c.at_ 21)
  n_isinstance := He.free_ok X G (c.at_ 22)
  n_int := He.free_ok X G (c.at_ 23)
  n_bool := He.free_ok X G (c.at_ 24)
  n_list := He.free_ok X G (c.at_ 25)
  n_tuple := He.free_ok X G (c.at_ 26)
  n_abs := He.free_ok X G (c.at_ 27)
  n_str := He.free_ok X G (c.at_ 28)
  n_len := He.free_ok X G (c.at_ 29)
  n_max := He.free_ok X G (c.at_ 30)
  n_divmod := He.free_ok X G (c.at_ 31)
  n_repr := He.free_ok X G (c.at_ 32)
  n_range := He.free_ok X G (c.at_ 33)
  m_gcd := bBlt_ok X G (c.at_ 34)
  g_Ratio := He.glo_ok X G (c.at_ 35)
  cl_Ratio := He.cls_ok (c.at_ 36)
  mk_Ratio := He.mkr_ok (c.at_ 37)
  is_Ratio := bIs_ok (c.at_ 38)
  na_top := He.noat_ok (c.at_ 39)
  na_bottom := He.noat_ok (c.at_ 40)
  p_top := bProp_ok (c.at_ 41)
  p_bottom := bProp_ok (c.at_ 42)
  p_sign := bProp_ok (c.at_ 43)
  p_is_whole := bProp_ok (c.at_ 44)
  t_over := He.meth_ok (c.at_ 45)
  t_unsigned := He.meth_ok (c.at_ 46)
  t_is_below := He.meth_ok (c.at_ 47)
  t_is_at_most := He.meth_ok (c.at_ 48)
  c_total := bCm_ok (c.at_ 49)
  i_add := bNumI_ok (c.at_ 50)
  i_sub := bNumI_ok (c.at_ 51)
  i_mul := bNumI_ok (c.at_ 52)
  x_neg := bSpec_ok (c.at_ 53)
  x_str := bSpec_ok (c.at_ 54)
  x_repr := bSpec_ok (c.at_ 55)
  q_Ratio := bEq_ok (c.at_ 56)
  ko_int := bKitO_ok (c.at_ 57)
  ko_bool := bKitO_ok (c.at_ 58)
  ko_NoneType := bKitO_ok (c.at_ 59)
  ko_str := bKitO_ok (c.at_ 60)
  ko_list := bKitO_ok (c.at_ 61)
  ko_tuple := bKitO_ok (c.at_ 62)
  kt_int := bKitT_ok (c.at_ 63)
  kt_bool := bKitT_ok (c.at_ 64)
  kt_list := bKitT_ok (c.at_ 65)
  kt_tuple := bKitT_ok (c.at_ 66)
  kk_Ratio := bKitC_ok (c.at_ 67)
section
variable {K : PySem.W.Frag} {mg : Str → Option Value}
theorem b_is_integer (T : Tx K mg) : Binds K (fdOf K (ga K "is_integer")) ["value"] [] := T.F_is_integer.bindsN fun _ _ _ _ _ _ us hl => match us, hl with | [_], _ => rfl
theorem b_is_count (T : Tx K mg) : Binds K (fdOf K (ga K "is_count")) ["value"] [] := T.F_is_count.bindsN fun _ _ _ _ _ _ us hl => match us, hl with | [_], _ => rfl
theorem b_is_list (T : Tx K mg) : Binds K (fdOf K (ga K "is_list")) ["value"] [] := T.F_is_list.bindsN fun _ _ _ _ _ _ us hl => match us, hl with | [_], _ => rfl
theorem b_Ratio_top (T : Tx K mg) : Binds K (fdOf K (gt K "Ratio" "top")) ["self"] [] := T.F_Ratio_top.bindsN fun _ _ _ _ _ _ us hl => match us, hl with | [_], _ => rfl
theorem b_Ratio_bottom (T : Tx K mg) : Binds K (fdOf K (gt K "Ratio" "bottom")) ["self"] [] := T.F_Ratio_bottom.bindsN fun _ _ _ _ _ _ us hl => match us, hl with | [_], _ => rfl
theorem b_Ratio_sign (T : Tx K mg) : Binds K (fdOf K (gt K "Ratio" "sign")) ["self"] [] := T.F_Ratio_sign.bindsN fun _ _ _ _ _ _ us hl => match us, hl with | [_], _ => rfl
theorem b_Ratio_is_whole (T : Tx K mg) : Binds K (fdOf K (gt K "Ratio" "is_whole")) ["self"] [] := T.F_Ratio_is_whole.bindsN fun _ _ _ _ _ _ us hl => match us, hl with | [_], _ => rfl
theorem b_Ratio_add (T : Tx K mg) : Binds K (fdOf K (ma K (ga K "Ratio") "__add__")) ["self", "other"] [] := T.F_Ratio_add.bindsN fun _ _ _ _ _ _ us hl => match us, hl with | [_, _], _ => rfl
theorem b_Ratio_radd (T : Tx K mg) : Binds K (fdOf K (ma K (ga K "Ratio") "__radd__")) ["self", "other"] [] := T.F_Ratio_radd.bindsN fun _ _ _ _ _ _ us hl => match us, hl with | [_, _], _ => rfl
theorem b_Ratio_sub (T : Tx K mg) : Binds K (fdOf K (ma K (ga K "Ratio") "__sub__")) ["self", "other"] [] := T.F_Ratio_sub.bindsN fun _ _ _ _ _ _ us hl => match us, hl with | [_, _], _ => rfl
theorem b_Ratio_rsub (T : Tx K mg) : Binds K (fdOf K (ma K (ga K "Ratio") "__rsub__")) ["self", "other"] [] := T.F_Ratio_rsub.bindsN fun _ _ _ _ _ _ us hl => match us, hl with | [_, _], _ => rfl
theorem b_Ratio_mul (T : Tx K mg) : Binds K (fdOf K (ma K (ga K "Ratio") "__mul__")) ["self", "other"] [] := T.F_Ratio_mul.bindsN fun _ _ _ _ _ _ us hl => match us, hl with | [_, _], _ => rfl
theorem b_Ratio_rmul (T : Tx K mg) : Binds K (fdOf K (ma K (ga K "Ratio") "__rmul__")) ["self", "other"] [] := T.F_Ratio_rmul.bindsN fun _ _ _ _ _ _ us hl => match us, hl with | [_, _], _ => rfl
theorem b_Ratio_neg (T : Tx K mg) : Binds K (fdOf K (ma K (ga K "Ratio") "__neg__")) ["self"] [] := T.F_Ratio_neg.bindsN fun _ _ _ _ _ _ us hl => match us, hl with | [_], _ => rfl
theorem b_Ratio_over (T : Tx K mg) : Binds K (fdOf K (ma K (ga K "Ratio") "over")) ["self", "other"] [] := T.F_Ratio_over.bindsN fun _ _ _ _ _ _ us hl => match us, hl with | [_, _], _ => rfl
theorem b_Ratio_unsigned (T : Tx K mg) : Binds K (fdOf K (ma K (ga K "Ratio") "unsigned")) ["self"] [] := T.F_Ratio_unsigned.bindsN fun _ _ _ _ _ _ us hl => match us, hl with | [_], _ => rfl
theorem b_Ratio_is_below (T : Tx K mg) : Binds K (fdOf K (ma K (ga K "Ratio") "is_below")) ["self", "other"] [] := T.F_Ratio_is_below.bindsN fun _ _ _ _ _ _ us hl => match us, hl with | [_, _], _ => rfl
theorem b_Ratio_is_at_most (T : Tx K mg) : Binds K (fdOf K (ma K (ga K "Ratio") "is_at_most")) ["self", "other"] [] := T.F_Ratio_is_at_most.bindsN fun _ _ _ _ _ _ us hl => match us, hl with | [_, _], _ => rfl
theorem b_Ratio_total (T : Tx K mg) : Binds K (fdOf K (cmG K "Ratio" "total")) ["cls", "numbers"] [] := T.F_Ratio_total.bindsN fun _ _ _ _ _ _ us hl => match us, hl with | [_, _], _ => rfl
theorem b_Ratio_eq (T : Tx K mg) : Binds K (fdOf K (ma K (ga K "Ratio") "__eq__")) ["self", "other"] [] := T.F_Ratio_eq.bindsN fun _ _ _ _ _ _ us hl => match us, hl with | [_, _], _ => rfl
theorem b_Ratio_str (T : Tx K mg) : Binds K (fdOf K (ma K (ga K "Ratio") "__str__")) ["self"] [] := T.F_Ratio_str.bindsN fun _ _ _ _ _ _ us hl => match us, hl with | [_], _ => rfl
theorem b_Ratio_repr (T : Tx K mg) : Binds K (fdOf K (ma K (ga K "Ratio") "__repr__")) ["self"] [] := T.F_Ratio_repr.bindsN fun _ _ _ _ _ _ us hl => match us, hl with | [_], _ => rfl
theorem b_is_number (T : Tx K mg) : Binds K (fdOf K (ga K "is_number")) ["value"] [] := T.F_is_number.bindsN fun _ _ _ _ _ _ us hl => match us, hl with | [_], _ => rfl
theorem b_as_ratio (T : Tx K mg) : Binds K (fdOf K (ga K "as_ratio")) ["number"] [] := T.F_as_ratio.bindsN fun _ _ _ _ _ _ us hl => match us, hl with | [_], _ => rfl
theorem b_law_pot (T : Tx K mg) : Binds K (fdOf K (ga K "_law_pot")) ["_law_script", "_law_k"] [] := T.F_law_pot.bindsN fun _ _ _ _ _ _ us hl => match us, hl with | [_, _], _ => rfl
theorem b_law_draw (T : Tx K mg) : Binds K (fdOf K (ga K "_law_draw")) ["_law_pot_here", "_law_size"] [] := T.F_law_draw.bindsN fun _ _ _ _ _ _ us hl => match us, hl with | [_, _], _ => rfl
theorem b_law_pick (T : Tx K mg) : Binds K (fdOf K (ga K "_law_pick")) ["_law_pot_here", "_law_some"] [] := T.F_law_pick.bindsN fun _ _ _ _ _ _ us hl => match us, hl with | [_, _], _ => rfl
theorem b_law_low (T : Tx K mg) : Binds K (fdOf K (ga K "_law_low")) ["_law_top", "_law_bottom"] [] := T.F_law_low.bindsN fun _ _ _ _ _ _ us hl => match us, hl with | [_, _], _ => rfl
theorem b_law_sum (T : Tx K mg) : Binds K (fdOf K (ga K "_law_sum")) ["_law_one", "_law_other"] [] := T.F_law_sum.bindsN fun _ _ _ _ _ _ us hl => match us, hl with | [_, _], _ => rfl
theorem b_law_by (T : Tx K mg) : Binds K (fdOf K (ga K "_law_by")) ["_law_one", "_law_other"] [] := T.F_law_by.bindsN fun _ _ _ _ _ _ us hl => match us, hl with | [_, _], _ => rfl
theorem b_law_less (T : Tx K mg) : Binds K (fdOf K (ga K "_law_less")) ["_law_one", "_law_other"] [] := T.F_law_less.bindsN fun _ _ _ _ _ _ us hl => match us, hl with | [_, _], _ => rfl
theorem b_law_over (T : Tx K mg) : Binds K (fdOf K (ga K "_law_over")) ["_law_one", "_law_other"] [] := T.F_law_over.bindsN fun _ _ _ _ _ _ us hl => match us, hl with | [_, _], _ => rfl
theorem b_law_total (T : Tx K mg) : Binds K (fdOf K (ga K "_law_total")) ["_law_pairs_here"] [] := T.F_law_total.bindsN fun _ _ _ _ _ _ us hl => match us, hl with | [_], _ => rfl
theorem b_law_pair (T : Tx K mg) : Binds K (fdOf K (ga K "_law_pair")) ["_law_value"] [] := T.F_law_pair.bindsN fun _ _ _ _ _ _ us hl => match us, hl with | [_], _ => rfl
theorem b_law_pairs (T : Tx K mg) : Binds K (fdOf K (ga K "_law_pairs")) ["_law_value"] [] := T.F_law_pairs.bindsN fun _ _ _ _ _ _ us hl => match us, hl with | [_], _ => rfl
theorem b_law_shown (T : Tx K mg) : Binds K (fdOf K (ga K "_law_shown")) ["_law_pair_here"] [] := T.F_law_shown.bindsN fun _ _ _ _ _ _ us hl => match us, hl with | [_], _ => rfl
theorem b_law_raw (T : Tx K mg) : Binds K (fdOf K (ga K "_law_raw")) ["_law_pot_here"] [] := T.F_law_raw.bindsN fun _ _ _ _ _ _ us hl => match us, hl with | [_], _ => rfl
theorem b_law_one_right (T : Tx K mg) : Binds K (fdOf K (ga K "_law_one_right")) ["_law_raw_here"] [] := T.F_law_one_right.bindsN fun _ _ _ _ _ _ us hl => match us, hl with | [_], _ => rfl
theorem b_law_two_right (T : Tx K mg) : Binds K (fdOf K (ga K "_law_two_right")) ["_law_raw_here", "_law_other_raw", "_law_number"] [] := T.F_law_two_right.bindsN fun _ _ _ _ _ _ us hl => match us, hl with | [_, _, _], _ => rfl
theorem b_law_right (T : Tx K mg) : Binds K (fdOf K (ga K "_law_right")) ["_law_pot_here"] [] := T.F_law_right.bindsN fun _ _ _ _ _ _ us hl => match us, hl with | [_], _ => rfl
theorem b_law (T : Tx K mg) : Binds K (fdOf K (ga K "law")) ["_law_script"] [] := T.F_law.bindsN fun _ _ _ _ _ _ us hl => match us, hl with | [_], _ => rfl
end
end K11

set_option Elab.async false
set_option linter.all false
set_option maxRecDepth 100000
set_option maxHeartbeats 4000000
namespace K11
open PySem PySem.Spec PyProof.Rows L2 Own
open PySem.W (Frag)

/-! ### data -/
theorem ne_tb : ¬ (("_top" : Str) = "_bottom") := by decide +kernel
def rf (t b : Int) : List (Str × V) := putF "_bottom" (.int b) (putF "_top" (.int t) [])
theorem rf_top (t b : Int) : (rf t b).lookup ("_top" : Str) = some (.int t) := by
  unfold rf
  rw [lookup_putF, if_neg ne_tb, lookup_putF, if_pos rfl]
theorem rf_bottom (t b : Int) : (rf t b).lookup ("_bottom" : Str) = some (.int b) := by
  unfold rf
  rw [lookup_putF, if_pos rfl]
theorem rf_no (t b : Int) {m : Str} (h1 : ¬ m = "_bottom") (h2 : ¬ m = "_top") : (rf t b).lookup m = none := by
  unfold rf
  rw [lookup_putF, if_neg h1, lookup_putF, if_neg h2]
  all_goals rfl
def RatAt (C : Addr) (H : Hp) (a : Addr) (q : Int × Int) : Prop := ∃ dx, H a = some (.ins C dx (rf q.1 q.2))
theorem RatAt.same {C : Addr} {H H2 : Hp} {a : Addr} {q : Int × Int} (h : RatAt C H a q) (s : Same H H2) : RatAt C H2 a q :=
  let ⟨dx, e⟩ := h
  ⟨dx, s _ _ e⟩
/-- a number that may be handed: an int or a Ratio -/
def NumV (C : Addr) (H : Hp) (v : V) (q : Int × Int) : Prop := (∃ i, v = .int i ∧ q = (i, 1)) ∨ ∃ a, v = .ref a ∧ RatAt C H a q
/-- what Euclid brings -/
def nrm (t b : Int) : Int × Int :=
  if b < 0 then (t.fdiv (-((Nat.gcd t.natAbs b.natAbs : Nat) : Int)), b.fdiv (-((Nat.gcd t.natAbs b.natAbs : Nat) : Int)))
  else (t.fdiv ((Nat.gcd t.natAbs b.natAbs : Nat) : Int), b.fdiv ((Nat.gcd t.natAbs b.natAbs : Nat) : Int))
def Sz (n : Nat) (i : Int) : Prop := i.natAbs < 2 ^ n
structure OkP (n : Nat) (q : Int × Int) : Prop where
  pos : 0 < q.2
  st : Sz n q.1
  sb : Sz n q.2
def addP (x y : Int × Int) : Int × Int := nrm (x.1 * y.2 + y.1 * x.2) (x.2 * y.2)
def subP (x y : Int × Int) : Int × Int := nrm (x.1 * y.2 - y.1 * x.2) (x.2 * y.2)
def mulP (x y : Int × Int) : Int × Int := nrm (x.1 * y.1) (x.2 * y.2)
def ovP (x y : Int × Int) : Int × Int := nrm (x.1 * y.2) (x.2 * y.1)

theorem fdiv_abs_le (t g : Int) (hg : g ≠ 0) (hd : g ∣ t) : (t.fdiv g).natAbs ≤ t.natAbs := by
  obtain ⟨k, rfl⟩ := hd
  rw [Int.mul_fdiv_cancel_left k hg, Int.natAbs_mul]
  have : 1 ≤ g.natAbs := by omega
  exact Nat.le_mul_of_pos_left _ (by omega)
theorem gcd_pos' {t b : Int} (h : b ≠ 0) : 0 < Nat.gcd t.natAbs b.natAbs := Nat.gcd_pos_of_pos_right _ (by omega)
theorem gcd_dvd_t (t b : Int) : ((Nat.gcd t.natAbs b.natAbs : Nat) : Int) ∣ t := Int.ofNat_dvd_left.mpr (Nat.gcd_dvd_left _ _)
theorem gcd_dvd_b (t b : Int) : ((Nat.gcd t.natAbs b.natAbs : Nat) : Int) ∣ b := Int.ofNat_dvd_left.mpr (Nat.gcd_dvd_right _ _)
theorem nrm_pos {t b : Int} (h : b ≠ 0) : 0 < (nrm t b).2 := by
  have g0 := gcd_pos' (t := t) h
  obtain ⟨k, hk⟩ := gcd_dvd_b t b
  generalize hg : ((Nat.gcd t.natAbs b.natAbs : Nat) : Int) = g at hk
  have g1 : 0 < g := by omega
  unfold nrm
  rw [hg]
  by_cases hb : b < 0
  · rw [if_pos hb]
    show 0 < b.fdiv (-g)
    have e : b = (-g) * (-k) := by rw [hk, Int.neg_mul_neg]
    rw [e, Int.mul_fdiv_cancel_left _ (by omega)]
    rcases (by omega : k < 0 ∨ 0 ≤ k) with z | z
    · omega
    · have : 0 ≤ g * k := Int.mul_nonneg (by omega) z
      omega
  · rw [if_neg hb]
    show 0 < b.fdiv g
    rw [hk, Int.mul_fdiv_cancel_left _ (by omega)]
    rcases (by omega : 0 < k ∨ k ≤ 0) with z | z
    · exact z
    · have : g * k ≤ 0 := Int.mul_nonpos_of_nonneg_of_nonpos (by omega) z
      omega
theorem nrm_sz {t b : Int} {n : Nat} (h : b ≠ 0) (ht : Sz n t) (hb : Sz n b) : OkP n (nrm t b) := by
  have g0 := gcd_pos' (t := t) h
  refine ⟨nrm_pos h, ?_, ?_⟩
  · unfold nrm
    split
    · exact Nat.lt_of_le_of_lt (fdiv_abs_le _ _ (by omega) ((Int.neg_dvd).mpr (gcd_dvd_t t b))) ht
    · exact Nat.lt_of_le_of_lt (fdiv_abs_le _ _ (by omega) (gcd_dvd_t t b)) ht
  · unfold nrm
    split
    · exact Nat.lt_of_le_of_lt (fdiv_abs_le _ _ (by omega) ((Int.neg_dvd).mpr (gcd_dvd_b t b))) hb
    · exact Nat.lt_of_le_of_lt (fdiv_abs_le _ _ (by omega) (gcd_dvd_b t b)) hb
theorem sz_mul {n m : Nat} {i j : Int} (h : Sz n i) (k : Sz m j) : Sz (n + m) (i * j) := wide_lt h k
theorem sz_le {n m : Nat} {i : Int} (h : Sz n i) (k : n ≤ m) : Sz m i := Nat.lt_of_lt_of_le h (Nat.pow_le_pow_right (by decide) k)
theorem sz_add {n : Nat} {i j : Int} (h : Sz n i) (k : Sz n j) : Sz (n + 1) (i + j) := by
  unfold Sz at *
  rw [Nat.pow_succ]
  omega
theorem sz_sub {n : Nat} {i j : Int} (h : Sz n i) (k : Sz n j) : Sz (n + 1) (i - j) := by
  unfold Sz at *
  rw [Nat.pow_succ]
  omega
theorem OkP.add {n m : Nat} {x y : Int × Int} (h : OkP n x) (k : OkP m y) : OkP (n + m + 1) (addP x y) := by
  have z : Sz (n + m) (y.1 * x.2) := by rw [Nat.add_comm]; exact sz_mul k.st h.sb
  exact nrm_sz (Int.ne_of_gt (Int.mul_pos h.pos k.pos)) (sz_add (sz_mul h.st k.sb) z) (sz_le (sz_mul h.sb k.sb) (Nat.le_succ _))
theorem OkP.sub {n m : Nat} {x y : Int × Int} (h : OkP n x) (k : OkP m y) : OkP (n + m + 1) (subP x y) := by
  have z : Sz (n + m) (y.1 * x.2) := by rw [Nat.add_comm]; exact sz_mul k.st h.sb
  exact nrm_sz (Int.ne_of_gt (Int.mul_pos h.pos k.pos)) (sz_sub (sz_mul h.st k.sb) z) (sz_le (sz_mul h.sb k.sb) (Nat.le_succ _))
theorem OkP.mul {n m : Nat} {x y : Int × Int} (h : OkP n x) (k : OkP m y) : OkP (n + m + 1) (mulP x y) :=
  nrm_sz (Int.ne_of_gt (Int.mul_pos h.pos k.pos)) (sz_le (sz_mul h.st k.st) (Nat.le_succ _)) (sz_le (sz_mul h.sb k.sb) (Nat.le_succ _))
theorem OkP.over {n m : Nat} {x y : Int × Int} (h : OkP n x) (k : OkP m y) (hy : y.1 ≠ 0) : OkP (n + m + 1) (ovP x y) :=
  nrm_sz (Int.mul_ne_zero (Int.ne_of_gt h.pos) hy) (sz_le (sz_mul h.st k.sb) (Nat.le_succ _)) (sz_le (sz_mul h.sb k.st) (Nat.le_succ _))
theorem sz_log {n : Nat} {i : Int} (h : Sz n i) (h0 : 0 < n) : i.natAbs.log2 < n := PySem.Flt.log2_lt_of h0 h
theorem sz_mulW {n m : Nat} {i j : Int} (h : Sz n i) (k : Sz m j) (hn : 0 < n) (hm : 0 < m) (hs : n + m ≤ 1000000) : CMulW i j := wide_mul h k hn hm hs
/-- // by any number that is not 0, below 2 ^ 8000 -/
def CDivZ (_ j : Int) : Prop := j ≠ 0 ∧ Sz 8000 j
theorem op_fdivZ {X : Cx} : OpR X (binaryOp .FloorDiv) (rI CDivZ fun i j => .int (i.fdiv j)) := opI fun i j _ _ _ _ _ hc q => by
  exact floordiv_int hc.1 q (.inl (PyProof.noPylong_of_log2 (Nat.lt_trans (sz_log hc.2 (by decide)) (by decide))))
end K11

set_option Elab.async false
set_option linter.all false
set_option maxRecDepth 100000
set_option maxHeartbeats 4000000
namespace K11
open PySem PySem.Spec PyProof.Rows L2 Own
open PySem.W (Frag)
section
variable {P : Program} {w : World} {K : Frag} {mg : Str → Option Value} {base : Heap}
abbrev CR (K : Frag) : Addr := ga K "Ratio"
/-- whether a value is a whole number, no truth value -/
def IntK (K : Frag) (H : Hp) (v : V) (r : Bool) : Prop := ∃ t b1 b2, TyX K H v t ∧ PySem.W.kitOne K t (.type "int") = some b1 ∧ PySem.W.kitOne K t (.type "bool") = some b2 ∧ r = (b1 && !b2)
theorem IntK.int {H : Hp} (i : Int) : IntK K H (.int i) true := ⟨_, true, false, .base (.int i), kit_ty (by decide +kernel), kit_ty (by decide +kernel), rfl⟩
theorem IntK.bl {H : Hp} (b : Bool) : IntK K H (.bl b) false := ⟨_, true, true, .base (.bl b), kit_ty (by decide +kernel), kit_ty (by decide +kernel), rfl⟩
theorem IntK.non {H : Hp} : IntK K H .non false := ⟨_, false, false, .base .non, kit_ty (by decide +kernel), kit_ty (by decide +kernel), rfl⟩
theorem IntK.str {H : Hp} (z : Str) : IntK K H (.str z) false := ⟨_, false, false, .base (.str z), kit_ty (by decide +kernel), kit_ty (by decide +kernel), rfl⟩
theorem IntK.lst {H : Hp} {a : Addr} {xs : List V} (e : H a = some (.lst xs)) : IntK K H (.ref a) false := ⟨_, false, false, .base (.lst e), kit_ty (by decide +kernel), kit_ty (by decide +kernel), rfl⟩
theorem IntK.tup {H : Hp} {a : Addr} {xs : List V} (e : H a = some (.tup xs)) : IntK K H (.ref a) false := ⟨_, false, false, .base (.tup e), kit_ty (by decide +kernel), kit_ty (by decide +kernel), rfl⟩
theorem IntK.rat (T : Tx K mg) {H : Hp} {a : Addr} {q : Int × Int} (h : RatAt (CR K) H a q) : IntK K H (.ref a) false := by
  obtain ⟨dx, e⟩ := h
  exact ⟨_, false, false, T.is_Ratio.ty T.cl_Ratio e, T.kt_int, T.kt_bool, rfl⟩
def spIsInt (K : Frag) : Sp := fun vs H Q _ => ∃ v r, vs = [v] ∧ IntK K H v r ∧ Q (.bl r) H
theorem ok_is_integer (T : Tx K mg) : FG P w K mg base CX0 1 (ga K "is_integer") (fdOf K (ga K "is_integer")) ["value"] (spIsInt K) := by
  refine fg_no T.F_is_integer sc_is_integer (fun vs H Q E h => ?_) (fun cdv A outer s H vs Q E gg hr h => ?_)
  · obtain ⟨v, r, rfl, _⟩ := h
    rfl
  · obtain ⟨v, r, rfl, ⟨t, b1, b2, ty, k1, k2, rfl⟩, k⟩ := h
    refine ⟨_, pss_one (ps_ret (pe_and (pe_callB call_isi (by rfl) T.n_isinstance (by decide +kernel) (pa_cons (pv 0) (pa_cons (pe_bltn (v := .ty "int") (by rfl) T.n_int (by decide +kernel) rfl) pa_nil)))
      (pe_one (pe_not (pe_callB call_isi (by rfl) T.n_isinstance (by decide +kernel) (pa_cons (pv 0) (pa_cons (pe_bltn (v := .ty "bool") (by rfl) T.n_bool (by decide +kernel) rfl) pa_nil))))))), ?_⟩
    refine ⟨_, rfl, _, _, _, _, _, rfl, .ty "int", ty, k1, _, rfl, ?_⟩
    cases b1 with
    | false => exact iteF k
    | true => exact iteT ⟨_, rfl, _, _, _, _, _, rfl, .ty "bool", ty, k2, _, rfl, k⟩

def intV : V → Bool
  | .int _ => true
  | _ => false
def cntV : V → Bool
  | .int i => decide (i ≥ 0)
  | _ => false
def spIsCnt (K : Frag) : Sp := fun vs H Q _ => ∃ v, vs = [v] ∧ IntK K H v (intV v) ∧ Q (.bl (cntV v)) H
theorem ok_is_count (T : Tx K mg) : FG P w K mg base CX0 2 (ga K "is_count") (fdOf K (ga K "is_count")) ["value"] (spIsCnt K) := by
  refine fg_no T.F_is_count sc_is_count (fun vs H Q E h => ?_) (fun cdv A outer s H vs Q E gg hr h => ?_)
  · obtain ⟨v, rfl, _⟩ := h
    rfl
  · obtain ⟨v, rfl, hi, k⟩ := h
    refine ⟨_, pss_one (ps_ret (pe_and (pe_fn (ok_is_integer T) gg hr rfl T.g_is_integer T.F_is_integer.kp (b_is_integer T) .nil pass0 (pa_cons (pv 0) pa_nil))
      (pe_one (pe_cmpR op_ge (pv 0) pe_int (nomark _))))), ?_⟩
    refine ⟨_, rfl, v, _, rfl, hi, _, rfl, ?_⟩
    cases v with
    | int i => exact iteT ⟨_, rfl, _, _, rfl, rfl, k⟩
    | _ => exact iteF k
/-- what a value is told by is_number -/
def NumK (K : Frag) (H : Hp) (v : V) (r : Bool) : Prop := ∃ r1, IntK K H v r1 ∧ (r1 = true → r = true) ∧ (r1 = false → ∃ t, TyX K H v t ∧ PySem.W.kitOne K t (.ref (CR K)) = some r)
def spIsNum (K : Frag) : Sp := fun vs H Q _ => ∃ v r, vs = [v] ∧ NumK K H v r ∧ Q (.bl r) H
theorem ok_is_number (T : Tx K mg) : FG P w K mg base CX0 2 (ga K "is_number") (fdOf K (ga K "is_number")) ["value"] (spIsNum K) := by
  refine fg_no T.F_is_number sc_is_number (fun vs H Q E h => ?_) (fun cdv A outer s H vs Q E gg hr h => ?_)
  · obtain ⟨v, r, rfl, _⟩ := h
    rfl
  · obtain ⟨v, r, rfl, ⟨r1, hi, ht, hf⟩, k⟩ := h
    refine ⟨_, pss_one (ps_ret (pe_or (pe_fn (ok_is_integer T) gg hr rfl T.g_is_integer T.F_is_integer.kp (b_is_integer T) .nil pass0 (pa_cons (pv 0) pa_nil))
      (pe_one (pe_callB call_isi (by rfl) T.n_isinstance (by decide +kernel) (pa_cons (pv 0) (pa_cons (pe_glob (v := .ref (CR K)) rfl T.g_Ratio rfl) pa_nil)))))), ?_⟩
    refine ⟨_, rfl, v, _, rfl, hi, _, rfl, ?_⟩
    cases r1 with
    | true =>
      rw [ht rfl] at k
      exact iteT k
    | false =>
      obtain ⟨t, ty, kt⟩ := hf rfl
      exact iteF ⟨_, rfl, _, _, _, _, _, rfl, .own _, ty, kt, k⟩
/-! ### Ratio -/
theorem nd_init : (["self", "top", "bottom", "value", "shared"] : List Str).Nodup := sc_Ratio_init.nd
/-- what __init__ does to the fresh object at p -/
def spInit (K : Frag) : Sp := fun vs H Q _ => ∃ (p dx : Addr) (t b : Int), vs = [.ref p, .int t, .int b] ∧ H p = some (.ins (CR K) dx []) ∧ b ≠ 0 ∧ Sz 8000 b ∧
  ∀ H2, RatAt (CR K) H2 p (nrm t b) → (∀ c o, H c = some o → c ≠ p → H2 c = some o) → Q .non H2
theorem ok_init (T : Tx K mg) : FG P w K mg base CX0 2 (ma K (CR K) "__init__") (fdOf K (ma K (CR K) "__init__")) ["self", "top", "bottom"] (spInit K) := by
  refine fg_no T.F_Ratio_init sc_Ratio_init (fun vs H Q E h => ?_) (fun cdv A outer s H vs Q E gg hr h => ?_)
  · obtain ⟨p, dx, t, b, rfl, _⟩ := h
    rfl
  · obtain ⟨p, dx, t, b, rfl, hp, hb0, hbs, k⟩ := h
    refine ⟨_, pss_cons (ps_for PassesOwn.never rfl (pi_tup (pe_tup (pa_cons (pv 1) (pa_cons (pv 2) pa_nil)))) (pg_name (i := 3) sc_Ratio_init.nd rfl (Or.inl rfl))
        (pss_one (ps_if (pt_not (pt_val (pe_fn (ok_is_integer T) gg hr rfl T.g_is_integer T.F_is_integer.kp (b_is_integer T) .nil pass0 (pa_cons (pv 3) pa_nil)))) (pss_one ps_never) pss_nil)))
      (pss_cons (ps_if (pt_cmpR op_eq (pv 2) pe_int (nomark _)) (pss_one ps_never) pss_nil)
      (pss_cons (ps_set (i := 4) sc_Ratio_init.nd rfl (Or.inl rfl) (pe_callBfun cr_gcd (by rfl) T.m_gcd (pa_cons (pv 1) (pa_cons (pv 2) pa_nil))))
      (pss_cons (ps_if (pt_cmpR op_lt (pv 2) pe_int (nomark _)) (pss_one (ps_set (i := 4) sc_Ratio_init.nd rfl (Or.inl rfl) (pe_un un_neg (pv 4)))) pss_nil)
      (pss_cons (ps_fld (pv 0) (pe_op op_fdivZ (pv 1) (pv 4)) rfl)
      (pss_one (ps_fld (pv 0) (pe_op op_fdivZ (pv 2) (pv 4)) rfl)))))), ?_⟩
    refine ⟨_, rfl, _, rfl, (by show 2 ≤ sizeLine; decide), fun tp htp => ?_⟩
    have npt : p ≠ tp := ne_of_none hp htp
    refine ⟨tp, rfl, ⟨_, SqT.of upd_same⟩, for_tup (K := K) (a := tp) (xs := [.int t, .int b]) (fun i σ H2 => H2 = upd H tp (.tup [.int t, .int b]) ∧ ∃ v, σ = [some (.ref p), some (.int t), some (.int b), v, none])
      ⟨rfl, none, rfl⟩ (fun i σ H2 _ ⟨e, _⟩ => by rw [e]; exact SqT.of upd_same) ?_ ?_⟩
    · rintro i x σ H2 hx ⟨rfl, v, rfl⟩
      have hxi : ∃ j, x = .int j := by
        match i, hx with
        | 0, hx => exact ⟨t, (Option.some.inj hx).symm⟩
        | 1, hx => exact ⟨b, (Option.some.inj hx).symm⟩
        | i + 2, hx => simp at hx
      obtain ⟨j, rfl⟩ := hxi
      refine ⟨_, rfl, _, true, rfl, IntK.int j, _, rfl, ?_⟩
      exact iteF ⟨rfl, _, rfl⟩
    · rintro σ H2 ⟨rfl, v, rfl⟩
      refine ⟨_, rfl, rfl, _, rfl, ?_⟩
      refine ite2 (fun z => ?_) (fun _ => ?_)
      · exact absurd (by simpa using z) hb0
      refine ⟨_, rfl, _, rfl, t, b, rfl, ?_⟩
      have g0 := gcd_pos' (t := t) hb0
      have gs : Sz 8000 ((Nat.gcd t.natAbs b.natAbs : Nat) : Int) := by
        show (Nat.gcd t.natAbs b.natAbs) < 2 ^ 8000
        exact Nat.lt_of_le_of_lt (Nat.gcd_le_right _ (by omega)) hbs
      have hp2 : (upd H tp (.tup [.int t, .int b])) p = some (.ins (CR K) dx []) := by rw [upd_ne npt]; exact hp
      have keep : ∀ o1 o2 c o, H c = some o → c ≠ p → (upd (upd (upd H tp (.tup [.int t, .int b])) p o1) p o2) c = some o := by
        intro o1 o2 c o e hc
        rw [upd_ne hc, upd_ne hc, upd_ne (ne_of_none e htp)]
        exact e
      refine ⟨_, rfl, _, _, rfl, rfl, _, rfl, ?_⟩
      refine ite2 (fun z => ?_) (fun z => ?_)
      · have hneg : b < 0 := of_decide_eq_true z
        refine ⟨_, rfl, _, rfl, ?_⟩
        refine ⟨_, rfl, _, rfl, _, _, rfl, rfl, ⟨by omega, ?_⟩, _, rfl, p, CR K, dx, _, rfl, hp2, T.cl_Ratio, T.na_top, (by show 0 < 1000; decide), ?_⟩
        · unfold Sz at *; omega
        refine ⟨_, rfl, _, rfl, _, _, rfl, rfl, ⟨by omega, ?_⟩, _, rfl, p, CR K, dx, _, rfl, upd_same, T.cl_Ratio, T.na_bottom, (by show 1 < 1000; decide), ?_⟩
        · unfold Sz at *; omega
        refine k _ ⟨dx, Eq.trans upd_same ?_⟩ (keep _ _)
        show some (HO.ins (CR K) dx _) = some (HO.ins (CR K) dx _)
        unfold nrm rf
        rw [if_pos hneg]
      · have hneg : ¬ b < 0 := fun q => z (decide_eq_true q)
        refine ⟨_, rfl, _, rfl, _, _, rfl, rfl, ⟨by omega, gs⟩, _, rfl, p, CR K, dx, _, rfl, hp2, T.cl_Ratio, T.na_top, (by show 0 < 1000; decide), ?_⟩
        refine ⟨_, rfl, _, rfl, _, _, rfl, rfl, ⟨by omega, gs⟩, _, rfl, p, CR K, dx, _, rfl, upd_same, T.cl_Ratio, T.na_bottom, (by show 1 < 1000; decide), ?_⟩
        refine k _ ⟨dx, Eq.trans upd_same ?_⟩ (keep _ _)
        show some (HO.ins (CR K) dx _) = some (HO.ins (CR K) dx _)
        unfold nrm rf
        rw [if_neg hneg]
end
end K11

set_option Elab.async false
set_option linter.all false
set_option maxRecDepth 100000
set_option maxHeartbeats 4000000
namespace K11
open PySem PySem.Spec PyProof.Rows L2 Own
open PySem.W (Frag)
section
variable {P : Program} {w : World} {K : Frag} {mg : Str → Option Value} {base : Heap}
/-! ### how Ratio(..) is bound -/
theorem b_init2 (T : Tx K mg) : Binds K (fdOf K (ma K (CR K) "__init__")) ["self", "top", "bottom"] [] := by
  obtain ⟨ds, r, b⟩ := T.F_Ratio_init.binds1 (ps := ["self", "top", "bottom"]) 3 1 (by simp) rfl fun _ _ _ _ _ _ _ us its h1 h2 => match us, its, h1, h2 with | [_, _, _], [_], _, _ => ⟨_, rfl, rfl⟩
  cases r
  exact b
theorem b_init1 (T : Tx K mg) : ∃ ds, Vals [V.int 1] ds ∧ Binds K (fdOf K (ma K (CR K) "__init__")) ["self", "top", "bottom"] ds := 
  T.F_Ratio_init.binds1 (ps := ["self", "top", "bottom"]) 2 0 (by simp) rfl fun _ _ _ _ _ _ _ us its h1 h2 => match us, its, h1, h2 with | [_, _], [_], _, _ => ⟨_, rfl, rfl⟩
/-- Ratio(t, b): what behind the making is wanted -/
theorem mkR {H : Hp} {t b : Int} {Q : VK} (hb0 : b ≠ 0) (hbs : Sz 8000 b) (q : ∀ x H2, H x = none → Same H H2 → RatAt (CR K) H2 x (nrm t b) → Q (.ref x) H2) :
    ∀ x dx, H x = none → H dx = none → dx ≠ x → spInit K [.ref x, .int t, .int b] (upd (upd H dx (.own x)) x (.ins (CR K) dx [])) (fun v H2 => v = .non ∧ Q (.ref x) H2) E0 := by
  intro x dx nx ndx ne
  refine ⟨x, dx, t, b, rfl, upd_same, hb0, hbs, fun H2 R2 kp => ⟨rfl, q x H2 nx (Same.made nx ndx kp) R2⟩⟩
/-- a getter's promise -/
def spTop (K : Frag) : Sp := fun vs H Q _ => ∃ a q, vs = [.ref a] ∧ RatAt (CR K) H a q ∧ Q (.int q.1) H
def spBot (K : Frag) : Sp := fun vs H Q _ => ∃ a q, vs = [.ref a] ∧ RatAt (CR K) H a q ∧ Q (.int q.2) H
theorem ok_top (T : Tx K mg) : FG P w K mg base CX0 1 (gt K "Ratio" "top") (fdOf K (gt K "Ratio" "top")) ["self"] (spTop K) := by
  refine fg_no T.F_Ratio_top sc_Ratio_top (fun vs H Q E h => ?_) (fun cdv A outer s H vs Q E gg hr h => ?_)
  · obtain ⟨a, q, rfl, _⟩ := h
    rfl
  · obtain ⟨a, q, rfl, ⟨dx, e⟩, k⟩ := h
    exact ⟨_, pss_one (ps_ret (pe_fld (pv 0) rfl)), _, rfl, a, CR K, dx, _, _, rfl, e, T.cl_Ratio, T.na_top, rf_top _ _, k⟩
theorem ok_bottom (T : Tx K mg) : FG P w K mg base CX0 1 (gt K "Ratio" "bottom") (fdOf K (gt K "Ratio" "bottom")) ["self"] (spBot K) := by
  refine fg_no T.F_Ratio_bottom sc_Ratio_bottom (fun vs H Q E h => ?_) (fun cdv A outer s H vs Q E gg hr h => ?_)
  · obtain ⟨a, q, rfl, _⟩ := h
    rfl
  · obtain ⟨a, q, rfl, ⟨dx, e⟩, k⟩ := h
    exact ⟨_, pss_one (ps_ret (pe_fld (pv 0) rfl)), _, rfl, a, CR K, dx, _, _, rfl, e, T.cl_Ratio, T.na_bottom, rf_bottom _ _, k⟩
def sgn (i : Int) : Int := if i = 0 then 0 else if i > 0 then 1 else -1
def spSign (K : Frag) : Sp := fun vs H Q _ => ∃ a q, vs = [.ref a] ∧ RatAt (CR K) H a q ∧ Q (.int (sgn q.1)) H
theorem ok_sign (T : Tx K mg) : FG P w K mg base CX0 1 (gt K "Ratio" "sign") (fdOf K (gt K "Ratio" "sign")) ["self"] (spSign K) := by
  refine fg_no T.F_Ratio_sign sc_Ratio_sign (fun vs H Q E h => ?_) (fun cdv A outer s H vs Q E gg hr h => ?_)
  · obtain ⟨a, q, rfl, _⟩ := h
    rfl
  · obtain ⟨a, q, rfl, ⟨dx, e⟩, k⟩ := h
    refine ⟨_, pss_cons (ps_if (pt_cmpR op_eq (pe_fld (pv 0) rfl) pe_int (nomark _)) (pss_one (ps_ret pe_int)) pss_nil)
      (pss_one (ps_ret (pe_ifExp (pt_cmpR op_gt (pe_fld (pv 0) rfl) pe_int (nomark _)) pe_int (pe_un un_neg pe_int)))), ?_⟩
    refine ⟨_, rfl, a, CR K, dx, _, _, rfl, e, T.cl_Ratio, T.na_top, rf_top _ _, rfl, _, rfl, ?_⟩
    refine ite2 (fun z => ?_) (fun z => ?_)
    · have z2 : q.1 = 0 := by simpa using z
      unfold sgn at k
      rw [if_pos z2] at k
      exact k
    · have z2 : ¬ q.1 = 0 := fun y => z (decide_eq_true (by rw [y]))
      unfold sgn at k
      rw [if_neg z2] at k
      refine ⟨_, rfl, a, CR K, dx, _, _, rfl, e, T.cl_Ratio, T.na_top, rf_top _ _, _, _, rfl, rfl, _, rfl, ?_⟩
      refine ite2 (fun y => ?_) (fun y => ?_)
      · rw [if_pos (show q.1 > 0 from of_decide_eq_true y)] at k
        exact k
      · rw [if_neg (show ¬ q.1 > 0 from fun q0 => y (decide_eq_true q0))] at k
        exact ⟨_, rfl, k⟩
def spWhole (K : Frag) : Sp := fun vs H Q _ => ∃ a q, vs = [.ref a] ∧ RatAt (CR K) H a q ∧ Q (.bl (decide (q.2 = 1))) H
theorem ok_is_whole (T : Tx K mg) : FG P w K mg base CX0 1 (gt K "Ratio" "is_whole") (fdOf K (gt K "Ratio" "is_whole")) ["self"] (spWhole K) := by
  refine fg_no T.F_Ratio_is_whole sc_Ratio_is_whole (fun vs H Q E h => ?_) (fun cdv A outer s H vs Q E gg hr h => ?_)
  · obtain ⟨a, q, rfl, _⟩ := h
    rfl
  · obtain ⟨a, q, rfl, ⟨dx, e⟩, k⟩ := h
    refine ⟨_, pss_one (ps_ret (pe_cmpR op_eq (pe_fld (pv 0) rfl) pe_int (nomark _))), ?_⟩
    refine ⟨_, rfl, a, CR K, dx, _, _, rfl, e, T.cl_Ratio, T.na_bottom, rf_bottom _ _, rfl, ?_⟩
    have e2 : decide (V.int q.2 = V.int 1) = decide (q.2 = 1) := by
      by_cases z : q.2 = 1
      · rw [z]; rfl
      · rw [decide_eq_false z]
        exact decide_eq_false fun y => z (by injection y)
    show Q (.bl (decide (V.int q.2 = V.int 1))) H
    rw [e2]
    exact k
/-! ### as_ratio -/
theorem nrm_one (i : Int) : nrm i 1 = (i, 1) := by
  unfold nrm
  rw [if_neg (by decide)]
  simp
def spAsR (K : Frag) : Sp := fun vs H Q _ => ∃ v q, vs = [v] ∧ NumV (CR K) H v q ∧ ∀ a H2, Same H H2 → RatAt (CR K) H2 a q → Q (.ref a) H2
theorem ok_as_ratio (T : Tx K mg) : FG P w K mg base CX0 4 (ga K "as_ratio") (fdOf K (ga K "as_ratio")) ["number"] (spAsR K) := by
  refine fg_no T.F_as_ratio sc_as_ratio (fun vs H Q E h => ?_) (fun cdv A outer s H vs Q E gg hr h => ?_)
  · obtain ⟨v, q, rfl, _⟩ := h
    rfl
  · obtain ⟨v, q, rfl, hv, k⟩ := h
    obtain ⟨ds, rd, bd⟩ := b_init1 T
    refine ⟨_, pss_cons (ps_if (pt_val (pe_callB call_isi (by rfl) T.n_isinstance (by decide +kernel) (pa_cons (pv 0) (pa_cons (pe_glob (v := .ref (CR K)) rfl T.g_Ratio rfl) pa_nil)))) (pss_one (ps_ret (pv 0))) pss_nil)
      (pss_one (ps_ret (pe_mk T.mk_Ratio (ok_init T) gg hr rfl T.g_Ratio bd rd pass0 (pa_cons (pv 0) pa_nil)))), ?_⟩
    rcases hv with ⟨i, rfl, rfl⟩ | ⟨a, rfl, R⟩
    · refine ⟨_, rfl, _, _, _, _, _, rfl, .own _, .base (.int i), T.ko_int, _, rfl, ?_⟩
      refine iteF ⟨_, rfl, ?_⟩
      exact mkR (by decide) (by unfold Sz; decide +kernel) fun x H2 nx s2 R2 => k x H2 s2 (by rw [nrm_one] at R2; exact R2)
    · obtain ⟨dx, e⟩ := R
      refine ⟨_, rfl, _, _, _, _, _, rfl, .own _, T.is_Ratio.ty T.cl_Ratio e, T.kk_Ratio, _, rfl, ?_⟩
      exact iteT ⟨_, rfl, k a H (Same.refl H) ⟨dx, e⟩⟩
end
end K11

set_option Elab.async false
set_option linter.all false
set_option maxRecDepth 100000
set_option maxHeartbeats 4000000
namespace K11
open PySem PySem.Spec PyProof.Rows L2 Own
open PySem.W (Frag)
section
variable {P : Program} {w : World} {K : Frag} {mg : Str → Option Value} {base : Heap}
theorem NumV.same {C : Addr} {H H2 : Hp} {v : V} {q : Int × Int} (h : NumV C H v q) (s : Same H H2) : NumV C H2 v q := by
  rcases h with h | ⟨a, e, R⟩
  · exact .inl h
  · exact .inr ⟨a, e, R.same s⟩
/-- the promise of an operator: f brings the pair -/
def spBin (K : Frag) (f : Int × Int → Int × Int → Int × Int) : Sp := fun vs H Q _ => ∃ a v x y n m, vs = [.ref a, v] ∧ RatAt (CR K) H a x ∧ NumV (CR K) H v y ∧ OkP n x ∧ OkP m y ∧ 0 < n ∧ 0 < m ∧ n + m ≤ 7900 ∧
  ∀ p H2, Same H H2 → RatAt (CR K) H2 p (f x y) → Q (.ref p) H2
theorem spBin_len {f : Int × Int → Int × Int → Int × Int} {vs : List V} {H : Hp} {Q : VK} {E : XK} (h : spBin K f vs H Q E) : vs.length = 2 := by
  obtain ⟨a, v, x, y, n, m, rfl, _⟩ := h
  rfl
theorem mw {n m : Nat} {i j : Int} (h : Sz n i) (k : Sz m j) (hn : 0 < n) (hm : 0 < m) (hs : n + m ≤ 7900) : CMulW i j := sz_mulW h k hn hm (by omega)
theorem ok_add (T : Tx K mg) : FG P w K mg base CX0 5 (ma K (CR K) "__add__") (fdOf K (ma K (CR K) "__add__")) ["self", "other"] (spBin K addP) := by
  refine fg_no T.F_Ratio_add sc_Ratio_add (fun vs H Q E h => spBin_len h) (fun cdv A outer s H vs Q E gg hr h => ?_)
  obtain ⟨a, v, x, y, n, m, rfl, R, hv, ox, oy, n0, m0, hs, k⟩ := h
  refine ⟨_, pss_cons (ps_set (i := 2) sc_Ratio_add.nd rfl (Or.inl rfl) (pe_fn (ok_as_ratio T) gg (hr.mono (by decide)) rfl T.g_as_ratio T.F_as_ratio.kp (b_as_ratio T) .nil pass0 (pa_cons (pv 1) pa_nil)))
    (pss_cons (ps_set (i := 3) sc_Ratio_add.nd rfl (Or.inl rfl) (pe_op op_add
      (pe_op op_mulW (pe_fld (pv 0) rfl) (pe_pr (pv 2) T.cl_Ratio T.p_bottom (ok_bottom T) gg (hr.mono (by decide)) (b_Ratio_bottom T) .nil pass0))
      (pe_op op_mulW (pe_pr (pv 2) T.cl_Ratio T.p_top (ok_top T) gg (hr.mono (by decide)) (b_Ratio_top T) .nil pass0) (pe_fld (pv 0) rfl))))
    (pss_one (ps_ret (pe_mk T.mk_Ratio (ok_init T) gg (hr.mono (by decide)) rfl T.g_Ratio (b_init2 T) .nil pass0 (pa_cons (pv 3)
      (pa_cons (pe_op op_mulW (pe_fld (pv 0) rfl) (pe_pr (pv 2) T.cl_Ratio T.p_bottom (ok_bottom T) gg (hr.mono (by decide)) (b_Ratio_bottom T) .nil pass0)) pa_nil)))))), ?_⟩
  refine ⟨_, rfl, v, y, rfl, hv, fun r H2 s2 R2 => ?_⟩
  have R1 : RatAt (CR K) H2 a x := R.same s2
  obtain ⟨dx, e⟩ := id R1
  obtain ⟨dy, e2⟩ := id R2
  refine ⟨_, rfl, a, CR K, dx, _, _, rfl, e, T.cl_Ratio, T.na_top, rf_top _ _, _, rfl, r, dy, _, rfl, e2, r, y, rfl, R2, _, _, rfl, rfl, mw ox.st oy.sb n0 m0 hs, ?_⟩
  refine ⟨_, rfl, r, dy, _, rfl, e2, r, y, rfl, R2, _, rfl, a, CR K, dx, _, _, rfl, e, T.cl_Ratio, T.na_bottom, rf_bottom _ _, _, _, rfl, rfl, mw oy.st ox.sb m0 n0 (by omega), _, _, rfl, rfl, ?_⟩
  refine ⟨_, rfl, _, rfl, a, CR K, dx, _, _, rfl, e, T.cl_Ratio, T.na_bottom, rf_bottom _ _, _, rfl, r, dy, _, rfl, e2, r, y, rfl, R2, _, _, rfl, rfl, mw ox.sb oy.sb n0 m0 hs, ?_⟩
  exact mkR (Int.ne_of_gt (Int.mul_pos ox.pos oy.pos)) (sz_le (sz_mul ox.sb oy.sb) (by omega)) fun p H3 np s3 R3 => k p H3 (s2.trans s3) R3
theorem ok_sub (T : Tx K mg) : FG P w K mg base CX0 5 (ma K (CR K) "__sub__") (fdOf K (ma K (CR K) "__sub__")) ["self", "other"] (spBin K subP) := by
  refine fg_no T.F_Ratio_sub sc_Ratio_sub (fun vs H Q E h => spBin_len h) (fun cdv A outer s H vs Q E gg hr h => ?_)
  obtain ⟨a, v, x, y, n, m, rfl, R, hv, ox, oy, n0, m0, hs, k⟩ := h
  refine ⟨_, pss_cons (ps_set (i := 2) sc_Ratio_sub.nd rfl (Or.inl rfl) (pe_fn (ok_as_ratio T) gg (hr.mono (by decide)) rfl T.g_as_ratio T.F_as_ratio.kp (b_as_ratio T) .nil pass0 (pa_cons (pv 1) pa_nil)))
    (pss_cons (ps_set (i := 3) sc_Ratio_sub.nd rfl (Or.inl rfl) (pe_op op_sub
      (pe_op op_mulW (pe_fld (pv 0) rfl) (pe_pr (pv 2) T.cl_Ratio T.p_bottom (ok_bottom T) gg (hr.mono (by decide)) (b_Ratio_bottom T) .nil pass0))
      (pe_op op_mulW (pe_pr (pv 2) T.cl_Ratio T.p_top (ok_top T) gg (hr.mono (by decide)) (b_Ratio_top T) .nil pass0) (pe_fld (pv 0) rfl))))
    (pss_one (ps_ret (pe_mk T.mk_Ratio (ok_init T) gg (hr.mono (by decide)) rfl T.g_Ratio (b_init2 T) .nil pass0 (pa_cons (pv 3)
      (pa_cons (pe_op op_mulW (pe_fld (pv 0) rfl) (pe_pr (pv 2) T.cl_Ratio T.p_bottom (ok_bottom T) gg (hr.mono (by decide)) (b_Ratio_bottom T) .nil pass0)) pa_nil)))))), ?_⟩
  refine ⟨_, rfl, v, y, rfl, hv, fun r H2 s2 R2 => ?_⟩
  have R1 : RatAt (CR K) H2 a x := R.same s2
  obtain ⟨dx, e⟩ := id R1
  obtain ⟨dy, e2⟩ := id R2
  refine ⟨_, rfl, a, CR K, dx, _, _, rfl, e, T.cl_Ratio, T.na_top, rf_top _ _, _, rfl, r, dy, _, rfl, e2, r, y, rfl, R2, _, _, rfl, rfl, mw ox.st oy.sb n0 m0 hs, ?_⟩
  refine ⟨_, rfl, r, dy, _, rfl, e2, r, y, rfl, R2, _, rfl, a, CR K, dx, _, _, rfl, e, T.cl_Ratio, T.na_bottom, rf_bottom _ _, _, _, rfl, rfl, mw oy.st ox.sb m0 n0 (by omega), _, _, rfl, rfl, ?_⟩
  refine ⟨_, rfl, _, rfl, a, CR K, dx, _, _, rfl, e, T.cl_Ratio, T.na_bottom, rf_bottom _ _, _, rfl, r, dy, _, rfl, e2, r, y, rfl, R2, _, _, rfl, rfl, mw ox.sb oy.sb n0 m0 hs, ?_⟩
  exact mkR (Int.ne_of_gt (Int.mul_pos ox.pos oy.pos)) (sz_le (sz_mul ox.sb oy.sb) (by omega)) fun p H3 np s3 R3 => k p H3 (s2.trans s3) R3
theorem ok_mul (T : Tx K mg) : FG P w K mg base CX0 5 (ma K (CR K) "__mul__") (fdOf K (ma K (CR K) "__mul__")) ["self", "other"] (spBin K mulP) := by
  refine fg_no T.F_Ratio_mul sc_Ratio_mul (fun vs H Q E h => spBin_len h) (fun cdv A outer s H vs Q E gg hr h => ?_)
  obtain ⟨a, v, x, y, n, m, rfl, R, hv, ox, oy, n0, m0, hs, k⟩ := h
  refine ⟨_, pss_cons (ps_set (i := 2) sc_Ratio_mul.nd rfl (Or.inl rfl) (pe_fn (ok_as_ratio T) gg (hr.mono (by decide)) rfl T.g_as_ratio T.F_as_ratio.kp (b_as_ratio T) .nil pass0 (pa_cons (pv 1) pa_nil)))
    (pss_one (ps_ret (pe_mk T.mk_Ratio (ok_init T) gg (hr.mono (by decide)) rfl T.g_Ratio (b_init2 T) .nil pass0
      (pa_cons (pe_op op_mulW (pe_fld (pv 0) rfl) (pe_pr (pv 2) T.cl_Ratio T.p_top (ok_top T) gg (hr.mono (by decide)) (b_Ratio_top T) .nil pass0))
      (pa_cons (pe_op op_mulW (pe_fld (pv 0) rfl) (pe_pr (pv 2) T.cl_Ratio T.p_bottom (ok_bottom T) gg (hr.mono (by decide)) (b_Ratio_bottom T) .nil pass0)) pa_nil))))), ?_⟩
  refine ⟨_, rfl, v, y, rfl, hv, fun r H2 s2 R2 => ?_⟩
  have R1 : RatAt (CR K) H2 a x := R.same s2
  obtain ⟨dx, e⟩ := id R1
  obtain ⟨dy, e2⟩ := id R2
  refine ⟨_, rfl, a, CR K, dx, _, _, rfl, e, T.cl_Ratio, T.na_top, rf_top _ _, _, rfl, r, dy, _, rfl, e2, r, y, rfl, R2, _, _, rfl, rfl, mw ox.st oy.st n0 m0 hs, ?_⟩
  refine ⟨_, rfl, a, CR K, dx, _, _, rfl, e, T.cl_Ratio, T.na_bottom, rf_bottom _ _, _, rfl, r, dy, _, rfl, e2, r, y, rfl, R2, _, _, rfl, rfl, mw ox.sb oy.sb n0 m0 hs, ?_⟩
  exact mkR (Int.ne_of_gt (Int.mul_pos ox.pos oy.pos)) (sz_le (sz_mul ox.sb oy.sb) (by omega)) fun p H3 np s3 R3 => k p H3 (s2.trans s3) R3
def spOver (K : Frag) : Sp := fun vs H Q _ => ∃ a v x y n m, vs = [.ref a, v] ∧ RatAt (CR K) H a x ∧ NumV (CR K) H v y ∧ OkP n x ∧ OkP m y ∧ 0 < n ∧ 0 < m ∧ n + m ≤ 7900 ∧ y.1 ≠ 0 ∧
  ∀ p H2, Same H H2 → RatAt (CR K) H2 p (ovP x y) → Q (.ref p) H2
theorem ok_over (T : Tx K mg) : FG P w K mg base CX0 5 (ma K (CR K) "over") (fdOf K (ma K (CR K) "over")) ["self", "other"] (spOver K) := by
  refine fg_no T.F_Ratio_over sc_Ratio_over (fun vs H Q E h => ?_) (fun cdv A outer s H vs Q E gg hr h => ?_)
  · obtain ⟨a, v, x, y, n, m, rfl, _⟩ := h
    rfl
  obtain ⟨a, v, x, y, n, m, rfl, R, hv, ox, oy, n0, m0, hs, hy, k⟩ := h
  refine ⟨_, pss_cons (ps_set (i := 2) sc_Ratio_over.nd rfl (Or.inl rfl) (pe_fn (ok_as_ratio T) gg (hr.mono (by decide)) rfl T.g_as_ratio T.F_as_ratio.kp (b_as_ratio T) .nil pass0 (pa_cons (pv 1) pa_nil)))
    (pss_cons (ps_if (pt_cmpR op_eq (pe_pr (pv 2) T.cl_Ratio T.p_top (ok_top T) gg (hr.mono (by decide)) (b_Ratio_top T) .nil pass0) pe_int (nomark _)) (pss_one ps_never) pss_nil)
    (pss_one (ps_ret (pe_mk T.mk_Ratio (ok_init T) gg (hr.mono (by decide)) rfl T.g_Ratio (b_init2 T) .nil pass0
      (pa_cons (pe_op op_mulW (pe_fld (pv 0) rfl) (pe_pr (pv 2) T.cl_Ratio T.p_bottom (ok_bottom T) gg (hr.mono (by decide)) (b_Ratio_bottom T) .nil pass0))
      (pa_cons (pe_op op_mulW (pe_fld (pv 0) rfl) (pe_pr (pv 2) T.cl_Ratio T.p_top (ok_top T) gg (hr.mono (by decide)) (b_Ratio_top T) .nil pass0)) pa_nil)))))), ?_⟩
  refine ⟨_, rfl, v, y, rfl, hv, fun r H2 s2 R2 => ?_⟩
  have R1 : RatAt (CR K) H2 a x := R.same s2
  obtain ⟨dx, e⟩ := id R1
  obtain ⟨dy, e2⟩ := id R2
  refine ⟨_, rfl, r, dy, _, rfl, e2, r, y, rfl, R2, rfl, _, rfl, ?_⟩
  refine ite2 (fun z => ?_) (fun z => ?_)
  · exact absurd (by simpa using z) hy
  refine ⟨_, rfl, a, CR K, dx, _, _, rfl, e, T.cl_Ratio, T.na_top, rf_top _ _, _, rfl, r, dy, _, rfl, e2, r, y, rfl, R2, _, _, rfl, rfl, mw ox.st oy.sb n0 m0 hs, ?_⟩
  refine ⟨_, rfl, a, CR K, dx, _, _, rfl, e, T.cl_Ratio, T.na_bottom, rf_bottom _ _, _, rfl, r, dy, _, rfl, e2, r, y, rfl, R2, _, _, rfl, rfl, mw ox.sb oy.st n0 m0 hs, ?_⟩
  exact mkR (Int.mul_ne_zero (Int.ne_of_gt ox.pos) hy) (sz_le (sz_mul ox.sb oy.st) (by omega)) fun p H3 np s3 R3 => k p H3 (s2.trans s3) R3
def spCmp (K : Frag) (f : Int × Int → Int × Int → Bool) : Sp := fun vs H Q _ => ∃ a v x y n m, vs = [.ref a, v] ∧ RatAt (CR K) H a x ∧ NumV (CR K) H v y ∧ OkP n x ∧ OkP m y ∧ 0 < n ∧ 0 < m ∧ n + m ≤ 7900 ∧
  ∀ H2, Same H H2 → Q (.bl (f x y)) H2
def belowP (x y : Int × Int) : Bool := decide (x.1 * y.2 < y.1 * x.2)
def atMostP (x y : Int × Int) : Bool := decide (x.1 * y.2 ≤ y.1 * x.2)
theorem ok_is_below (T : Tx K mg) : FG P w K mg base CX0 5 (ma K (CR K) "is_below") (fdOf K (ma K (CR K) "is_below")) ["self", "other"] (spCmp K belowP) := by
  refine fg_no T.F_Ratio_is_below sc_Ratio_is_below (fun vs H Q E h => ?_) (fun cdv A outer s H vs Q E gg hr h => ?_)
  · obtain ⟨a, v, x, y, n, m, rfl, _⟩ := h
    rfl
  obtain ⟨a, v, x, y, n, m, rfl, R, hv, ox, oy, n0, m0, hs, k⟩ := h
  refine ⟨_, pss_cons (ps_set (i := 2) sc_Ratio_is_below.nd rfl (Or.inl rfl) (pe_fn (ok_as_ratio T) gg (hr.mono (by decide)) rfl T.g_as_ratio T.F_as_ratio.kp (b_as_ratio T) .nil pass0 (pa_cons (pv 1) pa_nil)))
    (pss_one (ps_ret (pe_cmpR op_lt
      (pe_op op_mulW (pe_fld (pv 0) rfl) (pe_pr (pv 2) T.cl_Ratio T.p_bottom (ok_bottom T) gg (hr.mono (by decide)) (b_Ratio_bottom T) .nil pass0))
      (pe_op op_mulW (pe_pr (pv 2) T.cl_Ratio T.p_top (ok_top T) gg (hr.mono (by decide)) (b_Ratio_top T) .nil pass0) (pe_fld (pv 0) rfl)) (nomark _)))), ?_⟩
  refine ⟨_, rfl, v, y, rfl, hv, fun r H2 s2 R2 => ?_⟩
  have R1 : RatAt (CR K) H2 a x := R.same s2
  obtain ⟨dx, e⟩ := id R1
  obtain ⟨dy, e2⟩ := id R2
  refine ⟨_, rfl, a, CR K, dx, _, _, rfl, e, T.cl_Ratio, T.na_top, rf_top _ _, _, rfl, r, dy, _, rfl, e2, r, y, rfl, R2, _, _, rfl, rfl, mw ox.st oy.sb n0 m0 hs, ?_⟩
  exact ⟨_, rfl, r, dy, _, rfl, e2, r, y, rfl, R2, _, rfl, a, CR K, dx, _, _, rfl, e, T.cl_Ratio, T.na_bottom, rf_bottom _ _, _, _, rfl, rfl, mw oy.st ox.sb m0 n0 (by omega), _, _, rfl, rfl, k H2 s2⟩
theorem ok_is_at_most (T : Tx K mg) : FG P w K mg base CX0 5 (ma K (CR K) "is_at_most") (fdOf K (ma K (CR K) "is_at_most")) ["self", "other"] (spCmp K atMostP) := by
  refine fg_no T.F_Ratio_is_at_most sc_Ratio_is_at_most (fun vs H Q E h => ?_) (fun cdv A outer s H vs Q E gg hr h => ?_)
  · obtain ⟨a, v, x, y, n, m, rfl, _⟩ := h
    rfl
  obtain ⟨a, v, x, y, n, m, rfl, R, hv, ox, oy, n0, m0, hs, k⟩ := h
  refine ⟨_, pss_cons (ps_set (i := 2) sc_Ratio_is_at_most.nd rfl (Or.inl rfl) (pe_fn (ok_as_ratio T) gg (hr.mono (by decide)) rfl T.g_as_ratio T.F_as_ratio.kp (b_as_ratio T) .nil pass0 (pa_cons (pv 1) pa_nil)))
    (pss_one (ps_ret (pe_cmpR op_le
      (pe_op op_mulW (pe_fld (pv 0) rfl) (pe_pr (pv 2) T.cl_Ratio T.p_bottom (ok_bottom T) gg (hr.mono (by decide)) (b_Ratio_bottom T) .nil pass0))
      (pe_op op_mulW (pe_pr (pv 2) T.cl_Ratio T.p_top (ok_top T) gg (hr.mono (by decide)) (b_Ratio_top T) .nil pass0) (pe_fld (pv 0) rfl)) (nomark _)))), ?_⟩
  refine ⟨_, rfl, v, y, rfl, hv, fun r H2 s2 R2 => ?_⟩
  have R1 : RatAt (CR K) H2 a x := R.same s2
  obtain ⟨dx, e⟩ := id R1
  obtain ⟨dy, e2⟩ := id R2
  refine ⟨_, rfl, a, CR K, dx, _, _, rfl, e, T.cl_Ratio, T.na_top, rf_top _ _, _, rfl, r, dy, _, rfl, e2, r, y, rfl, R2, _, _, rfl, rfl, mw ox.st oy.sb n0 m0 hs, ?_⟩
  exact ⟨_, rfl, r, dy, _, rfl, e2, r, y, rfl, R2, _, rfl, a, CR K, dx, _, _, rfl, e, T.cl_Ratio, T.na_bottom, rf_bottom _ _, _, _, rfl, rfl, mw oy.st ox.sb m0 n0 (by omega), _, _, rfl, rfl, k H2 s2⟩
end
end K11

set_option Elab.async false
set_option linter.all false
set_option maxRecDepth 100000
set_option maxHeartbeats 4000000
namespace K11
open PySem PySem.Spec PyProof.Rows L2 Own
open PySem.W (Frag)
section
variable {P : Program} {w : World} {K : Frag} {mg : Str → Option Value} {base : Heap}
/-- a reflected operator's promise: the other one is a whole number -/
def spRef (K : Frag) (f : Int × Int → Int × Int → Int × Int) : Sp := fun vs H Q _ => ∃ a i x n m, vs = [.ref a, .int i] ∧ RatAt (CR K) H a x ∧ OkP n x ∧ OkP m (i, 1) ∧ 0 < n ∧ 0 < m ∧ n + m ≤ 7900 ∧
  ∀ p H2, Same H H2 → RatAt (CR K) H2 p (f x (i, 1)) → Q (.ref p) H2
theorem spRef_len {f : Int × Int → Int × Int → Int × Int} {vs : List V} {H : Hp} {Q : VK} {E : XK} (h : spRef K f vs H Q E) : vs.length = 2 := by
  obtain ⟨a, v, x, n, m, rfl, _⟩ := h
  rfl
theorem ok_radd (T : Tx K mg) : FG P w K mg base CX0 6 (ma K (CR K) "__radd__") (fdOf K (ma K (CR K) "__radd__")) ["self", "other"] (spRef K addP) := by
  refine fg_no T.F_Ratio_radd sc_Ratio_radd (fun vs H Q E h => spRef_len h) (fun cdv A outer s H vs Q E gg hr h => ?_)
  obtain ⟨a, i, x, n, m, rfl, R, ox, oy, n0, m0, hs, k⟩ := h
  obtain ⟨j1, j2, j3, j4⟩ := T.i_add
  obtain ⟨dx, e⟩ := id R
  exact ⟨_, pss_one (ps_ret (pe_op (og_left (op := .Add) j1 j3 j4 (ok_add T) gg hr (b_Ratio_add T) pass0) (pv 0) (pv 1))),
    _, rfl, _, rfl, a, dx, _, i, rfl, rfl, e, a, _, x, (i, 1), n, m, rfl, R, .inl ⟨i, rfl, rfl⟩, ox, oy, n0, m0, hs, k⟩
theorem ok_rmul (T : Tx K mg) : FG P w K mg base CX0 6 (ma K (CR K) "__rmul__") (fdOf K (ma K (CR K) "__rmul__")) ["self", "other"] (spRef K mulP) := by
  refine fg_no T.F_Ratio_rmul sc_Ratio_rmul (fun vs H Q E h => spRef_len h) (fun cdv A outer s H vs Q E gg hr h => ?_)
  obtain ⟨a, i, x, n, m, rfl, R, ox, oy, n0, m0, hs, k⟩ := h
  obtain ⟨j1, j2, j3, j4⟩ := T.i_mul
  obtain ⟨dx, e⟩ := id R
  exact ⟨_, pss_one (ps_ret (pe_op (og_left (op := .Mult) j1 j3 j4 (ok_mul T) gg hr (b_Ratio_mul T) pass0) (pv 0) (pv 1))),
    _, rfl, _, rfl, a, dx, _, i, rfl, rfl, e, a, _, x, (i, 1), n, m, rfl, R, .inl ⟨i, rfl, rfl⟩, ox, oy, n0, m0, hs, k⟩
theorem ok_rsub (T : Tx K mg) : FG P w K mg base CX0 6 (ma K (CR K) "__rsub__") (fdOf K (ma K (CR K) "__rsub__")) ["self", "other"] (spRef K fun x y => subP y x) := by
  refine fg_no T.F_Ratio_rsub sc_Ratio_rsub (fun vs H Q E h => spRef_len h) (fun cdv A outer s H vs Q E gg hr h => ?_)
  obtain ⟨a, i, x, n, m, rfl, R, ox, oy, n0, m0, hs, k⟩ := h
  obtain ⟨j1, j2, j3, j4⟩ := T.i_sub
  refine ⟨_, pss_one (ps_ret (pe_op (og_both (op := .Sub) j1 (ok_sub T) gg hr (b_Ratio_sub T) pass0)
    (pe_fn (ok_as_ratio T) gg (hr.mono (by decide)) rfl T.g_as_ratio T.F_as_ratio.kp (b_as_ratio T) .nil pass0 (pa_cons (pv 1) pa_nil)) (pv 0))), ?_⟩
  refine ⟨_, rfl, _, (i, 1), rfl, .inl ⟨i, rfl, rfl⟩, fun r H2 s2 R2 => ?_⟩
  obtain ⟨dr, e2⟩ := id R2
  have R1 := R.same s2
  obtain ⟨dx, e⟩ := id R1
  exact ⟨_, rfl, r, dr, _, a, dx, _, rfl, rfl, e2, e, r, _, (i, 1), x, m, n, rfl, R2, .inr ⟨a, rfl, R1⟩, oy, ox, m0, n0, by omega, fun p H3 s3 R3 => k p H3 (s2.trans s3) R3⟩
def spUn (K : Frag) (f : Int × Int → Int × Int) : Sp := fun vs H Q _ => ∃ a x n, vs = [.ref a] ∧ RatAt (CR K) H a x ∧ OkP n x ∧ n ≤ 8000 ∧ ∀ p H2, Same H H2 → RatAt (CR K) H2 p (f x) → Q (.ref p) H2
def negP (x : Int × Int) : Int × Int := nrm (-x.1) x.2
def absP (x : Int × Int) : Int × Int := nrm (if x.1 < 0 then -x.1 else x.1) x.2
theorem ok_neg (T : Tx K mg) : FG P w K mg base CX0 4 (ma K (CR K) "__neg__") (fdOf K (ma K (CR K) "__neg__")) ["self"] (spUn K negP) := by
  refine fg_no T.F_Ratio_neg sc_Ratio_neg (fun vs H Q E h => ?_) (fun cdv A outer s H vs Q E gg hr h => ?_)
  · obtain ⟨a, x, n, rfl, _⟩ := h
    rfl
  obtain ⟨a, x, n, rfl, ⟨dx, e⟩, ox, hn, k⟩ := h
  refine ⟨_, pss_one (ps_ret (pe_mk T.mk_Ratio (ok_init T) gg hr rfl T.g_Ratio (b_init2 T) .nil pass0 (pa_cons (pe_un un_neg (pe_fld (pv 0) rfl)) (pa_cons (pe_fld (pv 0) rfl) pa_nil)))), ?_⟩
  refine ⟨_, rfl, a, CR K, dx, _, _, rfl, e, T.cl_Ratio, T.na_top, rf_top _ _, _, rfl, _, rfl, a, CR K, dx, _, _, rfl, e, T.cl_Ratio, T.na_bottom, rf_bottom _ _, ?_⟩
  exact mkR (Int.ne_of_gt ox.pos) (sz_le ox.sb hn) fun p H3 np s3 R3 => k p H3 s3 R3
theorem ok_unsigned (T : Tx K mg) : FG P w K mg base CX0 4 (ma K (CR K) "unsigned") (fdOf K (ma K (CR K) "unsigned")) ["self"] (spUn K absP) := by
  refine fg_no T.F_Ratio_unsigned sc_Ratio_unsigned (fun vs H Q E h => ?_) (fun cdv A outer s H vs Q E gg hr h => ?_)
  · obtain ⟨a, x, n, rfl, _⟩ := h
    rfl
  obtain ⟨a, x, n, rfl, ⟨dx, e⟩, ox, hn, k⟩ := h
  refine ⟨_, pss_one (ps_ret (pe_mk T.mk_Ratio (ok_init T) gg hr rfl T.g_Ratio (b_init2 T) .nil pass0 (pa_cons (pe_callB call_abs (by rfl) T.n_abs (by decide +kernel) (pa_cons (pe_fld (pv 0) rfl) pa_nil)) (pa_cons (pe_fld (pv 0) rfl) pa_nil)))), ?_⟩
  refine ⟨_, rfl, a, CR K, dx, _, _, rfl, e, T.cl_Ratio, T.na_top, rf_top _ _, _, rfl, _, rfl, a, CR K, dx, _, _, rfl, e, T.cl_Ratio, T.na_bottom, rf_bottom _ _, ?_⟩
  exact mkR (Int.ne_of_gt ox.pos) (sz_le ox.sb hn) fun p H3 np s3 R3 => k p H3 s3 R3
/-- == -/
def spEq (K : Frag) : Sp := fun vs H Q _ => ∃ a v x, vs = [.ref a, v] ∧ RatAt (CR K) H a x ∧ ((∃ b y, v = .ref b ∧ RatAt (CR K) H b y ∧ Q (.bl (decide (x = y))) H) ∨ (∃ i, v = .int i ∧ Q (.bl false) H))
theorem dec_pair (x y : Int × Int) : decide (x = y) = (decide (V.int x.1 = V.int y.1) && decide (V.int x.2 = V.int y.2)) := by
  obtain ⟨a, b⟩ := x
  obtain ⟨c, d⟩ := y
  by_cases h1 : a = c <;> by_cases h2 : b = d <;> simp [h1, h2]
theorem ok_eq (T : Tx K mg) : FG P w K mg base CX0 1 (ma K (CR K) "__eq__") (fdOf K (ma K (CR K) "__eq__")) ["self", "other"] (spEq K) := by
  refine fg_no T.F_Ratio_eq sc_Ratio_eq (fun vs H Q E h => ?_) (fun cdv A outer s H vs Q E gg hr h => ?_)
  · obtain ⟨a, v, x, rfl, _⟩ := h
    rfl
  obtain ⟨a, v, x, rfl, ⟨dx, e⟩, h⟩ := h
  refine ⟨_, pss_one (ps_ret (pe_and (pe_callB call_isi (by rfl) T.n_isinstance (by decide +kernel) (pa_cons (pv 1) (pa_cons (pe_glob (v := .ref (CR K)) rfl T.g_Ratio rfl) pa_nil)))
    (pe_and (pe_cmpR op_eq (pe_fld (pv 0) rfl) (pe_fld (pv 1) rfl) (nomark _)) (pe_one (pe_cmpR op_eq (pe_fld (pv 0) rfl) (pe_fld (pv 1) rfl) (nomark _)))))), ?_⟩
  rcases h with ⟨b, y, rfl, ⟨dy, e2⟩, k⟩ | ⟨i, rfl, k⟩
  · refine ⟨_, rfl, _, _, _, _, _, rfl, .own _, T.is_Ratio.ty T.cl_Ratio e2, T.kk_Ratio, _, rfl, ?_⟩
    refine iteT ?_
    refine ⟨_, rfl, a, CR K, dx, _, _, rfl, e, T.cl_Ratio, T.na_top, rf_top _ _, _, rfl, b, CR K, dy, _, _, rfl, e2, T.cl_Ratio, T.na_top, rf_top _ _, rfl, _, rfl, ?_⟩
    rw [dec_pair] at k
    cases h1 : decide (V.int x.1 = V.int y.1) with
    | false =>
      rw [h1] at k
      exact iteF k
    | true =>
      rw [h1] at k
      refine iteT ?_
      exact ⟨_, rfl, a, CR K, dx, _, _, rfl, e, T.cl_Ratio, T.na_bottom, rf_bottom _ _, _, rfl, b, CR K, dy, _, _, rfl, e2, T.cl_Ratio, T.na_bottom, rf_bottom _ _, rfl, k⟩
  · refine ⟨_, rfl, _, _, _, _, _, rfl, .own _, .base (.int i), T.ko_int, _, rfl, ?_⟩
    exact iteF k
/-! ### texts -/
def S (i : Int) : Str := Str.ofString (toString i)
def shown (q : Int × Int) : Str := if q.2 = 1 then S q.1 else Str.empty ++ S q.1 ++ ("/" : Str) ++ S q.2
def told (q : Int × Int) : Str := Str.empty ++ ("Ratio(" : Str) ++ S q.1 ++ (", " : Str) ++ S q.2 ++ (")" : Str)
def Tl (i : Int) : Prop := i.natAbs.log2 < 1920
theorem S_len {i : Int} (h : Tl i) : (S i).length ≤ 1921 := int_text_len_1921 h
theorem len_app (x y : Str) : (x ++ y).length = x.length + y.length := PySem.Str.length_append x y
theorem len_e : (Str.empty).length = 0 := rfl
theorem szl {n : Nat} (h : n ≤ 10000) : n ≤ sizeLine := by
  rw [sizeLine_eq]
  omega
def spStr (K : Frag) (f : Int × Int → Str) : Sp := fun vs H Q _ => ∃ a q, vs = [.ref a] ∧ RatAt (CR K) H a q ∧ Tl q.1 ∧ Tl q.2 ∧ Q (.str (f q)) H
theorem ok_str (T : Tx K mg) : FG P w K mg base CX0 1 (ma K (CR K) "__str__") (fdOf K (ma K (CR K) "__str__")) ["self"] (spStr K shown) := by
  refine fg_no T.F_Ratio_str sc_Ratio_str (fun vs H Q E h => ?_) (fun cdv A outer s H vs Q E gg hr h => ?_)
  · obtain ⟨a, q, rfl, _⟩ := h
    rfl
  obtain ⟨a, q, rfl, ⟨dx, e⟩, t1, t2, k⟩ := h
  refine ⟨_, pss_cons (ps_if (pt_cmpR op_eq (pe_fld (pv 0) rfl) pe_int (nomark _)) (pss_one (ps_ret (pe_callTy call_str_int (by rfl) T.n_str (by decide +kernel) (pa_cons (pe_fld (pv 0) rfl) pa_nil)))) pss_nil)
    (pss_one (ps_ret (pe_joined (.cons (pe_fmt (pe_fld (pv 0) rfl)) (.cons pe_str (.cons (pe_fmt (pe_fld (pv 0) rfl)) .nil)))))), ?_⟩
  refine ⟨_, rfl, a, CR K, dx, _, _, rfl, e, T.cl_Ratio, T.na_bottom, rf_bottom _ _, rfl, _, rfl, ?_⟩
  have l1 := S_len t1
  have l2 := S_len t2
  have l3 : (("/" : Str)).length = 1 := by decide +kernel
  refine ite2 (fun z => ?_) (fun z => ?_)
  · have z2 : q.2 = 1 := by simpa using z
    unfold shown at k
    rw [if_pos z2] at k
    exact ⟨_, rfl, a, CR K, dx, _, _, rfl, e, T.cl_Ratio, T.na_top, rf_top _ _, _, rfl, t1, k⟩
  · have z2 : ¬ q.2 = 1 := fun y => z (decide_eq_true (by rw [y]))
    unfold shown at k
    rw [if_neg z2] at k
    refine ⟨_, rfl, a, CR K, dx, _, _, rfl, e, T.cl_Ratio, T.na_top, rf_top _ _, .inr ⟨_, rfl, t1, S q.1, rfl, ?_, "/", rfl, ?_, ?_⟩⟩
    · rw [len_app, len_e]; exact szl (by omega)
    · rw [len_app, len_app, len_e, l3]; exact szl (by omega)
    · refine ⟨_, rfl, a, CR K, dx, _, _, rfl, e, T.cl_Ratio, T.na_bottom, rf_bottom _ _, .inr ⟨_, rfl, t2, S q.2, rfl, ?_, k⟩⟩
      rw [len_app, len_app, len_app, len_e, l3]; exact szl (by omega)
theorem ok_repr (T : Tx K mg) : FG P w K mg base CX0 1 (ma K (CR K) "__repr__") (fdOf K (ma K (CR K) "__repr__")) ["self"] (spStr K told) := by
  refine fg_no T.F_Ratio_repr sc_Ratio_repr (fun vs H Q E h => ?_) (fun cdv A outer s H vs Q E gg hr h => ?_)
  · obtain ⟨a, q, rfl, _⟩ := h
    rfl
  obtain ⟨a, q, rfl, ⟨dx, e⟩, t1, t2, k⟩ := h
  refine ⟨_, pss_one (ps_ret (pe_joined (.cons pe_str (.cons (pe_fmt (pe_fld (pv 0) rfl)) (.cons pe_str (.cons (pe_fmt (pe_fld (pv 0) rfl)) (.cons pe_str .nil))))))), ?_⟩
  have l1 := S_len t1
  have l2 := S_len t2
  have l3 : (("Ratio(" : Str)).length = 6 := by decide +kernel
  have l4 : ((", " : Str)).length = 2 := by decide +kernel
  have l5 : ((")" : Str)).length = 1 := by decide +kernel
  refine ⟨"Ratio(", rfl, ?_, _, rfl, a, CR K, dx, _, _, rfl, e, T.cl_Ratio, T.na_top, rf_top _ _, .inr ⟨_, rfl, t1, S q.1, rfl, ?_, ", ", rfl, ?_, _, rfl, a, CR K, dx, _, _, rfl, e, T.cl_Ratio, T.na_bottom, rf_bottom _ _,
    .inr ⟨_, rfl, t2, S q.2, rfl, ?_, ")", rfl, ?_, k⟩⟩⟩
  · rw [len_app, len_e, l3]; exact szl (by omega)
  · rw [len_app, len_app, len_e, l3]; exact szl (by omega)
  · rw [len_app, len_app, len_app, len_e, l3, l4]; exact szl (by omega)
  · rw [len_app, len_app, len_app, len_app, len_e, l3, l4]; exact szl (by omega)
  · rw [len_app, len_app, len_app, len_app, len_app, len_e, l3, l4, l5]; exact szl (by omega)
/-! ### total -/
def spIsList (K : Frag) : Sp := fun vs H Q _ => ∃ a xs, vs = [.ref a] ∧ (H a = some (.lst xs) ∨ H a = some (.tup xs)) ∧ ∀ H2, Same H H2 → Q (.bl true) H2
theorem ok_is_list (T : Tx K mg) : FG P w K mg base CX0 1 (ga K "is_list") (fdOf K (ga K "is_list")) ["value"] (spIsList K) := by
  refine fg_no T.F_is_list sc_is_list (fun vs H Q E h => ?_) (fun cdv A outer s H vs Q E gg hr h => ?_)
  · obtain ⟨a, xs, rfl, _⟩ := h
    rfl
  obtain ⟨a, xs, rfl, ha, k⟩ := h
  refine ⟨_, pss_one (ps_ret (pe_callB call_isiT (by rfl) T.n_isinstance (by decide +kernel) (pa_cons (pv 0) (pa_cons (pe_tup (pa_cons (pe_bltn (v := .ty "list") (by rfl) T.n_list (by decide +kernel) rfl)
    (pa_cons (pe_bltn (v := .ty "tuple") (by rfl) T.n_tuple (by decide +kernel) rfl) pa_nil))) pa_nil)))), ?_⟩
  refine ⟨_, rfl, (by show 2 ≤ sizeLine; decide), fun tp htp => ?_⟩
  have s1 : Same H (upd H tp (.tup [.ty "list", .ty "tuple"])) := fun b o e => by rw [upd_ne (ne_of_none e htp)]; exact e
  rcases ha with ha | ha
  · exact ⟨_, tp, _, _, _, true, rfl, upd_same, .cons (.ty "list") (.cons (.ty "tuple") .nil), .base (.lst (s1 _ _ ha)), by rfl, k _ s1⟩
  · exact ⟨_, tp, _, _, _, true, rfl, upd_same, .cons (.ty "list") (.cons (.ty "tuple") .nil), .base (.tup (s1 _ _ ha)), by rfl, k _ s1⟩
end
end K11

set_option Elab.async false
set_option linter.all false
set_option maxRecDepth 100000
set_option maxHeartbeats 4000000
namespace K11
open PySem PySem.Spec PyProof.Rows L2 Own
open PySem.W (Frag)
theorem op_or {X : Cx} {f : Value → Value → Sem Value} {r1 r2 : R2} (h1 : OpR X f r1) (h2 : OpR X f r2) : OpR X f (fun x y H Q => r1 x y H Q ∨ r2 x y H Q) := by
  intro pins s σ H x y v u Q I rx ry h
  rcases h with h | h
  · exact h1 pins s σ H x y v u Q I rx ry h
  · exact h2 pins s σ H x y v u Q I rx ry h
section
variable {P : Program} {w : World} {K : Frag} {mg : Str → Option Value} {base : Heap}
/-- the same at one address -/
theorem mkA {H : Hp} {t b : Int} {x dx : Addr} {Z : Hp → Prop} (nx : H x = none) (ndx : H dx = none) (hb0 : b ≠ 0) (hbs : Sz 8000 b) (q : ∀ H2, Same H H2 → RatAt (CR K) H2 x (nrm t b) → Z H2) :
    spInit K [.ref x, .int t, .int b] (upd (upd H dx (.own x)) x (.ins (CR K) dx [])) (fun v H2 => v = .non ∧ Z H2) E0 :=
  ⟨x, dx, t, b, rfl, upd_same, hb0, hbs, fun H2 R2 kp => ⟨rfl, q H2 (Same.made nx ndx kp) R2⟩⟩
def sumP (qs : List (Int × Int)) : Int × Int := qs.foldl addP (0, 1)
theorem take_more {α : Type} {l : List α} {i : Nat} {x : α} (h : l[i]? = some x) : l.take (i + 1) = l.take i ++ [x] := by
  rw [List.take_succ, h]
  rfl
theorem sumP_more {qs : List (Int × Int)} {i : Nat} {q : Int × Int} (h : qs[i]? = some q) : sumP (qs.take (i + 1)) = addP (sumP (qs.take i)) q := by
  unfold sumP
  rw [take_more h, List.foldl_append]
  rfl
/-- the items of a list of numbers -/
structure NumsAt (C : Addr) (H : Hp) (m : Nat) (xs : List V) (qs : List (Int × Int)) : Prop where
  len : xs.length = qs.length
  at_ : ∀ (i : Nat) (x : V), xs[i]? = some x → ∃ q, qs[i]? = some q ∧ NumV C H x q ∧ OkP m q
theorem NumsAt.same {C : Addr} {H H2 : Hp} {m : Nat} {xs : List V} {qs : List (Int × Int)} (h : NumsAt C H m xs qs) (s : Same H H2) : NumsAt C H2 m xs qs :=
  ⟨h.len, fun i x e => let ⟨q, e1, e2, e3⟩ := h.at_ i x e; ⟨q, e1, e2.same s, e3⟩⟩
def spTotal (K : Frag) : Sp := fun vs H Q _ => ∃ a xs qs m, vs = [.ref (CR K), .ref a] ∧ (H a = some (.lst xs) ∨ H a = some (.tup xs)) ∧ NumsAt (CR K) H m xs qs ∧ 0 < m ∧ m ≤ 400 ∧ qs.length ≤ 16 ∧
  ∀ p H2, Same H H2 → RatAt (CR K) H2 p (sumP qs) → Q (.ref p) H2
theorem okp_le {n m : Nat} {q : Int × Int} (h : OkP n q) (k : n ≤ m) : OkP m q := ⟨h.pos, sz_le h.st k, sz_le h.sb k⟩
theorem ok_total (T : Tx K mg) : FG P w K mg base CX0 6 (cmG K "Ratio" "total") (fdOf K (cmG K "Ratio" "total")) ["cls", "numbers"] (spTotal K) := by
  refine fg_no T.F_Ratio_total sc_Ratio_total (fun vs H Q E h => ?_) (fun cdv A outer s H vs Q E gg hr h => ?_)
  · obtain ⟨a, xs, qs, m, rfl, _⟩ := h
    rfl
  obtain ⟨a, xs, qs, m, rfl, ha, N, m0, m4, hl, k⟩ := h
  obtain ⟨j1, j2, j3, j4⟩ := T.i_add
  obtain ⟨ds, rd, bd⟩ := b_init1 T
  have turn : ∀ (i : Nat) (x : V) (H2 : Hp) (r : Addr), xs[i]? = some x → Same H H2 → RatAt (CR K) H2 r (sumP (qs.take i)) → OkP (1 + i * (m + 1)) (sumP (qs.take i)) → i ≤ 16 →
      ∀ (Z : VK), (∀ p H3, Same H H3 → RatAt (CR K) H3 p (sumP (qs.take (i + 1))) → OkP (1 + (i + 1) * (m + 1)) (sumP (qs.take (i + 1))) → Z (.ref p) H3) →
      rBoth (CR K) (spBin K addP) E0 (.ref r) x H2 Z ∨ rLeft (CR K) (spBin K addP) E0 (.ref r) x H2 Z := by
    intro i x H2 r hx s2 R2 ok2 hi Z hZ
    obtain ⟨q, hq, nv, oq⟩ := N.at_ i x hx
    have nv2 := nv.same s2
    have hm : i * (m + 1) ≤ 16 * 401 := Nat.mul_le_mul hi (by omega)
    have e1 : (i + 1) * (m + 1) = i * (m + 1) + (m + 1) := Nat.succ_mul _ _
    have fin : ∀ p H3, Same H2 H3 → RatAt (CR K) H3 p (addP (sumP (qs.take i)) q) → Z (.ref p) H3 := by
      intro p H3 s3 R3
      refine hZ p H3 (s2.trans s3) (by rw [sumP_more hq]; exact R3) ?_
      rw [sumP_more hq]
      exact okp_le (ok2.add oq) (by omega)
    obtain ⟨dr, er⟩ := id R2
    have big : spBin K addP [.ref r, x] H2 Z E0 := ⟨r, x, _, q, 1 + i * (m + 1), m, rfl, R2, nv2, ok2, oq, by omega, m0, by omega, fin⟩
    rcases nv2 with ⟨j, rfl, _⟩ | ⟨b, rfl, ⟨db, eb⟩⟩
    · exact .inr ⟨r, dr, _, j, rfl, rfl, er, big⟩
    · exact .inl ⟨r, dr, _, b, db, _, rfl, rfl, er, eb, big⟩
  have z0 : OkP 1 ((0, 1) : Int × Int) := ⟨by decide, by unfold Sz; decide, by unfold Sz; decide⟩
  rcases ha with ha | ha
  · refine ⟨_, pss_cons (ps_if (pt_not (pt_val (pe_fn (ok_is_list T) gg (hr.mono (by decide)) rfl T.g_is_list T.F_is_list.kp (b_is_list T) .nil pass0 (pa_cons (pv 1) pa_nil)))) (pss_one ps_never) pss_nil)
      (pss_cons (ps_set (i := 2) sc_Ratio_total.nd rfl (Or.inl rfl) (pe_mkL (i := 0) T.mk_Ratio (ok_init T) gg (hr.mono (by decide)) rfl (Or.inl rfl) bd rd pass0 (pa_cons pe_int pa_nil)))
      (pss_cons (ps_for PassesOwn.never rfl (pi_list (pv 1)) (pg_name (i := 3) sc_Ratio_total.nd rfl (Or.inl rfl))
        (pss_one (ps_set (i := 2) sc_Ratio_total.nd rfl (Or.inl rfl) (pe_op (op_or (og_both (op := .Add) j1 (ok_add T) gg (hr.mono (by decide)) (b_Ratio_add T) pass0) (og_left (op := .Add) j1 j3 j4 (ok_add T) gg (hr.mono (by decide)) (b_Ratio_add T) pass0)) (pv 2) (pv 3)))))
      (pss_one (ps_ret (pv 2))))), ?_⟩
    refine ⟨_, rfl, a, xs, rfl, .inl ha, fun H1 s1 => ⟨true, rfl, iteF ?_⟩⟩
    refine ⟨rfl, fun x0 dx0 n1 n2 n3 => ?_⟩
    refine mkA (t := 0) (b := 1) n1 n2 (by decide) (by unfold Sz; decide +kernel) fun H2 s2 R2 => ?_
    rw [nrm_one] at R2
    have s12 := s1.trans s2
    refine ⟨_, rfl, a, rfl, ⟨_, SqL.of (s12 _ _ ha)⟩, for_list (K := K) (a := a) (xs := xs) (fun i σ H3 => ∃ p v, σ = [some (.ref (CR K)), some (.ref a), some (.ref p), v] ∧ Same H H3 ∧ RatAt (CR K) H3 p (sumP (qs.take i)) ∧ OkP (1 + i * (m + 1)) (sumP (qs.take i)))
      ⟨x0, none, rfl, s12, R2, okp_le z0 (by omega)⟩ (fun i σ H3 _ ⟨_, _, _, s3, _⟩ => SqL.of (s3 _ _ ha)) ?_ ?_⟩
    · rintro i x σ H3 hx ⟨p, v, rfl, s3, R3, ok3⟩
      have hi : i < xs.length := (List.getElem?_eq_some_iff.mp hx).1
      exact ⟨_, rfl, _, rfl, turn i x H3 p hx s3 R3 ok3 (by have := N.len; omega) _ fun p2 H4 s4 R4 ok4 => ⟨p2, some x, rfl, s4, R4, ok4⟩⟩
    · rintro σ H3 ⟨p, v, rfl, s3, R3, ok3⟩
      rw [N.len, List.take_length] at R3
      exact ⟨_, rfl, k p H3 s3 R3⟩
  · refine ⟨_, pss_cons (ps_if (pt_not (pt_val (pe_fn (ok_is_list T) gg (hr.mono (by decide)) rfl T.g_is_list T.F_is_list.kp (b_is_list T) .nil pass0 (pa_cons (pv 1) pa_nil)))) (pss_one ps_never) pss_nil)
      (pss_cons (ps_set (i := 2) sc_Ratio_total.nd rfl (Or.inl rfl) (pe_mkL (i := 0) T.mk_Ratio (ok_init T) gg (hr.mono (by decide)) rfl (Or.inl rfl) bd rd pass0 (pa_cons pe_int pa_nil)))
      (pss_cons (ps_for PassesOwn.never rfl (pi_tup (pv 1)) (pg_name (i := 3) sc_Ratio_total.nd rfl (Or.inl rfl))
        (pss_one (ps_set (i := 2) sc_Ratio_total.nd rfl (Or.inl rfl) (pe_op (op_or (og_both (op := .Add) j1 (ok_add T) gg (hr.mono (by decide)) (b_Ratio_add T) pass0) (og_left (op := .Add) j1 j3 j4 (ok_add T) gg (hr.mono (by decide)) (b_Ratio_add T) pass0)) (pv 2) (pv 3)))))
      (pss_one (ps_ret (pv 2))))), ?_⟩
    refine ⟨_, rfl, a, xs, rfl, .inr ha, fun H1 s1 => ⟨true, rfl, iteF ?_⟩⟩
    refine ⟨rfl, fun x0 dx0 n1 n2 n3 => ?_⟩
    refine mkA (t := 0) (b := 1) n1 n2 (by decide) (by unfold Sz; decide +kernel) fun H2 s2 R2 => ?_
    rw [nrm_one] at R2
    have s12 := s1.trans s2
    refine ⟨_, rfl, a, rfl, ⟨_, SqT.of (s12 _ _ ha)⟩, for_tup (K := K) (a := a) (xs := xs) (fun i σ H3 => ∃ p v, σ = [some (.ref (CR K)), some (.ref a), some (.ref p), v] ∧ Same H H3 ∧ RatAt (CR K) H3 p (sumP (qs.take i)) ∧ OkP (1 + i * (m + 1)) (sumP (qs.take i)))
      ⟨x0, none, rfl, s12, R2, okp_le z0 (by omega)⟩ (fun i σ H3 _ ⟨_, _, _, s3, _⟩ => SqT.of (s3 _ _ ha)) ?_ ?_⟩
    · rintro i x σ H3 hx ⟨p, v, rfl, s3, R3, ok3⟩
      have hi : i < xs.length := (List.getElem?_eq_some_iff.mp hx).1
      exact ⟨_, rfl, _, rfl, turn i x H3 p hx s3 R3 ok3 (by have := N.len; omega) _ fun p2 H4 s4 R4 ok4 => ⟨p2, some x, rfl, s4, R4, ok4⟩⟩
    · rintro σ H3 ⟨p, v, rfl, s3, R3, ok3⟩
      rw [N.len, List.take_length] at R3
      exact ⟨_, rfl, k p H3 s3 R3⟩
end
end K11

set_option Elab.async false
set_option linter.all false
set_option maxRecDepth 100000
set_option maxHeartbeats 4000000
namespace K11
open PySem PySem.Spec PyProof.Rows L2 Own
open PySem.W (Frag)
section
variable {P : Program} {w : World} {K : Frag} {mg : Str → Option Value} {base : Heap}
/-- the pot: two numbers in a list -/
def PotAt (H : Hp) (p : Addr) : Prop := ∃ a b : Int, H p = some (.lst [.int a, .int b]) ∧ 0 ≤ b ∧ b < 2147483648
/-- all but p stays -/
def Sb (p : Addr) (H H2 : Hp) : Prop := ∀ c o, H c = some o → c ≠ p → H2 c = some o
theorem Sb.trans {p : Addr} {H H1 H2 : Hp} (a : Sb p H H1) (b : Sb p H1 H2) : Sb p H H2 := fun c o e n => b c o (a c o e n) n
theorem Sb.of {p : Addr} {H H2 : Hp} (a : Same H H2) : Sb p H H2 := fun c o e _ => a c o e
theorem Sb.refl {p : Addr} {H : Hp} : Sb p H H := fun c o e _ => e
theorem pot_lt (x : Int) : x % 2147483477 + 1 < 2147483648 := by omega
def spPot (K : Frag) : Sp := fun vs H Q _ => ∃ (a : Addr) (ns : List Int), vs = [.ref a, .int 0] ∧ SqL K H a (ns.map V.int) ∧ ns.length ≤ 63 ∧ ∀ p H2, Same H H2 → PotAt H2 p → Q (.ref p) H2
theorem ok_pot (T : Tx K mg) : FG P w K mg base CX0 1 (ga K "_law_pot") (fdOf K (ga K "_law_pot")) ["_law_script", "_law_k"] (spPot K) := by
  refine fg_no T.F_law_pot sc_law_pot (fun vs H Q E h => ?_) (fun cdv A outer s H vs Q E gg hr h => ?_)
  · obtain ⟨a, ns, rfl, _⟩ := h
    rfl
  obtain ⟨a, ns, rfl, hS, hl, k⟩ := h
  refine ⟨_, pss_cons (ps_set (i := 2) sc_law_pot.nd rfl (Or.inl rfl) (pe_op op_add (pe_op op_mul pe_int (pv 1)) pe_int))
    (pss_cons (ps_if (pt_cmpR op_lt (pv 1) (pe_callB call_len (by rfl) T.n_len PySem.boot_len (pa_cons (pv 0) pa_nil)) (nomark _))
      (pss_one (ps_set (i := 2) sc_law_pot.nd rfl (Or.inl rfl) (pe_callB call_abs (by rfl) T.n_abs (by decide +kernel) (pa_cons (pe_ix ix_list (pv 0) (pv 1) (fun _ _ => rfl)) pa_nil)))) pss_nil)
    (pss_one (ps_ret (pe_lst (pa_cons (pe_callB (call_max2 rfl) (by rfl) T.n_max (by decide +kernel) (pa_cons pe_int (pa_cons (pe_op op_sub (pv 2) (pe_op op_pow pe_int pe_int)) pa_nil)))
      (pa_cons (pe_op op_add (pe_op op_mod (pe_op op_mul (pe_callTy call_int1 (by rfl) T.n_int (by decide +kernel) (pa_cons (pe_op op_add (pe_op op_mod (pe_callTy call_int1 (by rfl) T.n_int (by decide +kernel) (pa_cons (pv 2) pa_nil)) pe_int) pe_int) pa_nil))
        (pe_op op_pow (pe_op op_add (pe_op op_mul pe_int (pv 1)) pe_int) pe_int)) pe_int) pe_int) pa_nil)))))), ?_⟩
  refine ⟨_, rfl, _, _, rfl, rfl, .inl ⟨by decide, by decide⟩, _, _, rfl, rfl, ?_⟩
  refine ⟨_, rfl, _, rfl, _, _, rfl, .inl ⟨_, hS, rfl⟩, _, _, rfl, rfl, _, rfl, ?_⟩
  refine ite2 (fun z => ?_) (fun z => ?_)
  · have hn : 0 < ns.length := by
      have z2 : (0 : Int) < ((ns.map V.int).length : Int) := of_decide_eq_true z
      rw [List.length_map] at z2
      omega
    obtain ⟨n0, hn0⟩ : ∃ n0, ns[0]? = some n0 := ⟨ns[0], List.getElem?_eq_getElem hn⟩
    refine ⟨_, rfl, _, rfl, a, _, _, V.int n0, rfl, rfl, hS, at_of (j := 0) rfl (by rw [List.getElem?_map, hn0]; rfl), _, rfl, ?_⟩
    refine ⟨_, rfl, _, _, rfl, rfl, ⟨by decide, by decide, by decide⟩, _, _, rfl, rfl, _, _, rfl, _, rfl, .inl ⟨_, rfl, _, _, rfl, rfl, (by show (0 : Int) < 2147483549; decide), _, _, rfl, rfl, .inl ⟨_, rfl, _, rfl, _, _, rfl, rfl, .inl ⟨by decide, by decide⟩, _, _, rfl, rfl, _, _, rfl, rfl, ⟨by decide, by decide, by decide⟩, _, _, rfl, rfl, .inr ⟨by decide +kernel, by decide +kernel⟩, _, _, rfl, rfl, (by show (0 : Int) < 2147483477; decide), _, _, rfl, rfl, (by show 2 ≤ sizeLine; decide), fun p hp => ?_⟩⟩⟩
    refine k p _ (fun b o e => by rw [upd_ne (ne_of_none e hp)]; exact e) ⟨_, _, upd_same, ?_, ?_⟩
    · exact Int.add_nonneg (Int.emod_nonneg _ (by decide)) (by decide)
    · exact pot_lt _
  · refine ⟨_, rfl, _, _, rfl, rfl, ⟨by decide, by decide, by decide⟩, _, _, rfl, rfl, _, _, rfl, _, rfl, .inl ⟨_, rfl, _, _, rfl, rfl, (by show (0 : Int) < 2147483549; decide), _, _, rfl, rfl, .inl ⟨_, rfl, _, rfl, _, _, rfl, rfl, .inl ⟨by decide, by decide⟩, _, _, rfl, rfl, _, _, rfl, rfl, ⟨by decide, by decide, by decide⟩, _, _, rfl, rfl, .inr ⟨by decide +kernel, by decide +kernel⟩, _, _, rfl, rfl, (by show (0 : Int) < 2147483477; decide), _, _, rfl, rfl, (by show 2 ≤ sizeLine; decide), fun p hp => ?_⟩⟩⟩
    refine k p _ (fun b o e => by rw [upd_ne (ne_of_none e hp)]; exact e) ⟨_, _, upd_same, ?_, ?_⟩
    · exact Int.add_nonneg (Int.emod_nonneg _ (by decide)) (by decide)
    · exact pot_lt _
/-- a draw -/
def spDraw : Sp := fun vs H Q _ => ∃ (p : Addr) (n : Int), vs = [.ref p, .int n] ∧ PotAt H p ∧ 0 < n ∧ n < 1000000 ∧ ∀ d H2, 0 ≤ d → d < n → PotAt H2 p → Sb p H H2 → Q (.int d) H2
theorem ok_draw (T : Tx K mg) : FG P w K mg base CX0 1 (ga K "_law_draw") (fdOf K (ga K "_law_draw")) ["_law_pot_here", "_law_size"] spDraw := by
  refine fg_no T.F_law_draw sc_law_draw (fun vs H Q E h => ?_) (fun cdv A outer s H vs Q E gg hr h => ?_)
  · obtain ⟨p, n, rfl, _⟩ := h
    rfl
  obtain ⟨p, n, rfl, ⟨a, b, hp, b0, b1⟩, n0, n1, k⟩ := h
  refine ⟨_, pss_cons (ps_if (pt_cmpR op_gt (pe_ix ix_list (pv 0) pe_int (fun _ _ => rfl)) pe_int (nomark _))
      (pss_cons (ps_asg (pe_callB call_divmodW (by rfl) T.n_divmod (by decide +kernel) (pa_cons (pe_ix ix_list (pv 0) pe_int (fun _ _ => rfl)) (pa_cons (pv 1) pa_nil)))
        (pg_tup rfl (pgs_cons (pg_sub (pv 0) pe_int set_list) (pgs_cons (pg_name (i := 2) sc_law_draw.nd rfl (Or.inl rfl)) pgs_nil)))) (pss_one (ps_ret (pv 2)))) pss_nil)
    (pss_cons (ps_asg (pe_op op_mod (pe_callTy call_int1 (by rfl) T.n_int (by decide +kernel) (pa_cons (pe_op op_add (pe_op op_mul (pe_ix ix_list (pv 0) pe_int (fun _ _ => rfl)) pe_int) pe_int) pa_nil)) pe_int) (pg_sub (pv 0) pe_int set_list))
    (pss_one (ps_ret (pe_op op_mod (pe_callTy call_int1 (by rfl) T.n_int (by decide +kernel) (pa_cons (pe_op op_fdiv (pe_op op_mod (pe_callTy call_int1 (by rfl) T.n_int (by decide +kernel)
      (pa_cons (pe_op op_mul (pe_ix ix_list (pv 0) pe_int (fun _ _ => rfl)) (pe_ix ix_list (pv 0) pe_int (fun _ _ => rfl))) pa_nil)) pe_int) pe_int) pa_nil)) (pv 1))))), ?_⟩
  refine ⟨_, rfl, p, _, _, .int a, rfl, rfl, SqL.of hp, at_of (j := 0) rfl rfl, _, _, rfl, rfl, _, rfl, ?_⟩
  refine ite2 (fun z => ?_) (fun z => ?_)
  · refine ⟨_, rfl, p, _, _, .int a, rfl, rfl, SqL.of hp, at_of (j := 0) rfl rfl, _, rfl, a, n, rfl, ⟨n0, PyProof.noPylong_small (by omega)⟩, fun t ht => ?_⟩
    have npt : p ≠ t := ne_of_none hp ht
    have hp2 : (upd H t (.tup [.int (a / n), .int (a % n)])) p = some (.lst [.int a, .int b]) := by rw [upd_ne npt]; exact hp
    refine ⟨t, _, rfl, SqT.of upd_same, rfl, ?_⟩
    refine ⟨_, _, rfl, _, rfl, p, _, 0, 0, rfl, rfl, hp2, rfl, ?_⟩
    refine ⟨_, _, rfl, rfl, _, rfl, k (a % n) _ (Int.emod_nonneg _ (by omega)) (Int.emod_lt_of_pos _ n0) ⟨_, _, upd_same, b0, b1⟩ fun c o e hc => ?_⟩
    rw [upd_ne hc, upd_ne (ne_of_none e ht)]
    exact e
  · refine ⟨_, rfl, p, _, _, .int b, rfl, rfl, SqL.of hp, at_of (j := 1) rfl rfl, _, _, rfl, rfl, .inl ⟨by omega, by omega⟩, _, _, rfl, rfl, .inl ⟨_, rfl, _, _, rfl, rfl, (by show (0 : Int) < 2147483587; decide), ?_⟩⟩
    refine ⟨_, rfl, p, _, 1, 1, rfl, rfl, hp, rfl, ?_⟩
    have c0 : 0 ≤ (b * 48271 + 18140) % 2147483587 := Int.emod_nonneg _ (by decide)
    have c1 : (b * 48271 + 18140) % 2147483587 < 2147483587 := Int.emod_lt_of_pos _ (by decide)
    have m1 : -(2 ^ 64) < (b * 48271 + 18140) % 2147483587 ∧ (b * 48271 + 18140) % 2147483587 < 2 ^ 64 := by omega
    refine ⟨_, rfl, p, _, _, .int ((b * 48271 + 18140) % 2147483587), rfl, rfl, SqL.of upd_same, at_of (j := 1) rfl rfl, _, rfl, p, _, _, .int ((b * 48271 + 18140) % 2147483587), rfl, rfl, SqL.of upd_same, at_of (j := 1) rfl rfl, _, _, rfl, rfl, .inl m1, .inl ⟨_, rfl, _, _, rfl, rfl, (by show (0 : Int) < 2147483549; decide),
      _, _, rfl, rfl, ⟨by decide, by decide⟩, .inl ⟨_, rfl, _, rfl, _, _, rfl, rfl, n0, ?_⟩⟩⟩
    refine k _ _ (Int.emod_nonneg _ (by omega)) (Int.emod_lt_of_pos _ n0) ⟨_, _, upd_same, c0, by omega⟩ fun c o e hc => ?_
    rw [upd_ne hc]
    exact e
/-- a pick out of a list -/
def spPick (K : Frag) : Sp := fun vs H Q _ => ∃ (p l : Addr) (xs : List V), vs = [.ref p, .ref l] ∧ PotAt H p ∧ H l = some (.lst xs) ∧ l ≠ p ∧ 0 < xs.length ∧ xs.length < 1000000 ∧ ∀ (i : Nat) x H2, xs[i]? = some x → PotAt H2 p → Sb p H H2 → Q x H2
theorem ok_pick (T : Tx K mg) : FG P w K mg base CX0 2 (ga K "_law_pick") (fdOf K (ga K "_law_pick")) ["_law_pot_here", "_law_some"] (spPick K) := by
  refine fg_no T.F_law_pick sc_law_pick (fun vs H Q E h => ?_) (fun cdv A outer s H vs Q E gg hr h => ?_)
  · obtain ⟨p, l, xs, rfl, _⟩ := h
    rfl
  obtain ⟨p, l, xs, rfl, hp, hl, npl, l0, l1, k⟩ := h
  refine ⟨_, pss_one (ps_ret (pe_ix ix_list (pv 1) (pe_fn (ok_draw T) gg hr rfl T.g_law_draw T.F_law_draw.kp (b_law_draw T) .nil pass0 (pa_cons (pv 0) (pa_cons (pe_callB call_len (by rfl) T.n_len PySem.boot_len (pa_cons (pv 1) pa_nil)) pa_nil))) (fun _ _ => rfl))), ?_⟩
  refine ⟨_, rfl, _, rfl, _, rfl, _, _, rfl, .inl ⟨_, SqL.of hl, rfl⟩, p, _, rfl, hp, by omega, by omega, fun d H2 d0 d1 hp2 sb => ?_⟩
  have hi : d.toNat < xs.length := by omega
  have hx : xs[d.toNat]? = some xs[d.toNat] := List.getElem?_eq_getElem hi
  exact ⟨l, _, _, _, rfl, rfl, SqL.of (sb _ _ hl npl), at_of (j := d.toNat) (by omega) hx, k d.toNat _ H2 hx hp2 sb⟩
end
end K11

set_option Elab.async false
set_option linter.all false
set_option maxRecDepth 100000
set_option maxHeartbeats 4000000
namespace K11
open PySem PySem.Spec PyProof.Rows L2 Own
open PySem.W (Frag)
section
variable {P : Program} {w : World} {K : Frag} {mg : Str → Option Value} {base : Heap}
/-- two numbers in a tuple -/
def TupAt (H : Hp) (a : Addr) (q : Int × Int) : Prop := H a = some (.tup [.int q.1, .int q.2])
def spLow : Sp := fun vs H Q _ => ∃ (t b : Int), vs = [.int t, .int b] ∧ b ≠ 0 ∧ Sz 8000 b ∧ ∀ p H2, H p = none → H2 = upd H p (.tup [.int (nrm t b).1, .int (nrm t b).2]) → Q (.ref p) H2
theorem nrm_of {t b g : Int} (hg : g = if b > 0 then ((Nat.gcd t.natAbs b.natAbs : Nat) : Int) else 0 - ((Nat.gcd t.natAbs b.natAbs : Nat) : Int)) (hb : b ≠ 0) : nrm t b = (t.fdiv g, b.fdiv g) := by
  unfold nrm
  by_cases h : b < 0
  · rw [if_pos h, hg, if_neg (by omega), Int.zero_sub]
  · rw [if_neg h, hg, if_pos (by omega)]
theorem ok_low (T : Tx K mg) : FG P w K mg base CX0 1 (ga K "_law_low") (fdOf K (ga K "_law_low")) ["_law_top", "_law_bottom"] spLow := by
  refine fg_no T.F_law_low sc_law_low (fun vs H Q E h => ?_) (fun cdv A outer s H vs Q E gg hr h => ?_)
  · obtain ⟨t, b, rfl, _⟩ := h
    rfl
  obtain ⟨t, b, rfl, b0, bs, k⟩ := h
  refine ⟨_, pss_cons (ps_par (i := 2) (j := 3) (by rfl) sc_law_low.nd rfl rfl (by decide) rfl rfl (pa_cons (pe_callB call_abs (by rfl) T.n_abs (by decide +kernel) (pa_cons (pv 0) pa_nil)) (pa_cons (pe_callB call_abs (by rfl) T.n_abs (by decide +kernel) (pa_cons (pv 1) pa_nil)) pa_nil)) (by rfl))
    (pss_cons (ps_while PassesOwn.never (pt_cmpR op_gt (pv 3) pe_int (nomark _))
      (pss_one (ps_par (i := 2) (j := 3) (by rfl) sc_law_low.nd rfl rfl (by decide) rfl rfl (pa_cons (pv 3) (pa_cons (pe_op op_mod (pe_callTy call_int1 (by rfl) T.n_int (by decide +kernel) (pa_cons (pv 2) pa_nil)) (pv 3)) pa_nil)) (by rfl))))
    (pss_cons (ps_set (i := 2) sc_law_low.nd rfl (Or.inl rfl) (pe_ifExp (pt_cmpR op_gt (pv 1) pe_int (nomark _)) (pv 2) (pe_op op_sub pe_int (pv 2))))
    (pss_one (ps_ret (pe_tup (pa_cons (pe_op op_fdivZ (pv 0) (pv 2)) (pa_cons (pe_op op_fdivZ (pv 1) (pv 2)) pa_nil))))))), ?_⟩
  refine ⟨_, rfl, _, rfl, _, rfl, _, rfl, _, _, rfl, ?_⟩
  have ab : ∀ z : Int, (if z < 0 then -z else z) = (z.natAbs : Int) := by intro z; split <;> omega
  refine while_by (fun σ H2 => ∃ x y : Int, σ = [some (.int t), some (.int b), some (.int x), some (.int y)] ∧ H2 = H ∧ 0 ≤ x ∧ 0 ≤ y ∧ Nat.gcd x.natAbs y.natAbs = Nat.gcd t.natAbs b.natAbs)
    (fun (σ : L2.St) _ => match σ[3]? with | some (some (V.int y)) => y.toNat | _ => 0) ⟨_, _, rfl, rfl, ?_, ?_, ?_⟩ ?_ ?_
  · rw [ab]; omega
  · rw [ab]; omega
  · rw [ab, ab]; rfl
  · rintro σ H2 ⟨x, y, rfl, rfl, x0, y0, hg⟩
    refine ⟨_, rfl, _, _, rfl, rfl, _, rfl, ?_⟩
    refine ite2 (fun z => ?_) (fun z => ?_)
    · have yp : 0 < y := of_decide_eq_true z
      refine ⟨_, rfl, _, rfl, .inl ⟨_, rfl, _, rfl, _, _, rfl, rfl, yp, _, _, rfl, ?_⟩⟩
      have r0 := Int.emod_nonneg x (Int.ne_of_gt yp)
      have r1 := Int.emod_lt_of_pos x yp
      refine ⟨⟨y, x % y, rfl, rfl, y0, r0, ?_⟩, ?_⟩
      · rw [← hg, Nat.gcd_comm x.natAbs y.natAbs]
        have e1 : (x % y).natAbs = x.natAbs % y.natAbs := by
          obtain ⟨m, rfl⟩ := Int.eq_ofNat_of_zero_le x0
          obtain ⟨n, rfl⟩ := Int.eq_ofNat_of_zero_le y0
          rfl
        rw [e1, Nat.gcd_comm y.natAbs (x.natAbs % y.natAbs), ← Nat.gcd_rec]
      · show (x % y).toNat < y.toNat
        omega
    · have yz : y = 0 := by
        have yn : ¬ (0 < y) := fun q => z (decide_eq_true q)
        omega
      subst yz
      have xg : x = ((Nat.gcd t.natAbs b.natAbs : Nat) : Int) := by
        have e0 : Nat.gcd x.natAbs (0 : Int).natAbs = x.natAbs := Nat.gcd_zero_right _
        rw [← hg, e0]
        omega
      have g0 := gcd_pos' (t := t) b0
      have gs : Nat.gcd t.natAbs b.natAbs ≤ b.natAbs := Nat.gcd_le_right _ (by omega)
      have fin : ∀ g : Int, g = (if b > 0 then ((Nat.gcd t.natAbs b.natAbs : Nat) : Int) else 0 - ((Nat.gcd t.natAbs b.natAbs : Nat) : Int)) → CDivZ t g ∧ CDivZ b g ∧ nrm t b = (t.fdiv g, b.fdiv g) := by
        intro g e
        have hz : g ≠ 0 ∧ Sz 8000 g := by
          unfold Sz at *
          rw [e]
          split <;> constructor <;> omega
        exact ⟨hz, hz, nrm_of e b0⟩
      refine ⟨_, rfl, _, _, rfl, rfl, _, rfl, ?_⟩
      refine ite2 (fun z2 => ?_) (fun z2 => ?_)
      · have bp : b > 0 := of_decide_eq_true z2
        obtain ⟨f1, f2, f3⟩ := fin x (by rw [if_pos bp]; exact xg)
        refine ⟨_, rfl, _, rfl, _, rfl, _, _, rfl, rfl, f1, _, rfl, _, rfl, _, _, rfl, rfl, f2, (by show 2 ≤ sizeLine; decide), fun p hp => k p _ hp ?_⟩
        rw [f3]
      · have bp : ¬ b > 0 := fun q => z2 (decide_eq_true q)
        obtain ⟨f1, f2, f3⟩ := fin (0 - x) (by rw [if_neg bp, xg])
        refine ⟨_, rfl, _, _, rfl, rfl, _, rfl, _, rfl, _, _, rfl, rfl, f1, _, rfl, _, rfl, _, _, rfl, rfl, f2, (by show 2 ≤ sizeLine; decide), fun p hp => k p _ hp ?_⟩
        rw [f3]
  · intro σ H2 Q1 Q2 imp h
    obtain ⟨v, e, i, j, e1, e2, c, e3, q⟩ := h
    exact ⟨v, e, i, j, e1, e2, c, e3, imp _ _ q⟩
end
end K11

set_option Elab.async false
set_option linter.all false
set_option maxRecDepth 100000
set_option maxHeartbeats 4000000
namespace K11
open PySem PySem.Spec PyProof.Rows L2 Own
open PySem.W (Frag)
section
variable {P : Program} {w : World} {K : Frag} {mg : Str → Option Value} {base : Heap}
theorem TupAt.same {H H2 : Hp} {a : Addr} {q : Int × Int} (h : TupAt H a q) (s : Same H H2) : TupAt H2 a q := s _ _ h
theorem Same.put {H : Hp} {p : Addr} {o : HO} (h : H p = none) : Same H (upd H p o) := fun b u e => by rw [upd_ne (ne_of_none e h)]; exact e
/-- two pairs make a third one -/
def spTwo (f : Int × Int → Int × Int → Int × Int) (c : Int × Int → Int × Int → Prop) : Sp := fun vs H Q _ => ∃ a b x y n m, vs = [.ref a, .ref b] ∧ TupAt H a x ∧ TupAt H b y ∧ OkP n x ∧ OkP m y ∧ 0 < n ∧ 0 < m ∧ n + m ≤ 7900 ∧ c x y ∧
  ∀ p H2, H p = none → Same H H2 → TupAt H2 p (f x y) → Q (.ref p) H2
theorem spTwo_len {f : Int × Int → Int × Int → Int × Int} {c : Int × Int → Int × Int → Prop} {vs : List V} {H : Hp} {Q : VK} {E : XK} (h : spTwo f c vs H Q E) : vs.length = 2 := by
  obtain ⟨a, b, x, y, n, m, rfl, _⟩ := h
  rfl
abbrev always : Int × Int → Int × Int → Prop := fun _ _ => True
theorem ok_lsum (T : Tx K mg) : FG P w K mg base CX0 2 (ga K "_law_sum") (fdOf K (ga K "_law_sum")) ["_law_one", "_law_other"] (spTwo addP always) := by
  refine fg_no T.F_law_sum sc_law_sum (fun vs H Q E h => spTwo_len h) (fun cdv A outer s H vs Q E gg hr h => ?_)
  obtain ⟨a, b, x, y, n, m, rfl, hx, hy, ox, oy, n0, m0, hs, _, k⟩ := h
  refine ⟨_, pss_one (ps_ret (pe_fn (ok_low T) gg hr rfl T.g_law_low T.F_law_low.kp (b_law_low T) .nil pass0
    (pa_cons (pe_op op_add (pe_op op_mulW (pe_ix ix_tup (pv 0) pe_int (fun _ _ => rfl)) (pe_ix ix_tup (pv 1) pe_int (fun _ _ => rfl))) (pe_op op_mulW (pe_ix ix_tup (pv 1) pe_int (fun _ _ => rfl)) (pe_ix ix_tup (pv 0) pe_int (fun _ _ => rfl))))
    (pa_cons (pe_op op_mulW (pe_ix ix_tup (pv 0) pe_int (fun _ _ => rfl)) (pe_ix ix_tup (pv 1) pe_int (fun _ _ => rfl))) pa_nil)))), ?_⟩
  refine ⟨_, rfl, a, _, _, _, rfl, rfl, SqT.of hx, at_of (j := 0) rfl rfl, _, rfl, b, _, _, _, rfl, rfl, SqT.of hy, at_of (j := 1) rfl rfl, _, _, rfl, rfl, mw ox.st oy.sb n0 m0 hs,
    _, rfl, b, _, _, _, rfl, rfl, SqT.of hy, at_of (j := 0) rfl rfl, _, rfl, a, _, _, _, rfl, rfl, SqT.of hx, at_of (j := 1) rfl rfl, _, _, rfl, rfl, mw oy.st ox.sb m0 n0 (by omega), _, _, rfl, rfl,
    _, rfl, a, _, _, _, rfl, rfl, SqT.of hx, at_of (j := 1) rfl rfl, _, rfl, b, _, _, _, rfl, rfl, SqT.of hy, at_of (j := 1) rfl rfl, _, _, rfl, rfl, mw ox.sb oy.sb n0 m0 hs, ?_⟩
  exact ⟨_, _, rfl, Int.ne_of_gt (Int.mul_pos ox.pos oy.pos), sz_le (sz_mul ox.sb oy.sb) (by omega), fun p H2 hp e => k p H2 hp (by rw [e]; exact Same.put hp) (by rw [e]; exact upd_same)⟩
theorem ok_lby (T : Tx K mg) : FG P w K mg base CX0 2 (ga K "_law_by") (fdOf K (ga K "_law_by")) ["_law_one", "_law_other"] (spTwo mulP always) := by
  refine fg_no T.F_law_by sc_law_by (fun vs H Q E h => spTwo_len h) (fun cdv A outer s H vs Q E gg hr h => ?_)
  obtain ⟨a, b, x, y, n, m, rfl, hx, hy, ox, oy, n0, m0, hs, _, k⟩ := h
  refine ⟨_, pss_one (ps_ret (pe_fn (ok_low T) gg hr rfl T.g_law_low T.F_law_low.kp (b_law_low T) .nil pass0
    (pa_cons (pe_op op_mulW (pe_ix ix_tup (pv 0) pe_int (fun _ _ => rfl)) (pe_ix ix_tup (pv 1) pe_int (fun _ _ => rfl)))
    (pa_cons (pe_op op_mulW (pe_ix ix_tup (pv 0) pe_int (fun _ _ => rfl)) (pe_ix ix_tup (pv 1) pe_int (fun _ _ => rfl))) pa_nil)))), ?_⟩
  refine ⟨_, rfl, a, _, _, _, rfl, rfl, SqT.of hx, at_of (j := 0) rfl rfl, _, rfl, b, _, _, _, rfl, rfl, SqT.of hy, at_of (j := 0) rfl rfl, _, _, rfl, rfl, mw ox.st oy.st n0 m0 hs,
    _, rfl, a, _, _, _, rfl, rfl, SqT.of hx, at_of (j := 1) rfl rfl, _, rfl, b, _, _, _, rfl, rfl, SqT.of hy, at_of (j := 1) rfl rfl, _, _, rfl, rfl, mw ox.sb oy.sb n0 m0 hs, ?_⟩
  exact ⟨_, _, rfl, Int.ne_of_gt (Int.mul_pos ox.pos oy.pos), sz_le (sz_mul ox.sb oy.sb) (by omega), fun p H2 hp e => k p H2 hp (by rw [e]; exact Same.put hp) (by rw [e]; exact upd_same)⟩
theorem ok_lover (T : Tx K mg) : FG P w K mg base CX0 2 (ga K "_law_over") (fdOf K (ga K "_law_over")) ["_law_one", "_law_other"] (spTwo ovP fun _ y => y.1 ≠ 0) := by
  refine fg_no T.F_law_over sc_law_over (fun vs H Q E h => spTwo_len h) (fun cdv A outer s H vs Q E gg hr h => ?_)
  obtain ⟨a, b, x, y, n, m, rfl, hx, hy, ox, oy, n0, m0, hs, y0, k⟩ := h
  refine ⟨_, pss_one (ps_ret (pe_fn (ok_low T) gg hr rfl T.g_law_low T.F_law_low.kp (b_law_low T) .nil pass0
    (pa_cons (pe_op op_mulW (pe_ix ix_tup (pv 0) pe_int (fun _ _ => rfl)) (pe_ix ix_tup (pv 1) pe_int (fun _ _ => rfl)))
    (pa_cons (pe_op op_mulW (pe_ix ix_tup (pv 0) pe_int (fun _ _ => rfl)) (pe_ix ix_tup (pv 1) pe_int (fun _ _ => rfl))) pa_nil)))), ?_⟩
  refine ⟨_, rfl, a, _, _, _, rfl, rfl, SqT.of hx, at_of (j := 0) rfl rfl, _, rfl, b, _, _, _, rfl, rfl, SqT.of hy, at_of (j := 1) rfl rfl, _, _, rfl, rfl, mw ox.st oy.sb n0 m0 hs,
    _, rfl, a, _, _, _, rfl, rfl, SqT.of hx, at_of (j := 1) rfl rfl, _, rfl, b, _, _, _, rfl, rfl, SqT.of hy, at_of (j := 0) rfl rfl, _, _, rfl, rfl, mw ox.sb oy.st n0 m0 hs, ?_⟩
  exact ⟨_, _, rfl, Int.mul_ne_zero (Int.ne_of_gt ox.pos) y0, sz_le (sz_mul ox.sb oy.st) (by omega), fun p H2 hp e => k p H2 hp (by rw [e]; exact Same.put hp) (by rw [e]; exact upd_same)⟩
theorem sub_is (x y : Int × Int) : addP x (0 - y.1, y.2) = subP x y := by
  unfold addP subP
  have e : x.1 * y.2 + (0 - y.1) * x.2 = x.1 * y.2 - y.1 * x.2 := by rw [Int.zero_sub, Int.neg_mul]; rfl
  show nrm (x.1 * y.2 + (0 - y.1) * x.2) (x.2 * y.2) = _
  rw [e]
theorem ok_lless (T : Tx K mg) : FG P w K mg base CX0 3 (ga K "_law_less") (fdOf K (ga K "_law_less")) ["_law_one", "_law_other"] (spTwo subP always) := by
  refine fg_no T.F_law_less sc_law_less (fun vs H Q E h => spTwo_len h) (fun cdv A outer s H vs Q E gg hr h => ?_)
  obtain ⟨a, b, x, y, n, m, rfl, hx, hy, ox, oy, n0, m0, hs, _, k⟩ := h
  refine ⟨_, pss_one (ps_ret (pe_fn (ok_lsum T) gg hr rfl T.g_law_sum T.F_law_sum.kp (b_law_sum T) .nil pass0 (pa_cons (pv 0)
    (pa_cons (pe_tup (pa_cons (pe_op op_sub pe_int (pe_ix ix_tup (pv 1) pe_int (fun _ _ => rfl))) (pa_cons (pe_ix ix_tup (pv 1) pe_int (fun _ _ => rfl)) pa_nil))) pa_nil)))), ?_⟩
  refine ⟨_, rfl, _, rfl, b, _, _, _, rfl, rfl, SqT.of hy, at_of (j := 0) rfl rfl, _, _, rfl, rfl, _, rfl, b, _, _, _, rfl, rfl, SqT.of hy, at_of (j := 1) rfl rfl, (by show 2 ≤ sizeLine; decide), fun t ht => ?_⟩
  have s1 : Same H _ := Same.put (o := .tup [.int (0 - y.1), .int y.2]) ht
  refine ⟨a, t, x, (0 - y.1, y.2), n, m, rfl, hx.same s1, upd_same, ox, ⟨oy.pos, ?_, oy.sb⟩, n0, m0, hs, trivial, fun p H2 hp s2 h2 => k p H2 (s1.free hp) (s1.trans s2) ?_⟩
  · have := oy.st
    unfold Sz at *
    show (0 - y.1).natAbs < 2 ^ m
    omega
  · rw [← sub_is]
    exact h2
/-- all pairs of a list -/
structure PairsAt (H : Hp) (m : Nat) (xs : List V) (qs : List (Int × Int)) : Prop where
  len : xs.length = qs.length
  at_ : ∀ (i : Nat) (x : V), xs[i]? = some x → ∃ a q, x = .ref a ∧ qs[i]? = some q ∧ TupAt H a q ∧ OkP m q
theorem PairsAt.same {H H2 : Hp} {m : Nat} {xs : List V} {qs : List (Int × Int)} (h : PairsAt H m xs qs) (s : Same H H2) : PairsAt H2 m xs qs :=
  ⟨h.len, fun i x e => let ⟨a, q, e0, e1, e2, e3⟩ := h.at_ i x e; ⟨a, q, e0, e1, e2.same s, e3⟩⟩
def spLTotal : Sp := fun vs H Q _ => ∃ a xs qs m, vs = [.ref a] ∧ H a = some (.lst xs) ∧ PairsAt H m xs qs ∧ 0 < m ∧ m ≤ 400 ∧ qs.length ≤ 16 ∧ ∀ p H2, Same H H2 → TupAt H2 p (sumP qs) → Q (.ref p) H2
theorem ok_ltotal (T : Tx K mg) : FG P w K mg base CX0 3 (ga K "_law_total") (fdOf K (ga K "_law_total")) ["_law_pairs_here"] spLTotal := by
  refine fg_no T.F_law_total sc_law_total (fun vs H Q E h => ?_) (fun cdv A outer s H vs Q E gg hr h => ?_)
  · obtain ⟨a, xs, qs, m, rfl, _⟩ := h
    rfl
  obtain ⟨a, xs, qs, m, rfl, ha, N, m0, m4, hl, k⟩ := h
  refine ⟨_, pss_cons (ps_set (i := 1) sc_law_total.nd rfl (Or.inl rfl) (pe_tup (pa_cons pe_int (pa_cons pe_int pa_nil))))
    (pss_cons (ps_for PassesOwn.never rfl (pi_list (pv 0)) (pg_name (i := 2) sc_law_total.nd rfl (Or.inl rfl))
      (pss_one (ps_set (i := 1) sc_law_total.nd rfl (Or.inl rfl) (pe_fn (ok_lsum T) gg hr rfl T.g_law_sum T.F_law_sum.kp (b_law_sum T) .nil pass0 (pa_cons (pv 1) (pa_cons (pv 2) pa_nil))))))
    (pss_one (ps_ret (pv 1)))), ?_⟩
  refine ⟨(by show 2 ≤ sizeLine; decide), fun t ht => ?_⟩
  have s1 : Same H _ := Same.put (o := .tup [.int 0, .int 1]) ht
  have z0 : OkP 1 ((0, 1) : Int × Int) := ⟨by decide, by unfold Sz; decide, by unfold Sz; decide⟩
  refine ⟨_, rfl, a, rfl, ⟨_, SqL.of (s1 _ _ ha)⟩, for_list (K := K) (a := a) (xs := xs) (fun i σ H3 => ∃ p v, σ = [some (.ref a), some (.ref p), v] ∧ Same H H3 ∧ TupAt H3 p (sumP (qs.take i)) ∧ OkP (1 + i * (m + 1)) (sumP (qs.take i)))
    ⟨t, none, rfl, s1, upd_same, okp_le z0 (by omega)⟩ (fun i σ H3 _ ⟨_, _, _, s3, _⟩ => SqL.of (s3 _ _ ha)) ?_ ?_⟩
  · rintro i x σ H3 hx ⟨p, v, rfl, s3, R3, ok3⟩
    have hi : i < xs.length := (List.getElem?_eq_some_iff.mp hx).1
    obtain ⟨b, q, rfl, hq, tb, oq⟩ := N.at_ i x hx
    have hm : i * (m + 1) ≤ 16 * 401 := Nat.mul_le_mul (by have := N.len; omega) (by omega)
    have e1 : (i + 1) * (m + 1) = i * (m + 1) + (m + 1) := Nat.succ_mul _ _
    refine ⟨_, rfl, _, rfl, p, b, _, q, 1 + i * (m + 1), m, rfl, R3, tb.same s3, ok3, oq, by omega, m0, by omega, trivial, fun p2 H4 hp2 s4 R4 => ⟨p2, _, rfl, s3.trans s4, ?_, ?_⟩⟩
    · rw [sumP_more hq]; exact R4
    · rw [sumP_more hq]; exact okp_le (ok3.add oq) (by omega)
  · rintro σ H3 ⟨p, v, rfl, s3, R3, ok3⟩
    rw [N.len, List.take_length] at R3
    exact ⟨_, rfl, k p H3 s3 R3⟩
/-- a Ratio's pair -/
def spPair (K : Frag) : Sp := fun vs H Q _ => ∃ a q, vs = [.ref a] ∧ RatAt (CR K) H a q ∧ ∀ p, H p = none → Q (.ref p) (upd H p (.tup [.int q.1, .int q.2]))
theorem ok_pair (T : Tx K mg) : FG P w K mg base CX0 3 (ga K "_law_pair") (fdOf K (ga K "_law_pair")) ["_law_value"] (spPair K) := by
  refine fg_no T.F_law_pair sc_law_pair (fun vs H Q E h => ?_) (fun cdv A outer s H vs Q E gg hr h => ?_)
  · obtain ⟨a, q, rfl, _⟩ := h
    rfl
  obtain ⟨a, q, rfl, R, k⟩ := h
  obtain ⟨dx, e⟩ := id R
  refine ⟨_, pss_one (ps_ret (pe_ifExp (pt_val (pe_callB call_isi (by rfl) T.n_isinstance (by decide +kernel) (pa_cons (pv 0) (pa_cons (pe_glob (v := .ref (CR K)) rfl T.g_Ratio rfl) pa_nil))))
    (pe_tup (pa_cons (pe_pr (pv 0) T.cl_Ratio T.p_top (ok_top T) gg hr (b_Ratio_top T) .nil pass0) (pa_cons (pe_pr (pv 0) T.cl_Ratio T.p_bottom (ok_bottom T) gg hr (b_Ratio_bottom T) .nil pass0) pa_nil))) pe_non)), ?_⟩
  refine ⟨_, rfl, _, _, _, _, _, rfl, .own _, T.is_Ratio.ty T.cl_Ratio e, T.kk_Ratio, _, rfl, ?_⟩
  exact iteT ⟨_, rfl, a, dx, _, rfl, e, a, q, rfl, R, _, rfl, a, dx, _, rfl, e, a, q, rfl, R, (by show 2 ≤ sizeLine; decide), k⟩
end
end K11

set_option Elab.async false
set_option linter.all false
set_option maxRecDepth 100000
set_option maxHeartbeats 4000000
namespace K11
open PySem PySem.Spec PyProof.Rows L2 Own
open PySem.W (Frag)
section
variable {P : Program} {w : World} {K : Frag} {mg : Str → Option Value} {base : Heap}
theorem yes_if {σ : L2.St} {H : Hp} {A B : Hp → Prop} (h : A H) : tYes σ H (fun b H3 => if b = true then A H3 else B H3) := by
  show (if true = true then A H else B H)
  rw [if_pos rfl]
  exact h
/-- a list of Ratios -/
structure RatsAt (C : Addr) (H : Hp) (m : Nat) (xs : List V) (qs : List (Int × Int)) : Prop where
  len : xs.length = qs.length
  at_ : ∀ (i : Nat) (x : V), xs[i]? = some x → ∃ a q, x = .ref a ∧ qs[i]? = some q ∧ RatAt C H a q ∧ OkP m q
theorem RatsAt.same {C : Addr} {H H2 : Hp} {m : Nat} {xs : List V} {qs : List (Int × Int)} (h : RatsAt C H m xs qs) (s : Same H H2) : RatsAt C H2 m xs qs :=
  ⟨h.len, fun i x e => let ⟨a, q, e0, e1, e2, e3⟩ := h.at_ i x e; ⟨a, q, e0, e1, e2.same s, e3⟩⟩
theorem PairsAt.more {H : Hp} {m : Nat} {xs : List V} {qs : List (Int × Int)} (h : PairsAt H m xs qs) {a : Addr} {q : Int × Int} (t : TupAt H a q) (o : OkP m q) : PairsAt H m (xs ++ [.ref a]) (qs ++ [q]) := by
  refine ⟨by simp [h.len], fun i x e => ?_⟩
  rcases (by omega : i < xs.length ∨ xs.length ≤ i) with hi | hi
  · rw [List.getElem?_append_left hi] at e
    obtain ⟨b, q2, e0, e1, e2, e3⟩ := h.at_ i x e
    exact ⟨b, q2, e0, by rw [List.getElem?_append_left (by rw [← h.len]; exact hi)]; exact e1, e2, e3⟩
  · rw [List.getElem?_append_right hi] at e
    have hz : i - xs.length = 0 := by
      rcases Nat.eq_zero_or_pos (i - xs.length) with z | z
      · exact z
      · rw [List.getElem?_eq_none_iff.mpr (by simp; omega)] at e
        cases e
    rw [hz] at e
    have e4 : V.ref a = x := Option.some.inj e
    refine ⟨a, q, e4.symm, ?_, t, o⟩
    rw [List.getElem?_append_right (by rw [← h.len]; exact hi), ← h.len, hz]
    rfl
theorem PairsAt.lst {H : Hp} {m : Nat} {xs ys zs : List V} {qs : List (Int × Int)} {D : Addr} (h : PairsAt H m xs qs) (hD : H D = some (.lst ys)) : PairsAt (upd H D (.lst zs)) m xs qs :=
  ⟨h.len, fun i x e => by
    obtain ⟨a, q, e0, e1, e2, e3⟩ := h.at_ i x e
    refine ⟨a, q, e0, e1, ?_, e3⟩
    have hn : a ≠ D := ne_of e2 hD (by intro z; cases z)
    unfold TupAt
    rw [upd_ne hn]
    exact e2⟩
def spPairs (K : Frag) : Sp := fun vs H Q _ => ∃ a xs qs m, vs = [.ref a] ∧ H a = some (.lst xs) ∧ RatsAt (CR K) H m xs qs ∧ qs.length ≤ 100 ∧ ∀ l ys H2, Same H H2 → H2 l = some (.lst ys) → PairsAt H2 m ys qs → Q (.ref l) H2
theorem ok_pairs (T : Tx K mg) : FG P w K mg base CX0 4 (ga K "_law_pairs") (fdOf K (ga K "_law_pairs")) ["_law_value"] (spPairs K) := by
  refine fg_no T.F_law_pairs sc_law_pairs (fun vs H Q E h => ?_) (fun cdv A outer s H vs Q E gg hr h => ?_)
  · obtain ⟨a, xs, qs, m, rfl, _⟩ := h
    rfl
  obtain ⟨a, xs, qs, m, rfl, ha, R, hl, k⟩ := h
  refine ⟨_, pss_one (ps_ret (pe_ifExp (pt_val (pe_callB call_isi (by rfl) T.n_isinstance (by decide +kernel) (pa_cons (pv 0) (pa_cons (pe_bltn (v := .ty "list") (by rfl) T.n_list (by decide +kernel) rfl) pa_nil))))
    (pe_lc (own := [("_law_one", 1)]) (g := gName 1) (tt := tYes) (by rfl) sc_law_pairs.nd (pi_list (pv 0)) (blkOk_by (N := ["_law_value", "_law_one"]) (sc := defScope s_law_pairs) (by decide +kernel))
      (fun _ _ _ _ _ => pg_name (i := 1) sc_law_pairs.nd rfl (Or.inl rfl)) (fun _ _ _ _ _ => pts_nil)
      (fun _ _ _ _ _ => pe_fn (ok_pair T) gg hr rfl T.g_law_pair T.F_law_pair.kp (b_law_pair T) .nil pass0 (pa_cons (pv 1) pa_nil))) pe_non)), ?_⟩
  refine ⟨_, rfl, _, _, _, _, _, rfl, .ty "list", .base (.lst ha), kit_ty (r := true) (by decide +kernel), _, rfl, ?_⟩
  refine iteT ?_
  refine ⟨_, rfl, a, rfl, ⟨_, SqL.of ha⟩, fun D hD => lc_list (K := K) (a := a) (xs := xs) (fun i H2 => ∃ ys, H2 D = some (.lst ys) ∧ (∀ c o, H c = some o → H2 c = some o) ∧ PairsAt H2 m ys (qs.take i) ∧ ys.length = i)
    ⟨[], upd_same, fun c o e => by rw [upd_ne (ne_of_none e hD)]; exact e, ⟨by simp, fun i x e => by simp at e⟩, rfl⟩ (fun i H2 _ ⟨_, _, s2, _⟩ => SqL.of (s2 _ _ ha)) ?_ ?_⟩
  · rintro i x H2 hx ⟨ys, hD2, s2, N, hlen⟩
    obtain ⟨b, q, rfl, hq, Rb, ob⟩ := R.at_ i x hx
    have hi : i < xs.length := (List.getElem?_eq_some_iff.mp hx).1
    refine ⟨rfl, ?_⟩
    refine yes_if ?_
    refine ⟨_, rfl, b, q, rfl, Rb.same s2, fun t ht => ?_⟩
    have hdt : D ≠ t := ne_of_none hD2 ht
    have hD3 : (upd H2 t (.tup [.int q.1, .int q.2])) D = some (.lst ys) := by rw [upd_ne hdt]; exact hD2
    have s3 : Same H2 (upd H2 t (.tup [.int q.1, .int q.2])) := Same.put ht
    refine ⟨ys, hD3, Nat.lt_of_lt_of_le (by have := R.len; omega : ys.length < 1000) (szl (by omega)), ys ++ [.ref t], upd_same, fun c o e => ?_, ?_, by simp [hlen]⟩
    · rw [upd_ne (fun z => by rw [z, hD] at e; cases e)]
      exact s3 _ _ (s2 _ _ e)
    · rw [take_more hq]
      exact ((N.same s3).lst hD3).more (by unfold TupAt; rw [upd_ne (fun z => hdt z.symm), upd_same]) ob
  · rintro H2 ⟨ys, hD2, s2, N, hlen⟩
    rw [R.len, List.take_length] at N
    exact k D ys H2 s2 hD2 N
/-- the law's own text of a pair -/
def lshown (q : Int × Int) : Str := if q.2 = 1 then S q.1 else S q.1 ++ ("/" : Str) ++ S q.2
theorem str_ext {x y : Str} (h : x.cps = y.cps) : x = y := by
  cases x
  cases y
  simp at h
  rw [h]
theorem empty_app (x : Str) : Str.empty ++ x = x := by
  apply str_ext
  show (#[] : Array Nat) ++ x.cps = x.cps
  simp
theorem lshown_is (q : Int × Int) : lshown q = shown q := by
  unfold lshown shown
  rw [empty_app]
def spShown : Sp := fun vs H Q _ => ∃ a q, vs = [.ref a] ∧ TupAt H a q ∧ Tl q.1 ∧ Tl q.2 ∧ Q (.str (shown q)) H
theorem ok_shown (T : Tx K mg) : FG P w K mg base CX0 1 (ga K "_law_shown") (fdOf K (ga K "_law_shown")) ["_law_pair_here"] spShown := by
  refine fg_no T.F_law_shown sc_law_shown (fun vs H Q E h => ?_) (fun cdv A outer s H vs Q E gg hr h => ?_)
  · obtain ⟨a, q, rfl, _⟩ := h
    rfl
  obtain ⟨a, q, rfl, e, t1, t2, k⟩ := h
  refine ⟨_, pss_one (ps_ret (pe_ifExp (pt_cmpR op_eq (pe_ix ix_tup (pv 0) pe_int (fun _ _ => rfl)) pe_int (nomark _))
    (pe_callTy call_str_int (by rfl) T.n_str (by decide +kernel) (pa_cons (pe_ix ix_tup (pv 0) pe_int (fun _ _ => rfl)) pa_nil))
    (pe_op op_add_str (pe_op op_add_str (pe_callTy call_str_int (by rfl) T.n_str (by decide +kernel) (pa_cons (pe_ix ix_tup (pv 0) pe_int (fun _ _ => rfl)) pa_nil)) pe_str)
      (pe_callTy call_str_int (by rfl) T.n_str (by decide +kernel) (pa_cons (pe_ix ix_tup (pv 0) pe_int (fun _ _ => rfl)) pa_nil))))), ?_⟩
  rw [← lshown_is] at k
  have l1 := S_len t1
  have l2 := S_len t2
  have l3 : (("/" : Str)).length = 1 := by decide +kernel
  refine ⟨_, rfl, a, _, _, _, rfl, rfl, SqT.of e, at_of (j := 1) rfl rfl, rfl, _, rfl, ?_⟩
  refine ite2 (fun z => ?_) (fun z => ?_)
  · have z2 : q.2 = 1 := by simpa using z
    unfold lshown at k
    rw [if_pos z2] at k
    exact ⟨_, rfl, a, _, _, _, rfl, rfl, SqT.of e, at_of (j := 0) rfl rfl, _, rfl, t1, k⟩
  · have z2 : ¬ q.2 = 1 := fun y => z (decide_eq_true (by rw [y]))
    unfold lshown at k
    rw [if_neg z2] at k
    refine ⟨_, rfl, a, _, _, _, rfl, rfl, SqT.of e, at_of (j := 0) rfl rfl, _, rfl, t1, S q.1, _, rfl, rfl, ?_, _, rfl, a, _, _, _, rfl, rfl, SqT.of e, at_of (j := 1) rfl rfl, _, rfl, t2, S q.1 ++ ("/" : Str), S q.2, rfl, rfl, ?_, k⟩
    · rw [l3]; exact szl (by omega)
    · rw [len_app, l3]; exact szl (by omega)
/-- the raw numbers -/
structure RawP (q : Int × Int) : Prop where
  nz : q.2 ≠ 0
  st : Sz 128 q.1
  sb : Sz 128 q.2
end
end K11

set_option Elab.async false
set_option linter.all false
set_option maxRecDepth 100000
set_option maxHeartbeats 4000000
namespace K11
open PySem PySem.Spec PyProof.Rows L2 Own
open PySem.W (Frag)
section
variable {P : Program} {w : World} {K : Frag} {mg : Str → Option Value} {base : Heap}
theorem Sb.put {H : Hp} {p a : Addr} {o : HO} (h : H a = none) : Sb p H (upd H a o) := Sb.of (Same.put h)
theorem PotAt.put {H : Hp} {p a : Addr} {o : HO} (hp : PotAt H p) (h : H a = none) : PotAt (upd H a o) p := by
  obtain ⟨x, y, e, r⟩ := hp
  exact ⟨x, y, Same.put h _ _ e, r⟩
theorem PotAt.ne {H : Hp} {p a : Addr} (hp : PotAt H p) (h : H a = none) : a ≠ p := by
  obtain ⟨x, y, e, r⟩ := hp
  intro z
  rw [z, e] at h
  cases h
theorem Sb.free {p a : Addr} {H H2 : Hp} (s : Sb p H H2) (h : H2 a = none) (n : a ≠ p) : H a = none := by
  cases e : H a with
  | none => rfl
  | some o =>
    rw [s a o e n] at h
    cases h
theorem four {i : Nat} {x : V} (h : ([.int 1, .int 6, .int 35, .int (10 ^ (9 : Int).toNat)] : List V)[i]? = some x) : ∃ c, x = .int c ∧ Sz 31 c ∧ c ≠ 0 := by
  match i, h with
  | 0, h => exact ⟨1, (Option.some.inj h).symm, by unfold Sz; decide, by decide⟩
  | 1, h => exact ⟨6, (Option.some.inj h).symm, by unfold Sz; decide, by decide⟩
  | 2, h => exact ⟨35, (Option.some.inj h).symm, by unfold Sz; decide, by decide⟩
  | 3, h => exact ⟨10 ^ (9 : Int).toNat, (Option.some.inj h).symm, by unfold Sz; decide, by decide⟩
  | i + 4, h => simp at h
theorem two {i : Nat} {x : V} (h : ([.int 1, .int (-1)] : List V)[i]? = some x) : ∃ c, x = .int c ∧ (c = 1 ∨ c = -1) := by
  match i, h with
  | 0, h => exact ⟨1, (Option.some.inj h).symm, .inl rfl⟩
  | 1, h => exact ⟨-1, (Option.some.inj h).symm, .inr rfl⟩
  | i + 2, h => simp at h
/-- a raw one, drawn -/
structure RawS (q : Int × Int) : Prop where
  nz : q.2 ≠ 0
  st : Sz 122 q.1
  sb : Sz 122 q.2
theorem RawS.raw {q : Int × Int} (h : RawS q) : RawP q := ⟨h.nz, sz_le h.st (by decide), sz_le h.sb (by decide)⟩
def spRaw : Sp := fun vs H Q _ => ∃ (p : Addr), vs = [.ref p] ∧ PotAt H p ∧ ∀ q a H2, RawS q → H a = none → a ≠ p → PotAt H2 p → TupAt H2 a q → Sb p H H2 → Q (.ref a) H2
theorem ok_raw (T : Tx K mg) : FG P w K mg base CX0 3 (ga K "_law_raw") (fdOf K (ga K "_law_raw")) ["_law_pot_here"] spRaw := by
  refine fg_no T.F_law_raw sc_law_raw (fun vs H Q E h => ?_) (fun cdv A outer s H vs Q E gg hr h => ?_)
  · obtain ⟨p, rfl, _⟩ := h
    rfl
  obtain ⟨p, rfl, hp, k⟩ := h
  refine ⟨_, pss_cons (ps_set (i := 1) sc_law_raw.nd rfl (Or.inl rfl) (pe_op op_sub (pe_fn (ok_draw T) gg (hr.mono (by decide)) rfl T.g_law_draw T.F_law_draw.kp (b_law_draw T) .nil pass0 (pa_cons (pv 0) (pa_cons pe_int pa_nil))) pe_int))
    (pss_cons (ps_set (i := 2) sc_law_raw.nd rfl (Or.inl rfl) (pe_op op_add pe_int (pe_fn (ok_draw T) gg (hr.mono (by decide)) rfl T.g_law_draw T.F_law_draw.kp (b_law_draw T) .nil pass0 (pa_cons (pv 0) (pa_cons pe_int pa_nil)))))
    (pss_cons (ps_if (pt_cmpR op_eq (pe_fn (ok_draw T) gg (hr.mono (by decide)) rfl T.g_law_draw T.F_law_draw.kp (b_law_draw T) .nil pass0 (pa_cons (pv 0) (pa_cons pe_int pa_nil))) pe_int (nomark _))
      (pss_cons (ps_set (i := 1) sc_law_raw.nd rfl (Or.inl rfl) (pe_op op_add (pe_op op_mul (pv 1) (pe_op op_pow pe_int pe_int)) (pe_fn (ok_draw T) gg (hr.mono (by decide)) rfl T.g_law_draw T.F_law_draw.kp (b_law_draw T) .nil pass0 (pa_cons (pv 0) (pa_cons pe_int pa_nil)))))
      (pss_one (ps_set (i := 2) sc_law_raw.nd rfl (Or.inl rfl) (pe_op op_add (pe_op op_add (pe_op op_mul (pv 2) (pe_op op_pow pe_int pe_int)) (pe_fn (ok_draw T) gg (hr.mono (by decide)) rfl T.g_law_draw T.F_law_draw.kp (b_law_draw T) .nil pass0 (pa_cons (pv 0) (pa_cons pe_int pa_nil)))) pe_int)))) pss_nil)
    (pss_cons (ps_set (i := 3) sc_law_raw.nd rfl (Or.inl rfl) (pe_fn (ok_pick T) gg hr rfl T.g_law_pick T.F_law_pick.kp (b_law_pick T) .nil pass0 (pa_cons (pv 0) (pa_cons (pe_lst (pa_cons pe_int (pa_cons pe_int (pa_cons pe_int (pa_cons (pe_op op_pow pe_int pe_int) pa_nil))))) pa_nil))))
    (pss_cons (ps_set (i := 4) sc_law_raw.nd rfl (Or.inl rfl) (pe_fn (ok_pick T) gg hr rfl T.g_law_pick T.F_law_pick.kp (b_law_pick T) .nil pass0 (pa_cons (pv 0) (pa_cons (pe_lst (pa_cons pe_int (pa_cons (pe_un un_neg pe_int) pa_nil))) pa_nil))))
    (pss_one (ps_ret (pe_tup (pa_cons (pe_op op_mul (pe_op op_mul (pv 1) (pv 3)) (pv 4)) (pa_cons (pe_op op_mul (pe_op op_mul (pv 2) (pv 3)) (pv 4)) pa_nil))))))))), ?_⟩
  refine ⟨_, rfl, p, 25, rfl, hp, by decide, by decide, fun d1 H1 a1 a2 hp1 sb1 => ⟨_, _, rfl, rfl, ?_⟩⟩
  refine ⟨_, rfl, p, 12, rfl, hp1, by decide, by decide, fun d2 H2 b1 b2 hp2 sb2 => ⟨_, _, rfl, rfl, ?_⟩⟩
  refine ⟨_, rfl, p, 3, rfl, hp2, by decide, by decide, fun d3 H3 _ _ hp3 sb3 => ⟨rfl, _, rfl, ?_⟩⟩
  have sb13 : Sb p H H3 := (sb1.trans sb2).trans sb3
  refine ite2 (fun z => ?_) (fun z => ?_)
  · refine ⟨_, rfl, _, _, rfl, rfl, ⟨by decide, by decide, by decide⟩, _, _, rfl, rfl, .inl ⟨by omega, by omega⟩, _, rfl, p, 9, rfl, hp3, by decide, by decide, fun d4 H4 c1 c2 hp4 sb4 => ⟨_, _, rfl, rfl, ?_⟩⟩
    refine ⟨_, rfl, _, _, rfl, rfl, ⟨by decide, by decide, by decide⟩, _, _, rfl, rfl, .inl ⟨by omega, by omega⟩, _, rfl, p, 9, rfl, hp4, by decide, by decide, fun d5 H5 e1 e2 hp5 sb5 => ⟨_, _, rfl, rfl, _, _, rfl, rfl, ?_⟩⟩
    have sb15 : Sb p H H5 := (sb13.trans sb4).trans sb5
    refine ⟨_, rfl, _, _, rfl, rfl, ⟨by decide, by decide, by decide⟩, (by show 4 ≤ sizeLine; decide), fun l hl => ?_⟩
    refine ⟨p, l, _, rfl, PotAt.put hp5 hl, upd_same, PotAt.ne hp5 hl, (by show 0 < 4; decide), (by show 4 < 1000000; decide), fun i x H6 hx hp6 sb6 => ?_⟩
    obtain ⟨c, rfl, cs, cn⟩ := four hx
    refine ⟨_, rfl, _, rfl, (by show 2 ≤ sizeLine; decide), fun l2 hl2 => ?_⟩
    refine ⟨p, l2, _, rfl, PotAt.put hp6 hl2, upd_same, PotAt.ne hp6 hl2, (by show 0 < 2; decide), (by show 2 < 1000000; decide), fun i2 x2 H7 hx2 hp7 sb7 => ?_⟩
    obtain ⟨g, rfl, gs⟩ := two hx2
    have gz : Sz 1 g := by unfold Sz; omega
    have cb : -(2 ^ 64) < c ∧ c < 2 ^ 64 := by unfold Sz at cs; omega
    have gb : -(2 ^ 64) < g ∧ g < 2 ^ 64 := by omega
    refine ⟨_, rfl, _, rfl, _, _, rfl, rfl, .inr cb, _, rfl, _, _, rfl, rfl, .inr gb, _, rfl, _, rfl, _, _, rfl, rfl, .inr cb, _, rfl, _, _, rfl, rfl, .inr gb, (by show 2 ≤ sizeLine; decide), fun a ha => ?_⟩
    have sbz : Sb p H H7 := ((sb15.trans (Sb.put hl)).trans (sb6.trans (Sb.put hl2))).trans sb7
    refine k (((d1 - 12) * 10007 ^ 6 + d4) * c * g, ((1 + d2) * 10 ^ 20 + d5 + 1) * c * g) a _ ⟨?_, ?_, ?_⟩ ?_ (PotAt.ne hp7 ha) (PotAt.put hp7 ha) upd_same (sbz.trans (Sb.put ha))
    · exact Int.mul_ne_zero (Int.mul_ne_zero (by omega) cn) (by omega)
    · exact sz_le (sz_mul (sz_mul (show Sz 90 ((d1 - 12) * 10007 ^ 6 + d4) by unfold Sz; omega) cs) gz) (by decide)
    · exact sz_le (sz_mul (sz_mul (show Sz 90 ((1 + d2) * 10 ^ 20 + d5 + 1) by unfold Sz; omega) cs) gz) (by decide)
    · exact sbz.free ha (PotAt.ne hp7 ha)
  · refine ⟨_, rfl, _, _, rfl, rfl, ⟨by decide, by decide, by decide⟩, (by show 4 ≤ sizeLine; decide), fun l hl => ?_⟩
    refine ⟨p, l, _, rfl, PotAt.put hp3 hl, upd_same, PotAt.ne hp3 hl, (by show 0 < 4; decide), (by show 4 < 1000000; decide), fun i x H6 hx hp6 sb6 => ?_⟩
    obtain ⟨c, rfl, cs, cn⟩ := four hx
    refine ⟨_, rfl, _, rfl, (by show 2 ≤ sizeLine; decide), fun l2 hl2 => ?_⟩
    refine ⟨p, l2, _, rfl, PotAt.put hp6 hl2, upd_same, PotAt.ne hp6 hl2, (by show 0 < 2; decide), (by show 2 < 1000000; decide), fun i2 x2 H7 hx2 hp7 sb7 => ?_⟩
    obtain ⟨g, rfl, gs⟩ := two hx2
    have gz : Sz 1 g := by unfold Sz; omega
    have cb : -(2 ^ 64) < c ∧ c < 2 ^ 64 := by unfold Sz at cs; omega
    have gb : -(2 ^ 64) < g ∧ g < 2 ^ 64 := by omega
    refine ⟨_, rfl, _, rfl, _, _, rfl, rfl, .inr cb, _, rfl, _, _, rfl, rfl, .inr gb, _, rfl, _, rfl, _, _, rfl, rfl, .inr cb, _, rfl, _, _, rfl, rfl, .inr gb, (by show 2 ≤ sizeLine; decide), fun a ha => ?_⟩
    have sbz : Sb p H H7 := ((sb13.trans (Sb.put hl)).trans (sb6.trans (Sb.put hl2))).trans sb7
    refine k ((d1 - 12) * c * g, (1 + d2) * c * g) a _ ⟨?_, ?_, ?_⟩ ?_ (PotAt.ne hp7 ha) (PotAt.put hp7 ha) upd_same (sbz.trans (Sb.put ha))
    · exact Int.mul_ne_zero (Int.mul_ne_zero (by omega) cn) (by omega)
    · exact sz_le (sz_mul (sz_mul (show Sz 90 (d1 - 12) by unfold Sz; omega) cs) gz) (by decide)
    · exact sz_le (sz_mul (sz_mul (show Sz 90 (1 + d2) by unfold Sz; omega) cs) gz) (by decide)
    · exact sbz.free ha (PotAt.ne hp7 ha)
end
end K11

set_option Elab.async false
set_option linter.all false
set_option maxRecDepth 100000
set_option maxHeartbeats 4000000
namespace K11
open PySem PySem.Spec PyProof.Rows L2 Own
open PySem.W (Frag)
/-! ### lowest terms -/
theorem nrm_fix {t b : Int} (hb : 0 < b) (hg : Nat.gcd t.natAbs b.natAbs = 1) : nrm t b = (t, b) := by
  unfold nrm
  rw [if_neg (by omega), hg]
  simp
theorem nrm_cop {t b : Int} (h : b ≠ 0) : Nat.gcd (nrm t b).1.natAbs (nrm t b).2.natAbs = 1 := by
  have g0 := gcd_pos' (t := t) h
  obtain ⟨x, hx⟩ := gcd_dvd_t t b
  obtain ⟨y, hy⟩ := gcd_dvd_b t b
  have key : Nat.gcd x.natAbs y.natAbs = 1 := by
    have e1 : t.natAbs = Nat.gcd t.natAbs b.natAbs * x.natAbs := by
      have := congrArg Int.natAbs hx
      rw [Int.natAbs_mul] at this
      simpa using this
    have e2 : b.natAbs = Nat.gcd t.natAbs b.natAbs * y.natAbs := by
      have := congrArg Int.natAbs hy
      rw [Int.natAbs_mul] at this
      simpa using this
    have e3 : Nat.gcd t.natAbs b.natAbs = Nat.gcd t.natAbs b.natAbs * Nat.gcd x.natAbs y.natAbs := by
      rw [← Nat.gcd_mul_left, ← e1, ← e2]
    exact Nat.eq_of_mul_eq_mul_left g0 (by rw [Nat.mul_one]; exact e3.symm)
  generalize hg : ((Nat.gcd t.natAbs b.natAbs : Nat) : Int) = g at hx hy
  have gn : g ≠ 0 := by omega
  unfold nrm
  rw [hg]
  by_cases hb : b < 0
  · rw [if_pos hb]
    have e1 : t.fdiv (-g) = -x := by
      have e : t = (-g) * (-x) := by rw [hx, Int.neg_mul_neg]
      rw [e, Int.mul_fdiv_cancel_left _ (by omega)]
    have e2 : b.fdiv (-g) = -y := by
      have e : b = (-g) * (-y) := by rw [hy, Int.neg_mul_neg]
      rw [e, Int.mul_fdiv_cancel_left _ (by omega)]
    show Nat.gcd (t.fdiv (-g)).natAbs (b.fdiv (-g)).natAbs = 1
    rw [e1, e2, Int.natAbs_neg, Int.natAbs_neg]
    exact key
  · rw [if_neg hb]
    show Nat.gcd (t.fdiv g).natAbs (b.fdiv g).natAbs = 1
    rw [hx, hy, Int.mul_fdiv_cancel_left _ gn, Int.mul_fdiv_cancel_left _ gn]
    exact key
structure Low (q : Int × Int) : Prop where
  pos : 0 < q.2
  cop : Nat.gcd q.1.natAbs q.2.natAbs = 1
theorem nrm_low {t b : Int} (h : b ≠ 0) : Low (nrm t b) := ⟨nrm_pos h, nrm_cop h⟩
theorem neg_low {q : Int × Int} (h : Low q) : negP q = (0 - q.1, q.2) := by
  unfold negP
  rw [nrm_fix h.pos (by rw [Int.natAbs_neg]; exact h.cop), Int.zero_sub]
theorem rsub_low {q : Int × Int} (h : Low q) : subP (0, 1) q = (0 - q.1, q.2) := by
  unfold subP
  have e1 : ((0 : Int), (1 : Int)).1 * q.2 - q.1 * ((0 : Int), (1 : Int)).2 = -q.1 := by
    show 0 * q.2 - q.1 * 1 = -q.1
    rw [Int.zero_mul, Int.mul_one, Int.zero_sub]
  have e2 : ((0 : Int), (1 : Int)).2 * q.2 = q.2 := Int.one_mul _
  rw [e1, e2, nrm_fix h.pos (by rw [Int.natAbs_neg]; exact h.cop), Int.zero_sub]
theorem abs_low {q : Int × Int} (h : Low q) : absP q = ((if q.1 < 0 then -q.1 else q.1), q.2) := by
  unfold absP
  refine nrm_fix h.pos ?_
  have : (if q.1 < 0 then -q.1 else q.1).natAbs = q.1.natAbs := by split <;> omega
  rw [this]
  exact h.cop
section
variable {P : Program} {w : World} {K : Frag} {mg : Str → Option Value} {base : Heap}
/-! ### data of a pair -/
abbrev dP (q : Int × Int) : PyData := .tuple [.int q.1, .int q.2]
theorem dp_pair {H : Hp} {a : Addr} {q : Int × Int} (h : TupAt H a q) : Dp K H (.ref a) (dP q) := .tup (SqT.of h) (.cons (.int _) (.cons (.int _) .nil))
theorem sh_pair (q : Int × Int) : SeqAt.shaped (dP q) = true := by rfl
/-- comparing equal data -/
theorem ne_same {H : Hp} {x y : V} {d : PyData} {Q : VK} (hx : Dp K H x d) (hy : Dp K H y d) (hs : SeqAt.shaped d = true) (q : Q (.bl false) H) : rNeD K x y H Q := by
  refine ⟨d, d, hx, hy, hs, hs, ?_⟩
  rw [SeqAt.eqv_refl _ (SeqAt.canLay_of_shaped hs)]
  exact q
theorem eq_same {H : Hp} {x y : V} {d : PyData} {Q : VK} (hx : Dp K H x d) (hy : Dp K H y d) (hs : SeqAt.shaped d = true) (q : Q (.bl true) H) : rEqD K x y H Q := by
  refine ⟨d, d, hx, hy, hs, hs, ?_⟩
  rw [SeqAt.eqv_refl _ (SeqAt.canLay_of_shaped hs)]
  exact q
theorem kb_init (T : Tx K mg) : ∃ its : List Value, KBn K (fdOf K (ma K (CR K) "__init__")) ["self", "top", "bottom"] 1 ["top", "bottom"] (fun us ws => us ++ ws) (fun vs zs => vs ++ zs) :=
  T.F_Ratio_init.kbindsD (ps := ["self", "top", "bottom"]) 1 ["top", "bottom"] (fun us _ ws => us ++ ws) (by simp) (fun r _ z => r.append z)
    fun _ _ _ _ _ _ _ us its ws h1 h2 h3 => match us, its, ws, h1, h2, h3 with | [_], [_], [_, _], _, _, _ => ⟨_, rfl, rfl⟩
end
end K11

set_option Elab.async false
set_option linter.all false
set_option maxRecDepth 100000
set_option maxHeartbeats 4000000
namespace K11
open PySem PySem.Spec PyProof.Rows L2 Own
open PySem.W (Frag)
section
variable {P : Program} {w : World} {K : Frag} {mg : Str → Option Value} {base : Heap}
theorem dec_i (i j : Int) : decide (V.int i = V.int j) = decide (i = j) := by
  by_cases h : i = j
  · rw [h]; simp
  · rw [decide_eq_false h]
    exact decide_eq_false fun y => h (by injection y)
abbrev dS (c : Int) (b : Bool) : PyData := .list [.int c, .bool b]
theorem rep_ok (i : Int) (b : Bool) : (dS (sgn i) b).showable = true ∧ (dS (sgn i) b).hasDict = false ∧ (dS (sgn i) b).depth ≤ 60 ∧ (dS (sgn i) b).shown.length ≤ sizeLine := by
  have hc : sgn i = 0 ∨ sgn i = 1 ∨ sgn i = -1 := by
    unfold sgn
    split
    · exact .inl rfl
    · split
      · exact .inr (.inl rfl)
      · exact .inr (.inr rfl)
  rcases hc with h | h | h <;> rw [h] <;> cases b <;> exact ⟨by decide +kernel, by decide +kernel, by decide +kernel, by decide +kernel⟩
def spOne : Sp := fun vs H Q _ => ∃ a q, vs = [.ref a] ∧ TupAt H a q ∧ RawP q ∧ ∀ H2, Same H H2 → Q (.bl true) H2
theorem ok_one_right (T : Tx K mg) : FG P w K mg base CX0 7 (ga K "_law_one_right") (fdOf K (ga K "_law_one_right")) ["_law_raw_here"] spOne := by
  refine fg_no T.F_law_one_right sc_law_one_right (fun vs H Q E h => ?_) (fun cdv A outer s H vs Q E gg hr h => ?_)
  · obtain ⟨a, q, rfl, _⟩ := h
    rfl
  obtain ⟨a, q, rfl, ta, rp, k⟩ := h
  obtain ⟨its, kb⟩ := kb_init T
  refine ⟨_, pss_cons (ps_par (i := 1) (j := 2) (by rfl) sc_law_one_right.nd rfl rfl (by decide) rfl rfl (pa_cons (pe_mk T.mk_Ratio (ok_init T) gg (hr.mono (by decide)) rfl T.g_Ratio (b_init2 T) .nil pass0 (pa_cons (pe_ix ix_tup (pv 0) pe_int (fun _ _ => rfl)) (pa_cons (pe_ix ix_tup (pv 0) pe_int (fun _ _ => rfl)) pa_nil))) (pa_cons (pe_fn (ok_low T) gg (hr.mono (by decide)) rfl T.g_law_low T.F_law_low.kp (b_law_low T) .nil pass0 (pa_cons (pe_ix ix_tup (pv 0) pe_int (fun _ _ => rfl)) (pa_cons (pe_ix ix_tup (pv 0) pe_int (fun _ _ => rfl)) pa_nil))) pa_nil)) (by rfl))
    (pss_cons (ps_if (PW.pt (pw_or (pt_cmpR (op_neD hr.units) (pe_fn (ok_pair T) gg (hr.mono (by decide)) rfl T.g_law_pair T.F_law_pair.kp (b_law_pair T) .nil pass0 (pa_cons (pv 1) pa_nil)) (pv 2) (nomark _)) (pw_or1 (pt_cmpR op_ne (pe_callTy (cg_str T.x_str.1 T.x_str.2 (ok_str T) gg (hr.mono (by decide)) (b_Ratio_str T) pass0) (by rfl) T.n_str (by decide +kernel) (pa_cons (pv 1) pa_nil)) (pe_fn (ok_shown T) gg (hr.mono (by decide)) rfl T.g_law_shown T.F_law_shown.kp (b_law_shown T) .nil pass0 (pa_cons (pv 2) pa_nil)) (nomark _))))) (pss_one (ps_ret pe_bl)) pss_nil)
    (pss_cons (ps_if (pt_cmpR op_ne (pe_callB (cg_repr T.x_repr.1 T.x_repr.2 (ok_repr T) gg (hr.mono (by decide)) (b_Ratio_repr T) pass0) (by rfl) T.n_repr (by decide +kernel) (pa_cons (pv 1) pa_nil)) (pe_op op_add_str (pe_op op_add_str (pe_op op_add_str (pe_op op_add_str pe_str (pe_callTy call_str_int (by rfl) T.n_str (by decide +kernel) (pa_cons (pe_ix ix_tup (pv 2) pe_int (fun _ _ => rfl)) pa_nil))) pe_str) (pe_callTy call_str_int (by rfl) T.n_str (by decide +kernel) (pa_cons (pe_ix ix_tup (pv 2) pe_int (fun _ _ => rfl)) pa_nil))) pe_str) (nomark _)) (pss_one (ps_ret pe_bl)) pss_nil)
    (pss_cons (ps_set (i := 3) sc_law_one_right.nd rfl (Or.inl rfl) (pe_ifExp (pt_cmpR op_eq (pe_ix ix_tup (pv 2) pe_int (fun _ _ => rfl)) pe_int (nomark _)) pe_int (pe_ifExp (pt_cmpR op_gt (pe_ix ix_tup (pv 2) pe_int (fun _ _ => rfl)) pe_int (nomark _)) pe_int (pe_un un_neg pe_int))))
    (pss_cons (ps_if (pt_cmpR op_ne (pe_callB (cg_reprD gg hr) (by rfl) T.n_repr (by decide +kernel) (pa_cons (pe_lst (pa_cons (pe_pr (pv 1) T.cl_Ratio T.p_sign (ok_sign T) gg (hr.mono (by decide)) (b_Ratio_sign T) .nil pass0) (pa_cons (pe_pr (pv 1) T.cl_Ratio T.p_is_whole (ok_is_whole T) gg (hr.mono (by decide)) (b_Ratio_is_whole T) .nil pass0) pa_nil))) pa_nil)) (pe_callB (cg_reprD gg hr) (by rfl) T.n_repr (by decide +kernel) (pa_cons (pe_lst (pa_cons (pv 3) (pa_cons (pe_cmpR op_eq (pe_ix ix_tup (pv 2) pe_int (fun _ _ => rfl)) pe_int (nomark _)) pa_nil))) pa_nil)) (nomark _)) (pss_one (ps_ret pe_bl)) pss_nil)
    (pss_cons (ps_if (pt_cmpR (op_neD hr.units) (pe_fn (ok_pair T) gg (hr.mono (by decide)) rfl T.g_law_pair T.F_law_pair.kp (b_law_pair T) .nil pass0 (pa_cons (pe_me0 (pv 1) T.cl_Ratio T.t_unsigned (ok_unsigned T) gg (hr.mono (by decide)) (b_Ratio_unsigned T) .nil pass0) pa_nil)) (pe_tup (pa_cons (pe_callB call_abs (by rfl) T.n_abs (by decide +kernel) (pa_cons (pe_ix ix_tup (pv 2) pe_int (fun _ _ => rfl)) pa_nil)) (pa_cons (pe_ix ix_tup (pv 2) pe_int (fun _ _ => rfl)) pa_nil))) (nomark _)) (pss_one (ps_ret pe_bl)) pss_nil)
    (pss_cons (ps_if (PW.pt (pw_or (pt_cmpR (op_neD hr.units) (pe_fn (ok_pair T) gg (hr.mono (by decide)) rfl T.g_law_pair T.F_law_pair.kp (b_law_pair T) .nil pass0 (pa_cons (pe_op (og_subR T.i_sub.2.1 (ok_rsub T) gg (hr.mono (by decide)) (b_Ratio_rsub T) pass0) pe_int (pv 1)) pa_nil)) (pe_tup (pa_cons (pe_op op_sub pe_int (pe_ix ix_tup (pv 2) pe_int (fun _ _ => rfl))) (pa_cons (pe_ix ix_tup (pv 2) pe_int (fun _ _ => rfl)) pa_nil))) (nomark _)) (pw_or1 (pt_cmpR (op_neD hr.units) (pe_fn (ok_pair T) gg (hr.mono (by decide)) rfl T.g_law_pair T.F_law_pair.kp (b_law_pair T) .nil pass0 (pa_cons (pe_un (og_neg T.x_neg.1 T.x_neg.2 (ok_neg T) gg (hr.mono (by decide)) (b_Ratio_neg T) pass0) (pv 1)) pa_nil)) (pe_tup (pa_cons (pe_op op_sub pe_int (pe_ix ix_tup (pv 2) pe_int (fun _ _ => rfl))) (pa_cons (pe_ix ix_tup (pv 2) pe_int (fun _ _ => rfl)) pa_nil))) (nomark _))))) (pss_one (ps_ret pe_bl)) pss_nil)
    (pss_cons (ps_if (pt_cmpR (op_neD hr.units) (pe_lst (pa_cons (pe_fn (ok_is_number T) gg (hr.mono (by decide)) rfl T.g_is_number T.F_is_number.kp (b_is_number T) .nil pass0 (pa_cons (pv 1) pa_nil)) (pa_cons (pe_fn (ok_is_integer T) gg (hr.mono (by decide)) rfl T.g_is_integer T.F_is_integer.kp (b_is_integer T) .nil pass0 (pa_cons (pv 1) pa_nil)) (pa_cons (pe_fn (ok_is_count T) gg (hr.mono (by decide)) rfl T.g_is_count T.F_is_count.kp (b_is_count T) .nil pass0 (pa_cons (pv 1) pa_nil)) pa_nil)))) (pe_lst (pa_cons pe_bl (pa_cons pe_bl (pa_cons pe_bl pa_nil)))) (nomark _)) (pss_one (ps_ret pe_bl)) pss_nil)
    (pss_one (ps_ret (pe_cmpR (op_eqD hr.units) (pe_fn (ok_pair T) gg (hr.mono (by decide)) rfl T.g_law_pair T.F_law_pair.kp (b_law_pair T) .nil pass0 (pa_cons (pe_mkK0 T.mk_Ratio (ok_init T) gg (hr.mono (by decide)) rfl T.g_Ratio kb pass0 (pk_cons (pe_ix ix_tup (pv 0) pe_int (fun _ _ => rfl)) (pk_cons (pe_ix ix_tup (pv 0) pe_int (fun _ _ => rfl)) pk_nil))) pa_nil)) (pv 2) (nomark _))))))))))), ?_⟩
  refine ⟨_, rfl, a, _, _, _, rfl, rfl, SqT.of ta, at_of (j := 0) rfl rfl, _, rfl, a, _, _, _, rfl, rfl, SqT.of ta, at_of (j := 1) rfl rfl, fun x dx n1 n2 n3 => ?_⟩
  refine mkA n1 n2 rp.nz (sz_le rp.sb (by decide)) fun H1 s1 R1 => ?_
  have ta1 := ta.same s1
  refine ⟨_, rfl, a, _, _, _, rfl, rfl, SqT.of ta1, at_of (j := 0) rfl rfl, _, rfl, a, _, _, _, rfl, rfl, SqT.of ta1, at_of (j := 1) rfl rfl, q.1, q.2, rfl, rp.nz, sz_le rp.sb (by decide), fun p H2 hp e2 => ⟨_, _, rfl, ?_⟩⟩
  have s2 : Same H H2 := s1.trans (by rw [e2]; exact Same.put hp)
  have R2 : RatAt (CR K) H2 x (nrm q.1 q.2) := R1.same (by rw [e2]; exact Same.put hp)
  have tp : TupAt H2 p (nrm q.1 q.2) := by rw [e2]; exact upd_same
  have lw := nrm_low (t := q.1) rp.nz
  have ok := nrm_sz rp.nz rp.st rp.sb
  have ta2 := ta.same s2
  clear e2 R1 ta1
  generalize hz : nrm q.1 q.2 = z at R2 tp lw ok
  have t1 : Tl z.1 := Nat.lt_trans (sz_log ok.st (by decide)) (by decide)
  have t2 : Tl z.2 := Nat.lt_trans (sz_log ok.sb (by decide)) (by decide)
  -- the pair and the text
  refine ⟨_, rfl, x, z, rfl, R2, fun p3 h3 => ⟨_, rfl, ne_same (dp_pair upd_same) (dp_pair (tp.same (Same.put h3))) (sh_pair _) ⟨false, rfl, ?_⟩⟩⟩
  refine iteF ?_
  have s3 : Same H2 (upd H2 p3 (.tup [.int z.1, .int z.2])) := Same.put h3
  generalize upd H2 p3 (.tup [.int z.1, .int z.2]) = H3 at s3
  have R3 := R2.same s3
  have tp3 := tp.same s3
  obtain ⟨d3, e3⟩ := id R3
  refine ⟨_, rfl, x, d3, _, rfl, e3, x, z, rfl, R3, t1, t2, _, rfl, _, rfl, p, z, rfl, tp3, t1, t2, rfl, ?_⟩
  refine ⟨_, rfl, ?_⟩
  refine iteNS rfl ?_
  -- the other text
  have l1 := S_len t1
  have l2 := S_len t2
  have l3 : (("Ratio(" : Str)).length = 6 := by decide +kernel
  have l4 : ((", " : Str)).length = 2 := by decide +kernel
  have l5 : ((")" : Str)).length = 1 := by decide +kernel
  refine ⟨_, rfl, x, d3, _, rfl, e3, x, z, rfl, R3, t1, t2, _, rfl, _, rfl, p, _, _, _, rfl, rfl, SqT.of tp3, at_of (j := 0) rfl rfl, z.1, rfl, t1, _, S z.1, rfl, rfl, ?_, _, _, rfl, rfl, ?_, _, rfl, p, _, _, _, rfl, rfl, SqT.of tp3, at_of (j := 1) rfl rfl, z.2, rfl, t2, _, S z.2, rfl, rfl, ?_, _, _, rfl, rfl, ?_, rfl, _, rfl, ?_⟩
  · rw [l3]; exact szl (by omega)
  · rw [len_app, l3, l4]; exact szl (by omega)
  · rw [len_app, len_app, l3, l4]; exact szl (by omega)
  · rw [len_app, len_app, len_app, l3, l4, l5]; exact szl (by omega)
  refine iteNS ?_ ?_
  · unfold told
    rw [empty_app]
  refine ⟨_, rfl, p, _, _, _, rfl, rfl, SqT.of tp3, at_of (j := 0) rfl rfl, rfl, _, rfl, ?_⟩
  refine ite2 (fun y => ?_) (fun y => ?_)
  · have hc : sgn z.1 = 0 := by
      have y2 : z.1 = 0 := by simpa using y
      unfold sgn
      rw [if_pos y2]
    refine ⟨_, rfl, x, d3, _, rfl, e3, x, z, rfl, R3, _, rfl, x, d3, _, rfl, e3, x, z, rfl, R3, (by show 2 ≤ sizeLine; decide), fun l4 h4 => ?_⟩
    obtain ⟨r1, r2, r3, r4⟩ := rep_ok z.1 (decide (z.2 = 1))
    refine ⟨l4, dS (sgn z.1) (decide (z.2 = 1)), rfl, .lst (SqL.of upd_same) (.cons (.int _) (.cons (.bl _) .nil)), r1, r2, r3, r4, ?_⟩
    have s4 : Same H3 (upd H3 l4 (.lst [.int (sgn z.1), .bl (decide (z.2 = 1))])) := Same.put h4
    generalize upd H3 l4 (.lst [.int (sgn z.1), .bl (decide (z.2 = 1))]) = H4 at s4
    have tp4 := tp3.same s4
    have R4 := R3.same s4
    refine ⟨_, rfl, _, rfl, p, _, _, _, rfl, rfl, SqT.of tp4, at_of (j := 1) rfl rfl, rfl, (by show 2 ≤ sizeLine; decide), fun l5 h5 => ?_⟩
    refine ⟨l5, dS (sgn z.1) (decide (z.2 = 1)), rfl, ?_, r1, r2, r3, r4, ?_⟩
    · rw [hc, ← dec_i]
      exact .lst (SqL.of upd_same) (.cons (.int _) (.cons (.bl _) .nil))
    refine ⟨rfl, _, rfl, ?_⟩
    refine iteNS rfl ?_
    have R5 : ∀ o, RatAt (CR K) (upd H4 l5 o) x z := fun o => R4.same (Same.put h5)
    have e5 : ∀ o, (upd H4 l5 o) x = some (.ins (CR K) d3 (rf z.1 z.2)) := fun o => Same.put h5 _ _ (s4 _ _ e3)
    have tp5 : ∀ o, TupAt (upd H4 l5 o) p z := fun o => tp4.same (Same.put h5)
    have s05 : ∀ o, Same H (upd H4 l5 o) := fun o => ((s2.trans s3).trans s4).trans (Same.put h5)
    -- unsigned
    refine ⟨_, rfl, x, d3, _, rfl, e5 _, rf_no _ _ (by decide +kernel) (by decide +kernel), x, z, 128, rfl, R5 _, ok, by decide, fun p6 H6 s6 R6 => ⟨p6, _, rfl, R6, fun t6 h6 => ?_⟩⟩
    rw [abs_low lw]
    have s7 : Same H6 _ := Same.put (o := .tup [.int (if z.1 < 0 then -z.1 else z.1), .int z.2]) h6
    have tp7 := ((tp5 _).same s6).same s7
    have R7 := ((R5 _).same s6).same s7
    have e7 := s7 _ _ (s6 _ _ (e5 _))
    have s07 := ((s05 _).trans s6).trans s7
    refine ⟨_, rfl, p, _, _, _, rfl, rfl, SqT.of tp7, at_of (j := 0) rfl rfl, _, rfl, _, rfl, p, _, _, _, rfl, rfl, SqT.of tp7, at_of (j := 1) rfl rfl, (by show 2 ≤ sizeLine; decide), fun t8 h8 => ?_⟩
    have s8 : ∀ o, Same _ (upd _ t8 o) := fun o => Same.put (o := o) h8
    refine ne_same (dp_pair (q := ((if z.1 < 0 then -z.1 else z.1), z.2)) (s8 _ _ _ upd_same)) (dp_pair (q := ((if z.1 < 0 then -z.1 else z.1), z.2)) upd_same) (sh_pair _) ⟨false, rfl, ?_⟩
    refine iteF ?_
    have R8 := fun o => R7.same (s8 o)
    have e8 := fun o => s8 o _ _ e7
    have tp8 := fun o => tp7.same (s8 o)
    have s08 := fun o => s07.trans (s8 o)
    -- nought less it
    have ok0 : OkP 1 ((0, 1) : Int × Int) := ⟨by decide, by unfold Sz; decide, by unfold Sz; decide⟩
    refine ⟨_, rfl, x, d3, _, 0, rfl, rfl, e8 _, x, 0, z, 128, 1, rfl, R8 _, ok, ok0, by decide, by decide, by decide, fun p9 H9 s9 R9 => ⟨p9, _, rfl, R9, fun t9 h9 => ?_⟩⟩
    have er : ((fun x y => subP y x) z ((0 : Int), (1 : Int))) = (0 - z.1, z.2) := rsub_low lw
    rw [er]
    have s10 : Same H9 _ := Same.put (o := .tup [.int (0 - z.1), .int z.2]) h9
    have tp10 := ((tp8 _).same s9).same s10
    have R10 := ((R8 _).same s9).same s10
    have e10 := s10 _ _ (s9 _ _ (e8 _))
    have s010 := ((s08 _).trans s9).trans s10
    refine ⟨_, rfl, p, _, _, _, rfl, rfl, SqT.of tp10, at_of (j := 0) rfl rfl, _, _, rfl, rfl, _, rfl, p, _, _, _, rfl, rfl, SqT.of tp10, at_of (j := 1) rfl rfl, (by show 2 ≤ sizeLine; decide), fun t11 h11 => ?_⟩
    have s11 : ∀ o, Same _ (upd _ t11 o) := fun o => Same.put (o := o) h11
    refine ne_same (dp_pair (q := (0 - z.1, z.2)) (s11 _ _ _ upd_same)) (dp_pair (q := (0 - z.1, z.2)) upd_same) (sh_pair _) ⟨false, rfl, ?_⟩
    refine iteF ?_
    have R11 := fun o => R10.same (s11 o)
    have e11 := fun o => s11 o _ _ e10
    have tp11 := fun o => tp10.same (s11 o)
    have s011 := fun o => s010.trans (s11 o)
    -- turned
    refine ⟨_, rfl, x, d3, _, rfl, e11 _, x, z, 128, rfl, R11 _, ok, by decide, fun p12 H12 s12 R12 => ⟨p12, _, rfl, R12, fun t12 h12 => ?_⟩⟩
    rw [neg_low lw]
    have s13 : Same H12 _ := Same.put (o := .tup [.int (0 - z.1), .int z.2]) h12
    have tp13 := ((tp11 _).same s12).same s13
    have R13 := ((R11 _).same s12).same s13
    have e13 := s13 _ _ (s12 _ _ (e11 _))
    have s013 := ((s011 _).trans s12).trans s13
    refine ⟨_, rfl, p, _, _, _, rfl, rfl, SqT.of tp13, at_of (j := 0) rfl rfl, _, _, rfl, rfl, _, rfl, p, _, _, _, rfl, rfl, SqT.of tp13, at_of (j := 1) rfl rfl, (by show 2 ≤ sizeLine; decide), fun t14 h14 => ?_⟩
    have s14 : ∀ o, Same _ (upd _ t14 o) := fun o => Same.put (o := o) h14
    refine ne_same (dp_pair (q := (0 - z.1, z.2)) (s14 _ _ _ upd_same)) (dp_pair (q := (0 - z.1, z.2)) upd_same) (sh_pair _) ⟨false, rfl, ?_⟩
    refine iteF ?_
    have R14 := fun o => R13.same (s14 o)
    have tp14 := fun o => tp13.same (s14 o)
    have s014 := fun o => s013.trans (s14 o)
    -- what kind of value
    have ni : ∀ o, IntK K (upd _ t14 o) (.ref x) false := fun o => IntK.rat T (R14 o)
    refine ⟨_, rfl, .ref x, true, rfl, ⟨false, ni _, (fun q => nomatch q), fun _ => ⟨_, T.is_Ratio.ty T.cl_Ratio (R14 _).choose_spec, T.kk_Ratio⟩⟩, _, rfl, .ref x, false, rfl, ni _, _, rfl, .ref x, rfl, ni _, (by show 3 ≤ sizeLine; decide), fun l15 h15 => ?_⟩
    have s15 : ∀ o, Same _ (upd _ l15 o) := fun o => Same.put (o := o) h15
    refine ⟨(by show 3 ≤ sizeLine; decide), fun l16 h16 => ?_⟩
    have s16 : ∀ o, Same _ (upd _ l16 o) := fun o => Same.put (o := o) h16
    refine ne_same (d := .list [.bool true, .bool false, .bool false]) (.lst (SqL.of (s16 _ _ _ upd_same)) (.cons (.bl _) (.cons (.bl _) (.cons (.bl _) .nil)))) (.lst (SqL.of upd_same) (.cons (.bl _) (.cons (.bl _) (.cons (.bl _) .nil)))) (by rfl) ⟨false, rfl, ?_⟩
    refine iteF ?_
    have tp16 := fun o => ((tp14 _).same (s15 _)).same (s16 o)
    have s016 := fun o => ((s014 _).trans (s15 _)).trans (s16 o)
    have ta16 := fun o => ta.same (s016 o)
    -- by names
    refine ⟨_, rfl, a, _, _, _, rfl, rfl, SqT.of (ta16 _), at_of (j := 0) rfl rfl, _, rfl, a, _, _, _, rfl, rfl, SqT.of (ta16 _), at_of (j := 1) rfl rfl, rfl, rfl, fun x17 dx17 m1 m2 m3 => ?_⟩
    refine mkA m1 m2 rp.nz (sz_le rp.sb (by decide)) fun H17 s17 R17 => ?_
    rw [hz] at R17
    refine ⟨x17, z, rfl, R17, fun t18 h18 => ?_⟩
    have s18 : ∀ o, Same _ (upd _ t18 o) := fun o => Same.put (o := o) h18
    refine ⟨_, rfl, eq_same (dp_pair upd_same) (dp_pair (((tp16 _).same s17).same (s18 _))) (sh_pair _) ?_⟩
    exact k _ (((s016 _).trans s17).trans (s18 _))
  · have y1 : ¬ z.1 = 0 := fun u => y (decide_eq_true (by rw [u]))
    refine ⟨_, rfl, p, _, _, _, rfl, rfl, SqT.of tp3, at_of (j := 0) rfl rfl, _, _, rfl, rfl, _, rfl, ?_⟩
    refine ite2 (fun y2 => ?_) (fun y2 => ?_)
    · have hc : sgn z.1 = 1 := by
        unfold sgn
        rw [if_neg y1, if_pos (show z.1 > 0 from of_decide_eq_true y2)]
      refine ⟨_, rfl, x, d3, _, rfl, e3, x, z, rfl, R3, _, rfl, x, d3, _, rfl, e3, x, z, rfl, R3, (by show 2 ≤ sizeLine; decide), fun l4 h4 => ?_⟩
      obtain ⟨r1, r2, r3, r4⟩ := rep_ok z.1 (decide (z.2 = 1))
      refine ⟨l4, dS (sgn z.1) (decide (z.2 = 1)), rfl, .lst (SqL.of upd_same) (.cons (.int _) (.cons (.bl _) .nil)), r1, r2, r3, r4, ?_⟩
      have s4 : Same H3 (upd H3 l4 (.lst [.int (sgn z.1), .bl (decide (z.2 = 1))])) := Same.put h4
      generalize upd H3 l4 (.lst [.int (sgn z.1), .bl (decide (z.2 = 1))]) = H4 at s4
      have tp4 := tp3.same s4
      have R4 := R3.same s4
      refine ⟨_, rfl, _, rfl, p, _, _, _, rfl, rfl, SqT.of tp4, at_of (j := 1) rfl rfl, rfl, (by show 2 ≤ sizeLine; decide), fun l5 h5 => ?_⟩
      refine ⟨l5, dS (sgn z.1) (decide (z.2 = 1)), rfl, ?_, r1, r2, r3, r4, ?_⟩
      · rw [hc, ← dec_i]
        exact .lst (SqL.of upd_same) (.cons (.int _) (.cons (.bl _) .nil))
      refine ⟨rfl, _, rfl, ?_⟩
      refine iteNS rfl ?_
      have R5 : ∀ o, RatAt (CR K) (upd H4 l5 o) x z := fun o => R4.same (Same.put h5)
      have e5 : ∀ o, (upd H4 l5 o) x = some (.ins (CR K) d3 (rf z.1 z.2)) := fun o => Same.put h5 _ _ (s4 _ _ e3)
      have tp5 : ∀ o, TupAt (upd H4 l5 o) p z := fun o => tp4.same (Same.put h5)
      have s05 : ∀ o, Same H (upd H4 l5 o) := fun o => ((s2.trans s3).trans s4).trans (Same.put h5)
      -- unsigned
      refine ⟨_, rfl, x, d3, _, rfl, e5 _, rf_no _ _ (by decide +kernel) (by decide +kernel), x, z, 128, rfl, R5 _, ok, by decide, fun p6 H6 s6 R6 => ⟨p6, _, rfl, R6, fun t6 h6 => ?_⟩⟩
      rw [abs_low lw]
      have s7 : Same H6 _ := Same.put (o := .tup [.int (if z.1 < 0 then -z.1 else z.1), .int z.2]) h6
      have tp7 := ((tp5 _).same s6).same s7
      have R7 := ((R5 _).same s6).same s7
      have e7 := s7 _ _ (s6 _ _ (e5 _))
      have s07 := ((s05 _).trans s6).trans s7
      refine ⟨_, rfl, p, _, _, _, rfl, rfl, SqT.of tp7, at_of (j := 0) rfl rfl, _, rfl, _, rfl, p, _, _, _, rfl, rfl, SqT.of tp7, at_of (j := 1) rfl rfl, (by show 2 ≤ sizeLine; decide), fun t8 h8 => ?_⟩
      have s8 : ∀ o, Same _ (upd _ t8 o) := fun o => Same.put (o := o) h8
      refine ne_same (dp_pair (q := ((if z.1 < 0 then -z.1 else z.1), z.2)) (s8 _ _ _ upd_same)) (dp_pair (q := ((if z.1 < 0 then -z.1 else z.1), z.2)) upd_same) (sh_pair _) ⟨false, rfl, ?_⟩
      refine iteF ?_
      have R8 := fun o => R7.same (s8 o)
      have e8 := fun o => s8 o _ _ e7
      have tp8 := fun o => tp7.same (s8 o)
      have s08 := fun o => s07.trans (s8 o)
      -- nought less it
      have ok0 : OkP 1 ((0, 1) : Int × Int) := ⟨by decide, by unfold Sz; decide, by unfold Sz; decide⟩
      refine ⟨_, rfl, x, d3, _, 0, rfl, rfl, e8 _, x, 0, z, 128, 1, rfl, R8 _, ok, ok0, by decide, by decide, by decide, fun p9 H9 s9 R9 => ⟨p9, _, rfl, R9, fun t9 h9 => ?_⟩⟩
      have er : ((fun x y => subP y x) z ((0 : Int), (1 : Int))) = (0 - z.1, z.2) := rsub_low lw
      rw [er]
      have s10 : Same H9 _ := Same.put (o := .tup [.int (0 - z.1), .int z.2]) h9
      have tp10 := ((tp8 _).same s9).same s10
      have R10 := ((R8 _).same s9).same s10
      have e10 := s10 _ _ (s9 _ _ (e8 _))
      have s010 := ((s08 _).trans s9).trans s10
      refine ⟨_, rfl, p, _, _, _, rfl, rfl, SqT.of tp10, at_of (j := 0) rfl rfl, _, _, rfl, rfl, _, rfl, p, _, _, _, rfl, rfl, SqT.of tp10, at_of (j := 1) rfl rfl, (by show 2 ≤ sizeLine; decide), fun t11 h11 => ?_⟩
      have s11 : ∀ o, Same _ (upd _ t11 o) := fun o => Same.put (o := o) h11
      refine ne_same (dp_pair (q := (0 - z.1, z.2)) (s11 _ _ _ upd_same)) (dp_pair (q := (0 - z.1, z.2)) upd_same) (sh_pair _) ⟨false, rfl, ?_⟩
      refine iteF ?_
      have R11 := fun o => R10.same (s11 o)
      have e11 := fun o => s11 o _ _ e10
      have tp11 := fun o => tp10.same (s11 o)
      have s011 := fun o => s010.trans (s11 o)
      -- turned
      refine ⟨_, rfl, x, d3, _, rfl, e11 _, x, z, 128, rfl, R11 _, ok, by decide, fun p12 H12 s12 R12 => ⟨p12, _, rfl, R12, fun t12 h12 => ?_⟩⟩
      rw [neg_low lw]
      have s13 : Same H12 _ := Same.put (o := .tup [.int (0 - z.1), .int z.2]) h12
      have tp13 := ((tp11 _).same s12).same s13
      have R13 := ((R11 _).same s12).same s13
      have e13 := s13 _ _ (s12 _ _ (e11 _))
      have s013 := ((s011 _).trans s12).trans s13
      refine ⟨_, rfl, p, _, _, _, rfl, rfl, SqT.of tp13, at_of (j := 0) rfl rfl, _, _, rfl, rfl, _, rfl, p, _, _, _, rfl, rfl, SqT.of tp13, at_of (j := 1) rfl rfl, (by show 2 ≤ sizeLine; decide), fun t14 h14 => ?_⟩
      have s14 : ∀ o, Same _ (upd _ t14 o) := fun o => Same.put (o := o) h14
      refine ne_same (dp_pair (q := (0 - z.1, z.2)) (s14 _ _ _ upd_same)) (dp_pair (q := (0 - z.1, z.2)) upd_same) (sh_pair _) ⟨false, rfl, ?_⟩
      refine iteF ?_
      have R14 := fun o => R13.same (s14 o)
      have tp14 := fun o => tp13.same (s14 o)
      have s014 := fun o => s013.trans (s14 o)
      -- what kind of value
      have ni : ∀ o, IntK K (upd _ t14 o) (.ref x) false := fun o => IntK.rat T (R14 o)
      refine ⟨_, rfl, .ref x, true, rfl, ⟨false, ni _, (fun q => nomatch q), fun _ => ⟨_, T.is_Ratio.ty T.cl_Ratio (R14 _).choose_spec, T.kk_Ratio⟩⟩, _, rfl, .ref x, false, rfl, ni _, _, rfl, .ref x, rfl, ni _, (by show 3 ≤ sizeLine; decide), fun l15 h15 => ?_⟩
      have s15 : ∀ o, Same _ (upd _ l15 o) := fun o => Same.put (o := o) h15
      refine ⟨(by show 3 ≤ sizeLine; decide), fun l16 h16 => ?_⟩
      have s16 : ∀ o, Same _ (upd _ l16 o) := fun o => Same.put (o := o) h16
      refine ne_same (d := .list [.bool true, .bool false, .bool false]) (.lst (SqL.of (s16 _ _ _ upd_same)) (.cons (.bl _) (.cons (.bl _) (.cons (.bl _) .nil)))) (.lst (SqL.of upd_same) (.cons (.bl _) (.cons (.bl _) (.cons (.bl _) .nil)))) (by rfl) ⟨false, rfl, ?_⟩
      refine iteF ?_
      have tp16 := fun o => ((tp14 _).same (s15 _)).same (s16 o)
      have s016 := fun o => ((s014 _).trans (s15 _)).trans (s16 o)
      have ta16 := fun o => ta.same (s016 o)
      -- by names
      refine ⟨_, rfl, a, _, _, _, rfl, rfl, SqT.of (ta16 _), at_of (j := 0) rfl rfl, _, rfl, a, _, _, _, rfl, rfl, SqT.of (ta16 _), at_of (j := 1) rfl rfl, rfl, rfl, fun x17 dx17 m1 m2 m3 => ?_⟩
      refine mkA m1 m2 rp.nz (sz_le rp.sb (by decide)) fun H17 s17 R17 => ?_
      rw [hz] at R17
      refine ⟨x17, z, rfl, R17, fun t18 h18 => ?_⟩
      have s18 : ∀ o, Same _ (upd _ t18 o) := fun o => Same.put (o := o) h18
      refine ⟨_, rfl, eq_same (dp_pair upd_same) (dp_pair (((tp16 _).same s17).same (s18 _))) (sh_pair _) ?_⟩
      exact k _ (((s016 _).trans s17).trans (s18 _))
    · have hc : sgn z.1 = -1 := by
        unfold sgn
        rw [if_neg y1, if_neg (show ¬ z.1 > 0 from fun u => y2 (decide_eq_true u))]
      refine ⟨_, rfl, ?_⟩
      refine ⟨_, rfl, x, d3, _, rfl, e3, x, z, rfl, R3, _, rfl, x, d3, _, rfl, e3, x, z, rfl, R3, (by show 2 ≤ sizeLine; decide), fun l4 h4 => ?_⟩
      obtain ⟨r1, r2, r3, r4⟩ := rep_ok z.1 (decide (z.2 = 1))
      refine ⟨l4, dS (sgn z.1) (decide (z.2 = 1)), rfl, .lst (SqL.of upd_same) (.cons (.int _) (.cons (.bl _) .nil)), r1, r2, r3, r4, ?_⟩
      have s4 : Same H3 (upd H3 l4 (.lst [.int (sgn z.1), .bl (decide (z.2 = 1))])) := Same.put h4
      generalize upd H3 l4 (.lst [.int (sgn z.1), .bl (decide (z.2 = 1))]) = H4 at s4
      have tp4 := tp3.same s4
      have R4 := R3.same s4
      refine ⟨_, rfl, _, rfl, p, _, _, _, rfl, rfl, SqT.of tp4, at_of (j := 1) rfl rfl, rfl, (by show 2 ≤ sizeLine; decide), fun l5 h5 => ?_⟩
      refine ⟨l5, dS (sgn z.1) (decide (z.2 = 1)), rfl, ?_, r1, r2, r3, r4, ?_⟩
      · rw [hc, ← dec_i]
        exact .lst (SqL.of upd_same) (.cons (.int _) (.cons (.bl _) .nil))
      refine ⟨rfl, _, rfl, ?_⟩
      refine iteNS rfl ?_
      have R5 : ∀ o, RatAt (CR K) (upd H4 l5 o) x z := fun o => R4.same (Same.put h5)
      have e5 : ∀ o, (upd H4 l5 o) x = some (.ins (CR K) d3 (rf z.1 z.2)) := fun o => Same.put h5 _ _ (s4 _ _ e3)
      have tp5 : ∀ o, TupAt (upd H4 l5 o) p z := fun o => tp4.same (Same.put h5)
      have s05 : ∀ o, Same H (upd H4 l5 o) := fun o => ((s2.trans s3).trans s4).trans (Same.put h5)
      -- unsigned
      refine ⟨_, rfl, x, d3, _, rfl, e5 _, rf_no _ _ (by decide +kernel) (by decide +kernel), x, z, 128, rfl, R5 _, ok, by decide, fun p6 H6 s6 R6 => ⟨p6, _, rfl, R6, fun t6 h6 => ?_⟩⟩
      rw [abs_low lw]
      have s7 : Same H6 _ := Same.put (o := .tup [.int (if z.1 < 0 then -z.1 else z.1), .int z.2]) h6
      have tp7 := ((tp5 _).same s6).same s7
      have R7 := ((R5 _).same s6).same s7
      have e7 := s7 _ _ (s6 _ _ (e5 _))
      have s07 := ((s05 _).trans s6).trans s7
      refine ⟨_, rfl, p, _, _, _, rfl, rfl, SqT.of tp7, at_of (j := 0) rfl rfl, _, rfl, _, rfl, p, _, _, _, rfl, rfl, SqT.of tp7, at_of (j := 1) rfl rfl, (by show 2 ≤ sizeLine; decide), fun t8 h8 => ?_⟩
      have s8 : ∀ o, Same _ (upd _ t8 o) := fun o => Same.put (o := o) h8
      refine ne_same (dp_pair (q := ((if z.1 < 0 then -z.1 else z.1), z.2)) (s8 _ _ _ upd_same)) (dp_pair (q := ((if z.1 < 0 then -z.1 else z.1), z.2)) upd_same) (sh_pair _) ⟨false, rfl, ?_⟩
      refine iteF ?_
      have R8 := fun o => R7.same (s8 o)
      have e8 := fun o => s8 o _ _ e7
      have tp8 := fun o => tp7.same (s8 o)
      have s08 := fun o => s07.trans (s8 o)
      -- nought less it
      have ok0 : OkP 1 ((0, 1) : Int × Int) := ⟨by decide, by unfold Sz; decide, by unfold Sz; decide⟩
      refine ⟨_, rfl, x, d3, _, 0, rfl, rfl, e8 _, x, 0, z, 128, 1, rfl, R8 _, ok, ok0, by decide, by decide, by decide, fun p9 H9 s9 R9 => ⟨p9, _, rfl, R9, fun t9 h9 => ?_⟩⟩
      have er : ((fun x y => subP y x) z ((0 : Int), (1 : Int))) = (0 - z.1, z.2) := rsub_low lw
      rw [er]
      have s10 : Same H9 _ := Same.put (o := .tup [.int (0 - z.1), .int z.2]) h9
      have tp10 := ((tp8 _).same s9).same s10
      have R10 := ((R8 _).same s9).same s10
      have e10 := s10 _ _ (s9 _ _ (e8 _))
      have s010 := ((s08 _).trans s9).trans s10
      refine ⟨_, rfl, p, _, _, _, rfl, rfl, SqT.of tp10, at_of (j := 0) rfl rfl, _, _, rfl, rfl, _, rfl, p, _, _, _, rfl, rfl, SqT.of tp10, at_of (j := 1) rfl rfl, (by show 2 ≤ sizeLine; decide), fun t11 h11 => ?_⟩
      have s11 : ∀ o, Same _ (upd _ t11 o) := fun o => Same.put (o := o) h11
      refine ne_same (dp_pair (q := (0 - z.1, z.2)) (s11 _ _ _ upd_same)) (dp_pair (q := (0 - z.1, z.2)) upd_same) (sh_pair _) ⟨false, rfl, ?_⟩
      refine iteF ?_
      have R11 := fun o => R10.same (s11 o)
      have e11 := fun o => s11 o _ _ e10
      have tp11 := fun o => tp10.same (s11 o)
      have s011 := fun o => s010.trans (s11 o)
      -- turned
      refine ⟨_, rfl, x, d3, _, rfl, e11 _, x, z, 128, rfl, R11 _, ok, by decide, fun p12 H12 s12 R12 => ⟨p12, _, rfl, R12, fun t12 h12 => ?_⟩⟩
      rw [neg_low lw]
      have s13 : Same H12 _ := Same.put (o := .tup [.int (0 - z.1), .int z.2]) h12
      have tp13 := ((tp11 _).same s12).same s13
      have R13 := ((R11 _).same s12).same s13
      have e13 := s13 _ _ (s12 _ _ (e11 _))
      have s013 := ((s011 _).trans s12).trans s13
      refine ⟨_, rfl, p, _, _, _, rfl, rfl, SqT.of tp13, at_of (j := 0) rfl rfl, _, _, rfl, rfl, _, rfl, p, _, _, _, rfl, rfl, SqT.of tp13, at_of (j := 1) rfl rfl, (by show 2 ≤ sizeLine; decide), fun t14 h14 => ?_⟩
      have s14 : ∀ o, Same _ (upd _ t14 o) := fun o => Same.put (o := o) h14
      refine ne_same (dp_pair (q := (0 - z.1, z.2)) (s14 _ _ _ upd_same)) (dp_pair (q := (0 - z.1, z.2)) upd_same) (sh_pair _) ⟨false, rfl, ?_⟩
      refine iteF ?_
      have R14 := fun o => R13.same (s14 o)
      have tp14 := fun o => tp13.same (s14 o)
      have s014 := fun o => s013.trans (s14 o)
      -- what kind of value
      have ni : ∀ o, IntK K (upd _ t14 o) (.ref x) false := fun o => IntK.rat T (R14 o)
      refine ⟨_, rfl, .ref x, true, rfl, ⟨false, ni _, (fun q => nomatch q), fun _ => ⟨_, T.is_Ratio.ty T.cl_Ratio (R14 _).choose_spec, T.kk_Ratio⟩⟩, _, rfl, .ref x, false, rfl, ni _, _, rfl, .ref x, rfl, ni _, (by show 3 ≤ sizeLine; decide), fun l15 h15 => ?_⟩
      have s15 : ∀ o, Same _ (upd _ l15 o) := fun o => Same.put (o := o) h15
      refine ⟨(by show 3 ≤ sizeLine; decide), fun l16 h16 => ?_⟩
      have s16 : ∀ o, Same _ (upd _ l16 o) := fun o => Same.put (o := o) h16
      refine ne_same (d := .list [.bool true, .bool false, .bool false]) (.lst (SqL.of (s16 _ _ _ upd_same)) (.cons (.bl _) (.cons (.bl _) (.cons (.bl _) .nil)))) (.lst (SqL.of upd_same) (.cons (.bl _) (.cons (.bl _) (.cons (.bl _) .nil)))) (by rfl) ⟨false, rfl, ?_⟩
      refine iteF ?_
      have tp16 := fun o => ((tp14 _).same (s15 _)).same (s16 o)
      have s016 := fun o => ((s014 _).trans (s15 _)).trans (s16 o)
      have ta16 := fun o => ta.same (s016 o)
      -- by names
      refine ⟨_, rfl, a, _, _, _, rfl, rfl, SqT.of (ta16 _), at_of (j := 0) rfl rfl, _, rfl, a, _, _, _, rfl, rfl, SqT.of (ta16 _), at_of (j := 1) rfl rfl, rfl, rfl, fun x17 dx17 m1 m2 m3 => ?_⟩
      refine mkA m1 m2 rp.nz (sz_le rp.sb (by decide)) fun H17 s17 R17 => ?_
      rw [hz] at R17
      refine ⟨x17, z, rfl, R17, fun t18 h18 => ?_⟩
      have s18 : ∀ o, Same _ (upd _ t18 o) := fun o => Same.put (o := o) h18
      refine ⟨_, rfl, eq_same (dp_pair upd_same) (dp_pair (((tp16 _).same s17).same (s18 _))) (sh_pair _) ?_⟩
      exact k _ (((s016 _).trans s17).trans (s18 _))
end
end K11

set_option Elab.async false
set_option linter.all false
set_option maxRecDepth 100000
set_option maxHeartbeats 4000000
namespace K11
open PySem PySem.Spec PyProof.Rows L2 Own
open PySem.W (Frag)
section
variable {P : Program} {w : World} {K : Frag} {mg : Str → Option Value} {base : Heap}
/-- keywords for parameters that have no defaults -/
theorem kb_plain {x qual : Str} {params : Arguments} {body : List Stmt} {scope : Scope} {f : Addr} {fd : FuncData} {ps : List Str} (F : FunD K x qual params body scope [] [] f fd) (n : Nat) (ks : List Str) (g : {α : Type} → List α → List α → List α)
    (hrel : ∀ {vs zs : List V} {us ws : List Value}, Vals vs us → Vals zs ws → Vals (g vs zs) (g us ws))
    (h : ∀ (kV doc pm : Value) (an : Option Addr) (cdv ct : Value) (us ws : List Value), us.length = n → ws.length = ks.length → bindArgs (PySem.W.fnOf x qual params body scope .none kV doc pm an cdv ct) ⟨us, ks.zip ws⟩ = pure (ps.zip (g us ws))) :
    KBn K fd ps n ks (fun us ws => g us ws) (fun vs zs => g vs zs) := by
  obtain ⟨oc, od, dV, kV, doc, pm, an, cdv, ct, osl, rfl, lk, hcd, hD, hK⟩ := F.ex
  rcases hD with ⟨_, rfl⟩ | ⟨e, _⟩
  · exact ⟨fun s us ws X l1 l2 => .of_eq (h kV doc pm an cdv ct us ws l1 l2), fun r z => hrel r z⟩
  · exact absurd rfl e
theorem kb_over (T : Tx K mg) : KBn K (fdOf K (ma K (CR K) "over")) ["self", "other"] 1 ["other"] (fun us ws => us ++ ws) (fun vs zs => vs ++ zs) :=
  kb_plain (ps := ["self", "other"]) T.F_Ratio_over 1 ["other"] (fun us ws => us ++ ws) (fun r z => r.append z) fun _ _ _ _ _ _ us ws h1 h2 => match us, ws, h1, h2 with | [_], [_], _, _ => rfl
theorem RatsAt.nil {C : Addr} {H : Hp} {m : Nat} : RatsAt C H m [] [] := ⟨rfl, fun i x e => by simp at e⟩
theorem RatsAt.cons {C : Addr} {H : Hp} {m : Nat} {xs : List V} {qs : List (Int × Int)} {a : Addr} {q : Int × Int} (r : RatAt C H a q) (o : OkP m q) (h : RatsAt C H m xs qs) : RatsAt C H m (.ref a :: xs) (q :: qs) := by
  refine ⟨by simp [h.len], fun i x e => ?_⟩
  cases i with
  | zero => exact ⟨a, q, (Option.some.inj e).symm, rfl, r, o⟩
  | succ i => exact h.at_ i x e
theorem PairsAt.nil {H : Hp} {m : Nat} : PairsAt H m [] [] := ⟨rfl, fun i x e => by simp at e⟩
theorem PairsAt.cons {H : Hp} {m : Nat} {xs : List V} {qs : List (Int × Int)} {a : Addr} {q : Int × Int} (r : TupAt H a q) (o : OkP m q) (h : PairsAt H m xs qs) : PairsAt H m (.ref a :: xs) (q :: qs) := by
  refine ⟨by simp [h.len], fun i x e => ?_⟩
  cases i with
  | zero => exact ⟨a, q, (Option.some.inj e).symm, rfl, r, o⟩
  | succ i => exact h.at_ i x e
theorem PairsAt.all {H : Hp} {m : Nat} : ∀ {xs : List V} {qs : List (Int × Int)}, PairsAt H m xs qs → DpAll K H xs (qs.map dP)
  | [], [], _ => .nil
  | [], _ :: _, h => by have := h.len; simp at this
  | _ :: _, [], h => by have := h.len; simp at this
  | x :: xs, q :: qs, h => by
    obtain ⟨a, q2, rfl, e, t, _⟩ := h.at_ 0 x rfl
    have e2 : q = q2 := Option.some.inj e
    subst e2
    exact .cons (dp_pair t) (PairsAt.all ⟨by have := h.len; simpa using this, fun i y ey => h.at_ (i + 1) y ey⟩)
theorem RatAt.lst {C : Addr} {H : Hp} {a l : Addr} {q : Int × Int} {xs ys : List V} (h : RatAt C H a q) (hl : H l = some (.lst xs)) : RatAt C (upd H l (.lst ys)) a q := by
  obtain ⟨dx, e⟩ := h
  exact ⟨dx, by rw [upd_ne (ne_of e hl (by intro z; cases z))]; exact e⟩
theorem TupAt.lst {H : Hp} {a l : Addr} {q : Int × Int} {xs ys : List V} (h : TupAt H a q) (hl : H l = some (.lst xs)) : TupAt (upd H l (.lst ys)) a q := by
  unfold TupAt
  rw [upd_ne (ne_of h hl (by intro z; cases z))]
  exact h
theorem Same.lst {H0 H : Hp} {l : Addr} {ys : List V} (s : Same H0 H) (h0 : H0 l = none) : Same H0 (upd H l (.lst ys)) := fun c o e => by
  rw [upd_ne (fun z => by rw [z, h0] at e; cases e)]
  exact s c o e
theorem eqv_pair (x y : Int × Int) : PyData.eqv (dP x) (dP y) = decide (x = y) := by
  obtain ⟨a, b⟩ := x
  obtain ⟨c, d⟩ := y
  have e : PyData.eqv (dP (a, b)) (dP (c, d)) = (a == c && (b == d && true)) := by
    simp [dP, PyData.eqv, PyData.eqvAll]
  rw [e]
  by_cases h1 : a = c <;> by_cases h2 : b = d <;> simp [h1, h2]
theorem addP_w (z : Int × Int) (n : Int) : True := trivial
theorem nx_skip {c : TT} {t r : TS} {D0 : Ends} {a : VK} {b d : L2.St → Hp → Prop} {σ : L2.St} {H : Hp} (go : ∀ K2, Same H K2 → r D0 σ K2)
    (h : (∀ K2, Same H K2 → r D0 σ K2) → tIfS c t tNext { nx := r D0, rt := D0.rt, bk := D0.bk, ct := D0.ct } σ H) : tNext { nx := tSeq (tIfS c t tNext) r D0, rt := a, bk := b, ct := d } σ H := h go
def spTwoR : Sp := fun vs H Q _ => ∃ a b n q1 q2, vs = [.ref a, .ref b, .int n] ∧ TupAt H a q1 ∧ TupAt H b q2 ∧ RawP q1 ∧ RawP q2 ∧ Sz 10 n ∧ ∀ H2, Same H H2 → Q (.bl true) H2
theorem ok_two_right (T : Tx K mg) : FG P w K mg base CX0 7 (ga K "_law_two_right") (fdOf K (ga K "_law_two_right")) ["_law_raw_here", "_law_other_raw", "_law_number"] spTwoR := by
  refine fg_no T.F_law_two_right sc_law_two_right (fun vs H Q E h => ?_) (fun cdv A outer s H vs Q E gg hr h => ?_)
  · obtain ⟨a, b, n, q1, q2, rfl, _⟩ := h
    rfl
  obtain ⟨a, b, n, q1, q2, rfl, ta, tb, rp1, rp2, hn, k⟩ := h
  refine ⟨_, pss_cons (ps_par (i := 3) (j := 4) (by rfl) sc_law_two_right.nd rfl rfl (by decide) rfl rfl (pa_cons (pe_mk T.mk_Ratio (ok_init T) gg (hr.mono (by decide)) rfl T.g_Ratio (b_init2 T) .nil pass0 (pa_cons (pe_ix ix_tup (pv 0) pe_int (fun _ _ => rfl)) (pa_cons (pe_ix ix_tup (pv 0) pe_int (fun _ _ => rfl)) pa_nil))) (pa_cons (pe_mk T.mk_Ratio (ok_init T) gg (hr.mono (by decide)) rfl T.g_Ratio (b_init2 T) .nil pass0 (pa_cons (pe_ix ix_tup (pv 1) pe_int (fun _ _ => rfl)) (pa_cons (pe_ix ix_tup (pv 1) pe_int (fun _ _ => rfl)) pa_nil))) pa_nil)) (by rfl))
    (pss_cons (ps_par3 (i := 5) (j := 6) (l := 7) (by rfl) sc_law_two_right.nd rfl rfl rfl (by decide) (by decide) (by decide) rfl rfl rfl (pa_cons (pe_fn (ok_low T) gg (hr.mono (by decide)) rfl T.g_law_low T.F_law_low.kp (b_law_low T) .nil pass0 (pa_cons (pe_ix ix_tup (pv 0) pe_int (fun _ _ => rfl)) (pa_cons (pe_ix ix_tup (pv 0) pe_int (fun _ _ => rfl)) pa_nil))) (pa_cons (pe_fn (ok_low T) gg (hr.mono (by decide)) rfl T.g_law_low T.F_law_low.kp (b_law_low T) .nil pass0 (pa_cons (pe_ix ix_tup (pv 1) pe_int (fun _ _ => rfl)) (pa_cons (pe_ix ix_tup (pv 1) pe_int (fun _ _ => rfl)) pa_nil))) (pa_cons (pe_tup (pa_cons (pv 2) (pa_cons pe_int pa_nil))) pa_nil))) (by rfl))
    (pss_cons (ps_set (i := 8) sc_law_two_right.nd rfl (Or.inl rfl) (pe_lst (pa_cons (pe_op (og_both (op := .Add) T.i_add.1 (ok_add T) gg (hr.mono (by decide)) (b_Ratio_add T) pass0) (pv 3) (pv 4)) (pa_cons (pe_op (og_both (op := .Sub) T.i_sub.1 (ok_sub T) gg (hr.mono (by decide)) (b_Ratio_sub T) pass0) (pv 3) (pv 4)) (pa_cons (pe_op (og_both (op := .Mult) T.i_mul.1 (ok_mul T) gg (hr.mono (by decide)) (b_Ratio_mul T) pass0) (pv 3) (pv 4)) (pa_cons (pe_op (og_left (op := .Add) T.i_add.1 T.i_add.2.2.1 T.i_add.2.2.2 (ok_add T) gg (hr.mono (by decide)) (b_Ratio_add T) pass0) (pv 3) (pv 2)) (pa_cons (pe_op (og_addR T.i_add.2.1 (ok_radd T) gg (hr.mono (by decide)) (b_Ratio_radd T) pass0) (pv 2) (pv 3)) (pa_cons (pe_op (og_left (op := .Mult) T.i_mul.1 T.i_mul.2.2.1 T.i_mul.2.2.2 (ok_mul T) gg (hr.mono (by decide)) (b_Ratio_mul T) pass0) (pv 3) (pv 2)) (pa_cons (pe_op (og_mulR T.i_mul.2.1 (ok_rmul T) gg (hr.mono (by decide)) (b_Ratio_rmul T) pass0) (pv 2) (pv 3)) pa_nil)))))))))
    (pss_cons (ps_expr (pe_bm PySem.F.plainAttrs_list PySem.F.slot_list_append PySem.F.type_list_append mt_append (pv 8) (pa_cons (pe_op (og_subR T.i_sub.2.1 (ok_rsub T) gg (hr.mono (by decide)) (b_Ratio_rsub T) pass0) (pv 2) (pv 3)) pa_nil)))
    (pss_cons (ps_set (i := 9) sc_law_two_right.nd rfl (Or.inl rfl) (pe_lst (pa_cons (pe_fn (ok_lsum T) gg (hr.mono (by decide)) rfl T.g_law_sum T.F_law_sum.kp (b_law_sum T) .nil pass0 (pa_cons (pv 5) (pa_cons (pv 6) pa_nil))) (pa_cons (pe_fn (ok_lless T) gg (hr.mono (by decide)) rfl T.g_law_less T.F_law_less.kp (b_law_less T) .nil pass0 (pa_cons (pv 5) (pa_cons (pv 6) pa_nil))) (pa_cons (pe_fn (ok_lby T) gg (hr.mono (by decide)) rfl T.g_law_by T.F_law_by.kp (b_law_by T) .nil pass0 (pa_cons (pv 5) (pa_cons (pv 6) pa_nil))) (pa_cons (pe_fn (ok_lsum T) gg (hr.mono (by decide)) rfl T.g_law_sum T.F_law_sum.kp (b_law_sum T) .nil pass0 (pa_cons (pv 5) (pa_cons (pv 7) pa_nil))) (pa_cons (pe_fn (ok_lsum T) gg (hr.mono (by decide)) rfl T.g_law_sum T.F_law_sum.kp (b_law_sum T) .nil pass0 (pa_cons (pv 5) (pa_cons (pv 7) pa_nil))) pa_nil)))))))
    (pss_cons (ps_expr (pe_bm PySem.F.plainAttrs_list PySem.F.slot_list_extend PySem.F.type_list_extend mt_extend (pv 9) (pa_cons (pe_lst (pa_cons (pe_fn (ok_lby T) gg (hr.mono (by decide)) rfl T.g_law_by T.F_law_by.kp (b_law_by T) .nil pass0 (pa_cons (pv 5) (pa_cons (pv 7) pa_nil))) (pa_cons (pe_fn (ok_lby T) gg (hr.mono (by decide)) rfl T.g_law_by T.F_law_by.kp (b_law_by T) .nil pass0 (pa_cons (pv 5) (pa_cons (pv 7) pa_nil))) (pa_cons (pe_fn (ok_lless T) gg (hr.mono (by decide)) rfl T.g_law_less T.F_law_less.kp (b_law_less T) .nil pass0 (pa_cons (pv 7) (pa_cons (pv 5) pa_nil))) pa_nil)))) pa_nil)))
    (pss_cons (ps_if (pt_cmpR (op_neD hr.units) (pe_fn (ok_pairs T) gg (hr.mono (by decide)) rfl T.g_law_pairs T.F_law_pairs.kp (b_law_pairs T) .nil pass0 (pa_cons (pv 8) pa_nil)) (pv 9) (nomark _)) (pss_one (ps_ret pe_bl)) pss_nil)
    (pss_cons (ps_if (PW.pt (pw_and (pt_cmpR op_ne (pe_ix ix_tup (pv 6) pe_int (fun _ _ => rfl)) pe_int (nomark _)) (pw_and1 (pt_cmpR (op_neD hr.units) (pe_lst (pa_cons (pe_fn (ok_pair T) gg (hr.mono (by decide)) rfl T.g_law_pair T.F_law_pair.kp (b_law_pair T) .nil pass0 (pa_cons (pe_me (pv 3) T.cl_Ratio T.t_over (ok_over T) gg (hr.mono (by decide)) (b_Ratio_over T) .nil pass0 (pa_cons (pv 4) pa_nil)) pa_nil)) (pa_cons (pe_fn (ok_pair T) gg (hr.mono (by decide)) rfl T.g_law_pair T.F_law_pair.kp (b_law_pair T) .nil pass0 (pa_cons (pe_meK0 (pv 3) T.cl_Ratio T.t_over (ok_over T) gg (hr.mono (by decide)) (kb_over T) pass0 (pk_cons (pv 4) pk_nil)) pa_nil)) pa_nil))) (pe_op op_rep (pe_lst (pa_cons (pe_fn (ok_lover T) gg (hr.mono (by decide)) rfl T.g_law_over T.F_law_over.kp (b_law_over T) .nil pass0 (pa_cons (pv 5) (pa_cons (pv 6) pa_nil))) pa_nil)) pe_int) (nomark _))))) (pss_one (ps_ret pe_bl)) pss_nil)
    (pss_cons (ps_set (i := 10) sc_law_two_right.nd rfl (Or.inl rfl) (pe_cmpR op_lt (pe_op op_mulW (pe_ix ix_tup (pv 5) pe_int (fun _ _ => rfl)) (pe_ix ix_tup (pv 6) pe_int (fun _ _ => rfl))) (pe_op op_mulW (pe_ix ix_tup (pv 6) pe_int (fun _ _ => rfl)) (pe_ix ix_tup (pv 5) pe_int (fun _ _ => rfl))) (nomark _)))
    (pss_cons (ps_set (i := 8) sc_law_two_right.nd rfl (Or.inl rfl) (pe_lst (pa_cons (pe_me (pv 3) T.cl_Ratio T.t_is_below (ok_is_below T) gg (hr.mono (by decide)) (b_Ratio_is_below T) .nil pass0 (pa_cons (pv 4) pa_nil)) (pa_cons (pe_me (pv 4) T.cl_Ratio T.t_is_below (ok_is_below T) gg (hr.mono (by decide)) (b_Ratio_is_below T) .nil pass0 (pa_cons (pv 3) pa_nil)) (pa_cons (pe_me (pv 3) T.cl_Ratio T.t_is_at_most (ok_is_at_most T) gg (hr.mono (by decide)) (b_Ratio_is_at_most T) .nil pass0 (pa_cons (pv 4) pa_nil)) (pa_cons (pe_cmpR (og_eq T.q_Ratio (ok_eq T) gg (hr.mono (by decide)) (b_Ratio_eq T) pass0) (pv 3) (pv 4) (nomark _)) (pa_cons (pe_cmpR (og_ne T.q_Ratio (ok_eq T) gg (hr.mono (by decide)) (b_Ratio_eq T) pass0) (pv 3) (pv 4) (nomark _)) pa_nil)))))))
    (pss_cons (ps_set (i := 11) sc_law_two_right.nd rfl (Or.inl rfl) (pe_cmpR op_gt (pe_op op_mulW (pe_ix ix_tup (pv 5) pe_int (fun _ _ => rfl)) (pe_ix ix_tup (pv 6) pe_int (fun _ _ => rfl))) (pe_op op_mulW (pe_ix ix_tup (pv 6) pe_int (fun _ _ => rfl)) (pe_ix ix_tup (pv 5) pe_int (fun _ _ => rfl))) (nomark _)))
    (pss_cons (ps_if (pt_cmpR (op_neD hr.units) (pv 8) (pe_lst (pa_cons (pv 10) (pa_cons (pv 11) (pa_cons (pe_not (pv 11)) (pa_cons (pe_cmpR (op_eqD hr.units) (pv 5) (pv 6) (nomark _)) (pa_cons (pe_cmpR (op_neD hr.units) (pv 5) (pv 6) (nomark _)) pa_nil)))))) (nomark _)) (pss_one (ps_ret pe_bl)) pss_nil)
    (pss_cons (ps_set (i := 8) sc_law_two_right.nd rfl (Or.inl rfl) (pe_lst (pa_cons (pe_me (pv 3) T.cl_Ratio T.t_is_below (ok_is_below T) gg (hr.mono (by decide)) (b_Ratio_is_below T) .nil pass0 (pa_cons (pv 2) pa_nil)) (pa_cons (pe_me (pv 3) T.cl_Ratio T.t_is_at_most (ok_is_at_most T) gg (hr.mono (by decide)) (b_Ratio_is_at_most T) .nil pass0 (pa_cons (pv 2) pa_nil)) (pa_cons (pe_cmpR (og_eq T.q_Ratio (ok_eq T) gg (hr.mono (by decide)) (b_Ratio_eq T) pass0) (pv 3) (pv 2) (nomark _)) (pa_cons (pe_cmpR (og_eqR T.q_Ratio (ok_eq T) gg (hr.mono (by decide)) (b_Ratio_eq T) pass0) (pv 2) (pv 3) (nomark _)) pa_nil))))))
    (pss_one (ps_ret (pe_cmpR (op_eqD hr.units) (pv 8) (pe_lst (pa_cons (pe_cmpR op_lt (pe_ix ix_tup (pv 5) pe_int (fun _ _ => rfl)) (pe_op op_mulW (pv 2) (pe_ix ix_tup (pv 5) pe_int (fun _ _ => rfl))) (nomark _)) (pa_cons (pe_cmpR op_le (pe_ix ix_tup (pv 5) pe_int (fun _ _ => rfl)) (pe_op op_mulW (pv 2) (pe_ix ix_tup (pv 5) pe_int (fun _ _ => rfl))) (nomark _)) (pa_cons pe_bl (pa_cons pe_bl pa_nil))))) (nomark _)))))))))))))))), ?_⟩
  refine ⟨_, rfl, a, _, _, _, rfl, rfl, SqT.of ta, at_of (j := 0) rfl rfl, _, rfl, a, _, _, _, rfl, rfl, SqT.of ta, at_of (j := 1) rfl rfl, fun x dx0 n1 n2 n3 => ?_⟩
  refine mkA n1 n2 rp1.nz (sz_le rp1.sb (by decide)) fun H1 s1 R1 => ?_
  have tb1 := tb.same s1
  refine ⟨_, rfl, b, _, _, _, rfl, rfl, SqT.of tb1, at_of (j := 0) rfl rfl, _, rfl, b, _, _, _, rfl, rfl, SqT.of tb1, at_of (j := 1) rfl rfl, fun y dy0 m1 m2 m3 => ?_⟩
  refine mkA m1 m2 rp2.nz (sz_le rp2.sb (by decide)) fun H2 s2 R2 => ⟨_, _, rfl, ?_⟩
  have ta2 := (ta.same s1).same s2
  have tb2 := tb1.same s2
  have R1b := R1.same s2
  refine ⟨_, rfl, a, _, _, _, rfl, rfl, SqT.of ta2, at_of (j := 0) rfl rfl, _, rfl, a, _, _, _, rfl, rfl, SqT.of ta2, at_of (j := 1) rfl rfl, q1.1, q1.2, rfl, rp1.nz, sz_le rp1.sb (by decide), fun p3 H3 h3 e3 => ?_⟩
  have s3 : Same H2 H3 := by rw [e3]; exact Same.put h3
  have T3 : TupAt H3 p3 (nrm q1.1 q1.2) := by rw [e3]; exact upd_same
  have tb3 := tb2.same s3
  refine ⟨_, rfl, b, _, _, _, rfl, rfl, SqT.of tb3, at_of (j := 0) rfl rfl, _, rfl, b, _, _, _, rfl, rfl, SqT.of tb3, at_of (j := 1) rfl rfl, q2.1, q2.2, rfl, rp2.nz, sz_le rp2.sb (by decide), fun p4 H4 h4 e4 => ?_⟩
  have s4 : Same H3 H4 := by rw [e4]; exact Same.put h4
  have T4 : TupAt H4 p4 (nrm q2.1 q2.2) := by rw [e4]; exact upd_same
  refine ⟨_, rfl, (by show 2 ≤ sizeLine; decide), fun p5 h5 => ⟨_, _, _, rfl, ?_⟩⟩
  have s5 : Same H4 (upd H4 p5 (.tup [.int n, .int 1])) := Same.put h5
  have T5 : TupAt (upd H4 p5 (.tup [.int n, .int 1])) p5 (n, 1) := upd_same
  generalize upd H4 p5 (.tup [.int n, .int 1]) = H5 at s5 T5
  have A5 := R1b.same (s3.trans (s4.trans s5))
  have B5 := R2.same (s3.trans (s4.trans s5))
  have U5 := T3.same (s4.trans s5)
  have V5 := T4.same s5
  have S5 : Same H H5 := (s1.trans s2).trans (s3.trans (s4.trans s5))
  have ok1 := nrm_sz rp1.nz rp1.st rp1.sb
  have ok2 := nrm_sz rp2.nz rp2.st rp2.sb
  clear e3 e4 T3 T4 R1 R2 R1b ta2 tb1 tb2 tb3
  generalize nrm q1.1 q1.2 = z1 at A5 U5 ok1
  generalize nrm q2.1 q2.2 = z2 at B5 V5 ok2
  have okn : OkP 10 ((n, 1) : Int × Int) := ⟨(show (0 : Int) < 1 by decide), hn, (show Sz 10 1 by unfold Sz; decide)⟩
  have d128 : 0 < 128 := by decide
  have d10 : 0 < 10 := by decide
  have d1 : 128 + 128 ≤ 7900 := by decide
  have d2 : 128 + 10 ≤ 7900 := by decide
  have d3 : 10 + 128 ≤ 7900 := by decide
  obtain ⟨dx, ex⟩ := id A5
  obtain ⟨dy, ey⟩ := id B5
  -- seven in a list
  refine ⟨_, rfl, _, rfl, x, dx, _, y, dy, _, rfl, rfl, ex, ey, x, .ref y, z1, z2, 128, 128, rfl, A5, .inr ⟨y, rfl, B5⟩, ok1, ok2, d128, d128, d1, fun a1 G1 g1 C1 => ?_⟩
  refine ⟨_, rfl, _, rfl, x, dx, _, y, dy, _, rfl, rfl, g1 _ _ ex, g1 _ _ ey, x, .ref y, z1, z2, 128, 128, rfl, A5.same g1, .inr ⟨y, rfl, B5.same g1⟩, ok1, ok2, d128, d128, d1, fun a2 G2 g2' C2 => ?_⟩
  have g2 := g1.trans g2'
  refine ⟨_, rfl, _, rfl, x, dx, _, y, dy, _, rfl, rfl, g2 _ _ ex, g2 _ _ ey, x, .ref y, z1, z2, 128, 128, rfl, A5.same g2, .inr ⟨y, rfl, B5.same g2⟩, ok1, ok2, d128, d128, d1, fun a3 G3 g3' C3 => ?_⟩
  have g3 := g2.trans g3'
  refine ⟨_, rfl, _, rfl, x, dx, _, n, rfl, rfl, g3 _ _ ex, x, .int n, z1, (n, 1), 128, 10, rfl, A5.same g3, .inl ⟨n, rfl, rfl⟩, ok1, okn, d128, d10, d2, fun a4 G4 g4' C4 => ?_⟩
  have g4 := g3.trans g4'
  refine ⟨_, rfl, _, rfl, x, dx, _, n, rfl, rfl, g4 _ _ ex, x, n, z1, 128, 10, rfl, A5.same g4, ok1, okn, d128, d10, d2, fun a5 G5 g5' C5 => ?_⟩
  have g5 := g4.trans g5'
  refine ⟨_, rfl, _, rfl, x, dx, _, n, rfl, rfl, g5 _ _ ex, x, .int n, z1, (n, 1), 128, 10, rfl, A5.same g5, .inl ⟨n, rfl, rfl⟩, ok1, okn, d128, d10, d2, fun a6 G6 g6' C6 => ?_⟩
  have g6 := g5.trans g6'
  refine ⟨_, rfl, _, rfl, x, dx, _, n, rfl, rfl, g6 _ _ ex, x, n, z1, 128, 10, rfl, A5.same g6, ok1, okn, d128, d10, d2, fun a7 G7 g7' C7 => ?_⟩
  have g7 := g6.trans g7'
  refine ⟨(by show 7 ≤ sizeLine; decide), fun l8 h8 => ?_⟩
  have g8 : ∀ o, Same G7 (upd G7 l8 o) := fun o => Same.put h8
  have l8n : H5 l8 = none := g7.free h8
  have hl8 : (upd G7 l8 (.lst [.ref a1, .ref a2, .ref a3, .ref a4, .ref a5, .ref a6, .ref a7])) l8 = some (.lst [.ref a1, .ref a2, .ref a3, .ref a4, .ref a5, .ref a6, .ref a7]) := upd_same
  have g8' := g8 (.lst [.ref a1, .ref a2, .ref a3, .ref a4, .ref a5, .ref a6, .ref a7])
  generalize upd G7 l8 (.lst [.ref a1, .ref a2, .ref a3, .ref a4, .ref a5, .ref a6, .ref a7]) = G8 at g8' hl8
  have g58 := g7.trans g8'
  -- one more
  refine ⟨_, rfl, .inl ⟨rfl, _, SqL.of hl8⟩, _, rfl, _, rfl, x, dx, _, n, rfl, rfl, g58 _ _ ex, x, n, z1, 128, 10, rfl, A5.same g58, ok1, okn, d128, d10, d2, fun a8 G9 g9' C8 => ?_⟩
  have hl9 := g9' _ _ hl8
  refine ⟨l8, _, .ref a8, rfl, rfl, hl9, (by show 7 < sizeLine; decide), ?_⟩
  have Sa : Same H5 (upd G9 l8 (.lst ([.ref a1, .ref a2, .ref a3, .ref a4, .ref a5, .ref a6, .ref a7] ++ [.ref a8]))) := Same.lst (g58.trans g9') l8n
  have hla : (upd G9 l8 (.lst ([.ref a1, .ref a2, .ref a3, .ref a4, .ref a5, .ref a6, .ref a7] ++ [.ref a8]))) l8 = some (.lst [.ref a1, .ref a2, .ref a3, .ref a4, .ref a5, .ref a6, .ref a7, .ref a8]) := upd_same
  have k9 := g8'.trans g9'
  have k8 := g7'.trans k9
  have k7 := g6'.trans k8
  have k6 := g5'.trans k7
  have k5 := g4'.trans k6
  have k4 := g3'.trans k5
  have k3 := g2'.trans k4
  have bd1 := okp_le (OkP.add ok1 ok2) (show 128 + 128 + 1 ≤ 300 by decide)
  have bd2 := okp_le (OkP.sub ok1 ok2) (show 128 + 128 + 1 ≤ 300 by decide)
  have bd3 := okp_le (OkP.mul ok1 ok2) (show 128 + 128 + 1 ≤ 300 by decide)
  have bd4 := okp_le (OkP.add ok1 okn) (show 128 + 10 + 1 ≤ 300 by decide)
  have bd5 := okp_le (OkP.mul ok1 okn) (show 128 + 10 + 1 ≤ 300 by decide)
  have bd6 := okp_le (OkP.sub okn ok1) (show 10 + 128 + 1 ≤ 300 by decide)
  have RS : RatsAt (CR K) (upd G9 l8 (.lst ([.ref a1, .ref a2, .ref a3, .ref a4, .ref a5, .ref a6, .ref a7] ++ [.ref a8]))) 300 [.ref a1, .ref a2, .ref a3, .ref a4, .ref a5, .ref a6, .ref a7, .ref a8]
      [addP z1 z2, subP z1 z2, mulP z1 z2, addP z1 (n, 1), addP z1 (n, 1), mulP z1 (n, 1), mulP z1 (n, 1), subP (n, 1) z1] :=
    .cons ((C1.same k3).lst hl9) bd1 (.cons ((C2.same k4).lst hl9) bd2 (.cons ((C3.same k5).lst hl9) bd3 (.cons ((C4.same k6).lst hl9) bd4 (.cons ((C5.same k7).lst hl9) bd4
      (.cons ((C6.same k8).lst hl9) bd5 (.cons ((C7.same k9).lst hl9) bd5 (.cons (C8.lst hl9) bd6 .nil)))))))
  generalize upd G9 l8 (.lst ([.ref a1, .ref a2, .ref a3, .ref a4, .ref a5, .ref a6, .ref a7] ++ [.ref a8])) = Ha at Sa hla RS
  clear k3 k4 k5 k6 k7 k8 k9 C1 C2 C3 C4 C5 C6 C7 C8 hl9 hl8 g8 g8' g9' g58
  -- what is due
  have Ua := U5.same Sa
  have Va := V5.same Sa
  have Wa := T5.same Sa
  refine ⟨_, rfl, _, rfl, p3, p4, z1, z2, 128, 128, rfl, Ua, Va, ok1, ok2, d128, d128, d1, trivial, fun b1 J1 _ j1 D1 => ?_⟩
  refine ⟨_, rfl, _, rfl, p3, p4, z1, z2, 128, 128, rfl, Ua.same j1, Va.same j1, ok1, ok2, d128, d128, d1, trivial, fun b2 J2 _ j2' D2 => ?_⟩
  have j2 := j1.trans j2'
  refine ⟨_, rfl, _, rfl, p3, p4, z1, z2, 128, 128, rfl, Ua.same j2, Va.same j2, ok1, ok2, d128, d128, d1, trivial, fun b3 J3 _ j3' D3 => ?_⟩
  have j3 := j2.trans j3'
  refine ⟨_, rfl, _, rfl, p3, p5, z1, (n, 1), 128, 10, rfl, Ua.same j3, Wa.same j3, ok1, okn, d128, d10, d2, trivial, fun b4 J4 _ j4' D4 => ?_⟩
  have j4 := j3.trans j4'
  refine ⟨_, rfl, _, rfl, p3, p5, z1, (n, 1), 128, 10, rfl, Ua.same j4, Wa.same j4, ok1, okn, d128, d10, d2, trivial, fun b5 J5 _ j5' D5 => ?_⟩
  have j5 := j4.trans j5'
  refine ⟨(by show 5 ≤ sizeLine; decide), fun l9 h9 => ?_⟩
  have l9n : Ha l9 = none := j5.free h9
  have hl9 : (upd J5 l9 (.lst [.ref b1, .ref b2, .ref b3, .ref b4, .ref b5])) l9 = some (.lst [.ref b1, .ref b2, .ref b3, .ref b4, .ref b5]) := upd_same
  have j6' : Same J5 (upd J5 l9 (.lst [.ref b1, .ref b2, .ref b3, .ref b4, .ref b5])) := Same.put h9
  generalize upd J5 l9 (.lst [.ref b1, .ref b2, .ref b3, .ref b4, .ref b5]) = J6 at j6' hl9
  have j6 := j5.trans j6'
  refine ⟨_, rfl, .inl ⟨rfl, _, SqL.of hl9⟩, ?_⟩
  refine ⟨_, rfl, _, rfl, p3, p5, z1, (n, 1), 128, 10, rfl, Ua.same j6, Wa.same j6, ok1, okn, d128, d10, d2, trivial, fun b6 J7 _ j7' D6 => ?_⟩
  have j7 := j6.trans j7'
  refine ⟨_, rfl, _, rfl, p3, p5, z1, (n, 1), 128, 10, rfl, Ua.same j7, Wa.same j7, ok1, okn, d128, d10, d2, trivial, fun b7 J8 _ j8' D7 => ?_⟩
  have j8 := j7.trans j8'
  refine ⟨_, rfl, _, rfl, p5, p3, (n, 1), z1, 10, 128, rfl, Wa.same j8, Ua.same j8, okn, ok1, d10, d128, d3, trivial, fun b8 J9 _ j9' D8 => ?_⟩
  have j9 := j8.trans j9'
  refine ⟨(by show 3 ≤ sizeLine; decide), fun l10 h10 => ?_⟩
  have j10' : Same J9 (upd J9 l10 (.lst [.ref b6, .ref b7, .ref b8])) := Same.put h10
  have hl10 : (upd J9 l10 (.lst [.ref b6, .ref b7, .ref b8])) l10 = some (.lst [.ref b6, .ref b7, .ref b8]) := upd_same
  generalize upd J9 l10 (.lst [.ref b6, .ref b7, .ref b8]) = J10 at j10' hl10
  have hl9b : J10 l9 = some (.lst [.ref b1, .ref b2, .ref b3, .ref b4, .ref b5]) := j10' _ _ (j9' _ _ (j8' _ _ (j7' _ _ hl9)))
  refine ⟨l9, l10, _, _, rfl, rfl, hl9b, hl10, (by show 5 + 3 ≤ sizeLine; decide), ?_⟩
  have Sb2 : Same Ha (upd J10 l9 (.lst ([.ref b1, .ref b2, .ref b3, .ref b4, .ref b5] ++ [.ref b6, .ref b7, .ref b8]))) := Same.lst (j9.trans j10') l9n
  have hlb : (upd J10 l9 (.lst ([.ref b1, .ref b2, .ref b3, .ref b4, .ref b5] ++ [.ref b6, .ref b7, .ref b8]))) l9 = some (.lst [.ref b1, .ref b2, .ref b3, .ref b4, .ref b5, .ref b6, .ref b7, .ref b8]) := upd_same
  have w9 := j9'.trans j10'
  have w8 := j8'.trans w9
  have w7 := j7'.trans w8
  have w6 := j6'.trans w7
  have w5 := j5'.trans w6
  have w4 := j4'.trans w5
  have w3 := j3'.trans w4
  have w2 := j2'.trans w3
  have PS : PairsAt (upd J10 l9 (.lst ([.ref b1, .ref b2, .ref b3, .ref b4, .ref b5] ++ [.ref b6, .ref b7, .ref b8]))) 300 [.ref b1, .ref b2, .ref b3, .ref b4, .ref b5, .ref b6, .ref b7, .ref b8]
      [addP z1 z2, subP z1 z2, mulP z1 z2, addP z1 (n, 1), addP z1 (n, 1), mulP z1 (n, 1), mulP z1 (n, 1), subP (n, 1) z1] :=
    .cons ((D1.same w2).lst hl9b) bd1 (.cons ((D2.same w3).lst hl9b) bd2 (.cons ((D3.same w4).lst hl9b) bd3 (.cons ((D4.same w5).lst hl9b) bd4 (.cons ((D5.same w6).lst hl9b) bd4
      (.cons ((D6.same w8).lst hl9b) bd5 (.cons ((D7.same w9).lst hl9b) bd5 (.cons ((D8.same j10').lst hl9b) bd6 .nil)))))))
  generalize upd J10 l9 (.lst ([.ref b1, .ref b2, .ref b3, .ref b4, .ref b5] ++ [.ref b6, .ref b7, .ref b8])) = Hb at Sb2 hlb PS
  have RSb := RS.same Sb2
  have hlab := Sb2 _ _ hla
  have S5b := Sa.trans Sb2
  -- are they the same
  refine ⟨_, rfl, l8, _, _, 300, rfl, hlab, RSb, (by show 8 ≤ 100; decide), fun l11 ys K1 c1 hl11 PS1 => ?_⟩
  refine ⟨_, rfl, ne_same (.lst (SqL.of hl11) PS1.all) (.lst (SqL.of (c1 _ _ hlb)) (PS.same c1).all) (by rfl) ⟨false, rfl, ?_⟩⟩
  refine iteF ?_
  have S5c := S5b.trans c1
  clear PS RSb RS PS1 hl11 hlab hlb hla bd1 bd2 bd3 bd4 bd5 bd6
  have Ac := A5.same S5c
  have Bc := B5.same S5c
  have Uc := U5.same S5c
  have Vc := V5.same S5c
  have Wc := T5.same S5c
  obtain ⟨dxA, eA⟩ := id Ac
  obtain ⟨dyB, eB⟩ := id Bc
  have SK : Same H K1 := S5.trans S5c
  -- over
  refine nx_skip (fun K2 k2 => ?_) (fun go => ?_)
  rotate_left
  · refine ⟨_, rfl, p4, _, _, _, rfl, rfl, SqT.of Vc, at_of (j := 0) rfl rfl, rfl, _, rfl, ?_⟩
    refine ite2 (fun hz => ?_) (fun hz => go _ (Same.refl _))
    have hy : z2.1 ≠ 0 := by
      intro e
      rw [e] at hz
      simp at hz
    refine ⟨_, rfl, x, dxA, _, rfl, eA, rf_no _ _ (by decide +kernel) (by decide +kernel), _, rfl, x, .ref y, z1, z2, 128, 128, rfl, Ac, .inr ⟨y, rfl, Bc⟩, ok1, ok2, d128, d128, d1, hy, fun a1 G1 g1 C1 => ⟨a1, _, rfl, C1, fun t1 h1 => ?_⟩⟩
    have q1 : Same G1 (upd G1 t1 (.tup [.int (ovP z1 z2).1, .int (ovP z1 z2).2])) := Same.put h1
    have T1 : TupAt (upd G1 t1 (.tup [.int (ovP z1 z2).1, .int (ovP z1 z2).2])) t1 (ovP z1 z2) := upd_same
    generalize upd G1 t1 (.tup [.int (ovP z1 z2).1, .int (ovP z1 z2).2]) = G1' at q1 T1
    have m1 := g1.trans q1
    refine ⟨_, rfl, x, dxA, _, rfl, m1 _ _ eA, rf_no _ _ (by decide +kernel) (by decide +kernel), _, rfl, rfl, x, .ref y, z1, z2, 128, 128, rfl, Ac.same m1, .inr ⟨y, rfl, Bc.same m1⟩, ok1, ok2, d128, d128, d1, hy, fun a2 G2 g2 C2 => ⟨a2, _, rfl, C2, fun t2 h2 => ?_⟩⟩
    have q2 : Same G2 (upd G2 t2 (.tup [.int (ovP z1 z2).1, .int (ovP z1 z2).2])) := Same.put h2
    have T2 : TupAt (upd G2 t2 (.tup [.int (ovP z1 z2).1, .int (ovP z1 z2).2])) t2 (ovP z1 z2) := upd_same
    have T12 := T1.same (g2.trans q2)
    have m2 := m1.trans (g2.trans q2)
    generalize upd G2 t2 (.tup [.int (ovP z1 z2).1, .int (ovP z1 z2).2]) = G2' at q2 T2 T12 m2
    refine ⟨(by show 2 ≤ sizeLine; decide), fun l1 hl1 => ?_⟩
    have q3 : Same G2' (upd G2' l1 (.lst [.ref t1, .ref t2])) := Same.put hl1
    have L1 : (upd G2' l1 (.lst [.ref t1, .ref t2])) l1 = some (.lst [.ref t1, .ref t2]) := upd_same
    generalize upd G2' l1 (.lst [.ref t1, .ref t2]) = G3 at q3 L1
    have m3 := m2.trans q3
    refine ⟨_, rfl, _, rfl, p3, p4, z1, z2, 128, 128, rfl, Uc.same m3, Vc.same m3, ok1, ok2, d128, d128, d1, hy, fun b1 G4 _ g4 D1 => ?_⟩
    refine ⟨(by show 1 ≤ sizeLine; decide), fun l2 hl2 => ?_⟩
    have q5 : Same G4 (upd G4 l2 (.lst [.ref b1])) := Same.put hl2
    have L2' : (upd G4 l2 (.lst [.ref b1])) l2 = some (.lst [.ref b1]) := upd_same
    generalize upd G4 l2 (.lst [.ref b1]) = G5 at q5 L2'
    refine ⟨l2, 2, _, rfl, rfl, L2', by decide, by decide, (by show 1 * 2 ≤ sizeLine; decide), fun l3 hl3 => ?_⟩
    have q6 : Same G5 (upd G5 l3 (.lst [.ref b1, .ref b1])) := Same.put hl3
    have L3 : (upd G5 l3 (.lst [.ref b1, .ref b1])) l3 = some (.lst [.ref b1, .ref b1]) := upd_same
    have m36 := (g4.trans q5).trans q6
    have T16 := (T12.same q3).same m36
    have T26 := (T2.same q3).same m36
    have D16 := D1.same (q5.trans q6)
    refine ne_same (d := .list [dP (ovP z1 z2), dP (ovP z1 z2)]) (.lst (SqL.of (m36 _ _ L1)) (.cons (dp_pair T16) (.cons (dp_pair T26) .nil))) (.lst (SqL.of L3) (.cons (dp_pair D16) (.cons (dp_pair D16) .nil))) (by rfl) ⟨false, rfl, ?_⟩
    refine iteF ?_
    exact go _ (m3.trans m36)
  -- below
  have Ad := Ac.same k2
  have Bd := Bc.same k2
  have Ud := Uc.same k2
  have Vd := Vc.same k2
  have Wd := Wc.same k2
  have eA2 := k2 _ _ eA
  have eB2 := k2 _ _ eB
  have SK2 := SK.trans k2
  refine ⟨_, rfl, p3, _, _, _, rfl, rfl, SqT.of Ud, at_of (j := 0) rfl rfl, _, rfl, p4, _, _, _, rfl, rfl, SqT.of Vd, at_of (j := 1) rfl rfl, _, _, rfl, rfl, mw ok1.st ok2.sb d128 d128 d1, ?_⟩
  refine ⟨_, rfl, p4, _, _, _, rfl, rfl, SqT.of Vd, at_of (j := 0) rfl rfl, _, rfl, p3, _, _, _, rfl, rfl, SqT.of Ud, at_of (j := 1) rfl rfl, _, _, rfl, rfl, mw ok2.st ok1.sb d128 d128 d1, _, _, rfl, rfl, ?_⟩
  -- told
  refine ⟨_, rfl, x, dxA, _, rfl, eA2, rf_no _ _ (by decide +kernel) (by decide +kernel), _, rfl, x, .ref y, z1, z2, 128, 128, rfl, Ad, .inr ⟨y, rfl, Bd⟩, ok1, ok2, d128, d128, d1, fun G1 g1 => ?_⟩
  refine ⟨_, rfl, y, dyB, _, rfl, g1 _ _ eB2, rf_no _ _ (by decide +kernel) (by decide +kernel), _, rfl, y, .ref x, z2, z1, 128, 128, rfl, Bd.same g1, .inr ⟨x, rfl, Ad.same g1⟩, ok2, ok1, d128, d128, d1, fun G2 g2' => ?_⟩
  have g2 := g1.trans g2'
  refine ⟨_, rfl, x, dxA, _, rfl, g2 _ _ eA2, rf_no _ _ (by decide +kernel) (by decide +kernel), _, rfl, x, .ref y, z1, z2, 128, 128, rfl, Ad.same g2, .inr ⟨y, rfl, Bd.same g2⟩, ok1, ok2, d128, d128, d1, fun G3 g3' => ?_⟩
  have g3 := g2.trans g3'
  refine ⟨_, rfl, _, rfl, x, dxA, _, _, rfl, g3 _ _ eA2, .ins (g3 _ _ eB2), x, _, z1, rfl, Ad.same g3, .inl ⟨y, z2, rfl, Bd.same g3, ?_⟩⟩
  refine ⟨_, rfl, _, rfl, x, dxA, _, y, dyB, _, rfl, rfl, g3 _ _ eA2, g3 _ _ eB2, x, _, z1, rfl, Ad.same g3, .inl ⟨y, z2, rfl, Bd.same g3, _, rfl, ?_⟩⟩
  refine ⟨(by show 5 ≤ sizeLine; decide), fun l1 h1 => ?_⟩
  have hL1 : (upd G3 l1 (.lst [.bl (belowP z1 z2), .bl (belowP z2 z1), .bl (atMostP z1 z2), .bl (decide (z1 = z2)), .bl (!decide (z1 = z2))])) l1 = some (.lst [.bl (belowP z1 z2), .bl (belowP z2 z1), .bl (atMostP z1 z2), .bl (decide (z1 = z2)), .bl (!decide (z1 = z2))]) := upd_same
  have n1 : Same G3 (upd G3 l1 (.lst [.bl (belowP z1 z2), .bl (belowP z2 z1), .bl (atMostP z1 z2), .bl (decide (z1 = z2)), .bl (!decide (z1 = z2))])) := Same.put h1
  generalize upd G3 l1 (.lst [.bl (belowP z1 z2), .bl (belowP z2 z1), .bl (atMostP z1 z2), .bl (decide (z1 = z2)), .bl (!decide (z1 = z2))]) = G4 at n1 hL1
  have g4 := g3.trans n1
  have U4 := Ud.same g4
  have V4 := Vd.same g4
  -- above
  refine ⟨_, rfl, p3, _, _, _, rfl, rfl, SqT.of U4, at_of (j := 0) rfl rfl, _, rfl, p4, _, _, _, rfl, rfl, SqT.of V4, at_of (j := 1) rfl rfl, _, _, rfl, rfl, mw ok1.st ok2.sb d128 d128 d1, ?_⟩
  refine ⟨_, rfl, p4, _, _, _, rfl, rfl, SqT.of V4, at_of (j := 0) rfl rfl, _, rfl, p3, _, _, _, rfl, rfl, SqT.of U4, at_of (j := 1) rfl rfl, _, _, rfl, rfl, mw ok2.st ok1.sb d128 d128 d1, _, _, rfl, rfl, ?_⟩
  refine ⟨_, rfl, _, rfl, _, rfl, _, rfl, _, rfl, _, rfl, _, rfl, _, _, dp_pair U4, dp_pair V4, sh_pair _, sh_pair _, _, rfl, _, rfl, _, _, dp_pair U4, dp_pair V4, sh_pair _, sh_pair _, (by show 5 ≤ sizeLine; decide), fun l2 h2 => ?_⟩
  have e3 : (!decide (z2.1 * z1.2 < z1.1 * z2.2)) = atMostP z1 z2 := by
    unfold atMostP
    by_cases hh : z2.1 * z1.2 < z1.1 * z2.2
    · have : ¬ z1.1 * z2.2 ≤ z2.1 * z1.2 := by omega
      simp [hh, this]
    · have : z1.1 * z2.2 ≤ z2.1 * z1.2 := by omega
      simp [hh, this]
  have n2 : ∀ o, Same G4 (upd G4 l2 o) := fun o => Same.put h2
  refine ne_same (d := .list [.bool (belowP z1 z2), .bool (belowP z2 z1), .bool (atMostP z1 z2), .bool (decide (z1 = z2)), .bool (!decide (z1 = z2))])
    (.lst (SqL.of (n2 _ _ _ hL1)) (.cons (.bl _) (.cons (.bl _) (.cons (.bl _) (.cons (.bl _) (.cons (.bl _) .nil))))))
    (.lst (SqL.of upd_same) (.cons (.bl _) (.cons (.bl _) (.cons (by rw [← e3]; exact .bl _) (.cons (by rw [← eqv_pair]; exact .bl _) (.cons (by rw [← eqv_pair]; exact .bl _) .nil)))))) (by rfl) ⟨false, rfl, ?_⟩
  refine iteF ?_
  have S6 : ∀ o, Same K2 (upd G4 l2 o) := fun o => g4.trans (n2 o)
  -- by a number
  refine ⟨_, rfl, x, dxA, _, rfl, S6 _ _ _ eA2, rf_no _ _ (by decide +kernel) (by decide +kernel), _, rfl, x, .int n, z1, (n, 1), 128, 10, rfl, Ad.same (S6 _), .inl ⟨n, rfl, rfl⟩, ok1, okn, d128, d10, d2, fun F1 f1 => ?_⟩
  have f1 := (S6 _).trans f1
  refine ⟨_, rfl, x, dxA, _, rfl, f1 _ _ eA2, rf_no _ _ (by decide +kernel) (by decide +kernel), _, rfl, x, .int n, z1, (n, 1), 128, 10, rfl, Ad.same f1, .inl ⟨n, rfl, rfl⟩, ok1, okn, d128, d10, d2, fun F2 f2' => ?_⟩
  have f2 := f1.trans f2'
  refine ⟨_, rfl, _, rfl, x, dxA, _, _, rfl, f2 _ _ eA2, .int n, x, _, z1, rfl, Ad.same f2, .inr ⟨n, rfl, ?_⟩⟩
  refine ⟨_, rfl, _, rfl, x, dxA, _, n, rfl, rfl, f2 _ _ eA2, x, _, z1, rfl, Ad.same f2, .inr ⟨n, rfl, ?_⟩⟩
  refine ⟨(by show 4 ≤ sizeLine; decide), fun l3 h3 => ?_⟩
  have b1 : belowP z1 (n, 1) = decide (z1.1 < n * z1.2) := by
    show decide (z1.1 * 1 < n * z1.2) = _
    rw [Int.mul_one]
  have b2 : atMostP z1 (n, 1) = decide (z1.1 ≤ n * z1.2) := by
    show decide (z1.1 * 1 ≤ n * z1.2) = _
    rw [Int.mul_one]
  have hL3 : (upd F2 l3 (.lst [.bl (belowP z1 (n, 1)), .bl (atMostP z1 (n, 1)), .bl false, .bl false])) l3 = some (.lst [.bl (belowP z1 (n, 1)), .bl (atMostP z1 (n, 1)), .bl false, .bl false]) := upd_same
  have n3 : Same F2 (upd F2 l3 (.lst [.bl (belowP z1 (n, 1)), .bl (atMostP z1 (n, 1)), .bl false, .bl false])) := Same.put h3
  generalize upd F2 l3 (.lst [.bl (belowP z1 (n, 1)), .bl (atMostP z1 (n, 1)), .bl false, .bl false]) = F3 at n3 hL3
  rw [b1, b2] at hL3
  have f3 := f2.trans n3
  have U6 := Ud.same f3
  refine ⟨_, rfl, _, rfl, p3, _, _, _, rfl, rfl, SqT.of U6, at_of (j := 0) rfl rfl, _, rfl, _, rfl, p3, _, _, _, rfl, rfl, SqT.of U6, at_of (j := 1) rfl rfl, _, _, rfl, rfl, mw hn ok1.sb d10 d128 d3, _, _, rfl, rfl, ?_⟩
  refine ⟨_, rfl, p3, _, _, _, rfl, rfl, SqT.of U6, at_of (j := 0) rfl rfl, _, rfl, _, rfl, p3, _, _, _, rfl, rfl, SqT.of U6, at_of (j := 1) rfl rfl, _, _, rfl, rfl, mw hn ok1.sb d10 d128 d3, _, _, rfl, rfl, ?_⟩
  refine ⟨(by show 4 ≤ sizeLine; decide), fun l4 h4 => ?_⟩
  have n4 : ∀ o, Same F3 (upd F3 l4 o) := fun o => Same.put h4
  refine eq_same (d := .list [.bool (decide (z1.1 < n * z1.2)), .bool (decide (z1.1 ≤ n * z1.2)), .bool false, .bool false])
    (.lst (SqL.of (n4 _ _ _ hL3)) (.cons (.bl _) (.cons (.bl _) (.cons (.bl _) (.cons (.bl _) .nil)))))
    (.lst (SqL.of upd_same) (.cons (.bl _) (.cons (.bl _) (.cons (.bl _) (.cons (.bl _) .nil))))) (by rfl) ?_
  exact k _ (SK2.trans (f3.trans (n4 _)))
end
end K11

set_option Elab.async false
set_option linter.all false
set_option maxRecDepth 100000
set_option maxHeartbeats 4000000
namespace K11
open PySem PySem.Spec PyProof.Rows L2 Own
open PySem.W (Frag)
section
variable {P : Program} {w : World} {K : Frag} {mg : Str → Option Value} {base : Heap}
theorem TupAt.sb {p a : Addr} {H H2 : Hp} {q : Int × Int} (h : TupAt H a q) (hp : PotAt H p) (s : Sb p H H2) : TupAt H2 a q := by
  obtain ⟨x, y, e, _⟩ := hp
  exact s _ _ h (ne_of h e (by intro z; cases z))
/-- raw pairs in a list -/
structure RawsAt (H : Hp) (S : Int × Int → Prop) (xs : List V) (qs : List (Int × Int)) : Prop where
  len : xs.length = qs.length
  at_ : ∀ (i : Nat) (x : V), xs[i]? = some x → ∃ a q, x = .ref a ∧ qs[i]? = some q ∧ TupAt H a q ∧ S q
structure RS (H : Hp) (p D : Addr) (xs : List V) (qs : List (Int × Int)) (S : Int × Int → Prop) : Prop where
  pot : PotAt H p
  lst : H D = some (.lst xs)
  ne : D ≠ p
  raws : RawsAt H S xs qs
theorem RawsAt.to {H H2 : Hp} {S U : Int × Int → Prop} {xs : List V} {qs : List (Int × Int)} (h : RawsAt H S xs qs) (k : ∀ q, S q → U q) (s : ∀ a q, TupAt H a q → TupAt H2 a q) : RawsAt H2 U xs qs :=
  ⟨h.len, fun i x e => let ⟨a, q, e0, e1, e2, e3⟩ := h.at_ i x e; ⟨a, q, e0, e1, s _ _ e2, k _ e3⟩⟩
theorem PotAt.same {H H2 : Hp} {p : Addr} (h : PotAt H p) (s : Same H H2) : PotAt H2 p := by
  obtain ⟨x, y, e, r⟩ := h
  exact ⟨x, y, s _ _ e, r⟩
theorem RS.same {H H2 : Hp} {p D : Addr} {xs : List V} {qs : List (Int × Int)} {S : Int × Int → Prop} (h : RS H p D xs qs S) (s : Same H H2) : RS H2 p D xs qs S :=
  ⟨h.pot.same s, s _ _ h.lst, h.ne, h.raws.to (fun _ z => z) fun _ _ t => t.same s⟩
theorem RS.sb {H H2 : Hp} {p D : Addr} {xs : List V} {qs : List (Int × Int)} {S : Int × Int → Prop} (h : RS H p D xs qs S) (hp : PotAt H2 p) (s : Sb p H H2) : RS H2 p D xs qs S :=
  ⟨hp, s _ _ h.lst h.ne, h.ne, h.raws.to (fun _ z => z) fun _ _ t => t.sb h.pot s⟩
theorem RS.to {H : Hp} {p D : Addr} {xs : List V} {qs : List (Int × Int)} {S U : Int × Int → Prop} (h : RS H p D xs qs S) (k : ∀ q, S q → U q) : RS H p D xs qs U :=
  ⟨h.pot, h.lst, h.ne, h.raws.to k fun _ _ t => t⟩
theorem TupAt.lst2 {H : Hp} {a l : Addr} {q : Int × Int} {xs ys : List V} (h : TupAt H a q) (hl : H l = some (.lst xs)) : TupAt (upd H l (.lst ys)) a q := h.lst hl
theorem RS.updl {H : Hp} {p D E : Addr} {xs ys zs : List V} {qs : List (Int × Int)} {S : Int × Int → Prop} (h : RS H p D xs qs S) (hE : H E = some (.lst ys)) (n1 : E ≠ D) (n2 : E ≠ p) : RS (upd H E (.lst zs)) p D xs qs S := by
  obtain ⟨x, y, e, r⟩ := h.pot
  exact ⟨⟨x, y, by rw [upd_ne (Ne.symm n2)]; exact e, r⟩, by rw [upd_ne (Ne.symm n1)]; exact h.lst, h.ne, h.raws.to (fun _ z => z) fun _ _ t => t.lst hE⟩
theorem RS.push {H : Hp} {p D a : Addr} {xs : List V} {qs : List (Int × Int)} {S : Int × Int → Prop} {q : Int × Int} (h : RS H p D xs qs S) (t : TupAt H a q) (s : S q) : RS (upd H D (.lst (xs ++ [.ref a]))) p D (xs ++ [.ref a]) (qs ++ [q]) S := by
  obtain ⟨x, y, e, r⟩ := h.pot
  refine ⟨⟨x, y, by rw [upd_ne (Ne.symm h.ne)]; exact e, r⟩, upd_same, h.ne, ⟨by simp [h.raws.len], fun i z ez => ?_⟩⟩
  rcases (by omega : i < xs.length ∨ xs.length ≤ i) with hi | hi
  · rw [List.getElem?_append_left hi] at ez
    obtain ⟨b, q2, e0, e1, e2, e3⟩ := h.raws.at_ i z ez
    exact ⟨b, q2, e0, by rw [List.getElem?_append_left (by rw [← h.raws.len]; exact hi)]; exact e1, e2.lst h.lst, e3⟩
  · rw [List.getElem?_append_right hi] at ez
    have hz : i - xs.length = 0 := by
      rcases Nat.eq_zero_or_pos (i - xs.length) with z0 | z0
      · exact z0
      · rw [List.getElem?_eq_none_iff.mpr (by simp; omega)] at ez
        cases ez
    rw [hz] at ez
    refine ⟨a, q, (Option.some.inj ez).symm, ?_, t.lst h.lst, s⟩
    rw [List.getElem?_append_right (by rw [← h.raws.len]; exact hi), ← h.raws.len, hz]
    rfl
theorem RatsAt.updl {C : Addr} {H : Hp} {m : Nat} {xs ys zs : List V} {qs : List (Int × Int)} {D : Addr} (h : RatsAt C H m xs qs) (hD : H D = some (.lst ys)) : RatsAt C (upd H D (.lst zs)) m xs qs :=
  ⟨h.len, fun i x e => by
    obtain ⟨a, q, e0, e1, e2, e3⟩ := h.at_ i x e
    exact ⟨a, q, e0, e1, e2.lst hD, e3⟩⟩
theorem RatsAt.more {C : Addr} {H : Hp} {m : Nat} {xs : List V} {qs : List (Int × Int)} (h : RatsAt C H m xs qs) {a : Addr} {q : Int × Int} (t : RatAt C H a q) (o : OkP m q) : RatsAt C H m (xs ++ [.ref a]) (qs ++ [q]) := by
  refine ⟨by simp [h.len], fun i x e => ?_⟩
  rcases (by omega : i < xs.length ∨ xs.length ≤ i) with hi | hi
  · rw [List.getElem?_append_left hi] at e
    obtain ⟨b, q2, e0, e1, e2, e3⟩ := h.at_ i x e
    exact ⟨b, q2, e0, by rw [List.getElem?_append_left (by rw [← h.len]; exact hi)]; exact e1, e2, e3⟩
  · rw [List.getElem?_append_right hi] at e
    have hz : i - xs.length = 0 := by
      rcases Nat.eq_zero_or_pos (i - xs.length) with z | z
      · exact z
      · rw [List.getElem?_eq_none_iff.mpr (by simp; omega)] at e
        cases e
    rw [hz] at e
    refine ⟨a, q, (Option.some.inj e).symm, ?_, t, o⟩
    rw [List.getElem?_append_right (by rw [← h.len]; exact hi), ← h.len, hz]
    rfl
theorem NumsAt.of {C : Addr} {H : Hp} {m : Nat} {xs : List V} {qs : List (Int × Int)} (h : RatsAt C H m xs qs) (n : Int) (hn : OkP m ((n, 1) : Int × Int)) : NumsAt C H m (xs ++ [.int n]) (qs ++ [(n, 1)]) := by
  refine ⟨by simp [h.len], fun i x e => ?_⟩
  rcases (by omega : i < xs.length ∨ xs.length ≤ i) with hi | hi
  · rw [List.getElem?_append_left hi] at e
    obtain ⟨b, q2, e0, e1, e2, e3⟩ := h.at_ i x e
    exact ⟨q2, by rw [List.getElem?_append_left (by rw [← h.len]; exact hi)]; exact e1, .inr ⟨b, e0, e2⟩, e3⟩
  · rw [List.getElem?_append_right hi] at e
    have hz : i - xs.length = 0 := by
      rcases Nat.eq_zero_or_pos (i - xs.length) with z | z
      · exact z
      · rw [List.getElem?_eq_none_iff.mpr (by simp; omega)] at e
        cases e
    rw [hz] at e
    refine ⟨(n, 1), ?_, .inl ⟨n, (Option.some.inj e).symm, rfl⟩, hn⟩
    rw [List.getElem?_append_right (by rw [← h.len]; exact hi), ← h.len, hz]
    rfl
theorem sumP_take_ok {m : Nat} {qs : List (Int × Int)} (h : ∀ (i : Nat) q, qs[i]? = some q → OkP m q) : ∀ i, i ≤ qs.length → OkP (1 + i * (m + 1)) (sumP (qs.take i))
  | 0, _ => okp_le (show OkP 1 ((0, 1) : Int × Int) from ⟨by decide, by unfold Sz; decide, by unfold Sz; decide⟩) (by omega)
  | i + 1, hi => by
    have e : qs[i]? = some qs[i] := List.getElem?_eq_getElem (by omega)
    rw [sumP_more e]
    refine okp_le (OkP.add (sumP_take_ok h i (by omega)) (h i _ e)) ?_
    rw [Nat.add_mul]
    omega
theorem sumP_ok {m : Nat} {qs : List (Int × Int)} (h : ∀ (i : Nat) q, qs[i]? = some q → OkP m q) : OkP (1 + qs.length * (m + 1)) (sumP qs) := by
  have := sumP_take_ok h qs.length (Nat.le_refl _)
  rwa [List.take_length] at this
/-- triples of truth values in lists -/
abbrev T3 := Bool × Bool × Bool
def dT (t : T3) : PyData := .list [.bool t.1, .bool t.2.1, .bool t.2.2]
def vT (t : T3) : List V := [.bl t.1, .bl t.2.1, .bl t.2.2]
structure TrisAt (H : Hp) (E : Addr) (ys : List V) (ts : List T3) : Prop where
  len : ys.length = ts.length
  at_ : ∀ (i : Nat) (y : V), ys[i]? = some y → ∃ l t, y = .ref l ∧ ts[i]? = some t ∧ l ≠ E ∧ H l = some (.lst (vT t))
theorem TrisAt.same {H H2 : Hp} {E : Addr} {ys : List V} {ts : List T3} (h : TrisAt H E ys ts) (s : Same H H2) : TrisAt H2 E ys ts :=
  ⟨h.len, fun i y e => let ⟨l, t, e0, e1, e2, e3⟩ := h.at_ i y e; ⟨l, t, e0, e1, e2, s _ _ e3⟩⟩
theorem TrisAt.nil {H : Hp} {E : Addr} : TrisAt H E [] [] := ⟨rfl, fun i y e => by simp at e⟩
theorem TrisAt.push {H : Hp} {E l : Addr} {ys zs : List V} {ts : List T3} {t : T3} (h : TrisAt H E ys ts) (n : l ≠ E) (e : H l = some (.lst (vT t))) : TrisAt (upd H E (.lst zs)) E (ys ++ [.ref l]) (ts ++ [t]) := by
  refine ⟨by simp [h.len], fun i x ex => ?_⟩
  rcases (by omega : i < ys.length ∨ ys.length ≤ i) with hi | hi
  · rw [List.getElem?_append_left hi] at ex
    obtain ⟨b, q2, e0, e1, e2, e3⟩ := h.at_ i x ex
    exact ⟨b, q2, e0, by rw [List.getElem?_append_left (by rw [← h.len]; exact hi)]; exact e1, e2, by rw [upd_ne e2]; exact e3⟩
  · rw [List.getElem?_append_right hi] at ex
    have hz : i - ys.length = 0 := by
      rcases Nat.eq_zero_or_pos (i - ys.length) with z | z
      · exact z
      · rw [List.getElem?_eq_none_iff.mpr (by simp; omega)] at ex
        cases ex
    rw [hz] at ex
    refine ⟨l, t, (Option.some.inj ex).symm, ?_, n, by rw [upd_ne n]; exact e⟩
    rw [List.getElem?_append_right (by rw [← h.len]; exact hi), ← h.len, hz]
    rfl
theorem TrisAt.all {H : Hp} {E : Addr} : ∀ {ys : List V} {ts : List T3}, TrisAt H E ys ts → DpAll K H ys (ts.map dT)
  | [], [], _ => .nil
  | [], _ :: _, h => by have := h.len; simp at this
  | _ :: _, [], h => by have := h.len; simp at this
  | y :: ys, t :: ts, h => by
    obtain ⟨l, t2, rfl, e, n, hl⟩ := h.at_ 0 y rfl
    have e2 : t = t2 := Option.some.inj e
    subst e2
    exact .cons (.lst (SqL.of hl) (.cons (.bl _) (.cons (.bl _) (.cons (.bl _) .nil)))) (TrisAt.all ⟨by have := h.len; simpa using this, fun i z ez => h.at_ (i + 1) z ez⟩)
theorem DpAll.app {H : Hp} : ∀ {xs ys : List V} {ds es : List PyData}, DpAll K H xs ds → DpAll K H ys es → DpAll K H (xs ++ ys) (ds ++ es)
  | _, _, _, _, .nil, h => h
  | _, _, _, _, .cons a b, h => .cons a (DpAll.app b h)
theorem kb_total (T : Tx K mg) : KBn K (fdOf K (cmG K "Ratio" "total")) ["cls", "numbers"] 1 ["numbers"] (fun us ws => us ++ ws) (fun vs zs => vs ++ zs) :=
  kb_plain (ps := ["cls", "numbers"]) T.F_Ratio_total 1 ["numbers"] (fun us ws => us ++ ws) (fun r z => r.append z) fun _ _ _ _ _ _ us ws h1 h2 => match us, ws, h1, h2 with | [_], [_], _, _ => rfl
theorem ixK {X : Cx} (h : X.K = K) : IxR X (rIxT K) := h ▸ ix_tup
/-! ### values of every kind -/
theorem NumK.no {H : Hp} {x : V} {t : Value} (h : IntK K H x false) (ty : TyX K H x t) (k : PySem.W.kitOne K t (.ref (CR K)) = some false) : NumK K H x false := ⟨false, h, (fun q => nomatch q), fun _ => ⟨_, ty, k⟩⟩
theorem NumK.int {H : Hp} (i : Int) : NumK K H (.int i) true := ⟨true, IntK.int i, fun _ => rfl, fun q => nomatch q⟩
def valsOf (la lb : Addr) : List V := [.int 0, .int 1, .int (-1), .int 5, .bl true, .bl false, .non, .str "1", .ref la, .ref lb, .int (10 ^ (5 : Int).toNat)]
def tris : List T3 := [(true, true, true), (true, true, true), (true, true, false), (true, true, true), (false, false, false), (false, false, false), (false, false, false), (false, false, false), (false, false, false), (false, false, false), (true, true, true)]
theorem vals_ok (T : Tx K mg) {H : Hp} {la lb : Addr} (La : H la = some (.lst [.int 1])) (Lb : H lb = some (.tup [.int 1, .int 2])) {i : Nat} {x : V} (h : (valsOf la lb)[i]? = some x) :
    ∃ t : T3, tris[i]? = some t ∧ NumK K H x t.1 ∧ IntK K H x t.2.1 ∧ IntK K H x (intV x) ∧ cntV x = t.2.2 := by
  match i, h with
  | 0, h => cases (Option.some.inj h); exact ⟨_, rfl, NumK.int _, IntK.int _, IntK.int _, by decide⟩
  | 1, h => cases (Option.some.inj h); exact ⟨_, rfl, NumK.int _, IntK.int _, IntK.int _, by decide⟩
  | 2, h => cases (Option.some.inj h); exact ⟨_, rfl, NumK.int _, IntK.int _, IntK.int _, by decide⟩
  | 3, h => cases (Option.some.inj h); exact ⟨_, rfl, NumK.int _, IntK.int _, IntK.int _, by decide⟩
  | 4, h => cases (Option.some.inj h); exact ⟨_, rfl, NumK.no (IntK.bl _) (.base (.bl _)) T.ko_bool, IntK.bl _, IntK.bl _, rfl⟩
  | 5, h => cases (Option.some.inj h); exact ⟨_, rfl, NumK.no (IntK.bl _) (.base (.bl _)) T.ko_bool, IntK.bl _, IntK.bl _, rfl⟩
  | 6, h => cases (Option.some.inj h); exact ⟨_, rfl, NumK.no IntK.non (.base .non) T.ko_NoneType, IntK.non, IntK.non, rfl⟩
  | 7, h => cases (Option.some.inj h); exact ⟨_, rfl, NumK.no (IntK.str _) (.base (.str _)) T.ko_str, IntK.str _, IntK.str _, rfl⟩
  | 8, h => cases (Option.some.inj h); exact ⟨_, rfl, NumK.no (IntK.lst La) (.base (.lst La)) T.ko_list, IntK.lst La, IntK.lst La, rfl⟩
  | 9, h => cases (Option.some.inj h); exact ⟨_, rfl, NumK.no (IntK.tup Lb) (.base (.tup Lb)) T.ko_tuple, IntK.tup Lb, IntK.tup Lb, rfl⟩
  | 10, h => cases (Option.some.inj h); exact ⟨_, rfl, NumK.int _, IntK.int _, IntK.int _, by decide⟩
  | i + 11, h => simp [valsOf] at h
end
end K11

set_option Elab.async false
set_option linter.all false
set_option maxRecDepth 100000
set_option maxHeartbeats 4000000
namespace K11
open PySem PySem.Spec PyProof.Rows L2 Own
open PySem.W (Frag)
section
variable {P : Program} {w : World} {K : Frag} {mg : Str → Option Value} {base : Heap}
def spRight : Sp := fun vs H Q _ => ∃ p, vs = [.ref p] ∧ PotAt H p ∧ ∀ H2, Q (.bl true) H2
theorem ok_right (T : Tx K mg) : FG P w K mg base CX0 8 (ga K "_law_right") (fdOf K (ga K "_law_right")) ["_law_pot_here"] spRight := by
  refine fg_no T.F_law_right sc_law_right (fun vs H Q E h => ?_) (fun cdv A outer s H vs Q E gg hr h => ?_)
  · obtain ⟨p, rfl, _⟩ := h
    rfl
  obtain ⟨p, rfl, hp, k⟩ := h
  refine ⟨_, pss_cons (ps_setLc (i := 1) (own := [("_law_turn", 3)]) (g := gName 3) (tt := tYes) (by rfl) sc_law_right.nd rfl rfl (sw_true rfl rfl rfl (by decide +kernel)) (pi_range1 (by rfl) T.n_range (pa_cons pe_int pa_nil)) (blkOk_by (N := ["_law_pot_here", "_law_raws", "_law_raw_here", "_law_turn", "_law_pairs_here", "_law_given", "_law_told", "_law_values", "_law_due", "_law_one"]) (sc := defScope s_law_right) (by decide +kernel)) (fun _ _ _ _ _ => pg_name (i := 3) sc_law_right.nd rfl (Or.inl rfl)) (fun _ _ _ _ _ => pts_nil) (fun _ _ _ _ _ => (pe_fn (ok_raw T) gg (hr.mono (by decide)) rfl T.g_law_raw T.F_law_raw.kp (b_law_raw T) .nil pass0 (pa_cons (pv 0) pa_nil))))
    (pss_cons (ps_expr (pe_bm PySem.F.plainAttrs_list PySem.F.slot_list_append PySem.F.type_list_append mt_append (pv 1) (pa_cons (pe_tup (pa_cons (pe_op op_mulW (pe_ix ix_tup (pe_ix ix_list (pv 1) pe_int (fun _ _ => rfl)) pe_int (fun _ _ => rfl)) pe_int) (pa_cons (pe_op op_mulW (pe_ix ix_tup (pe_ix ix_list (pv 1) pe_int (fun _ _ => rfl)) pe_int (fun _ _ => rfl)) pe_int) pa_nil))) pa_nil)))
    (pss_cons (ps_expr (pe_bm PySem.F.plainAttrs_list PySem.F.slot_list_append PySem.F.type_list_append mt_append (pv 1) (pa_cons (pe_tup (pa_cons pe_int (pa_cons (pe_ix ix_tup (pe_ix ix_list (pv 1) pe_int (fun _ _ => rfl)) pe_int (fun _ _ => rfl)) pa_nil))) pa_nil)))
    (pss_cons (ps_for PassesOwn.never rfl (pi_list (pv 1)) (pg_name (i := 2) sc_law_right.nd rfl (Or.inl rfl)) (pss_one (ps_if (pt_not (pt_val (pe_fn (ok_one_right T) gg (hr.mono (by decide)) rfl T.g_law_one_right T.F_law_one_right.kp (b_law_one_right T) .nil pass0 (pa_cons (pv 2) pa_nil)))) (pss_one (ps_ret pe_bl)) pss_nil)))
    (pss_cons (ps_for PassesOwn.never rfl (pi_range1 (by rfl) T.n_range (pa_cons pe_int pa_nil)) (pg_name (i := 3) sc_law_right.nd rfl (Or.inl rfl)) (pss_one (ps_if (pt_not (pt_val (pe_fn (ok_two_right T) gg (hr.mono (by decide)) rfl T.g_law_two_right T.F_law_two_right.kp (b_law_two_right T) .nil pass0 (pa_cons (pe_fn (ok_pick T) gg (hr.mono (by decide)) rfl T.g_law_pick T.F_law_pick.kp (b_law_pick T) .nil pass0 (pa_cons (pv 0) (pa_cons (pv 1) pa_nil))) (pa_cons (pe_fn (ok_pick T) gg (hr.mono (by decide)) rfl T.g_law_pick T.F_law_pick.kp (b_law_pick T) .nil pass0 (pa_cons (pv 0) (pa_cons (pv 1) pa_nil))) (pa_cons (pe_op op_sub (pe_fn (ok_draw T) gg (hr.mono (by decide)) rfl T.g_law_draw T.F_law_draw.kp (b_law_draw T) .nil pass0 (pa_cons (pv 0) (pa_cons pe_int pa_nil))) pe_int) pa_nil)))))) (pss_one (ps_ret pe_bl)) pss_nil)))
    (pss_cons (ps_setLc (i := 4) (own := [("_law_raw_here", 2)]) (g := gName 2) (tt := tYes) (by rfl) sc_law_right.nd rfl rfl (sw_true rfl rfl rfl (by decide +kernel)) (pi_list (pv 1)) (blkOk_by (N := ["_law_pot_here", "_law_raws", "_law_raw_here", "_law_turn", "_law_pairs_here", "_law_given", "_law_told", "_law_values", "_law_due", "_law_one"]) (sc := defScope s_law_right) (by decide +kernel)) (fun _ _ _ _ _ => pg_name (i := 2) sc_law_right.nd rfl (Or.inl rfl)) (fun _ _ _ _ _ => pts_nil) (fun _ _ _ _ _ => (pe_fn (ok_low T) gg (hr.mono (by decide)) rfl T.g_law_low T.F_law_low.kp (b_law_low T) .nil pass0 (pa_cons (pe_ix (ixK (K := K) rfl) (pv 2) pe_int (fun _ _ => rfl)) (pa_cons (pe_ix (ixK (K := K) rfl) (pv 2) pe_int (fun _ _ => rfl)) pa_nil)))))
    (pss_cons (ps_set (i := 5) sc_law_right.nd rfl (Or.inl rfl) (pe_op op_cat (pe_lc (own := [("_law_raw_here", 2)]) (g := gName 2) (tt := tYes) (by rfl) sc_law_right.nd (pi_list (pv 1)) (blkOk_by (N := ["_law_pot_here", "_law_raws", "_law_raw_here", "_law_turn", "_law_pairs_here", "_law_given", "_law_told", "_law_values", "_law_due", "_law_one"]) (sc := defScope s_law_right) (by decide +kernel)) (fun _ _ _ _ _ => pg_name (i := 2) sc_law_right.nd rfl (Or.inl rfl)) (fun _ _ _ _ _ => pts_nil) (fun _ _ _ _ _ => (pe_mk T.mk_Ratio (ok_init T) gg (hr.mono (by decide)) rfl T.g_Ratio (b_init2 T) .nil pass0 (pa_cons (pe_ix (ixK (K := K) rfl) (pv 2) pe_int (fun _ _ => rfl)) (pa_cons (pe_ix (ixK (K := K) rfl) (pv 2) pe_int (fun _ _ => rfl)) pa_nil))))) (pe_lst (pa_cons pe_int pa_nil))))
    (pss_cons (ps_set (i := 6) sc_law_right.nd rfl (Or.inl rfl) (pe_lst (pa_cons (pe_cm (pe_glob (v := .ref (CR K)) rfl T.g_Ratio rfl) T.c_total.1 T.c_total.2 (ok_total T) gg (hr.mono (by decide)) (b_Ratio_total T) .nil pass0 (pa_cons (pv 5) pa_nil)) (pa_cons (pe_cm (pe_glob (v := .ref (CR K)) rfl T.g_Ratio rfl) T.c_total.1 T.c_total.2 (ok_total T) gg (hr.mono (by decide)) (b_Ratio_total T) .nil pass0 (pa_cons (pe_callTy call_tuple_of (by rfl) T.n_tuple (by decide +kernel) (pa_cons (pv 5) pa_nil)) pa_nil)) (pa_cons (pe_cmK0 (pe_glob (v := .ref (CR K)) rfl T.g_Ratio rfl) T.c_total.1 T.c_total.2 (ok_total T) gg (hr.mono (by decide)) (kb_total T) pass0 (pk_cons (pv 5) pk_nil)) (pa_cons (pe_cm (pe_glob (v := .ref (CR K)) rfl T.g_Ratio rfl) T.c_total.1 T.c_total.2 (ok_total T) gg (hr.mono (by decide)) (b_Ratio_total T) .nil pass0 (pa_cons (pe_lst pa_nil) pa_nil)) pa_nil))))))
    (pss_cons (ps_if (pt_cmpR (op_neD hr.units) (pe_fn (ok_pairs T) gg (hr.mono (by decide)) rfl T.g_law_pairs T.F_law_pairs.kp (b_law_pairs T) .nil pass0 (pa_cons (pv 6) pa_nil)) (pe_op op_cat (pe_op op_rep (pe_lst (pa_cons (pe_fn (ok_ltotal T) gg (hr.mono (by decide)) rfl T.g_law_total T.F_law_total.kp (b_law_total T) .nil pass0 (pa_cons (pe_op op_cat (pv 4) (pe_lst (pa_cons (pe_tup (pa_cons pe_int (pa_cons pe_int pa_nil))) pa_nil))) pa_nil)) pa_nil)) pe_int) (pe_lst (pa_cons (pe_tup (pa_cons pe_int (pa_cons pe_int pa_nil))) pa_nil))) (nomark _)) (pss_one (ps_ret pe_bl)) pss_nil)
    (pss_cons (ps_set (i := 7) sc_law_right.nd rfl (Or.inl rfl) (pe_lst (pa_cons pe_int (pa_cons pe_int (pa_cons (pe_un un_neg pe_int) (pa_cons pe_int (pa_cons pe_bl (pa_cons pe_bl (pa_cons pe_non (pa_cons pe_str (pa_cons (pe_lst (pa_cons pe_int pa_nil)) (pa_cons (pe_tup (pa_cons pe_int (pa_cons pe_int pa_nil))) (pa_cons (pe_op op_pow pe_int pe_int) pa_nil)))))))))))))
    (pss_cons (ps_setLc (i := 6) (own := [("_law_one", 9)]) (g := gName 9) (tt := tYes) (by rfl) sc_law_right.nd rfl rfl (sw_true rfl rfl rfl (by decide +kernel)) (pi_list (pv 7)) (blkOk_by (N := ["_law_pot_here", "_law_raws", "_law_raw_here", "_law_turn", "_law_pairs_here", "_law_given", "_law_told", "_law_values", "_law_due", "_law_one"]) (sc := defScope s_law_right) (by decide +kernel)) (fun _ _ _ _ _ => pg_name (i := 9) sc_law_right.nd rfl (Or.inl rfl)) (fun _ _ _ _ _ => pts_nil) (fun _ _ _ _ _ => (pe_lst (pa_cons (pe_fn (ok_is_number T) gg (hr.mono (by decide)) rfl T.g_is_number T.F_is_number.kp (b_is_number T) .nil pass0 (pa_cons (pv 9) pa_nil)) (pa_cons (pe_fn (ok_is_integer T) gg (hr.mono (by decide)) rfl T.g_is_integer T.F_is_integer.kp (b_is_integer T) .nil pass0 (pa_cons (pv 9) pa_nil)) (pa_cons (pe_fn (ok_is_count T) gg (hr.mono (by decide)) rfl T.g_is_count T.F_is_count.kp (b_is_count T) .nil pass0 (pa_cons (pv 9) pa_nil)) pa_nil))))))
    (pss_cons (ps_set (i := 8) sc_law_right.nd rfl (Or.inl rfl) (pe_lst (pa_cons (pe_lst (pa_cons pe_bl (pa_cons pe_bl (pa_cons pe_bl pa_nil)))) (pa_cons (pe_lst (pa_cons pe_bl (pa_cons pe_bl (pa_cons pe_bl pa_nil)))) (pa_cons (pe_lst (pa_cons pe_bl (pa_cons pe_bl (pa_cons pe_bl pa_nil)))) (pa_cons (pe_lst (pa_cons pe_bl (pa_cons pe_bl (pa_cons pe_bl pa_nil)))) pa_nil))))))
    (pss_one (ps_ret (pe_cmpR (op_eqD hr.units) (pv 6) (pe_op op_cat (pe_op op_cat (pv 8) (pe_lc (own := [("_law_turn", 3)]) (g := gName 3) (tt := tYes) (by rfl) sc_law_right.nd (pi_range1 (by rfl) T.n_range (pa_cons pe_int pa_nil)) (blkOk_by (N := ["_law_pot_here", "_law_raws", "_law_raw_here", "_law_turn", "_law_pairs_here", "_law_given", "_law_told", "_law_values", "_law_due", "_law_one"]) (sc := defScope s_law_right) (by decide +kernel)) (fun _ _ _ _ _ => pg_name (i := 3) sc_law_right.nd rfl (Or.inl rfl)) (fun _ _ _ _ _ => pts_nil) (fun _ _ _ _ _ => (pe_op op_rep (pe_lst (pa_cons pe_bl pa_nil)) pe_int)))) (pe_lst (pa_cons (pe_lst (pa_cons pe_bl (pa_cons pe_bl (pa_cons pe_bl pa_nil)))) pa_nil))) (nomark _))))))))))))))), ?_⟩
  refine ⟨_, rfl, by decide, by decide, fun D hD => lc_range (lo := 0) (n := 6) (fun i H2 => ∃ xs qs, RS H2 p D xs qs RawS ∧ xs.length = i) ⟨[], [], ⟨hp.same (Same.put hD), upd_same, ?_, ⟨rfl, fun i x e => by simp at e⟩⟩, rfl⟩ ?_ ?_⟩
  · obtain ⟨u, v, e, _⟩ := hp
    exact (ne_of_none e hD).symm
  · rintro i H2 hi ⟨xs, qs, R, hl⟩
    refine ⟨rfl, ?_⟩
    refine yes_if ?_
    refine ⟨_, rfl, p, rfl, R.pot, fun q a H3 rq ha np hp3 ta sb => ?_⟩
    have R3 := R.sb hp3 sb
    exact ⟨xs, R3.lst, Nat.lt_of_lt_of_le (by omega : xs.length < 1000) (szl (by omega)), xs ++ [.ref a], qs ++ [q], R3.push ta rq, by simp [hl]⟩
  rintro H2 ⟨xs, qs, R, hl⟩
  have hql : qs.length = 6 := by rw [← R.raws.len]; exact hl
  -- three times the first
  obtain ⟨a0, q0, e0, f0, t0, r0⟩ := R.raws.at_ 0 xs[0] (List.getElem?_eq_getElem (by omega))
  obtain ⟨a1, q1, e1, f1, t1, r1⟩ := R.raws.at_ 1 xs[1] (List.getElem?_eq_getElem (by omega))
  have g0 : xs[0]? = some (.ref a0) := by rw [← e0]; exact List.getElem?_eq_getElem (by omega)
  have g1 : xs[1]? = some (.ref a1) := by rw [← e1]; exact List.getElem?_eq_getElem (by omega)
  have s3 : Sz 2 3 := by unfold Sz; decide
  refine ⟨_, rfl, .inl ⟨rfl, _, SqL.of R.lst⟩, _, rfl, D, _, _, .ref a0, rfl, rfl, SqL.of R.lst, at_of (j := 0) rfl g0, a0, _, _, _, rfl, rfl, SqT.of t0, at_of (j := 0) rfl rfl, _, _, rfl, rfl, mw r0.st s3 (by decide) (by decide) (by decide), ?_⟩
  refine ⟨_, rfl, D, _, _, .ref a0, rfl, rfl, SqL.of R.lst, at_of (j := 0) rfl g0, a0, _, _, _, rfl, rfl, SqT.of t0, at_of (j := 1) rfl rfl, _, _, rfl, rfl, mw r0.sb s3 (by decide) (by decide) (by decide), ?_⟩
  refine ⟨(by show 2 ≤ sizeLine; decide), fun t ht => ?_⟩
  have u1 : Same H2 (upd H2 t (.tup [.int (q0.1 * 3), .int (q0.2 * 3)])) := Same.put ht
  have tt : TupAt (upd H2 t (.tup [.int (q0.1 * 3), .int (q0.2 * 3)])) t (q0.1 * 3, q0.2 * 3) := upd_same
  generalize upd H2 t (.tup [.int (q0.1 * 3), .int (q0.2 * 3)]) = H3 at u1 tt
  have R3 := (R.to fun _ z => RawS.raw z).same u1
  have w0 : RawP (q0.1 * 3, q0.2 * 3) := ⟨Int.mul_ne_zero r0.nz (by decide), sz_le (sz_mul r0.st s3) (by decide), sz_le (sz_mul r0.sb s3) (by decide)⟩
  refine ⟨D, _, .ref t, rfl, rfl, R3.lst, Nat.lt_of_lt_of_le (by omega : xs.length < 1000) (szl (by omega)), ?_⟩
  have R4 := R3.push tt w0
  have t1b := (t1.same u1).lst (ys := xs ++ [.ref t]) R3.lst
  generalize upd H3 D (.lst (xs ++ [.ref t])) = H4 at R4 t1b
  -- nought
  have g1b : (xs ++ [V.ref t])[1]? = some (.ref a1) := by rw [List.getElem?_append_left (by omega)]; exact g1
  refine ⟨_, rfl, .inl ⟨rfl, _, SqL.of R4.lst⟩, _, rfl, D, _, _, .ref a1, rfl, rfl, SqL.of R4.lst, at_of (j := 1) rfl g1b, a1, _, _, _, rfl, rfl, SqT.of t1b, at_of (j := 1) rfl rfl, (by show 2 ≤ sizeLine; decide), fun t5 ht5 => ?_⟩
  have u5 : Same H4 (upd H4 t5 (.tup [.int 0, .int q1.2])) := Same.put ht5
  have tt5 : TupAt (upd H4 t5 (.tup [.int 0, .int q1.2])) t5 (0, q1.2) := upd_same
  generalize upd H4 t5 (.tup [.int 0, .int q1.2]) = H5 at u5 tt5
  have R5 := R4.same u5
  have w1 : RawP (0, q1.2) := ⟨r1.nz, show Sz 128 (0 : Int) by unfold Sz; decide, r1.raw.sb⟩
  have l7 : (xs ++ [V.ref t]).length = 7 := by simp [hl]
  refine ⟨D, _, .ref t5, rfl, rfl, R5.lst, Nat.lt_of_lt_of_le (by omega : (xs ++ [V.ref t]).length < 1000) (szl (by omega)), ?_⟩
  have R6 := R5.push tt5 w1
  have l8 : ((xs ++ [V.ref t]) ++ [V.ref t5]).length = 8 := by simp [hl]
  have m8 : ((qs ++ [(q0.1 * 3, q0.2 * 3)]) ++ [(0, q1.2)]).length = 8 := by simp [hql]
  generalize (xs ++ [V.ref t]) ++ [V.ref t5] = ys at R6 l8
  generalize (qs ++ [(q0.1 * 3, q0.2 * 3)]) ++ [(0, q1.2)] = zs at R6 m8
  generalize upd H5 D (.lst ys) = H6 at R6
  clear w1 w0 l7 R5 tt5 u5 R4 t1b R3 tt u1 R r0 r1 t0 t1 g0 g1 g1b e0 e1 f0 f1
  -- one by one
  refine ⟨_, rfl, D, rfl, ⟨_, SqL.of R6.lst⟩, for_list (K := K) (a := D) (xs := ys) (fun i σ H3 => ∃ v, σ = [some (.ref p), some (.ref D), v, none, none, none, none, none, none, none] ∧ RS H3 p D ys zs RawP)
    ⟨none, rfl, R6⟩ (fun i σ H3 _ ⟨_, _, R⟩ => SqL.of R.lst) ?_ ?_⟩
  · rintro i x σ H3 hx ⟨v, rfl, R⟩
    obtain ⟨a, q, rfl, hq, ta, rq⟩ := R.raws.at_ i x hx
    refine ⟨_, rfl, a, q, rfl, ta, rq, fun H4 s4 => ⟨_, rfl, ?_⟩⟩
    exact iteF ⟨_, rfl, R.same s4⟩
  rintro σ H7 ⟨v7, rfl, R7⟩
  -- two by two
  refine ⟨_, rfl, by decide, by decide, for_range (lo := 0) (n := 12) (fun i σ H3 => ∃ v, σ = [some (.ref p), some (.ref D), v7, v, none, none, none, none, none, none] ∧ RS H3 p D ys zs RawP)
    ⟨none, rfl, R7⟩ ?_ ?_⟩
  · rintro i σ H3 hi ⟨v, rfl, R⟩
    refine ⟨_, rfl, _, rfl, p, D, ys, rfl, R.pot, R.lst, R.ne, by omega, by omega, fun i1 x1 H4 ex1 hp4 sb4 => ?_⟩
    have R4 := R.sb hp4 sb4
    refine ⟨_, rfl, _, rfl, p, D, ys, rfl, R4.pot, R4.lst, R4.ne, by omega, by omega, fun i2 x2 H5 ex2 hp5 sb5 => ?_⟩
    have R5 := R4.sb hp5 sb5
    refine ⟨_, rfl, p, 41, rfl, R5.pot, by decide, by decide, fun d H6 d0 d1 hp6 sb6 => ⟨_, _, rfl, rfl, ?_⟩⟩
    have R6 := R5.sb hp6 sb6
    obtain ⟨a, q, rfl, hq, ta, rq⟩ := R6.raws.at_ i1 x1 ex1
    obtain ⟨b, z, rfl, hz, tb, rz⟩ := R6.raws.at_ i2 x2 ex2
    refine ⟨a, b, d - 20, q, z, rfl, ta, tb, rq, rz, by unfold Sz; omega, fun H8 s8 => ⟨_, rfl, ?_⟩⟩
    exact iteF ⟨_, rfl, R6.same s8⟩
  rintro σ H8 ⟨v8, rfl, R8⟩
  -- the pairs
  obtain ⟨ls, els⟩ : ∃ ls, ls = zs.map (fun q : Int × Int => nrm q.1 q.2) := ⟨_, rfl⟩
  have n8 : ls.length = 8 := by rw [els, List.length_map]; exact m8
  have lsat : ∀ (i : Nat) q, zs[i]? = some q → ls[i]? = some (nrm q.1 q.2) := fun i q e => by rw [els, List.getElem?_map, e]; rfl
  refine ⟨_, rfl, D, rfl, ⟨_, SqL.of R8.lst⟩, fun B1 hB1 => lc_list (K := K) (a := D) (xs := ys) (fun i H3 => ∃ us, H3 B1 = some (.lst us) ∧ RS H3 p D ys zs RawP ∧ PairsAt H3 128 us (ls.take i) ∧ us.length = i)
    ⟨[], upd_same, R8.same (Same.put hB1), ⟨by simp, fun i x e => by simp at e⟩, rfl⟩ (fun i H3 _ ⟨_, _, R, _⟩ => SqL.of R.lst) ?_ ?_⟩
  · rintro i x H3 hx ⟨us, hb, R, N, hn⟩
    obtain ⟨a, q, rfl, hq, ta, rq⟩ := R.raws.at_ i x hx
    have hi : i < ys.length := (List.getElem?_eq_some_iff.mp hx).1
    have nD : B1 ≠ D := fun z => by rw [z, R8.lst] at hB1; cases hB1
    have nP : B1 ≠ p := fun z => by
      obtain ⟨u, v, e, _⟩ := R8.pot
      rw [z, e] at hB1
      cases hB1
    refine ⟨rfl, ?_⟩
    refine yes_if ?_
    refine ⟨_, rfl, a, _, _, _, rfl, rfl, SqT.of ta, at_of (j := 0) rfl rfl, _, rfl, a, _, _, _, rfl, rfl, SqT.of ta, at_of (j := 1) rfl rfl, q.1, q.2, rfl, rq.nz, sz_le rq.sb (by decide), fun t4 H4 ht4 e4 => ?_⟩
    have s4 : Same H3 H4 := by rw [e4]; exact Same.put ht4
    have T4 : TupAt H4 t4 (nrm q.1 q.2) := by rw [e4]; exact upd_same
    have hb4 := s4 _ _ hb
    refine ⟨us, hb4, Nat.lt_of_lt_of_le (by omega : us.length < 1000) (szl (by omega)), us ++ [.ref t4], upd_same, (R.same s4).updl hb4 nD nP, ?_, by simp [hn]⟩
    rw [take_more (lsat i q hq)]
    exact (PairsAt.more (PairsAt.mk N.len fun j y e => let ⟨a, q, e0, e1, e2, e3⟩ := N.at_ j y e; ⟨a, q, e0, e1, e2.same s4, e3⟩) T4 (nrm_sz rq.nz rq.st rq.sb)).lst hb4
  rintro H9 ⟨us, hb9, R9, N9, hn⟩
  rw [R9.raws.len, m8, ← n8, List.take_length] at N9
  -- the numbers
  refine ⟨_, rfl, D, rfl, ⟨_, SqL.of R9.lst⟩, fun B2 hB2 => lc_list (K := K) (a := D) (xs := ys) (fun i H3 => ∃ ws, H3 B2 = some (.lst ws) ∧ H3 B1 = some (.lst us) ∧ PairsAt H3 128 us ls ∧ RS H3 p D ys zs RawP ∧ RatsAt (CR K) H3 128 ws (ls.take i) ∧ ws.length = i)
    ⟨[], upd_same, Same.put hB2 _ _ hb9, N9.same (Same.put hB2), R9.same (Same.put hB2), ⟨by simp, fun i x e => by simp at e⟩, rfl⟩ (fun i H3 _ ⟨_, _, _, _, R, _⟩ => SqL.of R.lst) ?_ ?_⟩
  · rintro i x H3 hx ⟨ws, hc, hb, N, R, M, hm⟩
    obtain ⟨a, q, rfl, hq, ta, rq⟩ := R.raws.at_ i x hx
    have hi : i < ys.length := (List.getElem?_eq_some_iff.mp hx).1
    have nD : B2 ≠ D := fun z => by rw [z, R9.lst] at hB2; cases hB2
    have nP : B2 ≠ p := fun z => by
      obtain ⟨u, v, e, _⟩ := R9.pot
      rw [z, e] at hB2
      cases hB2
    have nB : B1 ≠ B2 := fun z => by rw [← z, hb9] at hB2; cases hB2
    refine ⟨rfl, ?_⟩
    refine yes_if ?_
    refine ⟨_, rfl, a, _, _, _, rfl, rfl, SqT.of ta, at_of (j := 0) rfl rfl, _, rfl, a, _, _, _, rfl, rfl, SqT.of ta, at_of (j := 1) rfl rfl, fun x4 d4 m1 m2 m3 => ?_⟩
    refine mkA m1 m2 rq.nz (sz_le rq.sb (by decide)) fun H4 s4 T4 => ?_
    have hc4 := s4 _ _ hc
    refine ⟨ws, hc4, Nat.lt_of_lt_of_le (by omega : ws.length < 1000) (szl (by omega)), ws ++ [.ref x4], upd_same, by rw [upd_ne nB]; exact s4 _ _ hb, (N.same s4).lst hc4, (R.same s4).updl hc4 nD nP, ?_, by simp [hm]⟩
    rw [take_more (lsat i q hq)]
    exact ((M.same s4).more T4 (nrm_sz rq.nz rq.st rq.sb)).updl hc4
  rintro H10 ⟨ws, hc, hb, N, R, M, hm⟩
  rw [R.raws.len, m8, ← n8, List.take_length] at M
  have hm8 : ws.length = 8 := by rw [hm, l8]
  have hu8 : us.length = 8 := by rw [hn, l8]
  clear R N9 R9 hB1 hB2 R8 lsat els
  -- seven more
  refine ⟨(by show 1 ≤ sizeLine; decide), fun l1 hl1 => ?_⟩
  have s1 : Same H10 (upd H10 l1 (.lst [.int 7])) := Same.put hl1
  refine ⟨B2, l1, _, _, rfl, rfl, s1 _ _ hc, upd_same, szl (by show ws.length + 1 ≤ 10000; omega), fun g hg => ?_⟩
  have s2 : Same (upd H10 l1 (.lst [.int 7])) (upd (upd H10 l1 (.lst [.int 7])) g (.lst (ws ++ [.int 7]))) := Same.put hg
  have hgv : (upd (upd H10 l1 (.lst [.int 7])) g (.lst (ws ++ [.int 7]))) g = some (.lst (ws ++ [.int 7])) := upd_same
  generalize upd (upd H10 l1 (.lst [.int 7])) g (.lst (ws ++ [.int 7])) = H11 at s2 hgv
  have s12 := s1.trans s2
  have hb11 := s12 _ _ hb
  have N11 := N.same s12
  have o7 : OkP 128 ((7, 1) : Int × Int) := ⟨(show (0 : Int) < 1 by decide), (show Sz 128 (7 : Int) by unfold Sz; decide), (show Sz 128 (1 : Int) by unfold Sz; decide)⟩
  have M11 := NumsAt.of (M.same s12) 7 o7
  have q9 : (ls ++ [((7, 1) : Int × Int)]).length = 9 := by simp [n8]
  have lsok : ∀ (i : Nat) q, (ls ++ [((7, 1) : Int × Int)])[i]? = some q → OkP 128 q := fun i q e => by
    have hi : i < (ws ++ [V.int 7]).length := by
      have := (List.getElem?_eq_some_iff.mp e).1
      rw [M11.len]
      exact this
    obtain ⟨q2, e1, _, o⟩ := M11.at_ i _ (List.getElem?_eq_getElem hi)
    rw [e] at e1
    cases e1
    exact o
  have sok := okp_le (sumP_ok lsok) (show 1 + (ls ++ [((7, 1) : Int × Int)]).length * (128 + 1) ≤ 2000 by rw [q9]; decide)
  clear lsok o7 M N s1 s2 s12 hc hb
  generalize hq9 : ls ++ [((7, 1) : Int × Int)] = qs9 at M11 q9 sok
  -- totals
  refine ⟨rfl, _, rfl, g, _, qs9, 128, rfl, .inl hgv, M11, by decide, by decide, by omega, fun c1 G1 v1 C1 => ?_⟩
  have hg1 := v1 _ _ hgv
  refine ⟨rfl, _, rfl, g, _, rfl, .inl ⟨SqL.of hg1, fun tg htg => ?_⟩⟩
  have y1 : Same G1 (upd G1 tg (.tup (ws ++ [.int 7]))) := Same.put htg
  have htv : (upd G1 tg (.tup (ws ++ [.int 7]))) tg = some (.tup (ws ++ [.int 7])) := upd_same
  generalize upd G1 tg (.tup (ws ++ [.int 7])) = G2 at y1 htv
  have k2 := v1.trans y1
  refine ⟨tg, _, qs9, 128, rfl, .inr htv, M11.same k2, by decide, by decide, by omega, fun c2 G3 v3 C2 => ?_⟩
  have k3 := k2.trans v3
  refine ⟨rfl, _, rfl, rfl, g, _, qs9, 128, rfl, .inl (k3 _ _ hgv), M11.same k3, by decide, by decide, by omega, fun c3 G4 v4 C3 => ?_⟩
  have k4 := k3.trans v4
  refine ⟨rfl, (by show 0 ≤ sizeLine; decide), fun le hle => ?_⟩
  have y5 : Same G4 (upd G4 le (.lst [])) := Same.put hle
  have hev : (upd G4 le (.lst [])) le = some (.lst []) := upd_same
  generalize upd G4 le (.lst []) = G5 at y5 hev
  refine ⟨le, [], [], 1, rfl, .inl hev, ⟨rfl, fun i x e => by simp at e⟩, by decide, by decide, by decide, fun c4 G6 v6 C4 => ?_⟩
  refine ⟨(by show 4 ≤ sizeLine; decide), fun lt hlt => ?_⟩
  have k6 := k4.trans (y5.trans v6)
  have z1 := (y1.trans v3).trans (v4.trans (y5.trans v6))
  have z2 := v4.trans (y5.trans v6)
  have z3 := y5.trans v6
  have y7 : Same G6 (upd G6 lt (.lst [.ref c1, .ref c2, .ref c3, .ref c4])) := Same.put hlt
  have htl : (upd G6 lt (.lst [.ref c1, .ref c2, .ref c3, .ref c4])) lt = some (.lst [.ref c1, .ref c2, .ref c3, .ref c4]) := upd_same
  have o01 : OkP 2000 (sumP []) := okp_le (show OkP 1 ((0, 1) : Int × Int) from ⟨by decide, by unfold Sz; decide, by unfold Sz; decide⟩) (by decide)
  have RS4 : RatsAt (CR K) (upd G6 lt (.lst [.ref c1, .ref c2, .ref c3, .ref c4])) 2000 [.ref c1, .ref c2, .ref c3, .ref c4] [sumP qs9, sumP qs9, sumP qs9, sumP []] :=
    .cons ((C1.same z1).same y7) sok (.cons ((C2.same z2).same y7) sok (.cons ((C3.same z3).same y7) sok (.cons (C4.same y7) o01 .nil)))
  generalize upd G6 lt (.lst [.ref c1, .ref c2, .ref c3, .ref c4]) = G7 at y7 htl RS4
  have k7 := k6.trans y7
  -- as pairs
  refine ⟨_, rfl, lt, _, _, 2000, rfl, htl, RS4, (by show 4 ≤ 100; decide), fun lp yp G8 v8' hlp PS => ?_⟩
  have k8 := k7.trans v8'
  refine ⟨_, rfl, (by show 2 ≤ sizeLine; decide), fun t7 ht7 => ?_⟩
  have y9 : Same G8 (upd G8 t7 (.tup [.int 7, .int 1])) := Same.put ht7
  have T7 : TupAt (upd G8 t7 (.tup [.int 7, .int 1])) t7 (7, 1) := upd_same
  generalize upd G8 t7 (.tup [.int 7, .int 1]) = G9 at y9 T7
  refine ⟨(by show 1 ≤ sizeLine; decide), fun l7 hl7 => ?_⟩
  have y10 : Same G9 (upd G9 l7 (.lst [.ref t7])) := Same.put hl7
  have L7 : (upd G9 l7 (.lst [.ref t7])) l7 = some (.lst [.ref t7]) := upd_same
  generalize upd G9 l7 (.lst [.ref t7]) = G10 at y10 L7
  have k10 := k8.trans (y9.trans y10)
  refine ⟨B1, l7, _, _, rfl, rfl, k10 _ _ hb11, L7, szl (by show us.length + 1 ≤ 10000; omega), fun g7 hg7 => ?_⟩
  have y11 : Same G10 (upd G10 g7 (.lst (us ++ [.ref t7]))) := Same.put hg7
  have L8 : (upd G10 g7 (.lst (us ++ [.ref t7]))) g7 = some (.lst (us ++ [.ref t7])) := upd_same
  generalize upd G10 g7 (.lst (us ++ [.ref t7])) = G11 at y11 L8
  have k11 := k10.trans y11
  have P9 : PairsAt G11 128 (us ++ [.ref t7]) qs9 := by
    rw [← hq9]
    exact (N11.same k11).more ((T7.same y10).same y11) ⟨(show (0 : Int) < 1 by decide), (show Sz 128 (7 : Int) by unfold Sz; decide), (show Sz 128 (1 : Int) by unfold Sz; decide)⟩
  refine ⟨g7, _, qs9, 128, rfl, L8, P9, by decide, by decide, by omega, fun tq G12 v12 T12 => ?_⟩
  refine ⟨(by show 1 ≤ sizeLine; decide), fun l9 hl9 => ?_⟩
  have y13 : Same G12 (upd G12 l9 (.lst [.ref tq])) := Same.put hl9
  have L9 : (upd G12 l9 (.lst [.ref tq])) l9 = some (.lst [.ref tq]) := upd_same
  generalize upd G12 l9 (.lst [.ref tq]) = G13 at y13 L9
  refine ⟨l9, 3, _, rfl, rfl, L9, by decide, by decide, (by show 1 * 3 ≤ sizeLine; decide), fun l10 hl10 => ?_⟩
  have hrep : (List.replicate (Int.toNat 3) [V.ref tq]).flatten = [V.ref tq, V.ref tq, V.ref tq] := rfl
  rw [hrep]
  have y14 : Same G13 (upd G13 l10 (.lst [.ref tq, .ref tq, .ref tq])) := Same.put hl10
  have L10 : (upd G13 l10 (.lst [.ref tq, .ref tq, .ref tq])) l10 = some (.lst [.ref tq, .ref tq, .ref tq]) := upd_same
  generalize upd G13 l10 (.lst [.ref tq, .ref tq, .ref tq]) = G13b at y14 L10
  refine ⟨(by show 2 ≤ sizeLine; decide), fun t11 ht11 => ?_⟩
  have y15 : Same G13b (upd G13b t11 (.tup [.int 0, .int 1])) := Same.put ht11
  have T11 : TupAt (upd G13b t11 (.tup [.int 0, .int 1])) t11 (0, 1) := upd_same
  generalize upd G13b t11 (.tup [.int 0, .int 1]) = G13c at y15 T11
  refine ⟨(by show 1 ≤ sizeLine; decide), fun l12 hl12 => ?_⟩
  have y16 : Same G13c (upd G13c l12 (.lst [.ref t11])) := Same.put hl12
  have L12 : (upd G13c l12 (.lst [.ref t11])) l12 = some (.lst [.ref t11]) := upd_same
  generalize upd G13c l12 (.lst [.ref t11]) = G14 at y16 L12
  have T12b := ((T12.same y13).same y14).same (y15.trans y16)
  have T11b := T11.same y16
  have L10b := (y15.trans y16) _ _ L10
  have y816 := (((y9.trans y10).trans (y11.trans v12)).trans (y13.trans y14)).trans (y15.trans y16)
  refine ⟨l10, l12, _, _, rfl, rfl, L10b, L12, (by show 3 + 1 ≤ sizeLine; decide), fun l13 hl13 => ?_⟩
  have y17 : ∀ o, Same G14 (upd G14 l13 o) := fun o => Same.put hl13
  refine ne_same (d := .list [dP (sumP qs9), dP (sumP qs9), dP (sumP qs9), dP (0, 1)]) (.lst (SqL.of (y17 _ _ _ (y816 _ _ hlp))) ((PS.same y816).same (y17 _)).all)
    (.lst (SqL.of upd_same) (.cons (dp_pair (T12b.same (y17 _))) (.cons (dp_pair (T12b.same (y17 _))) (.cons (dp_pair (T12b.same (y17 _))) (.cons (dp_pair (T11b.same (y17 _))) .nil))))) (by rfl) ⟨false, rfl, ?_⟩
  refine iteF ?_
  clear P9 L7 L8 L9 L10 L12 L10b T12b T11b T11 T12 T7 RS4 htl C1 C2 C3 C4 M11 N11 PS y816 hlp
  generalize upd G14 l13 _ = G15
  clear y17
  -- values
  refine ⟨_, rfl, (by show 1 ≤ sizeLine; decide), fun la hla => ?_⟩
  have j1 : Same G15 (upd G15 la (.lst [.int 1])) := Same.put hla
  have La : (upd G15 la (.lst [.int 1])) la = some (.lst [.int 1]) := upd_same
  generalize upd G15 la (.lst [.int 1]) = J1 at j1 La
  refine ⟨(by show 2 ≤ sizeLine; decide), fun lb hlb => ?_⟩
  have j2 : Same J1 (upd J1 lb (.tup [.int 1, .int 2])) := Same.put hlb
  have Lb : (upd J1 lb (.tup [.int 1, .int 2])) lb = some (.tup [.int 1, .int 2]) := upd_same
  have La2 := j2 _ _ La
  generalize upd J1 lb (.tup [.int 1, .int 2]) = J2 at j2 Lb La2
  refine ⟨_, _, rfl, rfl, ⟨by decide, by decide, by decide⟩, (by show 11 ≤ sizeLine; decide), fun lv hlv => ?_⟩
  have j3' : ∀ o, Same J2 (upd J2 lv o) := fun o => Same.put hlv
  have Lv' : ∀ o, (upd J2 lv o) lv = some o := fun o => upd_same
  have j3 := j3' (.lst (valsOf la lb))
  have Lv := Lv' (.lst (valsOf la lb))
  have La3 := j3 _ _ La2
  have Lb3 := j3 _ _ Lb
  change gName 7 (.ref lv) _ (upd J2 lv (.lst (valsOf la lb))) _
  generalize upd J2 lv (.lst (valsOf la lb)) = J3 at j3 Lv La3 Lb3
  clear j3' Lv' La2 Lb La j1 j2
  -- what is told
  refine ⟨_, rfl, lv, rfl, ⟨_, SqL.of Lv⟩, fun B3 hB3 => lc_list (K := K) (a := lv) (xs := valsOf la lb) (fun i H3 => ∃ os, H3 B3 = some (.lst os) ∧ Same J3 H3 ∧ TrisAt H3 B3 os (tris.take i) ∧ os.length = i)
    ⟨[], upd_same, Same.put hB3, ⟨by simp, fun i x e => by simp at e⟩, rfl⟩ (fun i H3 _ ⟨_, _, s, _⟩ => SqL.of (s _ _ Lv)) ?_ ?_⟩
  · rintro i x H3 hx ⟨os, hb3, sJ, M, hm3⟩
    obtain ⟨b, hb, hnum, hint, hcnt, ec⟩ := vals_ok T (sJ _ _ La3) (sJ _ _ Lb3) hx
    have hi : i < 11 := (List.getElem?_eq_some_iff.mp hx).1
    refine ⟨rfl, ?_⟩
    refine yes_if ?_
    refine ⟨_, rfl, x, _, rfl, hnum, _, rfl, x, _, rfl, hint, _, rfl, x, rfl, hcnt, (by show 3 ≤ sizeLine; decide), fun l hl => ?_⟩
    rw [ec]
    have n : l ≠ B3 := (ne_of_none hb3 hl).symm
    have s4 : Same H3 (upd H3 l (.lst (vT b))) := Same.put hl
    have L4 : (upd H3 l (.lst (vT b))) l = some (.lst (vT b)) := upd_same
    have hb4 := s4 _ _ hb3
    refine ⟨os, hb4, Nat.lt_of_lt_of_le (by omega : os.length < 1000) (szl (by omega)), os ++ [.ref l], upd_same, Same.lst (sJ.trans s4) hB3, ?_, by simp [hm3]⟩
    rw [take_more hb]
    exact (M.same s4).push n L4
  rintro J4 ⟨os, hb3, sJ, M, hm3⟩
  change TrisAt J4 B3 os tris at M
  -- what is due
  refine ⟨(by show 3 ≤ sizeLine; decide), fun d1 hd1 => ?_⟩
  have x1 : Same J4 (upd J4 d1 (.lst [.bl true, .bl true, .bl true])) := Same.put hd1
  have D1 : (upd J4 d1 (.lst [.bl true, .bl true, .bl true])) d1 = some (.lst [.bl true, .bl true, .bl true]) := upd_same
  generalize upd J4 d1 (.lst [.bl true, .bl true, .bl true]) = J5 at x1 D1
  refine ⟨(by show 3 ≤ sizeLine; decide), fun d2 hd2 => ?_⟩
  have x2 : Same J5 (upd J5 d2 (.lst [.bl true, .bl true, .bl true])) := Same.put hd2
  have D2 : (upd J5 d2 (.lst [.bl true, .bl true, .bl true])) d2 = some (.lst [.bl true, .bl true, .bl true]) := upd_same
  generalize upd J5 d2 (.lst [.bl true, .bl true, .bl true]) = J6 at x2 D2
  refine ⟨(by show 3 ≤ sizeLine; decide), fun d3 hd3 => ?_⟩
  have x3 : Same J6 (upd J6 d3 (.lst [.bl true, .bl true, .bl false])) := Same.put hd3
  have D3 : (upd J6 d3 (.lst [.bl true, .bl true, .bl false])) d3 = some (.lst [.bl true, .bl true, .bl false]) := upd_same
  generalize upd J6 d3 (.lst [.bl true, .bl true, .bl false]) = J7 at x3 D3
  refine ⟨(by show 3 ≤ sizeLine; decide), fun d4 hd4 => ?_⟩
  have x4 : Same J7 (upd J7 d4 (.lst [.bl true, .bl true, .bl true])) := Same.put hd4
  have D4 : (upd J7 d4 (.lst [.bl true, .bl true, .bl true])) d4 = some (.lst [.bl true, .bl true, .bl true]) := upd_same
  generalize upd J7 d4 (.lst [.bl true, .bl true, .bl true]) = J8 at x4 D4
  refine ⟨(by show 4 ≤ sizeLine; decide), fun du hdu => ?_⟩
  have x5 : Same J8 (upd J8 du (.lst [.ref d1, .ref d2, .ref d3, .ref d4])) := Same.put hdu
  have Du : (upd J8 du (.lst [.ref d1, .ref d2, .ref d3, .ref d4])) du = some (.lst [.ref d1, .ref d2, .ref d3, .ref d4]) := upd_same
  generalize upd J8 du (.lst [.ref d1, .ref d2, .ref d3, .ref d4]) = J9 at x5 Du
  have E1 := (x2.trans (x3.trans (x4.trans x5))) _ _ D1
  have E2 := (x3.trans (x4.trans x5)) _ _ D2
  have E3 := (x4.trans x5) _ _ D3
  have E4 := x5 _ _ D4
  have x49 := x1.trans (x2.trans (x3.trans (x4.trans x5)))
  have M9 := M.same x49
  have hb9' := x49 _ _ hb3
  clear x1 x2 x3 x4 x5 D1 D2 D3 D4 x49
  -- the last comparison
  refine ⟨_, rfl, _, rfl, _, rfl, by decide, by decide, fun B4 hB4 => lc_range (lo := 0) (n := 6) (fun i H3 => ∃ os2, H3 B4 = some (.lst os2) ∧ Same J9 H3 ∧ TrisAt H3 B4 os2 (List.replicate i (false, false, false)) ∧ os2.length = i)
    ⟨[], upd_same, Same.put hB4, TrisAt.nil, rfl⟩ ?_ ?_⟩
  · rintro i H3 hi ⟨os2, hb4, s4, M4, hm4⟩
    refine ⟨rfl, ?_⟩
    refine yes_if ?_
    refine ⟨(by show 1 ≤ sizeLine; decide), fun l hl => ?_⟩
    have y1 : Same H3 (upd H3 l (.lst [.bl false])) := Same.put hl
    have L1 : (upd H3 l (.lst [.bl false])) l = some (.lst [.bl false]) := upd_same
    generalize upd H3 l (.lst [.bl false]) = H4 at y1 L1
    refine ⟨l, 3, _, rfl, rfl, L1, by decide, by decide, (by show 1 * 3 ≤ sizeLine; decide), fun l2 hl2 => ?_⟩
    have hrep2 : (List.replicate (Int.toNat 3) [V.bl false]).flatten = [V.bl false, V.bl false, V.bl false] := rfl
    rw [hrep2]
    have y2 : Same H4 (upd H4 l2 (.lst [.bl false, .bl false, .bl false])) := Same.put hl2
    have L2' : (upd H4 l2 (.lst [.bl false, .bl false, .bl false])) l2 = some (.lst [.bl false, .bl false, .bl false]) := upd_same
    have hb5 := y1 _ _ hb4
    have n : l2 ≠ B4 := (ne_of_none hb5 hl2).symm
    have y12 := y1.trans y2
    refine ⟨os2, y12 _ _ hb4, Nat.lt_of_lt_of_le (by omega : os2.length < 1000) (szl (by omega)), os2 ++ [.ref l2], upd_same, Same.lst (s4.trans y12) hB4, ?_, by simp [hm4]⟩
    rw [List.replicate_succ']
    exact (M4.same y12).push n L2'
  rintro J10 ⟨os2, hb4, s10, M10, hm4⟩
  refine ⟨du, B4, _, _, rfl, rfl, s10 _ _ Du, hb4, szl (by show 4 + os2.length ≤ 10000; omega), fun c1 hc1 => ?_⟩
  have x11 : Same J10 (upd J10 c1 (.lst ([.ref d1, .ref d2, .ref d3, .ref d4] ++ os2))) := Same.put hc1
  have C1' : (upd J10 c1 (.lst ([.ref d1, .ref d2, .ref d3, .ref d4] ++ os2))) c1 = some (.lst ([.ref d1, .ref d2, .ref d3, .ref d4] ++ os2)) := upd_same
  generalize upd J10 c1 (.lst ([.ref d1, .ref d2, .ref d3, .ref d4] ++ os2)) = J11 at x11 C1'
  refine ⟨(by show 3 ≤ sizeLine; decide), fun d5 hd5 => ?_⟩
  have x12 : Same J11 (upd J11 d5 (.lst [.bl true, .bl true, .bl true])) := Same.put hd5
  have D5 : (upd J11 d5 (.lst [.bl true, .bl true, .bl true])) d5 = some (.lst [.bl true, .bl true, .bl true]) := upd_same
  generalize upd J11 d5 (.lst [.bl true, .bl true, .bl true]) = J12 at x12 D5
  refine ⟨(by show 1 ≤ sizeLine; decide), fun d6 hd6 => ?_⟩
  have x13 : Same J12 (upd J12 d6 (.lst [.ref d5])) := Same.put hd6
  have D6 : (upd J12 d6 (.lst [.ref d5])) d6 = some (.lst [.ref d5]) := upd_same
  generalize upd J12 d6 (.lst [.ref d5]) = J13 at x13 D6
  refine ⟨c1, d6, _, _, rfl, rfl, (x12.trans x13) _ _ C1', D6, szl (by show ([V.ref d1, .ref d2, .ref d3, .ref d4] ++ os2).length + 1 ≤ 10000; rw [List.length_append]; show 4 + os2.length + 1 ≤ 10000; omega), fun c2 hc2 => ?_⟩
  have x14 : ∀ o, Same J13 (upd J13 c2 o) := fun o => Same.put hc2
  have xa : ∀ o, Same J10 (upd J13 c2 o) := fun o => (x11.trans (x12.trans x13)).trans (x14 o)
  have xb : ∀ o, Same J9 (upd J13 c2 o) := fun o => s10.trans (xa o)
  refine eq_same (d := .list (tris.map dT)) (.lst (SqL.of (xb _ _ _ hb9')) (M9.same (xb _)).all) (.lst (SqL.of upd_same) ?_) (by rfl) (k _)
  refine DpAll.app (ds := [dT (true, true, true), dT (true, true, true), dT (true, true, false), dT (true, true, true)] ++ (List.replicate 6 ((false, false, false) : T3)).map dT) (es := [dT (true, true, true)])
    (DpAll.app ?_ (M10.same (xa _)).all) (.cons (.lst (SqL.of (x14 _ _ _ (x13 _ _ D5))) (.cons (.bl _) (.cons (.bl _) (.cons (.bl _) .nil)))) .nil)
  exact .cons (.lst (SqL.of (xb _ _ _ E1)) (.cons (.bl _) (.cons (.bl _) (.cons (.bl _) .nil)))) (.cons (.lst (SqL.of (xb _ _ _ E2)) (.cons (.bl _) (.cons (.bl _) (.cons (.bl _) .nil))))
    (.cons (.lst (SqL.of (xb _ _ _ E3)) (.cons (.bl _) (.cons (.bl _) (.cons (.bl _) .nil)))) (.cons (.lst (SqL.of (xb _ _ _ E4)) (.cons (.bl _) (.cons (.bl _) (.cons (.bl _) .nil)))) .nil)))
end
end K11

set_option Elab.async false
set_option linter.all false
set_option maxRecDepth 100000
set_option maxHeartbeats 0
namespace K11
open PySem PySem.Spec PyProof.Rows L2 Own
def names0 : List Str := ["__name__", "is_integer", "is_count", "is_list", "MixError", "InvalidNumber", "DividedByZero", "Ratio", "is_number", "as_ratio", "_law_pot", "_law_draw", "_law_pick", "_law_low", "_law_sum", "_law_by", "_law_less", "_law_over", "_law_total", "_law_pair", "_law_pairs", "_law_shown", "_law_raw", "_law_one_right", "_law_two_right", "_law_right"]
def names : List Str := names0

abbrev R : PySem.W.OpenRow := PySem.W.OpenLaw.row PySem.Challenge.rw_producttables_k11_ratios_reckoned
abbrev hk : PySem.W.Hook := hookX 6 fl dl
def ob (s : PySem.W.SharedT) : AlX := obsXG 6 fl dl (HandSHeadRun.getT s)
theorem ob_eq (s : PySem.W.SharedT) : ob s = hk.obs s.abs := obsXG_eq (HandSHeadRun.getT_eq s)
theorem run (w : World) : HandSHeadRun.RunEqI R (PySem.W.view R.prog [0, 30]) hk ob 6000 names w := by
  unfold HandSHeadRun.RunEqI
  kernel_rfl
end K11
open PySem PySem.W PySem.Calls PyProof.Rows
theorem K11.whole (call : WalkO (view K11.R.prog [0, 30]) K11.names (XL (view K11.R.prog [0, 30]) []) K11.hk.says K11.R.toRowW (HandSHeadRun.topDef K11.R.prog 30) [] fun f vs => PySem.call f vs) :
    PySem.Challenge.rw_producttables_k11_ratios_reckoned.Holds := by
  w_on; o_law
  refine HandSHeadRun.head_imp (r := K11.R) (q := view K11.R.prog [0, 30]) (H := K11.hk) (ob := K11.ob) (M := 6000) (loose := K11.names) (d := HandSHeadRun.topDef K11.R.prog 30) (kwd := []) K11.ob_eq
    K11.run (by kernel_rfl) (by kernel_rfl) (by kernel_rfl) (by rfl) (by first | assumption | decide +kernel) (by decide +kernel) ⟨rfl, rfl, rfl, rfl, rfl, by decide +kernel⟩ ?hw call
  case hw => w_witness2

set_option Elab.async false
set_option linter.all false
set_option maxRecDepth 100000
set_option maxHeartbeats 4000000
namespace K11
open PySem PySem.Spec PyProof.Rows L2 Own
open PySem.W (Frag)
section
variable {P : Program} {w : World} {K : Frag} {mg : Str → Option Value} {base : Heap}
def spLaw (K : Frag) : Sp := fun vs H Q _ => ∃ (a : Addr) (ns : List Int), vs = [.ref a] ∧ SqL K H a (ns.map V.int) ∧ ns.length ≤ 63 ∧ ∀ H2, Q (.bl true) H2
theorem ok_law (T : Tx K mg) : FG P w K mg base CX0 9 (ga K "law") (fdOf K (ga K "law")) ["_law_script"] (spLaw K) := by
  refine fg_no T.F_law sc_law (fun vs H Q E h => ?_) (fun cdv A outer s H vs Q E gg hr h => ?_)
  · obtain ⟨a, ns, rfl, _⟩ := h
    rfl
  obtain ⟨a, ns, rfl, hS, hl, k⟩ := h
  refine ⟨_, pss_one (ps_ret (pe_fn (ok_right T) gg hr rfl T.g_law_right T.F_law_right.kp (b_law_right T) .nil pass0
    (pa_cons (pe_fn (ok_pot T) gg (hr.mono (by decide)) rfl T.g_law_pot T.F_law_pot.kp (b_law_pot T) .nil pass0 (pa_cons (pv 0) (pa_cons pe_int pa_nil))) pa_nil))), ?_⟩
  exact ⟨_, rfl, a, ns, rfl, hS, hl, fun p H2 s2 hp => ⟨p, rfl, hp, fun H3 => k H3⟩⟩
end
end K11
open PySem PySem.Spec PyProof.Rows L2 Own
theorem PySem.Challenge.cw_producttables_k11_ratios_reckoned_holds : PySem.Challenge.rw_producttables_k11_ratios_reckoned.Holds := by
  refine K11.whole ?_
  refine end_g (l := PySem.Challenge.rw_producttables_k11_ratios_reckoned) (n := 63) (k := 9) (CX := CX0) (x := "_law_script") rfl (by decide) (by rfl) ⟨rfl, by decide, by decide⟩ (fun w mg fa h Y G hm => ?_) (fun _ _ _ _ z => z)
  obtain ⟨K, KX, c⟩ := Y
  have T := K11.tx_of KX G c
  have e : fa = ga K "law" := by
    have g := T.g_law
    have g2 := hm.symm.trans g
    injection g2 with g3
    injection g3
  subst e
  refine ⟨K, fdOf K (ga K "law"), K11.spLaw K, KX, fun s u => T.F_law.bindsA (ps := ["_law_script"]) (fun _ _ _ _ _ _ us hl => match us, hl with | [_], _ => rfl) s [u] rfl, fun H a ns hl hS => ⟨a, ns, rfl, hS, hl, fun _ => rfl⟩, fun base KB GB => K11.ok_law T⟩
