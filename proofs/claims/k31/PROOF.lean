import PyProof.Rows.All
import Wide.All
import OpenK.AllK
import Wide.FinOn
import HandS.ForMost
import HandS.SlotsOwn
import HandS.Gcd
import KE.KOpsOwn
import KE.KCallOwn
import HandS.OwnEq
import PyProof.FactsAll.int_1
import PyProof.FactsAll.int_3
import PyProof.FactsAll.int_5
import PyProof.FactsAll.object_2
import PyProof.InstEq
import HandS.Text
import HandS.Exc
import HandS.Defaults
import HandS.MakeKwOnly
import HandS.MakeKw
import HandS.Property
import HandS.ClsMeth
import HandS.RaiseMore
import HandS.FStr
import HandS.WideBits
import HandS.IsInst
import HandS.Head2
import HandS.HeadEnd
import HandS.HeadHook2
import HandS.Zip
import HandS.Style
import HandS.Head3
import PySem.Challenge.RW_producttables_k31_whole_lines_reckoned
set_option Elab.async false
set_option linter.all false
set_option maxRecDepth 100000
set_option maxHeartbeats 2000000
namespace Own
open PySem PySem.Spec PyProof.Rows L2

/-- what an operator's def of the class wants: both operands, the promise -/
structure Num (K : PySem.W.Frag) (C : Addr) (nm : String) (g : Addr) : Prop where
  sf : PySem.W.selfFirst K C = true
  fnd : PySem.W.findIn K (.ref C) (PySem.dunder nm) = some (some (.ref g))
  isf : PySem.W.isFn K (.ref g) = true
structure NumR (K : PySem.W.Frag) (C : Addr) (nm : String) (rc : Option Value) : Prop where
  fnd : PySem.W.findIn K (.ref C) (dunderR nm) = some rc
  ok : rc = none ∨ ∃ g : Addr, rc = some (.ref g)
/-- of the built-in type T -/
structure NumT (K : PySem.W.Frag) (C : Addr) (T nm : String) : Prop where
  l : ∃ fo, PySem.W.findIn K (.type T) (PySem.dunder nm) = some fo
  r : ∃ ro, PySem.W.findIn K (.type T) (dunderR nm) = some ro
  sub : PySem.W.subIn K (.type T) (.ref C) = some false

section
variable {X : Cx} {CX : CXT} {n : Nat} {C g : Addr} {sp : Sp} {E : XK}

/-- x op y, both instances of the class at C -/
def rBoth (C : Addr) (sp : Sp) (E : XK) : R2 := fun x y H Q => ∃ a dx fs b dy gs, x = .ref a ∧ y = .ref b ∧ H a = some (.ins C dx fs) ∧ H b = some (.ins C dy gs) ∧ sp [x, y] H Q E
theorem op_both {op : Operator} (k : Num X.K C op.info.2 g) (F : FnR X.prog X.w X.K X.mg X.base CX n g sp) (hr : Room n X.A) (hx : Passes CX X E) : OpR X (binaryOp op) (rBoth C sp E) := by
  intro pins s σ H x y v u Q I rx ry h
  obtain ⟨a, dx, fs, b, dy, gs, rfl, rfl, ha, hb, q⟩ := h
  cases (show v = Value.ref a from rx)
  cases (show u = Value.ref b from ry)
  obtain ⟨mA, O, _⟩ := ins_get I.hok ha
  obtain ⟨od, J, _⟩ := O.look
  obtain ⟨mB, O', _⟩ := ins_get I.hok hb
  obtain ⟨od', J', _⟩ := O'.look
  obtain ⟨m, hF⟩ := I.fr
  refine PySem.W.binop_K hF I.ok.mod.kin J J'.type k.sf k.fnd k.isf ?_
  refine wpAny_mono (wpAny_call (run_fnR (us := [.ref a, .ref b]) (vs := [.ref a, .ref b]) F hr hx I (.cons rfl (.cons rfl .nil)) q)) (fun w s' z => ?_) fun _ _ x => x
  obtain ⟨z', H', I', rz, qz⟩ := z
  exact SlX.cmpback rz ⟨z', H', I', rz, qz⟩

/-- x op y, x an instance, y a whole number -/
def rLeft (C : Addr) (sp : Sp) (E : XK) : R2 := fun x y H Q => ∃ a dx fs i, x = .ref a ∧ y = .int i ∧ H a = some (.ins C dx fs) ∧ sp [x, y] H Q E
theorem op_left {op : Operator} {rc : Option Value} (k : Num X.K C op.info.2 g) (k2 : NumR X.K C op.info.2 rc) (k3 : NumT X.K C "int" op.info.2) (F : FnR X.prog X.w X.K X.mg X.base CX n g sp) (hr : Room n X.A) (hx : Passes CX X E) : OpR X (binaryOp op) (rLeft C sp E) := by
  intro pins s σ H x y v u Q I rx ry h
  obtain ⟨a, dx, fs, i, rfl, rfl, ha, q⟩ := h
  cases (show v = Value.ref a from rx)
  obtain ⟨t, rfl⟩ := (show ∃ t, u = Value.int i t from ry)
  obtain ⟨mA, O, _⟩ := ins_get I.hok ha
  obtain ⟨od, J, _⟩ := O.look
  obtain ⟨m, hF⟩ := I.fr
  obtain ⟨fo, h1⟩ := k3.l
  obtain ⟨ro, h2⟩ := k3.r
  refine PySem.W.ksp_binT (T := "int") hF I.ok.mod.kin J rfl k.sf k.fnd k.isf k2.fnd k2.ok h1 h2 k3.sub ?_
  refine wpAny_mono (wpAny_call (run_fnR (us := [.ref a, .int i t]) (vs := [.ref a, .int i]) F hr hx I (.cons rfl (.cons ⟨t, rfl⟩ .nil)) q)) (fun w s' z => ?_) fun _ _ x => x
  obtain ⟨z', H', I', rz, qz⟩ := z
  exact SlX.cmpback rz ⟨z', H', I', rz, qz⟩
/-- -x -/
def rNeg (C : Addr) (sp : Sp) (E : XK) : V → Hp → VK → Prop := fun x H Q => ∃ a dx fs, x = .ref a ∧ H a = some (.ins C dx fs) ∧ sp [x] H Q E
theorem un_own (k : PySem.W.findIn X.K (.ref C) "__neg__" = some (some (.ref g))) (kf : PySem.W.isFn X.K (.ref g) = true) (F : FnR X.prog X.w X.K X.mg X.base CX n g sp) (hr : Room n X.A) (hx : Passes CX X E) : UnR X (unaryOp .USub) (rNeg C sp E) := by
  intro pins s σ H x v Q I rx h
  obtain ⟨a, dx, fs, rfl, ha, q⟩ := h
  cases (show v = Value.ref a from rx)
  obtain ⟨mA, O, _⟩ := ins_get I.hok ha
  obtain ⟨od, J, _⟩ := O.look
  obtain ⟨m, hF⟩ := I.fr
  refine PySem.W.ksp_neg hF I.ok.mod.kin J k kf ?_
  exact wpAny_call (run_fnR (us := [.ref a]) (vs := [.ref a]) F hr hx I (.cons rfl .nil) q)
/-- x == y and its kin: x an instance, y an instance of the same class or of a built-in type -/
inductive Rt (C : Addr) (H : Hp) : V → Value → Prop where
  | ins {b dy : Addr} {gs : List (Str × V)} (h : H b = some (.ins C dy gs)) : Rt C H (.ref b) (.ref C)
  | int (i : Int) : Rt C H (.int i) (.type "int")
def rEq (C : Addr) (sp : Sp) (E : XK) : R2 := fun x y H Q => ∃ a dx fs t, x = .ref a ∧ H a = some (.ins C dx fs) ∧ Rt C H y t ∧ sp [x, y] H Q E
theorem op_cmp {op : CmpOp} (hop : ∀ a b, compareOp op a b = richCompare op a b) (h0 : PySem.W.notFirst X.K C (.ref C) = true) (h1 : PySem.W.notFirst X.K C (.type "int") = true) (hs : PySem.W.findIn X.K (.ref C) (cmpInfo op).2.1 = some (some (.ref g))) (hf : PySem.W.isFn X.K (.ref g) = true)
    (F : FnR X.prog X.w X.K X.mg X.base CX n g sp) (hr : Room n X.A) (hx : Passes CX X E) : OpR X (compareOp op) (rEq C sp E) := by
  intro pins s σ H x y v u Q I rx ry h
  obtain ⟨a, dx, fs, t, rfl, ha, hy, q⟩ := h
  cases (show v = Value.ref a from rx)
  obtain ⟨mA, O, _⟩ := ins_get I.hok ha
  obtain ⟨od, J, _⟩ := O.look
  obtain ⟨m, hF⟩ := I.fr
  rw [hop]
  have fin : ∀ (tb : Value), PySem.W.Looks (model X.prog X.w) s.heap (typeOf u) tb → PySem.W.notFirst X.K C tb = true → wpAny (model X.prog X.w) X.A (richCompare op (.ref a) u) (EP X pins σ Q) X.xe s := by
    intro tb hb hn
    refine PySem.W.cmp_K (op := op) (tb := tb) hr.units0 hF I.ok.mod.kin J hb hn hs hf ?_
    refine wpAny_mono (wpAny_call (run_fnR (us := [.ref a, u]) (vs := [.ref a, y]) F hr hx I (.cons rfl (.cons ry .nil)) q)) (fun w s' z => ?_) fun _ _ x => x
    obtain ⟨z', H', I', rz, qz⟩ := z
    exact SlX.cmpback rz ⟨z', H', I', rz, qz⟩
  cases hy with
  | ins hb =>
    rename_i b dy gs
    cases (show u = Value.ref b from ry)
    obtain ⟨mB, O', _⟩ := ins_get I.hok hb
    obtain ⟨od', J', _⟩ := O'.look
    exact fin (.ref C) J'.type h0
  | int i =>
    obtain ⟨t, rfl⟩ := (show ∃ t, u = Value.int i t from ry)
    exact fin (.type "int") (PySem.W.Looks.of_pure rfl) h1
end
end Own

set_option Elab.async false
set_option linter.all false
set_option maxRecDepth 100000
set_option maxHeartbeats 2000000
namespace Own
open PySem PySem.Spec PyProof.Rows L2
section
variable {prog : Program} {w : World} {A : Around} {E : Value → Shared → Prop} {s : Shared} {K : PySem.W.Frag} {x C g : Addr} {ox od : Obj}

/-- the built-in whole numbers decline an object of one's own -/
theorem int_no {nm : String} {f : Int → Int → Sem PySem.Fin} {name : Str} {id : String} {i : Int} {t : Tok} {Q : Value → Shared → Prop} (J : PySem.W.InstAt s.heap x ox C (some od)) (hd : ox.data = .plain) (slot : Slot "int" name id)
    (entry : entryFor table id = some (Builtin.Int.intBinary nm f)) (args : argsOk id ⟨[.int i t, .ref x], []⟩) (h : ∀ tk, Q .notImplemented { s with toks := tk }) : wpAny (model prog w) A (call (.builtin id) [.int i t, .ref x]) Q E s := by
  refine GQ.call_here slot (by exact typeIs_int _ _ _) entry args ?_
  have ld := J.at_
  obtain ⟨hp, g', d, tk, os⟩ := s
  show wpAny _ _ (Builtin.Int.intBinary nm f false ⟨[.int i t, .ref x], []⟩) _ _ _
  unfold Builtin.Int.intBinary Builtin.Int.intOfSelf slotArgs asInt?
  wp_walk
  rw [hd]
  wp_walk
  exact h _
/-- i op x, x an instance -/
theorem int_op {op : Operator} {nm : String} {f : Int → Int → Sem PySem.Fin} {id : String} {i : Int} {t : Tok} {Q : Value → Shared → Prop} (X : K.In s.heap) (J : PySem.W.InstAt s.heap x ox C (some od)) (hd : ox.data = .plain) (sf : PySem.W.selfFirst K C = true) {gl : Addr}
    (h1 : PySem.W.findIn K (.ref C) (PySem.dunder op.info.2) = some (some (.ref gl))) (h2 : PySem.W.findIn K (.ref C) (dunderR op.info.2) = some (some (.ref g))) (hf : PySem.W.isFn K (.ref g) = true) (hs : PySem.W.subIn K (.ref C) (.type "int") = some false)
    (fills : fillsNumberSlot (.type "int") op.info.2 = pure true) (slot : Slot "int" (PySem.dunder op.info.2) id) (entry : entryFor table id = some (Builtin.Int.intBinary nm f)) (args : argsOk id ⟨[.int i t, .ref x], []⟩)
    (h : ∀ tk, wpAny (model prog w) A (call (.ref g) [.ref x, .int i t]) (PySem.W.CmpBack Q) E { s with toks := tk }) : wpAny (model prog w) A (binaryOp op (.int i t) (.ref x)) Q E s := by
  obtain ⟨cd, rest, hcd, hm⟩ := PySem.W.ksp_first sf
  rcases hi : op.info with ⟨sym, nm'⟩
  rw [hi] at h1 h2 fills slot
  dsimp only at h1 h2 fills slot
  have L2 : PySem.W.Looks (model prog w) s.heap (typeOf (.ref x)) (.ref C) := J.type
  have L4 : PySem.W.Looks (model prog w) s.heap (fillsNumberSlot (.ref C) nm') true := PySem.W.fills_K X hcd hm h1
  have L5 : PySem.W.Looks (model prog w) s.heap (isSubtype (.ref C) (.type "int")) false := PySem.W.looks_subIn X hs
  have hne : (Value.type "int" == Value.ref C) = false := Bool.eq_false_iff.mpr fun q => by cases beq_iff_eq.mp q
  simp only [binaryOp, hi]
  refine wpAny_holding (wpAny_bind ?_)
  unfold binaryOp1
  refine wpAny_bind (wpAny_typeOf (typeIs_int _ _ _) (wpAny_bind (L2.here (wpAny_bind (wpAny_of_eq fills ?_)))))
  simp only [hne, Bool.false_eq_true, if_false]
  refine wpAny_bind (L4.here ?_)
  simp only [Bool.and_self, if_true]
  refine wpAny_bind (L5.here ?_)
  have hpy : numberSlotInPython (.type "int") nm' = pure false := rfl
  simp only [Bool.false_eq_true, if_false, pure_bind, Bool.not_false, Bool.and_self, if_true, hpy]
  refine wpAny_bind (wpAny_tryMethod_declines (typeIs_int _ _ _) slot (int_no (Q := fun v s' => v = .notImplemented ∧ _) J hd slot entry args fun tk => ⟨rfl, ?_⟩))
  refine wpAny_bind (wpAny_mono (PySem.W.ksp_try (Q := Q) X J h2 hf (h tk)) (fun r s' hr => ?_) fun _ _ e => e)
  obtain ⟨v, rfl, hq⟩ := hr
  exact wpAny_bind (wpAny_rule (wpAny_pure (wpAny_pure hq)))
/-- i == x, x an instance -/
theorem int_eq {i : Int} {t : Tok} {Q : Value → Shared → Prop} (hu : A.units < cLine) (X : K.In s.heap) (J : PySem.W.InstAt s.heap x ox C (some od)) (hd : ox.data = .plain)
    (h2 : PySem.W.findIn K (.ref C) "__eq__" = some (some (.ref g))) (hf : PySem.W.isFn K (.ref g) = true) (hs : PySem.W.subIn K (.ref C) (.type "int") = some false)
    (h : ∀ tk, wpAny (model prog w) A (call (.ref g) [.ref x, .int i t]) (PySem.W.CmpBack Q) E { s with toks := tk }) : wpAny (model prog w) A (richCompare .Eq (.int i t) (.ref x)) Q E s := by
  have L2 : PySem.W.Looks (model prog w) s.heap (typeOf (.ref x)) (.ref C) := J.type
  have L5 : PySem.W.Looks (model prog w) s.heap (isSubtype (.ref C) (.type "int")) false := PySem.W.looks_subIn X hs
  have hne : (Value.type "int" != Value.ref C) = true := by
    rw [bne, Bool.not_eq_true']
    exact Bool.eq_false_iff.mpr fun q => by cases beq_iff_eq.mp q
  unfold richCompare
  refine wpAny_holding (wpAny_bind (wpAny_cRoomFor hu ?_))
  have h1 : oneThing? .Eq (.int i t) (.ref x) = none := by first | rfl | simp [oneThing?]
  simp only [h1]
  refine wpAny_bind (wpAny_typeOf (typeIs_int _ _ _) (wpAny_bind (L2.here ?_)))
  simp only [hne, if_true]
  refine wpAny_bind (L5.here ?_)
  simp only [Bool.false_eq_true, if_false]
  refine wpAny_bind (wpAny_tryCompare_declines (typeIs_int _ _ _) F.slot_int_eq (int_no (Q := fun v s' => v = .notImplemented ∧ _) J hd F.slot_int_eq F.entry_int_eq (F.args_int_eq_2 _ _) fun tk => ⟨rfl, ?_⟩))
  simp only [Bool.not_false, if_true]
  have one : wpAny (model prog w) A (tryCompare (.ref x) "__eq__" (.int i t)) (fun r s' => ∃ v, r = some v ∧ Q v s') E { s with toks := tk } := by
    unfold tryCompare
    refine wpAny_bind (PySem.W.ifBound_K X J h2 hf (wpAny_mono (h tk) (fun v s' hv => ?_) fun _ _ e => e))
    cases v <;> first | exact hv.elim | exact wpAny_pure ⟨_, rfl, hv⟩
  refine wpAny_bind (wpAny_mono one (fun r s' z => ?_) fun _ _ e => e)
  obtain ⟨v, rfl, hq⟩ := z
  exact wpAny_pure hq
/-- a built-in slot as it is bound -/
theorem ifBound_B {M : Model} {name : Str} {id : String} {args : List Value} {Q : Option Value → Shared → Prop} (X : K.In s.heap) (J : PySem.W.InstAt s.heap x ox C (some od)) (hs : PySem.W.findIn K (.ref C) name = some (some (.builtin id)))
    (hb : ∀ self, bindSpecial (.builtin id) self = pure (.builtin id, [self])) (h : wpAny M A (call (.builtin id) (.ref x :: args)) (fun v => Q (some v)) E s) : wpAny M A (callSpecialIfBound? (.ref x) name args) Q E s := by
  simp only [callSpecialIfBound?, bindSpecialIfBound?]
  refine wpAny_holding (wpAny_bind (wpAny_bind (wpAny_bind (J.type.here ((PySem.W.looks_findIn X hs).here ?_)))))
  refine wpAny_bind (wpAny_askSetting (wpAny_ite ?_))
  have fin : wpAny M A (call (.builtin id) ([.ref x] ++ args) >>= fun v => pure (some v)) Q E s := wpAny_bind (wpAny_mono h (fun v s' h' => wpAny_pure h') fun _ _ h' => h')
  split
  · exact wpAny_bind ((PySem.W.Looks.of_pure (hb _)).here (wpAny_pure (by exact fin)))
  · exact wpAny_tryCatch (wpAny_bind ((PySem.W.Looks.of_pure (hb _)).here (wpAny_pure (by exact fin))))
/-- x != y, both instances of C, whose class says == and leaves != to object -/
theorem own_ne {y : Addr} {oy ody : Obj} {Q : Value → Shared → Prop} (hu : A.units + 1 < cLine) (X : K.In s.heap) (J : PySem.W.InstAt s.heap x ox C (some od)) (J' : PySem.W.InstAt s.heap y oy C (some ody))
    (h1 : PySem.W.findIn K (.ref C) "__ne__" = some (some (.builtin "object.__ne__"))) (hm : PySem.W.mroIn K C (.type "object") = some true) (h2 : PySem.W.findIn K (.ref C) "__eq__" = some (some (.ref g))) (hf : PySem.W.isFn K (.ref g) = true)
    (h : wpAny (model prog w) A.in1 (call (.ref g) [.ref x, .ref y]) (fun v s' => ∃ b, v = .bool b ∧ Q (.bool (!b)) s') E s) : wpAny (model prog w) A (richCompare .NotEq (.ref x) (.ref y)) Q E s := by
  have hne : (Value.ref C != Value.ref C) = false := by simp
  unfold richCompare
  simp only [oneThing_ref]
  refine wpAny_holding (wpAny_bind (wpAny_cRoomFor (Nat.lt_of_succ_lt hu) ?_))
  refine wpAny_bind (J.type.here (wpAny_bind (J'.type.here ?_)))
  simp only [hne, Bool.false_eq_true, if_false]
  refine wpAny_bind (wpAny_pure ?_)
  simp only [Bool.false_eq_true, if_false]
  have one : wpAny (model prog w) A (tryCompare (.ref x) "__ne__" (.ref y)) (fun r s' => ∃ v, r = some v ∧ Q v s') E s := by
    unfold tryCompare
    refine wpAny_bind (ifBound_B X J h1 (fun self => PySem.F.slot_object_ne.bind self) (wpAny_call (codeAny_call_builtin PySem.F.slot_object_ne.plain PySem.F.cmpEntry_ne
      (PySem.W.check_slot (i := "object.__ne__") (owner := "object") (n := "__ne__") (by decide +kernel) (by decide +kernel) (J.type.andThen (PySem.W.looks_mroIn X hm)) (F.cmpArgs_ne _ _) ?_))))
    unfold Builtin.«object.__ne__»
    refine wpAny_bind (m := slotArgs "__ne__" 1 _) (wpAny_pure ?_)
    dsimp only
    refine wpAny_bind (m := cRoomFor _ _) (wpAny_cRoomFor hu ?_)
    refine wpAny_bind (m := callSpecialIfBound? (.ref x) (Str.ofString "__eq__") _) (PySem.W.ifBound_K X J h2 hf (wpAny_mono h (fun r s' hq => ?_) fun _ _ y => y))
    obtain ⟨b, rfl, hq⟩ := hq
    refine wpAny_bind (m := truthy (.bool b)) (wpAny_truthy_bool ?_)
    exact wpAny_pure (wpAny_pure ⟨_, rfl, hq⟩)
  refine wpAny_bind (wpAny_mono one (fun r s' z => ?_) fun _ _ e => e)
  obtain ⟨v, rfl, hq⟩ := z
  exact wpAny_pure hq
end
end Own

set_option Elab.async false
set_option linter.all false
set_option maxRecDepth 100000
set_option maxHeartbeats 2000000
namespace Own
open PySem PySem.Spec PyProof.Rows L2

/-- the promise of a def that is called while nothing is being told (no text of a list is under way) -/
structure FG (P : Program) (w : World) (K : PySem.W.Frag) (mg : Str → Option Value) (base : Heap)
    (CX : CXT) (k : Nat) (f : Addr) (fd : FuncData) (ps : List Str) (sp : Sp) : Prop where
  len : ∀ vs H Q E, sp vs H Q E → vs.length = ps.length
  run : ∀ (A : Around) (outer : List Env) (s : Shared) (H : Hp) (args : Args) (us : List Value) (vs : List V) (Q : VK) (E : XK),
    A.guards = some [] → Room k A → Env0 P w K mg base A outer s H → BindsTo s fd args (ps.zip us) → Vals vs us →
    sp vs H Q E → codeAny (model P w) A (.call (.ref f) args) (CR CX outer P w H s Q E) s
theorem FG.mono {P : Program} {w : World} {K : PySem.W.Frag} {mg : Str → Option Value} {base : Heap} {CX : CXT} {j k : Nat} {f : Addr} {fd : FuncData} {ps : List Str} {sp : Sp}
    (F : FG P w K mg base CX j f fd ps sp) (h : j ≤ k) : FG P w K mg base CX k f fd ps sp :=
  ⟨F.len, fun A outer s H args us vs Q E g hr => F.run A outer s H args us vs Q E g (hr.mono h)⟩
theorem FG.imp {P : Program} {w : World} {K : PySem.W.Frag} {mg : Str → Option Value} {base : Heap} {CX : CXT} {k : Nat} {f : Addr} {fd : FuncData} {ps : List Str} {sp sp2 : Sp}
    (F : FG P w K mg base CX k f fd ps sp) (h : ∀ vs H Q E, sp2 vs H Q E → sp vs H Q E) : FG P w K mg base CX k f fd ps sp2 :=
  ⟨fun vs H Q E q => F.len vs H Q E (h _ _ _ _ q),
    fun A outer s H args us vs Q E g hr he hb hv hs => F.run A outer s H args us vs Q E g hr he hb hv (h _ _ _ _ hs)⟩
theorem FG.of {P : Program} {w : World} {K : PySem.W.Frag} {mg : Str → Option Value} {base : Heap} {CX : CXT} {k : Nat} {f : Addr} {fd : FuncData} {ps : List Str} {sp : Sp}
    (F : FnOk P w K mg base CX k f fd ps sp) : FG P w K mg base CX k f fd ps sp := ⟨F.len, fun A outer s H args us vs Q E _ => F.run A outer s H args us vs Q E⟩

/-- a def by its body -/
theorem fg_of {CX : CXT} {P : Program} {w : World} {K : PySem.W.Frag} {mg : Str → Option Value} {base : Heap} {k : Nat} {f : Addr}
    {name qual : Str} {params : Arguments} {body : List Stmt} {scope : Scope} {dvs : List V} {kws : List (Str × V)} {fd : FuncData} {N ps : List Str} {sp : Sp}
    (F : FunD K name qual params body scope dvs kws f fd) (S : FnScope N ps scope)
    (len : ∀ vs H Q E, sp vs H Q E → vs.length = ps.length)
    (hb : ∀ (cdv : Value) (A : Around) (outer : List Env) (s : Shared) (H : Hp) (vs : List V) (Q : VK) (E : XK),
      (A.deeper (envOfC qual scope s.heap.objs.size f cdv)).guards = some [] →
      Room k (A.deeper (envOfC qual scope s.heap.objs.size f cdv)) → sp vs H Q E →
      ∃ t, PSs (cxOf CX P w K mg base N qual scope f cdv A outer s H E) body t ∧ t { nx := fun _ H2 => Q .non H2, rt := Q } (start N vs) H) :
    FG P w K mg base CX (k + 1) f fd ps sp := by
  obtain ⟨oc, od, dV, kV, doc, pm, an, cdv, ct, osl, rfl, look, code, _, _⟩ := F.ex
  refine ⟨len, fun A outer s H args us vs Q E hg hr e0 bd rv prom => ?_⟩
  have stand : ∀ b o, base.get? b = some o → s.heap.get? b = some o := fun b o e => (e0.bs b o e).1
  have inK : K.In s.heap := e0.mod.kin.keeps stand
  have nolim : s.heap.NoLimit := e0.mod.nolimit.keeps stand
  refine codeAny_call_function hr.depth (inK _ _ look) rfl S.co S.gen rfl
    (PySem.W.codeRec_of inK code) (bd _ _ _ _ ?_)
  have kinds : ∀ y ∈ ps.zip us, scope.names.lookup y.1 = some .local ∨
      (scope.names.lookup y.1 = some .cell ∧ ((cellsFrom (s.heap.objs.size + 1) scope.names []).lookup y.1).isSome = true) := by
    rintro ⟨n, v⟩ hy
    rcases S.par n (List.of_mem_zip hy).1 with z | z
    · exact Or.inl z
    · exact Or.inr ⟨z, PySem.W.cellsFrom_some _ _ _ (Or.inl z)⟩
  refine wpAny_newFunctionEnv_cells S.kind kinds fun env same s1 inn => ?_
  subst same
  refine ⟨nolim.keeps inn.toInCall.keep, codeAny_func ?_⟩
  obtain ⟨t, ht, hq⟩ := hb cdv A outer s H vs Q E hg (hr.deeper _) prom
  have I0 := inv_start (CX := CX) (E := E) S hr.hd e0 (len _ _ _ _ prom) rv inn
  refine wpAny_mono (ht.run [] s1 (start N vs) H _ I0 hq) (fun fl s2 z => ?_) fun e s2 z => z
  have out : ∀ {σ2 : L2.St} {H2 : Hp} {v : V} {u : Value},
      Inv (cxOf CX P w K mg base N qual scope f cdv A outer s H E) [] σ2 H2 s2 → L2.RelV v u → Q v H2 → CE outer P w H s Q u s2 := by
    intro σ2 H2 v u J r q
    exact ⟨v, H2, J.os, J.bare, J.base, J.hok, r, q⟩
  cases fl with
  | ret u =>
    obtain ⟨v, σ2, H2, J, r, q⟩ := z
    exact out J r q
  | next =>
    obtain ⟨σ2, H2, J, q⟩ := z
    exact out (v := .non) (u := .none) J rfl q
  | brk => exact z.choose_spec.choose_spec.2.elim
  | cont => exact z.choose_spec.choose_spec.2.elim

/-- a def by its body, where no exception leaves it -/
theorem fg_no {CX : CXT} {P : Program} {w : World} {K : PySem.W.Frag} {mg : Str → Option Value} {base : Heap} {k : Nat} {f : Addr}
    {name qual : Str} {params : Arguments} {body : List Stmt} {scope : Scope} {dvs : List V} {kws : List (Str × V)} {fd : FuncData} {N ps : List Str} {sp : Sp}
    (F : FunD K name qual params body scope dvs kws f fd) (S : FnScope N ps scope)
    (len : ∀ vs H Q E, sp vs H Q E → vs.length = ps.length)
    (hb : ∀ (cdv : Value) (A : Around) (outer : List Env) (s : Shared) (H : Hp) (vs : List V) (Q : VK) (E : XK),
      (A.deeper (envOfC qual scope s.heap.objs.size f cdv)).guards = some [] →
      Room k (A.deeper (envOfC qual scope s.heap.objs.size f cdv)) → sp vs H Q E →
      ∃ t, PSs (cxOf CX P w K mg base N qual scope f cdv A outer s H E).nox body t ∧ t { nx := fun _ H2 => Q .non H2, rt := Q } (start N vs) H) :
    FG P w K mg base CX (k + 1) f fd ps sp :=
  fg_of F S len fun cdv A outer s H vs Q E g hr h =>
    let ⟨t, p, q⟩ := hb cdv A outer s H vs Q E g hr h
    ⟨t, p.nox, q⟩

section
variable {X : Cx} {CX : CXT} {k n : Nat} {f C : Addr} {fd : FuncData} {ps ks : List Str} {sp : Sp} {dvs : List V} {ds : List Value} {E : XK}
  {x m : Str} {p pos apos : Pos} {e o : Expr} {es : List Expr} {kws : List Keyword} {ta : TE} {t tk : TA}
  {g : List Value → List Value → List Value} {gV : List V → List V → List V}
  {pins : List (Addr × Obj)} {σ : L2.St} {H : Hp} {s : Shared} {Q : VK} {us ws : List Value} {vs zs : List V}

/-- the end of a call's code -/
def Bk (X : Cx) (pins : List (Addr × Obj)) (σ : L2.St) (Q : VK) : Result → Shared → Prop := fun r s2 => match r with
  | .ok (.ret v) => EP X pins σ Q v s2
  | .ok _ => False
  | .error er => X.xe er s2
theorem bk_of (hx : Passes CX X E) (I : Inv X pins σ H s) {r : Result} {s2 : Shared} (z : CR CX X.stack X.prog X.w H s Q E r s2) : Bk X pins σ Q r s2 := by
  cases r with
  | error er => exact hx pins σ H s er s2 I z
  | ok fl =>
    cases fl with
    | ret u => exact I.after z
    | next => exact z
    | brk => exact z
    | cont => exact z
/-- the callee runs, its arguments bound anyhow -/
theorem run_g {args : Args} (F : FG X.prog X.w X.K X.mg X.base CX k f fd ps sp) (hg : X.A.guards = some []) (hr : Room k X.A) (hx : Passes CX X E)
    (I : Inv X pins σ H s) (bd : BindsTo s fd args (ps.zip us)) (rv : Vals vs us) (h : sp vs H Q E) :
    codeAny (model X.prog X.w) X.A (.call (.ref f) args) (Bk X pins σ Q) s :=
  codeAny_mono (F.run X.A X.stack s H args us vs Q E hg hr I.env0 bd rv h) fun r s2 z => bk_of hx I z
theorem run_gp (F : FG X.prog X.w X.K X.mg X.base CX k f fd ps sp) (hg : X.A.guards = some []) (hr : Room k X.A) (hb : Binds X.K fd ps ds) (hd : Vals dvs ds) (hx : Passes CX X E)
    (I : Inv X pins σ H s) (rv : Vals vs us) (h : sp (vs ++ dvs) H Q E) :
    codeAny (model X.prog X.w) X.A (.call (.ref f) ⟨us, []⟩) (Bk X pins σ Q) s := by
  have r2 := rv.append hd
  exact run_g F hg hr hx I (hb s us I.kIn (by rw [← r2.length]; exact F.len _ _ _ _ h)) r2 h
theorem run_gk (F : FG X.prog X.w X.K X.mg X.base CX k f fd ps sp) (hg : X.A.guards = some []) (hr : Room k X.A) (hb : KBn X.K fd ps n ks g gV) (hx : Passes CX X E)
    (I : Inv X pins σ H s) (rv : Vals vs us) (rz : Vals zs ws) (l1 : vs.length = n) (l2 : zs.length = ks.length) (h : sp (gV vs zs) H Q E) :
    codeAny (model X.prog X.w) X.A (.call (.ref f) ⟨us, ks.zip ws⟩) (Bk X pins σ Q) s :=
  run_g F hg hr hx I (hb.to s us ws I.kIn (rv.length.symm.trans l1) (rz.length.symm.trans l2)) (hb.rel rv rz) h
end
end Own

set_option Elab.async false
set_option linter.all false
set_option maxRecDepth 100000
set_option maxHeartbeats 2000000
namespace Own
open PySem PySem.Spec PyProof.Rows L2

theorem under_make_guards {A : Around} {C : Addr} {us : List Value} {kw : List (Str × Value)} (h : A.guards = some []) :
    (A.under (.builtin "type.__call__" ⟨.ref C :: us, kw⟩)).guards = some [] := by
  simp [Around.under, Code.guards, Code.isGuard, pushGuards, guardIds, h]

section
variable {X : Cx} {CX : CXT} {k n : Nat} {f C : Addr} {fd : FuncData} {ps ks : List Str} {sp : Sp} {dvs : List V} {ds : List Value} {E : XK}
  {x m : Str} {p pos apos : Pos} {e o : Expr} {es : List Expr} {kws : List Keyword} {ta : TE} {t tk : TA}
  {g : List Value → List Value → List Value} {gV : List V → List V → List V}
  {pins : List (Addr × Obj)} {σ : L2.St} {H : Hp} {s : Shared} {Q : VK} {us ws : List Value} {vs zs : List V}

/-- f(e, ..) -/
theorem pe_fn (F : FG X.prog X.w X.K X.mg X.base CX k f fd ps sp) (gg : X.A.guards = some []) (hr : Room k X.A) (hg : Gl X x)
    (hm : X.mg x = some (.ref f)) (hk : PySem.W.keepIn X.K (.ref f) = true) (hb : Binds X.K fd ps ds) (hd : Vals dvs ds) (hx : Passes CX X E)
    (ha : PA X (e :: es) t) (hdb : (x == ("__debug__" : Str)) = false := by decide)
    (he : starEach (e :: es) X.env = (false, eval e X.env) :: starEach es X.env := by rfl)
    (hpl : (backTo pos (starEach es X.env)).any (·.1) = false := by rfl) :
    PE X (.Call (.Name x p) (e :: es) [] pos) (tCall sp dvs E t) := by
  constructor
  intro pins s σ H Q I h
  refine wpAny_Call_Name_kw (ld_glob I hg hm ?_ hdb)
  refine PySem.W.callWith_K (h₀ := X.base) I.ok.mod.kin hk (thn (ha.run pos pins s σ H _ I h) ?_) he hpl
  rintro us s1 ⟨vs, H1, J, r, q⟩
  exact ⟨J.kIn, wpAny_call (run_gp F gg hr hb hd hx J r q)⟩
/-- f() -/
theorem pe_fn0 (F : FG X.prog X.w X.K X.mg X.base CX k f fd ps sp) (gg : X.A.guards = some []) (hr : Room k X.A) (hg : Gl X x)
    (hm : X.mg x = some (.ref f)) (hk : PySem.W.keepIn X.K (.ref f) = true) (hb : Binds X.K fd ps ds) (hd : Vals dvs ds) (hx : Passes CX X E)
    (hdb : (x == ("__debug__" : Str)) = false := by decide) : PE X (.Call (.Name x p) [] [] pos) (tCall sp dvs E tNil) := by
  constructor
  intro pins s σ H Q I h
  refine wpAny_Call_Name_kw (ld_glob I hg hm ?_ hdb)
  exact PySem.W.callWith_K0 I.kIn hk (wpAny_call (run_gp (us := []) F gg hr hb hd hx I .nil h))
/-- f(e, .., k = v, ..) -/
theorem pe_fnK (F : FG X.prog X.w X.K X.mg X.base CX k f fd ps sp) (gg : X.A.guards = some []) (hr : Room k X.A) (hg : Gl X x)
    (hm : X.mg x = some (.ref f)) (hk : PySem.W.keepIn X.K (.ref f) = true) (hb : KBn X.K fd ps n ks g gV) (hx : Passes CX X E)
    (ha : PA X (e :: es) t) (hkw : PK X kws tk) (hall : (backToKw pos (keywordEach kws X.env)).all (·.1.isSome) = true := by rfl)
    (hks : (backToKw pos (keywordEach kws X.env)).filterMap (·.1) = ks := by rfl) (hdb : (x == ("__debug__" : Str)) = false := by decide)
    (he : starEach (e :: es) X.env = (false, eval e X.env) :: starEach es X.env := by rfl)
    (hpl : ((backTo pos (starEach (e :: es) X.env)).any (·.1) || (backToKw pos (keywordEach kws X.env)).any (·.1.isNone)) = false := by rfl) :
    PE X (.Call (.Name x p) (e :: es) kws pos) (tCallN n ks.length sp gV E t tk) := by
  constructor
  intro pins s σ H Q I h
  refine wpAny_Call_Name_kw (ld_glob I hg hm ?_ hdb)
  refine PySem.W.callWith_KW (h₀ := X.base) I.ok.mod.kin hk hall (thn (ha.run pos pins s σ H _ I h) ?_) hpl he
  rintro us s1 ⟨vs, H1, J, r, q⟩
  refine thn (hkw.run pos pins s1 σ H1 _ J q) ?_
  rintro ws s2 ⟨zs, H2, J2, rz, l1, l2, q2⟩
  rw [hks]
  exact ⟨J2.kIn, wpAny_call (run_gk F gg hr hb hx J2 r rz l1 l2 q2)⟩
/-- f(k = v, ..) -/
theorem pe_fnK0 (F : FG X.prog X.w X.K X.mg X.base CX k f fd ps sp) (gg : X.A.guards = some []) (hr : Room k X.A) (hg : Gl X x)
    (hm : X.mg x = some (.ref f)) (hk : PySem.W.keepIn X.K (.ref f) = true) (hb : KBn X.K fd ps 0 ks g gV) (hx : Passes CX X E)
    (hkw : PK X kws tk) (hall : (backToKw pos (keywordEach kws X.env)).all (·.1.isSome) = true := by rfl)
    (hks : (backToKw pos (keywordEach kws X.env)).filterMap (·.1) = ks := by rfl) (hdb : (x == ("__debug__" : Str)) = false := by decide)
    (hpl : ((backTo pos (starEach [] X.env)).any (·.1) || (backToKw pos (keywordEach kws X.env)).any (·.1.isNone)) = false := by rfl) :
    PE X (.Call (.Name x p) [] kws pos) (tCallN 0 ks.length sp gV E tNil tk) := by
  constructor
  intro pins s σ H Q I h
  refine wpAny_Call_Name_kw (ld_glob I hg hm ?_ hdb)
  refine PySem.W.callWith_KW0 (h₀ := X.base) I.ok.mod.kin hk hall (thn (hkw.run pos pins s σ H _ I h) ?_) hpl
  rintro ws s2 ⟨zs, H2, J2, rz, l1, l2, q2⟩
  rw [hks]
  exact ⟨J2.kIn, wpAny_call (run_gk (us := []) (vs := []) F gg hr hb hx J2 .nil rz l1 l2 q2)⟩

/-- a new instance, its __init__ bound anyhow -/
theorem run_mk {args : List Value} {kw : List (Str × Value)} (M : Mk X.K C f) (F : FG X.prog X.w X.K X.mg X.base CX k f fd ps sp) (gg : X.A.guards = some [])
    (hr : Room (k + 1) X.A) (hx : Passes CX X E) (I : Inv X pins σ H s)
    (bd : ∀ (a : Addr) (s2 : Shared), X.K.In s2.heap → BindsTo s2 fd ⟨.ref a :: args, kw⟩ (ps.zip (.ref a :: us)))
    (rv : Vals vs us)
    (h : ∀ a dx, H a = none → H dx = none → dx ≠ a → sp (.ref a :: vs) (upd (upd H dx (.own a)) a (.ins C dx [])) (fun v H2 => v = .non ∧ Q (.ref a) H2) E) :
    wpAny (model X.prog X.w) X.A (call (.ref C) args kw) (EP X pins σ Q) X.xe s := by
  have prom := h (s.heap.objs.size + 1) s.heap.objs.size (I.hok.fresh (Nat.le_succ _)) (I.hok.fresh (Nat.le_refl _)) (Nat.ne_of_lt (Nat.lt_succ_self _))
  have J := Inv.made (C := C) I
  have r2 : Vals (V.ref (s.heap.objs.size + 1) :: vs) (Value.ref (s.heap.objs.size + 1) :: us) := .cons rfl rv
  refine wpAny_call (make_map (f := f) I.kIn M.makes M.init (beq_iff_eq.mp M.fn)
    (codeAny_mono (F.run _ X.stack _ _ ⟨_ :: args, kw⟩ _ _ _ E (under_make_guards gg) (hr.make C args kw) (J.env0.make C args kw) (bd _ _ J.kIn) r2 prom) ?_))
  intro r s2 z
  cases r with
  | error er => exact hx pins σ _ _ er s2 J z
  | ok fl =>
    cases fl with
    | ret u =>
      obtain ⟨v, H2, J2, ru, ev, q2⟩ := J.after z
      subst ev
      exact ⟨ru, ⟨V.ref (s.heap.objs.size + 1), H2, J2, rfl, q2⟩⟩
    | next => exact z.elim
    | brk => exact z.elim
    | cont => exact z.elim
theorem run_mkp (M : Mk X.K C f) (F : FG X.prog X.w X.K X.mg X.base CX k f fd ps sp) (gg : X.A.guards = some [])
    (hr : Room (k + 1) X.A) (hb : Binds X.K fd ps ds) (hd : Vals dvs ds) (hx : Passes CX X E) (I : Inv X pins σ H s) (rv : Vals vs us)
    (h : ∀ a dx, H a = none → H dx = none → dx ≠ a → sp (.ref a :: (vs ++ dvs)) (upd (upd H dx (.own a)) a (.ins C dx [])) (fun v H2 => v = .non ∧ Q (.ref a) H2) E) :
    wpAny (model X.prog X.w) X.A (call (.ref C) us) (EP X pins σ Q) X.xe s := by
  have r2 := rv.append hd
  have hl : (us ++ ds).length + 1 = ps.length := by
    rw [← r2.length]
    exact F.len _ _ _ _ (h (s.heap.objs.size + 1) s.heap.objs.size (I.hok.fresh (Nat.le_succ _)) (I.hok.fresh (Nat.le_refl _)) (Nat.ne_of_lt (Nat.lt_succ_self _)))
  exact run_mk (us := us ++ ds) (vs := vs ++ dvs) M F gg hr hx I (fun a s2 X2 => hb s2 (.ref a :: us) X2 (by rw [List.cons_append, List.length_cons]; exact hl)) r2 h
/-- C(e, ..) -/
theorem pe_mk (M : Mk X.K C f) (F : FG X.prog X.w X.K X.mg X.base CX k f fd ps sp) (gg : X.A.guards = some []) (hr : Room (k + 1) X.A) (hg : Gl X x)
    (hm : X.mg x = some (.ref C)) (hb : Binds X.K fd ps ds) (hd : Vals dvs ds) (hx : Passes CX X E) (ha : PA X (e :: es) t)
    (hdb : (x == ("__debug__" : Str)) = false := by decide) (he : starEach (e :: es) X.env = (false, eval e X.env) :: starEach es X.env := by rfl)
    (hpl : (backTo pos (starEach es X.env)).any (·.1) = false := by rfl) :
    PE X (.Call (.Name x p) (e :: es) [] pos) (tMake C sp dvs E t) := by
  constructor
  intro pins s σ H Q I h
  refine wpAny_Call_Name_kw (ld_glob I hg hm ?_ hdb)
  refine PySem.W.callWith_K (h₀ := X.base) I.ok.mod.kin M.kp (thn (ha.run pos pins s σ H _ I h) ?_) he hpl
  rintro us s1 ⟨vs, H1, J, r, q⟩
  exact ⟨J.kIn, run_mkp M F gg hr hb hd hx J r q⟩
/-- c(e, ..), c a local that holds the class -/
def tMakeL (i : Nat) (C : Addr) (sp : Sp) (dvs : List V) (E : XK) (t : TA) : TE := fun σ H Q => σ[i]? = some (some (.ref C)) ∧ tMake C sp dvs E t σ H Q
theorem pe_mkL {i : Nat} (M : Mk X.K C f) (F : FG X.prog X.w X.K X.mg X.base CX k f fd ps sp) (gg : X.A.guards = some []) (hr : Room (k + 1) X.A)
    (hN : X.N[i]? = some x) (hv : Vis X.env.scope x) (hb : Binds X.K fd ps ds) (hd : Vals dvs ds) (hx : Passes CX X E) (ha : PA X (e :: es) t)
    (hdb : (x == ("__debug__" : Str)) = false := by decide) (hcd : (x == ("__classdict__" : Str)) = false := by decide)
    (he : starEach (e :: es) X.env = (false, eval e X.env) :: starEach es X.env := by rfl)
    (hpl : (backTo pos (starEach es X.env)).any (·.1) = false := by rfl) :
    PE X (.Call (.Name x p) (e :: es) [] pos) (tMakeL i C sp dvs E t) := by
  constructor
  intro pins s σ H Q I h
  obtain ⟨hs, h⟩ := h
  refine wpAny_Call_Name_kw (thn ((pe_var (pos := p) hN hv hdb hcd).run pins s σ H (fun v H1 => v = .ref C ∧ H1 = H) I ⟨.ref C, hs, rfl, rfl⟩) ?_)
  rintro u s1 ⟨v, H1, J, r1, q1⟩
  obtain ⟨rfl, rfl⟩ := q1
  cases (show u = Value.ref C from r1)
  refine PySem.W.callWith_K (h₀ := X.base) J.ok.mod.kin M.kp (thn (ha.run pos pins s1 σ _ _ J h) ?_) he hpl
  rintro us s2 ⟨vs, H2, J2, r, q⟩
  exact ⟨J2.kIn, run_mkp M F gg hr hb hd hx J2 r q⟩
/-- C(k = v, ..) -/
theorem pe_mkK0 (M : Mk X.K C f) (F : FG X.prog X.w X.K X.mg X.base CX k f fd ps sp) (gg : X.A.guards = some []) (hr : Room (k + 1) X.A) (hg : Gl X x)
    (hm : X.mg x = some (.ref C)) (hb : KBn X.K fd ps 1 ks g gV) (hx : Passes CX X E) (hkw : PK X kws tk)
    (hall : (backToKw pos (keywordEach kws X.env)).all (·.1.isSome) = true := by rfl)
    (hks : (backToKw pos (keywordEach kws X.env)).filterMap (·.1) = ks := by rfl) (hdb : (x == ("__debug__" : Str)) = false := by decide)
    (hpl : ((backTo pos (starEach [] X.env)).any (·.1) || (backToKw pos (keywordEach kws X.env)).any (·.1.isNone)) = false := by rfl) :
    PE X (.Call (.Name x p) [] kws pos) (tMakeK C 0 ks.length sp gV E tNil tk) := by
  constructor
  intro pins s σ H Q I h
  refine wpAny_Call_Name_kw (ld_glob I hg hm ?_ hdb)
  refine PySem.W.callWith_KW0 (h₀ := X.base) I.ok.mod.kin M.kp hall (thn (hkw.run pos pins s σ H _ I h) ?_) hpl
  rintro ws s2 ⟨zs, H2, J, rz, l1, l2, q2⟩
  refine ⟨J.kIn, ?_⟩
  rw [hks]
  have prom := q2 (s2.heap.objs.size + 1) s2.heap.objs.size (J.hok.fresh (Nat.le_succ _)) (J.hok.fresh (Nat.le_refl _)) (Nat.ne_of_lt (Nat.lt_succ_self _))
  have J2 := Inv.made (C := C) J
  have r1 : Vals [V.ref (s2.heap.objs.size + 1)] [Value.ref (s2.heap.objs.size + 1)] := .cons rfl .nil
  refine wpAny_call (make_map (f := f) J.kIn M.makes M.init (beq_iff_eq.mp M.fn)
    (codeAny_mono (F.run _ X.stack _ _ ⟨_ :: [], ks.zip ws⟩ (g [_] ws) _ _ E (under_make_guards gg) (hr.make C [] (ks.zip ws)) (J2.env0.make C [] (ks.zip ws))
      (hb.to _ [_] ws J2.kIn rfl (rz.length.symm.trans l2)) (hb.rel r1 rz) prom) ?_))
  intro r s3 z
  cases r with
  | error er => exact hx pins σ _ _ er s3 J2 z
  | ok fl =>
    cases fl with
    | ret u =>
      obtain ⟨v, H3, J3, ru, ev, q3⟩ := J2.after z
      subst ev
      exact ⟨ru, ⟨V.ref (s2.heap.objs.size + 1), H3, J3, rfl, q3⟩⟩
    | next => exact z.elim
    | brk => exact z.elim
    | cont => exact z.elim

/-- o.f, a property -/
theorem pe_pr {pa : Addr} {f : Str} {gt : Addr} (he : PE X e ta) (c : Cls X.K C) (hp : PropOf X.K C f pa gt)
    (F : FG X.prog X.w X.K X.mg X.base CX k gt fd ps sp) (gg : X.A.guards = some []) (hr : Room (k + 1) X.A) (hb : Binds X.K fd ps ds) (hd : Vals dvs ds)
    (hx : Passes CX X.nox E) (hab : attributeBase e f X.env (eval e X.env) = eval e X.env := by rfl) : PE X (.Attribute e f pos) (tProp C sp dvs E ta) := by
  constructor
  intro pins s σ H Q I h
  refine attr_of hab (thn (he.run pins s σ H _ I h) ?_)
  rintro u s1 ⟨x, H1, I1, rx, a, dx, fs, rfl, ea, q⟩
  cases (show u = Value.ref a from rx)
  obtain ⟨mA, O, _⟩ := ins_get I1.hok ea
  obtain ⟨od, J, _⟩ := O.look
  obtain ⟨rest, hrec⟩ := hp.rec_
  have hc : (PySem.W.clsIn X.K C).isSome = true := by
    obtain ⟨cd, hcd, _⟩ := PySem.W.any_some c.hd
    rw [hcd]
    rfl
  have I2 := I1.tok (s1.toks + 1)
  have hl : ([Value.ref a] ++ ds).length = ps.length := by
    have l1 := F.len _ _ _ _ q
    have l2 := hd.length
    simp only [List.length_cons, List.length_append, List.length_nil] at l1 ⊢
    omega
  refine PySem.W.get_bind I1.kIn J (PySem.W.plainGet_of (c.get f)).1 (PySem.W.findObj_data hc hp.at_ hp.get hp.tak) (PySem.W.plainGet_of (c.get f)).2 ?_
  refine wpAny_call (PySem.W.prop_get (s := { s1 with toks := s1.toks + 1 }) I1.kIn hrec ?_)
  refine codeAny_mono (F.run X.A.in1 X.stack { s1 with toks := s1.toks + 1 } H1 ⟨[.ref a], []⟩ (.ref a :: ds) (.ref a :: dvs) Q E gg hr.in1 I2.env0.in1 (hb _ [.ref a] I2.kIn hl) (.cons rfl hd) q) ?_
  intro r s2 z2
  cases r with
  | error er => exact (hx pins σ H1 { s1 with toks := s1.toks + 1 } er s2 (I2.wish _) z2).elim
  | ok fl =>
    cases fl with
    | ret u =>
      obtain ⟨v, H2, I3, rv, q3⟩ := I2.after z2
      show wpAny _ _ (handedOut u) _ _ _
      rw [PySem.W.handedOut_of (handed_of rv)]
      exact wpAny_pure ⟨v, H2, I3, rv, q3⟩
    | next => exact z2.elim
    | brk => exact z2.elim
    | cont => exact z2.elim
/-- o.m(e, ..) -/
theorem pe_me {pl : Sem Bool} (he : PE X o ta) (c : Cls X.K C) (hm : Meth X.K C m f) (F : FG X.prog X.w X.K X.mg X.base CX k f fd ps sp)
    (gg : X.A.guards = some []) (hr : Room k X.A) (hb : Binds X.K fd ps ds) (hd : Vals dvs ds) (hx : Passes CX X E) (ha : PA X (e :: es) t)
    (hst : starEach (e :: es) X.env = (false, eval e X.env) :: starEach es X.env := by rfl) (hpl : (backTo pos (starEach es X.env)).any (·.1) = false := by rfl)
    (ht : eval (.Call (.Attribute o m apos) (e :: es) [] pos) X.env = (do
      let ov ← eval o X.env
      standAt apos.atName
      let (f2, first) ← holding [ov] (getMethod ov m pl)
      callWith pos f2 first (backTo pos (starEach (e :: es) X.env)) (backToKw pos (keywordEach [] X.env))) := by rfl) :
    PE X (.Call (.Attribute o m apos) (e :: es) [] pos) (tMeth C m sp dvs E ta t) := by
  constructor
  intro pins s σ H Q I h
  refine PySem.W.methodCall_KW (pl := pl) (thn (he.run pins s σ H _ I h) ?_) ht
  rintro u s1 ⟨x, H1, I1, rx, a, dx, fs, rfl, ea, l, q⟩
  cases (show u = Value.ref a from rx)
  refine getmeth_ok I1 ea c hm l ?_
  refine PySem.W.callWith_K (first := [.ref a]) (h₀ := X.base) I.ok.mod.kin hm.kp (thn (ha.run pos pins s1 σ H1 _ I1 q) ?_) hst hpl
  rintro us s2 ⟨vs, H2, I2, r, q2⟩
  exact ⟨I2.kIn, wpAny_call (run_gp (us := .ref a :: us) (vs := .ref a :: vs) F gg hr hb hd hx I2 (.cons rfl r) q2)⟩
/-- o.m() -/
theorem pe_me0 {pl : Sem Bool} (he : PE X o ta) (c : Cls X.K C) (hm : Meth X.K C m f) (F : FG X.prog X.w X.K X.mg X.base CX k f fd ps sp)
    (gg : X.A.guards = some []) (hr : Room k X.A) (hb : Binds X.K fd ps ds) (hd : Vals dvs ds) (hx : Passes CX X E)
    (ht : eval (.Call (.Attribute o m apos) [] [] pos) X.env = (do
      let ov ← eval o X.env
      standAt apos.atName
      let (f2, first) ← holding [ov] (getMethod ov m pl)
      callWith pos f2 first (backTo pos (starEach [] X.env)) (backToKw pos (keywordEach [] X.env))) := by rfl) :
    PE X (.Call (.Attribute o m apos) [] [] pos) (tMeth C m sp dvs E ta tNil) := by
  constructor
  intro pins s σ H Q I h
  refine PySem.W.methodCall_KW (pl := pl) (thn (he.run pins s σ H _ I h) ?_) ht
  rintro u s1 ⟨x, H1, I1, rx, a, dx, fs, rfl, ea, l, q⟩
  cases (show u = Value.ref a from rx)
  refine getmeth_ok I1 ea c hm l ?_
  exact PySem.W.callWith_K0 (first := [.ref a]) I1.kIn hm.kp (wpAny_call (run_gp (us := [.ref a]) (vs := [.ref a]) F gg hr hb hd hx I1 (.cons rfl .nil) q))
/-- o.m(k = v, ..) -/
def tMethK (C : Addr) (m : Str) (j : Nat) (sp : Sp) (gV : List V → List V → List V) (E : XK) (ta : TE) (tk : TA) : TE := fun σ H Q =>
  ta σ H fun x H1 => ∃ a dx fs, x = .ref a ∧ H1 a = some (.ins C dx fs) ∧ fs.lookup m = none ∧ tk σ H1 fun zs H2 => zs.length = j ∧ sp (gV [x] zs) H2 Q E
theorem pe_meK0 {pl : Sem Bool} (he : PE X o ta) (c : Cls X.K C) (hm : Meth X.K C m f) (F : FG X.prog X.w X.K X.mg X.base CX k f fd ps sp)
    (gg : X.A.guards = some []) (hr : Room k X.A) (hb : KBn X.K fd ps 1 ks g gV) (hx : Passes CX X E) (hkw : PK X kws tk)
    (hall : (backToKw pos (keywordEach kws X.env)).all (·.1.isSome) = true := by rfl)
    (hks : (backToKw pos (keywordEach kws X.env)).filterMap (·.1) = ks := by rfl)
    (hpl : ((backTo pos (starEach [] X.env)).any (·.1) || (backToKw pos (keywordEach kws X.env)).any (·.1.isNone)) = false := by rfl)
    (ht : eval (.Call (.Attribute o m apos) [] kws pos) X.env = (do
      let ov ← eval o X.env
      standAt apos.atName
      let (f2, first) ← holding [ov] (getMethod ov m pl)
      callWith pos f2 first (backTo pos (starEach [] X.env)) (backToKw pos (keywordEach kws X.env))) := by rfl) :
    PE X (.Call (.Attribute o m apos) [] kws pos) (tMethK C m ks.length sp gV E ta tk) := by
  constructor
  intro pins s σ H Q I h
  refine PySem.W.methodCall_KW (pl := pl) (thn (he.run pins s σ H _ I h) ?_) ht
  rintro u s1 ⟨x, H1, I1, rx, a, dx, fs, rfl, ea, l, q⟩
  cases (show u = Value.ref a from rx)
  refine getmeth_ok I1 ea c hm l ?_
  refine PySem.W.callWith_KW0 (first := [.ref a]) (h₀ := X.base) I.ok.mod.kin hm.kp hall (thn (hkw.run pos pins s1 σ H1 _ I1 q) ?_) hpl
  rintro ws s2 ⟨zs, H2, I2, rz, l2, q2⟩
  rw [hks]
  exact ⟨I2.kIn, wpAny_call (run_gk (us := [.ref a]) (vs := [.ref a]) F gg hr hb hx I2 (.cons rfl .nil) rz rfl l2 q2)⟩
/-- c.m(e, ..), m a classmethod of the class c -/
theorem pe_cm {mc : Value} {pc : Addr} {pl : Sem Bool} (he : PE X o ta) (cr : ClX.CRead X.K C mc) (c : ClX.CMet X.K C mc m pc f)
    (F : FG X.prog X.w X.K X.mg X.base CX k f fd ps sp) (gg : X.A.guards = some []) (hr : Room k X.A) (hb : Binds X.K fd ps ds) (hd : Vals dvs ds) (hx : Passes CX X E)
    (ha : PA X (e :: es) t) (hst : starEach (e :: es) X.env = (false, eval e X.env) :: starEach es X.env := by rfl)
    (hpl : (backTo pos (starEach es X.env)).any (·.1) = false := by rfl)
    (ht : eval (.Call (.Attribute o m apos) (e :: es) [] pos) X.env = (do
      let ov ← eval o X.env
      standAt apos.atName
      let (f2, first) ← holding [ov] (getMethod ov m pl)
      callWith pos f2 first (backTo pos (starEach (e :: es) X.env)) (backToKw pos (keywordEach [] X.env))) := by rfl) :
    PE X (.Call (.Attribute o m apos) (e :: es) [] pos) (ClX.tCMeth C (fun vs => sp (vs ++ dvs)) E ta t) := by
  constructor
  intro pins s σ H Q I h
  refine PySem.W.methodCall_KW (pl := pl) (thn (he.run pins s σ H _ I h) ?_) ht
  rintro u s1 ⟨x, H1, I1, rx, rfl, q⟩
  cases (show u = Value.ref C from rx)
  refine ClX.getmethcm_ok I1 cr c fun s2 I2 => ?_
  refine ClX.callwith_cm I2 (ClX.base_none I1 (Nat.le_refl _)) c.fi (thn (ha.run pos _ s2 σ H1 _ I2 q) ?_) hst hpl
  rintro us s3 ⟨vs, H2, I3, rv, q2⟩
  refine ⟨⟨ClX.pin_at I3, I3.kIn⟩, ?_⟩
  refine thn (wpAny_call (PySem.W.method_call (ClX.pin_at I3) (run_gp (us := .ref C :: us) (vs := .ref C :: vs) F gg hr hb hd hx I3 (.cons rfl rv) q2))) ?_
  intro _ _ y
  exact ClX.unpinE y
/-- c.m(k = v, ..) -/
def tCMethK (C : Addr) (j : Nat) (sp : Sp) (gV : List V → List V → List V) (E : XK) (ta : TE) (tk : TA) : TE := fun σ H Q =>
  ta σ H fun x H1 => x = .ref C ∧ tk σ H1 fun zs H2 => zs.length = j ∧ sp (gV [.ref C] zs) H2 Q E
theorem pe_cmK0 {mc : Value} {pc : Addr} {pl : Sem Bool} (he : PE X o ta) (cr : ClX.CRead X.K C mc) (c : ClX.CMet X.K C mc m pc f)
    (F : FG X.prog X.w X.K X.mg X.base CX k f fd ps sp) (gg : X.A.guards = some []) (hr : Room k X.A) (hb : KBn X.K fd ps 1 ks g gV) (hx : Passes CX X E) (hkw : PK X kws tk)
    (hall : (backToKw pos (keywordEach kws X.env)).all (·.1.isSome) = true := by rfl)
    (hks : (backToKw pos (keywordEach kws X.env)).filterMap (·.1) = ks := by rfl)
    (hpl : ((backTo pos (starEach [] X.env)).any (·.1) || (backToKw pos (keywordEach kws X.env)).any (·.1.isNone)) = false := by rfl)
    (ht : eval (.Call (.Attribute o m apos) [] kws pos) X.env = (do
      let ov ← eval o X.env
      standAt apos.atName
      let (f2, first) ← holding [ov] (getMethod ov m pl)
      callWith pos f2 first (backTo pos (starEach [] X.env)) (backToKw pos (keywordEach kws X.env))) := by rfl) :
    PE X (.Call (.Attribute o m apos) [] kws pos) (tCMethK C ks.length sp gV E ta tk) := by
  constructor
  intro pins s σ H Q I h
  refine PySem.W.methodCall_KW (pl := pl) (thn (he.run pins s σ H _ I h) ?_) ht
  rintro u s1 ⟨x, H1, I1, rx, rfl, q⟩
  cases (show u = Value.ref C from rx)
  refine ClX.getmethcm_ok I1 cr c fun s2 I2 => ?_
  refine PySem.W.callWith_of (P := PySem.W.MethP X.K _ f (.ref C)) hpl (PySem.W.keeps_M c.fi) (evalArgs_kw2_nil hall ?_)
  refine thn (hkw.run pos _ s2 σ H1 _ I2 q) ?_
  rintro ws s3 ⟨zs, H2, I3, rz, l2, q2⟩
  rw [hks]
  refine ⟨⟨ClX.pin_at I3, I3.kIn⟩, ?_⟩
  refine thn (wpAny_call (PySem.W.method_call (ClX.pin_at I3) (run_gk (us := [.ref C]) (vs := [.ref C]) F gg hr hb hx I3 (.cons rfl .nil) rz rfl l2 q2))) ?_
  intro _ _ y
  exact ClX.unpinE y
end
end Own

set_option Elab.async false
set_option linter.all false
set_option maxRecDepth 100000
set_option maxHeartbeats 2000000
namespace Own
open PySem PySem.Spec PyProof.Rows L2

section
variable {X : Cx} {CX : CXT} {n : Nat} {C g : Addr} {fd : FuncData} {ps : List Str} {sp : Sp} {E : XK}

/-- x op y, both instances of C -/
theorem og_both {op : Operator} (k : Num X.K C op.info.2 g) (F : FG X.prog X.w X.K X.mg X.base CX n g fd ps sp) (gg : X.A.guards = some []) (hr : Room n X.A)
    (hb : Binds X.K fd ps []) (hx : Passes CX X E) : OpR X (binaryOp op) (rBoth C sp E) := by
  rintro pins s σ H x y v u Q I rx ry ⟨a, dx, fs, b, dy, gs, rfl, rfl, ha, hb', q⟩
  cases (show v = Value.ref a from rx)
  cases (show u = Value.ref b from ry)
  obtain ⟨mA, O, _⟩ := ins_get I.hok ha
  obtain ⟨od, J, _⟩ := O.look
  obtain ⟨mB, O', _⟩ := ins_get I.hok hb'
  obtain ⟨od', J', _⟩ := O'.look
  obtain ⟨m, hF⟩ := I.fr
  refine PySem.W.binop_K hF I.ok.mod.kin J J'.type k.sf k.fnd k.isf ?_
  refine wpAny_mono (wpAny_call (run_gp (us := [.ref a, .ref b]) (vs := [.ref a, .ref b]) F gg hr hb .nil hx I (.cons rfl (.cons rfl .nil)) q)) (fun w s2 z => ?_) fun _ _ x => x
  obtain ⟨z1, H2, I2, rz, qz⟩ := z
  exact SlX.cmpback rz ⟨z1, H2, I2, rz, qz⟩
/-- x op i -/
theorem og_left {op : Operator} {rc : Option Value} (k : Num X.K C op.info.2 g) (k2 : NumR X.K C op.info.2 rc) (k3 : NumT X.K C "int" op.info.2)
    (F : FG X.prog X.w X.K X.mg X.base CX n g fd ps sp) (gg : X.A.guards = some []) (hr : Room n X.A) (hb : Binds X.K fd ps []) (hx : Passes CX X E) : OpR X (binaryOp op) (rLeft C sp E) := by
  rintro pins s σ H x y v u Q I rx ry ⟨a, dx, fs, i, rfl, rfl, ha, q⟩
  cases (show v = Value.ref a from rx)
  obtain ⟨t, rfl⟩ := (show ∃ t, u = Value.int i t from ry)
  obtain ⟨mA, O, _⟩ := ins_get I.hok ha
  obtain ⟨od, J, _⟩ := O.look
  obtain ⟨m, hF⟩ := I.fr
  obtain ⟨fo, h1⟩ := k3.l
  obtain ⟨ro, h2⟩ := k3.r
  refine PySem.W.ksp_binT (T := "int") hF I.ok.mod.kin J rfl k.sf k.fnd k.isf k2.fnd k2.ok h1 h2 k3.sub ?_
  refine wpAny_mono (wpAny_call (run_gp (us := [.ref a, .int i t]) (vs := [.ref a, .int i]) F gg hr hb .nil hx I (.cons rfl (.cons ⟨t, rfl⟩ .nil)) q)) (fun w s2 z => ?_) fun _ _ x => x
  obtain ⟨z1, H2, I2, rz, qz⟩ := z
  exact SlX.cmpback rz ⟨z1, H2, I2, rz, qz⟩
/-- i op x: the reflected def at g is asked with x first -/
def rRight (C : Addr) (sp : Sp) (E : XK) : R2 := fun x y H Q => ∃ a dx fs i, x = .int i ∧ y = .ref a ∧ H a = some (.ins C dx fs) ∧ sp [y, x] H Q E
structure NumI (K : PySem.W.Frag) (C : Addr) (nm : String) (gl gr : Addr) : Prop where
  sf : PySem.W.selfFirst K C = true
  l : PySem.W.findIn K (.ref C) (PySem.dunder nm) = some (some (.ref gl))
  r : PySem.W.findIn K (.ref C) (dunderR nm) = some (some (.ref gr))
  isf : PySem.W.isFn K (.ref gr) = true
  sub : PySem.W.subIn K (.ref C) (.type "int") = some false
theorem og_right {op : Operator} {gl : Addr} {nm : String} {fz : Int → Int → Sem PySem.Fin} {id : String} (k : NumI X.K C op.info.2 gl g)
    (fills : fillsNumberSlot (.type "int") op.info.2 = pure true) (slot : Slot "int" (PySem.dunder op.info.2) id) (entry : entryFor table id = some (Builtin.Int.intBinary nm fz))
    (args : ∀ a b, argsOk id ⟨[a, b], []⟩) (F : FG X.prog X.w X.K X.mg X.base CX n g fd ps sp) (gg : X.A.guards = some []) (hr : Room n X.A)
    (hb : Binds X.K fd ps []) (hx : Passes CX X E) : OpR X (binaryOp op) (rRight C sp E) := by
  rintro pins s σ H x y v u Q I rx ry ⟨a, dx, fs, i, rfl, rfl, ha, q⟩
  cases (show u = Value.ref a from ry)
  obtain ⟨t, rfl⟩ := (show ∃ t, v = Value.int i t from rx)
  obtain ⟨mA, O, _⟩ := ins_get I.hok ha
  obtain ⟨od, J, _⟩ := O.look
  refine int_op I.kIn J rfl k.sf k.l k.r k.isf k.sub fills slot entry (args _ _) fun tk => ?_
  have I2 := I.tok tk
  refine wpAny_mono (wpAny_call (run_gp (us := [.ref a, .int i t]) (vs := [.ref a, .int i]) F gg hr hb .nil hx I2 (.cons rfl (.cons ⟨t, rfl⟩ .nil)) q)) (fun w s2 z => ?_) fun _ _ x => x
  obtain ⟨z1, H2, I3, rz, qz⟩ := z
  exact SlX.cmpback rz ⟨z1, H2, I3, rz, qz⟩
theorem og_addR {gl : Addr} (k : NumI X.K C "add" gl g) (F : FG X.prog X.w X.K X.mg X.base CX n g fd ps sp) (gg : X.A.guards = some []) (hr : Room n X.A) (hb : Binds X.K fd ps []) (hx : Passes CX X E) :
    OpR X (binaryOp .Add) (rRight C sp E) := og_right (op := .Add) k PySem.F.fills_int_add PySem.F.slot_int_add PySem.F.entry_int_add PySem.F.args_int_add_2 F gg hr hb hx
/-- -x -/
theorem og_neg (k : PySem.W.findIn X.K (.ref C) "__neg__" = some (some (.ref g))) (kf : PySem.W.isFn X.K (.ref g) = true) (F : FG X.prog X.w X.K X.mg X.base CX n g fd ps sp)
    (gg : X.A.guards = some []) (hr : Room n X.A) (hb : Binds X.K fd ps []) (hx : Passes CX X E) : UnR X (unaryOp .USub) (rNeg C sp E) := by
  rintro pins s σ H x v Q I rx ⟨a, dx, fs, rfl, ha, q⟩
  cases (show v = Value.ref a from rx)
  obtain ⟨mA, O, _⟩ := ins_get I.hok ha
  obtain ⟨od, J, _⟩ := O.look
  obtain ⟨m, hF⟩ := I.fr
  exact PySem.W.ksp_neg hF I.ok.mod.kin J k kf (wpAny_call (run_gp (us := [.ref a]) (vs := [.ref a]) F gg hr hb .nil hx I (.cons rfl .nil) q))
/-- what == and != of the class want -/
structure EqC (K : PySem.W.Frag) (C g : Addr) : Prop where
  n0 : PySem.W.notFirst K C (.ref C) = true
  n1 : PySem.W.notFirst K C (.type "int") = true
  fnd : PySem.W.findIn K (.ref C) "__eq__" = some (some (.ref g))
  isf : PySem.W.isFn K (.ref g) = true
  ne : PySem.W.findIn K (.ref C) "__ne__" = some (some (.builtin "object.__ne__"))
  mro : PySem.W.mroIn K C (.type "object") = some true
  sub : PySem.W.subIn K (.ref C) (.type "int") = some false
theorem og_eq (k : EqC X.K C g) (F : FG X.prog X.w X.K X.mg X.base CX n g fd ps sp) (gg : X.A.guards = some []) (hr : Room n X.A) (hb : Binds X.K fd ps []) (hx : Passes CX X E) :
    OpR X (compareOp .Eq) (rEq C sp E) := by
  rintro pins s σ H x y v u Q I rx ry ⟨a, dx, fs, t, rfl, ha, hy, q⟩
  cases (show v = Value.ref a from rx)
  obtain ⟨mA, O, _⟩ := ins_get I.hok ha
  obtain ⟨od, J, _⟩ := O.look
  obtain ⟨m, hF⟩ := I.fr
  refine PySem.W.cmp_ofEq ?_
  have fin : ∀ (tb : Value), PySem.W.Looks (model X.prog X.w) s.heap (typeOf u) tb → PySem.W.notFirst X.K C tb = true →
      wpAny (model X.prog X.w) X.A (richCompare .Eq (.ref a) u) (EP X pins σ Q) X.xe s := by
    intro tb hb' hn
    refine PySem.W.cmp_K (op := .Eq) (tb := tb) hr.units0 hF I.ok.mod.kin J hb' hn k.fnd k.isf ?_
    refine wpAny_mono (wpAny_call (run_gp (us := [.ref a, u]) (vs := [.ref a, y]) F gg hr hb .nil hx I (.cons rfl (.cons ry .nil)) q)) (fun w s2 z => ?_) fun _ _ x => x
    obtain ⟨z1, H2, I2, rz, qz⟩ := z
    exact SlX.cmpback rz ⟨z1, H2, I2, rz, qz⟩
  cases hy with
  | ins hb' =>
    rename_i b dy gs
    cases (show u = Value.ref b from ry)
    obtain ⟨mB, O', _⟩ := ins_get I.hok hb'
    obtain ⟨od', J', _⟩ := O'.look
    exact fin (.ref C) J'.type k.n0
  | int i =>
    obtain ⟨t, rfl⟩ := (show ∃ t, u = Value.int i t from ry)
    exact fin (.type "int") (PySem.W.Looks.of_pure rfl) k.n1
/-- i == x -/
def rEqR (C : Addr) (sp : Sp) (E : XK) : R2 := fun x y H Q => ∃ a dx fs i, x = .int i ∧ y = .ref a ∧ H a = some (.ins C dx fs) ∧ sp [y, x] H Q E
theorem og_eqR (k : EqC X.K C g) (F : FG X.prog X.w X.K X.mg X.base CX n g fd ps sp) (gg : X.A.guards = some []) (hr : Room n X.A) (hb : Binds X.K fd ps []) (hx : Passes CX X E) :
    OpR X (compareOp .Eq) (rEqR C sp E) := by
  rintro pins s σ H x y v u Q I rx ry ⟨a, dx, fs, i, rfl, rfl, ha, q⟩
  cases (show u = Value.ref a from ry)
  obtain ⟨t, rfl⟩ := (show ∃ t, v = Value.int i t from rx)
  obtain ⟨mA, O, _⟩ := ins_get I.hok ha
  obtain ⟨od, J, _⟩ := O.look
  refine PySem.W.cmp_ofEq (int_eq hr.units0 I.kIn J rfl k.fnd k.isf k.sub fun tk => ?_)
  have I2 := I.tok tk
  refine wpAny_mono (wpAny_call (run_gp (us := [.ref a, .int i t]) (vs := [.ref a, .int i]) F gg hr hb .nil hx I2 (.cons rfl (.cons ⟨t, rfl⟩ .nil)) q)) (fun w s2 z => ?_) fun _ _ x => x
  obtain ⟨z1, H2, I3, rz, qz⟩ := z
  exact SlX.cmpback rz ⟨z1, H2, I3, rz, qz⟩
/-- x != y: the class's own == tells a truth value -/
def rNe (C : Addr) (sp : Sp) (E : XK) : R2 := fun x y H Q => ∃ a dx fs b dy gs, x = .ref a ∧ y = .ref b ∧ H a = some (.ins C dx fs) ∧ H b = some (.ins C dy gs) ∧
  sp [x, y] H (fun v H2 => ∃ c, v = .bl c ∧ Q (.bl (!c)) H2) E
theorem og_ne (k : EqC X.K C g) (F : FG X.prog X.w X.K X.mg X.base CX n g fd ps sp) (gg : X.A.guards = some []) (hr : Room (n + 1) X.A) (hb : Binds X.K fd ps []) (hx : Passes CX X E) :
    OpR X (compareOp .NotEq) (rNe C sp E) := by
  rintro pins s σ H x y v u Q I rx ry ⟨a, dx, fs, b, dy, gs, rfl, rfl, ha, hb', q⟩
  cases (show v = Value.ref a from rx)
  cases (show u = Value.ref b from ry)
  obtain ⟨mA, O, _⟩ := ins_get I.hok ha
  obtain ⟨od, J, _⟩ := O.look
  obtain ⟨mB, O', _⟩ := ins_get I.hok hb'
  obtain ⟨od', J', _⟩ := O'.look
  refine PySem.W.cmp_ofNotEq (own_ne (by have := hr.units; omega) I.kIn J J' k.ne k.mro k.fnd k.isf ?_)
  have hl : ([Value.ref a, Value.ref b] ++ []).length = ps.length := by
    have l1 := F.len _ _ _ _ q
    exact l1
  have call1 : codeAny (model X.prog X.w) X.A.in1 (.call (.ref g) ⟨[.ref a, .ref b], []⟩) (Bk X pins σ fun v H2 => ∃ c, v = .bl c ∧ Q (.bl (!c)) H2) s :=
    codeAny_mono (F.run X.A.in1 X.stack s H ⟨[.ref a, .ref b], []⟩ _ [.ref a, .ref b] _ E gg hr.in1 I.env0.in1 (hb s [.ref a, .ref b] I.kIn hl) (.cons rfl (.cons rfl .nil)) q) fun r s2 z => bk_of hx I z
  refine wpAny_mono (wpAny_call call1) (fun w s2 z => ?_) fun _ _ x => x
  obtain ⟨z1, H2, I2, rz, c, rfl, qz⟩ := z
  cases (show w = Value.bool c from rz)
  exact ⟨c, rfl, .bl (!c), H2, I2, rfl, qz⟩
theorem og_subR {gl : Addr} (k : NumI X.K C "sub" gl g) (F : FG X.prog X.w X.K X.mg X.base CX n g fd ps sp) (gg : X.A.guards = some []) (hr : Room n X.A) (hb : Binds X.K fd ps []) (hx : Passes CX X E) :
    OpR X (binaryOp .Sub) (rRight C sp E) := og_right (op := .Sub) k PySem.F.fills_int_sub PySem.F.slot_int_sub PySem.F.entry_int_sub PySem.F.args_int_sub_2 F gg hr hb hx
theorem og_mulR {gl : Addr} (k : NumI X.K C "mul" gl g) (F : FG X.prog X.w X.K X.mg X.base CX n g fd ps sp) (gg : X.A.guards = some []) (hr : Room n X.A) (hb : Binds X.K fd ps []) (hx : Passes CX X E) :
    OpR X (binaryOp .Mult) (rRight C sp E) := og_right (op := .Mult) k PySem.F.fills_int_mul PySem.F.slot_int_mul PySem.F.entry_int_mul PySem.F.args_int_mul_2 F gg hr hb hx
/-- str(x) -/
def rTell (C : Addr) (sp : Sp) (E : XK) : List V → Hp → VK → Prop := fun xs H Q => ∃ a dx fs, xs = [.ref a] ∧ H a = some (.ins C dx fs) ∧ sp [.ref a] H (fun v H2 => ∃ z, v = .str z ∧ Q (.str z) H2) E
theorem room_in1 {A : Around} {n : Nat} (h : Room (n + 1) A) : Room n A.in1 := h.in1
theorem call_at1 (F : FG X.prog X.w X.K X.mg X.base CX n g fd ps sp) (gg : X.A.guards = some []) (hr : Room (n + 1) X.A) (hb : Binds X.K fd ps []) (hx : Passes CX X E) {pins : List (Addr × Obj)} {σ : L2.St} {H : Hp} {s : Shared} {Q : VK} {a : Addr}
    (I : Inv X pins σ H s) (q : sp [.ref a] H Q E) : codeAny (model X.prog X.w) X.A.in1 (.call (.ref g) ⟨[.ref a], []⟩) (Bk X pins σ Q) s :=
  codeAny_mono (F.run X.A.in1 X.stack s H ⟨[.ref a], []⟩ _ [.ref a] _ E gg hr.in1 I.env0.in1 (hb s [.ref a] I.kIn (F.len _ _ _ _ q)) (.cons rfl .nil) q) fun r s2 z => bk_of hx I z
theorem call_at2 (F : FG X.prog X.w X.K X.mg X.base CX n g fd ps sp) (gg : X.A.guards = some []) (hr : Room (n + 2) X.A) (hb : Binds X.K fd ps []) (hx : Passes CX X E) {pins : List (Addr × Obj)} {σ : L2.St} {H : Hp} {s : Shared} {Q : VK} {a : Addr}
    (I : Inv X pins σ H s) (q : sp [.ref a] H Q E) : codeAny (model X.prog X.w) X.A.in1.in1 (.call (.ref g) ⟨[.ref a], []⟩) (Bk X pins σ Q) s :=
  codeAny_mono (F.run X.A.in1.in1 X.stack s H ⟨[.ref a], []⟩ _ [.ref a] _ E gg hr.in1.in1 I.env0.in1.in1 (hb s [.ref a] I.kIn (F.len _ _ _ _ q)) (.cons rfl .nil) q) fun r s2 z => bk_of hx I z
theorem strback {pins : List (Addr × Obj)} {σ : L2.St} {Q : VK} {w : Value} {s2 : Shared} (z : EP X pins σ (fun v H2 => ∃ y, v = .str y ∧ Q (.str y) H2) w s2) : PySem.W.StrBack (EP X pins σ Q) w s2 := by
  obtain ⟨z1, H2, I2, rz, c, rfl, qz⟩ := z
  obtain ⟨t, rfl⟩ := (show ∃ t, w = Value.str c t from rz)
  exact ⟨.str c, H2, I2, ⟨t, rfl⟩, qz⟩
theorem cg_str (k : PySem.W.findIn X.K (.ref C) "__str__" = some (some (.ref g))) (kf : PySem.W.isFn X.K (.ref g) = true) (F : FG X.prog X.w X.K X.mg X.base CX n g fd ps sp)
    (gg : X.A.guards = some []) (hr : Room (n + 2) X.A) (hb : Binds X.K fd ps []) (hx : Passes CX X E) : CallR X (.type "str") (rTell C sp E) := by
  rintro pins s σ H xs us Q I r ⟨a, dx, fs, rfl, ha, q⟩
  obtain ⟨u, rfl, ru⟩ := r.one
  cases (show u = Value.ref a from ru)
  obtain ⟨mA, O, _⟩ := ins_get I.hok ha
  obtain ⟨od, J, _⟩ := O.look
  refine PySem.W.kso_call (by have := hr.un; show X.A.units + 1 + 1 < _; omega) I.kIn J k kf ?_
  exact wpAny_mono (wpAny_call (call_at2 F gg hr hb hx I q)) (fun w s2 z => strback z) fun _ _ x => x
theorem cg_repr (k : PySem.W.findIn X.K (.ref C) "__repr__" = some (some (.ref g))) (kf : PySem.W.isFn X.K (.ref g) = true) (F : FG X.prog X.w X.K X.mg X.base CX n g fd ps sp)
    (gg : X.A.guards = some []) (hr : Room (n + 1) X.A) (hb : Binds X.K fd ps []) (hx : Passes CX X E) : CallR X (.builtin "repr") (rTell C sp E) := by
  rintro pins s σ H xs us Q I r ⟨a, dx, fs, rfl, ha, q⟩
  obtain ⟨u, rfl, ru⟩ := r.one
  cases (show u = Value.ref a from ru)
  obtain ⟨mA, O, _⟩ := ins_get I.hok ha
  obtain ⟨od, J, _⟩ := O.look
  obtain ⟨m, hF⟩ := I.fr
  refine PySem.W.repr_K (by have := hr.un; show X.A.units + 1 < _; omega) hF I.ok.mod.kin J k kf ?_
  exact wpAny_mono (wpAny_call (call_at1 F gg hr hb hx I q)) (fun w s2 z => strback z) fun _ _ x => x
/-- repr of a list or tuple of data -/
def rReprD (K : PySem.W.Frag) : List V → Hp → VK → Prop := fun xs H Q => ∃ a d, xs = [.ref a] ∧ Dp K H (.ref a) d ∧ d.showable = true ∧ d.hasDict = false ∧ d.depth ≤ 60 ∧ d.shown.length ≤ sizeLine ∧ Q (.str d.shown) H
theorem cg_reprD (gg : X.A.guards = some []) (hr : Room n X.A) : CallR X (.builtin "repr") (rReprD X.K) := by
  rintro pins s σ H xs us Q I r ⟨a, d, rfl, hd, h1, h2, h3, h4, q⟩
  obtain ⟨u, rfl, ru⟩ := r.one
  cases (show u = Value.ref a from ru)
  obtain ⟨as, rd⟩ := Dp.reads I d _ _ hd rfl
  refine repr_of_reads' rd h1 (PyData.noDict_hsm h2) gg (by have := hr.un; omega) (fun _ _ e => e) (fun h' u tk hk => ?_) h4
  exact ⟨.str d.shown, H, I.kept (t' := tk) hk, ⟨u, rfl⟩, q⟩
end
end Own

set_option Elab.async false
set_option linter.all false
set_option maxRecDepth 100000
set_option maxHeartbeats 2000000
namespace Own
open PySem PySem.Spec PyProof.Rows L2

section
variable {P : Program} {w : World} {K : PySem.W.Frag} {mg mb : Str → Option Value} {CX : CXT} {k : Nat} {fa a : Addr} {fd : FuncData} {x : Str} {sp : Sp} {s : Shared} {vs : List Value} {ns : List Int}
/-- the object of the script -/
abbrev scr (vs : List Value) : Obj := { cls := .type "list", data := .seq vs.toArray }
/-- from an abstract heap that tracks at most the script -/
theorem core_g {H : Hp} (KX : K.In s.heap) (g1 : s.heap.Ns mainGlobals mg) (b1 : s.heap.Ns builtinsNs mb) (b2 : ∀ x : Str, x ≠ "__name__" → mb x = bootBuiltins x)
    (lim : s.heap.NoLimit) (gn : s.gens = #[]) (ha : s.heap.get? a = some (scr vs)) (hr : Room k callerA)
    (F : ∀ base : Heap, K.In base → base.Ns mainGlobals mg → FG P w K mg base CX k fa fd [x] sp)
    (bd : ∀ (s : Shared) (u : Value), BindsTo s fd ⟨[u], []⟩ [(x, u)])
    (prom : sp [.ref a] H (fun v _ => v = .bl true) fun _ _ _ => False)
    (noX : ∀ e s2, CX [] H s (fun _ _ _ => False) e s2 → False)
    (hok : HOk P w H s.heap) (only : ∀ b, H b ≠ none → b = a ∧ K.lookup a = none ∧ ∃ xs, H b = some (.frz (scr vs) (.lst xs))) :
    codeAny (model P w) callerA (.call (.ref fa) ⟨[.ref a], []⟩)
      (fun r s2 => r = .ok (.ret (.bool true)) ∧ OldK s.heap s2.heap ∧ s2.os = s.os ∧ AllBare s2.gens) s := by
  have keptK : ∀ b o, K.lookup b = some o → H b = none := by
    intro b o e
    cases q : H b with
    | none => rfl
    | some u =>
      obtain ⟨rfl, z, _⟩ := only b (by rw [q]; simp)
      rw [z] at e
      cases e
  have free : ∀ {b : Addr} {o : Obj}, s.heap.get? b = some o → (∃ es ep, o.data = .dict es ep) → H b = none := by
    rintro b o e ⟨es, ep, d⟩
    cases q : H b with
    | none => rfl
    | some u =>
      obtain ⟨rfl, _⟩ := only b (by rw [q]; simp)
      rw [ha] at e
      cases e
      have d2 : Data.seq vs.toArray _ = Data.dict es ep := d
      cases d2
  have ns2 : ∀ {b : Addr} {m : Str → Option Value}, s.heap.Ns b m → (hidT s.heap H).Ns b m := by
    rintro b m ⟨o, es, ep, e, d, r⟩
    exact ⟨o, es, ep, hidT_get e (free e ⟨es, ep, d⟩), d, r⟩
  have inB : K.In (hidT s.heap H) := fun b o e => hidT_get (KX b o e) (keptK b o e)
  have md : Mod K mg (hidT s.heap H) := by
    obtain ⟨mc, z1, z2⟩ := lim
    exact ⟨inB, ns2 g1, ⟨mb, ns2 b1, b2⟩, ⟨mc, ns2 z1, z2⟩⟩
  have e0 : Env0 P w K mg (hidT s.heap H) callerA [] s H :=
    ⟨rfl, md, fun b o e => of_hidT e, Nat.le_of_eq (hidT_size _ _), trivial, fun b hb => absurd (show b ∈ ([] : List Addr) from hb) (by simp), hok, .of_eq gn⟩
  have run := (F _ inB (ns2 g1)).run callerA [] s H ⟨[.ref a], []⟩ [.ref a] [.ref a] _ _ rfl hr e0 (bd s (.ref a)) (.cons rfl .nil) prom
  refine codeAny_mono run ?_
  intro r s2 z
  cases r with
  | error e => exact (noX e s2 z).elim
  | ok fl =>
    cases fl with
    | next => exact z.elim
    | brk => exact z.elim
    | cont => exact z.elim
    | ret u =>
      obtain ⟨v, H2, os, bare, un, hok2, r2, q⟩ := z
      have q2 : v = .bl true := q
      subst q2
      cases (show u = Value.bool true from r2)
      refine ⟨rfl, OldK.of_keep fun b o e => ?_, os, bare⟩
      cases hb : H b with
      | none => exact un.keep b o e hb (by intro z; exact absurd (show b ∈ ([] : List Addr) from z) (by simp)) (by simp)
      | some t =>
        obtain ⟨_, _, xs, z⟩ := only b (by rw [hb]; simp)
        have z3 := un.frzs b _ _ z
        obtain ⟨e1, _⟩ := hok b _ z
        obtain ⟨e2, _⟩ := hok2 b _ z3
        rw [e] at e1
        cases e1
        exact e2
theorem law_g (KX : K.In s.heap) (g1 : s.heap.Ns mainGlobals mg) (b1 : s.heap.Ns builtinsNs mb) (b2 : ∀ x : Str, x ≠ "__name__" → mb x = bootBuiltins x)
    (lim : s.heap.NoLimit) (gn : s.gens = #[]) (ha : s.heap.get? a = some (scr vs)) (hi : IntsAre vs ns) (hl : ns.length ≤ sizeLine) (hr : Room k callerA)
    (F : ∀ base : Heap, K.In base → base.Ns mainGlobals mg → FG P w K mg base CX k fa fd [x] sp)
    (bd : ∀ (s : Shared) (u : Value), BindsTo s fd ⟨[u], []⟩ [(x, u)])
    (prom : ∀ H : Hp, SqL K H a (ns.map V.int) → sp [.ref a] H (fun v _ => v = .bl true) fun _ _ _ => False)
    (noX : ∀ H e s2, CX [] H s (fun _ _ _ => False) e s2 → False) :
    codeAny (model P w) callerA (.call (.ref fa) ⟨[.ref a], []⟩)
      (fun r s2 => r = .ok (.ret (.bool true)) ∧ OldK s.heap s2.heap ∧ s2.os = s.os ∧ AllBare s2.gens) s := by
  have rv := vals_ints hi
  have lenV := hi.length
  cases hk : K.lookup a with
  | some o =>
    have e := KX a o hk
    rw [ha] at e
    cases e
    refine core_g (H := fun _ => none) KX g1 b1 b2 lim gn ha hr F bd (prom _ (.inr ⟨_, vs.toArray, _, hk, rfl, rfl, rfl, ?_, by simpa using rv⟩)) (noX _) ?_ ?_
    · rw [List.size_toArray, lenV]
      exact hl
    · intro b u z
      have z2 : (none : Option HO) = some u := z
      cases z2
    · intro b z
      exact absurd rfl z
  | none =>
    have at_ : (fun b => if b = a then some (HO.frz (scr vs) (.lst (ns.map V.int))) else none : Hp) a = some (.frz (scr vs) (.lst (ns.map V.int))) := if_pos rfl
    refine core_g (H := fun b => if b = a then some (.frz (scr vs) (.lst (ns.map V.int))) else none) KX g1 b1 b2 lim gn ha hr F bd (prom _ (.inl (.inr ⟨_, at_⟩))) (noX _) ?_ ?_
    · intro b u z
      by_cases hb : b = a
      · have z2 := (if_pos hb).symm.trans z
        cases z2
        subst hb
        exact ⟨ha, by rw [List.length_map]; exact hl, vs, _, rv, ha⟩
      · have z2 := (if_neg hb).symm.trans z
        cases z2
    · intro b z
      by_cases hb : b = a
      · exact ⟨hb, hk, _, if_pos hb⟩
      · exact absurd (if_neg hb) z
end
/-- the end of a law's row -/
theorem end_g {l : PySem.W.OpenLaw} {n k : Nat} {q : Program} {loose : List Str} {XP : (Str → Option Value) → Heap → Prop} {YP : World → Heap → Prop} {d : DefRec} {CX : CXT} {x : Str}
    (hn : l.most = some n) (hn2 : n ≤ sizeLine) (hdf : d.params.defaults = []) (hr : Room k callerA)
    (F : ∀ (w : World) (mg : Str → Option Value) (fa : Addr) (h : Heap), YP w h → h.Ns mainGlobals mg → mg d.name = some (.ref fa) →
      ∃ (K : PySem.W.Frag) (fd : FuncData) (sp : Sp), K.In h ∧ (∀ (s : Shared) (u : Value), BindsTo s fd ⟨[u], []⟩ [(x, u)]) ∧
        (∀ (H : Hp) (a : Addr) (ns : List Int), ns.length ≤ n → SqL K H a (ns.map V.int) → sp [.ref a] H (fun v _ => v = .bl true) fun _ _ _ => False) ∧
        ∀ base : Heap, K.In base → base.Ns mainGlobals mg → FG l.prog w K mg base CX k fa fd [x] sp)
    (noX : ∀ (H : Hp) (s : Shared) (e : Value) (s2 : Shared), CX [] H s (fun _ _ _ => False) e s2 → False) :
    PySem.W.WalkO q loose XP YP l.row.toRowW d [] (fun f vs => PySem.call f vs) := by
  refine Att.attach_call hn hdf ?_
  intro w s₀ s₁ mg mb fa o pm cd doc a vs ns G Y ho hd hcd hmg hobj hints hlen hg
  obtain ⟨K, fd, sp, KX, hb, hsp, hF⟩ := F w mg fa _ Y G.T.g hmg
  exact law_g KX G.T.g G.T.b G.T.builtins G.T.nolimit hg hobj hints (Nat.le_trans hlen hn2) hr hF hb (fun H hS => hsp H a ns hlen hS) fun H e s2 => noX H s₁ e s2
end Own

set_option Elab.async false
set_option linter.all false
set_option maxRecDepth 100000
set_option maxHeartbeats 2000000
namespace Own
open PySem PySem.Spec PyProof.Rows L2
open PySem.W (Frag)

/-! ### defs by where they stand -/
def fdOf (K : Frag) (f : Addr) : FuncData := match K.lookup f with
  | some ⟨_, _, .func fd, _⟩ => fd
  | _ => PySem.W.fnOf "" "" { posonlyargs := [], args := [], vararg := none, kwonlyargs := [], kw_defaults := [], kwarg := none, defaults := [] } [] { kind := .function, names := [], isGenerator := false, isCoroutine := false } .none .none .none .none none .none .none
structure DX where
  adr : Frag → Addr
  name : Str
  qual : Str
  st : Stmt
  dvs : List V := []
abbrev See : Type := Option (Str × Str × Arguments × FuncBody × Scope × Addr × List (Str × Addr) × Addr)
def seeFn (fd : FuncData) : See := some (fd.name, fd.qualname, fd.params, fd.body, fd.scope, fd.globals, fd.closure, fd.builtins)
def DX.see (K : Frag) (d : DX) : See := match K.lookup (d.adr K) with
  | some ⟨_, _, .func fd, _⟩ => seeFn fd
  | _ => none
def DX.want (d : DX) : See := some (d.name, d.qual, defArgs d.st, .stmts (defBody d.st), defScope d.st, mainGlobals, [], builtinsNs)
def DX.good (K : Frag) (d : DX) : Bool := PySem.W.keepIn K (.ref (d.adr K)) && (match K.lookup (d.adr K) with
  | some ⟨_, _, .func fd, _⟩ => PySem.W.codeIn K fd.code d.qual && He.dflB K fd.defaults d.dvs
  | _ => false)
abbrev FX (K : Frag) (name qual : Str) (st : Stmt) (dvs : List V) (f : Addr) : Prop := FunD K name qual (defArgs st) (defBody st) (defScope st) dvs [] f (fdOf K f)
theorem DX.fun {K : Frag} {d : DX} (e : d.see K = d.want) (c : d.good K = true) : FX K d.name d.qual d.st d.dvs (d.adr K) := by
  obtain ⟨kp, c⟩ := Bool.and_eq_true_iff.mp c
  unfold DX.see at e
  cases q : K.lookup (d.adr K) with
  | none => rw [q] at c; cases c
  | some o =>
    obtain ⟨oc, od, dt, osl⟩ := o
    rw [q] at c e
    cases dt with
    | func fd =>
      have hfd : fdOf K (d.adr K) = fd := by unfold fdOf; rw [q]
      obtain ⟨c1, c2⟩ := Bool.and_eq_true_iff.mp (show (PySem.W.codeIn K fd.code d.qual && He.dflB K fd.defaults d.dvs) = true from c)
      have e2 : seeFn fd = some (d.name, d.qual, defArgs d.st, .stmts (defBody d.st), defScope d.st, mainGlobals, [], builtinsNs) := e
      unfold FX
      rw [hfd]
      obtain ⟨n1, n2, n3, n4, n5, n6, n7, n8, n9, n10, n11, n12, n13, n14, n15⟩ := fd
      unfold seeFn at e2
      simp only [Option.some.injEq, Prod.mk.injEq] at e2
      obtain ⟨h1, h2, h3, h4, h5, h6, h7, h8⟩ := e2
      subst h1 h2 h3 h4 h5 h6 h7 h8
      exact ⟨⟨oc, od, n8, n9, n10, n11, n12, n13, n14, osl, rfl, q, c1, He.dflB_ok c2, .inl rfl⟩, kp⟩
    | _ => cases c

/-! ### the hook: any facts that a Bool tells of the written part -/
abbrev AlX : Type := Bool × List See
def obsX (fs : List (Frag → Bool)) (ds : List DX) (K : Frag) : AlX := ((fs.all fun f => f K) && ds.all fun d => d.good K, ds.map fun d => d.see K)
def valX (ds : List DX) : AlX := (true, ds.map DX.want)
def SaysX (fs : List (Frag → Bool)) (ds : List DX) (K : Frag) : Prop := obsX fs ds K = valX ds
/-- what the module's names, and the C statics, reach in n steps -/
def asX (g : Addr → Option Obj) : Nat → List Addr
  | 0 => [mainGlobals, cStatics]
  | n + 1 => He.growD g (asX g n)
def obsXG (n : Nat) (fs : List (Frag → Bool)) (ds : List DX) (g : Addr → Option Obj) : AlX := obsX fs ds (He.frG g (asX g n))
def hookX (n : Nat) (fs : List (Frag → Bool)) (ds : List DX) : PySem.W.Hook where
  α := AlX
  obs := fun s => obsXG n fs ds s.heap.get?
  val := fun _ => valX ds
  says := fun _ h => ∃ K : Frag, K.In h ∧ SaysX fs ds K
  of := fun _ _ e => ⟨_, He.frG_in, e⟩
  keeps := fun _ _ _ ⟨K, hK, c⟩ k => ⟨K, PySem.W.Frag.In.keeps hK k, c⟩
theorem obsXG_eq {n : Nat} {fs : List (Frag → Bool)} {ds : List DX} {g : Addr → Option Obj} {s : Shared} (h : ∀ a, g a = s.heap.get? a) : obsXG n fs ds g = (hookX n fs ds).obs s := by
  have e : g = s.heap.get? := funext h
  subst e
  rfl
section
variable {fs : List (Frag → Bool)} {ds : List DX} {K : Frag}
theorem SaysX.at_ (c : SaysX fs ds K) (i : Nat) {f : Frag → Bool} (h : fs[i]? = some f := by rfl) : f K = true := by
  have c0 : ((fs.all fun f => f K) && ds.all fun d => d.good K) = true := congrArg Prod.fst c
  exact List.all_eq_true.mp (Bool.and_eq_true_iff.mp c0).1 f (List.mem_of_getElem? h)
theorem SaysX.fn (c : SaysX fs ds K) (i : Nat) {d : DX} (h : ds[i]? = some d := by rfl) : FX K d.name d.qual d.st d.dvs (d.adr K) := by
  have c0 : ((fs.all fun f => f K) && ds.all fun d => d.good K) = true := congrArg Prod.fst c
  have c1 : (ds.map fun d => d.see K) = ds.map DX.want := congrArg Prod.snd c
  have c2 : (ds.map fun d => d.see K)[i]? = (ds.map DX.want)[i]? := by rw [c1]
  rw [List.getElem?_map, List.getElem?_map, h] at c2
  exact DX.fun (Option.some.inj c2) (List.all_eq_true.mp (Bool.and_eq_true_iff.mp c0).2 d (List.mem_of_getElem? h))
end

/-! ### facts of a class by names -/
abbrev ga := He.ga
abbrev ma := He.ma
/-- the getter of the property f, the def of the classmethod m -/
def gt (K : Frag) (x f : Str) : Addr := match PySem.W.recIn K (ma K (ga K x) f) "property" with
  | some (.ref g :: _) => g
  | _ => 0
def cmP (K : Frag) (x m : Str) : Addr := match PySem.W.findCls K (.ref (ga K x)) (.type "type") m with
  | some (.get _ (.ref p) _ _) => p
  | _ => 0
def cmG (K : Frag) (x m : Str) : Addr := match PySem.W.recIn K (cmP K x m) "classmethod" with
  | some (.ref g :: _) => g
  | _ => 0
def bProp (x f : Str) (K : Frag) : Bool := He.eqO (PySem.W.findIn K (.ref (ga K x)) f) (some (some (.ref (ma K (ga K x) f)))) &&
  (He.eqO (PySem.W.specialIn K (.ref (ma K (ga K x) f)) "__get__") (some (some (.builtin "property.__get__"))) && (decide (PySem.W.takesIn K (.ref (ma K (ga K x) f)) = some true) &&
  (match PySem.W.recIn K (ma K (ga K x) f) "property" with | some (.ref g :: _) => decide (g = gt K x f) | _ => false)))
theorem bProp_ok {K : Frag} {x f : Str} (c : bProp x f K = true) : PropOf K (ga K x) f (ma K (ga K x) f) (gt K x f) := by
  obtain ⟨c1, c⟩ := Bool.and_eq_true_iff.mp c
  obtain ⟨c2, c⟩ := Bool.and_eq_true_iff.mp c
  obtain ⟨c3, c4⟩ := Bool.and_eq_true_iff.mp c
  refine ⟨He.eqO_ok c1, He.eqO_ok c2, of_decide_eq_true c3, ?_⟩
  split at c4
  · rename_i g r e
    have h := of_decide_eq_true c4
    subst h
    exact ⟨r, e⟩
  · cases c4
def bNum (x : Str) (nm : String) (K : Frag) : Bool := PySem.W.selfFirst K (ga K x) && (He.eqO (PySem.W.findIn K (.ref (ga K x)) (PySem.dunder nm)) (some (some (.ref (ma K (ga K x) (PySem.dunder nm))))) && PySem.W.isFn K (.ref (ma K (ga K x) (PySem.dunder nm))))
theorem bNum_ok {K : Frag} {x : Str} {nm : String} (c : bNum x nm K = true) : Num K (ga K x) nm (ma K (ga K x) (PySem.dunder nm)) := by
  obtain ⟨c1, c⟩ := Bool.and_eq_true_iff.mp c
  obtain ⟨c2, c3⟩ := Bool.and_eq_true_iff.mp c
  exact ⟨c1, He.eqO_ok c2, c3⟩
def bNumI (x : Str) (nm : String) (K : Frag) : Bool := bNum x nm K && (He.eqO (PySem.W.findIn K (.ref (ga K x)) (dunderR nm)) (some (some (.ref (ma K (ga K x) (dunderR nm))))) && (PySem.W.isFn K (.ref (ma K (ga K x) (dunderR nm))) &&
  (decide (PySem.W.subIn K (.ref (ga K x)) (.type "int") = some false) && (decide (PySem.W.subIn K (.type "int") (.ref (ga K x)) = some false) && ((PySem.W.findIn K (.type "int") (PySem.dunder nm)).isSome && (PySem.W.findIn K (.type "int") (dunderR nm)).isSome)))))
theorem bNumI_ok {K : Frag} {x : Str} {nm : String} (c : bNumI x nm K = true) : Num K (ga K x) nm (ma K (ga K x) (PySem.dunder nm)) ∧
    NumI K (ga K x) nm (ma K (ga K x) (PySem.dunder nm)) (ma K (ga K x) (dunderR nm)) ∧ NumR K (ga K x) nm (some (.ref (ma K (ga K x) (dunderR nm)))) ∧ NumT K (ga K x) "int" nm := by
  obtain ⟨c0, c⟩ := Bool.and_eq_true_iff.mp c
  obtain ⟨c1, c⟩ := Bool.and_eq_true_iff.mp c
  obtain ⟨c2, c⟩ := Bool.and_eq_true_iff.mp c
  obtain ⟨c3, c⟩ := Bool.and_eq_true_iff.mp c
  obtain ⟨c4, c⟩ := Bool.and_eq_true_iff.mp c
  obtain ⟨c5, c6⟩ := Bool.and_eq_true_iff.mp c
  have n0 := bNum_ok c0
  exact ⟨n0, ⟨n0.sf, n0.fnd, He.eqO_ok c1, c2, of_decide_eq_true c3⟩, ⟨He.eqO_ok c1, .inr ⟨_, rfl⟩⟩, ⟨Option.isSome_iff_exists.mp c5, Option.isSome_iff_exists.mp c6, of_decide_eq_true c4⟩⟩
/-- a special method of one's own that is found: __neg__, __str__, __repr__ -/
def bSpec (x m : Str) (K : Frag) : Bool := He.eqO (PySem.W.findIn K (.ref (ga K x)) m) (some (some (.ref (ma K (ga K x) m)))) && PySem.W.isFn K (.ref (ma K (ga K x) m))
theorem bSpec_ok {K : Frag} {x m : Str} (c : bSpec x m K = true) : PySem.W.findIn K (.ref (ga K x)) m = some (some (.ref (ma K (ga K x) m))) ∧ PySem.W.isFn K (.ref (ma K (ga K x) m)) = true := by
  obtain ⟨c1, c2⟩ := Bool.and_eq_true_iff.mp c
  exact ⟨He.eqO_ok c1, c2⟩
def bEq (x : Str) (K : Frag) : Bool := PySem.W.notFirst K (ga K x) (.ref (ga K x)) && (PySem.W.notFirst K (ga K x) (.type "int") && (bSpec x "__eq__" K &&
  (He.eqO (PySem.W.findIn K (.ref (ga K x)) "__ne__") (some (some (.builtin "object.__ne__"))) && (decide (PySem.W.mroIn K (ga K x) (.type "object") = some true) && decide (PySem.W.subIn K (.ref (ga K x)) (.type "int") = some false)))))
theorem bEq_ok {K : Frag} {x : Str} (c : bEq x K = true) : EqC K (ga K x) (ma K (ga K x) "__eq__") := by
  obtain ⟨c0, c⟩ := Bool.and_eq_true_iff.mp c
  obtain ⟨c1, c⟩ := Bool.and_eq_true_iff.mp c
  obtain ⟨c2, c⟩ := Bool.and_eq_true_iff.mp c
  obtain ⟨c3, c⟩ := Bool.and_eq_true_iff.mp c
  obtain ⟨c4, c5⟩ := Bool.and_eq_true_iff.mp c
  exact ⟨c0, c1, (bSpec_ok c2).1, (bSpec_ok c2).2, He.eqO_ok c3, of_decide_eq_true c4, of_decide_eq_true c5⟩
/-- what isinstance asks of an instance of the class -/
structure IsC (K : Frag) (C : Addr) : Prop where
  ha : PySem.W.findIn K (.ref C) "__class__" = some (some (.builtin "object.__class__"))
  hn : PySem.W.specialIn K (.builtin "object.__class__") "__get__" = some (some (.builtin "getset_descriptor.__get__"))
  htk : PySem.W.takesIn K (.builtin "object.__class__") = some true
  hm : PySem.W.mroIn K C (.type "object") = some true
def bIs (x : Str) (K : Frag) : Bool := He.eqO (PySem.W.findIn K (.ref (ga K x)) "__class__") (some (some (.builtin "object.__class__"))) && (He.eqO (PySem.W.specialIn K (.builtin "object.__class__") "__get__") (some (some (.builtin "getset_descriptor.__get__"))) &&
  (decide (PySem.W.takesIn K (.builtin "object.__class__") = some true) && decide (PySem.W.mroIn K (ga K x) (.type "object") = some true)))
theorem bIs_ok {K : Frag} {x : Str} (c : bIs x K = true) : IsC K (ga K x) := by
  obtain ⟨c0, c⟩ := Bool.and_eq_true_iff.mp c
  obtain ⟨c1, c⟩ := Bool.and_eq_true_iff.mp c
  obtain ⟨c2, c3⟩ := Bool.and_eq_true_iff.mp c
  exact ⟨He.eqO_ok c0, He.eqO_ok c1, of_decide_eq_true c2, of_decide_eq_true c3⟩
theorem IsC.ty {K : Frag} {C a dx : Addr} {H : Hp} {fs : List (Str × V)} (k : IsC K C) (c : Cls K C) (e : H a = some (.ins C dx fs)) : TyX K H (.ref a) (.ref C) := .base (.ins e c k.ha k.hn k.htk k.hm)
/-- isinstance of a value of the type t by the class x: b; of an instance of x by the built-in type t: b -/
def bKitO (t : String) (x : Str) (b : Bool) (K : Frag) : Bool := decide (PySem.W.kitOne K (.type t) (.ref (ga K x)) = some b)
theorem bKitO_ok {K : Frag} {t : String} {x : Str} {b : Bool} (c : bKitO t x b K = true) : PySem.W.kitOne K (.type t) (.ref (ga K x)) = some b := of_decide_eq_true c
def bKitT (x : Str) (t : String) (b : Bool) (K : Frag) : Bool := decide (PySem.W.kitOne K (.ref (ga K x)) (.type t) = some b)
theorem bKitT_ok {K : Frag} {t : String} {x : Str} {b : Bool} (c : bKitT x t b K = true) : PySem.W.kitOne K (.ref (ga K x)) (.type t) = some b := of_decide_eq_true c
def bKitC (x y : Str) (b : Bool) (K : Frag) : Bool := decide (PySem.W.kitOne K (.ref (ga K x)) (.ref (ga K y)) = some b)
theorem bKitC_ok {K : Frag} {x y : Str} {b : Bool} (c : bKitC x y b K = true) : PySem.W.kitOne K (.ref (ga K x)) (.ref (ga K y)) = some b := of_decide_eq_true c
/-- the class method m of x -/
def bCm (x m : Str) (K : Frag) : Bool := PySem.W.readsIn K (ga K x) (.type "type") && (He.eqO (PySem.W.specialIn K (.ref (ga K x)) "__getattribute__") (some (some (.builtin "type.__getattribute__"))) && ((match PySem.W.findCls K (.ref (ga K x)) (.type "type") m with
  | some (.get (.builtin b) (.ref p) .none (.ref c)) => decide (b = "classmethod.__get__") && (decide (p = cmP K x m) && decide (c = ga K x))
  | _ => false) && ((match PySem.W.recIn K (cmP K x m) "classmethod" with | some (.ref g :: _) => decide (g = cmG K x m) | _ => false) && PySem.W.fnIn K (cmG K x m))))
theorem bCm_ok {K : Frag} {x m : Str} (c : bCm x m K = true) : ClX.CRead K (ga K x) (.type "type") ∧ ClX.CMet K (ga K x) (.type "type") m (cmP K x m) (cmG K x m) := by
  obtain ⟨c0, c⟩ := Bool.and_eq_true_iff.mp c
  obtain ⟨c1, c⟩ := Bool.and_eq_true_iff.mp c
  obtain ⟨c2, c⟩ := Bool.and_eq_true_iff.mp c
  obtain ⟨c3, c4⟩ := Bool.and_eq_true_iff.mp c
  refine ⟨⟨c0, He.eqO_ok c1⟩, ?_, ?_, c4⟩
  · split at c2
    · rename_i b p cc e
      obtain ⟨d1, d⟩ := Bool.and_eq_true_iff.mp c2
      obtain ⟨d2, d3⟩ := Bool.and_eq_true_iff.mp d
      rw [e, of_decide_eq_true d1, of_decide_eq_true d2, of_decide_eq_true d3]
    · cases c2
  · split at c3
    · rename_i g r e
      rw [← of_decide_eq_true c3]
      exact ⟨r, e⟩
    · cases c3
/-- a module's name that stands for a built-in function -/
def bBlt (x : Str) (id : String) (K : Frag) : Bool := (match PySem.W.nsIn K mainGlobals x with | some (some (.builtin i)) => decide (i = id) | _ => false)
theorem bBlt_ok {K : Frag} {h : Heap} {mg : Str → Option Value} (X : K.In h) (G : h.Ns mainGlobals mg) {x : Str} {id : String} (c : bBlt x id K = true) : mg x = some (.builtin id) := by
  unfold bBlt at c
  split at c
  · rename_i i e
    rw [of_decide_eq_true c] at e
    exact PySem.W.mg_of X G e
  · cases c
end Own

set_option Elab.async false
set_option linter.all false
set_option maxRecDepth 100000
set_option maxHeartbeats 2000000
namespace Own
open PySem PySem.Spec PyProof.Rows L2
open PySem.W (Frag)
/-! ### repr of lists and tuples that hold own objects -/
section
variable {M : Model} {A : Around} {E : Value → Shared → Prop} {s : Shared} {K : Frag} {C x f : Addr} {ox od : Obj}
theorem ifBoundBy_K {name : Str} {last : Value → List Value → Sem Value} {Q : Option Value → Shared → Prop} (X : K.In s.heap) (J : PySem.W.InstAt s.heap x ox C (some od)) (hs : PySem.W.findIn K (.ref C) name = some (some (.ref f)))
    (hf : PySem.W.isFn K (.ref f) = true) (h : wpAny M A (last (.ref f) [.ref x]) (fun v => Q (some v)) E s) : wpAny M A (callSpecialIfBoundBy? last (.ref x) name) Q E s := by
  have ht : PySem.W.typeIn K (.ref f) = some (.type "function") := by
    unfold PySem.W.isFn at hf
    exact beq_iff_eq.mp hf
  simp only [callSpecialIfBoundBy?, bindSpecialIfBound?]
  refine wpAny_holding (wpAny_bind (wpAny_bind (wpAny_bind (J.type.here ((PySem.W.looks_findIn X hs).here ?_)))))
  refine wpAny_bind (wpAny_askSetting (wpAny_ite ?_))
  have fin : wpAny M A (last (.ref f) [.ref x] >>= fun v => pure (some v)) Q E s := wpAny_bind (wpAny_mono h (fun v s' h' => wpAny_pure h') fun _ _ h' => h')
  have bd : ∀ {Z : Value × List Value → Shared → Prop} {E2 : Value → Shared → Prop}, Z (.ref f, [.ref x]) s → wpAny M A (bindSpecial (.ref f) (.ref x)) Z E2 s := by
    intro Z E2 z
    unfold bindSpecial
    refine wpAny_bind ((PySem.W.looks_typeIn X ht).here ?_)
    have e : ((Value.type "function" == Value.type "function" || Value.type "function" == Value.type "method_descriptor" || Value.type "function" == Value.type "wrapper_descriptor") = true) := by simp
    rw [if_pos e]
    exact wpAny_pure z
  split
  · exact wpAny_bind (bd (wpAny_pure (by exact fin)))
  · exact wpAny_tryCatch (wpAny_bind (bd (wpAny_pure (by exact fin))))
/-- the own __repr__ beneath another one -/
theorem reprUnder_K {b : Nat} {Q : Value → Shared → Prop} (hu : A.units < cLine) (X : K.In s.heap) (J : PySem.W.InstAt s.heap x ox C (some od)) (hs : PySem.W.findIn K (.ref C) "__repr__" = some (some (.ref f)))
    (hf : PySem.W.isFn K (.ref f) = true) (h : wpAny M A (call (.ref f) [.ref x]) (fun v s' => ∃ t u, v = .str t u ∧ Q (.str t u) s') E s) : wpAny M A (pyReprObjUnder b (.ref x)) Q E s := by
  unfold pyReprObjUnder pyReprObjBy
  refine wpAny_bind (wpAny_cRoomFor hu ?_)
  refine wpAny_bind (wpAny_bind (J.type.here ((PySem.W.looks_findIn X hs).here ?_)))
  simp only [Option.isNone_some, Bool.false_eq_true, if_false]
  refine wpAny_bind (ifBoundBy_K X J hs hf ?_)
  refine wpAny_mono (show wpAny M A (call (.ref f) [.ref x]) _ E s from h) (fun v s' z => ?_) fun _ _ e => e
  obtain ⟨t, u, rfl, q⟩ := z
  refine wpAny_bind (wpAny_isInstance (T := "str") (b := true) rfl rfl ?_)
  exact wpAny_pure q
end
/-- x shows t in H; the lists and tuples within are as -/
abbrev Shw := V → Str → List Addr → Hp → Prop
def MonT (D : Shw) : Prop := ∀ x t as H H', Ext H H' → D x t as H → D x t as H'
def RepG (X : Cx) (n : Nat) (D : Shw) : Prop := ∀ (A : Around) (g : List Code) (pins : List (Addr × Obj)) (s : Shared) (σ : L2.St) (H : Hp) (x : V) (t : Str) (as : List Addr) (u : Value) (base : Nat),
  Sub X n A → A.guards = some g → (∀ b, b ∈ as → Clear g b) → Inv X pins σ H s → RelV x u → D x t as H → base + t.length ≤ sizeLine →
  wpAny (model X.prog X.w) A (pyReprUnder base u) (fun z s' => z = t ∧ ∃ H', Inv X pins σ H' s' ∧ Ext H H') X.xe s
section
variable {X : Cx}
theorem MonT.or {D D2 : Shw} (a : MonT D) (b : MonT D2) : MonT fun x t as H => D x t as H ∨ D2 x t as H := fun x t as H H' e h => h.imp (a x t as H H' e) (b x t as H H' e)
theorem RepG.or {n : Nat} {D D2 : Shw} (a : RepG X n D) (b : RepG X n D2) : RepG X n fun x t as H => D x t as H ∨ D2 x t as H := fun A g pins s σ H x t as u base S hg hc I rx d hb => by
  rcases d with d | d
  · exact a A g pins s σ H x t as u base S hg hc I rx d hb
  · exact b A g pins s σ H x t as u base S hg hc I rx d hb
theorem RepG.mono {n m : Nat} {D : Shw} (a : RepG X n D) (k : n ≤ m) : RepG X m D := fun A g pins s σ H x t as u base S hg hc I rx d hb => a A g pins s σ H x t as u base (S.mono k) hg hc I rx d hb
/-- whole numbers -/
def DInt : Shw := fun x t _ _ => ∃ i : Int, x = .int i ∧ t = Str.ofString (toString i) ∧ i.natAbs.log2 < 1920
theorem monT_int : MonT DInt := fun _ _ _ _ _ _ h => h
theorem repG_int {n : Nat} : RepG X n DInt := by
  rintro A g pins s σ H x t as u base S hg hc I rx ⟨i, rfl, rfl, hi⟩ hb
  obtain ⟨k, rfl⟩ := (show ∃ k, u = Value.int i k from rx)
  exact ReprIs.int k hi base hb A _ s _ fun tk => ⟨rfl, H, I.tok tk, Ext.rfl'⟩
/-- own objects -/
def spTell (RT : Addr → Str → Hp → Prop) : Sp := fun vs H Q _ => ∃ a t, vs = [.ref a] ∧ RT a t H ∧ ∀ H', Ext H H' → Q (.str t) H'
def DOwn (C : Addr) (RT : Addr → Str → Hp → Prop) : Shw := fun x t _ H => ∃ a dx fs, x = .ref a ∧ H a = some (.ins C dx fs) ∧ RT a t H
theorem monT_own {C : Addr} {RT : Addr → Str → Hp → Prop} (m : ∀ a t H H', Ext H H' → RT a t H → RT a t H') : MonT (DOwn C RT) := fun x t as H H' e ⟨a, dx, fs, h1, h2, h3⟩ => ⟨a, dx, fs, h1, e _ _ h2, m _ _ _ _ e h3⟩
theorem repG_own {CX : CXT} {n : Nat} {C f : Addr} {fd : FuncData} {ps : List Str} {RT : Addr → Str → Hp → Prop} {E : XK} (F : FnOk X.prog X.w X.K X.mg X.base CX n f fd ps (spTell RT))
    (k : PySem.W.findIn X.K (.ref C) "__repr__" = some (some (.ref f))) (kf : PySem.W.isFn X.K (.ref f) = true) (hb : Binds X.K fd ps []) (hx : Passes CX X E) : RepG X n (DOwn C RT) := by
  rintro A g pins s σ H x t as u base S hg hc I rx ⟨a, dx, fs, rfl, ha, rt⟩ hbs
  cases (show u = Value.ref a from rx)
  obtain ⟨mA, O, _⟩ := ins_get I.hok ha
  obtain ⟨od, J, _⟩ := O.look
  refine wpAny_pyReprUnder_ref (by omega) ?_
  refine reprUnder_K (by have := S.room.un; omega) I.kIn J k kf ?_
  have q : spTell RT [.ref a] H (fun v H2 => v = .str t ∧ Ext H H2) E := ⟨a, t, rfl, rt, fun H' e => ⟨rfl, e⟩⟩
  have e0 := I.env0
  have env : Env0 X.prog X.w X.K X.mg X.base A X.stack s H := ⟨S.fr.trans e0.frames, e0.mod, e0.bs, e0.bsz, e0.funs, e0.frf, e0.hok, e0.bare⟩
  refine wpAny_mono (wpAny_call (codeAny_mono (F.run A X.stack s H ⟨[.ref a], []⟩ _ [.ref a] _ E S.room env (hb s [.ref a] I.kIn (F.len _ _ _ _ q)) (.cons rfl .nil) q) fun r s2 z => bk_of hx I z)) (fun v s2 z => ?_) fun _ _ e => e
  obtain ⟨z1, H2, I2, rz, rfl, ez⟩ := z
  obtain ⟨tk, rfl⟩ := (show ∃ tk, v = Value.str t tk from rz)
  exact ⟨t, tk, rfl, t, tk, rfl, rfl, H2, I2, ez⟩
/-! ### lists -/
theorem sub_under {n : Nat} {A : Around} (S : Sub X (n + 1) A) (args : Args) : Sub X n (A.under (.builtin "list.__repr__.loop" args)) := by
  refine ⟨⟨S.room.hd, ?_, ?_⟩, S.fr⟩
  · have := S.room.dp
    show A.depth + Code.weight _ + 3 * n + 5 < _
    have w : Code.weight (.builtin "list.__repr__.loop" args) = 1 := by
      unfold Code.weight
      rw [isGuard_list_loop]
      rfl
    rw [w]
    omega
  · have := S.room.un
    rw [units_under_list_loop]
    omega
theorem strs_of : ∀ {ts : List Str} {us : List Value}, Vals (ts.map V.str) us → ∃ l : List (Str × Tok), us = strValues l ∧ l.map (·.1) = ts
  | [], _, .nil => ⟨[], rfl, rfl⟩
  | t :: ts, _, .cons (b := b) r h => by
    obtain ⟨tk, rfl⟩ := (show ∃ tk, b = Value.str t tk from r)
    obtain ⟨l, rfl, e⟩ := strs_of h
    exact ⟨(t, tk) :: l, rfl, by rw [List.map_cons, e]⟩
end
end Own

set_option Elab.async false
set_option linter.all false
set_option maxRecDepth 100000
set_option maxHeartbeats 2000000
namespace Own
open PySem PySem.Spec PyProof.Rows L2
open PySem.W (Frag)
section
variable {X : Cx}
theorem lst_get {P : Program} {w : World} {H : Hp} {h : Heap} {a : Addr} {xs : List V} (k : HOk P w H h) (e : H a = some (.lst xs)) :
    xs.length ≤ sizeLine ∧ ∃ its n, Vals xs its ∧ h.get? a = some { cls := Value.type "list", data := Data.seq its.toArray n } := by
  have o := k a _ e
  simp only [ObjOk] at o
  exact o
theorem rep_loop {n : Nat} {D : Shw} (h : RepG X n D) (mon : MonT D) {A : Around} {g : List Code} {a P : Addr} {xs : List V} {ts : List Str} {as : List Addr} {base : Nat} {R : Result → Shared → Prop} {pins : List (Addr × Obj)} {σ : L2.St} {H : Hp}
    (S : Sub X (n + 1) A) (hg : A.guards = some g) (hca : a ∉ as) (hc : ∀ b, b ∈ as → Clear g b) (hlen : ts.length = xs.length) (hD : ∀ (i : Nat) x, xs[i]? = some x → ∃ t, ts[i]? = some t ∧ D x t as H)
    (hb : base + (listText ts).length ≤ sizeLine) (ha : H a = some (.lst xs)) (hP : H P = none)
    (hR : ∀ H' s' u, Inv X pins σ H' s' → Ext H H' → R (.ok (.ret (.str (listText ts) u))) s') (hE : ∀ e s', X.xe e s' → R (.error e) s') :
    ∀ (k i : Nat) (s : Shared) (H1 : Hp), xs.length - i = k → i ≤ xs.length → Inv X pins σ H1 s → Ext H H1 → H1 P = some (.lst ((ts.take i).map V.str)) →
      codeAny (model X.prog X.w) A (.builtin "list.__repr__.loop" ⟨[.ref a, rawInt (i : Nat), .ref P, rawInt ((base + piled (ts.take i) : Nat))], []⟩) R s := by
  intro k
  induction k with
  | zero =>
    intro i s H1 hk hi I ex hp
    have e : i = xs.length := by omega
    subst e
    rw [← hlen] at hp ⊢
    rw [List.take_length] at hp ⊢
    obtain ⟨_, its, na, _, ga⟩ := lst_get I.hok (ex _ _ ha)
    obtain ⟨lp, ips, np, vp, gp⟩ := lst_get I.hok hp
    obtain ⟨l, rfl, el⟩ := strs_of vp
    have hits : its.length = ts.length := by
      rename_i v
      rw [hlen]
      exact v.length.symm
    refine codeAny_builtin F.entry_list_repr_loop ?_
    show wpAny _ _ (Builtin.«list.__repr__.loop» { pos := [Value.ref a, Value.int ((ts.length : Nat) : Int) 0, Value.ref P, Value.int ((base + piled ts : Nat) : Int) 0] }) _ _ s
    rw [repr_loop_tree]
    refine wpAny_bind (wpAny_listItems ga rfl ?_)
    have e1 : its.toArray[(((ts.length : Nat) : Int)).toNat]? = none := by
      rw [Int.toNat_natCast]
      simp [hits]
    rw [e1]
    show wpAny _ _ (reprEnd (.ref P)) _ _ s
    unfold reprEnd
    refine wpAny_bind (wpAny_listItems gp rfl ?_)
    have e2 : (forIn (strValues l).toArray.toList.zipIdx (Str.ofString "[") reprBody : Sem Str) = pure (textFrom 0 (Str.ofString "[") (l.map (·.1))) := repr_fold l 0 _
    rw [e2, el]
    refine wpAny_bind (wpAny_pure ?_)
    unfold retStr
    refine wpAny_bind (wpAny_mkStr ?_ (by show (listText ts).length ≤ sizeLine; omega))
    refine wpAny_pure ?_
    exact hR H1 _ _ (I.tok _) ex
  | succ k ih =>
    intro i s H1 hk hi I ex hp
    have hi2 : i < xs.length := by omega
    obtain ⟨_, its, na, va, ga⟩ := lst_get I.hok (ex _ _ ha)
    obtain ⟨lp, ips, np, vp, gp⟩ := lst_get I.hok hp
    have hx : xs[i]? = some xs[i] := List.getElem?_eq_getElem hi2
    obtain ⟨u, hu, ru⟩ := va.get hx
    obtain ⟨t, ht, hd⟩ := hD i _ hx
    have pl := piled_take_succ ht
    have ple := piled_take_le ts (i + 1)
    have ple2 := piled_le_listText ts
    refine codeAny_builtin F.entry_list_repr_loop ?_
    show wpAny _ _ (Builtin.«list.__repr__.loop» { pos := [Value.ref a, Value.int ((i : Nat) : Int) 0, Value.ref P, Value.int ((base + piled (ts.take i) : Nat) : Int) 0] }) _ _ s
    rw [repr_loop_tree]
    refine wpAny_bind (wpAny_listItems ga rfl ?_)
    have e1 : its.toArray[((i : Nat) : Int).toNat]? = some u := by
      rw [Int.toNat_natCast]
      simpa using hu
    rw [e1]
    simp only [Int.toNat_natCast]
    have hc2 : ∀ b, b ∈ as → Clear (Code.builtin "list.__repr__.loop" ⟨[.ref a, rawInt ((i : Nat) : Int), .ref P, rawInt ((base + piled (ts.take i) : Nat) : Int)], []⟩ :: g) b := by
      intro b hbm id v rest kw hm
      rcases List.mem_cons.mp hm with e | e
      · injection e with e1 e2
        injection e2 with e3 e4
        injection e3 with e5 e6
        rw [e5]
        intro z
        injection z with z2
        exact hca (z2 ▸ hbm)
      · exact hc b hbm id v rest kw e
    refine wpAny_bind (wpAny_holding (wpAny_mono (h _ _ pins s σ H1 _ t as u _ (sub_under S _) (guards_under_guard (isGuard_list_loop _) hg) hc2 I ru (mon _ _ _ _ _ ex hd) (by omega)) (fun z s2 hz => ?_) fun e s2 z => hE e s2 z))
    obtain ⟨rfl, H2, I2, ex2⟩ := hz
    have hp2 := ex2 _ _ hp
    obtain ⟨lp2, ips2, np2, vp2, gp2⟩ := lst_get I2.hok hp2
    refine wpAny_bind (wpAny_mkStr ?_ (by omega))
    have szp : ips2.length = i := by
      rw [← vp2.length, List.length_map, List.length_take]
      omega
    refine wpAny_bind (wpAny_updateSeq (o := { cls := Value.type "list", data := Data.seq ips2.toArray np2 }) gp2 rfl ?_ (by simpa [szp] using (by omega : i ≤ sizeLine)) (by simp [szp]; omega))
    refine wpAny_pure ⟨F.quiet_list_repr_loop _, ?_⟩
    have tk1 : (ts.take (i + 1)).map V.str = (ts.take i).map V.str ++ [V.str z] := by
      rw [List.take_succ, ht]
      simp
    have q := ih (i + 1) { heap := s2.heap.update P (Obj.mapSeq fun x => x.push (Value.str z s2.toks)), gens := s2.gens, drawn := s2.drawn, toks := s2.toks + 1, os := s2.os } (upd H2 P (.lst ((ts.take (i + 1)).map V.str))) (by omega) (by omega)
      (Inv.write I2 (x := P) (e := P) (by rw [hp2]; trivial) (.inl rfl) (fun b u hbp e => by rw [Heap.get?_update_ne _ _ _ _ hbp]; exact e) ?_ ?_) (fun b o e => ?_) upd_same
    · rw [pl, ← Nat.add_assoc] at q
      exact q
    · exact ⟨_, Heap.get?_update_self _ gp2 rfl⟩
    · simp only [ObjOk]
      refine ⟨?_, ips2 ++ [Value.str z s2.toks], ?_⟩
      · rw [tk1]
        simp
        omega
      · refine ⟨np2 + 1, ?_, ?_⟩
        · rw [tk1]
          exact vp2.append (.cons ⟨_, rfl⟩ .nil)
        · rw [Heap.get?_update_self _ gp2 rfl]
          simp [Obj.mapSeq]
    · have nb : b ≠ P := fun z => by rw [z, hP] at e; cases e
      rw [upd_ne nb]
      exact ex2 _ _ (ex _ _ e)
/-- a list that isn't within itself -/
def DLst (D : Shw) : Shw := fun x t as H => ∃ a xs ts bs, x = .ref a ∧ t = listText ts ∧ (∀ b, b ∈ a :: bs → b ∈ as) ∧ a ∉ bs ∧ H a = some (.lst xs) ∧ ts.length = xs.length ∧ ∀ (i : Nat) y, xs[i]? = some y → ∃ t, ts[i]? = some t ∧ D y t bs H
theorem monT_lst {D : Shw} (m : MonT D) : MonT (DLst D) := fun x t as H H' e ⟨a, xs, ts, bs, h1, h2, h3, h4, h5, h6, h7⟩ => ⟨a, xs, ts, bs, h1, h2, h3, h4, e _ _ h5, h6, fun i y ey => let ⟨t, z1, z2⟩ := h7 i y ey; ⟨t, z1, m _ _ _ _ _ e z2⟩⟩
theorem listText_nil : listText [] = Str.ofString "[]" := by decide +kernel
/-- the list's text, from where its room is checked -/
theorem rep_at {n : Nat} {D : Shw} (h : RepG X n D) (mon : MonT D) {A : Around} {g : List Code} {a : Addr} {xs : List V} {ts : List Str} {as : List Addr} {base : Nat} {R : Result → Shared → Prop} {pins : List (Addr × Obj)} {σ : L2.St} {H : Hp} {s : Shared}
    (S : Sub X (n + 1) A) (hg : A.guards = some g) (hca : a ∉ as) (hc : ∀ b, b ∈ a :: as → Clear g b) (hlen : ts.length = xs.length) (hD : ∀ (i : Nat) x, xs[i]? = some x → ∃ t, ts[i]? = some t ∧ D x t as H)
    (hb : base + (listText ts).length ≤ sizeLine) (ha : H a = some (.lst xs)) (I : Inv X pins σ H s)
    (hR : ∀ H' s' u, Inv X pins σ H' s' → Ext H H' → R (.ok (.ret (.str (listText ts) u))) s') (hE : ∀ e s', X.xe e s' → R (.error e) s') :
    wpAny (model X.prog X.w) A.in1 (Builtin.listReprAt base { pos := [.ref a] }) (fun fin s' => match fin with
      | Fin.done f => R (.ok f) s'
      | Fin.again c' => c'.quiet = true ∧ codeAny (model X.prog X.w) A c' R s') (fun e s' => R (.error e) s') s := by
  obtain ⟨lx, its, na, va, ga⟩ := lst_get I.hok ha
  cases its with
  | nil =>
    cases xs with
    | cons x l => exact nomatch va
    | nil =>
      cases ts with
      | cons t l => simp at hlen
      | nil =>
        refine wpAny_list_repr_empty ga rfl ?_
        rw [← listText_nil]
        exact hR H _ _ (I.tok _) Ext.rfl'
  | cons y l =>
    refine wpAny_list_repr_head (g := g) hg (fun v rest kw hm => listSameRef_of_ne (hc a List.mem_cons_self _ v rest kw hm)) ga rfl ?_
    refine wpAny_bind (wpAny_newList ?_ (by show 0 ≤ sizeLine; omega))
    refine wpAny_pure ⟨F.quiet_list_repr_loop _, ?_⟩
    have hP : H s.heap.objs.size = none := I.fresh
    have q := rep_loop (R := R) h mon S hg hca (fun b hb => hc b (List.mem_cons_of_mem _ hb)) hlen hD hb ha hP hR hE xs.length 0
      { heap := s.heap.push { cls := Value.type "list", data := Data.seq [].toArray }, gens := s.gens, drawn := s.drawn, toks := s.toks, os := s.os } (upd H s.heap.objs.size (.lst [])) (by omega) (by omega)
      (I.laid (fun b u e => Heap.get?_push_of_some _ e) (Nat.le_refl _) ?_) (Ext.upd hP) upd_same
    · exact q
    · simp only [ObjOk]
      exact ⟨by simp, [], 0, .nil, by rw [Heap.get?_push_size _ rfl]⟩
theorem typeIs_lst {P : Program} {w : World} {H : Hp} {s : Shared} {a : Addr} {xs : List V} (k : HOk P w H s.heap) (e : H a = some (.lst xs)) : s.TypeIs (.ref a) "list" := by
  obtain ⟨_, its, na, _, ga⟩ := lst_get k e
  exact ⟨_, ga, rfl⟩
theorem slotG_list : SlotG "list" (Str.ofString "__repr__") "list.__repr__" := F.slot_list_repr.toG
theorem repG_lst {n : Nat} {D : Shw} (h : RepG X n D) (mon : MonT D) : RepG X (n + 1) (DLst D) := by
  rintro A g pins s σ H x t as u base S hg hc I rx ⟨a, xs, ts, bs, rfl, rfl, hsub, hab, ha, hlen, hD⟩ hb
  have hc := fun b hb => hc b (hsub b hb)
  cases (show u = Value.ref a from rx)
  refine wpAny_pyReprUnder_ref (by omega) ?_
  refine wpAny_pyReprObjUnder_twin (T := "list") (id := "list.__repr__") (twin := "list.__repr__.under") (typeIs_lst I.hok ha) slotG_list rfl (by have := S.room.un; omega) ?_
  refine call_twin_plain F.plain_list_repr_under F.entry_list_repr_under F.check_list_repr_under (typeIs_lst I.hok ha) slotG_list (F.args_list_repr_1 _) ?_
  exact rep_at h mon S hg hab hc hlen hD hb ha I (fun H' s' u I' e => ⟨⟨_, _, rfl⟩, _, _, rfl, rfl, H', I', e⟩) fun e s' z => z
/-- repr of a list -/
def rReprG (D : Shw) : List V → Hp → VK → Prop := fun xs H Q => ∃ x t as, xs = [x] ∧ DLst D x t as H ∧ t.length ≤ sizeLine ∧ ∀ H', Ext H H' → Q (.str t) H'
theorem cg_reprG {n : Nat} {D : Shw} (h : RepG X n D) (mon : MonT D) (gg : X.A.guards = some []) (hr : Room (n + 2) X.A) : CallR X (.builtin "repr") (rReprG D) := by
  rintro pins s σ H xs us Q I r ⟨x, t, as, rfl, ⟨a, xs, ts, bs, rfl, rfl, hsub, hab, ha, hlen, hD⟩, hl, q⟩
  obtain ⟨u, rfl, ru⟩ := r.one
  cases (show u = Value.ref a from ru)
  refine call_repr_slot (T := "list") (by have := hr.un; omega) (typeIs_lst I.hok ha) slotG_list ?_
  refine GQ.call_here F.slot_list_repr (typeIs_lst I.hok ha) F.entry_list_repr (F.args_list_repr_1 _) ?_
  have S : Sub X (n + 1) X.A.in1 := ⟨hr.in1, rfl⟩
  exact rep_at (base := 0) h mon S gg hab (fun b _ id v rest kw hm => nomatch hm) hlen hD (by omega) ha I (fun H' s' u I' e => ⟨_, _, rfl, .str _, H', I', ⟨_, rfl⟩, q H' e⟩) fun e s' z => z
end
end Own

set_option Elab.async false
set_option linter.all false
set_option maxRecDepth 100000
set_option maxHeartbeats 2000000
namespace Own
open PySem PySem.Spec PyProof.Rows L2
open PySem.W (Frag)
section
variable {X : Cx}
/-! ### tuples -/
theorem tup_get {P : Program} {w : World} {H : Hp} {h : Heap} {a : Addr} {xs : List V} (k : HOk P w H h) (e : H a = some (.tup xs)) :
    xs.length ≤ sizeLine ∧ ∃ its, Vals xs its ∧ IsTup h a its.toArray := by
  have o := k a _ e
  simp only [ObjOk] at o
  exact o
def DTpl (D : Shw) : Shw := fun x t as H => ∃ a xs ts bs, x = .ref a ∧ t = tupleText ts ∧ (∀ b, b ∈ a :: bs → b ∈ as) ∧ a ∉ bs ∧ H a = some (.tup xs) ∧ ts.length = xs.length ∧ ∀ (i : Nat) y, xs[i]? = some y → ∃ t, ts[i]? = some t ∧ D y t bs H
theorem monT_tpl {D : Shw} (m : MonT D) : MonT (DTpl D) := fun x t as H H' e ⟨a, xs, ts, bs, h1, h2, h3, h4, h5, h6, h7⟩ => ⟨a, xs, ts, bs, h1, h2, h3, h4, e _ _ h5, h6, fun i y ey => let ⟨t, z1, z2⟩ := h7 i y ey; ⟨t, z1, m _ _ _ _ _ e z2⟩⟩
theorem sub_underT {n : Nat} {A : Around} (S : Sub X (n + 1) A) (args : Args) : Sub X n (A.under (.builtin "tuple.__repr__.under" args)) := by
  refine ⟨⟨S.room.hd, ?_, ?_⟩, S.fr⟩
  · have := S.room.dp
    show A.depth + Code.weight _ + 3 * n + 5 < _
    have w : Code.weight (.builtin "tuple.__repr__.under" args) = 1 := by
      unfold Code.weight
      rw [isGuard_tuple_repr_under]
      rfl
    rw [w]
    omega
  · have := S.room.un
    rw [units_under_tuple_repr_under]
    omega
theorem slotG_tuple : SlotG "tuple" (Str.ofString "__repr__") "tuple.__repr__" := F.slot_tuple_repr
theorem repG_tpl {n : Nat} {D : Shw} (h : RepG X n D) (mon : MonT D) : RepG X (n + 1) (DTpl D) := by
  rintro A g pins s σ H x t as u base S hg hc I rx ⟨a, xs, ts, bs, rfl, rfl, hsub, hab, ha, hlen, hD⟩ hb
  have hc := fun b hb => hc b (hsub b hb)
  cases (show u = Value.ref a from rx)
  obtain ⟨lx, its, va, hT⟩ := tup_get I.hok ha
  obtain ⟨oa, ga, hcls, na, hdat⟩ := hT
  have hty : s.TypeIs (.ref a) "tuple" := ⟨_, ga, hcls⟩
  refine wpAny_pyReprUnder_ref (by omega) ?_
  refine wpAny_pyReprObjUnder_twin (T := "tuple") (id := "tuple.__repr__") (twin := "tuple.__repr__.under") hty slotG_tuple rfl (by have := S.room.un; omega) ?_
  refine call_twin_own (F.quiet_tuple_repr_under _) F.entry_tuple_repr_under F.check_tuple_repr_under hty slotG_tuple (F.args_tuple_repr_1 _) ?_
  generalize hc0 : Code.builtin "tuple.__repr__.under" { pos := [Value.ref a, rawInt ((base : Nat) : Int)] } = c
  have S2 : Sub X n (A.under c) := by rw [← hc0]; exact sub_underT S _
  have hg2 : (A.under c).guards = some (c :: g) := by rw [← hc0]; exact guards_under_guard (isGuard_tuple_repr_under _) hg
  have hc2 : ∀ b, b ∈ bs → Clear (c :: g) b := by
    intro b hbm id v rest kw hm
    rcases List.mem_cons.mp hm with e | e
    · rw [← hc0] at e
      injection e with e1 e2
      injection e2 with e3 e4
      injection e3 with e5 e6
      rw [e5]
      intro z
      injection z with z2
      exact hab (z2 ▸ hbm)
    · exact hc b (List.mem_cons_of_mem _ hbm) id v rest kw e
  have hcl : g.any (fun c => tupGuardF (.ref a) (c, default)) = false := by
    rw [List.any_eq_false]
    intro c' hm
    rw [tupGuardF_of_clear (hc a List.mem_cons_self) c' hm]
    exact Bool.false_ne_true
  have ple2 := piled_le_tupleText ts
  rw [tuple_repr_tree, tupleReprUnderWay_eq]
  refine wpOwn_bind (wpOwn_stackTailAny hg (fun c p e => tupGuardF_off _ _ _ e) (fun c p => tupGuardF_pos _ _ _) ?_)
  rw [hcl]
  simp only [Bool.false_eq_true, if_false]
  refine wpOwn_of_wpAny ?_
  unfold tupleReprRest
  refine wpAny_bind (wpAny_tupleItemsOf ga hdat ?_)
  have hsz : its.length = ts.length := by rw [hlen]; exact va.length.symm
  refine wpAny_bind (wpAny_forIn_array' tupBody (fun rest r s' => ∃ i H', i ≤ ts.length ∧ rest = its.drop i ∧ r = ((ts.take i).toArray, base + piled (ts.take i)) ∧ Inv X pins σ H' s' ∧ Ext H H') _ ?_ ?_ its.toArray (#[], base) ⟨0, H, by omega, rfl, rfl, I, Ext.rfl'⟩)
  · rintro y rest ⟨acc, m⟩ s1 ⟨i, H1, hi, er, e2, I1, ex1⟩
    injection e2 with e3 e4
    subst e3 e4
    have hi2 : i < its.length := by
      rcases Nat.lt_or_ge i its.length with z | z
      · exact z
      · rw [List.drop_eq_nil_of_le z] at er
        cases er
    have er2 := er
    rw [List.drop_eq_getElem_cons hi2] at er2
    injection er2 with ey erest
    have hx : xs[i]? = some xs[i] := List.getElem?_eq_getElem (by omega)
    obtain ⟨u, hu, ru⟩ := va.get hx
    have eu : u = y := by
      rw [List.getElem?_eq_getElem hi2] at hu
      rw [ey]
      exact (Option.some.inj hu).symm
    subst eu
    obtain ⟨t, ht, hd⟩ := hD i _ hx
    have pl := piled_take_succ ht
    have ple := piled_take_le ts (i + 1)
    unfold tupBody
    refine wpAny_bind (wpAny_mono (h _ _ pins s1 σ H1 _ t bs u _ S2 hg2 hc2 I1 ru (mon _ _ _ _ _ ex1 hd) (by show base + piled (ts.take i) + 1 + t.length ≤ _; omega)) (fun z s2 hz => ?_) fun e s2 z => z)
    obtain ⟨rfl, H2, I2, ex2⟩ := hz
    refine wpAny_pure ⟨i + 1, H2, by omega, erest, ?_, I2, ex1.trans ex2⟩
    rw [pl]
    have : (ts.take i).toArray.push z = (ts.take (i + 1)).toArray := by
      rw [List.take_succ, ht]
      simp
    rw [← this]
    show ((ts.take i).toArray.push z, base + piled (ts.take i) + (z.length + 2)) = _
    rw [Nat.add_assoc]
  · rintro ⟨acc, m⟩ s1 ⟨i, H1, hi, er, e2, I1, ex1⟩
    injection e2 with e3 e4
    subst e3 e4
    have hi2 : i = ts.length := by
      rcases Nat.lt_or_ge i its.length with z | z
      · rw [List.drop_eq_getElem_cons z] at er
        cases er
      · omega
    subst hi2
    unfold retStr
    have et : Str.ofString "(" ++ (Str.ofString ", ").join (ts.take ts.length).toArray.toList ++ Str.ofString (if (its.toArray.size == 1) = true then ",)" else ")") = tupleText ts := by
      unfold tupleText
      simp [hsz]
    rw [et]
    refine wpAny_bind (wpAny_mkStr ?_ (by omega))
    refine wpAny_pure ?_
    exact ⟨⟨_, _, rfl⟩, _, _, rfl, rfl, H1, I1.tok _, ex1⟩
end
end Own

set_option Elab.async false
set_option linter.all false
set_option maxRecDepth 100000
set_option maxHeartbeats 2000000
namespace Own
open PySem PySem.Spec PyProof.Rows L2
open PySem.W (Frag)
section
variable {X : Cx}
/-- lists of unlike lengths -/
def rLen (c : Bool) : R2 := fun x y H Q => ∃ a b xs ys, x = .ref a ∧ y = .ref b ∧ H a = some (.lst xs) ∧ H b = some (.lst ys) ∧ xs.length ≠ ys.length ∧ Q (.bl c) H
theorem or_r2 {f : Value → Value → Sem Value} {r1 r2 : R2} (a : OpR X f r1) (b : OpR X f r2) : OpR X f fun x y H Q => r1 x y H Q ∨ r2 x y H Q := by
  intro pins s σ H x y v u Q I rx ry h
  rcases h with h | h
  · exact a pins s σ H x y v u Q I rx ry h
  · exact b pins s σ H x y v u Q I rx ry h
theorem op_neLen (hu : X.A.units + 64 < cLine) : OpR X (compareOp .NotEq) (rLen true) := by
  rintro pins s σ H x y v u Q I rx ry ⟨a, b, xs, ys, rfl, rfl, ha, hb, hne, q⟩
  cases (show v = Value.ref a from rx)
  cases (show u = Value.ref b from ry)
  have hTa := typeIs_lst I.hok ha
  have hTb := typeIs_lst I.hok hb
  obtain ⟨_, its, na, va, ga⟩ := lst_get I.hok ha
  obtain ⟨_, its2, nb, vb, gb⟩ := lst_get I.hok hb
  refine PySem.W.cmp_ofNotEq (wpAny_richCompare_same_room (T := "list") (id := "list.__ne__") hTa hTb F.slot_list_ne (GQ.call_here F.slot_list_ne hTa F.entry_list_ne (F.args_list_ne_2 _ _) ?_) (by omega))
  have hsz : (its.toArray.size != its2.toArray.size) = true := by
    have l1 := va.length
    have l2 := vb.length
    simp
    omega
  unfold Builtin.«list.__ne__»
  refine wpAny_bind (m := slotArgs "__ne__" 1 _) (wpAny_pure ?_)
  dsimp only
  refine wpAny_bind (wpAny_isInstance (T := "list") (b := true) hTb rfl ?_)
  simp only [Bool.not_true, Bool.false_eq_true, if_false]
  refine wpAny_bind (wpAny_listItems ga rfl ?_)
  refine wpAny_bind (wpAny_listItems gb rfl ?_)
  simp only [hsz, if_true]
  refine wpAny_bind (wpAny_rule ?_)
  refine wpAny_pure ⟨nofun, .bl true, H, I, rfl, q⟩
end
/-! ### comprehensions over zip and enumerate -/
theorem lc_zipL {K : Frag} {a b : Addr} {xs ys : List V} {g : TG} {tt : TT} {te : TE} {vs : List Nat} {σ : L2.St} {H1 : Hp} {D : Addr} {Qd : Hp → Prop} (hl : xs.length = ys.length) (Pv : Nat → Hp → Prop)
    (h0 : Pv 0 (upd H1 D (.lst []))) (hq : ∀ (i : Nat) (H : Hp), i ≤ xs.length → Pv i H → SqL K H a xs ∧ SqL K H b ys)
    (hs : ∀ (i : Nat) (x y : V) (T : Addr) (H : Hp), xs[i]? = some x → ys[i]? = some y → Pv i H → H T = none → g (.ref T) (wipe σ vs) (upd H T (.tup [x, y])) fun σ2 H2 => wipe σ2 vs = wipe σ vs ∧ tt σ2 H2 fun b H3 =>
      if b = true then te σ2 H3 fun y H4 => ∃ acc, H4 D = some (.lst acc) ∧ acc.length < sizeLine ∧ Pv (i + 1) (upd H4 D (.lst (acc ++ [y]))) else Pv (i + 1) H3)
    (hd : ∀ H, Pv xs.length H → Qd H) :
    ∃ W : Nat → Nat → Hp → Prop, (∃ m, W 0 m (upd H1 D (.lst []))) ∧ ∀ (i m : Nat) (H : Hp), W i m H → (Itz K a b).stop i H ∧ Qd H ∨ (Itz K a b).go i H ∧ ∃ Nx : Hp → Prop, (∀ H', Nx H' → ∃ m', m' < m ∧ W (i + 1) m' H') ∧
      ∀ (x : V) (H' : Hp), (Itz K a b).yld i H x H' → g x (wipe σ vs) H' fun σ2 H2 => wipe σ2 vs = wipe σ vs ∧ tt σ2 H2 fun b H3 => if b = true then te σ2 H3 fun y H4 => ∃ acc, H4 D = some (.lst acc) ∧ acc.length < sizeLine ∧ Nx (upd H4 D (.lst (acc ++ [y]))) else Nx H3 := by
  refine ⟨fun i m H => Pv i H ∧ i ≤ xs.length ∧ m = xs.length - i, ⟨_, h0, Nat.zero_le _, rfl⟩, ?_⟩
  rintro i m H ⟨hP, hi, rfl⟩
  obtain ⟨hxa, hyb⟩ := hq i H hi hP
  by_cases h : i < xs.length
  · refine .inr ⟨⟨xs, ys, xs[i], ys[i]'(hl ▸ h), hxa, hyb, List.getElem?_eq_getElem h, List.getElem?_eq_getElem (hl ▸ h)⟩, Pv (i + 1), fun H' h' => ⟨_, ?_, h', by omega, rfl⟩, ?_⟩
    · omega
    · rintro x H' ⟨T, x1, y1, rfl, hT, rfl, e1, e2⟩
      exact hs i x1 y1 T H (e1 xs hxa) (e2 ys hyb) hP hT
  · have e : i = xs.length := by omega
    subst e
    exact .inl ⟨⟨xs, ys, hxa, hyb, .inl (Nat.le_refl _)⟩, hd H hP⟩
theorem lc_enum {K : Frag} {a : Addr} {xs : List V} {g : TG} {tt : TT} {te : TE} {vs : List Nat} {σ : L2.St} {H1 : Hp} {D : Addr} {Qd : Hp → Prop} (Pv : Nat → Hp → Prop)
    (h0 : Pv 0 (upd H1 D (.lst []))) (hq : ∀ (i : Nat) (H : Hp), i ≤ xs.length → Pv i H → SqL K H a xs)
    (hs : ∀ (i : Nat) (x : V) (T : Addr) (H : Hp), xs[i]? = some x → Pv i H → H T = none → g (.ref T) (wipe σ vs) (upd H T (.tup [.int (i : Nat), x])) fun σ2 H2 => wipe σ2 vs = wipe σ vs ∧ tt σ2 H2 fun b H3 =>
      if b = true then te σ2 H3 fun y H4 => ∃ acc, H4 D = some (.lst acc) ∧ acc.length < sizeLine ∧ Pv (i + 1) (upd H4 D (.lst (acc ++ [y]))) else Pv (i + 1) H3)
    (hd : ∀ H, Pv xs.length H → Qd H) :
    ∃ W : Nat → Nat → Hp → Prop, (∃ m, W 0 m (upd H1 D (.lst []))) ∧ ∀ (i m : Nat) (H : Hp), W i m H → (Ite K a).stop i H ∧ Qd H ∨ (Ite K a).go i H ∧ ∃ Nx : Hp → Prop, (∀ H', Nx H' → ∃ m', m' < m ∧ W (i + 1) m' H') ∧
      ∀ (x : V) (H' : Hp), (Ite K a).yld i H x H' → g x (wipe σ vs) H' fun σ2 H2 => wipe σ2 vs = wipe σ vs ∧ tt σ2 H2 fun b H3 => if b = true then te σ2 H3 fun y H4 => ∃ acc, H4 D = some (.lst acc) ∧ acc.length < sizeLine ∧ Nx (upd H4 D (.lst (acc ++ [y]))) else Nx H3 := by
  refine ⟨fun i m H => Pv i H ∧ i ≤ xs.length ∧ m = xs.length - i, ⟨_, h0, Nat.zero_le _, rfl⟩, ?_⟩
  rintro i m H ⟨hP, hi, rfl⟩
  have hxa := hq i H hi hP
  by_cases h : i < xs.length
  · refine .inr ⟨⟨xs, xs[i], hxa, List.getElem?_eq_getElem h⟩, Pv (i + 1), fun H' h' => ⟨_, ?_, h', by omega, rfl⟩, ?_⟩
    · omega
    · rintro x H' ⟨T, x1, rfl, hT, rfl, e1⟩
      exact hs i x1 T H (e1 xs hxa) hP hT
  · have e : i = xs.length := by omega
    subst e
    exact .inl ⟨⟨xs, hxa, Nat.le_refl _⟩, hd H hP⟩
/-- walking enumerate -/
theorem for_enum {K : Frag} {a : Addr} {xs : List V} {g : TG} {tb : TS} {D : Ends} {σ : L2.St} {H : Hp} (Pv : Nat → L2.St → Hp → Prop) (h0 : Pv 0 σ H) (hq : ∀ (i : Nat) (σ : L2.St) (H : Hp), i ≤ xs.length → Pv i σ H → SqL K H a xs)
    (hs : ∀ (i : Nat) (x : V) (T : Addr) (σ : L2.St) (H : Hp), xs[i]? = some x → Pv i σ H → H T = none → g (.ref T) σ (upd H T (.tup [.int (i : Nat), x])) fun σ2 H2 => tb { nx := Pv (i + 1), rt := D.rt, bk := D.nx, ct := Pv (i + 1) } σ2 H2)
    (hd : ∀ σ H, Pv xs.length σ H → D.nx σ H) :
    ∃ W : Nat → Nat → L2.St → Hp → Prop, (∃ m, W 0 m σ H) ∧ ∀ (i m : Nat) (σ : L2.St) (H : Hp), W i m σ H → (Ite K a).stop i H ∧ D.nx σ H ∨ (Ite K a).go i H ∧ ∃ N : L2.St → Hp → Prop, (∀ σ' H', N σ' H' → ∃ m', m' < m ∧ W (i + 1) m' σ' H') ∧
      ∀ (x : V) (H' : Hp), (Ite K a).yld i H x H' → g x σ H' fun σ2 H2 => tb { nx := N, rt := D.rt, bk := D.nx, ct := N } σ2 H2 := by
  refine ⟨fun i m σ H => Pv i σ H ∧ i ≤ xs.length ∧ m = xs.length - i, ⟨_, h0, Nat.zero_le _, rfl⟩, ?_⟩
  rintro i m σ H ⟨hP, hi, rfl⟩
  have hxa := hq i σ H hi hP
  by_cases h : i < xs.length
  · refine .inr ⟨⟨xs, xs[i], hxa, List.getElem?_eq_getElem h⟩, Pv (i + 1), fun σ' H' h' => ⟨_, ?_, h', by omega, rfl⟩, ?_⟩
    · omega
    · rintro x H' ⟨T, x1, rfl, hT, rfl, e1⟩
      exact hs i x1 T σ H (e1 xs hxa) hP hT
  · have e : i = xs.length := by omega
    subst e
    exact .inl ⟨⟨xs, hxa, Nat.le_refl _⟩, hd σ H hP⟩
end Own

set_option Elab.async false
set_option linter.all false
set_option maxRecDepth 100000
set_option maxHeartbeats 2000000
namespace Own
open PySem PySem.Spec PyProof.Rows L2
open PySem.W (Frag)
section
variable {X : Cx}
theorem op_eqLen (hu : X.A.units + 64 < cLine) : OpR X (compareOp .Eq) (rLen false) := by
  rintro pins s σ H x y v u Q I rx ry ⟨a, b, xs, ys, rfl, rfl, ha, hb, hne, q⟩
  cases (show v = Value.ref a from rx)
  cases (show u = Value.ref b from ry)
  have hTa := typeIs_lst I.hok ha
  have hTb := typeIs_lst I.hok hb
  obtain ⟨_, its, na, va, ga⟩ := lst_get I.hok ha
  obtain ⟨_, its2, nb, vb, gb⟩ := lst_get I.hok hb
  refine PySem.W.cmp_ofEq (wpAny_richCompare_same_room (T := "list") (id := "list.__eq__") hTa hTb F.slot_list_eq (GQ.call_here F.slot_list_eq hTa F.entry_list_eq (F.args_list_eq_2 _ _) ?_) (by omega))
  have hsz : (its.toArray.size != its2.toArray.size) = true := by
    have l1 := va.length
    have l2 := vb.length
    simp
    omega
  unfold Builtin.«list.__eq__»
  refine wpAny_bind (m := slotArgs "__eq__" 1 _) (wpAny_pure ?_)
  dsimp only
  refine wpAny_bind (wpAny_isInstance (T := "list") (b := true) hTb rfl ?_)
  simp only [Bool.not_true, Bool.false_eq_true, if_false]
  refine wpAny_bind (wpAny_listItems ga rfl ?_)
  refine wpAny_bind (wpAny_listItems gb rfl ?_)
  simp only [hsz, if_true]
  refine wpAny_bind (wpAny_rule ?_)
  refine wpAny_pure ⟨nofun, .bl false, H, I, rfl, q⟩
end
end Own

set_option Elab.async false
set_option linter.all false
set_option maxRecDepth 100000
set_option maxHeartbeats 4000000
namespace K31
open PySem PySem.Spec PyProof.Rows L2 Own
def top (i : Nat) : Stmt := PySem.Challenge.pw_producttables_k31_whole_lines_reckoned.main.body.getD i (.Pass ⟨0, 0, 0, 0⟩)
abbrev s_wall : Stmt := top 1
theorem sc_wall : FnScope ["k"] ["k"] (defScope s_wall) := ⟨rfl, rfl, rfl, by decide +kernel, rfl, by decide +kernel, by decide +kernel⟩
abbrev s_is_integer : Stmt := top 3
theorem sc_is_integer : FnScope ["value"] ["value"] (defScope s_is_integer) := ⟨rfl, rfl, rfl, by decide +kernel, rfl, by decide +kernel, by decide +kernel⟩
abbrev s_is_list : Stmt := top 4
theorem sc_is_list : FnScope ["value"] ["value"] (defScope s_is_list) := ⟨rfl, rfl, rfl, by decide +kernel, rfl, by decide +kernel, by decide +kernel⟩
abbrev s_Ratio_init : Stmt := inClass (top 12) 0
theorem sc_Ratio_init : FnScope ["self", "top", "bottom", "value", "shared"] ["self", "top", "bottom"] (defScope s_Ratio_init) := ⟨rfl, rfl, rfl, by decide +kernel, rfl, by decide +kernel, by decide +kernel⟩
abbrev s_Ratio_top : Stmt := inClass (top 12) 1
theorem sc_Ratio_top : FnScope ["self"] ["self"] (defScope s_Ratio_top) := ⟨rfl, rfl, rfl, by decide +kernel, rfl, by decide +kernel, by decide +kernel⟩
abbrev s_Ratio_bottom : Stmt := inClass (top 12) 2
theorem sc_Ratio_bottom : FnScope ["self"] ["self"] (defScope s_Ratio_bottom) := ⟨rfl, rfl, rfl, by decide +kernel, rfl, by decide +kernel, by decide +kernel⟩
abbrev s_Ratio_sign : Stmt := inClass (top 12) 3
theorem sc_Ratio_sign : FnScope ["self"] ["self"] (defScope s_Ratio_sign) := ⟨rfl, rfl, rfl, by decide +kernel, rfl, by decide +kernel, by decide +kernel⟩
abbrev s_Ratio_is_whole : Stmt := inClass (top 12) 4
theorem sc_Ratio_is_whole : FnScope ["self"] ["self"] (defScope s_Ratio_is_whole) := ⟨rfl, rfl, rfl, by decide +kernel, rfl, by decide +kernel, by decide +kernel⟩
abbrev s_Ratio_add : Stmt := inClass (top 12) 5
theorem sc_Ratio_add : FnScope ["self", "other", "right", "top"] ["self", "other"] (defScope s_Ratio_add) := ⟨rfl, rfl, rfl, by decide +kernel, rfl, by decide +kernel, by decide +kernel⟩
abbrev s_Ratio_radd : Stmt := inClass (top 12) 6
theorem sc_Ratio_radd : FnScope ["self", "other"] ["self", "other"] (defScope s_Ratio_radd) := ⟨rfl, rfl, rfl, by decide +kernel, rfl, by decide +kernel, by decide +kernel⟩
abbrev s_Ratio_sub : Stmt := inClass (top 12) 7
theorem sc_Ratio_sub : FnScope ["self", "other", "right", "top"] ["self", "other"] (defScope s_Ratio_sub) := ⟨rfl, rfl, rfl, by decide +kernel, rfl, by decide +kernel, by decide +kernel⟩
abbrev s_Ratio_rsub : Stmt := inClass (top 12) 8
theorem sc_Ratio_rsub : FnScope ["self", "other"] ["self", "other"] (defScope s_Ratio_rsub) := ⟨rfl, rfl, rfl, by decide +kernel, rfl, by decide +kernel, by decide +kernel⟩
abbrev s_Ratio_mul : Stmt := inClass (top 12) 9
theorem sc_Ratio_mul : FnScope ["self", "other", "right"] ["self", "other"] (defScope s_Ratio_mul) := ⟨rfl, rfl, rfl, by decide +kernel, rfl, by decide +kernel, by decide +kernel⟩
abbrev s_Ratio_rmul : Stmt := inClass (top 12) 10
theorem sc_Ratio_rmul : FnScope ["self", "other"] ["self", "other"] (defScope s_Ratio_rmul) := ⟨rfl, rfl, rfl, by decide +kernel, rfl, by decide +kernel, by decide +kernel⟩
abbrev s_Ratio_neg : Stmt := inClass (top 12) 11
theorem sc_Ratio_neg : FnScope ["self"] ["self"] (defScope s_Ratio_neg) := ⟨rfl, rfl, rfl, by decide +kernel, rfl, by decide +kernel, by decide +kernel⟩
abbrev s_Ratio_over : Stmt := inClass (top 12) 12
theorem sc_Ratio_over : FnScope ["self", "other"] ["self", "other"] (defScope s_Ratio_over) := ⟨rfl, rfl, rfl, by decide +kernel, rfl, by decide +kernel, by decide +kernel⟩
abbrev s_Ratio_unsigned : Stmt := inClass (top 12) 13
theorem sc_Ratio_unsigned : FnScope ["self"] ["self"] (defScope s_Ratio_unsigned) := ⟨rfl, rfl, rfl, by decide +kernel, rfl, by decide +kernel, by decide +kernel⟩
abbrev s_Ratio_is_below : Stmt := inClass (top 12) 14
theorem sc_Ratio_is_below : FnScope ["self", "other"] ["self", "other"] (defScope s_Ratio_is_below) := ⟨rfl, rfl, rfl, by decide +kernel, rfl, by decide +kernel, by decide +kernel⟩
abbrev s_Ratio_is_at_most : Stmt := inClass (top 12) 15
theorem sc_Ratio_is_at_most : FnScope ["self", "other"] ["self", "other"] (defScope s_Ratio_is_at_most) := ⟨rfl, rfl, rfl, by decide +kernel, rfl, by decide +kernel, by decide +kernel⟩
abbrev s_Ratio_total : Stmt := inClass (top 12) 16
theorem sc_Ratio_total : FnScope ["cls", "numbers"] ["cls", "numbers"] (defScope s_Ratio_total) := ⟨rfl, rfl, rfl, by decide +kernel, rfl, by decide +kernel, by decide +kernel⟩
abbrev s_Ratio_eq : Stmt := inClass (top 12) 17
theorem sc_Ratio_eq : FnScope ["self", "other"] ["self", "other"] (defScope s_Ratio_eq) := ⟨rfl, rfl, rfl, by decide +kernel, rfl, by decide +kernel, by decide +kernel⟩
abbrev s_Ratio_str : Stmt := inClass (top 12) 18
theorem sc_Ratio_str : FnScope ["self"] ["self"] (defScope s_Ratio_str) := ⟨rfl, rfl, rfl, by decide +kernel, rfl, by decide +kernel, by decide +kernel⟩
abbrev s_Ratio_repr : Stmt := inClass (top 12) 19
theorem sc_Ratio_repr : FnScope ["self"] ["self"] (defScope s_Ratio_repr) := ⟨rfl, rfl, rfl, by decide +kernel, rfl, by decide +kernel, by decide +kernel⟩
abbrev s_is_number : Stmt := top 13
theorem sc_is_number : FnScope ["value"] ["value"] (defScope s_is_number) := ⟨rfl, rfl, rfl, by decide +kernel, rfl, by decide +kernel, by decide +kernel⟩
abbrev s_as_ratio : Stmt := top 14
theorem sc_as_ratio : FnScope ["number"] ["number"] (defScope s_as_ratio) := ⟨rfl, rfl, rfl, by decide +kernel, rfl, by decide +kernel, by decide +kernel⟩
abbrev s_numbers_from : Stmt := top 17
theorem sc_numbers_from : FnScope ["value", "least", "most", "number"] ["value", "least", "most"] (defScope s_numbers_from) := ⟨rfl, rfl, rfl, by decide +kernel, rfl, by decide +kernel, by decide +kernel⟩
abbrev s_line_from : Stmt := top 18
theorem sc_line_from : FnScope ["value"] ["value"] (defScope s_line_from) := ⟨rfl, rfl, rfl, by decide +kernel, rfl, by decide +kernel, by decide +kernel⟩
abbrev s_need_line : Stmt := top 19
theorem sc_need_line : FnScope ["value", "line"] ["value"] (defScope s_need_line) := ⟨rfl, rfl, rfl, by decide +kernel, rfl, by decide +kernel, by decide +kernel⟩
abbrev s_trimmed : Stmt := top 21
theorem sc_trimmed : FnScope ["numbers", "many"] ["numbers"] (defScope s_trimmed) := ⟨rfl, rfl, rfl, by decide +kernel, rfl, by decide +kernel, by decide +kernel⟩
abbrev s_line_plus : Stmt := top 22
theorem sc_line_plus : FnScope ["line", "other", "wide", "first", "second", "left", "right"] ["line", "other"] (defScope s_line_plus) := ⟨rfl, rfl, rfl, by decide +kernel, rfl, by decide +kernel, by decide +kernel⟩
abbrev s_line_scaled : Stmt := top 23
theorem sc_line_scaled : FnScope ["line", "number", "one_number"] ["line", "number"] (defScope s_line_scaled) := ⟨rfl, rfl, rfl, by decide +kernel, rfl, by decide +kernel, by decide +kernel⟩
abbrev s_line_times : Stmt := top 24
theorem sc_line_times : FnScope ["line", "other", "made", "i", "left", "j", "right"] ["line", "other"] (defScope s_line_times) := ⟨rfl, rfl, rfl, by decide +kernel, rfl, by decide +kernel, by decide +kernel⟩
abbrev s_line_derived : Stmt := top 25
theorem sc_line_derived : FnScope ["line", "place", "number"] ["line"] (defScope s_line_derived) := ⟨rfl, rfl, rfl, by decide +kernel, rfl, by decide +kernel, by decide +kernel⟩
abbrev s_line_worth : Stmt := top 26
theorem sc_line_worth : FnScope ["line", "number", "worth", "coefficient"] ["line", "number"] (defScope s_line_worth) := ⟨rfl, rfl, rfl, by decide +kernel, rfl, by decide +kernel, by decide +kernel⟩
abbrev s_is_line : Stmt := top 28
theorem sc_is_line : FnScope ["value"] ["value"] (defScope s_is_line) := ⟨rfl, rfl, rfl, by decide +kernel, rfl, by decide +kernel, by decide +kernel⟩
abbrev s_told : Stmt := top 29
theorem sc_told : FnScope ["line"] ["line"] (defScope s_told) := ⟨rfl, rfl, rfl, by decide +kernel, rfl, by decide +kernel, by decide +kernel⟩
abbrev s_degree : Stmt := top 30
theorem sc_degree : FnScope ["line"] ["line"] (defScope s_degree) := ⟨rfl, rfl, rfl, by decide +kernel, rfl, by decide +kernel, by decide +kernel⟩
abbrev s_plus : Stmt := top 31
theorem sc_plus : FnScope ["line", "other"] ["line", "other"] (defScope s_plus) := ⟨rfl, rfl, rfl, by decide +kernel, rfl, by decide +kernel, by decide +kernel⟩
abbrev s_minus : Stmt := top 32
theorem sc_minus : FnScope ["line", "other", "first", "second", "number"] ["line", "other"] (defScope s_minus) := ⟨rfl, rfl, rfl, by decide +kernel, rfl, by decide +kernel, by decide +kernel⟩
abbrev s_scaled : Stmt := top 33
theorem sc_scaled : FnScope ["line", "number", "first"] ["line", "number"] (defScope s_scaled) := ⟨rfl, rfl, rfl, by decide +kernel, rfl, by decide +kernel, by decide +kernel⟩
abbrev s_derived : Stmt := top 34
theorem sc_derived : FnScope ["line"] ["line"] (defScope s_derived) := ⟨rfl, rfl, rfl, by decide +kernel, rfl, by decide +kernel, by decide +kernel⟩
abbrev s_times : Stmt := top 35
theorem sc_times : FnScope ["line", "other", "first", "second"] ["line", "other"] (defScope s_times) := ⟨rfl, rfl, rfl, by decide +kernel, rfl, by decide +kernel, by decide +kernel⟩
abbrev s_worth : Stmt := top 36
theorem sc_worth : FnScope ["line", "number", "first"] ["line", "number"] (defScope s_worth) := ⟨rfl, rfl, rfl, by decide +kernel, rfl, by decide +kernel, by decide +kernel⟩
abbrev s_law_pot : Stmt := top 38
theorem sc_law_pot : FnScope ["_law_script", "_law_k", "_law_cell"] ["_law_script", "_law_k"] (defScope s_law_pot) := ⟨rfl, rfl, rfl, by decide +kernel, rfl, by decide +kernel, by decide +kernel⟩
abbrev s_law_draw : Stmt := top 39
theorem sc_law_draw : FnScope ["_law_pot_here", "_law_many", "_law_digit"] ["_law_pot_here", "_law_many"] (defScope s_law_draw) := ⟨rfl, rfl, rfl, by decide +kernel, rfl, by decide +kernel, by decide +kernel⟩
abbrev s_law_pick : Stmt := top 40
theorem sc_law_pick : FnScope ["_law_pot_here", "_law_some"] ["_law_pot_here", "_law_some"] (defScope s_law_pick) := ⟨rfl, rfl, rfl, by decide +kernel, rfl, by decide +kernel, by decide +kernel⟩
abbrev s_law_trim : Stmt := top 41
theorem sc_law_trim : FnScope ["_law_line_here", "_law_found"] ["_law_line_here"] (defScope s_law_trim) := ⟨rfl, rfl, rfl, by decide +kernel, rfl, by decide +kernel, by decide +kernel⟩
abbrev s_law_at : Stmt := top 42
theorem sc_law_at : FnScope ["_law_line_here", "_law_place"] ["_law_line_here", "_law_place"] (defScope s_law_at) := ⟨rfl, rfl, rfl, by decide +kernel, rfl, by decide +kernel, by decide +kernel⟩
abbrev s_law_plus : Stmt := top 43
theorem sc_law_plus : FnScope ["_law_one", "_law_other", "_law_place"] ["_law_one", "_law_other"] (defScope s_law_plus) := ⟨rfl, rfl, rfl, by decide +kernel, rfl, by decide +kernel, by decide +kernel⟩
abbrev s_law_scaled : Stmt := top 44
theorem sc_law_scaled : FnScope ["_law_line_here", "_law_number_here", "_law_entry"] ["_law_line_here", "_law_number_here"] (defScope s_law_scaled) := ⟨rfl, rfl, rfl, by decide +kernel, rfl, by decide +kernel, by decide +kernel⟩
abbrev s_law_times : Stmt := top 45
theorem sc_law_times : FnScope ["_law_one", "_law_other", "_law_found", "_law_near", "_law_left", "_law_far", "_law_right_here"] ["_law_one", "_law_other"] (defScope s_law_times) := ⟨rfl, rfl, rfl, by decide +kernel, rfl, by decide +kernel, by decide +kernel⟩
abbrev s_law_number : Stmt := top 46
theorem sc_law_number : FnScope ["_law_pot_here", "_law_most"] ["_law_pot_here", "_law_most"] (defScope s_law_number) := ⟨rfl, rfl, rfl, by decide +kernel, rfl, by decide +kernel, by decide +kernel⟩
abbrev s_law_line : Stmt := top 47
theorem sc_law_line : FnScope ["_law_pot_here", "_law_size", "_law_most", "_law_place"] ["_law_pot_here", "_law_size", "_law_most"] (defScope s_law_line) := ⟨rfl, rfl, rfl, by decide +kernel, rfl, by decide +kernel, by decide +kernel⟩
abbrev s_law_passed : Stmt := top 48
theorem sc_law_passed : FnScope ["_law_pot_here", "_law_line_here", "_law_found", "_law_entry"] ["_law_pot_here", "_law_line_here"] (defScope s_law_passed) := ⟨rfl, rfl, rfl, by decide +kernel, rfl, by decide +kernel, by decide +kernel⟩
abbrev s_law_worth : Stmt := top 49
theorem sc_law_worth : FnScope ["_law_line_here", "_law_number_here", "_law_total", "_law_entry"] ["_law_line_here", "_law_number_here"] (defScope s_law_worth) := ⟨rfl, rfl, rfl, by decide +kernel, rfl, by decide +kernel, by decide +kernel⟩
abbrev s_law_derived : Stmt := top 50
theorem sc_law_derived : FnScope ["_law_line_here", "_law_place"] ["_law_line_here"] (defScope s_law_derived) := ⟨rfl, rfl, rfl, by decide +kernel, rfl, by decide +kernel, by decide +kernel⟩
abbrev s_law_pair_right : Stmt := top 51
theorem sc_law_pair_right : FnScope ["_law_pot_here", "_law_one", "_law_other", "_law_number_here", "_law_near", "_law_far", "_law_shown", "_law_due", "_law_found", "_law_line_here", "_law_both", "_law_near_worth", "_law_far_worth"] ["_law_pot_here", "_law_one", "_law_other", "_law_number_here"] (defScope s_law_pair_right) := ⟨rfl, rfl, rfl, by decide +kernel, rfl, by decide +kernel, by decide +kernel⟩
abbrev s_law_right : Stmt := top 52
theorem sc_law_right : FnScope ["_law_pot_here", "_law_lines", "_law_turn", "_law_number_here", "_law_whole"] ["_law_pot_here"] (defScope s_law_right) := ⟨rfl, rfl, rfl, by decide +kernel, rfl, by decide +kernel, by decide +kernel⟩
abbrev s_law : Stmt := top 53
theorem sc_law : FnScope ["_law_script"] ["_law_script"] (defScope s_law) := ⟨rfl, rfl, rfl, by decide +kernel, rfl, by decide +kernel, by decide +kernel⟩
/-! ### what stands behind the top -/
def dl : List DX := [
  ⟨fun K => ga K "_wall", "_wall", "_wall", s_wall, []⟩,
  ⟨fun K => ga K "is_integer", "is_integer", "is_integer", s_is_integer, []⟩,
  ⟨fun K => ga K "is_list", "is_list", "is_list", s_is_list, []⟩,
  ⟨fun K => ma K (ga K "Ratio") "__init__", "__init__", "Ratio.__init__", s_Ratio_init, [.int 1]⟩,
  ⟨fun K => gt K "Ratio" "top", "top", "Ratio.top", s_Ratio_top, []⟩,
  ⟨fun K => gt K "Ratio" "bottom", "bottom", "Ratio.bottom", s_Ratio_bottom, []⟩,
  ⟨fun K => gt K "Ratio" "sign", "sign", "Ratio.sign", s_Ratio_sign, []⟩,
  ⟨fun K => gt K "Ratio" "is_whole", "is_whole", "Ratio.is_whole", s_Ratio_is_whole, []⟩,
  ⟨fun K => ma K (ga K "Ratio") "__add__", "__add__", "Ratio.__add__", s_Ratio_add, []⟩,
  ⟨fun K => ma K (ga K "Ratio") "__radd__", "__radd__", "Ratio.__radd__", s_Ratio_radd, []⟩,
  ⟨fun K => ma K (ga K "Ratio") "__sub__", "__sub__", "Ratio.__sub__", s_Ratio_sub, []⟩,
  ⟨fun K => ma K (ga K "Ratio") "__rsub__", "__rsub__", "Ratio.__rsub__", s_Ratio_rsub, []⟩,
  ⟨fun K => ma K (ga K "Ratio") "__mul__", "__mul__", "Ratio.__mul__", s_Ratio_mul, []⟩,
  ⟨fun K => ma K (ga K "Ratio") "__rmul__", "__rmul__", "Ratio.__rmul__", s_Ratio_rmul, []⟩,
  ⟨fun K => ma K (ga K "Ratio") "__neg__", "__neg__", "Ratio.__neg__", s_Ratio_neg, []⟩,
  ⟨fun K => ma K (ga K "Ratio") "over", "over", "Ratio.over", s_Ratio_over, []⟩,
  ⟨fun K => ma K (ga K "Ratio") "unsigned", "unsigned", "Ratio.unsigned", s_Ratio_unsigned, []⟩,
  ⟨fun K => ma K (ga K "Ratio") "is_below", "is_below", "Ratio.is_below", s_Ratio_is_below, []⟩,
  ⟨fun K => ma K (ga K "Ratio") "is_at_most", "is_at_most", "Ratio.is_at_most", s_Ratio_is_at_most, []⟩,
  ⟨fun K => cmG K "Ratio" "total", "total", "Ratio.total", s_Ratio_total, []⟩,
  ⟨fun K => ma K (ga K "Ratio") "__eq__", "__eq__", "Ratio.__eq__", s_Ratio_eq, []⟩,
  ⟨fun K => ma K (ga K "Ratio") "__str__", "__str__", "Ratio.__str__", s_Ratio_str, []⟩,
  ⟨fun K => ma K (ga K "Ratio") "__repr__", "__repr__", "Ratio.__repr__", s_Ratio_repr, []⟩,
  ⟨fun K => ga K "is_number", "is_number", "is_number", s_is_number, []⟩,
  ⟨fun K => ga K "as_ratio", "as_ratio", "as_ratio", s_as_ratio, []⟩,
  ⟨fun K => ga K "numbers_from", "numbers_from", "numbers_from", s_numbers_from, []⟩,
  ⟨fun K => ga K "line_from", "line_from", "line_from", s_line_from, []⟩,
  ⟨fun K => ga K "need_line", "need_line", "need_line", s_need_line, []⟩,
  ⟨fun K => ga K "trimmed", "trimmed", "trimmed", s_trimmed, []⟩,
  ⟨fun K => ga K "line_plus", "line_plus", "line_plus", s_line_plus, []⟩,
  ⟨fun K => ga K "line_scaled", "line_scaled", "line_scaled", s_line_scaled, []⟩,
  ⟨fun K => ga K "line_times", "line_times", "line_times", s_line_times, []⟩,
  ⟨fun K => ga K "line_derived", "line_derived", "line_derived", s_line_derived, []⟩,
  ⟨fun K => ga K "line_worth", "line_worth", "line_worth", s_line_worth, []⟩,
  ⟨fun K => ga K "is_line", "is_line", "is_line", s_is_line, []⟩,
  ⟨fun K => ga K "told", "told", "told", s_told, []⟩,
  ⟨fun K => ga K "degree", "degree", "degree", s_degree, []⟩,
  ⟨fun K => ga K "plus", "plus", "plus", s_plus, []⟩,
  ⟨fun K => ga K "minus", "minus", "minus", s_minus, []⟩,
  ⟨fun K => ga K "scaled", "scaled", "scaled", s_scaled, []⟩,
  ⟨fun K => ga K "derived", "derived", "derived", s_derived, []⟩,
  ⟨fun K => ga K "times", "times", "times", s_times, []⟩,
  ⟨fun K => ga K "worth", "worth", "worth", s_worth, []⟩,
  ⟨fun K => ga K "_law_pot", "_law_pot", "_law_pot", s_law_pot, []⟩,
  ⟨fun K => ga K "_law_draw", "_law_draw", "_law_draw", s_law_draw, []⟩,
  ⟨fun K => ga K "_law_pick", "_law_pick", "_law_pick", s_law_pick, []⟩,
  ⟨fun K => ga K "_law_trim", "_law_trim", "_law_trim", s_law_trim, []⟩,
  ⟨fun K => ga K "_law_at", "_law_at", "_law_at", s_law_at, []⟩,
  ⟨fun K => ga K "_law_plus", "_law_plus", "_law_plus", s_law_plus, []⟩,
  ⟨fun K => ga K "_law_scaled", "_law_scaled", "_law_scaled", s_law_scaled, []⟩,
  ⟨fun K => ga K "_law_times", "_law_times", "_law_times", s_law_times, []⟩,
  ⟨fun K => ga K "_law_number", "_law_number", "_law_number", s_law_number, []⟩,
  ⟨fun K => ga K "_law_line", "_law_line", "_law_line", s_law_line, []⟩,
  ⟨fun K => ga K "_law_passed", "_law_passed", "_law_passed", s_law_passed, []⟩,
  ⟨fun K => ga K "_law_worth", "_law_worth", "_law_worth", s_law_worth, []⟩,
  ⟨fun K => ga K "_law_derived", "_law_derived", "_law_derived", s_law_derived, []⟩,
  ⟨fun K => ga K "_law_pair_right", "_law_pair_right", "_law_pair_right", s_law_pair_right, []⟩,
  ⟨fun K => ga K "_law_right", "_law_right", "_law_right", s_law_right, []⟩,
  ⟨fun K => ga K "law", "law", "law", s_law, []⟩]
def fl : List (PySem.W.Frag → Bool) := [
  fun K => (He.Fa.glo "_wall").ok K,
  fun K => (He.Fa.glo "is_integer").ok K,
  fun K => (He.Fa.glo "is_list").ok K,
  fun K => (He.Fa.glo "is_number").ok K,
  fun K => (He.Fa.glo "as_ratio").ok K,
  fun K => (He.Fa.glo "numbers_from").ok K,
  fun K => (He.Fa.glo "line_from").ok K,
  fun K => (He.Fa.glo "need_line").ok K,
  fun K => (He.Fa.glo "trimmed").ok K,
  fun K => (He.Fa.glo "line_plus").ok K,
  fun K => (He.Fa.glo "line_scaled").ok K,
  fun K => (He.Fa.glo "line_times").ok K,
  fun K => (He.Fa.glo "line_derived").ok K,
  fun K => (He.Fa.glo "line_worth").ok K,
  fun K => (He.Fa.glo "is_line").ok K,
  fun K => (He.Fa.glo "told").ok K,
  fun K => (He.Fa.glo "degree").ok K,
  fun K => (He.Fa.glo "plus").ok K,
  fun K => (He.Fa.glo "minus").ok K,
  fun K => (He.Fa.glo "scaled").ok K,
  fun K => (He.Fa.glo "derived").ok K,
  fun K => (He.Fa.glo "times").ok K,
  fun K => (He.Fa.glo "worth").ok K,
  fun K => (He.Fa.glo "_law_pot").ok K,
  fun K => (He.Fa.glo "_law_draw").ok K,
  fun K => (He.Fa.glo "_law_pick").ok K,
  fun K => (He.Fa.glo "_law_trim").ok K,
  fun K => (He.Fa.glo "_law_at").ok K,
  fun K => (He.Fa.glo "_law_plus").ok K,
  fun K => (He.Fa.glo "_law_scaled").ok K,
  fun K => (He.Fa.glo "_law_times").ok K,
  fun K => (He.Fa.glo "_law_number").ok K,
  fun K => (He.Fa.glo "_law_line").ok K,
  fun K => (He.Fa.glo "_law_passed").ok K,
  fun K => (He.Fa.glo "_law_worth").ok K,
  fun K => (He.Fa.glo "_law_derived").ok K,
  fun K => (He.Fa.glo "_law_pair_right").ok K,
  fun K => (He.Fa.glo "_law_right").ok K,
  fun K => (He.Fa.glo "law").ok K,
  fun K => (He.Fa.free "isinstance").ok K,
  fun K => (He.Fa.free "int").ok K,
  fun K => (He.Fa.free "bool").ok K,
  fun K => (He.Fa.free "list").ok K,
  fun K => (He.Fa.free "tuple").ok K,
  fun K => (He.Fa.free "str").ok K,
  fun K => (He.Fa.free "len").ok K,
  fun K => (He.Fa.free "max").ok K,
  fun K => (He.Fa.free "zip").ok K,
  fun K => (He.Fa.free "enumerate").ok K,
  fun K => (He.Fa.free "abs").ok K,
  fun K => (He.Fa.free "divmod").ok K,
  fun K => (He.Fa.free "range").ok K,
  fun K => (He.Fa.free "repr").ok K,
  bBlt "gcd" "math.gcd",
  fun K => (He.Fa.int "MOST_NUMBERS" 17).ok K,
  fun K => (He.Fa.glo "Ratio").ok K,
  fun K => (He.Fa.cls "Ratio").ok K,
  fun K => (He.Fa.mkr "Ratio").ok K,
  bIs "Ratio",
  fun K => (He.Fa.noat "Ratio" "_top").ok K,
  fun K => (He.Fa.noat "Ratio" "_bottom").ok K,
  bProp "Ratio" "top",
  bProp "Ratio" "bottom",
  bProp "Ratio" "sign",
  bProp "Ratio" "is_whole",
  fun K => (He.Fa.meth "Ratio" "over").ok K,
  fun K => (He.Fa.meth "Ratio" "unsigned").ok K,
  fun K => (He.Fa.meth "Ratio" "is_below").ok K,
  fun K => (He.Fa.meth "Ratio" "is_at_most").ok K,
  bCm "Ratio" "total",
  bNumI "Ratio" "add",
  bNumI "Ratio" "sub",
  bNumI "Ratio" "mul",
  bSpec "Ratio" "__neg__",
  bSpec "Ratio" "__str__",
  bSpec "Ratio" "__repr__",
  bEq "Ratio",
  bKitO "int" "Ratio" false,
  bKitO "bool" "Ratio" false,
  bKitO "NoneType" "Ratio" false,
  bKitO "str" "Ratio" false,
  bKitO "list" "Ratio" false,
  bKitO "tuple" "Ratio" false,
  bKitT "Ratio" "int" false,
  bKitT "Ratio" "bool" false,
  bKitT "Ratio" "list" false,
  bKitT "Ratio" "tuple" false,
  bKitC "Ratio" "Ratio" true]
structure Tx (K : PySem.W.Frag) (mg : Str → Option Value) : Prop where
  F_wall : FX K "_wall" "_wall" s_wall [] (ga K "_wall")
  F_is_integer : FX K "is_integer" "is_integer" s_is_integer [] (ga K "is_integer")
  F_is_list : FX K "is_list" "is_list" s_is_list [] (ga K "is_list")
  F_Ratio_init : FX K "__init__" "Ratio.__init__" s_Ratio_init [.int 1] (ma K (ga K "Ratio") "__init__")
  F_Ratio_top : FX K "top" "Ratio.top" s_Ratio_top [] (gt K "Ratio" "top")
  F_Ratio_bottom : FX K "bottom" "Ratio.bottom" s_Ratio_bottom [] (gt K "Ratio" "bottom")
  F_Ratio_sign : FX K "sign" "Ratio.sign" s_Ratio_sign [] (gt K "Ratio" "sign")
  F_Ratio_is_whole : FX K "is_whole" "Ratio.is_whole" s_Ratio_is_whole [] (gt K "Ratio" "is_whole")
  F_Ratio_add : FX K "__add__" "Ratio.__add__" s_Ratio_add [] (ma K (ga K "Ratio") "__add__")
  F_Ratio_radd : FX K "__radd__" "Ratio.__radd__" s_Ratio_radd [] (ma K (ga K "Ratio") "__radd__")
  F_Ratio_sub : FX K "__sub__" "Ratio.__sub__" s_Ratio_sub [] (ma K (ga K "Ratio") "__sub__")
  F_Ratio_rsub : FX K "__rsub__" "Ratio.__rsub__" s_Ratio_rsub [] (ma K (ga K "Ratio") "__rsub__")
  F_Ratio_mul : FX K "__mul__" "Ratio.__mul__" s_Ratio_mul [] (ma K (ga K "Ratio") "__mul__")
  F_Ratio_rmul : FX K "__rmul__" "Ratio.__rmul__" s_Ratio_rmul [] (ma K (ga K "Ratio") "__rmul__")
  F_Ratio_neg : FX K "__neg__" "Ratio.__neg__" s_Ratio_neg [] (ma K (ga K "Ratio") "__neg__")
  F_Ratio_over : FX K "over" "Ratio.over" s_Ratio_over [] (ma K (ga K "Ratio") "over")
  F_Ratio_unsigned : FX K "unsigned" "Ratio.unsigned" s_Ratio_unsigned [] (ma K (ga K "Ratio") "unsigned")
  F_Ratio_is_below : FX K "is_below" "Ratio.is_below" s_Ratio_is_below [] (ma K (ga K "Ratio") "is_below")
  F_Ratio_is_at_most : FX K "is_at_most" "Ratio.is_at_most" s_Ratio_is_at_most [] (ma K (ga K "Ratio") "is_at_most")
  F_Ratio_total : FX K "total" "Ratio.total" s_Ratio_total [] (cmG K "Ratio" "total")
  F_Ratio_eq : FX K "__eq__" "Ratio.__eq__" s_Ratio_eq [] (ma K (ga K "Ratio") "__eq__")
  F_Ratio_str : FX K "__str__" "Ratio.__str__" s_Ratio_str [] (ma K (ga K "Ratio") "__str__")
  F_Ratio_repr : FX K "__repr__" "Ratio.__repr__" s_Ratio_repr [] (ma K (ga K "Ratio") "__repr__")
  F_is_number : FX K "is_number" "is_number" s_is_number [] (ga K "is_number")
  F_as_ratio : FX K "as_ratio" "as_ratio" s_as_ratio [] (ga K "as_ratio")
  F_numbers_from : FX K "numbers_from" "numbers_from" s_numbers_from [] (ga K "numbers_from")
  F_line_from : FX K "line_from" "line_from" s_line_from [] (ga K "line_from")
  F_need_line : FX K "need_line" "need_line" s_need_line [] (ga K "need_line")
  F_trimmed : FX K "trimmed" "trimmed" s_trimmed [] (ga K "trimmed")
  F_line_plus : FX K "line_plus" "line_plus" s_line_plus [] (ga K "line_plus")
  F_line_scaled : FX K "line_scaled" "line_scaled" s_line_scaled [] (ga K "line_scaled")
  F_line_times : FX K "line_times" "line_times" s_line_times [] (ga K "line_times")
  F_line_derived : FX K "line_derived" "line_derived" s_line_derived [] (ga K "line_derived")
  F_line_worth : FX K "line_worth" "line_worth" s_line_worth [] (ga K "line_worth")
  F_is_line : FX K "is_line" "is_line" s_is_line [] (ga K "is_line")
  F_told : FX K "told" "told" s_told [] (ga K "told")
  F_degree : FX K "degree" "degree" s_degree [] (ga K "degree")
  F_plus : FX K "plus" "plus" s_plus [] (ga K "plus")
  F_minus : FX K "minus" "minus" s_minus [] (ga K "minus")
  F_scaled : FX K "scaled" "scaled" s_scaled [] (ga K "scaled")
  F_derived : FX K "derived" "derived" s_derived [] (ga K "derived")
  F_times : FX K "times" "times" s_times [] (ga K "times")
  F_worth : FX K "worth" "worth" s_worth [] (ga K "worth")
  F_law_pot : FX K "_law_pot" "_law_pot" s_law_pot [] (ga K "_law_pot")
  F_law_draw : FX K "_law_draw" "_law_draw" s_law_draw [] (ga K "_law_draw")
  F_law_pick : FX K "_law_pick" "_law_pick" s_law_pick [] (ga K "_law_pick")
  F_law_trim : FX K "_law_trim" "_law_trim" s_law_trim [] (ga K "_law_trim")
  F_law_at : FX K "_law_at" "_law_at" s_law_at [] (ga K "_law_at")
  F_law_plus : FX K "_law_plus" "_law_plus" s_law_plus [] (ga K "_law_plus")
  F_law_scaled : FX K "_law_scaled" "_law_scaled" s_law_scaled [] (ga K "_law_scaled")
  F_law_times : FX K "_law_times" "_law_times" s_law_times [] (ga K "_law_times")
  F_law_number : FX K "_law_number" "_law_number" s_law_number [] (ga K "_law_number")
  F_law_line : FX K "_law_line" "_law_line" s_law_line [] (ga K "_law_line")
  F_law_passed : FX K "_law_passed" "_law_passed" s_law_passed [] (ga K "_law_passed")
  F_law_worth : FX K "_law_worth" "_law_worth" s_law_worth [] (ga K "_law_worth")
  F_law_derived : FX K "_law_derived" "_law_derived" s_law_derived [] (ga K "_law_derived")
  F_law_pair_right : FX K "_law_pair_right" "_law_pair_right" s_law_pair_right [] (ga K "_law_pair_right")
  F_law_right : FX K "_law_right" "_law_right" s_law_right [] (ga K "_law_right")
  F_law : FX K "law" "law" s_law [] (ga K "law")
  g_wall : mg "_wall" = some (.ref (ga K "_wall"))
  g_is_integer : mg "is_integer" = some (.ref (ga K "is_integer"))
  g_is_list : mg "is_list" = some (.ref (ga K "is_list"))
  g_is_number : mg "is_number" = some (.ref (ga K "is_number"))
  g_as_ratio : mg "as_ratio" = some (.ref (ga K "as_ratio"))
  g_numbers_from : mg "numbers_from" = some (.ref (ga K "numbers_from"))
  g_line_from : mg "line_from" = some (.ref (ga K "line_from"))
  g_need_line : mg "need_line" = some (.ref (ga K "need_line"))
  g_trimmed : mg "trimmed" = some (.ref (ga K "trimmed"))
  g_line_plus : mg "line_plus" = some (.ref (ga K "line_plus"))
  g_line_scaled : mg "line_scaled" = some (.ref (ga K "line_scaled"))
  g_line_times : mg "line_times" = some (.ref (ga K "line_times"))
  g_line_derived : mg "line_derived" = some (.ref (ga K "line_derived"))
  g_line_worth : mg "line_worth" = some (.ref (ga K "line_worth"))
  g_is_line : mg "is_line" = some (.ref (ga K "is_line"))
  g_told : mg "told" = some (.ref (ga K "told"))
  g_degree : mg "degree" = some (.ref (ga K "degree"))
  g_plus : mg "plus" = some (.ref (ga K "plus"))
  g_minus : mg "minus" = some (.ref (ga K "minus"))
  g_scaled : mg "scaled" = some (.ref (ga K "scaled"))
  g_derived : mg "derived" = some (.ref (ga K "derived"))
  g_times : mg "times" = some (.ref (ga K "times"))
  g_worth : mg "worth" = some (.ref (ga K "worth"))
  g_law_pot : mg "_law_pot" = some (.ref (ga K "_law_pot"))
  g_law_draw : mg "_law_draw" = some (.ref (ga K "_law_draw"))
  g_law_pick : mg "_law_pick" = some (.ref (ga K "_law_pick"))
  g_law_trim : mg "_law_trim" = some (.ref (ga K "_law_trim"))
  g_law_at : mg "_law_at" = some (.ref (ga K "_law_at"))
  g_law_plus : mg "_law_plus" = some (.ref (ga K "_law_plus"))
  g_law_scaled : mg "_law_scaled" = some (.ref (ga K "_law_scaled"))
  g_law_times : mg "_law_times" = some (.ref (ga K "_law_times"))
  g_law_number : mg "_law_number" = some (.ref (ga K "_law_number"))
  g_law_line : mg "_law_line" = some (.ref (ga K "_law_line"))
  g_law_passed : mg "_law_passed" = some (.ref (ga K "_law_passed"))
  g_law_worth : mg "_law_worth" = some (.ref (ga K "_law_worth"))
  g_law_derived : mg "_law_derived" = some (.ref (ga K "_law_derived"))
  g_law_pair_right : mg "_law_pair_right" = some (.ref (ga K "_law_pair_right"))
  g_law_right : mg "_law_right" = some (.ref (ga K "_law_right"))
  g_law : mg "law" = some (.ref (ga K "law"))
  n_isinstance : mg "isinstance" = none
  n_int : mg "int" = none
  n_bool : mg "bool" = none
  n_list : mg "list" = none
  n_tuple : mg "tuple" = none
  n_str : mg "str" = none
  n_len : mg "len" = none
  n_max : mg "max" = none
  n_zip : mg "zip" = none
  n_enumerate : mg "enumerate" = none
  n_abs : mg "abs" = none
  n_divmod : mg "divmod" = none
  n_range : mg "range" = none
  n_repr : mg "repr" = none
  m_gcd : mg "gcd" = some (.builtin "math.gcd")
  v_MOST_NUMBERS : ∃ t, mg "MOST_NUMBERS" = some (.int 17 t)
  g_Ratio : mg "Ratio" = some (.ref (ga K "Ratio"))
  cl_Ratio : Cls K (ga K "Ratio")
  mk_Ratio : Mk K (ga K "Ratio") (ma K (ga K "Ratio") "__init__")
  is_Ratio : IsC K (ga K "Ratio")
  na_top : NoAttr K (ga K "Ratio") "_top"
  na_bottom : NoAttr K (ga K "Ratio") "_bottom"
  p_top : PropOf K (ga K "Ratio") "top" (ma K (ga K "Ratio") "top") (gt K "Ratio" "top")
  p_bottom : PropOf K (ga K "Ratio") "bottom" (ma K (ga K "Ratio") "bottom") (gt K "Ratio" "bottom")
  p_sign : PropOf K (ga K "Ratio") "sign" (ma K (ga K "Ratio") "sign") (gt K "Ratio" "sign")
  p_is_whole : PropOf K (ga K "Ratio") "is_whole" (ma K (ga K "Ratio") "is_whole") (gt K "Ratio" "is_whole")
  t_over : Meth K (ga K "Ratio") "over" (ma K (ga K "Ratio") "over")
  t_unsigned : Meth K (ga K "Ratio") "unsigned" (ma K (ga K "Ratio") "unsigned")
  t_is_below : Meth K (ga K "Ratio") "is_below" (ma K (ga K "Ratio") "is_below")
  t_is_at_most : Meth K (ga K "Ratio") "is_at_most" (ma K (ga K "Ratio") "is_at_most")
  c_total : ClX.CRead K (ga K "Ratio") (.type "type") ∧ ClX.CMet K (ga K "Ratio") (.type "type") "total" (cmP K "Ratio" "total") (cmG K "Ratio" "total")
  i_add : Num K (ga K "Ratio") "add" (ma K (ga K "Ratio") (PySem.dunder "add")) ∧ NumI K (ga K "Ratio") "add" (ma K (ga K "Ratio") (PySem.dunder "add")) (ma K (ga K "Ratio") (dunderR "add")) ∧ NumR K (ga K "Ratio") "add" (some (.ref (ma K (ga K "Ratio") (dunderR "add")))) ∧ NumT K (ga K "Ratio") "int" "add"
  i_sub : Num K (ga K "Ratio") "sub" (ma K (ga K "Ratio") (PySem.dunder "sub")) ∧ NumI K (ga K "Ratio") "sub" (ma K (ga K "Ratio") (PySem.dunder "sub")) (ma K (ga K "Ratio") (dunderR "sub")) ∧ NumR K (ga K "Ratio") "sub" (some (.ref (ma K (ga K "Ratio") (dunderR "sub")))) ∧ NumT K (ga K "Ratio") "int" "sub"
  i_mul : Num K (ga K "Ratio") "mul" (ma K (ga K "Ratio") (PySem.dunder "mul")) ∧ NumI K (ga K "Ratio") "mul" (ma K (ga K "Ratio") (PySem.dunder "mul")) (ma K (ga K "Ratio") (dunderR "mul")) ∧ NumR K (ga K "Ratio") "mul" (some (.ref (ma K (ga K "Ratio") (dunderR "mul")))) ∧ NumT K (ga K "Ratio") "int" "mul"
  x_neg : PySem.W.findIn K (.ref (ga K "Ratio")) "__neg__" = some (some (.ref (ma K (ga K "Ratio") "__neg__"))) ∧ PySem.W.isFn K (.ref (ma K (ga K "Ratio") "__neg__")) = true
  x_str : PySem.W.findIn K (.ref (ga K "Ratio")) "__str__" = some (some (.ref (ma K (ga K "Ratio") "__str__"))) ∧ PySem.W.isFn K (.ref (ma K (ga K "Ratio") "__str__")) = true
  x_repr : PySem.W.findIn K (.ref (ga K "Ratio")) "__repr__" = some (some (.ref (ma K (ga K "Ratio") "__repr__"))) ∧ PySem.W.isFn K (.ref (ma K (ga K "Ratio") "__repr__")) = true
  q_Ratio : EqC K (ga K "Ratio") (ma K (ga K "Ratio") "__eq__")
  ko_int : PySem.W.kitOne K (.type "int") (.ref (ga K "Ratio")) = some false
  ko_bool : PySem.W.kitOne K (.type "bool") (.ref (ga K "Ratio")) = some false
  ko_NoneType : PySem.W.kitOne K (.type "NoneType") (.ref (ga K "Ratio")) = some false
  ko_str : PySem.W.kitOne K (.type "str") (.ref (ga K "Ratio")) = some false
  ko_list : PySem.W.kitOne K (.type "list") (.ref (ga K "Ratio")) = some false
  ko_tuple : PySem.W.kitOne K (.type "tuple") (.ref (ga K "Ratio")) = some false
  kt_int : PySem.W.kitOne K (.ref (ga K "Ratio")) (.type "int") = some false
  kt_bool : PySem.W.kitOne K (.ref (ga K "Ratio")) (.type "bool") = some false
  kt_list : PySem.W.kitOne K (.ref (ga K "Ratio")) (.type "list") = some false
  kt_tuple : PySem.W.kitOne K (.ref (ga K "Ratio")) (.type "tuple") = some false
  kk_Ratio : PySem.W.kitOne K (.ref (ga K "Ratio")) (.ref (ga K "Ratio")) = some true
theorem tx_of {K : PySem.W.Frag} {h : Heap} {mg : Str → Option Value} (X : K.In h) (G : h.Ns mainGlobals mg) (c : SaysX fl dl K) : Tx K mg where
  F_wall := c.fn 0
  F_is_integer := c.fn 1
  F_is_list := c.fn 2
  F_Ratio_init := c.fn 3
  F_Ratio_top := c.fn 4
  F_Ratio_bottom := c.fn 5
  F_Ratio_sign := c.fn 6
  F_Ratio_is_whole := c.fn 7
  F_Ratio_add := c.fn 8
  F_Ratio_radd := c.fn 9
  F_Ratio_sub := c.fn 10
  F_Ratio_rsub := c.fn 11
  F_Ratio_mul := c.fn 12
  F_Ratio_rmul := c.fn 13
  F_Ratio_neg := c.fn 14
  F_Ratio_over := c.fn 15
  F_Ratio_unsigned := c.fn 16
  F_Ratio_is_below := c.fn 17
  F_Ratio_is_at_most := c.fn 18
  F_Ratio_total := c.fn 19
  F_Ratio_eq := c.fn 20
  F_Ratio_str := c.fn 21
  F_Ratio_repr := c.fn 22
  F_is_number := c.fn 23
  F_as_ratio := c.fn 24
  F_numbers_from := c.fn 25
  F_line_from := c.fn 26
  F_need_line := c.fn 27
  F_trimmed := c.fn 28
  F_line_plus := c.fn 29
  F_line_scaled := c.fn 30
  F_line_times := c.fn 31
  F_line_derived := c.fn 32
  F_line_worth := c.fn 33
  F_is_line := c.fn 34
  F_told := c.fn 35
  F_degree := c.fn 36
  F_plus := c.fn 37
  F_minus := c.fn 38
  F_scaled := c.fn 39
  F_derived := c.fn 40
  F_times := c.fn 41
  F_worth := c.fn 42
  F_law_pot := c.fn 43
  F_law_draw := c.fn 44
  F_law_pick := c.fn 45
  F_law_trim := c.fn 46
  F_law_at := c.fn 47
  F_law_plus := c.fn 48
  F_law_scaled := c.fn 49
  F_law_times := c.fn 50
  F_law_number := c.fn 51
  F_law_line := c.fn 52
  F_law_passed := c.fn 53
  F_law_worth := c.fn 54
  F_law_derived := c.fn 55
  F_law_pair_right := c.fn 56
  F_law_right := c.fn 57
  F_law := c.fn 58
  g_wall := He.glo_ok X G (c.at_ 0)
  g_is_integer := He.glo_ok X G (c.at_ 1)
  g_is_list := He.glo_ok X G (c.at_ 2)
  g_is_number := He.glo_ok X G (c.at_ 3)
  g_as_ratio := He.glo_ok X G (c.at_ 4)
  g_numbers_from := He.glo_ok X G (c.at_ 5)
  g_line_from := He.glo_ok X G (c.at_ 6)
  g_need_line := He.glo_ok X G (c.at_ 7)
  g_trimmed := He.glo_ok X G (c.at_ 8)
  g_line_plus := He.glo_ok X G (c.at_ 9)
  g_line_scaled := He.glo_ok X G (c.at_ 10)
  g_line_times := He.glo_ok X G (c.at_ 11)
  g_line_derived := He.glo_ok X G (c.at_ 12)
  g_line_worth := He.glo_ok X G (c.at_ 13)
  g_is_line := He.glo_ok X G (c.at_ 14)
  g_told := He.glo_ok X G (c.at_ 15)
  g_degree := He.glo_ok X G (c.at_ 16)
  g_plus := He.glo_ok X G (c.at_ 17)
  g_minus := He.glo_ok X G (c.at_ 18)
  g_scaled := He.glo_ok X G (c.at_ 19)
  g_derived := He.glo_ok X G (c.at_ 20)
  g_times := He.glo_ok X G (c.at_ 21)
  g_worth := He.glo_ok X G (c.at_ 22)
  g_law_pot := He.glo_ok X G (c.at_ 23)
  g_law_draw := He.glo_ok X G (c.at_ 24)
  g_law_pick := He.glo_ok X G (c.at_ 25)
  g_law_trim := He.glo_ok X G (c.at_ 26)
  g_law_at := He.glo_ok X G (c.at_ 27)
  g_law_plus := He.glo_ok X G (c.at_ 28)
  g_law_scaled := He.glo_ok X G (c.at_ 29)
  g_law_times := He.glo_ok X G (c.at_ 30)
  g_law_number := He.glo_ok X G (c.at_ 31)
  g_law_line := He.glo_ok X G (c.at_ 32)
  g_law_passed := He.glo_ok X G (c.at_ 33)
  g_law_worth := He.glo_ok X G (c.at_ 34)
  g_law_derived := He.glo_ok X G (c.at_ 35)
  g_law_pair_right := He.glo_ok X G (c.at_ 36)
  g_law_right := He.glo_ok X G (c.at_ 37)
  g_law := He.glo_ok X G (c.at_ 38)
  n_isinstance := He.free_ok X G (c.at_ 39)
  n_int := He.free_ok X G (c.at_ 40)
  n_bool := He.free_ok X G (c.at_ 41)
  n_list := He.free_ok X G (c.at_ 42)
  n_tuple := He.free_ok X G (c.at_ 43)
  n_str := He.free_ok X G (c.at_ 44)
  n_len := He.free_ok X G (c.at_ 45)
  n_max := He.free_ok X G (c.at_ 46)
  n_zip := He.free_ok X G (c.at_ 47)
  n_enumerate := He.free_ok X G (c.at_ 48)
  n_abs := He.free_ok X G (c.at_ 49)
  n_divmod := He.free_ok X G (c.at_ 50)
  n_range := He.free_ok X G (c.at_ 51)
  n_repr := He.free_ok X G (c.at_ 52)
  m_gcd := bBlt_ok X G (c.at_ 53)
  v_MOST_NUMBERS := He.int_ok X G (c.at_ 54)
  g_Ratio := He.glo_ok X G (c.at_ 55)
  cl_Ratio := He.cls_ok (c.at_ 56)
  mk_Ratio := He.mkr_ok (c.at_ 57)
  is_Ratio := bIs_ok (c.at_ 58)
  na_top := He.noat_ok (c.at_ 59)
  na_bottom := He.noat_ok (c.at_ 60)
  p_top := bProp_ok (c.at_ 61)
  p_bottom := bProp_ok (c.at_ 62)
  p_sign := bProp_ok (c.at_ 63)
  p_is_whole := bProp_ok (c.at_ 64)
  t_over := He.meth_ok (c.at_ 65)
  t_unsigned := He.meth_ok (c.at_ 66)
  t_is_below := He.meth_ok (c.at_ 67)
  t_is_at_most := He.meth_ok (c.at_ 68)
  c_total := bCm_ok (c.at_ 69)
  i_add := bNumI_ok (c.at_ 70)
  i_sub := bNumI_ok (c.at_ 71)
  i_mul := bNumI_ok (c.at_ 72)
  x_neg := bSpec_ok (c.at_ 73)
  x_str := bSpec_ok (c.at_ 74)
  x_repr := bSpec_ok (c.at_ 75)
  q_Ratio := bEq_ok (c.at_ 76)
  ko_int := bKitO_ok (c.at_ 77)
  ko_bool := bKitO_ok (c.at_ 78)
  ko_NoneType := bKitO_ok (c.at_ 79)
  ko_str := bKitO_ok (c.at_ 80)
  ko_list := bKitO_ok (c.at_ 81)
  ko_tuple := bKitO_ok (c.at_ 82)
  kt_int := bKitT_ok (c.at_ 83)
  kt_bool := bKitT_ok (c.at_ 84)
  kt_list := bKitT_ok (c.at_ 85)
  kt_tuple := bKitT_ok (c.at_ 86)
  kk_Ratio := bKitC_ok (c.at_ 87)
section
variable {K : PySem.W.Frag} {mg : Str → Option Value}
theorem b_wall (T : Tx K mg) : Binds K (fdOf K (ga K "_wall")) ["k"] [] := T.F_wall.bindsN fun _ _ _ _ _ _ us hl => match us, hl with | [_], _ => rfl
theorem b_is_integer (T : Tx K mg) : Binds K (fdOf K (ga K "is_integer")) ["value"] [] := T.F_is_integer.bindsN fun _ _ _ _ _ _ us hl => match us, hl with | [_], _ => rfl
theorem b_is_list (T : Tx K mg) : Binds K (fdOf K (ga K "is_list")) ["value"] [] := T.F_is_list.bindsN fun _ _ _ _ _ _ us hl => match us, hl with | [_], _ => rfl
theorem b_Ratio_top (T : Tx K mg) : Binds K (fdOf K (gt K "Ratio" "top")) ["self"] [] := T.F_Ratio_top.bindsN fun _ _ _ _ _ _ us hl => match us, hl with | [_], _ => rfl
theorem b_Ratio_bottom (T : Tx K mg) : Binds K (fdOf K (gt K "Ratio" "bottom")) ["self"] [] := T.F_Ratio_bottom.bindsN fun _ _ _ _ _ _ us hl => match us, hl with | [_], _ => rfl
theorem b_Ratio_sign (T : Tx K mg) : Binds K (fdOf K (gt K "Ratio" "sign")) ["self"] [] := T.F_Ratio_sign.bindsN fun _ _ _ _ _ _ us hl => match us, hl with | [_], _ => rfl
theorem b_Ratio_is_whole (T : Tx K mg) : Binds K (fdOf K (gt K "Ratio" "is_whole")) ["self"] [] := T.F_Ratio_is_whole.bindsN fun _ _ _ _ _ _ us hl => match us, hl with | [_], _ => rfl
theorem b_Ratio_add (T : Tx K mg) : Binds K (fdOf K (ma K (ga K "Ratio") "__add__")) ["self", "other"] [] := T.F_Ratio_add.bindsN fun _ _ _ _ _ _ us hl => match us, hl with | [_, _], _ => rfl
theorem b_Ratio_radd (T : Tx K mg) : Binds K (fdOf K (ma K (ga K "Ratio") "__radd__")) ["self", "other"] [] := T.F_Ratio_radd.bindsN fun _ _ _ _ _ _ us hl => match us, hl with | [_, _], _ => rfl
theorem b_Ratio_sub (T : Tx K mg) : Binds K (fdOf K (ma K (ga K "Ratio") "__sub__")) ["self", "other"] [] := T.F_Ratio_sub.bindsN fun _ _ _ _ _ _ us hl => match us, hl with | [_, _], _ => rfl
theorem b_Ratio_rsub (T : Tx K mg) : Binds K (fdOf K (ma K (ga K "Ratio") "__rsub__")) ["self", "other"] [] := T.F_Ratio_rsub.bindsN fun _ _ _ _ _ _ us hl => match us, hl with | [_, _], _ => rfl
theorem b_Ratio_mul (T : Tx K mg) : Binds K (fdOf K (ma K (ga K "Ratio") "__mul__")) ["self", "other"] [] := T.F_Ratio_mul.bindsN fun _ _ _ _ _ _ us hl => match us, hl with | [_, _], _ => rfl
theorem b_Ratio_rmul (T : Tx K mg) : Binds K (fdOf K (ma K (ga K "Ratio") "__rmul__")) ["self", "other"] [] := T.F_Ratio_rmul.bindsN fun _ _ _ _ _ _ us hl => match us, hl with | [_, _], _ => rfl
theorem b_Ratio_neg (T : Tx K mg) : Binds K (fdOf K (ma K (ga K "Ratio") "__neg__")) ["self"] [] := T.F_Ratio_neg.bindsN fun _ _ _ _ _ _ us hl => match us, hl with | [_], _ => rfl
theorem b_Ratio_over (T : Tx K mg) : Binds K (fdOf K (ma K (ga K "Ratio") "over")) ["self", "other"] [] := T.F_Ratio_over.bindsN fun _ _ _ _ _ _ us hl => match us, hl with | [_, _], _ => rfl
theorem b_Ratio_unsigned (T : Tx K mg) : Binds K (fdOf K (ma K (ga K "Ratio") "unsigned")) ["self"] [] := T.F_Ratio_unsigned.bindsN fun _ _ _ _ _ _ us hl => match us, hl with | [_], _ => rfl
theorem b_Ratio_is_below (T : Tx K mg) : Binds K (fdOf K (ma K (ga K "Ratio") "is_below")) ["self", "other"] [] := T.F_Ratio_is_below.bindsN fun _ _ _ _ _ _ us hl => match us, hl with | [_, _], _ => rfl
theorem b_Ratio_is_at_most (T : Tx K mg) : Binds K (fdOf K (ma K (ga K "Ratio") "is_at_most")) ["self", "other"] [] := T.F_Ratio_is_at_most.bindsN fun _ _ _ _ _ _ us hl => match us, hl with | [_, _], _ => rfl
theorem b_Ratio_total (T : Tx K mg) : Binds K (fdOf K (cmG K "Ratio" "total")) ["cls", "numbers"] [] := T.F_Ratio_total.bindsN fun _ _ _ _ _ _ us hl => match us, hl with | [_, _], _ => rfl
theorem b_Ratio_eq (T : Tx K mg) : Binds K (fdOf K (ma K (ga K "Ratio") "__eq__")) ["self", "other"] [] := T.F_Ratio_eq.bindsN fun _ _ _ _ _ _ us hl => match us, hl with | [_, _], _ => rfl
theorem b_Ratio_str (T : Tx K mg) : Binds K (fdOf K (ma K (ga K "Ratio") "__str__")) ["self"] [] := T.F_Ratio_str.bindsN fun _ _ _ _ _ _ us hl => match us, hl with | [_], _ => rfl
theorem b_Ratio_repr (T : Tx K mg) : Binds K (fdOf K (ma K (ga K "Ratio") "__repr__")) ["self"] [] := T.F_Ratio_repr.bindsN fun _ _ _ _ _ _ us hl => match us, hl with | [_], _ => rfl
theorem b_is_number (T : Tx K mg) : Binds K (fdOf K (ga K "is_number")) ["value"] [] := T.F_is_number.bindsN fun _ _ _ _ _ _ us hl => match us, hl with | [_], _ => rfl
theorem b_as_ratio (T : Tx K mg) : Binds K (fdOf K (ga K "as_ratio")) ["number"] [] := T.F_as_ratio.bindsN fun _ _ _ _ _ _ us hl => match us, hl with | [_], _ => rfl
theorem b_numbers_from (T : Tx K mg) : Binds K (fdOf K (ga K "numbers_from")) ["value", "least", "most"] [] := T.F_numbers_from.bindsN fun _ _ _ _ _ _ us hl => match us, hl with | [_, _, _], _ => rfl
theorem b_line_from (T : Tx K mg) : Binds K (fdOf K (ga K "line_from")) ["value"] [] := T.F_line_from.bindsN fun _ _ _ _ _ _ us hl => match us, hl with | [_], _ => rfl
theorem b_need_line (T : Tx K mg) : Binds K (fdOf K (ga K "need_line")) ["value"] [] := T.F_need_line.bindsN fun _ _ _ _ _ _ us hl => match us, hl with | [_], _ => rfl
theorem b_trimmed (T : Tx K mg) : Binds K (fdOf K (ga K "trimmed")) ["numbers"] [] := T.F_trimmed.bindsN fun _ _ _ _ _ _ us hl => match us, hl with | [_], _ => rfl
theorem b_line_plus (T : Tx K mg) : Binds K (fdOf K (ga K "line_plus")) ["line", "other"] [] := T.F_line_plus.bindsN fun _ _ _ _ _ _ us hl => match us, hl with | [_, _], _ => rfl
theorem b_line_scaled (T : Tx K mg) : Binds K (fdOf K (ga K "line_scaled")) ["line", "number"] [] := T.F_line_scaled.bindsN fun _ _ _ _ _ _ us hl => match us, hl with | [_, _], _ => rfl
theorem b_line_times (T : Tx K mg) : Binds K (fdOf K (ga K "line_times")) ["line", "other"] [] := T.F_line_times.bindsN fun _ _ _ _ _ _ us hl => match us, hl with | [_, _], _ => rfl
theorem b_line_derived (T : Tx K mg) : Binds K (fdOf K (ga K "line_derived")) ["line"] [] := T.F_line_derived.bindsN fun _ _ _ _ _ _ us hl => match us, hl with | [_], _ => rfl
theorem b_line_worth (T : Tx K mg) : Binds K (fdOf K (ga K "line_worth")) ["line", "number"] [] := T.F_line_worth.bindsN fun _ _ _ _ _ _ us hl => match us, hl with | [_, _], _ => rfl
theorem b_is_line (T : Tx K mg) : Binds K (fdOf K (ga K "is_line")) ["value"] [] := T.F_is_line.bindsN fun _ _ _ _ _ _ us hl => match us, hl with | [_], _ => rfl
theorem b_told (T : Tx K mg) : Binds K (fdOf K (ga K "told")) ["line"] [] := T.F_told.bindsN fun _ _ _ _ _ _ us hl => match us, hl with | [_], _ => rfl
theorem b_degree (T : Tx K mg) : Binds K (fdOf K (ga K "degree")) ["line"] [] := T.F_degree.bindsN fun _ _ _ _ _ _ us hl => match us, hl with | [_], _ => rfl
theorem b_plus (T : Tx K mg) : Binds K (fdOf K (ga K "plus")) ["line", "other"] [] := T.F_plus.bindsN fun _ _ _ _ _ _ us hl => match us, hl with | [_, _], _ => rfl
theorem b_minus (T : Tx K mg) : Binds K (fdOf K (ga K "minus")) ["line", "other"] [] := T.F_minus.bindsN fun _ _ _ _ _ _ us hl => match us, hl with | [_, _], _ => rfl
theorem b_scaled (T : Tx K mg) : Binds K (fdOf K (ga K "scaled")) ["line", "number"] [] := T.F_scaled.bindsN fun _ _ _ _ _ _ us hl => match us, hl with | [_, _], _ => rfl
theorem b_derived (T : Tx K mg) : Binds K (fdOf K (ga K "derived")) ["line"] [] := T.F_derived.bindsN fun _ _ _ _ _ _ us hl => match us, hl with | [_], _ => rfl
theorem b_times (T : Tx K mg) : Binds K (fdOf K (ga K "times")) ["line", "other"] [] := T.F_times.bindsN fun _ _ _ _ _ _ us hl => match us, hl with | [_, _], _ => rfl
theorem b_worth (T : Tx K mg) : Binds K (fdOf K (ga K "worth")) ["line", "number"] [] := T.F_worth.bindsN fun _ _ _ _ _ _ us hl => match us, hl with | [_, _], _ => rfl
theorem b_law_pot (T : Tx K mg) : Binds K (fdOf K (ga K "_law_pot")) ["_law_script", "_law_k"] [] := T.F_law_pot.bindsN fun _ _ _ _ _ _ us hl => match us, hl with | [_, _], _ => rfl
theorem b_law_draw (T : Tx K mg) : Binds K (fdOf K (ga K "_law_draw")) ["_law_pot_here", "_law_many"] [] := T.F_law_draw.bindsN fun _ _ _ _ _ _ us hl => match us, hl with | [_, _], _ => rfl
theorem b_law_pick (T : Tx K mg) : Binds K (fdOf K (ga K "_law_pick")) ["_law_pot_here", "_law_some"] [] := T.F_law_pick.bindsN fun _ _ _ _ _ _ us hl => match us, hl with | [_, _], _ => rfl
theorem b_law_trim (T : Tx K mg) : Binds K (fdOf K (ga K "_law_trim")) ["_law_line_here"] [] := T.F_law_trim.bindsN fun _ _ _ _ _ _ us hl => match us, hl with | [_], _ => rfl
theorem b_law_at (T : Tx K mg) : Binds K (fdOf K (ga K "_law_at")) ["_law_line_here", "_law_place"] [] := T.F_law_at.bindsN fun _ _ _ _ _ _ us hl => match us, hl with | [_, _], _ => rfl
theorem b_law_plus (T : Tx K mg) : Binds K (fdOf K (ga K "_law_plus")) ["_law_one", "_law_other"] [] := T.F_law_plus.bindsN fun _ _ _ _ _ _ us hl => match us, hl with | [_, _], _ => rfl
theorem b_law_scaled (T : Tx K mg) : Binds K (fdOf K (ga K "_law_scaled")) ["_law_line_here", "_law_number_here"] [] := T.F_law_scaled.bindsN fun _ _ _ _ _ _ us hl => match us, hl with | [_, _], _ => rfl
theorem b_law_times (T : Tx K mg) : Binds K (fdOf K (ga K "_law_times")) ["_law_one", "_law_other"] [] := T.F_law_times.bindsN fun _ _ _ _ _ _ us hl => match us, hl with | [_, _], _ => rfl
theorem b_law_number (T : Tx K mg) : Binds K (fdOf K (ga K "_law_number")) ["_law_pot_here", "_law_most"] [] := T.F_law_number.bindsN fun _ _ _ _ _ _ us hl => match us, hl with | [_, _], _ => rfl
theorem b_law_line (T : Tx K mg) : Binds K (fdOf K (ga K "_law_line")) ["_law_pot_here", "_law_size", "_law_most"] [] := T.F_law_line.bindsN fun _ _ _ _ _ _ us hl => match us, hl with | [_, _, _], _ => rfl
theorem b_law_passed (T : Tx K mg) : Binds K (fdOf K (ga K "_law_passed")) ["_law_pot_here", "_law_line_here"] [] := T.F_law_passed.bindsN fun _ _ _ _ _ _ us hl => match us, hl with | [_, _], _ => rfl
theorem b_law_worth (T : Tx K mg) : Binds K (fdOf K (ga K "_law_worth")) ["_law_line_here", "_law_number_here"] [] := T.F_law_worth.bindsN fun _ _ _ _ _ _ us hl => match us, hl with | [_, _], _ => rfl
theorem b_law_derived (T : Tx K mg) : Binds K (fdOf K (ga K "_law_derived")) ["_law_line_here"] [] := T.F_law_derived.bindsN fun _ _ _ _ _ _ us hl => match us, hl with | [_], _ => rfl
theorem b_law_pair_right (T : Tx K mg) : Binds K (fdOf K (ga K "_law_pair_right")) ["_law_pot_here", "_law_one", "_law_other", "_law_number_here"] [] := T.F_law_pair_right.bindsN fun _ _ _ _ _ _ us hl => match us, hl with | [_, _, _, _], _ => rfl
theorem b_law_right (T : Tx K mg) : Binds K (fdOf K (ga K "_law_right")) ["_law_pot_here"] [] := T.F_law_right.bindsN fun _ _ _ _ _ _ us hl => match us, hl with | [_], _ => rfl
theorem b_law (T : Tx K mg) : Binds K (fdOf K (ga K "law")) ["_law_script"] [] := T.F_law.bindsN fun _ _ _ _ _ _ us hl => match us, hl with | [_], _ => rfl
end
end K31

set_option Elab.async false
set_option linter.all false
set_option maxRecDepth 100000
set_option maxHeartbeats 4000000
namespace K31
open PySem PySem.Spec PyProof.Rows L2 Own
open PySem.W (Frag)

/-! ### data -/
theorem ne_tb : ¬ (("_top" : Str) = "_bottom") := by decide +kernel
def rf (t b : Int) : List (Str × V) := putF "_bottom" (.int b) (putF "_top" (.int t) [])
theorem rf_top (t b : Int) : (rf t b).lookup ("_top" : Str) = some (.int t) := by
  unfold rf
  rw [lookup_putF, if_neg ne_tb, lookup_putF, if_pos rfl]
theorem rf_bottom (t b : Int) : (rf t b).lookup ("_bottom" : Str) = some (.int b) := by
  unfold rf
  rw [lookup_putF, if_pos rfl]
theorem rf_no (t b : Int) {m : Str} (h1 : ¬ m = "_bottom") (h2 : ¬ m = "_top") : (rf t b).lookup m = none := by
  unfold rf
  rw [lookup_putF, if_neg h1, lookup_putF, if_neg h2]
  all_goals rfl
def RatAt (C : Addr) (H : Hp) (a : Addr) (q : Int × Int) : Prop := ∃ dx, H a = some (.ins C dx (rf q.1 q.2))
theorem RatAt.same {C : Addr} {H H2 : Hp} {a : Addr} {q : Int × Int} (h : RatAt C H a q) (s : Same H H2) : RatAt C H2 a q :=
  let ⟨dx, e⟩ := h
  ⟨dx, s _ _ e⟩
/-- a number that may be handed: an int or a Ratio -/
def NumV (C : Addr) (H : Hp) (v : V) (q : Int × Int) : Prop := (∃ i, v = .int i ∧ q = (i, 1)) ∨ ∃ a, v = .ref a ∧ RatAt C H a q
/-- what Euclid brings -/
def nrm (t b : Int) : Int × Int :=
  if b < 0 then (t.fdiv (-((Nat.gcd t.natAbs b.natAbs : Nat) : Int)), b.fdiv (-((Nat.gcd t.natAbs b.natAbs : Nat) : Int)))
  else (t.fdiv ((Nat.gcd t.natAbs b.natAbs : Nat) : Int), b.fdiv ((Nat.gcd t.natAbs b.natAbs : Nat) : Int))
def Sz (n : Nat) (i : Int) : Prop := i.natAbs < 2 ^ n
structure OkP (n : Nat) (q : Int × Int) : Prop where
  pos : 0 < q.2
  st : Sz n q.1
  sb : Sz n q.2
def addP (x y : Int × Int) : Int × Int := nrm (x.1 * y.2 + y.1 * x.2) (x.2 * y.2)
def subP (x y : Int × Int) : Int × Int := nrm (x.1 * y.2 - y.1 * x.2) (x.2 * y.2)
def mulP (x y : Int × Int) : Int × Int := nrm (x.1 * y.1) (x.2 * y.2)
def ovP (x y : Int × Int) : Int × Int := nrm (x.1 * y.2) (x.2 * y.1)

theorem fdiv_abs_le (t g : Int) (hg : g ≠ 0) (hd : g ∣ t) : (t.fdiv g).natAbs ≤ t.natAbs := by
  obtain ⟨k, rfl⟩ := hd
  rw [Int.mul_fdiv_cancel_left k hg, Int.natAbs_mul]
  have : 1 ≤ g.natAbs := by omega
  exact Nat.le_mul_of_pos_left _ (by omega)
theorem gcd_pos' {t b : Int} (h : b ≠ 0) : 0 < Nat.gcd t.natAbs b.natAbs := Nat.gcd_pos_of_pos_right _ (by omega)
theorem gcd_dvd_t (t b : Int) : ((Nat.gcd t.natAbs b.natAbs : Nat) : Int) ∣ t := Int.ofNat_dvd_left.mpr (Nat.gcd_dvd_left _ _)
theorem gcd_dvd_b (t b : Int) : ((Nat.gcd t.natAbs b.natAbs : Nat) : Int) ∣ b := Int.ofNat_dvd_left.mpr (Nat.gcd_dvd_right _ _)
theorem nrm_pos {t b : Int} (h : b ≠ 0) : 0 < (nrm t b).2 := by
  have g0 := gcd_pos' (t := t) h
  obtain ⟨k, hk⟩ := gcd_dvd_b t b
  generalize hg : ((Nat.gcd t.natAbs b.natAbs : Nat) : Int) = g at hk
  have g1 : 0 < g := by omega
  unfold nrm
  rw [hg]
  by_cases hb : b < 0
  · rw [if_pos hb]
    show 0 < b.fdiv (-g)
    have e : b = (-g) * (-k) := by rw [hk, Int.neg_mul_neg]
    rw [e, Int.mul_fdiv_cancel_left _ (by omega)]
    rcases (by omega : k < 0 ∨ 0 ≤ k) with z | z
    · omega
    · have : 0 ≤ g * k := Int.mul_nonneg (by omega) z
      omega
  · rw [if_neg hb]
    show 0 < b.fdiv g
    rw [hk, Int.mul_fdiv_cancel_left _ (by omega)]
    rcases (by omega : 0 < k ∨ k ≤ 0) with z | z
    · exact z
    · have : g * k ≤ 0 := Int.mul_nonpos_of_nonneg_of_nonpos (by omega) z
      omega
theorem nrm_sz {t b : Int} {n : Nat} (h : b ≠ 0) (ht : Sz n t) (hb : Sz n b) : OkP n (nrm t b) := by
  have g0 := gcd_pos' (t := t) h
  refine ⟨nrm_pos h, ?_, ?_⟩
  · unfold nrm
    split
    · exact Nat.lt_of_le_of_lt (fdiv_abs_le _ _ (by omega) ((Int.neg_dvd).mpr (gcd_dvd_t t b))) ht
    · exact Nat.lt_of_le_of_lt (fdiv_abs_le _ _ (by omega) (gcd_dvd_t t b)) ht
  · unfold nrm
    split
    · exact Nat.lt_of_le_of_lt (fdiv_abs_le _ _ (by omega) ((Int.neg_dvd).mpr (gcd_dvd_b t b))) hb
    · exact Nat.lt_of_le_of_lt (fdiv_abs_le _ _ (by omega) (gcd_dvd_b t b)) hb
theorem sz_mul {n m : Nat} {i j : Int} (h : Sz n i) (k : Sz m j) : Sz (n + m) (i * j) := wide_lt h k
theorem sz_le {n m : Nat} {i : Int} (h : Sz n i) (k : n ≤ m) : Sz m i := Nat.lt_of_lt_of_le h (Nat.pow_le_pow_right (by decide) k)
theorem sz_add {n : Nat} {i j : Int} (h : Sz n i) (k : Sz n j) : Sz (n + 1) (i + j) := by
  unfold Sz at *
  rw [Nat.pow_succ]
  omega
theorem sz_sub {n : Nat} {i j : Int} (h : Sz n i) (k : Sz n j) : Sz (n + 1) (i - j) := by
  unfold Sz at *
  rw [Nat.pow_succ]
  omega
theorem OkP.add {n m : Nat} {x y : Int × Int} (h : OkP n x) (k : OkP m y) : OkP (n + m + 1) (addP x y) := by
  have z : Sz (n + m) (y.1 * x.2) := by rw [Nat.add_comm]; exact sz_mul k.st h.sb
  exact nrm_sz (Int.ne_of_gt (Int.mul_pos h.pos k.pos)) (sz_add (sz_mul h.st k.sb) z) (sz_le (sz_mul h.sb k.sb) (Nat.le_succ _))
theorem OkP.sub {n m : Nat} {x y : Int × Int} (h : OkP n x) (k : OkP m y) : OkP (n + m + 1) (subP x y) := by
  have z : Sz (n + m) (y.1 * x.2) := by rw [Nat.add_comm]; exact sz_mul k.st h.sb
  exact nrm_sz (Int.ne_of_gt (Int.mul_pos h.pos k.pos)) (sz_sub (sz_mul h.st k.sb) z) (sz_le (sz_mul h.sb k.sb) (Nat.le_succ _))
theorem OkP.mul {n m : Nat} {x y : Int × Int} (h : OkP n x) (k : OkP m y) : OkP (n + m + 1) (mulP x y) :=
  nrm_sz (Int.ne_of_gt (Int.mul_pos h.pos k.pos)) (sz_le (sz_mul h.st k.st) (Nat.le_succ _)) (sz_le (sz_mul h.sb k.sb) (Nat.le_succ _))
theorem OkP.over {n m : Nat} {x y : Int × Int} (h : OkP n x) (k : OkP m y) (hy : y.1 ≠ 0) : OkP (n + m + 1) (ovP x y) :=
  nrm_sz (Int.mul_ne_zero (Int.ne_of_gt h.pos) hy) (sz_le (sz_mul h.st k.sb) (Nat.le_succ _)) (sz_le (sz_mul h.sb k.st) (Nat.le_succ _))
theorem sz_log {n : Nat} {i : Int} (h : Sz n i) (h0 : 0 < n) : i.natAbs.log2 < n := PySem.Flt.log2_lt_of h0 h
theorem sz_mulW {n m : Nat} {i j : Int} (h : Sz n i) (k : Sz m j) (hn : 0 < n) (hm : 0 < m) (hs : n + m ≤ 1000000) : CMulW i j := wide_mul h k hn hm hs
/-- // by any number that is not 0, below 2 ^ 8000 -/
def CDivZ (_ j : Int) : Prop := j ≠ 0 ∧ Sz 8000 j
theorem op_fdivZ {X : Cx} : OpR X (binaryOp .FloorDiv) (rI CDivZ fun i j => .int (i.fdiv j)) := opI fun i j _ _ _ _ _ hc q => by
  exact floordiv_int hc.1 q (.inl (PyProof.noPylong_of_log2 (Nat.lt_trans (sz_log hc.2 (by decide)) (by decide))))
end K31

namespace K31
open PySem PySem.Spec PyProof.Rows L2 Own
open PySem.W (Frag)
section
variable {P : Program} {w : World} {K : Frag} {mg : Str → Option Value} {base : Heap}
abbrev CR (K : Frag) : Addr := ga K "Ratio"
/-- whether a value is a whole number, no truth value -/
def IntK (K : Frag) (H : Hp) (v : V) (r : Bool) : Prop := ∃ t b1 b2, TyX K H v t ∧ PySem.W.kitOne K t (.type "int") = some b1 ∧ PySem.W.kitOne K t (.type "bool") = some b2 ∧ r = (b1 && !b2)
theorem IntK.int {H : Hp} (i : Int) : IntK K H (.int i) true := ⟨_, true, false, .base (.int i), kit_ty (by decide +kernel), kit_ty (by decide +kernel), rfl⟩
theorem IntK.bl {H : Hp} (b : Bool) : IntK K H (.bl b) false := ⟨_, true, true, .base (.bl b), kit_ty (by decide +kernel), kit_ty (by decide +kernel), rfl⟩
theorem IntK.non {H : Hp} : IntK K H .non false := ⟨_, false, false, .base .non, kit_ty (by decide +kernel), kit_ty (by decide +kernel), rfl⟩
theorem IntK.str {H : Hp} (z : Str) : IntK K H (.str z) false := ⟨_, false, false, .base (.str z), kit_ty (by decide +kernel), kit_ty (by decide +kernel), rfl⟩
theorem IntK.lst {H : Hp} {a : Addr} {xs : List V} (e : H a = some (.lst xs)) : IntK K H (.ref a) false := ⟨_, false, false, .base (.lst e), kit_ty (by decide +kernel), kit_ty (by decide +kernel), rfl⟩
theorem IntK.tup {H : Hp} {a : Addr} {xs : List V} (e : H a = some (.tup xs)) : IntK K H (.ref a) false := ⟨_, false, false, .base (.tup e), kit_ty (by decide +kernel), kit_ty (by decide +kernel), rfl⟩
theorem IntK.rat (T : Tx K mg) {H : Hp} {a : Addr} {q : Int × Int} (h : RatAt (CR K) H a q) : IntK K H (.ref a) false := by
  obtain ⟨dx, e⟩ := h
  exact ⟨_, false, false, T.is_Ratio.ty T.cl_Ratio e, T.kt_int, T.kt_bool, rfl⟩
def spIsInt (K : Frag) : Sp := fun vs H Q _ => ∃ v r, vs = [v] ∧ IntK K H v r ∧ Q (.bl r) H
theorem ok_is_integer (T : Tx K mg) : FG P w K mg base CX0 1 (ga K "is_integer") (fdOf K (ga K "is_integer")) ["value"] (spIsInt K) := by
  refine fg_no T.F_is_integer sc_is_integer (fun vs H Q E h => ?_) (fun cdv A outer s H vs Q E gg hr h => ?_)
  · obtain ⟨v, r, rfl, _⟩ := h
    rfl
  · obtain ⟨v, r, rfl, ⟨t, b1, b2, ty, k1, k2, rfl⟩, k⟩ := h
    refine ⟨_, pss_one (ps_ret (pe_and (pe_callB call_isi (by rfl) T.n_isinstance (by decide +kernel) (pa_cons (pv 0) (pa_cons (pe_bltn (v := .ty "int") (by rfl) T.n_int (by decide +kernel) rfl) pa_nil)))
      (pe_one (pe_not (pe_callB call_isi (by rfl) T.n_isinstance (by decide +kernel) (pa_cons (pv 0) (pa_cons (pe_bltn (v := .ty "bool") (by rfl) T.n_bool (by decide +kernel) rfl) pa_nil))))))), ?_⟩
    refine ⟨_, rfl, _, _, _, _, _, rfl, .ty "int", ty, k1, _, rfl, ?_⟩
    cases b1 with
    | false => exact iteF k
    | true => exact iteT ⟨_, rfl, _, _, _, _, _, rfl, .ty "bool", ty, k2, _, rfl, k⟩

def intV : V → Bool
  | .int _ => true
  | _ => false
/-- what a value is told by is_number -/
def NumK (K : Frag) (H : Hp) (v : V) (r : Bool) : Prop := ∃ r1, IntK K H v r1 ∧ (r1 = true → r = true) ∧ (r1 = false → ∃ t, TyX K H v t ∧ PySem.W.kitOne K t (.ref (CR K)) = some r)
def spIsNum (K : Frag) : Sp := fun vs H Q _ => ∃ v r, vs = [v] ∧ NumK K H v r ∧ Q (.bl r) H
theorem ok_is_number (T : Tx K mg) : FG P w K mg base CX0 2 (ga K "is_number") (fdOf K (ga K "is_number")) ["value"] (spIsNum K) := by
  refine fg_no T.F_is_number sc_is_number (fun vs H Q E h => ?_) (fun cdv A outer s H vs Q E gg hr h => ?_)
  · obtain ⟨v, r, rfl, _⟩ := h
    rfl
  · obtain ⟨v, r, rfl, ⟨r1, hi, ht, hf⟩, k⟩ := h
    refine ⟨_, pss_one (ps_ret (pe_or (pe_fn (ok_is_integer T) gg hr rfl T.g_is_integer T.F_is_integer.kp (b_is_integer T) .nil pass0 (pa_cons (pv 0) pa_nil))
      (pe_one (pe_callB call_isi (by rfl) T.n_isinstance (by decide +kernel) (pa_cons (pv 0) (pa_cons (pe_glob (v := .ref (CR K)) rfl T.g_Ratio rfl) pa_nil)))))), ?_⟩
    refine ⟨_, rfl, v, _, rfl, hi, _, rfl, ?_⟩
    cases r1 with
    | true =>
      rw [ht rfl] at k
      exact iteT k
    | false =>
      obtain ⟨t, ty, kt⟩ := hf rfl
      exact iteF ⟨_, rfl, _, _, _, _, _, rfl, .own _, ty, kt, k⟩
/-! ### Ratio -/
theorem nd_init : (["self", "top", "bottom", "value", "shared"] : List Str).Nodup := sc_Ratio_init.nd
/-- what __init__ does to the fresh object at p -/
def spInit (K : Frag) : Sp := fun vs H Q _ => ∃ (p dx : Addr) (t b : Int), vs = [.ref p, .int t, .int b] ∧ H p = some (.ins (CR K) dx []) ∧ b ≠ 0 ∧ Sz 8000 b ∧
  ∀ H2, RatAt (CR K) H2 p (nrm t b) → (∀ c o, H c = some o → c ≠ p → H2 c = some o) → Q .non H2
theorem ok_init (T : Tx K mg) : FG P w K mg base CX0 2 (ma K (CR K) "__init__") (fdOf K (ma K (CR K) "__init__")) ["self", "top", "bottom"] (spInit K) := by
  refine fg_no T.F_Ratio_init sc_Ratio_init (fun vs H Q E h => ?_) (fun cdv A outer s H vs Q E gg hr h => ?_)
  · obtain ⟨p, dx, t, b, rfl, _⟩ := h
    rfl
  · obtain ⟨p, dx, t, b, rfl, hp, hb0, hbs, k⟩ := h
    refine ⟨_, pss_cons (ps_for PassesOwn.never rfl (pi_tup (pe_tup (pa_cons (pv 1) (pa_cons (pv 2) pa_nil)))) (pg_name (i := 3) sc_Ratio_init.nd rfl (Or.inl rfl))
        (pss_one (ps_if (pt_not (pt_val (pe_fn (ok_is_integer T) gg hr rfl T.g_is_integer T.F_is_integer.kp (b_is_integer T) .nil pass0 (pa_cons (pv 3) pa_nil)))) (pss_one ps_never) pss_nil)))
      (pss_cons (ps_if (pt_cmpR op_eq (pv 2) pe_int (nomark _)) (pss_one ps_never) pss_nil)
      (pss_cons (ps_set (i := 4) sc_Ratio_init.nd rfl (Or.inl rfl) (pe_callBfun cr_gcd (by rfl) T.m_gcd (pa_cons (pv 1) (pa_cons (pv 2) pa_nil))))
      (pss_cons (ps_if (pt_cmpR op_lt (pv 2) pe_int (nomark _)) (pss_one (ps_set (i := 4) sc_Ratio_init.nd rfl (Or.inl rfl) (pe_un un_neg (pv 4)))) pss_nil)
      (pss_cons (ps_fld (pv 0) (pe_op op_fdivZ (pv 1) (pv 4)) rfl)
      (pss_one (ps_fld (pv 0) (pe_op op_fdivZ (pv 2) (pv 4)) rfl)))))), ?_⟩
    refine ⟨_, rfl, _, rfl, (by show 2 ≤ sizeLine; decide), fun tp htp => ?_⟩
    have npt : p ≠ tp := ne_of_none hp htp
    refine ⟨tp, rfl, ⟨_, SqT.of upd_same⟩, for_tup (K := K) (a := tp) (xs := [.int t, .int b]) (fun i σ H2 => H2 = upd H tp (.tup [.int t, .int b]) ∧ ∃ v, σ = [some (.ref p), some (.int t), some (.int b), v, none])
      ⟨rfl, none, rfl⟩ (fun i σ H2 _ ⟨e, _⟩ => by rw [e]; exact SqT.of upd_same) ?_ ?_⟩
    · rintro i x σ H2 hx ⟨rfl, v, rfl⟩
      have hxi : ∃ j, x = .int j := by
        match i, hx with
        | 0, hx => exact ⟨t, (Option.some.inj hx).symm⟩
        | 1, hx => exact ⟨b, (Option.some.inj hx).symm⟩
        | i + 2, hx => simp at hx
      obtain ⟨j, rfl⟩ := hxi
      refine ⟨_, rfl, _, true, rfl, IntK.int j, _, rfl, ?_⟩
      exact iteF ⟨rfl, _, rfl⟩
    · rintro σ H2 ⟨rfl, v, rfl⟩
      refine ⟨_, rfl, rfl, _, rfl, ?_⟩
      refine ite2 (fun z => ?_) (fun _ => ?_)
      · exact absurd (by simpa using z) hb0
      refine ⟨_, rfl, _, rfl, t, b, rfl, ?_⟩
      have g0 := gcd_pos' (t := t) hb0
      have gs : Sz 8000 ((Nat.gcd t.natAbs b.natAbs : Nat) : Int) := by
        show (Nat.gcd t.natAbs b.natAbs) < 2 ^ 8000
        exact Nat.lt_of_le_of_lt (Nat.gcd_le_right _ (by omega)) hbs
      have hp2 : (upd H tp (.tup [.int t, .int b])) p = some (.ins (CR K) dx []) := by rw [upd_ne npt]; exact hp
      have keep : ∀ o1 o2 c o, H c = some o → c ≠ p → (upd (upd (upd H tp (.tup [.int t, .int b])) p o1) p o2) c = some o := by
        intro o1 o2 c o e hc
        rw [upd_ne hc, upd_ne hc, upd_ne (ne_of_none e htp)]
        exact e
      refine ⟨_, rfl, _, _, rfl, rfl, _, rfl, ?_⟩
      refine ite2 (fun z => ?_) (fun z => ?_)
      · have hneg : b < 0 := of_decide_eq_true z
        refine ⟨_, rfl, _, rfl, ?_⟩
        refine ⟨_, rfl, _, rfl, _, _, rfl, rfl, ⟨by omega, ?_⟩, _, rfl, p, CR K, dx, _, rfl, hp2, T.cl_Ratio, T.na_top, (by show 0 < 1000; decide), ?_⟩
        · unfold Sz at *; omega
        refine ⟨_, rfl, _, rfl, _, _, rfl, rfl, ⟨by omega, ?_⟩, _, rfl, p, CR K, dx, _, rfl, upd_same, T.cl_Ratio, T.na_bottom, (by show 1 < 1000; decide), ?_⟩
        · unfold Sz at *; omega
        refine k _ ⟨dx, Eq.trans upd_same ?_⟩ (keep _ _)
        show some (HO.ins (CR K) dx _) = some (HO.ins (CR K) dx _)
        unfold nrm rf
        rw [if_pos hneg]
      · have hneg : ¬ b < 0 := fun q => z (decide_eq_true q)
        refine ⟨_, rfl, _, rfl, _, _, rfl, rfl, ⟨by omega, gs⟩, _, rfl, p, CR K, dx, _, rfl, hp2, T.cl_Ratio, T.na_top, (by show 0 < 1000; decide), ?_⟩
        refine ⟨_, rfl, _, rfl, _, _, rfl, rfl, ⟨by omega, gs⟩, _, rfl, p, CR K, dx, _, rfl, upd_same, T.cl_Ratio, T.na_bottom, (by show 1 < 1000; decide), ?_⟩
        refine k _ ⟨dx, Eq.trans upd_same ?_⟩ (keep _ _)
        show some (HO.ins (CR K) dx _) = some (HO.ins (CR K) dx _)
        unfold nrm rf
        rw [if_neg hneg]
end
end K31

namespace K31
open PySem PySem.Spec PyProof.Rows L2 Own
open PySem.W (Frag)
section
variable {P : Program} {w : World} {K : Frag} {mg : Str → Option Value} {base : Heap}
/-! ### how Ratio(..) is bound -/
theorem b_init2 (T : Tx K mg) : Binds K (fdOf K (ma K (CR K) "__init__")) ["self", "top", "bottom"] [] := by
  obtain ⟨ds, r, b⟩ := T.F_Ratio_init.binds1 (ps := ["self", "top", "bottom"]) 3 1 (by simp) rfl fun _ _ _ _ _ _ _ us its h1 h2 => match us, its, h1, h2 with | [_, _, _], [_], _, _ => ⟨_, rfl, rfl⟩
  cases r
  exact b
theorem b_init1 (T : Tx K mg) : ∃ ds, Vals [V.int 1] ds ∧ Binds K (fdOf K (ma K (CR K) "__init__")) ["self", "top", "bottom"] ds := 
  T.F_Ratio_init.binds1 (ps := ["self", "top", "bottom"]) 2 0 (by simp) rfl fun _ _ _ _ _ _ _ us its h1 h2 => match us, its, h1, h2 with | [_, _], [_], _, _ => ⟨_, rfl, rfl⟩
/-- Ratio(t, b): what behind the making is wanted -/
theorem mkR {H : Hp} {t b : Int} {Q : VK} (hb0 : b ≠ 0) (hbs : Sz 8000 b) (q : ∀ x H2, H x = none → Same H H2 → RatAt (CR K) H2 x (nrm t b) → Q (.ref x) H2) :
    ∀ x dx, H x = none → H dx = none → dx ≠ x → spInit K [.ref x, .int t, .int b] (upd (upd H dx (.own x)) x (.ins (CR K) dx [])) (fun v H2 => v = .non ∧ Q (.ref x) H2) E0 := by
  intro x dx nx ndx ne
  refine ⟨x, dx, t, b, rfl, upd_same, hb0, hbs, fun H2 R2 kp => ⟨rfl, q x H2 nx (Same.made nx ndx kp) R2⟩⟩
/-- a getter's promise -/
def spTop (K : Frag) : Sp := fun vs H Q _ => ∃ a q, vs = [.ref a] ∧ RatAt (CR K) H a q ∧ Q (.int q.1) H
def spBot (K : Frag) : Sp := fun vs H Q _ => ∃ a q, vs = [.ref a] ∧ RatAt (CR K) H a q ∧ Q (.int q.2) H
theorem ok_top (T : Tx K mg) : FG P w K mg base CX0 1 (gt K "Ratio" "top") (fdOf K (gt K "Ratio" "top")) ["self"] (spTop K) := by
  refine fg_no T.F_Ratio_top sc_Ratio_top (fun vs H Q E h => ?_) (fun cdv A outer s H vs Q E gg hr h => ?_)
  · obtain ⟨a, q, rfl, _⟩ := h
    rfl
  · obtain ⟨a, q, rfl, ⟨dx, e⟩, k⟩ := h
    exact ⟨_, pss_one (ps_ret (pe_fld (pv 0) rfl)), _, rfl, a, CR K, dx, _, _, rfl, e, T.cl_Ratio, T.na_top, rf_top _ _, k⟩
theorem ok_bottom (T : Tx K mg) : FG P w K mg base CX0 1 (gt K "Ratio" "bottom") (fdOf K (gt K "Ratio" "bottom")) ["self"] (spBot K) := by
  refine fg_no T.F_Ratio_bottom sc_Ratio_bottom (fun vs H Q E h => ?_) (fun cdv A outer s H vs Q E gg hr h => ?_)
  · obtain ⟨a, q, rfl, _⟩ := h
    rfl
  · obtain ⟨a, q, rfl, ⟨dx, e⟩, k⟩ := h
    exact ⟨_, pss_one (ps_ret (pe_fld (pv 0) rfl)), _, rfl, a, CR K, dx, _, _, rfl, e, T.cl_Ratio, T.na_bottom, rf_bottom _ _, k⟩
def sgn (i : Int) : Int := if i = 0 then 0 else if i > 0 then 1 else -1
def spSign (K : Frag) : Sp := fun vs H Q _ => ∃ a q, vs = [.ref a] ∧ RatAt (CR K) H a q ∧ Q (.int (sgn q.1)) H
theorem ok_sign (T : Tx K mg) : FG P w K mg base CX0 1 (gt K "Ratio" "sign") (fdOf K (gt K "Ratio" "sign")) ["self"] (spSign K) := by
  refine fg_no T.F_Ratio_sign sc_Ratio_sign (fun vs H Q E h => ?_) (fun cdv A outer s H vs Q E gg hr h => ?_)
  · obtain ⟨a, q, rfl, _⟩ := h
    rfl
  · obtain ⟨a, q, rfl, ⟨dx, e⟩, k⟩ := h
    refine ⟨_, pss_cons (ps_if (pt_cmpR op_eq (pe_fld (pv 0) rfl) pe_int (nomark _)) (pss_one (ps_ret pe_int)) pss_nil)
      (pss_one (ps_ret (pe_ifExp (pt_cmpR op_gt (pe_fld (pv 0) rfl) pe_int (nomark _)) pe_int (pe_un un_neg pe_int)))), ?_⟩
    refine ⟨_, rfl, a, CR K, dx, _, _, rfl, e, T.cl_Ratio, T.na_top, rf_top _ _, rfl, _, rfl, ?_⟩
    refine ite2 (fun z => ?_) (fun z => ?_)
    · have z2 : q.1 = 0 := by simpa using z
      unfold sgn at k
      rw [if_pos z2] at k
      exact k
    · have z2 : ¬ q.1 = 0 := fun y => z (decide_eq_true (by rw [y]))
      unfold sgn at k
      rw [if_neg z2] at k
      refine ⟨_, rfl, a, CR K, dx, _, _, rfl, e, T.cl_Ratio, T.na_top, rf_top _ _, _, _, rfl, rfl, _, rfl, ?_⟩
      refine ite2 (fun y => ?_) (fun y => ?_)
      · rw [if_pos (show q.1 > 0 from of_decide_eq_true y)] at k
        exact k
      · rw [if_neg (show ¬ q.1 > 0 from fun q0 => y (decide_eq_true q0))] at k
        exact ⟨_, rfl, k⟩
def spWhole (K : Frag) : Sp := fun vs H Q _ => ∃ a q, vs = [.ref a] ∧ RatAt (CR K) H a q ∧ Q (.bl (decide (q.2 = 1))) H
theorem ok_is_whole (T : Tx K mg) : FG P w K mg base CX0 1 (gt K "Ratio" "is_whole") (fdOf K (gt K "Ratio" "is_whole")) ["self"] (spWhole K) := by
  refine fg_no T.F_Ratio_is_whole sc_Ratio_is_whole (fun vs H Q E h => ?_) (fun cdv A outer s H vs Q E gg hr h => ?_)
  · obtain ⟨a, q, rfl, _⟩ := h
    rfl
  · obtain ⟨a, q, rfl, ⟨dx, e⟩, k⟩ := h
    refine ⟨_, pss_one (ps_ret (pe_cmpR op_eq (pe_fld (pv 0) rfl) pe_int (nomark _))), ?_⟩
    refine ⟨_, rfl, a, CR K, dx, _, _, rfl, e, T.cl_Ratio, T.na_bottom, rf_bottom _ _, rfl, ?_⟩
    have e2 : decide (V.int q.2 = V.int 1) = decide (q.2 = 1) := by
      by_cases z : q.2 = 1
      · rw [z]; rfl
      · rw [decide_eq_false z]
        exact decide_eq_false fun y => z (by injection y)
    show Q (.bl (decide (V.int q.2 = V.int 1))) H
    rw [e2]
    exact k
/-! ### as_ratio -/
theorem nrm_one (i : Int) : nrm i 1 = (i, 1) := by
  unfold nrm
  rw [if_neg (by decide)]
  simp
def spAsR (K : Frag) : Sp := fun vs H Q _ => ∃ v q, vs = [v] ∧ NumV (CR K) H v q ∧ ∀ a H2, Same H H2 → RatAt (CR K) H2 a q → Q (.ref a) H2
theorem ok_as_ratio (T : Tx K mg) : FG P w K mg base CX0 4 (ga K "as_ratio") (fdOf K (ga K "as_ratio")) ["number"] (spAsR K) := by
  refine fg_no T.F_as_ratio sc_as_ratio (fun vs H Q E h => ?_) (fun cdv A outer s H vs Q E gg hr h => ?_)
  · obtain ⟨v, q, rfl, _⟩ := h
    rfl
  · obtain ⟨v, q, rfl, hv, k⟩ := h
    obtain ⟨ds, rd, bd⟩ := b_init1 T
    refine ⟨_, pss_cons (ps_if (pt_val (pe_callB call_isi (by rfl) T.n_isinstance (by decide +kernel) (pa_cons (pv 0) (pa_cons (pe_glob (v := .ref (CR K)) rfl T.g_Ratio rfl) pa_nil)))) (pss_one (ps_ret (pv 0))) pss_nil)
      (pss_one (ps_ret (pe_mk T.mk_Ratio (ok_init T) gg hr rfl T.g_Ratio bd rd pass0 (pa_cons (pv 0) pa_nil)))), ?_⟩
    rcases hv with ⟨i, rfl, rfl⟩ | ⟨a, rfl, R⟩
    · refine ⟨_, rfl, _, _, _, _, _, rfl, .own _, .base (.int i), T.ko_int, _, rfl, ?_⟩
      refine iteF ⟨_, rfl, ?_⟩
      exact mkR (by decide) (by unfold Sz; decide +kernel) fun x H2 nx s2 R2 => k x H2 s2 (by rw [nrm_one] at R2; exact R2)
    · obtain ⟨dx, e⟩ := R
      refine ⟨_, rfl, _, _, _, _, _, rfl, .own _, T.is_Ratio.ty T.cl_Ratio e, T.kk_Ratio, _, rfl, ?_⟩
      exact iteT ⟨_, rfl, k a H (Same.refl H) ⟨dx, e⟩⟩
end
end K31

namespace K31
open PySem PySem.Spec PyProof.Rows L2 Own
open PySem.W (Frag)
section
variable {P : Program} {w : World} {K : Frag} {mg : Str → Option Value} {base : Heap}
theorem NumV.same {C : Addr} {H H2 : Hp} {v : V} {q : Int × Int} (h : NumV C H v q) (s : Same H H2) : NumV C H2 v q := by
  rcases h with h | ⟨a, e, R⟩
  · exact .inl h
  · exact .inr ⟨a, e, R.same s⟩
/-- the promise of an operator: f brings the pair -/
def spBin (K : Frag) (f : Int × Int → Int × Int → Int × Int) : Sp := fun vs H Q _ => ∃ a v x y n m, vs = [.ref a, v] ∧ RatAt (CR K) H a x ∧ NumV (CR K) H v y ∧ OkP n x ∧ OkP m y ∧ 0 < n ∧ 0 < m ∧ n + m ≤ 7900 ∧
  ∀ p H2, Same H H2 → RatAt (CR K) H2 p (f x y) → Q (.ref p) H2
theorem spBin_len {f : Int × Int → Int × Int → Int × Int} {vs : List V} {H : Hp} {Q : VK} {E : XK} (h : spBin K f vs H Q E) : vs.length = 2 := by
  obtain ⟨a, v, x, y, n, m, rfl, _⟩ := h
  rfl
theorem mw {n m : Nat} {i j : Int} (h : Sz n i) (k : Sz m j) (hn : 0 < n) (hm : 0 < m) (hs : n + m ≤ 7900) : CMulW i j := sz_mulW h k hn hm (by omega)
theorem ok_add (T : Tx K mg) : FG P w K mg base CX0 5 (ma K (CR K) "__add__") (fdOf K (ma K (CR K) "__add__")) ["self", "other"] (spBin K addP) := by
  refine fg_no T.F_Ratio_add sc_Ratio_add (fun vs H Q E h => spBin_len h) (fun cdv A outer s H vs Q E gg hr h => ?_)
  obtain ⟨a, v, x, y, n, m, rfl, R, hv, ox, oy, n0, m0, hs, k⟩ := h
  refine ⟨_, pss_cons (ps_set (i := 2) sc_Ratio_add.nd rfl (Or.inl rfl) (pe_fn (ok_as_ratio T) gg (hr.mono (by decide)) rfl T.g_as_ratio T.F_as_ratio.kp (b_as_ratio T) .nil pass0 (pa_cons (pv 1) pa_nil)))
    (pss_cons (ps_set (i := 3) sc_Ratio_add.nd rfl (Or.inl rfl) (pe_op op_add
      (pe_op op_mulW (pe_fld (pv 0) rfl) (pe_pr (pv 2) T.cl_Ratio T.p_bottom (ok_bottom T) gg (hr.mono (by decide)) (b_Ratio_bottom T) .nil pass0))
      (pe_op op_mulW (pe_pr (pv 2) T.cl_Ratio T.p_top (ok_top T) gg (hr.mono (by decide)) (b_Ratio_top T) .nil pass0) (pe_fld (pv 0) rfl))))
    (pss_one (ps_ret (pe_mk T.mk_Ratio (ok_init T) gg (hr.mono (by decide)) rfl T.g_Ratio (b_init2 T) .nil pass0 (pa_cons (pv 3)
      (pa_cons (pe_op op_mulW (pe_fld (pv 0) rfl) (pe_pr (pv 2) T.cl_Ratio T.p_bottom (ok_bottom T) gg (hr.mono (by decide)) (b_Ratio_bottom T) .nil pass0)) pa_nil)))))), ?_⟩
  refine ⟨_, rfl, v, y, rfl, hv, fun r H2 s2 R2 => ?_⟩
  have R1 : RatAt (CR K) H2 a x := R.same s2
  obtain ⟨dx, e⟩ := id R1
  obtain ⟨dy, e2⟩ := id R2
  refine ⟨_, rfl, a, CR K, dx, _, _, rfl, e, T.cl_Ratio, T.na_top, rf_top _ _, _, rfl, r, dy, _, rfl, e2, r, y, rfl, R2, _, _, rfl, rfl, mw ox.st oy.sb n0 m0 hs, ?_⟩
  refine ⟨_, rfl, r, dy, _, rfl, e2, r, y, rfl, R2, _, rfl, a, CR K, dx, _, _, rfl, e, T.cl_Ratio, T.na_bottom, rf_bottom _ _, _, _, rfl, rfl, mw oy.st ox.sb m0 n0 (by omega), _, _, rfl, rfl, ?_⟩
  refine ⟨_, rfl, _, rfl, a, CR K, dx, _, _, rfl, e, T.cl_Ratio, T.na_bottom, rf_bottom _ _, _, rfl, r, dy, _, rfl, e2, r, y, rfl, R2, _, _, rfl, rfl, mw ox.sb oy.sb n0 m0 hs, ?_⟩
  exact mkR (Int.ne_of_gt (Int.mul_pos ox.pos oy.pos)) (sz_le (sz_mul ox.sb oy.sb) (by omega)) fun p H3 np s3 R3 => k p H3 (s2.trans s3) R3
theorem ok_sub (T : Tx K mg) : FG P w K mg base CX0 5 (ma K (CR K) "__sub__") (fdOf K (ma K (CR K) "__sub__")) ["self", "other"] (spBin K subP) := by
  refine fg_no T.F_Ratio_sub sc_Ratio_sub (fun vs H Q E h => spBin_len h) (fun cdv A outer s H vs Q E gg hr h => ?_)
  obtain ⟨a, v, x, y, n, m, rfl, R, hv, ox, oy, n0, m0, hs, k⟩ := h
  refine ⟨_, pss_cons (ps_set (i := 2) sc_Ratio_sub.nd rfl (Or.inl rfl) (pe_fn (ok_as_ratio T) gg (hr.mono (by decide)) rfl T.g_as_ratio T.F_as_ratio.kp (b_as_ratio T) .nil pass0 (pa_cons (pv 1) pa_nil)))
    (pss_cons (ps_set (i := 3) sc_Ratio_sub.nd rfl (Or.inl rfl) (pe_op op_sub
      (pe_op op_mulW (pe_fld (pv 0) rfl) (pe_pr (pv 2) T.cl_Ratio T.p_bottom (ok_bottom T) gg (hr.mono (by decide)) (b_Ratio_bottom T) .nil pass0))
      (pe_op op_mulW (pe_pr (pv 2) T.cl_Ratio T.p_top (ok_top T) gg (hr.mono (by decide)) (b_Ratio_top T) .nil pass0) (pe_fld (pv 0) rfl))))
    (pss_one (ps_ret (pe_mk T.mk_Ratio (ok_init T) gg (hr.mono (by decide)) rfl T.g_Ratio (b_init2 T) .nil pass0 (pa_cons (pv 3)
      (pa_cons (pe_op op_mulW (pe_fld (pv 0) rfl) (pe_pr (pv 2) T.cl_Ratio T.p_bottom (ok_bottom T) gg (hr.mono (by decide)) (b_Ratio_bottom T) .nil pass0)) pa_nil)))))), ?_⟩
  refine ⟨_, rfl, v, y, rfl, hv, fun r H2 s2 R2 => ?_⟩
  have R1 : RatAt (CR K) H2 a x := R.same s2
  obtain ⟨dx, e⟩ := id R1
  obtain ⟨dy, e2⟩ := id R2
  refine ⟨_, rfl, a, CR K, dx, _, _, rfl, e, T.cl_Ratio, T.na_top, rf_top _ _, _, rfl, r, dy, _, rfl, e2, r, y, rfl, R2, _, _, rfl, rfl, mw ox.st oy.sb n0 m0 hs, ?_⟩
  refine ⟨_, rfl, r, dy, _, rfl, e2, r, y, rfl, R2, _, rfl, a, CR K, dx, _, _, rfl, e, T.cl_Ratio, T.na_bottom, rf_bottom _ _, _, _, rfl, rfl, mw oy.st ox.sb m0 n0 (by omega), _, _, rfl, rfl, ?_⟩
  refine ⟨_, rfl, _, rfl, a, CR K, dx, _, _, rfl, e, T.cl_Ratio, T.na_bottom, rf_bottom _ _, _, rfl, r, dy, _, rfl, e2, r, y, rfl, R2, _, _, rfl, rfl, mw ox.sb oy.sb n0 m0 hs, ?_⟩
  exact mkR (Int.ne_of_gt (Int.mul_pos ox.pos oy.pos)) (sz_le (sz_mul ox.sb oy.sb) (by omega)) fun p H3 np s3 R3 => k p H3 (s2.trans s3) R3
theorem ok_mul (T : Tx K mg) : FG P w K mg base CX0 5 (ma K (CR K) "__mul__") (fdOf K (ma K (CR K) "__mul__")) ["self", "other"] (spBin K mulP) := by
  refine fg_no T.F_Ratio_mul sc_Ratio_mul (fun vs H Q E h => spBin_len h) (fun cdv A outer s H vs Q E gg hr h => ?_)
  obtain ⟨a, v, x, y, n, m, rfl, R, hv, ox, oy, n0, m0, hs, k⟩ := h
  refine ⟨_, pss_cons (ps_set (i := 2) sc_Ratio_mul.nd rfl (Or.inl rfl) (pe_fn (ok_as_ratio T) gg (hr.mono (by decide)) rfl T.g_as_ratio T.F_as_ratio.kp (b_as_ratio T) .nil pass0 (pa_cons (pv 1) pa_nil)))
    (pss_one (ps_ret (pe_mk T.mk_Ratio (ok_init T) gg (hr.mono (by decide)) rfl T.g_Ratio (b_init2 T) .nil pass0
      (pa_cons (pe_op op_mulW (pe_fld (pv 0) rfl) (pe_pr (pv 2) T.cl_Ratio T.p_top (ok_top T) gg (hr.mono (by decide)) (b_Ratio_top T) .nil pass0))
      (pa_cons (pe_op op_mulW (pe_fld (pv 0) rfl) (pe_pr (pv 2) T.cl_Ratio T.p_bottom (ok_bottom T) gg (hr.mono (by decide)) (b_Ratio_bottom T) .nil pass0)) pa_nil))))), ?_⟩
  refine ⟨_, rfl, v, y, rfl, hv, fun r H2 s2 R2 => ?_⟩
  have R1 : RatAt (CR K) H2 a x := R.same s2
  obtain ⟨dx, e⟩ := id R1
  obtain ⟨dy, e2⟩ := id R2
  refine ⟨_, rfl, a, CR K, dx, _, _, rfl, e, T.cl_Ratio, T.na_top, rf_top _ _, _, rfl, r, dy, _, rfl, e2, r, y, rfl, R2, _, _, rfl, rfl, mw ox.st oy.st n0 m0 hs, ?_⟩
  refine ⟨_, rfl, a, CR K, dx, _, _, rfl, e, T.cl_Ratio, T.na_bottom, rf_bottom _ _, _, rfl, r, dy, _, rfl, e2, r, y, rfl, R2, _, _, rfl, rfl, mw ox.sb oy.sb n0 m0 hs, ?_⟩
  exact mkR (Int.ne_of_gt (Int.mul_pos ox.pos oy.pos)) (sz_le (sz_mul ox.sb oy.sb) (by omega)) fun p H3 np s3 R3 => k p H3 (s2.trans s3) R3
def spCmp (K : Frag) (f : Int × Int → Int × Int → Bool) : Sp := fun vs H Q _ => ∃ a v x y n m, vs = [.ref a, v] ∧ RatAt (CR K) H a x ∧ NumV (CR K) H v y ∧ OkP n x ∧ OkP m y ∧ 0 < n ∧ 0 < m ∧ n + m ≤ 7900 ∧
  ∀ H2, Same H H2 → Q (.bl (f x y)) H2
def belowP (x y : Int × Int) : Bool := decide (x.1 * y.2 < y.1 * x.2)
def atMostP (x y : Int × Int) : Bool := decide (x.1 * y.2 ≤ y.1 * x.2)
end
end K31

namespace K31
open PySem PySem.Spec PyProof.Rows L2 Own
open PySem.W (Frag)
section
variable {P : Program} {w : World} {K : Frag} {mg : Str → Option Value} {base : Heap}
/-- a reflected operator's promise: the other one is a whole number -/
def spRef (K : Frag) (f : Int × Int → Int × Int → Int × Int) : Sp := fun vs H Q _ => ∃ a i x n m, vs = [.ref a, .int i] ∧ RatAt (CR K) H a x ∧ OkP n x ∧ OkP m (i, 1) ∧ 0 < n ∧ 0 < m ∧ n + m ≤ 7900 ∧
  ∀ p H2, Same H H2 → RatAt (CR K) H2 p (f x (i, 1)) → Q (.ref p) H2
theorem spRef_len {f : Int × Int → Int × Int → Int × Int} {vs : List V} {H : Hp} {Q : VK} {E : XK} (h : spRef K f vs H Q E) : vs.length = 2 := by
  obtain ⟨a, v, x, n, m, rfl, _⟩ := h
  rfl
theorem ok_radd (T : Tx K mg) : FG P w K mg base CX0 6 (ma K (CR K) "__radd__") (fdOf K (ma K (CR K) "__radd__")) ["self", "other"] (spRef K addP) := by
  refine fg_no T.F_Ratio_radd sc_Ratio_radd (fun vs H Q E h => spRef_len h) (fun cdv A outer s H vs Q E gg hr h => ?_)
  obtain ⟨a, i, x, n, m, rfl, R, ox, oy, n0, m0, hs, k⟩ := h
  obtain ⟨j1, j2, j3, j4⟩ := T.i_add
  obtain ⟨dx, e⟩ := id R
  exact ⟨_, pss_one (ps_ret (pe_op (og_left (op := .Add) j1 j3 j4 (ok_add T) gg hr (b_Ratio_add T) pass0) (pv 0) (pv 1))),
    _, rfl, _, rfl, a, dx, _, i, rfl, rfl, e, a, _, x, (i, 1), n, m, rfl, R, .inl ⟨i, rfl, rfl⟩, ox, oy, n0, m0, hs, k⟩
theorem ok_rmul (T : Tx K mg) : FG P w K mg base CX0 6 (ma K (CR K) "__rmul__") (fdOf K (ma K (CR K) "__rmul__")) ["self", "other"] (spRef K mulP) := by
  refine fg_no T.F_Ratio_rmul sc_Ratio_rmul (fun vs H Q E h => spRef_len h) (fun cdv A outer s H vs Q E gg hr h => ?_)
  obtain ⟨a, i, x, n, m, rfl, R, ox, oy, n0, m0, hs, k⟩ := h
  obtain ⟨j1, j2, j3, j4⟩ := T.i_mul
  obtain ⟨dx, e⟩ := id R
  exact ⟨_, pss_one (ps_ret (pe_op (og_left (op := .Mult) j1 j3 j4 (ok_mul T) gg hr (b_Ratio_mul T) pass0) (pv 0) (pv 1))),
    _, rfl, _, rfl, a, dx, _, i, rfl, rfl, e, a, _, x, (i, 1), n, m, rfl, R, .inl ⟨i, rfl, rfl⟩, ox, oy, n0, m0, hs, k⟩
theorem ok_rsub (T : Tx K mg) : FG P w K mg base CX0 6 (ma K (CR K) "__rsub__") (fdOf K (ma K (CR K) "__rsub__")) ["self", "other"] (spRef K fun x y => subP y x) := by
  refine fg_no T.F_Ratio_rsub sc_Ratio_rsub (fun vs H Q E h => spRef_len h) (fun cdv A outer s H vs Q E gg hr h => ?_)
  obtain ⟨a, i, x, n, m, rfl, R, ox, oy, n0, m0, hs, k⟩ := h
  obtain ⟨j1, j2, j3, j4⟩ := T.i_sub
  refine ⟨_, pss_one (ps_ret (pe_op (og_both (op := .Sub) j1 (ok_sub T) gg hr (b_Ratio_sub T) pass0)
    (pe_fn (ok_as_ratio T) gg (hr.mono (by decide)) rfl T.g_as_ratio T.F_as_ratio.kp (b_as_ratio T) .nil pass0 (pa_cons (pv 1) pa_nil)) (pv 0))), ?_⟩
  refine ⟨_, rfl, _, (i, 1), rfl, .inl ⟨i, rfl, rfl⟩, fun r H2 s2 R2 => ?_⟩
  obtain ⟨dr, e2⟩ := id R2
  have R1 := R.same s2
  obtain ⟨dx, e⟩ := id R1
  exact ⟨_, rfl, r, dr, _, a, dx, _, rfl, rfl, e2, e, r, _, (i, 1), x, m, n, rfl, R2, .inr ⟨a, rfl, R1⟩, oy, ox, m0, n0, by omega, fun p H3 s3 R3 => k p H3 (s2.trans s3) R3⟩
def spUn (K : Frag) (f : Int × Int → Int × Int) : Sp := fun vs H Q _ => ∃ a x n, vs = [.ref a] ∧ RatAt (CR K) H a x ∧ OkP n x ∧ n ≤ 8000 ∧ ∀ p H2, Same H H2 → RatAt (CR K) H2 p (f x) → Q (.ref p) H2
def negP (x : Int × Int) : Int × Int := nrm (-x.1) x.2
def absP (x : Int × Int) : Int × Int := nrm (if x.1 < 0 then -x.1 else x.1) x.2
theorem ok_neg (T : Tx K mg) : FG P w K mg base CX0 4 (ma K (CR K) "__neg__") (fdOf K (ma K (CR K) "__neg__")) ["self"] (spUn K negP) := by
  refine fg_no T.F_Ratio_neg sc_Ratio_neg (fun vs H Q E h => ?_) (fun cdv A outer s H vs Q E gg hr h => ?_)
  · obtain ⟨a, x, n, rfl, _⟩ := h
    rfl
  obtain ⟨a, x, n, rfl, ⟨dx, e⟩, ox, hn, k⟩ := h
  refine ⟨_, pss_one (ps_ret (pe_mk T.mk_Ratio (ok_init T) gg hr rfl T.g_Ratio (b_init2 T) .nil pass0 (pa_cons (pe_un un_neg (pe_fld (pv 0) rfl)) (pa_cons (pe_fld (pv 0) rfl) pa_nil)))), ?_⟩
  refine ⟨_, rfl, a, CR K, dx, _, _, rfl, e, T.cl_Ratio, T.na_top, rf_top _ _, _, rfl, _, rfl, a, CR K, dx, _, _, rfl, e, T.cl_Ratio, T.na_bottom, rf_bottom _ _, ?_⟩
  exact mkR (Int.ne_of_gt ox.pos) (sz_le ox.sb hn) fun p H3 np s3 R3 => k p H3 s3 R3
/-- == -/
def spEq (K : Frag) : Sp := fun vs H Q _ => ∃ a v x, vs = [.ref a, v] ∧ RatAt (CR K) H a x ∧ ((∃ b y, v = .ref b ∧ RatAt (CR K) H b y ∧ Q (.bl (decide (x = y))) H) ∨ (∃ i, v = .int i ∧ Q (.bl false) H))
theorem dec_pair (x y : Int × Int) : decide (x = y) = (decide (V.int x.1 = V.int y.1) && decide (V.int x.2 = V.int y.2)) := by
  obtain ⟨a, b⟩ := x
  obtain ⟨c, d⟩ := y
  by_cases h1 : a = c <;> by_cases h2 : b = d <;> simp [h1, h2]
theorem ok_eq (T : Tx K mg) : FG P w K mg base CX0 1 (ma K (CR K) "__eq__") (fdOf K (ma K (CR K) "__eq__")) ["self", "other"] (spEq K) := by
  refine fg_no T.F_Ratio_eq sc_Ratio_eq (fun vs H Q E h => ?_) (fun cdv A outer s H vs Q E gg hr h => ?_)
  · obtain ⟨a, v, x, rfl, _⟩ := h
    rfl
  obtain ⟨a, v, x, rfl, ⟨dx, e⟩, h⟩ := h
  refine ⟨_, pss_one (ps_ret (pe_and (pe_callB call_isi (by rfl) T.n_isinstance (by decide +kernel) (pa_cons (pv 1) (pa_cons (pe_glob (v := .ref (CR K)) rfl T.g_Ratio rfl) pa_nil)))
    (pe_and (pe_cmpR op_eq (pe_fld (pv 0) rfl) (pe_fld (pv 1) rfl) (nomark _)) (pe_one (pe_cmpR op_eq (pe_fld (pv 0) rfl) (pe_fld (pv 1) rfl) (nomark _)))))), ?_⟩
  rcases h with ⟨b, y, rfl, ⟨dy, e2⟩, k⟩ | ⟨i, rfl, k⟩
  · refine ⟨_, rfl, _, _, _, _, _, rfl, .own _, T.is_Ratio.ty T.cl_Ratio e2, T.kk_Ratio, _, rfl, ?_⟩
    refine iteT ?_
    refine ⟨_, rfl, a, CR K, dx, _, _, rfl, e, T.cl_Ratio, T.na_top, rf_top _ _, _, rfl, b, CR K, dy, _, _, rfl, e2, T.cl_Ratio, T.na_top, rf_top _ _, rfl, _, rfl, ?_⟩
    rw [dec_pair] at k
    cases h1 : decide (V.int x.1 = V.int y.1) with
    | false =>
      rw [h1] at k
      exact iteF k
    | true =>
      rw [h1] at k
      refine iteT ?_
      exact ⟨_, rfl, a, CR K, dx, _, _, rfl, e, T.cl_Ratio, T.na_bottom, rf_bottom _ _, _, rfl, b, CR K, dy, _, _, rfl, e2, T.cl_Ratio, T.na_bottom, rf_bottom _ _, rfl, k⟩
  · refine ⟨_, rfl, _, _, _, _, _, rfl, .own _, .base (.int i), T.ko_int, _, rfl, ?_⟩
    exact iteF k
/-! ### texts -/
def S (i : Int) : Str := Str.ofString (toString i)
def shown (q : Int × Int) : Str := if q.2 = 1 then S q.1 else Str.empty ++ S q.1 ++ ("/" : Str) ++ S q.2
def told (q : Int × Int) : Str := Str.empty ++ ("Ratio(" : Str) ++ S q.1 ++ (", " : Str) ++ S q.2 ++ (")" : Str)
def Tl (i : Int) : Prop := i.natAbs.log2 < 1920
theorem S_len {i : Int} (h : Tl i) : (S i).length ≤ 1921 := int_text_len_1921 h
theorem len_app (x y : Str) : (x ++ y).length = x.length + y.length := PySem.Str.length_append x y
theorem len_e : (Str.empty).length = 0 := rfl
theorem szl {n : Nat} (h : n ≤ 10000) : n ≤ sizeLine := by
  rw [sizeLine_eq]
  omega
def spStr (K : Frag) (f : Int × Int → Str) : Sp := fun vs H Q _ => ∃ a q, vs = [.ref a] ∧ RatAt (CR K) H a q ∧ Tl q.1 ∧ Tl q.2 ∧ Q (.str (f q)) H
theorem ok_str (T : Tx K mg) : FG P w K mg base CX0 1 (ma K (CR K) "__str__") (fdOf K (ma K (CR K) "__str__")) ["self"] (spStr K shown) := by
  refine fg_no T.F_Ratio_str sc_Ratio_str (fun vs H Q E h => ?_) (fun cdv A outer s H vs Q E gg hr h => ?_)
  · obtain ⟨a, q, rfl, _⟩ := h
    rfl
  obtain ⟨a, q, rfl, ⟨dx, e⟩, t1, t2, k⟩ := h
  refine ⟨_, pss_cons (ps_if (pt_cmpR op_eq (pe_fld (pv 0) rfl) pe_int (nomark _)) (pss_one (ps_ret (pe_callTy call_str_int (by rfl) T.n_str (by decide +kernel) (pa_cons (pe_fld (pv 0) rfl) pa_nil)))) pss_nil)
    (pss_one (ps_ret (pe_joined (.cons (pe_fmt (pe_fld (pv 0) rfl)) (.cons pe_str (.cons (pe_fmt (pe_fld (pv 0) rfl)) .nil)))))), ?_⟩
  refine ⟨_, rfl, a, CR K, dx, _, _, rfl, e, T.cl_Ratio, T.na_bottom, rf_bottom _ _, rfl, _, rfl, ?_⟩
  have l1 := S_len t1
  have l2 := S_len t2
  have l3 : (("/" : Str)).length = 1 := by decide +kernel
  refine ite2 (fun z => ?_) (fun z => ?_)
  · have z2 : q.2 = 1 := by simpa using z
    unfold shown at k
    rw [if_pos z2] at k
    exact ⟨_, rfl, a, CR K, dx, _, _, rfl, e, T.cl_Ratio, T.na_top, rf_top _ _, _, rfl, t1, k⟩
  · have z2 : ¬ q.2 = 1 := fun y => z (decide_eq_true (by rw [y]))
    unfold shown at k
    rw [if_neg z2] at k
    refine ⟨_, rfl, a, CR K, dx, _, _, rfl, e, T.cl_Ratio, T.na_top, rf_top _ _, .inr ⟨_, rfl, t1, S q.1, rfl, ?_, "/", rfl, ?_, ?_⟩⟩
    · rw [len_app, len_e]; exact szl (by omega)
    · rw [len_app, len_app, len_e, l3]; exact szl (by omega)
    · refine ⟨_, rfl, a, CR K, dx, _, _, rfl, e, T.cl_Ratio, T.na_bottom, rf_bottom _ _, .inr ⟨_, rfl, t2, S q.2, rfl, ?_, k⟩⟩
      rw [len_app, len_app, len_app, len_e, l3]; exact szl (by omega)
theorem ok_repr (T : Tx K mg) : FG P w K mg base CX0 1 (ma K (CR K) "__repr__") (fdOf K (ma K (CR K) "__repr__")) ["self"] (spStr K told) := by
  refine fg_no T.F_Ratio_repr sc_Ratio_repr (fun vs H Q E h => ?_) (fun cdv A outer s H vs Q E gg hr h => ?_)
  · obtain ⟨a, q, rfl, _⟩ := h
    rfl
  obtain ⟨a, q, rfl, ⟨dx, e⟩, t1, t2, k⟩ := h
  refine ⟨_, pss_one (ps_ret (pe_joined (.cons pe_str (.cons (pe_fmt (pe_fld (pv 0) rfl)) (.cons pe_str (.cons (pe_fmt (pe_fld (pv 0) rfl)) (.cons pe_str .nil))))))), ?_⟩
  have l1 := S_len t1
  have l2 := S_len t2
  have l3 : (("Ratio(" : Str)).length = 6 := by decide +kernel
  have l4 : ((", " : Str)).length = 2 := by decide +kernel
  have l5 : ((")" : Str)).length = 1 := by decide +kernel
  refine ⟨"Ratio(", rfl, ?_, _, rfl, a, CR K, dx, _, _, rfl, e, T.cl_Ratio, T.na_top, rf_top _ _, .inr ⟨_, rfl, t1, S q.1, rfl, ?_, ", ", rfl, ?_, _, rfl, a, CR K, dx, _, _, rfl, e, T.cl_Ratio, T.na_bottom, rf_bottom _ _,
    .inr ⟨_, rfl, t2, S q.2, rfl, ?_, ")", rfl, ?_, k⟩⟩⟩
  · rw [len_app, len_e, l3]; exact szl (by omega)
  · rw [len_app, len_app, len_e, l3]; exact szl (by omega)
  · rw [len_app, len_app, len_app, len_e, l3, l4]; exact szl (by omega)
  · rw [len_app, len_app, len_app, len_app, len_e, l3, l4]; exact szl (by omega)
  · rw [len_app, len_app, len_app, len_app, len_app, len_e, l3, l4, l5]; exact szl (by omega)
/-! ### total -/
def spIsList (K : Frag) : Sp := fun vs H Q _ => ∃ a xs, vs = [.ref a] ∧ (H a = some (.lst xs) ∨ H a = some (.tup xs)) ∧ ∀ H2, Same H H2 → Q (.bl true) H2
theorem ok_is_list (T : Tx K mg) : FG P w K mg base CX0 1 (ga K "is_list") (fdOf K (ga K "is_list")) ["value"] (spIsList K) := by
  refine fg_no T.F_is_list sc_is_list (fun vs H Q E h => ?_) (fun cdv A outer s H vs Q E gg hr h => ?_)
  · obtain ⟨a, xs, rfl, _⟩ := h
    rfl
  obtain ⟨a, xs, rfl, ha, k⟩ := h
  refine ⟨_, pss_one (ps_ret (pe_callB call_isiT (by rfl) T.n_isinstance (by decide +kernel) (pa_cons (pv 0) (pa_cons (pe_tup (pa_cons (pe_bltn (v := .ty "list") (by rfl) T.n_list (by decide +kernel) rfl)
    (pa_cons (pe_bltn (v := .ty "tuple") (by rfl) T.n_tuple (by decide +kernel) rfl) pa_nil))) pa_nil)))), ?_⟩
  refine ⟨_, rfl, (by show 2 ≤ sizeLine; decide), fun tp htp => ?_⟩
  have s1 : Same H (upd H tp (.tup [.ty "list", .ty "tuple"])) := fun b o e => by rw [upd_ne (ne_of_none e htp)]; exact e
  rcases ha with ha | ha
  · exact ⟨_, tp, _, _, _, true, rfl, upd_same, .cons (.ty "list") (.cons (.ty "tuple") .nil), .base (.lst (s1 _ _ ha)), by rfl, k _ s1⟩
  · exact ⟨_, tp, _, _, _, true, rfl, upd_same, .cons (.ty "list") (.cons (.ty "tuple") .nil), .base (.tup (s1 _ _ ha)), by rfl, k _ s1⟩
end
end K31

namespace K31
open PySem PySem.Spec PyProof.Rows L2 Own
open PySem.W (Frag)
theorem op_or {X : Cx} {f : Value → Value → Sem Value} {r1 r2 : R2} (h1 : OpR X f r1) (h2 : OpR X f r2) : OpR X f (fun x y H Q => r1 x y H Q ∨ r2 x y H Q) := by
  intro pins s σ H x y v u Q I rx ry h
  rcases h with h | h
  · exact h1 pins s σ H x y v u Q I rx ry h
  · exact h2 pins s σ H x y v u Q I rx ry h
section
variable {P : Program} {w : World} {K : Frag} {mg : Str → Option Value} {base : Heap}
/-- the same at one address -/
theorem mkA {H : Hp} {t b : Int} {x dx : Addr} {Z : Hp → Prop} (nx : H x = none) (ndx : H dx = none) (hb0 : b ≠ 0) (hbs : Sz 8000 b) (q : ∀ H2, Same H H2 → RatAt (CR K) H2 x (nrm t b) → Z H2) :
    spInit K [.ref x, .int t, .int b] (upd (upd H dx (.own x)) x (.ins (CR K) dx [])) (fun v H2 => v = .non ∧ Z H2) E0 :=
  ⟨x, dx, t, b, rfl, upd_same, hb0, hbs, fun H2 R2 kp => ⟨rfl, q H2 (Same.made nx ndx kp) R2⟩⟩
def sumP (qs : List (Int × Int)) : Int × Int := qs.foldl addP (0, 1)
theorem take_more {α : Type} {l : List α} {i : Nat} {x : α} (h : l[i]? = some x) : l.take (i + 1) = l.take i ++ [x] := by
  rw [List.take_succ, h]
  rfl
theorem sumP_more {qs : List (Int × Int)} {i : Nat} {q : Int × Int} (h : qs[i]? = some q) : sumP (qs.take (i + 1)) = addP (sumP (qs.take i)) q := by
  unfold sumP
  rw [take_more h, List.foldl_append]
  rfl
/-- the items of a list of numbers -/
structure NumsAt (C : Addr) (H : Hp) (m : Nat) (xs : List V) (qs : List (Int × Int)) : Prop where
  len : xs.length = qs.length
  at_ : ∀ (i : Nat) (x : V), xs[i]? = some x → ∃ q, qs[i]? = some q ∧ NumV C H x q ∧ OkP m q
theorem NumsAt.same {C : Addr} {H H2 : Hp} {m : Nat} {xs : List V} {qs : List (Int × Int)} (h : NumsAt C H m xs qs) (s : Same H H2) : NumsAt C H2 m xs qs :=
  ⟨h.len, fun i x e => let ⟨q, e1, e2, e3⟩ := h.at_ i x e; ⟨q, e1, e2.same s, e3⟩⟩
theorem okp_le {n m : Nat} {q : Int × Int} (h : OkP n q) (k : n ≤ m) : OkP m q := ⟨h.pos, sz_le h.st k, sz_le h.sb k⟩
end
end K31

namespace K31
open PySem PySem.Spec PyProof.Rows L2 Own
open PySem.W (Frag)
section
variable {P : Program} {w : World} {K : Frag} {mg : Str → Option Value} {base : Heap}
def TupAt (H : Hp) (a : Addr) (q : Int × Int) : Prop := H a = some (.tup [.int q.1, .int q.2])
theorem TupAt.same {H H2 : Hp} {a : Addr} {q : Int × Int} (h : TupAt H a q) (s : Same H H2) : TupAt H2 a q := s _ _ h
theorem Same.put {H : Hp} {p : Addr} {o : HO} (h : H p = none) : Same H (upd H p o) := fun b u e => by rw [upd_ne (ne_of_none e h)]; exact e
abbrev always : Int × Int → Int × Int → Prop := fun _ _ => True
theorem sub_is (x y : Int × Int) : addP x (0 - y.1, y.2) = subP x y := by
  unfold addP subP
  have e : x.1 * y.2 + (0 - y.1) * x.2 = x.1 * y.2 - y.1 * x.2 := by rw [Int.zero_sub, Int.neg_mul]; rfl
  show nrm (x.1 * y.2 + (0 - y.1) * x.2) (x.2 * y.2) = _
  rw [e]
/-- all pairs of a list -/
structure PairsAt (H : Hp) (m : Nat) (xs : List V) (qs : List (Int × Int)) : Prop where
  len : xs.length = qs.length
  at_ : ∀ (i : Nat) (x : V), xs[i]? = some x → ∃ a q, x = .ref a ∧ qs[i]? = some q ∧ TupAt H a q ∧ OkP m q
theorem PairsAt.same {H H2 : Hp} {m : Nat} {xs : List V} {qs : List (Int × Int)} (h : PairsAt H m xs qs) (s : Same H H2) : PairsAt H2 m xs qs :=
  ⟨h.len, fun i x e => let ⟨a, q, e0, e1, e2, e3⟩ := h.at_ i x e; ⟨a, q, e0, e1, e2.same s, e3⟩⟩
end
end K31

namespace K31
open PySem PySem.Spec PyProof.Rows L2 Own
open PySem.W (Frag)
section
variable {P : Program} {w : World} {K : Frag} {mg : Str → Option Value} {base : Heap}
theorem yes_if {σ : L2.St} {H : Hp} {A B : Hp → Prop} (h : A H) : tYes σ H (fun b H3 => if b = true then A H3 else B H3) := by
  show (if true = true then A H else B H)
  rw [if_pos rfl]
  exact h
/-- a list of Ratios -/
structure RatsAt (C : Addr) (H : Hp) (m : Nat) (xs : List V) (qs : List (Int × Int)) : Prop where
  len : xs.length = qs.length
  at_ : ∀ (i : Nat) (x : V), xs[i]? = some x → ∃ a q, x = .ref a ∧ qs[i]? = some q ∧ RatAt C H a q ∧ OkP m q
theorem RatsAt.same {C : Addr} {H H2 : Hp} {m : Nat} {xs : List V} {qs : List (Int × Int)} (h : RatsAt C H m xs qs) (s : Same H H2) : RatsAt C H2 m xs qs :=
  ⟨h.len, fun i x e => let ⟨a, q, e0, e1, e2, e3⟩ := h.at_ i x e; ⟨a, q, e0, e1, e2.same s, e3⟩⟩
theorem PairsAt.more {H : Hp} {m : Nat} {xs : List V} {qs : List (Int × Int)} (h : PairsAt H m xs qs) {a : Addr} {q : Int × Int} (t : TupAt H a q) (o : OkP m q) : PairsAt H m (xs ++ [.ref a]) (qs ++ [q]) := by
  refine ⟨by simp [h.len], fun i x e => ?_⟩
  rcases (by omega : i < xs.length ∨ xs.length ≤ i) with hi | hi
  · rw [List.getElem?_append_left hi] at e
    obtain ⟨b, q2, e0, e1, e2, e3⟩ := h.at_ i x e
    exact ⟨b, q2, e0, by rw [List.getElem?_append_left (by rw [← h.len]; exact hi)]; exact e1, e2, e3⟩
  · rw [List.getElem?_append_right hi] at e
    have hz : i - xs.length = 0 := by
      rcases Nat.eq_zero_or_pos (i - xs.length) with z | z
      · exact z
      · rw [List.getElem?_eq_none_iff.mpr (by simp; omega)] at e
        cases e
    rw [hz] at e
    have e4 : V.ref a = x := Option.some.inj e
    refine ⟨a, q, e4.symm, ?_, t, o⟩
    rw [List.getElem?_append_right (by rw [← h.len]; exact hi), ← h.len, hz]
    rfl
theorem PairsAt.lst {H : Hp} {m : Nat} {xs ys zs : List V} {qs : List (Int × Int)} {D : Addr} (h : PairsAt H m xs qs) (hD : H D = some (.lst ys)) : PairsAt (upd H D (.lst zs)) m xs qs :=
  ⟨h.len, fun i x e => by
    obtain ⟨a, q, e0, e1, e2, e3⟩ := h.at_ i x e
    refine ⟨a, q, e0, e1, ?_, e3⟩
    have hn : a ≠ D := ne_of e2 hD (by intro z; cases z)
    unfold TupAt
    rw [upd_ne hn]
    exact e2⟩
/-- the law's own text of a pair -/
def lshown (q : Int × Int) : Str := if q.2 = 1 then S q.1 else S q.1 ++ ("/" : Str) ++ S q.2
theorem str_ext {x y : Str} (h : x.cps = y.cps) : x = y := by
  cases x
  cases y
  simp at h
  rw [h]
theorem empty_app (x : Str) : Str.empty ++ x = x := by
  apply str_ext
  show (#[] : Array Nat) ++ x.cps = x.cps
  simp
theorem lshown_is (q : Int × Int) : lshown q = shown q := by
  unfold lshown shown
  rw [empty_app]
/-- the raw numbers -/
structure RawP (q : Int × Int) : Prop where
  nz : q.2 ≠ 0
  st : Sz 128 q.1
  sb : Sz 128 q.2
end
end K31

namespace K31
open PySem PySem.Spec PyProof.Rows L2 Own
open PySem.W (Frag)
/-! ### lowest terms -/
theorem nrm_fix {t b : Int} (hb : 0 < b) (hg : Nat.gcd t.natAbs b.natAbs = 1) : nrm t b = (t, b) := by
  unfold nrm
  rw [if_neg (by omega), hg]
  simp
theorem nrm_cop {t b : Int} (h : b ≠ 0) : Nat.gcd (nrm t b).1.natAbs (nrm t b).2.natAbs = 1 := by
  have g0 := gcd_pos' (t := t) h
  obtain ⟨x, hx⟩ := gcd_dvd_t t b
  obtain ⟨y, hy⟩ := gcd_dvd_b t b
  have key : Nat.gcd x.natAbs y.natAbs = 1 := by
    have e1 : t.natAbs = Nat.gcd t.natAbs b.natAbs * x.natAbs := by
      have := congrArg Int.natAbs hx
      rw [Int.natAbs_mul] at this
      simpa using this
    have e2 : b.natAbs = Nat.gcd t.natAbs b.natAbs * y.natAbs := by
      have := congrArg Int.natAbs hy
      rw [Int.natAbs_mul] at this
      simpa using this
    have e3 : Nat.gcd t.natAbs b.natAbs = Nat.gcd t.natAbs b.natAbs * Nat.gcd x.natAbs y.natAbs := by
      rw [← Nat.gcd_mul_left, ← e1, ← e2]
    exact Nat.eq_of_mul_eq_mul_left g0 (by rw [Nat.mul_one]; exact e3.symm)
  generalize hg : ((Nat.gcd t.natAbs b.natAbs : Nat) : Int) = g at hx hy
  have gn : g ≠ 0 := by omega
  unfold nrm
  rw [hg]
  by_cases hb : b < 0
  · rw [if_pos hb]
    have e1 : t.fdiv (-g) = -x := by
      have e : t = (-g) * (-x) := by rw [hx, Int.neg_mul_neg]
      rw [e, Int.mul_fdiv_cancel_left _ (by omega)]
    have e2 : b.fdiv (-g) = -y := by
      have e : b = (-g) * (-y) := by rw [hy, Int.neg_mul_neg]
      rw [e, Int.mul_fdiv_cancel_left _ (by omega)]
    show Nat.gcd (t.fdiv (-g)).natAbs (b.fdiv (-g)).natAbs = 1
    rw [e1, e2, Int.natAbs_neg, Int.natAbs_neg]
    exact key
  · rw [if_neg hb]
    show Nat.gcd (t.fdiv g).natAbs (b.fdiv g).natAbs = 1
    rw [hx, hy, Int.mul_fdiv_cancel_left _ gn, Int.mul_fdiv_cancel_left _ gn]
    exact key
structure Low (q : Int × Int) : Prop where
  pos : 0 < q.2
  cop : Nat.gcd q.1.natAbs q.2.natAbs = 1
theorem nrm_low {t b : Int} (h : b ≠ 0) : Low (nrm t b) := ⟨nrm_pos h, nrm_cop h⟩
theorem neg_low {q : Int × Int} (h : Low q) : negP q = (0 - q.1, q.2) := by
  unfold negP
  rw [nrm_fix h.pos (by rw [Int.natAbs_neg]; exact h.cop), Int.zero_sub]
theorem rsub_low {q : Int × Int} (h : Low q) : subP (0, 1) q = (0 - q.1, q.2) := by
  unfold subP
  have e1 : ((0 : Int), (1 : Int)).1 * q.2 - q.1 * ((0 : Int), (1 : Int)).2 = -q.1 := by
    show 0 * q.2 - q.1 * 1 = -q.1
    rw [Int.zero_mul, Int.mul_one, Int.zero_sub]
  have e2 : ((0 : Int), (1 : Int)).2 * q.2 = q.2 := Int.one_mul _
  rw [e1, e2, nrm_fix h.pos (by rw [Int.natAbs_neg]; exact h.cop), Int.zero_sub]
theorem abs_low {q : Int × Int} (h : Low q) : absP q = ((if q.1 < 0 then -q.1 else q.1), q.2) := by
  unfold absP
  refine nrm_fix h.pos ?_
  have : (if q.1 < 0 then -q.1 else q.1).natAbs = q.1.natAbs := by split <;> omega
  rw [this]
  exact h.cop
section
variable {P : Program} {w : World} {K : Frag} {mg : Str → Option Value} {base : Heap}
/-! ### data of a pair -/
abbrev dP (q : Int × Int) : PyData := .tuple [.int q.1, .int q.2]
theorem dp_pair {H : Hp} {a : Addr} {q : Int × Int} (h : TupAt H a q) : Dp K H (.ref a) (dP q) := .tup (SqT.of h) (.cons (.int _) (.cons (.int _) .nil))
theorem sh_pair (q : Int × Int) : SeqAt.shaped (dP q) = true := by rfl
/-- comparing equal data -/
theorem ne_same {H : Hp} {x y : V} {d : PyData} {Q : VK} (hx : Dp K H x d) (hy : Dp K H y d) (hs : SeqAt.shaped d = true) (q : Q (.bl false) H) : rNeD K x y H Q := by
  refine ⟨d, d, hx, hy, hs, hs, ?_⟩
  rw [SeqAt.eqv_refl _ (SeqAt.canLay_of_shaped hs)]
  exact q
theorem eq_same {H : Hp} {x y : V} {d : PyData} {Q : VK} (hx : Dp K H x d) (hy : Dp K H y d) (hs : SeqAt.shaped d = true) (q : Q (.bl true) H) : rEqD K x y H Q := by
  refine ⟨d, d, hx, hy, hs, hs, ?_⟩
  rw [SeqAt.eqv_refl _ (SeqAt.canLay_of_shaped hs)]
  exact q
end
end K31

set_option Elab.async false
set_option linter.all false
set_option maxRecDepth 100000
set_option maxHeartbeats 4000000
namespace K31
open PySem PySem.Spec PyProof.Rows L2 Own
/-! ### the fractions as rational numbers -/
def pr (r : Rat) : Int × Int := (r.num, r.den)
theorem pr_low (r : Rat) : Low (pr r) := ⟨Int.natCast_pos.mpr (Nat.pos_of_ne_zero r.den_nz), by
  show r.num.natAbs.gcd ((r.den : Int)).natAbs = 1
  rw [Int.natAbs_natCast]
  exact r.reduced⟩
theorem pr_inj {a b : Rat} (h : pr a = pr b) : a = b := by
  unfold pr at h
  injection h with h1 h2
  exact Rat.ext h1 (by omega)
theorem low_pr {q : Int × Int} (h : Low q) : pr (Rat.divInt q.1 q.2) = q := by
  obtain ⟨t, b⟩ := q
  have hp : 0 < b := h.pos
  have hc : t.natAbs.gcd b.natAbs = 1 := h.cop
  have hc2 : t.natAbs.Coprime b.toNat := by
    have e0 : b.toNat = b.natAbs := by omega
    rw [e0]
    exact hc
  have e : Rat.divInt t b = Rat.mk' t b.toNat (by omega) hc2 := by
    rw [Rat.mk_eq_divInt]
    congr 1
    omega
  show pr (Rat.divInt t b) = (t, b)
  rw [e]
  show (t, ((b.toNat : Nat) : Int)) = (t, b)
  congr 1
  omega
theorem dd (r : Rat) : Rat.divInt r.num r.den = r := (Rat.mk_eq_divInt (num := r.num) (den := r.den) (nz := r.den_nz) (c := r.reduced)).symm
theorem nrm_cross {t b : Int} (hb : b ≠ 0) : t * (nrm t b).2 = (nrm t b).1 * b := by
  have g1 : ((Nat.gcd t.natAbs b.natAbs : Nat) : Int) ∣ t := Int.ofNat_dvd_left.mpr (Nat.gcd_dvd_left _ _)
  have g2 : ((Nat.gcd t.natAbs b.natAbs : Nat) : Int) ∣ b := Int.ofNat_dvd_left.mpr (Nat.gcd_dvd_right _ _)
  have key : ∀ g : Int, g ∣ t → g ∣ b → t * (b.fdiv g) = (t.fdiv g) * b := by
    rintro g ⟨x, hx⟩ ⟨y, hy⟩
    have hg : g ≠ 0 := fun z => hb (by rw [hy, z, Int.zero_mul])
    rw [hx, hy, Int.mul_fdiv_cancel_left _ hg, Int.mul_fdiv_cancel_left _ hg]
    rw [Int.mul_comm g x, Int.mul_assoc]
  unfold nrm
  by_cases h : b < 0
  · rw [if_pos h]
    exact key _ (Int.neg_dvd.mpr g1) (Int.neg_dvd.mpr g2)
  · rw [if_neg h]
    exact key _ g1 g2
theorem nrm_pr {t b : Int} (hb : b ≠ 0) : nrm t b = pr (Rat.divInt t b) := by
  have lw := nrm_low (t := t) hb
  have e : Rat.divInt t b = Rat.divInt (nrm t b).1 (nrm t b).2 := by
    rw [Rat.divInt_eq_divInt_iff hb (Int.ne_of_gt lw.pos)]
    exact nrm_cross hb
  rw [e, low_pr lw]
theorem pr_ne (r : Rat) : (r.den : Int) ≠ 0 := by
  have := r.den_nz
  omega
theorem addP_pr (a b : Rat) : addP (pr a) (pr b) = pr (a + b) := by
  unfold addP
  show nrm (a.num * b.den + b.num * a.den) (a.den * b.den) = _
  rw [nrm_pr (Int.mul_ne_zero (pr_ne a) (pr_ne b)), ← Rat.divInt_add_divInt _ _ (pr_ne a) (pr_ne b), dd, dd]
theorem mulP_pr (a b : Rat) : mulP (pr a) (pr b) = pr (a * b) := by
  unfold mulP
  show nrm (a.num * b.num) (a.den * b.den) = _
  rw [nrm_pr (Int.mul_ne_zero (pr_ne a) (pr_ne b)), ← Rat.divInt_mul_divInt, dd, dd]
theorem pr_int (i : Int) : pr (i : Rat) = (i, 1) := rfl
theorem negP_pr (a : Rat) : negP (pr a) = pr (-a) := by
  unfold negP
  show nrm (-a.num) a.den = _
  rw [nrm_pr (pr_ne a), ← Rat.neg_divInt, dd]
theorem subP_pr (a b : Rat) : subP (pr a) (pr b) = pr (a - b) := by
  unfold subP
  show nrm (a.num * b.den - b.num * a.den) (a.den * b.den) = _
  rw [nrm_pr (Int.mul_ne_zero (pr_ne a) (pr_ne b)), ← Rat.divInt_sub_divInt _ _ (pr_ne a) (pr_ne b), dd, dd]
end K31

set_option Elab.async false
set_option linter.all false
set_option maxRecDepth 100000
set_option maxHeartbeats 4000000
namespace K31
open PySem PySem.Spec PyProof.Rows L2 Own
open PySem.W (Frag)
section
variable {P : Program} {w : World} {K : Frag} {mg : Str → Option Value} {base : Heap}
/-- a list of Ratios, told by rational numbers -/
structure LnAt (C : Addr) (H : Hp) (m : Nat) (xs : List V) (L : List Rat) : Prop where
  len : xs.length = L.length
  at_ : ∀ (i : Nat) (x : V), xs[i]? = some x → ∃ a q, x = .ref a ∧ L[i]? = some q ∧ RatAt C H a (pr q) ∧ OkP m (pr q)
theorem RatAt.lst {C : Addr} {H : Hp} {a l : Addr} {q : Int × Int} {xs ys : List V} (h : RatAt C H a q) (hl : H l = some (.lst xs)) : RatAt C (upd H l (.lst ys)) a q := by
  obtain ⟨dx, e⟩ := h
  exact ⟨dx, by rw [upd_ne (ne_of e hl (by intro z; cases z))]; exact e⟩
theorem Same.lst {H0 H : Hp} {l : Addr} {ys : List V} (s : Same H0 H) (h0 : H0 l = none) : Same H0 (upd H l (.lst ys)) := fun c o e => by
  rw [upd_ne (fun z => by rw [z, h0] at e; cases e)]
  exact s c o e
theorem LnAt.nil {C : Addr} {H : Hp} {m : Nat} : LnAt C H m [] [] := ⟨rfl, fun i x e => by simp at e⟩
theorem LnAt.same {C : Addr} {H H2 : Hp} {m : Nat} {xs : List V} {L : List Rat} (h : LnAt C H m xs L) (s : Same H H2) : LnAt C H2 m xs L :=
  ⟨h.len, fun i x e => let ⟨a, q, e0, e1, e2, e3⟩ := h.at_ i x e; ⟨a, q, e0, e1, e2.same s, e3⟩⟩
theorem LnAt.updl {C : Addr} {H : Hp} {m : Nat} {xs ys zs : List V} {L : List Rat} {D : Addr} (h : LnAt C H m xs L) (hD : H D = some (.lst ys)) : LnAt C (upd H D (.lst zs)) m xs L :=
  ⟨h.len, fun i x e => let ⟨a, q, e0, e1, e2, e3⟩ := h.at_ i x e; ⟨a, q, e0, e1, e2.lst hD, e3⟩⟩
theorem LnAt.le {C : Addr} {H : Hp} {m n : Nat} {xs : List V} {L : List Rat} (h : LnAt C H m xs L) (k : m ≤ n) : LnAt C H n xs L :=
  ⟨h.len, fun i x e => let ⟨a, q, e0, e1, e2, e3⟩ := h.at_ i x e; ⟨a, q, e0, e1, e2, okp_le e3 k⟩⟩
theorem LnAt.more {C : Addr} {H : Hp} {m : Nat} {xs : List V} {L : List Rat} (h : LnAt C H m xs L) {a : Addr} {q : Rat} (t : RatAt C H a (pr q)) (o : OkP m (pr q)) : LnAt C H m (xs ++ [.ref a]) (L ++ [q]) := by
  refine ⟨by simp [h.len], fun i x e => ?_⟩
  rcases (by omega : i < xs.length ∨ xs.length ≤ i) with hi | hi
  · rw [List.getElem?_append_left hi] at e
    obtain ⟨b, q2, e0, e1, e2, e3⟩ := h.at_ i x e
    exact ⟨b, q2, e0, by rw [List.getElem?_append_left (by rw [← h.len]; exact hi)]; exact e1, e2, e3⟩
  · rw [List.getElem?_append_right hi] at e
    have hz : i - xs.length = 0 := by
      rcases Nat.eq_zero_or_pos (i - xs.length) with z | z
      · exact z
      · rw [List.getElem?_eq_none_iff.mpr (by simp; omega)] at e
        cases e
    rw [hz] at e
    refine ⟨a, q, (Option.some.inj e).symm, ?_, t, o⟩
    rw [List.getElem?_append_right (by rw [← h.len]; exact hi), ← h.len, hz]
    rfl
theorem LnAt.get {C : Addr} {H : Hp} {m : Nat} {xs : List V} {L : List Rat} (h : LnAt C H m xs L) {i : Nat} {q : Rat} (e : L[i]? = some q) : ∃ a, xs[i]? = some (.ref a) ∧ RatAt C H a (pr q) ∧ OkP m (pr q) := by
  have hi : i < xs.length := by rw [h.len]; exact (List.getElem?_eq_some_iff.mp e).1
  obtain ⟨a, q2, e0, e1, e2, e3⟩ := h.at_ i _ (List.getElem?_eq_getElem hi)
  rw [e] at e1
  cases e1
  exact ⟨a, by rw [List.getElem?_eq_getElem hi, e0], e2, e3⟩
theorem LnAt.take {C : Addr} {H : Hp} {m : Nat} {xs : List V} {L : List Rat} (h : LnAt C H m xs L) (n : Nat) : LnAt C H m (xs.take n) (L.take n) := by
  refine ⟨by simp [h.len], fun i x e => ?_⟩
  rw [List.getElem?_take] at e
  by_cases hi : i < n
  · rw [if_pos hi] at e
    obtain ⟨a, q, e0, e1, e2, e3⟩ := h.at_ i x e
    exact ⟨a, q, e0, by rw [List.getElem?_take, if_pos hi]; exact e1, e2, e3⟩
  · rw [if_neg hi] at e
    cases e
/-- what is passed as a line: INTEGERS and Ratios, a list or a tuple -/
structure NmAt (C : Addr) (H : Hp) (m : Nat) (xs : List V) (L : List Rat) : Prop where
  len : xs.length = L.length
  at_ : ∀ (i : Nat) (x : V), xs[i]? = some x → ∃ q, L[i]? = some q ∧ NumV C H x (pr q) ∧ OkP m (pr q)
theorem NmAt.same {C : Addr} {H H2 : Hp} {m : Nat} {xs : List V} {L : List Rat} (h : NmAt C H m xs L) (s : Same H H2) : NmAt C H2 m xs L :=
  ⟨h.len, fun i x e => let ⟨q, e1, e2, e3⟩ := h.at_ i x e; ⟨q, e1, e2.same s, e3⟩⟩
theorem LnAt.nums {C : Addr} {H : Hp} {m : Nat} {xs : List V} {L : List Rat} (h : LnAt C H m xs L) : NmAt C H m xs L := ⟨h.len, fun i x e => let ⟨a, q, e0, e1, e2, e3⟩ := h.at_ i x e; ⟨q, e1, .inr ⟨a, e0, e2⟩, e3⟩⟩
theorem NumK.of (T : Tx K mg) {H : Hp} {x : V} {q : Int × Int} (h : NumV (CR K) H x q) : NumK K H x true := by
  rcases h with ⟨i, rfl, _⟩ | ⟨a, rfl, R⟩
  · exact ⟨true, IntK.int i, fun _ => rfl, fun z => nomatch z⟩
  · obtain ⟨dx, e⟩ := id R
    exact ⟨false, IntK.rat T R, (fun z => nomatch z), fun _ => ⟨_, T.is_Ratio.ty T.cl_Ratio e, T.kk_Ratio⟩⟩
def SeqAt1 (H : Hp) (a : Addr) (xs : List V) : Prop := H a = some (.lst xs) ∨ H a = some (.tup xs)
theorem SeqAt1.same {H H2 : Hp} {a : Addr} {xs : List V} (h : SeqAt1 H a xs) (s : Same H H2) : SeqAt1 H2 a xs := h.imp (s _ _) (s _ _)
theorem pe_gint {X : Cx} {x : Str} {i : Int} {pos : Pos} (g : Gl X x) (h : ∃ t, X.mg x = some (.int i t)) (hd : (x == ("__debug__" : Str)) = false := by rfl) : PE X (.Name x pos) (tC (.int i)) := by
  obtain ⟨t, e⟩ := h
  exact pe_glob (v := .int i) g e ⟨t, rfl⟩ hd
def spNums (K : Frag) : Sp := fun vs H Q _ => ∃ a xs L m lo hi, vs = [.ref a, .int lo, .int hi] ∧ SeqAt1 H a xs ∧ NmAt (CR K) H m xs L ∧ lo ≤ (L.length : Int) ∧ (L.length : Int) ≤ hi ∧ L.length ≤ 100 ∧ m ≤ 7000 ∧
  ∀ l ys H2, H l = none → Same H H2 → H2 l = some (.lst ys) → LnAt (CR K) H2 m ys L → Q (.ref l) H2
theorem ok_numbers_from (T : Tx K mg) : FG P w K mg base CX0 5 (ga K "numbers_from") (fdOf K (ga K "numbers_from")) ["value", "least", "most"] (spNums K) := by
  refine fg_no T.F_numbers_from sc_numbers_from (fun vs H Q E h => ?_) (fun cdv A outer s H vs Q E gg hr h => ?_)
  · obtain ⟨a, xs, L, m, lo, hi, rfl, _⟩ := h
    rfl
  obtain ⟨a, xs, L, m, lo, hi, rfl, hs, N, h1, h2, h3, hm, k⟩ := h
  rcases hs with ha | ha
  · skip
    refine ⟨_, pss_cons (ps_if (PW.pt (pw_or (pt_not (pt_val (pe_fn (ok_is_list T) gg (hr.mono (by decide)) rfl T.g_is_list T.F_is_list.kp (b_is_list T) .nil pass0 (pa_cons (pv 0) pa_nil)))) (pw_or1 (pt_not (pt_chain op_le op_le (pv 1) (pe_callB call_len (by rfl) T.n_len PySem.boot_len (pa_cons (pv 0) pa_nil)) (pv 2)))))) (pss_one (ps_ret pe_non)) pss_nil)
    (pss_cons (ps_for PassesOwn.never rfl (pi_list (pv 0)) (pg_name (i := 3) sc_numbers_from.nd rfl (Or.inl rfl)) (pss_one (ps_if (pt_not (pt_val (pe_fn (ok_is_number T) gg (hr.mono (by decide)) rfl T.g_is_number T.F_is_number.kp (b_is_number T) .nil pass0 (pa_cons (pv 3) pa_nil)))) (pss_one (ps_ret pe_non)) pss_nil)))
    (pss_one (ps_ret (pe_lc (own := [("number", 3)]) (g := gName 3) (tt := tYes) (by rfl) sc_numbers_from.nd (pi_list (pv 0)) (blkOk_by (N := ["value", "least", "most", "number"]) (sc := defScope s_numbers_from) (by decide +kernel)) (fun _ _ _ _ _ => pg_name (i := 3) sc_numbers_from.nd rfl (Or.inl rfl)) (fun _ _ _ _ _ => pts_nil) (fun _ _ _ _ _ => (pe_fn (ok_as_ratio T) gg (hr.mono (by decide)) rfl T.g_as_ratio T.F_as_ratio.kp (b_as_ratio T) .nil pass0 (pa_cons (pv 3) pa_nil))))))), ?_⟩
    refine ⟨_, rfl, a, xs, rfl, .inl ha, fun H2 s2 => ⟨_, rfl, ?_⟩⟩
    refine iteF ?_
    have ha2 := s2 _ _ ha
    refine ⟨_, rfl, _, rfl, _, _, rfl, .inl ⟨_, SqL.of ha2, rfl⟩, _, _, rfl, rfl, _, rfl, ?_⟩
    have e1 : decide (lo ≤ ((xs.length : Nat) : Int)) = true := decide_eq_true (by rw [N.len]; exact h1)
    have e2 : decide (((xs.length : Nat) : Int) ≤ hi) = true := decide_eq_true (by rw [N.len]; exact h2)
    rw [e1]
    refine iteT ?_
    refine ⟨_, rfl, _, _, rfl, rfl, _, rfl, ?_⟩
    rw [e2]
    refine iteF ?_
    refine ⟨_, rfl, a, rfl, ⟨_, SqL.of ha2⟩, for_list (K := K) (a := a) (xs := xs) (fun i σ H3 => ∃ v, σ = [some (.ref a), some (.int lo), some (.int hi), v] ∧ H3 = H2)
      ⟨none, rfl, rfl⟩ (fun i σ H3 _ ⟨_, _, e⟩ => e ▸ SqL.of ha2) ?_ ?_⟩
    · rintro i x σ H3 hx ⟨v, rfl, rfl⟩
      obtain ⟨q, hq, nv, oq⟩ := N.at_ i x hx
      refine ⟨_, rfl, x, true, rfl, NumK.of T (nv.same s2), _, rfl, ?_⟩
      exact iteF ⟨_, rfl, rfl⟩
    · rintro σ H3 ⟨v, rfl, rfl⟩
      refine ⟨_, rfl, a, rfl, ⟨_, SqL.of ha2⟩, fun D hD => lc_list (K := K) (a := a) (xs := xs) (fun i H4 => ∃ ys, H4 D = some (.lst ys) ∧ Same H H4 ∧ LnAt (CR K) H4 m ys (L.take i) ∧ ys.length = i)
        ⟨[], upd_same, Same.lst s2 (s2.free hD), LnAt.nil, rfl⟩ (fun i H4 _ ⟨_, _, s4, _⟩ => SqL.of (s4 _ _ ha)) ?_ ?_⟩
      · rintro i x H4 hx ⟨ys, hd, s4, M, hl⟩
        obtain ⟨q, hq, nv, oq⟩ := N.at_ i x hx
        have hi : i < xs.length := (List.getElem?_eq_some_iff.mp hx).1
        refine ⟨rfl, ?_⟩
        refine yes_if ?_
        refine ⟨_, rfl, x, _, rfl, nv.same s4, fun r H5 s5 R5 => ?_⟩
        have hd5 := s5 _ _ hd
        refine ⟨ys, hd5, Nat.lt_of_lt_of_le (by have := N.len; omega : ys.length < 1000) (szl (by omega)), ys ++ [.ref r], upd_same, Same.lst (s4.trans s5) (s2.free hD), ?_, by simp [hl]⟩
        rw [take_more hq]
        exact ((M.same s5).more R5 oq).updl hd5
      · rintro H4 ⟨ys, hd, s4, M, hl⟩
        rw [N.len, List.take_length] at M
        exact k D ys H4 (s2.free hD) s4 hd M
  · skip
    refine ⟨_, pss_cons (ps_if (PW.pt (pw_or (pt_not (pt_val (pe_fn (ok_is_list T) gg (hr.mono (by decide)) rfl T.g_is_list T.F_is_list.kp (b_is_list T) .nil pass0 (pa_cons (pv 0) pa_nil)))) (pw_or1 (pt_not (pt_chain op_le op_le (pv 1) (pe_callB call_len (by rfl) T.n_len PySem.boot_len (pa_cons (pv 0) pa_nil)) (pv 2)))))) (pss_one (ps_ret pe_non)) pss_nil)
    (pss_cons (ps_for PassesOwn.never rfl (pi_tup (pv 0)) (pg_name (i := 3) sc_numbers_from.nd rfl (Or.inl rfl)) (pss_one (ps_if (pt_not (pt_val (pe_fn (ok_is_number T) gg (hr.mono (by decide)) rfl T.g_is_number T.F_is_number.kp (b_is_number T) .nil pass0 (pa_cons (pv 3) pa_nil)))) (pss_one (ps_ret pe_non)) pss_nil)))
    (pss_one (ps_ret (pe_lc (own := [("number", 3)]) (g := gName 3) (tt := tYes) (by rfl) sc_numbers_from.nd (pi_tup (pv 0)) (blkOk_by (N := ["value", "least", "most", "number"]) (sc := defScope s_numbers_from) (by decide +kernel)) (fun _ _ _ _ _ => pg_name (i := 3) sc_numbers_from.nd rfl (Or.inl rfl)) (fun _ _ _ _ _ => pts_nil) (fun _ _ _ _ _ => (pe_fn (ok_as_ratio T) gg (hr.mono (by decide)) rfl T.g_as_ratio T.F_as_ratio.kp (b_as_ratio T) .nil pass0 (pa_cons (pv 3) pa_nil))))))), ?_⟩
    refine ⟨_, rfl, a, xs, rfl, .inr ha, fun H2 s2 => ⟨_, rfl, ?_⟩⟩
    refine iteF ?_
    have ha2 := s2 _ _ ha
    refine ⟨_, rfl, _, rfl, _, _, rfl, .inr ⟨_, SqT.of ha2, rfl⟩, _, _, rfl, rfl, _, rfl, ?_⟩
    have e1 : decide (lo ≤ ((xs.length : Nat) : Int)) = true := decide_eq_true (by rw [N.len]; exact h1)
    have e2 : decide (((xs.length : Nat) : Int) ≤ hi) = true := decide_eq_true (by rw [N.len]; exact h2)
    rw [e1]
    refine iteT ?_
    refine ⟨_, rfl, _, _, rfl, rfl, _, rfl, ?_⟩
    rw [e2]
    refine iteF ?_
    refine ⟨_, rfl, a, rfl, ⟨_, SqT.of ha2⟩, for_tup (K := K) (a := a) (xs := xs) (fun i σ H3 => ∃ v, σ = [some (.ref a), some (.int lo), some (.int hi), v] ∧ H3 = H2)
      ⟨none, rfl, rfl⟩ (fun i σ H3 _ ⟨_, _, e⟩ => e ▸ SqT.of ha2) ?_ ?_⟩
    · rintro i x σ H3 hx ⟨v, rfl, rfl⟩
      obtain ⟨q, hq, nv, oq⟩ := N.at_ i x hx
      refine ⟨_, rfl, x, true, rfl, NumK.of T (nv.same s2), _, rfl, ?_⟩
      exact iteF ⟨_, rfl, rfl⟩
    · rintro σ H3 ⟨v, rfl, rfl⟩
      refine ⟨_, rfl, a, rfl, ⟨_, SqT.of ha2⟩, fun D hD => lc_tup (K := K) (a := a) (xs := xs) (fun i H4 => ∃ ys, H4 D = some (.lst ys) ∧ Same H H4 ∧ LnAt (CR K) H4 m ys (L.take i) ∧ ys.length = i)
        ⟨[], upd_same, Same.lst s2 (s2.free hD), LnAt.nil, rfl⟩ (fun i H4 _ ⟨_, _, s4, _⟩ => SqT.of (s4 _ _ ha)) ?_ ?_⟩
      · rintro i x H4 hx ⟨ys, hd, s4, M, hl⟩
        obtain ⟨q, hq, nv, oq⟩ := N.at_ i x hx
        have hi : i < xs.length := (List.getElem?_eq_some_iff.mp hx).1
        refine ⟨rfl, ?_⟩
        refine yes_if ?_
        refine ⟨_, rfl, x, _, rfl, nv.same s4, fun r H5 s5 R5 => ?_⟩
        have hd5 := s5 _ _ hd
        refine ⟨ys, hd5, Nat.lt_of_lt_of_le (by have := N.len; omega : ys.length < 1000) (szl (by omega)), ys ++ [.ref r], upd_same, Same.lst (s4.trans s5) (s2.free hD), ?_, by simp [hl]⟩
        rw [take_more hq]
        exact ((M.same s5).more R5 oq).updl hd5
      · rintro H4 ⟨ys, hd, s4, M, hl⟩
        rw [N.len, List.take_length] at M
        exact k D ys H4 (s2.free hD) s4 hd M
/-! ### readings are monotone -/
def MoE (t : TE) : Prop := ∀ (σ : L2.St) (H : Hp) (Q Q' : VK), (∀ v H1, Q v H1 → Q' v H1) → t σ H Q → t σ H Q'
def MoT (t : TT) : Prop := ∀ (σ : L2.St) (H : Hp) (Q Q' : Bool → Hp → Prop), (∀ v H1, Q v H1 → Q' v H1) → t σ H Q → t σ H Q'
def MoR (r : R2) : Prop := ∀ x y (H : Hp) (Q Q' : VK), (∀ v H1, Q v H1 → Q' v H1) → r x y H Q → r x y H Q'
theorem mo_var {i : Nat} : MoE (tVar i) := fun σ H Q Q' h ⟨v, e, q⟩ => ⟨v, e, h _ _ q⟩
theorem mo_c {v : V} : MoE (tC v) := fun σ H Q Q' h q => h _ _ q
theorem mo_op {r : R2} {a b : TE} (hr : MoR r) (ha : MoE a) (hb : MoE b) : MoE (tOp r a b) := fun σ H Q Q' h q => ha σ H _ _ (fun x H1 q1 => hb σ H1 _ _ (fun y H2 q2 => hr _ _ _ _ _ h q2) q1) q
theorem mo_test {t : TE} (ht : MoE t) : MoT (tTest t) := fun σ H Q Q' h q => ht σ H _ _ (fun x H1 ⟨k, e, q1⟩ => ⟨k, e, h _ _ q1⟩) q
theorem mo_and {a b : TT} (ha : MoT a) (hb : MoT b) : MoT (tAnd a b) := fun σ H Q Q' h q => ha σ H _ _ (fun c H1 q1 => by
  cases c with
  | true => exact hb σ H1 _ _ h q1
  | false => exact h _ _ q1) q
theorem mo_rI0 {g : Int → Int → V} : MoR (rI0 g) := fun x y H Q Q' h ⟨i, j, e1, e2, q⟩ => ⟨i, j, e1, e2, h _ _ q⟩
theorem mo_eq : MoR L2.rEq := fun x y H Q Q' h ⟨e, q⟩ => ⟨e, h _ _ q⟩
theorem mo_or {r1 r2 : R2} (a : MoR r1) (b : MoR r2) : MoR fun x y H Q => r1 x y H Q ∨ r2 x y H Q := fun x y H Q Q' h q => q.imp (a _ _ _ _ _ h) (b _ _ _ _ _ h)
theorem mo_neD {K : Frag} : MoR (rNeD K) := fun x y H Q Q' h ⟨d, e, h1, h2, h3, h4, q⟩ => ⟨d, e, h1, h2, h3, h4, h _ _ q⟩
theorem mo_len {c : Bool} : MoR (rLen c) := fun x y H Q Q' h ⟨a, b, xs, ys, h1, h2, h3, h4, h5, q⟩ => ⟨a, b, xs, ys, h1, h2, h3, h4, h5, h _ _ q⟩
theorem mo_ixL {K : Frag} : MoR (rIxL K) := fun x y H Q Q' h ⟨p, xs, i, v, h1, h2, h3, h4, q⟩ => ⟨p, xs, i, v, h1, h2, h3, h4, h _ _ q⟩
theorem mo_lst {t : TA} (ht : ∀ (σ : L2.St) (H : Hp) (Q Q' : List V → Hp → Prop), (∀ v H1, Q v H1 → Q' v H1) → t σ H Q → t σ H Q') : MoE (tLst t) := fun σ H Q Q' h q => ht σ H _ _ (fun xs H1 ⟨l, k⟩ => ⟨l, fun p hp => h _ _ (k p hp)⟩) q
theorem mo_nil : ∀ (σ : L2.St) (H : Hp) (Q Q' : List V → Hp → Prop), (∀ v H1, Q v H1 → Q' v H1) → tNil σ H Q → tNil σ H Q' := fun σ H Q Q' h q => h _ _ q
theorem mo_prop {C : Addr} {sp : Sp} {E : XK} {t : TE} (hs : ∀ vs (H : Hp) (Q Q' : VK), (∀ v H1, Q v H1 → Q' v H1) → sp vs H Q E → sp vs H Q' E) (ht : MoE t) : MoE (tProp C sp [] E t) := fun σ H Q Q' h q =>
  ht σ H _ _ (fun x H1 q1 => by
    obtain ⟨a, dx, fs, e, ha, q2⟩ := q1
    exact ⟨a, dx, fs, e, ha, hs _ _ _ _ h q2⟩) q
theorem mo_sign {vs : List V} {H : Hp} {Q Q' : VK} {E : XK} (h : ∀ v H1, Q v H1 → Q' v H1) (q : spSign K vs H Q E) : spSign K vs H Q' E := by
  obtain ⟨a, z, h1, h2, q⟩ := q
  exact ⟨a, z, h1, h2, h _ _ q⟩
/-! ### told lines -/
def trimN (L : List Rat) : Nat → Nat
  | 0 => 0
  | n + 1 => if L[n]? = some 0 then trimN L n else n + 1
def trim (L : List Rat) : List Rat := L.take (trimN L L.length)
theorem trimN_le (L : List Rat) : ∀ n, trimN L n ≤ n
  | 0 => Nat.le_refl _
  | n + 1 => by
    unfold trimN
    split
    · have := trimN_le L n
      omega
    · omega
theorem sgn_zero {q : Rat} : sgn (pr q).1 = 0 ↔ q = 0 := by
  have e : (pr q).1 = q.num := rfl
  rw [e]
  unfold sgn
  constructor
  · intro h
    split at h
    · rename_i z
      exact Rat.num_eq_zero.mp z
    · split at h <;> omega
  · rintro rfl
    rfl
def spLine (K : Frag) (f : List Rat → List Rat) : Sp := fun vs H Q _ => ∃ a xs L m, vs = [.ref a] ∧ SeqAt1 H a xs ∧ NmAt (CR K) H m xs L ∧ L.length ≤ 17 ∧ m ≤ 7000 ∧
  ∀ l ys H2, H l = none → Same H H2 → H2 l = some (.lst ys) → LnAt (CR K) H2 m ys (f L) → Q (.ref l) H2
theorem spLine_len {f : List Rat → List Rat} {vs : List V} {H : Hp} {Q : VK} {E : XK} (h : spLine K f vs H Q E) : vs.length = 1 := by
  obtain ⟨a, xs, L, m, rfl, _⟩ := h
  rfl
theorem ok_line_from (T : Tx K mg) : FG P w K mg base CX0 6 (ga K "line_from") (fdOf K (ga K "line_from")) ["value"] (spLine K id) := by
  refine fg_no T.F_line_from sc_line_from (fun vs H Q E h => spLine_len h) (fun cdv A outer s H vs Q E gg hr h => ?_)
  obtain ⟨a, xs, L, m, rfl, hs, N, h1, hm, k⟩ := h
  refine ⟨_, pss_one (ps_ret (pe_fn (ok_numbers_from T) gg hr rfl T.g_numbers_from T.F_numbers_from.kp (b_numbers_from T) .nil pass0 (pa_cons (pv 0) (pa_cons pe_int (pa_cons (pe_gint rfl T.v_MOST_NUMBERS) pa_nil))))), ?_⟩
  exact ⟨_, rfl, a, xs, L, m, 0, 17, rfl, hs, N, by omega, by omega, by omega, hm, k⟩
theorem ok_need_line (T : Tx K mg) : FG P w K mg base CX0 7 (ga K "need_line") (fdOf K (ga K "need_line")) ["value"] (spLine K id) := by
  refine fg_no T.F_need_line sc_need_line (fun vs H Q E h => spLine_len h) (fun cdv A outer s H vs Q E gg hr h => ?_)
  obtain ⟨a, xs, L, m, rfl, hs, N, h1, hm, k⟩ := h
  refine ⟨_, pss_cons (ps_set (i := 1) sc_need_line.nd rfl (Or.inl rfl) (pe_fn (ok_line_from T) gg hr rfl T.g_line_from T.F_line_from.kp (b_line_from T) .nil pass0 (pa_cons (pv 0) pa_nil)))
    (pss_cons (ps_if (pt_cmpR op_isN (pv 1) pe_non (nomark _)) (pss_one ps_never) pss_nil) (pss_one (ps_ret (pv 1)))), ?_⟩
  refine ⟨_, rfl, a, xs, L, m, rfl, hs, N, h1, hm, fun l ys H2 hl s2 h2 M => ?_⟩
  refine ⟨_, rfl, rfl, _, rfl, ?_⟩
  refine iteF ?_
  exact ⟨_, rfl, k l ys H2 hl s2 h2 M⟩
theorem cutV_take (xs : List V) (n : Nat) (h : n ≤ xs.length) : cutV xs none (some (n : Int)) = xs.take n := by
  unfold cutV
  have e1 : HT.sIx xs.length 0 none = 0 := rfl
  have e2 : HT.sIx xs.length xs.length (some (n : Int)) = n := by
    unfold HT.sIx
    simp
    split <;> omega
  rw [e1, e2]
  simp
def spTrim (K : Frag) : Sp := fun vs H Q _ => ∃ a xs L m, vs = [.ref a] ∧ H a = some (.lst xs) ∧ LnAt (CR K) H m xs L ∧ L.length ≤ 100 ∧
  ∀ l ys H2, H l = none → Same H H2 → H2 l = some (.lst ys) → LnAt (CR K) H2 m ys (trim L) → Q (.ref l) H2
theorem ok_trimmed (T : Tx K mg) : FG P w K mg base CX0 3 (ga K "trimmed") (fdOf K (ga K "trimmed")) ["numbers"] (spTrim K) := by
  refine fg_no T.F_trimmed sc_trimmed (fun vs H Q E h => ?_) (fun cdv A outer s H vs Q E gg hr h => ?_)
  · obtain ⟨a, xs, L, m, rfl, _⟩ := h
    rfl
  obtain ⟨a, xs, L, m, rfl, ha, M, hl, k⟩ := h
  refine ⟨_, pss_cons (ps_set (i := 1) sc_trimmed.nd rfl (Or.inl rfl) (pe_callB call_len (by rfl) T.n_len PySem.boot_len (pa_cons (pv 0) pa_nil)))
    (pss_cons (ps_while PassesOwn.never (PW.pt (pw_and (pt_cmpR op_gt (pv 1) pe_int (nomark _)) (pw_and1 (pt_cmpR op_eq (pe_pr (pe_ix ix_list (pv 0) (pe_op op_sub (pv 1) pe_int) (fun _ _ => rfl)) T.cl_Ratio T.p_sign (ok_sign T) gg (hr.mono (by decide)) (b_Ratio_sign T) .nil pass0) pe_int (nomark _)))))
      (pss_one (ps_aug (i := 1) sc_trimmed.nd rfl (.inl rfl) pe_int ip_sub)))
    (pss_one (ps_ret (pe_slice sl_list (pv 0) po_none (po_some (pv 1)))))), ?_⟩
  refine ⟨_, rfl, _, _, rfl, .inl ⟨_, SqL.of ha, rfl⟩, ?_⟩
  refine while_by (fun σ H2 => ∃ n : Nat, σ = [some (.ref a), some (.int (n : Int))] ∧ H2 = H ∧ n ≤ L.length ∧ trimN L n = trimN L L.length)
    (fun (σ : L2.St) _ => match σ[1]? with | some (some (V.int y)) => y.toNat | _ => 0) ⟨xs.length, rfl, rfl, by rw [M.len]; omega, by rw [M.len]⟩ ?_ ?_
  · rintro σ H2 ⟨n, rfl, rfl, hn, ht⟩
    have hxl := M.len
    have fin : trimN L L.length = n → ∀ p, H2 p = none → Q (.ref p) (upd H2 p (.lst (cutV xs none (some (n : Int))))) := by
      intro e p hp
      refine k p _ _ hp (Same.put hp) upd_same ?_
      rw [cutV_take _ _ (by omega)]
      have : trim L = L.take n := by unfold trim; rw [e]
      rw [this]
      exact (M.take n).same (Same.put hp)
    refine ⟨_, rfl, _, _, rfl, rfl, _, rfl, ?_⟩
    refine ite2 (fun z => ?_) (fun z => ?_)
    · have n0 : (0 : Int) < n := of_decide_eq_true z
      obtain ⟨m', rfl⟩ : ∃ m', n = m' + 1 := ⟨n - 1, by omega⟩
      have hL : L[m']? = some L[m'] := List.getElem?_eq_getElem (by omega)
      obtain ⟨b, hx, R, o⟩ := M.get hL
      obtain ⟨dx, e⟩ := id R
      refine ⟨_, rfl, _, rfl, _, _, rfl, rfl, a, xs, _, .ref b, rfl, rfl, SqL.of ha, at_of (j := m') (by omega) hx, b, dx, _, rfl, e, b, _, rfl, R, rfl, _, rfl, ?_⟩
      refine ite2 (fun z2 => ?_) (fun z2 => ?_)
      · have q0 : L[m'] = 0 := sgn_zero.mp (by simpa using z2)
        have e1 : (((m' + 1 : Nat) : Int) - 1) = (m' : Int) := by omega
        refine ⟨_, rfl, _, _, rfl, rfl, ⟨m', ?_, rfl, by omega, ?_⟩, ?_⟩
        · rw [← e1]
          rfl
        · rw [← ht]
          show _ = (if L[m']? = some 0 then trimN L m' else m' + 1)
          rw [hL, q0, if_pos rfl]
        · show (((m' + 1 : Nat) : Int) - 1).toNat < ((m' + 1 : Nat) : Int).toNat
          omega
      · have q0 : ¬ L[m'] = 0 := fun e => z2 (by rw [e]; rfl)
        have e2 : trimN L L.length = m' + 1 := by
          rw [← ht]
          show (if L[m']? = some 0 then trimN L m' else m' + 1) = _
          rw [hL, if_neg (fun e => q0 (Option.some.inj e))]
        exact ⟨_, rfl, _, rfl, _, rfl, a, xs, rfl, SqL.of ha, fun p hp => fin e2 p hp⟩
    · have n0 : n = 0 := by
        have : ¬ (0 : Int) < n := fun q => z (decide_eq_true q)
        omega
      subst n0
      exact ⟨_, rfl, _, rfl, _, rfl, a, xs, rfl, SqL.of ha, fun p hp => fin (by rw [← ht]; rfl) p hp⟩
  · exact mo_and (mo_test (mo_op mo_rI0 mo_var mo_c)) (mo_test (mo_op mo_eq (mo_prop (fun vs H Q Q' h q => mo_sign h q) (mo_op mo_ixL mo_var (mo_op mo_rI0 mo_var mo_c))) mo_c))

theorem ok_told (T : Tx K mg) : FG P w K mg base CX0 8 (ga K "told") (fdOf K (ga K "told")) ["line"] (spLine K trim) := by
  refine fg_no T.F_told sc_told (fun vs H Q E h => spLine_len h) (fun cdv A outer s H vs Q E gg hr h => ?_)
  obtain ⟨a, xs, L, m, rfl, hs, N, h1, hm, k⟩ := h
  refine ⟨_, pss_one (ps_ret (pe_fn (ok_trimmed T) gg (hr.mono (by decide)) rfl T.g_trimmed T.F_trimmed.kp (b_trimmed T) .nil pass0
    (pa_cons (pe_fn (ok_need_line T) gg hr rfl T.g_need_line T.F_need_line.kp (b_need_line T) .nil pass0 (pa_cons (pv 0) pa_nil)) pa_nil))), ?_⟩
  refine ⟨_, rfl, a, xs, L, m, rfl, hs, N, h1, hm, fun l ys H2 hl s2 h2 M => ?_⟩
  exact ⟨l, ys, L, m, rfl, h2, M, by omega, fun l' ys' H3 hl' s3 h3 M' => k l' ys' H3 (s2.free hl') (s2.trans s3) h3 M'⟩
theorem ok_is_line (T : Tx K mg) : FG P w K mg base CX0 7 (ga K "is_line") (fdOf K (ga K "is_line")) ["value"] (fun vs H Q _ => ∃ a xs L m, vs = [.ref a] ∧ SeqAt1 H a xs ∧ NmAt (CR K) H m xs L ∧ L.length ≤ 17 ∧ m ≤ 7000 ∧ ∀ H2, Same H H2 → Q (.bl true) H2) := by
  refine fg_no T.F_is_line sc_is_line (fun vs H Q E h => ?_) (fun cdv A outer s H vs Q E gg hr h => ?_)
  · obtain ⟨a, xs, L, m, rfl, _⟩ := h
    rfl
  obtain ⟨a, xs, L, m, rfl, hs, N, h1, hm, k⟩ := h
  refine ⟨_, pss_one (ps_ret (pe_cmpR op_notN (pe_fn (ok_line_from T) gg hr rfl T.g_line_from T.F_line_from.kp (b_line_from T) .nil pass0 (pa_cons (pv 0) pa_nil)) pe_non (nomark _))), ?_⟩
  exact ⟨_, rfl, a, xs, L, m, rfl, hs, N, h1, hm, fun l ys H2 hl s2 h2 M => ⟨rfl, k H2 s2⟩⟩
theorem ok_degree (T : Tx K mg) : FG P w K mg base CX0 9 (ga K "degree") (fdOf K (ga K "degree")) ["line"] (fun vs H Q _ => ∃ a xs L m, vs = [.ref a] ∧ SeqAt1 H a xs ∧ NmAt (CR K) H m xs L ∧ L.length ≤ 17 ∧ m ≤ 7000 ∧ ∀ H2, Same H H2 → Q (.int (((trim L).length : Int) - 1)) H2) := by
  refine fg_no T.F_degree sc_degree (fun vs H Q E h => ?_) (fun cdv A outer s H vs Q E gg hr h => ?_)
  · obtain ⟨a, xs, L, m, rfl, _⟩ := h
    rfl
  obtain ⟨a, xs, L, m, rfl, hs, N, h1, hm, k⟩ := h
  refine ⟨_, pss_one (ps_ret (pe_op op_sub (pe_callB call_len (by rfl) T.n_len PySem.boot_len (pa_cons (pe_fn (ok_told T) gg hr rfl T.g_told T.F_told.kp (b_told T) .nil pass0 (pa_cons (pv 0) pa_nil)) pa_nil)) pe_int)), ?_⟩
  refine ⟨_, rfl, a, xs, L, m, rfl, hs, N, h1, hm, fun l ys H2 hl s2 h2 M => ?_⟩
  refine ⟨_, _, rfl, .inl ⟨_, SqL.of h2, rfl⟩, _, _, rfl, rfl, ?_⟩
  rw [M.len]
  exact k H2 s2
end
end K31

set_option Elab.async false
set_option linter.all false
set_option maxRecDepth 100000
set_option maxHeartbeats 4000000
namespace K31
open PySem PySem.Spec PyProof.Rows L2 Own
open PySem.W (Frag)
section
variable {P : Program} {w : World} {K : Frag} {mg : Str → Option Value} {base : Heap}
def plusL (A B : List Rat) : List Rat := (List.range (max A.length B.length)).map fun i => A.getD i 0 + B.getD i 0
def spTwoL (K : Frag) (f : List Rat → List Rat → List Rat) : Sp := fun vs H Q _ => ∃ a b xs ys A B m, vs = [.ref a, .ref b] ∧ H a = some (.lst xs) ∧ H b = some (.lst ys) ∧ LnAt (CR K) H m xs A ∧ LnAt (CR K) H m ys B ∧ 0 < m ∧ m ≤ 3000 ∧ A.length ≤ 17 ∧ B.length ≤ 17 ∧
  ∀ l ws H2, H l = none → Same H H2 → H2 l = some (.lst ws) → LnAt (CR K) H2 (2 * m + 1) ws (trim (f A B)) → Q (.ref l) H2
theorem spTwoL_len {f : List Rat → List Rat → List Rat} {vs : List V} {H : Hp} {Q : VK} {E : XK} (h : spTwoL K f vs H Q E) : vs.length = 2 := by
  obtain ⟨a, b, xs, ys, A, B, m, rfl, _⟩ := h
  rfl
theorem flat_one {α : Type} (x : α) : ∀ k : Nat, (List.replicate k [x]).flatten = List.replicate k x
  | 0 => rfl
  | k + 1 => by rw [List.replicate_succ, List.flatten_cons, flat_one x k, List.replicate_succ]; rfl
theorem ok_zero : OkP 1 (pr 0) := ⟨by decide, by unfold Sz; decide, by unfold Sz; decide⟩
theorem zero_pr : nrm 0 1 = pr 0 := nrm_one 0
theorem LnAt.pad {C : Addr} {H : Hp} {m : Nat} {xs : List V} {A : List Rat} {x : Addr} (h : LnAt C H m xs A) (R : RatAt C H x (pr 0)) (o : OkP m (pr 0)) : ∀ k : Nat, LnAt C H m (xs ++ List.replicate k (.ref x)) (A ++ List.replicate k 0)
  | 0 => by simpa using h
  | k + 1 => by
    rw [List.replicate_succ', List.replicate_succ', ← List.append_assoc, ← List.append_assoc]
    exact (LnAt.pad h R o k).more R o
theorem pad_get {A : List Rat} {w i : Nat} (h : i < w) : (A ++ List.replicate (w - A.length) 0)[i]? = some (A.getD i 0) := by
  rcases Nat.lt_or_ge i A.length with z | z
  · rw [List.getElem?_append_left z, List.getElem?_eq_getElem z]
    simp [List.getD, z]
  · rw [List.getElem?_append_right z, List.getElem?_replicate, if_pos (by omega)]
    simp [List.getD, List.getElem?_eq_none z]
theorem plusL_get {A B : List Rat} {i : Nat} (h : i < max A.length B.length) : (plusL A B)[i]? = some (A.getD i 0 + B.getD i 0) := by
  unfold plusL
  rw [List.getElem?_map, List.getElem?_range h]
  rfl
theorem plusL_len (A B : List Rat) : (plusL A B).length = max A.length B.length := by unfold plusL; simp
theorem ok_line_plus (T : Tx K mg) : FG P w K mg base CX0 8 (ga K "line_plus") (fdOf K (ga K "line_plus")) ["line", "other"] (spTwoL K plusL) := by
  refine fg_no T.F_line_plus sc_line_plus (fun vs H Q E h => spTwoL_len h) (fun cdv A outer s H vs Q E gg hr h => ?_)
  obtain ⟨a, b, xs, ys, L, M, m, rfl, ha, hb, LA, LB, m0, hm, hl1, hl2, k⟩ := h
  obtain ⟨ds, rd, bd⟩ := b_init1 T
  refine ⟨_, pss_cons (ps_set (i := 2) sc_line_plus.nd rfl (Or.inl rfl) (pe_callB (call_max2 rfl) (by rfl) T.n_max (by decide +kernel) (pa_cons (pe_callB call_len (by rfl) T.n_len PySem.boot_len (pa_cons (pv 0) pa_nil)) (pa_cons (pe_callB call_len (by rfl) T.n_len PySem.boot_len (pa_cons (pv 1) pa_nil)) pa_nil))))
    (pss_cons (ps_set (i := 3) sc_line_plus.nd rfl (Or.inl rfl) (pe_op op_cat (pv 0) (pe_op op_rep (pe_lst (pa_cons (pe_mk T.mk_Ratio (ok_init T) gg (hr.mono (by decide)) rfl T.g_Ratio bd rd pass0 (pa_cons pe_int pa_nil)) pa_nil)) (pe_op op_sub (pv 2) (pe_callB call_len (by rfl) T.n_len PySem.boot_len (pa_cons (pv 0) pa_nil))))))
    (pss_cons (ps_set (i := 4) sc_line_plus.nd rfl (Or.inl rfl) (pe_op op_cat (pv 1) (pe_op op_rep (pe_lst (pa_cons (pe_mk T.mk_Ratio (ok_init T) gg (hr.mono (by decide)) rfl T.g_Ratio bd rd pass0 (pa_cons pe_int pa_nil)) pa_nil)) (pe_op op_sub (pv 2) (pe_callB call_len (by rfl) T.n_len PySem.boot_len (pa_cons (pv 1) pa_nil))))))
    (pss_one (ps_ret (pe_fn (ok_trimmed T) gg (hr.mono (by decide)) rfl T.g_trimmed T.F_trimmed.kp (b_trimmed T) .nil pass0 (pa_cons (pe_lc (own := [("left", 5), ("right", 6)]) (g := gTup K 2 (gCons (gName 5) (gCons (gName 6) gNil))) (tt := tYes) (by rfl) sc_line_plus.nd (pi_zip (by rfl) T.n_zip (pa_cons (pv 3) (pa_cons (pv 4) pa_nil))) (blkOk_by (N := ["line", "other", "wide", "first", "second", "left", "right"]) (sc := defScope s_line_plus) (by decide +kernel)) (fun _ _ _ _ _ => pg_tup rfl (pgs_cons (pg_name (i := 5) sc_line_plus.nd rfl (Or.inl rfl)) (pgs_cons (pg_name (i := 6) sc_line_plus.nd rfl (Or.inl rfl)) pgs_nil))) (fun _ _ _ _ _ => pts_nil) (fun _ _ _ _ _ => (pe_op (og_both (op := .Add) T.i_add.1 (ok_add T) gg (hr.mono (by decide)) (b_Ratio_add T) pass0) (pv 5) (pv 6)))) pa_nil)))))), ?_⟩
  have lx := LA.len
  have ly := LB.len
  obtain ⟨W, eW⟩ : ∃ W, W = max L.length M.length := ⟨_, rfl⟩
  have oz : OkP m (pr 0) := okp_le ok_zero m0
  refine ⟨_, rfl, _, _, rfl, .inl ⟨_, SqL.of ha, rfl⟩, _, rfl, _, _, rfl, .inl ⟨_, SqL.of hb, rfl⟩, _, _, rfl, ?_⟩
  have e0 : (if ((ys.length : Nat) : Int) > ((xs.length : Nat) : Int) then ((ys.length : Nat) : Int) else ((xs.length : Nat) : Int)) = (W : Int) := by
    split <;> omega
  rw [e0]
  -- first
  refine ⟨_, rfl, fun x1 d1 n1 n2 n3 => ?_⟩
  refine mkA n1 n2 (by decide) (by unfold Sz; decide +kernel) fun H1 s1 R1 => ?_
  rw [zero_pr] at R1
  refine ⟨(by show 1 ≤ sizeLine; decide), fun l1 hl1 => ?_⟩
  have t1 : Same H1 (upd H1 l1 (.lst [.ref x1])) := Same.put hl1
  have L1 : (upd H1 l1 (.lst [.ref x1])) l1 = some (.lst [.ref x1]) := upd_same
  generalize upd H1 l1 (.lst [.ref x1]) = H2 at t1 L1
  have s2 := s1.trans t1
  refine ⟨_, rfl, _, rfl, _, _, rfl, .inl ⟨_, SqL.of (s2 _ _ ha), rfl⟩, _, _, rfl, rfl, ?_⟩
  refine ⟨l1, _, _, rfl, rfl, L1, by omega, by omega, szl (by show 1 * ((W : Int) - ((xs.length : Nat) : Int)).toNat ≤ 10000; omega), fun l2 hl2 => ?_⟩
  have k1 : ((W : Int) - ((xs.length : Nat) : Int)).toNat = W - L.length := by omega
  rw [flat_one, k1]
  have t2 : Same H2 (upd H2 l2 (.lst (List.replicate (W - L.length) (.ref x1)))) := Same.put hl2
  have L2' : (upd H2 l2 (.lst (List.replicate (W - L.length) (.ref x1)))) l2 = some (.lst (List.replicate (W - L.length) (.ref x1))) := upd_same
  generalize upd H2 l2 (.lst (List.replicate (W - L.length) (.ref x1))) = H3 at t2 L2'
  have s3 := s2.trans t2
  refine ⟨a, l2, _, _, rfl, rfl, s3 _ _ ha, L2', szl (by rw [List.length_replicate]; omega), fun l3 hl3 => ?_⟩
  have t3 : Same H3 (upd H3 l3 (.lst (xs ++ List.replicate (W - L.length) (.ref x1)))) := Same.put hl3
  have L3 : (upd H3 l3 (.lst (xs ++ List.replicate (W - L.length) (.ref x1)))) l3 = some (.lst (xs ++ List.replicate (W - L.length) (.ref x1))) := upd_same
  generalize upd H3 l3 (.lst (xs ++ List.replicate (W - L.length) (.ref x1))) = H4 at t3 L3
  have s4 := s3.trans t3
  have P1 := (LA.same s4).pad (R1.same (t1.trans (t2.trans t3))) oz (W - L.length)
  -- second
  refine ⟨_, rfl, fun x5 d5 n5 n6 n7 => ?_⟩
  refine mkA n5 n6 (by decide) (by unfold Sz; decide +kernel) fun H5 s5 R5 => ?_
  rw [zero_pr] at R5
  refine ⟨(by show 1 ≤ sizeLine; decide), fun l5 hl5 => ?_⟩
  have t5 : Same H5 (upd H5 l5 (.lst [.ref x5])) := Same.put hl5
  have L5 : (upd H5 l5 (.lst [.ref x5])) l5 = some (.lst [.ref x5]) := upd_same
  generalize upd H5 l5 (.lst [.ref x5]) = H6 at t5 L5
  have s6 := s4.trans (s5.trans t5)
  refine ⟨_, rfl, _, rfl, _, _, rfl, .inl ⟨_, SqL.of (s6 _ _ hb), rfl⟩, _, _, rfl, rfl, ?_⟩
  refine ⟨l5, _, _, rfl, rfl, L5, by omega, by omega, szl (by show 1 * ((W : Int) - ((ys.length : Nat) : Int)).toNat ≤ 10000; omega), fun l6 hl6 => ?_⟩
  have k5 : ((W : Int) - ((ys.length : Nat) : Int)).toNat = W - M.length := by omega
  rw [flat_one, k5]
  have t6 : Same H6 (upd H6 l6 (.lst (List.replicate (W - M.length) (.ref x5)))) := Same.put hl6
  have L6 : (upd H6 l6 (.lst (List.replicate (W - M.length) (.ref x5)))) l6 = some (.lst (List.replicate (W - M.length) (.ref x5))) := upd_same
  generalize upd H6 l6 (.lst (List.replicate (W - M.length) (.ref x5))) = H7 at t6 L6
  have s7 := s6.trans t6
  refine ⟨b, l6, _, _, rfl, rfl, s7 _ _ hb, L6, szl (by rw [List.length_replicate]; omega), fun l7 hl7 => ?_⟩
  have t7 : Same H7 (upd H7 l7 (.lst (ys ++ List.replicate (W - M.length) (.ref x5)))) := Same.put hl7
  have L7 : (upd H7 l7 (.lst (ys ++ List.replicate (W - M.length) (.ref x5)))) l7 = some (.lst (ys ++ List.replicate (W - M.length) (.ref x5))) := upd_same
  generalize upd H7 l7 (.lst (ys ++ List.replicate (W - M.length) (.ref x5))) = H8 at t7 L7
  have s8 := s7.trans t7
  have s48 := ((s5.trans t5).trans t6).trans t7
  have P2 := (LB.same s8).pad (R5.same (t5.trans (t6.trans t7))) oz (W - M.length)
  have P1b := P1.same s48
  have L3b := s48 _ _ L3
  have lenP : (xs ++ List.replicate (W - L.length) (V.ref x1)).length = W := by rw [List.length_append, List.length_replicate]; omega
  have lenQ : (ys ++ List.replicate (W - M.length) (V.ref x5)).length = W := by rw [List.length_append, List.length_replicate]; omega
  generalize xs ++ List.replicate (W - L.length) (V.ref x1) = us at L3b P1b lenP
  generalize ys ++ List.replicate (W - M.length) (V.ref x5) = vs at L7 P2 lenQ
  -- the sums
  refine ⟨_, rfl, _, rfl, l3, l7, us, vs, rfl, SqL.of L3b, SqL.of L7, fun D hD => lc_zipL (K := K) (a := l3) (b := l7) (xs := us) (ys := vs) (by omega)
    (fun i H9 => ∃ acc, H9 D = some (.lst acc) ∧ Same H8 H9 ∧ LnAt (CR K) H9 (2 * m + 1) acc ((plusL L M).take i) ∧ acc.length = i)
    ⟨[], upd_same, Same.put hD, LnAt.nil, rfl⟩ (fun i H9 _ ⟨_, _, s9, _⟩ => ⟨SqL.of (s9 _ _ L3b), SqL.of (s9 _ _ L7)⟩) ?_ ?_⟩
  · rintro i x y t H9 hx hy ⟨acc, hacc, s9, N, hn⟩ ht
    have hi : i < W := by rw [← lenP]; exact (List.getElem?_eq_some_iff.mp hx).1
    obtain ⟨p, q1, rfl, hq1, Rp, op⟩ := P1b.at_ i x hx
    obtain ⟨r, q2, rfl, hq2, Rr, orr⟩ := P2.at_ i y hy
    rw [pad_get hi] at hq1 hq2
    cases hq1
    cases hq2
    have s10 := s9.trans (Same.put (o := .tup [.ref p, .ref r]) ht)
    have R1' := Rp.same s10
    have R2' := Rr.same s10
    obtain ⟨dp, ep⟩ := id R1'
    obtain ⟨dr, er⟩ := id R2'
    refine ⟨t, _, rfl, SqT.of upd_same, rfl, ?_⟩
    refine ⟨_, _, rfl, _, _, rfl, rfl, rfl, ?_⟩
    refine yes_if ?_
    refine ⟨_, rfl, _, rfl, p, dp, _, r, dr, _, rfl, rfl, ep, er, p, .ref r, _, _, m, m, rfl, R1', .inr ⟨r, rfl, R2'⟩, op, orr, m0, m0, by omega, fun u H10 s11 R3 => ?_⟩
    rw [addP_pr] at R3
    have s12 := (Same.put (o := .tup [.ref p, .ref r]) ht).trans s11
    have h10 := s12 _ _ hacc
    refine ⟨acc, h10, Nat.lt_of_lt_of_le (by omega : acc.length < 1000) (szl (by omega)), acc ++ [.ref u], upd_same, Same.lst (s10.trans s11) hD, ?_, by simp [hn]⟩
    rw [take_more (plusL_get (by omega))]
    have ob := OkP.add op orr
    rw [addP_pr] at ob
    exact ((N.same s12).more R3 (okp_le ob (by omega))).updl h10
  · rintro H9 ⟨acc, hacc, s9, N, hn⟩
    rw [lenP, eW, ← plusL_len, List.take_length] at N
    exact ⟨D, acc, plusL L M, 2 * m + 1, rfl, hacc, N, by rw [plusL_len]; omega, fun l ws H10 hl s10 h10 M10 => k l ws H10 (s8.free ((s9.free (by exact hl)))) ((s8.trans s9).trans s10) h10 M10⟩
end
end K31

set_option Elab.async false
set_option linter.all false
set_option maxRecDepth 100000
set_option maxHeartbeats 4000000
namespace K31
open PySem PySem.Spec PyProof.Rows L2 Own
open PySem.W (Frag)
section
variable {P : Program} {w : World} {K : Frag} {mg : Str → Option Value} {base : Heap}
theorem OkP.mulR {n m : Nat} {a b : Rat} (x : OkP n (pr a)) (y : OkP m (pr b)) : OkP (n + m + 1) (pr (a * b)) := by
  have o := OkP.mul x y
  rw [mulP_pr] at o
  exact okp_le o (by omega)
theorem OkP.addR {n m : Nat} {a b : Rat} (x : OkP n (pr a)) (y : OkP m (pr b)) : OkP (n + m + 1) (pr (a + b)) := by
  have o := OkP.add x y
  rw [addP_pr] at o
  exact okp_le o (by omega)
def scaledL (L : List Rat) (r : Rat) : List Rat := L.map (· * r)
def spScal (K : Frag) : Sp := fun vs H Q _ => ∃ a c xs L r m n, vs = [.ref a, .ref c] ∧ H a = some (.lst xs) ∧ LnAt (CR K) H m xs L ∧ RatAt (CR K) H c (pr r) ∧ OkP n (pr r) ∧ 0 < m ∧ 0 < n ∧ m + n ≤ 7000 ∧ L.length ≤ 17 ∧
  ∀ l ws H2, H l = none → Same H H2 → H2 l = some (.lst ws) → LnAt (CR K) H2 (m + n + 1) ws (trim (scaledL L r)) → Q (.ref l) H2
def derL (L : List Rat) : List Rat := ((List.range L.length).map fun i => L.getD i 0 * ((i : Nat) : Int)).drop 1
def spDer (K : Frag) : Sp := fun vs H Q _ => ∃ a xs L m, vs = [.ref a] ∧ H a = some (.lst xs) ∧ LnAt (CR K) H m xs L ∧ 0 < m ∧ m ≤ 6000 ∧ L.length ≤ 17 ∧
  ∀ l ws H2, H l = none → Same H H2 → H2 l = some (.lst ws) → LnAt (CR K) H2 (m + 6) ws (trim (derL L)) → Q (.ref l) H2
def worL (L : List Rat) (r : Rat) : Rat := L.reverse.foldl (fun w c => w * r + c) 0
def spWor (K : Frag) : Sp := fun vs H Q _ => ∃ a c xs L r m n, vs = [.ref a, .ref c] ∧ H a = some (.lst xs) ∧ LnAt (CR K) H m xs L ∧ RatAt (CR K) H c (pr r) ∧ OkP n (pr r) ∧ 0 < m ∧ 0 < n ∧ m + n ≤ 400 ∧ L.length ≤ 17 ∧
  ∀ p H2, Same H H2 → RatAt (CR K) H2 p (pr (worL L r)) → OkP (1 + L.length * (m + n + 2)) (pr (worL L r)) → Q (.ref p) H2
theorem LnAt.drop {C : Addr} {H : Hp} {m : Nat} {xs : List V} {L : List Rat} (h : LnAt C H m xs L) (n : Nat) : LnAt C H m (xs.drop n) (L.drop n) := by
  refine ⟨by simp [h.len], fun i x e => ?_⟩
  rw [List.getElem?_drop] at e
  obtain ⟨a, q, e0, e1, e2, e3⟩ := h.at_ _ x e
  exact ⟨a, q, e0, by rw [List.getElem?_drop]; exact e1, e2, e3⟩
theorem LnAt.rev {C : Addr} {H : Hp} {m : Nat} {xs : List V} {L : List Rat} (h : LnAt C H m xs L) : LnAt C H m xs.reverse L.reverse := by
  refine ⟨by simp [h.len], fun i x e => ?_⟩
  have hi : i < xs.length := by
    have := (List.getElem?_eq_some_iff.mp e).1
    rwa [List.length_reverse] at this
  rw [List.getElem?_reverse hi] at e
  obtain ⟨a, q, e0, e1, e2, e3⟩ := h.at_ _ x e
  refine ⟨a, q, e0, ?_, e2, e3⟩
  rw [List.getElem?_reverse (by rw [← h.len]; exact hi), ← h.len]
  exact e1
theorem ok_line_scaled (T : Tx K mg) : FG P w K mg base CX0 8 (ga K "line_scaled") (fdOf K (ga K "line_scaled")) ["line", "number"] (spScal K) := by
  refine fg_no T.F_line_scaled sc_line_scaled (fun vs H Q E h => ?_) (fun cdv A outer s H vs Q E gg hr h => ?_)
  · obtain ⟨a, c, xs, L, r, m, n, rfl, _⟩ := h
    rfl
  obtain ⟨a, c, xs, L, r, m, n, rfl, ha, LA, R, orr, m0, n0, hmn, hl, k⟩ := h
  refine ⟨_, (pss_one (ps_ret (pe_fn (ok_trimmed T) gg (hr.mono (by decide)) rfl T.g_trimmed T.F_trimmed.kp (b_trimmed T) .nil pass0 (pa_cons (pe_lc (own := [("one_number", 2)]) (g := gName 2) (tt := tYes) (by rfl) sc_line_scaled.nd (pi_list (pv 0)) (blkOk_by (N := ["line", "number", "one_number"]) (sc := defScope s_line_scaled) (by decide +kernel)) (fun _ _ _ _ _ => pg_name (i := 2) sc_line_scaled.nd rfl (Or.inl rfl)) (fun _ _ _ _ _ => pts_nil) (fun _ _ _ _ _ => (pe_op (og_both (op := .Mult) T.i_mul.1 (ok_mul T) gg (hr.mono (by decide)) (b_Ratio_mul T) pass0) (pv 2) (pv 1)))) pa_nil)))), ?_⟩
  have e0 : ∀ (i : Nat) q, L[i]? = some q → (scaledL L r)[i]? = some (q * r) := fun i q e => by unfold scaledL; rw [List.getElem?_map, e]; rfl
  have lx := LA.len
  refine ⟨_, rfl, a, rfl, ⟨_, SqL.of ha⟩, fun D hD => lc_list (K := K) (a := a) (xs := xs) (fun i H3 => ∃ acc, H3 D = some (.lst acc) ∧ Same H H3 ∧ LnAt (CR K) H3 (m + n + 1) acc ((scaledL L r).take i) ∧ acc.length = i)
    ⟨[], upd_same, Same.put hD, LnAt.nil, rfl⟩ (fun i H3 _ ⟨_, _, s3, _⟩ => SqL.of (s3 _ _ ha)) ?_ ?_⟩
  · rintro i x H3 hx ⟨acc, hacc, s3, N, hn⟩
    obtain ⟨p, q, rfl, hq, Rp, op⟩ := LA.at_ i x hx
    have hi : i < xs.length := (List.getElem?_eq_some_iff.mp hx).1
    have R1 := Rp.same s3
    have R2 := R.same s3
    obtain ⟨dp, ep⟩ := id R1
    obtain ⟨dr, er⟩ := id R2
    refine ⟨rfl, ?_⟩
    refine yes_if ?_
    refine ⟨_, rfl, _, rfl, p, dp, _, c, dr, _, rfl, rfl, ep, er, p, .ref c, _, _, m, n, rfl, R1, .inr ⟨c, rfl, R2⟩, op, orr, m0, n0, by omega, fun u H4 s4 R4 => ?_⟩
    rw [mulP_pr] at R4
    have h4 := s4 _ _ hacc
    refine ⟨acc, h4, Nat.lt_of_lt_of_le (by omega : acc.length < 1000) (szl (by omega)), acc ++ [.ref u], upd_same, Same.lst (s3.trans s4) hD, ?_, by simp [hn]⟩
    rw [take_more (e0 i q hq)]
    exact ((N.same s4).more R4 (OkP.mulR op orr)).updl h4
  · rintro H3 ⟨acc, hacc, s3, N, hn⟩
    have e1 : xs.length = (scaledL L r).length := by unfold scaledL; rw [List.length_map]; exact lx
    rw [e1, List.take_length] at N
    exact ⟨D, acc, scaledL L r, m + n + 1, rfl, hacc, N, by omega, fun l ws H4 hl s4 h4 M4 => k l ws H4 (s3.free hl) (s3.trans s4) h4 M4⟩
theorem ok_line_derived (T : Tx K mg) : FG P w K mg base CX0 8 (ga K "line_derived") (fdOf K (ga K "line_derived")) ["line"] (spDer K) := by
  refine fg_no T.F_line_derived sc_line_derived (fun vs H Q E h => ?_) (fun cdv A outer s H vs Q E gg hr h => ?_)
  · obtain ⟨a, xs, L, m, rfl, _⟩ := h
    rfl
  obtain ⟨a, xs, L, m, rfl, ha, LA, m0, hm, hl, k⟩ := h
  refine ⟨_, (pss_one (ps_ret (pe_fn (ok_trimmed T) gg (hr.mono (by decide)) rfl T.g_trimmed T.F_trimmed.kp (b_trimmed T) .nil pass0 (pa_cons (pe_slice sl_list (pe_lc (own := [("place", 1), ("number", 2)]) (g := gTup K 2 (gCons (gName 1) (gCons (gName 2) gNil))) (tt := tYes) (by rfl) sc_line_derived.nd (pi_enum (by rfl) T.n_enumerate (pa_cons (pv 0) pa_nil)) (blkOk_by (N := ["line", "place", "number"]) (sc := defScope s_line_derived) (by decide +kernel)) (fun _ _ _ _ _ => pg_tup rfl (pgs_cons (pg_name (i := 1) sc_line_derived.nd rfl (Or.inl rfl)) (pgs_cons (pg_name (i := 2) sc_line_derived.nd rfl (Or.inl rfl)) pgs_nil))) (fun _ _ _ _ _ => pts_nil) (fun _ _ _ _ _ => (pe_op (og_left (op := .Mult) T.i_mul.1 T.i_mul.2.2.1 T.i_mul.2.2.2 (ok_mul T) gg (hr.mono (by decide)) (b_Ratio_mul T) pass0) (pv 2) (pv 1)))) (po_some pe_int) po_none) pa_nil)))), ?_⟩
  have lx := LA.len
  obtain ⟨F, eF⟩ : ∃ F, F = (List.range L.length).map fun i => L.getD i 0 * ((i : Nat) : Int) := ⟨_, rfl⟩
  have lF : F.length = L.length := by rw [eF]; simp
  have e0 : ∀ (i : Nat) q, L[i]? = some q → F[i]? = some (q * ((i : Nat) : Int)) := fun i q e => by
    have hi : i < L.length := (List.getElem?_eq_some_iff.mp e).1
    rw [eF, List.getElem?_map, List.getElem?_range hi]
    simp [List.getD, e]
  refine ⟨_, rfl, a, xs, rfl, SqL.of ha, fun D hD => lc_enum (K := K) (a := a) (xs := xs) (fun i H3 => ∃ acc, H3 D = some (.lst acc) ∧ Same H H3 ∧ LnAt (CR K) H3 (m + 6) acc (F.take i) ∧ acc.length = i)
    ⟨[], upd_same, Same.put hD, LnAt.nil, rfl⟩ (fun i H3 _ ⟨_, _, s3, _⟩ => SqL.of (s3 _ _ ha)) ?_ ?_⟩
  · rintro i x t H3 hx ⟨acc, hacc, s3, N, hn⟩ ht
    obtain ⟨p, q, rfl, hq, Rp, op⟩ := LA.at_ i x hx
    have hi : i < xs.length := (List.getElem?_eq_some_iff.mp hx).1
    have s4 := s3.trans (Same.put (o := .tup [.int (i : Nat), .ref p]) ht)
    have R1 := Rp.same s4
    obtain ⟨dp, ep⟩ := id R1
    have oi : OkP 5 (pr (((i : Nat) : Int) : Rat)) := ⟨(show (0 : Int) < 1 by decide), (show Sz 5 ((i : Nat) : Int) by unfold Sz; omega), (show Sz 5 (1 : Int) by unfold Sz; decide)⟩
    refine ⟨t, _, rfl, SqT.of upd_same, rfl, ?_⟩
    refine ⟨_, _, rfl, _, _, rfl, rfl, rfl, ?_⟩
    refine yes_if ?_
    refine ⟨_, rfl, _, rfl, p, dp, _, _, rfl, rfl, ep, p, .int (i : Nat), _, pr (((i : Nat) : Int) : Rat), m, 5, rfl, R1, .inl ⟨_, rfl, rfl⟩, op, oi, m0, by decide, by omega, fun u H5 s5 R5 => ?_⟩
    rw [mulP_pr] at R5
    have s6 := (Same.put (o := .tup [.int (i : Nat), .ref p]) ht).trans s5
    have h5 := s6 _ _ hacc
    refine ⟨acc, h5, Nat.lt_of_lt_of_le (by omega : acc.length < 1000) (szl (by omega)), acc ++ [.ref u], upd_same, Same.lst (s4.trans s5) hD, ?_, by simp [hn]⟩
    rw [take_more (e0 i q hq)]
    exact ((N.same s6).more R5 (okp_le (OkP.mulR op oi) (by omega))).updl h5
  · rintro H3 ⟨acc, hacc, s3, N, hn⟩
    have e1 : xs.length = F.length := by rw [lF]; exact lx
    rw [e1, List.take_length] at N
    refine ⟨_, rfl, D, acc, rfl, SqL.of hacc, fun g hg => ?_⟩
    have ec : cutV acc (some 1) none = acc.drop 1 := by
      unfold cutV
      have z2 : HT.sIx acc.length acc.length none = acc.length := rfl
      rw [z2]
      have z1 : HT.sIx acc.length 0 (some 1) = min 1 acc.length := by
        unfold HT.sIx
        simp
      rw [z1]
      cases acc with
      | nil => rfl
      | cons x l => simp
    rw [ec]
    have N2 : LnAt (CR K) (upd H3 g (.lst (acc.drop 1))) (m + 6) (acc.drop 1) (derL L) := by
      unfold derL
      rw [← eF]
      exact (N.drop 1).same (Same.put hg)
    exact ⟨g, acc.drop 1, derL L, m + 6, rfl, upd_same, N2, by unfold derL; rw [← eF, List.length_drop]; omega, fun l ws H4 hl s4 h4 M4 => k l ws H4 (s3.free ((Same.put (o := .lst (acc.drop 1)) hg).free hl)) (s3.trans ((Same.put hg).trans s4)) h4 M4⟩
theorem ok_line_worth (T : Tx K mg) : FG P w K mg base CX0 8 (ga K "line_worth") (fdOf K (ga K "line_worth")) ["line", "number"] (spWor K) := by
  refine fg_no T.F_line_worth sc_line_worth (fun vs H Q E h => ?_) (fun cdv A outer s H vs Q E gg hr h => ?_)
  · obtain ⟨a, c, xs, L, r, m, n, rfl, _⟩ := h
    rfl
  obtain ⟨a, c, xs, L, r, m, n, rfl, ha, LA, R, orr, m0, n0, hmn, hl, k⟩ := h
  obtain ⟨ds, rd, bd⟩ := b_init1 T
  refine ⟨_, pss_cons (ps_set (i := 2) sc_line_worth.nd rfl (Or.inl rfl) (pe_mk T.mk_Ratio (ok_init T) gg (hr.mono (by decide)) rfl T.g_Ratio bd rd pass0 (pa_cons pe_int pa_nil)))
    (pss_cons (ps_for PassesOwn.never rfl (pi_list (pe_revL (pv 0))) (pg_name (i := 3) sc_line_worth.nd rfl (Or.inl rfl)) (pss_one (ps_set (i := 2) sc_line_worth.nd rfl (Or.inl rfl) (pe_op (og_both (op := .Add) T.i_add.1 (ok_add T) gg (hr.mono (by decide)) (b_Ratio_add T) pass0) (pe_op (og_both (op := .Mult) T.i_mul.1 (ok_mul T) gg (hr.mono (by decide)) (b_Ratio_mul T) pass0) (pv 2) (pv 1)) (pv 3)))))
    (pss_one (ps_ret (pv 2)))), ?_⟩
  have lx := LA.len
  refine fun x1 d1 n1 n2 n3 => ?_
  refine mkA n1 n2 (by decide) (by unfold Sz; decide +kernel) fun H1 s1 R1 => ?_
  rw [zero_pr] at R1
  refine ⟨_, rfl, a, xs, rfl, SqL.of (s1 _ _ ha), fun g hg => ?_⟩
  have t2 : Same H1 (upd H1 g (.lst xs.reverse)) := Same.put hg
  have hgv : (upd H1 g (.lst xs.reverse)) g = some (.lst xs.reverse) := upd_same
  generalize upd H1 g (.lst xs.reverse) = H2 at t2 hgv
  have s2 := s1.trans t2
  obtain ⟨V, eV⟩ : ∃ V, V = L.reverse := ⟨_, rfl⟩
  have lV : V.length = L.length := by rw [eV]; simp
  have LR : LnAt (CR K) H2 m xs.reverse V := by rw [eV]; exact (LA.same s2).rev
  refine ⟨g, rfl, ⟨_, SqL.of hgv⟩, for_list (K := K) (a := g) (xs := xs.reverse) (fun i σ H3 => ∃ p v, σ = [some (.ref a), some (.ref c), some (.ref p), v] ∧ Same H2 H3 ∧ RatAt (CR K) H3 p (pr ((V.take i).foldl (fun w c => w * r + c) 0)) ∧ OkP (1 + i * (m + n + 2)) (pr ((V.take i).foldl (fun w c => w * r + c) 0)))
    ⟨x1, none, rfl, Same.refl _, R1.same t2, okp_le ok_zero (by omega)⟩ (fun i σ H3 _ ⟨_, _, _, s3, _⟩ => SqL.of (s3 _ _ hgv)) ?_ ?_⟩
  · rintro i x σ H3 hx ⟨p, v, rfl, s3, Rp, op⟩
    have hi : i < xs.reverse.length := (List.getElem?_eq_some_iff.mp hx).1
    rw [List.length_reverse] at hi
    obtain ⟨b, q, rfl, hq, Rb, ob⟩ := LR.at_ i x hx
    obtain ⟨dp, ep⟩ := id Rp
    have Rc := R.same (s2.trans s3)
    obtain ⟨dc, ec⟩ := id Rc
    have hb1 : i * (m + n + 2) ≤ 16 * (m + n + 2) := Nat.mul_le_mul_right _ (by omega)
    refine ⟨_, rfl, _, rfl, p, dp, _, c, dc, _, rfl, rfl, ep, ec, p, .ref c, _, _, _, n, rfl, Rp, .inr ⟨c, rfl, Rc⟩, op, orr, by omega, n0, by omega, fun u H4 s4 R4 => ?_⟩
    rw [mulP_pr] at R4
    have o4 := OkP.mulR op orr
    have Rb4 := Rb.same (s3.trans s4)
    obtain ⟨du, eu⟩ := id R4
    obtain ⟨db, eb⟩ := id Rb4
    refine ⟨_, rfl, u, du, _, b, db, _, rfl, rfl, eu, eb, u, .ref b, _, _, _, m, rfl, R4, .inr ⟨b, rfl, Rb4⟩, o4, ob, by omega, m0, by omega, fun u2 H5 s5 R5 => ?_⟩
    rw [addP_pr] at R5
    have o5 := OkP.addR o4 ob
    have ef : (V.take (i + 1)).foldl (fun w c => w * r + c) 0 = (V.take i).foldl (fun w c => w * r + c) 0 * r + q := by
      rw [take_more hq, List.foldl_append]
      rfl
    refine ⟨u2, _, rfl, (s3.trans s4).trans s5, by rw [ef]; exact R5, ?_⟩
    rw [ef]
    exact okp_le o5 (by rw [Nat.add_mul]; omega)
  · rintro σ H3 ⟨p, v, rfl, s3, Rp, op⟩
    rw [List.length_reverse, lx, ← lV, List.take_length] at Rp op
    have e2 : V.foldl (fun w c => w * r + c) 0 = worL L r := by rw [eV]; rfl
    rw [e2] at Rp op
    rw [lV] at op
    exact ⟨_, rfl, k p H3 (s2.trans s3) Rp op⟩
end
end K31

set_option Elab.async false
set_option linter.all false
set_option maxRecDepth 100000
set_option maxHeartbeats 4000000
namespace K31
open PySem PySem.Spec PyProof.Rows L2 Own
open PySem.W (Frag)
section
variable {P : Program} {w : World} {K : Frag} {mg : Str → Option Value} {base : Heap}
/-- a list of Ratios with a bound for each place -/
structure LnB (C : Addr) (H : Hp) (bd : Nat → Nat) (xs : List V) (L : List Rat) : Prop where
  len : xs.length = L.length
  at_ : ∀ (i : Nat) (x : V), xs[i]? = some x → ∃ a q, x = .ref a ∧ L[i]? = some q ∧ RatAt C H a (pr q) ∧ OkP (bd i) (pr q)
theorem LnB.same {C : Addr} {H H2 : Hp} {bd : Nat → Nat} {xs : List V} {L : List Rat} (h : LnB C H bd xs L) (s : Same H H2) : LnB C H2 bd xs L :=
  ⟨h.len, fun i x e => let ⟨a, q, e0, e1, e2, e3⟩ := h.at_ i x e; ⟨a, q, e0, e1, e2.same s, e3⟩⟩
theorem LnB.le {C : Addr} {H : Hp} {bd bd2 : Nat → Nat} {xs : List V} {L : List Rat} (h : LnB C H bd xs L) (k : ∀ i, i < xs.length → bd i ≤ bd2 i) : LnB C H bd2 xs L :=
  ⟨h.len, fun i x e => let ⟨a, q, e0, e1, e2, e3⟩ := h.at_ i x e; ⟨a, q, e0, e1, e2, okp_le e3 (k i (List.getElem?_eq_some_iff.mp e).1)⟩⟩
theorem LnB.put {C : Addr} {H : Hp} {bd bd2 : Nat → Nat} {xs ys : List V} {L : List Rat} {D u : Addr} {k : Nat} {q : Rat} (h : LnB C H bd xs L) (hD : H D = some (.lst ys)) (R : RatAt C H u (pr q)) (o : OkP (bd2 k) (pr q)) (hk : k < xs.length) (le : ∀ i, i ≠ k → bd i ≤ bd2 i) :
    LnB C (upd H D (.lst (xs.set k (.ref u)))) bd2 (xs.set k (.ref u)) (L.set k q) := by
  refine ⟨by simp [h.len], fun i x e => ?_⟩
  rw [List.getElem?_set] at e
  by_cases hi : k = i
  · subst hi
    rw [if_pos rfl, if_pos hk] at e
    cases e
    refine ⟨u, q, rfl, ?_, R.lst hD, o⟩
    rw [List.getElem?_set, if_pos rfl, if_pos (by rw [← h.len]; exact hk)]
  · rw [if_neg hi] at e
    obtain ⟨a, z, e0, e1, e2, e3⟩ := h.at_ i x e
    refine ⟨a, z, e0, ?_, e2.lst hD, okp_le e3 (le i (Ne.symm hi))⟩
    rw [List.getElem?_set, if_neg hi]
    exact e1
def rowT (R : List Rat) (i : Nat) (q : Rat) (B : List Rat) : Nat → List Rat
  | 0 => R
  | j + 1 => (rowT R i q B j).set (i + j) ((rowT R i q B j).getD (i + j) 0 + q * B.getD j 0)
theorem rowT_len (R : List Rat) (i : Nat) (q : Rat) (B : List Rat) : ∀ j, (rowT R i q B j).length = R.length
  | 0 => rfl
  | j + 1 => by rw [rowT, List.length_set]; exact rowT_len R i q B j
def timesN (A B : List Rat) : Nat → List Rat
  | 0 => List.replicate (A.length + B.length - 1) 0
  | i + 1 => rowT (timesN A B i) i (A.getD i 0) B B.length
theorem timesN_len (A B : List Rat) : ∀ i, (timesN A B i).length = A.length + B.length - 1
  | 0 => by rw [timesN, List.length_replicate]
  | i + 1 => by rw [timesN, rowT_len]; exact timesN_len A B i
def timesL (A B : List Rat) : List Rat := timesN A B A.length
def bdT (m i : Nat) : Nat := 1 + i * (2 * m + 2)
def spTimes (K : Frag) : Sp := fun vs H Q _ => ∃ a b xs ys A B m, vs = [.ref a, .ref b] ∧ H a = some (.lst xs) ∧ H b = some (.lst ys) ∧ LnAt (CR K) H m xs A ∧ LnAt (CR K) H m ys B ∧ 0 < m ∧ m ≤ 150 ∧ A.length ≤ 17 ∧ B.length ≤ 17 ∧
  ∀ l ws H2, H l = none → Same H H2 → H2 l = some (.lst ws) → LnAt (CR K) H2 (bdT m A.length) ws (trim (timesL A B)) → Q (.ref l) H2
theorem LnAt.b {C : Addr} {H : Hp} {m : Nat} {xs : List V} {L : List Rat} (h : LnAt C H m xs L) : LnB C H (fun _ => m) xs L := ⟨h.len, h.at_⟩
theorem LnB.a {C : Addr} {H : Hp} {m : Nat} {xs : List V} {L : List Rat} (h : LnB C H (fun _ => m) xs L) : LnAt C H m xs L := ⟨h.len, h.at_⟩
theorem ixN_add {n i j : Nat} (h : i + j < n) : ixN n ((i : Int) + (j : Int)) = some (i + j) := by
  unfold ixN
  rw [if_pos (by omega), if_pos (by omega)]
  congr 1
theorem ok_line_times (T : Tx K mg) : FG P w K mg base CX0 8 (ga K "line_times") (fdOf K (ga K "line_times")) ["line", "other"] (spTimes K) := by
  refine fg_no T.F_line_times sc_line_times (fun vs H Q E h => ?_) (fun cdv A outer s H vs Q E gg hr h => ?_)
  · obtain ⟨a, b, xs, ys, L, M, m, rfl, _⟩ := h
    rfl
  obtain ⟨a, b, xs, ys, L, M, m, rfl, ha, hb, LA, LB, m0, hm, hl1, hl2, k⟩ := h
  obtain ⟨ds, rd, bd⟩ := b_init1 T
  refine ⟨_, pss_cons (ps_set (i := 2) sc_line_times.nd rfl (Or.inl rfl) (pe_op op_rep (pe_lst (pa_cons (pe_mk T.mk_Ratio (ok_init T) gg (hr.mono (by decide)) rfl T.g_Ratio bd rd pass0 (pa_cons pe_int pa_nil)) pa_nil)) (pe_op op_sub (pe_op op_add (pe_callB call_len (by rfl) T.n_len PySem.boot_len (pa_cons (pv 0) pa_nil)) (pe_callB call_len (by rfl) T.n_len PySem.boot_len (pa_cons (pv 1) pa_nil))) pe_int)))
    (pss_cons (ps_for PassesOwn.never rfl (pi_enum (by rfl) T.n_enumerate (pa_cons (pv 0) pa_nil)) (pg_tup rfl (pgs_cons (pg_name (i := 3) sc_line_times.nd rfl (Or.inl rfl)) (pgs_cons (pg_name (i := 4) sc_line_times.nd rfl (Or.inl rfl)) pgs_nil))) (pss_one (ps_for PassesOwn.never rfl (pi_enum (by rfl) T.n_enumerate (pa_cons (pv 1) pa_nil)) (pg_tup rfl (pgs_cons (pg_name (i := 5) sc_line_times.nd rfl (Or.inl rfl)) (pgs_cons (pg_name (i := 6) sc_line_times.nd rfl (Or.inl rfl)) pgs_nil))) (pss_one (ps_asg (pe_op (og_both (op := .Add) T.i_add.1 (ok_add T) gg (hr.mono (by decide)) (b_Ratio_add T) pass0) (pe_ix ix_list (pv 2) (pe_op op_add (pv 3) (pv 5)) (fun _ _ => rfl)) (pe_op (og_both (op := .Mult) T.i_mul.1 (ok_mul T) gg (hr.mono (by decide)) (b_Ratio_mul T) pass0) (pv 4) (pv 6))) (pg_sub (pv 2) (pe_op op_add (pv 3) (pv 5)) set_list))))))
    (pss_one (ps_ret (pe_fn (ok_trimmed T) gg (hr.mono (by decide)) rfl T.g_trimmed T.F_trimmed.kp (b_trimmed T) .nil pass0 (pa_cons (pv 2) pa_nil))))), ?_⟩
  have lx := LA.len
  have ly := LB.len
  refine fun x1 d1 n1 n2 n3 => ?_
  refine mkA n1 n2 (by decide) (by unfold Sz; decide +kernel) fun H1 s1 R1 => ?_
  rw [zero_pr] at R1
  refine ⟨(by show 1 ≤ sizeLine; decide), fun l1 hl1 => ?_⟩
  have t1 : Same H1 (upd H1 l1 (.lst [.ref x1])) := Same.put hl1
  have L1 : (upd H1 l1 (.lst [.ref x1])) l1 = some (.lst [.ref x1]) := upd_same
  generalize upd H1 l1 (.lst [.ref x1]) = H2 at t1 L1
  have s2 := s1.trans t1
  refine ⟨_, rfl, _, _, rfl, .inl ⟨_, SqL.of (s2 _ _ ha), rfl⟩, _, rfl, _, _, rfl, .inl ⟨_, SqL.of (s2 _ _ hb), rfl⟩, _, _, rfl, rfl, _, _, rfl, rfl, ?_⟩
  refine ⟨l1, _, _, rfl, rfl, L1, by omega, by omega, szl (by show 1 * (((xs.length : Nat) : Int) + ((ys.length : Nat) : Int) - 1).toNat ≤ 10000; omega), fun D hD => ?_⟩
  have k1 : (((xs.length : Nat) : Int) + ((ys.length : Nat) : Int) - 1).toNat = L.length + M.length - 1 := by omega
  rw [flat_one, k1]
  have t2 : Same H2 (upd H2 D (.lst (List.replicate (L.length + M.length - 1) (.ref x1)))) := Same.put hD
  have L2' : (upd H2 D (.lst (List.replicate (L.length + M.length - 1) (.ref x1)))) D = some (.lst (List.replicate (L.length + M.length - 1) (.ref x1))) := upd_same
  generalize upd H2 D (.lst (List.replicate (L.length + M.length - 1) (.ref x1))) = H3 at t2 L2'
  have s3 := s2.trans t2
  have hDH : H D = none := s2.free hD
  have P0 : LnAt (CR K) H3 (bdT m 0) (List.replicate (L.length + M.length - 1) (.ref x1)) (timesN L M 0) := by
    have := (LnAt.nil (C := CR K) (H := H3) (m := bdT m 0)).pad (R1.same (t1.trans t2)) (okp_le ok_zero (by unfold bdT; omega)) (L.length + M.length - 1)
    simpa [timesN] using this
  refine ⟨_, rfl, a, xs, rfl, SqL.of (s3 _ _ ha), for_enum (K := K) (a := a) (xs := xs) (fun i σ H4 => ∃ v3 v4 v5 v6 ms, σ = [some (.ref a), some (.ref b), some (.ref D), v3, v4, v5, v6] ∧ H4 D = some (.lst ms) ∧ Same H H4 ∧ LnAt (CR K) H4 (bdT m i) ms (timesN L M i))
    ⟨none, none, none, none, _, rfl, L2', s3, P0⟩ (fun i σ H4 _ ⟨_, _, _, _, _, _, _, s4, _⟩ => SqL.of (s4 _ _ ha)) ?_ ?_⟩
  · rintro i x t σ H4 hx ⟨v3, v4, v5, v6, ms, rfl, hms, s4, N⟩ ht
    obtain ⟨p, q, rfl, hq, Rp, op⟩ := LA.at_ i x hx
    have hi : i < xs.length := (List.getElem?_eq_some_iff.mp hx).1
    have qd : L.getD i 0 = q := by simp [List.getD, hq]
    have s5 := s4.trans (Same.put (o := .tup [.int (i : Nat), .ref p]) ht)
    have hms5 := (Same.put (o := .tup [.int (i : Nat), .ref p]) ht) _ _ hms
    have N5 := N.same (Same.put (o := .tup [.int (i : Nat), .ref p]) ht)
    refine ⟨t, _, rfl, SqT.of upd_same, rfl, ?_⟩
    refine ⟨_, _, rfl, _, _, rfl, rfl, ?_⟩
    generalize upd H4 t (.tup [.int (i : Nat), .ref p]) = H5 at s5 hms5 N5
    refine ⟨_, rfl, b, ys, rfl, SqL.of (s5 _ _ hb), for_enum (K := K) (a := b) (xs := ys) (fun j σ H6 => ∃ w5 w6 ns, σ = [some (.ref a), some (.ref b), some (.ref D), some (.int (i : Nat)), some (.ref p), w5, w6] ∧ H6 D = some (.lst ns) ∧ Same H H6 ∧ LnB (CR K) H6 (fun z => if z < i + j then bdT m (i + 1) else bdT m i) ns (rowT (timesN L M i) i q M j))
      ⟨v5, v6, ms, rfl, hms5, s5, N5.b.le fun z _ => ?_⟩ (fun j σ H6 _ ⟨_, _, _, _, _, s6, _⟩ => SqL.of (s6 _ _ hb)) ?_ ?_⟩
    · show bdT m i ≤ if z < i + 0 then bdT m (i + 1) else bdT m i
      split
      · unfold bdT
        rw [Nat.add_mul]
        omega
      · exact Nat.le_refl _
    · rintro j y t2 σ H6 hy ⟨w5, w6, ns, rfl, hns, s6, N6⟩ ht2
      obtain ⟨r, z, rfl, hz, Rr, orr⟩ := LB.at_ j y hy
      have hj : j < ys.length := (List.getElem?_eq_some_iff.mp hy).1
      have zd : M.getD j 0 = z := by simp [List.getD, hz]
      have ut := Same.put (o := .tup [.int (j : Nat), .ref r]) ht2
      have s7 := s6.trans ut
      have hns7 := ut _ _ hns
      have N7 := N6.same ut
      refine ⟨t2, _, rfl, SqT.of upd_same, rfl, ?_⟩
      refine ⟨_, _, rfl, _, _, rfl, rfl, ?_⟩
      generalize upd H6 t2 (.tup [.int (j : Nat), .ref r]) = H7 at s7 hns7 N7
      have ln : ns.length = L.length + M.length - 1 := by rw [N6.len, rowT_len, timesN_len]
      have hij : i + j < ns.length := by omega
      obtain ⟨e, qe, he, hqe, Re, oe⟩ := N7.at_ (i + j) _ (List.getElem?_eq_getElem hij)
      have hge : ns[i + j]? = some (.ref e) := by rw [← he]; exact List.getElem?_eq_getElem hij
      have ed : (rowT (timesN L M i) i q M j).getD (i + j) 0 = qe := by simp [List.getD, hqe]
      have oe2 : OkP (bdT m i) (pr qe) := by
        have z0 : (if i + j < i + j then bdT m (i + 1) else bdT m i) = bdT m i := if_neg (Nat.lt_irrefl _)
        rw [← z0]
        exact oe
      have Rp7 := Rp.same s7
      have Rr7 := Rr.same s7
      obtain ⟨dp, ep⟩ := id Rp7
      obtain ⟨dr, er⟩ := id Rr7
      have hbt : bdT m i ≤ 1 + 17 * (2 * m + 2) := by
        unfold bdT
        have := Nat.mul_le_mul_right (2 * m + 2) (show i ≤ 17 by omega)
        omega
      refine ⟨_, rfl, _, rfl, _, rfl, _, _, rfl, rfl, D, _, _, .ref e, rfl, rfl, SqL.of hns7, at_of (j := i + j) (by omega) hge, ?_⟩
      refine ⟨_, rfl, _, rfl, p, dp, _, r, dr, _, rfl, rfl, ep, er, p, .ref r, _, _, m, m, rfl, Rp7, .inr ⟨r, rfl, Rr7⟩, op, orr, m0, m0, by omega, fun u H8 s8 R8 => ?_⟩
      rw [mulP_pr] at R8
      have o8 := OkP.mulR op orr
      have Re8 := Re.same s8
      obtain ⟨de, ee⟩ := id Re8
      obtain ⟨du, eu⟩ := id R8
      refine ⟨e, de, _, u, du, _, rfl, rfl, ee, eu, e, .ref u, _, _, bdT m i, m + m + 1, rfl, Re8, .inr ⟨u, rfl, R8⟩, oe2, o8, by unfold bdT; omega, by omega, by omega, fun f H9 s9 R9 => ?_⟩
      rw [addP_pr] at R9
      have o9 := OkP.addR oe2 o8
      have s79 := s8.trans s9
      have hns9 := s79 _ _ hns7
      have hdlt : D < D + 1 := Nat.lt_succ_self _
      refine ⟨_, rfl, _, rfl, _, rfl, _, _, rfl, rfl, D, _, _, i + j, rfl, rfl, hns9, ?_, ?_⟩
      · exact ixN_add hij
      · refine ⟨_, _, _, rfl, upd_same, Same.lst (s7.trans s79) hDH, ?_⟩
        have er2 : rowT (timesN L M i) i q M (j + 1) = (rowT (timesN L M i) i q M j).set (i + j) (qe + q * z) := by
          show (rowT (timesN L M i) i q M j).set (i + j) ((rowT (timesN L M i) i q M j).getD (i + j) 0 + q * M.getD j 0) = _
          rw [ed, zd]
        rw [er2]
        refine (N7.same s79).put hns9 R9 ?_ hij fun z0 hz0 => ?_
        · show OkP (if i + j < i + (j + 1) then bdT m (i + 1) else bdT m i) _
          rw [if_pos (by omega)]
          exact okp_le o9 (by unfold bdT; rw [Nat.add_mul]; omega)
        · show (if z0 < i + j then bdT m (i + 1) else bdT m i) ≤ if z0 < i + (j + 1) then bdT m (i + 1) else bdT m i
          by_cases g1 : z0 < i + j
          · rw [if_pos g1, if_pos (by omega)]
            exact Nat.le_refl _
          · rw [if_neg g1, if_neg (by omega)]
            exact Nat.le_refl _
    · rintro σ H6 ⟨w5, w6, ns, rfl, hns, s6, N6⟩
      refine ⟨_, _, _, _, ns, rfl, hns, s6, ?_⟩
      have et : timesN L M (i + 1) = rowT (timesN L M i) i q M ys.length := by rw [timesN, qd, ly]
      rw [et]
      refine LnB.a (N6.le fun z hz => ?_)
      show (if z < i + ys.length then bdT m (i + 1) else bdT m i) ≤ bdT m (i + 1)
      split
      · exact Nat.le_refl _
      · unfold bdT
        rw [Nat.add_mul]
        omega
  · rintro σ H4 ⟨v3, v4, v5, v6, ms, rfl, hms, s4, N⟩
    rw [lx] at N
    exact ⟨_, rfl, D, ms, timesL L M, _, rfl, hms, N, by unfold timesL; rw [timesN_len]; omega, fun l ws H5 hl s5 h5 M5 => k l ws H5 (s4.free hl) (s4.trans s5) h5 M5⟩
end
end K31

set_option Elab.async false
set_option linter.all false
set_option maxRecDepth 100000
set_option maxHeartbeats 4000000
namespace K31
open PySem PySem.Spec PyProof.Rows L2 Own
open PySem.W (Frag)
section
variable {P : Program} {w : World} {K : Frag} {mg : Str → Option Value} {base : Heap}
theorem trim_le (L : List Rat) : (trim L).length ≤ L.length := by unfold trim; rw [List.length_take]; exact Nat.min_le_right _ _
def spTwoN (K : Frag) (top : Nat) (f : List Rat → List Rat → List Rat) : Sp := fun vs H Q _ => ∃ a b xs ys A B m, vs = [.ref a, .ref b] ∧ SeqAt1 H a xs ∧ NmAt (CR K) H m xs A ∧ SeqAt1 H b ys ∧ NmAt (CR K) H m ys B ∧ 0 < m ∧ m ≤ top ∧ A.length ≤ 17 ∧ B.length ≤ 17 ∧
  ∀ l ws n H2, H l = none → Same H H2 → H2 l = some (.lst ws) → LnAt (CR K) H2 n ws (f A B) → n ≤ 2 * m + 1 → Q (.ref l) H2
def negL (L : List Rat) : List Rat := L.map (- ·)
theorem negL_get {L : List Rat} {i : Nat} {q : Rat} (e : L[i]? = some q) : (negL L)[i]? = some (-q) := by unfold negL; rw [List.getElem?_map, e]; rfl
theorem negL_len (L : List Rat) : (negL L).length = L.length := by unfold negL; simp
theorem OkP.negR {m : Nat} {a : Rat} (o : OkP m (pr a)) : OkP m (pr (-a)) := by
  have e1 : (pr (-a)).1 = -(pr a).1 := rfl
  have e2 : (pr (-a)).2 = (pr a).2 := rfl
  refine ⟨by rw [e2]; exact o.pos, ?_, by rw [e2]; exact o.sb⟩
  have := o.st
  unfold Sz at *
  rw [e1, Int.natAbs_neg]
  exact this
def spScalN (K : Frag) : Sp := fun vs H Q _ => ∃ a c xs L r m n, vs = [.ref a, c] ∧ SeqAt1 H a xs ∧ NmAt (CR K) H m xs L ∧ NumV (CR K) H c (pr r) ∧ OkP n (pr r) ∧ 0 < m ∧ 0 < n ∧ m + n ≤ 7000 ∧ L.length ≤ 17 ∧
  ∀ l ws H2, H l = none → Same H H2 → H2 l = some (.lst ws) → LnAt (CR K) H2 (m + n + 1) ws (trim (scaledL (trim L) r)) → Q (.ref l) H2
def spWorN (K : Frag) : Sp := fun vs H Q _ => ∃ a c xs L r m n, vs = [.ref a, c] ∧ SeqAt1 H a xs ∧ NmAt (CR K) H m xs L ∧ NumV (CR K) H c (pr r) ∧ OkP n (pr r) ∧ 0 < m ∧ 0 < n ∧ m + n ≤ 400 ∧ L.length ≤ 17 ∧
  ∀ p H2, Same H H2 → RatAt (CR K) H2 p (pr (worL (trim L) r)) → OkP (1 + L.length * (m + n + 2)) (pr (worL (trim L) r)) → Q (.ref p) H2
def spDerN (K : Frag) : Sp := fun vs H Q _ => ∃ a xs L m, vs = [.ref a] ∧ SeqAt1 H a xs ∧ NmAt (CR K) H m xs L ∧ 0 < m ∧ m ≤ 6000 ∧ L.length ≤ 17 ∧
  ∀ l ws H2, H l = none → Same H H2 → H2 l = some (.lst ws) → LnAt (CR K) H2 (m + 6) ws (trim (derL (trim L))) → Q (.ref l) H2
def spTimesN (K : Frag) : Sp := fun vs H Q _ => ∃ a b xs ys A B m, vs = [.ref a, .ref b] ∧ SeqAt1 H a xs ∧ NmAt (CR K) H m xs A ∧ SeqAt1 H b ys ∧ NmAt (CR K) H m ys B ∧ 0 < m ∧ m ≤ 150 ∧ A.length ≤ 17 ∧ B.length ≤ 17 ∧ max (trim A).length 1 + max (trim B).length 1 ≤ 18 ∧
  ∀ l ws H2, H l = none → Same H H2 → H2 l = some (.lst ws) → LnAt (CR K) H2 (bdT m (trim A).length) ws (trim (timesL (trim A) (trim B))) → Q (.ref l) H2
theorem ok_plus (T : Tx K mg) : FG P w K mg base CX0 9 (ga K "plus") (fdOf K (ga K "plus")) ["line", "other"] (spTwoN K 3000 fun A B => (trim (plusL (trim A) (trim B)))) := by
  refine fg_no T.F_plus sc_plus (fun vs H Q E h => ?_) (fun cdv A outer s H vs Q E gg hr h => ?_)
  · obtain ⟨a, b, xs, ys, L, M, m, rfl, _⟩ := h
    rfl
  obtain ⟨a, b, xs, ys, L, M, m, rfl, ha, NA, hb, NB, m0, hm, hl1, hl2, k⟩ := h
  refine ⟨_, pss_one (ps_ret (pe_fn (ok_line_plus T) gg (hr.mono (by decide)) rfl T.g_line_plus T.F_line_plus.kp (b_line_plus T) .nil pass0 (pa_cons (pe_fn (ok_told T) gg (hr.mono (by decide)) rfl T.g_told T.F_told.kp (b_told T) .nil pass0 (pa_cons (pv 0) pa_nil)) (pa_cons (pe_fn (ok_told T) gg (hr.mono (by decide)) rfl T.g_told T.F_told.kp (b_told T) .nil pass0 (pa_cons (pv 1) pa_nil)) pa_nil)))), ?_⟩
  refine ⟨_, rfl, a, xs, L, m, rfl, ha, NA, hl1, by omega, fun l1 us H1 hl1' s1 h1 M1 => ?_⟩
  refine ⟨_, rfl, b, ys, M, m, rfl, hb.same s1, NB.same s1, hl2, by omega, fun l2 vs H2 hl2' s2 h2 M2 => ?_⟩
  have t1 := trim_le L
  have t2 := trim_le M
  exact ⟨l1, l2, us, vs, trim L, trim M, m, rfl, s2 _ _ h1, h2, M1.same s2, M2, m0, hm, by omega, by omega, fun l ws H3 hl s3 h3 M3 => k l ws (2 * m + 1) H3 (s1.free (s2.free hl)) ((s1.trans s2).trans s3) h3 M3 (by omega)⟩
theorem ok_minus (T : Tx K mg) : FG P w K mg base CX0 9 (ga K "minus") (fdOf K (ga K "minus")) ["line", "other"] (spTwoN K 3000 fun A B => (trim (plusL (trim A) (negL (trim B))))) := by
  refine fg_no T.F_minus sc_minus (fun vs H Q E h => ?_) (fun cdv A outer s H vs Q E gg hr h => ?_)
  · obtain ⟨a, b, xs, ys, L, M, m, rfl, _⟩ := h
    rfl
  obtain ⟨a, b, xs, ys, L, M, m, rfl, ha, NA, hb, NB, m0, hm, hl1, hl2, k⟩ := h
  refine ⟨_, pss_cons (ps_par (i := 2) (j := 3) (by rfl) sc_minus.nd rfl rfl (by decide) rfl rfl (pa_cons (pe_fn (ok_told T) gg (hr.mono (by decide)) rfl T.g_told T.F_told.kp (b_told T) .nil pass0 (pa_cons (pv 0) pa_nil)) (pa_cons (pe_fn (ok_told T) gg (hr.mono (by decide)) rfl T.g_told T.F_told.kp (b_told T) .nil pass0 (pa_cons (pv 1) pa_nil)) pa_nil)) (by rfl))
    (pss_one (ps_ret (pe_fn (ok_line_plus T) gg (hr.mono (by decide)) rfl T.g_line_plus T.F_line_plus.kp (b_line_plus T) .nil pass0 (pa_cons (pv 2) (pa_cons (pe_lc (own := [("number", 4)]) (g := gName 4) (tt := tYes) (by rfl) sc_minus.nd (pi_list (pv 3)) (blkOk_by (N := ["line", "other", "first", "second", "number"]) (sc := defScope s_minus) (by decide +kernel)) (fun _ _ _ _ _ => pg_name (i := 4) sc_minus.nd rfl (Or.inl rfl)) (fun _ _ _ _ _ => pts_nil) (fun _ _ _ _ _ => (pe_un (og_neg T.x_neg.1 T.x_neg.2 (ok_neg T) gg (hr.mono (by decide)) (b_Ratio_neg T) pass0) (pv 4)))) pa_nil))))), ?_⟩
  refine ⟨_, rfl, a, xs, L, m, rfl, ha, NA, hl1, by omega, fun l1 us H1 hl1' s1 h1 M1 => ?_⟩
  refine ⟨_, rfl, b, ys, M, m, rfl, hb.same s1, NB.same s1, hl2, by omega, fun l2 vs H2 hl2' s2 h2 M2 => ⟨_, _, rfl, ?_⟩⟩
  have t1 := trim_le L
  have t2 := trim_le M
  have lv := M2.len
  refine ⟨_, rfl, _, rfl, l2, rfl, ⟨_, SqL.of h2⟩, fun D hD => lc_list (K := K) (a := l2) (xs := vs) (fun i H3 => ∃ acc, H3 D = some (.lst acc) ∧ Same H2 H3 ∧ LnAt (CR K) H3 m acc ((negL (trim M)).take i) ∧ acc.length = i)
    ⟨[], upd_same, Same.put hD, LnAt.nil, rfl⟩ (fun i H3 _ ⟨_, _, s3, _⟩ => SqL.of (s3 _ _ h2)) ?_ ?_⟩
  · rintro i x H3 hx ⟨acc, hacc, s3, N, hn⟩
    obtain ⟨p, q, rfl, hq, Rp, op⟩ := M2.at_ i x hx
    have hi : i < vs.length := (List.getElem?_eq_some_iff.mp hx).1
    have R1 := Rp.same s3
    obtain ⟨dp, ep⟩ := id R1
    refine ⟨rfl, ?_⟩
    refine yes_if ?_
    refine ⟨_, rfl, p, dp, _, rfl, ep, p, _, m, rfl, R1, op, by omega, fun u H4 s4 R4 => ?_⟩
    rw [negP_pr] at R4
    have h4 := s4 _ _ hacc
    refine ⟨acc, h4, Nat.lt_of_lt_of_le (by omega : acc.length < 1000) (szl (by omega)), acc ++ [.ref u], upd_same, Same.lst (s3.trans s4) hD, ?_, by simp [hn]⟩
    rw [take_more (negL_get hq)]
    exact ((N.same s4).more R4 (OkP.negR op)).updl h4
  · rintro H3 ⟨acc, hacc, s3, N, hn⟩
    have e1 : vs.length = (negL (trim M)).length := by rw [negL_len]; exact lv
    rw [e1, List.take_length] at N
    exact ⟨l1, D, us, acc, trim L, negL (trim M), m, rfl, (s2.trans s3) _ _ h1, hacc, (M1.same s2).same s3, N, m0, hm, by omega, by rw [negL_len]; omega, fun l ws H4 hl s4 h4 M4 => k l ws (2 * m + 1) H4 (s1.free (s2.free (s3.free hl))) (((s1.trans s2).trans s3).trans s4) h4 M4 (by omega)⟩
theorem ok_scaled (T : Tx K mg) : FG P w K mg base CX0 9 (ga K "scaled") (fdOf K (ga K "scaled")) ["line", "number"] (spScalN K) := by
  refine fg_no T.F_scaled sc_scaled (fun vs H Q E h => ?_) (fun cdv A outer s H vs Q E gg hr h => ?_)
  · obtain ⟨a, c, xs, L, r, m, n, rfl, _⟩ := h
    rfl
  obtain ⟨a, c, xs, L, r, m, n, rfl, ha, NA, R, orr, m0, n0, hmn, hl, k⟩ := h
  refine ⟨_, pss_cons (ps_set (i := 2) sc_scaled.nd rfl (Or.inl rfl) (pe_fn (ok_told T) gg (hr.mono (by decide)) rfl T.g_told T.F_told.kp (b_told T) .nil pass0 (pa_cons (pv 0) pa_nil)))
    (pss_one (ps_ret (pe_fn (ok_line_scaled T) gg (hr.mono (by decide)) rfl T.g_line_scaled T.F_line_scaled.kp (b_line_scaled T) .nil pass0 (pa_cons (pv 2) (pa_cons (pe_fn (ok_as_ratio T) gg (hr.mono (by decide)) rfl T.g_as_ratio T.F_as_ratio.kp (b_as_ratio T) .nil pass0 (pa_cons (pv 1) pa_nil)) pa_nil))))), ?_⟩
  refine ⟨_, rfl, a, xs, L, m, rfl, ha, NA, hl, by omega, fun l1 us H1 hl1' s1 h1 M1 => ?_⟩
  have t1 := trim_le L
  refine ⟨_, rfl, _, rfl, c, pr r, rfl, R.same s1, fun r2 H2 s2 R2 => ?_⟩
  exact ⟨l1, r2, us, trim L, r, m, n, rfl, s2 _ _ h1, M1.same s2, R2, orr, m0, n0, hmn, by omega, fun l ws H3 hl s3 h3 M3 => k l ws H3 (s1.free (s2.free hl)) ((s1.trans s2).trans s3) h3 M3⟩
theorem ok_worth (T : Tx K mg) : FG P w K mg base CX0 9 (ga K "worth") (fdOf K (ga K "worth")) ["line", "number"] (spWorN K) := by
  refine fg_no T.F_worth sc_worth (fun vs H Q E h => ?_) (fun cdv A outer s H vs Q E gg hr h => ?_)
  · obtain ⟨a, c, xs, L, r, m, n, rfl, _⟩ := h
    rfl
  obtain ⟨a, c, xs, L, r, m, n, rfl, ha, NA, R, orr, m0, n0, hmn, hl, k⟩ := h
  refine ⟨_, pss_cons (ps_set (i := 2) sc_worth.nd rfl (Or.inl rfl) (pe_fn (ok_told T) gg (hr.mono (by decide)) rfl T.g_told T.F_told.kp (b_told T) .nil pass0 (pa_cons (pv 0) pa_nil)))
    (pss_one (ps_ret (pe_fn (ok_line_worth T) gg (hr.mono (by decide)) rfl T.g_line_worth T.F_line_worth.kp (b_line_worth T) .nil pass0 (pa_cons (pv 2) (pa_cons (pe_fn (ok_as_ratio T) gg (hr.mono (by decide)) rfl T.g_as_ratio T.F_as_ratio.kp (b_as_ratio T) .nil pass0 (pa_cons (pv 1) pa_nil)) pa_nil))))), ?_⟩
  refine ⟨_, rfl, a, xs, L, m, rfl, ha, NA, hl, by omega, fun l1 us H1 hl1' s1 h1 M1 => ?_⟩
  have t1 := trim_le L
  refine ⟨_, rfl, _, rfl, c, pr r, rfl, R.same s1, fun r2 H2 s2 R2 => ?_⟩
  exact ⟨l1, r2, us, trim L, r, m, n, rfl, s2 _ _ h1, M1.same s2, R2, orr, m0, n0, hmn, by omega, fun p H3 s3 R3 o3 => k p H3 ((s1.trans s2).trans s3) R3 (okp_le o3 (Nat.add_le_add_left (Nat.mul_le_mul_right _ t1) 1))⟩
theorem ok_derived (T : Tx K mg) : FG P w K mg base CX0 9 (ga K "derived") (fdOf K (ga K "derived")) ["line"] (spDerN K) := by
  refine fg_no T.F_derived sc_derived (fun vs H Q E h => ?_) (fun cdv A outer s H vs Q E gg hr h => ?_)
  · obtain ⟨a, xs, L, m, rfl, _⟩ := h
    rfl
  obtain ⟨a, xs, L, m, rfl, ha, NA, m0, hm, hl, k⟩ := h
  refine ⟨_, pss_one (ps_ret (pe_fn (ok_line_derived T) gg (hr.mono (by decide)) rfl T.g_line_derived T.F_line_derived.kp (b_line_derived T) .nil pass0 (pa_cons (pe_fn (ok_told T) gg (hr.mono (by decide)) rfl T.g_told T.F_told.kp (b_told T) .nil pass0 (pa_cons (pv 0) pa_nil)) pa_nil))), ?_⟩
  refine ⟨_, rfl, a, xs, L, m, rfl, ha, NA, hl, by omega, fun l1 us H1 hl1' s1 h1 M1 => ?_⟩
  have t1 := trim_le L
  exact ⟨l1, us, trim L, m, rfl, h1, M1, m0, hm, by omega, fun l ws H3 hl s3 h3 M3 => k l ws H3 (s1.free hl) (s1.trans s3) h3 M3⟩
theorem ok_times (T : Tx K mg) : FG P w K mg base CX0 9 (ga K "times") (fdOf K (ga K "times")) ["line", "other"] (spTimesN K) := by
  refine fg_no T.F_times sc_times (fun vs H Q E h => ?_) (fun cdv A outer s H vs Q E gg hr h => ?_)
  · obtain ⟨a, b, xs, ys, L, M, m, rfl, _⟩ := h
    rfl
  obtain ⟨a, b, xs, ys, L, M, m, rfl, ha, NA, hb, NB, m0, hm, hl1, hl2, hs, k⟩ := h
  refine ⟨_, pss_cons (ps_par (i := 2) (j := 3) (by rfl) sc_times.nd rfl rfl (by decide) rfl rfl (pa_cons (pe_fn (ok_told T) gg (hr.mono (by decide)) rfl T.g_told T.F_told.kp (b_told T) .nil pass0 (pa_cons (pv 0) pa_nil)) (pa_cons (pe_fn (ok_told T) gg (hr.mono (by decide)) rfl T.g_told T.F_told.kp (b_told T) .nil pass0 (pa_cons (pv 1) pa_nil)) pa_nil)) (by rfl))
    (pss_cons (ps_if (pt_cmpR op_gt (pe_op op_add (pe_callB (call_max2 rfl) (by rfl) T.n_max (by decide +kernel) (pa_cons (pe_callB call_len (by rfl) T.n_len PySem.boot_len (pa_cons (pv 2) pa_nil)) (pa_cons pe_int pa_nil))) (pe_callB (call_max2 rfl) (by rfl) T.n_max (by decide +kernel) (pa_cons (pe_callB call_len (by rfl) T.n_len PySem.boot_len (pa_cons (pv 3) pa_nil)) (pa_cons pe_int pa_nil)))) (pe_op op_add (pe_gint rfl T.v_MOST_NUMBERS) pe_int) (nomark _)) (pss_one ps_never) pss_nil)
    (pss_one (ps_ret (pe_fn (ok_line_times T) gg (hr.mono (by decide)) rfl T.g_line_times T.F_line_times.kp (b_line_times T) .nil pass0 (pa_cons (pv 2) (pa_cons (pv 3) pa_nil)))))), ?_⟩
  refine ⟨_, rfl, a, xs, L, m, rfl, ha, NA, hl1, by omega, fun l1 us H1 hl1' s1 h1 M1 => ?_⟩
  refine ⟨_, rfl, b, ys, M, m, rfl, hb.same s1, NB.same s1, hl2, by omega, fun l2 vs H2 hl2' s2 h2 M2 => ⟨_, _, rfl, ?_⟩⟩
  have t1 := trim_le L
  have t2 := trim_le M
  have lu := M1.len
  have lv := M2.len
  refine ⟨_, rfl, _, _, rfl, .inl ⟨_, SqL.of (s2 _ _ h1), rfl⟩, _, _, rfl, _, rfl, _, _, rfl, .inl ⟨_, SqL.of h2, rfl⟩, _, _, rfl, _, _, rfl, rfl, _, _, rfl, rfl, _, _, rfl, rfl, _, rfl, ?_⟩
  have e0 : decide ((17 : Int) + 1 < (if (1 : Int) > ((us.length : Nat) : Int) then 1 else ((us.length : Nat) : Int)) + (if (1 : Int) > ((vs.length : Nat) : Int) then 1 else ((vs.length : Nat) : Int))) = false := by
    refine decide_eq_false ?_
    split <;> split <;> omega
  rw [e0]
  refine iteF ?_
  exact ⟨_, rfl, _, rfl, l1, l2, us, vs, trim L, trim M, m, rfl, s2 _ _ h1, h2, M1.same s2, M2, m0, hm, by omega, by omega, fun l ws H3 hl s3 h3 M3 => k l ws H3 (s1.free (s2.free hl)) ((s1.trans s2).trans s3) h3 M3⟩
end
end K31

set_option Elab.async false
set_option linter.all false
set_option maxRecDepth 100000
set_option maxHeartbeats 4000000
namespace K31
open PySem PySem.Spec PyProof.Rows L2 Own
open PySem.W (Frag)
section
variable {P : Program} {w : World} {K : Frag} {mg : Str → Option Value} {base : Heap}
/-- the pot: two numbers in a list -/
def PotAt (H : Hp) (p : Addr) : Prop := ∃ a b : Int, H p = some (.lst [.int a, .int b]) ∧ 0 ≤ b ∧ b < 2147483648
/-- all but p stays -/
def Sb (p : Addr) (H H2 : Hp) : Prop := ∀ c o, H c = some o → c ≠ p → H2 c = some o
theorem Sb.trans {p : Addr} {H H1 H2 : Hp} (a : Sb p H H1) (b : Sb p H1 H2) : Sb p H H2 := fun c o e n => b c o (a c o e n) n
theorem Sb.of {p : Addr} {H H2 : Hp} (a : Same H H2) : Sb p H H2 := fun c o e _ => a c o e
theorem Sb.refl {p : Addr} {H : Hp} : Sb p H H := fun c o e _ => e
theorem pot_lt (x : Int) : x % 2147483563 + 1 < 2147483648 := by omega
def spPot (K : Frag) : Sp := fun vs H Q _ => ∃ (a : Addr) (ns : List Int), vs = [.ref a, .int 0] ∧ SqL K H a (ns.map V.int) ∧ ns.length ≤ 63 ∧ ∀ p H2, Same H H2 → PotAt H2 p → Q (.ref p) H2
theorem ok_pot (T : Tx K mg) : FG P w K mg base CX0 1 (ga K "_law_pot") (fdOf K (ga K "_law_pot")) ["_law_script", "_law_k"] (spPot K) := by
  refine fg_no T.F_law_pot sc_law_pot (fun vs H Q E h => ?_) (fun cdv A outer s H vs Q E gg hr h => ?_)
  · obtain ⟨a, ns, rfl, _⟩ := h
    rfl
  obtain ⟨a, ns, rfl, hS, hl, k⟩ := h
  refine ⟨_, pss_cons (ps_set (i := 2) sc_law_pot.nd rfl (Or.inl rfl) (pe_op op_add (pe_op op_mul pe_int (pv 1)) pe_int))
    (pss_cons (ps_if (pt_cmpR op_lt (pv 1) (pe_callB call_len (by rfl) T.n_len PySem.boot_len (pa_cons (pv 0) pa_nil)) (nomark _))
      (pss_one (ps_set (i := 2) sc_law_pot.nd rfl (Or.inl rfl) (pe_callB call_abs (by rfl) T.n_abs (by decide +kernel) (pa_cons (pe_ix ix_list (pv 0) (pv 1) (fun _ _ => rfl)) pa_nil)))) pss_nil)
    (pss_one (ps_ret (pe_lst (pa_cons (pe_callB (call_max2 rfl) (by rfl) T.n_max (by decide +kernel) (pa_cons pe_int (pa_cons (pe_op op_sub (pv 2) (pe_op op_pow pe_int pe_int)) pa_nil)))
      (pa_cons (pe_op op_add (pe_op op_mod (pe_callTy call_int1 (by rfl) T.n_int (by decide +kernel) (pa_cons (pe_op op_add (pe_op op_add (pe_op op_mul (pe_op op_mod (pe_callTy call_int1 (by rfl) T.n_int (by decide +kernel) (pa_cons (pv 2) pa_nil)) pe_int) pe_int) (pe_op op_mul pe_int (pv 1))) pe_int) pa_nil)) pe_int) pe_int) pa_nil)))))), ?_⟩
  refine ⟨_, rfl, _, _, rfl, rfl, .inl ⟨by decide, by decide⟩, _, _, rfl, rfl, ?_⟩
  refine ⟨_, rfl, _, rfl, _, _, rfl, .inl ⟨_, hS, rfl⟩, _, _, rfl, rfl, _, rfl, ?_⟩
  refine ite2 (fun z => ?_) (fun z => ?_)
  · have hn : 0 < ns.length := by
      have z2 : (0 : Int) < ((ns.map V.int).length : Int) := of_decide_eq_true z
      rw [List.length_map] at z2
      omega
    obtain ⟨n0, hn0⟩ : ∃ n0, ns[0]? = some n0 := ⟨ns[0], List.getElem?_eq_getElem hn⟩
    refine ⟨_, rfl, _, rfl, a, _, _, V.int n0, rfl, rfl, hS, at_of (j := 0) rfl (by rw [List.getElem?_map, hn0]; rfl), _, rfl, ?_⟩
    refine ⟨_, rfl, _, _, rfl, rfl, ⟨by decide, by decide, by decide⟩, _, _, rfl, rfl, _, _, rfl, _, rfl, .inl ⟨_, rfl, _, _, rfl, rfl, (by show (0 : Int) < 2147483549; decide), _, _, rfl, rfl, .inr ⟨by decide, by decide⟩, _, rfl, _, _, rfl, rfl, .inl ⟨by decide, by decide⟩, _, _, rfl, rfl, _, _, rfl, rfl, .inl ⟨_, rfl, _, _, rfl, rfl, (by show (0 : Int) < 2147483563; decide), _, _, rfl, rfl, (by show 2 ≤ sizeLine; decide), fun p hp => ?_⟩⟩⟩
    refine k p _ (fun b o e => by rw [upd_ne (ne_of_none e hp)]; exact e) ⟨_, _, upd_same, ?_, ?_⟩
    · exact Int.add_nonneg (Int.emod_nonneg _ (by decide)) (by decide)
    · exact pot_lt _
  · refine ⟨_, rfl, _, _, rfl, rfl, ⟨by decide, by decide, by decide⟩, _, _, rfl, rfl, _, _, rfl, _, rfl, .inl ⟨_, rfl, _, _, rfl, rfl, (by show (0 : Int) < 2147483549; decide), _, _, rfl, rfl, .inr ⟨by decide, by decide⟩, _, rfl, _, _, rfl, rfl, .inl ⟨by decide, by decide⟩, _, _, rfl, rfl, _, _, rfl, rfl, .inl ⟨_, rfl, _, _, rfl, rfl, (by show (0 : Int) < 2147483563; decide), _, _, rfl, rfl, (by show 2 ≤ sizeLine; decide), fun p hp => ?_⟩⟩⟩
    refine k p _ (fun b o e => by rw [upd_ne (ne_of_none e hp)]; exact e) ⟨_, _, upd_same, ?_, ?_⟩
    · exact Int.add_nonneg (Int.emod_nonneg _ (by decide)) (by decide)
    · exact pot_lt _
/-- a draw -/
def spDraw : Sp := fun vs H Q _ => ∃ (p : Addr) (n : Int), vs = [.ref p, .int n] ∧ PotAt H p ∧ 0 < n ∧ n < 1000000 ∧ ∀ d H2, 0 ≤ d → d < n → PotAt H2 p → Sb p H H2 → Q (.int d) H2
theorem ok_draw (T : Tx K mg) : FG P w K mg base CX0 1 (ga K "_law_draw") (fdOf K (ga K "_law_draw")) ["_law_pot_here", "_law_many"] spDraw := by
  refine fg_no T.F_law_draw sc_law_draw (fun vs H Q E h => ?_) (fun cdv A outer s H vs Q E gg hr h => ?_)
  · obtain ⟨p, n, rfl, _⟩ := h
    rfl
  obtain ⟨p, n, rfl, ⟨a, b, hp, b0, b1⟩, n0, n1, k⟩ := h
  refine ⟨_, pss_cons (ps_if (pt_cmpR op_gt (pe_ix ix_list (pv 0) pe_int (fun _ _ => rfl)) pe_int (nomark _))
      (pss_cons (ps_asg (pe_callB call_divmodW (by rfl) T.n_divmod (by decide +kernel) (pa_cons (pe_ix ix_list (pv 0) pe_int (fun _ _ => rfl)) (pa_cons (pv 1) pa_nil)))
        (pg_tup rfl (pgs_cons (pg_sub (pv 0) pe_int set_list) (pgs_cons (pg_name (i := 2) sc_law_draw.nd rfl (Or.inl rfl)) pgs_nil)))) (pss_one (ps_ret (pv 2)))) pss_nil)
    (pss_cons (ps_asg (pe_op op_mod (pe_callTy call_int1 (by rfl) T.n_int (by decide +kernel) (pa_cons (pe_op op_add (pe_op op_mul (pe_ix ix_list (pv 0) pe_int (fun _ _ => rfl)) pe_int) pe_int) pa_nil)) pe_int) (pg_sub (pv 0) pe_int set_list))
    (pss_one (ps_ret (pe_op op_mod (pe_callTy call_int1 (by rfl) T.n_int (by decide +kernel) (pa_cons (pe_op op_fdiv (pe_op op_mod (pe_callTy call_int1 (by rfl) T.n_int (by decide +kernel)
      (pa_cons (pe_op op_mul (pe_ix ix_list (pv 0) pe_int (fun _ _ => rfl)) (pe_ix ix_list (pv 0) pe_int (fun _ _ => rfl))) pa_nil)) pe_int) pe_int) pa_nil)) (pv 1))))), ?_⟩
  refine ⟨_, rfl, p, _, _, .int a, rfl, rfl, SqL.of hp, at_of (j := 0) rfl rfl, _, _, rfl, rfl, _, rfl, ?_⟩
  refine ite2 (fun z => ?_) (fun z => ?_)
  · refine ⟨_, rfl, p, _, _, .int a, rfl, rfl, SqL.of hp, at_of (j := 0) rfl rfl, _, rfl, a, n, rfl, ⟨n0, PyProof.noPylong_small (by omega)⟩, fun t ht => ?_⟩
    have npt : p ≠ t := ne_of_none hp ht
    have hp2 : (upd H t (.tup [.int (a / n), .int (a % n)])) p = some (.lst [.int a, .int b]) := by rw [upd_ne npt]; exact hp
    refine ⟨t, _, rfl, SqT.of upd_same, rfl, ?_⟩
    refine ⟨_, _, rfl, _, rfl, p, _, 0, 0, rfl, rfl, hp2, rfl, ?_⟩
    refine ⟨_, _, rfl, rfl, _, rfl, k (a % n) _ (Int.emod_nonneg _ (by omega)) (Int.emod_lt_of_pos _ n0) ⟨_, _, upd_same, b0, b1⟩ fun c o e hc => ?_⟩
    rw [upd_ne hc, upd_ne (ne_of_none e ht)]
    exact e
  · refine ⟨_, rfl, p, _, _, .int b, rfl, rfl, SqL.of hp, at_of (j := 1) rfl rfl, _, _, rfl, rfl, .inl ⟨by omega, by omega⟩, _, _, rfl, rfl, .inl ⟨_, rfl, _, _, rfl, rfl, (by show (0 : Int) < 2147483587; decide), ?_⟩⟩
    refine ⟨_, rfl, p, _, 1, 1, rfl, rfl, hp, rfl, ?_⟩
    have c0 : 0 ≤ (b * 39373 + 257) % 2147483587 := Int.emod_nonneg _ (by decide)
    have c1 : (b * 39373 + 257) % 2147483587 < 2147483587 := Int.emod_lt_of_pos _ (by decide)
    have m1 : -(2 ^ 64) < (b * 39373 + 257) % 2147483587 ∧ (b * 39373 + 257) % 2147483587 < 2 ^ 64 := by omega
    refine ⟨_, rfl, p, _, _, .int ((b * 39373 + 257) % 2147483587), rfl, rfl, SqL.of upd_same, at_of (j := 1) rfl rfl, _, rfl, p, _, _, .int ((b * 39373 + 257) % 2147483587), rfl, rfl, SqL.of upd_same, at_of (j := 1) rfl rfl, _, _, rfl, rfl, .inl m1, .inl ⟨_, rfl, _, _, rfl, rfl, (by show (0 : Int) < 2147483563; decide),
      _, _, rfl, rfl, ⟨by decide, by decide⟩, .inl ⟨_, rfl, _, rfl, _, _, rfl, rfl, n0, ?_⟩⟩⟩
    refine k _ _ (Int.emod_nonneg _ (by omega)) (Int.emod_lt_of_pos _ n0) ⟨_, _, upd_same, c0, by omega⟩ fun c o e hc => ?_
    rw [upd_ne hc]
    exact e
/-- a pick out of a list -/
def spPick (K : Frag) : Sp := fun vs H Q _ => ∃ (p l : Addr) (xs : List V), vs = [.ref p, .ref l] ∧ PotAt H p ∧ H l = some (.lst xs) ∧ l ≠ p ∧ 0 < xs.length ∧ xs.length < 1000000 ∧ ∀ (i : Nat) x H2, xs[i]? = some x → PotAt H2 p → Sb p H H2 → Q x H2
theorem ok_pick (T : Tx K mg) : FG P w K mg base CX0 2 (ga K "_law_pick") (fdOf K (ga K "_law_pick")) ["_law_pot_here", "_law_some"] (spPick K) := by
  refine fg_no T.F_law_pick sc_law_pick (fun vs H Q E h => ?_) (fun cdv A outer s H vs Q E gg hr h => ?_)
  · obtain ⟨p, l, xs, rfl, _⟩ := h
    rfl
  obtain ⟨p, l, xs, rfl, hp, hl, npl, l0, l1, k⟩ := h
  refine ⟨_, pss_one (ps_ret (pe_ix ix_list (pv 1) (pe_fn (ok_draw T) gg hr rfl T.g_law_draw T.F_law_draw.kp (b_law_draw T) .nil pass0 (pa_cons (pv 0) (pa_cons (pe_callB call_len (by rfl) T.n_len PySem.boot_len (pa_cons (pv 1) pa_nil)) pa_nil))) (fun _ _ => rfl))), ?_⟩
  refine ⟨_, rfl, _, rfl, _, rfl, _, _, rfl, .inl ⟨_, SqL.of hl, rfl⟩, p, _, rfl, hp, by omega, by omega, fun d H2 d0 d1 hp2 sb => ?_⟩
  have hi : d.toNat < xs.length := by omega
  have hx : xs[d.toNat]? = some xs[d.toNat] := List.getElem?_eq_getElem hi
  exact ⟨l, _, _, _, rfl, rfl, SqL.of (sb _ _ hl npl), at_of (j := d.toNat) (by omega) hx, k d.toNat _ H2 hx hp2 sb⟩
theorem mo_un {r : V → Hp → VK → Prop} {a : TE} (hr : ∀ x (H : Hp) (Q Q' : VK), (∀ v H1, Q v H1 → Q' v H1) → r x H Q → r x H Q') (ha : MoE a) : MoE (tUn r a) := fun σ H Q Q' h q => ha σ H _ _ (fun x H1 q1 => hr _ _ _ _ h q1) q
theorem mo_rU {g : Int → V} : ∀ x (H : Hp) (Q Q' : VK), (∀ v H1, Q v H1 → Q' v H1) → rU g x H Q → rU g x H Q' := fun x H Q Q' h ⟨i, e, q⟩ => ⟨i, e, h _ _ q⟩
theorem at_last {xs : List V} {n : Nat} {x : V} (hn : xs.length = n + 1) (e : xs[n]? = some x) : atI xs (-1) = some x := by
  unfold atI ixN
  rw [if_neg (by omega), if_pos (by omega)]
  show xs[(-1 + (xs.length : Int)).toNat]? = some x
  have : (-1 + (xs.length : Int)).toNat = n := by omega
  rw [this, e]
theorem ok_ltrim (T : Tx K mg) : FG P w K mg base CX0 3 (ga K "_law_trim") (fdOf K (ga K "_law_trim")) ["_law_line_here"] (spTrim K) := by
  refine fg_no T.F_law_trim sc_law_trim (fun vs H Q E h => ?_) (fun cdv A outer s H vs Q E gg hr h => ?_)
  · obtain ⟨a, xs, L, m, rfl, _⟩ := h
    rfl
  obtain ⟨a, xs, L, m, rfl, ha, M, hl, k⟩ := h
  refine ⟨_, pss_cons (ps_set (i := 1) sc_law_trim.nd rfl (Or.inl rfl) (pe_callTy call_list_of (by rfl) T.n_list (by decide +kernel) (pa_cons (pv 0) pa_nil)))
    (pss_cons (ps_while PassesOwn.never (PW.pt (pw_and (pt_cmpR (or_r2 (op_neD hr.units) (op_neLen hr.units)) (pv 1) (pe_lst pa_nil) (nomark _)) (pw_and1 (pt_cmpR op_eq (pe_pr (pe_ix ix_list (pv 1) (pe_un un_neg pe_int) (fun _ _ => rfl)) T.cl_Ratio T.p_sign (ok_sign T) gg (hr.mono (by decide)) (b_Ratio_sign T) .nil pass0) pe_int (nomark _))))) (pss_one (ps_expr (pe_bm0 PySem.F.plainAttrs_list PySem.F.slot_list_pop PySem.F.type_list_pop mt_pop (pv 1)))))
    (pss_one (ps_ret (pv 1)))), ?_⟩
  refine ⟨_, rfl, a, _, rfl, .inl (SqL.of ha), fun D hD => ?_⟩
  have hxl := M.len
  refine while_by (fun σ H2 => ∃ n : Nat, σ = [some (.ref a), some (.ref D)] ∧ H2 D = some (.lst (xs.take n)) ∧ Same H H2 ∧ n ≤ L.length ∧ trimN L n = trimN L L.length)
    (fun (_ : L2.St) (H2 : Hp) => match H2 D with | some (.lst l) => l.length | _ => 0) ⟨xs.length, rfl, by rw [List.take_length]; exact upd_same, Same.put hD, by omega, by rw [hxl]⟩ ?_ ?_
  · rintro σ H2 ⟨n, rfl, hd, s2, hn, ht⟩
    have fin : ∀ H3, Same H2 H3 → trimN L L.length = n → Q (.ref D) H3 := fun H3 s3 e => by
      refine k D (xs.take n) H3 hD (s2.trans s3) (s3 _ _ hd) ?_
      have : trim L = L.take n := by unfold trim; rw [e]
      rw [this]
      exact (M.take n).same (s2.trans s3)
    refine ⟨_, rfl, (by show 0 ≤ sizeLine; omega), fun e he => ?_⟩
    have t3 : Same H2 (upd H2 e (.lst [])) := Same.put he
    have he3 : (upd H2 e (.lst [])) e = some (.lst []) := upd_same
    generalize upd H2 e (.lst []) = H3 at t3 he3
    have hd3 := t3 _ _ hd
    cases n with
    | zero =>
      refine .inl (ne_same (d := .list []) (.lst (SqL.of hd3) (by rw [List.take_zero]; exact .nil)) (.lst (SqL.of he3) .nil) (by rfl) ⟨false, rfl, ?_⟩)
      refine iteF ?_
      exact ⟨_, rfl, fin H3 t3 (by rw [← ht]; rfl)⟩
    | succ n =>
      have ln : (xs.take (n + 1)).length = n + 1 := by rw [List.length_take]; omega
      refine .inr ⟨D, e, _, _, rfl, rfl, hd3, he3, by rw [ln]; exact Nat.succ_ne_zero n, true, rfl, ?_⟩
      refine iteT ?_
      have hL : L[n]? = some L[n] := List.getElem?_eq_getElem (by omega)
      obtain ⟨b, hx, R, o⟩ := M.get hL
      have hx2 : (xs.take (n + 1))[n]? = some (.ref b) := by rw [List.getElem?_take, if_pos (by omega)]; exact hx
      have R3 := R.same (s2.trans t3)
      obtain ⟨dx, eb⟩ := id R3
      refine ⟨_, rfl, _, rfl, D, _, _, .ref b, rfl, rfl, SqL.of hd3, at_last ln hx2, b, dx, _, rfl, eb, b, _, rfl, R3, rfl, _, rfl, ?_⟩
      refine ite2 (fun z2 => ?_) (fun z2 => ?_)
      · have q0 : L[n] = 0 := sgn_zero.mp (by simpa using z2)
        refine ⟨_, rfl, .inl ⟨rfl, _, SqL.of hd3⟩, D, _, .ref b, rfl, rfl, hd3, by rw [ln]; exact hx2, ⟨n, rfl, ?_, Same.lst (s2.trans t3) hD, by omega, ?_⟩, ?_⟩
        · rw [List.dropLast_eq_take, ln, List.take_take]
          have : min (n + 1 - 1) (n + 1) = n := by omega
          rw [this]
          exact upd_same
        · rw [← ht]
          show _ = (if L[n]? = some 0 then trimN L n else n + 1)
          rw [hL, q0, if_pos rfl]
        · rw [hd, upd_same]
          show (xs.take (n + 1)).dropLast.length < (xs.take (n + 1)).length
          rw [List.length_dropLast, ln]
          omega
      · have q0 : ¬ L[n] = 0 := fun e => z2 (by rw [e]; rfl)
        refine ⟨_, rfl, fin H3 t3 ?_⟩
        rw [← ht]
        show (if L[n]? = some 0 then trimN L n else n + 1) = _
        rw [hL, if_neg (fun e => q0 (Option.some.inj e))]
  · exact mo_and (mo_test (mo_op (mo_or mo_neD mo_len) mo_var (mo_lst mo_nil))) (mo_test (mo_op mo_eq (mo_prop (fun vs H Q Q' h q => mo_sign h q) (mo_op mo_ixL mo_var (mo_un mo_rU mo_c))) mo_c))
end
end K31

set_option Elab.async false
set_option linter.all false
set_option maxRecDepth 100000
set_option maxHeartbeats 4000000
namespace K31
open PySem PySem.Spec PyProof.Rows L2 Own
open PySem.W (Frag)
section
variable {P : Program} {w : World} {K : Frag} {mg : Str → Option Value} {base : Heap}
theorem ixL {X : Cx} (h : X.K = K) : IxR X (rIxL K) := h ▸ ix_list
def spAt (K : Frag) : Sp := fun vs H Q _ => ∃ (a : Addr) (i : Nat) (xs : List V) (L : List Rat) (m : Nat), vs = [.ref a, .int (i : Nat)] ∧ H a = some (.lst xs) ∧ LnAt (CR K) H m xs L ∧ 0 < m ∧
  ∀ p H2, Same H H2 → RatAt (CR K) H2 p (pr (L.getD i 0)) → OkP m (pr (L.getD i 0)) → Q (.ref p) H2
theorem ok_lat (T : Tx K mg) : FG P w K mg base CX0 5 (ga K "_law_at") (fdOf K (ga K "_law_at")) ["_law_line_here", "_law_place"] (spAt K) := by
  refine fg_no T.F_law_at sc_law_at (fun vs H Q E h => ?_) (fun cdv A outer s H vs Q E gg hr h => ?_)
  · obtain ⟨a, i, xs, L, m, rfl, _⟩ := h
    rfl
  obtain ⟨a, i, xs, L, m, rfl, ha, LA, m0, k⟩ := h
  obtain ⟨ds, rd, bd⟩ := b_init1 T
  refine ⟨_, (pss_one (ps_ret (pe_ifExp (pt_cmpR op_lt (pv 1) (pe_callB call_len (by rfl) T.n_len PySem.boot_len (pa_cons (pv 0) pa_nil)) (nomark _)) (pe_ix ix_list (pv 0) (pv 1) (fun _ _ => rfl)) (pe_mk T.mk_Ratio (ok_init T) gg (hr.mono (by decide)) rfl T.g_Ratio bd rd pass0 (pa_cons pe_int pa_nil))))), ?_⟩
  have lx := LA.len
  refine ⟨_, rfl, _, rfl, _, _, rfl, .inl ⟨_, SqL.of ha, rfl⟩, _, _, rfl, rfl, _, rfl, ?_⟩
  refine ite2 (fun z => ?_) (fun z => ?_)
  · have hi : i < xs.length := by
      have := of_decide_eq_true z
      omega
    have hL : L[i]? = some L[i] := List.getElem?_eq_getElem (by omega)
    obtain ⟨b, hx, R, o⟩ := LA.get hL
    have e : L.getD i 0 = L[i] := by simp [List.getD, hL]
    exact ⟨_, rfl, _, rfl, a, _, _, .ref b, rfl, rfl, SqL.of ha, at_of (j := i) rfl hx, k b H (Same.refl _) (by rw [e]; exact R) (by rw [e]; exact o)⟩
  · have hi : ¬ i < xs.length := fun q => z (decide_eq_true (by omega))
    have e : L.getD i 0 = 0 := by simp [List.getD, List.getElem?_eq_none (show L.length ≤ i by omega)]
    refine fun x1 d1 n1 n2 n3 => ?_
    refine mkA n1 n2 (by decide) (by unfold Sz; decide +kernel) fun H1 s1 R1 => ?_
    rw [zero_pr] at R1
    exact k x1 H1 s1 (by rw [e]; exact R1) (by rw [e]; exact okp_le ok_zero m0)
theorem ok_lplus (T : Tx K mg) : FG P w K mg base CX0 8 (ga K "_law_plus") (fdOf K (ga K "_law_plus")) ["_law_one", "_law_other"] (spTwoL K plusL) := by
  refine fg_no T.F_law_plus sc_law_plus (fun vs H Q E h => spTwoL_len h) (fun cdv A outer s H vs Q E gg hr h => ?_)
  obtain ⟨a, b, xs, ys, L, M, m, rfl, ha, hb, LA, LB, m0, hm, hl1, hl2, k⟩ := h
  refine ⟨_, pss_one (ps_ret (pe_fn (ok_ltrim T) gg (hr.mono (by decide)) rfl T.g_law_trim T.F_law_trim.kp (b_law_trim T) .nil pass0 (pa_cons (pe_lc (own := [("_law_place", 2)]) (g := gName 2) (tt := tYes) (by rfl) sc_law_plus.nd (pi_range1 (by rfl) T.n_range (pa_cons (pe_callB (call_max2 rfl) (by rfl) T.n_max (by decide +kernel) (pa_cons (pe_callB call_len (by rfl) T.n_len PySem.boot_len (pa_cons (pv 0) pa_nil)) (pa_cons (pe_callB call_len (by rfl) T.n_len PySem.boot_len (pa_cons (pv 1) pa_nil)) pa_nil))) pa_nil)) (blkOk_by (N := ["_law_one", "_law_other", "_law_place"]) (sc := defScope s_law_plus) (by decide +kernel)) (fun _ _ _ _ _ => pg_name (i := 2) sc_law_plus.nd rfl (Or.inl rfl)) (fun _ _ _ _ _ => pts_nil) (fun _ _ _ _ _ => (pe_op (og_both (op := .Add) T.i_add.1 (ok_add T) gg (hr.mono (by decide)) (b_Ratio_add T) pass0) (pe_fn (ok_lat T) gg (hr.mono (by decide)) rfl T.g_law_at T.F_law_at.kp (b_law_at T) .nil pass0 (pa_cons (pv 0) (pa_cons (pv 2) pa_nil))) (pe_fn (ok_lat T) gg (hr.mono (by decide)) rfl T.g_law_at T.F_law_at.kp (b_law_at T) .nil pass0 (pa_cons (pv 1) (pa_cons (pv 2) pa_nil)))))) pa_nil))), ?_⟩
  have lx := LA.len
  have ly := LB.len
  obtain ⟨W, eW⟩ : ∃ W, W = max L.length M.length := ⟨_, rfl⟩
  have e0 : (if ((ys.length : Nat) : Int) > ((xs.length : Nat) : Int) then ((ys.length : Nat) : Int) else ((xs.length : Nat) : Int)) = (W : Int) := by
    split <;> omega
  refine ⟨_, rfl, _, _, rfl, .inl ⟨_, SqL.of ha, rfl⟩, _, rfl, _, _, rfl, .inl ⟨_, SqL.of hb, rfl⟩, _, _, rfl, ?_⟩
  rw [e0]
  refine ⟨_, rfl, by omega, by omega, fun D hD => lc_range (lo := 0) (n := (W : Int).toNat) (fun i H3 => ∃ acc, H3 D = some (.lst acc) ∧ Same H H3 ∧ LnAt (CR K) H3 (2 * m + 1) acc ((plusL L M).take i) ∧ acc.length = i)
    ⟨[], upd_same, Same.put hD, LnAt.nil, rfl⟩ ?_ ?_⟩
  · rintro i H3 hi ⟨acc, hacc, s3, N, hn⟩
    have hi2 : i < W := by omega
    have ei : (0 : Int) + (i : Int) = (i : Int) := Int.zero_add _
    rw [ei]
    refine ⟨rfl, ?_⟩
    refine yes_if ?_
    refine ⟨_, rfl, _, rfl, a, i, xs, L, m, rfl, s3 _ _ ha, LA.same s3, m0, fun p H4 s4 Rp op => ?_⟩
    refine ⟨_, rfl, _, rfl, b, i, ys, M, m, rfl, (s3.trans s4) _ _ hb, LB.same (s3.trans s4), m0, fun q H5 s5 Rq oq => ?_⟩
    have Rp5 := Rp.same s5
    obtain ⟨dp, ep⟩ := id Rp5
    obtain ⟨dq, eq⟩ := id Rq
    refine ⟨p, dp, _, q, dq, _, rfl, rfl, ep, eq, p, .ref q, _, _, m, m, rfl, Rp5, .inr ⟨q, rfl, Rq⟩, op, oq, m0, m0, by omega, fun u H6 s6 R6 => ?_⟩
    rw [addP_pr] at R6
    have s36 := s4.trans (s5.trans s6)
    have h6 := s36 _ _ hacc
    refine ⟨acc, h6, Nat.lt_of_lt_of_le (by omega : acc.length < 1000) (szl (by omega)), acc ++ [.ref u], upd_same, Same.lst (s3.trans s36) hD, ?_, by simp [hn]⟩
    rw [take_more (plusL_get (by omega))]
    exact ((N.same s36).more R6 (okp_le (OkP.addR op oq) (by omega))).updl h6
  · rintro H3 ⟨acc, hacc, s3, N, hn⟩
    have e1 : (W : Int).toNat = (plusL L M).length := by rw [plusL_len]; omega
    rw [e1, List.take_length] at N
    exact ⟨D, acc, plusL L M, 2 * m + 1, rfl, hacc, N, by rw [plusL_len]; omega, fun l ws H10 hl s10 h10 M10 => k l ws H10 (s3.free hl) (s3.trans s10) h10 M10⟩
theorem ok_lscaled (T : Tx K mg) : FG P w K mg base CX0 8 (ga K "_law_scaled") (fdOf K (ga K "_law_scaled")) ["_law_line_here", "_law_number_here"] (spScal K) := by
  refine fg_no T.F_law_scaled sc_law_scaled (fun vs H Q E h => ?_) (fun cdv A outer s H vs Q E gg hr h => ?_)
  · obtain ⟨a, c, xs, L, r, m, n, rfl, _⟩ := h
    rfl
  obtain ⟨a, c, xs, L, r, m, n, rfl, ha, LA, R, orr, m0, n0, hmn, hl, k⟩ := h
  refine ⟨_, (pss_one (ps_ret (pe_fn (ok_ltrim T) gg (hr.mono (by decide)) rfl T.g_law_trim T.F_law_trim.kp (b_law_trim T) .nil pass0 (pa_cons (pe_lc (own := [("_law_entry", 2)]) (g := gName 2) (tt := tYes) (by rfl) sc_law_scaled.nd (pi_list (pv 0)) (blkOk_by (N := ["_law_line_here", "_law_number_here", "_law_entry"]) (sc := defScope s_law_scaled) (by decide +kernel)) (fun _ _ _ _ _ => pg_name (i := 2) sc_law_scaled.nd rfl (Or.inl rfl)) (fun _ _ _ _ _ => pts_nil) (fun _ _ _ _ _ => (pe_op (og_both (op := .Mult) T.i_mul.1 (ok_mul T) gg (hr.mono (by decide)) (b_Ratio_mul T) pass0) (pv 2) (pv 1)))) pa_nil)))), ?_⟩
  have e0 : ∀ (i : Nat) q, L[i]? = some q → (scaledL L r)[i]? = some (q * r) := fun i q e => by unfold scaledL; rw [List.getElem?_map, e]; rfl
  have lx := LA.len
  refine ⟨_, rfl, a, rfl, ⟨_, SqL.of ha⟩, fun D hD => lc_list (K := K) (a := a) (xs := xs) (fun i H3 => ∃ acc, H3 D = some (.lst acc) ∧ Same H H3 ∧ LnAt (CR K) H3 (m + n + 1) acc ((scaledL L r).take i) ∧ acc.length = i)
    ⟨[], upd_same, Same.put hD, LnAt.nil, rfl⟩ (fun i H3 _ ⟨_, _, s3, _⟩ => SqL.of (s3 _ _ ha)) ?_ ?_⟩
  · rintro i x H3 hx ⟨acc, hacc, s3, N, hn⟩
    obtain ⟨p, q, rfl, hq, Rp, op⟩ := LA.at_ i x hx
    have hi : i < xs.length := (List.getElem?_eq_some_iff.mp hx).1
    have R1 := Rp.same s3
    have R2 := R.same s3
    obtain ⟨dp, ep⟩ := id R1
    obtain ⟨dr, er⟩ := id R2
    refine ⟨rfl, ?_⟩
    refine yes_if ?_
    refine ⟨_, rfl, _, rfl, p, dp, _, c, dr, _, rfl, rfl, ep, er, p, .ref c, _, _, m, n, rfl, R1, .inr ⟨c, rfl, R2⟩, op, orr, m0, n0, by omega, fun u H4 s4 R4 => ?_⟩
    rw [mulP_pr] at R4
    have h4 := s4 _ _ hacc
    refine ⟨acc, h4, Nat.lt_of_lt_of_le (by omega : acc.length < 1000) (szl (by omega)), acc ++ [.ref u], upd_same, Same.lst (s3.trans s4) hD, ?_, by simp [hn]⟩
    rw [take_more (e0 i q hq)]
    exact ((N.same s4).more R4 (OkP.mulR op orr)).updl h4
  · rintro H3 ⟨acc, hacc, s3, N, hn⟩
    have e1 : xs.length = (scaledL L r).length := by unfold scaledL; rw [List.length_map]; exact lx
    rw [e1, List.take_length] at N
    exact ⟨D, acc, scaledL L r, m + n + 1, rfl, hacc, N, by omega, fun l ws H4 hl s4 h4 M4 => k l ws H4 (s3.free hl) (s3.trans s4) h4 M4⟩
theorem ok_lworth (T : Tx K mg) : FG P w K mg base CX0 8 (ga K "_law_worth") (fdOf K (ga K "_law_worth")) ["_law_line_here", "_law_number_here"] (spWor K) := by
  refine fg_no T.F_law_worth sc_law_worth (fun vs H Q E h => ?_) (fun cdv A outer s H vs Q E gg hr h => ?_)
  · obtain ⟨a, c, xs, L, r, m, n, rfl, _⟩ := h
    rfl
  obtain ⟨a, c, xs, L, r, m, n, rfl, ha, LA, R, orr, m0, n0, hmn, hl, k⟩ := h
  obtain ⟨ds, rd, bd⟩ := b_init1 T
  refine ⟨_, pss_cons (ps_set (i := 2) sc_law_worth.nd rfl (Or.inl rfl) (pe_mk T.mk_Ratio (ok_init T) gg (hr.mono (by decide)) rfl T.g_Ratio bd rd pass0 (pa_cons pe_int pa_nil)))
    (pss_cons (ps_for PassesOwn.never rfl (pi_list (pe_revL (pv 0))) (pg_name (i := 3) sc_law_worth.nd rfl (Or.inl rfl)) (pss_one (ps_set (i := 2) sc_law_worth.nd rfl (Or.inl rfl) (pe_op (og_both (op := .Add) T.i_add.1 (ok_add T) gg (hr.mono (by decide)) (b_Ratio_add T) pass0) (pe_op (og_both (op := .Mult) T.i_mul.1 (ok_mul T) gg (hr.mono (by decide)) (b_Ratio_mul T) pass0) (pv 2) (pv 1)) (pv 3)))))
    (pss_one (ps_ret (pv 2)))), ?_⟩
  have lx := LA.len
  refine fun x1 d1 n1 n2 n3 => ?_
  refine mkA n1 n2 (by decide) (by unfold Sz; decide +kernel) fun H1 s1 R1 => ?_
  rw [zero_pr] at R1
  refine ⟨_, rfl, a, xs, rfl, SqL.of (s1 _ _ ha), fun g hg => ?_⟩
  have t2 : Same H1 (upd H1 g (.lst xs.reverse)) := Same.put hg
  have hgv : (upd H1 g (.lst xs.reverse)) g = some (.lst xs.reverse) := upd_same
  generalize upd H1 g (.lst xs.reverse) = H2 at t2 hgv
  have s2 := s1.trans t2
  obtain ⟨V, eV⟩ : ∃ V, V = L.reverse := ⟨_, rfl⟩
  have lV : V.length = L.length := by rw [eV]; simp
  have LR : LnAt (CR K) H2 m xs.reverse V := by rw [eV]; exact (LA.same s2).rev
  refine ⟨g, rfl, ⟨_, SqL.of hgv⟩, for_list (K := K) (a := g) (xs := xs.reverse) (fun i σ H3 => ∃ p v, σ = [some (.ref a), some (.ref c), some (.ref p), v] ∧ Same H2 H3 ∧ RatAt (CR K) H3 p (pr ((V.take i).foldl (fun w c => w * r + c) 0)) ∧ OkP (1 + i * (m + n + 2)) (pr ((V.take i).foldl (fun w c => w * r + c) 0)))
    ⟨x1, none, rfl, Same.refl _, R1.same t2, okp_le ok_zero (by omega)⟩ (fun i σ H3 _ ⟨_, _, _, s3, _⟩ => SqL.of (s3 _ _ hgv)) ?_ ?_⟩
  · rintro i x σ H3 hx ⟨p, v, rfl, s3, Rp, op⟩
    have hi : i < xs.reverse.length := (List.getElem?_eq_some_iff.mp hx).1
    rw [List.length_reverse] at hi
    obtain ⟨b, q, rfl, hq, Rb, ob⟩ := LR.at_ i x hx
    obtain ⟨dp, ep⟩ := id Rp
    have Rc := R.same (s2.trans s3)
    obtain ⟨dc, ec⟩ := id Rc
    have hb1 : i * (m + n + 2) ≤ 16 * (m + n + 2) := Nat.mul_le_mul_right _ (by omega)
    refine ⟨_, rfl, _, rfl, p, dp, _, c, dc, _, rfl, rfl, ep, ec, p, .ref c, _, _, _, n, rfl, Rp, .inr ⟨c, rfl, Rc⟩, op, orr, by omega, n0, by omega, fun u H4 s4 R4 => ?_⟩
    rw [mulP_pr] at R4
    have o4 := OkP.mulR op orr
    have Rb4 := Rb.same (s3.trans s4)
    obtain ⟨du, eu⟩ := id R4
    obtain ⟨db, eb⟩ := id Rb4
    refine ⟨_, rfl, u, du, _, b, db, _, rfl, rfl, eu, eb, u, .ref b, _, _, _, m, rfl, R4, .inr ⟨b, rfl, Rb4⟩, o4, ob, by omega, m0, by omega, fun u2 H5 s5 R5 => ?_⟩
    rw [addP_pr] at R5
    have o5 := OkP.addR o4 ob
    have ef : (V.take (i + 1)).foldl (fun w c => w * r + c) 0 = (V.take i).foldl (fun w c => w * r + c) 0 * r + q := by
      rw [take_more hq, List.foldl_append]
      rfl
    refine ⟨u2, _, rfl, (s3.trans s4).trans s5, by rw [ef]; exact R5, ?_⟩
    rw [ef]
    exact okp_le o5 (by rw [Nat.add_mul]; omega)
  · rintro σ H3 ⟨p, v, rfl, s3, Rp, op⟩
    rw [List.length_reverse, lx, ← lV, List.take_length] at Rp op
    have e2 : V.foldl (fun w c => w * r + c) 0 = worL L r := by rw [eV]; rfl
    rw [e2] at Rp op
    rw [lV] at op
    exact ⟨_, rfl, k p H3 (s2.trans s3) Rp op⟩
theorem ok_lderived (T : Tx K mg) : FG P w K mg base CX0 8 (ga K "_law_derived") (fdOf K (ga K "_law_derived")) ["_law_line_here"] (spDer K) := by
  refine fg_no T.F_law_derived sc_law_derived (fun vs H Q E h => ?_) (fun cdv A outer s H vs Q E gg hr h => ?_)
  · obtain ⟨a, xs, L, m, rfl, _⟩ := h
    rfl
  obtain ⟨a, xs, L, m, rfl, ha, LA, m0, hm, hl, k⟩ := h
  refine ⟨_, pss_one (ps_ret (pe_fn (ok_ltrim T) gg (hr.mono (by decide)) rfl T.g_law_trim T.F_law_trim.kp (b_law_trim T) .nil pass0 (pa_cons (pe_lc (own := [("_law_place", 1)]) (g := gName 1) (tt := tYes) (by rfl) sc_law_derived.nd (pi_range2 (by rfl) T.n_range (pa_cons pe_int (pa_cons (pe_callB call_len (by rfl) T.n_len PySem.boot_len (pa_cons (pv 0) pa_nil)) pa_nil))) (blkOk_by (N := ["_law_line_here", "_law_place"]) (sc := defScope s_law_derived) (by decide +kernel)) (fun _ _ _ _ _ => pg_name (i := 1) sc_law_derived.nd rfl (Or.inl rfl)) (fun _ _ _ _ _ => pts_nil) (fun _ _ _ _ _ => (pe_op (og_left (op := .Mult) T.i_mul.1 T.i_mul.2.2.1 T.i_mul.2.2.2 (ok_mul T) gg (hr.mono (by decide)) (b_Ratio_mul T) pass0) (pe_ix (r := rIxL K) (ixL (K := K) rfl) (pv 0) (pv 1) (fun _ _ => rfl)) (pv 1)))) pa_nil))), ?_⟩
  have lx := LA.len
  have ld : (derL L).length = L.length - 1 := by unfold derL; simp
  have e0 : ∀ (i : Nat) q, L[i + 1]? = some q → (derL L)[i]? = some (q * (((i + 1 : Nat) : Int) : Rat)) := fun i q e => by
    have hi : i + 1 < L.length := (List.getElem?_eq_some_iff.mp e).1
    unfold derL
    rw [List.getElem?_drop, Nat.add_comm 1 i, List.getElem?_map, List.getElem?_range hi]
    simp [List.getD, e]
  refine ⟨_, rfl, _, _, rfl, .inl ⟨_, SqL.of ha, rfl⟩, ?_⟩
  refine ⟨_, _, rfl, ⟨by decide, by decide, by omega, by omega⟩, fun D hD => lc_range (lo := 1) (n := (((xs.length : Nat) : Int) - 1).toNat) (fun i H3 => ∃ acc, H3 D = some (.lst acc) ∧ Same H H3 ∧ LnAt (CR K) H3 (m + 6) acc ((derL L).take i) ∧ acc.length = i)
    ⟨[], upd_same, Same.put hD, LnAt.nil, rfl⟩ ?_ ?_⟩
  · rintro i H3 hi ⟨acc, hacc, s3, N, hn⟩
    have hi2 : i + 1 < xs.length := by omega
    have ei : (1 : Int) + (i : Int) = ((i + 1 : Nat) : Int) := by omega
    rw [ei]
    have hL : L[i + 1]? = some L[i + 1] := List.getElem?_eq_getElem (by omega)
    obtain ⟨p, hx, Rp, op⟩ := LA.get hL
    have R1 := Rp.same s3
    obtain ⟨dp, ep⟩ := id R1
    have oi : OkP 5 (pr (((i + 1 : Nat) : Int) : Rat)) := ⟨(show (0 : Int) < 1 by decide), (show Sz 5 ((i + 1 : Nat) : Int) by unfold Sz; omega), (show Sz 5 (1 : Int) by unfold Sz; decide)⟩
    refine ⟨rfl, ?_⟩
    refine yes_if ?_
    refine ⟨_, rfl, _, rfl, a, xs, _, .ref p, rfl, rfl, SqL.of (s3 _ _ ha), at_of (j := i + 1) rfl hx, _, rfl, p, dp, _, _, rfl, rfl, ep, p, .int ((i + 1 : Nat) : Int), _, pr (((i + 1 : Nat) : Int) : Rat), m, 5, rfl, R1, .inl ⟨_, rfl, rfl⟩, op, oi, m0, by decide, by omega, fun u H5 s5 R5 => ?_⟩
    rw [mulP_pr] at R5
    have h5 := s5 _ _ hacc
    refine ⟨acc, h5, Nat.lt_of_lt_of_le (by omega : acc.length < 1000) (szl (by omega)), acc ++ [.ref u], upd_same, Same.lst (s3.trans s5) hD, ?_, by simp [hn]⟩
    rw [take_more (e0 i _ hL)]
    exact ((N.same s5).more R5 (okp_le (OkP.mulR op oi) (by omega))).updl h5
  · rintro H3 ⟨acc, hacc, s3, N, hn⟩
    have e1 : (((xs.length : Nat) : Int) - 1).toNat = (derL L).length := by rw [ld]; omega
    rw [e1, List.take_length] at N
    exact ⟨D, acc, derL L, m + 6, rfl, hacc, N, by omega, fun l ws H4 hl s4 h4 M4 => k l ws H4 (s3.free hl) (s3.trans s4) h4 M4⟩
end
end K31

set_option Elab.async false
set_option linter.all false
set_option maxRecDepth 100000
set_option maxHeartbeats 4000000
namespace K31
open PySem PySem.Spec PyProof.Rows L2 Own
open PySem.W (Frag)
section
variable {P : Program} {w : World} {K : Frag} {mg : Str → Option Value} {base : Heap}
theorem trimN_zero (k : Nat) : ∀ n, n ≤ k → trimN (List.replicate k 0) n = 0
  | 0, _ => rfl
  | n + 1, h => by
    show (if (List.replicate k (0 : Rat))[n]? = some 0 then trimN (List.replicate k 0) n else n + 1) = 0
    rw [List.getElem?_replicate, if_pos (show n < k by omega), if_pos rfl]
    exact trimN_zero k n (by omega)
theorem trim_zero (k : Nat) : trim (List.replicate k 0) = [] := by
  unfold trim
  rw [List.length_replicate, trimN_zero k k (Nat.le_refl _), List.take_zero]
theorem timesN_nil (A : List Rat) : ∀ i, timesN A [] i = List.replicate (A.length + 0 - 1) 0
  | 0 => rfl
  | i + 1 => by rw [timesN]; exact timesN_nil A i
theorem times_nilL (B : List Rat) : trim (timesL [] B) = [] := by
  show trim (List.replicate (0 + B.length - 1) 0) = []
  exact trim_zero _
theorem times_nilR (A : List Rat) : trim (timesL A []) = [] := by
  unfold timesL
  rw [timesN_nil]
  exact trim_zero _
theorem PotAt.same {H H2 : Hp} {p : Addr} (h : PotAt H p) (s : Same H H2) : PotAt H2 p := by
  obtain ⟨x, y, e, r⟩ := h
  exact ⟨x, y, s _ _ e, r⟩
theorem PotAt.nn {H : Hp} {p a : Addr} (hp : PotAt H p) (h : H a = none) : a ≠ p := by
  obtain ⟨x, y, e, r⟩ := hp
  intro z
  rw [z, e] at h
  cases h
def spNumber (K : Frag) : Sp := fun vs H Q _ => ∃ (p : Addr) (n : Int), vs = [.ref p, .int n] ∧ PotAt H p ∧ 0 ≤ n ∧ n ≤ 99 ∧ ∀ (r : Rat) a H2, OkP 10 (pr r) → PotAt H2 p → RatAt (CR K) H2 a (pr r) → Sb p H H2 → Q (.ref a) H2
theorem five {i : Nat} {x : V} (h : ([.int 1, .int 1, .int 1, .int 2, .int 3] : List V)[i]? = some x) : ∃ c : Int, x = .int c ∧ 1 ≤ c ∧ c ≤ 3 := by
  match i, h with
  | 0, h => exact ⟨1, (Option.some.inj h).symm, by decide, by decide⟩
  | 1, h => exact ⟨1, (Option.some.inj h).symm, by decide, by decide⟩
  | 2, h => exact ⟨1, (Option.some.inj h).symm, by decide, by decide⟩
  | 3, h => exact ⟨2, (Option.some.inj h).symm, by decide, by decide⟩
  | 4, h => exact ⟨3, (Option.some.inj h).symm, by decide, by decide⟩
  | i + 5, h => simp at h
theorem ok_ltimes (T : Tx K mg) : FG P w K mg base CX0 8 (ga K "_law_times") (fdOf K (ga K "_law_times")) ["_law_one", "_law_other"] (spTimes K) := by
  refine fg_no T.F_law_times sc_law_times (fun vs H Q E h => ?_) (fun cdv A outer s H vs Q E gg hr h => ?_)
  · obtain ⟨a, b, xs, ys, L, M, m, rfl, _⟩ := h
    rfl
  obtain ⟨a, b, xs, ys, L, M, m, rfl, ha, hb, LA, LB, m0, hm, hl1, hl2, k⟩ := h
  obtain ⟨ds, rd, bd⟩ := b_init1 T
  refine ⟨_, pss_cons (ps_if (PW.pt (pw_or (pt_cmpR (or_r2 (op_eqD hr.units) (op_eqLen hr.units)) (pv 0) (pe_lst pa_nil) (nomark _)) (pw_or1 (pt_cmpR (or_r2 (op_eqD hr.units) (op_eqLen hr.units)) (pv 1) (pe_lst pa_nil) (nomark _))))) (pss_one (ps_ret (pe_lst pa_nil))) pss_nil)
    (pss_cons (ps_set (i := 2) sc_law_times.nd rfl (Or.inl rfl) (pe_op op_rep (pe_lst (pa_cons (pe_mk T.mk_Ratio (ok_init T) gg (hr.mono (by decide)) rfl T.g_Ratio bd rd pass0 (pa_cons pe_int pa_nil)) pa_nil)) (pe_op op_sub (pe_op op_add (pe_callB call_len (by rfl) T.n_len PySem.boot_len (pa_cons (pv 0) pa_nil)) (pe_callB call_len (by rfl) T.n_len PySem.boot_len (pa_cons (pv 1) pa_nil))) pe_int)))
    (pss_cons (ps_for PassesOwn.never rfl (pi_enum (by rfl) T.n_enumerate (pa_cons (pv 0) pa_nil)) (pg_tup rfl (pgs_cons (pg_name (i := 3) sc_law_times.nd rfl (Or.inl rfl)) (pgs_cons (pg_name (i := 4) sc_law_times.nd rfl (Or.inl rfl)) pgs_nil))) (pss_one (ps_for PassesOwn.never rfl (pi_enum (by rfl) T.n_enumerate (pa_cons (pv 1) pa_nil)) (pg_tup rfl (pgs_cons (pg_name (i := 5) sc_law_times.nd rfl (Or.inl rfl)) (pgs_cons (pg_name (i := 6) sc_law_times.nd rfl (Or.inl rfl)) pgs_nil))) (pss_one (ps_asg (pe_op (og_both (op := .Add) T.i_add.1 (ok_add T) gg (hr.mono (by decide)) (b_Ratio_add T) pass0) (pe_ix ix_list (pv 2) (pe_op op_add (pv 3) (pv 5)) (fun _ _ => rfl)) (pe_op (og_both (op := .Mult) T.i_mul.1 (ok_mul T) gg (hr.mono (by decide)) (b_Ratio_mul T) pass0) (pv 4) (pv 6))) (pg_sub (pv 2) (pe_op op_add (pv 3) (pv 5)) set_list))))))
    (pss_one (ps_ret (pe_fn (ok_ltrim T) gg (hr.mono (by decide)) rfl T.g_law_trim T.F_law_trim.kp (b_law_trim T) .nil pass0 (pa_cons (pv 2) pa_nil)))))), ?_⟩
  refine ⟨_, rfl, (by show 0 ≤ sizeLine; omega), fun e1 he1 => ?_⟩
  have u1 : Same H (upd H e1 (.lst [])) := Same.put he1
  have v1 : (upd H e1 (.lst [])) e1 = some (.lst []) := upd_same
  generalize upd H e1 (.lst []) = G1 at u1 v1
  cases xs with
  | nil =>
    have hL : L = [] := by
      have := LA.len
      cases L with
      | nil => rfl
      | cons x l => simp at this
    subst hL
    refine .inl (eq_same (d := .list []) (.lst (SqL.of (u1 _ _ ha)) .nil) (.lst (SqL.of v1) .nil) (by rfl) ⟨true, rfl, ?_⟩)
    refine iteT ?_
    refine iteT ?_
    refine ⟨(by show 0 ≤ sizeLine; omega), fun l hl => k l [] _ (u1.free hl) (u1.trans (Same.put hl)) upd_same ?_⟩
    rw [times_nilL]
    exact LnAt.nil
  | cons x0 xr =>
  refine .inr ⟨a, e1, _, _, rfl, rfl, u1 _ _ ha, v1, by simp, false, rfl, ?_⟩
  refine iteF ?_
  refine ⟨_, rfl, (by show 0 ≤ sizeLine; omega), fun e2 he2 => ?_⟩
  have u2 : Same G1 (upd G1 e2 (.lst [])) := Same.put he2
  have v2 : (upd G1 e2 (.lst [])) e2 = some (.lst []) := upd_same
  generalize upd G1 e2 (.lst []) = H at u2 v2
  have u12 := u1.trans u2
  cases ys with
  | nil =>
    have hM : M = [] := by
      have := LB.len
      cases M with
      | nil => rfl
      | cons x l => simp at this
    subst hM
    refine .inl (eq_same (d := .list []) (.lst (SqL.of (u12 _ _ hb)) .nil) (.lst (SqL.of v2) .nil) (by rfl) ⟨true, rfl, ?_⟩)
    refine iteT ?_
    refine ⟨(by show 0 ≤ sizeLine; omega), fun l hl => k l [] _ (u12.free hl) (u12.trans (Same.put hl)) upd_same ?_⟩
    rw [times_nilR]
    exact LnAt.nil
  | cons y0 yr =>
  refine .inr ⟨b, e2, _, _, rfl, rfl, u12 _ _ hb, v2, by simp, false, rfl, ?_⟩
  refine iteF ?_
  generalize x0 :: xr = xs at ha LA
  generalize y0 :: yr = ys at hb LB
  have ha := u12 _ _ ha
  have hb := u12 _ _ hb
  have LA := LA.same u12
  have LB := LB.same u12
  have k : ∀ l ws H2, H l = none → Same H H2 → H2 l = some (.lst ws) → LnAt (CR K) H2 (bdT m L.length) ws (trim (timesL L M)) → Q (.ref l) H2 := fun l ws H2 hl s h M => k l ws H2 (u12.free hl) (u12.trans s) h M
  clear v1 v2 u1 u2 u12 he1 he2

  have lx := LA.len
  have ly := LB.len
  refine fun x1 d1 n1 n2 n3 => ?_
  refine mkA n1 n2 (by decide) (by unfold Sz; decide +kernel) fun H1 s1 R1 => ?_
  rw [zero_pr] at R1
  refine ⟨(by show 1 ≤ sizeLine; decide), fun l1 hl1 => ?_⟩
  have t1 : Same H1 (upd H1 l1 (.lst [.ref x1])) := Same.put hl1
  have L1 : (upd H1 l1 (.lst [.ref x1])) l1 = some (.lst [.ref x1]) := upd_same
  generalize upd H1 l1 (.lst [.ref x1]) = H2 at t1 L1
  have s2 := s1.trans t1
  refine ⟨_, rfl, _, _, rfl, .inl ⟨_, SqL.of (s2 _ _ ha), rfl⟩, _, rfl, _, _, rfl, .inl ⟨_, SqL.of (s2 _ _ hb), rfl⟩, _, _, rfl, rfl, _, _, rfl, rfl, ?_⟩
  refine ⟨l1, _, _, rfl, rfl, L1, by omega, by omega, szl (by show 1 * (((xs.length : Nat) : Int) + ((ys.length : Nat) : Int) - 1).toNat ≤ 10000; omega), fun D hD => ?_⟩
  have k1 : (((xs.length : Nat) : Int) + ((ys.length : Nat) : Int) - 1).toNat = L.length + M.length - 1 := by omega
  rw [flat_one, k1]
  have t2 : Same H2 (upd H2 D (.lst (List.replicate (L.length + M.length - 1) (.ref x1)))) := Same.put hD
  have L2' : (upd H2 D (.lst (List.replicate (L.length + M.length - 1) (.ref x1)))) D = some (.lst (List.replicate (L.length + M.length - 1) (.ref x1))) := upd_same
  generalize upd H2 D (.lst (List.replicate (L.length + M.length - 1) (.ref x1))) = H3 at t2 L2'
  have s3 := s2.trans t2
  have hDH : H D = none := s2.free hD
  have P0 : LnAt (CR K) H3 (bdT m 0) (List.replicate (L.length + M.length - 1) (.ref x1)) (timesN L M 0) := by
    have := (LnAt.nil (C := CR K) (H := H3) (m := bdT m 0)).pad (R1.same (t1.trans t2)) (okp_le ok_zero (by unfold bdT; omega)) (L.length + M.length - 1)
    simpa [timesN] using this
  refine ⟨_, rfl, a, xs, rfl, SqL.of (s3 _ _ ha), for_enum (K := K) (a := a) (xs := xs) (fun i σ H4 => ∃ v3 v4 v5 v6 ms, σ = [some (.ref a), some (.ref b), some (.ref D), v3, v4, v5, v6] ∧ H4 D = some (.lst ms) ∧ Same H H4 ∧ LnAt (CR K) H4 (bdT m i) ms (timesN L M i))
    ⟨none, none, none, none, _, rfl, L2', s3, P0⟩ (fun i σ H4 _ ⟨_, _, _, _, _, _, _, s4, _⟩ => SqL.of (s4 _ _ ha)) ?_ ?_⟩
  · rintro i x t σ H4 hx ⟨v3, v4, v5, v6, ms, rfl, hms, s4, N⟩ ht
    obtain ⟨p, q, rfl, hq, Rp, op⟩ := LA.at_ i x hx
    have hi : i < xs.length := (List.getElem?_eq_some_iff.mp hx).1
    have qd : L.getD i 0 = q := by simp [List.getD, hq]
    have s5 := s4.trans (Same.put (o := .tup [.int (i : Nat), .ref p]) ht)
    have hms5 := (Same.put (o := .tup [.int (i : Nat), .ref p]) ht) _ _ hms
    have N5 := N.same (Same.put (o := .tup [.int (i : Nat), .ref p]) ht)
    refine ⟨t, _, rfl, SqT.of upd_same, rfl, ?_⟩
    refine ⟨_, _, rfl, _, _, rfl, rfl, ?_⟩
    generalize upd H4 t (.tup [.int (i : Nat), .ref p]) = H5 at s5 hms5 N5
    refine ⟨_, rfl, b, ys, rfl, SqL.of (s5 _ _ hb), for_enum (K := K) (a := b) (xs := ys) (fun j σ H6 => ∃ w5 w6 ns, σ = [some (.ref a), some (.ref b), some (.ref D), some (.int (i : Nat)), some (.ref p), w5, w6] ∧ H6 D = some (.lst ns) ∧ Same H H6 ∧ LnB (CR K) H6 (fun z => if z < i + j then bdT m (i + 1) else bdT m i) ns (rowT (timesN L M i) i q M j))
      ⟨v5, v6, ms, rfl, hms5, s5, N5.b.le fun z _ => ?_⟩ (fun j σ H6 _ ⟨_, _, _, _, _, s6, _⟩ => SqL.of (s6 _ _ hb)) ?_ ?_⟩
    · show bdT m i ≤ if z < i + 0 then bdT m (i + 1) else bdT m i
      split
      · unfold bdT
        rw [Nat.add_mul]
        omega
      · exact Nat.le_refl _
    · rintro j y t2 σ H6 hy ⟨w5, w6, ns, rfl, hns, s6, N6⟩ ht2
      obtain ⟨r, z, rfl, hz, Rr, orr⟩ := LB.at_ j y hy
      have hj : j < ys.length := (List.getElem?_eq_some_iff.mp hy).1
      have zd : M.getD j 0 = z := by simp [List.getD, hz]
      have ut := Same.put (o := .tup [.int (j : Nat), .ref r]) ht2
      have s7 := s6.trans ut
      have hns7 := ut _ _ hns
      have N7 := N6.same ut
      refine ⟨t2, _, rfl, SqT.of upd_same, rfl, ?_⟩
      refine ⟨_, _, rfl, _, _, rfl, rfl, ?_⟩
      generalize upd H6 t2 (.tup [.int (j : Nat), .ref r]) = H7 at s7 hns7 N7
      have ln : ns.length = L.length + M.length - 1 := by rw [N6.len, rowT_len, timesN_len]
      have hij : i + j < ns.length := by omega
      obtain ⟨e, qe, he, hqe, Re, oe⟩ := N7.at_ (i + j) _ (List.getElem?_eq_getElem hij)
      have hge : ns[i + j]? = some (.ref e) := by rw [← he]; exact List.getElem?_eq_getElem hij
      have ed : (rowT (timesN L M i) i q M j).getD (i + j) 0 = qe := by simp [List.getD, hqe]
      have oe2 : OkP (bdT m i) (pr qe) := by
        have z0 : (if i + j < i + j then bdT m (i + 1) else bdT m i) = bdT m i := if_neg (Nat.lt_irrefl _)
        rw [← z0]
        exact oe
      have Rp7 := Rp.same s7
      have Rr7 := Rr.same s7
      obtain ⟨dp, ep⟩ := id Rp7
      obtain ⟨dr, er⟩ := id Rr7
      have hbt : bdT m i ≤ 1 + 17 * (2 * m + 2) := by
        unfold bdT
        have := Nat.mul_le_mul_right (2 * m + 2) (show i ≤ 17 by omega)
        omega
      refine ⟨_, rfl, _, rfl, _, rfl, _, _, rfl, rfl, D, _, _, .ref e, rfl, rfl, SqL.of hns7, at_of (j := i + j) (by omega) hge, ?_⟩
      refine ⟨_, rfl, _, rfl, p, dp, _, r, dr, _, rfl, rfl, ep, er, p, .ref r, _, _, m, m, rfl, Rp7, .inr ⟨r, rfl, Rr7⟩, op, orr, m0, m0, by omega, fun u H8 s8 R8 => ?_⟩
      rw [mulP_pr] at R8
      have o8 := OkP.mulR op orr
      have Re8 := Re.same s8
      obtain ⟨de, ee⟩ := id Re8
      obtain ⟨du, eu⟩ := id R8
      refine ⟨e, de, _, u, du, _, rfl, rfl, ee, eu, e, .ref u, _, _, bdT m i, m + m + 1, rfl, Re8, .inr ⟨u, rfl, R8⟩, oe2, o8, by unfold bdT; omega, by omega, by omega, fun f H9 s9 R9 => ?_⟩
      rw [addP_pr] at R9
      have o9 := OkP.addR oe2 o8
      have s79 := s8.trans s9
      have hns9 := s79 _ _ hns7
      have hdlt : D < D + 1 := Nat.lt_succ_self _
      refine ⟨_, rfl, _, rfl, _, rfl, _, _, rfl, rfl, D, _, _, i + j, rfl, rfl, hns9, ?_, ?_⟩
      · exact ixN_add hij
      · refine ⟨_, _, _, rfl, upd_same, Same.lst (s7.trans s79) hDH, ?_⟩
        have er2 : rowT (timesN L M i) i q M (j + 1) = (rowT (timesN L M i) i q M j).set (i + j) (qe + q * z) := by
          show (rowT (timesN L M i) i q M j).set (i + j) ((rowT (timesN L M i) i q M j).getD (i + j) 0 + q * M.getD j 0) = _
          rw [ed, zd]
        rw [er2]
        refine (N7.same s79).put hns9 R9 ?_ hij fun z0 hz0 => ?_
        · show OkP (if i + j < i + (j + 1) then bdT m (i + 1) else bdT m i) _
          rw [if_pos (by omega)]
          exact okp_le o9 (by unfold bdT; rw [Nat.add_mul]; omega)
        · show (if z0 < i + j then bdT m (i + 1) else bdT m i) ≤ if z0 < i + (j + 1) then bdT m (i + 1) else bdT m i
          by_cases g1 : z0 < i + j
          · rw [if_pos g1, if_pos (by omega)]
            exact Nat.le_refl _
          · rw [if_neg g1, if_neg (by omega)]
            exact Nat.le_refl _
    · rintro σ H6 ⟨w5, w6, ns, rfl, hns, s6, N6⟩
      refine ⟨_, _, _, _, ns, rfl, hns, s6, ?_⟩
      have et : timesN L M (i + 1) = rowT (timesN L M i) i q M ys.length := by rw [timesN, qd, ly]
      rw [et]
      refine LnB.a (N6.le fun z hz => ?_)
      show (if z < i + ys.length then bdT m (i + 1) else bdT m i) ≤ bdT m (i + 1)
      split
      · exact Nat.le_refl _
      · unfold bdT
        rw [Nat.add_mul]
        omega
  · rintro σ H4 ⟨v3, v4, v5, v6, ms, rfl, hms, s4, N⟩
    rw [lx] at N
    exact ⟨_, rfl, D, ms, timesL L M, _, rfl, hms, N, by unfold timesL; rw [timesN_len]; omega, fun l ws H5 hl s5 h5 M5 => k l ws H5 (s4.free hl) (s4.trans s5) h5 M5⟩
theorem ok_lnumber (T : Tx K mg) : FG P w K mg base CX0 4 (ga K "_law_number") (fdOf K (ga K "_law_number")) ["_law_pot_here", "_law_most"] (spNumber K) := by
  refine fg_no T.F_law_number sc_law_number (fun vs H Q E h => ?_) (fun cdv A outer s H vs Q E gg hr h => ?_)
  · obtain ⟨p, n, rfl, _⟩ := h
    rfl
  obtain ⟨p, n, rfl, hp, n0, n1, k⟩ := h
  refine ⟨_, (pss_one (ps_ret (pe_mk T.mk_Ratio (ok_init T) gg (hr.mono (by decide)) rfl T.g_Ratio (b_init2 T) .nil pass0 (pa_cons (pe_op op_sub (pe_fn (ok_draw T) gg (hr.mono (by decide)) rfl T.g_law_draw T.F_law_draw.kp (b_law_draw T) .nil pass0 (pa_cons (pv 0) (pa_cons (pe_op op_add (pe_op op_mul pe_int (pv 1)) pe_int) pa_nil))) (pv 1)) (pa_cons (pe_fn (ok_pick T) gg (hr.mono (by decide)) rfl T.g_law_pick T.F_law_pick.kp (b_law_pick T) .nil pass0 (pa_cons (pv 0) (pa_cons (pe_lst (pa_cons pe_int (pa_cons pe_int (pa_cons pe_int (pa_cons pe_int (pa_cons pe_int pa_nil)))))) pa_nil))) pa_nil))))), ?_⟩
  refine ⟨_, rfl, _, rfl, _, _, rfl, rfl, .inl ⟨by decide, by decide⟩, _, _, rfl, rfl, ?_⟩
  refine ⟨p, 2 * n + 1, rfl, hp, by omega, by omega, fun d H1 d0 d1 hp1 sb1 => ?_⟩
  refine ⟨_, rfl, _, _, rfl, rfl, ?_⟩
  refine ⟨_, rfl, (by show 5 ≤ sizeLine; decide), fun l hl => ?_⟩
  refine ⟨p, l, _, rfl, hp1.same (Same.put hl), upd_same, hp1.nn hl, (by show 0 < 5; decide), (by show 5 < 1000000; decide), fun i x H2 hx hp2 sb2 => ?_⟩
  obtain ⟨c, rfl, c1, c3⟩ := five hx
  refine fun x1 dd1 n1' n2' n3' => ?_
  refine mkA n1' n2' (by omega) (by unfold Sz; omega) fun H3 s3 R3 => ?_
  rw [nrm_pr (show c ≠ 0 by omega)] at R3
  have lw := nrm_sz (n := 10) (t := d - n) (b := c) (by omega) (by unfold Sz; omega) (by unfold Sz; omega)
  rw [nrm_pr (show c ≠ 0 by omega)] at lw
  exact k _ x1 H3 lw (hp2.same s3) R3 ((sb1.trans (Sb.of (Same.put hl))).trans (sb2.trans (Sb.of s3)))
end
end K31

set_option Elab.async false
set_option linter.all false
set_option maxRecDepth 100000
set_option maxHeartbeats 4000000
namespace K31
open PySem PySem.Spec PyProof.Rows L2 Own
open PySem.W (Frag)
section
variable {P : Program} {w : World} {K : Frag} {mg : Str → Option Value} {base : Heap}
theorem RatAt.sb {C : Addr} {p a : Addr} {H H2 : Hp} {q : Int × Int} (h : RatAt C H a q) (hp : PotAt H p) (s : Sb p H H2) : RatAt C H2 a q := by
  obtain ⟨dx, e⟩ := h
  obtain ⟨x, y, ep, _⟩ := hp
  exact ⟨dx, s _ _ e (ne_of e ep (by intro z; cases z))⟩
theorem LnAt.sb {C : Addr} {H H2 : Hp} {m : Nat} {p : Addr} {xs : List V} {L : List Rat} (h : LnAt C H m xs L) (hp : PotAt H p) (s : Sb p H H2) : LnAt C H2 m xs L :=
  ⟨h.len, fun i x e => let ⟨a, q, e0, e1, e2, e3⟩ := h.at_ i x e; ⟨a, q, e0, e1, e2.sb hp s, e3⟩⟩
theorem trimN_take (L : List Rat) : ∀ (n k : Nat), n ≤ k → trimN (L.take k) n = trimN L n
  | 0, _, _ => rfl
  | n + 1, k, h => by
    show (if (L.take k)[n]? = some 0 then trimN (L.take k) n else n + 1) = (if L[n]? = some 0 then trimN L n else n + 1)
    rw [List.getElem?_take, if_pos (show n < k by omega), trimN_take L n k (by omega)]
theorem trimN_fix (L : List Rat) : ∀ n, trimN L (trimN L n) = trimN L n
  | 0 => rfl
  | n + 1 => by
    by_cases h : L[n]? = some 0
    · have e : trimN L (n + 1) = trimN L n := by
        show (if L[n]? = some 0 then trimN L n else n + 1) = _
        rw [if_pos h]
      rw [e]
      exact trimN_fix L n
    · have e : trimN L (n + 1) = n + 1 := by
        show (if L[n]? = some 0 then trimN L n else n + 1) = _
        rw [if_neg h]
      rw [e, e]
theorem trim_trim (L : List Rat) : trim (trim L) = trim L := by
  have l1 : (trim L).length = trimN L L.length := by
    unfold trim
    rw [List.length_take]
    exact Nat.min_eq_left (trimN_le L _)
  have e : trimN (trim L) (trim L).length = trimN L L.length := by
    rw [l1]
    show trimN (L.take (trimN L L.length)) (trimN L L.length) = _
    rw [trimN_take L _ _ (Nat.le_refl _), trimN_fix]
  show (trim L).take (trimN (trim L) (trim L).length) = _
  rw [e, ← l1, List.take_length]
def spLineD (K : Frag) : Sp := fun vs H Q _ => ∃ (p : Addr) (sz most : Int), vs = [.ref p, .int sz, .int most] ∧ PotAt H p ∧ 0 ≤ sz ∧ sz ≤ 9 ∧ 0 ≤ most ∧ most ≤ 99 ∧
  ∀ (L : List Rat) l ys H2, (L.length : Int) ≤ sz → trim L = L → H l = none → l ≠ p → PotAt H2 p → Sb p H H2 → H2 l = some (.lst ys) → LnAt (CR K) H2 10 ys L → Q (.ref l) H2
def spPassed (K : Frag) : Sp := fun vs H Q _ => ∃ (p a : Addr) (xs : List V) (L : List Rat) (m : Nat), vs = [.ref p, .ref a] ∧ PotAt H p ∧ H a = some (.lst xs) ∧ LnAt (CR K) H m xs L ∧ L.length ≤ 9 ∧ 0 < m ∧
  ∀ v zs (j : Nat) H2, j ≤ 2 → v ≠ p → PotAt H2 p → Sb p H H2 → SeqAt1 H2 v zs → NmAt (CR K) H2 m zs (L ++ List.replicate j 0) → Q (.ref v) H2
theorem NmAt.sb {C : Addr} {H H2 : Hp} {m : Nat} {p : Addr} {xs : List V} {L : List Rat} (h : NmAt C H m xs L) (hp : PotAt H p) (s : Sb p H H2) : NmAt C H2 m xs L :=
  ⟨h.len, fun i x e => let ⟨q, e1, e2, e3⟩ := h.at_ i x e; ⟨q, e1, e2.imp (fun z => z) fun ⟨a, e0, R⟩ => ⟨a, e0, R.sb hp s⟩, e3⟩⟩
theorem NmAt.updl {C : Addr} {H : Hp} {m : Nat} {xs ys zs : List V} {L : List Rat} {D : Addr} (h : NmAt C H m xs L) (hD : H D = some (.lst ys)) : NmAt C (upd H D (.lst zs)) m xs L :=
  ⟨h.len, fun i x e => let ⟨q, e1, e2, e3⟩ := h.at_ i x e; ⟨q, e1, e2.imp (fun z => z) fun ⟨a, e0, R⟩ => ⟨a, e0, R.lst hD⟩, e3⟩⟩
theorem NmAt.more {C : Addr} {H : Hp} {m : Nat} {xs : List V} {L : List Rat} (h : NmAt C H m xs L) {v : V} {q : Rat} (t : NumV C H v (pr q)) (o : OkP m (pr q)) : NmAt C H m (xs ++ [v]) (L ++ [q]) := by
  refine ⟨by simp [h.len], fun i x e => ?_⟩
  rcases (by omega : i < xs.length ∨ xs.length ≤ i) with hi | hi
  · rw [List.getElem?_append_left hi] at e
    obtain ⟨q2, e1, e2, e3⟩ := h.at_ i x e
    exact ⟨q2, by rw [List.getElem?_append_left (by rw [← h.len]; exact hi)]; exact e1, e2, e3⟩
  · rw [List.getElem?_append_right hi] at e
    have hz : i - xs.length = 0 := by
      rcases Nat.eq_zero_or_pos (i - xs.length) with z | z
      · exact z
      · rw [List.getElem?_eq_none_iff.mpr (by simp; omega)] at e
        cases e
    rw [hz] at e
    cases (Option.some.inj e)
    refine ⟨q, ?_, t, o⟩
    rw [List.getElem?_append_right (by rw [← h.len]; exact hi), ← h.len, hz]
    rfl
theorem NmAt.noughts {C : Addr} {H : Hp} {m : Nat} {xs : List V} {L : List Rat} (h : NmAt C H m xs L) (o : OkP m (pr 0)) : ∀ k : Nat, NmAt C H m (xs ++ List.replicate k (.int 0)) (L ++ List.replicate k 0)
  | 0 => by simpa using h
  | k + 1 => by
    rw [List.replicate_succ', List.replicate_succ', ← List.append_assoc, ← List.append_assoc]
    exact (NmAt.noughts h o k).more (.inl ⟨0, rfl, rfl⟩) o
theorem NmAt.nil {C : Addr} {H : Hp} {m : Nat} : NmAt C H m [] [] := ⟨rfl, fun i x e => by simp at e⟩
theorem ok_lline (T : Tx K mg) : FG P w K mg base CX0 5 (ga K "_law_line") (fdOf K (ga K "_law_line")) ["_law_pot_here", "_law_size", "_law_most"] (spLineD K) := by
  refine fg_no T.F_law_line sc_law_line (fun vs H Q E h => ?_) (fun cdv A outer s H vs Q E gg hr h => ?_)
  · obtain ⟨p, sz, most, rfl, _⟩ := h
    rfl
  obtain ⟨p, sz, most, rfl, hp, z0, z1, n0, n1, k⟩ := h
  obtain ⟨ds, rd, bd⟩ := b_init1 T
  refine ⟨_, pss_one (ps_ret (pe_fn (ok_ltrim T) gg (hr.mono (by decide)) rfl T.g_law_trim T.F_law_trim.kp (b_law_trim T) .nil pass0 (pa_cons (pe_lc (own := [("_law_place", 3)]) (g := gName 3) (tt := tYes) (by rfl) sc_law_line.nd (pi_range1 (by rfl) T.n_range (pa_cons (pe_fn (ok_draw T) gg (hr.mono (by decide)) rfl T.g_law_draw T.F_law_draw.kp (b_law_draw T) .nil pass0 (pa_cons (pv 0) (pa_cons (pe_op op_add (pv 1) pe_int) pa_nil))) pa_nil)) (blkOk_by (N := ["_law_pot_here", "_law_size", "_law_most", "_law_place"]) (sc := defScope s_law_line) (by decide +kernel)) (fun _ _ _ _ _ => pg_name (i := 3) sc_law_line.nd rfl (Or.inl rfl)) (fun _ _ _ _ _ => pts_nil) (fun _ _ _ _ _ => (pe_ifExp (pt_cmpR op_gt (pe_fn (ok_draw T) gg (hr.mono (by decide)) rfl T.g_law_draw T.F_law_draw.kp (b_law_draw T) .nil pass0 (pa_cons (pv 0) (pa_cons pe_int pa_nil))) pe_int (nomark _)) (pe_fn (ok_lnumber T) gg (hr.mono (by decide)) rfl T.g_law_number T.F_law_number.kp (b_law_number T) .nil pass0 (pa_cons (pv 0) (pa_cons (pv 2) pa_nil))) (pe_mk T.mk_Ratio (ok_init T) gg (hr.mono (by decide)) rfl T.g_Ratio bd rd pass0 (pa_cons pe_int pa_nil))))) pa_nil))), ?_⟩
  refine ⟨_, rfl, _, rfl, _, _, rfl, rfl, p, sz + 1, rfl, hp, by omega, by omega, fun d H1 d0 d1 hp1 sb1 => ⟨_, rfl, by omega, by omega, fun D hD => ?_⟩⟩
  have nDp : D ≠ p := hp1.nn hD
  have hDH : H D = none := by
    cases e : H D with
    | none => rfl
    | some o => rw [sb1 _ _ e nDp] at hD; cases hD
  refine lc_range (lo := 0) (n := d.toNat) (fun i H2 => ∃ acc L, H2 D = some (.lst acc) ∧ PotAt H2 p ∧ Sb p H H2 ∧ LnAt (CR K) H2 10 acc L ∧ acc.length = i)
    ⟨[], [], upd_same, hp1.same (Same.put hD), sb1.trans (Sb.of (Same.put hD)), LnAt.nil, rfl⟩ ?_ ?_
  · rintro i H2 hi ⟨acc, L, hacc, hp2, sb2, N, hn⟩
    refine ⟨rfl, ?_⟩
    refine yes_if ?_
    have step : ∀ u (r : Rat) H4, OkP 10 (pr r) → PotAt H4 p → RatAt (CR K) H4 u (pr r) → Sb p H2 H4 →
        ∃ acc, H4 D = some (.lst acc) ∧ acc.length < sizeLine ∧ ∃ acc_1 L, (upd H4 D (.lst (acc ++ [.ref u]))) D = some (.lst acc_1) ∧ PotAt (upd H4 D (.lst (acc ++ [.ref u]))) p ∧ Sb p H (upd H4 D (.lst (acc ++ [.ref u]))) ∧ LnAt (CR K) (upd H4 D (.lst (acc ++ [.ref u]))) 10 acc_1 L ∧ acc_1.length = i + 1 := by
      intro u r H4 orr hp4 R4 sb4
      have h4 := sb4 _ _ hacc nDp
      refine ⟨acc, h4, Nat.lt_of_lt_of_le (by omega : acc.length < 1000) (szl (by omega)), acc ++ [.ref u], L ++ [r], upd_same, ?_, ?_, ((N.sb hp2 sb4).more R4 orr).updl h4, by simp [hn]⟩
      · obtain ⟨x, y, e, rr⟩ := hp4
        exact ⟨x, y, by rw [upd_ne (Ne.symm nDp)]; exact e, rr⟩
      · intro c o e hc
        rw [upd_ne (fun z => by rw [z, hDH] at e; cases e)]
        exact (sb2.trans sb4) c o e hc
    refine ⟨_, rfl, p, 4, rfl, hp2, by decide, by decide, fun d2 H3 _ _ hp3 sb3 => ⟨_, _, rfl, rfl, _, rfl, ?_⟩⟩
    refine ite2 (fun z => ?_) (fun z => ?_)
    · exact ⟨_, rfl, _, rfl, p, most, rfl, hp3, n0, n1, fun r u H4 orr hp4 R4 sb4 => step u r H4 orr hp4 R4 (sb3.trans sb4)⟩
    · refine fun x1 dd1 a1 a2 a3 => ?_
      refine mkA a1 a2 (by decide) (by unfold Sz; decide +kernel) fun H4 s4 R4 => ?_
      rw [zero_pr] at R4
      exact step x1 0 H4 (okp_le ok_zero (by decide)) (hp3.same s4) R4 (sb3.trans (Sb.of s4))
  · rintro H2 ⟨acc, L, hacc, hp2, sb2, N, hn⟩
    have hll : L.length = d.toNat := by rw [← N.len]; exact hn
    have tl := trim_le L
    exact ⟨D, acc, L, 10, rfl, hacc, N, by omega, fun l ws H3 hl s3 h3 M3 => k (trim L) l ws H3 (by omega) (trim_trim L)
      (by
        cases e : H l with
        | none => rfl
        | some o =>
          rw [sb2 _ _ e (hp2.nn hl)] at hl
          cases hl) (hp2.nn hl) (hp2.same s3) (sb2.trans (Sb.of s3)) h3 M3⟩
theorem ok_lpassed (T : Tx K mg) : FG P w K mg base CX0 5 (ga K "_law_passed") (fdOf K (ga K "_law_passed")) ["_law_pot_here", "_law_line_here"] (spPassed K) := by
  refine fg_no T.F_law_passed sc_law_passed (fun vs H Q E h => ?_) (fun cdv A outer s H vs Q E gg hr h => ?_)
  · obtain ⟨p, a, xs, L, m, rfl, _⟩ := h
    rfl
  obtain ⟨p, a, xs, L, m, rfl, hp, ha, LA, hl, m0, k⟩ := h
  refine ⟨_, pss_cons (ps_setLc (i := 2) (own := [("_law_entry", 3)]) (g := gName 3) (tt := tYes) (by rfl) sc_law_passed.nd rfl rfl (sw_true rfl rfl rfl (by decide +kernel)) (pi_list (pv 1)) (blkOk_by (N := ["_law_pot_here", "_law_line_here", "_law_found", "_law_entry"]) (sc := defScope s_law_passed) (by decide +kernel)) (fun _ _ _ _ _ => pg_name (i := 3) sc_law_passed.nd rfl (Or.inl rfl)) (fun _ _ _ _ _ => pts_nil) (fun _ _ _ _ _ => (pe_ifExp (PW.pt (pw_and (pt_val (pe_pr (pv 3) T.cl_Ratio T.p_is_whole (ok_is_whole T) gg (hr.mono (by decide)) (b_Ratio_is_whole T) .nil pass0)) (pw_and1 (pt_cmpR op_eq (pe_fn (ok_draw T) gg (hr.mono (by decide)) rfl T.g_law_draw T.F_law_draw.kp (b_law_draw T) .nil pass0 (pa_cons (pv 0) (pa_cons pe_int pa_nil))) pe_int (nomark _))))) (pe_pr (pv 3) T.cl_Ratio T.p_top (ok_top T) gg (hr.mono (by decide)) (b_Ratio_top T) .nil pass0) (pv 3))))
    (pss_cons (ps_set (i := 2) sc_law_passed.nd rfl (Or.inl rfl) (pe_ifExp (pt_cmpR op_lt (pe_callB call_len (by rfl) T.n_len PySem.boot_len (pa_cons (pv 2) pa_nil)) pe_int (nomark _)) (pe_op op_cat (pv 2) (pe_op op_rep (pe_lst (pa_cons pe_int pa_nil)) (pe_fn (ok_draw T) gg (hr.mono (by decide)) rfl T.g_law_draw T.F_law_draw.kp (b_law_draw T) .nil pass0 (pa_cons (pv 0) (pa_cons pe_int pa_nil))))) (pv 2)))
    (pss_one (ps_ret (pe_ifExp (pt_cmpR op_eq (pe_fn (ok_draw T) gg (hr.mono (by decide)) rfl T.g_law_draw T.F_law_draw.kp (b_law_draw T) .nil pass0 (pa_cons (pv 0) (pa_cons pe_int pa_nil))) pe_int (nomark _)) (pe_callTy call_tuple_of (by rfl) T.n_tuple (by decide +kernel) (pa_cons (pv 2) pa_nil)) (pv 2))))), ?_⟩
  have lx := LA.len
  have nap : a ≠ p := by
    obtain ⟨u, v, e, _⟩ := hp
    intro z
    rw [z, e] at ha
    have h2 := LA.at_ 0 (.int u) (by cases ha; rfl)
    obtain ⟨_, _, z2, _⟩ := h2
    cases z2
  refine ⟨_, rfl, a, rfl, ⟨_, SqL.of ha⟩, fun D hD => ?_⟩
  have nDp : D ≠ p := hp.nn hD
  refine lc_list (K := K) (a := a) (xs := xs) (fun i H3 => ∃ acc, H3 D = some (.lst acc) ∧ PotAt H3 p ∧ Sb p H H3 ∧ NmAt (CR K) H3 m acc (L.take i) ∧ acc.length = i)
    ⟨[], upd_same, hp.same (Same.put hD), Sb.of (Same.put hD), NmAt.nil, rfl⟩ (fun i H3 _ ⟨_, _, _, s3, _⟩ => SqL.of (s3 _ _ ha nap)) ?_ ?_
  · rintro i x H2 hx ⟨acc, hacc, hp2, sb2, N, hn⟩
    obtain ⟨b, q, rfl, hq, Rb, ob⟩ := LA.at_ i x hx
    have hi : i < xs.length := (List.getElem?_eq_some_iff.mp hx).1
    refine ⟨rfl, ?_⟩
    refine yes_if ?_
    have step : ∀ v H4, PotAt H4 p → NumV (CR K) H4 v (pr q) → Sb p H2 H4 →
        ∃ acc, H4 D = some (.lst acc) ∧ acc.length < sizeLine ∧ ∃ acc_1, (upd H4 D (.lst (acc ++ [v]))) D = some (.lst acc_1) ∧ PotAt (upd H4 D (.lst (acc ++ [v]))) p ∧ Sb p H (upd H4 D (.lst (acc ++ [v]))) ∧ NmAt (CR K) (upd H4 D (.lst (acc ++ [v]))) m acc_1 (L.take (i + 1)) ∧ acc_1.length = i + 1 := by
      intro v H4 hp4 nv sb4
      have h4 := sb4 _ _ hacc nDp
      refine ⟨acc, h4, Nat.lt_of_lt_of_le (by omega : acc.length < 1000) (szl (by omega)), acc ++ [v], upd_same, ?_, ?_, ?_, by simp [hn]⟩
      · obtain ⟨x, y, e, rr⟩ := hp4
        exact ⟨x, y, by rw [upd_ne (Ne.symm nDp)]; exact e, rr⟩
      · intro c o e hc
        rw [upd_ne (fun z => by rw [z, hD] at e; cases e)]
        exact (sb2.trans sb4) c o e hc
      · rw [take_more hq]
        exact ((N.sb hp2 sb4).more nv ob).updl h4
    have R2 := Rb.sb hp sb2
    obtain ⟨dx, eb⟩ := id R2
    refine ⟨_, rfl, b, dx, _, rfl, eb, b, _, rfl, R2, _, rfl, ?_⟩
    refine ite2 (fun z => ?_) (fun z => ?_)
    · have hone : (pr q).2 = 1 := by simpa using z
      refine ⟨_, rfl, p, 2, rfl, hp2, by decide, by decide, fun d H3 _ _ hp3 sb3 => ⟨rfl, _, rfl, ?_⟩⟩
      refine ite2 (fun z => ?_) (fun z => ?_)
      · have R3 := R2.sb hp2 sb3
        obtain ⟨dx3, eb3⟩ := id R3
        refine ⟨_, rfl, b, dx3, _, rfl, eb3, b, _, rfl, R3, ?_⟩
        exact step _ H3 hp3 (.inl ⟨_, rfl, by rw [← hone]⟩) sb3
      · exact ⟨_, rfl, step _ H3 hp3 (.inr ⟨b, rfl, R2.sb hp2 sb3⟩) sb3⟩
    · exact ⟨_, rfl, step _ H2 hp2 (.inr ⟨b, rfl, R2⟩) Sb.refl⟩
  · rintro H2 ⟨acc, hacc, hp2, sb2, N, hn⟩
    rw [lx, List.take_length] at N
    have la : acc.length < 15 := by omega
    refine ⟨_, rfl, _, _, rfl, .inl ⟨_, SqL.of hacc, rfl⟩, _, _, rfl, rfl, _, rfl, ?_⟩
    refine ite2 (fun z => ?_) (fun z => absurd (decide_eq_true (by omega)) z)
    refine ⟨_, rfl, (by show 1 ≤ sizeLine; decide), fun l hl => ?_⟩
    have t1 : Same H2 (upd H2 l (.lst [.int 0])) := Same.put hl
    have hlv : (upd H2 l (.lst [.int 0])) l = some (.lst [.int 0]) := upd_same
    have nlp := hp2.nn hl
    generalize upd H2 l (.lst [.int 0]) = H3 at t1 hlv
    have hp3 := hp2.same t1
    refine ⟨_, rfl, p, 3, rfl, hp3, by decide, by decide, fun d H4 d0 d1 hp4 sb4 => ?_⟩
    refine ⟨l, d, _, rfl, rfl, sb4 _ _ hlv nlp, by omega, by omega, szl (by show 1 * d.toNat ≤ 10000; omega), fun l2 hl2 => ?_⟩
    rw [flat_one]
    have t2 : Same H4 (upd H4 l2 (.lst (List.replicate d.toNat (.int 0)))) := Same.put hl2
    have hl2v : (upd H4 l2 (.lst (List.replicate d.toNat (.int 0)))) l2 = some (.lst (List.replicate d.toNat (.int 0))) := upd_same
    generalize upd H4 l2 (.lst (List.replicate d.toNat (.int 0))) = H5 at t2 hl2v
    have sb25 : Sb p H2 H5 := ((Sb.of t1).trans sb4).trans (Sb.of t2)
    have hp5 := hp4.same t2
    refine ⟨D, l2, _, _, rfl, rfl, sb25 _ _ hacc nDp, hl2v, szl (by rw [List.length_replicate]; omega), fun g hg => ?_⟩
    have t3 : Same H5 (upd H5 g (.lst (acc ++ List.replicate d.toNat (.int 0)))) := Same.put hg
    have hgv : (upd H5 g (.lst (acc ++ List.replicate d.toNat (.int 0)))) g = some (.lst (acc ++ List.replicate d.toNat (.int 0))) := upd_same
    have ngp := hp5.nn hg
    generalize upd H5 g (.lst (acc ++ List.replicate d.toNat (.int 0))) = H6 at t3 hgv
    have hp6 := hp5.same t3
    have sb26 := sb25.trans (Sb.of t3)
    have N6 := (N.sb hp2 sb26).noughts (okp_le ok_zero m0) d.toNat
    refine ⟨_, rfl, p, 2, rfl, hp6, by decide, by decide, fun d2 H7 _ _ hp7 sb7 => ⟨rfl, _, rfl, ?_⟩⟩
    have hg7 := sb7 _ _ hgv ngp
    have sb27 := sb2.trans (sb26.trans sb7)
    have N7 := N6.sb hp6 sb7
    refine ite2 (fun z => ?_) (fun z => ?_)
    · refine ⟨_, rfl, g, _, rfl, .inl ⟨SqL.of hg7, fun tg htg => ?_⟩⟩
      exact k tg _ d.toNat _ (by omega) (hp7.nn htg) (hp7.same (Same.put htg)) (sb27.trans (Sb.of (Same.put htg))) (.inr upd_same) (N7.same (Same.put htg))
    · exact ⟨_, rfl, k g _ d.toNat H7 (by omega) ngp hp7 sb27 (.inl hg7) N7⟩
end
end K31

set_option Elab.async false
set_option linter.all false
set_option maxRecDepth 100000
set_option maxHeartbeats 1000000
namespace K31
/-! ### lines by their numbers -/
def cf (L : List Rat) (i : Nat) : Rat := L.getD i 0
theorem cf_some {L : List Rat} {i : Nat} {q : Rat} (e : L[i]? = some q) : cf L i = q := by simp [cf, List.getD, e]
theorem cf_none {L : List Rat} {i : Nat} (h : L.length ≤ i) : cf L i = 0 := by simp [cf, List.getD, List.getElem?_eq_none h]
theorem cf_get {L : List Rat} {i : Nat} (h : i < L.length) : L[i]? = some (cf L i) := by
  have e : L[i]? = some L[i] := List.getElem?_eq_getElem h
  rw [cf_some e]
  exact e
theorem trimN_top (L : List Rat) : ∀ n i, trimN L n ≤ i → i < n → n ≤ L.length → cf L i = 0
  | 0, i, _, h, _ => by omega
  | n + 1, i, h1, h2, h3 => by
    by_cases h : L[n]? = some 0
    · have e : trimN L (n + 1) = trimN L n := by
        show (if L[n]? = some 0 then trimN L n else n + 1) = _
        rw [if_pos h]
      rw [e] at h1
      rcases Nat.lt_or_ge i n with z | z
      · exact trimN_top L n i h1 z (by omega)
      · have : i = n := by omega
        subst this
        exact cf_some h
    · have e : trimN L (n + 1) = n + 1 := by
        show (if L[n]? = some 0 then trimN L n else n + 1) = _
        rw [if_neg h]
      omega
theorem cf_trim (L : List Rat) (i : Nat) : cf (trim L) i = cf L i := by
  have hle := trimN_le L L.length
  have hl : (trim L).length = trimN L L.length := by unfold trim; rw [List.length_take]; exact Nat.min_eq_left hle
  rcases Nat.lt_or_ge i (trimN L L.length) with z | z
  · have e : (trim L)[i]? = L[i]? := by unfold trim; rw [List.getElem?_take, if_pos z]
    exact cf_some (by rw [e]; exact cf_get (by omega))
  · rw [cf_none (by omega)]
    rcases Nat.lt_or_ge i L.length with y | y
    · exact (trimN_top L _ i z y (Nat.le_refl _)).symm
    · exact (cf_none y).symm
/-- the last number of a told line isn't nought -/
theorem trimN_last (L : List Rat) : ∀ n, 0 < trimN L n → n ≤ L.length → cf L (trimN L n - 1) ≠ 0
  | 0, h, _ => by simp [trimN] at h
  | n + 1, h, h3 => by
    by_cases h2 : L[n]? = some 0
    · have e : trimN L (n + 1) = trimN L n := by
        show (if L[n]? = some 0 then trimN L n else n + 1) = _
        rw [if_pos h2]
      rw [e] at h ⊢
      exact trimN_last L n h (by omega)
    · have e : trimN L (n + 1) = n + 1 := by
        show (if L[n]? = some 0 then trimN L n else n + 1) = _
        rw [if_neg h2]
      rw [e]
      intro z
      apply h2
      rw [cf_get (by omega : n < L.length)]
      rw [← z]
      rfl
theorem trim_len (L : List Rat) : (trim L).length = trimN L L.length := by unfold trim; rw [List.length_take]; exact Nat.min_eq_left (trimN_le L _)
theorem trim_ext {X Y : List Rat} (h : ∀ i, cf X i = cf Y i) : trim X = trim Y := by
  have key : ∀ {X Y : List Rat}, (∀ i, cf X i = cf Y i) → (trim X).length ≤ (trim Y).length := by
    intro X Y h
    rcases Nat.lt_or_ge (trim Y).length (trim X).length with z | z
    · exfalso
      have lX := trim_len X
      have a := trimN_last X X.length (by omega) (Nat.le_refl _)
      rw [← lX, h, ← cf_trim Y, cf_none (by omega)] at a
      exact a rfl
    · exact z
  have hl : (trim X).length = (trim Y).length := Nat.le_antisymm (key h) (key fun i => (h i).symm)
  apply List.ext_getElem? 
  intro i
  rcases Nat.lt_or_ge i (trim X).length with z | z
  · rw [cf_get z, cf_get (by omega), cf_trim, cf_trim, h]
  · rw [List.getElem?_eq_none z, List.getElem?_eq_none (by omega)]
theorem cf_plus (A B : List Rat) (i : Nat) : cf (plusL A B) i = cf A i + cf B i := by
  rcases Nat.lt_or_ge i (max A.length B.length) with z | z
  · exact cf_some (plusL_get z)
  · rw [cf_none (by rw [plusL_len]; exact z), cf_none (by omega), cf_none (by omega)]
    exact (Rat.add_zero 0).symm
theorem cf_der (L : List Rat) (i : Nat) : cf (derL L) i = cf L (i + 1) * (((i + 1 : Nat) : Int) : Rat) := by
  have ld : (derL L).length = L.length - 1 := by unfold derL; simp
  rcases Nat.lt_or_ge (i + 1) L.length with z | z
  · refine cf_some ?_
    unfold derL
    rw [List.getElem?_drop, Nat.add_comm 1 i, List.getElem?_map, List.getElem?_range z]
    rfl
  · rw [cf_none (by omega), cf_none (by omega), Rat.zero_mul]
theorem cf_neg (L : List Rat) (i : Nat) : cf (negL L) i = - cf L i := by
  rcases Nat.lt_or_ge i L.length with z | z
  · exact cf_some (negL_get (cf_get z))
  · rw [cf_none (by rw [negL_len]; exact z), cf_none z]
    rfl
theorem cf_scaled (L : List Rat) (r : Rat) (i : Nat) : cf (scaledL L r) i = cf L i * r := by
  rcases Nat.lt_or_ge i L.length with z | z
  · refine cf_some ?_
    unfold scaledL
    rw [List.getElem?_map, cf_get z]
    rfl
  · rw [cf_none (by unfold scaledL; rw [List.length_map]; exact z), cf_none z, Rat.zero_mul]
theorem cf_zeros (L : List Rat) (k i : Nat) : cf (L ++ List.replicate k 0) i = cf L i := by
  rcases Nat.lt_or_ge i L.length with z | z
  · refine cf_some ?_
    rw [List.getElem?_append_left z]
    exact cf_get z
  · rw [cf_none z]
    rcases Nat.lt_or_ge i (L.length + k) with y | y
    · refine cf_some ?_
      rw [List.getElem?_append_right z, List.getElem?_replicate, if_pos (by omega)]
    · exact cf_none (by simp; omega)
/-! ### products -/
def Sm (f : Nat → Rat) : Nat → Rat
  | 0 => 0
  | n + 1 => Sm f n + f n
theorem Sm_ext {f g : Nat → Rat} : ∀ n, (∀ i, i < n → f i = g i) → Sm f n = Sm g n
  | 0, _ => rfl
  | n + 1, h => by rw [Sm, Sm, Sm_ext n fun i z => h i (by omega), h n (by omega)]
theorem Sm_add (f g : Nat → Rat) : ∀ n, Sm (fun i => f i + g i) n = Sm f n + Sm g n
  | 0 => (Rat.add_zero 0).symm
  | n + 1 => by rw [Sm, Sm, Sm, Sm_add f g n]; grind
theorem Sm_shift (f : Nat → Rat) : ∀ n, Sm f (n + 1) = f 0 + Sm (fun i => f (i + 1)) n
  | 0 => by show 0 + f 0 = f 0 + 0; grind
  | n + 1 => by rw [Sm, Sm_shift f n]; show f 0 + Sm (fun i => f (i + 1)) n + f (n + 1) = f 0 + (Sm (fun i => f (i + 1)) n + f (n + 1)); grind
theorem Sm_zero {f : Nat → Rat} : ∀ n, (∀ i, i < n → f i = 0) → Sm f n = 0
  | 0, _ => rfl
  | n + 1, h => by rw [Sm, Sm_zero n fun i z => h i (by omega), h n (by omega)]; exact Rat.add_zero 0
theorem Sm_mul (f : Nat → Rat) (c : Rat) : ∀ n, Sm (fun i => f i * c) n = Sm f n * c
  | 0 => (Rat.zero_mul c).symm
  | n + 1 => by rw [Sm, Sm, Sm_mul f c n]; grind
/-- terms at i of B, from i on, as far as j of them -/
theorem cf_row (R : List Rat) (i : Nat) (q : Rat) (B : List Rat) (hl : ∀ j, j < B.length → i + j < R.length) : ∀ j, j ≤ B.length → ∀ k, cf (rowT R i q B j) k = cf R k + (if i ≤ k ∧ k < i + j then q * cf B (k - i) else 0)
  | 0, _, k => by
    rw [if_neg (by omega)]
    show cf R k = cf R k + 0
    grind
  | j + 1, hj, k => by
    have ih := cf_row R i q B hl j (by omega)
    have len := rowT_len R i q B j
    by_cases h : k = i + j
    · subst h
      have e : cf (rowT R i q B (j + 1)) (i + j) = cf (rowT R i q B j) (i + j) + q * cf B j := by
        refine cf_some ?_
        show ((rowT R i q B j).set (i + j) _)[i + j]? = _
        rw [List.getElem?_set, if_pos rfl, if_pos (by rw [len]; exact hl j (by omega))]
        rfl
      rw [e, ih, if_neg (by omega), if_pos (by omega), Nat.add_sub_cancel_left]
      grind
    · have e : cf (rowT R i q B (j + 1)) k = cf (rowT R i q B j) k := by
        show ((rowT R i q B j).set (i + j) _).getD k 0 = _
        simp only [List.getD]
        rw [List.getElem?_set, if_neg (Ne.symm h)]
        rfl
      rw [e, ih]
      by_cases h2 : i ≤ k ∧ k < i + j
      · rw [if_pos h2, if_pos (by omega)]
      · rw [if_neg h2, if_neg (by omega)]
theorem cf_timesN (A B : List Rat) (hB : 0 < B.length) : ∀ n, n ≤ A.length → ∀ k, cf (timesN A B n) k = Sm (fun i => if i ≤ k then cf A i * cf B (k - i) else 0) n
  | 0, _, k => by
    show cf (List.replicate _ 0) k = 0
    have := cf_zeros [] (A.length + B.length - 1) k
    rw [List.nil_append] at this
    rw [this]
    rfl
  | n + 1, hn, k => by
    rw [Sm, ← cf_timesN A B hB n (by omega) k]
    show cf (rowT (timesN A B n) n (cf A n) B B.length) k = _
    rw [cf_row _ _ _ _ (fun j hj => by rw [timesN_len]; omega) B.length (Nat.le_refl _) k]
    by_cases h : n ≤ k
    · rw [if_pos h]
      by_cases h2 : k < n + B.length
      · rw [if_pos ⟨h, h2⟩]
      · rw [if_neg (by omega), cf_none (L := B) (i := k - n) (by omega), Rat.mul_zero]
    · rw [if_neg h, if_neg (by omega)]
theorem Sm_trunc {f : Nat → Rat} {n : Nat} (h : ∀ i, n ≤ i → f i = 0) : ∀ d, Sm f (n + d) = Sm f n
  | 0 => rfl
  | d + 1 => by
    show Sm f (n + d) + f (n + d) = Sm f n
    rw [Sm_trunc h d, h _ (by omega), Rat.add_zero]
theorem Sm_le {f : Nat → Rat} {n m : Nat} (h : ∀ i, n ≤ i → f i = 0) (hm : n ≤ m) : Sm f m = Sm f n := by
  obtain ⟨d, rfl⟩ : ∃ d, m = n + d := ⟨m - n, by omega⟩
  exact Sm_trunc h d
theorem Sm_from {g : Nat → Rat} {i : Nat} (h : ∀ k, k < i → g k = 0) : ∀ b, Sm g (i + b) = Sm (fun j => g (i + j)) b
  | 0 => Sm_zero i h
  | b + 1 => by
    show Sm g (i + b) + g (i + b) = _
    rw [Sm_from h b]
    rfl
/-- the number at k of a product -/
def cv (A B : List Rat) (k : Nat) : Rat := Sm (fun i => cf A i * cf B (k - i)) (k + 1)
theorem cf_times (A B : List Rat) (k : Nat) : cf (timesL A B) k = cv A B k := by
  rcases Nat.eq_zero_or_pos B.length with z | z
  · have hB : B = [] := List.eq_nil_of_length_eq_zero z
    subst hB
    unfold timesL cv
    rw [timesN_nil, Sm_zero]
    · have := cf_zeros [] (A.length + 0 - 1) k
      rw [List.nil_append] at this
      rw [this]
      rfl
    · intro i _
      rw [cf_none (L := []) (Nat.zero_le _), Rat.mul_zero]
  · unfold timesL cv
    rw [cf_timesN A B z _ (Nat.le_refl _) k]
    have e1 := Sm_le (f := fun i => if i ≤ k then cf A i * cf B (k - i) else 0) (n := A.length) (m := max A.length (k + 1)) (fun i hi => by
      show (if i ≤ k then cf A i * cf B (k - i) else 0) = 0
      split
      · rw [cf_none hi, Rat.zero_mul]
      · rfl) (Nat.le_max_left _ _)
    have e2 := Sm_le (f := fun i => if i ≤ k then cf A i * cf B (k - i) else 0) (n := k + 1) (m := max A.length (k + 1)) (fun i hi => by
      show (if i ≤ k then cf A i * cf B (k - i) else 0) = 0
      rw [if_neg (by omega)]) (Nat.le_max_right _ _)
    rw [← e1, e2]
    exact Sm_ext _ fun i hi => by
      show (if i ≤ k then cf A i * cf B (k - i) else 0) = _
      rw [if_pos (by omega)]
theorem cv_ext {A A2 B B2 : List Rat} (h : ∀ i, cf A i = cf A2 i) (h2 : ∀ i, cf B i = cf B2 i) (k : Nat) : cv A B k = cv A2 B2 k := Sm_ext _ fun i _ => by
  show cf A i * cf B (k - i) = _
  rw [h, h2]
/-- a product derived -/
theorem cv_der (A B : List Rat) (k : Nat) : cv A B (k + 1) * (((k + 1 : Nat) : Int) : Rat) = cv (derL A) B k + cv A (derL B) k := by
  have e0 : cv A B (k + 1) * (((k + 1 : Nat) : Int) : Rat) = Sm (fun i => cf A i * cf B (k + 1 - i) * ((i : Nat) : Int)) (k + 2) + Sm (fun i => cf A i * cf B (k + 1 - i) * (((k + 1 - i : Nat) : Nat) : Int)) (k + 2) := by
    unfold cv
    rw [← Sm_mul, ← Sm_add]
    refine Sm_ext _ fun i hi => ?_
    have e : (((k + 1 : Nat) : Int) : Rat) = ((i : Nat) : Int) + (((k + 1 - i : Nat) : Nat) : Int) := by
      have e2 : ((k + 1 : Nat) : Int) = ((i : Nat) : Int) + (((k + 1 - i : Nat) : Nat) : Int) := by omega
      rw [e2, Rat.intCast_add]
    show cf A i * cf B (k + 1 - i) * (((k + 1 : Nat) : Int) : Rat) = cf A i * cf B (k + 1 - i) * ((i : Nat) : Int) + cf A i * cf B (k + 1 - i) * (((k + 1 - i : Nat) : Nat) : Int)
    rw [e, Rat.mul_add]
  have e1 : Sm (fun i => cf A i * cf B (k + 1 - i) * ((i : Nat) : Int)) (k + 2) = cv (derL A) B k := by
    rw [Sm_shift]
    have z : cf A 0 * cf B (k + 1 - 0) * (((0 : Nat) : Int) : Rat) = 0 := Rat.mul_zero _
    rw [z, Rat.zero_add]
    refine Sm_ext _ fun i hi => ?_
    show cf A (i + 1) * cf B (k + 1 - (i + 1)) * (((i + 1 : Nat) : Int) : Rat) = cf (derL A) i * cf B (k - i)
    rw [cf_der, Nat.add_sub_add_right]
    grind
  have e2 : Sm (fun i => cf A i * cf B (k + 1 - i) * (((k + 1 - i : Nat) : Nat) : Int)) (k + 2) = cv A (derL B) k := by
    rw [Sm]
    have z : cf A (k + 1) * cf B (k + 1 - (k + 1)) * (((k + 1 - (k + 1) : Nat) : Int) : Rat) = 0 := by
      rw [Nat.sub_self]
      exact Rat.mul_zero _
    rw [z, Rat.add_zero]
    refine Sm_ext _ fun i hi => ?_
    show cf A i * cf B (k + 1 - i) * (((k + 1 - i : Nat) : Int) : Rat) = cf A i * cf (derL B) (k - i)
    rw [cf_der, show k + 1 - i = k - i + 1 by omega, Rat.mul_assoc]
  rw [e0, e1, e2]
theorem der_times (A B : List Rat) : trim (derL (trim (timesL A B))) = trim (plusL (trim (timesL (trim (derL A)) B)) (trim (timesL A (trim (derL B))))) := by
  refine trim_ext fun k => ?_
  rw [cf_der, cf_trim, cf_times, cv_der, cf_plus, cf_trim, cf_trim, cf_times, cf_times]
  rw [cv_ext (fun i => (cf_trim (derL A) i).symm) (fun _ => rfl) k, cv_ext (fun _ => rfl) (fun i => (cf_trim (derL B) i).symm) k]
end K31

set_option Elab.async false
set_option linter.all false
set_option maxRecDepth 100000
set_option maxHeartbeats 1000000
namespace K31
def pw (r : Rat) : Nat → Rat
  | 0 => 1
  | n + 1 => pw r n * r
theorem pw_add (r : Rat) (a : Nat) : ∀ b, pw r (a + b) = pw r a * pw r b
  | 0 => (Rat.mul_one _).symm
  | b + 1 => by
    show pw r (a + b) * r = pw r a * (pw r b * r)
    rw [pw_add r a b, Rat.mul_assoc]
theorem worL_cons (x : Rat) (l : List Rat) (r : Rat) : worL (x :: l) r = worL l r * r + x := by
  unfold worL
  rw [List.reverse_cons, List.foldl_append]
  rfl
theorem wor_sum (r : Rat) : ∀ L : List Rat, worL L r = Sm (fun i => cf L i * pw r i) L.length
  | [] => rfl
  | x :: l => by
    rw [worL_cons, wor_sum r l, List.length_cons, Sm_shift, ← Sm_mul]
    have e0 : cf (x :: l) 0 * pw r 0 = x := Rat.mul_one x
    rw [e0, Rat.add_comm]
    congr 1
    refine Sm_ext _ fun i _ => ?_
    show cf l i * pw r i * r = cf l i * (pw r i * r)
    exact Rat.mul_assoc _ _ _
theorem wor_at (L : List Rat) (r : Rat) {n : Nat} (h : L.length ≤ n) : worL L r = Sm (fun i => cf L i * pw r i) n := by
  rw [wor_sum]
  exact (Sm_le (fun i hi => by
    show cf L i * pw r i = 0
    rw [cf_none hi, Rat.zero_mul]) h).symm
theorem wor_ext {X Y : List Rat} (h : ∀ i, cf X i = cf Y i) (r : Rat) : worL X r = worL Y r := by
  rw [wor_at X r (Nat.le_max_left X.length Y.length), wor_at Y r (Nat.le_max_right X.length Y.length)]
  exact Sm_ext _ fun i _ => by
    show cf X i * pw r i = _
    rw [h]
theorem wor_trim (L : List Rat) (r : Rat) : worL (trim L) r = worL L r := wor_ext (cf_trim L) r
theorem wor_timesN (A B : List Rat) (hB : 0 < B.length) (r : Rat) : ∀ n, n ≤ A.length → Sm (fun k => cf (timesN A B n) k * pw r k) (A.length + B.length - 1) = Sm (fun i => cf A i * pw r i) n * Sm (fun j => cf B j * pw r j) B.length
  | 0, _ => by
    rw [Sm_zero]
    · exact (Rat.zero_mul _).symm
    · intro i _
      have := cf_zeros [] (A.length + B.length - 1) i
      rw [List.nil_append] at this
      show cf (List.replicate _ 0) i * pw r i = 0
      rw [this, cf_none (L := []) (Nat.zero_le _), Rat.zero_mul]
  | n + 1, hn => by
    have ih := wor_timesN A B hB r n (by omega)
    have e1 : Sm (fun k => cf (timesN A B (n + 1)) k * pw r k) (A.length + B.length - 1) = Sm (fun k => cf (timesN A B n) k * pw r k) (A.length + B.length - 1) + Sm (fun k => (if n ≤ k ∧ k < n + B.length then cf A n * cf B (k - n) else 0) * pw r k) (A.length + B.length - 1) := by
      rw [← Sm_add]
      refine Sm_ext _ fun k _ => ?_
      show cf (rowT (timesN A B n) n (cf A n) B B.length) k * pw r k = cf (timesN A B n) k * pw r k + (if n ≤ k ∧ k < n + B.length then cf A n * cf B (k - n) else 0) * pw r k
      rw [cf_row _ _ _ _ (fun j hj => by rw [timesN_len]; omega) B.length (Nat.le_refl _) k, Rat.add_mul]
    have e2 : Sm (fun k => (if n ≤ k ∧ k < n + B.length then cf A n * cf B (k - n) else 0) * pw r k) (A.length + B.length - 1) = cf A n * pw r n * Sm (fun j => cf B j * pw r j) B.length := by
      rw [Sm_le (n := n + B.length) (fun i hi => by
        show (if n ≤ i ∧ i < n + B.length then cf A n * cf B (i - n) else 0) * pw r i = 0
        rw [if_neg (by omega), Rat.zero_mul]) (by omega)]
      rw [Sm_from (i := n) (fun k hk => by
        show (if n ≤ k ∧ k < n + B.length then cf A n * cf B (k - n) else 0) * pw r k = 0
        rw [if_neg (by omega), Rat.zero_mul])]
      rw [Rat.mul_comm (cf A n * pw r n), ← Sm_mul]
      refine Sm_ext _ fun j hj => ?_
      show (if n ≤ n + j ∧ n + j < n + B.length then cf A n * cf B (n + j - n) else 0) * pw r (n + j) = cf B j * pw r j * (cf A n * pw r n)
      rw [if_pos (by omega), Nat.add_sub_cancel_left, pw_add]
      grind
    rw [e1, ih, e2, Sm, Rat.add_mul]
theorem wor_times (A B : List Rat) (r : Rat) : worL (timesL A B) r = worL A r * worL B r := by
  rcases Nat.eq_zero_or_pos B.length with z | z
  · have hB : B = [] := List.eq_nil_of_length_eq_zero z
    subst hB
    have e : worL (timesL A []) r = worL (trim (timesL A [])) r := (wor_trim _ r).symm
    rw [e, times_nilR]
    show (0 : Rat) = worL A r * 0
    exact (Rat.mul_zero _).symm
  · have l : (timesL A B).length = A.length + B.length - 1 := timesN_len A B A.length
    rw [wor_at _ r (Nat.le_of_eq l), wor_sum r A, wor_sum r B]
    exact wor_timesN A B z r A.length (Nat.le_refl _)
theorem trim_zeros (L : List Rat) (k : Nat) : trim (L ++ List.replicate k 0) = trim L := trim_ext (cf_zeros L k)
theorem trim_minus (A B : List Rat) : trim (plusL A (trim (scaledL B (-1)))) = trim (plusL A (negL B)) := by
  refine trim_ext fun i => ?_
  rw [cf_plus, cf_plus, cf_trim, cf_scaled, cf_neg]
  grind
end K31

set_option Elab.async false
set_option linter.all false
set_option maxRecDepth 100000
set_option maxHeartbeats 4000000
namespace K31
open PySem PySem.Spec PyProof.Rows L2 Own
open PySem.W (Frag)
section
variable {P : Program} {w : World} {K : Frag} {mg : Str → Option Value} {base : Heap}
def rt (q : Rat) : Str := told (pr q)
def RT (K : Frag) : Addr → Str → Hp → Prop := fun a t H => ∃ q : Rat, RatAt (CR K) H a (pr q) ∧ t = rt q ∧ Tl (pr q).1 ∧ Tl (pr q).2
theorem RT.ext {a : Addr} {t : Str} {H H2 : Hp} (e : Ext H H2) (h : RT K a t H) : RT K a t H2 := by
  obtain ⟨q, R, r⟩ := h
  exact ⟨q, R.same e, r⟩
theorem fo_repr (T : Tx K mg) : FnOk P w K mg base CX0 1 (ma K (CR K) "__repr__") (fdOf K (ma K (CR K) "__repr__")) ["self"] (spTell (RT K)) := by
  refine T.F_Ratio_repr.ok sc_Ratio_repr (fun vs H Q E h => ?_) (fun cdv A outer s H vs Q E hr h => ?_)
  · obtain ⟨a, t, rfl, _⟩ := h
    rfl
  obtain ⟨a, t, rfl, ⟨qq, ⟨dx, e⟩, rfl, t1, t2⟩, k0⟩ := h
  have k := k0 H Ext.rfl'
  obtain ⟨q, eq0⟩ : ∃ q, q = pr qq := ⟨_, rfl⟩
  rw [← eq0] at e t1 t2
  have k : Q (.str (told q)) H := by rw [eq0]; exact k
  refine ⟨_, pss_one (ps_ret (pe_joined (.cons pe_str (.cons (pe_fmt (pe_fld (pv 0) rfl)) (.cons pe_str (.cons (pe_fmt (pe_fld (pv 0) rfl)) (.cons pe_str .nil))))))), ?_⟩
  have l1 := S_len t1
  have l2 := S_len t2
  have l3 : (("Ratio(" : Str)).length = 6 := by decide +kernel
  have l4 : ((", " : Str)).length = 2 := by decide +kernel
  have l5 : ((")" : Str)).length = 1 := by decide +kernel
  refine ⟨"Ratio(", rfl, ?_, _, rfl, a, CR K, dx, _, _, rfl, e, T.cl_Ratio, T.na_top, rf_top _ _, .inr ⟨_, rfl, t1, S q.1, rfl, ?_, ", ", rfl, ?_, _, rfl, a, CR K, dx, _, _, rfl, e, T.cl_Ratio, T.na_bottom, rf_bottom _ _,
    .inr ⟨_, rfl, t2, S q.2, rfl, ?_, ")", rfl, ?_, k⟩⟩⟩
  · rw [len_app, len_e, l3]; exact szl (by omega)
  · rw [len_app, len_app, len_e, l3]; exact szl (by omega)
  · rw [len_app, len_app, len_app, len_e, l3, l4]; exact szl (by omega)
  · rw [len_app, len_app, len_app, len_app, len_e, l3, l4]; exact szl (by omega)
  · rw [len_app, len_app, len_app, len_app, len_app, len_e, l3, l4, l5]; exact szl (by omega)
theorem fo_eq (T : Tx K mg) : FnOk P w K mg base CX0 1 (ma K (CR K) "__eq__") (fdOf K (ma K (CR K) "__eq__")) ["self", "other"] (L2.spEq fun a b H => ∃ q : Rat, RatAt (CR K) H a (pr q) ∧ RatAt (CR K) H b (pr q)) := by
  refine T.F_Ratio_eq.ok sc_Ratio_eq (fun vs H Q E h => ?_) (fun cdv A outer s H vs Q E hr h => ?_)
  · obtain ⟨a, b, rfl, _⟩ := h
    rfl
  obtain ⟨a, b, rfl, ⟨q, ⟨dx, e⟩, ⟨dy, e2⟩⟩, k⟩ := h
  refine ⟨_, pss_one (ps_ret (pe_and (pe_callB call_isi (by rfl) T.n_isinstance (by decide +kernel) (pa_cons (pv 1) (pa_cons (pe_glob (v := .ref (CR K)) rfl T.g_Ratio rfl) pa_nil)))
    (pe_and (pe_cmpR op_eq (pe_fld (pv 0) rfl) (pe_fld (pv 1) rfl) (nomark _)) (pe_one (pe_cmpR op_eq (pe_fld (pv 0) rfl) (pe_fld (pv 1) rfl) (nomark _)))))), ?_⟩
  refine ⟨_, rfl, _, _, _, _, _, rfl, .own _, T.is_Ratio.ty T.cl_Ratio e2, T.kk_Ratio, _, rfl, ?_⟩
  refine iteT ?_
  refine ⟨_, rfl, a, CR K, dx, _, _, rfl, e, T.cl_Ratio, T.na_top, rf_top _ _, _, rfl, b, CR K, dy, _, _, rfl, e2, T.cl_Ratio, T.na_top, rf_top _ _, rfl, _, rfl, ?_⟩
  refine ite2 (fun _ => ?_) (fun z => absurd (decide_eq_true rfl) z)
  refine ⟨_, rfl, a, CR K, dx, _, _, rfl, e, T.cl_Ratio, T.na_bottom, rf_bottom _ _, _, rfl, b, CR K, dy, _, _, rfl, e2, T.cl_Ratio, T.na_bottom, rf_bottom _ _, rfl, ?_⟩
  have z : decide (V.int (pr q).2 = V.int (pr q).2) = true := decide_eq_true rfl
  rw [z]
  exact k H Ext.rfl'
/-! ### what shows -/
abbrev D1 (K : Frag) : Shw := fun x t as H => DInt x t as H ∨ DOwn (CR K) (RT K) x t as H
abbrev D2 (K : Frag) : Shw := fun x t as H => DLst (D1 K) x t as H ∨ DTpl (D1 K) x t as H
theorem mon1 : MonT (D1 K) := monT_int.or (monT_own fun a t H H' e h => RT.ext e h)
theorem mon2 : MonT (D2 K) := (monT_lst mon1).or (monT_tpl mon1)
theorem tl_of {m : Nat} {i : Int} (h : Sz m i) (hm : m ≤ 1900) : Tl i := by
  unfold Tl
  unfold Sz at h
  by_cases z : i.natAbs = 0
  · rw [z]; decide
  · have := (Nat.log2_lt z).mpr h
    omega
/-- a line shows its numbers -/
theorem ln_shows {H : Hp} {m : Nat} {a : Addr} {xs : List V} {L : List Rat} (ha : H a = some (.lst xs)) (N : LnAt (CR K) H m xs L) (hm : m ≤ 1900) (as : List Addr) (hin : a ∈ as) : D2 K (.ref a) (listText (L.map rt)) as H := by
  refine .inl ⟨a, xs, L.map rt, [], rfl, rfl, fun b hb => by
    rw [List.mem_singleton.mp hb]
    exact hin, (fun z => nomatch z), ha, by rw [List.length_map, N.len], fun i y e => ?_⟩
  obtain ⟨b, q, rfl, hq, R, o⟩ := N.at_ i y e
  obtain ⟨dx, eb⟩ := id R
  exact ⟨rt q, by rw [List.getElem?_map, hq]; rfl, .inr ⟨b, dx, _, rfl, eb, q, R, rfl, tl_of o.st hm, tl_of o.sb hm⟩⟩
/-- what is passed shows something -/
theorem nm_shows {H : Hp} {m : Nat} {a : Addr} {zs : List V} {L : List Rat} (ha : SeqAt1 H a zs) (N : NmAt (CR K) H m zs L) (hm : m ≤ 1900) : ∃ ts : List Str, ts.length = zs.length ∧ (∀ t, t ∈ ts → t.length ≤ 4000) ∧ ∃ t, (t = listText ts ∨ t = tupleText ts) ∧ ∀ as : List Addr, a ∈ as → D2 K (.ref a) t as H := by
  have each : ∀ (i : Nat) y, zs[i]? = some y → ∃ t : Str, t.length ≤ 4000 ∧ D1 K y t [] H := by
    intro i y e
    obtain ⟨q, hq, nv, o⟩ := N.at_ i y e
    have t1 := tl_of o.st hm
    have t2 := tl_of o.sb hm
    rcases nv with ⟨j, rfl, ej⟩ | ⟨b, rfl, R⟩
    · refine ⟨Str.ofString (toString j), ?_, .inl ⟨j, rfl, rfl, ?_⟩⟩
      · have e1 : (pr q).1 = j := by rw [ej]
        rw [e1] at t1
        have := S_len t1
        exact Nat.le_trans this (by decide)
      · have e1 : (pr q).1 = j := by rw [ej]
        rw [e1] at t1
        exact t1
    · obtain ⟨dx, eb⟩ := id R
      refine ⟨rt q, ?_, .inr ⟨b, dx, _, rfl, eb, q, R, rfl, t1, t2⟩⟩
      have l1 := S_len t1
      have l2 := S_len t2
      have l3 : (("Ratio(" : Str)).length = 6 := by decide +kernel
      have l4 : ((", " : Str)).length = 2 := by decide +kernel
      have l5 : ((")" : Str)).length = 1 := by decide +kernel
      unfold rt told
      rw [len_app, len_app, len_app, len_app, len_app, len_e, l3, l4, l5]
      omega
  obtain ⟨ts, hl, hts⟩ : ∃ ts : List Str, ts.length = zs.length ∧ ∀ (i : Nat) y, zs[i]? = some y → ∃ t, ts[i]? = some t ∧ t.length ≤ 4000 ∧ D1 K y t [] H := by
    clear ha N
    induction zs with
    | nil => exact ⟨[], rfl, fun i y e => by simp at e⟩
    | cons z zs ih =>
      obtain ⟨t, h1, h2⟩ := each 0 z rfl
      obtain ⟨ts, h3, h4⟩ := ih fun i y e => each (i + 1) y e
      refine ⟨t :: ts, by simp [h3], fun i y e => ?_⟩
      cases i with
      | zero => cases e; exact ⟨t, rfl, h1, h2⟩
      | succ i => exact h4 i y e
  refine ⟨ts, hl, fun t ht => ?_, ?_⟩
  · obtain ⟨i, hi⟩ := List.getElem?_of_mem ht
    have hlt : i < zs.length := by rw [← hl]; exact (List.getElem?_eq_some_iff.mp hi).1
    obtain ⟨t2, h1, h2, _⟩ := hts i _ (List.getElem?_eq_getElem hlt)
    rw [hi] at h1
    cases h1
    exact h2
  · rcases ha with ha | ha
    · exact ⟨_, .inl rfl, fun as hin => .inl ⟨a, zs, ts, [], rfl, rfl, fun b hb => by rw [List.mem_singleton.mp hb]; exact hin, (fun z => nomatch z), ha, hl, fun i y e => let ⟨t, h1, _, h3⟩ := hts i y e; ⟨t, h1, h3⟩⟩⟩
    · exact ⟨_, .inr rfl, fun as hin => .inr ⟨a, zs, ts, [], rfl, rfl, fun b hb => by rw [List.mem_singleton.mp hb]; exact hin, (fun z => nomatch z), ha, hl, fun i y e => let ⟨t, h1, _, h3⟩ := hts i y e; ⟨t, h1, h3⟩⟩⟩
end
end K31

set_option Elab.async false
set_option linter.all false
set_option maxRecDepth 100000
set_option maxHeartbeats 4000000
namespace K31
open PySem PySem.Spec PyProof.Rows L2 Own
open PySem.W (Frag)
section
variable {P : Program} {w : World} {K : Frag} {mg : Str → Option Value} {base : Heap}
/-! ### how long what is shown is -/
theorem lt_len (ts : List Str) : (listText ts).length ≤ 2 + piled ts := by
  cases ts with
  | nil => decide +kernel
  | cons t r =>
    have h := textFrom_length_pos r 1 (("[" : Str) ++ (if (0 : Nat) > 0 then ", " else "" : String) ++ t) (Nat.succ_pos 0)
    have hX : (listText (t :: r)).length = (textFrom 1 (("[" : Str) ++ (if (0 : Nat) > 0 then ", " else "" : String) ++ t) r).length + 1 := by
      show (textFrom 0 "[" (t :: r) ++ "]").length = _
      rw [len_app]
      rfl
    have l1 : (("[" : Str) ++ (if (0 : Nat) > 0 then ", " else "" : String)).length = 1 := by decide +kernel
    rw [hX, h, len_app, l1]
    have hp : piled (t :: r) = t.length + 2 + piled r := by simp [piled]
    omega
theorem tt_len (ts : List Str) : (tupleText ts).length ≤ 4 + piled ts := by
  unfold tupleText
  rw [len_app, len_app]
  have l1 : (Str.ofString "(").length = 1 := by decide +kernel
  have l2 : (Str.ofString (if (ts.length == 1) = true then ",)" else ")")).length ≤ 2 := by
    cases (ts.length == 1) <;> decide +kernel
  have l3 : ((Str.ofString ", ").join ts).length ≤ piled ts := by
    by_cases h : ts = []
    · subst h; decide +kernel
    · have := join_length_add ts h
      exact Nat.le_trans (Nat.le_add_right _ 2) (Nat.le_of_eq this)
  omega
theorem piled_le {c : Nat} : ∀ ts : List Str, (∀ t, t ∈ ts → t.length ≤ c) → piled ts ≤ ts.length * (c + 2)
  | [], _ => by simp [piled]
  | t :: r, h => by
    have h1 := piled_le r fun u hu => h u (.tail _ hu)
    have h2 := h t (.head _)
    have hp : piled (t :: r) = t.length + 2 + piled r := by simp [piled]
    have e : (t :: r).length * (c + 2) = r.length * (c + 2) + (c + 2) := by rw [List.length_cons, Nat.succ_mul]
    omega
theorem rt_len {m : Nat} {q : Rat} (o : OkP m (pr q)) (hm : m ≤ 1900) : (rt q).length ≤ 4000 := by
  have l1 := S_len (tl_of o.st hm)
  have l2 := S_len (tl_of o.sb hm)
  have l3 : (("Ratio(" : Str)).length = 6 := by decide +kernel
  have l4 : ((", " : Str)).length = 2 := by decide +kernel
  have l5 : ((")" : Str)).length = 1 := by decide +kernel
  unfold rt told
  rw [len_app, len_app, len_app, len_app, len_app, len_e, l3, l4, l5]
  omega
theorem ln_len {C : Addr} {H : Hp} {m : Nat} {xs : List V} {L : List Rat} (N : LnAt C H m xs L) (hm : m ≤ 1900) : (listText (L.map rt)).length ≤ 2 + L.length * 4002 := by
  have h := piled_le (c := 4000) (L.map rt) fun t ht => by
    obtain ⟨q, hq, rfl⟩ := List.mem_map.mp ht
    obtain ⟨i, hi⟩ := List.getElem?_of_mem hq
    have hlt : i < xs.length := by rw [N.len]; exact (List.getElem?_eq_some_iff.mp hi).1
    obtain ⟨b, q2, _, hq2, _, o⟩ := N.at_ i _ (List.getElem?_eq_getElem hlt)
    rw [hi] at hq2
    cases hq2
    exact rt_len o hm
  have := lt_len (L.map rt)
  rw [List.length_map] at h
  omega
/-! ### lists of lines -/
def refs : List V → List Addr
  | [] => []
  | .ref a :: r => a :: refs r
  | _ :: r => refs r
theorem mem_refs {a : Addr} : ∀ {vs : List V}, V.ref a ∈ vs → a ∈ refs vs
  | .ref b :: r, h => by
    rcases List.mem_cons.mp h with e | e
    · cases e; exact .head _
    · exact .tail _ (mem_refs e)
  | .int _ :: r, h | .bl _ :: r, h | .str _ :: r, h | .non :: r, h | .byt _ :: r, h | .flt _ :: r, h | .ty _ :: r, h => by
    rcases List.mem_cons.mp h with e | e
    · cases e
    · exact mem_refs (vs := r) e
theorem of_refs {a : Addr} : ∀ {vs : List V}, a ∈ refs vs → V.ref a ∈ vs
  | .ref b :: r, h => by
    rcases List.mem_cons.mp h with e | e
    · cases e; exact .head _
    · exact .tail _ (of_refs e)
  | .int _ :: r, h | .bl _ :: r, h | .str _ :: r, h | .non :: r, h | .byt _ :: r, h | .flt _ :: r, h | .ty _ :: r, h => .tail _ (of_refs (vs := r) h)
/-- the values are lines -/
def LnsAt (K : Frag) (H : Hp) (m n : Nat) (vs : List V) (Ls : List (List Rat)) : Prop := vs.length = Ls.length ∧
  ∀ (i : Nat) x, vs[i]? = some x → ∃ a xs L, x = .ref a ∧ Ls[i]? = some L ∧ H a = some (.lst xs) ∧ LnAt (CR K) H m xs L ∧ L.length ≤ n
theorem LnsAt.nil {H : Hp} {m n : Nat} : LnsAt K H m n [] [] := ⟨rfl, fun i x e => by simp at e⟩
theorem LnsAt.cons {H : Hp} {m n k : Nat} {a : Addr} {xs : List V} {L : List Rat} {vs : List V} {Ls : List (List Rat)} (ha : H a = some (.lst xs)) (N : LnAt (CR K) H k xs L) (hk : k ≤ m) (hl : L.length ≤ n) (h : LnsAt K H m n vs Ls) : LnsAt K H m n (.ref a :: vs) (L :: Ls) := by
  refine ⟨by simp [h.1], fun i x e => ?_⟩
  cases i with
  | zero => cases e; exact ⟨a, xs, L, rfl, rfl, ha, N.le hk, hl⟩
  | succ i => exact h.2 i x e
theorem LnsAt.same {H H2 : Hp} {m n : Nat} {vs : List V} {Ls : List (List Rat)} (h : LnsAt K H m n vs Ls) (s : Same H H2) : LnsAt K H2 m n vs Ls :=
  ⟨h.1, fun i x e => let ⟨a, xs, L, e1, e2, e3, e4, e5⟩ := h.2 i x e; ⟨a, xs, L, e1, e2, s _ _ e3, e4.same s, e5⟩⟩
theorem LnsAt.fresh {H : Hp} {m n : Nat} {f : Addr} {vs : List V} {Ls : List (List Rat)} (h : LnsAt K H m n vs Ls) (hf : H f = none) : V.ref f ∉ vs := by
  intro z
  obtain ⟨i, hi⟩ := List.getElem?_of_mem z
  obtain ⟨a, xs, L, e1, _, e3, _⟩ := h.2 i _ hi
  cases e1
  rw [hf] at e3
  cases e3
def lnsText (Ls : List (List Rat)) : Str := listText (Ls.map fun L => listText (L.map rt))
theorem lns_shows {H : Hp} {m n : Nat} {f : Addr} {vs : List V} {Ls : List (List Rat)} (hf : H f = some (.lst vs)) (N : LnsAt K H m n vs Ls) (hm : m ≤ 1900) (hn : V.ref f ∉ vs) : DLst (D2 K) (.ref f) (lnsText Ls) (f :: refs vs) H := by
  refine ⟨f, vs, _, refs vs, rfl, rfl, fun b hb => hb, fun z => hn (of_refs z), hf, by rw [List.length_map, N.1], fun i y e => ?_⟩
  obtain ⟨a, xs, L, rfl, hL, ha, NL, _⟩ := N.2 i y e
  exact ⟨_, by rw [List.getElem?_map, hL]; rfl, ln_shows ha NL hm _ (mem_refs (List.mem_of_getElem? e))⟩
theorem lns_len {H : Hp} {m n : Nat} {vs : List V} {Ls : List (List Rat)} (N : LnsAt K H m n vs Ls) (hm : m ≤ 1900) (hn : n ≤ 40) (hv : vs.length ≤ 20) : (lnsText Ls).length ≤ sizeLine := by
  have h := piled_le (c := 170000) (Ls.map fun L => listText (L.map rt)) fun t ht => by
    obtain ⟨L, hL, rfl⟩ := List.mem_map.mp ht
    obtain ⟨i, hi⟩ := List.getElem?_of_mem hL
    have hlt : i < vs.length := by rw [N.1]; exact (List.getElem?_eq_some_iff.mp hi).1
    obtain ⟨b, xs, L2, _, hq2, _, NL, hl⟩ := N.2 i _ (List.getElem?_eq_getElem hlt)
    rw [hi] at hq2
    cases hq2
    have := ln_len NL hm
    have : L.length * 4002 ≤ 40 * 4002 := Nat.mul_le_mul_right _ (by omega)
    omega
  have h2 := lt_len (Ls.map fun L => listText (L.map rt))
  rw [List.length_map, ← N.1] at h
  have : vs.length * (170000 + 2) ≤ 20 * (170000 + 2) := Nat.mul_le_mul_right _ hv
  unfold lnsText
  rw [sizeLine_eq]
  omega
/-- two texts as they are passed -/
theorem two_len {t1 t2 : Str} {ts1 ts2 : List Str} (l1 : ts1.length ≤ 20) (l2 : ts2.length ≤ 20) (b1 : ∀ t, t ∈ ts1 → t.length ≤ 4000) (b2 : ∀ t, t ∈ ts2 → t.length ≤ 4000)
    (e1 : t1 = listText ts1 ∨ t1 = tupleText ts1) (e2 : t2 = listText ts2 ∨ t2 = tupleText ts2) : (listText [t1, t2]).length ≤ sizeLine := by
  have one : ∀ {t : Str} {ts : List Str}, ts.length ≤ 20 → (∀ t, t ∈ ts → t.length ≤ 4000) → (t = listText ts ∨ t = tupleText ts) → t.length ≤ 90000 := by
    intro t ts l b e
    have h := piled_le ts b
    have : ts.length * (4000 + 2) ≤ 20 * (4000 + 2) := Nat.mul_le_mul_right _ l
    rcases e with rfl | rfl
    · have := lt_len ts
      omega
    · have := tt_len ts
      omega
  have h1 := one l1 b1 e1
  have h2 := one l2 b2 e2
  have h3 := lt_len [t1, t2]
  have h4 : piled [t1, t2] = t1.length + 2 + (t2.length + 2) := by simp [piled]
  rw [sizeLine_eq]
  omega
end
end K31

set_option Elab.async false
set_option linter.all false
set_option maxRecDepth 100000
set_option maxHeartbeats 4000000
namespace K31
open PySem PySem.Spec PyProof.Rows L2 Own
open PySem.W (Frag)
section
variable {P : Program} {w : World} {K : Frag} {mg : Str → Option Value} {base : Heap}
/-- keywords for parameters that have no defaults -/
theorem kb_plain {x qual : Str} {params : Arguments} {body : List Stmt} {scope : Scope} {f : Addr} {fd : FuncData} {ps : List Str} (F : FunD K x qual params body scope [] [] f fd) (n : Nat) (ks : List Str) (g : {α : Type} → List α → List α → List α)
    (hrel : ∀ {vs zs : List V} {us ws : List Value}, Vals vs us → Vals zs ws → Vals (g vs zs) (g us ws))
    (h : ∀ (kV doc pm : Value) (an : Option Addr) (cdv ct : Value) (us ws : List Value), us.length = n → ws.length = ks.length → bindArgs (PySem.W.fnOf x qual params body scope .none kV doc pm an cdv ct) ⟨us, ks.zip ws⟩ = pure (ps.zip (g us ws))) :
    KBn K fd ps n ks (fun us ws => g us ws) (fun vs zs => g vs zs) := by
  obtain ⟨oc, od, dV, kV, doc, pm, an, cdv, ct, osl, rfl, lk, hcd, hD, hK⟩ := F.ex
  rcases hD with ⟨_, rfl⟩ | ⟨e, _⟩
  · exact ⟨fun s us ws X l1 l2 => .of_eq (h kV doc pm an cdv ct us ws l1 l2), fun r z => hrel r z⟩
  · exact absurd rfl e
theorem vals_rev : ∀ {xs : List V} {us : List Value}, Vals xs us → Vals xs.reverse us.reverse
  | _, _, .nil => .nil
  | _, _, .cons a h => by
    rw [List.reverse_cons, List.reverse_cons]
    exact (vals_rev h).append (.cons a .nil)
def EqR (K : Frag) : Addr → Addr → Hp → Prop := fun a b H => ∃ q : Rat, RatAt (CR K) H a (pr q) ∧ RatAt (CR K) H b (pr q)
theorem eqr_ext (a b : Addr) (H H' : Hp) (e : Ext H H') (h : EqR K a b H) : EqR K a b H' := by
  obtain ⟨q, r1, r2⟩ := h
  exact ⟨q, r1.same e, r2.same e⟩
theorem fo_eq2 (T : Tx K mg) : FnOk P w K mg base CX0 1 (ma K (CR K) "__eq__") (fdOf K (ma K (CR K) "__eq__")) ["self", "other"] (L2.spEq (EqR K)) := fo_eq T
theorem kb_minus (T : Tx K mg) : KBn K (fdOf K (ga K "minus")) ["line", "other"] 0 ["other", "line"] (fun _ ws => ws.reverse) (fun _ zs => zs.reverse) :=
  kb_plain (ps := ["line", "other"]) T.F_minus 0 ["other", "line"] (fun _ ws => ws.reverse) (fun _ z => vals_rev z) fun _ _ _ _ _ _ us ws h1 h2 => match us, ws, h1, h2 with | [], [_, _], _, _ => rfl
theorem kb_plus (T : Tx K mg) : KBn K (fdOf K (ga K "plus")) ["line", "other"] 0 ["other", "line"] (fun _ ws => ws.reverse) (fun _ zs => zs.reverse) :=
  kb_plain (ps := ["line", "other"]) T.F_plus 0 ["other", "line"] (fun _ ws => ws.reverse) (fun _ z => vals_rev z) fun _ _ _ _ _ _ us ws h1 h2 => match us, ws, h1, h2 with | [], [_, _], _, _ => rfl
theorem kb_times (T : Tx K mg) : KBn K (fdOf K (ga K "times")) ["line", "other"] 0 ["other", "line"] (fun _ ws => ws.reverse) (fun _ zs => zs.reverse) :=
  kb_plain (ps := ["line", "other"]) T.F_times 0 ["other", "line"] (fun _ ws => ws.reverse) (fun _ z => vals_rev z) fun _ _ _ _ _ _ us ws h1 h2 => match us, ws, h1, h2 with | [], [_, _], _, _ => rfl
theorem kb_scaled (T : Tx K mg) : KBn K (fdOf K (ga K "scaled")) ["line", "number"] 0 ["number", "line"] (fun _ ws => ws.reverse) (fun _ zs => zs.reverse) :=
  kb_plain (ps := ["line", "number"]) T.F_scaled 0 ["number", "line"] (fun _ ws => ws.reverse) (fun _ z => vals_rev z) fun _ _ _ _ _ _ us ws h1 h2 => match us, ws, h1, h2 with | [], [_, _], _, _ => rfl
theorem kb_worth (T : Tx K mg) : KBn K (fdOf K (ga K "worth")) ["line", "number"] 0 ["number", "line"] (fun _ ws => ws.reverse) (fun _ zs => zs.reverse) :=
  kb_plain (ps := ["line", "number"]) T.F_worth 0 ["number", "line"] (fun _ ws => ws.reverse) (fun _ z => vals_rev z) fun _ _ _ _ _ _ us ws h1 h2 => match us, ws, h1, h2 with | [], [_, _], _, _ => rfl
theorem kb_degree (T : Tx K mg) : KBn K (fdOf K (ga K "degree")) ["line"] 0 ["line"] (fun _ ws => ws.reverse) (fun _ zs => zs.reverse) :=
  kb_plain (ps := ["line"]) T.F_degree 0 ["line"] (fun _ ws => ws.reverse) (fun _ z => vals_rev z) fun _ _ _ _ _ _ us ws h1 h2 => match us, ws, h1, h2 with | [], [_], _, _ => rfl
theorem ln_ne {H : Hp} {m : Nat} {p a : Addr} {xs : List V} {L : List Rat} (hp : PotAt H p) (ha : H a = some (.lst xs)) (N : LnAt (CR K) H m xs L) : a ≠ p := by
  obtain ⟨u, v, e, _⟩ := hp
  intro z
  rw [z, e] at ha
  obtain ⟨_, _, z2, _⟩ := N.at_ 0 (.int u) (by cases ha; rfl)
  cases z2
def spPairR (K : Frag) : Sp := fun vs H Q _ => ∃ (p a b c : Addr) (xs ys : List V) (A B : List Rat) (r : Rat), vs = [.ref p, .ref a, .ref b, .ref c] ∧ PotAt H p ∧ H a = some (.lst xs) ∧ H b = some (.lst ys) ∧ LnAt (CR K) H 10 xs A ∧ LnAt (CR K) H 10 ys B ∧ trim A = A ∧ trim B = B ∧ A.length ≤ 9 ∧ B.length ≤ 9 ∧
  RatAt (CR K) H c (pr r) ∧ OkP 10 (pr r) ∧ ∀ H2, PotAt H2 p → Sb p H H2 → Q (.bl true) H2
theorem ok_pair_right (T : Tx K mg) : FG P w K mg base CX0 12 (ga K "_law_pair_right") (fdOf K (ga K "_law_pair_right")) ["_law_pot_here", "_law_one", "_law_other", "_law_number_here"] (spPairR K) := by
  refine fg_no T.F_law_pair_right sc_law_pair_right (fun vs H Q E h => ?_) (fun cdv A outer s H vs Q E gg hr h => ?_)
  · obtain ⟨p, a, b, c, xs, ys, A, B, r, rfl, _⟩ := h
    rfl
  obtain ⟨p, a, b, c, xs, ys, L, M, r, rfl, hp, ha, hb, LA, LB, tA, tB, hl1, hl2, R, orr, k⟩ := h
  obtain ⟨ds, rd, bd⟩ := b_init1 T
  refine ⟨_, pss_cons (ps_par (i := 4) (j := 5) (by rfl) sc_law_pair_right.nd rfl rfl (by decide) rfl rfl (pa_cons (pe_fn (ok_lpassed T) gg (hr.mono (by decide)) rfl T.g_law_passed T.F_law_passed.kp (b_law_passed T) .nil pass0 (pa_cons (pv 0) (pa_cons (pv 1) pa_nil))) (pa_cons (pe_fn (ok_lpassed T) gg (hr.mono (by decide)) rfl T.g_law_passed T.F_law_passed.kp (b_law_passed T) .nil pass0 (pa_cons (pv 0) (pa_cons (pv 2) pa_nil))) pa_nil)) (by rfl))
    (pss_cons (ps_set (i := 6) sc_law_pair_right.nd rfl (Or.inl rfl) (pe_callB (cg_reprG (n := 2) (RepG.or (repG_lst (RepG.or repG_int (repG_own (fo_repr T) T.x_repr.1 T.x_repr.2 (b_Ratio_repr T) pass0)) mon1) (repG_tpl (RepG.or repG_int (repG_own (fo_repr T) T.x_repr.1 T.x_repr.2 (b_Ratio_repr T) pass0)) mon1)) mon2 gg (hr.mono (by decide))) (by rfl) T.n_repr (by decide +kernel) (pa_cons (pe_lst (pa_cons (pv 4) (pa_cons (pv 5) pa_nil))) pa_nil)))
    (pss_cons (ps_set (i := 7) sc_law_pair_right.nd rfl (Or.inl rfl) (pe_lst (pa_cons (pv 1) (pa_cons (pe_fn (ok_lplus T) gg (hr.mono (by decide)) rfl T.g_law_plus T.F_law_plus.kp (b_law_plus T) .nil pass0 (pa_cons (pv 1) (pa_cons (pv 2) pa_nil))) (pa_cons (pe_fn (ok_lplus T) gg (hr.mono (by decide)) rfl T.g_law_plus T.F_law_plus.kp (b_law_plus T) .nil pass0 (pa_cons (pv 1) (pa_cons (pe_fn (ok_lscaled T) gg (hr.mono (by decide)) rfl T.g_law_scaled T.F_law_scaled.kp (b_law_scaled T) .nil pass0 (pa_cons (pv 2) (pa_cons (pe_mk T.mk_Ratio (ok_init T) gg (hr.mono (by decide)) rfl T.g_Ratio bd rd pass0 (pa_cons (pe_un un_neg pe_int) pa_nil)) pa_nil))) pa_nil))) (pa_cons (pe_fn (ok_ltimes T) gg (hr.mono (by decide)) rfl T.g_law_times T.F_law_times.kp (b_law_times T) .nil pass0 (pa_cons (pv 1) (pa_cons (pv 2) pa_nil))) (pa_cons (pe_fn (ok_lscaled T) gg (hr.mono (by decide)) rfl T.g_law_scaled T.F_law_scaled.kp (b_law_scaled T) .nil pass0 (pa_cons (pv 1) (pa_cons (pv 3) pa_nil))) pa_nil)))))))
    (pss_cons (ps_set (i := 8) sc_law_pair_right.nd rfl (Or.inl rfl) (pe_lst (pa_cons (pe_fn (ok_told T) gg (hr.mono (by decide)) rfl T.g_told T.F_told.kp (b_told T) .nil pass0 (pa_cons (pv 4) pa_nil)) (pa_cons (pe_fn (ok_plus T) gg (hr.mono (by decide)) rfl T.g_plus T.F_plus.kp (b_plus T) .nil pass0 (pa_cons (pv 4) (pa_cons (pv 5) pa_nil))) (pa_cons (pe_fnK0 (ok_minus T) gg (hr.mono (by decide)) rfl T.g_minus T.F_minus.kp (kb_minus T) pass0 (pk_cons (pv 5) (pk_cons (pv 4) pk_nil))) (pa_cons (pe_fn (ok_times T) gg (hr.mono (by decide)) rfl T.g_times T.F_times.kp (b_times T) .nil pass0 (pa_cons (pv 4) (pa_cons (pv 5) pa_nil))) (pa_cons (pe_fnK0 (ok_scaled T) gg (hr.mono (by decide)) rfl T.g_scaled T.F_scaled.kp (kb_scaled T) pass0 (pk_cons (pv 3) (pk_cons (pv 4) pk_nil))) pa_nil)))))))
    (pss_cons (ps_if (PW.pt (pw_or (pt_cmpR op_ne (pe_callB (cg_reprG (n := 2) (RepG.or (repG_lst (RepG.or repG_int (repG_own (fo_repr T) T.x_repr.1 T.x_repr.2 (b_Ratio_repr T) pass0)) mon1) (repG_tpl (RepG.or repG_int (repG_own (fo_repr T) T.x_repr.1 T.x_repr.2 (b_Ratio_repr T) pass0)) mon1)) mon2 gg (hr.mono (by decide))) (by rfl) T.n_repr (by decide +kernel) (pa_cons (pv 8) pa_nil)) (pe_callB (cg_reprG (n := 2) (RepG.or (repG_lst (RepG.or repG_int (repG_own (fo_repr T) T.x_repr.1 T.x_repr.2 (b_Ratio_repr T) pass0)) mon1) (repG_tpl (RepG.or repG_int (repG_own (fo_repr T) T.x_repr.1 T.x_repr.2 (b_Ratio_repr T) pass0)) mon1)) mon2 gg (hr.mono (by decide))) (by rfl) T.n_repr (by decide +kernel) (pa_cons (pv 7) pa_nil)) (nomark _)) (pw_or1 (pt_cmpR op_ne (pe_callB (cg_reprG (n := 2) (RepG.or (repG_lst (RepG.or repG_int (repG_own (fo_repr T) T.x_repr.1 T.x_repr.2 (b_Ratio_repr T) pass0)) mon1) (repG_tpl (RepG.or repG_int (repG_own (fo_repr T) T.x_repr.1 T.x_repr.2 (b_Ratio_repr T) pass0)) mon1)) mon2 gg (hr.mono (by decide))) (by rfl) T.n_repr (by decide +kernel) (pa_cons (pe_lst (pa_cons (pe_fnK0 (ok_plus T) gg (hr.mono (by decide)) rfl T.g_plus T.F_plus.kp (kb_plus T) pass0 (pk_cons (pv 5) (pk_cons (pv 4) pk_nil))) (pa_cons (pe_fnK0 (ok_times T) gg (hr.mono (by decide)) rfl T.g_times T.F_times.kp (kb_times T) pass0 (pk_cons (pv 5) (pk_cons (pv 4) pk_nil))) pa_nil))) pa_nil)) (pe_callB (cg_reprG (n := 2) (RepG.or (repG_lst (RepG.or repG_int (repG_own (fo_repr T) T.x_repr.1 T.x_repr.2 (b_Ratio_repr T) pass0)) mon1) (repG_tpl (RepG.or repG_int (repG_own (fo_repr T) T.x_repr.1 T.x_repr.2 (b_Ratio_repr T) pass0)) mon1)) mon2 gg (hr.mono (by decide))) (by rfl) T.n_repr (by decide +kernel) (pa_cons (pe_lst (pa_cons (pe_ix ix_list (pv 7) pe_int (fun _ _ => rfl)) (pa_cons (pe_ix ix_list (pv 7) pe_int (fun _ _ => rfl)) pa_nil))) pa_nil)) (nomark _))))) (pss_one (ps_ret pe_bl)) pss_nil)
    (pss_cons (ps_for PassesOwn.never rfl (pi_list (pv 8)) (pg_name (i := 9) sc_law_pair_right.nd rfl (Or.inl rfl)) (pss_cons (ps_if (PW.pt (pw_or (pt_not (pt_val (pe_fn (ok_is_line T) gg (hr.mono (by decide)) rfl T.g_is_line T.F_is_line.kp (b_is_line T) .nil pass0 (pa_cons (pv 9) pa_nil)))) (pw_or1 (pt_cmpR op_ne (pe_fn (ok_degree T) gg (hr.mono (by decide)) rfl T.g_degree T.F_degree.kp (b_degree T) .nil pass0 (pa_cons (pv 9) pa_nil)) (pe_op op_sub (pe_callB call_len (by rfl) T.n_len PySem.boot_len (pa_cons (pv 9) pa_nil)) pe_int) (nomark _))))) (pss_one (ps_ret pe_bl)) pss_nil) (pss_one (ps_expr (pe_bm PySem.F.plainAttrs_list PySem.F.slot_list_append PySem.F.type_list_append mt_append (pv 9) (pa_cons pe_non pa_nil))))))
    (pss_cons (ps_if (PW.pt (pw_or (pt_cmpR op_ne (pe_callB (cg_reprG (n := 2) (RepG.or (repG_lst (RepG.or repG_int (repG_own (fo_repr T) T.x_repr.1 T.x_repr.2 (b_Ratio_repr T) pass0)) mon1) (repG_tpl (RepG.or repG_int (repG_own (fo_repr T) T.x_repr.1 T.x_repr.2 (b_Ratio_repr T) pass0)) mon1)) mon2 gg (hr.mono (by decide))) (by rfl) T.n_repr (by decide +kernel) (pa_cons (pe_lst (pa_cons (pe_fn (ok_told T) gg (hr.mono (by decide)) rfl T.g_told T.F_told.kp (b_told T) .nil pass0 (pa_cons (pv 4) pa_nil)) (pa_cons (pe_fn (ok_derived T) gg (hr.mono (by decide)) rfl T.g_derived T.F_derived.kp (b_derived T) .nil pass0 (pa_cons (pv 4) pa_nil)) pa_nil))) pa_nil)) (pe_callB (cg_reprG (n := 2) (RepG.or (repG_lst (RepG.or repG_int (repG_own (fo_repr T) T.x_repr.1 T.x_repr.2 (b_Ratio_repr T) pass0)) mon1) (repG_tpl (RepG.or repG_int (repG_own (fo_repr T) T.x_repr.1 T.x_repr.2 (b_Ratio_repr T) pass0)) mon1)) mon2 gg (hr.mono (by decide))) (by rfl) T.n_repr (by decide +kernel) (pa_cons (pe_lst (pa_cons (pv 1) (pa_cons (pe_fn (ok_lderived T) gg (hr.mono (by decide)) rfl T.g_law_derived T.F_law_derived.kp (b_law_derived T) .nil pass0 (pa_cons (pv 1) pa_nil)) pa_nil))) pa_nil)) (nomark _)) (pw_or1 (pt_cmpR op_ne (pe_fnK0 (ok_degree T) gg (hr.mono (by decide)) rfl T.g_degree T.F_degree.kp (kb_degree T) pass0 (pk_cons (pv 4) pk_nil)) (pe_op op_sub (pe_callB call_len (by rfl) T.n_len PySem.boot_len (pa_cons (pv 1) pa_nil)) pe_int) (nomark _))))) (pss_one (ps_ret pe_bl)) pss_nil)
    (pss_cons (ps_set (i := 10) sc_law_pair_right.nd rfl (Or.inl rfl) (pe_fn (ok_times T) gg (hr.mono (by decide)) rfl T.g_times T.F_times.kp (b_times T) .nil pass0 (pa_cons (pv 4) (pa_cons (pv 5) pa_nil))))
    (pss_cons (ps_par (i := 11) (j := 12) (by rfl) sc_law_pair_right.nd rfl rfl (by decide) rfl rfl (pa_cons (pe_fn (ok_lworth T) gg (hr.mono (by decide)) rfl T.g_law_worth T.F_law_worth.kp (b_law_worth T) .nil pass0 (pa_cons (pv 1) (pa_cons (pv 3) pa_nil))) (pa_cons (pe_fn (ok_lworth T) gg (hr.mono (by decide)) rfl T.g_law_worth T.F_law_worth.kp (b_law_worth T) .nil pass0 (pa_cons (pv 2) (pa_cons (pv 3) pa_nil))) pa_nil)) (by rfl))
    (pss_cons (ps_if (PW.pt (pw_or (pt_cmpR (og_ne T.q_Ratio (ok_eq T) gg (hr.mono (by decide)) (b_Ratio_eq T) pass0) (pe_fn (ok_worth T) gg (hr.mono (by decide)) rfl T.g_worth T.F_worth.kp (b_worth T) .nil pass0 (pa_cons (pv 10) (pa_cons (pv 3) pa_nil))) (pe_op (og_both (op := .Mult) T.i_mul.1 (ok_mul T) gg (hr.mono (by decide)) (b_Ratio_mul T) pass0) (pv 11) (pv 12)) (nomark _)) (pw_or1 (pt_cmpR (og_ne T.q_Ratio (ok_eq T) gg (hr.mono (by decide)) (b_Ratio_eq T) pass0) (pe_fnK0 (ok_worth T) gg (hr.mono (by decide)) rfl T.g_worth T.F_worth.kp (kb_worth T) pass0 (pk_cons (pv 3) (pk_cons (pv 5) pk_nil))) (pv 12) (nomark _))))) (pss_one (ps_ret pe_bl)) pss_nil)
    (pss_one (ps_ret (pe_and (pe_cmpR (op_eqG (n := 2) (D := DList (DIns (CR K) (EqR K))) (rcG_list (n := 1) (mon_ins eqr_ext) (eqG_ins (fo_eq2 T) T.q_Ratio.fnd T.q_Ratio.isf (b_Ratio_eq T) pass0)) (hr.mono (by decide))) (pe_fn (ok_derived T) gg (hr.mono (by decide)) rfl T.g_derived T.F_derived.kp (b_derived T) .nil pass0 (pa_cons (pv 10) pa_nil)) (pe_fn (ok_plus T) gg (hr.mono (by decide)) rfl T.g_plus T.F_plus.kp (b_plus T) .nil pass0 (pa_cons (pe_fn (ok_times T) gg (hr.mono (by decide)) rfl T.g_times T.F_times.kp (b_times T) .nil pass0 (pa_cons (pe_fn (ok_derived T) gg (hr.mono (by decide)) rfl T.g_derived T.F_derived.kp (b_derived T) .nil pass0 (pa_cons (pv 4) pa_nil)) (pa_cons (pv 5) pa_nil))) (pa_cons (pe_fn (ok_times T) gg (hr.mono (by decide)) rfl T.g_times T.F_times.kp (b_times T) .nil pass0 (pa_cons (pv 4) (pa_cons (pe_fn (ok_derived T) gg (hr.mono (by decide)) rfl T.g_derived T.F_derived.kp (b_derived T) .nil pass0 (pa_cons (pv 5) pa_nil)) pa_nil))) pa_nil))) (nomark _)) (pe_one (pe_cmpR op_eq (pe_callB (cg_reprG (n := 2) (RepG.or (repG_lst (RepG.or repG_int (repG_own (fo_repr T) T.x_repr.1 T.x_repr.2 (b_Ratio_repr T) pass0)) mon1) (repG_tpl (RepG.or repG_int (repG_own (fo_repr T) T.x_repr.1 T.x_repr.2 (b_Ratio_repr T) pass0)) mon1)) mon2 gg (hr.mono (by decide))) (by rfl) T.n_repr (by decide +kernel) (pa_cons (pe_lst (pa_cons (pv 4) (pa_cons (pv 5) pa_nil))) pa_nil)) (pv 6) (nomark _))))))))))))))), ?_⟩
  have nap := ln_ne hp ha LA
  have nbp := ln_ne hp hb LB
  have ncp : c ≠ p := by
    obtain ⟨dx, e⟩ := id R
    obtain ⟨x, y, ep, _⟩ := hp
    exact ne_of e ep (by intro z; cases z)
  refine ⟨_, rfl, _, rfl, p, a, xs, L, 10, rfl, hp, ha, LA, hl1, by decide, fun v zs j H1 hj nv hp1 sb1 hs1 N1 => ?_⟩
  refine ⟨_, rfl, _, rfl, p, b, ys, M, 10, rfl, hp1, sb1 _ _ hb nbp, LB.sb hp sb1, hl2, by decide, fun v2 zs2 j2 H2 hj2 nv2 hp2 sb2 hs2 N2 => ⟨_, _, rfl, ?_⟩⟩
  have sb12 := sb1.trans sb2
  have hs1 : SeqAt1 H2 v zs := hs1.imp (fun e => sb2 _ _ e nv) (fun e => sb2 _ _ e nv)
  have N1 := N1.sb hp1 sb2
  have ha := sb12 _ _ ha nap
  have hb := sb12 _ _ hb nbp
  have LA := LA.sb hp sb12
  have LB := LB.sb hp sb12
  have R := R.sb hp sb12
  have k : ∀ H3, Same H2 H3 → Q (.bl true) H3 := fun H3 s3 => k H3 (hp2.same s3) (sb12.trans (Sb.of s3))
  obtain ⟨ts1, l1, b1, t1, et1, D1'⟩ := nm_shows hs1 N1 (by decide)
  obtain ⟨ts2, l2, b2, t2, et2, D2'⟩ := nm_shows hs2 N2 (by decide)
  have tn1 : trim (L ++ List.replicate j 0) = L := by rw [trim_zeros, tA]
  have tn2 : trim (M ++ List.replicate j2 0) = M := by rw [trim_zeros, tB]
  have ln1 : (L ++ List.replicate j 0).length ≤ 17 := by rw [List.length_append, List.length_replicate]; omega
  have ln2 : (M ++ List.replicate j2 0).length ≤ 17 := by rw [List.length_append, List.length_replicate]; omega
  -- what they show
  refine ⟨_, rfl, _, rfl, (by show 2 ≤ sizeLine; decide), fun w hw => ?_⟩
  have nwv : w ∉ [v, v2] := by
    intro z
    rcases List.mem_cons.mp z with e | z
    · subst e
      rcases hs1 with e | e <;> rw [e] at hw <;> cases hw
    · have e := List.mem_singleton.mp z
      subst e
      rcases hs2 with e | e <;> rw [e] at hw <;> cases hw
  have u1 : Same H2 (upd H2 w (.lst [.ref v, .ref v2])) := Same.put hw
  have hwv : (upd H2 w (.lst [.ref v, .ref v2])) w = some (.lst [.ref v, .ref v2]) := upd_same
  generalize upd H2 w (.lst [.ref v, .ref v2]) = H3 at u1 hwv
  have pair : ∀ H4 w2, Same H2 H4 → w2 ∉ [v, v2] → H4 w2 = some (.lst [.ref v, .ref v2]) → DLst (D2 K) (.ref w2) (listText [t1, t2]) [w2, v, v2] H4 := by
    intro H4 w2 s4 hn e
    refine ⟨w2, _, [t1, t2], [v, v2], rfl, rfl, fun b hb => hb, hn, e, rfl, fun i y ey => ?_⟩
    match i, ey with
    | 0, ey =>
      cases ey
      exact ⟨t1, rfl, mon2 _ _ _ _ _ s4 (D1' [v, v2] (by simp))⟩
    | 1, ey =>
      cases ey
      exact ⟨t2, rfl, mon2 _ _ _ _ _ s4 (D2' [v, v2] (by simp))⟩
    | i + 2, ey => simp at ey
  refine ⟨_, _, _, rfl, pair H3 w u1 nwv hwv, ?_, fun H4 s4 => ?_⟩
  · exact two_len (by have := N1.len; omega) (by have := N2.len; omega) b1 b2 et1 et2
  -- what is due
  have s4 : Same H3 H4 := s4
  have s24 := u1.trans s4
  have neg1 : OkP 1 (pr (-1)) := ⟨by decide, by unfold Sz; decide, by unfold Sz; decide⟩
  refine ⟨_, rfl, _, rfl, _, rfl, a, b, xs, ys, L, M, 10, rfl, s24 _ _ ha, s24 _ _ hb, LA.same s24, LB.same s24, by decide, by decide, by omega, by omega, fun d1 w1 H5 hd1 s5 h5 M5 => ?_⟩
  have s25 := s24.trans s5
  refine ⟨_, rfl, _, rfl, _, rfl, fun x6 dx6 n1 n2 n3 => ?_⟩
  refine mkA n1 n2 (by decide) (by unfold Sz; decide +kernel) fun H6 s6 R6 => ?_
  have R6 : RatAt (CR K) H6 x6 (pr (-1)) := by
    have z : nrm (-1) 1 = pr (-1) := nrm_one _
    rw [← z]
    exact R6
  have s26 := s25.trans s6
  refine ⟨b, x6, ys, M, -1, 10, 1, rfl, s26 _ _ hb, LB.same s26, R6, neg1, by decide, by decide, by decide, by omega, fun d2 w2 H7 hd2 s7 h7 M7 => ?_⟩
  have s27 := s26.trans s7
  have tl2 := trim_le (scaledL M (-1))
  have ls2 : (scaledL M (-1)).length = M.length := by unfold scaledL; rw [List.length_map]
  refine ⟨a, d2, xs, w2, L, _, 12, rfl, s27 _ _ ha, h7, (LA.same s27).le (by decide), M7, by decide, by decide, by omega, by omega, fun d3 w3 H8 hd3 s8 h8 M8 => ?_⟩
  have s28 := s27.trans s8
  refine ⟨_, rfl, _, rfl, a, b, xs, ys, L, M, 10, rfl, s28 _ _ ha, s28 _ _ hb, LA.same s28, LB.same s28, by decide, by decide, by omega, by omega, fun d4 w4 H9 hd4 s9 h9 M9 => ?_⟩
  have s29 := s28.trans s9
  refine ⟨_, rfl, _, rfl, a, c, xs, L, r, 10, 10, rfl, s29 _ _ ha, LA.same s29, R.same s29, orr, by decide, by decide, by decide, by omega, fun d5 w5 H10 hd5 s10 h10 M10 => ?_⟩
  have s210 := s29.trans s10
  refine ⟨(by show 5 ≤ sizeLine; decide), fun du hdu => ?_⟩
  obtain ⟨Ls, hLs⟩ : ∃ Ls, Ls = [L, trim (plusL L M), trim (plusL L (trim (scaledL M (-1)))), trim (timesL L M), trim (scaledL L r)] := ⟨_, rfl⟩
  have lt1 := trim_le (plusL L M)
  have lt2 := trim_le (plusL L (trim (scaledL M (-1))))
  have lt3 := trim_le (timesL L M)
  have lt4 := trim_le (scaledL L r)
  have le1 : (plusL L M).length ≤ 9 := by rw [plusL_len]; omega
  have le2 : (plusL L (trim (scaledL M (-1)))).length ≤ 9 := by rw [plusL_len]; omega
  have le3 : (timesL L M).length ≤ 17 := by
    have := timesN_len L M L.length
    unfold timesL
    omega
  have le4 : (scaledL L r).length ≤ 9 := by unfold scaledL; rw [List.length_map]; exact hl1
  have b9 : bdT 10 L.length ≤ 199 := by
    have : L.length * (2 * 10 + 2) ≤ 9 * (2 * 10 + 2) := Nat.mul_le_mul_right _ hl1
    unfold bdT
    omega
  have due10 : LnsAt K H10 199 17 [.ref a, .ref d1, .ref d3, .ref d4, .ref d5] Ls := by
    rw [hLs]
    have z1 := s6.trans (s7.trans (s8.trans (s9.trans s10)))
    have z3 := s9.trans s10
    exact .cons (s210 _ _ ha) (LA.same s210) (by decide) (by omega) (.cons (z1 _ _ h5) (M5.same z1) (by decide) (by omega) (.cons (z3 _ _ h8) (M8.same z3) (by decide) (by omega) (.cons (s10 _ _ h9) (M9.same s10) b9 (by omega) (.cons h10 M10 (by decide) (by omega) .nil))))
  have nd : V.ref du ∉ [V.ref a, .ref d1, .ref d3, .ref d4, .ref d5] := due10.fresh hdu
  have u11 : Same H10 (upd H10 du (.lst [.ref a, .ref d1, .ref d3, .ref d4, .ref d5])) := Same.put hdu
  have hduv : (upd H10 du (.lst [.ref a, .ref d1, .ref d3, .ref d4, .ref d5])) du = some (.lst [.ref a, .ref d1, .ref d3, .ref d4, .ref d5]) := upd_same
  generalize upd H10 du (.lst [.ref a, .ref d1, .ref d3, .ref d4, .ref d5]) = H11 at u11 hduv
  have s211 := s210.trans u11
  have M5 := M5.same (s6.trans (s7.trans (s8.trans (s9.trans (s10.trans u11)))))
  have M8 := M8.same (s9.trans (s10.trans u11))
  have M9 := M9.same (s10.trans u11)
  have M10 := M10.same u11
  have h5 := (s6.trans (s7.trans (s8.trans (s9.trans (s10.trans u11))))) _ _ h5
  have h8 := (s9.trans (s10.trans u11)) _ _ h8
  have h9 := (s10.trans u11) _ _ h9
  have h10 := u11 _ _ h10
  -- what is found
  have hs1 := hs1.same s211
  have hs2 := hs2.same s211
  have N1 := N1.same s211
  have N2 := N2.same s211
  refine ⟨_, rfl, v, zs, _, 10, rfl, hs1, N1, ln1, by decide, fun f1 y1 H12 hf1 s12 g1 P1 => ?_⟩
  rw [tn1] at P1
  refine ⟨_, rfl, _, rfl, v, v2, zs, zs2, _, _, 10, rfl, hs1.same s12, N1.same s12, hs2.same s12, N2.same s12, by decide, by decide, ln1, ln2, fun f2 y2 n2' H13 hf2 s13 g2 P2 hn2 => ?_⟩
  dsimp only at P2
  rw [tn1, tn2] at P2
  have q13 := s12.trans s13
  refine ⟨_, rfl, _, rfl, rfl, rfl, v, v2, zs, zs2, _, _, 10, rfl, hs1.same q13, N1.same q13, hs2.same q13, N2.same q13, by decide, by decide, ln1, ln2, fun f3 y3 n3' H14 hf3 s14 g3 P3 hn3 => ?_⟩
  dsimp only at P3
  rw [tn1, tn2, ← trim_minus] at P3
  have q14 := q13.trans s14
  refine ⟨_, rfl, _, rfl, v, v2, zs, zs2, _, _, 10, rfl, hs1.same q14, N1.same q14, hs2.same q14, N2.same q14, by decide, by decide, ln1, ln2, by rw [tn1, tn2]; omega, fun f4 y4 H15 hf4 s15 g4 P4 => ?_⟩
  rw [tn1, tn2] at P4
  have q15 := q14.trans s15
  refine ⟨_, rfl, _, rfl, rfl, rfl, v, .ref c, zs, _, r, 10, 10, rfl, hs1.same q15, N1.same q15, .inr ⟨c, rfl, R.same (s211.trans q15)⟩, orr, by decide, by decide, by decide, ln1, fun f5 y5 H16 hf5 s16 g5 P5 => ?_⟩
  rw [tn1] at P5
  have q16 := q15.trans s16
  refine ⟨(by show 5 ≤ sizeLine; decide), fun fu hfu => ?_⟩
  have u17 : Same H16 (upd H16 fu (.lst [.ref f1, .ref f2, .ref f3, .ref f4, .ref f5])) := Same.put hfu
  have hfv : (upd H16 fu (.lst [.ref f1, .ref f2, .ref f3, .ref f4, .ref f5])) fu = some (.lst [.ref f1, .ref f2, .ref f3, .ref f4, .ref f5]) := upd_same
  generalize upd H16 fu (.lst [.ref f1, .ref f2, .ref f3, .ref f4, .ref f5]) = H17 at u17 hfv
  have q17 := q16.trans u17
  have due := due10.same u11
  have fnd16 : LnsAt K H16 199 17 [.ref f1, .ref f2, .ref f3, .ref f4, .ref f5] Ls := by
    rw [hLs]
    have z1 := s13.trans (s14.trans (s15.trans s16))
    have z2 := s14.trans (s15.trans s16)
    have z3 := s15.trans s16
    exact .cons (z1 _ _ g1) (P1.same z1) (by decide) (by omega) (.cons (z2 _ _ g2) (P2.same z2) (by omega) (by omega) (.cons (z3 _ _ g3) (P3.same z3) (by omega) (by omega) (.cons (s16 _ _ g4) (P4.same s16) b9 (by omega) (.cons g5 P5 (by decide) (by omega) .nil))))
  have nf := fnd16.fresh hfu
  have fnd := fnd16.same u17
  have fr : ∀ z, z ∈ [f1, f2, f3, f4, f5, fu] → H11 z = none := by
    intro z hz
    rcases List.mem_cons.mp hz with rfl | hz
    · exact hf1
    rcases List.mem_cons.mp hz with rfl | hz
    · exact s12.free hf2
    rcases List.mem_cons.mp hz with rfl | hz
    · exact q13.free hf3
    rcases List.mem_cons.mp hz with rfl | hz
    · exact q14.free hf4
    rcases List.mem_cons.mp hz with rfl | hz
    · exact q15.free hf5
    · rw [List.mem_singleton.mp hz]; exact q16.free hfu
  have nod : [V.ref f1, V.ref f2, V.ref f3, V.ref f4, V.ref f5].Nodup := by
    have e : ∀ {x y : Addr} {I : Hp} {o : HO}, I y = none → I x = some o → V.ref x ≠ V.ref y := by
      intro x y I o h1 h2 z
      cases z
      rw [h1] at h2
      cases h2
    have a12 := e hf2 g1
    have a13 := e hf3 (s13 _ _ g1)
    have a14 := e hf4 ((s13.trans s14) _ _ g1)
    have a15 := e hf5 ((s13.trans (s14.trans s15)) _ _ g1)
    have a23 := e hf3 g2
    have a24 := e hf4 (s14 _ _ g2)
    have a25 := e hf5 ((s14.trans s15) _ _ g2)
    have a34 := e hf4 g3
    have a35 := e hf5 (s15 _ _ g3)
    have a45 := e hf5 g4
    refine List.nodup_cons.mpr ⟨?_, List.nodup_cons.mpr ⟨?_, List.nodup_cons.mpr ⟨?_, List.nodup_cons.mpr ⟨?_, List.nodup_cons.mpr ⟨?_, List.nodup_nil⟩⟩⟩⟩⟩ <;> simp only [List.mem_cons, List.not_mem_nil, or_false, not_or] <;> first | exact ⟨a12, a13, a14, a15⟩ | exact ⟨a23, a24, a25⟩ | exact ⟨a34, a35⟩ | exact a45 | exact not_false
  have due := due.same q17
  have hduv := q17 _ _ hduv
  refine ⟨_, rfl, _, _, _, rfl, lns_shows hfv fnd (by decide) nf, lns_len fnd (by decide) (by decide) (by simp), fun H18 s18 => ?_⟩
  have s18 : Same H17 H18 := s18
  refine ⟨_, rfl, _, _, _, rfl, lns_shows (s18 _ _ hduv) (due.same s18) (by decide) nd, lns_len (due.same s18) (by decide) (by decide) (by simp), fun H19 s19 => ?_⟩
  have s19 : Same H18 H19 := s19
  refine ⟨rfl, _, rfl, ?_⟩
  refine ite2 (fun z => absurd z (by simp)) (fun _ => ?_)
  have q19 := q17.trans (s18.trans s19)
  refine ⟨_, rfl, _, rfl, rfl, rfl, v, v2, zs, zs2, _, _, 10, rfl, hs1.same q19, N1.same q19, hs2.same q19, N2.same q19, by decide, by decide, ln1, ln2, fun c1 x1 k1 H20 hc1 s20 o1 T1 hk1 => ?_⟩
  dsimp only at T1
  rw [tn1, tn2] at T1
  have q20 := q19.trans s20
  refine ⟨_, rfl, _, rfl, rfl, rfl, v, v2, zs, zs2, _, _, 10, rfl, hs1.same q20, N1.same q20, hs2.same q20, N2.same q20, by decide, by decide, ln1, ln2, by rw [tn1, tn2]; omega, fun c2 x2 H21 hc2 s21 o2 T2 => ?_⟩
  rw [tn1, tn2] at T2
  refine ⟨(by show 2 ≤ sizeLine; decide), fun g hg => ?_⟩
  have u22 : Same H21 (upd H21 g (.lst [.ref c1, .ref c2])) := Same.put hg
  have hgv : (upd H21 g (.lst [.ref c1, .ref c2])) g = some (.lst [.ref c1, .ref c2]) := upd_same
  generalize upd H21 g (.lst [.ref c1, .ref c2]) = H22 at u22 hgv
  obtain ⟨Ms, hMs⟩ : ∃ Ms, Ms = [trim (plusL L M), trim (timesL L M)] := ⟨_, rfl⟩
  have two : LnsAt K H21 199 17 [.ref c1, .ref c2] Ms := by
    rw [hMs]
    exact .cons (s21 _ _ o1) (T1.same s21) (by omega) (by omega) (.cons o2 T2 b9 (by omega) .nil)
  have ng := two.fresh hg
  have two := two.same u22
  refine ⟨_, _, _, rfl, lns_shows hgv two (by decide) ng, lns_len two (by decide) (by decide) (by simp), fun H23 s23 => ?_⟩
  have s23 : Same H22 H23 := s23
  have q23 := q20.trans (s21.trans (u22.trans s23))
  have s1723 : Same H17 H23 := s18.trans (s19.trans (s20.trans (s21.trans (u22.trans s23))))
  refine ⟨_, rfl, du, _, 1, _, rfl, rfl, SqL.of (s1723 _ _ hduv), rfl, ?_⟩
  refine ⟨_, rfl, du, _, 3, _, rfl, rfl, SqL.of (s1723 _ _ hduv), rfl, ?_⟩
  refine ⟨(by show 2 ≤ sizeLine; decide), fun g2 hg2 => ?_⟩
  have u24 : Same H23 (upd H23 g2 (.lst [.ref d1, .ref d4])) := Same.put hg2
  have hg2v : (upd H23 g2 (.lst [.ref d1, .ref d4])) g2 = some (.lst [.ref d1, .ref d4]) := upd_same
  generalize upd H23 g2 (.lst [.ref d1, .ref d4]) = H24 at u24 hg2v
  have q24 := q23.trans u24
  have two2 : LnsAt K H23 199 17 [.ref d1, .ref d4] Ms := by
    rw [hMs]
    exact .cons (q23 _ _ h5) (M5.same q23) (by decide) (by omega) (.cons (q23 _ _ h9) (M9.same q23) b9 (by omega) .nil)
  have ng2 := two2.fresh hg2
  have two2 := two2.same u24
  refine ⟨_, _, _, rfl, lns_shows hg2v two2 (by decide) ng2, lns_len two2 (by decide) (by decide) (by simp), fun H25 s25 => ?_⟩
  have s25 : Same H24 H25 := s25
  refine ⟨rfl, _, rfl, ?_⟩
  refine ite2 (fun z => absurd z (by simp)) (fun _ => ?_)
  have s1725 : Same H17 H25 := s1723.trans (u24.trans s25)
  have q25 := q24.trans s25
  have fnd := fnd.same s1725
  have hfv := s1725 _ _ hfv
  have q25f : Same H11 H25 := q25
  have tri : ∀ A, A ∈ Ls → trim A = A := by
    intro A hA
    rw [hLs] at hA
    rcases List.mem_cons.mp hA with rfl | hA
    · exact tA
    rcases List.mem_cons.mp hA with rfl | hA
    · exact trim_trim _
    rcases List.mem_cons.mp hA with rfl | hA
    · exact trim_trim _
    rcases List.mem_cons.mp hA with rfl | hA
    · exact trim_trim _
    rw [List.mem_singleton.mp hA]
    exact trim_trim _
  refine ⟨_, rfl, fu, rfl, ⟨_, SqL.of hfv⟩, for_list (K := K) (a := fu) (xs := [.ref f1, .ref f2, .ref f3, .ref f4, .ref f5]) (fun i σ H3 => ∃ v9, σ = [some (.ref p), some (.ref a), some (.ref b), some (.ref c), some (.ref v), some (.ref v2), some (.str (listText [t1, t2])), some (.ref du), some (.ref fu), v9, none, none, none] ∧ Same H11 H3 ∧ H3 fu = some (.lst [.ref f1, .ref f2, .ref f3, .ref f4, .ref f5]) ∧
      ∀ (k : Nat) x, i ≤ k → [V.ref f1, .ref f2, .ref f3, .ref f4, .ref f5][k]? = some x → ∃ e ys A, x = .ref e ∧ H3 e = some (.lst ys) ∧ LnAt (CR K) H3 199 ys A ∧ A.length ≤ 17 ∧ trim A = A)
    ⟨none, rfl, q25f, hfv, fun k x _ hx => ?_⟩ (fun i σ H3 _ ⟨_, _, _, e, _⟩ => SqL.of e) ?_ ?_⟩
  · obtain ⟨e, ys, A, rfl, hA, he, NA, hl⟩ := fnd.2 k x hx
    exact ⟨e, ys, A, rfl, he, NA, hl, tri A (List.mem_of_getElem? hA)⟩
  · rintro i x σ H3 hx ⟨v9, rfl, s3, hf3, al⟩
    obtain ⟨e, ys, A, rfl, he, NA, hAl, hAt⟩ := al i x (Nat.le_refl _) hx
    have hie : H11 e = none := fr e (by
      have := List.mem_of_getElem? hx
      simp only [List.mem_cons, List.not_mem_nil, or_false, V.ref.injEq] at this ⊢
      rcases this with z | z | z | z | z <;> simp [z])
    refine ⟨_, rfl, e, ys, A, 199, rfl, .inl he, NA.nums, hAl, by decide, fun H4 s4 => ⟨_, rfl, ?_⟩⟩
    refine iteF ?_
    refine ⟨_, rfl, e, ys, A, 199, rfl, .inl (s4 _ _ he), (NA.same s4).nums, hAl, by decide, fun H5 s5 => ?_⟩
    have s35 : Same H3 H5 := s4.trans s5
    have he5 := s35 _ _ he
    refine ⟨_, rfl, _, _, rfl, .inl ⟨_, SqL.of he5, rfl⟩, _, _, rfl, rfl, rfl, _, rfl, ?_⟩
    refine ite2 (fun z => ?_) (fun _ => ?_)
    · rw [hAt, NA.len] at z
      simp at z
    refine ⟨_, rfl, .inl ⟨rfl, _, SqL.of he5⟩, e, ys, _, rfl, rfl, he5, Nat.lt_of_lt_of_le (by rw [NA.len]; omega : ys.length < 1000) (szl (by omega)), ?_⟩
    refine ⟨_, rfl, Same.lst (s3.trans s35) hie, ?_, fun k x hk hkx => ?_⟩
    · rw [upd_ne (fun z => by subst z; rw [fr fu (by simp)] at hie; exact absurd (List.mem_of_getElem? hx) nf)]
      exact s35 _ _ hf3
    · obtain ⟨e2, ys2, A2, rfl, he2, NA2, hl2', ht2⟩ := al k x (by omega) hkx
      have ne : e2 ≠ e := by
        intro z
        subst z
        have := (List.getElem?_inj (List.getElem?_eq_some_iff.mp hkx).1 nod).mp (hkx.trans hx.symm)
        omega
      exact ⟨e2, ys2, A2, rfl, by rw [upd_ne ne]; exact s35 _ _ he2, (NA2.same s35).updl he5, hl2', ht2⟩
  · rintro σ H26 ⟨v9, rfl, s26, _⟩
    have s26 : Same H11 H26 := s26
    refine ⟨_, rfl, v, zs, _, 10, rfl, hs1.same s26, N1.same s26, ln1, by decide, fun m1 y6 H27 hm1 s27 o3 P6 => ?_⟩
    rw [tn1] at P6
    have q27 := s26.trans s27
    refine ⟨_, rfl, v, zs, _, 10, rfl, hs1.same q27, N1.same q27, by decide, by decide, ln1, fun m2 y7 H28 hm2 s28 o4 P7 => ?_⟩
    rw [tn1] at P7
    have q28 := q27.trans s28
    have ld0 : (derL L).length ≤ 9 := by unfold derL; rw [List.length_drop, List.length_map, List.length_range]; omega
    have ld1 := trim_le (derL L)
    obtain ⟨Ns, hNs⟩ : ∃ Ns, Ns = [L, trim (derL L)] := ⟨_, rfl⟩
    have de1 : LnsAt K H28 199 17 [.ref m1, .ref m2] Ns := by
      rw [hNs]
      exact .cons (s28 _ _ o3) (P6.same s28) (by decide) (by omega) (.cons o4 P7 (by decide) (by omega) .nil)
    refine ⟨(by show 2 ≤ sizeLine; decide), fun g3 hg3 => ?_⟩
    have ng3 := de1.fresh hg3
    have u29 : Same H28 (upd H28 g3 (.lst [.ref m1, .ref m2])) := Same.put hg3
    have g3v : (upd H28 g3 (.lst [.ref m1, .ref m2])) g3 = some (.lst [.ref m1, .ref m2]) := upd_same
    generalize upd H28 g3 (.lst [.ref m1, .ref m2]) = H29 at u29 g3v
    have de1 := de1.same u29
    refine ⟨_, _, _, rfl, lns_shows g3v de1 (by decide) ng3, lns_len de1 (by decide) (by decide) (by simp), fun H30 s30 => ?_⟩
    have s30 : Same H29 H30 := s30
    have q30 := q28.trans (u29.trans s30)
    have t30 : Same H2 H30 := s211.trans q30
    refine ⟨_, rfl, _, rfl, a, xs, L, 10, rfl, t30 _ _ ha, LA.same t30, by decide, by decide, by omega, fun d6 w6 H31 hd6 s31 h6 M6 => ?_⟩
    have t31 := t30.trans s31
    have de2 : LnsAt K H31 199 17 [.ref a, .ref d6] Ns := by
      rw [hNs]
      exact .cons (t31 _ _ ha) (LA.same t31) (by decide) (by omega) (.cons h6 M6 (by decide) (by omega) .nil)
    refine ⟨(by show 2 ≤ sizeLine; decide), fun g4 hg4 => ?_⟩
    have ng4 := de2.fresh hg4
    have u32 : Same H31 (upd H31 g4 (.lst [.ref a, .ref d6])) := Same.put hg4
    have g4v : (upd H31 g4 (.lst [.ref a, .ref d6])) g4 = some (.lst [.ref a, .ref d6]) := upd_same
    generalize upd H31 g4 (.lst [.ref a, .ref d6]) = H32 at u32 g4v
    have de2 := de2.same u32
    refine ⟨_, _, _, rfl, lns_shows g4v de2 (by decide) ng4, lns_len de2 (by decide) (by decide) (by simp), fun H33 s33 => ?_⟩
    have s33 : Same H32 H33 := s33
    have q33 := q30.trans (s31.trans (u32.trans s33))
    refine ⟨rfl, _, rfl, ?_⟩
    refine ite2 (fun z => absurd z (by simp)) (fun _ => ?_)
    refine ⟨_, rfl, rfl, rfl, v, zs, _, 10, rfl, hs1.same q33, N1.same q33, ln1, by decide, fun H34 s34 => ?_⟩
    have q34 := q33.trans s34
    have t34 := s211.trans q34
    refine ⟨_, rfl, _, _, rfl, .inl ⟨_, SqL.of (t34 _ _ ha), rfl⟩, _, _, rfl, rfl, rfl, _, rfl, ?_⟩
    refine ite2 (fun z => ?_) (fun _ => ?_)
    · rw [tn1, LA.len] at z
      simp at z
    refine ⟨_, rfl, _, rfl, v, v2, zs, zs2, _, _, 10, rfl, hs1.same q34, N1.same q34, hs2.same q34, N2.same q34, by decide, by decide, ln1, ln2, by rw [tn1, tn2]; omega, fun bo yb H35 hbo s35 ob PB => ?_⟩
    rw [tn1, tn2] at PB
    have q35 := q34.trans s35
    have t35 := t34.trans s35
    refine ⟨_, rfl, _, rfl, a, c, xs, L, r, 10, 10, rfl, t35 _ _ ha, LA.same t35, R.same t35, orr, by decide, by decide, by decide, by omega, fun w1' H36 s36 W1 ow1 => ?_⟩
    have t36 := t35.trans s36
    refine ⟨_, rfl, _, rfl, b, c, ys, M, r, 10, 10, rfl, t36 _ _ hb, LB.same t36, R.same t36, orr, by decide, by decide, by decide, by omega, fun w2' H37 s37 W2 ow2 => ⟨_, _, rfl, ?_⟩⟩
    have t37 := t36.trans s37
    have q37 := q35.trans (s36.trans s37)
    have W1 := W1.same s37
    have ob := (s36.trans s37) _ _ ob
    have PB := PB.same (s36.trans s37)
    have lb : (trim (timesL L M)).length ≤ 17 := by omega
    refine ⟨_, rfl, _, rfl, bo, .ref c, yb, _, r, _, 10, rfl, .inl ob, PB.nums, .inr ⟨c, rfl, R.same t37⟩, orr, by unfold bdT; omega, by decide, by omega, lb, fun w3' H38 s38 W3 ow3 => ?_⟩
    rw [trim_trim, wor_trim, wor_times] at W3
    have W1 := W1.same s38
    have W2 := W2.same s38
    obtain ⟨x1', e1'⟩ := id W1
    obtain ⟨x2', e2'⟩ := id W2
    have b1' : L.length * (10 + 10 + 2) ≤ 9 * (10 + 10 + 2) := Nat.mul_le_mul_right _ hl1
    have b2' : M.length * (10 + 10 + 2) ≤ 9 * (10 + 10 + 2) := Nat.mul_le_mul_right _ hl2
    refine ⟨_, rfl, _, rfl, w1', x1', _, w2', x2', _, rfl, rfl, e1', e2', w1', .ref w2', _, _, _, _, rfl, W1, .inr ⟨w2', rfl, W2⟩, ow1, ow2, by omega, by omega, by omega, fun w4' H39 s39 W4 => ?_⟩
    rw [mulP_pr] at W4
    have W3 := W3.same s39
    obtain ⟨x3', e3'⟩ := id W3
    obtain ⟨x4', e4'⟩ := id W4
    refine ⟨w3', x3', _, w4', x4', _, rfl, rfl, e3', e4', w3', _, _, rfl, W3, .inl ⟨w4', _, rfl, W4, _, rfl, _, rfl, ?_⟩⟩
    refine ite2 (fun z => absurd z (by simp)) (fun _ => ?_)
    have q39 := q37.trans (s38.trans s39)
    have t39 := s211.trans q39
    refine ⟨_, rfl, _, rfl, rfl, rfl, v2, .ref c, zs2, _, r, 10, 10, rfl, hs2.same q39, N2.same q39, .inr ⟨c, rfl, R.same t39⟩, orr, by decide, by decide, by decide, ln2, fun w5' H40 s40 W5 _ => ?_⟩
    rw [tn2] at W5
    have W2 := W2.same (s39.trans s40)
    obtain ⟨x2', e2'⟩ := id W2
    obtain ⟨x5', e5'⟩ := id W5
    refine ⟨_, rfl, w5', x5', _, w2', x2', _, rfl, rfl, e5', e2', w5', _, _, rfl, W5, .inl ⟨w2', _, rfl, W2, _, rfl, _, rfl, ?_⟩⟩
    refine ite2 (fun z => absurd z (by simp)) (fun _ => ?_)
    have q40 := q39.trans s40
    have t40 := s211.trans q40
    have ob := (s38.trans (s39.trans s40)) _ _ ob
    have PB := PB.same (s38.trans (s39.trans s40))
    have nle : ∀ {I : Hp} {m n : Nat} {us : List V} {A : List Rat}, NmAt (CR K) I m us A → m ≤ n → NmAt (CR K) I n us A := fun h k => ⟨h.len, fun i x e => let ⟨q, e1, e2, e3⟩ := h.at_ i x e; ⟨q, e1, e2, okp_le e3 k⟩⟩
    refine ⟨_, rfl, bo, yb, _, _, rfl, .inl ob, PB.nums, by unfold bdT; omega, by omega, lb, fun l1 z1 H41 hn1 s41 L1 A1 => ?_⟩
    rw [trim_trim, der_times] at A1
    have q41 := q40.trans s41
    refine ⟨_, rfl, v, zs, _, 10, rfl, hs1.same q41, N1.same q41, by decide, by decide, ln1, fun l2 z2 H42 hn2 s42 L2' A2 => ?_⟩
    rw [tn1] at A2
    have q42 := q41.trans s42
    have ld2 := trim_le (trim (derL L))
    refine ⟨_, rfl, l2, v2, z2, zs2, _, _, 16, rfl, .inl L2', A2.nums, hs2.same q42, nle (N2.same q42) (by decide), by decide, by decide, by omega, ln2, by rw [tn2]; omega, fun l3 z3 H43 hn3 s43 L3' A3 => ?_⟩
    rw [tn2, trim_trim] at A3
    have q43 := q42.trans s43
    refine ⟨_, rfl, _, rfl, v2, zs2, _, 10, rfl, hs2.same q43, N2.same q43, by decide, by decide, ln2, fun l4 z4 H44 hn4 s44 L4' A4 => ?_⟩
    rw [tn2] at A4
    have q44 := q43.trans s44
    have le0 : (derL M).length ≤ 9 := by unfold derL; rw [List.length_drop, List.length_map, List.length_range]; omega
    have le5 := trim_le (derL M)
    have le6 := trim_le (trim (derL M))
    refine ⟨v, l4, zs, z4, _, _, 16, rfl, hs1.same q44, nle (N1.same q44) (by decide), .inl L4', A4.nums, by decide, by decide, ln1, by omega, by rw [tn1]; omega, fun l5 z5 H45 hn5 s45 L5' A5 => ?_⟩
    rw [tn1, trim_trim] at A5
    have q45 := q44.trans s45
    have tm : ∀ A B : List Rat, A.length ≤ 9 → B.length ≤ 9 → (trim (timesL A B)).length ≤ 17 := by
      intro A B h1 h2
      have z1 := timesN_len A B A.length
      have z2 := trim_le (timesL A B)
      unfold timesL at z2 ⊢
      omega
    have b16 : ∀ n, n ≤ 9 → bdT 16 n ≤ 307 := by
      intro n hn
      have : n * (2 * 16 + 2) ≤ 9 * (2 * 16 + 2) := Nat.mul_le_mul_right _ hn
      unfold bdT
      omega
    have s3545 := s44.trans s45
    refine ⟨l3, l5, z3, z5, _, _, 307, rfl, .inl (s3545 _ _ L3'), nle (A3.same s3545).nums (b16 _ (by omega)), .inl L5', nle A5.nums (b16 _ (by omega)), by decide, by decide, tm _ _ (by omega) hl2, tm _ _ hl1 (by omega), fun l6 z6 n6 H46 hn6 s46 L6' A6 hn6' => ?_⟩
    dsimp only at A6
    rw [trim_trim, trim_trim] at A6
    have s4146 := s42.trans (s43.trans (s44.trans (s45.trans s46)))
    have A1 := A1.same s4146
    have q46 := q45.trans s46
    refine ⟨⟨l1, l6, z1, z6, rfl, rfl, s4146 _ _ L1, L6', by rw [A1.len, A6.len], fun i x y hx hy => ?_⟩, fun H47 s47 => ?_⟩
    · obtain ⟨g1, r1, rfl, e1, R1, _⟩ := A1.at_ i x hx
      obtain ⟨g2, r2, rfl, e2, R2, _⟩ := A6.at_ i y hy
      rw [e1] at e2
      cases e2
      obtain ⟨dx1, ex1⟩ := id R1
      obtain ⟨dx2, ex2⟩ := id R2
      exact ⟨g1, g2, dx1, dx2, _, _, rfl, rfl, ex1, ex2, r1, R1, R2⟩
    have s47 : Same H46 H47 := s47
    have q47 := q46.trans s47
    have t47 := s211.trans q47
    refine ⟨_, rfl, ?_⟩
    refine iteT ?_
    refine ⟨_, rfl, _, rfl, (by show 2 ≤ sizeLine; decide), fun w6 hw6 => ?_⟩
    have nw6 : w6 ∉ [v, v2] := by
      intro z
      have e1 := hs1.same q47
      have e2 := hs2.same q47
      rcases List.mem_cons.mp z with e | z
      · subst e
        rcases e1 with e | e <;> rw [e] at hw6 <;> cases hw6
      · have e := List.mem_singleton.mp z
        subst e
        rcases e2 with e | e <;> rw [e] at hw6 <;> cases hw6
    have u48 : Same H47 (upd H47 w6 (.lst [.ref v, .ref v2])) := Same.put hw6
    have hw6v : (upd H47 w6 (.lst [.ref v, .ref v2])) w6 = some (.lst [.ref v, .ref v2]) := upd_same
    generalize upd H47 w6 (.lst [.ref v, .ref v2]) = H48 at u48 hw6v
    refine ⟨_, _, _, rfl, pair H48 w6 (t47.trans u48) nw6 hw6v, two_len (by have := N1.len; omega) (by have := N2.len; omega) b1 b2 et1 et2, fun H49 s49 => ⟨_, rfl, rfl, ?_⟩⟩
    have s49 : Same H48 H49 := s49
    have z : decide (V.str (listText [t1, t2]) = V.str (listText [t1, t2])) = true := decide_eq_true rfl
    rw [z]
    exact k H49 (t47.trans (u48.trans s49))
end
end K31

set_option Elab.async false
set_option linter.all false
set_option maxRecDepth 100000
set_option maxHeartbeats 4000000
namespace K31
open PySem PySem.Spec PyProof.Rows L2 Own
open PySem.W (Frag)
section
variable {P : Program} {w : World} {K : Frag} {mg : Str → Option Value} {base : Heap}
def spRight : Sp := fun vs H Q _ => ∃ p, vs = [.ref p] ∧ PotAt H p ∧ ∀ H2, Q (.bl true) H2
def Ok1 (K : Frag) (H : Hp) (p : Addr) (vs : List V) : Prop := ∀ (i : Nat) x, vs[i]? = some x → ∃ a xs L, x = .ref a ∧ H a = some (.lst xs) ∧ LnAt (CR K) H 10 xs L ∧ trim L = L ∧ L.length ≤ 9
theorem Ok1.sb {H H2 : Hp} {p : Addr} {vs : List V} (h : Ok1 K H p vs) (hp : PotAt H p) (s : Sb p H H2) : Ok1 K H2 p vs := fun i x e => by
  obtain ⟨a, xs, L, e1, e2, e3, e4, e5⟩ := h i x e
  exact ⟨a, xs, L, e1, s _ _ e2 (ln_ne hp e2 e3), e3.sb hp s, e4, e5⟩
def OkR (K : Frag) (H : Hp) (vs : List V) : Prop := ∀ (i : Nat) x, vs[i]? = some x → ∃ a r, x = .ref a ∧ RatAt (CR K) H a (pr r) ∧ OkP 10 (pr r)
theorem OkR.sb {H H2 : Hp} {p : Addr} {vs : List V} (h : OkR K H vs) (hp : PotAt H p) (s : Sb p H H2) : OkR K H2 vs := fun i x e => by
  obtain ⟨a, r, e1, e2, e3⟩ := h i x e
  exact ⟨a, r, e1, e2.sb hp s, e3⟩
theorem okp_int {n : Nat} {i : Int} (h : i.natAbs < 2 ^ n) (h2 : 1 < 2 ^ n) : OkP n (pr (i : Rat)) := ⟨(show (0 : Int) < 1 by decide), h, h2⟩
theorem ok_right (T : Tx K mg) : FG P w K mg base CX0 13 (ga K "_law_right") (fdOf K (ga K "_law_right")) ["_law_pot_here"] spRight := by
  refine fg_no T.F_law_right sc_law_right (fun vs H Q E h => ?_) (fun cdv A outer s H vs Q E gg hr h => ?_)
  · obtain ⟨p, rfl, _⟩ := h
    rfl
  obtain ⟨p, rfl, hp, k⟩ := h
  obtain ⟨ds, rd, bd⟩ := b_init1 T
  refine ⟨_, pss_cons (ps_set (i := 1) sc_law_right.nd rfl (Or.inl rfl) (pe_lst (pa_cons (pe_fn (ok_lline T) gg (hr.mono (by decide)) rfl T.g_law_line T.F_law_line.kp (b_law_line T) .nil pass0 (pa_cons (pv 0) (pa_cons pe_int (pa_cons pe_int pa_nil)))) (pa_cons (pe_fn (ok_lline T) gg (hr.mono (by decide)) rfl T.g_law_line T.F_law_line.kp (b_law_line T) .nil pass0 (pa_cons (pv 0) (pa_cons pe_int (pa_cons pe_int pa_nil)))) (pa_cons (pe_fn (ok_lline T) gg (hr.mono (by decide)) rfl T.g_law_line T.F_law_line.kp (b_law_line T) .nil pass0 (pa_cons (pv 0) (pa_cons pe_int (pa_cons pe_int pa_nil)))) (pa_cons (pe_lst pa_nil) (pa_cons (pe_lst (pa_cons (pe_mk T.mk_Ratio (ok_init T) gg (hr.mono (by decide)) rfl T.g_Ratio (b_init2 T) .nil pass0 (pa_cons pe_int (pa_cons pe_int pa_nil))) pa_nil)) pa_nil)))))))
    (pss_cons (ps_for PassesOwn.never rfl (pi_range1 (by rfl) T.n_range (pa_cons pe_int pa_nil)) (pg_name (i := 2) sc_law_right.nd rfl (Or.inl rfl)) (pss_cons (ps_set (i := 3) sc_law_right.nd rfl (Or.inl rfl) (pe_fn (ok_pick T) gg (hr.mono (by decide)) rfl T.g_law_pick T.F_law_pick.kp (b_law_pick T) .nil pass0 (pa_cons (pv 0) (pa_cons (pe_lst (pa_cons (pe_mk T.mk_Ratio (ok_init T) gg (hr.mono (by decide)) rfl T.g_Ratio bd rd pass0 (pa_cons pe_int pa_nil)) (pa_cons (pe_mk T.mk_Ratio (ok_init T) gg (hr.mono (by decide)) rfl T.g_Ratio bd rd pass0 (pa_cons pe_int pa_nil)) (pa_cons (pe_mk T.mk_Ratio (ok_init T) gg (hr.mono (by decide)) rfl T.g_Ratio bd rd pass0 (pa_cons (pe_un un_neg pe_int) pa_nil)) (pa_cons (pe_fn (ok_lnumber T) gg (hr.mono (by decide)) rfl T.g_law_number T.F_law_number.kp (b_law_number T) .nil pass0 (pa_cons (pv 0) (pa_cons pe_int pa_nil))) pa_nil))))) pa_nil)))) (pss_one (ps_if (pt_not (pt_val (pe_fn (ok_pair_right T) gg (hr.mono (by decide)) rfl T.g_law_pair_right T.F_law_pair_right.kp (b_law_pair_right T) .nil pass0 (pa_cons (pv 0) (pa_cons (pe_fn (ok_pick T) gg (hr.mono (by decide)) rfl T.g_law_pick T.F_law_pick.kp (b_law_pick T) .nil pass0 (pa_cons (pv 0) (pa_cons (pv 1) pa_nil))) (pa_cons (pe_fn (ok_pick T) gg (hr.mono (by decide)) rfl T.g_law_pick T.F_law_pick.kp (b_law_pick T) .nil pass0 (pa_cons (pv 0) (pa_cons (pv 1) pa_nil))) (pa_cons (pv 3) pa_nil))))))) (pss_one (ps_ret pe_bl)) pss_nil))))
    (pss_cons (ps_set (i := 4) sc_law_right.nd rfl (Or.inl rfl) (pe_op op_sub (pe_fn (ok_draw T) gg (hr.mono (by decide)) rfl T.g_law_draw T.F_law_draw.kp (b_law_draw T) .nil pass0 (pa_cons (pv 0) (pa_cons pe_int pa_nil))) pe_int))
    (pss_one (ps_ret (pe_and (pe_cmpR (op_eqG (n := 2) (D := DList (DIns (CR K) (EqR K))) (rcG_list (n := 1) (mon_ins eqr_ext) (eqG_ins (fo_eq2 T) T.q_Ratio.fnd T.q_Ratio.isf (b_Ratio_eq T) pass0)) (hr.mono (by decide))) (pe_fn (ok_scaled T) gg (hr.mono (by decide)) rfl T.g_scaled T.F_scaled.kp (b_scaled T) .nil pass0 (pa_cons (pe_lst (pa_cons pe_int (pa_cons pe_int pa_nil))) (pa_cons (pv 4) pa_nil))) (pe_fn (ok_scaled T) gg (hr.mono (by decide)) rfl T.g_scaled T.F_scaled.kp (b_scaled T) .nil pass0 (pa_cons (pe_tup (pa_cons pe_int (pa_cons pe_int pa_nil))) (pa_cons (pe_mk T.mk_Ratio (ok_init T) gg (hr.mono (by decide)) rfl T.g_Ratio bd rd pass0 (pa_cons (pv 4) pa_nil)) pa_nil))) (nomark _)) (pe_one (pe_cmpR (og_eq T.q_Ratio (ok_eq T) gg (hr.mono (by decide)) (b_Ratio_eq T) pass0) (pe_fn (ok_worth T) gg (hr.mono (by decide)) rfl T.g_worth T.F_worth.kp (b_worth T) .nil pass0 (pa_cons (pe_lst (pa_cons pe_int (pa_cons pe_int pa_nil))) (pa_cons (pv 4) pa_nil))) (pe_mk T.mk_Ratio (ok_init T) gg (hr.mono (by decide)) rfl T.g_Ratio bd rd pass0 (pa_cons (pe_op op_add pe_int (pv 4)) pa_nil)) (nomark _)))))))), ?_⟩
  refine ⟨_, rfl, p, 5, 9, rfl, hp, by decide, by decide, by decide, by decide, fun L1 l1 ys1 H1 hl1 tr1 hn1 np1 hp1 sb1 e1 N1 => ?_⟩
  refine ⟨_, rfl, p, 9, 3, rfl, hp1, by decide, by decide, by decide, by decide, fun L2 l2 ys2 H2 hl2 tr2 hn2 np2 hp2 sb2 e2 N2 => ?_⟩
  refine ⟨_, rfl, p, 4, 99, rfl, hp2, by decide, by decide, by decide, by decide, fun L3 l3 ys3 H3 hl3 tr3 hn3 np3 hp3 sb3 e3 N3 => ?_⟩
  have e1 := (sb2.trans sb3) _ _ e1 np1
  have N1 := (N1.sb hp1 (sb2.trans sb3))
  have e2 := sb3 _ _ e2 np2
  have N2 := N2.sb hp2 sb3
  refine ⟨(by show 0 ≤ sizeLine; omega), fun l4 hl4 => ?_⟩
  have u4 : Same H3 (upd H3 l4 (.lst [])) := Same.put hl4
  have e4 : (upd H3 l4 (.lst [])) l4 = some (.lst []) := upd_same
  generalize upd H3 l4 (.lst []) = H4 at u4 e4
  refine fun x5 dx5 n1 n2 n3 => ?_
  refine mkA n1 n2 (by decide) (by unfold Sz; decide +kernel) fun H5 s5 R5 => ?_
  have R5 : RatAt (CR K) H5 x5 (pr (7 / 3)) := by
    have z : nrm 7 3 = pr (7 / 3) := by decide +kernel
    rw [← z]
    exact R5
  refine ⟨(by show 1 ≤ sizeLine; decide), fun l5 hl5 => ?_⟩
  have u6 : Same H5 (upd H5 l5 (.lst [.ref x5])) := Same.put hl5
  have e5 : (upd H5 l5 (.lst [.ref x5])) l5 = some (.lst [.ref x5]) := upd_same
  generalize upd H5 l5 (.lst [.ref x5]) = H6 at u6 e5
  refine ⟨(by show 5 ≤ sizeLine; decide), fun D hD => ?_⟩
  have u7 : Same H6 (upd H6 D (.lst [.ref l1, .ref l2, .ref l3, .ref l4, .ref l5])) := Same.put hD
  have eD : (upd H6 D (.lst [.ref l1, .ref l2, .ref l3, .ref l4, .ref l5])) D = some (.lst [.ref l1, .ref l2, .ref l3, .ref l4, .ref l5]) := upd_same
  generalize upd H6 D (.lst [.ref l1, .ref l2, .ref l3, .ref l4, .ref l5]) = H7 at u7 eD
  have s37 := u4.trans (s5.trans (u6.trans u7))
  have s67 := s5.trans (u6.trans u7)
  have hp7 := hp3.same s37
  have nDp : D ≠ p := by
    intro z
    obtain ⟨u, v, e, _⟩ := hp7
    rw [z, e] at eD
    injection eD with e9
    injection e9 with e9
    injection e9 with e9
    cases e9
  obtain ⟨vs, hvs⟩ : ∃ vs, vs = [V.ref l1, .ref l2, .ref l3, .ref l4, .ref l5] := ⟨_, rfl⟩
  rw [← hvs] at eD
  have lvs : vs.length = 5 := by rw [hvs]; rfl
  have oks : Ok1 K H7 p vs := by
    rw [hvs]
    intro i x e
    match i, e with
    | 0, e => cases e; exact ⟨l1, ys1, L1, rfl, s37 _ _ e1, N1.same s37, tr1, by omega⟩
    | 1, e => cases e; exact ⟨l2, ys2, L2, rfl, s37 _ _ e2, N2.same s37, tr2, by omega⟩
    | 2, e => cases e; exact ⟨l3, ys3, L3, rfl, s37 _ _ e3, N3.same s37, tr3, by omega⟩
    | 3, e => cases e; exact ⟨l4, [], [], rfl, s67 _ _ e4, LnAt.nil, rfl, by decide⟩
    | 4, e => cases e; exact ⟨l5, [.ref x5], [7 / 3], rfl, u7 _ _ e5, ⟨rfl, fun i x e => by
        match i, e with
        | 0, e => cases e; exact ⟨x5, 7 / 3, rfl, rfl, R5.same (u6.trans u7), ⟨by decide +kernel, by unfold Sz; decide +kernel, by unfold Sz; decide +kernel⟩⟩
        | i + 1, e => simp at e⟩, by decide +kernel, by decide⟩
    | i + 5, e => simp at e
  refine ⟨_, rfl, by decide, by decide, for_range (lo := 0) (n := 4) (fun i σ I => ∃ v2 v3, σ = [some (.ref p), some (.ref D), v2, v3, none] ∧ PotAt I p ∧ I D = some (.lst vs) ∧ Ok1 K I p vs)
    ⟨none, none, rfl, hp7, eD, oks⟩ ?_ ?_⟩
  · rintro i σ I0 hi ⟨v2, v3, rfl, hp, eD, oks⟩
    refine ⟨_, rfl, fun x1 dx1 n1 n2 n3 => ?_⟩
    refine mkA n1 n2 (by decide) (by unfold Sz; decide +kernel) fun I1 s1 R1 => ?_
    refine fun x2 dx2 n1 n2 n3 => ?_
    refine mkA n1 n2 (by decide) (by unfold Sz; decide +kernel) fun I2 s2 R2 => ?_
    refine ⟨_, rfl, fun x3 dx3 n1 n2 n3 => ?_⟩
    refine mkA n1 n2 (by decide) (by unfold Sz; decide +kernel) fun I3 s3 R3 => ?_
    have s03 := s1.trans (s2.trans s3)
    refine ⟨_, rfl, p, 9, rfl, hp.same s03, by decide, by decide, fun r x4 I4 orr hp4 R4 sb4 => ?_⟩
    have nDI : ∀ {I : Hp}, Sb p I0 I → I D = some (.lst vs) := fun s => s _ _ eD nDp
    refine ⟨(by show 4 ≤ sizeLine; decide), fun g hg => ?_⟩
    have u5 : Same I4 (upd I4 g (.lst [.ref x1, .ref x2, .ref x3, .ref x4])) := Same.put hg
    have eg : (upd I4 g (.lst [.ref x1, .ref x2, .ref x3, .ref x4])) g = some (.lst [.ref x1, .ref x2, .ref x3, .ref x4]) := upd_same
    have ngp := hp4.nn hg
    generalize upd I4 g (.lst [.ref x1, .ref x2, .ref x3, .ref x4]) = I5 at u5 eg
    obtain ⟨ns, hns⟩ : ∃ ns, ns = [V.ref x1, .ref x2, .ref x3, .ref x4] := ⟨_, rfl⟩
    have hp5 := hp4.same u5
    have sb5 : Sb p I3 I5 := sb4.trans (Sb.of u5)
    have z0 : nrm 0 1 = pr 0 := nrm_one _
    have z1 : nrm 1 1 = pr 1 := nrm_one _
    have z2 : nrm (-1) 1 = pr (-1) := nrm_one _
    have okr : OkR K I5 ns := by
      rw [hns]
      intro i x e
      match i, e with
      | 0, e => cases e; exact ⟨x1, 0, rfl, z0 ▸ ((R1.same (s2.trans s3)).sb (hp.same s03) sb5), okp_le ok_zero (by decide)⟩
      | 1, e => cases e; exact ⟨x2, 1, rfl, z1 ▸ ((R2.same s3).sb (hp.same s03) sb5), ⟨by decide, by unfold Sz; decide, by unfold Sz; decide⟩⟩
      | 2, e => cases e; exact ⟨x3, -1, rfl, z2 ▸ (R3.sb (hp.same s03) sb5), ⟨by decide, by unfold Sz; decide, by unfold Sz; decide⟩⟩
      | 3, e => cases e; exact ⟨x4, r, rfl, R4.same u5, orr⟩
      | i + 4, e => simp at e
    rw [← hns] at eg
    refine ⟨p, g, ns, rfl, hp5, eg, ngp, by rw [hns]; exact Nat.zero_lt_succ _, by rw [hns]; show 4 < 1000000; omega, fun i3 x I6 hx hp6 sb6 => ?_⟩
    have okr := okr.sb hp5 sb6
    obtain ⟨c, r, rfl, Rc, oc⟩ := okr i3 x hx
    have sb06 : Sb p I0 I6 := (Sb.of s03).trans (sb5.trans sb6)
    refine ⟨_, rfl, _, rfl, _, rfl, p, D, vs, rfl, hp6, nDI sb06, nDp, by omega, by omega, fun ia xa I7 hxa hp7 sb7 => ?_⟩
    have sb07 := sb06.trans sb7
    refine ⟨_, rfl, _, rfl, p, D, vs, rfl, hp7, nDI sb07, nDp, by omega, by omega, fun ib xb I8 hxb hp8 sb8 => ?_⟩
    have sb08 := sb07.trans sb8
    have oks8 := oks.sb hp sb08
    obtain ⟨a, xs, A, rfl, ha, NA, tA, lA⟩ := oks8 ia xa hxa
    obtain ⟨b, ys, B, rfl, hb, NB, tB, lB⟩ := oks8 ib xb hxb
    have Rc := Rc.sb hp6 (sb7.trans sb8)
    refine ⟨_, rfl, p, a, b, c, xs, ys, A, B, r, rfl, hp8, ha, hb, NA, NB, tA, tB, lA, lB, Rc, oc, fun I9 hp9 sb9 => ⟨_, rfl, ?_⟩⟩
    have sb09 := sb08.trans sb9
    exact iteF ⟨_, _, rfl, hp9, nDI sb09, oks.sb hp sb09⟩
  rintro σ I0 ⟨v2, v3, rfl, hp, eD, oks⟩
  refine ⟨_, rfl, p, 9, rfl, hp, by decide, by decide, fun d I1 d0 d1 hp1 sb1 => ⟨_, _, rfl, rfl, ?_⟩⟩
  have two : ∀ {I : Hp} {u v : Int}, u.natAbs < 4 → v.natAbs < 4 → NmAt (CR K) I 2 [.int u, .int v] [(u : Rat), (v : Rat)] := by
    intro I u v hu hv
    refine ⟨rfl, fun i x e => ?_⟩
    match i, e with
    | 0, e => cases e; exact ⟨_, rfl, .inl ⟨u, rfl, rfl⟩, okp_int hu (by decide)⟩
    | 1, e => cases e; exact ⟨_, rfl, .inl ⟨v, rfl, rfl⟩, okp_int hv (by decide)⟩
    | i + 2, e => simp at e
  have okn : OkP 4 (pr ((d - 4 : Int) : Rat)) := okp_int (by omega) (by decide)
  refine ⟨(by show 2 ≤ sizeLine; decide), fun g1 hg1 => ?_⟩
  have u2 : Same I1 (upd I1 g1 (.lst [.int 1, .int 2])) := Same.put hg1
  have eg1 : (upd I1 g1 (.lst [.int 1, .int 2])) g1 = some (.lst [.int 1, .int 2]) := upd_same
  generalize upd I1 g1 (.lst [.int 1, .int 2]) = I2 at u2 eg1
  refine ⟨_, rfl, g1, .int (d - 4), _, _, _, 2, 4, rfl, .inl eg1, two (u := 1) (v := 2) (by decide) (by decide), .inl ⟨d - 4, rfl, rfl⟩, okn, by decide, by decide, by decide, by decide, fun la wa I3 hla s3 ea Na => ?_⟩
  refine ⟨(by show 2 ≤ sizeLine; decide), fun g2 hg2 => ?_⟩
  have u4 : Same I3 (upd I3 g2 (.tup [.int 1, .int 2])) := Same.put hg2
  have eg2 : (upd I3 g2 (.tup [.int 1, .int 2])) g2 = some (.tup [.int 1, .int 2]) := upd_same
  generalize upd I3 g2 (.tup [.int 1, .int 2]) = I4 at u4 eg2
  refine ⟨_, rfl, fun y1 dy1 n1 n2 n3 => ?_⟩
  refine mkA n1 n2 (by decide) (by unfold Sz; decide +kernel) fun I5 s5 R5 => ?_
  have R5 : RatAt (CR K) I5 y1 (pr ((d - 4 : Int) : Rat)) := by
    have z : nrm (d - 4) 1 = pr ((d - 4 : Int) : Rat) := nrm_one _
    rw [← z]
    exact R5
  refine ⟨g2, .ref y1, _, _, _, 2, 4, rfl, .inr (s5 _ _ eg2), two (u := 1) (v := 2) (by decide) (by decide), .inr ⟨y1, rfl, R5⟩, okn, by decide, by decide, by decide, by decide, fun lb wb I6 hlb s6 eb Nb => ?_⟩
  have s36 := u4.trans (s5.trans s6)
  refine ⟨⟨la, lb, wa, wb, rfl, rfl, s36 _ _ ea, eb, by rw [Na.len, Nb.len], fun i x y hx hy => ?_⟩, fun I7 s7 => ⟨_, rfl, ?_⟩⟩
  · obtain ⟨g1, r1, rfl, e1, R1, _⟩ := (Na.same s36).at_ i x hx
    obtain ⟨g2, r2, rfl, e2, R2, _⟩ := Nb.at_ i y hy
    rw [e1] at e2
    cases e2
    obtain ⟨dx1, ex1⟩ := id R1
    obtain ⟨dx2, ex2⟩ := id R2
    exact ⟨g1, g2, dx1, dx2, _, _, rfl, rfl, ex1, ex2, r1, R1, R2⟩
  refine iteT ?_
  refine ⟨(by show 2 ≤ sizeLine; decide), fun g3 hg3 => ?_⟩
  have eg3 : (upd I7 g3 (.lst [.int 1, .int 1])) g3 = some (.lst [.int 1, .int 1]) := upd_same
  generalize upd I7 g3 (.lst [.int 1, .int 1]) = I8 at eg3
  refine ⟨_, rfl, g3, .int (d - 4), _, _, _, 2, 4, rfl, .inl eg3, two (u := 1) (v := 1) (by decide) (by decide), .inl ⟨d - 4, rfl, rfl⟩, okn, by decide, by decide, by decide, by decide, fun y2 I9 s9 R9 _ => ?_⟩
  refine ⟨_, rfl, _, _, rfl, rfl, fun y3 dy3 n1 n2 n3 => ?_⟩
  refine mkA n1 n2 (by decide) (by unfold Sz; decide +kernel) fun J1 t1 V1 => ?_
  have R9 := R9.same t1
  obtain ⟨dx1, ex1⟩ := id R9
  obtain ⟨dx2, ex2⟩ := id V1
  have fin : pr (worL (trim [((1 : Int) : Rat), ((1 : Int) : Rat)]) ((d - 4 : Int) : Rat)) = nrm (1 + (d - 4)) 1 := by
    rw [nrm_one, ← pr_int]
    congr 1
    have e : trim [((1 : Int) : Rat), ((1 : Int) : Rat)] = [1, 1] := by decide +kernel
    rw [e]
    show (0 * _ + 1) * _ + 1 = _
    rw [Rat.zero_mul, Rat.zero_add, Rat.one_mul, Rat.intCast_add, Rat.add_comm]
    rfl
  refine ⟨y2, dx1, _, _, rfl, ex1, .ins ex2, y2, _, _, rfl, R9, .inl ⟨y3, _, rfl, V1, ?_⟩⟩
  rw [fin]
  rw [decide_eq_true rfl]
  exact k _
end
end K31

set_option Elab.async false
set_option linter.all false
set_option maxRecDepth 100000
set_option maxHeartbeats 0
namespace K31
open PySem PySem.Spec PyProof.Rows L2 Own
def names0 : List Str := ["_wall", "__name__", "is_integer", "is_list", "MixError", "InvalidLine", "InvalidNumber", "LimitError", "TooMany", "Ratio", "is_number", "as_ratio", "MOST_NUMBERS", "numbers_from", "line_from", "need_line", "trimmed", "line_plus", "line_scaled", "line_times", "line_derived", "line_worth", "is_line", "told", "degree", "plus", "minus", "scaled", "derived"]
def names1 : List Str := ["times", "worth", "_law_pot", "_law_draw", "_law_pick", "_law_trim", "_law_at", "_law_plus", "_law_scaled", "_law_times", "_law_number", "_law_line", "_law_passed", "_law_worth", "_law_derived", "_law_pair_right", "_law_right"]
def names : List Str := names0 ++ names1

abbrev R : PySem.W.OpenRow := PySem.W.OpenLaw.row PySem.Challenge.rw_producttables_k31_whole_lines_reckoned
abbrev hk : PySem.W.Hook := hookX 6 fl dl
def ob (s : PySem.W.SharedT) : AlX := obsXG 6 fl dl (HandSHeadRun.getT s)
theorem ob_eq (s : PySem.W.SharedT) : ob s = hk.obs s.abs := obsXG_eq (HandSHeadRun.getT_eq s)
theorem run (w : World) : HandSHeadRun.RunEqI R (PySem.W.view R.prog [0, 53]) hk ob 6000 names w := by
  unfold HandSHeadRun.RunEqI
  kernel_rfl
end K31
open PySem PySem.W PySem.Calls PyProof.Rows
theorem K31.whole (call : WalkO (view K31.R.prog [0, 53]) K31.names (XL (view K31.R.prog [0, 53]) []) K31.hk.says K31.R.toRowW (HandSHeadRun.topDef K31.R.prog 53) [] fun f vs => PySem.call f vs) :
    PySem.Challenge.rw_producttables_k31_whole_lines_reckoned.Holds := by
  w_on; o_law
  refine HandSHeadRun.head_imp (r := K31.R) (q := view K31.R.prog [0, 53]) (H := K31.hk) (ob := K31.ob) (M := 6000) (loose := K31.names) (d := HandSHeadRun.topDef K31.R.prog 53) (kwd := []) K31.ob_eq
    K31.run (by kernel_rfl) (by kernel_rfl) (by kernel_rfl) (by rfl) (by first | assumption | decide +kernel) (by decide +kernel) ⟨rfl, rfl, rfl, rfl, rfl, by decide +kernel⟩ ?hw call
  case hw => w_witness2

set_option Elab.async false
set_option linter.all false
set_option maxRecDepth 100000
set_option maxHeartbeats 4000000
namespace K31
open PySem PySem.Spec PyProof.Rows L2 Own
open PySem.W (Frag)
section
variable {P : Program} {w : World} {K : Frag} {mg : Str → Option Value} {base : Heap}
def spLaw (K : Frag) : Sp := fun vs H Q _ => ∃ (a : Addr) (ns : List Int), vs = [.ref a] ∧ SqL K H a (ns.map V.int) ∧ ns.length ≤ 63 ∧ ∀ H2, Q (.bl true) H2
theorem ok_law (T : Tx K mg) : FG P w K mg base CX0 14 (ga K "law") (fdOf K (ga K "law")) ["_law_script"] (spLaw K) := by
  refine fg_no T.F_law sc_law (fun vs H Q E h => ?_) (fun cdv A outer s H vs Q E gg hr h => ?_)
  · obtain ⟨a, ns, rfl, _⟩ := h
    rfl
  obtain ⟨a, ns, rfl, hS, hl, k⟩ := h
  refine ⟨_, pss_one (ps_ret (pe_fn (ok_right T) gg hr rfl T.g_law_right T.F_law_right.kp (b_law_right T) .nil pass0
    (pa_cons (pe_fn (ok_pot T) gg (hr.mono (by decide)) rfl T.g_law_pot T.F_law_pot.kp (b_law_pot T) .nil pass0 (pa_cons (pv 0) (pa_cons pe_int pa_nil))) pa_nil))), ?_⟩
  exact ⟨_, rfl, a, ns, rfl, hS, hl, fun p H2 s2 hp => ⟨p, rfl, hp, fun H3 => k H3⟩⟩
end
end K31
open PySem PySem.Spec PyProof.Rows L2 Own
theorem PySem.Challenge.cw_producttables_k31_whole_lines_reckoned_holds : PySem.Challenge.rw_producttables_k31_whole_lines_reckoned.Holds := by
  refine K31.whole ?_
  refine end_g (l := PySem.Challenge.rw_producttables_k31_whole_lines_reckoned) (n := 63) (k := 14) (CX := CX0) (x := "_law_script") rfl (by decide) (by rfl) ⟨rfl, by decide, by decide⟩ (fun w mg fa h Y G hm => ?_) (fun _ _ _ _ z => z)
  obtain ⟨K, KX, c⟩ := Y
  have T := K31.tx_of KX G c
  have e : fa = ga K "law" := by
    have g := T.g_law
    have g2 := hm.symm.trans g
    injection g2 with g3
    injection g3
  subst e
  refine ⟨K, fdOf K (ga K "law"), K31.spLaw K, KX, fun s u => T.F_law.bindsA (ps := ["_law_script"]) (fun _ _ _ _ _ _ us hl => match us, hl with | [_], _ => rfl) s [u] rfl, fun H a ns hl hS => ⟨a, ns, rfl, hS, hl, fun _ => rfl⟩, fun base KB GB => K31.ok_law T⟩
