import PyProof.Rows.All
import Wide.All
import OpenK.AllK
import Wide.FinOn
import HandS.ForMost
import HandS.SlotsOwn
import HandS.Gcd
import KE.KOpsOwn
import KE.KCallOwn
import HandS.OwnEq
import PyProof.FactsAll.int_1
import PyProof.FactsAll.int_3
import PyProof.FactsAll.int_5
import PyProof.FactsAll.object_2
import PyProof.InstEq
import HandS.Text
import HandS.Exc
import HandS.Defaults
import HandS.MakeKwOnly
import HandS.MakeKw
import HandS.Property
import HandS.ClsMeth
import HandS.RaiseMore
import HandS.FStr
import HandS.WideBits
import HandS.IsInst
import HandS.Head2
import HandS.HeadEnd
import HandS.HeadHook2
import HandS.Zip
import HandS.Style
import HandS.Sort
import HandS.More
import PyProof.NeKinds
import KE.KMathGC
import HandS.Head3
import PySem.Challenge.RW_producttables_k12_whole_steps_of_grids
set_option Elab.async false
set_option linter.all false
set_option maxRecDepth 100000
set_option maxHeartbeats 2000000
namespace Own
open PySem PySem.Spec PyProof.Rows L2

/-- what an operator's def of the class wants: both operands, the promise -/
structure Num (K : PySem.W.Frag) (C : Addr) (nm : String) (g : Addr) : Prop where
  sf : PySem.W.selfFirst K C = true
  fnd : PySem.W.findIn K (.ref C) (PySem.dunder nm) = some (some (.ref g))
  isf : PySem.W.isFn K (.ref g) = true
structure NumR (K : PySem.W.Frag) (C : Addr) (nm : String) (rc : Option Value) : Prop where
  fnd : PySem.W.findIn K (.ref C) (dunderR nm) = some rc
  ok : rc = none ∨ ∃ g : Addr, rc = some (.ref g)
/-- of the built-in type T -/
structure NumT (K : PySem.W.Frag) (C : Addr) (T nm : String) : Prop where
  l : ∃ fo, PySem.W.findIn K (.type T) (PySem.dunder nm) = some fo
  r : ∃ ro, PySem.W.findIn K (.type T) (dunderR nm) = some ro
  sub : PySem.W.subIn K (.type T) (.ref C) = some false

section
variable {X : Cx} {CX : CXT} {n : Nat} {C g : Addr} {sp : Sp} {E : XK}

/-- x op y, both instances of the class at C -/
def rBoth (C : Addr) (sp : Sp) (E : XK) : R2 := fun x y H Q => ∃ a dx fs b dy gs, x = .ref a ∧ y = .ref b ∧ H a = some (.ins C dx fs) ∧ H b = some (.ins C dy gs) ∧ sp [x, y] H Q E
theorem op_both {op : Operator} (k : Num X.K C op.info.2 g) (F : FnR X.prog X.w X.K X.mg X.base CX n g sp) (hr : Room n X.A) (hx : Passes CX X E) : OpR X (binaryOp op) (rBoth C sp E) := by
  intro pins s σ H x y v u Q I rx ry h
  obtain ⟨a, dx, fs, b, dy, gs, rfl, rfl, ha, hb, q⟩ := h
  cases (show v = Value.ref a from rx)
  cases (show u = Value.ref b from ry)
  obtain ⟨mA, O, _⟩ := ins_get I.hok ha
  obtain ⟨od, J, _⟩ := O.look
  obtain ⟨mB, O', _⟩ := ins_get I.hok hb
  obtain ⟨od', J', _⟩ := O'.look
  obtain ⟨m, hF⟩ := I.fr
  refine PySem.W.binop_K hF I.ok.mod.kin J J'.type k.sf k.fnd k.isf ?_
  refine wpAny_mono (wpAny_call (run_fnR (us := [.ref a, .ref b]) (vs := [.ref a, .ref b]) F hr hx I (.cons rfl (.cons rfl .nil)) q)) (fun w s' z => ?_) fun _ _ x => x
  obtain ⟨z', H', I', rz, qz⟩ := z
  exact SlX.cmpback rz ⟨z', H', I', rz, qz⟩

/-- x op y, x an instance, y a whole number -/
def rLeft (C : Addr) (sp : Sp) (E : XK) : R2 := fun x y H Q => ∃ a dx fs i, x = .ref a ∧ y = .int i ∧ H a = some (.ins C dx fs) ∧ sp [x, y] H Q E
theorem op_left {op : Operator} {rc : Option Value} (k : Num X.K C op.info.2 g) (k2 : NumR X.K C op.info.2 rc) (k3 : NumT X.K C "int" op.info.2) (F : FnR X.prog X.w X.K X.mg X.base CX n g sp) (hr : Room n X.A) (hx : Passes CX X E) : OpR X (binaryOp op) (rLeft C sp E) := by
  intro pins s σ H x y v u Q I rx ry h
  obtain ⟨a, dx, fs, i, rfl, rfl, ha, q⟩ := h
  cases (show v = Value.ref a from rx)
  obtain ⟨t, rfl⟩ := (show ∃ t, u = Value.int i t from ry)
  obtain ⟨mA, O, _⟩ := ins_get I.hok ha
  obtain ⟨od, J, _⟩ := O.look
  obtain ⟨m, hF⟩ := I.fr
  obtain ⟨fo, h1⟩ := k3.l
  obtain ⟨ro, h2⟩ := k3.r
  refine PySem.W.ksp_binT (T := "int") hF I.ok.mod.kin J rfl k.sf k.fnd k.isf k2.fnd k2.ok h1 h2 k3.sub ?_
  refine wpAny_mono (wpAny_call (run_fnR (us := [.ref a, .int i t]) (vs := [.ref a, .int i]) F hr hx I (.cons rfl (.cons ⟨t, rfl⟩ .nil)) q)) (fun w s' z => ?_) fun _ _ x => x
  obtain ⟨z', H', I', rz, qz⟩ := z
  exact SlX.cmpback rz ⟨z', H', I', rz, qz⟩
/-- -x -/
def rNeg (C : Addr) (sp : Sp) (E : XK) : V → Hp → VK → Prop := fun x H Q => ∃ a dx fs, x = .ref a ∧ H a = some (.ins C dx fs) ∧ sp [x] H Q E
theorem un_own (k : PySem.W.findIn X.K (.ref C) "__neg__" = some (some (.ref g))) (kf : PySem.W.isFn X.K (.ref g) = true) (F : FnR X.prog X.w X.K X.mg X.base CX n g sp) (hr : Room n X.A) (hx : Passes CX X E) : UnR X (unaryOp .USub) (rNeg C sp E) := by
  intro pins s σ H x v Q I rx h
  obtain ⟨a, dx, fs, rfl, ha, q⟩ := h
  cases (show v = Value.ref a from rx)
  obtain ⟨mA, O, _⟩ := ins_get I.hok ha
  obtain ⟨od, J, _⟩ := O.look
  obtain ⟨m, hF⟩ := I.fr
  refine PySem.W.ksp_neg hF I.ok.mod.kin J k kf ?_
  exact wpAny_call (run_fnR (us := [.ref a]) (vs := [.ref a]) F hr hx I (.cons rfl .nil) q)
/-- x == y and its kin: x an instance, y an instance of the same class or of a built-in type -/
inductive Rt (C : Addr) (H : Hp) : V → Value → Prop where
  | ins {b dy : Addr} {gs : List (Str × V)} (h : H b = some (.ins C dy gs)) : Rt C H (.ref b) (.ref C)
  | int (i : Int) : Rt C H (.int i) (.type "int")
def rEq (C : Addr) (sp : Sp) (E : XK) : R2 := fun x y H Q => ∃ a dx fs t, x = .ref a ∧ H a = some (.ins C dx fs) ∧ Rt C H y t ∧ sp [x, y] H Q E
theorem op_cmp {op : CmpOp} (hop : ∀ a b, compareOp op a b = richCompare op a b) (h0 : PySem.W.notFirst X.K C (.ref C) = true) (h1 : PySem.W.notFirst X.K C (.type "int") = true) (hs : PySem.W.findIn X.K (.ref C) (cmpInfo op).2.1 = some (some (.ref g))) (hf : PySem.W.isFn X.K (.ref g) = true)
    (F : FnR X.prog X.w X.K X.mg X.base CX n g sp) (hr : Room n X.A) (hx : Passes CX X E) : OpR X (compareOp op) (rEq C sp E) := by
  intro pins s σ H x y v u Q I rx ry h
  obtain ⟨a, dx, fs, t, rfl, ha, hy, q⟩ := h
  cases (show v = Value.ref a from rx)
  obtain ⟨mA, O, _⟩ := ins_get I.hok ha
  obtain ⟨od, J, _⟩ := O.look
  obtain ⟨m, hF⟩ := I.fr
  rw [hop]
  have fin : ∀ (tb : Value), PySem.W.Looks (model X.prog X.w) s.heap (typeOf u) tb → PySem.W.notFirst X.K C tb = true → wpAny (model X.prog X.w) X.A (richCompare op (.ref a) u) (EP X pins σ Q) X.xe s := by
    intro tb hb hn
    refine PySem.W.cmp_K (op := op) (tb := tb) hr.units0 hF I.ok.mod.kin J hb hn hs hf ?_
    refine wpAny_mono (wpAny_call (run_fnR (us := [.ref a, u]) (vs := [.ref a, y]) F hr hx I (.cons rfl (.cons ry .nil)) q)) (fun w s' z => ?_) fun _ _ x => x
    obtain ⟨z', H', I', rz, qz⟩ := z
    exact SlX.cmpback rz ⟨z', H', I', rz, qz⟩
  cases hy with
  | ins hb =>
    rename_i b dy gs
    cases (show u = Value.ref b from ry)
    obtain ⟨mB, O', _⟩ := ins_get I.hok hb
    obtain ⟨od', J', _⟩ := O'.look
    exact fin (.ref C) J'.type h0
  | int i =>
    obtain ⟨t, rfl⟩ := (show ∃ t, u = Value.int i t from ry)
    exact fin (.type "int") (PySem.W.Looks.of_pure rfl) h1
end
end Own

set_option Elab.async false
set_option linter.all false
set_option maxRecDepth 100000
set_option maxHeartbeats 2000000
namespace Own
open PySem PySem.Spec PyProof.Rows L2
section
variable {prog : Program} {w : World} {A : Around} {E : Value → Shared → Prop} {s : Shared} {K : PySem.W.Frag} {x C g : Addr} {ox od : Obj}

/-- the built-in whole numbers decline an object of one's own -/
theorem int_no {nm : String} {f : Int → Int → Sem PySem.Fin} {name : Str} {id : String} {i : Int} {t : Tok} {Q : Value → Shared → Prop} (J : PySem.W.InstAt s.heap x ox C (some od)) (hd : ox.data = .plain) (slot : Slot "int" name id)
    (entry : entryFor table id = some (Builtin.Int.intBinary nm f)) (args : argsOk id ⟨[.int i t, .ref x], []⟩) (h : ∀ tk, Q .notImplemented { s with toks := tk }) : wpAny (model prog w) A (call (.builtin id) [.int i t, .ref x]) Q E s := by
  refine GQ.call_here slot (by exact typeIs_int _ _ _) entry args ?_
  have ld := J.at_
  obtain ⟨hp, g', d, tk, os⟩ := s
  show wpAny _ _ (Builtin.Int.intBinary nm f false ⟨[.int i t, .ref x], []⟩) _ _ _
  unfold Builtin.Int.intBinary Builtin.Int.intOfSelf slotArgs asInt?
  wp_walk
  rw [hd]
  wp_walk
  exact h _
/-- i op x, x an instance -/
theorem int_op {op : Operator} {nm : String} {f : Int → Int → Sem PySem.Fin} {id : String} {i : Int} {t : Tok} {Q : Value → Shared → Prop} (X : K.In s.heap) (J : PySem.W.InstAt s.heap x ox C (some od)) (hd : ox.data = .plain) (sf : PySem.W.selfFirst K C = true) {gl : Addr}
    (h1 : PySem.W.findIn K (.ref C) (PySem.dunder op.info.2) = some (some (.ref gl))) (h2 : PySem.W.findIn K (.ref C) (dunderR op.info.2) = some (some (.ref g))) (hf : PySem.W.isFn K (.ref g) = true) (hs : PySem.W.subIn K (.ref C) (.type "int") = some false)
    (fills : fillsNumberSlot (.type "int") op.info.2 = pure true) (slot : Slot "int" (PySem.dunder op.info.2) id) (entry : entryFor table id = some (Builtin.Int.intBinary nm f)) (args : argsOk id ⟨[.int i t, .ref x], []⟩)
    (h : ∀ tk, wpAny (model prog w) A (call (.ref g) [.ref x, .int i t]) (PySem.W.CmpBack Q) E { s with toks := tk }) : wpAny (model prog w) A (binaryOp op (.int i t) (.ref x)) Q E s := by
  obtain ⟨cd, rest, hcd, hm⟩ := PySem.W.ksp_first sf
  rcases hi : op.info with ⟨sym, nm'⟩
  rw [hi] at h1 h2 fills slot
  dsimp only at h1 h2 fills slot
  have L2 : PySem.W.Looks (model prog w) s.heap (typeOf (.ref x)) (.ref C) := J.type
  have L4 : PySem.W.Looks (model prog w) s.heap (fillsNumberSlot (.ref C) nm') true := PySem.W.fills_K X hcd hm h1
  have L5 : PySem.W.Looks (model prog w) s.heap (isSubtype (.ref C) (.type "int")) false := PySem.W.looks_subIn X hs
  have hne : (Value.type "int" == Value.ref C) = false := Bool.eq_false_iff.mpr fun q => by cases beq_iff_eq.mp q
  simp only [binaryOp, hi]
  refine wpAny_holding (wpAny_bind ?_)
  unfold binaryOp1
  refine wpAny_bind (wpAny_typeOf (typeIs_int _ _ _) (wpAny_bind (L2.here (wpAny_bind (wpAny_of_eq fills ?_)))))
  simp only [hne, Bool.false_eq_true, if_false]
  refine wpAny_bind (L4.here ?_)
  simp only [Bool.and_self, if_true]
  refine wpAny_bind (L5.here ?_)
  have hpy : numberSlotInPython (.type "int") nm' = pure false := rfl
  simp only [Bool.false_eq_true, if_false, pure_bind, Bool.not_false, Bool.and_self, if_true, hpy]
  refine wpAny_bind (wpAny_tryMethod_declines (typeIs_int _ _ _) slot (int_no (Q := fun v s' => v = .notImplemented ∧ _) J hd slot entry args fun tk => ⟨rfl, ?_⟩))
  refine wpAny_bind (wpAny_mono (PySem.W.ksp_try (Q := Q) X J h2 hf (h tk)) (fun r s' hr => ?_) fun _ _ e => e)
  obtain ⟨v, rfl, hq⟩ := hr
  exact wpAny_bind (wpAny_rule (wpAny_pure (wpAny_pure hq)))
/-- i == x, x an instance -/
theorem int_eq {i : Int} {t : Tok} {Q : Value → Shared → Prop} (hu : A.units < cLine) (X : K.In s.heap) (J : PySem.W.InstAt s.heap x ox C (some od)) (hd : ox.data = .plain)
    (h2 : PySem.W.findIn K (.ref C) "__eq__" = some (some (.ref g))) (hf : PySem.W.isFn K (.ref g) = true) (hs : PySem.W.subIn K (.ref C) (.type "int") = some false)
    (h : ∀ tk, wpAny (model prog w) A (call (.ref g) [.ref x, .int i t]) (PySem.W.CmpBack Q) E { s with toks := tk }) : wpAny (model prog w) A (richCompare .Eq (.int i t) (.ref x)) Q E s := by
  have L2 : PySem.W.Looks (model prog w) s.heap (typeOf (.ref x)) (.ref C) := J.type
  have L5 : PySem.W.Looks (model prog w) s.heap (isSubtype (.ref C) (.type "int")) false := PySem.W.looks_subIn X hs
  have hne : (Value.type "int" != Value.ref C) = true := by
    rw [bne, Bool.not_eq_true']
    exact Bool.eq_false_iff.mpr fun q => by cases beq_iff_eq.mp q
  unfold richCompare
  refine wpAny_holding (wpAny_bind (wpAny_cRoomFor hu ?_))
  have h1 : oneThing? .Eq (.int i t) (.ref x) = none := by first | rfl | simp [oneThing?]
  simp only [h1]
  refine wpAny_bind (wpAny_typeOf (typeIs_int _ _ _) (wpAny_bind (L2.here ?_)))
  simp only [hne, if_true]
  refine wpAny_bind (L5.here ?_)
  simp only [Bool.false_eq_true, if_false]
  refine wpAny_bind (wpAny_tryCompare_declines (typeIs_int _ _ _) F.slot_int_eq (int_no (Q := fun v s' => v = .notImplemented ∧ _) J hd F.slot_int_eq F.entry_int_eq (F.args_int_eq_2 _ _) fun tk => ⟨rfl, ?_⟩))
  simp only [Bool.not_false, if_true]
  have one : wpAny (model prog w) A (tryCompare (.ref x) "__eq__" (.int i t)) (fun r s' => ∃ v, r = some v ∧ Q v s') E { s with toks := tk } := by
    unfold tryCompare
    refine wpAny_bind (PySem.W.ifBound_K X J h2 hf (wpAny_mono (h tk) (fun v s' hv => ?_) fun _ _ e => e))
    cases v <;> first | exact hv.elim | exact wpAny_pure ⟨_, rfl, hv⟩
  refine wpAny_bind (wpAny_mono one (fun r s' z => ?_) fun _ _ e => e)
  obtain ⟨v, rfl, hq⟩ := z
  exact wpAny_pure hq
/-- a built-in slot as it is bound -/
theorem ifBound_B {M : Model} {name : Str} {id : String} {args : List Value} {Q : Option Value → Shared → Prop} (X : K.In s.heap) (J : PySem.W.InstAt s.heap x ox C (some od)) (hs : PySem.W.findIn K (.ref C) name = some (some (.builtin id)))
    (hb : ∀ self, bindSpecial (.builtin id) self = pure (.builtin id, [self])) (h : wpAny M A (call (.builtin id) (.ref x :: args)) (fun v => Q (some v)) E s) : wpAny M A (callSpecialIfBound? (.ref x) name args) Q E s := by
  simp only [callSpecialIfBound?, bindSpecialIfBound?]
  refine wpAny_holding (wpAny_bind (wpAny_bind (wpAny_bind (J.type.here ((PySem.W.looks_findIn X hs).here ?_)))))
  refine wpAny_bind (wpAny_askSetting (wpAny_ite ?_))
  have fin : wpAny M A (call (.builtin id) ([.ref x] ++ args) >>= fun v => pure (some v)) Q E s := wpAny_bind (wpAny_mono h (fun v s' h' => wpAny_pure h') fun _ _ h' => h')
  split
  · exact wpAny_bind ((PySem.W.Looks.of_pure (hb _)).here (wpAny_pure (by exact fin)))
  · exact wpAny_tryCatch (wpAny_bind ((PySem.W.Looks.of_pure (hb _)).here (wpAny_pure (by exact fin))))
/-- x != y, both instances of C, whose class says == and leaves != to object -/
theorem own_ne {y : Addr} {oy ody : Obj} {Q : Value → Shared → Prop} (hu : A.units + 1 < cLine) (X : K.In s.heap) (J : PySem.W.InstAt s.heap x ox C (some od)) (J' : PySem.W.InstAt s.heap y oy C (some ody))
    (h1 : PySem.W.findIn K (.ref C) "__ne__" = some (some (.builtin "object.__ne__"))) (hm : PySem.W.mroIn K C (.type "object") = some true) (h2 : PySem.W.findIn K (.ref C) "__eq__" = some (some (.ref g))) (hf : PySem.W.isFn K (.ref g) = true)
    (h : wpAny (model prog w) A.in1 (call (.ref g) [.ref x, .ref y]) (fun v s' => ∃ b, v = .bool b ∧ Q (.bool (!b)) s') E s) : wpAny (model prog w) A (richCompare .NotEq (.ref x) (.ref y)) Q E s := by
  have hne : (Value.ref C != Value.ref C) = false := by simp
  unfold richCompare
  simp only [oneThing_ref]
  refine wpAny_holding (wpAny_bind (wpAny_cRoomFor (Nat.lt_of_succ_lt hu) ?_))
  refine wpAny_bind (J.type.here (wpAny_bind (J'.type.here ?_)))
  simp only [hne, Bool.false_eq_true, if_false]
  refine wpAny_bind (wpAny_pure ?_)
  simp only [Bool.false_eq_true, if_false]
  have one : wpAny (model prog w) A (tryCompare (.ref x) "__ne__" (.ref y)) (fun r s' => ∃ v, r = some v ∧ Q v s') E s := by
    unfold tryCompare
    refine wpAny_bind (ifBound_B X J h1 (fun self => PySem.F.slot_object_ne.bind self) (wpAny_call (codeAny_call_builtin PySem.F.slot_object_ne.plain PySem.F.cmpEntry_ne
      (PySem.W.check_slot (i := "object.__ne__") (owner := "object") (n := "__ne__") (by decide +kernel) (by decide +kernel) (J.type.andThen (PySem.W.looks_mroIn X hm)) (F.cmpArgs_ne _ _) ?_))))
    unfold Builtin.«object.__ne__»
    refine wpAny_bind (m := slotArgs "__ne__" 1 _) (wpAny_pure ?_)
    dsimp only
    refine wpAny_bind (m := cRoomFor _ _) (wpAny_cRoomFor hu ?_)
    refine wpAny_bind (m := callSpecialIfBound? (.ref x) (Str.ofString "__eq__") _) (PySem.W.ifBound_K X J h2 hf (wpAny_mono h (fun r s' hq => ?_) fun _ _ y => y))
    obtain ⟨b, rfl, hq⟩ := hq
    refine wpAny_bind (m := truthy (.bool b)) (wpAny_truthy_bool ?_)
    exact wpAny_pure (wpAny_pure ⟨_, rfl, hq⟩)
  refine wpAny_bind (wpAny_mono one (fun r s' z => ?_) fun _ _ e => e)
  obtain ⟨v, rfl, hq⟩ := z
  exact wpAny_pure hq
end
end Own

set_option Elab.async false
set_option linter.all false
set_option maxRecDepth 100000
set_option maxHeartbeats 2000000
namespace Own
open PySem PySem.Spec PyProof.Rows L2

/-- the promise of a def that is called while nothing is being told (no text of a list is under way) -/
structure FG (P : Program) (w : World) (K : PySem.W.Frag) (mg : Str → Option Value) (base : Heap)
    (CX : CXT) (k : Nat) (f : Addr) (fd : FuncData) (ps : List Str) (sp : Sp) : Prop where
  len : ∀ vs H Q E, sp vs H Q E → vs.length = ps.length
  run : ∀ (A : Around) (outer : List Env) (s : Shared) (H : Hp) (args : Args) (us : List Value) (vs : List V) (Q : VK) (E : XK),
    A.guards = some [] → Room k A → Env0 P w K mg base A outer s H → BindsTo s fd args (ps.zip us) → Vals vs us →
    sp vs H Q E → codeAny (model P w) A (.call (.ref f) args) (CR CX outer P w H s Q E) s
theorem FG.mono {P : Program} {w : World} {K : PySem.W.Frag} {mg : Str → Option Value} {base : Heap} {CX : CXT} {j k : Nat} {f : Addr} {fd : FuncData} {ps : List Str} {sp : Sp}
    (F : FG P w K mg base CX j f fd ps sp) (h : j ≤ k) : FG P w K mg base CX k f fd ps sp :=
  ⟨F.len, fun A outer s H args us vs Q E g hr => F.run A outer s H args us vs Q E g (hr.mono h)⟩
theorem FG.imp {P : Program} {w : World} {K : PySem.W.Frag} {mg : Str → Option Value} {base : Heap} {CX : CXT} {k : Nat} {f : Addr} {fd : FuncData} {ps : List Str} {sp sp2 : Sp}
    (F : FG P w K mg base CX k f fd ps sp) (h : ∀ vs H Q E, sp2 vs H Q E → sp vs H Q E) : FG P w K mg base CX k f fd ps sp2 :=
  ⟨fun vs H Q E q => F.len vs H Q E (h _ _ _ _ q),
    fun A outer s H args us vs Q E g hr he hb hv hs => F.run A outer s H args us vs Q E g hr he hb hv (h _ _ _ _ hs)⟩
theorem FG.of {P : Program} {w : World} {K : PySem.W.Frag} {mg : Str → Option Value} {base : Heap} {CX : CXT} {k : Nat} {f : Addr} {fd : FuncData} {ps : List Str} {sp : Sp}
    (F : FnOk P w K mg base CX k f fd ps sp) : FG P w K mg base CX k f fd ps sp := ⟨F.len, fun A outer s H args us vs Q E _ => F.run A outer s H args us vs Q E⟩

/-- a def by its body -/
theorem fg_of {CX : CXT} {P : Program} {w : World} {K : PySem.W.Frag} {mg : Str → Option Value} {base : Heap} {k : Nat} {f : Addr}
    {name qual : Str} {params : Arguments} {body : List Stmt} {scope : Scope} {dvs : List V} {kws : List (Str × V)} {fd : FuncData} {N ps : List Str} {sp : Sp}
    (F : FunD K name qual params body scope dvs kws f fd) (S : FnScope N ps scope)
    (len : ∀ vs H Q E, sp vs H Q E → vs.length = ps.length)
    (hb : ∀ (cdv : Value) (A : Around) (outer : List Env) (s : Shared) (H : Hp) (vs : List V) (Q : VK) (E : XK),
      (A.deeper (envOfC qual scope s.heap.objs.size f cdv)).guards = some [] →
      Room k (A.deeper (envOfC qual scope s.heap.objs.size f cdv)) → sp vs H Q E →
      ∃ t, PSs (cxOf CX P w K mg base N qual scope f cdv A outer s H E) body t ∧ t { nx := fun _ H2 => Q .non H2, rt := Q } (start N vs) H) :
    FG P w K mg base CX (k + 1) f fd ps sp := by
  obtain ⟨oc, od, dV, kV, doc, pm, an, cdv, ct, osl, rfl, look, code, _, _⟩ := F.ex
  refine ⟨len, fun A outer s H args us vs Q E hg hr e0 bd rv prom => ?_⟩
  have stand : ∀ b o, base.get? b = some o → s.heap.get? b = some o := fun b o e => (e0.bs b o e).1
  have inK : K.In s.heap := e0.mod.kin.keeps stand
  have nolim : s.heap.NoLimit := e0.mod.nolimit.keeps stand
  refine codeAny_call_function hr.depth (inK _ _ look) rfl S.co S.gen rfl
    (PySem.W.codeRec_of inK code) (bd _ _ _ _ ?_)
  have kinds : ∀ y ∈ ps.zip us, scope.names.lookup y.1 = some .local ∨
      (scope.names.lookup y.1 = some .cell ∧ ((cellsFrom (s.heap.objs.size + 1) scope.names []).lookup y.1).isSome = true) := by
    rintro ⟨n, v⟩ hy
    rcases S.par n (List.of_mem_zip hy).1 with z | z
    · exact Or.inl z
    · exact Or.inr ⟨z, PySem.W.cellsFrom_some _ _ _ (Or.inl z)⟩
  refine wpAny_newFunctionEnv_cells S.kind kinds fun env same s1 inn => ?_
  subst same
  refine ⟨nolim.keeps inn.toInCall.keep, codeAny_func ?_⟩
  obtain ⟨t, ht, hq⟩ := hb cdv A outer s H vs Q E hg (hr.deeper _) prom
  have I0 := inv_start (CX := CX) (E := E) S hr.hd e0 (len _ _ _ _ prom) rv inn
  refine wpAny_mono (ht.run [] s1 (start N vs) H _ I0 hq) (fun fl s2 z => ?_) fun e s2 z => z
  have out : ∀ {σ2 : L2.St} {H2 : Hp} {v : V} {u : Value},
      Inv (cxOf CX P w K mg base N qual scope f cdv A outer s H E) [] σ2 H2 s2 → L2.RelV v u → Q v H2 → CE outer P w H s Q u s2 := by
    intro σ2 H2 v u J r q
    exact ⟨v, H2, J.os, J.bare, J.base, J.hok, r, q⟩
  cases fl with
  | ret u =>
    obtain ⟨v, σ2, H2, J, r, q⟩ := z
    exact out J r q
  | next =>
    obtain ⟨σ2, H2, J, q⟩ := z
    exact out (v := .non) (u := .none) J rfl q
  | brk => exact z.choose_spec.choose_spec.2.elim
  | cont => exact z.choose_spec.choose_spec.2.elim

/-- a def by its body, where no exception leaves it -/
theorem fg_no {CX : CXT} {P : Program} {w : World} {K : PySem.W.Frag} {mg : Str → Option Value} {base : Heap} {k : Nat} {f : Addr}
    {name qual : Str} {params : Arguments} {body : List Stmt} {scope : Scope} {dvs : List V} {kws : List (Str × V)} {fd : FuncData} {N ps : List Str} {sp : Sp}
    (F : FunD K name qual params body scope dvs kws f fd) (S : FnScope N ps scope)
    (len : ∀ vs H Q E, sp vs H Q E → vs.length = ps.length)
    (hb : ∀ (cdv : Value) (A : Around) (outer : List Env) (s : Shared) (H : Hp) (vs : List V) (Q : VK) (E : XK),
      (A.deeper (envOfC qual scope s.heap.objs.size f cdv)).guards = some [] →
      Room k (A.deeper (envOfC qual scope s.heap.objs.size f cdv)) → sp vs H Q E →
      ∃ t, PSs (cxOf CX P w K mg base N qual scope f cdv A outer s H E).nox body t ∧ t { nx := fun _ H2 => Q .non H2, rt := Q } (start N vs) H) :
    FG P w K mg base CX (k + 1) f fd ps sp :=
  fg_of F S len fun cdv A outer s H vs Q E g hr h =>
    let ⟨t, p, q⟩ := hb cdv A outer s H vs Q E g hr h
    ⟨t, p.nox, q⟩

section
variable {X : Cx} {CX : CXT} {k n : Nat} {f C : Addr} {fd : FuncData} {ps ks : List Str} {sp : Sp} {dvs : List V} {ds : List Value} {E : XK}
  {x m : Str} {p pos apos : Pos} {e o : Expr} {es : List Expr} {kws : List Keyword} {ta : TE} {t tk : TA}
  {g : List Value → List Value → List Value} {gV : List V → List V → List V}
  {pins : List (Addr × Obj)} {σ : L2.St} {H : Hp} {s : Shared} {Q : VK} {us ws : List Value} {vs zs : List V}

/-- the end of a call's code -/
def Bk (X : Cx) (pins : List (Addr × Obj)) (σ : L2.St) (Q : VK) : Result → Shared → Prop := fun r s2 => match r with
  | .ok (.ret v) => EP X pins σ Q v s2
  | .ok _ => False
  | .error er => X.xe er s2
theorem bk_of (hx : Passes CX X E) (I : Inv X pins σ H s) {r : Result} {s2 : Shared} (z : CR CX X.stack X.prog X.w H s Q E r s2) : Bk X pins σ Q r s2 := by
  cases r with
  | error er => exact hx pins σ H s er s2 I z
  | ok fl =>
    cases fl with
    | ret u => exact I.after z
    | next => exact z
    | brk => exact z
    | cont => exact z
/-- the callee runs, its arguments bound anyhow -/
theorem run_g {args : Args} (F : FG X.prog X.w X.K X.mg X.base CX k f fd ps sp) (hg : X.A.guards = some []) (hr : Room k X.A) (hx : Passes CX X E)
    (I : Inv X pins σ H s) (bd : BindsTo s fd args (ps.zip us)) (rv : Vals vs us) (h : sp vs H Q E) :
    codeAny (model X.prog X.w) X.A (.call (.ref f) args) (Bk X pins σ Q) s :=
  codeAny_mono (F.run X.A X.stack s H args us vs Q E hg hr I.env0 bd rv h) fun r s2 z => bk_of hx I z
theorem run_gp (F : FG X.prog X.w X.K X.mg X.base CX k f fd ps sp) (hg : X.A.guards = some []) (hr : Room k X.A) (hb : Binds X.K fd ps ds) (hd : Vals dvs ds) (hx : Passes CX X E)
    (I : Inv X pins σ H s) (rv : Vals vs us) (h : sp (vs ++ dvs) H Q E) :
    codeAny (model X.prog X.w) X.A (.call (.ref f) ⟨us, []⟩) (Bk X pins σ Q) s := by
  have r2 := rv.append hd
  exact run_g F hg hr hx I (hb s us I.kIn (by rw [← r2.length]; exact F.len _ _ _ _ h)) r2 h
theorem run_gk (F : FG X.prog X.w X.K X.mg X.base CX k f fd ps sp) (hg : X.A.guards = some []) (hr : Room k X.A) (hb : KBn X.K fd ps n ks g gV) (hx : Passes CX X E)
    (I : Inv X pins σ H s) (rv : Vals vs us) (rz : Vals zs ws) (l1 : vs.length = n) (l2 : zs.length = ks.length) (h : sp (gV vs zs) H Q E) :
    codeAny (model X.prog X.w) X.A (.call (.ref f) ⟨us, ks.zip ws⟩) (Bk X pins σ Q) s :=
  run_g F hg hr hx I (hb.to s us ws I.kIn (rv.length.symm.trans l1) (rz.length.symm.trans l2)) (hb.rel rv rz) h
end
end Own

set_option Elab.async false
set_option linter.all false
set_option maxRecDepth 100000
set_option maxHeartbeats 2000000
namespace Own
open PySem PySem.Spec PyProof.Rows L2

theorem under_make_guards {A : Around} {C : Addr} {us : List Value} {kw : List (Str × Value)} (h : A.guards = some []) :
    (A.under (.builtin "type.__call__" ⟨.ref C :: us, kw⟩)).guards = some [] := by
  simp [Around.under, Code.guards, Code.isGuard, pushGuards, guardIds, h]

section
variable {X : Cx} {CX : CXT} {k n : Nat} {f C : Addr} {fd : FuncData} {ps ks : List Str} {sp : Sp} {dvs : List V} {ds : List Value} {E : XK}
  {x m : Str} {p pos apos : Pos} {e o : Expr} {es : List Expr} {kws : List Keyword} {ta : TE} {t tk : TA}
  {g : List Value → List Value → List Value} {gV : List V → List V → List V}
  {pins : List (Addr × Obj)} {σ : L2.St} {H : Hp} {s : Shared} {Q : VK} {us ws : List Value} {vs zs : List V}

/-- f(e, ..) -/
theorem pe_fn (F : FG X.prog X.w X.K X.mg X.base CX k f fd ps sp) (gg : X.A.guards = some []) (hr : Room k X.A) (hg : Gl X x)
    (hm : X.mg x = some (.ref f)) (hk : PySem.W.keepIn X.K (.ref f) = true) (hb : Binds X.K fd ps ds) (hd : Vals dvs ds) (hx : Passes CX X E)
    (ha : PA X (e :: es) t) (hdb : (x == ("__debug__" : Str)) = false := by decide)
    (he : starEach (e :: es) X.env = (false, eval e X.env) :: starEach es X.env := by rfl)
    (hpl : (backTo pos (starEach es X.env)).any (·.1) = false := by rfl) :
    PE X (.Call (.Name x p) (e :: es) [] pos) (tCall sp dvs E t) := by
  constructor
  intro pins s σ H Q I h
  refine wpAny_Call_Name_kw (ld_glob I hg hm ?_ hdb)
  refine PySem.W.callWith_K (h₀ := X.base) I.ok.mod.kin hk (thn (ha.run pos pins s σ H _ I h) ?_) he hpl
  rintro us s1 ⟨vs, H1, J, r, q⟩
  exact ⟨J.kIn, wpAny_call (run_gp F gg hr hb hd hx J r q)⟩
/-- f() -/
theorem pe_fn0 (F : FG X.prog X.w X.K X.mg X.base CX k f fd ps sp) (gg : X.A.guards = some []) (hr : Room k X.A) (hg : Gl X x)
    (hm : X.mg x = some (.ref f)) (hk : PySem.W.keepIn X.K (.ref f) = true) (hb : Binds X.K fd ps ds) (hd : Vals dvs ds) (hx : Passes CX X E)
    (hdb : (x == ("__debug__" : Str)) = false := by decide) : PE X (.Call (.Name x p) [] [] pos) (tCall sp dvs E tNil) := by
  constructor
  intro pins s σ H Q I h
  refine wpAny_Call_Name_kw (ld_glob I hg hm ?_ hdb)
  exact PySem.W.callWith_K0 I.kIn hk (wpAny_call (run_gp (us := []) F gg hr hb hd hx I .nil h))
/-- f(e, .., k = v, ..) -/
theorem pe_fnK (F : FG X.prog X.w X.K X.mg X.base CX k f fd ps sp) (gg : X.A.guards = some []) (hr : Room k X.A) (hg : Gl X x)
    (hm : X.mg x = some (.ref f)) (hk : PySem.W.keepIn X.K (.ref f) = true) (hb : KBn X.K fd ps n ks g gV) (hx : Passes CX X E)
    (ha : PA X (e :: es) t) (hkw : PK X kws tk) (hall : (backToKw pos (keywordEach kws X.env)).all (·.1.isSome) = true := by rfl)
    (hks : (backToKw pos (keywordEach kws X.env)).filterMap (·.1) = ks := by rfl) (hdb : (x == ("__debug__" : Str)) = false := by decide)
    (he : starEach (e :: es) X.env = (false, eval e X.env) :: starEach es X.env := by rfl)
    (hpl : ((backTo pos (starEach (e :: es) X.env)).any (·.1) || (backToKw pos (keywordEach kws X.env)).any (·.1.isNone)) = false := by rfl) :
    PE X (.Call (.Name x p) (e :: es) kws pos) (tCallN n ks.length sp gV E t tk) := by
  constructor
  intro pins s σ H Q I h
  refine wpAny_Call_Name_kw (ld_glob I hg hm ?_ hdb)
  refine PySem.W.callWith_KW (h₀ := X.base) I.ok.mod.kin hk hall (thn (ha.run pos pins s σ H _ I h) ?_) hpl he
  rintro us s1 ⟨vs, H1, J, r, q⟩
  refine thn (hkw.run pos pins s1 σ H1 _ J q) ?_
  rintro ws s2 ⟨zs, H2, J2, rz, l1, l2, q2⟩
  rw [hks]
  exact ⟨J2.kIn, wpAny_call (run_gk F gg hr hb hx J2 r rz l1 l2 q2)⟩
/-- f(k = v, ..) -/
theorem pe_fnK0 (F : FG X.prog X.w X.K X.mg X.base CX k f fd ps sp) (gg : X.A.guards = some []) (hr : Room k X.A) (hg : Gl X x)
    (hm : X.mg x = some (.ref f)) (hk : PySem.W.keepIn X.K (.ref f) = true) (hb : KBn X.K fd ps 0 ks g gV) (hx : Passes CX X E)
    (hkw : PK X kws tk) (hall : (backToKw pos (keywordEach kws X.env)).all (·.1.isSome) = true := by rfl)
    (hks : (backToKw pos (keywordEach kws X.env)).filterMap (·.1) = ks := by rfl) (hdb : (x == ("__debug__" : Str)) = false := by decide)
    (hpl : ((backTo pos (starEach [] X.env)).any (·.1) || (backToKw pos (keywordEach kws X.env)).any (·.1.isNone)) = false := by rfl) :
    PE X (.Call (.Name x p) [] kws pos) (tCallN 0 ks.length sp gV E tNil tk) := by
  constructor
  intro pins s σ H Q I h
  refine wpAny_Call_Name_kw (ld_glob I hg hm ?_ hdb)
  refine PySem.W.callWith_KW0 (h₀ := X.base) I.ok.mod.kin hk hall (thn (hkw.run pos pins s σ H _ I h) ?_) hpl
  rintro ws s2 ⟨zs, H2, J2, rz, l1, l2, q2⟩
  rw [hks]
  exact ⟨J2.kIn, wpAny_call (run_gk (us := []) (vs := []) F gg hr hb hx J2 .nil rz l1 l2 q2)⟩

/-- a new instance, its __init__ bound anyhow -/
theorem run_mk {args : List Value} {kw : List (Str × Value)} (M : Mk X.K C f) (F : FG X.prog X.w X.K X.mg X.base CX k f fd ps sp) (gg : X.A.guards = some [])
    (hr : Room (k + 1) X.A) (hx : Passes CX X E) (I : Inv X pins σ H s)
    (bd : ∀ (a : Addr) (s2 : Shared), X.K.In s2.heap → BindsTo s2 fd ⟨.ref a :: args, kw⟩ (ps.zip (.ref a :: us)))
    (rv : Vals vs us)
    (h : ∀ a dx, H a = none → H dx = none → dx ≠ a → sp (.ref a :: vs) (upd (upd H dx (.own a)) a (.ins C dx [])) (fun v H2 => v = .non ∧ Q (.ref a) H2) E) :
    wpAny (model X.prog X.w) X.A (call (.ref C) args kw) (EP X pins σ Q) X.xe s := by
  have prom := h (s.heap.objs.size + 1) s.heap.objs.size (I.hok.fresh (Nat.le_succ _)) (I.hok.fresh (Nat.le_refl _)) (Nat.ne_of_lt (Nat.lt_succ_self _))
  have J := Inv.made (C := C) I
  have r2 : Vals (V.ref (s.heap.objs.size + 1) :: vs) (Value.ref (s.heap.objs.size + 1) :: us) := .cons rfl rv
  refine wpAny_call (make_map (f := f) I.kIn M.makes M.init (beq_iff_eq.mp M.fn)
    (codeAny_mono (F.run _ X.stack _ _ ⟨_ :: args, kw⟩ _ _ _ E (under_make_guards gg) (hr.make C args kw) (J.env0.make C args kw) (bd _ _ J.kIn) r2 prom) ?_))
  intro r s2 z
  cases r with
  | error er => exact hx pins σ _ _ er s2 J z
  | ok fl =>
    cases fl with
    | ret u =>
      obtain ⟨v, H2, J2, ru, ev, q2⟩ := J.after z
      subst ev
      exact ⟨ru, ⟨V.ref (s.heap.objs.size + 1), H2, J2, rfl, q2⟩⟩
    | next => exact z.elim
    | brk => exact z.elim
    | cont => exact z.elim
theorem run_mkp (M : Mk X.K C f) (F : FG X.prog X.w X.K X.mg X.base CX k f fd ps sp) (gg : X.A.guards = some [])
    (hr : Room (k + 1) X.A) (hb : Binds X.K fd ps ds) (hd : Vals dvs ds) (hx : Passes CX X E) (I : Inv X pins σ H s) (rv : Vals vs us)
    (h : ∀ a dx, H a = none → H dx = none → dx ≠ a → sp (.ref a :: (vs ++ dvs)) (upd (upd H dx (.own a)) a (.ins C dx [])) (fun v H2 => v = .non ∧ Q (.ref a) H2) E) :
    wpAny (model X.prog X.w) X.A (call (.ref C) us) (EP X pins σ Q) X.xe s := by
  have r2 := rv.append hd
  have hl : (us ++ ds).length + 1 = ps.length := by
    rw [← r2.length]
    exact F.len _ _ _ _ (h (s.heap.objs.size + 1) s.heap.objs.size (I.hok.fresh (Nat.le_succ _)) (I.hok.fresh (Nat.le_refl _)) (Nat.ne_of_lt (Nat.lt_succ_self _)))
  exact run_mk (us := us ++ ds) (vs := vs ++ dvs) M F gg hr hx I (fun a s2 X2 => hb s2 (.ref a :: us) X2 (by rw [List.cons_append, List.length_cons]; exact hl)) r2 h
/-- C(e, ..) -/
theorem pe_mk (M : Mk X.K C f) (F : FG X.prog X.w X.K X.mg X.base CX k f fd ps sp) (gg : X.A.guards = some []) (hr : Room (k + 1) X.A) (hg : Gl X x)
    (hm : X.mg x = some (.ref C)) (hb : Binds X.K fd ps ds) (hd : Vals dvs ds) (hx : Passes CX X E) (ha : PA X (e :: es) t)
    (hdb : (x == ("__debug__" : Str)) = false := by decide) (he : starEach (e :: es) X.env = (false, eval e X.env) :: starEach es X.env := by rfl)
    (hpl : (backTo pos (starEach es X.env)).any (·.1) = false := by rfl) :
    PE X (.Call (.Name x p) (e :: es) [] pos) (tMake C sp dvs E t) := by
  constructor
  intro pins s σ H Q I h
  refine wpAny_Call_Name_kw (ld_glob I hg hm ?_ hdb)
  refine PySem.W.callWith_K (h₀ := X.base) I.ok.mod.kin M.kp (thn (ha.run pos pins s σ H _ I h) ?_) he hpl
  rintro us s1 ⟨vs, H1, J, r, q⟩
  exact ⟨J.kIn, run_mkp M F gg hr hb hd hx J r q⟩
/-- c(e, ..), c a local that holds the class -/
def tMakeL (i : Nat) (C : Addr) (sp : Sp) (dvs : List V) (E : XK) (t : TA) : TE := fun σ H Q => σ[i]? = some (some (.ref C)) ∧ tMake C sp dvs E t σ H Q
theorem pe_mkL {i : Nat} (M : Mk X.K C f) (F : FG X.prog X.w X.K X.mg X.base CX k f fd ps sp) (gg : X.A.guards = some []) (hr : Room (k + 1) X.A)
    (hN : X.N[i]? = some x) (hv : Vis X.env.scope x) (hb : Binds X.K fd ps ds) (hd : Vals dvs ds) (hx : Passes CX X E) (ha : PA X (e :: es) t)
    (hdb : (x == ("__debug__" : Str)) = false := by decide) (hcd : (x == ("__classdict__" : Str)) = false := by decide)
    (he : starEach (e :: es) X.env = (false, eval e X.env) :: starEach es X.env := by rfl)
    (hpl : (backTo pos (starEach es X.env)).any (·.1) = false := by rfl) :
    PE X (.Call (.Name x p) (e :: es) [] pos) (tMakeL i C sp dvs E t) := by
  constructor
  intro pins s σ H Q I h
  obtain ⟨hs, h⟩ := h
  refine wpAny_Call_Name_kw (thn ((pe_var (pos := p) hN hv hdb hcd).run pins s σ H (fun v H1 => v = .ref C ∧ H1 = H) I ⟨.ref C, hs, rfl, rfl⟩) ?_)
  rintro u s1 ⟨v, H1, J, r1, q1⟩
  obtain ⟨rfl, rfl⟩ := q1
  cases (show u = Value.ref C from r1)
  refine PySem.W.callWith_K (h₀ := X.base) J.ok.mod.kin M.kp (thn (ha.run pos pins s1 σ _ _ J h) ?_) he hpl
  rintro us s2 ⟨vs, H2, J2, r, q⟩
  exact ⟨J2.kIn, run_mkp M F gg hr hb hd hx J2 r q⟩
/-- C(k = v, ..) -/
theorem pe_mkK0 (M : Mk X.K C f) (F : FG X.prog X.w X.K X.mg X.base CX k f fd ps sp) (gg : X.A.guards = some []) (hr : Room (k + 1) X.A) (hg : Gl X x)
    (hm : X.mg x = some (.ref C)) (hb : KBn X.K fd ps 1 ks g gV) (hx : Passes CX X E) (hkw : PK X kws tk)
    (hall : (backToKw pos (keywordEach kws X.env)).all (·.1.isSome) = true := by rfl)
    (hks : (backToKw pos (keywordEach kws X.env)).filterMap (·.1) = ks := by rfl) (hdb : (x == ("__debug__" : Str)) = false := by decide)
    (hpl : ((backTo pos (starEach [] X.env)).any (·.1) || (backToKw pos (keywordEach kws X.env)).any (·.1.isNone)) = false := by rfl) :
    PE X (.Call (.Name x p) [] kws pos) (tMakeK C 0 ks.length sp gV E tNil tk) := by
  constructor
  intro pins s σ H Q I h
  refine wpAny_Call_Name_kw (ld_glob I hg hm ?_ hdb)
  refine PySem.W.callWith_KW0 (h₀ := X.base) I.ok.mod.kin M.kp hall (thn (hkw.run pos pins s σ H _ I h) ?_) hpl
  rintro ws s2 ⟨zs, H2, J, rz, l1, l2, q2⟩
  refine ⟨J.kIn, ?_⟩
  rw [hks]
  have prom := q2 (s2.heap.objs.size + 1) s2.heap.objs.size (J.hok.fresh (Nat.le_succ _)) (J.hok.fresh (Nat.le_refl _)) (Nat.ne_of_lt (Nat.lt_succ_self _))
  have J2 := Inv.made (C := C) J
  have r1 : Vals [V.ref (s2.heap.objs.size + 1)] [Value.ref (s2.heap.objs.size + 1)] := .cons rfl .nil
  refine wpAny_call (make_map (f := f) J.kIn M.makes M.init (beq_iff_eq.mp M.fn)
    (codeAny_mono (F.run _ X.stack _ _ ⟨_ :: [], ks.zip ws⟩ (g [_] ws) _ _ E (under_make_guards gg) (hr.make C [] (ks.zip ws)) (J2.env0.make C [] (ks.zip ws))
      (hb.to _ [_] ws J2.kIn rfl (rz.length.symm.trans l2)) (hb.rel r1 rz) prom) ?_))
  intro r s3 z
  cases r with
  | error er => exact hx pins σ _ _ er s3 J2 z
  | ok fl =>
    cases fl with
    | ret u =>
      obtain ⟨v, H3, J3, ru, ev, q3⟩ := J2.after z
      subst ev
      exact ⟨ru, ⟨V.ref (s2.heap.objs.size + 1), H3, J3, rfl, q3⟩⟩
    | next => exact z.elim
    | brk => exact z.elim
    | cont => exact z.elim

/-- o.f, a property -/
theorem pe_pr {pa : Addr} {f : Str} {gt : Addr} (he : PE X e ta) (c : Cls X.K C) (hp : PropOf X.K C f pa gt)
    (F : FG X.prog X.w X.K X.mg X.base CX k gt fd ps sp) (gg : X.A.guards = some []) (hr : Room (k + 1) X.A) (hb : Binds X.K fd ps ds) (hd : Vals dvs ds)
    (hx : Passes CX X.nox E) (hab : attributeBase e f X.env (eval e X.env) = eval e X.env := by rfl) : PE X (.Attribute e f pos) (tProp C sp dvs E ta) := by
  constructor
  intro pins s σ H Q I h
  refine attr_of hab (thn (he.run pins s σ H _ I h) ?_)
  rintro u s1 ⟨x, H1, I1, rx, a, dx, fs, rfl, ea, q⟩
  cases (show u = Value.ref a from rx)
  obtain ⟨mA, O, _⟩ := ins_get I1.hok ea
  obtain ⟨od, J, _⟩ := O.look
  obtain ⟨rest, hrec⟩ := hp.rec_
  have hc : (PySem.W.clsIn X.K C).isSome = true := by
    obtain ⟨cd, hcd, _⟩ := PySem.W.any_some c.hd
    rw [hcd]
    rfl
  have I2 := I1.tok (s1.toks + 1)
  have hl : ([Value.ref a] ++ ds).length = ps.length := by
    have l1 := F.len _ _ _ _ q
    have l2 := hd.length
    simp only [List.length_cons, List.length_append, List.length_nil] at l1 ⊢
    omega
  refine PySem.W.get_bind I1.kIn J (PySem.W.plainGet_of (c.get f)).1 (PySem.W.findObj_data hc hp.at_ hp.get hp.tak) (PySem.W.plainGet_of (c.get f)).2 ?_
  refine wpAny_call (PySem.W.prop_get (s := { s1 with toks := s1.toks + 1 }) I1.kIn hrec ?_)
  refine codeAny_mono (F.run X.A.in1 X.stack { s1 with toks := s1.toks + 1 } H1 ⟨[.ref a], []⟩ (.ref a :: ds) (.ref a :: dvs) Q E gg hr.in1 I2.env0.in1 (hb _ [.ref a] I2.kIn hl) (.cons rfl hd) q) ?_
  intro r s2 z2
  cases r with
  | error er => exact (hx pins σ H1 { s1 with toks := s1.toks + 1 } er s2 (I2.wish _) z2).elim
  | ok fl =>
    cases fl with
    | ret u =>
      obtain ⟨v, H2, I3, rv, q3⟩ := I2.after z2
      show wpAny _ _ (handedOut u) _ _ _
      rw [PySem.W.handedOut_of (handed_of rv)]
      exact wpAny_pure ⟨v, H2, I3, rv, q3⟩
    | next => exact z2.elim
    | brk => exact z2.elim
    | cont => exact z2.elim
/-- o.m(e, ..) -/
theorem pe_me {pl : Sem Bool} (he : PE X o ta) (c : Cls X.K C) (hm : Meth X.K C m f) (F : FG X.prog X.w X.K X.mg X.base CX k f fd ps sp)
    (gg : X.A.guards = some []) (hr : Room k X.A) (hb : Binds X.K fd ps ds) (hd : Vals dvs ds) (hx : Passes CX X E) (ha : PA X (e :: es) t)
    (hst : starEach (e :: es) X.env = (false, eval e X.env) :: starEach es X.env := by rfl) (hpl : (backTo pos (starEach es X.env)).any (·.1) = false := by rfl)
    (ht : eval (.Call (.Attribute o m apos) (e :: es) [] pos) X.env = (do
      let ov ← eval o X.env
      standAt apos.atName
      let (f2, first) ← holding [ov] (getMethod ov m pl)
      callWith pos f2 first (backTo pos (starEach (e :: es) X.env)) (backToKw pos (keywordEach [] X.env))) := by rfl) :
    PE X (.Call (.Attribute o m apos) (e :: es) [] pos) (tMeth C m sp dvs E ta t) := by
  constructor
  intro pins s σ H Q I h
  refine PySem.W.methodCall_KW (pl := pl) (thn (he.run pins s σ H _ I h) ?_) ht
  rintro u s1 ⟨x, H1, I1, rx, a, dx, fs, rfl, ea, l, q⟩
  cases (show u = Value.ref a from rx)
  refine getmeth_ok I1 ea c hm l ?_
  refine PySem.W.callWith_K (first := [.ref a]) (h₀ := X.base) I.ok.mod.kin hm.kp (thn (ha.run pos pins s1 σ H1 _ I1 q) ?_) hst hpl
  rintro us s2 ⟨vs, H2, I2, r, q2⟩
  exact ⟨I2.kIn, wpAny_call (run_gp (us := .ref a :: us) (vs := .ref a :: vs) F gg hr hb hd hx I2 (.cons rfl r) q2)⟩
/-- o.m() -/
theorem pe_me0 {pl : Sem Bool} (he : PE X o ta) (c : Cls X.K C) (hm : Meth X.K C m f) (F : FG X.prog X.w X.K X.mg X.base CX k f fd ps sp)
    (gg : X.A.guards = some []) (hr : Room k X.A) (hb : Binds X.K fd ps ds) (hd : Vals dvs ds) (hx : Passes CX X E)
    (ht : eval (.Call (.Attribute o m apos) [] [] pos) X.env = (do
      let ov ← eval o X.env
      standAt apos.atName
      let (f2, first) ← holding [ov] (getMethod ov m pl)
      callWith pos f2 first (backTo pos (starEach [] X.env)) (backToKw pos (keywordEach [] X.env))) := by rfl) :
    PE X (.Call (.Attribute o m apos) [] [] pos) (tMeth C m sp dvs E ta tNil) := by
  constructor
  intro pins s σ H Q I h
  refine PySem.W.methodCall_KW (pl := pl) (thn (he.run pins s σ H _ I h) ?_) ht
  rintro u s1 ⟨x, H1, I1, rx, a, dx, fs, rfl, ea, l, q⟩
  cases (show u = Value.ref a from rx)
  refine getmeth_ok I1 ea c hm l ?_
  exact PySem.W.callWith_K0 (first := [.ref a]) I1.kIn hm.kp (wpAny_call (run_gp (us := [.ref a]) (vs := [.ref a]) F gg hr hb hd hx I1 (.cons rfl .nil) q))
/-- o.m(k = v, ..) -/
def tMethK (C : Addr) (m : Str) (j : Nat) (sp : Sp) (gV : List V → List V → List V) (E : XK) (ta : TE) (tk : TA) : TE := fun σ H Q =>
  ta σ H fun x H1 => ∃ a dx fs, x = .ref a ∧ H1 a = some (.ins C dx fs) ∧ fs.lookup m = none ∧ tk σ H1 fun zs H2 => zs.length = j ∧ sp (gV [x] zs) H2 Q E
theorem pe_meK0 {pl : Sem Bool} (he : PE X o ta) (c : Cls X.K C) (hm : Meth X.K C m f) (F : FG X.prog X.w X.K X.mg X.base CX k f fd ps sp)
    (gg : X.A.guards = some []) (hr : Room k X.A) (hb : KBn X.K fd ps 1 ks g gV) (hx : Passes CX X E) (hkw : PK X kws tk)
    (hall : (backToKw pos (keywordEach kws X.env)).all (·.1.isSome) = true := by rfl)
    (hks : (backToKw pos (keywordEach kws X.env)).filterMap (·.1) = ks := by rfl)
    (hpl : ((backTo pos (starEach [] X.env)).any (·.1) || (backToKw pos (keywordEach kws X.env)).any (·.1.isNone)) = false := by rfl)
    (ht : eval (.Call (.Attribute o m apos) [] kws pos) X.env = (do
      let ov ← eval o X.env
      standAt apos.atName
      let (f2, first) ← holding [ov] (getMethod ov m pl)
      callWith pos f2 first (backTo pos (starEach [] X.env)) (backToKw pos (keywordEach kws X.env))) := by rfl) :
    PE X (.Call (.Attribute o m apos) [] kws pos) (tMethK C m ks.length sp gV E ta tk) := by
  constructor
  intro pins s σ H Q I h
  refine PySem.W.methodCall_KW (pl := pl) (thn (he.run pins s σ H _ I h) ?_) ht
  rintro u s1 ⟨x, H1, I1, rx, a, dx, fs, rfl, ea, l, q⟩
  cases (show u = Value.ref a from rx)
  refine getmeth_ok I1 ea c hm l ?_
  refine PySem.W.callWith_KW0 (first := [.ref a]) (h₀ := X.base) I.ok.mod.kin hm.kp hall (thn (hkw.run pos pins s1 σ H1 _ I1 q) ?_) hpl
  rintro ws s2 ⟨zs, H2, I2, rz, l2, q2⟩
  rw [hks]
  exact ⟨I2.kIn, wpAny_call (run_gk (us := [.ref a]) (vs := [.ref a]) F gg hr hb hx I2 (.cons rfl .nil) rz rfl l2 q2)⟩
/-- c.m(e, ..), m a classmethod of the class c -/
theorem pe_cm {mc : Value} {pc : Addr} {pl : Sem Bool} (he : PE X o ta) (cr : ClX.CRead X.K C mc) (c : ClX.CMet X.K C mc m pc f)
    (F : FG X.prog X.w X.K X.mg X.base CX k f fd ps sp) (gg : X.A.guards = some []) (hr : Room k X.A) (hb : Binds X.K fd ps ds) (hd : Vals dvs ds) (hx : Passes CX X E)
    (ha : PA X (e :: es) t) (hst : starEach (e :: es) X.env = (false, eval e X.env) :: starEach es X.env := by rfl)
    (hpl : (backTo pos (starEach es X.env)).any (·.1) = false := by rfl)
    (ht : eval (.Call (.Attribute o m apos) (e :: es) [] pos) X.env = (do
      let ov ← eval o X.env
      standAt apos.atName
      let (f2, first) ← holding [ov] (getMethod ov m pl)
      callWith pos f2 first (backTo pos (starEach (e :: es) X.env)) (backToKw pos (keywordEach [] X.env))) := by rfl) :
    PE X (.Call (.Attribute o m apos) (e :: es) [] pos) (ClX.tCMeth C (fun vs => sp (vs ++ dvs)) E ta t) := by
  constructor
  intro pins s σ H Q I h
  refine PySem.W.methodCall_KW (pl := pl) (thn (he.run pins s σ H _ I h) ?_) ht
  rintro u s1 ⟨x, H1, I1, rx, rfl, q⟩
  cases (show u = Value.ref C from rx)
  refine ClX.getmethcm_ok I1 cr c fun s2 I2 => ?_
  refine ClX.callwith_cm I2 (ClX.base_none I1 (Nat.le_refl _)) c.fi (thn (ha.run pos _ s2 σ H1 _ I2 q) ?_) hst hpl
  rintro us s3 ⟨vs, H2, I3, rv, q2⟩
  refine ⟨⟨ClX.pin_at I3, I3.kIn⟩, ?_⟩
  refine thn (wpAny_call (PySem.W.method_call (ClX.pin_at I3) (run_gp (us := .ref C :: us) (vs := .ref C :: vs) F gg hr hb hd hx I3 (.cons rfl rv) q2))) ?_
  intro _ _ y
  exact ClX.unpinE y
/-- c.m(k = v, ..) -/
def tCMethK (C : Addr) (j : Nat) (sp : Sp) (gV : List V → List V → List V) (E : XK) (ta : TE) (tk : TA) : TE := fun σ H Q =>
  ta σ H fun x H1 => x = .ref C ∧ tk σ H1 fun zs H2 => zs.length = j ∧ sp (gV [.ref C] zs) H2 Q E
theorem pe_cmK0 {mc : Value} {pc : Addr} {pl : Sem Bool} (he : PE X o ta) (cr : ClX.CRead X.K C mc) (c : ClX.CMet X.K C mc m pc f)
    (F : FG X.prog X.w X.K X.mg X.base CX k f fd ps sp) (gg : X.A.guards = some []) (hr : Room k X.A) (hb : KBn X.K fd ps 1 ks g gV) (hx : Passes CX X E) (hkw : PK X kws tk)
    (hall : (backToKw pos (keywordEach kws X.env)).all (·.1.isSome) = true := by rfl)
    (hks : (backToKw pos (keywordEach kws X.env)).filterMap (·.1) = ks := by rfl)
    (hpl : ((backTo pos (starEach [] X.env)).any (·.1) || (backToKw pos (keywordEach kws X.env)).any (·.1.isNone)) = false := by rfl)
    (ht : eval (.Call (.Attribute o m apos) [] kws pos) X.env = (do
      let ov ← eval o X.env
      standAt apos.atName
      let (f2, first) ← holding [ov] (getMethod ov m pl)
      callWith pos f2 first (backTo pos (starEach [] X.env)) (backToKw pos (keywordEach kws X.env))) := by rfl) :
    PE X (.Call (.Attribute o m apos) [] kws pos) (tCMethK C ks.length sp gV E ta tk) := by
  constructor
  intro pins s σ H Q I h
  refine PySem.W.methodCall_KW (pl := pl) (thn (he.run pins s σ H _ I h) ?_) ht
  rintro u s1 ⟨x, H1, I1, rx, rfl, q⟩
  cases (show u = Value.ref C from rx)
  refine ClX.getmethcm_ok I1 cr c fun s2 I2 => ?_
  refine PySem.W.callWith_of (P := PySem.W.MethP X.K _ f (.ref C)) hpl (PySem.W.keeps_M c.fi) (evalArgs_kw2_nil hall ?_)
  refine thn (hkw.run pos _ s2 σ H1 _ I2 q) ?_
  rintro ws s3 ⟨zs, H2, I3, rz, l2, q2⟩
  rw [hks]
  refine ⟨⟨ClX.pin_at I3, I3.kIn⟩, ?_⟩
  refine thn (wpAny_call (PySem.W.method_call (ClX.pin_at I3) (run_gk (us := [.ref C]) (vs := [.ref C]) F gg hr hb hx I3 (.cons rfl .nil) rz rfl l2 q2))) ?_
  intro _ _ y
  exact ClX.unpinE y
end
end Own

set_option Elab.async false
set_option linter.all false
set_option maxRecDepth 100000
set_option maxHeartbeats 2000000
namespace Own
open PySem PySem.Spec PyProof.Rows L2

section
variable {X : Cx} {CX : CXT} {n : Nat} {C g : Addr} {fd : FuncData} {ps : List Str} {sp : Sp} {E : XK}

/-- x op y, both instances of C -/
theorem og_both {op : Operator} (k : Num X.K C op.info.2 g) (F : FG X.prog X.w X.K X.mg X.base CX n g fd ps sp) (gg : X.A.guards = some []) (hr : Room n X.A)
    (hb : Binds X.K fd ps []) (hx : Passes CX X E) : OpR X (binaryOp op) (rBoth C sp E) := by
  rintro pins s σ H x y v u Q I rx ry ⟨a, dx, fs, b, dy, gs, rfl, rfl, ha, hb', q⟩
  cases (show v = Value.ref a from rx)
  cases (show u = Value.ref b from ry)
  obtain ⟨mA, O, _⟩ := ins_get I.hok ha
  obtain ⟨od, J, _⟩ := O.look
  obtain ⟨mB, O', _⟩ := ins_get I.hok hb'
  obtain ⟨od', J', _⟩ := O'.look
  obtain ⟨m, hF⟩ := I.fr
  refine PySem.W.binop_K hF I.ok.mod.kin J J'.type k.sf k.fnd k.isf ?_
  refine wpAny_mono (wpAny_call (run_gp (us := [.ref a, .ref b]) (vs := [.ref a, .ref b]) F gg hr hb .nil hx I (.cons rfl (.cons rfl .nil)) q)) (fun w s2 z => ?_) fun _ _ x => x
  obtain ⟨z1, H2, I2, rz, qz⟩ := z
  exact SlX.cmpback rz ⟨z1, H2, I2, rz, qz⟩
/-- x op i -/
theorem og_left {op : Operator} {rc : Option Value} (k : Num X.K C op.info.2 g) (k2 : NumR X.K C op.info.2 rc) (k3 : NumT X.K C "int" op.info.2)
    (F : FG X.prog X.w X.K X.mg X.base CX n g fd ps sp) (gg : X.A.guards = some []) (hr : Room n X.A) (hb : Binds X.K fd ps []) (hx : Passes CX X E) : OpR X (binaryOp op) (rLeft C sp E) := by
  rintro pins s σ H x y v u Q I rx ry ⟨a, dx, fs, i, rfl, rfl, ha, q⟩
  cases (show v = Value.ref a from rx)
  obtain ⟨t, rfl⟩ := (show ∃ t, u = Value.int i t from ry)
  obtain ⟨mA, O, _⟩ := ins_get I.hok ha
  obtain ⟨od, J, _⟩ := O.look
  obtain ⟨m, hF⟩ := I.fr
  obtain ⟨fo, h1⟩ := k3.l
  obtain ⟨ro, h2⟩ := k3.r
  refine PySem.W.ksp_binT (T := "int") hF I.ok.mod.kin J rfl k.sf k.fnd k.isf k2.fnd k2.ok h1 h2 k3.sub ?_
  refine wpAny_mono (wpAny_call (run_gp (us := [.ref a, .int i t]) (vs := [.ref a, .int i]) F gg hr hb .nil hx I (.cons rfl (.cons ⟨t, rfl⟩ .nil)) q)) (fun w s2 z => ?_) fun _ _ x => x
  obtain ⟨z1, H2, I2, rz, qz⟩ := z
  exact SlX.cmpback rz ⟨z1, H2, I2, rz, qz⟩
/-- i op x: the reflected def at g is asked with x first -/
def rRight (C : Addr) (sp : Sp) (E : XK) : R2 := fun x y H Q => ∃ a dx fs i, x = .int i ∧ y = .ref a ∧ H a = some (.ins C dx fs) ∧ sp [y, x] H Q E
structure NumI (K : PySem.W.Frag) (C : Addr) (nm : String) (gl gr : Addr) : Prop where
  sf : PySem.W.selfFirst K C = true
  l : PySem.W.findIn K (.ref C) (PySem.dunder nm) = some (some (.ref gl))
  r : PySem.W.findIn K (.ref C) (dunderR nm) = some (some (.ref gr))
  isf : PySem.W.isFn K (.ref gr) = true
  sub : PySem.W.subIn K (.ref C) (.type "int") = some false
theorem og_right {op : Operator} {gl : Addr} {nm : String} {fz : Int → Int → Sem PySem.Fin} {id : String} (k : NumI X.K C op.info.2 gl g)
    (fills : fillsNumberSlot (.type "int") op.info.2 = pure true) (slot : Slot "int" (PySem.dunder op.info.2) id) (entry : entryFor table id = some (Builtin.Int.intBinary nm fz))
    (args : ∀ a b, argsOk id ⟨[a, b], []⟩) (F : FG X.prog X.w X.K X.mg X.base CX n g fd ps sp) (gg : X.A.guards = some []) (hr : Room n X.A)
    (hb : Binds X.K fd ps []) (hx : Passes CX X E) : OpR X (binaryOp op) (rRight C sp E) := by
  rintro pins s σ H x y v u Q I rx ry ⟨a, dx, fs, i, rfl, rfl, ha, q⟩
  cases (show u = Value.ref a from ry)
  obtain ⟨t, rfl⟩ := (show ∃ t, v = Value.int i t from rx)
  obtain ⟨mA, O, _⟩ := ins_get I.hok ha
  obtain ⟨od, J, _⟩ := O.look
  refine int_op I.kIn J rfl k.sf k.l k.r k.isf k.sub fills slot entry (args _ _) fun tk => ?_
  have I2 := I.tok tk
  refine wpAny_mono (wpAny_call (run_gp (us := [.ref a, .int i t]) (vs := [.ref a, .int i]) F gg hr hb .nil hx I2 (.cons rfl (.cons ⟨t, rfl⟩ .nil)) q)) (fun w s2 z => ?_) fun _ _ x => x
  obtain ⟨z1, H2, I3, rz, qz⟩ := z
  exact SlX.cmpback rz ⟨z1, H2, I3, rz, qz⟩
theorem og_addR {gl : Addr} (k : NumI X.K C "add" gl g) (F : FG X.prog X.w X.K X.mg X.base CX n g fd ps sp) (gg : X.A.guards = some []) (hr : Room n X.A) (hb : Binds X.K fd ps []) (hx : Passes CX X E) :
    OpR X (binaryOp .Add) (rRight C sp E) := og_right (op := .Add) k PySem.F.fills_int_add PySem.F.slot_int_add PySem.F.entry_int_add PySem.F.args_int_add_2 F gg hr hb hx
/-- -x -/
theorem og_neg (k : PySem.W.findIn X.K (.ref C) "__neg__" = some (some (.ref g))) (kf : PySem.W.isFn X.K (.ref g) = true) (F : FG X.prog X.w X.K X.mg X.base CX n g fd ps sp)
    (gg : X.A.guards = some []) (hr : Room n X.A) (hb : Binds X.K fd ps []) (hx : Passes CX X E) : UnR X (unaryOp .USub) (rNeg C sp E) := by
  rintro pins s σ H x v Q I rx ⟨a, dx, fs, rfl, ha, q⟩
  cases (show v = Value.ref a from rx)
  obtain ⟨mA, O, _⟩ := ins_get I.hok ha
  obtain ⟨od, J, _⟩ := O.look
  obtain ⟨m, hF⟩ := I.fr
  exact PySem.W.ksp_neg hF I.ok.mod.kin J k kf (wpAny_call (run_gp (us := [.ref a]) (vs := [.ref a]) F gg hr hb .nil hx I (.cons rfl .nil) q))
/-- what == and != of the class want -/
structure EqC (K : PySem.W.Frag) (C g : Addr) : Prop where
  n0 : PySem.W.notFirst K C (.ref C) = true
  n1 : PySem.W.notFirst K C (.type "int") = true
  fnd : PySem.W.findIn K (.ref C) "__eq__" = some (some (.ref g))
  isf : PySem.W.isFn K (.ref g) = true
  ne : PySem.W.findIn K (.ref C) "__ne__" = some (some (.builtin "object.__ne__"))
  mro : PySem.W.mroIn K C (.type "object") = some true
  sub : PySem.W.subIn K (.ref C) (.type "int") = some false
theorem og_eq (k : EqC X.K C g) (F : FG X.prog X.w X.K X.mg X.base CX n g fd ps sp) (gg : X.A.guards = some []) (hr : Room n X.A) (hb : Binds X.K fd ps []) (hx : Passes CX X E) :
    OpR X (compareOp .Eq) (rEq C sp E) := by
  rintro pins s σ H x y v u Q I rx ry ⟨a, dx, fs, t, rfl, ha, hy, q⟩
  cases (show v = Value.ref a from rx)
  obtain ⟨mA, O, _⟩ := ins_get I.hok ha
  obtain ⟨od, J, _⟩ := O.look
  obtain ⟨m, hF⟩ := I.fr
  refine PySem.W.cmp_ofEq ?_
  have fin : ∀ (tb : Value), PySem.W.Looks (model X.prog X.w) s.heap (typeOf u) tb → PySem.W.notFirst X.K C tb = true →
      wpAny (model X.prog X.w) X.A (richCompare .Eq (.ref a) u) (EP X pins σ Q) X.xe s := by
    intro tb hb' hn
    refine PySem.W.cmp_K (op := .Eq) (tb := tb) hr.units0 hF I.ok.mod.kin J hb' hn k.fnd k.isf ?_
    refine wpAny_mono (wpAny_call (run_gp (us := [.ref a, u]) (vs := [.ref a, y]) F gg hr hb .nil hx I (.cons rfl (.cons ry .nil)) q)) (fun w s2 z => ?_) fun _ _ x => x
    obtain ⟨z1, H2, I2, rz, qz⟩ := z
    exact SlX.cmpback rz ⟨z1, H2, I2, rz, qz⟩
  cases hy with
  | ins hb' =>
    rename_i b dy gs
    cases (show u = Value.ref b from ry)
    obtain ⟨mB, O', _⟩ := ins_get I.hok hb'
    obtain ⟨od', J', _⟩ := O'.look
    exact fin (.ref C) J'.type k.n0
  | int i =>
    obtain ⟨t, rfl⟩ := (show ∃ t, u = Value.int i t from ry)
    exact fin (.type "int") (PySem.W.Looks.of_pure rfl) k.n1
/-- i == x -/
def rEqR (C : Addr) (sp : Sp) (E : XK) : R2 := fun x y H Q => ∃ a dx fs i, x = .int i ∧ y = .ref a ∧ H a = some (.ins C dx fs) ∧ sp [y, x] H Q E
theorem og_eqR (k : EqC X.K C g) (F : FG X.prog X.w X.K X.mg X.base CX n g fd ps sp) (gg : X.A.guards = some []) (hr : Room n X.A) (hb : Binds X.K fd ps []) (hx : Passes CX X E) :
    OpR X (compareOp .Eq) (rEqR C sp E) := by
  rintro pins s σ H x y v u Q I rx ry ⟨a, dx, fs, i, rfl, rfl, ha, q⟩
  cases (show u = Value.ref a from ry)
  obtain ⟨t, rfl⟩ := (show ∃ t, v = Value.int i t from rx)
  obtain ⟨mA, O, _⟩ := ins_get I.hok ha
  obtain ⟨od, J, _⟩ := O.look
  refine PySem.W.cmp_ofEq (int_eq hr.units0 I.kIn J rfl k.fnd k.isf k.sub fun tk => ?_)
  have I2 := I.tok tk
  refine wpAny_mono (wpAny_call (run_gp (us := [.ref a, .int i t]) (vs := [.ref a, .int i]) F gg hr hb .nil hx I2 (.cons rfl (.cons ⟨t, rfl⟩ .nil)) q)) (fun w s2 z => ?_) fun _ _ x => x
  obtain ⟨z1, H2, I3, rz, qz⟩ := z
  exact SlX.cmpback rz ⟨z1, H2, I3, rz, qz⟩
/-- x != y: the class's own == tells a truth value -/
def rNe (C : Addr) (sp : Sp) (E : XK) : R2 := fun x y H Q => ∃ a dx fs b dy gs, x = .ref a ∧ y = .ref b ∧ H a = some (.ins C dx fs) ∧ H b = some (.ins C dy gs) ∧
  sp [x, y] H (fun v H2 => ∃ c, v = .bl c ∧ Q (.bl (!c)) H2) E
theorem og_ne (k : EqC X.K C g) (F : FG X.prog X.w X.K X.mg X.base CX n g fd ps sp) (gg : X.A.guards = some []) (hr : Room (n + 1) X.A) (hb : Binds X.K fd ps []) (hx : Passes CX X E) :
    OpR X (compareOp .NotEq) (rNe C sp E) := by
  rintro pins s σ H x y v u Q I rx ry ⟨a, dx, fs, b, dy, gs, rfl, rfl, ha, hb', q⟩
  cases (show v = Value.ref a from rx)
  cases (show u = Value.ref b from ry)
  obtain ⟨mA, O, _⟩ := ins_get I.hok ha
  obtain ⟨od, J, _⟩ := O.look
  obtain ⟨mB, O', _⟩ := ins_get I.hok hb'
  obtain ⟨od', J', _⟩ := O'.look
  refine PySem.W.cmp_ofNotEq (own_ne (by have := hr.units; omega) I.kIn J J' k.ne k.mro k.fnd k.isf ?_)
  have hl : ([Value.ref a, Value.ref b] ++ []).length = ps.length := by
    have l1 := F.len _ _ _ _ q
    exact l1
  have call1 : codeAny (model X.prog X.w) X.A.in1 (.call (.ref g) ⟨[.ref a, .ref b], []⟩) (Bk X pins σ fun v H2 => ∃ c, v = .bl c ∧ Q (.bl (!c)) H2) s :=
    codeAny_mono (F.run X.A.in1 X.stack s H ⟨[.ref a, .ref b], []⟩ _ [.ref a, .ref b] _ E gg hr.in1 I.env0.in1 (hb s [.ref a, .ref b] I.kIn hl) (.cons rfl (.cons rfl .nil)) q) fun r s2 z => bk_of hx I z
  refine wpAny_mono (wpAny_call call1) (fun w s2 z => ?_) fun _ _ x => x
  obtain ⟨z1, H2, I2, rz, c, rfl, qz⟩ := z
  cases (show w = Value.bool c from rz)
  exact ⟨c, rfl, .bl (!c), H2, I2, rfl, qz⟩
theorem og_subR {gl : Addr} (k : NumI X.K C "sub" gl g) (F : FG X.prog X.w X.K X.mg X.base CX n g fd ps sp) (gg : X.A.guards = some []) (hr : Room n X.A) (hb : Binds X.K fd ps []) (hx : Passes CX X E) :
    OpR X (binaryOp .Sub) (rRight C sp E) := og_right (op := .Sub) k PySem.F.fills_int_sub PySem.F.slot_int_sub PySem.F.entry_int_sub PySem.F.args_int_sub_2 F gg hr hb hx
theorem og_mulR {gl : Addr} (k : NumI X.K C "mul" gl g) (F : FG X.prog X.w X.K X.mg X.base CX n g fd ps sp) (gg : X.A.guards = some []) (hr : Room n X.A) (hb : Binds X.K fd ps []) (hx : Passes CX X E) :
    OpR X (binaryOp .Mult) (rRight C sp E) := og_right (op := .Mult) k PySem.F.fills_int_mul PySem.F.slot_int_mul PySem.F.entry_int_mul PySem.F.args_int_mul_2 F gg hr hb hx
/-- str(x) -/
def rTell (C : Addr) (sp : Sp) (E : XK) : List V → Hp → VK → Prop := fun xs H Q => ∃ a dx fs, xs = [.ref a] ∧ H a = some (.ins C dx fs) ∧ sp [.ref a] H (fun v H2 => ∃ z, v = .str z ∧ Q (.str z) H2) E
theorem room_in1 {A : Around} {n : Nat} (h : Room (n + 1) A) : Room n A.in1 := h.in1
theorem call_at1 (F : FG X.prog X.w X.K X.mg X.base CX n g fd ps sp) (gg : X.A.guards = some []) (hr : Room (n + 1) X.A) (hb : Binds X.K fd ps []) (hx : Passes CX X E) {pins : List (Addr × Obj)} {σ : L2.St} {H : Hp} {s : Shared} {Q : VK} {a : Addr}
    (I : Inv X pins σ H s) (q : sp [.ref a] H Q E) : codeAny (model X.prog X.w) X.A.in1 (.call (.ref g) ⟨[.ref a], []⟩) (Bk X pins σ Q) s :=
  codeAny_mono (F.run X.A.in1 X.stack s H ⟨[.ref a], []⟩ _ [.ref a] _ E gg hr.in1 I.env0.in1 (hb s [.ref a] I.kIn (F.len _ _ _ _ q)) (.cons rfl .nil) q) fun r s2 z => bk_of hx I z
theorem call_at2 (F : FG X.prog X.w X.K X.mg X.base CX n g fd ps sp) (gg : X.A.guards = some []) (hr : Room (n + 2) X.A) (hb : Binds X.K fd ps []) (hx : Passes CX X E) {pins : List (Addr × Obj)} {σ : L2.St} {H : Hp} {s : Shared} {Q : VK} {a : Addr}
    (I : Inv X pins σ H s) (q : sp [.ref a] H Q E) : codeAny (model X.prog X.w) X.A.in1.in1 (.call (.ref g) ⟨[.ref a], []⟩) (Bk X pins σ Q) s :=
  codeAny_mono (F.run X.A.in1.in1 X.stack s H ⟨[.ref a], []⟩ _ [.ref a] _ E gg hr.in1.in1 I.env0.in1.in1 (hb s [.ref a] I.kIn (F.len _ _ _ _ q)) (.cons rfl .nil) q) fun r s2 z => bk_of hx I z
theorem strback {pins : List (Addr × Obj)} {σ : L2.St} {Q : VK} {w : Value} {s2 : Shared} (z : EP X pins σ (fun v H2 => ∃ y, v = .str y ∧ Q (.str y) H2) w s2) : PySem.W.StrBack (EP X pins σ Q) w s2 := by
  obtain ⟨z1, H2, I2, rz, c, rfl, qz⟩ := z
  obtain ⟨t, rfl⟩ := (show ∃ t, w = Value.str c t from rz)
  exact ⟨.str c, H2, I2, ⟨t, rfl⟩, qz⟩
theorem cg_str (k : PySem.W.findIn X.K (.ref C) "__str__" = some (some (.ref g))) (kf : PySem.W.isFn X.K (.ref g) = true) (F : FG X.prog X.w X.K X.mg X.base CX n g fd ps sp)
    (gg : X.A.guards = some []) (hr : Room (n + 2) X.A) (hb : Binds X.K fd ps []) (hx : Passes CX X E) : CallR X (.type "str") (rTell C sp E) := by
  rintro pins s σ H xs us Q I r ⟨a, dx, fs, rfl, ha, q⟩
  obtain ⟨u, rfl, ru⟩ := r.one
  cases (show u = Value.ref a from ru)
  obtain ⟨mA, O, _⟩ := ins_get I.hok ha
  obtain ⟨od, J, _⟩ := O.look
  refine PySem.W.kso_call (by have := hr.un; show X.A.units + 1 + 1 < _; omega) I.kIn J k kf ?_
  exact wpAny_mono (wpAny_call (call_at2 F gg hr hb hx I q)) (fun w s2 z => strback z) fun _ _ x => x
theorem cg_repr (k : PySem.W.findIn X.K (.ref C) "__repr__" = some (some (.ref g))) (kf : PySem.W.isFn X.K (.ref g) = true) (F : FG X.prog X.w X.K X.mg X.base CX n g fd ps sp)
    (gg : X.A.guards = some []) (hr : Room (n + 1) X.A) (hb : Binds X.K fd ps []) (hx : Passes CX X E) : CallR X (.builtin "repr") (rTell C sp E) := by
  rintro pins s σ H xs us Q I r ⟨a, dx, fs, rfl, ha, q⟩
  obtain ⟨u, rfl, ru⟩ := r.one
  cases (show u = Value.ref a from ru)
  obtain ⟨mA, O, _⟩ := ins_get I.hok ha
  obtain ⟨od, J, _⟩ := O.look
  obtain ⟨m, hF⟩ := I.fr
  refine PySem.W.repr_K (by have := hr.un; show X.A.units + 1 < _; omega) hF I.ok.mod.kin J k kf ?_
  exact wpAny_mono (wpAny_call (call_at1 F gg hr hb hx I q)) (fun w s2 z => strback z) fun _ _ x => x
/-- repr of a list or tuple of data -/
def rReprD (K : PySem.W.Frag) : List V → Hp → VK → Prop := fun xs H Q => ∃ a d, xs = [.ref a] ∧ Dp K H (.ref a) d ∧ d.showable = true ∧ d.hasDict = false ∧ d.depth ≤ 60 ∧ d.shown.length ≤ sizeLine ∧ Q (.str d.shown) H
theorem cg_reprD (gg : X.A.guards = some []) (hr : Room n X.A) : CallR X (.builtin "repr") (rReprD X.K) := by
  rintro pins s σ H xs us Q I r ⟨a, d, rfl, hd, h1, h2, h3, h4, q⟩
  obtain ⟨u, rfl, ru⟩ := r.one
  cases (show u = Value.ref a from ru)
  obtain ⟨as, rd⟩ := Dp.reads I d _ _ hd rfl
  refine repr_of_reads' rd h1 (PyData.noDict_hsm h2) gg (by have := hr.un; omega) (fun _ _ e => e) (fun h' u tk hk => ?_) h4
  exact ⟨.str d.shown, H, I.kept (t' := tk) hk, ⟨u, rfl⟩, q⟩
end
end Own

set_option Elab.async false
set_option linter.all false
set_option maxRecDepth 100000
set_option maxHeartbeats 2000000
namespace Own
open PySem PySem.Spec PyProof.Rows L2

section
variable {P : Program} {w : World} {K : PySem.W.Frag} {mg mb : Str → Option Value} {CX : CXT} {k : Nat} {fa a : Addr} {fd : FuncData} {x : Str} {sp : Sp} {s : Shared} {vs : List Value} {ns : List Int}
/-- the object of the script -/
abbrev scr (vs : List Value) : Obj := { cls := .type "list", data := .seq vs.toArray }
/-- from an abstract heap that tracks at most the script -/
theorem core_g {H : Hp} (KX : K.In s.heap) (g1 : s.heap.Ns mainGlobals mg) (b1 : s.heap.Ns builtinsNs mb) (b2 : ∀ x : Str, x ≠ "__name__" → mb x = bootBuiltins x)
    (lim : s.heap.NoLimit) (gn : s.gens = #[]) (ha : s.heap.get? a = some (scr vs)) (hr : Room k callerA)
    (F : ∀ base : Heap, K.In base → base.Ns mainGlobals mg → FG P w K mg base CX k fa fd [x] sp)
    (bd : ∀ (s : Shared) (u : Value), BindsTo s fd ⟨[u], []⟩ [(x, u)])
    (prom : sp [.ref a] H (fun v _ => v = .bl true) fun _ _ _ => False)
    (noX : ∀ e s2, CX [] H s (fun _ _ _ => False) e s2 → False)
    (hok : HOk P w H s.heap) (only : ∀ b, H b ≠ none → b = a ∧ K.lookup a = none ∧ ∃ xs, H b = some (.frz (scr vs) (.lst xs))) :
    codeAny (model P w) callerA (.call (.ref fa) ⟨[.ref a], []⟩)
      (fun r s2 => r = .ok (.ret (.bool true)) ∧ OldK s.heap s2.heap ∧ s2.os = s.os ∧ AllBare s2.gens) s := by
  have keptK : ∀ b o, K.lookup b = some o → H b = none := by
    intro b o e
    cases q : H b with
    | none => rfl
    | some u =>
      obtain ⟨rfl, z, _⟩ := only b (by rw [q]; simp)
      rw [z] at e
      cases e
  have free : ∀ {b : Addr} {o : Obj}, s.heap.get? b = some o → (∃ es ep, o.data = .dict es ep) → H b = none := by
    rintro b o e ⟨es, ep, d⟩
    cases q : H b with
    | none => rfl
    | some u =>
      obtain ⟨rfl, _⟩ := only b (by rw [q]; simp)
      rw [ha] at e
      cases e
      have d2 : Data.seq vs.toArray _ = Data.dict es ep := d
      cases d2
  have ns2 : ∀ {b : Addr} {m : Str → Option Value}, s.heap.Ns b m → (hidT s.heap H).Ns b m := by
    rintro b m ⟨o, es, ep, e, d, r⟩
    exact ⟨o, es, ep, hidT_get e (free e ⟨es, ep, d⟩), d, r⟩
  have inB : K.In (hidT s.heap H) := fun b o e => hidT_get (KX b o e) (keptK b o e)
  have md : Mod K mg (hidT s.heap H) := by
    obtain ⟨mc, z1, z2⟩ := lim
    exact ⟨inB, ns2 g1, ⟨mb, ns2 b1, b2⟩, ⟨mc, ns2 z1, z2⟩⟩
  have e0 : Env0 P w K mg (hidT s.heap H) callerA [] s H :=
    ⟨rfl, md, fun b o e => of_hidT e, Nat.le_of_eq (hidT_size _ _), trivial, fun b hb => absurd (show b ∈ ([] : List Addr) from hb) (by simp), hok, .of_eq gn⟩
  have run := (F _ inB (ns2 g1)).run callerA [] s H ⟨[.ref a], []⟩ [.ref a] [.ref a] _ _ rfl hr e0 (bd s (.ref a)) (.cons rfl .nil) prom
  refine codeAny_mono run ?_
  intro r s2 z
  cases r with
  | error e => exact (noX e s2 z).elim
  | ok fl =>
    cases fl with
    | next => exact z.elim
    | brk => exact z.elim
    | cont => exact z.elim
    | ret u =>
      obtain ⟨v, H2, os, bare, un, hok2, r2, q⟩ := z
      have q2 : v = .bl true := q
      subst q2
      cases (show u = Value.bool true from r2)
      refine ⟨rfl, OldK.of_keep fun b o e => ?_, os, bare⟩
      cases hb : H b with
      | none => exact un.keep b o e hb (by intro z; exact absurd (show b ∈ ([] : List Addr) from z) (by simp)) (by simp)
      | some t =>
        obtain ⟨_, _, xs, z⟩ := only b (by rw [hb]; simp)
        have z3 := un.frzs b _ _ z
        obtain ⟨e1, _⟩ := hok b _ z
        obtain ⟨e2, _⟩ := hok2 b _ z3
        rw [e] at e1
        cases e1
        exact e2
theorem law_g (KX : K.In s.heap) (g1 : s.heap.Ns mainGlobals mg) (b1 : s.heap.Ns builtinsNs mb) (b2 : ∀ x : Str, x ≠ "__name__" → mb x = bootBuiltins x)
    (lim : s.heap.NoLimit) (gn : s.gens = #[]) (ha : s.heap.get? a = some (scr vs)) (hi : IntsAre vs ns) (hl : ns.length ≤ sizeLine) (hr : Room k callerA)
    (F : ∀ base : Heap, K.In base → base.Ns mainGlobals mg → FG P w K mg base CX k fa fd [x] sp)
    (bd : ∀ (s : Shared) (u : Value), BindsTo s fd ⟨[u], []⟩ [(x, u)])
    (prom : ∀ H : Hp, SqL K H a (ns.map V.int) → sp [.ref a] H (fun v _ => v = .bl true) fun _ _ _ => False)
    (noX : ∀ H e s2, CX [] H s (fun _ _ _ => False) e s2 → False) :
    codeAny (model P w) callerA (.call (.ref fa) ⟨[.ref a], []⟩)
      (fun r s2 => r = .ok (.ret (.bool true)) ∧ OldK s.heap s2.heap ∧ s2.os = s.os ∧ AllBare s2.gens) s := by
  have rv := vals_ints hi
  have lenV := hi.length
  cases hk : K.lookup a with
  | some o =>
    have e := KX a o hk
    rw [ha] at e
    cases e
    refine core_g (H := fun _ => none) KX g1 b1 b2 lim gn ha hr F bd (prom _ (.inr ⟨_, vs.toArray, _, hk, rfl, rfl, rfl, ?_, by simpa using rv⟩)) (noX _) ?_ ?_
    · rw [List.size_toArray, lenV]
      exact hl
    · intro b u z
      have z2 : (none : Option HO) = some u := z
      cases z2
    · intro b z
      exact absurd rfl z
  | none =>
    have at_ : (fun b => if b = a then some (HO.frz (scr vs) (.lst (ns.map V.int))) else none : Hp) a = some (.frz (scr vs) (.lst (ns.map V.int))) := if_pos rfl
    refine core_g (H := fun b => if b = a then some (.frz (scr vs) (.lst (ns.map V.int))) else none) KX g1 b1 b2 lim gn ha hr F bd (prom _ (.inl (.inr ⟨_, at_⟩))) (noX _) ?_ ?_
    · intro b u z
      by_cases hb : b = a
      · have z2 := (if_pos hb).symm.trans z
        cases z2
        subst hb
        exact ⟨ha, by rw [List.length_map]; exact hl, vs, _, rv, ha⟩
      · have z2 := (if_neg hb).symm.trans z
        cases z2
    · intro b z
      by_cases hb : b = a
      · exact ⟨hb, hk, _, if_pos hb⟩
      · exact absurd (if_neg hb) z
end
/-- the end of a law's row -/
theorem end_g {l : PySem.W.OpenLaw} {n k : Nat} {q : Program} {loose : List Str} {XP : (Str → Option Value) → Heap → Prop} {YP : World → Heap → Prop} {d : DefRec} {CX : CXT} {x : Str}
    (hn : l.most = some n) (hn2 : n ≤ sizeLine) (hdf : d.params.defaults = []) (hr : Room k callerA)
    (F : ∀ (w : World) (mg : Str → Option Value) (fa : Addr) (h : Heap), YP w h → h.Ns mainGlobals mg → mg d.name = some (.ref fa) →
      ∃ (K : PySem.W.Frag) (fd : FuncData) (sp : Sp), K.In h ∧ (∀ (s : Shared) (u : Value), BindsTo s fd ⟨[u], []⟩ [(x, u)]) ∧
        (∀ (H : Hp) (a : Addr) (ns : List Int), ns.length ≤ n → SqL K H a (ns.map V.int) → sp [.ref a] H (fun v _ => v = .bl true) fun _ _ _ => False) ∧
        ∀ base : Heap, K.In base → base.Ns mainGlobals mg → FG l.prog w K mg base CX k fa fd [x] sp)
    (noX : ∀ (H : Hp) (s : Shared) (e : Value) (s2 : Shared), CX [] H s (fun _ _ _ => False) e s2 → False) :
    PySem.W.WalkO q loose XP YP l.row.toRowW d [] (fun f vs => PySem.call f vs) := by
  refine Att.attach_call hn hdf ?_
  intro w s₀ s₁ mg mb fa o pm cd doc a vs ns G Y ho hd hcd hmg hobj hints hlen hg
  obtain ⟨K, fd, sp, KX, hb, hsp, hF⟩ := F w mg fa _ Y G.T.g hmg
  exact law_g KX G.T.g G.T.b G.T.builtins G.T.nolimit hg hobj hints (Nat.le_trans hlen hn2) hr hF hb (fun H hS => hsp H a ns hlen hS) fun H e s2 => noX H s₁ e s2
end Own

set_option Elab.async false
set_option linter.all false
set_option maxRecDepth 100000
set_option maxHeartbeats 2000000
namespace Own
open PySem PySem.Spec PyProof.Rows L2
open PySem.W (Frag)

/-! ### defs by where they stand -/
def fdOf (K : Frag) (f : Addr) : FuncData := match K.lookup f with
  | some ⟨_, _, .func fd, _⟩ => fd
  | _ => PySem.W.fnOf "" "" { posonlyargs := [], args := [], vararg := none, kwonlyargs := [], kw_defaults := [], kwarg := none, defaults := [] } [] { kind := .function, names := [], isGenerator := false, isCoroutine := false } .none .none .none .none none .none .none
structure DX where
  adr : Frag → Addr
  name : Str
  qual : Str
  st : Stmt
  dvs : List V := []
abbrev See : Type := Option (Str × Str × Arguments × FuncBody × Scope × Addr × List (Str × Addr) × Addr)
def seeFn (fd : FuncData) : See := some (fd.name, fd.qualname, fd.params, fd.body, fd.scope, fd.globals, fd.closure, fd.builtins)
def DX.see (K : Frag) (d : DX) : See := match K.lookup (d.adr K) with
  | some ⟨_, _, .func fd, _⟩ => seeFn fd
  | _ => none
def DX.want (d : DX) : See := some (d.name, d.qual, defArgs d.st, .stmts (defBody d.st), defScope d.st, mainGlobals, [], builtinsNs)
def DX.good (K : Frag) (d : DX) : Bool := PySem.W.keepIn K (.ref (d.adr K)) && (match K.lookup (d.adr K) with
  | some ⟨_, _, .func fd, _⟩ => PySem.W.codeIn K fd.code d.qual && He.dflB K fd.defaults d.dvs
  | _ => false)
abbrev FX (K : Frag) (name qual : Str) (st : Stmt) (dvs : List V) (f : Addr) : Prop := FunD K name qual (defArgs st) (defBody st) (defScope st) dvs [] f (fdOf K f)
theorem DX.fun {K : Frag} {d : DX} (e : d.see K = d.want) (c : d.good K = true) : FX K d.name d.qual d.st d.dvs (d.adr K) := by
  obtain ⟨kp, c⟩ := Bool.and_eq_true_iff.mp c
  unfold DX.see at e
  cases q : K.lookup (d.adr K) with
  | none => rw [q] at c; cases c
  | some o =>
    obtain ⟨oc, od, dt, osl⟩ := o
    rw [q] at c e
    cases dt with
    | func fd =>
      have hfd : fdOf K (d.adr K) = fd := by unfold fdOf; rw [q]
      obtain ⟨c1, c2⟩ := Bool.and_eq_true_iff.mp (show (PySem.W.codeIn K fd.code d.qual && He.dflB K fd.defaults d.dvs) = true from c)
      have e2 : seeFn fd = some (d.name, d.qual, defArgs d.st, .stmts (defBody d.st), defScope d.st, mainGlobals, [], builtinsNs) := e
      unfold FX
      rw [hfd]
      obtain ⟨n1, n2, n3, n4, n5, n6, n7, n8, n9, n10, n11, n12, n13, n14, n15⟩ := fd
      unfold seeFn at e2
      simp only [Option.some.injEq, Prod.mk.injEq] at e2
      obtain ⟨h1, h2, h3, h4, h5, h6, h7, h8⟩ := e2
      subst h1 h2 h3 h4 h5 h6 h7 h8
      exact ⟨⟨oc, od, n8, n9, n10, n11, n12, n13, n14, osl, rfl, q, c1, He.dflB_ok c2, .inl rfl⟩, kp⟩
    | _ => cases c

/-! ### the hook: any facts that a Bool tells of the written part -/
abbrev AlX : Type := Bool × List See
def obsX (fs : List (Frag → Bool)) (ds : List DX) (K : Frag) : AlX := ((fs.all fun f => f K) && ds.all fun d => d.good K, ds.map fun d => d.see K)
def valX (ds : List DX) : AlX := (true, ds.map DX.want)
def SaysX (fs : List (Frag → Bool)) (ds : List DX) (K : Frag) : Prop := obsX fs ds K = valX ds
/-- what the module's names, and the C statics, reach in n steps -/
def asX (g : Addr → Option Obj) : Nat → List Addr
  | 0 => [mainGlobals, cStatics]
  | n + 1 => He.growD g (asX g n)
def obsXG (n : Nat) (fs : List (Frag → Bool)) (ds : List DX) (g : Addr → Option Obj) : AlX := obsX fs ds (He.frG g (asX g n))
def hookX (n : Nat) (fs : List (Frag → Bool)) (ds : List DX) : PySem.W.Hook where
  α := AlX
  obs := fun s => obsXG n fs ds s.heap.get?
  val := fun _ => valX ds
  says := fun _ h => ∃ K : Frag, K.In h ∧ SaysX fs ds K
  of := fun _ _ e => ⟨_, He.frG_in, e⟩
  keeps := fun _ _ _ ⟨K, hK, c⟩ k => ⟨K, PySem.W.Frag.In.keeps hK k, c⟩
theorem obsXG_eq {n : Nat} {fs : List (Frag → Bool)} {ds : List DX} {g : Addr → Option Obj} {s : Shared} (h : ∀ a, g a = s.heap.get? a) : obsXG n fs ds g = (hookX n fs ds).obs s := by
  have e : g = s.heap.get? := funext h
  subst e
  rfl
section
variable {fs : List (Frag → Bool)} {ds : List DX} {K : Frag}
theorem SaysX.at_ (c : SaysX fs ds K) (i : Nat) {f : Frag → Bool} (h : fs[i]? = some f := by rfl) : f K = true := by
  have c0 : ((fs.all fun f => f K) && ds.all fun d => d.good K) = true := congrArg Prod.fst c
  exact List.all_eq_true.mp (Bool.and_eq_true_iff.mp c0).1 f (List.mem_of_getElem? h)
theorem SaysX.fn (c : SaysX fs ds K) (i : Nat) {d : DX} (h : ds[i]? = some d := by rfl) : FX K d.name d.qual d.st d.dvs (d.adr K) := by
  have c0 : ((fs.all fun f => f K) && ds.all fun d => d.good K) = true := congrArg Prod.fst c
  have c1 : (ds.map fun d => d.see K) = ds.map DX.want := congrArg Prod.snd c
  have c2 : (ds.map fun d => d.see K)[i]? = (ds.map DX.want)[i]? := by rw [c1]
  rw [List.getElem?_map, List.getElem?_map, h] at c2
  exact DX.fun (Option.some.inj c2) (List.all_eq_true.mp (Bool.and_eq_true_iff.mp c0).2 d (List.mem_of_getElem? h))
end

/-! ### facts of a class by names -/
abbrev ga := He.ga
abbrev ma := He.ma
/-- the getter of the property f, the def of the classmethod m -/
def gt (K : Frag) (x f : Str) : Addr := match PySem.W.recIn K (ma K (ga K x) f) "property" with
  | some (.ref g :: _) => g
  | _ => 0
def cmP (K : Frag) (x m : Str) : Addr := match PySem.W.findCls K (.ref (ga K x)) (.type "type") m with
  | some (.get _ (.ref p) _ _) => p
  | _ => 0
def cmG (K : Frag) (x m : Str) : Addr := match PySem.W.recIn K (cmP K x m) "classmethod" with
  | some (.ref g :: _) => g
  | _ => 0
def bProp (x f : Str) (K : Frag) : Bool := He.eqO (PySem.W.findIn K (.ref (ga K x)) f) (some (some (.ref (ma K (ga K x) f)))) &&
  (He.eqO (PySem.W.specialIn K (.ref (ma K (ga K x) f)) "__get__") (some (some (.builtin "property.__get__"))) && (decide (PySem.W.takesIn K (.ref (ma K (ga K x) f)) = some true) &&
  (match PySem.W.recIn K (ma K (ga K x) f) "property" with | some (.ref g :: _) => decide (g = gt K x f) | _ => false)))
theorem bProp_ok {K : Frag} {x f : Str} (c : bProp x f K = true) : PropOf K (ga K x) f (ma K (ga K x) f) (gt K x f) := by
  obtain ⟨c1, c⟩ := Bool.and_eq_true_iff.mp c
  obtain ⟨c2, c⟩ := Bool.and_eq_true_iff.mp c
  obtain ⟨c3, c4⟩ := Bool.and_eq_true_iff.mp c
  refine ⟨He.eqO_ok c1, He.eqO_ok c2, of_decide_eq_true c3, ?_⟩
  split at c4
  · rename_i g r e
    have h := of_decide_eq_true c4
    subst h
    exact ⟨r, e⟩
  · cases c4
def bNum (x : Str) (nm : String) (K : Frag) : Bool := PySem.W.selfFirst K (ga K x) && (He.eqO (PySem.W.findIn K (.ref (ga K x)) (PySem.dunder nm)) (some (some (.ref (ma K (ga K x) (PySem.dunder nm))))) && PySem.W.isFn K (.ref (ma K (ga K x) (PySem.dunder nm))))
theorem bNum_ok {K : Frag} {x : Str} {nm : String} (c : bNum x nm K = true) : Num K (ga K x) nm (ma K (ga K x) (PySem.dunder nm)) := by
  obtain ⟨c1, c⟩ := Bool.and_eq_true_iff.mp c
  obtain ⟨c2, c3⟩ := Bool.and_eq_true_iff.mp c
  exact ⟨c1, He.eqO_ok c2, c3⟩
def bNumI (x : Str) (nm : String) (K : Frag) : Bool := bNum x nm K && (He.eqO (PySem.W.findIn K (.ref (ga K x)) (dunderR nm)) (some (some (.ref (ma K (ga K x) (dunderR nm))))) && (PySem.W.isFn K (.ref (ma K (ga K x) (dunderR nm))) &&
  (decide (PySem.W.subIn K (.ref (ga K x)) (.type "int") = some false) && (decide (PySem.W.subIn K (.type "int") (.ref (ga K x)) = some false) && ((PySem.W.findIn K (.type "int") (PySem.dunder nm)).isSome && (PySem.W.findIn K (.type "int") (dunderR nm)).isSome)))))
theorem bNumI_ok {K : Frag} {x : Str} {nm : String} (c : bNumI x nm K = true) : Num K (ga K x) nm (ma K (ga K x) (PySem.dunder nm)) ∧
    NumI K (ga K x) nm (ma K (ga K x) (PySem.dunder nm)) (ma K (ga K x) (dunderR nm)) ∧ NumR K (ga K x) nm (some (.ref (ma K (ga K x) (dunderR nm)))) ∧ NumT K (ga K x) "int" nm := by
  obtain ⟨c0, c⟩ := Bool.and_eq_true_iff.mp c
  obtain ⟨c1, c⟩ := Bool.and_eq_true_iff.mp c
  obtain ⟨c2, c⟩ := Bool.and_eq_true_iff.mp c
  obtain ⟨c3, c⟩ := Bool.and_eq_true_iff.mp c
  obtain ⟨c4, c⟩ := Bool.and_eq_true_iff.mp c
  obtain ⟨c5, c6⟩ := Bool.and_eq_true_iff.mp c
  have n0 := bNum_ok c0
  exact ⟨n0, ⟨n0.sf, n0.fnd, He.eqO_ok c1, c2, of_decide_eq_true c3⟩, ⟨He.eqO_ok c1, .inr ⟨_, rfl⟩⟩, ⟨Option.isSome_iff_exists.mp c5, Option.isSome_iff_exists.mp c6, of_decide_eq_true c4⟩⟩
/-- a special method of one's own that is found: __neg__, __str__, __repr__ -/
def bSpec (x m : Str) (K : Frag) : Bool := He.eqO (PySem.W.findIn K (.ref (ga K x)) m) (some (some (.ref (ma K (ga K x) m)))) && PySem.W.isFn K (.ref (ma K (ga K x) m))
theorem bSpec_ok {K : Frag} {x m : Str} (c : bSpec x m K = true) : PySem.W.findIn K (.ref (ga K x)) m = some (some (.ref (ma K (ga K x) m))) ∧ PySem.W.isFn K (.ref (ma K (ga K x) m)) = true := by
  obtain ⟨c1, c2⟩ := Bool.and_eq_true_iff.mp c
  exact ⟨He.eqO_ok c1, c2⟩
def bEq (x : Str) (K : Frag) : Bool := PySem.W.notFirst K (ga K x) (.ref (ga K x)) && (PySem.W.notFirst K (ga K x) (.type "int") && (bSpec x "__eq__" K &&
  (He.eqO (PySem.W.findIn K (.ref (ga K x)) "__ne__") (some (some (.builtin "object.__ne__"))) && (decide (PySem.W.mroIn K (ga K x) (.type "object") = some true) && decide (PySem.W.subIn K (.ref (ga K x)) (.type "int") = some false)))))
theorem bEq_ok {K : Frag} {x : Str} (c : bEq x K = true) : EqC K (ga K x) (ma K (ga K x) "__eq__") := by
  obtain ⟨c0, c⟩ := Bool.and_eq_true_iff.mp c
  obtain ⟨c1, c⟩ := Bool.and_eq_true_iff.mp c
  obtain ⟨c2, c⟩ := Bool.and_eq_true_iff.mp c
  obtain ⟨c3, c⟩ := Bool.and_eq_true_iff.mp c
  obtain ⟨c4, c5⟩ := Bool.and_eq_true_iff.mp c
  exact ⟨c0, c1, (bSpec_ok c2).1, (bSpec_ok c2).2, He.eqO_ok c3, of_decide_eq_true c4, of_decide_eq_true c5⟩
/-- what isinstance asks of an instance of the class -/
structure IsC (K : Frag) (C : Addr) : Prop where
  ha : PySem.W.findIn K (.ref C) "__class__" = some (some (.builtin "object.__class__"))
  hn : PySem.W.specialIn K (.builtin "object.__class__") "__get__" = some (some (.builtin "getset_descriptor.__get__"))
  htk : PySem.W.takesIn K (.builtin "object.__class__") = some true
  hm : PySem.W.mroIn K C (.type "object") = some true
def bIs (x : Str) (K : Frag) : Bool := He.eqO (PySem.W.findIn K (.ref (ga K x)) "__class__") (some (some (.builtin "object.__class__"))) && (He.eqO (PySem.W.specialIn K (.builtin "object.__class__") "__get__") (some (some (.builtin "getset_descriptor.__get__"))) &&
  (decide (PySem.W.takesIn K (.builtin "object.__class__") = some true) && decide (PySem.W.mroIn K (ga K x) (.type "object") = some true)))
theorem bIs_ok {K : Frag} {x : Str} (c : bIs x K = true) : IsC K (ga K x) := by
  obtain ⟨c0, c⟩ := Bool.and_eq_true_iff.mp c
  obtain ⟨c1, c⟩ := Bool.and_eq_true_iff.mp c
  obtain ⟨c2, c3⟩ := Bool.and_eq_true_iff.mp c
  exact ⟨He.eqO_ok c0, He.eqO_ok c1, of_decide_eq_true c2, of_decide_eq_true c3⟩
theorem IsC.ty {K : Frag} {C a dx : Addr} {H : Hp} {fs : List (Str × V)} (k : IsC K C) (c : Cls K C) (e : H a = some (.ins C dx fs)) : TyX K H (.ref a) (.ref C) := .base (.ins e c k.ha k.hn k.htk k.hm)
/-- isinstance of a value of the type t by the class x: b; of an instance of x by the built-in type t: b -/
def bKitO (t : String) (x : Str) (b : Bool) (K : Frag) : Bool := decide (PySem.W.kitOne K (.type t) (.ref (ga K x)) = some b)
theorem bKitO_ok {K : Frag} {t : String} {x : Str} {b : Bool} (c : bKitO t x b K = true) : PySem.W.kitOne K (.type t) (.ref (ga K x)) = some b := of_decide_eq_true c
def bKitT (x : Str) (t : String) (b : Bool) (K : Frag) : Bool := decide (PySem.W.kitOne K (.ref (ga K x)) (.type t) = some b)
theorem bKitT_ok {K : Frag} {t : String} {x : Str} {b : Bool} (c : bKitT x t b K = true) : PySem.W.kitOne K (.ref (ga K x)) (.type t) = some b := of_decide_eq_true c
def bKitC (x y : Str) (b : Bool) (K : Frag) : Bool := decide (PySem.W.kitOne K (.ref (ga K x)) (.ref (ga K y)) = some b)
theorem bKitC_ok {K : Frag} {x y : Str} {b : Bool} (c : bKitC x y b K = true) : PySem.W.kitOne K (.ref (ga K x)) (.ref (ga K y)) = some b := of_decide_eq_true c
/-- the class method m of x -/
def bCm (x m : Str) (K : Frag) : Bool := PySem.W.readsIn K (ga K x) (.type "type") && (He.eqO (PySem.W.specialIn K (.ref (ga K x)) "__getattribute__") (some (some (.builtin "type.__getattribute__"))) && ((match PySem.W.findCls K (.ref (ga K x)) (.type "type") m with
  | some (.get (.builtin b) (.ref p) .none (.ref c)) => decide (b = "classmethod.__get__") && (decide (p = cmP K x m) && decide (c = ga K x))
  | _ => false) && ((match PySem.W.recIn K (cmP K x m) "classmethod" with | some (.ref g :: _) => decide (g = cmG K x m) | _ => false) && PySem.W.fnIn K (cmG K x m))))
theorem bCm_ok {K : Frag} {x m : Str} (c : bCm x m K = true) : ClX.CRead K (ga K x) (.type "type") ∧ ClX.CMet K (ga K x) (.type "type") m (cmP K x m) (cmG K x m) := by
  obtain ⟨c0, c⟩ := Bool.and_eq_true_iff.mp c
  obtain ⟨c1, c⟩ := Bool.and_eq_true_iff.mp c
  obtain ⟨c2, c⟩ := Bool.and_eq_true_iff.mp c
  obtain ⟨c3, c4⟩ := Bool.and_eq_true_iff.mp c
  refine ⟨⟨c0, He.eqO_ok c1⟩, ?_, ?_, c4⟩
  · split at c2
    · rename_i b p cc e
      obtain ⟨d1, d⟩ := Bool.and_eq_true_iff.mp c2
      obtain ⟨d2, d3⟩ := Bool.and_eq_true_iff.mp d
      rw [e, of_decide_eq_true d1, of_decide_eq_true d2, of_decide_eq_true d3]
    · cases c2
  · split at c3
    · rename_i g r e
      rw [← of_decide_eq_true c3]
      exact ⟨r, e⟩
    · cases c3
/-- a module's name that stands for a built-in function -/
def bBlt (x : Str) (id : String) (K : Frag) : Bool := (match PySem.W.nsIn K mainGlobals x with | some (some (.builtin i)) => decide (i = id) | _ => false)
theorem bBlt_ok {K : Frag} {h : Heap} {mg : Str → Option Value} (X : K.In h) (G : h.Ns mainGlobals mg) {x : Str} {id : String} (c : bBlt x id K = true) : mg x = some (.builtin id) := by
  unfold bBlt at c
  split at c
  · rename_i i e
    rw [of_decide_eq_true c] at e
    exact PySem.W.mg_of X G e
  · cases c
end Own

set_option Elab.async false
set_option linter.all false
set_option maxRecDepth 100000
set_option maxHeartbeats 4000000
namespace K12
open PySem PySem.Spec PyProof.Rows L2 Own
def top (i : Nat) : Stmt := PySem.Challenge.pw_producttables_k12_whole_steps_of_grids.main.body.getD i (.Pass ⟨0, 0, 0, 0⟩)
abbrev s_wall : Stmt := top 1
theorem sc_wall : FnScope ["k"] ["k"] (defScope s_wall) := ⟨rfl, rfl, rfl, by decide +kernel, rfl, by decide +kernel, by decide +kernel⟩
abbrev s_is_integer : Stmt := top 3
theorem sc_is_integer : FnScope ["value"] ["value"] (defScope s_is_integer) := ⟨rfl, rfl, rfl, by decide +kernel, rfl, by decide +kernel, by decide +kernel⟩
abbrev s_is_list : Stmt := top 4
theorem sc_is_list : FnScope ["value"] ["value"] (defScope s_is_list) := ⟨rfl, rfl, rfl, by decide +kernel, rfl, by decide +kernel, by decide +kernel⟩
abbrev s_Ratio_init : Stmt := inClass (top 10) 0
theorem sc_Ratio_init : FnScope ["self", "top", "bottom", "value", "shared"] ["self", "top", "bottom"] (defScope s_Ratio_init) := ⟨rfl, rfl, rfl, by decide +kernel, rfl, by decide +kernel, by decide +kernel⟩
abbrev s_Ratio_top : Stmt := inClass (top 10) 1
theorem sc_Ratio_top : FnScope ["self"] ["self"] (defScope s_Ratio_top) := ⟨rfl, rfl, rfl, by decide +kernel, rfl, by decide +kernel, by decide +kernel⟩
abbrev s_Ratio_bottom : Stmt := inClass (top 10) 2
theorem sc_Ratio_bottom : FnScope ["self"] ["self"] (defScope s_Ratio_bottom) := ⟨rfl, rfl, rfl, by decide +kernel, rfl, by decide +kernel, by decide +kernel⟩
abbrev s_Ratio_sign : Stmt := inClass (top 10) 3
theorem sc_Ratio_sign : FnScope ["self"] ["self"] (defScope s_Ratio_sign) := ⟨rfl, rfl, rfl, by decide +kernel, rfl, by decide +kernel, by decide +kernel⟩
abbrev s_Ratio_is_whole : Stmt := inClass (top 10) 4
theorem sc_Ratio_is_whole : FnScope ["self"] ["self"] (defScope s_Ratio_is_whole) := ⟨rfl, rfl, rfl, by decide +kernel, rfl, by decide +kernel, by decide +kernel⟩
abbrev s_Ratio_add : Stmt := inClass (top 10) 5
theorem sc_Ratio_add : FnScope ["self", "other", "right", "top"] ["self", "other"] (defScope s_Ratio_add) := ⟨rfl, rfl, rfl, by decide +kernel, rfl, by decide +kernel, by decide +kernel⟩
abbrev s_Ratio_radd : Stmt := inClass (top 10) 6
theorem sc_Ratio_radd : FnScope ["self", "other"] ["self", "other"] (defScope s_Ratio_radd) := ⟨rfl, rfl, rfl, by decide +kernel, rfl, by decide +kernel, by decide +kernel⟩
abbrev s_Ratio_sub : Stmt := inClass (top 10) 7
theorem sc_Ratio_sub : FnScope ["self", "other", "right", "top"] ["self", "other"] (defScope s_Ratio_sub) := ⟨rfl, rfl, rfl, by decide +kernel, rfl, by decide +kernel, by decide +kernel⟩
abbrev s_Ratio_rsub : Stmt := inClass (top 10) 8
theorem sc_Ratio_rsub : FnScope ["self", "other"] ["self", "other"] (defScope s_Ratio_rsub) := ⟨rfl, rfl, rfl, by decide +kernel, rfl, by decide +kernel, by decide +kernel⟩
abbrev s_Ratio_mul : Stmt := inClass (top 10) 9
theorem sc_Ratio_mul : FnScope ["self", "other", "right"] ["self", "other"] (defScope s_Ratio_mul) := ⟨rfl, rfl, rfl, by decide +kernel, rfl, by decide +kernel, by decide +kernel⟩
abbrev s_Ratio_rmul : Stmt := inClass (top 10) 10
theorem sc_Ratio_rmul : FnScope ["self", "other"] ["self", "other"] (defScope s_Ratio_rmul) := ⟨rfl, rfl, rfl, by decide +kernel, rfl, by decide +kernel, by decide +kernel⟩
abbrev s_Ratio_neg : Stmt := inClass (top 10) 11
theorem sc_Ratio_neg : FnScope ["self"] ["self"] (defScope s_Ratio_neg) := ⟨rfl, rfl, rfl, by decide +kernel, rfl, by decide +kernel, by decide +kernel⟩
abbrev s_Ratio_over : Stmt := inClass (top 10) 12
theorem sc_Ratio_over : FnScope ["self", "other"] ["self", "other"] (defScope s_Ratio_over) := ⟨rfl, rfl, rfl, by decide +kernel, rfl, by decide +kernel, by decide +kernel⟩
abbrev s_Ratio_unsigned : Stmt := inClass (top 10) 13
theorem sc_Ratio_unsigned : FnScope ["self"] ["self"] (defScope s_Ratio_unsigned) := ⟨rfl, rfl, rfl, by decide +kernel, rfl, by decide +kernel, by decide +kernel⟩
abbrev s_Ratio_is_below : Stmt := inClass (top 10) 14
theorem sc_Ratio_is_below : FnScope ["self", "other"] ["self", "other"] (defScope s_Ratio_is_below) := ⟨rfl, rfl, rfl, by decide +kernel, rfl, by decide +kernel, by decide +kernel⟩
abbrev s_Ratio_is_at_most : Stmt := inClass (top 10) 15
theorem sc_Ratio_is_at_most : FnScope ["self", "other"] ["self", "other"] (defScope s_Ratio_is_at_most) := ⟨rfl, rfl, rfl, by decide +kernel, rfl, by decide +kernel, by decide +kernel⟩
abbrev s_Ratio_total : Stmt := inClass (top 10) 16
theorem sc_Ratio_total : FnScope ["cls", "numbers"] ["cls", "numbers"] (defScope s_Ratio_total) := ⟨rfl, rfl, rfl, by decide +kernel, rfl, by decide +kernel, by decide +kernel⟩
abbrev s_Ratio_eq : Stmt := inClass (top 10) 17
theorem sc_Ratio_eq : FnScope ["self", "other"] ["self", "other"] (defScope s_Ratio_eq) := ⟨rfl, rfl, rfl, by decide +kernel, rfl, by decide +kernel, by decide +kernel⟩
abbrev s_Ratio_str : Stmt := inClass (top 10) 18
theorem sc_Ratio_str : FnScope ["self"] ["self"] (defScope s_Ratio_str) := ⟨rfl, rfl, rfl, by decide +kernel, rfl, by decide +kernel, by decide +kernel⟩
abbrev s_Ratio_repr : Stmt := inClass (top 10) 19
theorem sc_Ratio_repr : FnScope ["self"] ["self"] (defScope s_Ratio_repr) := ⟨rfl, rfl, rfl, by decide +kernel, rfl, by decide +kernel, by decide +kernel⟩
abbrev s_is_number : Stmt := top 11
theorem sc_is_number : FnScope ["value"] ["value"] (defScope s_is_number) := ⟨rfl, rfl, rfl, by decide +kernel, rfl, by decide +kernel, by decide +kernel⟩
abbrev s_as_ratio : Stmt := top 12
theorem sc_as_ratio : FnScope ["number"] ["number"] (defScope s_as_ratio) := ⟨rfl, rfl, rfl, by decide +kernel, rfl, by decide +kernel, by decide +kernel⟩
abbrev s_without_bottoms : Stmt := top 14
theorem sc_without_bottoms : FnScope ["row", "bottom", "number"] ["row"] (defScope s_without_bottoms) := ⟨rfl, rfl, rfl, by decide +kernel, rfl, by decide +kernel, by decide +kernel⟩
abbrev s_pivot_from : Stmt := top 15
theorem sc_pivot_from : FnScope ["rows", "first", "place", "at"] ["rows", "first", "place"] (defScope s_pivot_from) := ⟨rfl, rfl, rfl, by decide +kernel, rfl, by decide +kernel, by decide +kernel⟩
abbrev s_cleared : Stmt := top 16
theorem sc_cleared : FnScope ["row", "place", "pivot", "last", "head", "amount", "number", "other"] ["row", "place", "pivot", "last"] (defScope s_cleared) := ⟨rfl, rfl, rfl, by decide +kernel, rfl, by decide +kernel, by decide +kernel⟩
abbrev s_reduced : Stmt := top 17
theorem sc_reduced : FnScope ["rows", "left", "wide", "done", "last", "place", "at", "pivot", "ahead", "behind", "row", "number"] ["rows"] (defScope s_reduced) := ⟨rfl, rfl, rfl, by decide +kernel, rfl, by decide +kernel, by decide +kernel⟩
abbrev s_numbers_from : Stmt := top 21
theorem sc_numbers_from : FnScope ["value", "least", "most", "number"] ["value", "least", "most"] (defScope s_numbers_from) := ⟨rfl, rfl, rfl, by decide +kernel, rfl, by decide +kernel, by decide +kernel⟩
abbrev s_rows_from : Stmt := top 22
theorem sc_rows_from : FnScope ["value", "most", "least_wide", "most_wide", "rows", "row", "numbers"] ["value", "most", "least_wide", "most_wide"] (defScope s_rows_from) := ⟨rfl, rfl, rfl, by decide +kernel, rfl, by decide +kernel, by decide +kernel⟩
abbrev s_grid_from : Stmt := top 23
theorem sc_grid_from : FnScope ["value"] ["value"] (defScope s_grid_from) := ⟨rfl, rfl, rfl, by decide +kernel, rfl, by decide +kernel, by decide +kernel⟩
abbrev s_need_grid : Stmt := top 24
theorem sc_need_grid : FnScope ["value", "grid"] ["value"] (defScope s_need_grid) := ⟨rfl, rfl, rfl, by decide +kernel, rfl, by decide +kernel, by decide +kernel⟩
abbrev s_steps : Stmt := top 26
theorem sc_steps : FnScope ["grid"] ["grid"] (defScope s_steps) := ⟨rfl, rfl, rfl, by decide +kernel, rfl, by decide +kernel, by decide +kernel⟩
abbrev s_rank : Stmt := top 27
theorem sc_rank : FnScope ["grid"] ["grid"] (defScope s_rank) := ⟨rfl, rfl, rfl, by decide +kernel, rfl, by decide +kernel, by decide +kernel⟩
abbrev s_law_pot : Stmt := top 29
theorem sc_law_pot : FnScope ["_law_script", "_law_k", "_law_cell"] ["_law_script", "_law_k"] (defScope s_law_pot) := ⟨rfl, rfl, rfl, by decide +kernel, rfl, by decide +kernel, by decide +kernel⟩
abbrev s_law_draw : Stmt := top 30
theorem sc_law_draw : FnScope ["_law_pot_here", "_law_size", "_law_digit"] ["_law_pot_here", "_law_size"] (defScope s_law_draw) := ⟨rfl, rfl, rfl, by decide +kernel, rfl, by decide +kernel, by decide +kernel⟩
abbrev s_law_pick : Stmt := top 31
theorem sc_law_pick : FnScope ["_law_pot_here", "_law_some"] ["_law_pot_here", "_law_some"] (defScope s_law_pick) := ⟨rfl, rfl, rfl, by decide +kernel, rfl, by decide +kernel, by decide +kernel⟩
abbrev s_law_low : Stmt := top 32
theorem sc_law_low : FnScope ["_law_top", "_law_bottom", "_law_one", "_law_other"] ["_law_top", "_law_bottom"] (defScope s_law_low) := ⟨rfl, rfl, rfl, by decide +kernel, rfl, by decide +kernel, by decide +kernel⟩
abbrev s_law_sum : Stmt := top 33
theorem sc_law_sum : FnScope ["_law_one", "_law_other"] ["_law_one", "_law_other"] (defScope s_law_sum) := ⟨rfl, rfl, rfl, by decide +kernel, rfl, by decide +kernel, by decide +kernel⟩
abbrev s_law_by : Stmt := top 34
theorem sc_law_by : FnScope ["_law_one", "_law_other"] ["_law_one", "_law_other"] (defScope s_law_by) := ⟨rfl, rfl, rfl, by decide +kernel, rfl, by decide +kernel, by decide +kernel⟩
abbrev s_law_less : Stmt := top 35
theorem sc_law_less : FnScope ["_law_one", "_law_other"] ["_law_one", "_law_other"] (defScope s_law_less) := ⟨rfl, rfl, rfl, by decide +kernel, rfl, by decide +kernel, by decide +kernel⟩
abbrev s_law_over : Stmt := top 36
theorem sc_law_over : FnScope ["_law_one", "_law_other"] ["_law_one", "_law_other"] (defScope s_law_over) := ⟨rfl, rfl, rfl, by decide +kernel, rfl, by decide +kernel, by decide +kernel⟩
abbrev s_law_passed : Stmt := top 37
theorem sc_law_passed : FnScope ["_law_pot_here", "_law_pair"] ["_law_pot_here", "_law_pair"] (defScope s_law_passed) := ⟨rfl, rfl, rfl, by decide +kernel, rfl, by decide +kernel, by decide +kernel⟩
abbrev s_law_given : Stmt := top 38
theorem sc_law_given : FnScope ["_law_pot_here", "_law_rows_here", "_law_found", "_law_row", "_law_given_here", "_law_pair"] ["_law_pot_here", "_law_rows_here"] (defScope s_law_given) := ⟨rfl, rfl, rfl, by decide +kernel, rfl, by decide +kernel, by decide +kernel⟩
abbrev s_law_pairs : Stmt := top 39
theorem sc_law_pairs : FnScope ["_law_value", "_law_one"] ["_law_value"] (defScope s_law_pairs) := ⟨rfl, rfl, rfl, by decide +kernel, rfl, by decide +kernel, by decide +kernel⟩
abbrev s_law_rows : Stmt := top 40
theorem sc_law_rows : FnScope ["_law_value", "_law_row"] ["_law_value"] (defScope s_law_rows) := ⟨rfl, rfl, rfl, by decide +kernel, rfl, by decide +kernel, by decide +kernel⟩
abbrev s_law_entry : Stmt := top 41
theorem sc_law_entry : FnScope ["_law_pot_here"] ["_law_pot_here"] (defScope s_law_entry) := ⟨rfl, rfl, rfl, by decide +kernel, rfl, by decide +kernel, by decide +kernel⟩
abbrev s_law_grid : Stmt := top 42
theorem sc_law_grid : FnScope ["_law_pot_here", "_law_many", "_law_wide", "_law_found", "_law_turn", "_law_row", "_law_place", "_law_one", "_law_two"] ["_law_pot_here", "_law_many", "_law_wide"] (defScope s_law_grid) := ⟨rfl, rfl, rfl, by decide +kernel, rfl, by decide +kernel, by decide +kernel⟩
abbrev s_law_lowered : Stmt := top 43
theorem sc_law_lowered : FnScope ["_law_row", "_law_head", "_law_place", "_law_one", "_law_two"] ["_law_row", "_law_head", "_law_place"] (defScope s_law_lowered) := ⟨rfl, rfl, rfl, by decide +kernel, rfl, by decide +kernel, by decide +kernel⟩
abbrev s_law_steps : Stmt := top 44
theorem sc_law_steps : FnScope ["_law_rows_here", "_law_left", "_law_found", "_law_place", "_law_heads", "_law_head", "_law_row", "_law_one"] ["_law_rows_here"] (defScope s_law_steps) := ⟨rfl, rfl, rfl, by decide +kernel, rfl, by decide +kernel, by decide +kernel⟩
abbrev s_law_shuffled : Stmt := top 45
theorem sc_law_shuffled : FnScope ["_law_pot_here", "_law_some", "_law_left", "_law_found"] ["_law_pot_here", "_law_some"] (defScope s_law_shuffled) := ⟨rfl, rfl, rfl, by decide +kernel, rfl, by decide +kernel, by decide +kernel⟩
abbrev s_law_scaled : Stmt := top 46
theorem sc_law_scaled : FnScope ["_law_row", "_law_number", "_law_one"] ["_law_row", "_law_number"] (defScope s_law_scaled) := ⟨rfl, rfl, rfl, by decide +kernel, rfl, by decide +kernel, by decide +kernel⟩
abbrev s_law_grid_right : Stmt := top 47
theorem sc_law_grid_right : FnScope ["_law_pot_here", "_law_rows_here", "_law_due", "_law_passed_here", "_law_stay", "_law_told", "_law_again", "_law_row", "_law_other", "_law_sums", "_law_number", "_law_one", "_law_two"] ["_law_pot_here", "_law_rows_here"] (defScope s_law_grid_right) := ⟨rfl, rfl, rfl, by decide +kernel, rfl, by decide +kernel, by decide +kernel⟩
abbrev s_law_right : Stmt := top 48
theorem sc_law_right : FnScope ["_law_pot_here"] ["_law_pot_here"] (defScope s_law_right) := ⟨rfl, rfl, rfl, by decide +kernel, rfl, by decide +kernel, by decide +kernel⟩
abbrev s_law : Stmt := top 49
theorem sc_law : FnScope ["_law_script", "_law_k"] ["_law_script"] (defScope s_law) := ⟨rfl, rfl, rfl, by decide +kernel, rfl, by decide +kernel, by decide +kernel⟩
/-! ### what stands behind the top -/
def dl : List DX := [
  ⟨fun K => ga K "_wall", "_wall", "_wall", s_wall, []⟩,
  ⟨fun K => ga K "is_integer", "is_integer", "is_integer", s_is_integer, []⟩,
  ⟨fun K => ga K "is_list", "is_list", "is_list", s_is_list, []⟩,
  ⟨fun K => ma K (ga K "Ratio") "__init__", "__init__", "Ratio.__init__", s_Ratio_init, [.int 1]⟩,
  ⟨fun K => gt K "Ratio" "top", "top", "Ratio.top", s_Ratio_top, []⟩,
  ⟨fun K => gt K "Ratio" "bottom", "bottom", "Ratio.bottom", s_Ratio_bottom, []⟩,
  ⟨fun K => gt K "Ratio" "sign", "sign", "Ratio.sign", s_Ratio_sign, []⟩,
  ⟨fun K => gt K "Ratio" "is_whole", "is_whole", "Ratio.is_whole", s_Ratio_is_whole, []⟩,
  ⟨fun K => ma K (ga K "Ratio") "__add__", "__add__", "Ratio.__add__", s_Ratio_add, []⟩,
  ⟨fun K => ma K (ga K "Ratio") "__radd__", "__radd__", "Ratio.__radd__", s_Ratio_radd, []⟩,
  ⟨fun K => ma K (ga K "Ratio") "__sub__", "__sub__", "Ratio.__sub__", s_Ratio_sub, []⟩,
  ⟨fun K => ma K (ga K "Ratio") "__rsub__", "__rsub__", "Ratio.__rsub__", s_Ratio_rsub, []⟩,
  ⟨fun K => ma K (ga K "Ratio") "__mul__", "__mul__", "Ratio.__mul__", s_Ratio_mul, []⟩,
  ⟨fun K => ma K (ga K "Ratio") "__rmul__", "__rmul__", "Ratio.__rmul__", s_Ratio_rmul, []⟩,
  ⟨fun K => ma K (ga K "Ratio") "__neg__", "__neg__", "Ratio.__neg__", s_Ratio_neg, []⟩,
  ⟨fun K => ma K (ga K "Ratio") "over", "over", "Ratio.over", s_Ratio_over, []⟩,
  ⟨fun K => ma K (ga K "Ratio") "unsigned", "unsigned", "Ratio.unsigned", s_Ratio_unsigned, []⟩,
  ⟨fun K => ma K (ga K "Ratio") "is_below", "is_below", "Ratio.is_below", s_Ratio_is_below, []⟩,
  ⟨fun K => ma K (ga K "Ratio") "is_at_most", "is_at_most", "Ratio.is_at_most", s_Ratio_is_at_most, []⟩,
  ⟨fun K => cmG K "Ratio" "total", "total", "Ratio.total", s_Ratio_total, []⟩,
  ⟨fun K => ma K (ga K "Ratio") "__eq__", "__eq__", "Ratio.__eq__", s_Ratio_eq, []⟩,
  ⟨fun K => ma K (ga K "Ratio") "__str__", "__str__", "Ratio.__str__", s_Ratio_str, []⟩,
  ⟨fun K => ma K (ga K "Ratio") "__repr__", "__repr__", "Ratio.__repr__", s_Ratio_repr, []⟩,
  ⟨fun K => ga K "is_number", "is_number", "is_number", s_is_number, []⟩,
  ⟨fun K => ga K "as_ratio", "as_ratio", "as_ratio", s_as_ratio, []⟩,
  ⟨fun K => ga K "without_bottoms", "without_bottoms", "without_bottoms", s_without_bottoms, []⟩,
  ⟨fun K => ga K "pivot_from", "pivot_from", "pivot_from", s_pivot_from, []⟩,
  ⟨fun K => ga K "cleared", "cleared", "cleared", s_cleared, []⟩,
  ⟨fun K => ga K "reduced", "reduced", "reduced", s_reduced, []⟩,
  ⟨fun K => ga K "numbers_from", "numbers_from", "numbers_from", s_numbers_from, []⟩,
  ⟨fun K => ga K "rows_from", "rows_from", "rows_from", s_rows_from, []⟩,
  ⟨fun K => ga K "grid_from", "grid_from", "grid_from", s_grid_from, []⟩,
  ⟨fun K => ga K "need_grid", "need_grid", "need_grid", s_need_grid, []⟩,
  ⟨fun K => ga K "steps", "steps", "steps", s_steps, []⟩,
  ⟨fun K => ga K "rank", "rank", "rank", s_rank, []⟩,
  ⟨fun K => ga K "_law_pot", "_law_pot", "_law_pot", s_law_pot, []⟩,
  ⟨fun K => ga K "_law_draw", "_law_draw", "_law_draw", s_law_draw, []⟩,
  ⟨fun K => ga K "_law_pick", "_law_pick", "_law_pick", s_law_pick, []⟩,
  ⟨fun K => ga K "_law_low", "_law_low", "_law_low", s_law_low, []⟩,
  ⟨fun K => ga K "_law_sum", "_law_sum", "_law_sum", s_law_sum, []⟩,
  ⟨fun K => ga K "_law_by", "_law_by", "_law_by", s_law_by, []⟩,
  ⟨fun K => ga K "_law_less", "_law_less", "_law_less", s_law_less, []⟩,
  ⟨fun K => ga K "_law_over", "_law_over", "_law_over", s_law_over, []⟩,
  ⟨fun K => ga K "_law_passed", "_law_passed", "_law_passed", s_law_passed, []⟩,
  ⟨fun K => ga K "_law_given", "_law_given", "_law_given", s_law_given, []⟩,
  ⟨fun K => ga K "_law_pairs", "_law_pairs", "_law_pairs", s_law_pairs, []⟩,
  ⟨fun K => ga K "_law_rows", "_law_rows", "_law_rows", s_law_rows, []⟩,
  ⟨fun K => ga K "_law_entry", "_law_entry", "_law_entry", s_law_entry, []⟩,
  ⟨fun K => ga K "_law_grid", "_law_grid", "_law_grid", s_law_grid, []⟩,
  ⟨fun K => ga K "_law_lowered", "_law_lowered", "_law_lowered", s_law_lowered, []⟩,
  ⟨fun K => ga K "_law_steps", "_law_steps", "_law_steps", s_law_steps, []⟩,
  ⟨fun K => ga K "_law_shuffled", "_law_shuffled", "_law_shuffled", s_law_shuffled, []⟩,
  ⟨fun K => ga K "_law_scaled", "_law_scaled", "_law_scaled", s_law_scaled, []⟩,
  ⟨fun K => ga K "_law_grid_right", "_law_grid_right", "_law_grid_right", s_law_grid_right, []⟩,
  ⟨fun K => ga K "_law_right", "_law_right", "_law_right", s_law_right, []⟩,
  ⟨fun K => ga K "law", "law", "law", s_law, []⟩]
def fl : List (PySem.W.Frag → Bool) := [
  fun K => (He.Fa.glo "_wall").ok K,
  fun K => (He.Fa.glo "is_integer").ok K,
  fun K => (He.Fa.glo "is_list").ok K,
  fun K => (He.Fa.glo "is_number").ok K,
  fun K => (He.Fa.glo "as_ratio").ok K,
  fun K => (He.Fa.glo "without_bottoms").ok K,
  fun K => (He.Fa.glo "pivot_from").ok K,
  fun K => (He.Fa.glo "cleared").ok K,
  fun K => (He.Fa.glo "reduced").ok K,
  fun K => (He.Fa.glo "numbers_from").ok K,
  fun K => (He.Fa.glo "rows_from").ok K,
  fun K => (He.Fa.glo "grid_from").ok K,
  fun K => (He.Fa.glo "need_grid").ok K,
  fun K => (He.Fa.glo "steps").ok K,
  fun K => (He.Fa.glo "rank").ok K,
  fun K => (He.Fa.glo "_law_pot").ok K,
  fun K => (He.Fa.glo "_law_draw").ok K,
  fun K => (He.Fa.glo "_law_pick").ok K,
  fun K => (He.Fa.glo "_law_low").ok K,
  fun K => (He.Fa.glo "_law_sum").ok K,
  fun K => (He.Fa.glo "_law_by").ok K,
  fun K => (He.Fa.glo "_law_less").ok K,
  fun K => (He.Fa.glo "_law_over").ok K,
  fun K => (He.Fa.glo "_law_passed").ok K,
  fun K => (He.Fa.glo "_law_given").ok K,
  fun K => (He.Fa.glo "_law_pairs").ok K,
  fun K => (He.Fa.glo "_law_rows").ok K,
  fun K => (He.Fa.glo "_law_entry").ok K,
  fun K => (He.Fa.glo "_law_grid").ok K,
  fun K => (He.Fa.glo "_law_lowered").ok K,
  fun K => (He.Fa.glo "_law_steps").ok K,
  fun K => (He.Fa.glo "_law_shuffled").ok K,
  fun K => (He.Fa.glo "_law_scaled").ok K,
  fun K => (He.Fa.glo "_law_grid_right").ok K,
  fun K => (He.Fa.glo "_law_right").ok K,
  fun K => (He.Fa.glo "law").ok K,
  fun K => (He.Fa.free "isinstance").ok K,
  fun K => (He.Fa.free "int").ok K,
  fun K => (He.Fa.free "bool").ok K,
  fun K => (He.Fa.free "list").ok K,
  fun K => (He.Fa.free "tuple").ok K,
  fun K => (He.Fa.free "str").ok K,
  fun K => (He.Fa.free "range").ok K,
  fun K => (He.Fa.free "len").ok K,
  fun K => (He.Fa.free "zip").ok K,
  fun K => (He.Fa.free "abs").ok K,
  fun K => (He.Fa.free "max").ok K,
  fun K => (He.Fa.free "divmod").ok K,
  fun K => (He.Fa.free "all").ok K,
  fun K => (He.Fa.free "repr").ok K,
  fun K => (He.Fa.free "min").ok K,
  bBlt "gcd" "math.gcd",
  bBlt "lcm" "math.lcm",
  fun K => (He.Fa.int "MOST_ROWS" 64).ok K,
  fun K => (He.Fa.int "MOST_WIDE" 64).ok K,
  fun K => (He.Fa.glo "Ratio").ok K,
  fun K => (He.Fa.cls "Ratio").ok K,
  fun K => (He.Fa.mkr "Ratio").ok K,
  bIs "Ratio",
  fun K => (He.Fa.noat "Ratio" "_top").ok K,
  fun K => (He.Fa.noat "Ratio" "_bottom").ok K,
  bProp "Ratio" "top",
  bProp "Ratio" "bottom",
  bProp "Ratio" "sign",
  bProp "Ratio" "is_whole",
  fun K => (He.Fa.meth "Ratio" "over").ok K,
  fun K => (He.Fa.meth "Ratio" "unsigned").ok K,
  fun K => (He.Fa.meth "Ratio" "is_below").ok K,
  fun K => (He.Fa.meth "Ratio" "is_at_most").ok K,
  bCm "Ratio" "total",
  bNumI "Ratio" "add",
  bNumI "Ratio" "sub",
  bNumI "Ratio" "mul",
  bSpec "Ratio" "__neg__",
  bSpec "Ratio" "__str__",
  bSpec "Ratio" "__repr__",
  bEq "Ratio",
  bKitO "int" "Ratio" false,
  bKitO "bool" "Ratio" false,
  bKitO "NoneType" "Ratio" false,
  bKitO "str" "Ratio" false,
  bKitO "list" "Ratio" false,
  bKitO "tuple" "Ratio" false,
  bKitT "Ratio" "int" false,
  bKitT "Ratio" "bool" false,
  bKitT "Ratio" "list" false,
  bKitT "Ratio" "tuple" false,
  bKitC "Ratio" "Ratio" true]
structure Tx (K : PySem.W.Frag) (mg : Str → Option Value) : Prop where
  F_wall : FX K "_wall" "_wall" s_wall [] (ga K "_wall")
  F_is_integer : FX K "is_integer" "is_integer" s_is_integer [] (ga K "is_integer")
  F_is_list : FX K "is_list" "is_list" s_is_list [] (ga K "is_list")
  F_Ratio_init : FX K "__init__" "Ratio.__init__" s_Ratio_init [.int 1] (ma K (ga K "Ratio") "__init__")
  F_Ratio_top : FX K "top" "Ratio.top" s_Ratio_top [] (gt K "Ratio" "top")
  F_Ratio_bottom : FX K "bottom" "Ratio.bottom" s_Ratio_bottom [] (gt K "Ratio" "bottom")
  F_Ratio_sign : FX K "sign" "Ratio.sign" s_Ratio_sign [] (gt K "Ratio" "sign")
  F_Ratio_is_whole : FX K "is_whole" "Ratio.is_whole" s_Ratio_is_whole [] (gt K "Ratio" "is_whole")
  F_Ratio_add : FX K "__add__" "Ratio.__add__" s_Ratio_add [] (ma K (ga K "Ratio") "__add__")
  F_Ratio_radd : FX K "__radd__" "Ratio.__radd__" s_Ratio_radd [] (ma K (ga K "Ratio") "__radd__")
  F_Ratio_sub : FX K "__sub__" "Ratio.__sub__" s_Ratio_sub [] (ma K (ga K "Ratio") "__sub__")
  F_Ratio_rsub : FX K "__rsub__" "Ratio.__rsub__" s_Ratio_rsub [] (ma K (ga K "Ratio") "__rsub__")
  F_Ratio_mul : FX K "__mul__" "Ratio.__mul__" s_Ratio_mul [] (ma K (ga K "Ratio") "__mul__")
  F_Ratio_rmul : FX K "__rmul__" "Ratio.__rmul__" s_Ratio_rmul [] (ma K (ga K "Ratio") "__rmul__")
  F_Ratio_neg : FX K "__neg__" "Ratio.__neg__" s_Ratio_neg [] (ma K (ga K "Ratio") "__neg__")
  F_Ratio_over : FX K "over" "Ratio.over" s_Ratio_over [] (ma K (ga K "Ratio") "over")
  F_Ratio_unsigned : FX K "unsigned" "Ratio.unsigned" s_Ratio_unsigned [] (ma K (ga K "Ratio") "unsigned")
  F_Ratio_is_below : FX K "is_below" "Ratio.is_below" s_Ratio_is_below [] (ma K (ga K "Ratio") "is_below")
  F_Ratio_is_at_most : FX K "is_at_most" "Ratio.is_at_most" s_Ratio_is_at_most [] (ma K (ga K "Ratio") "is_at_most")
  F_Ratio_total : FX K "total" "Ratio.total" s_Ratio_total [] (cmG K "Ratio" "total")
  F_Ratio_eq : FX K "__eq__" "Ratio.__eq__" s_Ratio_eq [] (ma K (ga K "Ratio") "__eq__")
  F_Ratio_str : FX K "__str__" "Ratio.__str__" s_Ratio_str [] (ma K (ga K "Ratio") "__str__")
  F_Ratio_repr : FX K "__repr__" "Ratio.__repr__" s_Ratio_repr [] (ma K (ga K "Ratio") "__repr__")
  F_is_number : FX K "is_number" "is_number" s_is_number [] (ga K "is_number")
  F_as_ratio : FX K "as_ratio" "as_ratio" s_as_ratio [] (ga K "as_ratio")
  F_without_bottoms : FX K "without_bottoms" "without_bottoms" s_without_bottoms [] (ga K "without_bottoms")
  F_pivot_from : FX K "pivot_from" "pivot_from" s_pivot_from [] (ga K "pivot_from")
  F_cleared : FX K "cleared" "cleared" s_cleared [] (ga K "cleared")
  F_reduced : FX K "reduced" "reduced" s_reduced [] (ga K "reduced")
  F_numbers_from : FX K "numbers_from" "numbers_from" s_numbers_from [] (ga K "numbers_from")
  F_rows_from : FX K "rows_from" "rows_from" s_rows_from [] (ga K "rows_from")
  F_grid_from : FX K "grid_from" "grid_from" s_grid_from [] (ga K "grid_from")
  F_need_grid : FX K "need_grid" "need_grid" s_need_grid [] (ga K "need_grid")
  F_steps : FX K "steps" "steps" s_steps [] (ga K "steps")
  F_rank : FX K "rank" "rank" s_rank [] (ga K "rank")
  F_law_pot : FX K "_law_pot" "_law_pot" s_law_pot [] (ga K "_law_pot")
  F_law_draw : FX K "_law_draw" "_law_draw" s_law_draw [] (ga K "_law_draw")
  F_law_pick : FX K "_law_pick" "_law_pick" s_law_pick [] (ga K "_law_pick")
  F_law_low : FX K "_law_low" "_law_low" s_law_low [] (ga K "_law_low")
  F_law_sum : FX K "_law_sum" "_law_sum" s_law_sum [] (ga K "_law_sum")
  F_law_by : FX K "_law_by" "_law_by" s_law_by [] (ga K "_law_by")
  F_law_less : FX K "_law_less" "_law_less" s_law_less [] (ga K "_law_less")
  F_law_over : FX K "_law_over" "_law_over" s_law_over [] (ga K "_law_over")
  F_law_passed : FX K "_law_passed" "_law_passed" s_law_passed [] (ga K "_law_passed")
  F_law_given : FX K "_law_given" "_law_given" s_law_given [] (ga K "_law_given")
  F_law_pairs : FX K "_law_pairs" "_law_pairs" s_law_pairs [] (ga K "_law_pairs")
  F_law_rows : FX K "_law_rows" "_law_rows" s_law_rows [] (ga K "_law_rows")
  F_law_entry : FX K "_law_entry" "_law_entry" s_law_entry [] (ga K "_law_entry")
  F_law_grid : FX K "_law_grid" "_law_grid" s_law_grid [] (ga K "_law_grid")
  F_law_lowered : FX K "_law_lowered" "_law_lowered" s_law_lowered [] (ga K "_law_lowered")
  F_law_steps : FX K "_law_steps" "_law_steps" s_law_steps [] (ga K "_law_steps")
  F_law_shuffled : FX K "_law_shuffled" "_law_shuffled" s_law_shuffled [] (ga K "_law_shuffled")
  F_law_scaled : FX K "_law_scaled" "_law_scaled" s_law_scaled [] (ga K "_law_scaled")
  F_law_grid_right : FX K "_law_grid_right" "_law_grid_right" s_law_grid_right [] (ga K "_law_grid_right")
  F_law_right : FX K "_law_right" "_law_right" s_law_right [] (ga K "_law_right")
  F_law : FX K "law" "law" s_law [] (ga K "law")
  g_wall : mg "_wall" = some (.ref (ga K "_wall"))
  g_is_integer : mg "is_integer" = some (.ref (ga K "is_integer"))
  g_is_list : mg "is_list" = some (.ref (ga K "is_list"))
  g_is_number : mg "is_number" = some (.ref (ga K "is_number"))
  g_as_ratio : mg "as_ratio" = some (.ref (ga K "as_ratio"))
  g_without_bottoms : mg "without_bottoms" = some (.ref (ga K "without_bottoms"))
  g_pivot_from : mg "pivot_from" = some (.ref (ga K "pivot_from"))
  g_cleared : mg "cleared" = some (.ref (ga K "cleared"))
  g_reduced : mg "reduced" = some (.ref (ga K "reduced"))
  g_numbers_from : mg "numbers_from" = some (.ref (ga K "numbers_from"))
  g_rows_from : mg "rows_from" = some (.ref (ga K "rows_from"))
  g_grid_from : mg "grid_from" = some (.ref (ga K "grid_from"))
  g_need_grid : mg "need_grid" = some (.ref (ga K "need_grid"))
  g_steps : mg "steps" = some (.ref (ga K "steps"))
  g_rank : mg "rank" = some (.ref (ga K "rank"))
  g_law_pot : mg "_law_pot" = some (.ref (ga K "_law_pot"))
  g_law_draw : mg "_law_draw" = some (.ref (ga K "_law_draw"))
  g_law_pick : mg "_law_pick" = some (.ref (ga K "_law_pick"))
  g_law_low : mg "_law_low" = some (.ref (ga K "_law_low"))
  g_law_sum : mg "_law_sum" = some (.ref (ga K "_law_sum"))
  g_law_by : mg "_law_by" = some (.ref (ga K "_law_by"))
  g_law_less : mg "_law_less" = some (.ref (ga K "_law_less"))
  g_law_over : mg "_law_over" = some (.ref (ga K "_law_over"))
  g_law_passed : mg "_law_passed" = some (.ref (ga K "_law_passed"))
  g_law_given : mg "_law_given" = some (.ref (ga K "_law_given"))
  g_law_pairs : mg "_law_pairs" = some (.ref (ga K "_law_pairs"))
  g_law_rows : mg "_law_rows" = some (.ref (ga K "_law_rows"))
  g_law_entry : mg "_law_entry" = some (.ref (ga K "_law_entry"))
  g_law_grid : mg "_law_grid" = some (.ref (ga K "_law_grid"))
  g_law_lowered : mg "_law_lowered" = some (.ref (ga K "_law_lowered"))
  g_law_steps : mg "_law_steps" = some (.ref (ga K "_law_steps"))
  g_law_shuffled : mg "_law_shuffled" = some (.ref (ga K "_law_shuffled"))
  g_law_scaled : mg "_law_scaled" = some (.ref (ga K "_law_scaled"))
  g_law_grid_right : mg "_law_grid_right" = some (.ref (ga K "_law_grid_right"))
  g_law_right : mg "_law_right" = some (.ref (ga K "_law_right"))
  g_law : mg "law" = some (.ref (ga K "law"))
  n_isinstance : mg "isinstance" = none
  n_int : mg "int" = none
  n_bool : mg "bool" = none
  n_list : mg "list" = none
  n_tuple : mg "tuple" = none
  n_str : mg "str" = none
  n_range : mg "range" = none
  n_len : mg "len" = none
  n_zip : mg "zip" = none
  n_abs : mg "abs" = none
  n_max : mg "max" = none
  n_divmod : mg "divmod" = none
  n_all : mg "all" = none
  n_repr : mg "repr" = none
  n_min : mg "min" = none
  m_gcd : mg "gcd" = some (.builtin "math.gcd")
  m_lcm : mg "lcm" = some (.builtin "math.lcm")
  v_MOST_ROWS : ∃ t, mg "MOST_ROWS" = some (.int 64 t)
  v_MOST_WIDE : ∃ t, mg "MOST_WIDE" = some (.int 64 t)
  g_Ratio : mg "Ratio" = some (.ref (ga K "Ratio"))
  cl_Ratio : Cls K (ga K "Ratio")
  mk_Ratio : Mk K (ga K "Ratio") (ma K (ga K "Ratio") "__init__")
  is_Ratio : IsC K (ga K "Ratio")
  na_top : NoAttr K (ga K "Ratio") "_top"
  na_bottom : NoAttr K (ga K "Ratio") "_bottom"
  p_top : PropOf K (ga K "Ratio") "top" (ma K (ga K "Ratio") "top") (gt K "Ratio" "top")
  p_bottom : PropOf K (ga K "Ratio") "bottom" (ma K (ga K "Ratio") "bottom") (gt K "Ratio" "bottom")
  p_sign : PropOf K (ga K "Ratio") "sign" (ma K (ga K "Ratio") "sign") (gt K "Ratio" "sign")
  p_is_whole : PropOf K (ga K "Ratio") "is_whole" (ma K (ga K "Ratio") "is_whole") (gt K "Ratio" "is_whole")
  t_over : Meth K (ga K "Ratio") "over" (ma K (ga K "Ratio") "over")
  t_unsigned : Meth K (ga K "Ratio") "unsigned" (ma K (ga K "Ratio") "unsigned")
  t_is_below : Meth K (ga K "Ratio") "is_below" (ma K (ga K "Ratio") "is_below")
  t_is_at_most : Meth K (ga K "Ratio") "is_at_most" (ma K (ga K "Ratio") "is_at_most")
  c_total : ClX.CRead K (ga K "Ratio") (.type "type") ∧ ClX.CMet K (ga K "Ratio") (.type "type") "total" (cmP K "Ratio" "total") (cmG K "Ratio" "total")
  i_add : Num K (ga K "Ratio") "add" (ma K (ga K "Ratio") (PySem.dunder "add")) ∧ NumI K (ga K "Ratio") "add" (ma K (ga K "Ratio") (PySem.dunder "add")) (ma K (ga K "Ratio") (dunderR "add")) ∧ NumR K (ga K "Ratio") "add" (some (.ref (ma K (ga K "Ratio") (dunderR "add")))) ∧ NumT K (ga K "Ratio") "int" "add"
  i_sub : Num K (ga K "Ratio") "sub" (ma K (ga K "Ratio") (PySem.dunder "sub")) ∧ NumI K (ga K "Ratio") "sub" (ma K (ga K "Ratio") (PySem.dunder "sub")) (ma K (ga K "Ratio") (dunderR "sub")) ∧ NumR K (ga K "Ratio") "sub" (some (.ref (ma K (ga K "Ratio") (dunderR "sub")))) ∧ NumT K (ga K "Ratio") "int" "sub"
  i_mul : Num K (ga K "Ratio") "mul" (ma K (ga K "Ratio") (PySem.dunder "mul")) ∧ NumI K (ga K "Ratio") "mul" (ma K (ga K "Ratio") (PySem.dunder "mul")) (ma K (ga K "Ratio") (dunderR "mul")) ∧ NumR K (ga K "Ratio") "mul" (some (.ref (ma K (ga K "Ratio") (dunderR "mul")))) ∧ NumT K (ga K "Ratio") "int" "mul"
  x_neg : PySem.W.findIn K (.ref (ga K "Ratio")) "__neg__" = some (some (.ref (ma K (ga K "Ratio") "__neg__"))) ∧ PySem.W.isFn K (.ref (ma K (ga K "Ratio") "__neg__")) = true
  x_str : PySem.W.findIn K (.ref (ga K "Ratio")) "__str__" = some (some (.ref (ma K (ga K "Ratio") "__str__"))) ∧ PySem.W.isFn K (.ref (ma K (ga K "Ratio") "__str__")) = true
  x_repr : PySem.W.findIn K (.ref (ga K "Ratio")) "__repr__" = some (some (.ref (ma K (ga K "Ratio") "__repr__"))) ∧ PySem.W.isFn K (.ref (ma K (ga K "Ratio") "__repr__")) = true
  q_Ratio : EqC K (ga K "Ratio") (ma K (ga K "Ratio") "__eq__")
  ko_int : PySem.W.kitOne K (.type "int") (.ref (ga K "Ratio")) = some false
  ko_bool : PySem.W.kitOne K (.type "bool") (.ref (ga K "Ratio")) = some false
  ko_NoneType : PySem.W.kitOne K (.type "NoneType") (.ref (ga K "Ratio")) = some false
  ko_str : PySem.W.kitOne K (.type "str") (.ref (ga K "Ratio")) = some false
  ko_list : PySem.W.kitOne K (.type "list") (.ref (ga K "Ratio")) = some false
  ko_tuple : PySem.W.kitOne K (.type "tuple") (.ref (ga K "Ratio")) = some false
  kt_int : PySem.W.kitOne K (.ref (ga K "Ratio")) (.type "int") = some false
  kt_bool : PySem.W.kitOne K (.ref (ga K "Ratio")) (.type "bool") = some false
  kt_list : PySem.W.kitOne K (.ref (ga K "Ratio")) (.type "list") = some false
  kt_tuple : PySem.W.kitOne K (.ref (ga K "Ratio")) (.type "tuple") = some false
  kk_Ratio : PySem.W.kitOne K (.ref (ga K "Ratio")) (.ref (ga K "Ratio")) = some true
theorem tx_of {K : PySem.W.Frag} {h : Heap} {mg : Str → Option Value} (X : K.In h) (G : h.Ns mainGlobals mg) (c : SaysX fl dl K) : Tx K mg where
  F_wall := c.fn 0
  F_is_integer := c.fn 1
  F_is_list := c.fn 2
  F_Ratio_init := c.fn 3
  F_Ratio_top := c.fn 4
  F_Ratio_bottom := c.fn 5
  F_Ratio_sign := c.fn 6
  F_Ratio_is_whole := c.fn 7
  F_Ratio_add := c.fn 8
  F_Ratio_radd := c.fn 9
  F_Ratio_sub := c.fn 10
  F_Ratio_rsub := c.fn 11
  F_Ratio_mul := c.fn 12
  F_Ratio_rmul := c.fn 13
  F_Ratio_neg := c.fn 14
  F_Ratio_over := c.fn 15
  F_Ratio_unsigned := c.fn 16
  F_Ratio_is_below := c.fn 17
  F_Ratio_is_at_most := c.fn 18
  F_Ratio_total := c.fn 19
  F_Ratio_eq := c.fn 20
  F_Ratio_str := c.fn 21
  F_Ratio_repr := c.fn 22
  F_is_number := c.fn 23
  F_as_ratio := c.fn 24
  F_without_bottoms := c.fn 25
  F_pivot_from := c.fn 26
  F_cleared := c.fn 27
  F_reduced := c.fn 28
  F_numbers_from := c.fn 29
  F_rows_from := c.fn 30
  F_grid_from := c.fn 31
  F_need_grid := c.fn 32
  F_steps := c.fn 33
  F_rank := c.fn 34
  F_law_pot := c.fn 35
  F_law_draw := c.fn 36
  F_law_pick := c.fn 37
  F_law_low := c.fn 38
  F_law_sum := c.fn 39
  F_law_by := c.fn 40
  F_law_less := c.fn 41
  F_law_over := c.fn 42
  F_law_passed := c.fn 43
  F_law_given := c.fn 44
  F_law_pairs := c.fn 45
  F_law_rows := c.fn 46
  F_law_entry := c.fn 47
  F_law_grid := c.fn 48
  F_law_lowered := c.fn 49
  F_law_steps := c.fn 50
  F_law_shuffled := c.fn 51
  F_law_scaled := c.fn 52
  F_law_grid_right := c.fn 53
  F_law_right := c.fn 54
  F_law := c.fn 55
  g_wall := He.glo_ok X G (c.at_ 0)
  g_is_integer := He.glo_ok X G (c.at_ 1)
  g_is_list := He.glo_ok X G (c.at_ 2)
  g_is_number := He.glo_ok X G (c.at_ 3)
  g_as_ratio := He.glo_ok X G (c.at_ 4)
  g_without_bottoms := He.glo_ok X G (c.at_ 5)
  g_pivot_from := He.glo_ok X G (c.at_ 6)
  g_cleared := He.glo_ok X G (c.at_ 7)
  g_reduced := He.glo_ok X G (c.at_ 8)
  g_numbers_from := He.glo_ok X G (c.at_ 9)
  g_rows_from := He.glo_ok X G (c.at_ 10)
  g_grid_from := He.glo_ok X G (c.at_ 11)
  g_need_grid := He.glo_ok X G (c.at_ 12)
  g_steps := He.glo_ok X G (c.at_ 13)
  g_rank := He.glo_ok X G (c.at_ 14)
  g_law_pot := He.glo_ok X G (c.at_ 15)
  g_law_draw := He.glo_ok X G (c.at_ 16)
  g_law_pick := He.glo_ok X G (c.at_ 17)
  g_law_low := He.glo_ok X G (c.at_ 18)
  g_law_sum := He.glo_ok X G (c.at_ 19)
  g_law_by := He.glo_ok X G (c.at_ 20)
  g_law_less := He.glo_ok X G (c.at_ 21)
  g_law_over := He.glo_ok X G (c.at_ 22)
  g_law_passed := He.glo_ok X G (c.at_ 23)
  g_law_given := He.glo_ok X G (c.at_ 24)
  g_law_pairs := He.glo_ok X G (c.at_ 25)
  g_law_rows := He.glo_ok X G (c.at_ 26)
  g_law_entry := He.glo_ok X G (c.at_ 27)
  g_law_grid := He.glo_ok X G (c.at_ 28)
  g_law_lowered := He.glo_ok X G (c.at_ 29)
  g_law_steps := He.glo_ok X G (c.at_ 30)
  g_law_shuffled := He.glo_ok X G (c.at_ 31)
  g_law_scaled := He.glo_ok X G (c.at_ 32)
  g_law_grid_right := He.glo_ok X G (c.at_ 33)
  g_law_right := He.glo_ok X G (c.at_ 34)
  g_law := He.glo_ok X G (c.at_ 35)
  n_isinstance := He.free_ok X G (c.at_ 36)
  n_int := He.free_ok X G (c.at_ 37)
  n_bool := He.free_ok X G (c.at_ 38)
  n_list := He.free_ok X G (c.at_ 39)
  n_tuple := He.free_ok X G (c.at_ 40)
  n_str := He.free_ok X G (c.at_ 41)
  n_range := He.free_ok X G (c.at_ 42)
  n_len := He.free_ok X G (c.at_ 43)
  n_zip := He.free_ok X G (c.at_ 44)
  n_abs := He.free_ok X G (c.at_ 45)
  n_max := He.free_ok X G (c.at_ 46)
  n_divmod := He.free_ok X G (c.at_ 47)
  n_all := He.free_ok X G (c.at_ 48)
  n_repr := He.free_ok X G (c.at_ 49)
  n_min := He.free_ok X G (c.at_ 50)
  m_gcd := bBlt_ok X G (c.at_ 51)
  m_lcm := bBlt_ok X G (c.at_ 52)
  v_MOST_ROWS := He.int_ok X G (c.at_ 53)
  v_MOST_WIDE := He.int_ok X G (c.at_ 54)
  g_Ratio := He.glo_ok X G (c.at_ 55)
  cl_Ratio := He.cls_ok (c.at_ 56)
  mk_Ratio := He.mkr_ok (c.at_ 57)
  is_Ratio := bIs_ok (c.at_ 58)
  na_top := He.noat_ok (c.at_ 59)
  na_bottom := He.noat_ok (c.at_ 60)
  p_top := bProp_ok (c.at_ 61)
  p_bottom := bProp_ok (c.at_ 62)
  p_sign := bProp_ok (c.at_ 63)
  p_is_whole := bProp_ok (c.at_ 64)
  t_over := He.meth_ok (c.at_ 65)
  t_unsigned := He.meth_ok (c.at_ 66)
  t_is_below := He.meth_ok (c.at_ 67)
  t_is_at_most := He.meth_ok (c.at_ 68)
  c_total := bCm_ok (c.at_ 69)
  i_add := bNumI_ok (c.at_ 70)
  i_sub := bNumI_ok (c.at_ 71)
  i_mul := bNumI_ok (c.at_ 72)
  x_neg := bSpec_ok (c.at_ 73)
  x_str := bSpec_ok (c.at_ 74)
  x_repr := bSpec_ok (c.at_ 75)
  q_Ratio := bEq_ok (c.at_ 76)
  ko_int := bKitO_ok (c.at_ 77)
  ko_bool := bKitO_ok (c.at_ 78)
  ko_NoneType := bKitO_ok (c.at_ 79)
  ko_str := bKitO_ok (c.at_ 80)
  ko_list := bKitO_ok (c.at_ 81)
  ko_tuple := bKitO_ok (c.at_ 82)
  kt_int := bKitT_ok (c.at_ 83)
  kt_bool := bKitT_ok (c.at_ 84)
  kt_list := bKitT_ok (c.at_ 85)
  kt_tuple := bKitT_ok (c.at_ 86)
  kk_Ratio := bKitC_ok (c.at_ 87)
section
variable {K : PySem.W.Frag} {mg : Str → Option Value}
theorem b_wall (T : Tx K mg) : Binds K (fdOf K (ga K "_wall")) ["k"] [] := T.F_wall.bindsN fun _ _ _ _ _ _ us hl => match us, hl with | [_], _ => rfl
theorem b_is_integer (T : Tx K mg) : Binds K (fdOf K (ga K "is_integer")) ["value"] [] := T.F_is_integer.bindsN fun _ _ _ _ _ _ us hl => match us, hl with | [_], _ => rfl
theorem b_is_list (T : Tx K mg) : Binds K (fdOf K (ga K "is_list")) ["value"] [] := T.F_is_list.bindsN fun _ _ _ _ _ _ us hl => match us, hl with | [_], _ => rfl
theorem b_Ratio_top (T : Tx K mg) : Binds K (fdOf K (gt K "Ratio" "top")) ["self"] [] := T.F_Ratio_top.bindsN fun _ _ _ _ _ _ us hl => match us, hl with | [_], _ => rfl
theorem b_Ratio_bottom (T : Tx K mg) : Binds K (fdOf K (gt K "Ratio" "bottom")) ["self"] [] := T.F_Ratio_bottom.bindsN fun _ _ _ _ _ _ us hl => match us, hl with | [_], _ => rfl
theorem b_Ratio_sign (T : Tx K mg) : Binds K (fdOf K (gt K "Ratio" "sign")) ["self"] [] := T.F_Ratio_sign.bindsN fun _ _ _ _ _ _ us hl => match us, hl with | [_], _ => rfl
theorem b_Ratio_is_whole (T : Tx K mg) : Binds K (fdOf K (gt K "Ratio" "is_whole")) ["self"] [] := T.F_Ratio_is_whole.bindsN fun _ _ _ _ _ _ us hl => match us, hl with | [_], _ => rfl
theorem b_Ratio_add (T : Tx K mg) : Binds K (fdOf K (ma K (ga K "Ratio") "__add__")) ["self", "other"] [] := T.F_Ratio_add.bindsN fun _ _ _ _ _ _ us hl => match us, hl with | [_, _], _ => rfl
theorem b_Ratio_radd (T : Tx K mg) : Binds K (fdOf K (ma K (ga K "Ratio") "__radd__")) ["self", "other"] [] := T.F_Ratio_radd.bindsN fun _ _ _ _ _ _ us hl => match us, hl with | [_, _], _ => rfl
theorem b_Ratio_sub (T : Tx K mg) : Binds K (fdOf K (ma K (ga K "Ratio") "__sub__")) ["self", "other"] [] := T.F_Ratio_sub.bindsN fun _ _ _ _ _ _ us hl => match us, hl with | [_, _], _ => rfl
theorem b_Ratio_rsub (T : Tx K mg) : Binds K (fdOf K (ma K (ga K "Ratio") "__rsub__")) ["self", "other"] [] := T.F_Ratio_rsub.bindsN fun _ _ _ _ _ _ us hl => match us, hl with | [_, _], _ => rfl
theorem b_Ratio_mul (T : Tx K mg) : Binds K (fdOf K (ma K (ga K "Ratio") "__mul__")) ["self", "other"] [] := T.F_Ratio_mul.bindsN fun _ _ _ _ _ _ us hl => match us, hl with | [_, _], _ => rfl
theorem b_Ratio_rmul (T : Tx K mg) : Binds K (fdOf K (ma K (ga K "Ratio") "__rmul__")) ["self", "other"] [] := T.F_Ratio_rmul.bindsN fun _ _ _ _ _ _ us hl => match us, hl with | [_, _], _ => rfl
theorem b_Ratio_neg (T : Tx K mg) : Binds K (fdOf K (ma K (ga K "Ratio") "__neg__")) ["self"] [] := T.F_Ratio_neg.bindsN fun _ _ _ _ _ _ us hl => match us, hl with | [_], _ => rfl
theorem b_Ratio_over (T : Tx K mg) : Binds K (fdOf K (ma K (ga K "Ratio") "over")) ["self", "other"] [] := T.F_Ratio_over.bindsN fun _ _ _ _ _ _ us hl => match us, hl with | [_, _], _ => rfl
theorem b_Ratio_unsigned (T : Tx K mg) : Binds K (fdOf K (ma K (ga K "Ratio") "unsigned")) ["self"] [] := T.F_Ratio_unsigned.bindsN fun _ _ _ _ _ _ us hl => match us, hl with | [_], _ => rfl
theorem b_Ratio_is_below (T : Tx K mg) : Binds K (fdOf K (ma K (ga K "Ratio") "is_below")) ["self", "other"] [] := T.F_Ratio_is_below.bindsN fun _ _ _ _ _ _ us hl => match us, hl with | [_, _], _ => rfl
theorem b_Ratio_is_at_most (T : Tx K mg) : Binds K (fdOf K (ma K (ga K "Ratio") "is_at_most")) ["self", "other"] [] := T.F_Ratio_is_at_most.bindsN fun _ _ _ _ _ _ us hl => match us, hl with | [_, _], _ => rfl
theorem b_Ratio_total (T : Tx K mg) : Binds K (fdOf K (cmG K "Ratio" "total")) ["cls", "numbers"] [] := T.F_Ratio_total.bindsN fun _ _ _ _ _ _ us hl => match us, hl with | [_, _], _ => rfl
theorem b_Ratio_eq (T : Tx K mg) : Binds K (fdOf K (ma K (ga K "Ratio") "__eq__")) ["self", "other"] [] := T.F_Ratio_eq.bindsN fun _ _ _ _ _ _ us hl => match us, hl with | [_, _], _ => rfl
theorem b_Ratio_str (T : Tx K mg) : Binds K (fdOf K (ma K (ga K "Ratio") "__str__")) ["self"] [] := T.F_Ratio_str.bindsN fun _ _ _ _ _ _ us hl => match us, hl with | [_], _ => rfl
theorem b_Ratio_repr (T : Tx K mg) : Binds K (fdOf K (ma K (ga K "Ratio") "__repr__")) ["self"] [] := T.F_Ratio_repr.bindsN fun _ _ _ _ _ _ us hl => match us, hl with | [_], _ => rfl
theorem b_is_number (T : Tx K mg) : Binds K (fdOf K (ga K "is_number")) ["value"] [] := T.F_is_number.bindsN fun _ _ _ _ _ _ us hl => match us, hl with | [_], _ => rfl
theorem b_as_ratio (T : Tx K mg) : Binds K (fdOf K (ga K "as_ratio")) ["number"] [] := T.F_as_ratio.bindsN fun _ _ _ _ _ _ us hl => match us, hl with | [_], _ => rfl
theorem b_without_bottoms (T : Tx K mg) : Binds K (fdOf K (ga K "without_bottoms")) ["row"] [] := T.F_without_bottoms.bindsN fun _ _ _ _ _ _ us hl => match us, hl with | [_], _ => rfl
theorem b_pivot_from (T : Tx K mg) : Binds K (fdOf K (ga K "pivot_from")) ["rows", "first", "place"] [] := T.F_pivot_from.bindsN fun _ _ _ _ _ _ us hl => match us, hl with | [_, _, _], _ => rfl
theorem b_cleared (T : Tx K mg) : Binds K (fdOf K (ga K "cleared")) ["row", "place", "pivot", "last"] [] := T.F_cleared.bindsN fun _ _ _ _ _ _ us hl => match us, hl with | [_, _, _, _], _ => rfl
theorem b_reduced (T : Tx K mg) : Binds K (fdOf K (ga K "reduced")) ["rows"] [] := T.F_reduced.bindsN fun _ _ _ _ _ _ us hl => match us, hl with | [_], _ => rfl
theorem b_numbers_from (T : Tx K mg) : Binds K (fdOf K (ga K "numbers_from")) ["value", "least", "most"] [] := T.F_numbers_from.bindsN fun _ _ _ _ _ _ us hl => match us, hl with | [_, _, _], _ => rfl
theorem b_rows_from (T : Tx K mg) : Binds K (fdOf K (ga K "rows_from")) ["value", "most", "least_wide", "most_wide"] [] := T.F_rows_from.bindsN fun _ _ _ _ _ _ us hl => match us, hl with | [_, _, _, _], _ => rfl
theorem b_grid_from (T : Tx K mg) : Binds K (fdOf K (ga K "grid_from")) ["value"] [] := T.F_grid_from.bindsN fun _ _ _ _ _ _ us hl => match us, hl with | [_], _ => rfl
theorem b_need_grid (T : Tx K mg) : Binds K (fdOf K (ga K "need_grid")) ["value"] [] := T.F_need_grid.bindsN fun _ _ _ _ _ _ us hl => match us, hl with | [_], _ => rfl
theorem b_steps (T : Tx K mg) : Binds K (fdOf K (ga K "steps")) ["grid"] [] := T.F_steps.bindsN fun _ _ _ _ _ _ us hl => match us, hl with | [_], _ => rfl
theorem b_rank (T : Tx K mg) : Binds K (fdOf K (ga K "rank")) ["grid"] [] := T.F_rank.bindsN fun _ _ _ _ _ _ us hl => match us, hl with | [_], _ => rfl
theorem b_law_pot (T : Tx K mg) : Binds K (fdOf K (ga K "_law_pot")) ["_law_script", "_law_k"] [] := T.F_law_pot.bindsN fun _ _ _ _ _ _ us hl => match us, hl with | [_, _], _ => rfl
theorem b_law_draw (T : Tx K mg) : Binds K (fdOf K (ga K "_law_draw")) ["_law_pot_here", "_law_size"] [] := T.F_law_draw.bindsN fun _ _ _ _ _ _ us hl => match us, hl with | [_, _], _ => rfl
theorem b_law_pick (T : Tx K mg) : Binds K (fdOf K (ga K "_law_pick")) ["_law_pot_here", "_law_some"] [] := T.F_law_pick.bindsN fun _ _ _ _ _ _ us hl => match us, hl with | [_, _], _ => rfl
theorem b_law_low (T : Tx K mg) : Binds K (fdOf K (ga K "_law_low")) ["_law_top", "_law_bottom"] [] := T.F_law_low.bindsN fun _ _ _ _ _ _ us hl => match us, hl with | [_, _], _ => rfl
theorem b_law_sum (T : Tx K mg) : Binds K (fdOf K (ga K "_law_sum")) ["_law_one", "_law_other"] [] := T.F_law_sum.bindsN fun _ _ _ _ _ _ us hl => match us, hl with | [_, _], _ => rfl
theorem b_law_by (T : Tx K mg) : Binds K (fdOf K (ga K "_law_by")) ["_law_one", "_law_other"] [] := T.F_law_by.bindsN fun _ _ _ _ _ _ us hl => match us, hl with | [_, _], _ => rfl
theorem b_law_less (T : Tx K mg) : Binds K (fdOf K (ga K "_law_less")) ["_law_one", "_law_other"] [] := T.F_law_less.bindsN fun _ _ _ _ _ _ us hl => match us, hl with | [_, _], _ => rfl
theorem b_law_over (T : Tx K mg) : Binds K (fdOf K (ga K "_law_over")) ["_law_one", "_law_other"] [] := T.F_law_over.bindsN fun _ _ _ _ _ _ us hl => match us, hl with | [_, _], _ => rfl
theorem b_law_passed (T : Tx K mg) : Binds K (fdOf K (ga K "_law_passed")) ["_law_pot_here", "_law_pair"] [] := T.F_law_passed.bindsN fun _ _ _ _ _ _ us hl => match us, hl with | [_, _], _ => rfl
theorem b_law_given (T : Tx K mg) : Binds K (fdOf K (ga K "_law_given")) ["_law_pot_here", "_law_rows_here"] [] := T.F_law_given.bindsN fun _ _ _ _ _ _ us hl => match us, hl with | [_, _], _ => rfl
theorem b_law_pairs (T : Tx K mg) : Binds K (fdOf K (ga K "_law_pairs")) ["_law_value"] [] := T.F_law_pairs.bindsN fun _ _ _ _ _ _ us hl => match us, hl with | [_], _ => rfl
theorem b_law_rows (T : Tx K mg) : Binds K (fdOf K (ga K "_law_rows")) ["_law_value"] [] := T.F_law_rows.bindsN fun _ _ _ _ _ _ us hl => match us, hl with | [_], _ => rfl
theorem b_law_entry (T : Tx K mg) : Binds K (fdOf K (ga K "_law_entry")) ["_law_pot_here"] [] := T.F_law_entry.bindsN fun _ _ _ _ _ _ us hl => match us, hl with | [_], _ => rfl
theorem b_law_grid (T : Tx K mg) : Binds K (fdOf K (ga K "_law_grid")) ["_law_pot_here", "_law_many", "_law_wide"] [] := T.F_law_grid.bindsN fun _ _ _ _ _ _ us hl => match us, hl with | [_, _, _], _ => rfl
theorem b_law_lowered (T : Tx K mg) : Binds K (fdOf K (ga K "_law_lowered")) ["_law_row", "_law_head", "_law_place"] [] := T.F_law_lowered.bindsN fun _ _ _ _ _ _ us hl => match us, hl with | [_, _, _], _ => rfl
theorem b_law_steps (T : Tx K mg) : Binds K (fdOf K (ga K "_law_steps")) ["_law_rows_here"] [] := T.F_law_steps.bindsN fun _ _ _ _ _ _ us hl => match us, hl with | [_], _ => rfl
theorem b_law_shuffled (T : Tx K mg) : Binds K (fdOf K (ga K "_law_shuffled")) ["_law_pot_here", "_law_some"] [] := T.F_law_shuffled.bindsN fun _ _ _ _ _ _ us hl => match us, hl with | [_, _], _ => rfl
theorem b_law_scaled (T : Tx K mg) : Binds K (fdOf K (ga K "_law_scaled")) ["_law_row", "_law_number"] [] := T.F_law_scaled.bindsN fun _ _ _ _ _ _ us hl => match us, hl with | [_, _], _ => rfl
theorem b_law_grid_right (T : Tx K mg) : Binds K (fdOf K (ga K "_law_grid_right")) ["_law_pot_here", "_law_rows_here"] [] := T.F_law_grid_right.bindsN fun _ _ _ _ _ _ us hl => match us, hl with | [_, _], _ => rfl
theorem b_law_right (T : Tx K mg) : Binds K (fdOf K (ga K "_law_right")) ["_law_pot_here"] [] := T.F_law_right.bindsN fun _ _ _ _ _ _ us hl => match us, hl with | [_], _ => rfl
theorem b_law (T : Tx K mg) : Binds K (fdOf K (ga K "law")) ["_law_script"] [] := T.F_law.bindsN fun _ _ _ _ _ _ us hl => match us, hl with | [_], _ => rfl
end
end K12

set_option Elab.async false
set_option linter.all false
set_option maxRecDepth 100000
set_option maxHeartbeats 2000000
namespace Own
open PySem PySem.Spec PyProof.Rows L2
open PySem.W (Frag)
/-! ### repr of lists and tuples that hold own objects -/
section
variable {M : Model} {A : Around} {E : Value → Shared → Prop} {s : Shared} {K : Frag} {C x f : Addr} {ox od : Obj}
theorem ifBoundBy_K {name : Str} {last : Value → List Value → Sem Value} {Q : Option Value → Shared → Prop} (X : K.In s.heap) (J : PySem.W.InstAt s.heap x ox C (some od)) (hs : PySem.W.findIn K (.ref C) name = some (some (.ref f)))
    (hf : PySem.W.isFn K (.ref f) = true) (h : wpAny M A (last (.ref f) [.ref x]) (fun v => Q (some v)) E s) : wpAny M A (callSpecialIfBoundBy? last (.ref x) name) Q E s := by
  have ht : PySem.W.typeIn K (.ref f) = some (.type "function") := by
    unfold PySem.W.isFn at hf
    exact beq_iff_eq.mp hf
  simp only [callSpecialIfBoundBy?, bindSpecialIfBound?]
  refine wpAny_holding (wpAny_bind (wpAny_bind (wpAny_bind (J.type.here ((PySem.W.looks_findIn X hs).here ?_)))))
  refine wpAny_bind (wpAny_askSetting (wpAny_ite ?_))
  have fin : wpAny M A (last (.ref f) [.ref x] >>= fun v => pure (some v)) Q E s := wpAny_bind (wpAny_mono h (fun v s' h' => wpAny_pure h') fun _ _ h' => h')
  have bd : ∀ {Z : Value × List Value → Shared → Prop} {E2 : Value → Shared → Prop}, Z (.ref f, [.ref x]) s → wpAny M A (bindSpecial (.ref f) (.ref x)) Z E2 s := by
    intro Z E2 z
    unfold bindSpecial
    refine wpAny_bind ((PySem.W.looks_typeIn X ht).here ?_)
    have e : ((Value.type "function" == Value.type "function" || Value.type "function" == Value.type "method_descriptor" || Value.type "function" == Value.type "wrapper_descriptor") = true) := by simp
    rw [if_pos e]
    exact wpAny_pure z
  split
  · exact wpAny_bind (bd (wpAny_pure (by exact fin)))
  · exact wpAny_tryCatch (wpAny_bind (bd (wpAny_pure (by exact fin))))
/-- the own __repr__ beneath another one -/
theorem reprUnder_K {b : Nat} {Q : Value → Shared → Prop} (hu : A.units < cLine) (X : K.In s.heap) (J : PySem.W.InstAt s.heap x ox C (some od)) (hs : PySem.W.findIn K (.ref C) "__repr__" = some (some (.ref f)))
    (hf : PySem.W.isFn K (.ref f) = true) (h : wpAny M A (call (.ref f) [.ref x]) (fun v s' => ∃ t u, v = .str t u ∧ Q (.str t u) s') E s) : wpAny M A (pyReprObjUnder b (.ref x)) Q E s := by
  unfold pyReprObjUnder pyReprObjBy
  refine wpAny_bind (wpAny_cRoomFor hu ?_)
  refine wpAny_bind (wpAny_bind (J.type.here ((PySem.W.looks_findIn X hs).here ?_)))
  simp only [Option.isNone_some, Bool.false_eq_true, if_false]
  refine wpAny_bind (ifBoundBy_K X J hs hf ?_)
  refine wpAny_mono (show wpAny M A (call (.ref f) [.ref x]) _ E s from h) (fun v s' z => ?_) fun _ _ e => e
  obtain ⟨t, u, rfl, q⟩ := z
  refine wpAny_bind (wpAny_isInstance (T := "str") (b := true) rfl rfl ?_)
  exact wpAny_pure q
end
/-- x shows t in H; the lists and tuples within are as -/
abbrev Shw := V → Str → List Addr → Hp → Prop
def MonT (D : Shw) : Prop := ∀ x t as H H', Ext H H' → D x t as H → D x t as H'
def RepG (X : Cx) (n : Nat) (D : Shw) : Prop := ∀ (A : Around) (g : List Code) (pins : List (Addr × Obj)) (s : Shared) (σ : L2.St) (H : Hp) (x : V) (t : Str) (as : List Addr) (u : Value) (base : Nat),
  Sub X n A → A.guards = some g → (∀ b, b ∈ as → Clear g b) → Inv X pins σ H s → RelV x u → D x t as H → base + t.length ≤ sizeLine →
  wpAny (model X.prog X.w) A (pyReprUnder base u) (fun z s' => z = t ∧ ∃ H', Inv X pins σ H' s' ∧ Ext H H') X.xe s
section
variable {X : Cx}
theorem MonT.or {D D2 : Shw} (a : MonT D) (b : MonT D2) : MonT fun x t as H => D x t as H ∨ D2 x t as H := fun x t as H H' e h => h.imp (a x t as H H' e) (b x t as H H' e)
theorem RepG.or {n : Nat} {D D2 : Shw} (a : RepG X n D) (b : RepG X n D2) : RepG X n fun x t as H => D x t as H ∨ D2 x t as H := fun A g pins s σ H x t as u base S hg hc I rx d hb => by
  rcases d with d | d
  · exact a A g pins s σ H x t as u base S hg hc I rx d hb
  · exact b A g pins s σ H x t as u base S hg hc I rx d hb
theorem RepG.mono {n m : Nat} {D : Shw} (a : RepG X n D) (k : n ≤ m) : RepG X m D := fun A g pins s σ H x t as u base S hg hc I rx d hb => a A g pins s σ H x t as u base (S.mono k) hg hc I rx d hb
/-- whole numbers -/
def DInt : Shw := fun x t _ _ => ∃ i : Int, x = .int i ∧ t = Str.ofString (toString i) ∧ i.natAbs.log2 < 1920
theorem monT_int : MonT DInt := fun _ _ _ _ _ _ h => h
theorem repG_int {n : Nat} : RepG X n DInt := by
  rintro A g pins s σ H x t as u base S hg hc I rx ⟨i, rfl, rfl, hi⟩ hb
  obtain ⟨k, rfl⟩ := (show ∃ k, u = Value.int i k from rx)
  exact ReprIs.int k hi base hb A _ s _ fun tk => ⟨rfl, H, I.tok tk, Ext.rfl'⟩
/-- own objects -/
def spTell (RT : Addr → Str → Hp → Prop) : Sp := fun vs H Q _ => ∃ a t, vs = [.ref a] ∧ RT a t H ∧ ∀ H', Ext H H' → Q (.str t) H'
def DOwn (C : Addr) (RT : Addr → Str → Hp → Prop) : Shw := fun x t _ H => ∃ a dx fs, x = .ref a ∧ H a = some (.ins C dx fs) ∧ RT a t H
theorem monT_own {C : Addr} {RT : Addr → Str → Hp → Prop} (m : ∀ a t H H', Ext H H' → RT a t H → RT a t H') : MonT (DOwn C RT) := fun x t as H H' e ⟨a, dx, fs, h1, h2, h3⟩ => ⟨a, dx, fs, h1, e _ _ h2, m _ _ _ _ e h3⟩
theorem repG_own {CX : CXT} {n : Nat} {C f : Addr} {fd : FuncData} {ps : List Str} {RT : Addr → Str → Hp → Prop} {E : XK} (F : FnOk X.prog X.w X.K X.mg X.base CX n f fd ps (spTell RT))
    (k : PySem.W.findIn X.K (.ref C) "__repr__" = some (some (.ref f))) (kf : PySem.W.isFn X.K (.ref f) = true) (hb : Binds X.K fd ps []) (hx : Passes CX X E) : RepG X n (DOwn C RT) := by
  rintro A g pins s σ H x t as u base S hg hc I rx ⟨a, dx, fs, rfl, ha, rt⟩ hbs
  cases (show u = Value.ref a from rx)
  obtain ⟨mA, O, _⟩ := ins_get I.hok ha
  obtain ⟨od, J, _⟩ := O.look
  refine wpAny_pyReprUnder_ref (by omega) ?_
  refine reprUnder_K (by have := S.room.un; omega) I.kIn J k kf ?_
  have q : spTell RT [.ref a] H (fun v H2 => v = .str t ∧ Ext H H2) E := ⟨a, t, rfl, rt, fun H' e => ⟨rfl, e⟩⟩
  have e0 := I.env0
  have env : Env0 X.prog X.w X.K X.mg X.base A X.stack s H := ⟨S.fr.trans e0.frames, e0.mod, e0.bs, e0.bsz, e0.funs, e0.frf, e0.hok, e0.bare⟩
  refine wpAny_mono (wpAny_call (codeAny_mono (F.run A X.stack s H ⟨[.ref a], []⟩ _ [.ref a] _ E S.room env (hb s [.ref a] I.kIn (F.len _ _ _ _ q)) (.cons rfl .nil) q) fun r s2 z => bk_of hx I z)) (fun v s2 z => ?_) fun _ _ e => e
  obtain ⟨z1, H2, I2, rz, rfl, ez⟩ := z
  obtain ⟨tk, rfl⟩ := (show ∃ tk, v = Value.str t tk from rz)
  exact ⟨t, tk, rfl, t, tk, rfl, rfl, H2, I2, ez⟩
/-! ### lists -/
theorem sub_under {n : Nat} {A : Around} (S : Sub X (n + 1) A) (args : Args) : Sub X n (A.under (.builtin "list.__repr__.loop" args)) := by
  refine ⟨⟨S.room.hd, ?_, ?_⟩, S.fr⟩
  · have := S.room.dp
    show A.depth + Code.weight _ + 3 * n + 5 < _
    have w : Code.weight (.builtin "list.__repr__.loop" args) = 1 := by
      unfold Code.weight
      rw [isGuard_list_loop]
      rfl
    rw [w]
    omega
  · have := S.room.un
    rw [units_under_list_loop]
    omega
theorem strs_of : ∀ {ts : List Str} {us : List Value}, Vals (ts.map V.str) us → ∃ l : List (Str × Tok), us = strValues l ∧ l.map (·.1) = ts
  | [], _, .nil => ⟨[], rfl, rfl⟩
  | t :: ts, _, .cons (b := b) r h => by
    obtain ⟨tk, rfl⟩ := (show ∃ tk, b = Value.str t tk from r)
    obtain ⟨l, rfl, e⟩ := strs_of h
    exact ⟨(t, tk) :: l, rfl, by rw [List.map_cons, e]⟩
end
end Own

set_option Elab.async false
set_option linter.all false
set_option maxRecDepth 100000
set_option maxHeartbeats 2000000
namespace Own
open PySem PySem.Spec PyProof.Rows L2
open PySem.W (Frag)
section
variable {X : Cx}
theorem lst_get {P : Program} {w : World} {H : Hp} {h : Heap} {a : Addr} {xs : List V} (k : HOk P w H h) (e : H a = some (.lst xs)) :
    xs.length ≤ sizeLine ∧ ∃ its n, Vals xs its ∧ h.get? a = some { cls := Value.type "list", data := Data.seq its.toArray n } := by
  have o := k a _ e
  simp only [ObjOk] at o
  exact o
theorem rep_loop {n : Nat} {D : Shw} (h : RepG X n D) (mon : MonT D) {A : Around} {g : List Code} {a P : Addr} {xs : List V} {ts : List Str} {as : List Addr} {base : Nat} {R : Result → Shared → Prop} {pins : List (Addr × Obj)} {σ : L2.St} {H : Hp}
    (S : Sub X (n + 1) A) (hg : A.guards = some g) (hca : a ∉ as) (hc : ∀ b, b ∈ as → Clear g b) (hlen : ts.length = xs.length) (hD : ∀ (i : Nat) x, xs[i]? = some x → ∃ t, ts[i]? = some t ∧ D x t as H)
    (hb : base + (listText ts).length ≤ sizeLine) (ha : H a = some (.lst xs)) (hP : H P = none)
    (hR : ∀ H' s' u, Inv X pins σ H' s' → Ext H H' → R (.ok (.ret (.str (listText ts) u))) s') (hE : ∀ e s', X.xe e s' → R (.error e) s') :
    ∀ (k i : Nat) (s : Shared) (H1 : Hp), xs.length - i = k → i ≤ xs.length → Inv X pins σ H1 s → Ext H H1 → H1 P = some (.lst ((ts.take i).map V.str)) →
      codeAny (model X.prog X.w) A (.builtin "list.__repr__.loop" ⟨[.ref a, rawInt (i : Nat), .ref P, rawInt ((base + piled (ts.take i) : Nat))], []⟩) R s := by
  intro k
  induction k with
  | zero =>
    intro i s H1 hk hi I ex hp
    have e : i = xs.length := by omega
    subst e
    rw [← hlen] at hp ⊢
    rw [List.take_length] at hp ⊢
    obtain ⟨_, its, na, _, ga⟩ := lst_get I.hok (ex _ _ ha)
    obtain ⟨lp, ips, np, vp, gp⟩ := lst_get I.hok hp
    obtain ⟨l, rfl, el⟩ := strs_of vp
    have hits : its.length = ts.length := by
      rename_i v
      rw [hlen]
      exact v.length.symm
    refine codeAny_builtin F.entry_list_repr_loop ?_
    show wpAny _ _ (Builtin.«list.__repr__.loop» { pos := [Value.ref a, Value.int ((ts.length : Nat) : Int) 0, Value.ref P, Value.int ((base + piled ts : Nat) : Int) 0] }) _ _ s
    rw [repr_loop_tree]
    refine wpAny_bind (wpAny_listItems ga rfl ?_)
    have e1 : its.toArray[(((ts.length : Nat) : Int)).toNat]? = none := by
      rw [Int.toNat_natCast]
      simp [hits]
    rw [e1]
    show wpAny _ _ (reprEnd (.ref P)) _ _ s
    unfold reprEnd
    refine wpAny_bind (wpAny_listItems gp rfl ?_)
    have e2 : (forIn (strValues l).toArray.toList.zipIdx (Str.ofString "[") reprBody : Sem Str) = pure (textFrom 0 (Str.ofString "[") (l.map (·.1))) := repr_fold l 0 _
    rw [e2, el]
    refine wpAny_bind (wpAny_pure ?_)
    unfold retStr
    refine wpAny_bind (wpAny_mkStr ?_ (by show (listText ts).length ≤ sizeLine; omega))
    refine wpAny_pure ?_
    exact hR H1 _ _ (I.tok _) ex
  | succ k ih =>
    intro i s H1 hk hi I ex hp
    have hi2 : i < xs.length := by omega
    obtain ⟨_, its, na, va, ga⟩ := lst_get I.hok (ex _ _ ha)
    obtain ⟨lp, ips, np, vp, gp⟩ := lst_get I.hok hp
    have hx : xs[i]? = some xs[i] := List.getElem?_eq_getElem hi2
    obtain ⟨u, hu, ru⟩ := va.get hx
    obtain ⟨t, ht, hd⟩ := hD i _ hx
    have pl := piled_take_succ ht
    have ple := piled_take_le ts (i + 1)
    have ple2 := piled_le_listText ts
    refine codeAny_builtin F.entry_list_repr_loop ?_
    show wpAny _ _ (Builtin.«list.__repr__.loop» { pos := [Value.ref a, Value.int ((i : Nat) : Int) 0, Value.ref P, Value.int ((base + piled (ts.take i) : Nat) : Int) 0] }) _ _ s
    rw [repr_loop_tree]
    refine wpAny_bind (wpAny_listItems ga rfl ?_)
    have e1 : its.toArray[((i : Nat) : Int).toNat]? = some u := by
      rw [Int.toNat_natCast]
      simpa using hu
    rw [e1]
    simp only [Int.toNat_natCast]
    have hc2 : ∀ b, b ∈ as → Clear (Code.builtin "list.__repr__.loop" ⟨[.ref a, rawInt ((i : Nat) : Int), .ref P, rawInt ((base + piled (ts.take i) : Nat) : Int)], []⟩ :: g) b := by
      intro b hbm id v rest kw hm
      rcases List.mem_cons.mp hm with e | e
      · injection e with e1 e2
        injection e2 with e3 e4
        injection e3 with e5 e6
        rw [e5]
        intro z
        injection z with z2
        exact hca (z2 ▸ hbm)
      · exact hc b hbm id v rest kw e
    refine wpAny_bind (wpAny_holding (wpAny_mono (h _ _ pins s σ H1 _ t as u _ (sub_under S _) (guards_under_guard (isGuard_list_loop _) hg) hc2 I ru (mon _ _ _ _ _ ex hd) (by omega)) (fun z s2 hz => ?_) fun e s2 z => hE e s2 z))
    obtain ⟨rfl, H2, I2, ex2⟩ := hz
    have hp2 := ex2 _ _ hp
    obtain ⟨lp2, ips2, np2, vp2, gp2⟩ := lst_get I2.hok hp2
    refine wpAny_bind (wpAny_mkStr ?_ (by omega))
    have szp : ips2.length = i := by
      rw [← vp2.length, List.length_map, List.length_take]
      omega
    refine wpAny_bind (wpAny_updateSeq (o := { cls := Value.type "list", data := Data.seq ips2.toArray np2 }) gp2 rfl ?_ (by simpa [szp] using (by omega : i ≤ sizeLine)) (by simp [szp]; omega))
    refine wpAny_pure ⟨F.quiet_list_repr_loop _, ?_⟩
    have tk1 : (ts.take (i + 1)).map V.str = (ts.take i).map V.str ++ [V.str z] := by
      rw [List.take_succ, ht]
      simp
    have q := ih (i + 1) { heap := s2.heap.update P (Obj.mapSeq fun x => x.push (Value.str z s2.toks)), gens := s2.gens, drawn := s2.drawn, toks := s2.toks + 1, os := s2.os } (upd H2 P (.lst ((ts.take (i + 1)).map V.str))) (by omega) (by omega)
      (Inv.write I2 (x := P) (e := P) (by rw [hp2]; trivial) (.inl rfl) (fun b u hbp e => by rw [Heap.get?_update_ne _ _ _ _ hbp]; exact e) ?_ ?_) (fun b o e => ?_) upd_same
    · rw [pl, ← Nat.add_assoc] at q
      exact q
    · exact ⟨_, Heap.get?_update_self _ gp2 rfl⟩
    · simp only [ObjOk]
      refine ⟨?_, ips2 ++ [Value.str z s2.toks], ?_⟩
      · rw [tk1]
        simp
        omega
      · refine ⟨np2 + 1, ?_, ?_⟩
        · rw [tk1]
          exact vp2.append (.cons ⟨_, rfl⟩ .nil)
        · rw [Heap.get?_update_self _ gp2 rfl]
          simp [Obj.mapSeq]
    · have nb : b ≠ P := fun z => by rw [z, hP] at e; cases e
      rw [upd_ne nb]
      exact ex2 _ _ (ex _ _ e)
/-- a list that isn't within itself -/
def DLst (D : Shw) : Shw := fun x t as H => ∃ a xs ts bs, x = .ref a ∧ t = listText ts ∧ (∀ b, b ∈ a :: bs → b ∈ as) ∧ a ∉ bs ∧ H a = some (.lst xs) ∧ ts.length = xs.length ∧ ∀ (i : Nat) y, xs[i]? = some y → ∃ t, ts[i]? = some t ∧ D y t bs H
theorem monT_lst {D : Shw} (m : MonT D) : MonT (DLst D) := fun x t as H H' e ⟨a, xs, ts, bs, h1, h2, h3, h4, h5, h6, h7⟩ => ⟨a, xs, ts, bs, h1, h2, h3, h4, e _ _ h5, h6, fun i y ey => let ⟨t, z1, z2⟩ := h7 i y ey; ⟨t, z1, m _ _ _ _ _ e z2⟩⟩
theorem listText_nil : listText [] = Str.ofString "[]" := by decide +kernel
/-- the list's text, from where its room is checked -/
theorem rep_at {n : Nat} {D : Shw} (h : RepG X n D) (mon : MonT D) {A : Around} {g : List Code} {a : Addr} {xs : List V} {ts : List Str} {as : List Addr} {base : Nat} {R : Result → Shared → Prop} {pins : List (Addr × Obj)} {σ : L2.St} {H : Hp} {s : Shared}
    (S : Sub X (n + 1) A) (hg : A.guards = some g) (hca : a ∉ as) (hc : ∀ b, b ∈ a :: as → Clear g b) (hlen : ts.length = xs.length) (hD : ∀ (i : Nat) x, xs[i]? = some x → ∃ t, ts[i]? = some t ∧ D x t as H)
    (hb : base + (listText ts).length ≤ sizeLine) (ha : H a = some (.lst xs)) (I : Inv X pins σ H s)
    (hR : ∀ H' s' u, Inv X pins σ H' s' → Ext H H' → R (.ok (.ret (.str (listText ts) u))) s') (hE : ∀ e s', X.xe e s' → R (.error e) s') :
    wpAny (model X.prog X.w) A.in1 (Builtin.listReprAt base { pos := [.ref a] }) (fun fin s' => match fin with
      | Fin.done f => R (.ok f) s'
      | Fin.again c' => c'.quiet = true ∧ codeAny (model X.prog X.w) A c' R s') (fun e s' => R (.error e) s') s := by
  obtain ⟨lx, its, na, va, ga⟩ := lst_get I.hok ha
  cases its with
  | nil =>
    cases xs with
    | cons x l => exact nomatch va
    | nil =>
      cases ts with
      | cons t l => simp at hlen
      | nil =>
        refine wpAny_list_repr_empty ga rfl ?_
        rw [← listText_nil]
        exact hR H _ _ (I.tok _) Ext.rfl'
  | cons y l =>
    refine wpAny_list_repr_head (g := g) hg (fun v rest kw hm => listSameRef_of_ne (hc a List.mem_cons_self _ v rest kw hm)) ga rfl ?_
    refine wpAny_bind (wpAny_newList ?_ (by show 0 ≤ sizeLine; omega))
    refine wpAny_pure ⟨F.quiet_list_repr_loop _, ?_⟩
    have hP : H s.heap.objs.size = none := I.fresh
    have q := rep_loop (R := R) h mon S hg hca (fun b hb => hc b (List.mem_cons_of_mem _ hb)) hlen hD hb ha hP hR hE xs.length 0
      { heap := s.heap.push { cls := Value.type "list", data := Data.seq [].toArray }, gens := s.gens, drawn := s.drawn, toks := s.toks, os := s.os } (upd H s.heap.objs.size (.lst [])) (by omega) (by omega)
      (I.laid (fun b u e => Heap.get?_push_of_some _ e) (Nat.le_refl _) ?_) (Ext.upd hP) upd_same
    · exact q
    · simp only [ObjOk]
      exact ⟨by simp, [], 0, .nil, by rw [Heap.get?_push_size _ rfl]⟩
theorem typeIs_lst {P : Program} {w : World} {H : Hp} {s : Shared} {a : Addr} {xs : List V} (k : HOk P w H s.heap) (e : H a = some (.lst xs)) : s.TypeIs (.ref a) "list" := by
  obtain ⟨_, its, na, _, ga⟩ := lst_get k e
  exact ⟨_, ga, rfl⟩
theorem slotG_list : SlotG "list" (Str.ofString "__repr__") "list.__repr__" := F.slot_list_repr.toG
theorem repG_lst {n : Nat} {D : Shw} (h : RepG X n D) (mon : MonT D) : RepG X (n + 1) (DLst D) := by
  rintro A g pins s σ H x t as u base S hg hc I rx ⟨a, xs, ts, bs, rfl, rfl, hsub, hab, ha, hlen, hD⟩ hb
  have hc := fun b hb => hc b (hsub b hb)
  cases (show u = Value.ref a from rx)
  refine wpAny_pyReprUnder_ref (by omega) ?_
  refine wpAny_pyReprObjUnder_twin (T := "list") (id := "list.__repr__") (twin := "list.__repr__.under") (typeIs_lst I.hok ha) slotG_list rfl (by have := S.room.un; omega) ?_
  refine call_twin_plain F.plain_list_repr_under F.entry_list_repr_under F.check_list_repr_under (typeIs_lst I.hok ha) slotG_list (F.args_list_repr_1 _) ?_
  exact rep_at h mon S hg hab hc hlen hD hb ha I (fun H' s' u I' e => ⟨⟨_, _, rfl⟩, _, _, rfl, rfl, H', I', e⟩) fun e s' z => z
/-- repr of a list -/
def rReprG (D : Shw) : List V → Hp → VK → Prop := fun xs H Q => ∃ x t as, xs = [x] ∧ DLst D x t as H ∧ t.length ≤ sizeLine ∧ ∀ H', Ext H H' → Q (.str t) H'
theorem cg_reprG {n : Nat} {D : Shw} (h : RepG X n D) (mon : MonT D) (gg : X.A.guards = some []) (hr : Room (n + 2) X.A) : CallR X (.builtin "repr") (rReprG D) := by
  rintro pins s σ H xs us Q I r ⟨x, t, as, rfl, ⟨a, xs, ts, bs, rfl, rfl, hsub, hab, ha, hlen, hD⟩, hl, q⟩
  obtain ⟨u, rfl, ru⟩ := r.one
  cases (show u = Value.ref a from ru)
  refine call_repr_slot (T := "list") (by have := hr.un; omega) (typeIs_lst I.hok ha) slotG_list ?_
  refine GQ.call_here F.slot_list_repr (typeIs_lst I.hok ha) F.entry_list_repr (F.args_list_repr_1 _) ?_
  have S : Sub X (n + 1) X.A.in1 := ⟨hr.in1, rfl⟩
  exact rep_at (base := 0) h mon S gg hab (fun b _ id v rest kw hm => nomatch hm) hlen hD (by omega) ha I (fun H' s' u I' e => ⟨_, _, rfl, .str _, H', I', ⟨_, rfl⟩, q H' e⟩) fun e s' z => z
end
end Own

set_option Elab.async false
set_option linter.all false
set_option maxRecDepth 100000
set_option maxHeartbeats 2000000
namespace Own
open PySem PySem.Spec PyProof.Rows L2
open PySem.W (Frag)
section
variable {X : Cx}
/-! ### tuples -/
theorem tup_get {P : Program} {w : World} {H : Hp} {h : Heap} {a : Addr} {xs : List V} (k : HOk P w H h) (e : H a = some (.tup xs)) :
    xs.length ≤ sizeLine ∧ ∃ its, Vals xs its ∧ IsTup h a its.toArray := by
  have o := k a _ e
  simp only [ObjOk] at o
  exact o
def DTpl (D : Shw) : Shw := fun x t as H => ∃ a xs ts bs, x = .ref a ∧ t = tupleText ts ∧ (∀ b, b ∈ a :: bs → b ∈ as) ∧ a ∉ bs ∧ H a = some (.tup xs) ∧ ts.length = xs.length ∧ ∀ (i : Nat) y, xs[i]? = some y → ∃ t, ts[i]? = some t ∧ D y t bs H
theorem monT_tpl {D : Shw} (m : MonT D) : MonT (DTpl D) := fun x t as H H' e ⟨a, xs, ts, bs, h1, h2, h3, h4, h5, h6, h7⟩ => ⟨a, xs, ts, bs, h1, h2, h3, h4, e _ _ h5, h6, fun i y ey => let ⟨t, z1, z2⟩ := h7 i y ey; ⟨t, z1, m _ _ _ _ _ e z2⟩⟩
theorem sub_underT {n : Nat} {A : Around} (S : Sub X (n + 1) A) (args : Args) : Sub X n (A.under (.builtin "tuple.__repr__.under" args)) := by
  refine ⟨⟨S.room.hd, ?_, ?_⟩, S.fr⟩
  · have := S.room.dp
    show A.depth + Code.weight _ + 3 * n + 5 < _
    have w : Code.weight (.builtin "tuple.__repr__.under" args) = 1 := by
      unfold Code.weight
      rw [isGuard_tuple_repr_under]
      rfl
    rw [w]
    omega
  · have := S.room.un
    rw [units_under_tuple_repr_under]
    omega
theorem slotG_tuple : SlotG "tuple" (Str.ofString "__repr__") "tuple.__repr__" := F.slot_tuple_repr
theorem repG_tpl {n : Nat} {D : Shw} (h : RepG X n D) (mon : MonT D) : RepG X (n + 1) (DTpl D) := by
  rintro A g pins s σ H x t as u base S hg hc I rx ⟨a, xs, ts, bs, rfl, rfl, hsub, hab, ha, hlen, hD⟩ hb
  have hc := fun b hb => hc b (hsub b hb)
  cases (show u = Value.ref a from rx)
  obtain ⟨lx, its, va, hT⟩ := tup_get I.hok ha
  obtain ⟨oa, ga, hcls, na, hdat⟩ := hT
  have hty : s.TypeIs (.ref a) "tuple" := ⟨_, ga, hcls⟩
  refine wpAny_pyReprUnder_ref (by omega) ?_
  refine wpAny_pyReprObjUnder_twin (T := "tuple") (id := "tuple.__repr__") (twin := "tuple.__repr__.under") hty slotG_tuple rfl (by have := S.room.un; omega) ?_
  refine call_twin_own (F.quiet_tuple_repr_under _) F.entry_tuple_repr_under F.check_tuple_repr_under hty slotG_tuple (F.args_tuple_repr_1 _) ?_
  generalize hc0 : Code.builtin "tuple.__repr__.under" { pos := [Value.ref a, rawInt ((base : Nat) : Int)] } = c
  have S2 : Sub X n (A.under c) := by rw [← hc0]; exact sub_underT S _
  have hg2 : (A.under c).guards = some (c :: g) := by rw [← hc0]; exact guards_under_guard (isGuard_tuple_repr_under _) hg
  have hc2 : ∀ b, b ∈ bs → Clear (c :: g) b := by
    intro b hbm id v rest kw hm
    rcases List.mem_cons.mp hm with e | e
    · rw [← hc0] at e
      injection e with e1 e2
      injection e2 with e3 e4
      injection e3 with e5 e6
      rw [e5]
      intro z
      injection z with z2
      exact hab (z2 ▸ hbm)
    · exact hc b (List.mem_cons_of_mem _ hbm) id v rest kw e
  have hcl : g.any (fun c => tupGuardF (.ref a) (c, default)) = false := by
    rw [List.any_eq_false]
    intro c' hm
    rw [tupGuardF_of_clear (hc a List.mem_cons_self) c' hm]
    exact Bool.false_ne_true
  have ple2 := piled_le_tupleText ts
  rw [tuple_repr_tree, tupleReprUnderWay_eq]
  refine wpOwn_bind (wpOwn_stackTailAny hg (fun c p e => tupGuardF_off _ _ _ e) (fun c p => tupGuardF_pos _ _ _) ?_)
  rw [hcl]
  simp only [Bool.false_eq_true, if_false]
  refine wpOwn_of_wpAny ?_
  unfold tupleReprRest
  refine wpAny_bind (wpAny_tupleItemsOf ga hdat ?_)
  have hsz : its.length = ts.length := by rw [hlen]; exact va.length.symm
  refine wpAny_bind (wpAny_forIn_array' tupBody (fun rest r s' => ∃ i H', i ≤ ts.length ∧ rest = its.drop i ∧ r = ((ts.take i).toArray, base + piled (ts.take i)) ∧ Inv X pins σ H' s' ∧ Ext H H') _ ?_ ?_ its.toArray (#[], base) ⟨0, H, by omega, rfl, rfl, I, Ext.rfl'⟩)
  · rintro y rest ⟨acc, m⟩ s1 ⟨i, H1, hi, er, e2, I1, ex1⟩
    injection e2 with e3 e4
    subst e3 e4
    have hi2 : i < its.length := by
      rcases Nat.lt_or_ge i its.length with z | z
      · exact z
      · rw [List.drop_eq_nil_of_le z] at er
        cases er
    have er2 := er
    rw [List.drop_eq_getElem_cons hi2] at er2
    injection er2 with ey erest
    have hx : xs[i]? = some xs[i] := List.getElem?_eq_getElem (by omega)
    obtain ⟨u, hu, ru⟩ := va.get hx
    have eu : u = y := by
      rw [List.getElem?_eq_getElem hi2] at hu
      rw [ey]
      exact (Option.some.inj hu).symm
    subst eu
    obtain ⟨t, ht, hd⟩ := hD i _ hx
    have pl := piled_take_succ ht
    have ple := piled_take_le ts (i + 1)
    unfold tupBody
    refine wpAny_bind (wpAny_mono (h _ _ pins s1 σ H1 _ t bs u _ S2 hg2 hc2 I1 ru (mon _ _ _ _ _ ex1 hd) (by show base + piled (ts.take i) + 1 + t.length ≤ _; omega)) (fun z s2 hz => ?_) fun e s2 z => z)
    obtain ⟨rfl, H2, I2, ex2⟩ := hz
    refine wpAny_pure ⟨i + 1, H2, by omega, erest, ?_, I2, ex1.trans ex2⟩
    rw [pl]
    have : (ts.take i).toArray.push z = (ts.take (i + 1)).toArray := by
      rw [List.take_succ, ht]
      simp
    rw [← this]
    show ((ts.take i).toArray.push z, base + piled (ts.take i) + (z.length + 2)) = _
    rw [Nat.add_assoc]
  · rintro ⟨acc, m⟩ s1 ⟨i, H1, hi, er, e2, I1, ex1⟩
    injection e2 with e3 e4
    subst e3 e4
    have hi2 : i = ts.length := by
      rcases Nat.lt_or_ge i its.length with z | z
      · rw [List.drop_eq_getElem_cons z] at er
        cases er
      · omega
    subst hi2
    unfold retStr
    have et : Str.ofString "(" ++ (Str.ofString ", ").join (ts.take ts.length).toArray.toList ++ Str.ofString (if (its.toArray.size == 1) = true then ",)" else ")") = tupleText ts := by
      unfold tupleText
      simp [hsz]
    rw [et]
    refine wpAny_bind (wpAny_mkStr ?_ (by omega))
    refine wpAny_pure ?_
    exact ⟨⟨_, _, rfl⟩, _, _, rfl, rfl, H1, I1.tok _, ex1⟩
end
end Own

set_option Elab.async false
set_option linter.all false
set_option maxRecDepth 100000
set_option maxHeartbeats 2000000
namespace Own
open PySem PySem.Spec PyProof.Rows L2
open PySem.W (Frag)
section
variable {X : Cx}
/-- lists of unlike lengths -/
def rLen (c : Bool) : R2 := fun x y H Q => ∃ a b xs ys, x = .ref a ∧ y = .ref b ∧ H a = some (.lst xs) ∧ H b = some (.lst ys) ∧ xs.length ≠ ys.length ∧ Q (.bl c) H
theorem or_r2 {f : Value → Value → Sem Value} {r1 r2 : R2} (a : OpR X f r1) (b : OpR X f r2) : OpR X f fun x y H Q => r1 x y H Q ∨ r2 x y H Q := by
  intro pins s σ H x y v u Q I rx ry h
  rcases h with h | h
  · exact a pins s σ H x y v u Q I rx ry h
  · exact b pins s σ H x y v u Q I rx ry h
theorem op_neLen (hu : X.A.units + 64 < cLine) : OpR X (compareOp .NotEq) (rLen true) := by
  rintro pins s σ H x y v u Q I rx ry ⟨a, b, xs, ys, rfl, rfl, ha, hb, hne, q⟩
  cases (show v = Value.ref a from rx)
  cases (show u = Value.ref b from ry)
  have hTa := typeIs_lst I.hok ha
  have hTb := typeIs_lst I.hok hb
  obtain ⟨_, its, na, va, ga⟩ := lst_get I.hok ha
  obtain ⟨_, its2, nb, vb, gb⟩ := lst_get I.hok hb
  refine PySem.W.cmp_ofNotEq (wpAny_richCompare_same_room (T := "list") (id := "list.__ne__") hTa hTb F.slot_list_ne (GQ.call_here F.slot_list_ne hTa F.entry_list_ne (F.args_list_ne_2 _ _) ?_) (by omega))
  have hsz : (its.toArray.size != its2.toArray.size) = true := by
    have l1 := va.length
    have l2 := vb.length
    simp
    omega
  unfold Builtin.«list.__ne__»
  refine wpAny_bind (m := slotArgs "__ne__" 1 _) (wpAny_pure ?_)
  dsimp only
  refine wpAny_bind (wpAny_isInstance (T := "list") (b := true) hTb rfl ?_)
  simp only [Bool.not_true, Bool.false_eq_true, if_false]
  refine wpAny_bind (wpAny_listItems ga rfl ?_)
  refine wpAny_bind (wpAny_listItems gb rfl ?_)
  simp only [hsz, if_true]
  refine wpAny_bind (wpAny_rule ?_)
  refine wpAny_pure ⟨nofun, .bl true, H, I, rfl, q⟩
end
/-! ### comprehensions over zip and enumerate -/
theorem lc_zipL {K : Frag} {a b : Addr} {xs ys : List V} {g : TG} {tt : TT} {te : TE} {vs : List Nat} {σ : L2.St} {H1 : Hp} {D : Addr} {Qd : Hp → Prop} (hl : xs.length = ys.length) (Pv : Nat → Hp → Prop)
    (h0 : Pv 0 (upd H1 D (.lst []))) (hq : ∀ (i : Nat) (H : Hp), i ≤ xs.length → Pv i H → SqL K H a xs ∧ SqL K H b ys)
    (hs : ∀ (i : Nat) (x y : V) (T : Addr) (H : Hp), xs[i]? = some x → ys[i]? = some y → Pv i H → H T = none → g (.ref T) (wipe σ vs) (upd H T (.tup [x, y])) fun σ2 H2 => wipe σ2 vs = wipe σ vs ∧ tt σ2 H2 fun b H3 =>
      if b = true then te σ2 H3 fun y H4 => ∃ acc, H4 D = some (.lst acc) ∧ acc.length < sizeLine ∧ Pv (i + 1) (upd H4 D (.lst (acc ++ [y]))) else Pv (i + 1) H3)
    (hd : ∀ H, Pv xs.length H → Qd H) :
    ∃ W : Nat → Nat → Hp → Prop, (∃ m, W 0 m (upd H1 D (.lst []))) ∧ ∀ (i m : Nat) (H : Hp), W i m H → (Itz K a b).stop i H ∧ Qd H ∨ (Itz K a b).go i H ∧ ∃ Nx : Hp → Prop, (∀ H', Nx H' → ∃ m', m' < m ∧ W (i + 1) m' H') ∧
      ∀ (x : V) (H' : Hp), (Itz K a b).yld i H x H' → g x (wipe σ vs) H' fun σ2 H2 => wipe σ2 vs = wipe σ vs ∧ tt σ2 H2 fun b H3 => if b = true then te σ2 H3 fun y H4 => ∃ acc, H4 D = some (.lst acc) ∧ acc.length < sizeLine ∧ Nx (upd H4 D (.lst (acc ++ [y]))) else Nx H3 := by
  refine ⟨fun i m H => Pv i H ∧ i ≤ xs.length ∧ m = xs.length - i, ⟨_, h0, Nat.zero_le _, rfl⟩, ?_⟩
  rintro i m H ⟨hP, hi, rfl⟩
  obtain ⟨hxa, hyb⟩ := hq i H hi hP
  by_cases h : i < xs.length
  · refine .inr ⟨⟨xs, ys, xs[i], ys[i]'(hl ▸ h), hxa, hyb, List.getElem?_eq_getElem h, List.getElem?_eq_getElem (hl ▸ h)⟩, Pv (i + 1), fun H' h' => ⟨_, ?_, h', by omega, rfl⟩, ?_⟩
    · omega
    · rintro x H' ⟨T, x1, y1, rfl, hT, rfl, e1, e2⟩
      exact hs i x1 y1 T H (e1 xs hxa) (e2 ys hyb) hP hT
  · have e : i = xs.length := by omega
    subst e
    exact .inl ⟨⟨xs, ys, hxa, hyb, .inl (Nat.le_refl _)⟩, hd H hP⟩
theorem lc_enum {K : Frag} {a : Addr} {xs : List V} {g : TG} {tt : TT} {te : TE} {vs : List Nat} {σ : L2.St} {H1 : Hp} {D : Addr} {Qd : Hp → Prop} (Pv : Nat → Hp → Prop)
    (h0 : Pv 0 (upd H1 D (.lst []))) (hq : ∀ (i : Nat) (H : Hp), i ≤ xs.length → Pv i H → SqL K H a xs)
    (hs : ∀ (i : Nat) (x : V) (T : Addr) (H : Hp), xs[i]? = some x → Pv i H → H T = none → g (.ref T) (wipe σ vs) (upd H T (.tup [.int (i : Nat), x])) fun σ2 H2 => wipe σ2 vs = wipe σ vs ∧ tt σ2 H2 fun b H3 =>
      if b = true then te σ2 H3 fun y H4 => ∃ acc, H4 D = some (.lst acc) ∧ acc.length < sizeLine ∧ Pv (i + 1) (upd H4 D (.lst (acc ++ [y]))) else Pv (i + 1) H3)
    (hd : ∀ H, Pv xs.length H → Qd H) :
    ∃ W : Nat → Nat → Hp → Prop, (∃ m, W 0 m (upd H1 D (.lst []))) ∧ ∀ (i m : Nat) (H : Hp), W i m H → (Ite K a).stop i H ∧ Qd H ∨ (Ite K a).go i H ∧ ∃ Nx : Hp → Prop, (∀ H', Nx H' → ∃ m', m' < m ∧ W (i + 1) m' H') ∧
      ∀ (x : V) (H' : Hp), (Ite K a).yld i H x H' → g x (wipe σ vs) H' fun σ2 H2 => wipe σ2 vs = wipe σ vs ∧ tt σ2 H2 fun b H3 => if b = true then te σ2 H3 fun y H4 => ∃ acc, H4 D = some (.lst acc) ∧ acc.length < sizeLine ∧ Nx (upd H4 D (.lst (acc ++ [y]))) else Nx H3 := by
  refine ⟨fun i m H => Pv i H ∧ i ≤ xs.length ∧ m = xs.length - i, ⟨_, h0, Nat.zero_le _, rfl⟩, ?_⟩
  rintro i m H ⟨hP, hi, rfl⟩
  have hxa := hq i H hi hP
  by_cases h : i < xs.length
  · refine .inr ⟨⟨xs, xs[i], hxa, List.getElem?_eq_getElem h⟩, Pv (i + 1), fun H' h' => ⟨_, ?_, h', by omega, rfl⟩, ?_⟩
    · omega
    · rintro x H' ⟨T, x1, rfl, hT, rfl, e1⟩
      exact hs i x1 T H (e1 xs hxa) hP hT
  · have e : i = xs.length := by omega
    subst e
    exact .inl ⟨⟨xs, hxa, Nat.le_refl _⟩, hd H hP⟩
/-- walking enumerate -/
theorem for_enum {K : Frag} {a : Addr} {xs : List V} {g : TG} {tb : TS} {D : Ends} {σ : L2.St} {H : Hp} (Pv : Nat → L2.St → Hp → Prop) (h0 : Pv 0 σ H) (hq : ∀ (i : Nat) (σ : L2.St) (H : Hp), i ≤ xs.length → Pv i σ H → SqL K H a xs)
    (hs : ∀ (i : Nat) (x : V) (T : Addr) (σ : L2.St) (H : Hp), xs[i]? = some x → Pv i σ H → H T = none → g (.ref T) σ (upd H T (.tup [.int (i : Nat), x])) fun σ2 H2 => tb { nx := Pv (i + 1), rt := D.rt, bk := D.nx, ct := Pv (i + 1) } σ2 H2)
    (hd : ∀ σ H, Pv xs.length σ H → D.nx σ H) :
    ∃ W : Nat → Nat → L2.St → Hp → Prop, (∃ m, W 0 m σ H) ∧ ∀ (i m : Nat) (σ : L2.St) (H : Hp), W i m σ H → (Ite K a).stop i H ∧ D.nx σ H ∨ (Ite K a).go i H ∧ ∃ N : L2.St → Hp → Prop, (∀ σ' H', N σ' H' → ∃ m', m' < m ∧ W (i + 1) m' σ' H') ∧
      ∀ (x : V) (H' : Hp), (Ite K a).yld i H x H' → g x σ H' fun σ2 H2 => tb { nx := N, rt := D.rt, bk := D.nx, ct := N } σ2 H2 := by
  refine ⟨fun i m σ H => Pv i σ H ∧ i ≤ xs.length ∧ m = xs.length - i, ⟨_, h0, Nat.zero_le _, rfl⟩, ?_⟩
  rintro i m σ H ⟨hP, hi, rfl⟩
  have hxa := hq i σ H hi hP
  by_cases h : i < xs.length
  · refine .inr ⟨⟨xs, xs[i], hxa, List.getElem?_eq_getElem h⟩, Pv (i + 1), fun σ' H' h' => ⟨_, ?_, h', by omega, rfl⟩, ?_⟩
    · omega
    · rintro x H' ⟨T, x1, rfl, hT, rfl, e1⟩
      exact hs i x1 T σ H (e1 xs hxa) hP hT
  · have e : i = xs.length := by omega
    subst e
    exact .inl ⟨⟨xs, hxa, Nat.le_refl _⟩, hd σ H hP⟩
end Own

set_option Elab.async false
set_option linter.all false
set_option maxRecDepth 100000
set_option maxHeartbeats 2000000
namespace Own
open PySem PySem.Spec PyProof.Rows L2
open PySem.W (Frag)
section
variable {X : Cx}
theorem op_eqLen (hu : X.A.units + 64 < cLine) : OpR X (compareOp .Eq) (rLen false) := by
  rintro pins s σ H x y v u Q I rx ry ⟨a, b, xs, ys, rfl, rfl, ha, hb, hne, q⟩
  cases (show v = Value.ref a from rx)
  cases (show u = Value.ref b from ry)
  have hTa := typeIs_lst I.hok ha
  have hTb := typeIs_lst I.hok hb
  obtain ⟨_, its, na, va, ga⟩ := lst_get I.hok ha
  obtain ⟨_, its2, nb, vb, gb⟩ := lst_get I.hok hb
  refine PySem.W.cmp_ofEq (wpAny_richCompare_same_room (T := "list") (id := "list.__eq__") hTa hTb F.slot_list_eq (GQ.call_here F.slot_list_eq hTa F.entry_list_eq (F.args_list_eq_2 _ _) ?_) (by omega))
  have hsz : (its.toArray.size != its2.toArray.size) = true := by
    have l1 := va.length
    have l2 := vb.length
    simp
    omega
  unfold Builtin.«list.__eq__»
  refine wpAny_bind (m := slotArgs "__eq__" 1 _) (wpAny_pure ?_)
  dsimp only
  refine wpAny_bind (wpAny_isInstance (T := "list") (b := true) hTb rfl ?_)
  simp only [Bool.not_true, Bool.false_eq_true, if_false]
  refine wpAny_bind (wpAny_listItems ga rfl ?_)
  refine wpAny_bind (wpAny_listItems gb rfl ?_)
  simp only [hsz, if_true]
  refine wpAny_bind (wpAny_rule ?_)
  refine wpAny_pure ⟨nofun, .bl false, H, I, rfl, q⟩
end
end Own

set_option Elab.async false
set_option linter.all false
set_option maxRecDepth 100000
set_option maxHeartbeats 4000000
namespace Dx
open PySem PySem.Spec PyProof.Rows L2 Own
open PySem.W (Frag)
/-! ### data -/
theorem ne_tb : ¬ (("_top" : Str) = "_bottom") := by decide +kernel
def rf (t b : Int) : List (Str × V) := putF "_bottom" (.int b) (putF "_top" (.int t) [])
theorem rf_top (t b : Int) : (rf t b).lookup ("_top" : Str) = some (.int t) := by
  unfold rf
  rw [lookup_putF, if_neg ne_tb, lookup_putF, if_pos rfl]
theorem rf_bottom (t b : Int) : (rf t b).lookup ("_bottom" : Str) = some (.int b) := by
  unfold rf
  rw [lookup_putF, if_pos rfl]
theorem rf_no (t b : Int) {m : Str} (h1 : ¬ m = "_bottom") (h2 : ¬ m = "_top") : (rf t b).lookup m = none := by
  unfold rf
  rw [lookup_putF, if_neg h1, lookup_putF, if_neg h2]
  all_goals rfl
def RatAt (C : Addr) (H : Hp) (a : Addr) (q : Int × Int) : Prop := ∃ dx, H a = some (.ins C dx (rf q.1 q.2))
theorem RatAt.same {C : Addr} {H H2 : Hp} {a : Addr} {q : Int × Int} (h : RatAt C H a q) (s : Same H H2) : RatAt C H2 a q :=
  let ⟨dx, e⟩ := h
  ⟨dx, s _ _ e⟩
/-- a number that may be handed: an int or a Ratio -/
def NumV (C : Addr) (H : Hp) (v : V) (q : Int × Int) : Prop := (∃ i, v = .int i ∧ q = (i, 1)) ∨ ∃ a, v = .ref a ∧ RatAt C H a q
/-- what Euclid brings -/
def nrm (t b : Int) : Int × Int :=
  if b < 0 then (t.fdiv (-((Nat.gcd t.natAbs b.natAbs : Nat) : Int)), b.fdiv (-((Nat.gcd t.natAbs b.natAbs : Nat) : Int)))
  else (t.fdiv ((Nat.gcd t.natAbs b.natAbs : Nat) : Int), b.fdiv ((Nat.gcd t.natAbs b.natAbs : Nat) : Int))
def Sz (n : Nat) (i : Int) : Prop := i.natAbs < 2 ^ n
structure OkP (n : Nat) (q : Int × Int) : Prop where
  pos : 0 < q.2
  st : Sz n q.1
  sb : Sz n q.2
def addP (x y : Int × Int) : Int × Int := nrm (x.1 * y.2 + y.1 * x.2) (x.2 * y.2)
def subP (x y : Int × Int) : Int × Int := nrm (x.1 * y.2 - y.1 * x.2) (x.2 * y.2)
def mulP (x y : Int × Int) : Int × Int := nrm (x.1 * y.1) (x.2 * y.2)
def ovP (x y : Int × Int) : Int × Int := nrm (x.1 * y.2) (x.2 * y.1)

theorem fdiv_abs_le (t g : Int) (hg : g ≠ 0) (hd : g ∣ t) : (t.fdiv g).natAbs ≤ t.natAbs := by
  obtain ⟨k, rfl⟩ := hd
  rw [Int.mul_fdiv_cancel_left k hg, Int.natAbs_mul]
  have : 1 ≤ g.natAbs := by omega
  exact Nat.le_mul_of_pos_left _ (by omega)
theorem gcd_pos' {t b : Int} (h : b ≠ 0) : 0 < Nat.gcd t.natAbs b.natAbs := Nat.gcd_pos_of_pos_right _ (by omega)
theorem gcd_dvd_t (t b : Int) : ((Nat.gcd t.natAbs b.natAbs : Nat) : Int) ∣ t := Int.ofNat_dvd_left.mpr (Nat.gcd_dvd_left _ _)
theorem gcd_dvd_b (t b : Int) : ((Nat.gcd t.natAbs b.natAbs : Nat) : Int) ∣ b := Int.ofNat_dvd_left.mpr (Nat.gcd_dvd_right _ _)
theorem nrm_pos {t b : Int} (h : b ≠ 0) : 0 < (nrm t b).2 := by
  have g0 := gcd_pos' (t := t) h
  obtain ⟨k, hk⟩ := gcd_dvd_b t b
  generalize hg : ((Nat.gcd t.natAbs b.natAbs : Nat) : Int) = g at hk
  have g1 : 0 < g := by omega
  unfold nrm
  rw [hg]
  by_cases hb : b < 0
  · rw [if_pos hb]
    show 0 < b.fdiv (-g)
    have e : b = (-g) * (-k) := by rw [hk, Int.neg_mul_neg]
    rw [e, Int.mul_fdiv_cancel_left _ (by omega)]
    rcases (by omega : k < 0 ∨ 0 ≤ k) with z | z
    · omega
    · have : 0 ≤ g * k := Int.mul_nonneg (by omega) z
      omega
  · rw [if_neg hb]
    show 0 < b.fdiv g
    rw [hk, Int.mul_fdiv_cancel_left _ (by omega)]
    rcases (by omega : 0 < k ∨ k ≤ 0) with z | z
    · exact z
    · have : g * k ≤ 0 := Int.mul_nonpos_of_nonneg_of_nonpos (by omega) z
      omega
theorem nrm_sz {t b : Int} {n : Nat} (h : b ≠ 0) (ht : Sz n t) (hb : Sz n b) : OkP n (nrm t b) := by
  have g0 := gcd_pos' (t := t) h
  refine ⟨nrm_pos h, ?_, ?_⟩
  · unfold nrm
    split
    · exact Nat.lt_of_le_of_lt (fdiv_abs_le _ _ (by omega) ((Int.neg_dvd).mpr (gcd_dvd_t t b))) ht
    · exact Nat.lt_of_le_of_lt (fdiv_abs_le _ _ (by omega) (gcd_dvd_t t b)) ht
  · unfold nrm
    split
    · exact Nat.lt_of_le_of_lt (fdiv_abs_le _ _ (by omega) ((Int.neg_dvd).mpr (gcd_dvd_b t b))) hb
    · exact Nat.lt_of_le_of_lt (fdiv_abs_le _ _ (by omega) (gcd_dvd_b t b)) hb
theorem sz_mul {n m : Nat} {i j : Int} (h : Sz n i) (k : Sz m j) : Sz (n + m) (i * j) := wide_lt h k
theorem sz_le {n m : Nat} {i : Int} (h : Sz n i) (k : n ≤ m) : Sz m i := Nat.lt_of_lt_of_le h (Nat.pow_le_pow_right (by decide) k)
theorem sz_add {n : Nat} {i j : Int} (h : Sz n i) (k : Sz n j) : Sz (n + 1) (i + j) := by
  unfold Sz at *
  rw [Nat.pow_succ]
  omega
theorem sz_sub {n : Nat} {i j : Int} (h : Sz n i) (k : Sz n j) : Sz (n + 1) (i - j) := by
  unfold Sz at *
  rw [Nat.pow_succ]
  omega
theorem OkP.add {n m : Nat} {x y : Int × Int} (h : OkP n x) (k : OkP m y) : OkP (n + m + 1) (addP x y) := by
  have z : Sz (n + m) (y.1 * x.2) := by rw [Nat.add_comm]; exact sz_mul k.st h.sb
  exact nrm_sz (Int.ne_of_gt (Int.mul_pos h.pos k.pos)) (sz_add (sz_mul h.st k.sb) z) (sz_le (sz_mul h.sb k.sb) (Nat.le_succ _))
theorem OkP.sub {n m : Nat} {x y : Int × Int} (h : OkP n x) (k : OkP m y) : OkP (n + m + 1) (subP x y) := by
  have z : Sz (n + m) (y.1 * x.2) := by rw [Nat.add_comm]; exact sz_mul k.st h.sb
  exact nrm_sz (Int.ne_of_gt (Int.mul_pos h.pos k.pos)) (sz_sub (sz_mul h.st k.sb) z) (sz_le (sz_mul h.sb k.sb) (Nat.le_succ _))
theorem OkP.mul {n m : Nat} {x y : Int × Int} (h : OkP n x) (k : OkP m y) : OkP (n + m + 1) (mulP x y) :=
  nrm_sz (Int.ne_of_gt (Int.mul_pos h.pos k.pos)) (sz_le (sz_mul h.st k.st) (Nat.le_succ _)) (sz_le (sz_mul h.sb k.sb) (Nat.le_succ _))
theorem OkP.over {n m : Nat} {x y : Int × Int} (h : OkP n x) (k : OkP m y) (hy : y.1 ≠ 0) : OkP (n + m + 1) (ovP x y) :=
  nrm_sz (Int.mul_ne_zero (Int.ne_of_gt h.pos) hy) (sz_le (sz_mul h.st k.sb) (Nat.le_succ _)) (sz_le (sz_mul h.sb k.st) (Nat.le_succ _))
theorem sz_log {n : Nat} {i : Int} (h : Sz n i) (h0 : 0 < n) : i.natAbs.log2 < n := PySem.Flt.log2_lt_of h0 h
theorem sz_mulW {n m : Nat} {i j : Int} (h : Sz n i) (k : Sz m j) (hn : 0 < n) (hm : 0 < m) (hs : n + m ≤ 1000000) : CMulW i j := wide_mul h k hn hm hs
/-- // by any number that is not 0, below 2 ^ 8000 -/
def CDivZ (_ j : Int) : Prop := j ≠ 0 ∧ Sz 8000 j
theorem op_fdivZ {X : Cx} : OpR X (binaryOp .FloorDiv) (rI CDivZ fun i j => .int (i.fdiv j)) := opI fun i j _ _ _ _ _ hc q => by
  exact floordiv_int hc.1 q (.inl (PyProof.noPylong_of_log2 (Nat.lt_trans (sz_log hc.2 (by decide)) (by decide))))
def negP (x : Int × Int) : Int × Int := nrm (-x.1) x.2
def absP (x : Int × Int) : Int × Int := nrm (if x.1 < 0 then -x.1 else x.1) x.2
theorem okp_le {n m : Nat} {q : Int × Int} (h : OkP n q) (k : n ≤ m) : OkP m q := ⟨h.pos, sz_le h.st k, sz_le h.sb k⟩
theorem take_more {α : Type} {l : List α} {i : Nat} {x : α} (h : l[i]? = some x) : l.take (i + 1) = l.take i ++ [x] := by
  rw [List.take_succ, h]
  rfl
theorem Same.put {H : Hp} {p : Addr} {o : HO} (h : H p = none) : Same H (upd H p o) := fun b u e => by rw [upd_ne (ne_of_none e h)]; exact e
theorem szl {n : Nat} (h : n ≤ 10000) : n ≤ sizeLine := by
  rw [sizeLine_eq]
  omega
theorem nrm_fix {t b : Int} (hb : 0 < b) (hg : Nat.gcd t.natAbs b.natAbs = 1) : nrm t b = (t, b) := by
  unfold nrm
  rw [if_neg (by omega), hg]
  simp
theorem nrm_cop {t b : Int} (h : b ≠ 0) : Nat.gcd (nrm t b).1.natAbs (nrm t b).2.natAbs = 1 := by
  have g0 := gcd_pos' (t := t) h
  obtain ⟨x, hx⟩ := gcd_dvd_t t b
  obtain ⟨y, hy⟩ := gcd_dvd_b t b
  have key : Nat.gcd x.natAbs y.natAbs = 1 := by
    have e1 : t.natAbs = Nat.gcd t.natAbs b.natAbs * x.natAbs := by
      have := congrArg Int.natAbs hx
      rw [Int.natAbs_mul] at this
      simpa using this
    have e2 : b.natAbs = Nat.gcd t.natAbs b.natAbs * y.natAbs := by
      have := congrArg Int.natAbs hy
      rw [Int.natAbs_mul] at this
      simpa using this
    have e3 : Nat.gcd t.natAbs b.natAbs = Nat.gcd t.natAbs b.natAbs * Nat.gcd x.natAbs y.natAbs := by
      rw [← Nat.gcd_mul_left, ← e1, ← e2]
    exact Nat.eq_of_mul_eq_mul_left g0 (by rw [Nat.mul_one]; exact e3.symm)
  generalize hg : ((Nat.gcd t.natAbs b.natAbs : Nat) : Int) = g at hx hy
  have gn : g ≠ 0 := by omega
  unfold nrm
  rw [hg]
  by_cases hb : b < 0
  · rw [if_pos hb]
    have e1 : t.fdiv (-g) = -x := by
      have e : t = (-g) * (-x) := by rw [hx, Int.neg_mul_neg]
      rw [e, Int.mul_fdiv_cancel_left _ (by omega)]
    have e2 : b.fdiv (-g) = -y := by
      have e : b = (-g) * (-y) := by rw [hy, Int.neg_mul_neg]
      rw [e, Int.mul_fdiv_cancel_left _ (by omega)]
    show Nat.gcd (t.fdiv (-g)).natAbs (b.fdiv (-g)).natAbs = 1
    rw [e1, e2, Int.natAbs_neg, Int.natAbs_neg]
    exact key
  · rw [if_neg hb]
    show Nat.gcd (t.fdiv g).natAbs (b.fdiv g).natAbs = 1
    rw [hx, hy, Int.mul_fdiv_cancel_left _ gn, Int.mul_fdiv_cancel_left _ gn]
    exact key
structure Low (q : Int × Int) : Prop where
  pos : 0 < q.2
  cop : Nat.gcd q.1.natAbs q.2.natAbs = 1
theorem nrm_low {t b : Int} (h : b ≠ 0) : Low (nrm t b) := ⟨nrm_pos h, nrm_cop h⟩
def pr (r : Rat) : Int × Int := (r.num, r.den)
theorem pr_low (r : Rat) : Low (pr r) := ⟨Int.natCast_pos.mpr (Nat.pos_of_ne_zero r.den_nz), by
  show r.num.natAbs.gcd ((r.den : Int)).natAbs = 1
  rw [Int.natAbs_natCast]
  exact r.reduced⟩
theorem pr_inj {a b : Rat} (h : pr a = pr b) : a = b := by
  unfold pr at h
  injection h with h1 h2
  exact Rat.ext h1 (by omega)
theorem low_pr {q : Int × Int} (h : Low q) : pr (Rat.divInt q.1 q.2) = q := by
  obtain ⟨t, b⟩ := q
  have hp : 0 < b := h.pos
  have hc : t.natAbs.gcd b.natAbs = 1 := h.cop
  have hc2 : t.natAbs.Coprime b.toNat := by
    have e0 : b.toNat = b.natAbs := by omega
    rw [e0]
    exact hc
  have e : Rat.divInt t b = Rat.mk' t b.toNat (by omega) hc2 := by
    rw [Rat.mk_eq_divInt]
    congr 1
    omega
  show pr (Rat.divInt t b) = (t, b)
  rw [e]
  show (t, ((b.toNat : Nat) : Int)) = (t, b)
  congr 1
  omega
theorem dd (r : Rat) : Rat.divInt r.num r.den = r := (Rat.mk_eq_divInt (num := r.num) (den := r.den) (nz := r.den_nz) (c := r.reduced)).symm
theorem nrm_cross {t b : Int} (hb : b ≠ 0) : t * (nrm t b).2 = (nrm t b).1 * b := by
  have g1 : ((Nat.gcd t.natAbs b.natAbs : Nat) : Int) ∣ t := Int.ofNat_dvd_left.mpr (Nat.gcd_dvd_left _ _)
  have g2 : ((Nat.gcd t.natAbs b.natAbs : Nat) : Int) ∣ b := Int.ofNat_dvd_left.mpr (Nat.gcd_dvd_right _ _)
  have key : ∀ g : Int, g ∣ t → g ∣ b → t * (b.fdiv g) = (t.fdiv g) * b := by
    rintro g ⟨x, hx⟩ ⟨y, hy⟩
    have hg : g ≠ 0 := fun z => hb (by rw [hy, z, Int.zero_mul])
    rw [hx, hy, Int.mul_fdiv_cancel_left _ hg, Int.mul_fdiv_cancel_left _ hg]
    rw [Int.mul_comm g x, Int.mul_assoc]
  unfold nrm
  by_cases h : b < 0
  · rw [if_pos h]
    exact key _ (Int.neg_dvd.mpr g1) (Int.neg_dvd.mpr g2)
  · rw [if_neg h]
    exact key _ g1 g2
theorem nrm_pr {t b : Int} (hb : b ≠ 0) : nrm t b = pr (Rat.divInt t b) := by
  have lw := nrm_low (t := t) hb
  have e : Rat.divInt t b = Rat.divInt (nrm t b).1 (nrm t b).2 := by
    rw [Rat.divInt_eq_divInt_iff hb (Int.ne_of_gt lw.pos)]
    exact nrm_cross hb
  rw [e, low_pr lw]
theorem pr_ne (r : Rat) : (r.den : Int) ≠ 0 := by
  have := r.den_nz
  omega
theorem addP_pr (a b : Rat) : addP (pr a) (pr b) = pr (a + b) := by
  unfold addP
  show nrm (a.num * b.den + b.num * a.den) (a.den * b.den) = _
  rw [nrm_pr (Int.mul_ne_zero (pr_ne a) (pr_ne b)), ← Rat.divInt_add_divInt _ _ (pr_ne a) (pr_ne b), dd, dd]
theorem mulP_pr (a b : Rat) : mulP (pr a) (pr b) = pr (a * b) := by
  unfold mulP
  show nrm (a.num * b.num) (a.den * b.den) = _
  rw [nrm_pr (Int.mul_ne_zero (pr_ne a) (pr_ne b)), ← Rat.divInt_mul_divInt, dd, dd]
theorem pr_int (i : Int) : pr (i : Rat) = (i, 1) := rfl
theorem negP_pr (a : Rat) : negP (pr a) = pr (-a) := by
  unfold negP
  show nrm (-a.num) a.den = _
  rw [nrm_pr (pr_ne a), ← Rat.neg_divInt, dd]
theorem subP_pr (a b : Rat) : subP (pr a) (pr b) = pr (a - b) := by
  unfold subP
  show nrm (a.num * b.den - b.num * a.den) (a.den * b.den) = _
  rw [nrm_pr (Int.mul_ne_zero (pr_ne a) (pr_ne b)), ← Rat.divInt_sub_divInt _ _ (pr_ne a) (pr_ne b), dd, dd]
end Dx

set_option Elab.async false
set_option linter.all false
set_option maxRecDepth 100000
set_option maxHeartbeats 4000000
namespace Dx
open PySem PySem.Spec PyProof.Rows L2 Own
open PySem.W (Frag)

/-! ### data -/
inductive D where
  | non
  | bl (b : Bool)
  | int (i : Int)
  | str (s : Str)
  | rat (q : Rat)
  | lst (o : Bool) (ds : List D)
  | tup (o : Bool) (ds : List D)
  | tab (ds : List D)
  deriving Inhabited
mutual
def D.fz : D → Bool
  | .lst o ds => !o && fzs ds
  | .tup o ds => !o && fzs ds
  | .tab ds => fzs ds
  | .non => true
  | .bl _ => true
  | .int _ => true
  | .str _ => true
  | .rat _ => true
def fzs : List D → Bool
  | [] => true
  | d :: ds => d.fz && fzs ds
end
mutual
def D.frz : D → D
  | .lst _ ds => .lst false (frzs ds)
  | .tup _ ds => .tup false (frzs ds)
  | .tab ds => .tab (frzs ds)
  | .non => .non
  | .bl b => .bl b
  | .int i => .int i
  | .str s => .str s
  | .rat q => .rat q
def frzs : List D → List D
  | [] => []
  | d :: ds => d.frz :: frzs ds
end
theorem frzs_map : ∀ ds : List D, frzs ds = ds.map D.frz
  | [] => rfl
  | d :: ds => by rw [frzs, List.map_cons, frzs_map ds]
theorem fzs_all : ∀ ds : List D, fzs ds = ds.all D.fz
  | [] => rfl
  | d :: ds => by rw [fzs, List.all_cons, fzs_all ds]
mutual
theorem frz_fz : ∀ d : D, d.frz.fz = true
  | .lst _ ds => by simp [D.frz, D.fz, frzs_fz ds]
  | .tup _ ds => by simp [D.frz, D.fz, frzs_fz ds]
  | .tab ds => by simp [D.frz, D.fz, frzs_fz ds]
  | .non => rfl
  | .bl _ => rfl
  | .int _ => rfl
  | .str _ => rfl
  | .rat _ => rfl
theorem frzs_fz : ∀ ds : List D, fzs (frzs ds) = true
  | [] => rfl
  | d :: ds => by simp [frzs, fzs, frz_fz d, frzs_fz ds]
end
mutual
theorem fz_frz : ∀ d : D, d.fz = true → d.frz = d
  | .lst o ds, h => by
    simp [D.fz] at h
    simp [D.frz, h.1, fzs_frzs ds h.2]
  | .tup o ds, h => by
    simp [D.fz] at h
    simp [D.frz, h.1, fzs_frzs ds h.2]
  | .tab ds, h => by
    simp [D.fz] at h
    simp [D.frz, fzs_frzs ds h]
  | .non, _ => rfl
  | .bl _, _ => rfl
  | .int _, _ => rfl
  | .str _, _ => rfl
  | .rat _, _ => rfl
theorem fzs_frzs : ∀ ds : List D, fzs ds = true → frzs ds = ds
  | [], _ => rfl
  | d :: ds, h => by
    simp [fzs] at h
    simp [frzs, fz_frz d h.1, fzs_frzs ds h.2]
end

/-! ### how data stand in the heap: B what is owned by d alone, A all that is owned -/
def Foot (o : Bool) (A : List Addr) (a : Addr) (B B' : List Addr) : Prop := (o = true ∧ B = a :: B') ∨ (o = false ∧ a ∉ A ∧ B = [] ∧ B' = [])
mutual
def RD (C T : Addr) (H : Hp) (A : List Addr) : D → V → List Addr → Prop
  | .non, x, B => x = .non ∧ B = []
  | .bl b, x, B => x = .bl b ∧ B = []
  | .int i, x, B => x = .int i ∧ B = []
  | .str s, x, B => x = .str s ∧ B = []
  | .rat q, x, B => ∃ a, x = .ref a ∧ a ∉ A ∧ RatAt C H a (pr q) ∧ B = []
  | .lst o ds, x, B => ∃ a xs B', x = .ref a ∧ H a = some (.lst xs) ∧ RDs C T H A ds xs B' ∧ Foot o A a B B'
  | .tup o ds, x, B => ∃ a xs B', x = .ref a ∧ H a = some (.tup xs) ∧ RDs C T H A ds xs B' ∧ Foot o A a B B'
  | .tab ds, x, B => ∃ a b dx xs, x = .ref a ∧ a ∉ A ∧ b ∉ A ∧ H a = some (.ins T dx (putF "_products" (.ref b) [])) ∧ H b = some (.lst xs) ∧ RDs C T H A ds xs [] ∧ B = []
def RDs (C T : Addr) (H : Hp) (A : List Addr) : List D → List V → List Addr → Prop
  | [], xs, B => xs = [] ∧ B = []
  | d :: ds, xs, B => ∃ x xs' B1 B2, xs = x :: xs' ∧ B = B1 ++ B2 ∧ RD C T H A d x B1 ∧ RDs C T H A ds xs' B2
end
section
variable {C T : Addr} {H H' : Hp} {A A' : List Addr}
mutual
theorem RD.mono (K : ∀ a o, H a = some o → a ∉ A → H' a = some o ∧ a ∉ A') : ∀ (d : D) {x : V} {B : List Addr}, RD C T H A d x B → (∀ a ∈ B, H' a = H a) → RD C T H' A' d x B
  | .non, x, B, h, _ => h
  | .bl _, x, B, h, _ => h
  | .int _, x, B, h, _ => h
  | .str _, x, B, h, _ => h
  | .rat q, x, B, ⟨a, e, na, ⟨dx, r⟩, b⟩, _ => ⟨a, e, (K a _ r na).2, ⟨dx, (K a _ r na).1⟩, b⟩
  | .lst o ds, x, B, h, hb => by
    obtain ⟨a, xs, B', e, ha, hs, f⟩ := h
    rcases f with ⟨ho, f⟩ | ⟨ho, na, f, f'⟩
    · refine ⟨a, xs, B', e, by rw [hb a (by rw [f]; exact List.mem_cons_self)]; exact ha, RDs.mono K ds hs (fun c hc => hb c (by rw [f]; exact List.mem_cons_of_mem _ hc)), .inl ⟨ho, f⟩⟩
    · exact ⟨a, xs, B', e, (K a _ ha na).1, RDs.mono K ds hs (fun c hc => by rw [f'] at hc; cases hc), .inr ⟨ho, (K a _ ha na).2, f, f'⟩⟩
  | .tup o ds, x, B, h, hb => by
    obtain ⟨a, xs, B', e, ha, hs, f⟩ := h
    rcases f with ⟨ho, f⟩ | ⟨ho, na, f, f'⟩
    · refine ⟨a, xs, B', e, by rw [hb a (by rw [f]; exact List.mem_cons_self)]; exact ha, RDs.mono K ds hs (fun c hc => hb c (by rw [f]; exact List.mem_cons_of_mem _ hc)), .inl ⟨ho, f⟩⟩
    · exact ⟨a, xs, B', e, (K a _ ha na).1, RDs.mono K ds hs (fun c hc => by rw [f'] at hc; cases hc), .inr ⟨ho, (K a _ ha na).2, f, f'⟩⟩
  | .tab ds, x, B, h, hb => by
    obtain ⟨a, b, dx, xs, e, na, nb, ha, hb', hs, f⟩ := h
    exact ⟨a, b, dx, xs, e, (K a _ ha na).2, (K b _ hb' nb).2, (K a _ ha na).1, (K b _ hb' nb).1, RDs.mono K ds hs (fun c hc => by cases hc), f⟩
theorem RDs.mono (K : ∀ a o, H a = some o → a ∉ A → H' a = some o ∧ a ∉ A') : ∀ (ds : List D) {xs : List V} {B : List Addr}, RDs C T H A ds xs B → (∀ a ∈ B, H' a = H a) → RDs C T H' A' ds xs B
  | [], xs, B, h, _ => h
  | d :: ds, xs, B, h, hb => by
    obtain ⟨x, xs', B1, B2, e, f, h1, h2⟩ := h
    exact ⟨x, xs', B1, B2, e, f, RD.mono K d h1 (fun a ha => hb a (by rw [f]; exact List.mem_append_left _ ha)), RDs.mono K ds h2 (fun a ha => hb a (by rw [f]; exact List.mem_append_right _ ha))⟩
end
def SeqO (o : HO) : Prop := ∃ xs, o = .lst xs ∨ o = .tup xs
mutual
theorem RD.has : ∀ (d : D) {x : V} {B : List Addr}, RD C T H A d x B → ∀ a ∈ B, ∃ o, H a = some o ∧ SeqO o
  | .non, x, B, h, a, ha => by rw [h.2] at ha; cases ha
  | .bl _, x, B, h, a, ha => by rw [h.2] at ha; cases ha
  | .int _, x, B, h, a, ha => by rw [h.2] at ha; cases ha
  | .str _, x, B, h, a, ha => by rw [h.2] at ha; cases ha
  | .rat _, x, B, ⟨_, _, _, _, h⟩, a, ha => by rw [h] at ha; cases ha
  | .lst o ds, x, B, ⟨b, xs, B', e, hb, hs, f⟩, a, ha => by
    rcases f with ⟨_, f⟩ | ⟨_, _, f, _⟩
    · rw [f] at ha
      rcases List.mem_cons.mp ha with rfl | ha
      · exact ⟨_, hb, xs, .inl rfl⟩
      · exact RDs.has ds hs a ha
    · rw [f] at ha; cases ha
  | .tup o ds, x, B, ⟨b, xs, B', e, hb, hs, f⟩, a, ha => by
    rcases f with ⟨_, f⟩ | ⟨_, _, f, _⟩
    · rw [f] at ha
      rcases List.mem_cons.mp ha with rfl | ha
      · exact ⟨_, hb, xs, .inr rfl⟩
      · exact RDs.has ds hs a ha
    · rw [f] at ha; cases ha
  | .tab ds, x, B, ⟨_, _, _, _, _, _, _, _, _, _, f⟩, a, ha => by rw [f] at ha; cases ha
theorem RDs.has : ∀ (ds : List D) {xs : List V} {B : List Addr}, RDs C T H A ds xs B → ∀ a ∈ B, ∃ o, H a = some o ∧ SeqO o
  | [], xs, B, h, a, ha => by rw [h.2] at ha; cases ha
  | d :: ds, xs, B, ⟨x, xs', B1, B2, e, f, h1, h2⟩, a, ha => by
    rw [f] at ha
    rcases List.mem_append.mp ha with ha | ha
    · exact RD.has d h1 a ha
    · exact RDs.has ds h2 a ha
end
mutual
theorem RD.frz (K : ∀ a o, H a = some o → a ∉ A → a ∉ A') : ∀ (d : D) {x : V} {B : List Addr}, RD C T H A d x B → (∀ a ∈ B, a ∉ A') → RD C T H A' d.frz x []
  | .non, x, B, h, _ => ⟨h.1, rfl⟩
  | .bl _, x, B, h, _ => ⟨h.1, rfl⟩
  | .int _, x, B, h, _ => ⟨h.1, rfl⟩
  | .str _, x, B, h, _ => ⟨h.1, rfl⟩
  | .rat q, x, B, ⟨a, e, na, ⟨dx, r⟩, b⟩, _ => ⟨a, e, K a _ r na, ⟨dx, r⟩, rfl⟩
  | .lst o ds, x, B, ⟨a, xs, B', e, ha, hs, f⟩, hb => by
    rw [D.frz, RD]
    rcases f with ⟨ho, f⟩ | ⟨ho, na, f, f'⟩
    · exact ⟨a, xs, [], e, ha, RDs.frz K ds hs (fun c hc => hb c (by rw [f]; exact List.mem_cons_of_mem _ hc)), .inr ⟨rfl, hb a (by rw [f]; exact List.mem_cons_self), rfl, rfl⟩⟩
    · exact ⟨a, xs, [], e, ha, RDs.frz K ds hs (fun c hc => by rw [f'] at hc; cases hc), .inr ⟨rfl, K a _ ha na, rfl, rfl⟩⟩
  | .tup o ds, x, B, ⟨a, xs, B', e, ha, hs, f⟩, hb => by
    rw [D.frz, RD]
    rcases f with ⟨ho, f⟩ | ⟨ho, na, f, f'⟩
    · exact ⟨a, xs, [], e, ha, RDs.frz K ds hs (fun c hc => hb c (by rw [f]; exact List.mem_cons_of_mem _ hc)), .inr ⟨rfl, hb a (by rw [f]; exact List.mem_cons_self), rfl, rfl⟩⟩
    · exact ⟨a, xs, [], e, ha, RDs.frz K ds hs (fun c hc => by rw [f'] at hc; cases hc), .inr ⟨rfl, K a _ ha na, rfl, rfl⟩⟩
  | .tab ds, x, B, ⟨a, b, dx, xs, e, na, nb, ha, hb', hs, f⟩, hb => by
    rw [D.frz, RD]
    exact ⟨a, b, dx, xs, e, K a _ ha na, K b _ hb' nb, ha, hb', RDs.frz K ds hs (fun c hc => by cases hc), rfl⟩
theorem RDs.frz (K : ∀ a o, H a = some o → a ∉ A → a ∉ A') : ∀ (ds : List D) {xs : List V} {B : List Addr}, RDs C T H A ds xs B → (∀ a ∈ B, a ∉ A') → RDs C T H A' (frzs ds) xs []
  | [], xs, B, h, _ => ⟨h.1, rfl⟩
  | d :: ds, xs, B, ⟨x, xs', B1, B2, e, f, h1, h2⟩, hb => by
    rw [frzs, RDs]
    exact ⟨x, xs', [], [], e, rfl, RD.frz K d h1 (fun a ha => hb a (by rw [f]; exact List.mem_append_left _ ha)), RDs.frz K ds h2 (fun a ha => hb a (by rw [f]; exact List.mem_append_right _ ha))⟩
end
mutual
theorem RD.nil_fz : ∀ (d : D) {x : V}, RD C T H A d x [] → d.fz = true
  | .non, x, _ => rfl
  | .bl _, x, _ => rfl
  | .int _, x, _ => rfl
  | .str _, x, _ => rfl
  | .rat _, x, _ => rfl
  | .lst o ds, x, ⟨a, xs, B', e, ha, hs, f⟩ => by
    rcases f with ⟨_, f⟩ | ⟨ho, _, _, f'⟩
    · cases f
    · rw [f'] at hs
      simp [D.fz, ho, RDs.nil_fz ds hs]
  | .tup o ds, x, ⟨a, xs, B', e, ha, hs, f⟩ => by
    rcases f with ⟨_, f⟩ | ⟨ho, _, _, f'⟩
    · cases f
    · rw [f'] at hs
      simp [D.fz, ho, RDs.nil_fz ds hs]
  | .tab ds, x, ⟨_, _, _, _, _, _, _, _, _, hs, _⟩ => by simp [D.fz, RDs.nil_fz ds hs]
theorem RDs.nil_fz : ∀ (ds : List D) {xs : List V}, RDs C T H A ds xs [] → fzs ds = true
  | [], xs, _ => rfl
  | d :: ds, xs, ⟨x, xs', B1, B2, e, f, h1, h2⟩ => by
    obtain ⟨rfl, rfl⟩ := List.append_eq_nil_iff.mp f.symm
    simp [fzs, RD.nil_fz d h1, RDs.nil_fz ds h2]
end
mutual
theorem RD.fz_nil : ∀ (d : D) {x : V} {B : List Addr}, RD C T H A d x B → d.fz = true → B = []
  | .non, x, B, h, _ => h.2
  | .bl _, x, B, h, _ => h.2
  | .int _, x, B, h, _ => h.2
  | .str _, x, B, h, _ => h.2
  | .rat _, x, B, ⟨_, _, _, _, h⟩, _ => h
  | .lst o ds, x, B, ⟨a, xs, B', e, ha, hs, f⟩, h => by
    rcases f with ⟨ho, f⟩ | ⟨_, _, f, _⟩
    · simp [D.fz, ho] at h
    · exact f
  | .tup o ds, x, B, ⟨a, xs, B', e, ha, hs, f⟩, h => by
    rcases f with ⟨ho, f⟩ | ⟨_, _, f, _⟩
    · simp [D.fz, ho] at h
    · exact f
  | .tab ds, x, B, ⟨_, _, _, _, _, _, _, _, _, _, f⟩, h => f
theorem RDs.fz_nil : ∀ (ds : List D) {xs : List V} {B : List Addr}, RDs C T H A ds xs B → fzs ds = true → B = []
  | [], xs, B, h, _ => h.2
  | d :: ds, xs, B, ⟨x, xs', B1, B2, e, f, h1, h2⟩, h => by
    simp [fzs] at h
    rw [f, RD.fz_nil d h1 h.1, RDs.fz_nil ds h2 h.2]
    rfl
end
end
/-! ### entries -/
inductive Ent where
  | v (x : V) (d : D)
  | cell (a : Addr) (t : Bool) (xs : List V)
  | pin (a : Addr) (t : Bool) (xs : List V)
  | pins (P : Addr → Option HO)
def ho (t : Bool) (xs : List V) : HO := if t then .tup xs else .lst xs
def RE (C T : Addr) (H : Hp) (A : List Addr) : Ent → List Addr → Prop
  | .v x d, B => RD C T H A d x B
  | .cell a t xs, B => H a = some (ho t xs) ∧ B = [a]
  | .pin a t xs, B => H a = some (ho t xs) ∧ a ∉ A ∧ B = []
  | .pins P, B => (∀ a o, P a = some o → H a = some o ∧ a ∉ A) ∧ B = []
def REs (C T : Addr) (H : Hp) (A : List Addr) : List Ent → List Addr → Prop
  | [], B => B = []
  | e :: L, B => ∃ B1 B2, B = B1 ++ B2 ∧ RE C T H A e B1 ∧ REs C T H A L B2
def Rep (C T : Addr) (H : Hp) (L : List Ent) : Prop := ∃ A, REs C T H A L A ∧ A.Nodup
def zipE : List V → List D → List Ent
  | x :: xs, d :: ds => .v x d :: zipE xs ds
  | _, _ => []
theorem seqO_ho {t : Bool} {xs : List V} : SeqO (ho t xs) := by
  unfold ho
  split
  · exact ⟨xs, .inr rfl⟩
  · exact ⟨xs, .inl rfl⟩
section
variable {C T : Addr} {H H' : Hp} {A A' : List Addr}
theorem RE.mono (K : ∀ a o, H a = some o → a ∉ A → H' a = some o ∧ a ∉ A') {e : Ent} {B : List Addr} (h : RE C T H A e B) (hb : ∀ a ∈ B, H' a = H a) : RE C T H' A' e B := by
  cases e with
  | v x d => exact RD.mono K d h hb
  | cell a t xs =>
    obtain ⟨h1, h2⟩ := h
    exact ⟨by rw [hb a (by rw [h2]; exact List.mem_cons_self)]; exact h1, h2⟩
  | pin a t xs =>
    obtain ⟨h1, h2, h3⟩ := h
    exact ⟨(K a _ h1 h2).1, (K a _ h1 h2).2, h3⟩
  | pins P => exact ⟨fun a o e => K a o (h.1 a o e).1 (h.1 a o e).2, h.2⟩
theorem REs.mono (K : ∀ a o, H a = some o → a ∉ A → H' a = some o ∧ a ∉ A') : ∀ {L : List Ent} {B : List Addr}, REs C T H A L B → (∀ a ∈ B, H' a = H a) → REs C T H' A' L B
  | [], B, h, _ => h
  | e :: L, B, ⟨B1, B2, f, h1, h2⟩, hb => ⟨B1, B2, f, h1.mono K fun a ha => hb a (by rw [f]; exact List.mem_append_left _ ha), REs.mono K h2 fun a ha => hb a (by rw [f]; exact List.mem_append_right _ ha)⟩
theorem RE.has {e : Ent} {B : List Addr} (h : RE C T H A e B) : ∀ a ∈ B, ∃ o, H a = some o ∧ SeqO o := by
  cases e with
  | v x d => exact RD.has d h
  | cell a t xs =>
    obtain ⟨h1, h2⟩ := h
    intro b hb
    rw [h2] at hb
    cases List.mem_singleton.mp hb
    exact ⟨_, h1, seqO_ho⟩
  | pin a t xs =>
    intro b hb
    rw [h.2.2] at hb
    cases hb
  | pins P =>
    intro b hb
    rw [h.2] at hb
    cases hb
theorem REs.has : ∀ {L : List Ent} {B : List Addr}, REs C T H A L B → ∀ a ∈ B, ∃ o, H a = some o ∧ SeqO o
  | [], B, h, a, ha => by rw [show B = [] from h] at ha; cases ha
  | e :: L, B, ⟨B1, B2, f, h1, h2⟩, a, ha => by
    rw [f] at ha
    rcases List.mem_append.mp ha with ha | ha
    · exact h1.has a ha
    · exact h2.has a ha
theorem REs.perm {L L' : List Ent} (p : L.Perm L') : ∀ {B : List Addr}, REs C T H A L B → ∃ B', B.Perm B' ∧ REs C T H A L' B' := by
  induction p with
  | nil => intro B h; exact ⟨B, .refl _, h⟩
  | cons e _ ih =>
    rintro B ⟨B1, B2, f, h1, h2⟩
    obtain ⟨B2', p2, h2'⟩ := ih h2
    exact ⟨B1 ++ B2', by rw [f]; exact p2.append_left _, B1, B2', rfl, h1, h2'⟩
  | swap e e' L =>
    rintro B ⟨B1, B2, f, h1, B3, B4, f2, h3, h4⟩
    refine ⟨B3 ++ (B1 ++ B4), ?_, B3, B1 ++ B4, rfl, h3, B1, B4, rfl, h1, h4⟩
    rw [f, f2, ← List.append_assoc, ← List.append_assoc]
    exact List.perm_append_comm.append_right _
  | trans _ _ ih1 ih2 =>
    intro B h
    obtain ⟨B', p1, h'⟩ := ih1 h
    obtain ⟨B'', p2, h''⟩ := ih2 h'
    exact ⟨B'', p1.trans p2, h''⟩
theorem REs.app : ∀ {L L' : List Ent} {B : List Addr}, REs C T H A (L ++ L') B → ∃ B1 B2, B = B1 ++ B2 ∧ REs C T H A L B1 ∧ REs C T H A L' B2
  | [], L', B, h => ⟨[], B, rfl, rfl, h⟩
  | e :: L, L', B, ⟨B1, B2, f, h1, h2⟩ => by
    obtain ⟨B3, B4, f2, h3, h4⟩ := REs.app h2
    exact ⟨B1 ++ B3, B4, by rw [f, f2, List.append_assoc], ⟨B1, B3, rfl, h1, h3⟩, h4⟩
theorem REs.mk : ∀ {L L' : List Ent} {B1 B2 : List Addr}, REs C T H A L B1 → REs C T H A L' B2 → REs C T H A (L ++ L') (B1 ++ B2)
  | [], L', B1, B2, h, h' => by rw [show B1 = [] from h]; exact h'
  | e :: L, L', B1, B2, ⟨B3, B4, f, h3, h4⟩, h' => ⟨B3, B4 ++ B2, by rw [f, List.append_assoc], h3, REs.mk h4 h'⟩
theorem RDs.zip : ∀ {ds : List D} {xs : List V} {B : List Addr}, RDs C T H A ds xs B → REs C T H A (zipE xs ds) B ∧ xs.length = ds.length
  | [], xs, B, h => by
    rw [h.1]
    exact ⟨h.2, rfl⟩
  | d :: ds, xs, B, ⟨x, xs', B1, B2, e, f, h1, h2⟩ => by
    subst e
    obtain ⟨z1, z2⟩ := RDs.zip h2
    exact ⟨⟨B1, B2, f, h1, z1⟩, by simp [z2]⟩
theorem RDs.of : ∀ {ds : List D} {xs : List V} {B : List Addr}, REs C T H A (zipE xs ds) B → xs.length = ds.length → RDs C T H A ds xs B
  | [], [], B, h, _ => ⟨rfl, h⟩
  | [], _ :: _, B, h, e => by simp at e
  | _ :: _, [], B, h, e => by simp at e
  | d :: ds, x :: xs, B, ⟨B1, B2, f, h1, h2⟩, e => ⟨x, xs, B1, B2, rfl, f, h1, RDs.of h2 (by simpa using e)⟩

/-! ### the whole state -/
theorem Rep.perm {L L' : List Ent} (h : Rep C T H L) (p : L.Perm L') : Rep C T H L' := by
  obtain ⟨A, h, n⟩ := h
  obtain ⟨A', p', h'⟩ := h.perm p
  exact ⟨A', h'.mono (fun a o e na => ⟨e, fun z => na (p'.mem_iff.mpr z)⟩) fun _ _ => rfl, p'.nodup_iff.mp n⟩
theorem Rep.same {L : List Ent} (h : Rep C T H L) (s : Same H H') : Rep C T H' L := by
  obtain ⟨A, h, n⟩ := h
  refine ⟨A, h.mono (fun a o e na => ⟨s _ _ e, na⟩) fun a ha => ?_, n⟩
  obtain ⟨o, e, _⟩ := h.has a ha
  rw [e, s _ _ e]
theorem Rep.right {L L' : List Ent} (h : Rep C T H (L ++ L')) : Rep C T H L' := by
  obtain ⟨A, h, n⟩ := h
  obtain ⟨B1, B2, f, h1, h2⟩ := h.app
  rw [f] at n
  exact ⟨B2, h2.mono (fun a o e na => ⟨e, fun z => na (by rw [f]; exact List.mem_append_right _ z)⟩) fun _ _ => rfl, (List.nodup_append.mp n).2.1⟩
theorem Rep.tail {e : Ent} {L : List Ent} (h : Rep C T H (e :: L)) : Rep C T H L := Rep.right (L := [e]) h
theorem Rep.nil : Rep C T H [] := ⟨[], rfl, List.nodup_nil⟩
theorem Rep.dup {x : V} {d : D} {L : List Ent} (h : Rep C T H (.v x d :: L)) (f : d.fz = true) : Rep C T H (.v x d :: .v x d :: L) := by
  obtain ⟨A, ⟨B1, B2, e, h1, h2⟩, n⟩ := h
  have z := RD.fz_nil d h1 f
  subst z
  exact ⟨A, ⟨[], A, rfl, h1, [], B2, e, h1, h2⟩, n⟩
theorem Rep.frz {x : V} {d : D} {L : List Ent} (h : Rep C T H (.v x d :: L)) : Rep C T H (.v x d.frz :: L) := by
  obtain ⟨A, ⟨B1, B2, e, h1, h2⟩, n⟩ := h
  subst e
  have n' := List.nodup_append.mp n
  refine ⟨B2, ⟨[], B2, rfl, RD.frz (A' := B2) (fun a o e na z => na (List.mem_append_right _ z)) d h1 fun a ha hb => n'.2.2 a ha a hb rfl, ?_⟩, n'.2.1⟩
  exact h2.mono (fun a o e na => ⟨e, fun z => na (List.mem_append_right _ z)⟩) fun _ _ => rfl
theorem Rep.add {x : V} {d : D} {L : List Ent} (h : Rep C T H L) (k : ∀ A, RD C T H A d x []) : Rep C T H (.v x d :: L) := by
  obtain ⟨A, h, n⟩ := h
  exact ⟨A, ⟨[], A, rfl, k A, h⟩, n⟩
theorem Rep.int {i : Int} {L : List Ent} (h : Rep C T H L) : Rep C T H (.v (.int i) (.int i) :: L) := h.add fun _ => ⟨rfl, rfl⟩
theorem Rep.bl {i : Bool} {L : List Ent} (h : Rep C T H L) : Rep C T H (.v (.bl i) (.bl i) :: L) := h.add fun _ => ⟨rfl, rfl⟩
theorem Rep.str {i : Str} {L : List Ent} (h : Rep C T H L) : Rep C T H (.v (.str i) (.str i) :: L) := h.add fun _ => ⟨rfl, rfl⟩
theorem Rep.non {L : List Ent} (h : Rep C T H L) : Rep C T H (.v .non .non :: L) := h.add fun _ => ⟨rfl, rfl⟩
theorem Rep.rat {a : Addr} {q : Rat} {L : List Ent} (h : Rep C T H L) (s : Same H H') (r : RatAt C H' a (pr q)) : Rep C T H' (.v (.ref a) (.rat q) :: L) := by
  obtain ⟨A, h, n⟩ := h.same s
  refine ⟨A, ⟨[], A, rfl, ⟨a, rfl, fun z => ?_, r, rfl⟩, h⟩, n⟩
  obtain ⟨o, e, xs, q⟩ := h.has a z
  obtain ⟨dx, e'⟩ := r
  rw [e'] at e
  rcases q with q | q <;> (rw [q] at e; cases e)
def hd (o t : Bool) (a : Addr) (xs : List V) : Ent := if o then .cell a t xs else .pin a t xs
def D.seq (t o : Bool) (ds : List D) : D := if t then .tup o ds else .lst o ds
theorem RD.seq {t o : Bool} {ds : List D} {x : V} {B : List Addr} (h : RD C T H A (D.seq t o ds) x B) : ∃ a xs B', x = .ref a ∧ H a = some (ho t xs) ∧ RDs C T H A ds xs B' ∧ Foot o A a B B' := by
  cases t with
  | true => exact h
  | false => exact h
theorem RD.seq' {t o : Bool} {ds : List D} {x : V} {B : List Addr} (h : ∃ a xs B', x = .ref a ∧ H a = some (ho t xs) ∧ RDs C T H A ds xs B' ∧ Foot o A a B B') : RD C T H A (D.seq t o ds) x B := by
  cases t with
  | true => exact h
  | false => exact h
theorem Rep.open_ {t o : Bool} {x : V} {ds : List D} {L : List Ent} (h : Rep C T H (.v x (D.seq t o ds) :: L)) :
    ∃ a xs, x = .ref a ∧ H a = some (ho t xs) ∧ xs.length = ds.length ∧ (o = false → fzs ds = true) ∧ Rep C T H (hd o t a xs :: (zipE xs ds ++ L)) := by
  obtain ⟨A, ⟨B1, B2, e, h1, h2⟩, n⟩ := h
  obtain ⟨a, xs, B', rfl, ha, hs, f⟩ := RD.seq h1
  obtain ⟨z1, z2⟩ := hs.zip
  rcases f with ⟨q, f⟩ | ⟨q, na, f, f'⟩
  · refine ⟨a, xs, rfl, ha, z2, (fun z => by rw [q] at z; cases z), A, ?_, n⟩
    rw [q]
    exact ⟨[a], B' ++ B2, by rw [e, f]; rfl, ⟨ha, rfl⟩, REs.mk z1 h2⟩
  · subst f'
    subst f
    refine ⟨a, xs, rfl, ha, z2, fun _ => RDs.nil_fz ds hs, A, ?_, n⟩
    rw [q]
    have z3 := REs.mk z1 h2
    rw [← e] at z3
    exact ⟨[], A, rfl, ⟨ha, na, rfl⟩, z3⟩
theorem Rep.close {t o : Bool} {a : Addr} {xs : List V} {ds : List D} {L : List Ent} (h : Rep C T H (hd o t a xs :: (zipE xs ds ++ L))) (l : xs.length = ds.length) (k : o = false → fzs ds = true) : Rep C T H (.v (.ref a) (D.seq t o ds) :: L) := by
  obtain ⟨A, ⟨B1, B2, e, h1, h2⟩, n⟩ := h
  obtain ⟨B3, B4, f, h3, h4⟩ := h2.app
  have hs := RDs.of h3 l
  cases o with
  | true =>
    obtain ⟨ha, hb⟩ : H a = some (ho t xs) ∧ B1 = [a] := h1
    exact ⟨A, ⟨a :: B3, B4, by rw [e, f, hb]; rfl, RD.seq' ⟨a, xs, B3, rfl, ha, hs, .inl ⟨rfl, rfl⟩⟩, h4⟩, n⟩
  | false =>
    obtain ⟨ha, na, hb⟩ : H a = some (ho t xs) ∧ a ∉ A ∧ B1 = [] := h1
    have z := RDs.fz_nil ds hs (k rfl)
    subst z
    exact ⟨A, ⟨[], B4, by rw [e, f, hb]; rfl, RD.seq' ⟨a, xs, [], rfl, ha, hs, .inr ⟨rfl, na, rfl, rfl⟩⟩, h4⟩, n⟩
theorem Rep.new {t : Bool} {p : Addr} {xs : List V} {L : List Ent} (h : Rep C T H L) (hp : H p = none) : Rep C T (upd H p (ho t xs)) (.cell p t xs :: L) := by
  obtain ⟨A, h, n⟩ := h
  have hpA : p ∉ A := fun z => by
    obtain ⟨o, e, _⟩ := h.has p z
    rw [hp] at e
    cases e
  refine ⟨p :: A, ⟨[p], A, rfl, ⟨upd_same, rfl⟩, h.mono (fun a o e na => ?_) fun a ha => upd_ne fun z => hpA (z ▸ ha)⟩, List.nodup_cons.mpr ⟨hpA, n⟩⟩
  have hap : a ≠ p := ne_of_none e hp
  exact ⟨by rw [upd_ne hap]; exact e, fun z => (List.mem_cons.mp z).elim hap na⟩
theorem Rep.set {t t' : Bool} {a : Addr} {xs ys : List V} {L : List Ent} (h : Rep C T H (.cell a t xs :: L)) : Rep C T (upd H a (ho t' ys)) (.cell a t' ys :: L) := by
  obtain ⟨A, ⟨B1, B2, e, ⟨h1, hb⟩, h2⟩, n⟩ := h
  subst hb
  subst e
  have n' := List.nodup_cons.mp n
  refine ⟨[a] ++ B2, ⟨[a], B2, rfl, ⟨upd_same, rfl⟩, h2.mono (fun b o e na => ⟨?_, na⟩) fun b hb => upd_ne fun z => n'.1 (z ▸ hb)⟩, n⟩
  rw [upd_ne fun z => na (by rw [z]; exact List.mem_cons_self)]
  exact e
theorem Rep.cellAt {t : Bool} {a : Addr} {xs : List V} {L : List Ent} (h : Rep C T H (.cell a t xs :: L)) : H a = some (ho t xs) := by
  obtain ⟨A, ⟨B1, B2, e, ⟨h1, hb⟩, h2⟩, n⟩ := h
  exact h1
theorem Rep.pinAt {t : Bool} {a : Addr} {xs : List V} {L : List Ent} (h : Rep C T H (.pin a t xs :: L)) : H a = some (ho t xs) := by
  obtain ⟨A, ⟨B1, B2, e, ⟨h1, hb⟩, h2⟩, n⟩ := h
  exact h1
theorem Rep.pinDup {t : Bool} {a : Addr} {xs : List V} {L : List Ent} (h : Rep C T H (.pin a t xs :: L)) : Rep C T H (.pin a t xs :: .pin a t xs :: L) := by
  obtain ⟨A, ⟨B1, B2, e, ⟨h1, na, hb⟩, h2⟩, n⟩ := h
  subst hb
  exact ⟨A, ⟨[], A, rfl, ⟨h1, na, rfl⟩, [], B2, e, ⟨h1, na, rfl⟩, h2⟩, n⟩
/-- what stands at an entry -/
theorem Rep.at_ {x : V} {d : D} {L : List Ent} (h : Rep C T H (.v x d :: L)) : ∃ A B, RD C T H A d x B := by
  obtain ⟨A, ⟨B1, B2, e, h1, h2⟩, n⟩ := h
  exact ⟨A, B1, h1⟩
end
/-! ### slots -/
abbrev Env := List (Option D)
inductive Sl : L2.St → Env → List Ent → Prop where
  | nil : Sl [] [] []
  | un {x : Option V} {σ : L2.St} {env : Env} {E : List Ent} : Sl σ env E → Sl (x :: σ) (none :: env) E
  | so {x : V} {d : D} {σ : L2.St} {env : Env} {E : List Ent} : Sl σ env E → Sl (some x :: σ) (some d :: env) (.v x d :: E)
theorem Sl.len {σ : L2.St} {env : Env} {E : List Ent} (h : Sl σ env E) : σ.length = env.length := by
  induction h with
  | nil => rfl
  | un _ ih => simp [ih]
  | so _ ih => simp [ih]
theorem Sl.take {σ : L2.St} {env : Env} {E : List Ent} (h : Sl σ env E) : ∀ {i : Nat} {d : D}, env[i]? = some (some d) → ∃ x E', σ[i]? = some (some x) ∧ Sl σ (env.set i none) E' ∧ E.Perm (.v x d :: E') := by
  induction h with
  | nil => intro i d e; simp at e
  | @un x σ env E h ih =>
    intro i d e
    cases i with
    | zero => simp at e
    | succ i =>
      obtain ⟨y, E', h1, h2, h3⟩ := ih (i := i) (d := d) (by simpa using e)
      exact ⟨y, E', by simpa using h1, .un h2, h3⟩
  | @so x d' σ env E h ih =>
    intro i d e
    cases i with
    | zero =>
      have e' : d' = d := by simpa using e
      subst e'
      exact ⟨x, E, rfl, .un h, .refl _⟩
    | succ i =>
      obtain ⟨y, E', h1, h2, h3⟩ := ih (i := i) (d := d) (by simpa using e)
      exact ⟨y, .v x d' :: E', by simpa using h1, .so h2, (h3.cons _).trans (List.Perm.swap _ _ _)⟩
theorem Sl.put {σ : L2.St} {env : Env} {E : List Ent} (h : Sl σ env E) (x : V) (d : D) : ∀ {i : Nat}, env[i]? = some none → ∃ E', Sl (σ.set i (some x)) (env.set i (some d)) E' ∧ E'.Perm (.v x d :: E) := by
  induction h with
  | nil => intro i e; simp at e
  | @un y σ env E h ih =>
    intro i e
    cases i with
    | zero => exact ⟨_, .so h, .refl _⟩
    | succ i =>
      obtain ⟨E', h2, h3⟩ := ih (i := i) (by simpa using e)
      exact ⟨E', .un h2, h3⟩
  | @so y d' σ env E h ih =>
    intro i e
    cases i with
    | zero => simp at e
    | succ i =>
      obtain ⟨E', h2, h3⟩ := ih (i := i) (by simpa using e)
      exact ⟨_, .so h2, (h3.cons _).trans (List.Perm.swap _ _ _)⟩
theorem set_self {α : Type} : ∀ {l : List α} {i : Nat} {x : α}, l[i]? = some x → l.set i x = l
  | [], i, x, h => by simp at h
  | y :: l, 0, x, h => by
    simp at h
    simp [h]
  | y :: l, i + 1, x, h => by
    simp at h
    simp [set_self h]
theorem Sl.clear {σ : L2.St} {env : Env} {E : List Ent} (h : Sl σ env E) (i : Nat) : ∃ E' M, Sl σ (env.set i none) E' ∧ E.Perm (M ++ E') := by
  cases e : env[i]? with
  | none => exact ⟨E, [], by rw [List.set_eq_of_length_le (by simpa using e)]; exact h, .refl _⟩
  | some o =>
    cases o with
    | none => exact ⟨E, [], by rw [set_self e]; exact h, .refl _⟩
    | some d =>
      obtain ⟨x, E', _, h1, h2⟩ := h.take e
      exact ⟨E', [.v x d], h1, h2⟩
def RS (C T : Addr) (H : Hp) (σ : L2.St) (env : Env) (L : List Ent) : Prop := ∃ E, Sl σ env E ∧ Rep C T H (E ++ L)
section
variable {C T : Addr} {H H' : Hp} {σ : L2.St} {env : Env} {L M M' : List Ent}
theorem RS.lift (h : RS C T H σ env (M ++ L)) (f : ∀ L', Rep C T H (M ++ L') → Rep C T H' (M' ++ L')) : RS C T H' σ env (M' ++ L) := by
  obtain ⟨E, s, r⟩ := h
  have p1 : (E ++ (M ++ L)).Perm (M ++ (E ++ L)) := by
    rw [← List.append_assoc, ← List.append_assoc]
    exact List.perm_append_comm.append_right _
  have p2 : (M' ++ (E ++ L)).Perm (E ++ (M' ++ L)) := by
    rw [← List.append_assoc, ← List.append_assoc]
    exact List.perm_append_comm.append_right _
  exact ⟨E, s, (f _ (r.perm p1)).perm p2⟩
theorem RS.perm (h : RS C T H σ env L) (p : L.Perm M) : RS C T H σ env M := by
  obtain ⟨E, s, r⟩ := h
  exact ⟨E, s, r.perm (p.append_left _)⟩
theorem RS.same (h : RS C T H σ env L) (s : Same H H') : RS C T H' σ env L := by
  obtain ⟨E, s', r⟩ := h
  exact ⟨E, s', r.same s⟩
theorem RS.right (h : RS C T H σ env (M ++ L)) : RS C T H σ env L := h.lift (M' := []) fun L' r => r.right
theorem RS.tail {e : Ent} (h : RS C T H σ env (e :: L)) : RS C T H σ env L := RS.right (M := [e]) h
theorem RS.len (h : RS C T H σ env L) : σ.length = env.length := by
  obtain ⟨E, s', r⟩ := h
  exact s'.len
theorem RS.take {i : Nat} {d : D} (h : RS C T H σ env L) (e : env[i]? = some (some d)) : ∃ x, σ[i]? = some (some x) ∧ RS C T H σ (env.set i none) (.v x d :: L) := by
  obtain ⟨E, s, r⟩ := h
  obtain ⟨x, E', h1, h2, p⟩ := s.take e
  exact ⟨x, h1, E', h2, r.perm ((p.append_right L).trans (List.perm_middle (a := Ent.v x d) (l₁ := E') (l₂ := L)).symm)⟩
theorem RS.put {i : Nat} {x : V} {d : D} (h : RS C T H σ env (.v x d :: L)) (e : env[i]? = some none) : RS C T H (σ.set i (some x)) (env.set i (some d)) L := by
  obtain ⟨E, s, r⟩ := h
  obtain ⟨E', h2, p⟩ := s.put x d e
  exact ⟨E', h2, r.perm ((List.perm_middle (a := Ent.v x d) (l₁ := E) (l₂ := L)).trans (p.append_right L).symm)⟩
theorem RS.back {i : Nat} {x : V} {d : D} (h : RS C T H σ env (.v x d :: L)) (e : env[i]? = some none) (hx : σ[i]? = some (some x)) : RS C T H σ (env.set i (some d)) L := by
  have z := h.put e
  rw [set_self hx] at z
  exact z
theorem RS.clear (h : RS C T H σ env L) (i : Nat) : RS C T H σ (env.set i none) L := by
  obtain ⟨E, s, r⟩ := h
  obtain ⟨E', M, h1, p⟩ := s.clear i
  refine ⟨E', h1, Rep.right (L := M) ?_⟩
  rw [← List.append_assoc]
  exact r.perm (p.append_right L)
theorem RS.store {i : Nat} {x : V} {d : D} (h : RS C T H σ env (.v x d :: L)) (e : i < env.length) : RS C T H (σ.set i (some x)) (env.set i (some d)) L := by
  have z := (h.clear i).put (i := i) (by rw [List.getElem?_set_self e])
  rw [List.set_set] at z
  exact z
theorem RS.get {i : Nat} {d : D} (h : RS C T H σ env L) (e : env[i]? = some (some d)) (f : d.fz = true) : ∃ x, σ[i]? = some (some x) ∧ RS C T H σ env (.v x d :: L) := by
  obtain ⟨x, hx, r⟩ := h.take e
  refine ⟨x, hx, ?_⟩
  have r2 : RS C T H σ (env.set i none) (.v x d :: .v x d :: L) := RS.lift (M := [.v x d]) (M' := [.v x d, .v x d]) r fun L' z => z.dup f
  have hi : i < env.length := (List.getElem?_eq_some_iff.mp e).1
  have z := r2.back (i := i) (by rw [List.getElem?_set_self hi]) hx
  rw [List.set_set, set_self e] at z
  exact z
/-- slot i frozen -/
theorem RS.frzAt {i : Nat} {d : D} (h : RS C T H σ env L) (e : env[i]? = some (some d)) : RS C T H σ (env.set i (some d.frz)) L := by
  obtain ⟨x, hx, r⟩ := h.take e
  have r2 : RS C T H σ (env.set i none) (.v x d.frz :: L) := RS.lift (M := [.v x d]) (M' := [.v x d.frz]) r fun L' z => z.frz
  have hi : i < env.length := (List.getElem?_eq_some_iff.mp e).1
  have z := r2.back (i := i) (by rw [List.getElem?_set_self hi]) hx
  rw [List.set_set] at z
  exact z
end
end Dx

set_option Elab.async false
set_option linter.all false
set_option maxRecDepth 100000
set_option maxHeartbeats 4000000
namespace Dx
open PySem PySem.Spec PyProof.Rows L2 Own
open PySem.W (Frag)

abbrev CR (K : Frag) : Addr := ga K "Ratio"
abbrev CT (K : Frag) : Addr := ga K "Table"
abbrev Rk (K : Frag) (H : Hp) (L : List Ent) : Prop := Rep (CR K) (CT K) H L
abbrev Sk (K : Frag) (H : Hp) (σ : L2.St) (env : Env) (L : List Ent) : Prop := RS (CR K) (CT K) H σ env L
/-! ### expressions -/
inductive AV where
  | s (i : Nat)
  | t (d : D)
abbrev DE := Env → Option (AV × Env)
abbrev DT := Env → Option (Bool × Env)
abbrev DA := Env → Option (List AV × Env)
def avE : AV → V → List Ent
  | .s _, _ => []
  | .t d, x => [.v x d]
def avS (σ : L2.St) : AV → V → Prop
  | .s i, x => σ[i]? = some (some x)
  | .t _, _ => True
def tD (K : Frag) (f : DE) : TE := fun σ H Q => ∃ env L av env', Sk K H σ env L ∧ f env = some (av, env') ∧ ∀ x H', Sk K H' σ env' (avE av x ++ L) → avS σ av x → Q x H'
def tDT (K : Frag) (f : DT) : TT := fun σ H Q => ∃ env L b env', Sk K H σ env L ∧ f env = some (b, env') ∧ ∀ H', Sk K H' σ env' L → Q b H'
def avsE : List AV → List V → List Ent
  | a :: as, x :: xs => avsE as xs ++ avE a x
  | _, _ => []
def avsS (σ : L2.St) : List AV → List V → Prop
  | [], xs => xs = []
  | a :: as, xs => ∃ x ys, xs = x :: ys ∧ avS σ a x ∧ avsS σ as ys
def tDA (K : Frag) (f : DA) : TA := fun σ H Q => ∃ env L avs env', Sk K H σ env L ∧ f env = some (avs, env') ∧ ∀ xs H', Sk K H' σ env' (avsE avs xs ++ L) → avsS σ avs xs → Q xs H'
/-- frozen -/
def toF : AV → Env → Option (D × Env)
  | .t d, env => some (d.frz, env)
  | .s i, env => match env[i]? with
    | some (some d) => some (d.frz, env.set i (some d.frz))
    | _ => none
def toFs : List AV → Env → Option (List D × Env)
  | [], env => some ([], env)
  | a :: as, env => (toF a env).bind fun p => (toFs as p.2).bind fun q => some (p.1 :: q.1, q.2)

theorem _root_.L2.PE.of {X : Cx} {e : Expr} {t t' : TE} (h : PE X e t) (k : ∀ σ H Q, t' σ H Q → t σ H Q) : PE X e t' := ⟨fun pins s σ H Q I q => h.run pins s σ H Q I (k _ _ _ q)⟩
theorem _root_.L2.PT.of {X : Cx} {e : Expr} {t t' : TT} (h : PT X e t) (k : ∀ σ H Q, t' σ H Q → t σ H Q) : PT X e t' := ⟨fun pins s σ H Q I q => h.run pins s σ H Q I (k _ _ _ q)⟩
theorem _root_.L2.PW.of {X : Cx} {e : Expr} {t t' : TT} (h : PW X e t) (k : ∀ σ H Q, t' σ H Q → t σ H Q) : PW X e t' := ⟨fun w pins s σ H Q I q => h.run w pins s σ H Q I (k _ _ _ q)⟩
theorem _root_.L2.PA.of {X : Cx} {e : List Expr} {t t' : TA} (h : PA X e t) (k : ∀ σ H Q, t' σ H Q → t σ H Q) : PA X e t' := ⟨fun w pins s σ H Q I q => h.run w pins s σ H Q I (k _ _ _ q)⟩
theorem _root_.L2.PS.of {X : Cx} {e : Stmt} {t t' : TS} (h : PS X e t) (k : ∀ D σ H, t' D σ H → t D σ H) : PS X e t' := ⟨fun pins s σ H D I q => h.run pins s σ H D I (k _ _ _ q)⟩
theorem _root_.L2.PSs.of {X : Cx} {e : List Stmt} {t t' : TS} (h : PSs X e t) (k : ∀ D σ H, t' D σ H → t D σ H) : PSs X e t' := ⟨fun pins s σ H D I q => h.run pins s σ H D I (k _ _ _ q)⟩

theorem bs {α β : Type} {o : Option α} {f : α → Option β} {y : β} (h : o.bind f = some y) : ∃ x, o = some x ∧ f x = some y := Option.bind_eq_some_iff.mp h
section
variable {K : Frag} {H H' : Hp} {σ : L2.St} {env env' : Env} {L M : List Ent} {x y : V} {d e : D}
theorem toF_ok {av : AV} (h : Sk K H σ env (avE av x ++ L)) (s : avS σ av x) (e : toF av env = some (d, env')) : Sk K H σ env' (.v x d :: L) ∧ d.fz = true := by
  cases av with
  | t d0 =>
    cases e
    exact ⟨RS.lift (M := [.v x d0]) (M' := [.v x d0.frz]) h fun L' z => z.frz, frz_fz d0⟩
  | s i =>
    simp only [toF] at e
    split at e
    · rename_i d0 ed
      cases e
      have h2 : Sk K H σ env L := h
      have r := h2.frzAt ed
      have hi : i < env.length := (List.getElem?_eq_some_iff.mp ed).1
      obtain ⟨x', hx, r2⟩ := r.get (by rw [List.getElem?_set_self hi]) (frz_fz d0)
      have s' : σ[i]? = some (some x) := s
      rw [hx] at s'
      cases s'
      exact ⟨r2, frz_fz d0⟩
    · cases e
theorem toFs_ok : ∀ {avs : List AV} {xs : List V} {ds : List D} {env env' : Env} {L : List Ent}, Sk K H σ env (avsE avs xs ++ L) → avsS σ avs xs → toFs avs env = some (ds, env') →
    Sk K H σ env' (zipE xs ds ++ L) ∧ fzs ds = true ∧ xs.length = ds.length
  | [], xs, ds, env, env', L, h, s, e => by
    cases e
    cases (show xs = [] from s)
    exact ⟨h, rfl, rfl⟩
  | a :: as, xs, ds, env, env', L, h, s, e => by
    obtain ⟨x, ys, rfl, s1, s2⟩ := s
    obtain ⟨⟨d, e1⟩, h1, e⟩ := bs e
    obtain ⟨⟨ds', e2⟩, h2, e⟩ := bs e
    cases e
    have r : Sk K H σ env (avE a x ++ (avsE as ys ++ L)) := h.perm (by
      show (avsE as ys ++ avE a x ++ L).Perm _
      rw [← List.append_assoc]
      exact List.perm_append_comm.append_right _)
    obtain ⟨r1, f1⟩ := toF_ok r s1 h1
    have r1' : Sk K H σ e1 (avsE as ys ++ (.v x d :: L)) := r1.perm (List.perm_middle).symm
    obtain ⟨r2, f2, l2⟩ := toFs_ok r1' s2 h2
    refine ⟨r2.perm List.perm_middle, ?_, by simp [l2]⟩
    simp [fzs, f1, f2]
/-! ### names, constants -/
def nameD (i : Nat) : DE := fun env => match env[i]? with
  | some (some d) => if d.fz then some (.t d, env) else some (.s i, env)
  | _ => none
def litD (d : D) : DE := fun env => some (.t d, env)
end
section
variable {X : Cx} {K : Frag} {f fa fb : DE} {a b e : Expr} {pos : Pos}
theorem tVar_of {i : Nat} {σ : L2.St} {H : Hp} {Q : VK} (h : tD K (nameD i) σ H Q) : tVar i σ H Q := by
  obtain ⟨env, L, av, env', R, e, k⟩ := h
  simp only [nameD] at e
  split at e
  · rename_i d ed
    split at e
    · rename_i hf
      cases e
      obtain ⟨x, hx, r⟩ := R.get ed hf
      exact ⟨x, hx, k x H r trivial⟩
    · cases e
      obtain ⟨x, hx, r⟩ := R.take ed
      exact ⟨x, hx, k x H R hx⟩
  · cases e
theorem pd_name {i : Nat} {x : Str} (hN : X.N[i]? = some x) (hv : Vis X.env.scope x) (hd : (x == ("__debug__" : Str)) = false := by decide) (hcd : (x == ("__classdict__" : Str)) = false := by decide) : PE X (.Name x pos) (tD X.K (nameD i)) :=
  (pe_var hN hv hd hcd).of fun σ H Q h => tVar_of h
theorem lit_of {v : V} {d : D} (r : ∀ C T H A, RD C T H A d v []) {σ : L2.St} {H : Hp} {Q : VK} (h : tD K (litD d) σ H Q) : tC v σ H Q := by
  obtain ⟨env, L, av, env', R, e, k⟩ := h
  cases e
  exact k v H (RS.lift (M := []) (M' := [.v v d]) R fun L' z => z.add fun A => r _ _ _ A) trivial
theorem rd_int (i : Int) : ∀ C T H A, RD C T H A (.int i) (.int i) [] := fun _ _ _ _ => ⟨rfl, rfl⟩
theorem rd_bl (i : Bool) : ∀ C T H A, RD C T H A (.bl i) (.bl i) [] := fun _ _ _ _ => ⟨rfl, rfl⟩
theorem rd_str (i : Str) : ∀ C T H A, RD C T H A (.str i) (.str i) [] := fun _ _ _ _ => ⟨rfl, rfl⟩
theorem rd_non : ∀ C T H A, RD C T H A .non .non [] := fun _ _ _ _ => ⟨rfl, rfl⟩
theorem pd_int {i : Int} {j} : PE X (.Constant (.int i) j pos) (tD X.K (litD (.int i))) := pe_int.of fun σ H Q h => lit_of (rd_int i) h
theorem pd_bl {i : Bool} {j} : PE X (.Constant (.bool i) j pos) (tD X.K (litD (.bl i))) := pe_bl.of fun σ H Q h => lit_of (rd_bl i) h
theorem pd_non {j} : PE X (.Constant .none j pos) (tD X.K (litD .non)) := pe_non.of fun σ H Q h => lit_of rd_non h
theorem pd_str {i : Str} {j} : PE X (.Constant (.str i) j pos) (tD X.K (litD (.str i))) := pe_str.of fun σ H Q h => lit_of (rd_str i) h
theorem pe_gint {x : Str} {i : Int} (g : Gl X x) (h : ∃ t, X.mg x = some (.int i t)) (hd : (x == ("__debug__" : Str)) = false := by rfl) : PE X (.Name x pos) (tC (.int i)) := by
  obtain ⟨t, e⟩ := h
  exact pe_glob (v := .int i) g e ⟨t, rfl⟩ hd
theorem pd_gint {x : Str} {i : Int} (g : Gl X x) (h : ∃ t, X.mg x = some (.int i t)) (hd : (x == ("__debug__" : Str)) = false := by rfl) : PE X (.Name x pos) (tD X.K (litD (.int i))) :=
  (pe_gint g h hd).of fun σ H Q h => lit_of (rd_int i) h
end
/-! ### what is used where it stands: a list keeps its owner, what is within is frozen -/
def D.kf : D → Bool
  | .lst _ ds => fzs ds
  | .tup _ ds => fzs ds
  | d => d.fz
def D.kfz : D → D
  | .lst o ds => .lst o (frzs ds)
  | .tup o ds => .tup o (frzs ds)
  | d => d.frz
theorem kfz_kf (d : D) : d.kfz.kf = true := by
  cases d <;> simp [D.kfz, D.kf, frzs_fz, D.frz, D.fz]
theorem kfz_frz (d : D) : d.kfz.frz = d.frz := by
  cases d <;> simp [D.kfz, D.frz, fzs_frzs, frzs_fz]
theorem fz_kf {d : D} (h : d.fz = true) : d.kf = true := by
  cases d <;> simp_all [D.kf, D.fz]
def takeK : AV → Env → Option (D × Env)
  | .t d, env => some (d.frz, env)
  | .s i, env => match env[i]? with
    | some (some d) => some (d.kfz, env.set i none)
    | _ => none
def backK : AV → D → Env → Env
  | .t _, _, env => env
  | .s i, d, env => env.set i (some d)
def takeKs : List AV → Env → Option (List D × Env)
  | [], env => some ([], env)
  | a :: as, env => (takeK a env).bind fun p => (takeKs as p.2).bind fun q => some (p.1 :: q.1, q.2)
def backKs : List AV → List D → Env → Env
  | a :: as, d :: ds, env => backK a d (backKs as ds env)
  | _, _, env => env
def kfs (ds : List D) : Bool := ds.all D.kf
section
variable {C T : Addr} {H : Hp} {L M : List Ent} {x : V} {d : D}
theorem Rep.kfz (h : Rep C T H (.v x d :: L)) : Rep C T H (.v x d.kfz :: L) := by
  cases d with
  | lst o ds =>
    obtain ⟨a, xs, rfl, ha, l, k, r⟩ := Rep.open_ (t := false) (o := o) (ds := ds) h
    have r2 : Rep C T H (hd o false a xs :: (zipE xs (frzs ds) ++ L)) := by
      have go : ∀ (xs : List V) (ds : List D) (M : List Ent), Rep C T H (M ++ (zipE xs ds ++ L)) → Rep C T H (M ++ (zipE xs (frzs ds) ++ L)) := by
        intro xs
        induction xs with
        | nil =>
          intro ds M z
          cases ds <;> exact z
        | cons y ys ih =>
          intro ds M z
          cases ds with
          | nil => exact z
          | cons e es =>
            have z1 : Rep C T H (.v y e :: (M ++ (zipE ys es ++ L))) := z.perm List.perm_middle
            have z2 := z1.frz
            have z3 := ih es (.v y e.frz :: M) z2
            exact z3.perm List.perm_middle.symm
      exact go xs ds [_] r
    exact r2.close (t := false) (by rw [l, frzs_map, List.length_map]) fun _ => frzs_fz ds
  | tup o ds =>
    obtain ⟨a, xs, rfl, ha, l, k, r⟩ := Rep.open_ (t := true) (o := o) (ds := ds) h
    have r2 : Rep C T H (hd o true a xs :: (zipE xs (frzs ds) ++ L)) := by
      have go : ∀ (xs : List V) (ds : List D) (M : List Ent), Rep C T H (M ++ (zipE xs ds ++ L)) → Rep C T H (M ++ (zipE xs (frzs ds) ++ L)) := by
        intro xs
        induction xs with
        | nil =>
          intro ds M z
          cases ds <;> exact z
        | cons y ys ih =>
          intro ds M z
          cases ds with
          | nil => exact z
          | cons e es =>
            have z1 : Rep C T H (.v y e :: (M ++ (zipE ys es ++ L))) := z.perm List.perm_middle
            have z2 := z1.frz
            have z3 := ih es (.v y e.frz :: M) z2
            exact z3.perm List.perm_middle.symm
      exact go xs ds [_] r
    exact r2.close (t := true) (by rw [l, frzs_map, List.length_map]) fun _ => frzs_fz ds
  | _ => exact h.frz
end
section
variable {K : Frag} {H H' : Hp} {σ : L2.St} {env env' env2 : Env} {L M : List Ent} {x y : V} {d e : D}
theorem set_some {i : Nat} {o : Option D} (h : env[i]? = some o) (u : Option D) : (env.set i u)[i]? = some u := by
  rw [List.getElem?_set_self (List.getElem?_eq_some_iff.mp h).1]
/-- what is taken, and how it comes back -/
def Given (σ : L2.St) (av : AV) (x : V) (env env' : Env) : Prop := match av with
  | .t _ => env' = env
  | .s i => σ[i]? = some (some x) ∧ env'[i]? = some none
theorem takeK_ok {av : AV} (h : Sk K H σ env (avE av x ++ L)) (s : avS σ av x) (e : takeK av env = some (d, env')) : Sk K H σ env' (.v x d :: L) ∧ d.kf = true := by
  cases av with
  | t d0 =>
    cases e
    exact ⟨RS.lift (M := [.v x d0]) (M' := [.v x d0.frz]) h fun L' z => z.frz, fz_kf (frz_fz d0)⟩
  | s i =>
    simp only [takeK] at e
    split at e
    · rename_i d0 ed
      cases e
      obtain ⟨x', hx, r⟩ := RS.take (show Sk K H σ env L from h) ed
      have s' : σ[i]? = some (some x) := s
      rw [hx] at s'
      cases s'
      exact ⟨RS.lift (M := [.v x d0]) (M' := [.v x d0.kfz]) r fun L' z => z.kfz, kfz_kf d0⟩
    · cases e
/-- back into a slot that is empty, dropped otherwise -/
theorem backK_ok {av : AV} (h : Sk K H σ env (.v x d :: L)) (s : avS σ av x) (em : ∀ i, av = .s i → env[i]? = some none) : Sk K H σ (backK av d env) L := by
  cases av with
  | t d0 => exact h.tail
  | s i => exact h.back (em i rfl) s
/-- the slots of these stand empty -/
def emptyAt (avs : List AV) (env : Env) : Prop := ∀ i, AV.s i ∈ avs → env[i]? = some none
theorem takeKs_ok : ∀ {avs : List AV} {xs : List V} {ds : List D} {env env' : Env} {L : List Ent}, Sk K H σ env (avsE avs xs ++ L) → avsS σ avs xs → takeKs avs env = some (ds, env') →
    Sk K H σ env' (zipE xs ds ++ L) ∧ kfs ds = true ∧ xs.length = ds.length ∧ (∀ i : Nat, env[i]? = some none → env'[i]? = some none) ∧ emptyAt avs env' ∧ (∀ i, AV.s i ∈ avs → env[i]? ≠ some none) ∧ (avs.filterMap fun | .s i => some i | .t _ => none).Nodup
  | [], xs, ds, env, env', L, h, s, e => by
    cases e
    cases (show xs = [] from s)
    exact ⟨h, rfl, rfl, fun _ z => z, (fun i z => by cases z), (fun i z => by cases z), List.nodup_nil⟩
  | a :: as, xs, ds, env, env', L, h, s, e => by
    obtain ⟨x, ys, rfl, s1, s2⟩ := s
    obtain ⟨⟨d, e1⟩, h1, e⟩ := bs e
    obtain ⟨⟨ds', e2⟩, h2, e⟩ := bs e
    cases e
    have r : Sk K H σ env (avE a x ++ (avsE as ys ++ L)) := h.perm (by
      show (avsE as ys ++ avE a x ++ L).Perm _
      rw [← List.append_assoc]
      exact List.perm_append_comm.append_right _)
    obtain ⟨r1, f1⟩ := takeK_ok r s1 h1
    have r1' : Sk K H σ e1 (avsE as ys ++ (.v x d :: L)) := r1.perm (List.perm_middle).symm
    obtain ⟨r2, f2, l2, k2, m2, n2, q2⟩ := takeKs_ok r1' s2 h2
    have keep : ∀ i : Nat, env[i]? = some none → e1[i]? = some none := by
      intro i hi
      cases a with
      | t d0 => cases h1; exact hi
      | s j =>
        simp only [takeK] at h1
        split at h1
        · rename_i d0 ed
          cases h1
          by_cases hij : j = i
          · subst hij; rw [ed] at hi; cases hi
          · rw [List.getElem?_set_ne hij]; exact hi
        · cases h1
    have here : ∀ i, a = .s i → e1[i]? = some none ∧ env[i]? ≠ some none := by
      rintro i rfl
      simp only [takeK] at h1
      split at h1
      · rename_i d0 ed
        cases h1
        exact ⟨set_some ed _, by rw [ed]; simp⟩
      · cases h1
    refine ⟨r2.perm List.perm_middle, ?_, by simp [l2], fun i hi => k2 i (keep i hi), ?_, ?_, ?_⟩
    · simp only [kfs, List.all_cons, f1, Bool.true_and]
      exact f2
    · intro i hi
      rcases List.mem_cons.mp hi with z | z
      · exact k2 i (here i z.symm).1
      · exact m2 i z
    · intro i hi
      rcases List.mem_cons.mp hi with z | z
      · exact (here i z.symm).2
      · exact fun q => n2 i z (keep i q)
    · cases a with
      | t d0 => exact q2
      | s j =>
        refine List.nodup_cons.mpr ⟨fun z => ?_, q2⟩
        obtain ⟨av, hav, q⟩ := List.mem_filterMap.mp z
        cases av with
        | t d0 => cases q
        | s i =>
          cases q
          exact n2 j hav (here j rfl).1
theorem backKs_ok : ∀ {avs : List AV} {xs : List V} {ds : List D} {env : Env} {L : List Ent}, Sk K H σ env (zipE xs ds ++ L) → avsS σ avs xs → xs.length = ds.length → emptyAt avs env →
    (avs.filterMap fun | .s i => some i | .t _ => none).Nodup → Sk K H σ (backKs avs ds env) L ∧ ∀ i, AV.s i ∉ avs → (backKs avs ds env)[i]? = env[i]?
  | [], xs, ds, env, L, h, s, l, em, n => by
    cases (show xs = [] from s)
    cases ds with
    | nil => exact ⟨h, fun _ _ => rfl⟩
    | cons _ _ => simp at l
  | a :: as, xs, ds, env, L, h, s, l, em, n => by
    obtain ⟨x, ys, rfl, s1, s2⟩ := s
    cases ds with
    | nil => simp at l
    | cons d ds =>
      have h' : Sk K H σ env (zipE ys ds ++ (.v x d :: L)) := h.perm List.perm_middle.symm
      have n' : (as.filterMap fun | .s i => some i | .t _ => none).Nodup ∧ ∀ i, a = .s i → AV.s i ∉ as := by
        cases a with
        | t _ => exact ⟨n, fun i z => by cases z⟩
        | s j =>
          have z := List.nodup_cons.mp n
          refine ⟨z.2, ?_⟩
          rintro i ⟨⟩ q
          exact z.1 (List.mem_filterMap.mpr ⟨_, q, rfl⟩)
      obtain ⟨r1, k1⟩ := backKs_ok h' s2 (by simpa using l) (fun i z => em i (List.mem_cons_of_mem _ z)) n'.1
      refine ⟨backK_ok r1 s1 fun i z => ?_, fun i z => ?_⟩
      · rw [k1 i (n'.2 i z)]
        exact em i (by rw [z]; exact List.mem_cons_self)
      · have z1 : AV.s i ∉ as := fun q => z (List.mem_cons_of_mem _ q)
        rw [← k1 i z1]
        cases a with
        | t _ => rfl
        | s j =>
          have hj : j ≠ i := fun q => z (by rw [q]; exact List.mem_cons_self)
          show ((backKs as ds env).set j (some d))[i]? = _
          rw [List.getElem?_set_ne hj]
end
/-! ### operators, calls of built-ins -/
section
variable {X : Cx} {K : Frag} {f fa fb fc : DE} {a b e : Expr} {es : List Expr} {pos : Pos} {ft : DA}
def nilA : DA := fun env => some ([], env)
def consA (f : DE) (g : DA) : DA := fun env => (f env).bind fun p => (g p.2).bind fun q => some (p.1 :: q.1, q.2)
theorem pda_nil : PA X [] (tDA X.K nilA) := pa_nil.of fun σ H Q h => by
  obtain ⟨env, L, avs, env', R, e, k⟩ := h
  cases e
  exact k [] H R rfl
theorem consA_of {σ : L2.St} {H : Hp} {Q : List V → Hp → Prop} (h : tDA K (consA f ft) σ H Q) : tD K f σ H fun x H1 => tDA K ft σ H1 fun xs H2 => Q (x :: xs) H2 := by
  obtain ⟨env, L, avs, env', R, e, k⟩ := h
  obtain ⟨⟨a1, e1⟩, h1, e⟩ := bs e
  obtain ⟨⟨a2, e2⟩, h2, e⟩ := bs e
  cases e
  refine ⟨env, L, a1, e1, R, h1, fun x1 H1 R1 s1 => ⟨e1, avE a1 x1 ++ L, a2, e2, R1, h2, fun xs H2 R2 s2 => ?_⟩⟩
  refine k (x1 :: xs) H2 ?_ ⟨x1, xs, rfl, s1, s2⟩
  show Sk K H2 σ e2 (avsE a2 xs ++ avE a1 x1 ++ L)
  rw [List.append_assoc]
  exact R2
theorem nilA_of {σ : L2.St} {H : Hp} {Q : List V → Hp → Prop} (h : tDA K nilA σ H Q) : Q [] H := by
  obtain ⟨env, L, avs, env', R, e, k⟩ := h
  cases e
  exact k [] H R rfl
theorem pda_cons (ha : PE X e (tD X.K f)) (hr : PA X es (tDA X.K ft)) (hs : starEach (e :: es) X.env = (false, eval e X.env) :: starEach es X.env := by rfl) : PA X (e :: es) (tDA X.K (consA f ft)) :=
  (pa_cons ha hr hs).of fun σ H Q h => consA_of h
/-- operands stay where they are; g tells what comes of them (frozen) -/
def opN (g : List D → Option D) (ft : DA) : DE := fun env => (ft env).bind fun p => (takeKs p.1 p.2).bind fun q => (g (frzs q.1)).bind fun z => some (.t z, backKs p.1 q.1 q.2)
def CallOk (K : Frag) (r : List V → Hp → VK → Prop) (g : List D → Option D) : Prop := ∀ (H : Hp) (L : List Ent) (xs : List V) (ds : List D) (d : D) (Q : VK), Rk K H (zipE xs ds ++ L) → xs.length = ds.length → kfs ds = true → g (frzs ds) = some d →
  (∀ v H', Rk K H' (.v v d :: (zipE xs ds ++ L)) → Q v H') → r xs H Q
theorem opN_of {r : List V → Hp → VK → Prop} {g : List D → Option D} (ok : CallOk K r g) {σ : L2.St} {H : Hp} {Q : VK} (h : tD K (opN g ft) σ H Q) : tDA K ft σ H fun xs H1 => r xs H1 Q := by
  obtain ⟨env, L, av, env', R, e, k⟩ := h
  obtain ⟨⟨avs, e1⟩, h1, e⟩ := bs e
  obtain ⟨⟨ds, e3⟩, h3, e⟩ := bs e
  obtain ⟨z, h5, e⟩ := bs e
  cases e
  refine ⟨env, L, avs, e1, R, h1, fun xs H1 R1 s1 => ?_⟩
  obtain ⟨R3, f1, l1, _, em, _, nd⟩ := takeKs_ok R1 s1 h3
  obtain ⟨E, s, r0⟩ := R3
  have p1 : (E ++ (zipE xs ds ++ L)).Perm (zipE xs ds ++ (E ++ L)) := by
    rw [← List.append_assoc, ← List.append_assoc]
    exact List.perm_append_comm.append_right _
  refine ok H1 (E ++ L) xs ds z Q (r0.perm p1) l1 f1 h5 fun v H' r' => k v H' ?_ trivial
  have R4 : Sk K H' σ e3 (zipE xs ds ++ (.v v z :: L)) := by
    refine ⟨E, s, r'.perm ?_⟩
    have q1 : (zipE xs ds ++ (E ++ L)).Perm (E ++ (zipE xs ds ++ L)) := p1.symm
    refine (q1.cons _).trans ?_
    refine (List.perm_middle (a := Ent.v v z) (l₁ := E)).symm.trans (List.Perm.append_left _ ?_)
    exact (List.perm_middle (a := Ent.v v z) (l₁ := zipE xs ds)).symm
  exact (backKs_ok R4 s1 l1 em nd).1
def g1 (g : D → Option D) : List D → Option D
  | [a] => g a
  | _ => none
def g2 (g : D → D → Option D) : List D → Option D
  | [a, b] => g a b
  | _ => none
def bin2 (g : D → D → Option D) (fa fb : DE) : DE := opN (g2 g) (consA fa (consA fb nilA))
def un1 (g : D → Option D) (fa : DE) : DE := opN (g1 g) (consA fa nilA)
def OpOk (K : Frag) (r : R2) (g : D → D → Option D) : Prop := ∀ (H : Hp) (L : List Ent) (x y : V) (d1 d2 d : D) (Q : VK), Rk K H (.v x d1 :: .v y d2 :: L) → d1.kf = true → d2.kf = true → g d1.frz d2.frz = some d →
  (∀ v H', Rk K H' (.v v d :: .v x d1 :: .v y d2 :: L) → Q v H') → r x y H Q
def UnOk (K : Frag) (r : V → Hp → VK → Prop) (g : D → Option D) : Prop := ∀ (H : Hp) (L : List Ent) (x : V) (d1 d : D) (Q : VK), Rk K H (.v x d1 :: L) → d1.kf = true → g d1.frz = some d →
  (∀ v H', Rk K H' (.v v d :: .v x d1 :: L) → Q v H') → r x H Q
theorem OpOk.call {r : R2} {g : D → D → Option D} (ok : OpOk K r g) : CallOk K (fun xs H Q => ∃ x y, xs = [x, y] ∧ r x y H Q) (g2 g) := by
  intro H L xs ds d Q R l f e k
  match xs, ds, l, e with
  | [x, y], [d1, d2], _, e =>
    simp [kfs] at f
    exact ⟨x, y, rfl, ok H L x y d1 d2 d Q R f.1 f.2 e k⟩
  | [], [], _, e => cases e
  | [_], [_], _, e => cases e
  | _ :: _ :: _ :: _, _ :: _ :: _ :: _, _, e => cases e
theorem UnOk.call {r : V → Hp → VK → Prop} {g : D → Option D} (ok : UnOk K r g) : CallOk K (fun xs H Q => ∃ x, xs = [x] ∧ r x H Q) (g1 g) := by
  intro H L xs ds d Q R l f e k
  match xs, ds, l, e with
  | [x], [d1], _, e =>
    simp [kfs] at f
    exact ⟨x, rfl, ok H L x d1 d Q R f e k⟩
  | [], [], _, e => cases e
  | _ :: _ :: _, _ :: _ :: _, _, e => cases e
theorem _root_.L2.PE.tDmono {σ : L2.St} {H : Hp} {Q Q' : VK} (h : tD K f σ H Q) (k : ∀ v H, Q v H → Q' v H) : tD K f σ H Q' := by
  obtain ⟨env, L, av, env', R, e, z⟩ := h
  exact ⟨env, L, av, env', R, e, fun x H' r s => k _ _ (z x H' r s)⟩
theorem tOp_of {r : R2} {g : D → D → Option D} (ok : OpOk K r g) {σ : L2.St} {H : Hp} {Q : VK} (h : tD K (bin2 g fa fb) σ H Q) : tOp r (tD K fa) (tD K fb) σ H Q := by
  have z := consA_of (opN_of ok.call h)
  refine L2.PE.tDmono z fun x H1 q => L2.PE.tDmono (consA_of q) fun y H2 q => ?_
  obtain ⟨x', y', e, q⟩ := nilA_of q
  cases e
  exact q
theorem tUn_of {r : V → Hp → VK → Prop} {g : D → Option D} (ok : UnOk K r g) {σ : L2.St} {H : Hp} {Q : VK} (h : tD K (un1 g fa) σ H Q) : tUn r (tD K fa) σ H Q := by
  have z := consA_of (opN_of ok.call h)
  refine L2.PE.tDmono z fun x H1 q => ?_
  obtain ⟨x', e, q⟩ := nilA_of q
  cases e
  exact q
theorem pd_op {op : Operator} {r : R2} {g : D → D → Option D} (ok : OpOk X.K r g) (ho : OpR X (binaryOp op) r) (ha : PE X a (tD X.K fa)) (hb : PE X b (tD X.K fb)) : PE X (.BinOp a op b pos) (tD X.K (bin2 g fa fb)) :=
  (pe_op ho ha hb).of fun σ H Q h => tOp_of ok h
theorem pd_cmp {op : CmpOp} {r : R2} {g : D → D → Option D} (ok : OpOk X.K r g) (ho : OpR X (compareOp op) r) (ha : PE X a (tD X.K fa)) (hb : PE X b (tD X.K fb)) (hm : behindInMarks op b = false) : PE X (.Compare a [op] [b] pos) (tD X.K (bin2 g fa fb)) :=
  (pe_cmpR ho ha hb hm).of fun σ H Q h => tOp_of ok h
theorem pd_un {op : UnaryOp} {r : V → Hp → VK → Prop} {g : D → Option D} (ok : UnOk X.K r g) (ho : UnR X (unaryOp op) r) (ha : PE X a (tD X.K fa)) : PE X (.UnaryOp op a pos) (tD X.K (un1 g fa)) :=
  (pe_un ho ha).of fun σ H Q h => tUn_of ok h
theorem tCB_of {r : List V → Hp → VK → Prop} {g : List D → Option D} (ok : CallOk K r g) {σ : L2.St} {H : Hp} {Q : VK} (h : tD K (opN g ft) σ H Q) : tCB r (tDA K ft) σ H Q := opN_of ok h
theorem pd_callB {id : String} {x : Str} {p : Pos} {r : List V → Hp → VK → Prop} {g : List D → Option D} (ok : CallOk X.K r g) (hc : CallR X (.builtin id) r) (hg : Gl X x) (hm : X.mg x = none) (hv : bootBuiltins x = some (.builtin id)) (ha : PA X (e :: es) (tDA X.K ft)) (hn : x ≠ "__name__" := by decide) (hdb : (x == ("__debug__" : Str)) = false := by decide)
    (he : starEach (e :: es) X.env = (false, eval e X.env) :: starEach es X.env := by rfl) (hpl : (backTo pos (starEach es X.env)).any (·.1) = false := by rfl) : PE X (.Call (.Name x p) (e :: es) [] pos) (tD X.K (opN g ft)) :=
  (pe_callB hc hg hm hv ha hn hdb he hpl).of fun σ H Q h => tCB_of ok h
theorem pd_callTy {T : String} {x : Str} {p : Pos} {r : List V → Hp → VK → Prop} {g : List D → Option D} (ok : CallOk X.K r g) (hc : CallR X (.type T) r) (hg : Gl X x) (hm : X.mg x = none) (hv : bootBuiltins x = some (.type T)) (ha : PA X (e :: es) (tDA X.K ft)) (hn : x ≠ "__name__" := by decide) (hdb : (x == ("__debug__" : Str)) = false := by decide)
    (he : starEach (e :: es) X.env = (false, eval e X.env) :: starEach es X.env := by rfl) (hpl : (backTo pos (starEach es X.env)).any (·.1) = false := by rfl) : PE X (.Call (.Name x p) (e :: es) [] pos) (tD X.K (opN g ft)) :=
  (pe_callTy hc hg hm hv ha hn hdb he hpl).of fun σ H Q h => tCB_of ok h
theorem pd_callBfun {id : String} {x : Str} {p : Pos} {r : List V → Hp → VK → Prop} {g : List D → Option D} (ok : CallOk X.K r g) (hc : CallR X (.builtin id) r) (hg : Gl X x) (hm : X.mg x = some (.builtin id)) (ha : PA X (e :: es) (tDA X.K ft)) (hdb : (x == ("__debug__" : Str)) = false := by decide)
    (he : starEach (e :: es) X.env = (false, eval e X.env) :: starEach es X.env := by rfl) (hpl : (backTo pos (starEach es X.env)).any (·.1) = false := by rfl) : PE X (.Call (.Name x p) (e :: es) [] pos) (tD X.K (opN g ft)) :=
  (pe_callBfun hc hg hm ha hdb he hpl).of fun σ H Q h => tCB_of ok h
end
end Dx

set_option Elab.async false
set_option linter.all false
set_option maxRecDepth 100000
set_option maxHeartbeats 4000000
namespace Dx
open PySem PySem.Spec PyProof.Rows L2 Own
open PySem.W (Frag)
/-! ### sizes -/
def szI (i : Int) : Nat := i.natAbs.log2 + 1
def szR (q : Rat) : Nat := max (szI q.num) (szI q.den)
def LMAX : Nat := 10000
theorem szI_sz (i : Int) : Sz (szI i) i := Nat.lt_log2_self
theorem szR_ok (q : Rat) : OkP (szR q) (pr q) := ⟨Int.natCast_pos.mpr (Nat.pos_of_ne_zero q.den_nz), sz_le (szI_sz q.num) (Nat.le_max_left _ _), sz_le (szI_sz q.den) (Nat.le_max_right _ _)⟩
theorem szR_pos (q : Rat) : 0 < szR q := by
  unfold szR szI
  omega
theorem szI_le {n : Nat} {i : Int} (h : Sz n i) (h0 : 0 < n) : szI i ≤ n := by
  have := sz_log h h0
  unfold szI
  omega
theorem szR_le {n : Nat} {q : Rat} (h : OkP n (pr q)) (h0 : 0 < n) : szR q ≤ n := Nat.max_le.mpr ⟨szI_le h.st h0, szI_le h.sb h0⟩
/-! ### Ratio's own operators, as values -/
/-- a number -/
inductive NumQ (C : Addr) (H : Hp) : V → Rat → Bool → Prop where
  | int (i : Int) : NumQ C H (.int i) (i : Rat) false
  | rat {a : Addr} {q : Rat} (h : RatAt C H a (pr q)) : NumQ C H (.ref a) q true
def rRB (K : Frag) (f : Rat → Rat → Rat) : R2 := fun x y H Q => ∃ p q u v, NumQ (CR K) H x p u ∧ NumQ (CR K) H y q v ∧ (u || v) = true ∧ szR p + szR q ≤ 7900 ∧ ∀ a H', Same H H' → RatAt (CR K) H' a (pr (f p q)) → Q (.ref a) H'
def rRN (K : Frag) : V → Hp → VK → Prop := fun x H Q => ∃ a q, x = .ref a ∧ RatAt (CR K) H a (pr q) ∧ szR q ≤ 7900 ∧ ∀ b H', Same H H' → RatAt (CR K) H' b (pr (-q)) → Q (.ref b) H'
structure RatOk (X : Cx) : Prop where
  add : OpR X (binaryOp .Add) (rRB X.K (· + ·))
  sub : OpR X (binaryOp .Sub) (rRB X.K (· - ·))
  mul : OpR X (binaryOp .Mult) (rRB X.K (· * ·))
  neg : UnR X (unaryOp .USub) (rRN X.K)
section
variable {K : Frag} {H H' : Hp} {L : List Ent} {x y : V} {d : D}
theorem rk_int {i : Int} (R : Rk K H (.v x (.int i) :: L)) : x = .int i := by
  obtain ⟨A, B, h⟩ := R.at_
  exact h.1
theorem rk_bl {i : Bool} (R : Rk K H (.v x (.bl i) :: L)) : x = .bl i := by
  obtain ⟨A, B, h⟩ := R.at_
  exact h.1
theorem rk_str {i : Str} (R : Rk K H (.v x (.str i) :: L)) : x = .str i := by
  obtain ⟨A, B, h⟩ := R.at_
  exact h.1
theorem rk_non (R : Rk K H (.v x .non :: L)) : x = .non := by
  obtain ⟨A, B, h⟩ := R.at_
  exact h.1
theorem rk_rat {q : Rat} (R : Rk K H (.v x (.rat q) :: L)) : ∃ a, x = .ref a ∧ RatAt (CR K) H a (pr q) := by
  obtain ⟨A, B, a, h1, h2, h3, h4⟩ := R.at_
  exact ⟨a, h1, h3⟩
theorem rk_lst {o : Bool} {ds : List D} (R : Rk K H (.v x (.lst o ds) :: L)) : ∃ a xs, x = .ref a ∧ H a = some (.lst xs) ∧ xs.length = ds.length := by
  obtain ⟨A, B, a, xs, B', h1, h2, h3, h4⟩ := R.at_
  exact ⟨a, xs, h1, h2, h3.zip.2⟩
theorem rk_tup {o : Bool} {ds : List D} (R : Rk K H (.v x (.tup o ds) :: L)) : ∃ a xs, x = .ref a ∧ H a = some (.tup xs) ∧ xs.length = ds.length := by
  obtain ⟨A, B, a, xs, B', h1, h2, h3, h4⟩ := R.at_
  exact ⟨a, xs, h1, h2, h3.zip.2⟩
/-- the items of a list whose items are frozen, beside it -/
theorem rk_items {t o : Bool} {ds : List D} (R : Rk K H (.v x (D.seq t o ds) :: L)) (f : fzs ds = true) :
    ∃ a xs, x = .ref a ∧ H a = some (ho t xs) ∧ xs.length = ds.length ∧ Rk K H (zipE xs ds ++ (.v x (D.seq t o ds) :: L)) := by
  obtain ⟨A, ⟨B1, B2, e, h1, h2⟩, n⟩ := id R
  obtain ⟨a, xs, B', rfl, ha, hs, ft⟩ := RD.seq h1
  obtain ⟨z1, z2⟩ := hs.zip
  have z3 := RDs.fz_nil ds hs f
  subst z3
  exact ⟨a, xs, rfl, ha, z2, A, REs.mk (B1 := []) z1 ⟨B1, B2, e, h1, h2⟩, n⟩
theorem zipE_get {xs : List V} {ds : List D} : ∀ {i : Nat} {x : V} {d : D}, xs[i]? = some x → ds[i]? = some d → ∃ M M', zipE xs ds = M ++ .v x d :: M' := by
  induction xs generalizing ds with
  | nil => intro i x d h; simp at h
  | cons y ys ih =>
    intro i x d h h'
    cases ds with
    | nil => simp at h'
    | cons e es =>
      cases i with
      | zero =>
        simp at h h'
        subst h
        subst h'
        exact ⟨[], zipE ys es, rfl⟩
      | succ i =>
        obtain ⟨M, M', q⟩ := ih (i := i) (by simpa using h) (by simpa using h')
        exact ⟨.v y e :: M, M', by rw [zipE, q]; rfl⟩
/-- one item of a list -/
theorem rk_item {t o : Bool} {ds : List D} {i : Nat} (R : Rk K H (.v x (D.seq t o ds) :: L)) (f : fzs ds = true) (e : ds[i]? = some d) :
    ∃ a xs y, x = .ref a ∧ H a = some (ho t xs) ∧ xs.length = ds.length ∧ xs[i]? = some y ∧ Rk K H (.v y d :: .v x (D.seq t o ds) :: L) := by
  obtain ⟨a, xs, hx, ha, hl, r⟩ := rk_items R f
  have hi : i < xs.length := by rw [hl]; exact (List.getElem?_eq_some_iff.mp e).1
  obtain ⟨M, M', q⟩ := zipE_get (List.getElem?_eq_getElem hi) e
  rw [q] at r
  have r2 : Rk K H ((.v (xs[i]) d) :: (M ++ (M' ++ (.v x (D.seq t o ds) :: L)))) := by
    refine r.perm ?_
    rw [List.append_assoc]
    exact List.perm_middle
  refine ⟨a, xs, xs[i], hx, ha, hl, List.getElem?_eq_getElem hi, ?_⟩
  have r3 : Rk K H ((M ++ M') ++ ((.v (xs[i]) d) :: .v x (D.seq t o ds) :: L)) := by
    refine r2.perm ?_
    rw [List.append_assoc]
    refine (List.perm_middle (a := Ent.v xs[i] d) (l₁ := M)).symm.trans (List.Perm.append_left _ ?_)
    exact (List.perm_middle (a := Ent.v xs[i] d) (l₁ := M')).symm
  exact r3.right
theorem rk_num {o : Bool} {q : Rat} {d : D} (R : Rk K H (.v x d :: L)) (h : (o = false ∧ ∃ i : Int, d = .int i ∧ q = i) ∨ (o = true ∧ d = .rat q)) : NumQ (CR K) H x q o := by
  rcases h with ⟨rfl, i, rfl, rfl⟩ | ⟨rfl, rfl⟩
  · cases rk_int R
    exact .int i
  · obtain ⟨a, rfl, r⟩ := rk_rat R
    exact .rat r
theorem Rep.swap {C T : Addr} {e e' : Ent} (R : Rep C T H (e :: e' :: L)) : Rep C T H (e' :: e :: L) := R.perm (List.Perm.swap _ _ _)
theorem Rep.two {C T : Addr} {e e' : Ent} (R : Rep C T H (e :: e' :: L)) : Rep C T H (e' :: L) := R.tail
/-- a new list, its items standing ahead -/
theorem rk_new {t : Bool} {p : Addr} {xs : List V} {ds : List D} (R : Rk K H (zipE xs ds ++ L)) (l : xs.length = ds.length) (hp : H p = none) : Rk K (upd H p (ho t xs)) (.v (.ref p) (D.seq t true ds) :: L) :=
  Rep.close (o := true) (R.new hp) l fun z => by cases z
end
end Dx

set_option Elab.async false
set_option linter.all false
set_option maxRecDepth 100000
set_option maxHeartbeats 4000000
namespace Dx
open PySem PySem.Spec PyProof.Rows L2 Own
open PySem.W (Frag)
/-! ### what operators bring -/
def rr (f : Rat → Rat → Rat) (p q : Rat) : Option D := if szR p + szR q ≤ 7900 then some (.rat (f p q)) else none
def addD : D → D → Option D
  | .int i, .int j => some (.int (i + j))
  | .lst _ a, .lst _ b => if a.length + b.length ≤ LMAX then some (.lst true (a ++ b)) else none
  | .rat p, .rat q => rr (· + ·) p q
  | .rat p, .int j => rr (· + ·) p j
  | .int i, .rat q => rr (· + ·) i q
  | _, _ => none
def subD : D → D → Option D
  | .int i, .int j => some (.int (i - j))
  | .rat p, .rat q => rr (· - ·) p q
  | .rat p, .int j => rr (· - ·) p j
  | .int i, .rat q => rr (· - ·) i q
  | _, _ => none
def mulD : D → D → Option D
  | .int i, .int j => if szI i + szI j ≤ 1000000 then some (.int (i * j)) else none
  | .lst _ a, .int k => if a.length * k.toNat ≤ LMAX ∧ -(2 ^ 63) ≤ k ∧ k < 2 ^ 63 then some (.lst true (List.replicate k.toNat a).flatten) else none
  | .rat p, .rat q => rr (· * ·) p q
  | .rat p, .int j => rr (· * ·) p j
  | .int i, .rat q => rr (· * ·) i q
  | _, _ => none
def fdivD : D → D → Option D
  | .int i, .int j => if j = 0 ∨ 8000 < szI j then none else some (.int (i.fdiv j))
  | _, _ => none
def modD : D → D → Option D
  | .int i, .int j => if j = 0 then none else some (.int (i.fmod j))
  | _, _ => none
def powD : D → D → Option D
  | .int i, .int j => if 0 ≤ j ∧ j ≤ 1000000 ∧ i.natAbs < 2 ^ 64 then some (.int (i ^ j.toNat)) else none
  | _, _ => none
def ltD : D → D → Option D
  | .int i, .int j => some (.bl (decide (i < j)))
  | _, _ => none
def leD : D → D → Option D
  | .int i, .int j => some (.bl (decide (i ≤ j)))
  | _, _ => none
def gtD : D → D → Option D
  | .int i, .int j => some (.bl (decide (j < i)))
  | _, _ => none
def geD : D → D → Option D
  | .int i, .int j => some (.bl (decide (j ≤ i)))
  | _, _ => none
def negD : D → Option D
  | .int i => some (.int (-i))
  | .rat q => if szR q ≤ 7900 then some (.rat (-q)) else none
  | _ => none
def isNonD : D → Bool
  | .non => true
  | _ => false
def isD (a b : D) : Option D := if isNonD b then some (.bl (isNonD a)) else none
def isntD (a b : D) : Option D := if isNonD b then some (.bl (!isNonD a)) else none

section
variable {X : Cx} {K : Frag} {H H' : Hp} {L : List Ent} {x y : V} {d d1 d2 : D}
/-- the reading of a sum -/
abbrev rSumD (K : Frag) : R2 := fun x y H Q => (rI0 fun i j => .int (i + j)) x y H Q ∨ rCat x y H Q ∨ rRB K (· + ·) x y H Q
theorem rb_ok {f : Rat → Rat → Rat} {p q : Rat} {u v : Bool} {Q : VK} (R : Rk K H (.v x d1 :: .v y d2 :: L)) (h1 : (u = false ∧ ∃ i : Int, d1 = .int i ∧ p = i) ∨ (u = true ∧ d1 = .rat p)) (h2 : (v = false ∧ ∃ i : Int, d2 = .int i ∧ q = i) ∨ (v = true ∧ d2 = .rat q)) (uv : (u || v) = true)
    (e : rr f p q = some d) (k : ∀ v H', Rk K H' (.v v d :: .v x d1 :: .v y d2 :: L) → Q v H') : rRB K f x y H Q := by
  unfold rr at e
  split at e
  · rename_i hs
    cases e
    exact ⟨p, q, u, v, rk_num R h1, rk_num R.tail h2, uv, hs, fun a H' s r => k _ _ (R.rat s r)⟩
  · cases e
theorem cat_ok {o o' : Bool} {a b : List D} {Q : VK} (R : Rk K H (.v x (.lst o a) :: .v y (.lst o' b) :: L)) (fa : fzs a = true) (fb : fzs b = true) (hl : a.length + b.length ≤ LMAX)
    (k : ∀ v H', Rk K H' (.v v (.lst true (a ++ b)) :: .v x (.lst o a) :: .v y (.lst o' b) :: L) → Q v H') : rCat x y H Q := by
  obtain ⟨p, xs, rfl, hp, l1, R1⟩ := rk_items (t := false) (o := o) R fa
  have R2 : Rk K H (.v y (.lst o' b) :: (zipE xs a ++ (.v (.ref p) (.lst o a) :: L))) := by
    refine R1.perm ?_
    refine (List.Perm.append_left _ (List.Perm.swap _ _ _)).trans ?_
    exact List.perm_middle
  obtain ⟨p', ys, rfl, hp', l2, R3⟩ := rk_items (t := false) (o := o') R2 fb
  have R4 : Rk K H (zipE (xs ++ ys) (a ++ b) ++ (.v (.ref p) (.lst o a) :: .v (.ref p') (.lst o' b) :: L)) := by
    have ez : ∀ (xs ys : List V) (a b : List D), xs.length = a.length → zipE (xs ++ ys) (a ++ b) = zipE xs a ++ zipE ys b := by
      intro xs
      induction xs with
      | nil =>
        intro ys a b h
        cases a with
        | nil => rfl
        | cons _ _ => simp at h
      | cons x xs ih =>
        intro ys a b h
        cases a with
        | nil => simp at h
        | cons d a =>
          show Ent.v x d :: zipE (xs ++ ys) (a ++ b) = Ent.v x d :: (zipE xs a ++ zipE ys b)
          rw [ih ys a b (by simpa using h)]
    rw [ez xs ys a b l1]
    refine R3.perm ?_
    refine (List.Perm.append_left _ (List.perm_middle (a := Ent.v (V.ref p') (.lst o' b)) (l₁ := zipE xs a)).symm).trans ?_
    rw [List.append_assoc]
    refine (List.perm_append_comm (l₁ := zipE ys b)).trans ?_
    rw [List.append_assoc]
    refine List.Perm.append_left _ ?_
    refine (List.perm_append_comm (l₁ := (Ent.v (V.ref p') (D.lst o' b) :: Ent.v (V.ref p) (D.lst o a) :: L)) (l₂ := zipE ys b)).trans ?_
    exact List.Perm.append_left _ (List.Perm.swap _ _ _)
  refine ⟨p, p', xs, ys, rfl, rfl, hp, hp', szl (by rw [l1, l2]; exact hl), fun q hq => k _ _ ?_⟩
  exact rk_new (t := false) R4 (by simp [l1, l2]) hq
theorem addOk : OpOk K (rSumD K) addD := by
  intro H L x y d1 d2 d Q R f1 f2 e k
  cases d1 <;> cases d2 <;> simp only [D.frz, addD, reduceCtorEq] at e
  · cases rk_int R
    cases rk_int R.tail
    cases e
    exact .inl ⟨_, _, rfl, rfl, k _ _ R.int⟩
  · exact .inr (.inr (rb_ok (u := false) (v := true) R (.inl ⟨rfl, _, rfl, rfl⟩) (.inr ⟨rfl, rfl⟩) rfl e k))
  · exact .inr (.inr (rb_ok (u := true) (v := false) R (.inr ⟨rfl, rfl⟩) (.inl ⟨rfl, _, rfl, rfl⟩) rfl e k))
  · exact .inr (.inr (rb_ok (u := true) (v := true) R (.inr ⟨rfl, rfl⟩) (.inr ⟨rfl, rfl⟩) rfl e k))
  · split at e
    · rename_i hl
      rw [fzs_frzs _ f1, fzs_frzs _ f2] at e hl
      cases e
      exact .inr (.inl (cat_ok R f1 f2 hl k))
    · cases e
theorem o_add (ro : RatOk X) : OpR X (binaryOp .Add) (rSumD X.K) := op_add.or (op_cat.or ro.add)
abbrev rDifD (K : Frag) : R2 := fun x y H Q => (rI0 fun i j => .int (i - j)) x y H Q ∨ rRB K (· - ·) x y H Q
theorem subOk : OpOk K (rDifD K) subD := by
  intro H L x y d1 d2 d Q R f1 f2 e k
  cases d1 <;> cases d2 <;> simp only [D.frz, subD, reduceCtorEq] at e
  · cases rk_int R
    cases rk_int R.tail
    cases e
    exact .inl ⟨_, _, rfl, rfl, k _ _ R.int⟩
  · exact .inr (rb_ok (u := false) (v := true) R (.inl ⟨rfl, _, rfl, rfl⟩) (.inr ⟨rfl, rfl⟩) rfl e k)
  · exact .inr (rb_ok (u := true) (v := false) R (.inr ⟨rfl, rfl⟩) (.inl ⟨rfl, _, rfl, rfl⟩) rfl e k)
  · exact .inr (rb_ok (u := true) (v := true) R (.inr ⟨rfl, rfl⟩) (.inr ⟨rfl, rfl⟩) rfl e k)
theorem o_sub (ro : RatOk X) : OpR X (binaryOp .Sub) (rDifD X.K) := op_sub.or ro.sub
abbrev rProD (K : Frag) : R2 := fun x y H Q => (rI CMulW fun i j => .int (i * j)) x y H Q ∨ rRep x y H Q ∨ rRB K (· * ·) x y H Q
theorem szI_mulW {i j : Int} (h : szI i + szI j ≤ 1000000) : CMulW i j := by
  unfold szI at h
  unfold CMulW
  omega
theorem zip_rep {xs : List V} {ds : List D} (l : xs.length = ds.length) (R : Rk K H (zipE xs ds ++ L)) (f : fzs ds = true) : ∀ n : Nat, Rk K H (zipE (List.replicate n xs).flatten (List.replicate n ds).flatten ++ L) ∧ ((List.replicate n xs).flatten).length = ((List.replicate n ds).flatten).length := by
  intro n
  -- each copy out of the same frozen items
  have cp : ∀ (ys : List V) (es : List D), Rk K H (zipE ys es ++ (zipE xs ds ++ L)) → ys.length = es.length → Rk K H (zipE (xs ++ ys) (ds ++ es) ++ (zipE xs ds ++ L)) := by
    intro ys es r _
    have ez : ∀ (xs ys : List V) (a b : List D), xs.length = a.length → zipE (xs ++ ys) (a ++ b) = zipE xs a ++ zipE ys b := by
      intro xs
      induction xs with
      | nil =>
        intro ys a b h
        cases a with
        | nil => rfl
        | cons _ _ => simp at h
      | cons x xs ih =>
        intro ys a b h
        cases a with
        | nil => simp at h
        | cons d a =>
          show Ent.v x d :: zipE (xs ++ ys) (a ++ b) = Ent.v x d :: (zipE xs a ++ zipE ys b)
          rw [ih ys a b (by simpa using h)]
    rw [ez xs ys ds es l]
    -- duplicate zipE xs ds
    have dupAll : ∀ (xs : List V) (ds : List D) (M : List Ent), fzs ds = true → Rk K H (zipE xs ds ++ M) → Rk K H (zipE xs ds ++ (zipE xs ds ++ M)) := by
      intro xs
      induction xs with
      | nil =>
        intro ds M _ z
        cases ds <;> exact z
      | cons x xs ih =>
        intro ds M fd z
        cases ds with
        | nil => exact z
        | cons d ds =>
          simp [fzs] at fd
          have z1 : Rk K H (.v x d :: .v x d :: (zipE xs ds ++ M)) := Rep.dup z fd.1
          have z2 : Rk K H (zipE xs ds ++ (.v x d :: .v x d :: M)) := by
            refine z1.perm ?_
            exact ((List.perm_middle (a := Ent.v x d) (l₁ := zipE xs ds)).symm.cons _).trans (List.perm_middle (a := Ent.v x d) (l₁ := zipE xs ds)).symm
          have z3 := ih ds _ fd.2 z2
          refine z3.perm ?_
          show (zipE xs ds ++ (zipE xs ds ++ (Ent.v x d :: Ent.v x d :: M))).Perm (Ent.v x d :: (zipE xs ds ++ (Ent.v x d :: (zipE xs ds ++ M))))
          refine (List.Perm.append_left _ (List.perm_middle (a := Ent.v x d) (l₁ := zipE xs ds))).trans ?_
          refine (List.perm_middle (a := Ent.v x d) (l₁ := zipE xs ds)).trans (List.Perm.cons _ (List.Perm.append_left _ ?_))
          exact List.perm_middle (a := Ent.v x d) (l₁ := zipE xs ds)
    have r1 : Rk K H (zipE xs ds ++ (zipE ys es ++ L)) := r.perm (by
      rw [← List.append_assoc, ← List.append_assoc]
      exact List.perm_append_comm.append_right _)
    have r2 := dupAll xs ds _ f r1
    refine r2.perm ?_
    rw [List.append_assoc]
    refine List.Perm.append_left _ ?_
    rw [← List.append_assoc, ← List.append_assoc]
    exact List.perm_append_comm.append_right _
  have main : Rk K H (zipE (List.replicate n xs).flatten (List.replicate n ds).flatten ++ (zipE xs ds ++ L)) ∧ ((List.replicate n xs).flatten).length = ((List.replicate n ds).flatten).length := by
    induction n with
    | zero => exact ⟨R, rfl⟩
    | succ n ih =>
      rw [List.replicate_succ, List.replicate_succ, List.flatten_cons, List.flatten_cons]
      exact ⟨cp _ _ ih.1 ih.2, by simp only [List.length_append, ih.2, l]⟩
  refine ⟨?_, main.2⟩
  have z := main.1
  refine Rep.right (L := zipE xs ds) (z.perm ?_)
  rw [← List.append_assoc, ← List.append_assoc]
  exact List.perm_append_comm.append_right _
theorem mulOk : OpOk K (rProD K) mulD := by
  intro H L x y d1 d2 d Q R f1 f2 e k
  cases d1 <;> cases d2 <;> simp only [D.frz, mulD, reduceCtorEq] at e
  · cases rk_int R
    cases rk_int R.tail
    split at e
    · rename_i hs
      cases e
      exact .inl ⟨_, _, rfl, rfl, szI_mulW hs, k _ _ R.int⟩
    · cases e
  · exact .inr (.inr (rb_ok (u := false) (v := true) R (.inl ⟨rfl, _, rfl, rfl⟩) (.inr ⟨rfl, rfl⟩) rfl e k))
  · exact .inr (.inr (rb_ok (u := true) (v := false) R (.inr ⟨rfl, rfl⟩) (.inl ⟨rfl, _, rfl, rfl⟩) rfl e k))
  · exact .inr (.inr (rb_ok (u := true) (v := true) R (.inr ⟨rfl, rfl⟩) (.inr ⟨rfl, rfl⟩) rfl e k))
  · rename_i o a n
    split at e
    · rename_i hs
      rw [fzs_frzs _ f1] at e hs
      cases e
      obtain ⟨p, xs, rfl, hp, l1, R1⟩ := rk_items (t := false) (o := o) R f1
      obtain rfl : y = .int n := rk_int R.tail
      refine .inr (.inl ⟨p, n, xs, rfl, rfl, hp, hs.2.1, hs.2.2, szl (by rw [l1]; exact hs.1), fun q hq => k _ _ ?_⟩)
      obtain ⟨z1, z2⟩ := zip_rep l1 R1 f1 n.toNat
      exact rk_new (t := false) z1 z2 hq
    · cases e
theorem o_mul (ro : RatOk X) : OpR X (binaryOp .Mult) (rProD X.K) := op_mulW.or (op_rep.or ro.mul)
theorem fdivOk : OpOk K (rI CDivZ fun i j => .int (i.fdiv j)) fdivD := by
  intro H L x y d1 d2 d Q R f1 f2 e k
  cases d1 <;> cases d2 <;> simp only [D.frz, fdivD, reduceCtorEq] at e
  cases rk_int R
  cases rk_int R.tail
  split at e
  · cases e
  · rename_i hs
    cases e
    exact ⟨_, _, rfl, rfl, ⟨fun z => hs (.inl z), sz_le (szI_sz _) (by omega)⟩, k _ _ R.int⟩
theorem modOk : OpOk K (rI (fun _ j => j ≠ 0) fun i j => .int (i.fmod j)) modD := by
  intro H L x y d1 d2 d Q R f1 f2 e k
  cases d1 <;> cases d2 <;> simp only [D.frz, modD, reduceCtorEq] at e
  cases rk_int R
  cases rk_int R.tail
  split at e
  · cases e
  · rename_i hs
    cases e
    exact ⟨_, _, rfl, rfl, hs, k _ _ R.int⟩
theorem powOk : OpOk K (rI CPow fun i j => .int (i ^ j.toNat)) powD := by
  intro H L x y d1 d2 d Q R f1 f2 e k
  cases d1 <;> cases d2 <;> simp only [D.frz, powD, reduceCtorEq] at e
  cases rk_int R
  cases rk_int R.tail
  split at e
  · rename_i hs
    cases e
    exact ⟨_, _, rfl, rfl, hs, k _ _ R.int⟩
  · cases e
theorem ltOk : OpOk K (rI0 fun i j => .bl (decide (i < j))) ltD := by
  intro H L x y d1 d2 d Q R f1 f2 e k
  cases d1 <;> cases d2 <;> simp only [D.frz, ltD, reduceCtorEq] at e
  cases rk_int R
  cases rk_int R.tail
  cases e
  exact ⟨_, _, rfl, rfl, k _ _ R.bl⟩
theorem leOk : OpOk K (rI0 fun i j => .bl (decide (i ≤ j))) leD := by
  intro H L x y d1 d2 d Q R f1 f2 e k
  cases d1 <;> cases d2 <;> simp only [D.frz, leD, reduceCtorEq] at e
  cases rk_int R
  cases rk_int R.tail
  cases e
  exact ⟨_, _, rfl, rfl, k _ _ R.bl⟩
theorem gtOk : OpOk K (rI0 fun i j => .bl (decide (j < i))) gtD := by
  intro H L x y d1 d2 d Q R f1 f2 e k
  cases d1 <;> cases d2 <;> simp only [D.frz, gtD, reduceCtorEq] at e
  cases rk_int R
  cases rk_int R.tail
  cases e
  exact ⟨_, _, rfl, rfl, k _ _ R.bl⟩
theorem geOk : OpOk K (rI0 fun i j => .bl (decide (j ≤ i))) geD := by
  intro H L x y d1 d2 d Q R f1 f2 e k
  cases d1 <;> cases d2 <;> simp only [D.frz, geD, reduceCtorEq] at e
  cases rk_int R
  cases rk_int R.tail
  cases e
  exact ⟨_, _, rfl, rfl, k _ _ R.bl⟩
theorem negOk : UnOk K (fun x H Q => rU (fun i => .int (-i)) x H Q ∨ rRN K x H Q) negD := by
  intro H L x d1 d Q R f1 e k
  cases d1 <;> simp only [D.frz, negD, reduceCtorEq] at e
  · cases rk_int R
    cases e
    exact .inl ⟨_, rfl, k _ _ R.int⟩
  · obtain ⟨a, rfl, r⟩ := rk_rat R
    split at e
    · rename_i hs
      cases e
      exact .inr ⟨a, _, rfl, r, hs, fun b H' s r' => k _ _ (R.rat s r')⟩
    · cases e
theorem _root_.L2.UnR.or {f : Value → Sem Value} {r r' : V → Hp → VK → Prop} (h : UnR X f r) (h' : UnR X f r') : UnR X f (fun x H Q => r x H Q ∨ r' x H Q) := by
  intro pins s σ H x v Q I rx q
  rcases q with q | q
  · exact h pins s σ H x v Q I rx q
  · exact h' pins s σ H x v Q I rx q
theorem o_neg (ro : RatOk X) : UnR X (unaryOp .USub) (fun x H Q => rU (fun i => .int (-i)) x H Q ∨ rRN X.K x H Q) := un_neg.or ro.neg
theorem non_iff (R : Rk K H (.v x d :: L)) : decide (x = .non) = isNonD d := by
  obtain ⟨A, B, h⟩ := R.at_
  cases d
  case non => rw [h.1]; rfl
  case bl b => rw [h.1]; rfl
  case int b => rw [h.1]; rfl
  case str b => rw [h.1]; rfl
  case rat q => obtain ⟨a, rfl, _⟩ := h; rfl
  case lst o ds => obtain ⟨a, xs, B', rfl, _⟩ := h; rfl
  case tup o ds => obtain ⟨a, xs, B', rfl, _⟩ := h; rfl
  case tab ds => obtain ⟨a, b, dx, xs, rfl, _⟩ := h; rfl
theorem isNonD_frz (d : D) : isNonD d.frz = isNonD d := by cases d <;> rfl
theorem isOk : OpOk K (fun x y H Q => y = .non ∧ Q (.bl (decide (x = .non))) H) isD := by
  intro H L x y d1 d2 d Q R f1 f2 e k
  unfold isD at e
  rw [isNonD_frz, isNonD_frz] at e
  split at e
  · rename_i hn
    cases e
    have z := non_iff R.tail
    rw [hn] at z
    refine ⟨of_decide_eq_true z, ?_⟩
    rw [non_iff R]
    exact k _ _ R.bl
  · cases e
theorem isntOk : OpOk K (fun x y H Q => y = .non ∧ Q (.bl (!decide (x = .non))) H) isntD := by
  intro H L x y d1 d2 d Q R f1 f2 e k
  unfold isntD at e
  rw [isNonD_frz, isNonD_frz] at e
  split at e
  · rename_i hn
    cases e
    have z := non_iff R.tail
    rw [hn] at z
    refine ⟨of_decide_eq_true z, ?_⟩
    rw [non_iff R]
    exact k _ _ R.bl
  · cases e
end
end Dx

set_option Elab.async false
set_option linter.all false
set_option maxRecDepth 100000
set_option maxHeartbeats 4000000
namespace Dx
open PySem PySem.Spec PyProof.Rows L2 Own
open PySem.W (Frag)
/-! ### built-ins -/
def seqOf : D → Option (List D)
  | .lst _ ds => some ds
  | .tup _ ds => some ds
  | _ => none
def lenD : List D → Option D
  | [.lst _ ds] => some (.int ds.length)
  | [.tup _ ds] => some (.int ds.length)
  | _ => none
def absD : List D → Option D
  | [.int i] => some (.int (if i < 0 then -i else i))
  | _ => none
def max2D : List D → Option D
  | [.int i, .int j] => some (.int (if j > i then j else i))
  | _ => none
def min2D : List D → Option D
  | [.int i, .int j] => some (.int (if j < i then j else i))
  | _ => none
def intD : List D → Option D
  | [.int i] => some (.int i)
  | [.bl b] => some (.int (if b then 1 else 0))
  | _ => none
def divmodD : List D → Option D
  | [.int i, .int j] => if 0 < j ∧ j < 1073741824 then some (.tup true [.int (i / j), .int (i % j)]) else none
  | _ => none
def listD : List D → Option D
  | [.lst _ ds] => some (.lst true ds)
  | [.tup _ ds] => some (.lst true ds)
  | _ => none
def tupleD : List D → Option D
  | [.lst _ ds] => some (.tup true ds)
  | _ => none
def gcdD : List D → Option D
  | [.int i, .int j] => some (.int (Nat.gcd i.natAbs j.natAbs : Nat))
  | _ => none
def intsOf : List D → Option (List Int)
  | [] => some []
  | .int i :: ds => (intsOf ds).map (i :: ·)
  | _ => none
def blsOf : List D → Option (List Bool)
  | [] => some []
  | .bl i :: ds => (blsOf ds).map (i :: ·)
  | _ => none
def sumD : List D → Option D
  | [.lst _ ds] => (intsOf ds).map fun ns => .int ns.sum
  | _ => none
def allD : List D → Option D
  | [.lst _ ds] => (blsOf ds).map fun bs => .bl (bs.all id)
  | _ => none
def anyD : List D → Option D
  | [.lst _ ds] => (blsOf ds).map fun bs => .bl (bs.any id)
  | _ => none
section
variable {X : Cx} {K : Frag} {H H' : Hp} {L : List Ent} {x y : V} {d d1 d2 : D}
theorem call1 {r : List V → Hp → VK → Prop} {g : List D → Option D} (h0 : g [] = none) (h2 : ∀ a b l, g (a :: b :: l) = none)
    (h : ∀ (H : Hp) (L : List Ent) (x : V) (d1 d : D) (Q : VK), Rk K H (.v x d1 :: L) → d1.kf = true → g [d1.frz] = some d → (∀ v H', Rk K H' (.v v d :: .v x d1 :: L) → Q v H') → r [x] H Q) : CallOk K r g := by
  intro H L xs ds d Q R l f e k
  match xs, ds, l, e with
  | [], [], _, e => rw [show frzs [] = [] from rfl, h0] at e; cases e
  | [x], [d1], _, e =>
    simp [kfs] at f
    exact h H L x d1 d Q R f e k
  | _ :: _ :: _, _ :: _ :: _, _, e => rw [show frzs (_ :: _ :: _) = _ :: _ :: _ from rfl, h2] at e; cases e
theorem call2 {r : List V → Hp → VK → Prop} {g : List D → Option D} (h0 : g [] = none) (h1 : ∀ a, g [a] = none) (h3 : ∀ a b c l, g (a :: b :: c :: l) = none)
    (h : ∀ (H : Hp) (L : List Ent) (x y : V) (d1 d2 d : D) (Q : VK), Rk K H (.v x d1 :: .v y d2 :: L) → d1.kf = true → d2.kf = true → g [d1.frz, d2.frz] = some d → (∀ v H', Rk K H' (.v v d :: .v x d1 :: .v y d2 :: L) → Q v H') → r [x, y] H Q) : CallOk K r g := by
  intro H L xs ds d Q R l f e k
  match xs, ds, l, e with
  | [], [], _, e => rw [show frzs [] = [] from rfl, h0] at e; cases e
  | [x], [d1], _, e => rw [show frzs [_] = [_] from rfl, h1] at e; cases e
  | [x, y], [d1, d2], _, e =>
    simp [kfs] at f
    exact h H L x y d1 d2 d Q R f.1 f.2 e k
  | _ :: _ :: _ :: _, _ :: _ :: _ :: _, _, e => rw [show frzs (_ :: _ :: _ :: _) = _ :: _ :: _ :: _ from rfl, h3] at e; cases e
theorem lenOk : CallOk K (fun xs H Q => ∃ p ys, xs = [.ref p] ∧ (SqL K H p ys ∨ SqT K H p ys) ∧ Q (.int ys.length) H) lenD := by
  refine call1 rfl (fun a _ _ => by cases a <;> rfl) fun H L x d1 d Q R f e k => ?_
  cases d1 <;> simp only [D.frz, lenD, reduceCtorEq] at e
  · cases e
    obtain ⟨a, xs, rfl, ha, l⟩ := rk_lst R
    refine ⟨a, xs, rfl, .inl (SqL.of ha), k _ _ ?_⟩
    rw [l, frzs_map, List.length_map]
    exact R.int
  · cases e
    obtain ⟨a, xs, rfl, ha, l⟩ := rk_tup R
    refine ⟨a, xs, rfl, .inr (SqT.of ha), k _ _ ?_⟩
    rw [l, frzs_map, List.length_map]
    exact R.int
theorem absOk : CallOk K (fun xs H Q => ∃ i, xs = [.int i] ∧ Q (.int (if i < 0 then -i else i)) H) absD := by
  refine call1 rfl (fun a _ _ => by cases a <;> rfl) fun H L x d1 d Q R f e k => ?_
  cases d1 <;> simp only [D.frz, absD, reduceCtorEq] at e
  cases e
  cases rk_int R
  exact ⟨_, rfl, k _ _ R.int⟩
theorem intOk : CallOk K (fun xs H Q => (∃ i, xs = [.int i] ∧ Q (.int i) H) ∨ ∃ k, xs = [.bl k] ∧ Q (.int (if k then 1 else 0)) H) intD := by
  refine call1 rfl (fun a _ _ => by cases a <;> rfl) fun H L x d1 d Q R f e k => ?_
  cases d1 <;> simp only [D.frz, intD, reduceCtorEq] at e
  · cases e
    cases rk_bl R
    exact .inr ⟨_, rfl, k _ _ R.int⟩
  · cases e
    cases rk_int R
    exact .inl ⟨_, rfl, k _ _ R.int⟩
theorem max2Ok : CallOk K (fun xs H Q => ∃ i j, xs = [.int i, .int j] ∧ Q (.int (if j > i then j else i)) H) max2D := by
  refine call2 rfl (fun a => by cases a <;> rfl) (fun a b _ _ => by cases a <;> cases b <;> rfl) fun H L x y d1 d2 d Q R f1 f2 e k => ?_
  cases d1 <;> cases d2 <;> simp only [D.frz, max2D, reduceCtorEq] at e
  cases e
  cases rk_int R
  cases rk_int R.tail
  exact ⟨_, _, rfl, k _ _ R.int⟩
theorem min2Ok : CallOk K (fun xs H Q => ∃ i j, xs = [.int i, .int j] ∧ Q (.int (if j < i then j else i)) H) min2D := by
  refine call2 rfl (fun a => by cases a <;> rfl) (fun a b _ _ => by cases a <;> cases b <;> rfl) fun H L x y d1 d2 d Q R f1 f2 e k => ?_
  cases d1 <;> cases d2 <;> simp only [D.frz, min2D, reduceCtorEq] at e
  cases e
  cases rk_int R
  cases rk_int R.tail
  exact ⟨_, _, rfl, k _ _ R.int⟩
theorem gcdOk : CallOk K rGcd gcdD := by
  refine call2 rfl (fun a => by cases a <;> rfl) (fun a b _ _ => by cases a <;> cases b <;> rfl) fun H L x y d1 d2 d Q R f1 f2 e k => ?_
  cases d1 <;> cases d2 <;> simp only [D.frz, gcdD, reduceCtorEq] at e
  cases e
  cases rk_int R
  cases rk_int R.tail
  exact ⟨_, _, rfl, k _ _ R.int⟩
theorem divmodOk : CallOk K (fun xs H Q => ∃ i j, xs = [.int i, .int j] ∧ CDiv i j ∧ ∀ p, H p = none → Q (.ref p) (upd H p (.tup [.int (i / j), .int (i % j)]))) divmodD := by
  refine call2 rfl (fun a => by cases a <;> rfl) (fun a b _ _ => by cases a <;> cases b <;> rfl) fun H L x y d1 d2 d Q R f1 f2 e k => ?_
  cases d1 <;> cases d2 <;> simp only [D.frz, divmodD, reduceCtorEq] at e
  split at e
  · rename_i hs
    cases e
    cases rk_int R
    cases rk_int R.tail
    refine ⟨_, _, rfl, hs, fun p hp => k _ _ ?_⟩
    exact rk_new (t := true) (xs := [.int _, .int _]) (ds := [.int _, .int _]) (Rep.int (Rep.int R)) rfl hp
  · cases e
theorem items_copy {t o : Bool} {ds : List D} (R : Rk K H (.v x (D.seq t o ds) :: L)) (f : fzs ds = true) : ∃ a xs, x = .ref a ∧ H a = some (ho t xs) ∧ xs.length = ds.length ∧ ∀ p t', H p = none → Rk K (upd H p (ho t' xs)) (.v (.ref p) (D.seq t' true ds) :: .v x (D.seq t o ds) :: L) := by
  obtain ⟨a, xs, rfl, ha, l, R1⟩ := rk_items R f
  exact ⟨a, xs, rfl, ha, l, fun p t' hp => rk_new R1 l hp⟩
theorem listOk : CallOk K (fun xs H Q => ∃ p ys, xs = [.ref p] ∧ (SqL K H p ys ∨ SqT K H p ys) ∧ ∀ l, H l = none → Q (.ref l) (upd H l (.lst ys))) listD := by
  refine call1 rfl (fun a _ _ => by cases a <;> rfl) fun H L x d1 d Q R f e k => ?_
  cases d1 <;> simp only [D.frz, listD, reduceCtorEq] at e
  · rename_i o ds
    rw [fzs_frzs _ f] at e
    cases e
    obtain ⟨a, xs, rfl, ha, l, z⟩ := items_copy (t := false) (o := o) R f
    exact ⟨a, xs, rfl, .inl (SqL.of ha), fun p hp => k _ _ (z p false hp)⟩
  · rename_i o ds
    rw [fzs_frzs _ f] at e
    cases e
    obtain ⟨a, xs, rfl, ha, l, z⟩ := items_copy (t := true) (o := o) R f
    exact ⟨a, xs, rfl, .inr (SqT.of ha), fun p hp => k _ _ (z p false hp)⟩
theorem tupleOk : CallOk K (fun xs H Q => ∃ p ys, xs = [.ref p] ∧ ((SqL K H p ys ∧ ∀ l, H l = none → Q (.ref l) (upd H l (.tup ys))) ∨ (SqT K H p ys ∧ Q (.ref p) H))) tupleD := by
  refine call1 rfl (fun a _ _ => by cases a <;> rfl) fun H L x d1 d Q R f e k => ?_
  cases d1 <;> simp only [D.frz, tupleD, reduceCtorEq] at e
  rename_i o ds
  rw [fzs_frzs _ f] at e
  cases e
  obtain ⟨a, xs, rfl, ha, l, z⟩ := items_copy (t := false) (o := o) R f
  exact ⟨a, xs, rfl, .inl ⟨SqL.of ha, fun p hp => k _ _ (z p true hp)⟩⟩
theorem ints_of : ∀ {ds : List D} {xs : List V} {ns : List Int}, intsOf ds = some ns → xs.length = ds.length → Rk K H (zipE xs ds ++ L) → xs = ns.map V.int
  | [], [], ns, e, _, _ => by cases e; rfl
  | [], _ :: _, _, _, l, _ => by simp at l
  | _ :: _, [], _, _, l, _ => by simp at l
  | d :: ds, x :: xs, ns, e, l, R => by
    cases d <;> simp only [intsOf, reduceCtorEq] at e
    rename_i i
    cases e1 : intsOf ds with
    | none => rw [e1] at e; cases e
    | some ms =>
      rw [e1] at e
      cases e
      cases (rk_int (L := zipE xs ds ++ L) R)
      rw [ints_of e1 (by simpa using l) (show Rk K H (zipE xs ds ++ L) from Rep.tail R)]
      rfl
theorem bls_of : ∀ {ds : List D} {xs : List V} {ns : List Bool}, blsOf ds = some ns → xs.length = ds.length → Rk K H (zipE xs ds ++ L) → xs = ns.map V.bl
  | [], [], ns, e, _, _ => by cases e; rfl
  | [], _ :: _, _, _, l, _ => by simp at l
  | _ :: _, [], _, _, l, _ => by simp at l
  | d :: ds, x :: xs, ns, e, l, R => by
    cases d <;> simp only [blsOf, reduceCtorEq] at e
    rename_i i
    cases e1 : blsOf ds with
    | none => rw [e1] at e; cases e
    | some ms =>
      rw [e1] at e
      cases e
      cases (rk_bl (L := zipE xs ds ++ L) R)
      rw [bls_of e1 (by simpa using l) (show Rk K H (zipE xs ds ++ L) from Rep.tail R)]
      rfl
theorem sumOk : CallOk K (rSum K) sumD := by
  refine call1 rfl (fun a _ _ => by cases a <;> rfl) fun H L x d1 d Q R f e k => ?_
  cases d1 <;> simp only [D.frz, sumD, reduceCtorEq] at e
  rename_i o ds
  rw [fzs_frzs _ f] at e
  obtain ⟨ns, e1, e2⟩ := Option.map_eq_some_iff.mp e
  subst e2
  obtain ⟨a, xs, rfl, ha, l, R1⟩ := rk_items (t := false) (o := o) R f
  have q := ints_of e1 l R1
  exact ⟨a, ns, rfl, SqL.of (q ▸ ha), k _ _ R.int⟩
theorem allOk : CallOk K (rAll K) allD := by
  refine call1 rfl (fun a _ _ => by cases a <;> rfl) fun H L x d1 d Q R f e k => ?_
  cases d1 <;> simp only [D.frz, allD, reduceCtorEq] at e
  rename_i o ds
  rw [fzs_frzs _ f] at e
  obtain ⟨ns, e1, e2⟩ := Option.map_eq_some_iff.mp e
  subst e2
  obtain ⟨a, xs, rfl, ha, l, R1⟩ := rk_items (t := false) (o := o) R f
  have q := bls_of e1 l R1
  exact ⟨a, ns, rfl, SqL.of (q ▸ ha), k _ _ R.bl⟩
theorem anyOk : CallOk K (rAny K) anyD := by
  refine call1 rfl (fun a _ _ => by cases a <;> rfl) fun H L x d1 d Q R f e k => ?_
  cases d1 <;> simp only [D.frz, anyD, reduceCtorEq] at e
  rename_i o ds
  rw [fzs_frzs _ f] at e
  obtain ⟨ns, e1, e2⟩ := Option.map_eq_some_iff.mp e
  subst e2
  obtain ⟨a, xs, rfl, ha, l, R1⟩ := rk_items (t := false) (o := o) R f
  have q := bls_of e1 l R1
  exact ⟨a, ns, rfl, SqL.of (q ▸ ha), k _ _ R.bl⟩
end
/-! ### subscripts -/
section
variable {C T : Addr} {H : Hp} {L M : List Ent} {x : V} {d : D}
theorem zipE_split : ∀ {xs : List V} {ds : List D} {j : Nat} {d : D}, xs.length = ds.length → ds[j]? = some d → ∃ y, xs[j]? = some y ∧ (zipE xs ds).Perm (.v y d :: zipE (xs.eraseIdx j) (ds.eraseIdx j)) ∧ ∀ e, (zipE xs (ds.set j e)).Perm (.v y e :: zipE (xs.eraseIdx j) (ds.eraseIdx j))
  | [], [], j, d, _, e => by simp at e
  | [], _ :: _, _, _, l, _ => by simp at l
  | _ :: _, [], _, _, l, _ => by simp at l
  | x :: xs, d' :: ds, 0, d, l, e => by
    simp at e
    subst e
    exact ⟨x, rfl, .refl _, fun e => .refl _⟩
  | x :: xs, d' :: ds, j + 1, d, l, e => by
    obtain ⟨y, h1, h2, h3⟩ := zipE_split (xs := xs) (ds := ds) (j := j) (by simpa using l) (by simpa using e)
    refine ⟨y, by simpa using h1, (h2.cons _).trans (List.Perm.swap _ _ _), fun e => ((h3 e).cons _).trans (List.Perm.swap _ _ _)⟩
/-- one item out of a thing that is dropped -/
theorem Rep.pick {t o : Bool} {ds : List D} {j : Nat} (R : Rep C T H (.v x (D.seq t o ds) :: L)) (e : ds[j]? = some d) : ∃ a xs y, x = .ref a ∧ H a = some (ho t xs) ∧ xs.length = ds.length ∧ xs[j]? = some y ∧ Rep C T H (.v y d :: L) := by
  obtain ⟨a, xs, rfl, ha, l, _, r⟩ := R.open_
  obtain ⟨y, hy, p, _⟩ := zipE_split l e
  refine ⟨a, xs, y, rfl, ha, l, hy, ?_⟩
  have r1 := r.tail.perm (p.append_right L)
  refine Rep.right (L := zipE (xs.eraseIdx j) (ds.eraseIdx j)) (r1.perm ?_)
  exact List.perm_middle.symm
noncomputable local instance : DecidableEq Ent := Classical.typeDecidableEq _
theorem pc {l l' : List Ent} (h : ∀ z, l.count z = l'.count z) : l.Perm l' := List.perm_iff_count.mpr h
theorem cp {l l' : List Ent} (h : l.Perm l') (z : Ent) : l.count z = l'.count z := List.perm_iff_count.mp h z
/-- an item frozen where it stands, and beside it -/
theorem Rep.child {t o : Bool} {ds : List D} {j : Nat} (R : Rep C T H (.v x (D.seq t o ds) :: L)) (e : ds[j]? = some d) :
    ∃ a xs y, x = .ref a ∧ H a = some (ho t xs) ∧ xs.length = ds.length ∧ xs[j]? = some y ∧ Rep C T H (.v y d.frz :: .v x (D.seq t o (ds.set j d.frz)) :: L) := by
  obtain ⟨a, xs, rfl, ha, l, kk, r⟩ := R.open_
  obtain ⟨y, hy, p, p2⟩ := zipE_split l e
  refine ⟨a, xs, y, rfl, ha, l, hy, ?_⟩
  have r1 : Rep C T H (.v y d :: (hd o t a xs :: (zipE (xs.eraseIdx j) (ds.eraseIdx j) ++ L))) := (r.perm ((p.append_right L).cons _)).perm (List.Perm.swap _ _ _)
  have r2 := (r1.frz).dup (frz_fz d)
  have r3 : Rep C T H (hd o t a xs :: (zipE xs (ds.set j d.frz) ++ (.v y d.frz :: L))) := by
    refine r2.perm (pc fun z => ?_)
    have q := cp (p2 d.frz) z
    simp only [List.count_append, List.count_cons] at q ⊢
    omega
  refine (Rep.close r3 (by rw [l, List.length_set]) fun z => ?_).perm (List.Perm.swap _ _ _)
  have q := kk z
  rw [fzs_all] at q ⊢
  rw [List.all_eq_true] at q ⊢
  intro c hc
  rcases List.mem_or_eq_of_mem_set hc with hc | rfl
  · exact q c hc
  · exact frz_fz d
end
end Dx

set_option Elab.async false
set_option linter.all false
set_option maxRecDepth 100000
set_option maxHeartbeats 4000000
namespace Dx
open PySem PySem.Spec PyProof.Rows L2 Own
open PySem.W (Frag)
/-! ### tests -/
section
variable {X : Cx} {K : Frag} {f fa fb : DE} {ft fu : DT} {a b c e : Expr} {rest : List Expr} {pos : Pos}
def valT (f : DE) : DT := fun env => (f env).bind fun p => match p.1 with
  | .t (.bl b) => some (b, p.2)
  | _ => none
theorem pt_of_val (h : PE X e (tD X.K f)) (he : ∀ whole, isTrue e X.env whole = (do let v ← whole; standAt e.pos; holding [v] (truthy v)) := by intro _; rfl) : PT X e (tDT X.K (valT f)) :=
  (pt_val h he).of fun σ H Q ⟨env, L, b, env', R, e, k⟩ => by
    obtain ⟨⟨a1, e1⟩, h1, e⟩ := bs e
    dsimp only at e
    split at e
    · cases e
      refine ⟨env, L, _, _, R, h1, fun x H' R' _ => ?_⟩
      have z := rk_bl (K := X.K) (L := []) (x := x) (i := b) (H := H')
      obtain ⟨E, s, r⟩ := R'
      have r1 : Rk X.K H' (.v x (.bl b) :: (E ++ L)) := r.perm List.perm_middle
      exact ⟨b, rk_bl r1, k H' ⟨E, s, r1.tail⟩⟩
    · cases e
def truD : D → Option Bool
  | .lst _ ds => some (!ds.isEmpty)
  | .tup _ ds => some (!ds.isEmpty)
  | .int i => some (i != 0)
  | .non => some false
  | .bl b => some b
  | _ => none
def truT (f : DE) : DT := fun env => (f env).bind fun p => (takeK p.1 p.2).bind fun q => (truD q.1).bind fun b => some (b, backK p.1 q.1 q.2)
theorem tru_of {H : Hp} {L : List Ent} {x : V} {d : D} {b : Bool} (R : Rk K H (.v x d :: L)) (e : truD d = some b) : TruV K x H b := by
  cases d <;> simp only [truD, reduceCtorEq] at e
  · cases e
    cases rk_non R
    exact rfl
  · cases e
    cases rk_bl R
    exact rfl
  · cases e
    cases rk_int R
    exact rfl
  · cases e
    obtain ⟨a, xs, rfl, ha, l⟩ := rk_lst R
    refine .inl ⟨xs, SqL.of ha, ?_⟩
    rename_i o ds
    cases xs <;> cases ds <;> simp at l <;> rfl
  · cases e
    obtain ⟨a, xs, rfl, ha, l⟩ := rk_tup R
    refine .inr (.inl ⟨xs, SqT.of ha, ?_⟩)
    rename_i o ds
    cases xs <;> cases ds <;> simp at l <;> rfl
theorem lift0 {σ : L2.St} {H : Hp} {env : Env} {L M : List Ent} {P : Prop} (R : Sk K H σ env (M ++ L)) (f : ∀ L', Rk K H (M ++ L') → P) : P := by
  obtain ⟨E, s, r⟩ := R
  exact f (E ++ L) (r.perm (by
    rw [← List.append_assoc, ← List.append_assoc]
    exact List.perm_append_comm.append_right _))
/-- what was taken comes back -/
theorem back1 {σ : L2.St} {env e2 : Env} {L : List Ent} {av : AV} {x : V} {d : D} (s : avS σ av x) (h : takeK av env = some (d, e2)) {H' : Hp} (R : Sk K H' σ e2 (.v x d :: L)) : Sk K H' σ (backK av d e2) L := by
  refine backK_ok R s fun i z => ?_
  subst z
  simp only [takeK] at h
  split at h
  · rename_i d0 ed
    cases h
    exact set_some ed _
  · cases h
theorem pt_of_tru (h : PE X e (tD X.K f)) (he : ∀ whole, isTrue e X.env whole = (do let v ← whole; standAt e.pos; holding [v] (truthy v)) := by intro _; rfl) : PT X e (tDT X.K (truT f)) :=
  (pt_truth h he).of fun σ H Q ⟨env, L, b, env', R, e, k⟩ => by
    obtain ⟨⟨a1, e1⟩, h1, e⟩ := bs e
    obtain ⟨⟨d, e2⟩, h2, e⟩ := bs e
    obtain ⟨b', h3, e⟩ := bs e
    cases e
    refine ⟨env, L, a1, e1, R, h1, fun x H' R' s' => ?_⟩
    obtain ⟨R2, _⟩ := takeK_ok R' s' h2
    exact ⟨_, lift0 (M := [.v x d]) R2 fun L' r => tru_of r h3, k H' (back1 s' h2 R2)⟩
def andT (f g : DT) : DT := fun env => (f env).bind fun p => if p.1 = true then g p.2 else some (false, p.2)
def orT (f g : DT) : DT := fun env => (f env).bind fun p => if p.1 = true then some (true, p.2) else g p.2
def notT (f : DT) : DT := fun env => (f env).bind fun p => some (!p.1, p.2)
theorem pwd_and1 (ha : PT X a (tDT X.K ft)) : PW X (.BoolOp .And [a] pos) (tDT X.K ft) := pw_and1 ha
theorem pwd_or1 (ha : PT X a (tDT X.K ft)) : PW X (.BoolOp .Or [a] pos) (tDT X.K ft) := pw_or1 ha
theorem pwd_and (ha : PT X a (tDT X.K ft)) (hb : PW X (.BoolOp .And (b :: rest) pos) (tDT X.K fu)) : PW X (.BoolOp .And (a :: b :: rest) pos) (tDT X.K (andT ft fu)) :=
  (pw_and ha hb).of fun σ H Q ⟨env, L, b, env', R, e, k⟩ => by
    obtain ⟨⟨b1, e1⟩, h1, e⟩ := bs e
    refine ⟨env, L, b1, e1, R, h1, fun H' R' => ?_⟩
    dsimp only at e
    split at e
    · rename_i hb
      rw [if_pos hb]
      exact ⟨e1, L, b, env', R', e, k⟩
    · rename_i hb
      rw [if_neg hb]
      cases e
      exact k H' R'
theorem pwd_or (ha : PT X a (tDT X.K ft)) (hb : PW X (.BoolOp .Or (b :: rest) pos) (tDT X.K fu)) : PW X (.BoolOp .Or (a :: b :: rest) pos) (tDT X.K (orT ft fu)) :=
  (pw_or ha hb).of fun σ H Q ⟨env, L, b, env', R, e, k⟩ => by
    obtain ⟨⟨b1, e1⟩, h1, e⟩ := bs e
    refine ⟨env, L, b1, e1, R, h1, fun H' R' => ?_⟩
    dsimp only at e
    split at e
    · rename_i hb
      rw [if_pos hb]
      cases e
      exact k H' R'
    · rename_i hb
      rw [if_neg hb]
      exact ⟨e1, L, b, env', R', e, k⟩
theorem ptd_not (ha : PT X a (tDT X.K ft)) : PT X (.UnaryOp .Not a pos) (tDT X.K (notT ft)) :=
  (pt_not ha).of fun σ H Q ⟨env, L, b, env', R, e, k⟩ => by
    obtain ⟨⟨b1, e1⟩, h1, e⟩ := bs e
    cases e
    exact ⟨env, L, b1, e1, R, h1, fun H' R' => k H' R'⟩
/-- as values -/
def blD (f : DT) : DE := fun env => (f env).bind fun p => some (.t (.bl p.1), p.2)
theorem tDT_val {σ : L2.St} {H : Hp} {Q : Bool → Hp → Prop} {Q' : VK} {fv : DE} (h : tD K fv σ H Q') (q : ∀ v H, Q' v H → ∃ c, v = .bl c ∧ Q c H) : tB (tD K fv) σ H Q := L2.PE.tDmono h q
def andD (f g : DE) : DE := fun env => (f env).bind fun p => match p.1 with
  | .t (.bl b) => if b = true then g p.2 else some (.t (.bl false), p.2)
  | _ => none
def orD (f g : DE) : DE := fun env => (f env).bind fun p => match p.1 with
  | .t (.bl b) => if b = true then some (.t (.bl true), p.2) else g p.2
  | _ => none
def notD (f : DE) : DE := fun env => (f env).bind fun p => match p.1 with
  | .t (.bl b) => some (.t (.bl (!b)), p.2)
  | _ => none
theorem bl_out {σ : L2.St} {H : Hp} {env : Env} {L : List Ent} {x : V} {b : Bool} (R : Sk K H σ env (avE (.t (.bl b)) x ++ L)) : x = .bl b ∧ Sk K H σ env L := by
  obtain ⟨E, s, r⟩ := R
  have r1 : Rk K H (.v x (.bl b) :: (E ++ L)) := r.perm List.perm_middle
  exact ⟨rk_bl r1, E, s, r1.tail⟩
theorem bl_in {σ : L2.St} {H : Hp} {env : Env} {L : List Ent} {b : Bool} (R : Sk K H σ env L) : Sk K H σ env (avE (.t (.bl b)) (.bl b) ++ L) :=
  RS.lift (M := []) (M' := [.v (.bl b) (.bl b)]) R fun L' z => z.bl
theorem ped_one {op} (h : PE X a (tD X.K f)) : PE X (.BoolOp op [a] pos) (tD X.K f) := pe_one h
theorem ped_and (ha : PE X a (tD X.K fa)) (hb : PE X (.BoolOp .And (b :: rest) pos) (tD X.K fb)) : PE X (.BoolOp .And (a :: b :: rest) pos) (tD X.K (andD fa fb)) :=
  (pe_and ha hb).of fun σ H Q ⟨env, L, av, env', R, e, k⟩ => by
    obtain ⟨⟨a1, e1⟩, h1, e⟩ := bs e
    dsimp only at e
    split at e
    · rename_i bb
      refine ⟨env, L, _, e1, R, h1, fun x H' R' s' => ?_⟩
      obtain ⟨rfl, R2⟩ := bl_out R'
      refine ⟨bb, rfl, ?_⟩
      split at e
      · rename_i hb
        rw [if_pos hb]
        exact ⟨e1, L, av, env', R2, e, k⟩
      · rename_i hb
        rw [if_neg hb]
        cases e
        exact k _ H' (bl_in R2) trivial
    · cases e
theorem ped_or (ha : PE X a (tD X.K fa)) (hb : PE X (.BoolOp .Or (b :: rest) pos) (tD X.K fb)) : PE X (.BoolOp .Or (a :: b :: rest) pos) (tD X.K (orD fa fb)) :=
  (pe_or ha hb).of fun σ H Q ⟨env, L, av, env', R, e, k⟩ => by
    obtain ⟨⟨a1, e1⟩, h1, e⟩ := bs e
    dsimp only at e
    split at e
    · rename_i bb
      refine ⟨env, L, _, e1, R, h1, fun x H' R' s' => ?_⟩
      obtain ⟨rfl, R2⟩ := bl_out R'
      refine ⟨bb, rfl, ?_⟩
      split at e
      · rename_i hb
        rw [if_pos hb]
        cases e
        exact k _ H' (bl_in R2) trivial
      · rename_i hb
        rw [if_neg hb]
        exact ⟨e1, L, av, env', R2, e, k⟩
    · cases e
theorem ped_not (ha : PE X a (tD X.K fa)) : PE X (.UnaryOp .Not a pos) (tD X.K (notD fa)) :=
  (pe_not ha).of fun σ H Q ⟨env, L, av, env', R, e, k⟩ => by
    obtain ⟨⟨a1, e1⟩, h1, e⟩ := bs e
    dsimp only at e
    split at e
    · rename_i bb
      cases e
      refine ⟨env, L, _, _, R, h1, fun x H' R' s' => ?_⟩
      obtain ⟨rfl, R2⟩ := bl_out R'
      exact ⟨bb, rfl, k _ H' (bl_in R2) trivial⟩
    · cases e
def ifD (c : DT) (f g : DE) : DE := fun env => (c env).bind fun p => if p.1 = true then f p.2 else g p.2
theorem ped_if (hc : PT X c (tDT X.K ft)) (ha : PE X a (tD X.K fa)) (hb : PE X b (tD X.K fb)) : PE X (.IfExp c a b pos) (tD X.K (ifD ft fa fb)) :=
  (pe_ifExp hc ha hb).of fun σ H Q ⟨env, L, av, env', R, e, k⟩ => by
    obtain ⟨⟨b1, e1⟩, h1, e⟩ := bs e
    refine ⟨env, L, b1, e1, R, h1, fun H' R' => ?_⟩
    dsimp only at e
    split at e
    · rename_i hb
      rw [if_pos hb]
      exact ⟨e1, L, av, env', R', e, k⟩
    · rename_i hb
      rw [if_neg hb]
      exact ⟨e1, L, av, env', R', e, k⟩
end
/-! ### subscripts, slices, displays -/
def reseq : D → List D → D
  | .lst o _, ds => .lst o ds
  | .tup o _, ds => .tup o ds
  | d, _ => d
def ixAt (av : AV) (i : Int) (env : Env) : Option (AV × Env) := match av with
  | .t d => (seqOf d).bind fun ds => (ixN ds.length i).bind fun j => (ds[j]?).bind fun e => some (.t e, env)
  | .s n => match env[n]? with
    | some (some d) => (seqOf d).bind fun ds => (ixN ds.length i).bind fun j => (ds[j]?).bind fun e => if e.fz then some (.t e, env) else some (.t e.frz, env.set n (some (reseq d (ds.set j e.frz))))
    | _ => none
def intOf : D → Option Int
  | .int i => some i
  | _ => none
def ixD (fa fb : DE) : DE := fun env => (fa env).bind fun p => (fb p.2).bind fun q => (toF q.1 q.2).bind fun k => (intOf k.1).bind fun i => ixAt p.1 i k.2
section
variable {X : Cx} {K : Frag} {H H' : Hp} {σ : L2.St} {L : List Ent} {f fa fb : DE} {a b e : Expr} {es : List Expr} {ft : DA} {pos : Pos}
theorem seqOf_seq {d : D} {ds : List D} (h : seqOf d = some ds) : ∃ t o, d = D.seq t o ds ∧ ∀ es, reseq d es = D.seq t o es := by
  cases d <;> simp only [seqOf, reduceCtorEq] at h <;> cases h
  · exact ⟨false, _, rfl, fun _ => rfl⟩
  · exact ⟨true, _, rfl, fun _ => rfl⟩
/-- what stands at a subscript -/
theorem at_of {t : Bool} {a : Addr} {xs : List V} {i : Int} {j n : Nat} {y : V} {Q : VK} (ha : H a = some (ho t xs)) (l : xs.length = n) (hj : ixN n i = some j) (hy : xs[j]? = some y) (q : Q y H) : rIxL K (.ref a) (.int i) H Q ∨ rIxT K (.ref a) (.int i) H Q := by
  have e : atI xs i = some y := by
    unfold atI
    rw [l, hj]
    exact hy
  cases t with
  | false => exact .inl ⟨a, xs, i, y, rfl, rfl, SqL.of ha, e, q⟩
  | true => exact .inr ⟨a, xs, i, y, rfl, rfl, SqT.of ha, e, q⟩
theorem ixAt_of {av av' : AV} {x : V} {i : Int} {env env' : Env} {Q : VK} (R : Sk K H σ env (avE av x ++ L)) (s : avS σ av x) (e : ixAt av i env = some (av', env'))
    (k : ∀ y, Sk K H σ env' (avE av' y ++ L) → avS σ av' y → Q y H) : rIxL K x (.int i) H Q ∨ rIxT K x (.int i) H Q := by
  cases av with
  | t d =>
    obtain ⟨ds, h1, e⟩ := bs e
    obtain ⟨j, h2, e⟩ := bs e
    obtain ⟨d', h3, e⟩ := bs e
    cases e
    obtain ⟨tt, o, rfl, _⟩ := seqOf_seq h1
    obtain ⟨E, sl, r⟩ := R
    have r1 : Rk K H (.v x (D.seq tt o ds) :: (E ++ L)) := r.perm List.perm_middle
    obtain ⟨p, xs, y, rfl, hp, l, hy, r2⟩ := Rep.pick r1 h3
    exact at_of hp l h2 hy (k y ⟨E, sl, r2.perm List.perm_middle.symm⟩ trivial)
  | s n =>
    simp only [ixAt] at e
    split at e
    · rename_i d ed
      obtain ⟨ds, h1, e⟩ := bs e
      obtain ⟨j, h2, e⟩ := bs e
      obtain ⟨d', h3, e⟩ := bs e
      obtain ⟨tt, o, rfl, hre⟩ := seqOf_seq h1
      obtain ⟨x', hx, R1⟩ := RS.take (show Sk K H σ env L from R) ed
      have s' : σ[n]? = some (some x) := s
      rw [hx] at s'
      cases s'
      obtain ⟨E, sl, r⟩ := R1
      have r1 : Rk K H (.v x (D.seq tt o ds) :: (E ++ L)) := r.perm List.perm_middle
      obtain ⟨p, xs, y, rfl, hp, l, hy, r2⟩ := Rep.child r1 h3
      refine at_of hp l h2 hy ?_
      have R2 : Sk K H σ (env.set n none) (.v (.ref p) (D.seq tt o (ds.set j d'.frz)) :: (.v y d'.frz :: L)) :=
        ⟨E, sl, r2.perm (pc fun z => by simp only [List.count_append, List.count_cons]; omega)⟩
      have R3 := R2.back (set_some ed _) hx
      rw [List.set_set] at R3
      split at e
      · rename_i hf
        cases e
        rw [fz_frz _ hf, set_self h3, set_self ed] at R3
        exact k y R3 trivial
      · cases e
        rw [hre] at k
        exact k y R3 trivial
    · cases e
theorem pd_ix (ha : PE X a (tD X.K fa)) (hb : PE X b (tD X.K fb)) (hs : PlainIx b) : PE X (.Subscript a b pos) (tD X.K (ixD fa fb)) :=
  (pe_ix (ix_list.or ix_tup) ha hb hs).of fun σ H Q ⟨env, L, av, env', R, e, k⟩ => by
    obtain ⟨⟨a1, e1⟩, h1, e⟩ := bs e
    obtain ⟨⟨a2, e2⟩, h2, e⟩ := bs e
    obtain ⟨⟨d2, e3⟩, h3, e⟩ := bs e
    obtain ⟨i, h4, e⟩ := bs e
    refine ⟨env, L, a1, e1, R, h1, fun x H1 R1 s1 => ⟨e1, avE a1 x ++ L, a2, e2, R1, h2, fun y H2 R2 s2 => ?_⟩⟩
    obtain ⟨R3, _⟩ := toF_ok R2 s2 h3
    have hd : d2 = .int i := by
      cases d2 <;> simp only [intOf, reduceCtorEq] at h4
      cases h4
      rfl
    subst hd
    obtain ⟨E, sl, r⟩ := R3
    have r1 : Rk X.K H2 (.v y (.int i) :: (E ++ (avE a1 x ++ L))) := r.perm List.perm_middle
    cases rk_int r1
    exact ixAt_of ⟨E, sl, r1.tail⟩ s1 e fun y' R' s' => k y' H2 R' s'
/-! slices -/
abbrev DO := Env → Option (Option Int × Env)
def tDO (K : Frag) (f : DO) : TO := fun σ H Q => ∃ env L o env', Sk K H σ env L ∧ f env = some (o, env') ∧ ∀ H', Sk K H' σ env' L → Q o H'
def noO : DO := fun env => some (none, env)
def someO (f : DE) : DO := fun env => (f env).bind fun p => match p.1 with
  | .t (.int i) => some (some i, p.2)
  | _ => none
theorem pod_none : PO X none (tDO X.K noO) := ⟨fun pins s σ H Q I h => by
  obtain ⟨env, L, o, env', R, e, k⟩ := h
  cases e
  exact po_none.run pins s σ H Q I (k H R)⟩
theorem int_out {σ : L2.St} {H : Hp} {env : Env} {L : List Ent} {x : V} {b : Int} (R : Sk K H σ env (avE (.t (.int b)) x ++ L)) : x = .int b ∧ Sk K H σ env L := by
  obtain ⟨E, s, r⟩ := R
  have r1 : Rk K H (.v x (.int b) :: (E ++ L)) := r.perm List.perm_middle
  exact ⟨rk_int r1, E, s, r1.tail⟩
theorem pod_some (h : PE X e (tD X.K f)) : PO X (some e) (tDO X.K (someO f)) := ⟨fun pins s σ H Q I hq => (po_some h).run pins s σ H Q I (by
  obtain ⟨env, L, o, env', R, e, k⟩ := hq
  obtain ⟨⟨a1, e1⟩, h1, e⟩ := bs e
  dsimp only at e
  split at e
  · cases e
    refine ⟨env, L, _, _, R, h1, fun x H1 R1 _ => ?_⟩
    obtain ⟨rfl, R2⟩ := int_out R1
    exact ⟨_, rfl, k H1 R2⟩
  · cases e)⟩
def cutL {α : Type} (xs : List α) (lo hi : Option Int) : List α := (xs.drop (HT.sIx xs.length 0 lo)).take (HT.sIx xs.length xs.length hi - HT.sIx xs.length 0 lo)
def sliceD (fa : DE) (fl fh : DO) : DE := fun env => (fa env).bind fun p => (fl p.2).bind fun l => (fh l.2).bind fun h => (takeK p.1 h.2).bind fun q => match q.1 with
  | .lst _ ds => some (.t (.lst true (cutL ds l.1 h.1)), backK p.1 q.1 q.2)
  | _ => none
theorem zipE_drop : ∀ (n : Nat) (xs : List V) (ds : List D), xs.length = ds.length → ∃ M, zipE xs ds = M ++ zipE (xs.drop n) (ds.drop n)
  | 0, xs, ds, _ => ⟨[], rfl⟩
  | n + 1, [], ds, l => by
    cases ds with
    | nil => exact ⟨[], rfl⟩
    | cons _ _ => simp at l
  | n + 1, x :: xs, [], l => by simp at l
  | n + 1, x :: xs, d :: ds, l => by
    obtain ⟨M, h⟩ := zipE_drop n xs ds (by simpa using l)
    exact ⟨.v x d :: M, by rw [zipE, h]; rfl⟩
theorem zipE_take : ∀ (n : Nat) (xs : List V) (ds : List D), xs.length = ds.length → ∃ M, zipE xs ds = zipE (xs.take n) (ds.take n) ++ M
  | 0, xs, ds, _ => ⟨zipE xs ds, by cases xs <;> cases ds <;> rfl⟩
  | n + 1, [], ds, l => by
    cases ds with
    | nil => exact ⟨[], rfl⟩
    | cons _ _ => simp at l
  | n + 1, x :: xs, [], l => by simp at l
  | n + 1, x :: xs, d :: ds, l => by
    obtain ⟨M, h⟩ := zipE_take n xs ds (by simpa using l)
    exact ⟨M, by rw [zipE, h]; rfl⟩
theorem pd_slice {lo hi : Option Expr} {fl fh : DO} {p2 : Pos} (he : PE X e (tD X.K f)) (hl : PO X lo (tDO X.K fl)) (hu : PO X hi (tDO X.K fh)) : PE X (.Subscript e (.Slice lo hi none p2) pos) (tD X.K (sliceD f fl fh)) :=
  (pe_slice sl_list he hl hu).of fun σ H Q ⟨env, L, av, env', R, e, k⟩ => by
    obtain ⟨⟨a1, e1⟩, h1, e⟩ := bs e
    obtain ⟨⟨o1, e2⟩, h2, e⟩ := bs e
    obtain ⟨⟨o2, e3⟩, h3, e⟩ := bs e
    obtain ⟨⟨d, e4⟩, h4, e⟩ := bs e
    dsimp only at e
    split at e
    · rename_i o ds
      cases e
      refine ⟨env, L, a1, e1, R, h1, fun x H1 R1 s1 => ⟨e1, avE a1 x ++ L, o1, e2, R1, h2, fun H2 R2 => ⟨e2, avE a1 x ++ L, o2, e3, R2, h3, fun H3 R3 => ?_⟩⟩⟩
      obtain ⟨R4, f4⟩ := takeK_ok R3 s1 h4
      obtain ⟨E, sl, r⟩ := R4
      have r1 : Rk X.K H3 (.v x (.lst o ds) :: (E ++ L)) := r.perm List.perm_middle
      obtain ⟨p, xs, rfl, hp, l, r2⟩ := rk_items (t := false) (o := o) r1 f4
      refine ⟨p, xs, rfl, SqL.of hp, fun q hq => ?_⟩
      have lc : ∀ (xs : List V) (ds : List D), xs.length = ds.length → (cutL xs o1 o2).length = (cutL ds o1 o2).length ∧ ∃ M M', zipE xs ds = M ++ (zipE (cutL xs o1 o2) (cutL ds o1 o2) ++ M') := by
        intro xs ds l
        unfold cutL
        rw [l]
        obtain ⟨M, hM⟩ := zipE_drop (HT.sIx ds.length 0 o1) xs ds l
        obtain ⟨M', hM'⟩ := zipE_take (HT.sIx ds.length ds.length o2 - HT.sIx ds.length 0 o1) (xs.drop (HT.sIx ds.length 0 o1)) (ds.drop (HT.sIx ds.length 0 o1)) (by simp [l])
        exact ⟨by simp [l], M, M', by rw [hM, hM']⟩
      obtain ⟨l2, M, M', hz⟩ := lc xs ds l
      have r3 : Rk X.K H3 (zipE (cutL xs o1 o2) (cutL ds o1 o2) ++ (.v (.ref p) (.lst o ds) :: (E ++ L))) := by
        rw [hz] at r2
        refine Rep.right (L := M ++ M') (r2.perm (pc fun z => ?_))
        simp only [List.count_append, List.count_cons, D.seq]
        simp only [Bool.false_eq_true, if_false]
        omega
      have r4 := rk_new (t := false) r3 l2 hq
      refine k (.ref q) (upd H3 q (.lst (cutV xs o1 o2))) ?_ trivial
      have R5 : Sk X.K (upd H3 q (.lst (cutV xs o1 o2))) σ e4 (.v (.ref p) (.lst o ds) :: (.v (.ref q) (.lst true (cutL ds o1 o2)) :: L)) :=
        ⟨E, sl, r4.perm (pc fun z => by simp only [List.count_append, List.count_cons, D.seq, Bool.false_eq_true, if_false]; omega)⟩
      exact back1 s1 h4 R5
    · cases e
def revD (fa : DE) : DE := fun env => (fa env).bind fun p => (takeK p.1 p.2).bind fun q => match q.1 with
  | .lst _ ds => some (.t (.lst true ds.reverse), backK p.1 q.1 q.2)
  | _ => none
theorem zipE_rev : ∀ (xs : List V) (ds : List D), xs.length = ds.length → (zipE xs.reverse ds.reverse).Perm (zipE xs ds)
  | [], [], _ => .refl _
  | [], _ :: _, l => by simp at l
  | _ :: _, [], l => by simp at l
  | x :: xs, d :: ds, l => by
    have l' : xs.length = ds.length := by simpa using l
    have ez : ∀ (xs ys : List V) (a b : List D), xs.length = a.length → zipE (xs ++ ys) (a ++ b) = zipE xs a ++ zipE ys b := by
      intro xs
      induction xs with
      | nil =>
        intro ys a b h
        cases a with
        | nil => rfl
        | cons _ _ => simp at h
      | cons x xs ih =>
        intro ys a b h
        cases a with
        | nil => simp at h
        | cons d a =>
          show Ent.v x d :: zipE (xs ++ ys) (a ++ b) = Ent.v x d :: (zipE xs a ++ zipE ys b)
          rw [ih ys a b (by simpa using h)]
    rw [List.reverse_cons, List.reverse_cons, ez _ _ _ _ (by simp [l'])]
    exact List.perm_append_comm.trans ((zipE_rev xs ds l').cons _)
theorem pd_rev {k : Nat} {p1 p2 p3 : Pos} (he : PE X e (tD X.K f)) : PE X (.Subscript e (.Slice none none (some (.UnaryOp .USub (.Constant (.int 1) k p1) p2)) p3) pos) (tD X.K (revD f)) :=
  (pe_revL he).of fun σ H Q ⟨env, L, av, env', R, e, k⟩ => by
    obtain ⟨⟨a1, e1⟩, h1, e⟩ := bs e
    obtain ⟨⟨d, e4⟩, h4, e⟩ := bs e
    dsimp only at e
    split at e
    · rename_i o ds
      cases e
      refine ⟨env, L, a1, e1, R, h1, fun x H3 R3 s1 => ?_⟩
      obtain ⟨R4, f4⟩ := takeK_ok R3 s1 h4
      obtain ⟨E, sl, r⟩ := R4
      have r1 : Rk X.K H3 (.v x (.lst o ds) :: (E ++ L)) := r.perm List.perm_middle
      obtain ⟨p, xs, rfl, hp, l, r2⟩ := rk_items (t := false) (o := o) r1 f4
      refine ⟨p, xs, rfl, SqL.of hp, fun q hq => ?_⟩
      have r3 := r2.perm ((zipE_rev xs ds l).symm.append_right _)
      have r4 := rk_new (t := false) r3 (by simp [l]) hq
      refine k (.ref q) _ ?_ trivial
      have R5 : Sk X.K (upd H3 q (.lst xs.reverse)) σ e4 (.v (.ref p) (.lst o ds) :: (.v (.ref q) (.lst true ds.reverse) :: L)) :=
        ⟨E, sl, r4.perm (pc fun z => by simp only [List.count_append, List.count_cons, D.seq, Bool.false_eq_true, if_false]; omega)⟩
      exact back1 s1 h4 R5
    · cases e
/-! displays: what is new within stays one's own -/
def toT : AV → Env → Option (D × Env)
  | .t d, env => some (d, env)
  | .s i, env => toF (.s i) env
def toTs : List AV → Env → Option (List D × Env)
  | [], env => some ([], env)
  | a :: as, env => (toT a env).bind fun p => (toTs as p.2).bind fun q => some (p.1 :: q.1, q.2)
theorem toT_ok {av : AV} {x : V} {d : D} {env env' : Env} (h : Sk K H σ env (avE av x ++ L)) (s : avS σ av x) (e : toT av env = some (d, env')) : Sk K H σ env' (.v x d :: L) := by
  cases av with
  | t d0 => cases e; exact h
  | s i => exact (toF_ok h s e).1
theorem toTs_ok : ∀ {avs : List AV} {xs : List V} {ds : List D} {env env' : Env} {L : List Ent}, Sk K H σ env (avsE avs xs ++ L) → avsS σ avs xs → toTs avs env = some (ds, env') →
    Sk K H σ env' (zipE xs ds ++ L) ∧ xs.length = ds.length
  | [], xs, ds, env, env', L, h, s, e => by
    cases e
    cases (show xs = [] from s)
    exact ⟨h, rfl⟩
  | a :: as, xs, ds, env, env', L, h, s, e => by
    obtain ⟨x, ys, rfl, s1, s2⟩ := s
    obtain ⟨⟨d, e1⟩, h1, e⟩ := bs e
    obtain ⟨⟨ds', e2⟩, h2, e⟩ := bs e
    cases e
    have r : Sk K H σ env (avE a x ++ (avsE as ys ++ L)) := h.perm (by
      show (avsE as ys ++ avE a x ++ L).Perm _
      rw [← List.append_assoc]
      exact List.perm_append_comm.append_right _)
    have r1 := toT_ok r s1 h1
    have r1' : Sk K H σ e1 (avsE as ys ++ (.v x d :: L)) := r1.perm (List.perm_middle).symm
    obtain ⟨r2, l2⟩ := toTs_ok r1' s2 h2
    exact ⟨r2.perm List.perm_middle, by simp [l2]⟩
def dispD (t : Bool) (ft : DA) : DE := fun env => (ft env).bind fun p => (toTs p.1 p.2).bind fun q => if q.1.length ≤ LMAX then some (.t (D.seq t true q.1), q.2) else none
theorem disp_of {t : Bool} {Q : VK} (h : tD K (dispD t ft) σ H Q) : tDA K ft σ H fun xs H1 => xs.length ≤ sizeLine ∧ ∀ p, H1 p = none → Q (.ref p) (upd H1 p (ho t xs)) := by
  obtain ⟨env, L, av, env', R, e, k⟩ := h
  obtain ⟨⟨avs, e1⟩, h1, e⟩ := bs e
  obtain ⟨⟨ds, e3⟩, h3, e⟩ := bs e
  dsimp only at e
  split at e
  · rename_i hl
    cases e
    refine ⟨env, L, avs, e1, R, h1, fun xs H1 R1 s1 => ?_⟩
    obtain ⟨R3, l⟩ := toTs_ok R1 s1 h3
    refine ⟨szl (by rw [l]; exact hl), fun p hp => k _ _ ?_ trivial⟩
    obtain ⟨E, sl, r⟩ := R3
    have r1 : Rk K H1 (zipE xs ds ++ (E ++ L)) := r.perm (pc fun z => by simp only [List.count_append]; omega)
    exact ⟨E, sl, (rk_new (t := t) r1 l hp).perm List.perm_middle.symm⟩
  · cases e
theorem pd_lst (h : PA X es (tDA X.K ft)) : PE X (.List es pos) (tD X.K (dispD false ft)) := (pe_lst h).of fun σ H Q q => disp_of q
theorem pd_tup {x1} (h : PA X es (tDA X.K ft)) : PE X (.Tuple es x1 pos) (tD X.K (dispD true ft)) := (pe_tup h).of fun σ H Q q => disp_of q
end
end Dx

set_option Elab.async false
set_option linter.all false
set_option maxRecDepth 100000
set_option maxHeartbeats 4000000
namespace Dx
open PySem PySem.Spec PyProof.Rows L2 Own
open PySem.W (Frag)
/-! ### statements -/
inductive Out where
  | nx (env : Env)
  | rt (d : D) (env : Env)
  | bk (env : Env)
  | ct (env : Env)
abbrev DS := Env → Option Out
/-- these slots stay -/
def Pn (pn : List Nat) (σ σ' : L2.St) : Prop := ∀ i ∈ pn, σ'[i]? = σ[i]?
theorem Pn.refl {pn : List Nat} (σ : L2.St) : Pn pn σ σ := fun _ _ => rfl
theorem Pn.trans {pn : List Nat} {a b c : L2.St} (h : Pn pn a b) (k : Pn pn b c) : Pn pn a c := fun i hi => (k i hi).trans (h i hi)
theorem Pn.set {pn : List Nat} {σ : L2.St} {i : Nat} {x : Option V} (h : i ∉ pn) : Pn pn σ (σ.set i x) := fun j hj => List.getElem?_set_ne fun z => h (by rw [z]; exact hj)
def OutOk (K : Frag) (pn : List Nat) (σ : L2.St) (L : List Ent) (D0 : Ends) : Out → Prop
  | .nx e => ∀ σ' H', Sk K H' σ' e L → Pn pn σ σ' → D0.nx σ' H'
  | .rt d e => ∀ x σ' H', Sk K H' σ' e (.v x d :: L) → Pn pn σ σ' → D0.rt x H'
  | .bk e => ∀ σ' H', Sk K H' σ' e L → Pn pn σ σ' → D0.bk σ' H'
  | .ct e => ∀ σ' H', Sk K H' σ' e L → Pn pn σ σ' → D0.ct σ' H'
def tDS (K : Frag) (pn : List Nat) (g : DS) : TS := fun D0 σ H => ∃ env L out, Sk K H σ env L ∧ g env = some out ∧ OutOk K pn σ L D0 out
theorem OutOk.pn {K : Frag} {pn : List Nat} {σ σ1 : L2.St} {L : List Ent} {D0 : Ends} {o : Out} (h : OutOk K pn σ L D0 o) (p : Pn pn σ σ1) : OutOk K pn σ1 L D0 o := by
  cases o with
  | nx e => exact fun σ' H' R q => h σ' H' R (p.trans q)
  | rt d e => exact fun x σ' H' R q => h x σ' H' R (p.trans q)
  | bk e => exact fun σ' H' R q => h σ' H' R (p.trans q)
  | ct e => exact fun σ' H' R q => h σ' H' R (p.trans q)
section
variable {X : Cx} {K : Frag} {pn : List Nat} {f : DE} {ft : DT} {g h : DS} {e c : Expr} {st : Stmt} {sts a b : List Stmt} {pos : Pos}
def nextS : DS := fun env => some (.nx env)
def neverS : DS := fun _ => none
def breakS : DS := fun env => some (.bk env)
def contS : DS := fun env => some (.ct env)
def seqS (g h : DS) : DS := fun env => (g env).bind fun o => match o with
  | .nx e => h e
  | o => some o
theorem sd_nil : PSs X [] (tDS X.K pn nextS) := pss_nil.of fun D0 σ H ⟨env, L, out, R, e, k⟩ => by
  cases e
  exact k σ H R (Pn.refl σ)
theorem sd_pass : PS X (.Pass pos) (tDS X.K pn nextS) := ps_pass.of fun D0 σ H ⟨env, L, out, R, e, k⟩ => by
  cases e
  exact k σ H R (Pn.refl σ)
theorem sd_break : PS X (.Break pos) (tDS X.K pn breakS) := ps_break.of fun D0 σ H ⟨env, L, out, R, e, k⟩ => by
  cases e
  exact k σ H R (Pn.refl σ)
theorem sd_cont : PS X (.Continue pos) (tDS X.K pn contS) := ps_continue.of fun D0 σ H ⟨env, L, out, R, e, k⟩ => by
  cases e
  exact k σ H R (Pn.refl σ)
theorem sd_never : PS X st (tDS X.K pn neverS) := ps_never.of fun D0 σ H ⟨env, L, out, R, e, k⟩ => by cases e
theorem sds_never : PSs X sts (tDS X.K pn neverS) := pss_never.of fun D0 σ H ⟨env, L, out, R, e, k⟩ => by cases e
theorem sd_one (h : PS X st (tDS X.K pn g)) : PSs X [st] (tDS X.K pn g) := pss_one h
theorem sd_cons (h1 : PS X st (tDS X.K pn g)) (h2 : PSs X sts (tDS X.K pn h)) : PSs X (st :: sts) (tDS X.K pn (seqS g h)) :=
  (pss_cons h1 h2).of fun D0 σ H ⟨env, L, out, R, e, k⟩ => by
    obtain ⟨o, h1, e⟩ := bs e
    refine ⟨env, L, o, R, h1, ?_⟩
    cases o with
    | nx e1 => exact fun σ' H' R' p => ⟨e1, L, out, R', e, k.pn p⟩
    | rt d e1 => cases e; exact k
    | bk e1 => cases e; exact k
    | ct e1 => cases e; exact k
/-- frozen ahead of a statement -/
def frzAt (i : Nat) (env : Env) : Option Env := match env[i]? with
  | some (some d) => some (env.set i (some d.frz))
  | _ => none
def frzS (i : Nat) (g : DS) : DS := fun env => (frzAt i env).bind g
theorem sd_frz (i : Nat) (h1 : PSs X sts (tDS X.K pn g)) : PSs X sts (tDS X.K pn (frzS i g)) := h1.of fun D0 σ H ⟨env, L, out, R, e, k⟩ => by
  obtain ⟨e1, h1, e⟩ := bs e
  unfold frzAt at h1
  split at h1
  · rename_i d ed
    cases h1
    exact ⟨_, L, out, R.frzAt ed, e, k⟩
  · cases h1
/-! targets -/
abbrev DG := D → Env → Option Env
def Tg (ts : List Nat) (σ σ' : L2.St) : Prop := σ'.length = σ.length ∧ ∀ j, j ∉ ts → σ'[j]? = σ[j]?
def tDG (K : Frag) (ts : List Nat) (t : DG) : TG := fun x σ H Q => ∃ env L d env', Sk K H σ env (.v x d :: L) ∧ t d env = some env' ∧ ∀ σ' H', Sk K H' σ' env' L → Tg ts σ σ' → Q σ' H'
theorem Tg.pin {pn ts : List Nat} {σ σ' : L2.St} (h : Tg ts σ σ') (k : (ts.all fun i => !pn.contains i) = true) : Pn pn σ σ' := fun i hi => h.2 i fun z => by
  have := List.all_eq_true.mp k i z
  simp at this
  exact this hi
def nameG (i : Nat) : DG := fun d env => if i < env.length then some (env.set i (some d)) else none
theorem _root_.L2.PG.of {tg : Expr} {t t' : TG} (h : PG X tg t) (k : ∀ x σ H Q, t' x σ H Q → t x σ H Q) : PG X tg t' := ⟨fun pins s σ H x u Q I r q => h.run pins s σ H x u Q I r (k _ _ _ _ q)⟩
theorem gd_name {i : Nat} {x : Str} (hN : X.N.Nodup) (hi : X.N[i]? = some x) (hx : Loc X.env.scope x) (hf : X.fn x = true ∨ X.env.scope.names.lookup x = some .local := by first | exact .inl rfl | exact .inr rfl | assumption) : PG X (.Name x pos) (tDG X.K [i] (nameG i)) :=
  (pg_name hN hi hx hf).of fun x σ H Q ⟨env, L, d, env', R, e, k⟩ => by
    unfold nameG at e
    split at e
    · rename_i hi
      cases e
      refine k _ H (R.store hi) ⟨List.length_set, fun j hj => List.getElem?_set_ne fun z => hj (by rw [z]; exact List.mem_singleton.mpr rfl)⟩
    · cases e
abbrev DGs := List D → Env → Option Env
def tDGs (K : Frag) (ts : List Nat) (t : DGs) : TGs := fun xs σ H Q => ∃ env L ds env', Sk K H σ env (zipE xs ds ++ L) ∧ xs.length = ds.length ∧ t ds env = some env' ∧ ∀ σ' H', Sk K H' σ' env' L → Tg ts σ σ' → Q σ' H'
def nilG : DGs := fun ds env => match ds with
  | [] => some env
  | _ => none
def consG (t : DG) (u : DGs) : DGs := fun ds env => match ds with
  | d :: ds => (t d env).bind fun e => u ds e
  | [] => none
theorem _root_.L2.PGs.of {es : List Expr} {t t' : TGs} (h : PGs X es t) (k : ∀ x σ H Q, t' x σ H Q → t x σ H Q) : PGs X es t' := by
  constructor
  intro pins s σ H x u Q I r q
  exact h.run pins s σ H x u Q I r (k _ _ _ _ q)
theorem gds_nil : PGs X [] (tDGs X.K [] nilG) := pgs_nil.of fun xs σ H Q ⟨env, L, ds, env', R, l, e, k⟩ => by
  cases ds with
  | nil =>
    cases e
    cases xs with
    | nil => exact ⟨rfl, k σ H R ⟨rfl, fun _ _ => rfl⟩⟩
    | cons _ _ => simp at l
  | cons _ _ => cases e
theorem gds_cons {es : List Expr} {t : DG} {u : DGs} {ts us : List Nat} (h1 : PG X e (tDG X.K ts t)) (h2 : PGs X es (tDGs X.K us u))
    (hs : (assignEach (e :: es) X.env).map (·.2) = assign e X.env :: (assignEach es X.env).map (·.2) := by rfl) : PGs X (e :: es) (tDGs X.K (ts ++ us) (consG t u)) :=
  (pgs_cons h1 h2 hs).of fun xs σ H Q ⟨env, L, ds, env', R, l, e, k⟩ => by
    cases ds with
    | nil => cases e
    | cons d ds =>
      cases xs with
      | nil => simp at l
      | cons x xs =>
        obtain ⟨e1, h1, e⟩ := bs e
        refine ⟨x, xs, rfl, env, zipE xs ds ++ L, d, e1, R, h1, fun σ1 H1 R1 t1 => ⟨e1, L, ds, env', R1, by simpa using l, e, fun σ2 H2 R2 t2 => k σ2 H2 R2 ⟨t2.1.trans t1.1, fun j hj => ?_⟩⟩⟩
        rw [t2.2 j fun z => hj (List.mem_append_right _ z), t1.2 j fun z => hj (List.mem_append_left _ z)]
def tupG (n : Nat) (u : DGs) : DG := fun d env => match d with
  | .tup _ ds => if ds.length = n then u ds env else none
  | _ => none
theorem gd_tup {es : List Expr} {k n : Nat} {u : DGs} {ts : List Nat} (h : PG X (.Tuple es k pos) (gTup X.K n (tDGs X.K ts u))) : PG X (.Tuple es k pos) (tDG X.K ts (tupG n u)) :=
  h.of fun x σ H Q ⟨env, L, d, env', R, e, kk⟩ => by
    unfold tupG at e
    split at e
    · rename_i o ds
      split at e
      · rename_i hl
        obtain ⟨E, sl, r⟩ := R
        have r1 : Rk X.K H (.v x (D.seq true o ds) :: (E ++ L)) := r.perm List.perm_middle
        obtain ⟨a, xs, rfl, ha, l, _, r2⟩ := Rep.open_ r1
        refine ⟨a, xs, rfl, SqT.of ha, by rw [l]; exact hl, env, L, ds, env', ⟨E, sl, ?_⟩, l, e, kk⟩
        exact r2.tail.perm (pc fun z => by simp only [List.count_append]; omega)
      · cases e
    · cases e
/-! stores -/
def asgS (f : DE) (t : DG) : DS := fun env => (f env).bind fun p => (toT p.1 p.2).bind fun q => (t q.1 q.2).bind fun e => some (.nx e)
theorem sd_asg {t : DG} {ts : List Nat} (he : PS X st (tAsg (tD X.K f) (tDG X.K ts t))) (hp : (ts.all fun i => !pn.contains i) = true := by rfl) : PS X st (tDS X.K pn (asgS f t)) :=
  he.of fun D0 σ H ⟨env, L, out, R, e, k⟩ => by
    obtain ⟨⟨av, e1⟩, h1, e⟩ := bs e
    obtain ⟨⟨d, e2⟩, h2, e⟩ := bs e
    obtain ⟨e3, h3, e⟩ := bs e
    cases e
    exact ⟨env, L, av, e1, R, h1, fun x H1 R1 s1 => ⟨e2, L, d, e3, toT_ok R1 s1 h2, h3, fun σ' H' R' t' => k σ' H' R' (Tg.pin t' hp)⟩⟩
def setS (i : Nat) (f : DE) : DS := asgS f (nameG i)
theorem sd_set {i : Nat} {x : Str} {pos' : Pos} (hN : X.N.Nodup) (hi : X.N[i]? = some x) (hx : Loc X.env.scope x) (he : PE X e (tD X.K f)) (hs : swapsWith e (some (.Name x pos')) pos.line X.env = pure false := by rfl) (hf : X.fn x = true ∨ X.env.scope.names.lookup x = some .local := by first | exact .inl rfl | exact .inr rfl | assumption)
    (hp : pn.contains i = false := by rfl) : PS X (.Assign [.Name x pos'] e pos) (tDS X.K pn (setS i f)) :=
  (ps_set hN hi hx he hs hf).of fun D0 σ H ⟨env, L, out, R, e, k⟩ => by
    obtain ⟨⟨av, e1⟩, h1, e⟩ := bs e
    obtain ⟨⟨d, e2⟩, h2, e⟩ := bs e
    obtain ⟨e3, h3, e⟩ := bs e
    cases e
    refine ⟨env, L, av, e1, R, h1, fun x H1 R1 s1 => ?_⟩
    have R2 := toT_ok R1 s1 h2
    unfold nameG at h3
    split at h3
    · rename_i hi2
      cases h3
      refine k _ H1 (R2.store hi2) (Pn.set fun z => ?_)
      rw [List.contains_iff_mem.mpr z] at hp
      cases hp
    · cases h3
def exprS (f : DE) : DS := fun env => (f env).bind fun p => some (.nx p.2)
theorem sd_expr (he : PE X e (tD X.K f)) (hs : swapsWith e none pos.line X.env = pure false := by rfl) : PS X (.Expr e pos) (tDS X.K pn (exprS f)) :=
  (ps_expr he hs).of fun D0 σ H ⟨env, L, out, R, e, k⟩ => by
    obtain ⟨⟨av, e1⟩, h1, e⟩ := bs e
    cases e
    exact ⟨env, L, av, _, R, h1, fun x H1 R1 s1 => k σ H1 R1.right (Pn.refl σ)⟩
def retS (f : DE) : DS := fun env => (f env).bind fun p => (toT p.1 p.2).bind fun q => some (.rt q.1 q.2)
theorem sd_ret (he : PE X e (tD X.K f)) : PS X (.Return (some e) pos) (tDS X.K pn (retS f)) :=
  (ps_ret he).of fun D0 σ H ⟨env, L, out, R, e, k⟩ => by
    obtain ⟨⟨av, e1⟩, h1, e⟩ := bs e
    obtain ⟨⟨d, e2⟩, h2, e⟩ := bs e
    cases e
    exact ⟨env, L, av, e1, R, h1, fun x H1 R1 s1 => k x σ H1 (toT_ok R1 s1 h2) (Pn.refl σ)⟩
/-- return x: what it owns goes along -/
def retV (i : Nat) : DS := fun env => match env[i]? with
  | some (some d) => if d.fz then some (.rt d env) else some (.rt d (env.set i none))
  | _ => none
theorem sd_retV {i : Nat} {x : Str} {pos' : Pos} (hN : X.N[i]? = some x) (hv : Vis X.env.scope x) (hd : (x == ("__debug__" : Str)) = false := by decide) (hcd : (x == ("__classdict__" : Str)) = false := by decide) : PS X (.Return (some (.Name x pos')) pos) (tDS X.K pn (retV i)) :=
  (ps_ret (pe_var hN hv hd hcd)).of fun D0 σ H ⟨env, L, out, R, e, k⟩ => by
    unfold retV at e
    split at e
    · rename_i d ed
      split at e
      · rename_i hf
        cases e
        obtain ⟨x, hx, R1⟩ := R.get ed hf
        exact ⟨x, hx, k x σ H R1 (Pn.refl σ)⟩
      · cases e
        obtain ⟨x, hx, R1⟩ := R.take ed
        exact ⟨x, hx, k x σ H R1 (Pn.refl σ)⟩
    · cases e
def retN : DS := fun env => some (.rt .non env)
theorem sd_retN : PS X (.Return none pos) (tDS X.K pn retN) :=
  ps_retN.of fun D0 σ H ⟨env, L, out, R, e, k⟩ => by
    cases e
    exact k .non σ H (RS.lift (M := []) (M' := [.v .non .non]) R fun L' z => z.non) (Pn.refl σ)
def ifS (c : DT) (g h : DS) : DS := fun env => (c env).bind fun p => if p.1 = true then g p.2 else h p.2
theorem sd_if (hc : PT X c (tDT X.K ft)) (ha : PSs X a (tDS X.K pn g)) (hb : PSs X b (tDS X.K pn h)) : PS X (.If c a b pos) (tDS X.K pn (ifS ft g h)) :=
  (ps_if hc ha hb).of fun D0 σ H ⟨env, L, out, R, e, k⟩ => by
    obtain ⟨⟨b1, e1⟩, h1, e⟩ := bs e
    refine ⟨env, L, b1, e1, R, h1, fun H1 R1 => ?_⟩
    dsimp only at e
    split at e
    · rename_i hb
      rw [if_pos hb]
      exact ⟨e1, L, out, R1, e, k⟩
    · rename_i hb
      rw [if_neg hb]
      exact ⟨e1, L, out, R1, e, k⟩
def whileS : Nat → DT → DS → DS
  | 0, _, _, _ => none
  | n + 1, c, b, env => (c env).bind fun p => if p.1 = true then (b p.2).bind fun o => match o with
      | .nx e => whileS n c b e
      | .ct e => whileS n c b e
      | .bk e => some (.nx e)
      | .rt d e => some (.rt d e)
    else some (.nx p.2)
theorem sd_while {body : List Stmt} (n : Nat) (hp : PassesOwn (model X.prog X.w) X.A X.env X.xe) (hc : PT X c (tDT X.K ft)) (hb : PSs X body (tDS X.K pn g)) : PS X (.While c body [] pos) (tDS X.K pn (whileS n ft g)) :=
  (ps_while hp hc hb).of fun D0 σ H ⟨env, L, out, R, e, k⟩ => by
    refine ⟨fun m σ' H' => ∃ env', Sk X.K H' σ' env' L ∧ Pn pn σ σ' ∧ whileS m ft g env' = some out, ⟨n, env, R, Pn.refl σ, e⟩, ?_⟩
    rintro m σ1 H1 ⟨e1, R1, p1, w⟩
    cases m with
    | zero => cases w
    | succ m =>
      obtain ⟨⟨b1, e2⟩, h1, w⟩ := bs w
      refine ⟨e1, L, b1, e2, R1, h1, fun H2 R2 => ?_⟩
      dsimp only at w
      split at w
      · rename_i hb
        rw [if_pos hb]
        obtain ⟨o, h2, w⟩ := bs w
        refine ⟨fun σ' H' => ∃ env', Sk X.K H' σ' env' L ∧ Pn pn σ σ' ∧ whileS m ft g env' = some out, fun σ' H' z => ⟨m, Nat.lt_succ_self m, z⟩, e2, L, o, R2, h2, ?_⟩
        cases o with
        | nx e3 => exact fun σ' H' R' p' => ⟨e3, R', p1.trans p', w⟩
        | ct e3 => exact fun σ' H' R' p' => ⟨e3, R', p1.trans p', w⟩
        | bk e3 => cases w; exact fun σ' H' R' p' => k σ' H' R' (p1.trans p')
        | rt d e3 => cases w; exact fun x σ' H' R' p' => k x σ' H' R' (p1.trans p')
      · rename_i hb
        rw [if_neg hb]
        cases w
        exact k σ1 H2 R2 p1
end
end Dx

set_option Elab.async false
set_option linter.all false
set_option maxRecDepth 100000
set_option maxHeartbeats 4000000
namespace Dx
open PySem PySem.Spec PyProof.Rows L2 Own
open PySem.W (Frag)
/-! ### what is walked -/
/-- the iterator J hands out these, while Lp stands -/
def ItD (K : Frag) (J : It) (Lp : List Ent) (ds : List D) : Prop := ∀ (i : Nat) (H : Hp) (L : List Ent), Rk K H (Lp ++ L) →
  (i < ds.length → J.go i H ∧ ∀ x H', J.yld i H x H' → ∃ d, ds[i]? = some d ∧ Rk K H' (.v x d :: (Lp ++ L))) ∧ (ds.length ≤ i → J.stop i H)
structure IR where
  items : List D
  env : Env
  sl : List (Nat × D)
def backs : List (Nat × D) → Env → Option Env
  | [], env => some env
  | (i, d) :: sl, env => (backs sl env).bind fun e => match e[i]? with
    | some none => some (e.set i (some d))
    | _ => none
def BackOk (K : Frag) (pn : List Nat) (σ : L2.St) (Lp : List Ent) (sl : List (Nat × D)) : Prop := ∀ (H : Hp) (σ' : L2.St) (e e' : Env) (L : List Ent), Sk K H σ' e (Lp ++ L) → Pn pn σ σ' → backs sl e = some e' → Sk K H σ' e' L
abbrev DI := Env → Option IR
def tDI (K : Frag) (pn : List Nat) (fi : DI) : TI := fun σ H R => ∃ env L r, Sk K H σ env L ∧ fi env = some r ∧ ∀ J Lp H', ItD K J Lp r.items → BackOk K pn σ Lp r.sl → Sk K H' σ r.env (Lp ++ L) → R J H'
def itTake (pn : List Nat) (av : AV) (env : Env) : Option (D × Env × List (Nat × D)) := match av with
  | .t d => some (d.frz, env, [])
  | .s i => match env[i]? with
    | some (some d) => if pn.contains i then some (d.kfz, env.set i none, [(i, d.kfz)]) else some (d.frz, env.set i (some d.frz), [])
    | _ => none
section
variable {X : Cx} {K : Frag} {H H' : Hp} {σ σ' : L2.St} {L Lp M : List Ent} {pn : List Nat} {env env' e2 : Env} {x y : V} {d : D}
theorem itTake_ok {av : AV} {sl : List (Nat × D)} (h : Sk K H σ env (avE av x ++ L)) (s : avS σ av x) (e : itTake pn av env = some (d, env', sl)) :
    Sk K H σ env' (.v x d :: L) ∧ d.kf = true ∧ BackOk K pn σ [.v x d] sl := by
  cases av with
  | t d0 =>
    cases e
    refine ⟨RS.lift (M := [.v x d0]) (M' := [.v x d0.frz]) h fun L' z => z.frz, fz_kf (frz_fz d0), ?_⟩
    intro H σ' e e' L R _ b
    cases b
    exact R.tail
  | s i =>
    simp only [itTake] at e
    split at e
    · rename_i d0 ed
      have s' : σ[i]? = some (some x) := s
      split at e
      · rename_i hp
        cases e
        obtain ⟨x', hx, r⟩ := RS.take (show Sk K H σ env L from h) ed
        rw [hx] at s'
        cases s'
        refine ⟨RS.lift (M := [.v x d0]) (M' := [.v x d0.kfz]) r fun L' z => z.kfz, kfz_kf d0, ?_⟩
        intro H σ' e e' L R p b
        obtain ⟨e1, h1, b⟩ := bs b
        cases h1
        split at b
        · rename_i hn
          cases b
          exact RS.back R hn (by rw [p i (List.contains_iff_mem.mp hp)]; exact hx)
        · cases b
      · cases e
        have r := RS.frzAt (show Sk K H σ env L from h) ed
        have hi : i < env.length := (List.getElem?_eq_some_iff.mp ed).1
        obtain ⟨x', hx, r2⟩ := r.get (by rw [List.getElem?_set_self hi]) (frz_fz d0)
        rw [hx] at s'
        cases s'
        refine ⟨r2, fz_kf (frz_fz d0), ?_⟩
        intro H σ' e e' L R _ b
        cases b
        exact R.tail
    · cases e
theorem sk_lst {o : Bool} {ds : List D} (S : Sk K H σ env (.v x (.lst o ds) :: L)) : ∃ a xs, x = .ref a ∧ H a = some (.lst xs) ∧ xs.length = ds.length := by
  obtain ⟨E, s, r⟩ := S
  exact rk_lst (o := o) (ds := ds) (L := E ++ L) (r.perm List.perm_middle)
theorem sk_tup {o : Bool} {ds : List D} (S : Sk K H σ env (.v x (.tup o ds) :: L)) : ∃ a xs, x = .ref a ∧ H a = some (.tup xs) ∧ xs.length = ds.length := by
  obtain ⟨E, s, r⟩ := S
  exact rk_tup (o := o) (ds := ds) (L := E ++ L) (r.perm List.perm_middle)
/-! a list; a tuple -/
theorem kf_seq {t o : Bool} {ds : List D} (h : (D.seq t o ds).kf = true) : fzs ds = true := by
  cases t <;> exact h
theorem itd_seq {t o : Bool} {a : Addr} {ds : List D} (f : fzs ds = true) : ItD K (if t then Itt K a else Itl K a) [.v (.ref a) (D.seq t o ds)] ds := by
  intro i H L R
  refine ⟨fun hi => ?_, fun hi => ?_⟩
  · obtain ⟨b, xs, y, hb, ha, l, hy, R2⟩ := rk_item (i := i) R f (List.getElem?_eq_getElem hi)
    cases hb
    cases t with
    | false =>
      refine ⟨⟨xs, y, SqL.of ha, hy⟩, fun x H' ⟨e1, e2⟩ => ⟨_, List.getElem?_eq_getElem hi, ?_⟩⟩
      subst e1
      have := e2 xs (SqL.of ha)
      rw [hy] at this
      cases this
      exact R2
    | true =>
      refine ⟨⟨xs, y, SqT.of ha, hy⟩, fun x H' ⟨e1, e2⟩ => ⟨_, List.getElem?_eq_getElem hi, ?_⟩⟩
      subst e1
      have := e2 xs (SqT.of ha)
      rw [hy] at this
      cases this
      exact R2
  · obtain ⟨b, xs, hb, ha, l, R2⟩ := rk_items R f
    cases hb
    cases t with
    | false => exact ⟨xs, SqL.of ha, by rw [l]; exact hi⟩
    | true => exact ⟨xs, SqT.of ha, by rw [l]; exact hi⟩
def isL : D → Option (List D)
  | .lst _ ds => some ds
  | _ => none
def isT : D → Option (List D)
  | .tup _ ds => some ds
  | _ => none
def listI (pn : List Nat) (f : DE) : DI := fun env => (f env).bind fun p => (itTake pn p.1 p.2).bind fun q => (isL q.1).bind fun ds => some ⟨ds, q.2.1, q.2.2⟩
def tupI (pn : List Nat) (f : DE) : DI := fun env => (f env).bind fun p => (itTake pn p.1 p.2).bind fun q => (isT q.1).bind fun ds => some ⟨ds, q.2.1, q.2.2⟩
theorem _root_.L2.PI.of {tg it : Expr} {w w' : TI} (h : PI X tg it w) (k : ∀ σ H R, w' σ H R → w σ H R) : PI X tg it w' := ⟨fun pins s σ H R I q => h.run pins s σ H R I (k _ _ _ q)⟩
theorem id_list {tg l : Expr} {f : DE} (hl : PE X l (tD X.K f)) : PI X tg l (tDI X.K pn (listI pn f)) := (pi_list hl).of fun σ H R ⟨env, L, r, S, e, k⟩ => by
  obtain ⟨⟨av, e1⟩, h1, e⟩ := bs e
  obtain ⟨⟨d, e2, sl⟩, h2, e⟩ := bs e
  obtain ⟨ds, h3, e⟩ := bs e
  cases e
  have hd : ∃ o, d = .lst o ds := by
    cases d <;> simp only [isL, reduceCtorEq] at h3
    cases h3
    exact ⟨_, rfl⟩
  obtain ⟨o, rfl⟩ := hd
  refine ⟨env, L, av, e1, S, h1, fun x H1 S1 s1 => ?_⟩
  obtain ⟨S2, f2, b2⟩ := itTake_ok S1 s1 h2
  obtain ⟨a, xs, rfl, ha, _⟩ := sk_lst S2
  exact ⟨a, rfl, ⟨xs, SqL.of ha⟩, k _ [.v (.ref a) (.lst o ds)] H1 (itd_seq (t := false) (o := o) (kf_seq (t := false) f2)) b2 S2⟩
theorem id_tup {tg l : Expr} {f : DE} (hl : PE X l (tD X.K f)) : PI X tg l (tDI X.K pn (tupI pn f)) := (pi_tup hl).of fun σ H R ⟨env, L, r, S, e, k⟩ => by
  obtain ⟨⟨av, e1⟩, h1, e⟩ := bs e
  obtain ⟨⟨d, e2, sl⟩, h2, e⟩ := bs e
  obtain ⟨ds, h3, e⟩ := bs e
  cases e
  have hd : ∃ o, d = .tup o ds := by
    cases d <;> simp only [isT, reduceCtorEq] at h3
    cases h3
    exact ⟨_, rfl⟩
  obtain ⟨o, rfl⟩ := hd
  refine ⟨env, L, av, e1, S, h1, fun x H1 S1 s1 => ?_⟩
  obtain ⟨S2, f2, b2⟩ := itTake_ok S1 s1 h2
  obtain ⟨a, xs, rfl, ha, _⟩ := sk_tup S2
  exact ⟨a, rfl, ⟨xs, SqT.of ha⟩, k _ [.v (.ref a) (.tup o ds)] H1 (itd_seq (t := true) (o := o) (kf_seq (t := true) f2)) b2 S2⟩
/-! ranges -/
def rangeL (lo : Int) (n : Nat) : List D := (List.range n).map fun i => .int (lo + (i : Nat))
theorem itd_range {lo : Int} {n : Nat} : ItD K (Itr lo n) [] (rangeL lo n) := by
  intro i H L R
  have hl : (rangeL lo n).length = n := by simp [rangeL]
  refine ⟨fun hi => ?_, fun hi => by rw [hl] at hi; exact hi⟩
  rw [hl] at hi
  refine ⟨hi, fun x H' ⟨e1, e2⟩ => ⟨.int (lo + (i : Nat)), by simp [rangeL, hi], ?_⟩⟩
  subst e1 e2
  exact R.int
def bnd (i : Int) : Bool := decide (-(2 ^ 62) ≤ i ∧ i < 2 ^ 62)
def int1 : List AV → Option Int
  | [.t (.int i)] => some i
  | _ => none
def int2 : List AV → Option (Int × Int)
  | [.t (.int i), .t (.int j)] => some (i, j)
  | _ => none
theorem int1_of {avs : List AV} {j : Int} (h : int1 avs = some j) : avs = [.t (.int j)] := by
  unfold int1 at h
  split at h
  · cases h; rfl
  · cases h
theorem int2_of {avs : List AV} {j : Int × Int} (h : int2 avs = some j) : avs = [.t (.int j.1), .t (.int j.2)] := by
  unfold int2 at h
  split at h
  · cases h; rfl
  · cases h
theorem noBack : BackOk K pn σ [] [] := by
  intro H σ' e e' L R _ b
  cases b
  exact R
def range1I (fa : DA) : DI := fun env => (fa env).bind fun p => (int1 p.1).bind fun j => if bnd j = true then some ⟨rangeL 0 j.toNat, p.2, []⟩ else none
def range2I (fa : DA) : DI := fun env => (fa env).bind fun p => (int2 p.1).bind fun j => if bnd j.1 = true ∧ bnd j.2 = true then some ⟨rangeL j.1 (j.2 - j.1).toNat, p.2, []⟩ else none
theorem id_range1 {tg a : Expr} {fa : DA} {p pos : Pos} (hg : Gl X "range") (hm : X.mg "range" = none) (ha : PA X [a] (tDA X.K fa)) (hs : starEach [a] X.env = [(false, eval a X.env)] := by rfl) : PI X tg (.Call (.Name "range" p) [a] [] pos) (tDI X.K pn (range1I fa)) :=
  (pi_range1 hg hm ha hs).of fun σ H R ⟨env, L, r, S, e, k⟩ => by
    obtain ⟨⟨avs, e1⟩, h1, e⟩ := bs e
    obtain ⟨j, h2, e⟩ := bs e
    cases int1_of h2
    split at e
    · rename_i hb
      cases e
      refine ⟨env, L, _, e1, S, h1, fun xs H1 S1 s1 => ?_⟩
      obtain ⟨x, ys, rfl, _, s2⟩ := s1
      cases (show ys = [] from s2)
      obtain ⟨rfl, S2⟩ := int_out S1
      have hb' := of_decide_eq_true hb
      exact ⟨j, rfl, hb'.1, hb'.2, k _ [] H1 itd_range noBack S2⟩
    · cases e
theorem id_range2 {tg a b : Expr} {fa : DA} {p pos : Pos} (hg : Gl X "range") (hm : X.mg "range" = none) (ha : PA X [a, b] (tDA X.K fa)) (hs : starEach [a, b] X.env = [(false, eval a X.env), (false, eval b X.env)] := by rfl) (hs2 : starEach [b] X.env = [(false, eval b X.env)] := by rfl) :
    PI X tg (.Call (.Name "range" p) [a, b] [] pos) (tDI X.K pn (range2I fa)) :=
  (pi_range2 hg hm ha hs hs2).of fun σ H R ⟨env, L, r, S, e, k⟩ => by
    obtain ⟨⟨avs, e1⟩, h1, e⟩ := bs e
    obtain ⟨⟨i, j⟩, h2, e⟩ := bs e
    cases int2_of h2
    split at e
    · rename_i hb
      cases e
      refine ⟨env, L, _, e1, S, h1, fun xs H1 S1 s1 => ?_⟩
      obtain ⟨x, ys, rfl, _, y, zs, rfl, _, s2⟩ := s1
      cases (show zs = [] from s2)
      have S3 : Sk X.K H1 σ e1 (avE (.t (.int j)) y ++ (avE (.t (.int i)) x ++ L)) := S1
      obtain ⟨rfl, S4⟩ := int_out S3
      obtain ⟨rfl, S5⟩ := int_out S4
      have hb1 := of_decide_eq_true hb.1
      have hb2 := of_decide_eq_true hb.2
      exact ⟨i, j, rfl, ⟨hb1.1, hb1.2, hb2.1, hb2.2⟩, k _ [] H1 itd_range noBack S5⟩
    · cases e
/-! enumerate, zip, reversed -/
def enumL (ds : List D) : List D := ds.mapIdx fun i d => .tup true [.int (i : Nat), d]
theorem itd_enum {o : Bool} {a : Addr} {ds : List D} (f : fzs ds = true) : ItD K (Ite K a) [.v (.ref a) (.lst o ds)] (enumL ds) := by
  intro i H L R
  have hl : (enumL ds).length = ds.length := by simp [enumL]
  refine ⟨fun hi => ?_, fun hi => ?_⟩
  · rw [hl] at hi
    obtain ⟨b, xs, y, hb, ha, l, hy, R2⟩ := rk_item (t := false) (o := o) (i := i) R f (List.getElem?_eq_getElem hi)
    cases hb
    refine ⟨⟨xs, y, SqL.of ha, hy⟩, fun x H' ⟨T, x', e1, hT, e2, e3⟩ => ⟨.tup true [.int (i : Nat), ds[i]], by simp [enumL, hi], ?_⟩⟩
    have := e3 xs (SqL.of ha)
    rw [hy] at this
    cases this
    subst e1 e2
    exact rk_new (t := true) (xs := [.int (i : Nat), y]) (ds := [.int (i : Nat), ds[i]]) (Rep.int R2) rfl hT
  · obtain ⟨b, xs, hb, ha, l, R2⟩ := rk_items (t := false) (o := o) R f
    cases hb
    exact ⟨xs, SqL.of ha, by rw [l]; rw [hl] at hi; exact hi⟩
def enumI (pn : List Nat) (f : DE) : DI := fun env => (f env).bind fun p => (itTake pn p.1 p.2).bind fun q => (isL q.1).bind fun ds => some ⟨enumL ds, q.2.1, q.2.2⟩
theorem id_enum {e : Expr} {f : DE} {p pos tpos : Pos} {elts : List Expr} {kk : Nat} (hg : Gl X "enumerate") (hm : X.mg "enumerate" = none) (ha : PA X [e] (tDA X.K (consA f nilA))) (hs : starEach [e] X.env = [(false, eval e X.env)] := by rfl) :
    PI X (.Tuple elts kk tpos) (.Call (.Name "enumerate" p) [e] [] pos) (tDI X.K pn (enumI pn f)) :=
  (pi_enum hg hm ha hs).of fun σ H R ⟨env, L, r, S, e, k⟩ => by
    obtain ⟨⟨av, e1⟩, h1, e⟩ := bs e
    obtain ⟨⟨d, e2, sl⟩, h2, e⟩ := bs e
    obtain ⟨ds, h3, e⟩ := bs e
    cases e
    have hd : ∃ o, d = .lst o ds := by
      cases d <;> simp only [isL, reduceCtorEq] at h3
      cases h3
      exact ⟨_, rfl⟩
    obtain ⟨o, rfl⟩ := hd
    refine ⟨env, L, [av], e1, S, by simp only [consA, nilA, h1, Option.bind_some], fun xs H1 S1 s1 => ?_⟩
    obtain ⟨x, ys, rfl, s1, s2⟩ := s1
    cases (show ys = [] from s2)
    obtain ⟨S2, f2, b2⟩ := itTake_ok (show Sk X.K H1 σ e1 (avE av x ++ L) from S1) s1 h2
    obtain ⟨a, xs, rfl, ha, _⟩ := sk_lst S2
    exact ⟨a, xs, rfl, SqL.of ha, k _ [.v (.ref a) (.lst o ds)] H1 (itd_enum (o := o) (kf_seq (t := false) f2)) b2 S2⟩
def zipL (as bs : List D) : List D := List.zipWith (fun a b => .tup true [a, b]) as bs
theorem itd_zip {o o' : Bool} {a b : Addr} {ds es : List D} (f : fzs ds = true) (g : fzs es = true) : ItD K (Itz K a b) [.v (.ref a) (.lst o ds), .v (.ref b) (.lst o' es)] (zipL ds es) := by
  intro i H L R
  have hl : (zipL ds es).length = min ds.length es.length := by simp [zipL]
  refine ⟨fun hi => ?_, fun hi => ?_⟩
  · rw [hl] at hi
    have hi1 : i < ds.length := by omega
    have hi2 : i < es.length := by omega
    obtain ⟨p, xs, y, hp, ha, l, hy, R2⟩ := rk_item (t := false) (o := o) (i := i) R f (List.getElem?_eq_getElem hi1)
    cases hp
    have R2' : Rk K H (.v y ds[i] :: .v (.ref a) (.lst o ds) :: .v (.ref b) (.lst o' es) :: L) := R2
    have R3 : Rk K H (.v (.ref b) (.lst o' es) :: (.v y ds[i] :: .v (.ref a) (.lst o ds) :: L)) := R2'.perm (pc fun z => by simp only [List.count_append, List.count_cons, List.count_nil]; omega)
    obtain ⟨p', ys, z, hp', hb, l', hz, R4⟩ := rk_item (t := false) (o := o') (i := i) R3 g (List.getElem?_eq_getElem hi2)
    cases hp'
    refine ⟨⟨xs, ys, y, z, SqL.of ha, SqL.of hb, hy, hz⟩, fun x H' ⟨T, x', y', e1, hT, e2, e3, e4⟩ => ⟨.tup true [ds[i], es[i]], by simp [zipL, List.getElem?_zipWith, hi1, hi2], ?_⟩⟩
    have q1 := e3 xs (SqL.of ha)
    have q2 := e4 ys (SqL.of hb)
    rw [hy] at q1
    rw [hz] at q2
    cases q1
    cases q2
    subst e1 e2
    have R5 : Rk K H (zipE [y, z] [ds[i], es[i]] ++ (.v (.ref a) (.lst o ds) :: .v (.ref b) (.lst o' es) :: L)) := R4.perm (pc fun q => by simp only [zipE, List.count_append, List.count_cons, List.count_nil, D.seq, Bool.false_eq_true, if_false]; omega)
    exact rk_new (t := true) R5 rfl hT
  · obtain ⟨p, xs, hp, ha, l, R2⟩ := rk_items (t := false) (o := o) R f
    cases hp
    have R3 : Rk K H (.v (.ref b) (.lst o' es) :: (.v (.ref a) (.lst o ds) :: L)) := R.perm (pc fun z => by simp only [List.count_append, List.count_cons, List.count_nil]; omega)
    obtain ⟨p', ys, hp', hb, l', R4⟩ := rk_items (t := false) (o := o') R3 g
    cases hp'
    refine ⟨xs, ys, SqL.of ha, SqL.of hb, ?_⟩
    rw [l, l']
    omega
def zipI (pn : List Nat) (f g : DE) : DI := fun env => (f env).bind fun p => (g p.2).bind fun q => (itTake pn p.1 q.2).bind fun u => (itTake pn q.1 u.2.1).bind fun v => (isL u.1).bind fun ds => (isL v.1).bind fun es => some ⟨zipL ds es, v.2.1, v.2.2 ++ u.2.2⟩
theorem backs_app : ∀ (s1 s2 : List (Nat × D)) (e : Env), backs (s1 ++ s2) e = (backs s2 e).bind (backs s1)
  | [], s2, e => by simp [backs]
  | (i, d) :: s1, s2, e => by
    rw [List.cons_append, backs, backs_app s1 s2 e, Option.bind_assoc]
    rfl
theorem id_zip {e e2 : Expr} {f g : DE} {p pos tpos : Pos} {elts : List Expr} {kk : Nat} (hg : Gl X "zip") (hm : X.mg "zip" = none) (ha : PA X [e, e2] (tDA X.K (consA f (consA g nilA))))
    (hs : starEach [e, e2] X.env = (false, eval e X.env) :: starEach [e2] X.env := by rfl) (hpl : (backTo pos (starEach [e2] X.env)).any (·.1) = false := by rfl) :
    PI X (.Tuple elts kk tpos) (.Call (.Name "zip" p) [e, e2] [] pos) (tDI X.K pn (zipI pn f g)) :=
  (pi_zip hg hm ha hs hpl).of fun σ H R ⟨env, L, r, S, e, k⟩ => by
    obtain ⟨⟨av, e1⟩, h1, e⟩ := bs e
    obtain ⟨⟨bv, e2⟩, h2, e⟩ := bs e
    obtain ⟨⟨d, e3, sl⟩, h3, e⟩ := bs e
    obtain ⟨⟨d', e4, sl'⟩, h4, e⟩ := bs e
    obtain ⟨ds, h5, e⟩ := bs e
    obtain ⟨es, h6, e⟩ := bs e
    cases e
    have hd : ∃ o, d = .lst o ds := by
      cases d <;> simp only [isL, reduceCtorEq] at h5
      cases h5
      exact ⟨_, rfl⟩
    have hd' : ∃ o, d' = .lst o es := by
      cases d' <;> simp only [isL, reduceCtorEq] at h6
      cases h6
      exact ⟨_, rfl⟩
    obtain ⟨o, rfl⟩ := hd
    obtain ⟨o', rfl⟩ := hd'
    dsimp only at h2 h3 h4
    refine ⟨env, L, [av, bv], e2, S, by simp only [consA, nilA, h1, h2, Option.bind_some], fun xs H1 S1 s1 => ?_⟩
    obtain ⟨x, ys, rfl, s1, y, zs, rfl, s2, s3⟩ := s1
    cases (show zs = [] from s3)
    have S2 : Sk X.K H1 σ e2 (avE av x ++ (avE bv y ++ L)) := S1.perm (pc fun z => by simp only [avsE, List.count_append, List.count_nil]; omega)
    obtain ⟨S3, f3, b3⟩ := itTake_ok S2 s1 h3
    have S4 : Sk X.K H1 σ e3 (avE bv y ++ (.v x (.lst o ds) :: L)) := S3.perm (pc fun z => by simp only [List.count_append, List.count_cons]; omega)
    obtain ⟨S5, f5, b5⟩ := itTake_ok S4 s2 h4
    have S6 : Sk X.K H1 σ e4 ([.v x (.lst o ds), .v y (.lst o' es)] ++ L) := S5.perm (List.Perm.swap _ _ _)
    obtain ⟨a, xs, rfl, ha, _⟩ := sk_lst (o := o) (ds := ds) S6
    obtain ⟨b, ys, rfl, hb, _⟩ := sk_lst S5
    refine ⟨a, b, xs, ys, rfl, SqL.of ha, SqL.of hb, k _ [.v (.ref a) (.lst o ds), .v (.ref b) (.lst o' es)] H1 (itd_zip (o := o) (o' := o') (kf_seq (t := false) f3) (kf_seq (t := false) f5)) ?_ S6⟩
    intro H σ' e e' L R p b
    rw [backs_app] at b
    obtain ⟨e5, q1, q2⟩ := bs b
    have R1 := b3 H σ' e e5 (.v (V.ref _) (.lst o' es) :: L) R p q1
    exact b5 H σ' e5 e' L R1 p q2
def revLI (pn : List Nat) (f : DE) : DI := fun env => (f env).bind fun p => (itTake pn p.1 p.2).bind fun q => (isL q.1).bind fun ds => some ⟨ds.reverse, q.2.1, q.2.2⟩
theorem itd_rev {o : Bool} {a : Addr} {ds : List D} (f : fzs ds = true) : ItD K (Itv K a ds.length) [.v (.ref a) (.lst o ds)] ds.reverse := by
  intro i H L R
  refine ⟨fun hi => ?_, fun hi => ?_⟩
  · rw [List.length_reverse] at hi
    have hi2 : ds.length - 1 - i < ds.length := by omega
    obtain ⟨b, xs, y, hb, ha, l, hy, R2⟩ := rk_item (t := false) (o := o) (i := ds.length - 1 - i) R f (List.getElem?_eq_getElem hi2)
    cases hb
    refine ⟨⟨hi, xs, y, SqL.of ha, hy⟩, fun x H' ⟨e1, e2⟩ => ⟨_, by rw [List.getElem?_reverse hi]; exact List.getElem?_eq_getElem hi2, ?_⟩⟩
    subst e1
    have := e2 xs (SqL.of ha)
    rw [hy] at this
    cases this
    exact R2
  · rw [List.length_reverse] at hi
    exact hi
theorem id_rev {tg e : Expr} {f : DE} {p pos : Pos} (hg : Gl X "reversed") (hm : X.mg "reversed" = none) (ha : PA X [e] (tDA X.K (consA f nilA))) (hs : starEach [e] X.env = [(false, eval e X.env)] := by rfl) : PI X tg (.Call (.Name "reversed" p) [e] [] pos) (tDI X.K pn (revLI pn f)) :=
  (pi_reversed hg hm ha hs).of fun σ H R ⟨env, L, r, S, e, k⟩ => by
    obtain ⟨⟨av, e1⟩, h1, e⟩ := bs e
    obtain ⟨⟨d, e2, sl⟩, h2, e⟩ := bs e
    obtain ⟨ds, h3, e⟩ := bs e
    cases e
    have hd : ∃ o, d = .lst o ds := by
      cases d <;> simp only [isL, reduceCtorEq] at h3
      cases h3
      exact ⟨_, rfl⟩
    obtain ⟨o, rfl⟩ := hd
    refine ⟨env, L, [av], e1, S, by simp only [consA, nilA, h1, Option.bind_some], fun xs H1 S1 s1 => ?_⟩
    obtain ⟨x, ys, rfl, s1, s2⟩ := s1
    cases (show ys = [] from s2)
    obtain ⟨S2, f2, b2⟩ := itTake_ok (show Sk X.K H1 σ e1 (avE av x ++ L) from S1) s1 h2
    obtain ⟨a, xs, rfl, ha, l⟩ := sk_lst S2
    refine ⟨a, xs, rfl, SqL.of ha, k _ [.v (.ref a) (.lst o ds)] H1 ?_ b2 S2⟩
    rw [l]
    exact itd_rev (o := o) (kf_seq (t := false) f2)
end
end Dx

set_option Elab.async false
set_option linter.all false
set_option maxRecDepth 100000
set_option maxHeartbeats 4000000
namespace Dx
open PySem PySem.Spec PyProof.Rows L2 Own
open PySem.W (Frag)
/-! ### for -/
def forL (t : DG) (g : DS) : List D → Env → Option Out
  | [], env => some (.nx env)
  | d :: ds, env => (t d env).bind fun e => (g e).bind fun o => match o with
    | .nx e => forL t g ds e
    | .ct e => forL t g ds e
    | .bk e => some (.nx e)
    | .rt d e => some (.rt d e)
def outBack (sl : List (Nat × D)) : Out → Option Out
  | .nx e => (backs sl e).map .nx
  | .rt d e => (backs sl e).map (.rt d)
  | _ => none
def forS (fi : DI) (t : DG) (g : DS) : DS := fun env => (fi env).bind fun r => (forL t g r.items r.env).bind fun o => outBack r.sl o
section
variable {X : Cx} {K : Frag} {H H' : Hp} {σ σ' : L2.St} {L Lp M : List Ent} {pn ts : List Nat} {env env' e2 : Env} {x y : V} {d : D} {fi fi1 : DI} {t t1 : DG} {g : DS} {ft ft1 : DT} {fe : DE}
theorem sd_for {iter tg : Expr} {body : List Stmt} {pos : Pos} (hp : PassesOwn (model X.prog X.w) X.A X.env X.xe) (hc : X.calm = true) (hi : PI X tg iter (tDI X.K pn fi)) (hg : PG X tg (tDG X.K ts t)) (hb : PSs X body (tDS X.K pn g))
    (hs : ∀ x, foldedSetIterable iter X.env x = pure x := by intro _; rfl) (hq : (ts.all fun i => !pn.contains i) = true := by rfl) : PS X (.For tg iter body [] pos) (tDS X.K pn (forS fi t g)) :=
  (ps_for hp hc hi hg hb hs).of fun D0 σ H ⟨env, L, out, R, e, k⟩ => by
    obtain ⟨r, h1, e⟩ := bs e
    obtain ⟨o, h2, e⟩ := bs e
    refine ⟨env, L, r, R, h1, fun J Lp H1 it bk R1 => ?_⟩
    refine ⟨fun i m σ' H' => ∃ env', Sk X.K H' σ' env' (Lp ++ L) ∧ Pn pn σ σ' ∧ i ≤ r.items.length ∧ m = r.items.length - i ∧ forL t g (r.items.drop i) env' = some o,
      ⟨r.items.length, r.env, R1, Pn.refl σ, Nat.zero_le _, rfl, h2⟩, ?_⟩
    rintro i m σ1 H2 ⟨e1, R2, p2, hi, rfl, w⟩
    obtain ⟨E, s, r2⟩ := id R2
    have r3 : Rk X.K H2 (Lp ++ (E ++ L)) := r2.perm (pc fun z => by simp only [List.count_append]; omega)
    obtain ⟨go, stop⟩ := it i H2 (E ++ L) r3
    by_cases hl : i < r.items.length
    · obtain ⟨g1, y1⟩ := go hl
      have hd : r.items.drop i = r.items[i] :: r.items.drop (i + 1) := List.drop_eq_getElem_cons hl
      rw [hd, forL] at w
      obtain ⟨e3, w1, w⟩ := bs w
      obtain ⟨o1, w2, w⟩ := bs w
      refine .inr ⟨g1, fun σ' H' => ∃ env', Sk X.K H' σ' env' (Lp ++ L) ∧ Pn pn σ σ' ∧ forL t g (r.items.drop (i + 1)) env' = some o, fun σ' H' ⟨e4, a, b, c⟩ => ⟨_, by omega, e4, a, b, hl, rfl, c⟩, fun x H3 y3 => ?_⟩
      obtain ⟨d, hdd, r4⟩ := y1 x H3 y3
      rw [List.getElem?_eq_getElem hl] at hdd
      cases hdd
      have R3 : Sk X.K H3 σ1 e1 (.v x r.items[i] :: (Lp ++ L)) := ⟨E, s, r4.perm (pc fun z => by simp only [List.count_append, List.count_cons]; omega)⟩
      refine ⟨e1, Lp ++ L, _, e3, R3, w1, fun σ4 H4 R4 t4 => ⟨e3, Lp ++ L, o1, R4, w2, ?_⟩⟩
      have p4 := p2.trans (Tg.pin t4 hq)
      cases o1 with
      | nx e5 => exact fun σ' H' R' p' => ⟨e5, R', p4.trans p', w⟩
      | ct e5 => exact fun σ' H' R' p' => ⟨e5, R', p4.trans p', w⟩
      | bk e5 =>
        cases w
        obtain ⟨e6, b6, e⟩ := Option.map_eq_some_iff.mp e
        subst e
        exact fun σ' H' R' p' => k σ' H' (bk H' σ' e5 e6 L R' (p4.trans p') b6) (p4.trans p')
      | rt d e5 =>
        cases w
        obtain ⟨e6, b6, e⟩ := Option.map_eq_some_iff.mp e
        subst e
        refine fun x σ' H' R' p' => k x σ' H' (bk H' σ' e5 e6 (.v x d :: L) ?_ (p4.trans p') b6) (p4.trans p')
        exact R'.perm (pc fun z => by simp only [List.count_append, List.count_cons]; omega)
    · have hl2 : r.items.length ≤ i := by omega
      refine .inl ⟨stop hl2, ?_⟩
      rw [List.drop_eq_nil_of_le hl2, forL] at w
      cases w
      obtain ⟨e6, b6, e⟩ := Option.map_eq_some_iff.mp e
      subst e
      exact k σ1 H2 (bk H2 σ1 e1 e6 L R2 p2 b6) p2
/-! ### comprehensions -/
def wipeE (env : Env) : List Nat → Env
  | [] => env
  | v :: vs => (wipeE env vs).set v none
theorem Sl.any {σ : L2.St} {env : Env} {E : List Ent} (h : Sl σ env E) (y : Option V) : ∀ {i : Nat}, env[i]? = some none ∨ env[i]? = none → Sl (σ.set i y) env E := by
  induction h with
  | nil => intro i _; exact .nil
  | @un x σ env E h ih =>
    intro i hi
    cases i with
    | zero => exact .un h
    | succ i => exact .un (ih (by simpa using hi))
  | @so x d σ env E h ih =>
    intro i hi
    cases i with
    | zero => simp at hi
    | succ i => exact .so (ih (by simpa using hi))
theorem set_get_none {i : Nat} : (env.set i none)[i]? = some none ∨ (env.set i none)[i]? = none := by
  rcases (by omega : i < env.length ∨ env.length ≤ i) with h | h
  · exact .inl (List.getElem?_set_self h)
  · exact .inr (by rw [List.getElem?_eq_none_iff]; simpa using h)
theorem wipeE_get : ∀ (vs : List Nat) {i : Nat}, i ∈ vs → (wipeE env vs)[i]? = some none ∨ (wipeE env vs)[i]? = none
  | v :: vs, i, h => by
    rw [wipeE]
    by_cases hv : v = i
    · subst hv; exact set_get_none
    · rw [List.getElem?_set_ne hv]
      exact wipeE_get vs ((List.mem_cons.mp h).resolve_left fun z => hv z.symm)
theorem sk_wipeE (R : Sk K H σ env L) : ∀ vs : List Nat, Sk K H σ (wipeE env vs) L
  | [] => R
  | v :: vs => (sk_wipeE R vs).clear v
/-- where nothing is known of slots, they may be anything -/
theorem sk_any {vs : List Nat} (R : Sk K H σ env L) (h : ∀ i, i ∈ vs → env[i]? = some none ∨ env[i]? = none) : ∀ us : List Nat, (∀ i, i ∈ us → i ∈ vs) → Sk K H (wipe σ us) env L
  | [], _ => R
  | u :: us, hs => by
    obtain ⟨E, s, r⟩ := sk_any R h us fun i hi => hs i (List.mem_cons_of_mem _ hi)
    exact ⟨E, s.any none (h u (hs u List.mem_cons_self)), r⟩
theorem wipe_at (σ : L2.St) : ∀ (vs : List Nat) (j : Nat), (wipe σ vs)[j]? = if j ∈ vs ∧ j < σ.length then some none else σ[j]?
  | [], j => by simp [wipe]
  | v :: vs, j => by
    rw [wipe]
    by_cases hv : v = j
    · subst hv
      by_cases hl : v < σ.length
      · rw [List.getElem?_set_self (by rw [wipe_length]; exact hl), if_pos ⟨List.mem_cons_self, hl⟩]
      · rw [if_neg fun z => hl z.2, List.getElem?_eq_none_iff.mpr (by simp [wipe_length]; omega), List.getElem?_eq_none_iff.mpr (by omega)]
    · rw [List.getElem?_set_ne hv, wipe_at σ vs j]
      by_cases hm : j ∈ vs ∧ j < σ.length
      · rw [if_pos hm, if_pos ⟨List.mem_cons_of_mem _ hm.1, hm.2⟩]
      · rw [if_neg hm, if_neg fun z => hm ⟨(List.mem_cons.mp z.1).resolve_left fun q => hv q.symm, z.2⟩]
theorem wipe_tg {vs : List Nat} (h : Tg ts (wipe σ vs) σ') (k : (ts.all fun i => vs.contains i) = true) : wipe σ' vs = wipe σ vs := by
  apply List.ext_getElem?
  intro j
  have hl : σ'.length = σ.length := by rw [h.1, wipe_length]
  rw [wipe_at, wipe_at, hl]
  by_cases hm : j ∈ vs ∧ j < σ.length
  · rw [if_pos hm, if_pos hm]
  · rw [if_neg hm, if_neg hm]
    have hj : j ∉ ts ∨ σ.length ≤ j := by
      by_cases hjt : j ∈ ts
      · have := List.all_eq_true.mp k j hjt
        simp at this
        exact .inr (by
          have q : ¬ j < σ.length := fun z => hm ⟨this, z⟩
          omega)
      · exact .inl hjt
    rcases hj with hj | hj
    · rw [h.2 j hj, wipe_at, if_neg hm]
    · rw [List.getElem?_eq_none_iff.mpr (by omega), List.getElem?_eq_none_iff.mpr hj]
/-- back to the outer slots -/
theorem sk_unwipe {vs : List Nat} {σ2 : L2.St} (R : Sk K H σ2 env L) (h : wipe σ2 vs = wipe σ vs) : Sk K H (wipe σ vs) (wipeE env vs) L := by
  rw [← h]
  exact sk_any (vs := vs) (sk_wipeE R vs) (fun i hi => wipeE_get vs hi) vs fun _ z => z
theorem sk_outer {vs : List Nat} (R : Sk K H (wipe σ vs) env L) (h : ∀ i, i ∈ vs → env[i]? = some none ∨ env[i]? = none) : Sk K H σ env L := by
  obtain ⟨E, s, r⟩ := R
  refine ⟨E, ?_, r⟩
  have go : ∀ us : List Nat, (∀ i, i ∈ us → i ∈ vs) → Sl (wipe σ us) env E → Sl σ env E := by
    intro us
    induction us with
    | nil => intro _ z; exact z
    | cons u us ih =>
      intro hs z
      refine ih (fun i hi => hs i (List.mem_cons_of_mem _ hi)) ?_
      rw [wipe] at z
      have hu := h u (hs u List.mem_cons_self)
      cases q : (wipe σ us)[u]? with
      | none =>
        rw [List.set_eq_of_length_le (by simpa using q)] at z
        exact z
      | some y =>
        have z2 := z.any y hu
        rw [List.set_set, set_self q] at z2
        exact z2
  exact go vs (fun _ z => z) s
def yesT : DT := fun env => some (true, env)
def compL (vs : List Nat) (t : DG) (ft : DT) (fe : DE) : List D → Env → List D → Option (List D × Env)
  | [], env, acc => some (acc, env)
  | d :: ds, env, acc => (t d env).bind fun e => (ft e).bind fun p => if p.1 = true then (fe p.2).bind fun q => (toT q.1 q.2).bind fun r => if acc.length < LMAX then compL vs t ft fe ds (wipeE r.2 vs) (acc ++ [r.1]) else none
    else compL vs t ft fe ds (wipeE p.2 vs) acc
def compD (vs : List Nat) (fi : DI) (t : DG) (ft : DT) (fe : DE) : DE := fun env => (fi env).bind fun r => (compL vs t ft fe r.items (wipeE r.env vs) []).bind fun q => (backs r.sl (wipeE q.2 vs)).bind fun e => some (.t (.lst true q.1), e)
theorem _root_.L2.PTs.of {ifs : List Expr} {t t' : TT} (h : PTs X ifs t) (k : ∀ σ H Q, t' σ H Q → t σ H Q) : PTs X ifs t' := ⟨fun pins s σ H Q I q => h.run pins s σ H Q I (k _ _ _ q)⟩
theorem ptsd_nil : PTs X [] (tDT X.K yesT) := pts_nil.of fun σ H Q ⟨env, L, b, env', R, e, k⟩ => by
  cases e
  exact k H R
theorem ptsd_one {c : Expr} (h : PT X c (tDT X.K ft)) : PTs X [c] (tDT X.K ft) := pts_one h
theorem zipE_snoc : ∀ {xs : List V} {ds : List D} {x : V} {d : D}, xs.length = ds.length → (zipE (xs ++ [x]) (ds ++ [d])) = zipE xs ds ++ [.v x d]
  | [], [], x, d, _ => rfl
  | [], _ :: _, _, _, l => by simp at l
  | _ :: _, [], _, _, l => by simp at l
  | a :: xs, b :: ds, x, d, l => by
    show Ent.v a b :: zipE (xs ++ [x]) (ds ++ [d]) = Ent.v a b :: (zipE xs ds ++ [.v x d])
    rw [zipE_snoc (by simpa using l)]
theorem lc_of {vs : List Nat} {Q : VK} (hv : (vs.all fun i => !pn.contains i) = true) (hts : (ts.all fun i => vs.contains i) = true) (h : tD K (compD vs fi t ft fe) σ H Q) : tLc (tDI K pn fi) (tDG K ts t) (tDT K ft) (tD K fe) vs σ H Q := by
  obtain ⟨env, L, av, env', R, e, k⟩ := h
  obtain ⟨r, h1, e⟩ := bs e
  obtain ⟨⟨fin, eF⟩, h2, e⟩ := bs e
  obtain ⟨e6, h3, e⟩ := bs e
  cases e
  refine ⟨env, L, r, R, h1, fun J Lp H1 it bk R1 P hP => ?_⟩
  have q0 : Sk K (upd H1 P (.lst [])) (wipe σ vs) (wipeE r.env vs) (.cell P false [] :: (Lp ++ L)) :=
    sk_unwipe (σ := σ) (RS.lift (M := []) (M' := [.cell P false []]) R1 fun L' z => Rep.new (t := false) z hP) rfl
  refine ⟨fun i m H' => ∃ env' acc ys, Sk K H' (wipe σ vs) env' (.cell P false ys :: (zipE ys acc ++ (Lp ++ L))) ∧ ys.length = acc.length ∧ (∀ j, j ∈ vs → env'[j]? = some none ∨ env'[j]? = none) ∧ i ≤ r.items.length ∧ m = r.items.length - i ∧ compL vs t ft fe (r.items.drop i) env' acc = some (fin, eF),
    ⟨r.items.length, wipeE r.env vs, [], [], q0, rfl, fun j hj => wipeE_get vs hj, Nat.zero_le _, rfl, h2⟩, ?_⟩
  rintro i m H2 ⟨e1, acc, ys, R2, l2, hw, hi, rfl, w⟩
  obtain ⟨E, s, r2⟩ := id R2
  have r3 : Rk K H2 (Lp ++ (E ++ (.cell P false ys :: (zipE ys acc ++ L)))) := r2.perm (pc fun z => by simp only [List.count_append, List.count_cons]; omega)
  obtain ⟨go, stop⟩ := it i H2 _ r3
  by_cases hl : i < r.items.length
  · obtain ⟨g1, y1⟩ := go hl
    have hd : r.items.drop i = r.items[i] :: r.items.drop (i + 1) := List.drop_eq_getElem_cons hl
    rw [hd, compL] at w
    obtain ⟨e3, w1, w⟩ := bs w
    obtain ⟨⟨b4, e4⟩, w2, w⟩ := bs w
    refine .inr ⟨g1, fun H' => ∃ env' acc ys, Sk K H' (wipe σ vs) env' (.cell P false ys :: (zipE ys acc ++ (Lp ++ L))) ∧ ys.length = acc.length ∧ (∀ j, j ∈ vs → env'[j]? = some none ∨ env'[j]? = none) ∧ compL vs t ft fe (r.items.drop (i + 1)) env' acc = some (fin, eF),
      fun H' ⟨e4, a4, y4, q1, q2, q3, q4⟩ => ⟨_, by omega, e4, a4, y4, q1, q2, q3, hl, rfl, q4⟩, fun x H3 y3 => ?_⟩
    obtain ⟨d, hdd, r4⟩ := y1 x H3 y3
    rw [List.getElem?_eq_getElem hl] at hdd
    cases hdd
    have R3 : Sk K H3 (wipe σ vs) e1 (.v x r.items[i] :: (.cell P false ys :: (zipE ys acc ++ (Lp ++ L)))) := ⟨E, s, r4.perm (pc fun z => by simp only [List.count_append, List.count_cons]; omega)⟩
    refine ⟨e1, _, _, e3, R3, w1, fun σ4 H4 R4 t4 => ?_⟩
    have hw4 : wipe σ4 vs = wipe σ vs := wipe_tg t4 hts
    refine ⟨hw4, e3, _, b4, e4, R4, w2, fun H5 R5 => ?_⟩
    dsimp only at w
    split at w
    · rename_i hb
      rw [if_pos hb]
      obtain ⟨⟨av6, e6⟩, w3, w⟩ := bs w
      obtain ⟨⟨d7, e7⟩, w4, w⟩ := bs w
      dsimp only at w
      split at w
      · rename_i hlen
        refine ⟨e4, _, av6, e6, R5, w3, fun y H6 R6 s6 => ?_⟩
        have R7 := toT_ok R6 s6 w4
        obtain ⟨E7, s7, r7⟩ := id R7
        have c7 : Rk K H6 (.cell P false ys :: (E7 ++ (.v y d7 :: (zipE ys acc ++ (Lp ++ L))))) := r7.perm (pc fun z => by simp only [List.count_append, List.count_cons]; omega)
        refine ⟨ys, c7.cellAt, Nat.lt_of_lt_of_le (show ys.length < 10000 by rw [l2]; exact hlen) (szl (Nat.le_refl _)), ?_⟩
        have c8 := c7.set (t' := false) (ys := ys ++ [y])
        have R8 : Sk K (upd H6 P (.lst (ys ++ [y]))) σ4 e7 (.cell P false (ys ++ [y]) :: (zipE (ys ++ [y]) (acc ++ [d7]) ++ (Lp ++ L))) := by
          refine ⟨E7, s7, c8.perm (pc fun z => ?_)⟩
          rw [zipE_snoc l2]
          simp only [List.count_append, List.count_cons, List.count_nil]
          omega
        exact ⟨wipeE e7 vs, acc ++ [d7], ys ++ [y], sk_unwipe R8 hw4, by simp [l2], fun j hj => wipeE_get vs hj, w⟩
      · cases w
    · rename_i hb
      rw [if_neg hb]
      exact ⟨wipeE e4 vs, acc, ys, sk_unwipe R5 hw4, l2, fun j hj => wipeE_get vs hj, w⟩
  · have hl2 : r.items.length ≤ i := by omega
    refine .inl ⟨stop hl2, ?_⟩
    rw [List.drop_eq_nil_of_le hl2, compL] at w
    injection w with w
    injection w with w1 w2
    refine k _ H2 ?_ trivial
    have R5 : Sk K H2 σ (wipeE e1 vs) (.cell P false ys :: (zipE ys acc ++ (Lp ++ L))) := sk_wipeE (sk_outer R2 hw) vs
    have R6 : Sk K H2 σ (wipeE e1 vs) (Lp ++ (.v (.ref P) (.lst true acc) :: L)) := by
      have z := RS.lift (M := .cell P false ys :: zipE ys acc) (M' := [.v (.ref P) (.lst true acc)]) (L := Lp ++ L) R5 fun L' q => Rep.close (t := false) (o := true) q l2 (fun z => by cases z)
      exact z.perm (pc fun z => by simp only [List.count_append, List.count_cons, List.count_nil]; omega)
    rw [w1, w2] at R6
    exact bk H2 σ _ _ _ R6 (Pn.refl σ) h3
theorem pd_lc {elt tg iter : Expr} {ifs : List Expr} {scope : Scope} {own : List (Str × Nat)} {pos : Pos} (hc : X.calm = true) (hN : X.N.Nodup) (hi : PI X tg iter (tDI X.K pn fi)) (ok : BlkOk X.N X.env.scope scope own)
    (hg : ∀ (s : Shared) (H : Hp) (C : Addr) (cl : List (Str × Addr)) (fp : List Addr), PG (X.blk s H scope (compEnvC scope cl C X.env) fp) tg (tDG X.K ts t)) (ht : ∀ (s : Shared) (H : Hp) (C : Addr) (cl : List (Str × Addr)) (fp : List Addr), PTs (X.blk s H scope (compEnvC scope cl C X.env) fp) ifs (tDT X.K ft))
    (he : ∀ (s : Shared) (H : Hp) (C : Addr) (cl : List (Str × Addr)) (fp : List Addr), PE (X.blk s H scope (compEnvC scope cl C X.env) fp) elt (tD X.K fe)) (hs : ∀ x, foldedSetIterable iter X.env x = pure x := by intro _; rfl)
    (hv : ((own.map (·.2)).all fun i => !pn.contains i) = true := by rfl) (hts : (ts.all fun i => (own.map (·.2)).contains i) = true := by rfl) :
    PE X (.ListComp elt [⟨tg, iter, ifs, 0⟩] scope pos) (tD X.K (compD (own.map (·.2)) fi t ft fe)) :=
  (pe_lc hc hN hi ok hg ht he hs).of fun σ H Q h => lc_of hv hts h
/-- name = [..] -/
theorem sd_setLc {i : Nat} {y : Str} {py : Pos} {elt tg iter : Expr} {ifs : List Expr} {scope : Scope} {own : List (Str × Nat)} {pos spos : Pos} (hc : X.calm = true) (hN : X.N.Nodup) (hy : X.N[i]? = some y) (hyl : X.env.scope.names.lookup y = some .local)
    (hsw : swapsWith (.ListComp elt [⟨tg, iter, ifs, 0⟩] scope pos) (some (.Name y py)) spos.line X.env = pure true) (hi : PI X tg iter (tDI X.K pn fi)) (ok : BlkOk X.N X.env.scope scope own)
    (hg : ∀ (s : Shared) (H : Hp) (C : Addr) (cl : List (Str × Addr)) (fp : List Addr), PG (X.blk s H scope (compEnvC scope cl C X.env) fp) tg (tDG X.K ts t)) (ht : ∀ (s : Shared) (H : Hp) (C : Addr) (cl : List (Str × Addr)) (fp : List Addr), PTs (X.blk s H scope (compEnvC scope cl C X.env) fp) ifs (tDT X.K ft))
    (he : ∀ (s : Shared) (H : Hp) (C : Addr) (cl : List (Str × Addr)) (fp : List Addr), PE (X.blk s H scope (compEnvC scope cl C X.env) fp) elt (tD X.K fe)) (hs : ∀ x, foldedSetIterable iter X.env x = pure x := by intro _; rfl)
    (hv : ((own.map (·.2)).all fun i => !pn.contains i) = true := by rfl) (hts : (ts.all fun i => (own.map (·.2)).contains i) = true := by rfl) (hp : pn.contains i = false := by rfl) :
    PS X (.Assign [.Name y py] (.ListComp elt [⟨tg, iter, ifs, 0⟩] scope pos) spos) (tDS X.K pn (setS i (compD (own.map (·.2)) fi t ft fe))) :=
  (ps_setLc hc hN hy hyl hsw hi ok hg ht he hs).of fun D0 σ H ⟨env, L, out, R, e, k⟩ => by
    obtain ⟨⟨av, e1⟩, h1, e⟩ := bs e
    obtain ⟨⟨d, e2⟩, h2, e⟩ := bs e
    obtain ⟨e3, h3, e⟩ := bs e
    cases e
    refine lc_of hv hts ⟨env, L, av, e1, R, h1, fun x H1 R1 s1 => ?_⟩
    have R2 := toT_ok R1 s1 h2
    unfold nameG at h3
    split at h3
    · rename_i hi2
      cases h3
      refine k _ H1 (R2.store hi2) (Pn.set fun z => ?_)
      rw [List.contains_iff_mem.mpr z] at hp
      cases hp
    · cases h3
end
end Dx

set_option Elab.async false
set_option linter.all false
set_option maxRecDepth 100000
set_option maxHeartbeats 4000000
namespace Dx
open PySem PySem.Spec PyProof.Rows L2 Own
open PySem.W (Frag)
section
variable {X : Cx} {K : Frag} {H H' : Hp} {σ σ' : L2.St} {L Lp M : List Ent} {pn ts : List Nat} {env env' e2 : Env} {x y : V} {d : D} {f fb fk : DE} {ft fa : DA} {g : DS}
/-! ### lists of one's own, changed -/
/-- the list in slot i -/
def ownL (i : Nat) (env : Env) : Option (List D) := match env[i]? with
  | some (some (.lst true ds)) => some ds
  | _ => none
theorem ownL_of {i : Nat} {ds : List D} (h : ownL i env = some ds) : env[i]? = some (some (.lst true ds)) := by
  unfold ownL at h
  split at h
  · rename_i e
    cases h
    exact e
  · cases h
/-- opened: the cell and its items -/
theorem sk_own {i : Nat} {ds : List D} (R : Sk K H σ env L) (h : ownL i env = some ds) : ∃ a xs, σ[i]? = some (some (.ref a)) ∧ H a = some (.lst xs) ∧ xs.length = ds.length ∧ Sk K H σ (env.set i none) (.cell a false xs :: (zipE xs ds ++ L)) := by
  have e := ownL_of h
  obtain ⟨x, hx, r⟩ := R.take e
  obtain ⟨E, s, r⟩ := r
  have r1 : Rk K H (.v x (D.seq false true ds) :: (E ++ L)) := r.perm List.perm_middle
  obtain ⟨a, xs, rfl, ha, l, _, r2⟩ := r1.open_
  exact ⟨a, xs, hx, ha, l, E, s, r2.perm (pc fun z => by simp only [hd, if_pos, List.count_append, List.count_cons]; omega)⟩
theorem sk_shut {i : Nat} {a : Addr} {xs : List V} {ds : List D} (R : Sk K H σ (env.set i none) (.cell a false xs :: (zipE xs ds ++ L))) (hi : env[i]? ≠ none) (hx : σ[i]? = some (some (.ref a))) (l : xs.length = ds.length) : Sk K H σ (env.set i (some (.lst true ds))) L := by
  have z : Sk K H σ (env.set i none) (.v (.ref a) (.lst true ds) :: L) := RS.lift (M := .cell a false xs :: zipE xs ds) (M' := [.v (.ref a) (.lst true ds)]) R fun L' q => Rep.close (t := false) (o := true) q l (fun z => by cases z)
  have hi2 : i < env.length := by
    cases q : env[i]? with
    | none => exact absurd q hi
    | some _ => exact (List.getElem?_eq_some_iff.mp q).1
  have w := z.back (i := i) (by rw [List.getElem?_set_self hi2]) hx
  rw [List.set_set] at w
  exact w
theorem sk_set {a : Addr} {xs ys : List V} (R : Sk K H σ env (.cell a false xs :: L)) : Sk K (upd H a (.lst ys)) σ env (.cell a false ys :: L) :=
  RS.lift (M := [.cell a false xs]) (M' := [.cell a false ys]) R fun L' q => Rep.set (t' := false) q
def appD (i : Nat) (f : DE) : DE := fun env => (ownL i env).bind fun _ => (f env).bind fun p => (toT p.1 p.2).bind fun q => (ownL i q.2).bind fun ds => if ds.length < LMAX then some (.t .non, q.2.set i (some (.lst true (ds ++ [q.1])))) else none
theorem tyl {a : Addr} {xs : List V} (h : H a = some (.lst xs)) : tyV K "list" (.ref a) H := .inl ⟨rfl, _, .inl (.inl h)⟩
theorem own_get {i : Nat} {ds : List D} (R : Sk K H σ env L) (h : ownL i env = some ds) : ∃ a xs, σ[i]? = some (some (.ref a)) ∧ H a = some (.lst xs) := by
  obtain ⟨a, xs, h1, h2, _⟩ := sk_own R h
  exact ⟨a, xs, h1, h2⟩
theorem pd_append {i : Nat} {x : Str} {e : Expr} {p pos apos : Pos} (hN : X.N[i]? = some x) (hv : Vis X.env.scope x) (he : PE X (.Call (.Attribute (.Name x p) "append" apos) [e] [] pos) (tBM X.K "list" rAppend (tVar i) (tDA X.K (consA f nilA)))) :
    PE X (.Call (.Attribute (.Name x p) "append" apos) [e] [] pos) (tD X.K (appD i f)) :=
  he.of fun σ H Q ⟨env, L, av, env', R, e, k⟩ => by
    obtain ⟨ds0, h0, e⟩ := bs e
    obtain ⟨⟨a1, e1⟩, h1, e⟩ := bs e
    obtain ⟨⟨d, e2⟩, h2, e⟩ := bs e
    obtain ⟨ds, h3, e⟩ := bs e
    dsimp only at e
    split at e
    · rename_i hl
      cases e
      obtain ⟨a, xs0, hx, ha⟩ := own_get R h0
      refine ⟨.ref a, hx, tyl ha, env, L, [a1], e1, R, by simp only [consA, nilA, h1, Option.bind_some], fun vs H1 R1 s1 => ?_⟩
      obtain ⟨y, ys, rfl, s1, s2⟩ := s1
      cases (show ys = [] from s2)
      have R2 := toT_ok (show Sk X.K H1 σ e1 (avE a1 y ++ L) from R1) s1 h2
      obtain ⟨a', xs, hx', ha', l, R3⟩ := sk_own R2 h3
      rw [hx] at hx'
      cases hx'
      refine ⟨a, xs, y, rfl, rfl, ha', Nat.lt_of_lt_of_le (show xs.length < 10000 by rw [l]; exact hl) (szl (Nat.le_refl _)), ?_⟩
      have R4 := sk_set (ys := xs ++ [y]) R3
      have R5 : Sk X.K (upd H1 a (.lst (xs ++ [y]))) σ (e2.set i none) (.cell a false (xs ++ [y]) :: (zipE (xs ++ [y]) (ds ++ [d]) ++ L)) := by
        refine R4.perm (pc fun z => ?_)
        rw [zipE_snoc l]
        simp only [List.count_append, List.count_cons, List.count_nil]
        omega
      have R6 := sk_shut R5 (by rw [ownL_of h3]; simp) hx (by simp [l])
      exact k .non _ (RS.lift (M := []) (M' := [.v .non .non]) R6 fun L' z => z.non) trivial
    · cases e
/-- x.append(e), as a statement's expression -/
theorem sd_append {i : Nat} {x : Str} {e : Expr} {p pos apos epos : Pos} (he : PE X (.Call (.Attribute (.Name x p) "append" apos) [e] [] pos) (tD X.K (appD i f))) (hs : swapsWith (.Call (.Attribute (.Name x p) "append" apos) [e] [] pos) none epos.line X.env = pure false := by rfl) :
    PS X (.Expr (.Call (.Attribute (.Name x p) "append" apos) [e] [] pos) epos) (tDS X.K pn (exprS (appD i f))) := sd_expr he hs
def extD (i : Nat) (f : DE) : DE := fun env => (ownL i env).bind fun _ => (f env).bind fun p => (takeK p.1 p.2).bind fun q => (isL q.1).bind fun es => (ownL i q.2).bind fun ds => if ds.length + es.length ≤ LMAX then some (.t .non, backK p.1 q.1 (q.2.set i (some (.lst true (ds ++ es))))) else none
theorem back1' {i : Nat} {e1 e2 : Env} {ds : List D} {u : Option D} (av : AV) (s : avS σ av x) (h : takeK av e1 = some (d, e2)) (h3 : ownL i e2 = some ds) (R : Sk K H σ (e2.set i u) (.v x d :: L)) : Sk K H σ (backK av d (e2.set i u)) L := by
  refine backK_ok R s fun j z => ?_
  subst z
  simp only [takeK] at h
  split at h
  · rename_i d0 ed
    cases h
    have q := ownL_of h3
    have n : i ≠ j := by
      rintro rfl
      rw [set_some ed] at q
      cases q
    rw [List.getElem?_set_ne n]
    exact set_some ed _
  · cases h
theorem zipE_app : ∀ (xs ys : List V) (a b : List D), xs.length = a.length → zipE (xs ++ ys) (a ++ b) = zipE xs a ++ zipE ys b
  | [], ys, [], b, _ => rfl
  | [], _, _ :: _, _, l => by simp at l
  | _ :: _, _, [], _, l => by simp at l
  | x :: xs, ys, d :: a, b, l => by
    show Ent.v x d :: zipE (xs ++ ys) (a ++ b) = Ent.v x d :: (zipE xs a ++ zipE ys b)
    rw [zipE_app xs ys a b (by simpa using l)]
theorem pd_extend {i : Nat} {x : Str} {e : Expr} {p pos apos : Pos} (he : PE X (.Call (.Attribute (.Name x p) "extend" apos) [e] [] pos) (tBM X.K "list" rExtend (tVar i) (tDA X.K (consA f nilA)))) :
    PE X (.Call (.Attribute (.Name x p) "extend" apos) [e] [] pos) (tD X.K (extD i f)) :=
  he.of fun σ H Q ⟨env, L, av, env', R, e, k⟩ => by
    obtain ⟨ds0, h0, e⟩ := bs e
    obtain ⟨⟨a1, e1⟩, h1, e⟩ := bs e
    obtain ⟨⟨d, e2⟩, h2, e⟩ := bs e
    obtain ⟨es, h4, e⟩ := bs e
    obtain ⟨ds, h3, e⟩ := bs e
    dsimp only at e
    split at e
    · rename_i hl
      cases e
      obtain ⟨a, xs0, hx, ha⟩ := own_get R h0
      refine ⟨.ref a, hx, tyl ha, env, L, [a1], e1, R, by simp only [consA, nilA, h1, Option.bind_some], fun vs H1 R1 s1 => ?_⟩
      obtain ⟨y, ys, rfl, s1, s2⟩ := s1
      cases (show ys = [] from s2)
      have hd : ∃ o, d = .lst o es := by
        cases d <;> simp only [isL, reduceCtorEq] at h4
        cases h4
        exact ⟨_, rfl⟩
      obtain ⟨o, rfl⟩ := hd
      obtain ⟨R2, f2⟩ := takeK_ok (show Sk X.K H1 σ e1 (avE a1 y ++ L) from R1) s1 h2
      obtain ⟨E, s, r⟩ := id R2
      have r1 : Rk X.K H1 (.v y (.lst o es) :: (E ++ L)) := r.perm List.perm_middle
      obtain ⟨b, zs, rfl, hb, lz, r2⟩ := rk_items (t := false) (o := o) r1 (kf_seq (t := false) f2)
      have R2' : Sk X.K H1 σ e2 (zipE zs es ++ (.v (.ref b) (.lst o es) :: L)) := ⟨E, s, r2.perm (pc fun z => by simp only [List.count_append, List.count_cons, D.seq, Bool.false_eq_true, if_false]; omega)⟩
      obtain ⟨a', xs, hx', ha', l, R3⟩ := sk_own R2' h3
      rw [hx] at hx'
      cases hx'
      refine ⟨a, b, xs, zs, rfl, rfl, ha', hb, szl (by rw [l, lz]; exact hl), ?_⟩
      have R4 := sk_set (ys := xs ++ zs) R3
      have R5 : Sk X.K (upd H1 a (.lst (xs ++ zs))) σ (e2.set i none) (.cell a false (xs ++ zs) :: (zipE (xs ++ zs) (ds ++ es) ++ (.v (.ref b) (.lst o es) :: L))) := by
        refine R4.perm (pc fun z => ?_)
        rw [zipE_app _ _ _ _ l]
        simp only [List.count_append, List.count_cons, List.count_nil]
        omega
      have R6 := sk_shut R5 (by rw [ownL_of h3]; simp) hx (by simp [l, lz])
      have R7 := back1' a1 s1 h2 h3 R6
      exact k .non _ (RS.lift (M := []) (M' := [.v .non .non]) R7 fun L' z => z.non) trivial
    · cases e
/-- x.pop() -/
def popD (i : Nat) : DE := fun env => (ownL i env).bind fun ds => match ds[ds.length - 1]? with
  | some d => some (.t d, env.set i (some (.lst true ds.dropLast)))
  | none => none
theorem zipE_last {xs : List V} {ds : List D} {y : V} {d : D} (l : xs.length = ds.length) (h : xs[xs.length - 1]? = some y) (h' : ds[ds.length - 1]? = some d) : zipE xs ds = zipE xs.dropLast ds.dropLast ++ [.v y d] := by
  have n1 : xs ≠ [] := by rintro rfl; simp at h
  have n2 : ds ≠ [] := by rintro rfl; simp at h'
  have e1 : xs.getLast n1 = y := by
    rw [List.getLast_eq_getElem]
    exact (List.getElem?_eq_some_iff.mp h).2
  have e2 : ds.getLast n2 = d := by
    rw [List.getLast_eq_getElem]
    exact (List.getElem?_eq_some_iff.mp h').2
  have w1 := List.dropLast_concat_getLast n1
  have w2 := List.dropLast_concat_getLast n2
  rw [e1] at w1
  rw [e2] at w2
  have := zipE_snoc (xs := xs.dropLast) (ds := ds.dropLast) (x := y) (d := d) (by simp [l])
  rw [w1, w2] at this
  exact this
theorem pd_pop {i : Nat} {x : Str} {p pos apos : Pos} (he : PE X (.Call (.Attribute (.Name x p) "pop" apos) [] [] pos) (tBM0 X.K "list" rPop (tVar i))) :
    PE X (.Call (.Attribute (.Name x p) "pop" apos) [] [] pos) (tD X.K (popD i)) :=
  he.of fun σ H Q ⟨env, L, av, env', R, e, k⟩ => by
    obtain ⟨ds, h0, e⟩ := bs e
    split at e
    · rename_i d hd
      cases e
      obtain ⟨a, xs, hx, ha, l, R1⟩ := sk_own R h0
      have hlt : xs.length - 1 < xs.length := by
        have := (List.getElem?_eq_some_iff.mp hd).1
        omega
      have hy : xs[xs.length - 1]? = some xs[xs.length - 1] := List.getElem?_eq_getElem hlt
      refine ⟨.ref a, hx, tyl ha, a, xs, _, rfl, rfl, ha, hy, ?_⟩
      have R2 := sk_set (ys := xs.dropLast) R1
      have R3 : Sk X.K (upd H a (.lst xs.dropLast)) σ (env.set i none) (.cell a false xs.dropLast :: (zipE xs.dropLast ds.dropLast ++ (.v (xs[xs.length - 1]) d :: L))) := by
        refine R2.perm (pc fun z => ?_)
        rw [zipE_last l hy hd]
        simp only [List.count_append, List.count_cons, List.count_nil]
        omega
      exact k _ _ (sk_shut R3 (by rw [ownL_of h0]; simp) hx (by simp [l])) trivial
    · cases e
/-- x.pop(e) -/
def popAtD (i : Nat) (f : DE) : DE := fun env => (ownL i env).bind fun _ => (f env).bind fun p => (toF p.1 p.2).bind fun q => (intOf q.1).bind fun n => (ownL i q.2).bind fun ds => if 0 ≤ n ∧ n < 2 ^ 62 then (ds[n.toNat]?).bind fun d => some (.t d, q.2.set i (some (.lst true (ds.eraseIdx n.toNat)))) else none
theorem pd_popAt {i : Nat} {x : Str} {e : Expr} {p pos apos : Pos} (he : PE X (.Call (.Attribute (.Name x p) "pop" apos) [e] [] pos) (tBM X.K "list" rPopAt (tVar i) (tDA X.K (consA f nilA)))) :
    PE X (.Call (.Attribute (.Name x p) "pop" apos) [e] [] pos) (tD X.K (popAtD i f)) :=
  he.of fun σ H Q ⟨env, L, av, env', R, e, k⟩ => by
    obtain ⟨ds0, h0, e⟩ := bs e
    obtain ⟨⟨a1, e1⟩, h1, e⟩ := bs e
    obtain ⟨⟨d1, e2⟩, h2, e⟩ := bs e
    obtain ⟨n, h4, e⟩ := bs e
    obtain ⟨ds, h3, e⟩ := bs e
    dsimp only at e
    split at e
    · rename_i hn
      obtain ⟨d, h5, e⟩ := bs e
      cases e
      obtain ⟨a, xs0, hx, ha⟩ := own_get R h0
      refine ⟨.ref a, hx, tyl ha, env, L, [a1], e1, R, by simp only [consA, nilA, h1, Option.bind_some], fun vs H1 R1 s1 => ?_⟩
      obtain ⟨y, ys, rfl, s1, s2⟩ := s1
      cases (show ys = [] from s2)
      obtain ⟨R2, _⟩ := toF_ok (show Sk X.K H1 σ e1 (avE a1 y ++ L) from R1) s1 h2
      have hd : d1 = .int n := by
        cases d1 <;> simp only [intOf, reduceCtorEq] at h4
        cases h4
        rfl
      subst hd
      obtain ⟨rfl, R3⟩ := int_out (show Sk X.K H1 σ e2 (avE (.t (.int n)) y ++ L) from R2)
      obtain ⟨a', xs, hx', ha', l, R4⟩ := sk_own R3 h3
      rw [hx] at hx'
      cases hx'
      obtain ⟨z, hz, pz, _⟩ := zipE_split l h5
      have hlt := (List.getElem?_eq_some_iff.mp hz).1
      refine ⟨a, xs, n, n.toNat, z, rfl, rfl, ha', by omega, by omega, ?_, hz, ?_⟩
      · have : ixN xs.length n = some n.toNat := by
          unfold ixN
          rw [if_pos hn.1, if_pos (by omega)]
        exact (ixN_seq this).1
      have R5 := sk_set (ys := xs.eraseIdx n.toNat) R4
      have R6 : Sk X.K (upd H1 a (.lst (xs.eraseIdx n.toNat))) σ (e2.set i none) (.cell a false (xs.eraseIdx n.toNat) :: (zipE (xs.eraseIdx n.toNat) (ds.eraseIdx n.toNat) ++ (.v z d :: L))) := by
        refine R5.perm (pc fun w => ?_)
        have q := cp pz w
        simp only [List.count_append, List.count_cons] at q ⊢
        omega
      exact k _ _ (sk_shut R6 (by rw [ownL_of h3]; simp) hx (by simp [List.length_eraseIdx, l])) trivial
    · cases e
/-- x.insert(e, f) -/
def insD (i : Nat) (f fb : DE) : DE := fun env => (ownL i env).bind fun _ => (f env).bind fun p => (fb p.2).bind fun p' => (toF p.1 p'.2).bind fun q => (intOf q.1).bind fun n => (toT p'.1 q.2).bind fun r => (ownL i r.2).bind fun ds => if 0 ≤ n ∧ n < 2 ^ 62 ∧ ds.length < LMAX then some (.t .non, r.2.set i (some (.lst true (ds.take n.toNat ++ [r.1] ++ ds.drop n.toNat)))) else none
theorem pd_insert {i : Nat} {x : Str} {e e' : Expr} {p pos apos : Pos} (he : PE X (.Call (.Attribute (.Name x p) "insert" apos) [e, e'] [] pos) (tBM X.K "list" (fun x vs H Q => ∃ (l : Addr) (xs : List V) (i : Int) (y : V), x = .ref l ∧ vs = [.int i, y] ∧ H l = some (.lst xs) ∧ xs.length < sizeLine ∧ 0 ≤ i ∧ i < 2 ^ 63 ∧
    Q .non (upd H l (.lst (xs.take i.toNat ++ [y] ++ xs.drop i.toNat)))) (tVar i) (tDA X.K (consA f (consA fb nilA))))) :
    PE X (.Call (.Attribute (.Name x p) "insert" apos) [e, e'] [] pos) (tD X.K (insD i f fb)) :=
  he.of fun σ H Q ⟨env, L, av, env', R, e, k⟩ => by
    obtain ⟨ds0, h0, e⟩ := bs e
    obtain ⟨⟨a1, e1⟩, h1, e⟩ := bs e
    obtain ⟨⟨b1, f1⟩, g1, e⟩ := bs e
    obtain ⟨⟨d1, e2⟩, h2, e⟩ := bs e
    obtain ⟨n, h4, e⟩ := bs e
    obtain ⟨⟨d, e3⟩, h5, e⟩ := bs e
    obtain ⟨ds, h3, e⟩ := bs e
    dsimp only at e g1 h2 h5 h3
    split at e
    · rename_i hn
      cases e
      obtain ⟨a, xs0, hx, ha⟩ := own_get R h0
      refine ⟨.ref a, hx, tyl ha, env, L, [a1, b1], f1, R, by simp only [consA, nilA, h1, g1, Option.bind_some], fun vs H1 R1 s1 => ?_⟩
      obtain ⟨y, ys, rfl, s1, w, zs, rfl, s2, s3⟩ := s1
      cases (show zs = [] from s3)
      have R1' : Sk X.K H1 σ f1 (avE a1 y ++ (avE b1 w ++ L)) := R1.perm (pc fun z => by simp only [avsE, List.count_append, List.count_nil]; omega)
      obtain ⟨R2, _⟩ := toF_ok R1' s1 h2
      have hd : d1 = .int n := by
        cases d1 <;> simp only [intOf, reduceCtorEq] at h4
        cases h4
        rfl
      subst hd
      obtain ⟨rfl, R3⟩ := int_out (show Sk X.K H1 σ e2 (avE (.t (.int n)) y ++ (avE b1 w ++ L)) from R2)
      have R4 := toT_ok R3 s2 h5
      obtain ⟨a', xs, hx', ha', l, R5⟩ := sk_own R4 h3
      rw [hx] at hx'
      cases hx'
      refine ⟨a, xs, n, w, rfl, rfl, ha', Nat.lt_of_lt_of_le (show xs.length < 10000 by rw [l]; exact hn.2.2) (szl (Nat.le_refl _)), hn.1, by omega, ?_⟩
      have R6 := sk_set (ys := xs.take n.toNat ++ [w] ++ xs.drop n.toNat) R5
      have R7 : Sk X.K (upd H1 a (.lst (xs.take n.toNat ++ [w] ++ xs.drop n.toNat))) σ (e3.set i none) (.cell a false (xs.take n.toNat ++ [w] ++ xs.drop n.toNat) :: (zipE (xs.take n.toNat ++ [w] ++ xs.drop n.toNat) (ds.take n.toNat ++ [d] ++ ds.drop n.toNat) ++ L)) := by
        refine R6.perm (pc fun z => ?_)
        have l1 : (xs.take n.toNat).length = (ds.take n.toNat).length := by simp [l]
        rw [zipE_app _ _ _ _ (by simp [l]), zipE_snoc l1]
        have q := zipE_app (xs.take n.toNat) (xs.drop n.toNat) (ds.take n.toNat) (ds.drop n.toNat) l1
        rw [List.take_append_drop, List.take_append_drop] at q
        rw [q]
        simp only [List.count_append, List.count_cons, List.count_nil]
        omega
      have R8 := sk_shut R7 (by rw [ownL_of h3]; simp) hx (by simp [l])
      exact k .non _ (RS.lift (M := []) (M' := [.v .non .non]) R8 fun L' z => z.non) trivial
    · cases e
/-! x[k] = .. -/
def subG (i : Nat) (fk : DE) : DG := fun d env => (ownL i env).bind fun _ => (fk env).bind fun p => (toF p.1 p.2).bind fun q => (intOf q.1).bind fun n => (ownL i q.2).bind fun ds => (ixN ds.length n).bind fun j => some (q.2.set i (some (.lst true (ds.set j d))))
theorem gd_sub {i : Nat} {x : Str} {b : Expr} {p pos : Pos} (h : PG X (.Subscript (.Name x p) b pos) (gSub (tVar i) (tD X.K fk) rSetL)) : PG X (.Subscript (.Name x p) b pos) (tDG X.K [] (subG i fk)) :=
  h.of fun v σ H Q ⟨env, L, d, env', R, e, k⟩ => by
    obtain ⟨ds0, h0, e⟩ := bs e
    obtain ⟨⟨a1, e1⟩, h1, e⟩ := bs e
    obtain ⟨⟨d1, e2⟩, h2, e⟩ := bs e
    obtain ⟨n, h4, e⟩ := bs e
    obtain ⟨ds, h3, e⟩ := bs e
    obtain ⟨j, h5, e⟩ := bs e
    cases e
    obtain ⟨a, xs0, hx, ha⟩ := own_get R h0
    refine ⟨.ref a, hx, env, .v v d :: L, a1, e1, R, h1, fun y H1 R1 s1 => ?_⟩
    obtain ⟨R2, _⟩ := toF_ok R1 s1 h2
    have hd : d1 = .int n := by
      cases d1 <;> simp only [intOf, reduceCtorEq] at h4
      cases h4
      rfl
    subst hd
    obtain ⟨rfl, R3⟩ := int_out (show Sk X.K H1 σ e2 (avE (.t (.int n)) y ++ (.v v d :: L)) from R2)
    obtain ⟨a', xs, hx', ha', l, R4⟩ := sk_own R3 h3
    rw [hx] at hx'
    cases hx'
    refine ⟨a, xs, n, j, rfl, rfl, ha', by rw [l]; exact h5, ?_⟩
    have hj : j < ds.length := (ixN_seq h5).2.1
    obtain ⟨z, hz, pz, pz2⟩ := zipE_split (xs := xs) (ds := ds) (j := j) (d := ds[j]) l (List.getElem?_eq_getElem hj)
    have R5 := sk_set (ys := xs.set j v) R4
    have R6 : Sk X.K (upd H1 a (.lst (xs.set j v))) σ (e2.set i none) (.cell a false (xs.set j v) :: (zipE (xs.set j v) (ds.set j d) ++ (.v z ds[j] :: L))) := by
      refine R5.perm (pc fun w => ?_)
      have q := cp pz w
      obtain ⟨z', hz', pz', _⟩ := zipE_split (xs := xs.set j v) (ds := ds.set j d) (j := j) (d := d) (by simp [l]) (List.getElem?_set_self hj)
      rw [List.getElem?_set_self (by rw [l]; exact hj)] at hz'
      cases hz'
      have q' := cp pz' w
      have er : (xs.set j v).eraseIdx j = xs.eraseIdx j ∧ (ds.set j d).eraseIdx j = ds.eraseIdx j := ⟨by rw [List.eraseIdx_set_eq], by rw [List.eraseIdx_set_eq]⟩
      rw [er.1, er.2] at q'
      simp only [List.count_append, List.count_cons] at q q' ⊢
      omega
    exact k σ _ (sk_shut (R6.perm (pc fun w => by simp only [List.count_append, List.count_cons]) : Sk X.K _ σ (e2.set i none) (.cell a false (xs.set j v) :: (zipE (xs.set j v) (ds.set j d) ++ (.v z ds[j] :: L)))) (by rw [ownL_of h3]; simp) hx (by simp [l])).tail ⟨rfl, fun _ _ => rfl⟩
/-- x op= e, ints -/
def augS (i : Nat) (g : Int → Int → Int) (f : DE) : DS := fun env => match env[i]? with
  | some (some (.int a)) => (f env).bind fun p => match p.1 with
    | .t (.int b) => if i < p.2.length then some (.nx (p.2.set i (some (.int (g a b))))) else none
    | _ => none
  | _ => none
theorem sd_aug {i : Nat} {x : Str} {e : Expr} {op : Operator} {g : Int → Int → Int} {pos' pos : Pos} (he : PS X (.AugAssign (.Name x pos') op e pos) (tAug i (tD X.K f) (ipI g))) (hp : pn.contains i = false := by rfl) : PS X (.AugAssign (.Name x pos') op e pos) (tDS X.K pn (augS i g f)) :=
  he.of fun D0 σ H ⟨env, L, out, R, e, k⟩ => by
    unfold augS at e
    split at e
    · rename_i a ea
      obtain ⟨⟨av, e1⟩, h1, e⟩ := bs e
      dsimp only at e
      split at e
      · rename_i b
        split at e
        · rename_i hi
          cases e
          obtain ⟨z, hz, R1⟩ := R.get ea rfl
          obtain ⟨rfl, _⟩ := int_out (b := a) R1
          refine ⟨_, hz, env, L, _, e1, R, h1, fun y H1 R2 s2 => ?_⟩
          obtain ⟨rfl, R3⟩ := int_out R2
          refine ⟨a, b, rfl, rfl, ?_⟩
          have R4 : Sk X.K H1 σ e1 (.v (.int (g a b)) (.int (g a b)) :: L) := RS.lift (M := []) (M' := [.v _ _]) R3 fun L' z => z.int
          refine k _ H1 (R4.store hi) (Pn.set fun z => ?_)
          rw [List.contains_iff_mem.mpr z] at hp
          cases hp
        · cases e
      · cases e
    · cases e
end
end Dx

set_option Elab.async false
set_option linter.all false
set_option maxRecDepth 100000
set_option maxHeartbeats 4000000
namespace Dx
open PySem PySem.Spec PyProof.Rows L2 Own
open PySem.W (Frag)
/-! ### defs: what a def makes of its arguments; those of fl are handed by reference -/
abbrev FM := List D → Option (D × List (Option D))
def refE : List Bool → List V → List (Option D) → List Ent
  | true :: fl, v :: vs, some p :: ps => .v v p :: refE fl vs ps
  | _ :: fl, _ :: vs, _ :: ps => refE fl vs ps
  | _, _, _ => []
def spF (K : Frag) (n : Nat) (fl : List Bool) (m : FM) : Sp := fun vs H Q _ => ∃ ds L d ps, Rk K H (zipE vs ds ++ L) ∧ vs.length = n ∧ ds.length = n ∧ m ds = some (d, ps) ∧ ∀ v H', Rk K H' (.v v d :: (refE fl vs ps ++ L)) → Q v H'
def runF (n k : Nat) (g : DS) : FM := fun ds => match g (ds.map some ++ List.replicate (k - n) none) with
  | some (.rt d e) => some (d, e.take n)
  | some (.nx e) => some (.non, e.take n)
  | _ => none
def pnOf : List Bool → Nat → List Nat
  | [], _ => []
  | true :: fl, i => i :: pnOf fl (i + 1)
  | false :: fl, i => pnOf fl (i + 1)
theorem pnOf_mem : ∀ (fl : List Bool) (k i : Nat), fl[i]? = some true → k + i ∈ pnOf fl k
  | [], k, i, h => by simp at h
  | b :: fl, k, 0, h => by
    simp at h
    subst h
    exact List.mem_cons_self
  | b :: fl, k, i + 1, h => by
    have := pnOf_mem fl (k + 1) i (by simpa using h)
    rw [show k + 1 + i = k + (i + 1) by omega] at this
    cases b with
    | true => exact List.mem_cons_of_mem _ this
    | false => exact this
theorem sl_start : ∀ (vs : List V) (ds : List D) (k : Nat), vs.length = ds.length → Sl (vs.map some ++ List.replicate k none) (ds.map some ++ List.replicate k none) (zipE vs ds)
  | [], [], k, _ => by
    induction k with
    | zero => exact .nil
    | succ k ih => exact .un ih
  | [], _ :: _, _, l => by simp at l
  | _ :: _, [], _, l => by simp at l
  | v :: vs, d :: ds, k, l => .so (sl_start vs ds k (by simpa using l))
theorem sl_fin {σ : L2.St} {e : Env} {E : List Ent} (h : Sl σ e E) : ∀ (fl : List Bool) (vs : List V) (n : Nat), (∀ i v, fl[i]? = some true → vs[i]? = some v → i < n → σ[i]? = some (some v)) → ∃ M, E.Perm (refE fl vs (e.take n) ++ M) := by
  induction h with
  | nil =>
    intro fl vs n _
    refine ⟨[], ?_⟩
    cases fl with
    | nil => exact .refl _
    | cons b fl =>
      cases vs with
      | nil => cases b <;> exact .refl _
      | cons v vs => cases b <;> (rw [List.take_nil]; exact .refl _)
  | @un x σ e E h ih =>
    intro fl vs n hq
    cases n with
    | zero => exact ⟨E, by rw [List.take_zero]; cases fl with | nil => exact .refl _ | cons b fl => cases vs with | nil => cases b <;> exact .refl _ | cons v vs => cases b <;> exact .refl _⟩
    | succ n =>
      cases fl with
      | nil => exact ⟨E, .refl _⟩
      | cons b fl =>
        cases vs with
        | nil => exact ⟨E, by cases b <;> exact .refl _⟩
        | cons v vs =>
          obtain ⟨M, p⟩ := ih fl vs n fun i w h1 h2 h3 => by
            have := hq (i + 1) w (by simpa using h1) (by simpa using h2) (by omega)
            simpa using this
          refine ⟨M, ?_⟩
          rw [List.take_succ_cons]
          cases b <;> exact p
  | @so x d σ e E h ih =>
    intro fl vs n hq
    cases n with
    | zero => exact ⟨_, by rw [List.take_zero]; cases fl with | nil => exact .refl _ | cons b fl => cases vs with | nil => cases b <;> exact .refl _ | cons v vs => cases b <;> exact .refl _⟩
    | succ n =>
      cases fl with
      | nil => exact ⟨_, .refl _⟩
      | cons b fl =>
        cases vs with
        | nil => exact ⟨_, by cases b <;> exact .refl _⟩
        | cons v vs =>
          obtain ⟨M, p⟩ := ih fl vs n fun i w h1 h2 h3 => by
            have := hq (i + 1) w (by simpa using h1) (by simpa using h2) (by omega)
            simpa using this
          rw [List.take_succ_cons]
          cases b with
          | true =>
            have hx := hq 0 v rfl rfl (by omega)
            have hx' : x = v := by simpa using hx
            subst hx'
            exact ⟨M, p.cons _⟩
          | false => exact ⟨.v x d :: M, (p.cons _).trans List.perm_middle.symm⟩
section
variable {P : Program} {w : World} {K : Frag} {mg : Str → Option Value} {base : Heap}
theorem take_set_len {α : Type} (l : List α) (n : Nat) : (l.take n).length = min n l.length := by simp
theorem fgD {k : Nat} {f : Addr} {name qual : Str} {params : Arguments} {body : List Stmt} {scope : Scope} {dvs : List V} {kws : List (Str × V)} {fd : FuncData} {N ps : List Str} {g : DS} {fl : List Bool}
    (F : FunD K name qual params body scope dvs kws f fd) (S : FnScope N ps scope)
    (hb : ∀ (cdv : Value) (A : Around) (outer : List PySem.Env) (s : Shared) (H : Hp), (A.deeper (envOfC qual scope s.heap.objs.size f cdv)).guards = some [] → Room k (A.deeper (envOfC qual scope s.heap.objs.size f cdv)) → ∀ E : XK,
      PSs (cxOf CX0 P w K mg base N qual scope f cdv A outer s H E).nox body (tDS K (pnOf fl 0) g)) :
    FG P w K mg base CX0 (k + 1) f fd ps (spF K ps.length fl (runF ps.length N.length g)) := by
  refine fg_no F S (fun vs H Q E h => ?_) (fun cdv A outer s H vs Q E gg hr h => ?_)
  · obtain ⟨ds, L, d, p, _, l, _⟩ := h
    exact l
  · obtain ⟨ds, L, d, p, R, l1, l2, e, k⟩ := h
    refine ⟨_, hb cdv A outer s H gg hr E, ?_⟩
    unfold runF at e
    have hl : vs.length = ds.length := l1.trans l2.symm
    have R0 : Sk K H (L2.start N vs) (ds.map some ++ List.replicate (N.length - ps.length) none) L := by
      refine ⟨zipE vs ds, ?_, R⟩
      unfold L2.start
      rw [l1]
      exact sl_start vs ds _ hl
    have fin : ∀ (x : V) (σ' : L2.St) (H' : Hp) (e' : Env) (d' : D), Sk K H' σ' e' (.v x d' :: L) → Pn (pnOf fl 0) (L2.start N vs) σ' → Rk K H' (.v x d' :: (refE fl vs (e'.take ps.length) ++ L)) := by
      intro x σ' H' e' d' ⟨E1, s1, r1⟩ p1
      obtain ⟨M, pm⟩ := sl_fin s1 fl vs ps.length fun i v h1 h2 h3 => by
        have hm := pnOf_mem fl 0 i h1
        rw [Nat.zero_add] at hm
        rw [p1 i hm]
        unfold L2.start
        rw [List.getElem?_append_left (by rw [List.length_map]; exact (List.getElem?_eq_some_iff.mp h2).1), List.getElem?_map, h2]
        rfl
      refine Rep.right (L := M) (r1.perm (pc fun z => ?_))
      have q := cp pm z
      simp only [List.count_append, List.count_cons] at q ⊢
      omega
    split at e
    · rename_i d' e' he
      cases e
      exact ⟨_, L, _, R0, he, fun x σ' H' R' p' => k x H' (fin x σ' H' _ _ R' p')⟩
    · rename_i e' he
      cases e
      refine ⟨_, L, _, R0, he, fun σ' H' R' p' => k .non H' (fin .non σ' H' _ _ ?_ p')⟩
      exact RS.lift (M := []) (M' := [.v .non .non]) R' fun L' z => z.non
    · cases e
end
/-! ### calls of defs -/
def argD (ref : Bool) (av : AV) (env : Env) : Option (D × Env) := if ref then (match av with
    | .t d => some (d, env)
    | .s i => match env[i]? with
      | some (some d) => some (d, env.set i none)
      | _ => none)
  else toF av env
def argsD : List Bool → List AV → Env → Option (List D × Env)
  | b :: fl, a :: as, env => (argD b a env).bind fun p => (argsD fl as p.2).bind fun q => some (p.1 :: q.1, q.2)
  | [], [], env => some ([], env)
  | _, _, _ => none
def backA : List Bool → List AV → List (Option D) → Env → Env
  | true :: fl, .s i :: as, p :: ps, env => (backA fl as ps env).set i p
  | _ :: fl, _ :: as, _ :: ps, env => backA fl as ps env
  | _, _, _, env => env
def callF (fl : List Bool) (m : FM) (fa : DA) : DE := fun env => (fa env).bind fun p => (argsD fl p.1 p.2).bind fun q => (m q.1).bind fun r => some (.t r.1, backA fl p.1 r.2 q.2)
section
variable {X : Cx} {K : Frag} {H H' : Hp} {σ σ' : L2.St} {L Lp M : List Ent} {pn ts : List Nat} {env env' e2 : Env} {x y : V} {d : D} {f fb fk : DE} {ft fa : DA} {g : DS}
theorem argD_ok {b : Bool} {av : AV} (h : Sk K H σ env (avE av x ++ L)) (s : avS σ av x) (e : argD b av env = some (d, env')) : Sk K H σ env' (.v x d :: L) := by
  unfold argD at e
  split at e
  · cases av with
    | t d0 => cases e; exact h
    | s i =>
      dsimp only at e
      split at e
      · rename_i d0 ed
        cases e
        obtain ⟨x', hx, r⟩ := RS.take (show Sk K H σ env L from h) ed
        have s' : σ[i]? = some (some x) := s
        rw [hx] at s'
        cases s'
        exact r
      · cases e
  · exact (toF_ok h s e).1
/-- the slots that were emptied -/
def emptied : List Bool → List AV → List Nat
  | true :: fl, .s i :: as => i :: emptied fl as
  | _ :: fl, _ :: as => emptied fl as
  | _, _ => []
theorem argD_keep {b : Bool} {av : AV} (e : argD b av env = some (d, env')) {i : Nat} (h : env[i]? = some none) : env'[i]? = some none := by
  unfold argD at e
  split at e
  · cases av with
    | t d0 => cases e; exact h
    | s j =>
      dsimp only at e
      split at e
      · rename_i d0 ed
        cases e
        by_cases hij : j = i
        · subst hij; rw [ed] at h; cases h
        · rw [List.getElem?_set_ne hij]; exact h
      · cases e
  · cases av with
    | t d0 => cases e; exact h
    | s j =>
      simp only [toF] at e
      split at e
      · rename_i d0 ed
        cases e
        by_cases hij : j = i
        · subst hij; rw [ed] at h; cases h
        · rw [List.getElem?_set_ne hij]; exact h
      · cases e
theorem argD_here {i : Nat} (e : argD true (.s i) env = some (d, env')) : env'[i]? = some none ∧ env[i]? ≠ some none := by
  unfold argD at e
  rw [if_pos rfl] at e
  dsimp only at e
  split at e
  · rename_i d0 ed
    cases e
    exact ⟨set_some ed _, by rw [ed]; simp⟩
  · cases e
theorem argsD_ok : ∀ {fl : List Bool} {avs : List AV} {xs : List V} {ds : List D} {env env' : Env} {L : List Ent}, Sk K H σ env (avsE avs xs ++ L) → avsS σ avs xs → argsD fl avs env = some (ds, env') →
    Sk K H σ env' (zipE xs ds ++ L) ∧ xs.length = ds.length ∧ fl.length = ds.length ∧ (∀ i : Nat, env[i]? = some none → env'[i]? = some none) ∧ (∀ i ∈ emptied fl avs, env'[i]? = some none ∧ env[i]? ≠ some none) ∧ (emptied fl avs).Nodup
  | [], [], xs, ds, env, env', L, h, s, e => by
    cases e
    cases (show xs = [] from s)
    exact ⟨h, rfl, rfl, fun _ z => z, (fun i z => by cases z), List.nodup_nil⟩
  | [], _ :: _, _, _, _, _, _, _, _, e => by cases e
  | _ :: _, [], _, _, _, _, _, _, _, e => by cases e
  | b :: fl, a :: as, xs, ds, env, env', L, h, s, e => by
    obtain ⟨x, ys, rfl, s1, s2⟩ := s
    obtain ⟨⟨d, e1⟩, h1, e⟩ := bs e
    obtain ⟨⟨ds', e2⟩, h2, e⟩ := bs e
    cases e
    have r : Sk K H σ env (avE a x ++ (avsE as ys ++ L)) := h.perm (by
      show (avsE as ys ++ avE a x ++ L).Perm _
      rw [← List.append_assoc]
      exact List.perm_append_comm.append_right _)
    have r1 := argD_ok r s1 h1
    have r1' : Sk K H σ e1 (avsE as ys ++ (.v x d :: L)) := r1.perm (List.perm_middle).symm
    obtain ⟨r2, l2, l3, k2, m2, n2⟩ := argsD_ok r1' s2 h2
    refine ⟨r2.perm List.perm_middle, by simp [l2], by simp [l3], fun i hi => k2 i (argD_keep h1 hi), ?_, ?_⟩
    · intro i hi
      have rest : i ∈ emptied fl as → e2[i]? = some none ∧ env[i]? ≠ some none := fun z => ⟨(m2 i z).1, fun q => (m2 i z).2 (argD_keep h1 q)⟩
      cases b with
      | false => exact rest hi
      | true =>
        cases a with
        | t d0 => exact rest hi
        | s j =>
          rcases List.mem_cons.mp hi with z | z
          · subst z
            have q := argD_here h1
            exact ⟨k2 i q.1, q.2⟩
          · exact rest z
    · cases b with
      | false => exact n2
      | true =>
        cases a with
        | t d0 => exact n2
        | s j => exact List.nodup_cons.mpr ⟨fun z => (m2 j z).2 (argD_here h1).1, n2⟩
theorem backA_ok : ∀ {fl : List Bool} {avs : List AV} {xs : List V} {ps : List (Option D)} {env : Env} {L : List Ent}, Sk K H σ env (refE fl xs ps ++ L) → avsS σ avs xs →
    (∀ i ∈ emptied fl avs, env[i]? = some none) → (emptied fl avs).Nodup → Sk K H σ (backA fl avs ps env) L ∧ ∀ i, i ∉ emptied fl avs → (backA fl avs ps env)[i]? = env[i]?
  | [], avs, xs, ps, env, L, h, s, em, n => ⟨h, fun _ _ => by cases avs <;> rfl⟩
  | b :: fl, [], xs, ps, env, L, h, s, em, n => by
    cases (show xs = [] from s)
    refine ⟨?_, fun _ _ => by cases b <;> rfl⟩
    cases b <;> exact h
  | b :: fl, a :: as, xs, [], env, L, h, s, em, n => by
    obtain ⟨x, ys, rfl, s1, s2⟩ := s
    refine ⟨?_, fun _ _ => by cases b <;> cases a <;> rfl⟩
    cases b <;> cases a <;> exact h
  | b :: fl, a :: as, xs, p :: ps, env, L, h, s, em, n => by
    obtain ⟨x, ys, rfl, s1, s2⟩ := s
    have plain : ∀ {env : Env} {L : List Ent}, Sk K H σ env (refE fl ys ps ++ L) → (∀ i ∈ emptied fl as, env[i]? = some none) → (emptied fl as).Nodup → Sk K H σ (backA fl as ps env) L ∧ ∀ i, i ∉ emptied fl as → (backA fl as ps env)[i]? = env[i]? :=
      fun h e n => backA_ok h s2 e n
    cases b with
    | false => exact plain h em n
    | true =>
      cases a with
      | t d0 =>
        cases p with
        | none => exact plain h em n
        | some d => exact plain (RS.tail (e := .v x d) h) em n
      | s j =>
        have n' := List.nodup_cons.mp n
        cases p with
        | none =>
          obtain ⟨r1, k1⟩ := plain (env := env) (L := L) h (fun i z => em i (List.mem_cons_of_mem _ z)) n'.2
          refine ⟨r1.clear j, fun i z => ?_⟩
          have hj : j ≠ i := fun q => z (by rw [q]; exact List.mem_cons_self)
          show ((backA fl as ps env).set j none)[i]? = _
          rw [List.getElem?_set_ne hj]
          exact k1 i fun q => z (List.mem_cons_of_mem _ q)
        | some d =>
          have h' : Sk K H σ env (refE fl ys ps ++ (.v x d :: L)) := RS.perm (L := .v x d :: (refE fl ys ps ++ L)) h List.perm_middle.symm
          obtain ⟨r1, k1⟩ := plain h' (fun i z => em i (List.mem_cons_of_mem _ z)) n'.2
          have r2 := r1.back (i := j) (by rw [k1 j n'.1]; exact em j List.mem_cons_self) s1
          refine ⟨r2, fun i z => ?_⟩
          have hj : j ≠ i := fun q => z (by rw [q]; exact List.mem_cons_self)
          show ((backA fl as ps env).set j (some d))[i]? = _
          rw [List.getElem?_set_ne hj]
          exact k1 i fun q => z (List.mem_cons_of_mem _ q)
/-- the callee's promise, from the state behind the arguments -/
theorem call_of {n : Nat} {fl : List Bool} {m : FM} {E : XK} {Q : VK} {avs : List AV} {xs : List V} {ds : List D} {e1 e3 : Env} {r : D × List (Option D)} (hn : fl.length = n) (R : Sk K H σ e1 (avsE avs xs ++ L)) (s : avsS σ avs xs) (h1 : argsD fl avs e1 = some (ds, e3)) (h2 : m ds = some r)
    (k : ∀ v H2, Sk K H2 σ (backA fl avs r.2 e3) (.v v r.1 :: L) → Q v H2) : spF K n fl m xs H Q E := by
  obtain ⟨R3, l, l3, _, em, nd⟩ := argsD_ok R s h1
  obtain ⟨Es, sl, r3⟩ := R3
  refine ⟨ds, Es ++ L, r.1, r.2, r3.perm (pc fun z => by simp only [List.count_append]; omega), by rw [l, ← l3, hn], by rw [← l3, hn], h2, fun v H' r4 => k v H' ?_⟩
  have R4 : Sk K H' σ e3 (refE fl xs r.2 ++ (.v v r.1 :: L)) := ⟨Es, sl, r4.perm (pc fun z => by simp only [List.count_append, List.count_cons]; omega)⟩
  exact (backA_ok R4 s (fun i hi => (em i hi).1) nd).1
theorem tCall_of {n : Nat} {fl : List Bool} {m : FM} {E : XK} (hn : fl.length = n) {Q : VK} (h : tD K (callF fl m fa) σ H Q) : tCall (spF K n fl m) [] E (tDA K fa) σ H Q := by
  obtain ⟨env, L, av, env', R, e, k⟩ := h
  obtain ⟨⟨avs, e1⟩, h1, e⟩ := bs e
  obtain ⟨⟨ds, e3⟩, h3, e⟩ := bs e
  obtain ⟨r, h5, e⟩ := bs e
  cases e
  refine ⟨env, L, avs, e1, R, h1, fun xs H1 R1 s1 => ?_⟩
  show spF K n fl m (xs ++ []) H1 Q E
  rw [List.append_nil]
  exact call_of hn R1 s1 h3 h5 fun v H' R' => k v H' R' trivial
variable {CX : CXT} {k n : Nat} {fdr : Addr} {fd : FuncData} {ps : List Str} {E : XK} {e : Expr} {es : List Expr} {xn : Str} {p pos : Pos} {fl : List Bool} {m : FM}
theorem pd_fn (F : FG X.prog X.w X.K X.mg X.base CX k fdr fd ps (spF X.K n fl m)) (gg : X.A.guards = some []) (hr : Room k X.A) (hg : Gl X xn)
    (hm : X.mg xn = some (.ref fdr)) (hk : PySem.W.keepIn X.K (.ref fdr) = true) (hb : Binds X.K fd ps []) (hx : Passes CX X E)
    (ha : PA X (e :: es) (tDA X.K fa)) (hn : fl.length = n := by rfl) (hdb : (xn == ("__debug__" : Str)) = false := by decide)
    (he : starEach (e :: es) X.env = (false, eval e X.env) :: starEach es X.env := by rfl)
    (hpl : (backTo pos (starEach es X.env)).any (·.1) = false := by rfl) :
    PE X (.Call (.Name xn p) (e :: es) [] pos) (tD X.K (callF fl m fa)) :=
  (pe_fn F gg hr hg hm hk hb .nil hx ha hdb he hpl).of fun σ H Q h => tCall_of hn h
theorem pd_fn0 (F : FG X.prog X.w X.K X.mg X.base CX k fdr fd ps (spF X.K n fl m)) (gg : X.A.guards = some []) (hr : Room k X.A) (hg : Gl X xn)
    (hm : X.mg xn = some (.ref fdr)) (hk : PySem.W.keepIn X.K (.ref fdr) = true) (hb : Binds X.K fd ps []) (hx : Passes CX X E) (hn : fl.length = n := by rfl)
    (hdb : (xn == ("__debug__" : Str)) = false := by decide) : PE X (.Call (.Name xn p) [] [] pos) (tD X.K (callF fl m nilA)) :=
  (pe_fn0 F gg hr hg hm hk hb .nil hx hdb).of fun σ H Q h => by
    have z := tCall_of (E := E) hn h
    obtain ⟨env, L, avs, env', R, e, k⟩ := z
    cases e
    exact k [] H R rfl
end
end Dx

set_option Elab.async false
set_option linter.all false
set_option maxRecDepth 100000
set_option maxHeartbeats 4000000
namespace GQ
open PySem PySem.SeqAt
open AutoSeq1 (wpAny_loadPart')
open MeetsSeq MeetsSeq2 MeetsSeq3 SeqRoads2
section
variable {prog : Program} {w : World} {A : Around} {R : Result → Shared → Prop}
/-- at each turn the two lists are read anew: N items each; the i-th two compare by e i -/
def ListO (prog : Program) (w : World) (A : Around) (E : Value → Shared → Prop) (l b : Addr) (N : Nat) (e : Nat → Bool) (I : Nat → Shared → Prop) : Prop :=
  ∀ i s, I i s → ∃ (items items2 : Array Value) (n n2 : Nat), s.heap.get? l = some { cls := .type "list", data := .seq items n } ∧ s.heap.get? b = some { cls := .type "list", data := .seq items2 n2 } ∧ items.size = N ∧ items2.size = N ∧
    ((∀ j, j < i → e j = true) → ∀ (h1 : i < items.size) (h2 : i < items2.size), wpAny (model prog w) A.in1 (eqBool items[i] items2[i]) (fun r s' => r = e i ∧ I (i + 1) s') E s)
theorem eq_loopO (l b : Addr) (N : Nat) (e : Nat → Bool) (I : Nat → Shared → Prop) (hl : ListO prog w A (fun e s' => R (.error e) s') l b N e I)
    (fin : ∀ s, (∀ j, j < N → e j = true) → I N s → R (.ok (.ret (.bool true))) s) (finF : ∀ i s, i < N → (∀ j, j < i → e j = true) → e i = false → I (i + 1) s → R (.ok (.ret (.bool false))) s) (k : Nat) :
    ∀ i : Nat, N - i = k → i ≤ N → (∀ j, j < i → e j = true) → ∀ s, I i s →
      wpAny (model prog w) A.in1 (Builtin.«list.__eq__.loop» ⟨[.ref l, .ref b, rawInt i, rawInt 2], []⟩) (FinOf prog w A R) (fun e s' => R (.error e) s') s := by
  induction k with
  | zero =>
    intro i hk hi hpre s h
    obtain ⟨items, items2, n, n2, hl1, hb1, hs1, hs2, _⟩ := hl _ _ h
    have hi' : i = N := by omega
    have hR : R (.ok (.ret (.bool true))) s := fin s (hi' ▸ hpre) (hi' ▸ h)
    obtain ⟨hp, g, d, tk, os⟩ := s
    wp_walk using wpAny_loadPart' hl1, wpAny_loadPart' hb1
    have hi1 : items[((i : Nat) : Int).toNat]? = none := by simp; omega
    have hi2 : items2[((i : Nat) : Int).toNat]? = none := by simp; omega
    rw [hi1, hi2]
    wp_walk using wpAny_loadPart' hl1, wpAny_loadPart' hb1
    show R (.ok (.ret (.bool (items.size == items2.size)))) _
    rw [hs1, hs2]
    simpa using hR
  | succ k ih =>
    intro i hk hi hpre s h
    obtain ⟨items, items2, n, n2, hl1, hb1, hs1, hs2, turn⟩ := hl _ _ h
    have hlt : i < items.size := by omega
    have hlt2 : i < items2.size := by omega
    have ht := turn hpre hlt hlt2
    obtain ⟨hp, g, d, tk, os⟩ := s
    wp_walk using wpAny_loadPart' hl1, wpAny_loadPart' hb1
    have hi1 : items[((i : Nat) : Int).toNat]? = some items[i] := by simp [hlt]
    have hi2 : items2[((i : Nat) : Int).toNat]? = some items2[i] := by simp [hlt2]
    have hc : ((i : Int) + 1) = ((i + 1 : Nat) : Int) := by omega
    rw [hi1, hi2]
    refine wpAny_bind (wpAny_mono ht (fun r s2 h2 => ?_) fun _ _ x => x)
    obtain ⟨hr, h2⟩ := h2
    subst hr
    cases he : e i with
    | true =>
      have hrec := ih (i + 1) (by omega) (by omega) (fun j hj => by rcases (by omega : j < i ∨ j = i) with z | z; exact hpre j z; rw [z]; exact he) s2 h2
      obtain ⟨hp2, g2, d2, tk2, os2⟩ := s2
      wp_walk
      rw [hc]
      exact ⟨plainId_quiet plain_eq_loop _, codeAny_builtin entry_eq_loop (by
        rw [Around.under_plainId plain_eq_loop _]
        exact hrec)⟩
    | false =>
      have hF := finF i s2 (by omega) hpre he h2
      obtain ⟨items3, items4, n3, n4, hl3, hb3, hs3, hs4, _⟩ := hl _ _ h2
      obtain ⟨hp2, g2, d2, tk2, os2⟩ := s2
      have hj1 : items3[((i : Nat) : Int).toNat]? = some (items3[i]'(by omega)) := by simp
      have hj2 : items4[((i : Nat) : Int).toNat]? = some (items4[i]'(by omega)) := by simp
      wp_walk using wpAny_loadPart' hl3, wpAny_loadPart' hb3
      rw [hj1, hj2]
      wp_walk
      simpa using hF
theorem ne_loopO (l b : Addr) (N : Nat) (e : Nat → Bool) (I : Nat → Shared → Prop) (hl : ListO prog w A (fun e s' => R (.error e) s') l b N e I)
    (fin : ∀ s, (∀ j, j < N → e j = true) → I N s → R (.ok (.ret (.bool false))) s) (finF : ∀ i s, i < N → (∀ j, j < i → e j = true) → e i = false → I (i + 1) s → R (.ok (.ret (.bool true))) s) (k : Nat) :
    ∀ i : Nat, N - i = k → i ≤ N → (∀ j, j < i → e j = true) → ∀ s, I i s →
      wpAny (model prog w) A.in1 (Builtin.«list.__eq__.loop» ⟨[.ref l, .ref b, rawInt i, rawInt 3], []⟩) (FinOf prog w A R) (fun e s' => R (.error e) s') s := by
  induction k with
  | zero =>
    intro i hk hi hpre s h
    obtain ⟨items, items2, n, n2, hl1, hb1, hs1, hs2, _⟩ := hl _ _ h
    have hi' : i = N := by omega
    have hR : R (.ok (.ret (.bool false))) s := fin s (hi' ▸ hpre) (hi' ▸ h)
    obtain ⟨hp, g, d, tk, os⟩ := s
    wp_walk using wpAny_loadPart' hl1, wpAny_loadPart' hb1
    have hi1 : items[((i : Nat) : Int).toNat]? = none := by simp; omega
    have hi2 : items2[((i : Nat) : Int).toNat]? = none := by simp; omega
    rw [hi1, hi2]
    wp_walk using wpAny_loadPart' hl1, wpAny_loadPart' hb1
    show R (.ok (.ret (.bool (items.size != items2.size)))) _
    rw [hs1, hs2]
    simpa using hR
  | succ k ih =>
    intro i hk hi hpre s h
    obtain ⟨items, items2, n, n2, hl1, hb1, hs1, hs2, turn⟩ := hl _ _ h
    have hlt : i < items.size := by omega
    have hlt2 : i < items2.size := by omega
    have ht := turn hpre hlt hlt2
    obtain ⟨hp, g, d, tk, os⟩ := s
    wp_walk using wpAny_loadPart' hl1, wpAny_loadPart' hb1
    have hi1 : items[((i : Nat) : Int).toNat]? = some items[i] := by simp [hlt]
    have hi2 : items2[((i : Nat) : Int).toNat]? = some items2[i] := by simp [hlt2]
    have hc : ((i : Int) + 1) = ((i + 1 : Nat) : Int) := by omega
    rw [hi1, hi2]
    refine wpAny_bind (wpAny_mono ht (fun r s2 h2 => ?_) fun _ _ x => x)
    obtain ⟨hr, h2⟩ := h2
    subst hr
    cases he : e i with
    | true =>
      have hrec := ih (i + 1) (by omega) (by omega) (fun j hj => by rcases (by omega : j < i ∨ j = i) with z | z; exact hpre j z; rw [z]; exact he) s2 h2
      obtain ⟨hp2, g2, d2, tk2, os2⟩ := s2
      wp_walk
      rw [hc]
      exact ⟨plainId_quiet plain_eq_loop _, codeAny_builtin entry_eq_loop (by
        rw [Around.under_plainId plain_eq_loop _]
        exact hrec)⟩
    | false =>
      have hF := finF i s2 (by omega) hpre he h2
      obtain ⟨items3, items4, n3, n4, hl3, hb3, hs3, hs4, _⟩ := hl _ _ h2
      obtain ⟨hp2, g2, d2, tk2, os2⟩ := s2
      have hj1 : items3[((i : Nat) : Int).toNat]? = some (items3[i]'(by omega)) := by simp
      have hj2 : items4[((i : Nat) : Int).toNat]? = some (items4[i]'(by omega)) := by simp
      wp_walk using wpAny_loadPart' hl3, wpAny_loadPart' hb3
      rw [hj1, hj2]
      wp_walk
      simpa using hF
theorem list_eqO (l b : Addr) (N : Nat) (e : Nat → Bool) (I : Nat → Shared → Prop) (hl : ListO prog w A (fun e s' => R (.error e) s') l b N e I)
    (fin : ∀ s, (∀ j, j < N → e j = true) → I N s → R (.ok (.ret (.bool true))) s) (finF : ∀ i s, i < N → (∀ j, j < i → e j = true) → e i = false → I (i + 1) s → R (.ok (.ret (.bool false))) s) {s : Shared} (h : I 0 s) :
    wpAny (model prog w) A.in1 (Builtin.«list.__eq__» ⟨[.ref l, .ref b], []⟩) (FinOf prog w A R) (fun e s' => R (.error e) s') s := by
  obtain ⟨items, items2, n, n2, hl1, hb1, hs1, hs2, _⟩ := hl _ _ h
  have hrec := eq_loopO (A := A) (R := R) l b N e I hl fin finF _ 0 rfl (Nat.zero_le _) (fun j hj => absurd hj (Nat.not_lt_zero j)) s h
  obtain ⟨hp, g, d, tk, os⟩ := s
  have f3 := AutoSeq1.sub_list_list
  have hne : ¬ (items.size != items2.size) = true := by simp [hs1, hs2]
  wp_walk using wpAny_loadPart' hl1, wpAny_loadPart' hb1
  exact ⟨plainId_quiet plain_eq_loop _, codeAny_builtin entry_eq_loop (by
    rw [Around.under_plainId plain_eq_loop _]
    exact hrec)⟩
theorem list_neO (l b : Addr) (N : Nat) (e : Nat → Bool) (I : Nat → Shared → Prop) (hl : ListO prog w A (fun e s' => R (.error e) s') l b N e I)
    (fin : ∀ s, (∀ j, j < N → e j = true) → I N s → R (.ok (.ret (.bool false))) s) (finF : ∀ i s, i < N → (∀ j, j < i → e j = true) → e i = false → I (i + 1) s → R (.ok (.ret (.bool true))) s) {s : Shared} (h : I 0 s) :
    wpAny (model prog w) A.in1 (Builtin.«list.__ne__» ⟨[.ref l, .ref b], []⟩) (FinOf prog w A R) (fun e s' => R (.error e) s') s := by
  obtain ⟨items, items2, n, n2, hl1, hb1, hs1, hs2, _⟩ := hl _ _ h
  have hrec := ne_loopO (A := A) (R := R) l b N e I hl fin finF _ 0 rfl (Nat.zero_le _) (fun j hj => absurd hj (Nat.not_lt_zero j)) s h
  obtain ⟨hp, g, d, tk, os⟩ := s
  have f3 := AutoSeq1.sub_list_list
  have hne : ¬ (items.size != items2.size) = true := by simp [hs1, hs2]
  wp_walk using wpAny_loadPart' hl1, wpAny_loadPart' hb1
  exact ⟨plainId_quiet plain_eq_loop _, codeAny_builtin entry_eq_loop (by
    rw [Around.under_plainId plain_eq_loop _]
    exact hrec)⟩
theorem tuple_eqO (l b : Addr) (items items2 : Array Value) (n n2 : Nat) (dd dd2 : Option Addr) (sl sl2 : Array (Option Value)) (hsz : items.size = items2.size) (e : Nat → Bool) (I : Nat → Shared → Prop)
    (turn : ∀ i (h1 : i < items.size) (h2 : i < items2.size) s, (∀ j, j < i → e j = true) → I i s → wpAny (model prog w) A.in1 (eqBool items[i] items2[i]) (fun r s' => r = e i ∧ I (i + 1) s') (fun e s' => R (.error e) s') s)
    (fin : ∀ s, (∀ j, j < items.size → e j = true) → I items.size s → R (.ok (.ret (.bool true))) s) (finF : ∀ i s, i < items.size → (∀ j, j < i → e j = true) → e i = false → I (i + 1) s → R (.ok (.ret (.bool false))) s)
    {s : Shared} (hl1 : s.heap.get? l = some { cls := .type "tuple", dict := dd, data := .seq items n, slots := sl }) (hb1 : s.heap.get? b = some { cls := .type "tuple", dict := dd2, data := .seq items2 n2, slots := sl2 }) (h : I 0 s) :
    wpAny (model prog w) A.in1 (Builtin.«tuple.__eq__» ⟨[.ref l, .ref b], []⟩) (FinOf prog w A R) (fun e s' => R (.error e) s') s := by
  have f2 := AutoSeq1.sub_tuple_tuple
  have hZ : (items.toList.zip items2.toList).length = items.size := by simp [hsz]
  have h0 := h
  obtain ⟨hp, g, d, tk, os⟩ := s
  wp_walk using wpAny_loadPart' hl1, wpAny_loadPart' hb1, wpAny_forIn_list _ (fun rest b s' => b.1 = none ∧ ∃ i, rest = (items.toList.zip items2.toList).drop i ∧ i ≤ items.size ∧ (∀ j, j < i → e j = true) ∧ I i s') _
  case turn =>
    rintro ⟨y, x⟩ rest b s' ⟨hb', i, hz, hi, hpre, hI⟩
    have hlt : i < (items.toList.zip items2.toList).length := by
      rcases Nat.lt_or_ge i (items.toList.zip items2.toList).length with h' | h'
      · exact h'
      · rw [List.drop_of_length_le h'] at hz; cases hz
    have h1 : i < items.size := hZ ▸ hlt
    have h2 : i < items2.size := hsz ▸ h1
    rw [List.drop_eq_getElem_cons hlt] at hz
    injection hz with hyx hrest
    have hy : y = items[i] := by have := congrArg Prod.fst hyx; simpa using this
    have hx : x = items2[i] := by have := congrArg Prod.snd hyx; simpa using this
    subst hy hx
    refine wpAny_bind (wpAny_mono (turn i h1 h2 s' hpre hI) (fun r s2 q2 => ?_) fun _ _ x => x)
    obtain ⟨hr, q2⟩ := q2
    subst hr
    cases he : e i with
    | true =>
      wp_walk
      exact ⟨rfl, i + 1, hrest, h1, (fun j hj => by rcases (by omega : j < i ∨ j = i) with z | z; exact hpre j z; rw [z]; exact he), q2⟩
    | false =>
      have hF := finF i s2 h1 hpre he q2
      wp_walk
      exact hF
  case fin =>
    rintro ⟨b1, b2⟩ s' ⟨hb', i, hz, hi, hpre, hI⟩
    simp only at hb'
    subst hb'
    have hge : items.size ≤ i := by
      rcases Nat.lt_or_ge i (items.toList.zip items2.toList).length with h' | h'
      · rw [List.drop_eq_getElem_cons h'] at hz; cases hz
      · exact hZ ▸ h'
    have hi' : i = items.size := by omega
    have hR : R (.ok (.ret (.bool true))) s' := fin s' (hi' ▸ hpre) (hi' ▸ hI)
    wp_walk
    simpa [Builtin.Tuple.tupleCompareSizes, hsz] using hR
  case h =>
    exact ⟨rfl, 0, rfl, Nat.zero_le _, (fun j hj => absurd hj (Nat.not_lt_zero j)), h0⟩
theorem tuple_neO (l b : Addr) (items items2 : Array Value) (n n2 : Nat) (dd dd2 : Option Addr) (sl sl2 : Array (Option Value)) (hsz : items.size = items2.size) (e : Nat → Bool) (I : Nat → Shared → Prop)
    (turn : ∀ i (h1 : i < items.size) (h2 : i < items2.size) s, (∀ j, j < i → e j = true) → I i s → wpAny (model prog w) A.in1 (eqBool items[i] items2[i]) (fun r s' => r = e i ∧ I (i + 1) s') (fun e s' => R (.error e) s') s)
    (fin : ∀ s, (∀ j, j < items.size → e j = true) → I items.size s → R (.ok (.ret (.bool false))) s) (finF : ∀ i s, i < items.size → (∀ j, j < i → e j = true) → e i = false → I (i + 1) s → R (.ok (.ret (.bool true))) s)
    {s : Shared} (hl1 : s.heap.get? l = some { cls := .type "tuple", dict := dd, data := .seq items n, slots := sl }) (hb1 : s.heap.get? b = some { cls := .type "tuple", dict := dd2, data := .seq items2 n2, slots := sl2 }) (h : I 0 s) :
    wpAny (model prog w) A.in1 (Builtin.«tuple.__ne__» ⟨[.ref l, .ref b], []⟩) (FinOf prog w A R) (fun e s' => R (.error e) s') s := by
  have f2 := AutoSeq1.sub_tuple_tuple
  have hZ : (items.toList.zip items2.toList).length = items.size := by simp [hsz]
  have h0 := h
  obtain ⟨hp, g, d, tk, os⟩ := s
  wp_walk using wpAny_loadPart' hl1, wpAny_loadPart' hb1, wpAny_forIn_list _ (fun rest b s' => b.1 = none ∧ ∃ i, rest = (items.toList.zip items2.toList).drop i ∧ i ≤ items.size ∧ (∀ j, j < i → e j = true) ∧ I i s') _
  case turn =>
    rintro ⟨y, x⟩ rest b s' ⟨hb', i, hz, hi, hpre, hI⟩
    have hlt : i < (items.toList.zip items2.toList).length := by
      rcases Nat.lt_or_ge i (items.toList.zip items2.toList).length with h' | h'
      · exact h'
      · rw [List.drop_of_length_le h'] at hz; cases hz
    have h1 : i < items.size := hZ ▸ hlt
    have h2 : i < items2.size := hsz ▸ h1
    rw [List.drop_eq_getElem_cons hlt] at hz
    injection hz with hyx hrest
    have hy : y = items[i] := by have := congrArg Prod.fst hyx; simpa using this
    have hx : x = items2[i] := by have := congrArg Prod.snd hyx; simpa using this
    subst hy hx
    refine wpAny_bind (wpAny_mono (turn i h1 h2 s' hpre hI) (fun r s2 q2 => ?_) fun _ _ x => x)
    obtain ⟨hr, q2⟩ := q2
    subst hr
    cases he : e i with
    | true =>
      wp_walk
      exact ⟨rfl, i + 1, hrest, h1, (fun j hj => by rcases (by omega : j < i ∨ j = i) with z | z; exact hpre j z; rw [z]; exact he), q2⟩
    | false =>
      have hF := finF i s2 h1 hpre he q2
      wp_walk
      exact hF
  case fin =>
    rintro ⟨b1, b2⟩ s' ⟨hb', i, hz, hi, hpre, hI⟩
    simp only at hb'
    subst hb'
    have hge : items.size ≤ i := by
      rcases Nat.lt_or_ge i (items.toList.zip items2.toList).length with h' | h'
      · rw [List.drop_eq_getElem_cons h'] at hz; cases hz
      · exact hZ ▸ h'
    have hi' : i = items.size := by omega
    have hR : R (.ok (.ret (.bool false))) s' := fin s' (hi' ▸ hpre) (hi' ▸ hI)
    wp_walk
    simpa [Builtin.Tuple.tupleCompareSizes, hsz] using hR
  case h =>
    exact ⟨rfl, 0, rfl, Nat.zero_le _, (fun j hj => absurd hj (Nat.not_lt_zero j)), h0⟩
end
section
variable {prog : Program} {w : World} {A : Around} {E : Value → Shared → Prop} {s : Shared}
theorem rc_listO {l b : Addr} {N : Nat} {e : Nat → Bool} {Q : Value → Shared → Prop} (hu : A.units < cLine) (I : Nat → Shared → Prop) (hl : ListO prog w A E l b N e I)
    (fin : ∀ s, (∀ j, j < N → e j = true) → I N s → Q (.bool true) s) (finF : ∀ i s, i < N → (∀ j, j < i → e j = true) → e i = false → I (i + 1) s → Q (.bool false) s) (h : I 0 s) : wpAny (model prog w) A (richCompare .Eq (.ref l) (.ref b)) Q E s := by
  obtain ⟨items, items2, n, n2, hl1, hb1, _, _, _⟩ := hl _ _ h
  refine wpAny_richCompare_same_room (op := .Eq) ⟨_, hl1, rfl⟩ ⟨_, hb1, rfl⟩ F.slot_list_eq (call_here F.slot_list_eq ⟨_, hl1, rfl⟩ F.entry_list_eq (F.args_list_eq_2 _ _) ?_) hu
  exact list_eqO (R := wants (fun v s' => v ≠ .notImplemented ∧ Q v s') E) l b N e I hl (fun s' a q => ⟨(fun x => nomatch x), fin s' a q⟩) (fun i s' a b c q => ⟨(fun x => nomatch x), finF i s' a b c q⟩) h
theorem rn_listO {l b : Addr} {N : Nat} {e : Nat → Bool} {Q : Value → Shared → Prop} (hu : A.units < cLine) (I : Nat → Shared → Prop) (hl : ListO prog w A E l b N e I)
    (fin : ∀ s, (∀ j, j < N → e j = true) → I N s → Q (.bool false) s) (finF : ∀ i s, i < N → (∀ j, j < i → e j = true) → e i = false → I (i + 1) s → Q (.bool true) s) (h : I 0 s) : wpAny (model prog w) A (richCompare .NotEq (.ref l) (.ref b)) Q E s := by
  obtain ⟨items, items2, n, n2, hl1, hb1, _, _, _⟩ := hl _ _ h
  refine wpAny_richCompare_same_room (op := .NotEq) ⟨_, hl1, rfl⟩ ⟨_, hb1, rfl⟩ F.slot_list_ne (call_here F.slot_list_ne ⟨_, hl1, rfl⟩ F.entry_list_ne (F.args_list_ne_2 _ _) ?_) hu
  exact list_neO (R := wants (fun v s' => v ≠ .notImplemented ∧ Q v s') E) l b N e I hl (fun s' a q => ⟨(fun x => nomatch x), fin s' a q⟩) (fun i s' a b c q => ⟨(fun x => nomatch x), finF i s' a b c q⟩) h
theorem rc_tupO {l b : Addr} {items items2 : Array Value} {e : Nat → Bool} {Q : Value → Shared → Prop} (hsz : items.size = items2.size) (hu : A.units < cLine) (I : Nat → Shared → Prop)
    (hl : s.heap.IsTuple l items) (hb : s.heap.IsTuple b items2)
    (turn : ∀ i (h1 : i < items.size) (h2 : i < items2.size) s, (∀ j, j < i → e j = true) → I i s → wpAny (model prog w) A.in1 (eqBool items[i] items2[i]) (fun r s' => r = e i ∧ I (i + 1) s') E s)
    (fin : ∀ s, (∀ j, j < items.size → e j = true) → I items.size s → Q (.bool true) s) (finF : ∀ i s, i < items.size → (∀ j, j < i → e j = true) → e i = false → I (i + 1) s → Q (.bool false) s) (h : I 0 s) : wpAny (model prog w) A (richCompare .Eq (.ref l) (.ref b)) Q E s := by
  obtain ⟨⟨cls, dd, data, sl⟩, ho, hc, n, hd⟩ := id hl
  obtain ⟨⟨cls2, dd2, data2, sl2⟩, ho2, hc2, n2, hd2⟩ := id hb
  simp only at hc hd hc2 hd2
  subst hc hd hc2 hd2
  refine wpAny_richCompare_same_room (op := .Eq) ⟨_, ho, rfl⟩ ⟨_, ho2, rfl⟩ F.slot_tuple_eq (call_here F.slot_tuple_eq ⟨_, ho, rfl⟩ F.entry_tuple_eq (F.args_tuple_eq_2 _ _) ?_) hu
  exact tuple_eqO (R := wants (fun v s' => v ≠ .notImplemented ∧ Q v s') E) l b items items2 n n2 dd dd2 sl sl2 hsz e I turn (fun s' a q => ⟨(fun x => nomatch x), fin s' a q⟩) (fun i s' a b c q => ⟨(fun x => nomatch x), finF i s' a b c q⟩) ho ho2 h
theorem rn_tupO {l b : Addr} {items items2 : Array Value} {e : Nat → Bool} {Q : Value → Shared → Prop} (hsz : items.size = items2.size) (hu : A.units < cLine) (I : Nat → Shared → Prop)
    (hl : s.heap.IsTuple l items) (hb : s.heap.IsTuple b items2)
    (turn : ∀ i (h1 : i < items.size) (h2 : i < items2.size) s, (∀ j, j < i → e j = true) → I i s → wpAny (model prog w) A.in1 (eqBool items[i] items2[i]) (fun r s' => r = e i ∧ I (i + 1) s') E s)
    (fin : ∀ s, (∀ j, j < items.size → e j = true) → I items.size s → Q (.bool false) s) (finF : ∀ i s, i < items.size → (∀ j, j < i → e j = true) → e i = false → I (i + 1) s → Q (.bool true) s) (h : I 0 s) : wpAny (model prog w) A (richCompare .NotEq (.ref l) (.ref b)) Q E s := by
  obtain ⟨⟨cls, dd, data, sl⟩, ho, hc, n, hd⟩ := id hl
  obtain ⟨⟨cls2, dd2, data2, sl2⟩, ho2, hc2, n2, hd2⟩ := id hb
  simp only at hc hd hc2 hd2
  subst hc hd hc2 hd2
  refine wpAny_richCompare_same_room (op := .NotEq) ⟨_, ho, rfl⟩ ⟨_, ho2, rfl⟩ F.slot_tuple_ne (call_here F.slot_tuple_ne ⟨_, ho, rfl⟩ F.entry_tuple_ne (F.args_tuple_ne_2 _ _) ?_) hu
  exact tuple_neO (R := wants (fun v s' => v ≠ .notImplemented ∧ Q v s') E) l b items items2 n n2 dd dd2 sl sl2 hsz e I turn (fun s' a q => ⟨(fun x => nomatch x), fin s' a q⟩) (fun i s' a b c q => ⟨(fun x => nomatch x), finF i s' a b c q⟩) ho ho2 h
end
end GQ

set_option Elab.async false
set_option linter.all false
set_option maxRecDepth 100000
set_option maxHeartbeats 4000000
namespace Dx
open PySem PySem.Spec PyProof.Rows L2 Own
open PySem.W (Frag)
/-! ### data as they are read -/
mutual
def RV (C T : Addr) (H : Hp) : D → V → Prop
  | .non, x => x = .non
  | .bl b, x => x = .bl b
  | .int i, x => x = .int i
  | .str s, x => x = .str s
  | .rat q, x => ∃ a, x = .ref a ∧ RatAt C H a (pr q)
  | .lst _ ds, x => ∃ a xs, x = .ref a ∧ H a = some (.lst xs) ∧ RVs C T H ds xs
  | .tup _ ds, x => ∃ a xs, x = .ref a ∧ H a = some (.tup xs) ∧ RVs C T H ds xs
  | .tab ds, x => ∃ a b dx xs, x = .ref a ∧ H a = some (.ins T dx (putF "_products" (.ref b) [])) ∧ H b = some (.lst xs) ∧ RVs C T H ds xs
def RVs (C T : Addr) (H : Hp) : List D → List V → Prop
  | [], xs => xs = []
  | d :: ds, xs => ∃ x xs', xs = x :: xs' ∧ RV C T H d x ∧ RVs C T H ds xs'
end
section
variable {C T : Addr} {H H' : Hp} {A : List Addr}
mutual
theorem RD.rv : ∀ (d : D) {x : V} {B : List Addr}, RD C T H A d x B → RV C T H d x
  | .non, x, B, h => h.1
  | .bl _, x, B, h => h.1
  | .int _, x, B, h => h.1
  | .str _, x, B, h => h.1
  | .rat q, x, B, ⟨a, e, _, r, _⟩ => ⟨a, e, r⟩
  | .lst o ds, x, B, ⟨a, xs, B', e, ha, hs, _⟩ => ⟨a, xs, e, ha, RDs.rv ds hs⟩
  | .tup o ds, x, B, ⟨a, xs, B', e, ha, hs, _⟩ => ⟨a, xs, e, ha, RDs.rv ds hs⟩
  | .tab ds, x, B, ⟨a, b, dx, xs, e, _, _, ha, hb, hs, _⟩ => ⟨a, b, dx, xs, e, ha, hb, RDs.rv ds hs⟩
theorem RDs.rv : ∀ (ds : List D) {xs : List V} {B : List Addr}, RDs C T H A ds xs B → RVs C T H ds xs
  | [], xs, B, h => h.1
  | d :: ds, xs, B, ⟨x, xs', B1, B2, e, _, h1, h2⟩ => ⟨x, xs', e, RD.rv d h1, RDs.rv ds h2⟩
end
mutual
theorem RV.ext (s : Ext H H') : ∀ (d : D) {x : V}, RV C T H d x → RV C T H' d x
  | .non, x, h => h
  | .bl _, x, h => h
  | .int _, x, h => h
  | .str _, x, h => h
  | .rat q, x, ⟨a, e, dx, r⟩ => ⟨a, e, dx, s _ _ r⟩
  | .lst o ds, x, ⟨a, xs, e, ha, hs⟩ => ⟨a, xs, e, s _ _ ha, RVs.ext s ds hs⟩
  | .tup o ds, x, ⟨a, xs, e, ha, hs⟩ => ⟨a, xs, e, s _ _ ha, RVs.ext s ds hs⟩
  | .tab ds, x, ⟨a, b, dx, xs, e, ha, hb, hs⟩ => ⟨a, b, dx, xs, e, s _ _ ha, s _ _ hb, RVs.ext s ds hs⟩
theorem RVs.ext (s : Ext H H') : ∀ (ds : List D) {xs : List V}, RVs C T H ds xs → RVs C T H' ds xs
  | [], xs, h => h
  | d :: ds, xs, ⟨x, xs', e, h1, h2⟩ => ⟨x, xs', e, RV.ext s d h1, RVs.ext s ds h2⟩
end
theorem RVs.len : ∀ {ds : List D} {xs : List V}, RVs C T H ds xs → xs.length = ds.length
  | [], xs, h => by rw [show xs = [] from h]; rfl
  | d :: ds, xs, ⟨x, xs', e, h1, h2⟩ => by rw [e, List.length_cons, List.length_cons, RVs.len h2]
theorem RVs.get : ∀ {ds : List D} {xs : List V} {i : Nat} {x : V}, RVs C T H ds xs → xs[i]? = some x → ∃ d, ds[i]? = some d ∧ RV C T H d x
  | [], xs, i, x, h, e => by rw [show xs = [] from h] at e; simp at e
  | d :: ds, xs, 0, x, ⟨y, xs', f, h1, h2⟩, e => by
    rw [f] at e
    simp at e
    subst e
    exact ⟨d, rfl, h1⟩
  | d :: ds, xs, i + 1, x, ⟨y, xs', f, h1, h2⟩, e => by
    rw [f] at e
    obtain ⟨d', g1, g2⟩ := RVs.get (i := i) h2 (by simpa using e)
    exact ⟨d', by simpa using g1, g2⟩
end
/-! ### == -/
def flatD : D → Bool
  | .non => true
  | .bl _ => true
  | .int _ => true
  | .str _ => true
  | _ => false
def eqFlat : D → D → Bool
  | .non, .non => true
  | .bl a, .bl b => a == b
  | .bl a, .int b => (if a then 1 else 0) == b
  | .int a, .bl b => a == (if b then 1 else 0)
  | .int a, .int b => a == b
  | .str a, .str b => a == b
  | _, _ => false
mutual
def eqB : D → D → Option Bool
  | .rat p, e => match e with
    | .rat q => some (decide (p = q))
    | _ => none
  | .lst _ ds, e => match e with
    | .lst _ es => if ds.length = es.length then eqBs ds es else some false
    | _ => none
  | .tup _ ds, e => match e with
    | .tup _ es => if ds.length = es.length then eqBs ds es else none
    | _ => none
  | .tab _, _ => none
  | .non, e => if flatD e then some (eqFlat .non e) else none
  | .bl b, e => if flatD e then some (eqFlat (.bl b) e) else none
  | .int b, e => if flatD e then some (eqFlat (.int b) e) else none
  | .str b, e => if flatD e then some (eqFlat (.str b) e) else none
def eqBs : List D → List D → Option Bool
  | [], es => match es with
    | [] => some true
    | _ => none
  | d :: ds, es => match es with
    | [] => none
    | e :: es => match eqB d e with
      | some true => eqBs ds es
      | some false => some false
      | none => none
end
theorem eqBs_turn : ∀ {ds es : List D} {b : Bool}, eqBs ds es = some b → ∀ i (h : i < ds.length) (h' : i < es.length), (∀ j (q : j < ds.length) (q' : j < es.length), j < i → eqB ds[j] es[j] = some true) → ∃ c, eqB ds[i] es[i] = some c
  | [], es, b, e, i, h, h', p => by simp at h
  | d :: ds, [], b, e, i, h, h', p => by simp at h'
  | d :: ds, e' :: es, b, e, 0, h, h', p => by
    rw [eqBs] at e
    cases q : eqB d e' with
    | none => rw [q] at e; cases e
    | some c => exact ⟨c, q⟩
  | d :: ds, e' :: es, b, e, i + 1, h, h', p => by
    rw [eqBs] at e
    have z := p 0 (by simp) (by simp) (by omega)
    simp only [List.getElem_cons_zero] at z
    rw [z] at e
    exact eqBs_turn (ds := ds) (es := es) e i (by simpa using h) (by simpa using h') fun j q q' hj => p (j + 1) (by simpa using q) (by simpa using q') (by omega)
theorem eqBs_all : ∀ {ds es : List D} {b : Bool}, eqBs ds es = some b → (∀ i (h : i < ds.length) (h' : i < es.length), eqB ds[i] es[i] = some true) → b = true
  | [], [], b, e, _ => by simp [eqBs] at e; exact e.symm ▸ rfl
  | [], _ :: _, b, e, _ => by simp [eqBs] at e
  | d :: ds, [], b, e, _ => by simp [eqBs] at e
  | d :: ds, e' :: es, b, e, p => by
    rw [eqBs] at e
    have z := p 0 (by simp) (by simp)
    simp only [List.getElem_cons_zero] at z
    rw [z] at e
    exact eqBs_all e fun i h h' => p (i + 1) (by simpa using h) (by simpa using h')
theorem eqBs_first : ∀ {ds es : List D} {b : Bool}, eqBs ds es = some b → ∀ i (h : i < ds.length) (h' : i < es.length), (∀ j (q : j < ds.length) (q' : j < es.length), j < i → eqB ds[j] es[j] = some true) → eqB ds[i] es[i] = some false → b = false
  | [], es, b, e, i, h, h', p, f => by simp at h
  | d :: ds, [], b, e, i, h, h', p, f => by simp at h'
  | d :: ds, e' :: es, b, e, 0, h, h', p, f => by
    rw [eqBs] at e
    simp only [List.getElem_cons_zero] at f
    rw [f] at e
    cases e
    rfl
  | d :: ds, e' :: es, b, e, i + 1, h, h', p, f => by
    rw [eqBs] at e
    have z := p 0 (by simp) (by simp) (by omega)
    simp only [List.getElem_cons_zero] at z
    rw [z] at e
    exact eqBs_first (ds := ds) (es := es) e i (by simpa using h) (by simpa using h') (fun j q q' hj => p (j + 1) (by simpa using q) (by simpa using q') (by omega)) (by simpa using f)
/-- == and != by what two values are -/
def EqO (X : Cx) (n : Nat) (R : V → V → Hp → Prop) (b : Bool) : Prop :=
  ∀ (A : Around) (pins : List (Addr × Obj)) (s : Shared) (σ : L2.St) (H : Hp) (x y : V) (u v : Value), Sub X n A → Inv X pins σ H s → RelV x u → RelV y v → R x y H →
    wpAny (model X.prog X.w) A (eqBool u v) (fun r s' => r = b ∧ ∃ H', Inv X pins σ H' s' ∧ Ext H H') X.xe s
def RcO (X : Cx) (n : Nat) (op : CmpOp) (R : V → V → Hp → Prop) (b : Bool) : Prop :=
  ∀ (A : Around) (pins : List (Addr × Obj)) (s : Shared) (σ : L2.St) (H : Hp) (x y : V) (u v : Value), Sub X n A → Inv X pins σ H s → RelV x u → RelV y v → R x y H →
    wpAny (model X.prog X.w) A (richCompare op u v) (fun r s' => r = .bool b ∧ ∃ H', Inv X pins σ H' s' ∧ Ext H H') X.xe s
section
variable {X : Cx} {n m : Nat} {R : V → V → Hp → Prop} {b : Bool}
theorem EqO.mono (h : EqO X n R b) (k : n ≤ m) : EqO X m R b := fun A pins s σ H x y u v sb => h A pins s σ H x y u v (sb.mono k)
/-- of references that are apart; the same one is equal to itself -/
theorem RcO.eq (h : RcO X n .Eq R b) (hr : ∀ x y H, R x y H → ∃ a c, x = .ref a ∧ y = .ref c ∧ (a = c → b = true)) : EqO X n R b := by
  intro A pins s σ H x y u v sb I rx ry d
  obtain ⟨a, c, rfl, rfl, hb⟩ := hr _ _ _ d
  cases rx
  cases ry
  by_cases hab : a = c
  · subst hab
    exact SeqAt.EqAt.same (A := A) (s := s) (.ref a) X.prog X.w X.xe _ ⟨(hb rfl).symm, H, I, Ext.rfl'⟩
  · refine GQ.eqBool_refG hab (wpAny_mono (h A pins s σ H (.ref a) (.ref c) _ _ sb I rfl rfl d) (fun r s' q => ?_) fun _ _ x => x)
    obtain ⟨hr', q⟩ := q
    exact ⟨b, hr', rfl, q⟩
/-- what is asked of Ratio's own == -/
structure RatEq (X : Cx) (n : Nat) : Prop where
  eq : ∀ p q : Rat, RcO X n .Eq (fun x y H => ∃ a c, x = .ref a ∧ y = .ref c ∧ RatAt (CR X.K) H a (pr p) ∧ RatAt (CR X.K) H c (pr q)) (decide (p = q))
  ne : ∀ p q : Rat, RcO X n .NotEq (fun x y H => ∃ a c, x = .ref a ∧ y = .ref c ∧ RatAt (CR X.K) H a (pr p) ∧ RatAt (CR X.K) H c (pr q)) (!decide (p = q))
mutual
def dep : D → Nat
  | .lst _ ds => deps ds + 1
  | .tup _ ds => deps ds + 1
  | .tab _ => 0
  | .non => 0
  | .bl _ => 0
  | .int _ => 0
  | .str _ => 0
  | .rat _ => 0
def deps : List D → Nat
  | [] => 0
  | d :: ds => max (dep d) (deps ds)
end
theorem dep_le : ∀ {ds : List D} {d : D}, d ∈ ds → dep d ≤ deps ds
  | e :: ds, d, h => by
    rw [deps]
    rcases List.mem_cons.mp h with rfl | h
    · omega
    · have := dep_le h
      omega
mutual
/-- the same value is told by data that are equal -/
theorem rv_same {C T : Addr} {H : Hp} : ∀ (d e : D) {x : V} {b : Bool}, RV C T H d x → RV C T H e x → eqB d e = some b → b = true
  | .non, e, x, b, h, h', q => by
    rw [show x = .non from h] at h'
    cases e <;> simp [eqB, flatD] at q
    · subst q; rfl
    · exact absurd (show V.non = .bl _ from h') (by simp)
    · exact absurd (show V.non = .int _ from h') (by simp)
    · exact absurd (show V.non = .str _ from h') (by simp)
  | .bl c, e, x, b, h, h', q => by
    rw [show x = .bl c from h] at h'
    cases e <;> simp [eqB, flatD] at q
    · exact absurd (show V.bl c = .non from h') (by simp)
    · have : V.bl c = .bl _ := h'
      injection this with this
      subst this
      subst q
      simp [eqFlat]
    · exact absurd (show V.bl c = .int _ from h') (by simp)
    · exact absurd (show V.bl c = .str _ from h') (by simp)
  | .int c, e, x, b, h, h', q => by
    rw [show x = .int c from h] at h'
    cases e <;> simp [eqB, flatD] at q
    · exact absurd (show V.int c = .non from h') (by simp)
    · exact absurd (show V.int c = .bl _ from h') (by simp)
    · have : V.int c = .int _ := h'
      injection this with this
      subst this
      subst q
      simp [eqFlat]
    · exact absurd (show V.int c = .str _ from h') (by simp)
  | .str c, e, x, b, h, h', q => by
    rw [show x = .str c from h] at h'
    cases e <;> simp [eqB, flatD] at q
    · exact absurd (show V.str c = .non from h') (by simp)
    · exact absurd (show V.str c = .bl _ from h') (by simp)
    · exact absurd (show V.str c = .int _ from h') (by simp)
    · have : V.str c = .str _ := h'
      injection this with this
      subst this
      subst q
      simp [eqFlat]
  | .rat p, e, x, b, h, h', q => by
    obtain ⟨a, rfl, dx, r⟩ := h
    cases e <;> simp [eqB] at q
    rename_i p'
    obtain ⟨a', ea, dx', r'⟩ := h'
    injection ea with ea
    subst ea
    rw [r] at r'
    injection r' with r'
    injection r' with _ _ r'
    subst q
    have e1 := rf_top (pr p).1 (pr p).2
    have e2 := rf_bottom (pr p).1 (pr p).2
    rw [r', rf_top] at e1
    rw [r', rf_bottom] at e2
    injection e1 with e1
    injection e1 with e1
    injection e2 with e2
    injection e2 with e2
    have : pr p' = pr p := Prod.ext e1 e2
    simp [pr_inj this]
  | .lst o ds, e, x, b, h, h', q => by
    obtain ⟨a, xs, rfl, ha, hs⟩ := h
    cases e <;> simp [eqB] at q
    obtain ⟨a', ys, ea, ha', hs'⟩ := h'
    injection ea with ea
    subst ea
    rw [ha] at ha'
    injection ha' with ha'
    injection ha' with ha'
    subst ha'
    split at q
    · exact rvs_same ds _ hs hs' q
    · rename_i hl
      exact absurd (hs.len.symm.trans hs'.len) hl
  | .tup o ds, e, x, b, h, h', q => by
    obtain ⟨a, xs, rfl, ha, hs⟩ := h
    cases e <;> simp [eqB] at q
    obtain ⟨a', ys, ea, ha', hs'⟩ := h'
    injection ea with ea
    subst ea
    rw [ha] at ha'
    injection ha' with ha'
    injection ha' with ha'
    subst ha'
    exact rvs_same ds _ hs hs' q.2
  | .tab ds, e, x, b, h, h', q => by simp [eqB] at q
theorem rvs_same {C T : Addr} {H : Hp} : ∀ (ds es : List D) {xs : List V} {b : Bool}, RVs C T H ds xs → RVs C T H es xs → eqBs ds es = some b → b = true
  | [], [], xs, b, h, h', q => by simp [eqBs] at q; exact q.symm ▸ rfl
  | [], _ :: _, xs, b, h, h', q => by simp [eqBs] at q
  | d :: ds, [], xs, b, h, h', q => by simp [eqBs] at q
  | d :: ds, e :: es, xs, b, h, h', q => by
    obtain ⟨x, xs', rfl, h1, h2⟩ := h
    obtain ⟨y, ys, ey, h1', h2'⟩ := h'
    injection ey with ey1 ey2
    subst ey1
    subst ey2
    rw [eqBs] at q
    cases z : eqB d e with
    | none => rw [z] at q; cases q
    | some c =>
      have := rv_same d e h1 h1' z
      subst this
      rw [z] at q
      exact rvs_same ds es h2 h2' q
end
theorem flat_rv {C T : Addr} {H : Hp} : ∀ {d : D} {x : V}, RV C T H d x → flatD d = true → flatV x = true
  | .non, x, h, _ => by rw [show x = .non from h]; rfl
  | .bl b, x, h, _ => by rw [show x = .bl b from h]; rfl
  | .int b, x, h, _ => by rw [show x = .int b from h]; rfl
  | .str b, x, h, _ => by rw [show x = .str b from h]; rfl
theorem eqFlat_rv {C T : Addr} {H : Hp} {d e : D} {x y : V} (h : RV C T H d x) (h' : RV C T H e y) (f : flatD d = true) (f' : flatD e = true) : eqV x y = eqFlat d e := by
  cases d <;> simp [flatD] at f <;> cases e <;> simp [flatD] at f' <;> (
    have q1 := h
    have q2 := h'
    simp only [RV] at q1 q2
    rw [q1, q2]
    rfl)
/-- the items, up to the first that differ -/
theorem turnO {D0 : Nat → Nat → V → V → Hp → Prop} {A : Around} {n : Nat} (sb : Sub X (n + 1) A) {pins : List (Addr × Obj)} {σ : L2.St} {H : Hp} {xs ys : List V} {its its2 : List Value} {ds es : List D} {b : Bool}
    (ih : ∀ d ∈ ds, ∀ e b, eqB d e = some b → EqO X n (fun x y H => RV (CR X.K) (CT X.K) H d x ∧ RV (CR X.K) (CT X.K) H e y) b) (hs : RVs (CR X.K) (CT X.K) H ds xs) (hs' : RVs (CR X.K) (CT X.K) H es ys) (r : Vals xs its) (r2 : Vals ys its2) (q : eqBs ds es = some b) (hl : ds.length = es.length)
    (i : Nat) (h1 : i < its.toArray.size) (h2 : i < its2.toArray.size) (s' : Shared) (l : LoopI X pins σ H s') (pre : ∀ j, j < i → (match ds[j]?, es[j]? with | some d, some e => (eqB d e).getD true | _, _ => true) = true) :
    wpAny (model X.prog X.w) A.in1 (eqBool its.toArray[i] its2.toArray[i]) (fun r s2 => r = (match ds[i]?, es[i]? with | some d, some e => (eqB d e).getD true | _, _ => true) ∧ LoopI X pins σ H s2) X.xe s' := by
  obtain ⟨H1, I1, e1⟩ := l
  have g1 : its[i]? = some its.toArray[i] := by
    have h1' : i < its.length := by simpa using h1
    rw [List.getElem?_eq_getElem h1'] <;> simp
  have g2 : its2[i]? = some its2.toArray[i] := by
    have h2' : i < its2.length := by simpa using h2
    rw [List.getElem?_eq_getElem h2'] <;> simp
  have k1 : i < xs.length := by rw [r.length]; simpa using h1
  have k2 : i < ys.length := by rw [r2.length]; simpa using h2
  obtain ⟨u, hu, ru⟩ := r.get (List.getElem?_eq_getElem k1)
  obtain ⟨v, hv, rv⟩ := r2.get (List.getElem?_eq_getElem k2)
  rw [g1] at hu
  rw [g2] at hv
  rw [Option.some.inj hu, Option.some.inj hv]
  obtain ⟨d, hd, rd⟩ := hs.get (List.getElem?_eq_getElem k1)
  obtain ⟨e, he, re⟩ := hs'.get (List.getElem?_eq_getElem k2)
  have hi1 : i < ds.length := (List.getElem?_eq_some_iff.mp hd).1
  have hi2 : i < es.length := (List.getElem?_eq_some_iff.mp he).1
  have ed : ds[i] = d := (List.getElem?_eq_some_iff.mp hd).2
  have ee : es[i] = e := (List.getElem?_eq_some_iff.mp he).2
  have pre2 : ∀ k (hk : k ≤ i) j (q : j < ds.length) (q' : j < es.length), j < k → eqB ds[j] es[j] = some true := by
    intro k
    induction k with
    | zero => intro _ j _ _ hj; omega
    | succ k ihk =>
      intro hk j q1 q2 hj
      obtain ⟨c, hc⟩ := eqBs_turn q j q1 q2 fun j' a b' hj' => ihk (by omega) j' a b' (by omega)
      have z := pre j (by omega)
      rw [List.getElem?_eq_getElem q1, List.getElem?_eq_getElem q2] at z
      simp only [hc, Option.getD_some] at z
      rw [hc, z]
  obtain ⟨c, hc⟩ := eqBs_turn q i hi1 hi2 (pre2 i (Nat.le_refl _))
  rw [ed, ee] at hc
  rw [hd, he]
  simp only [hc, Option.getD_some]
  refine wpAny_mono (ih d (List.mem_of_getElem? hd) e c hc A.in1 pins s' σ H1 _ _ u v sb.in1 I1 ru rv ⟨RV.ext e1 d rd, RV.ext e1 e re⟩) (fun r s2 q => ?_) fun _ _ x => x
  obtain ⟨hr, H2, I2, e2⟩ := q
  exact ⟨hr, H2, I2, e1.trans e2⟩
end
end Dx

set_option Elab.async false
set_option linter.all false
set_option maxRecDepth 100000
set_option maxHeartbeats 4000000
namespace Dx
open PySem PySem.Spec PyProof.Rows L2 Own
open PySem.W (Frag)
section
variable {X : Cx} {n m : Nat} {R : V → V → Hp → Prop} {b : Bool}
abbrev RVp (X : Cx) (d e : D) : V → V → Hp → Prop := fun x y H => RV (CR X.K) (CT X.K) H d x ∧ RV (CR X.K) (CT X.K) H e y
def seqE (ds es : List D) (i : Nat) : Bool := match ds[i]?, es[i]? with | some d, some e => (eqB d e).getD true | _, _ => true
theorem seqE_some {ds es : List D} {i : Nat} (h : i < ds.length) (h' : i < es.length) : seqE ds es i = (eqB ds[i] es[i]).getD true := by
  unfold seqE
  rw [List.getElem?_eq_getElem h, List.getElem?_eq_getElem h']
/-- all ahead of k are equal -/
theorem pre_true {ds es : List D} {b : Bool} (q : eqBs ds es = some b) (hl : ds.length = es.length) : ∀ (k : Nat) , (∀ j, j < k → seqE ds es j = true) → ∀ j (h : j < ds.length) (h' : j < es.length), j < k → eqB ds[j] es[j] = some true := by
  intro k
  induction k with
  | zero => intro _ j _ _ hj; omega
  | succ k ih =>
    intro pre j h h' hj
    obtain ⟨c, hc⟩ := eqBs_turn q j h h' fun j' a b' hj' => ih (fun i hi => pre i (by omega)) j' a b' (by omega)
    have z := pre j hj
    rw [seqE_some h h', hc] at z
    rw [hc]
    exact congrArg some z
theorem rc_lst {k : Nat} {ds es : List D} {o o' : Bool} (hl : ds.length = es.length) (q : eqBs ds es = some b) (ih : ∀ d ∈ ds, ∀ e b, eqB d e = some b → EqO X k (RVp X d e) b) :
    RcO X (k + 1) .Eq (RVp X (.lst o ds) (.lst o' es)) b ∧ RcO X (k + 1) .NotEq (RVp X (.lst o ds) (.lst o' es)) (!b) := by
  have main : ∀ {A : Around} {pins : List (Addr × Obj)} {s : Shared} {σ : L2.St} {H : Hp} {a c : Addr} {xs ys : List V}, Sub X (k + 1) A → Inv X pins σ H s → H a = some (.lst xs) → H c = some (.lst ys) → RVs (CR X.K) (CT X.K) H ds xs → RVs (CR X.K) (CT X.K) H es ys →
      GQ.ListO X.prog X.w A X.xe a c ds.length (seqE ds es) fun i s' => LoopI X pins σ H s' := by
    intro A pins s σ H a c xs ys sb I ha hb hs hs' i s' l
    obtain ⟨H1, I1, e1⟩ := id l
    obtain ⟨_, its, na, va, ga⟩ := lst_get I1.hok (e1 _ _ ha)
    obtain ⟨_, its2, nb, vb, gb⟩ := lst_get I1.hok (e1 _ _ hb)
    refine ⟨its.toArray, its2.toArray, na, nb, ga, gb, by rw [List.size_toArray, ← va.length, hs.len], by rw [List.size_toArray, ← vb.length, hs'.len, hl], fun pre h1 h2 => ?_⟩
    exact turnO (D0 := fun _ _ _ _ _ => True) sb ih (RVs.ext e1 ds hs) (RVs.ext e1 es hs') va vb q hl i h1 h2 s' ⟨H1, I1, Ext.rfl'⟩ pre |> fun z => wpAny_mono z (fun r s2 q => ⟨q.1, let ⟨H2, I2, e2⟩ := q.2; ⟨H2, I2, e1.trans e2⟩⟩) fun _ _ x => x
  have allT : (∀ j, j < ds.length → seqE ds es j = true) → b = true := fun p => eqBs_all q fun i h h' => pre_true q hl ds.length p i h h' h
  have firstF : ∀ i, i < ds.length → (∀ j, j < i → seqE ds es j = true) → seqE ds es i = false → b = false := by
    intro i hi p f
    have hi' : i < es.length := hl ▸ hi
    refine eqBs_first q i hi hi' (pre_true q hl i p) ?_
    obtain ⟨c, hc⟩ := eqBs_turn q i hi hi' (pre_true q hl i p)
    rw [seqE_some hi hi', hc] at f
    rw [hc]
    exact congrArg some f
  constructor
  · rintro A pins s σ H x y u v sb I rx ry ⟨⟨a, xs, rfl, ha, hs⟩, ⟨c, ys, rfl, hb, hs'⟩⟩
    cases rx
    cases ry
    exact GQ.rc_listO (N := ds.length) sb.room.units0 _ (main sb I ha hb hs hs') (fun s' p l => ⟨by rw [allT p], l⟩) (fun i s' hi p f l => ⟨by rw [firstF i hi p f], l⟩) ⟨H, I, Ext.rfl'⟩
  · rintro A pins s σ H x y u v sb I rx ry ⟨⟨a, xs, rfl, ha, hs⟩, ⟨c, ys, rfl, hb, hs'⟩⟩
    cases rx
    cases ry
    exact GQ.rn_listO (N := ds.length) sb.room.units0 _ (main sb I ha hb hs hs') (fun s' p l => ⟨by rw [allT p]; rfl, l⟩) (fun i s' hi p f l => ⟨by rw [firstF i hi p f]; rfl, l⟩) ⟨H, I, Ext.rfl'⟩
theorem rc_tup {k : Nat} {ds es : List D} {o o' : Bool} (hl : ds.length = es.length) (q : eqBs ds es = some b) (ih : ∀ d ∈ ds, ∀ e b, eqB d e = some b → EqO X k (RVp X d e) b) :
    RcO X (k + 1) .Eq (RVp X (.tup o ds) (.tup o' es)) b ∧ RcO X (k + 1) .NotEq (RVp X (.tup o ds) (.tup o' es)) (!b) := by
  have allT : (∀ j, j < ds.length → seqE ds es j = true) → b = true := fun p => eqBs_all q fun i h h' => pre_true q hl ds.length p i h h' h
  have firstF : ∀ i, i < ds.length → (∀ j, j < i → seqE ds es j = true) → seqE ds es i = false → b = false := by
    intro i hi p f
    have hi' : i < es.length := hl ▸ hi
    refine eqBs_first q i hi hi' (pre_true q hl i p) ?_
    obtain ⟨c, hc⟩ := eqBs_turn q i hi hi' (pre_true q hl i p)
    rw [seqE_some hi hi', hc] at f
    rw [hc]
    exact congrArg some f
  constructor
  · rintro A pins s σ H x y u v sb I rx ry ⟨⟨a, xs, rfl, ha, hs⟩, ⟨c, ys, rfl, hb, hs'⟩⟩
    cases rx
    cases ry
    obtain ⟨its, va, ta, _⟩ := I.tuple (SqT.of ha)
    obtain ⟨its2, vb, tb, _⟩ := I.tuple (SqT.of hb)
    have sz : its.toArray.size = ds.length := by rw [List.size_toArray, ← va.length, hs.len]
    have sz2 : its2.toArray.size = es.length := by rw [List.size_toArray, ← vb.length, hs'.len]
    refine GQ.rc_tupO (e := seqE ds es) (by rw [sz, sz2, hl]) sb.room.units0 (fun _ s' => LoopI X pins σ H s') ta tb (fun i h1 h2 s' pre l => ?_) (fun s' p l => ⟨by rw [allT (by rw [sz] at p; exact p)], l⟩) (fun i s' hi p f l => ⟨by rw [firstF i (by rw [← sz]; exact hi) p f], l⟩) ⟨H, I, Ext.rfl'⟩
    exact turnO (D0 := fun _ _ _ _ _ => True) sb ih hs hs' va vb q hl i h1 h2 s' l pre
  · rintro A pins s σ H x y u v sb I rx ry ⟨⟨a, xs, rfl, ha, hs⟩, ⟨c, ys, rfl, hb, hs'⟩⟩
    cases rx
    cases ry
    obtain ⟨its, va, ta, _⟩ := I.tuple (SqT.of ha)
    obtain ⟨its2, vb, tb, _⟩ := I.tuple (SqT.of hb)
    have sz : its.toArray.size = ds.length := by rw [List.size_toArray, ← va.length, hs.len]
    have sz2 : its2.toArray.size = es.length := by rw [List.size_toArray, ← vb.length, hs'.len]
    refine GQ.rn_tupO (e := seqE ds es) (by rw [sz, sz2, hl]) sb.room.units0 (fun _ s' => LoopI X pins σ H s') ta tb (fun i h1 h2 s' pre l => ?_) (fun s' p l => ⟨by rw [allT (by rw [sz] at p; exact p)]; rfl, l⟩) (fun i s' hi p f l => ⟨by rw [firstF i (by rw [← sz]; exact hi) p f]; rfl, l⟩) ⟨H, I, Ext.rfl'⟩
    exact turnO (D0 := fun _ _ _ _ _ => True) sb ih hs hs' va vb q hl i h1 h2 s' l pre
/-- lists of unlike lengths -/
theorem rc_len {ds es : List D} {o o' : Bool} (hl : ds.length ≠ es.length) : RcO X 0 .Eq (RVp X (.lst o ds) (.lst o' es)) false ∧ RcO X 0 .NotEq (RVp X (.lst o ds) (.lst o' es)) true := by
  constructor
  · rintro A pins s σ H x y u v sb I rx ry ⟨⟨a, xs, rfl, ha, hs⟩, ⟨c, ys, rfl, hb, hs'⟩⟩
    cases rx
    cases ry
    have hTa := typeIs_lst I.hok ha
    have hTb := typeIs_lst I.hok hb
    obtain ⟨_, its, na, va, ga⟩ := lst_get I.hok ha
    obtain ⟨_, its2, nb, vb, gb⟩ := lst_get I.hok hb
    refine wpAny_richCompare_same_room (T := "list") (id := "list.__eq__") hTa hTb F.slot_list_eq (GQ.call_here F.slot_list_eq hTa F.entry_list_eq (F.args_list_eq_2 _ _) ?_) sb.room.units0
    have hsz : (its.toArray.size != its2.toArray.size) = true := by
      have l1 := va.length
      have l2 := vb.length
      have l3 := hs.len
      have l4 := hs'.len
      simp
      omega
    unfold Builtin.«list.__eq__»
    refine wpAny_bind (m := slotArgs "__eq__" 1 _) (wpAny_pure ?_)
    dsimp only
    refine wpAny_bind (wpAny_isInstance (T := "list") (b := true) hTb rfl ?_)
    simp only [Bool.not_true, Bool.false_eq_true, if_false]
    refine wpAny_bind (wpAny_listItems ga rfl ?_)
    refine wpAny_bind (wpAny_listItems gb rfl ?_)
    simp only [hsz, if_true]
    refine wpAny_bind (wpAny_rule ?_)
    exact wpAny_pure ⟨nofun, rfl, H, I, Ext.rfl'⟩
  · rintro A pins s σ H x y u v sb I rx ry ⟨⟨a, xs, rfl, ha, hs⟩, ⟨c, ys, rfl, hb, hs'⟩⟩
    cases rx
    cases ry
    have hTa := typeIs_lst I.hok ha
    have hTb := typeIs_lst I.hok hb
    obtain ⟨_, its, na, va, ga⟩ := lst_get I.hok ha
    obtain ⟨_, its2, nb, vb, gb⟩ := lst_get I.hok hb
    refine wpAny_richCompare_same_room (T := "list") (id := "list.__ne__") hTa hTb F.slot_list_ne (GQ.call_here F.slot_list_ne hTa F.entry_list_ne (F.args_list_ne_2 _ _) ?_) sb.room.units0
    have hsz : (its.toArray.size != its2.toArray.size) = true := by
      have l1 := va.length
      have l2 := vb.length
      have l3 := hs.len
      have l4 := hs'.len
      simp
      omega
    unfold Builtin.«list.__ne__»
    refine wpAny_bind (m := slotArgs "__ne__" 1 _) (wpAny_pure ?_)
    dsimp only
    refine wpAny_bind (wpAny_isInstance (T := "list") (b := true) hTb rfl ?_)
    simp only [Bool.not_true, Bool.false_eq_true, if_false]
    refine wpAny_bind (wpAny_listItems ga rfl ?_)
    refine wpAny_bind (wpAny_listItems gb rfl ?_)
    simp only [hsz, if_true]
    refine wpAny_bind (wpAny_rule ?_)
    exact wpAny_pure ⟨nofun, rfl, H, I, Ext.rfl'⟩
theorem RcO.mono {op : CmpOp} (h : RcO X n op R b) (k : n ≤ m) : RcO X m op R b := fun A pins s σ H x y u v sb => h A pins s σ H x y u v (sb.mono k)
theorem eqO_flat (d : D) (f : flatD d = true) (e : D) (b : Bool) (q : eqB d e = some b) : EqO X (dep d + n) (RVp X d e) b := by
  have f' : flatD e = true ∧ eqFlat d e = b := by
    cases d <;> simp [flatD] at f <;> simp [eqB] at q <;> exact q
  rintro A pins s σ H x y u v sb I rx ry ⟨h1, h2⟩
  have z := eqAt_V (A := A) (s := s) rx ry (flat_rv h1 f) (flat_rv h2 f'.1)
  rw [eqFlat_rv h1 h2 f f'.1, f'.2] at z
  exact z X.prog X.w X.xe _ ⟨rfl, H, I, Ext.rfl'⟩
mutual
theorem eqO_d (re : RatEq X n) : ∀ (d e : D) (b : Bool), eqB d e = some b → EqO X (dep d + n) (RVp X d e) b
  | .non, e, b, q => eqO_flat .non rfl e b q
  | .bl c, e, b, q => eqO_flat (.bl c) rfl e b q
  | .int c, e, b, q => eqO_flat (.int c) rfl e b q
  | .str c, e, b, q => eqO_flat (.str c) rfl e b q
  | .rat p, e, b, q => by
    cases e <;> simp [eqB] at q
    rename_i p'
    subst q
    refine RcO.eq ?_ fun x y H ⟨⟨a, ea, h1⟩, ⟨c, ec, h2⟩⟩ => ⟨a, c, ea, ec, fun z => ?_⟩
    · intro A pins s σ H x y u v sb I rx ry ⟨⟨a, ea, h1⟩, ⟨c, ec, h2⟩⟩
      exact re.eq p p' A pins s σ H x y u v (sb.mono (by omega)) I rx ry ⟨a, c, ea, ec, h1, h2⟩
    · subst z
      exact rv_same (.rat p) (.rat p') (b := decide (p = p')) (x := .ref a) (C := CR X.K) (T := CT X.K) ⟨a, rfl, h1⟩ ⟨a, rfl, h2⟩ (by simp [eqB])
  | .lst o ds, e, b, q => by
    have q0 := q
    cases e <;> simp [eqB] at q
    rename_i o' es
    refine RcO.eq ?_ fun x y H ⟨⟨a, xs, ea, h1⟩, ⟨c, ys, ec, h2⟩⟩ => ⟨a, c, ea, ec, fun z => by subst z; exact rv_same (.lst o ds) (.lst o' es) (x := .ref a) (C := CR X.K) (T := CT X.K) ⟨a, xs, rfl, h1⟩ ⟨a, ys, rfl, h2⟩ q0⟩
    split at q
    · rename_i hl
      have z := (rc_lst (X := X) (k := deps ds + n) (o := o) (o' := o') hl q (fun d hd e b q => (eqO_ds re ds d hd e b q).mono (by have := dep_le hd; omega))).1
      exact z.mono (by simp only [dep]; omega)
    · rename_i hl
      injection q with q
      subst q
      exact (rc_len (X := X) (o := o) (o' := o') hl).1.mono (Nat.zero_le _)
  | .tup o ds, e, b, q => by
    have q0 := q
    cases e <;> simp [eqB] at q
    rename_i o' es
    refine RcO.eq ?_ fun x y H ⟨⟨a, xs, ea, h1⟩, ⟨c, ys, ec, h2⟩⟩ => ⟨a, c, ea, ec, fun z => by subst z; exact rv_same (.tup o ds) (.tup o' es) (x := .ref a) (C := CR X.K) (T := CT X.K) ⟨a, xs, rfl, h1⟩ ⟨a, ys, rfl, h2⟩ q0⟩
    have z := (rc_tup (X := X) (k := deps ds + n) (o := o) (o' := o') q.1 q.2 (fun d hd e b q => (eqO_ds re ds d hd e b q).mono (by have := dep_le hd; omega))).1
    exact z.mono (by simp only [dep]; omega)
  | .tab ds, e, b, q => by simp [eqB] at q
theorem eqO_ds (re : RatEq X n) : ∀ (ds : List D) (d : D), d ∈ ds → ∀ (e : D) (b : Bool), eqB d e = some b → EqO X (dep d + n) (RVp X d e) b
  | d :: ds, d', h, e, b, q => by
    rcases List.mem_cons.mp h with z | h
    · rw [z] at q ⊢
      exact eqO_d re d e b q
    · exact eqO_ds re ds d' h e b q
end
/-! ### the operators -/
def sameK : D → D → Bool
  | .bl _, .bl _ => true
  | .int _, .int _ => true
  | .str _, .str _ => true
  | _, _ => false
def eqTop (d e : D) : Option Bool := if flatD d || flatD e then (if sameK d e then some (eqFlat d e) else none) else if dep d ≤ 8 then eqB d e else none
def eqD (d e : D) : Option D := (eqTop d e).map .bl
def neD (d e : D) : Option D := (eqTop d e).map fun b => .bl (!b)
def rEqO (X : Cx) (neg : Bool) : R2 := fun x y H Q => ∃ d e b, RVp X d e x y H ∧ flatD d = false ∧ flatD e = false ∧ dep d ≤ 8 ∧ eqB d e = some b ∧ ∀ H', Ext H H' → Q (.bl (if neg then !b else b)) H'
theorem nonflat (re : RatEq X n) {d e : D} {b : Bool} (f : flatD d = false) (q : eqB d e = some b) : RcO X (dep d + n) .Eq (RVp X d e) b ∧ RcO X (dep d + n) .NotEq (RVp X d e) (!b) := by
  cases d <;> simp [flatD] at f
  · rename_i p
    cases e <;> simp [eqB] at q
    rename_i p'
    subst q
    constructor
    · rintro A pins s σ H x y u v sb I rx ry ⟨⟨a, ea, h1⟩, ⟨c, ec, h2⟩⟩
      exact re.eq p p' A pins s σ H x y u v (sb.mono (by omega)) I rx ry ⟨a, c, ea, ec, h1, h2⟩
    · rintro A pins s σ H x y u v sb I rx ry ⟨⟨a, ea, h1⟩, ⟨c, ec, h2⟩⟩
      exact re.ne p p' A pins s σ H x y u v (sb.mono (by omega)) I rx ry ⟨a, c, ea, ec, h1, h2⟩
  · rename_i o ds
    cases e <;> simp [eqB] at q
    rename_i o' es
    split at q
    · rename_i hl
      have z := rc_lst (X := X) (k := deps ds + n) (o := o) (o' := o') hl q (fun d hd e b q => (eqO_d re d e b q).mono (by have := dep_le hd; omega))
      exact ⟨z.1.mono (by simp only [dep]; omega), z.2.mono (by simp only [dep]; omega)⟩
    · rename_i hl
      injection q with q
      subst q
      have z := rc_len (X := X) (o := o) (o' := o') hl
      exact ⟨z.1.mono (Nat.zero_le _), z.2.mono (Nat.zero_le _)⟩
  · rename_i o ds
    cases e <;> simp [eqB] at q
    rename_i o' es
    have z := rc_tup (X := X) (k := deps ds + n) (o := o) (o' := o') q.1 q.2 (fun d hd e b q => (eqO_d re d e b q).mono (by have := dep_le hd; omega))
    exact ⟨z.1.mono (by simp only [dep]; omega), z.2.mono (by simp only [dep]; omega)⟩
  · simp [eqB] at q
theorem op_eqO (re : RatEq X n) (hr : Room (n + 8) X.A) : OpR X (compareOp .Eq) (rEqO X false) := by
  rintro pins s σ H x y v u Q I rx ry ⟨d, e, b, rv, f, _, hd, q, k⟩
  show wpAny (model X.prog X.w) X.A (richCompare .Eq v u) (EP X pins σ Q) X.xe s
  refine wpAny_mono ((nonflat re f q).1 X.A pins s σ H x y v u ⟨hr.mono (by omega), rfl⟩ I rx ry rv) (fun r s' z => ?_) fun _ _ x => x
  obtain ⟨hr', H', I', e⟩ := z
  subst hr'
  exact ⟨.bl b, H', I', rfl, k H' e⟩
theorem op_neO (re : RatEq X n) (hr : Room (n + 8) X.A) : OpR X (compareOp .NotEq) (rEqO X true) := by
  rintro pins s σ H x y v u Q I rx ry ⟨d, e, b, rv, f, _, hd, q, k⟩
  show wpAny (model X.prog X.w) X.A (richCompare .NotEq v u) (EP X pins σ Q) X.xe s
  refine wpAny_mono ((nonflat re f q).2 X.A pins s σ H x y v u ⟨hr.mono (by omega), rfl⟩ I rx ry rv) (fun r s' z => ?_) fun _ _ x => x
  obtain ⟨hr', H', I', e⟩ := z
  subst hr'
  exact ⟨.bl (!b), H', I', rfl, k H' e⟩
mutual
theorem eqB_frz : ∀ d e : D, eqB d.frz e.frz = eqB d e
  | .non, e => by cases e <;> rfl
  | .bl _, e => by cases e <;> rfl
  | .int _, e => by cases e <;> rfl
  | .str _, e => by cases e <;> rfl
  | .rat _, e => by cases e <;> rfl
  | .tab _, e => by cases e <;> rfl
  | .lst o ds, e => by
    cases e <;> simp only [D.frz, eqB]
    rename_i o' es
    rw [frzs_map, frzs_map, List.length_map, List.length_map, ← frzs_map, ← frzs_map, eqBs_frz ds es]
  | .tup o ds, e => by
    cases e <;> simp only [D.frz, eqB]
    rename_i o' es
    rw [frzs_map, frzs_map, List.length_map, List.length_map, ← frzs_map, ← frzs_map, eqBs_frz ds es]
theorem eqBs_frz : ∀ ds es : List D, eqBs (frzs ds) (frzs es) = eqBs ds es
  | [], es => by cases es <;> rfl
  | d :: ds, [] => by simp [frzs, eqBs]
  | d :: ds, e :: es => by
    simp only [frzs, eqBs, eqB_frz d e]
    cases eqB d e with
    | none => rfl
    | some c =>
      cases c
      · rfl
      · exact eqBs_frz ds es
end
mutual
theorem dep_frz : ∀ d : D, dep d.frz = dep d
  | .lst o ds => by simp only [D.frz, dep, deps_frz ds]
  | .tup o ds => by simp only [D.frz, dep, deps_frz ds]
  | .tab ds => rfl
  | .non => rfl
  | .bl _ => rfl
  | .int _ => rfl
  | .str _ => rfl
  | .rat _ => rfl
theorem deps_frz : ∀ ds : List D, deps (frzs ds) = deps ds
  | [] => rfl
  | d :: ds => by simp only [frzs, deps, dep_frz d, deps_frz ds]
end
theorem flatD_frz (d : D) : flatD d.frz = flatD d := by cases d <;> rfl
theorem flat_fix {d : D} (h : flatD d = true) : d.frz = d := by cases d <;> simp [flatD] at h <;> rfl
abbrev rEqAll (X : Cx) : R2 := fun x y H Q => rEq x y H Q ∨ rEqO X false x y H Q
abbrev rNeAll (X : Cx) : R2 := fun x y H Q => rNe x y H Q ∨ rEqO X true x y H Q
theorem rk_rv {K : Frag} {H : Hp} {L : List Ent} {x : V} {d : D} (R : Rk K H (.v x d :: L)) : RV (CR K) (CT K) H d x := by
  obtain ⟨A, B, h⟩ := R.at_
  exact RD.rv d h
theorem same_scal {C T : Addr} {H : Hp} {d e : D} {x y : V} (h : RV C T H d x) (h' : RV C T H e y) (s : sameK d e = true) : scal x y = true ∧ decide (x = y) = eqFlat d e := by
  cases d <;> cases e <;> simp [sameK] at s <;> (
    have q1 := h
    have q2 := h'
    simp only [RV] at q1 q2
    rw [q1, q2]
    refine ⟨rfl, ?_⟩
    simp only [eqFlat]
    first | exact dec_int | exact dec_bl | exact dec_str)
theorem eqOk : OpOk X.K (rEqAll X) eqD := by
  intro H L x y d1 d2 d Q R f1 f2 e k
  have h1 := rk_rv R
  have h2 := rk_rv R.tail
  obtain ⟨b, e0, hd0⟩ := Option.map_eq_some_iff.mp e
  subst hd0
  clear e
  have e := e0
  unfold eqTop at e
  split at e
  · rename_i hf
    have fl : flatD d1 = true ∨ flatD d2 = true := by
      rw [flatD_frz, flatD_frz, Bool.or_eq_true] at hf
      exact hf
    split at e
    · rename_i hs
      cases e
      have both : d1.frz = d1 ∧ d2.frz = d2 := by
        cases d1 <;> cases d2 <;> simp [sameK, D.frz] at hs <;> exact ⟨rfl, rfl⟩
      rw [both.1, both.2] at hs k
      obtain ⟨z1, z2⟩ := same_scal h1 h2 hs
      refine .inl ⟨z1, ?_⟩
      rw [z2]
      exact k _ H R.bl
    · cases e
  · rename_i hf
    rw [flatD_frz, flatD_frz, Bool.or_eq_true, not_or, Bool.not_eq_true, Bool.not_eq_true] at hf
    split at e
    · rename_i hd
      rw [dep_frz] at hd
      rw [eqB_frz] at e
      exact .inr ⟨d1, d2, b, ⟨h1, h2⟩, hf.1, hf.2, hd, e, fun H' s => k _ H' (Rep.bl (R.same s))⟩
    · cases e
theorem neOk : OpOk X.K (rNeAll X) neD := by
  intro H L x y d1 d2 d Q R f1 f2 e k
  have h1 := rk_rv R
  have h2 := rk_rv R.tail
  obtain ⟨b, e0, hd0⟩ := Option.map_eq_some_iff.mp e
  subst hd0
  clear e
  have e := e0
  unfold eqTop at e
  split at e
  · rename_i hf
    split at e
    · rename_i hs
      cases e
      have both : d1.frz = d1 ∧ d2.frz = d2 := by
        cases d1 <;> cases d2 <;> simp [sameK, D.frz] at hs <;> exact ⟨rfl, rfl⟩
      rw [both.1, both.2] at hs k
      obtain ⟨z1, z2⟩ := same_scal h1 h2 hs
      refine .inl ⟨z1, ?_⟩
      rw [z2]
      exact k _ H R.bl
    · cases e
  · rename_i hf
    rw [flatD_frz, flatD_frz, Bool.or_eq_true, not_or, Bool.not_eq_true, Bool.not_eq_true] at hf
    split at e
    · rename_i hd
      rw [dep_frz] at hd
      rw [eqB_frz] at e
      exact .inr ⟨d1, d2, b, ⟨h1, h2⟩, hf.1, hf.2, hd, e, fun H' s => k _ H' (Rep.bl (R.same s))⟩
    · cases e
theorem o_eq (re : RatEq X n) (hr : Room (n + 8) X.A) : OpR X (compareOp .Eq) (rEqAll X) := op_eq.or (op_eqO re hr)
theorem o_ne (re : RatEq X n) (hr : Room (n + 8) X.A) : OpR X (compareOp .NotEq) (rNeAll X) := op_ne.or (op_neO re hr)
end
end Dx

set_option Elab.async false
set_option linter.all false
set_option maxRecDepth 100000
set_option maxHeartbeats 4000000
namespace Own
open PySem PySem.Spec PyProof.Rows L2
section
variable {X : Cx}
theorem sub_underR {n : Nat} {A : Around} (S : Sub X (n + 1) A) (args : Args) : Sub X n (A.under (.builtin "tuple.__repr__" args)) := by
  refine ⟨⟨S.room.hd, ?_, ?_⟩, S.fr⟩
  · have := S.room.dp
    show A.depth + Code.weight _ + 3 * n + 5 < _
    have w : Code.weight (.builtin "tuple.__repr__" args) = 1 := by
      unfold Code.weight
      rw [isGuard_tuple_repr]
      rfl
    rw [w]
    omega
  · have := S.room.un
    rw [units_under_tuple_repr]
    omega
def rReprT (D : Shw) : List V → Hp → VK → Prop := fun xs H Q => ∃ x t as, xs = [x] ∧ DTpl D x t as H ∧ t.length ≤ sizeLine ∧ ∀ H', Ext H H' → Q (.str t) H'
theorem cg_reprT {n : Nat} {D : Shw} (h : RepG X n D) (mon : MonT D) (gg : X.A.guards = some []) (hr : Room (n + 2) X.A) : CallR X (.builtin "repr") (rReprT D) := by
  rintro pins s σ H xs us Q I r ⟨x, t, as, rfl, ⟨a, xs, ts, bs, rfl, rfl, hsub, hab, ha, hlen, hD⟩, hl, q⟩
  obtain ⟨u, rfl, ru⟩ := r.one
  cases (show u = Value.ref a from ru)
  obtain ⟨lx, its, va, hT⟩ := tup_get I.hok ha
  obtain ⟨oa, ga, hcls, na, hdat⟩ := hT
  have hty : s.TypeIs (.ref a) "tuple" := ⟨_, ga, hcls⟩

  have hb : 0 + (tupleText ts).length ≤ sizeLine := by omega
  refine call_repr_slot (T := "tuple") (by have := hr.un; omega) hty slotG_tuple ?_
  refine wpAny_call (codeAny_call_builtin_own (Code.quiet_builtin _ (by decide +kernel)) F.entry_tuple_repr (F.slot_tuple_repr.check _ _ _ _ _ _ _ _ hty (F.args_tuple_repr_1 _) ?_))
  have S : Sub X (n + 1) X.A.in1 := ⟨hr.in1, rfl⟩
  have gg : X.A.in1.guards = some [] := gg
  generalize hc0 : Code.builtin "tuple.__repr__" { pos := [Value.ref a] } = c
  have S2 : Sub X n (X.A.in1.under c) := by rw [← hc0]; exact sub_underR S _
  have hg2 : (X.A.in1.under c).guards = some (c :: []) := by rw [← hc0]; exact guards_under_guard (isGuard_tuple_repr _) gg
  have hc2 : ∀ b, b ∈ bs → Clear (c :: []) b := by
    intro b hbm id v rest kw hm
    rcases List.mem_cons.mp hm with e | e
    · rw [← hc0] at e
      injection e with e1 e2
      injection e2 with e3 e4
      injection e3 with e5 e6
      rw [e5]
      intro z
      injection z with z2
      exact hab (z2 ▸ hbm)
    · cases e
  have hcl : ([] : List Code).any (fun c => tupGuardF (.ref a) (c, default)) = false := rfl
  have ple2 := piled_le_tupleText ts
  show wpOwn (model X.prog X.w) X.A.in1 c (Builtin.tupleReprAt 0 ⟨[.ref a], []⟩) _ _ s
  rw [tuple_repr_tree, tupleReprUnderWay_eq]
  refine wpOwn_bind (wpOwn_stackTailAny gg (fun c p e => tupGuardF_off _ _ _ e) (fun c p => tupGuardF_pos _ _ _) ?_)
  rw [hcl]
  simp only [Bool.false_eq_true, if_false]
  refine wpOwn_of_wpAny ?_
  unfold tupleReprRest
  refine wpAny_bind (wpAny_tupleItemsOf ga hdat ?_)
  have hsz : its.length = ts.length := by rw [hlen]; exact va.length.symm
  refine wpAny_bind (wpAny_forIn_array' tupBody (fun rest r s' => ∃ i H', i ≤ ts.length ∧ rest = its.drop i ∧ r = ((ts.take i).toArray, 0 + piled (ts.take i)) ∧ Inv X pins σ H' s' ∧ Ext H H') _ ?_ ?_ its.toArray (#[], 0) ⟨0, H, by omega, rfl, rfl, I, Ext.rfl'⟩)
  · rintro y rest ⟨acc, m⟩ s1 ⟨i, H1, hi, er, e2, I1, ex1⟩
    injection e2 with e3 e4
    subst e3 e4
    have hi2 : i < its.length := by
      rcases Nat.lt_or_ge i its.length with z | z
      · exact z
      · rw [List.drop_eq_nil_of_le z] at er
        cases er
    have er2 := er
    rw [List.drop_eq_getElem_cons hi2] at er2
    injection er2 with ey erest
    have hx : xs[i]? = some xs[i] := List.getElem?_eq_getElem (by omega)
    obtain ⟨u, hu, ru⟩ := va.get hx
    have eu : u = y := by
      rw [List.getElem?_eq_getElem hi2] at hu
      rw [ey]
      exact (Option.some.inj hu).symm
    subst eu
    obtain ⟨t, ht, hd⟩ := hD i _ hx
    have pl := piled_take_succ ht
    have ple := piled_take_le ts (i + 1)
    unfold tupBody
    refine wpAny_bind (wpAny_mono (h _ _ pins s1 σ H1 _ t bs u _ S2 hg2 hc2 I1 ru (mon _ _ _ _ _ ex1 hd) (by show 0 + piled (ts.take i) + 1 + t.length ≤ _; omega)) (fun z s2 hz => ?_) fun e s2 z => z)
    obtain ⟨rfl, H2, I2, ex2⟩ := hz
    refine wpAny_pure ⟨i + 1, H2, by omega, erest, ?_, I2, ex1.trans ex2⟩
    rw [pl]
    have : (ts.take i).toArray.push z = (ts.take (i + 1)).toArray := by
      rw [List.take_succ, ht]
      simp
    rw [← this]
    show ((ts.take i).toArray.push z, 0 + piled (ts.take i) + (z.length + 2)) = _
    rw [Nat.add_assoc]
  · rintro ⟨acc, m⟩ s1 ⟨i, H1, hi, er, e2, I1, ex1⟩
    injection e2 with e3 e4
    subst e3 e4
    have hi2 : i = ts.length := by
      rcases Nat.lt_or_ge i its.length with z | z
      · rw [List.drop_eq_getElem_cons z] at er
        cases er
      · omega
    subst hi2
    unfold retStr
    have et : Str.ofString "(" ++ (Str.ofString ", ").join (ts.take ts.length).toArray.toList ++ Str.ofString (if (its.toArray.size == 1) = true then ",)" else ")") = tupleText ts := by
      unfold tupleText
      simp [hsz]
    rw [et]
    refine wpAny_bind (wpAny_mkStr ?_ (by omega))
    refine wpAny_pure ?_
    exact ⟨_, _, rfl, .str _, H1, I1.tok _, ⟨_, rfl⟩, q H1 ex1⟩
end
end Own

set_option Elab.async false
set_option linter.all false
set_option maxRecDepth 100000
set_option maxHeartbeats 4000000
namespace Dx
open PySem PySem.Spec PyProof.Rows L2 Own
open PySem.W (Frag)
/-! ### repr -/
def S (i : Int) : Str := Str.ofString (toString i)
def toldR (q : Int × Int) : Str := Str.empty ++ ("Ratio(" : Str) ++ S q.1 ++ (", " : Str) ++ S q.2 ++ (")" : Str)
def Tl (i : Int) : Prop := i.natAbs.log2 < 1920
instance (i : Int) : Decidable (Tl i) := inferInstanceAs (Decidable (_ < _))
mutual
def reprS : D → Option Str
  | .int i => if Tl i then some (S i) else none
  | .rat q => if Tl q.num ∧ Tl q.den then some (toldR (pr q)) else none
  | .lst _ ds => (reprSs ds).map listText
  | .tup _ ds => (reprSs ds).map tupleText
  | .non => none
  | .bl _ => none
  | .str _ => none
  | .tab _ => none
def reprSs : List D → Option (List Str)
  | [] => some []
  | d :: ds => (reprS d).bind fun t => (reprSs ds).map (t :: ·)
end
mutual
def RA (C T : Addr) (H : Hp) : D → V → List Addr → Prop
  | .lst _ ds, x, as => ∃ a xs bs, x = .ref a ∧ H a = some (.lst xs) ∧ RAs C T H ds xs bs ∧ as = a :: bs
  | .tup _ ds, x, as => ∃ a xs bs, x = .ref a ∧ H a = some (.tup xs) ∧ RAs C T H ds xs bs ∧ as = a :: bs
  | d, x, as => RV C T H d x ∧ as = []
def RAs (C T : Addr) (H : Hp) : List D → List V → List Addr → Prop
  | [], xs, as => xs = [] ∧ as = []
  | d :: ds, xs, as => ∃ x xs' b1 b2, xs = x :: xs' ∧ as = b1 ++ b2 ∧ RA C T H d x b1 ∧ RAs C T H ds xs' b2
end
section
variable {C T : Addr} {H H' : Hp}
mutual
theorem RV.ra : ∀ (d : D) {x : V}, RV C T H d x → ∃ as, RA C T H d x as
  | .lst _ ds, x, ⟨a, xs, e, ha, hs⟩ => let ⟨bs, h⟩ := RVs.ra ds hs; ⟨_, a, xs, bs, e, ha, h, rfl⟩
  | .tup _ ds, x, ⟨a, xs, e, ha, hs⟩ => let ⟨bs, h⟩ := RVs.ra ds hs; ⟨_, a, xs, bs, e, ha, h, rfl⟩
  | .non, x, h => ⟨[], h, rfl⟩
  | .bl _, x, h => ⟨[], h, rfl⟩
  | .int _, x, h => ⟨[], h, rfl⟩
  | .str _, x, h => ⟨[], h, rfl⟩
  | .rat _, x, h => ⟨[], h, rfl⟩
  | .tab _, x, h => ⟨[], h, rfl⟩
theorem RVs.ra : ∀ (ds : List D) {xs : List V}, RVs C T H ds xs → ∃ as, RAs C T H ds xs as
  | [], xs, h => ⟨[], h, rfl⟩
  | d :: ds, xs, ⟨x, xs', e, h1, h2⟩ => let ⟨b1, q1⟩ := RV.ra d h1; let ⟨b2, q2⟩ := RVs.ra ds h2; ⟨b1 ++ b2, x, xs', b1, b2, e, rfl, q1, q2⟩
end
mutual
theorem RA.rv : ∀ (d : D) {x : V} {as : List Addr}, RA C T H d x as → RV C T H d x
  | .lst _ ds, x, as, ⟨a, xs, bs, e, ha, hs, _⟩ => ⟨a, xs, e, ha, RAs.rv ds hs⟩
  | .tup _ ds, x, as, ⟨a, xs, bs, e, ha, hs, _⟩ => ⟨a, xs, e, ha, RAs.rv ds hs⟩
  | .non, x, as, h => h.1
  | .bl _, x, as, h => h.1
  | .int _, x, as, h => h.1
  | .str _, x, as, h => h.1
  | .rat _, x, as, h => h.1
  | .tab _, x, as, h => h.1
theorem RAs.rv : ∀ (ds : List D) {xs : List V} {as : List Addr}, RAs C T H ds xs as → RVs C T H ds xs
  | [], xs, as, h => h.1
  | d :: ds, xs, as, ⟨x, xs', b1, b2, e, _, h1, h2⟩ => ⟨x, xs', e, RA.rv d h1, RAs.rv ds h2⟩
end
mutual
theorem RA.node : ∀ (d : D) {x : V} {as : List Addr}, RA C T H d x as → ∀ b ∈ as, ∃ e, dep e ≤ dep d ∧ RV C T H e (.ref b)
  | .lst o ds, x, as, ⟨a, xs, bs, e, ha, hs, q⟩, b, hb => by
    rw [q] at hb
    rcases List.mem_cons.mp hb with z | hb
    · rw [z]
      exact ⟨.lst o ds, Nat.le_refl _, a, xs, rfl, ha, RAs.rv ds hs⟩
    · obtain ⟨e', h1, h2⟩ := RAs.node ds hs b hb
      exact ⟨e', by simp only [dep]; omega, h2⟩
  | .tup o ds, x, as, ⟨a, xs, bs, e, ha, hs, q⟩, b, hb => by
    rw [q] at hb
    rcases List.mem_cons.mp hb with z | hb
    · rw [z]
      exact ⟨.tup o ds, Nat.le_refl _, a, xs, rfl, ha, RAs.rv ds hs⟩
    · obtain ⟨e', h1, h2⟩ := RAs.node ds hs b hb
      exact ⟨e', by simp only [dep]; omega, h2⟩
  | .non, x, as, h, b, hb => by rw [h.2] at hb; cases hb
  | .bl _, x, as, h, b, hb => by rw [h.2] at hb; cases hb
  | .int _, x, as, h, b, hb => by rw [h.2] at hb; cases hb
  | .str _, x, as, h, b, hb => by rw [h.2] at hb; cases hb
  | .rat _, x, as, h, b, hb => by rw [h.2] at hb; cases hb
  | .tab _, x, as, h, b, hb => by rw [h.2] at hb; cases hb
theorem RAs.node : ∀ (ds : List D) {xs : List V} {as : List Addr}, RAs C T H ds xs as → ∀ b ∈ as, ∃ e, dep e ≤ deps ds ∧ RV C T H e (.ref b)
  | [], xs, as, h, b, hb => by rw [h.2] at hb; cases hb
  | d :: ds, xs, as, ⟨x, xs', b1, b2, e, q, h1, h2⟩, b, hb => by
    rw [q] at hb
    rcases List.mem_append.mp hb with hb | hb
    · obtain ⟨e', z1, z2⟩ := RA.node d h1 b hb
      exact ⟨e', by simp only [deps]; omega, z2⟩
    · obtain ⟨e', z1, z2⟩ := RAs.node ds h2 b hb
      exact ⟨e', by simp only [deps]; omega, z2⟩
end
mutual
theorem rv_dep : ∀ (d e : D) {x : V}, RV C T H d x → RV C T H e x → (∃ a, x = .ref a ∧ ((∃ xs, H a = some (.lst xs)) ∨ ∃ xs, H a = some (.tup xs))) → dep d = dep e
  | .lst o ds, e, x, h, h', _ => by
    obtain ⟨a, xs, rfl, ha, hs⟩ := h
    cases e
    case lst o' es =>
      obtain ⟨a', ys, ea, ha', hs'⟩ := h'
      injection ea with ea
      subst ea
      rw [ha] at ha'
      injection ha' with ha'
      injection ha' with ha'
      subst ha'
      simp only [dep, rvs_dep ds es hs hs']
    case tup o' es =>
      obtain ⟨a', ys, ea, ha', hs'⟩ := h'
      injection ea with ea
      subst ea
      rw [ha] at ha'
      cases ha'
    case rat q =>
      obtain ⟨a', ea, dx, r⟩ := h'
      injection ea with ea
      subst ea
      rw [ha] at r
      cases r
    case tab es =>
      obtain ⟨a', b, dx, ys, ea, ha', _⟩ := h'
      injection ea with ea
      subst ea
      rw [ha] at ha'
      cases ha'
    all_goals (simp only [RV] at h'; cases h')
  | .tup o ds, e, x, h, h', _ => by
    obtain ⟨a, xs, rfl, ha, hs⟩ := h
    cases e
    case lst o' es =>
      obtain ⟨a', ys, ea, ha', hs'⟩ := h'
      injection ea with ea
      subst ea
      rw [ha] at ha'
      cases ha'
    case tup o' es =>
      obtain ⟨a', ys, ea, ha', hs'⟩ := h'
      injection ea with ea
      subst ea
      rw [ha] at ha'
      injection ha' with ha'
      injection ha' with ha'
      subst ha'
      simp only [dep, rvs_dep ds es hs hs']
    case rat q =>
      obtain ⟨a', ea, dx, r⟩ := h'
      injection ea with ea
      subst ea
      rw [ha] at r
      cases r
    case tab es =>
      obtain ⟨a', b, dx, ys, ea, ha', _⟩ := h'
      injection ea with ea
      subst ea
      rw [ha] at ha'
      cases ha'
    all_goals (simp only [RV] at h'; cases h')
  | .rat q, e, x, h, h', ⟨a, ea, k⟩ => by
    obtain ⟨a', ea', dx, r⟩ := h
    rw [ea] at ea'
    injection ea' with ea'
    subst ea'
    rcases k with ⟨xs, k⟩ | ⟨xs, k⟩ <;> (rw [k] at r; cases r)
  | .tab ds, e, x, h, h', ⟨a, ea, k⟩ => by
    obtain ⟨a', b, dx, xs, ea', r, _⟩ := h
    rw [ea] at ea'
    injection ea' with ea'
    subst ea'
    rcases k with ⟨xs, k⟩ | ⟨xs, k⟩ <;> (rw [k] at r; cases r)
  | .non, e, x, h, h', ⟨a, ea, k⟩ => by simp only [RV] at h; rw [h] at ea; cases ea
  | .bl _, e, x, h, h', ⟨a, ea, k⟩ => by simp only [RV] at h; rw [h] at ea; cases ea
  | .int _, e, x, h, h', ⟨a, ea, k⟩ => by simp only [RV] at h; rw [h] at ea; cases ea
  | .str _, e, x, h, h', ⟨a, ea, k⟩ => by simp only [RV] at h; rw [h] at ea; cases ea
theorem rvs_dep : ∀ (ds es : List D) {xs : List V}, RVs C T H ds xs → RVs C T H es xs → deps ds = deps es
  | [], es, xs, h, h' => by
    rw [show xs = [] from h] at h'
    cases es with
    | nil => rfl
    | cons e es => obtain ⟨x, xs', q, _⟩ := h'; cases q
  | d :: ds, es, xs, h, h' => by
    obtain ⟨x, xs', rfl, h1, h2⟩ := h
    cases es with
    | nil => cases (show x :: xs' = [] from h')
    | cons e es =>
      obtain ⟨y, ys, q, h1', h2'⟩ := h'
      injection q with q1 q2
      subst q1
      subst q2
      have a := rvs_dep ds es h2 h2'
      by_cases k : ∃ a, x = .ref a ∧ ((∃ xs, H a = some (.lst xs)) ∨ ∃ xs, H a = some (.tup xs))
      · simp only [deps, a, rv_dep d e h1 h1' k]
      · have flat : ∀ (d : D), RV C T H d x → (∀ ds o, d ≠ .lst o ds) ∧ (∀ ds o, d ≠ .tup o ds) := fun d hd =>
          ⟨fun ds o z => k (by rw [z] at hd; obtain ⟨a, xs, e, h, _⟩ := hd; exact ⟨a, e, .inl ⟨xs, h⟩⟩), fun ds o z => k (by rw [z] at hd; obtain ⟨a, xs, e, h, _⟩ := hd; exact ⟨a, e, .inr ⟨xs, h⟩⟩)⟩
        have f1 := flat d h1
        have f2 := flat e h1'
        have z : ∀ d : D, (∀ ds o, d ≠ .lst o ds) ∧ (∀ ds o, d ≠ .tup o ds) → dep d = 0 := by
          intro d hd
          cases d
          case lst o ds => exact absurd rfl (hd.1 ds o)
          case tup o ds => exact absurd rfl (hd.2 ds o)
          all_goals rfl
        simp only [deps, a, z d f1, z e f2]
end
/-- a thing isn't within itself -/
theorem ra_out {t : Bool} {ds : List D} {a : Addr} {xs : List V} {bs : List Addr} (ha : H a = some (ho t xs)) (hs : RAs C T H ds xs bs) : a ∉ bs := fun hb => by
  obtain ⟨e, h1, h2⟩ := RAs.node ds hs a hb
  have hr : RV C T H (D.seq t true ds) (.ref a) := by
    cases t with
    | true => exact ⟨a, xs, rfl, ha, RAs.rv ds hs⟩
    | false => exact ⟨a, xs, rfl, ha, RAs.rv ds hs⟩
  have q := rv_dep _ e hr h2 ⟨a, rfl, by cases t with | true => exact .inr ⟨xs, ha⟩ | false => exact .inl ⟨xs, ha⟩⟩
  have q2 : dep (D.seq t true ds) = deps ds + 1 := by cases t <;> rfl
  omega
mutual
theorem RA.ext (s : Ext H H') : ∀ (d : D) {x : V} {as : List Addr}, RA C T H d x as → RA C T H' d x as
  | .lst _ ds, x, as, ⟨a, xs, bs, e, ha, hs, q⟩ => ⟨a, xs, bs, e, s _ _ ha, RAs.ext s ds hs, q⟩
  | .tup _ ds, x, as, ⟨a, xs, bs, e, ha, hs, q⟩ => ⟨a, xs, bs, e, s _ _ ha, RAs.ext s ds hs, q⟩
  | .non, x, as, h => ⟨RV.ext s _ h.1, h.2⟩
  | .bl _, x, as, h => ⟨RV.ext s _ h.1, h.2⟩
  | .int _, x, as, h => ⟨RV.ext s _ h.1, h.2⟩
  | .str _, x, as, h => ⟨RV.ext s _ h.1, h.2⟩
  | .rat _, x, as, h => ⟨RV.ext s _ h.1, h.2⟩
  | .tab _, x, as, h => ⟨RV.ext s _ h.1, h.2⟩
theorem RAs.ext (s : Ext H H') : ∀ (ds : List D) {xs : List V} {as : List Addr}, RAs C T H ds xs as → RAs C T H' ds xs as
  | [], xs, as, h => h
  | d :: ds, xs, as, ⟨x, xs', b1, b2, e, q, h1, h2⟩ => ⟨x, xs', b1, b2, e, q, RA.ext s d h1, RAs.ext s ds h2⟩
end
theorem RAs.get : ∀ {ds : List D} {xs : List V} {as : List Addr} {i : Nat} {x : V}, RAs C T H ds xs as → xs[i]? = some x → ∃ d b1, ds[i]? = some d ∧ RA C T H d x b1 ∧ ∀ b ∈ b1, b ∈ as
  | [], xs, as, i, x, h, e => by rw [h.1] at e; simp at e
  | d :: ds, xs, as, 0, x, ⟨y, xs', b1, b2, f, q, h1, h2⟩, e => by
    rw [f] at e
    simp at e
    subst e
    exact ⟨d, b1, rfl, h1, fun b hb => by rw [q]; exact List.mem_append_left _ hb⟩
  | d :: ds, xs, as, i + 1, x, ⟨y, xs', b1, b2, f, q, h1, h2⟩, e => by
    rw [f] at e
    obtain ⟨d', b3, g1, g2, g3⟩ := RAs.get (i := i) h2 (by simpa using e)
    exact ⟨d', b3, by simpa using g1, g2, fun b hb => by rw [q]; exact List.mem_append_right _ (g3 b hb)⟩
theorem bs' {α β : Type} {o : Option α} {f : α → Option β} {y : β} (h : o.bind f = some y) : ∃ x, o = some x ∧ f x = some y := bs h
theorem reprSs_get : ∀ {ds : List D} {ts : List Str}, reprSs ds = some ts → ts.length = ds.length ∧ ∀ (i : Nat) (d : D), ds[i]? = some d → ∃ t, ts[i]? = some t ∧ reprS d = some t
  | [], ts, e => by
    rw [reprSs] at e
    cases e
    exact ⟨rfl, fun i d h => by simp at h⟩
  | d :: ds, ts, e => by
    rw [reprSs] at e
    obtain ⟨t, h1, e⟩ := bs e
    obtain ⟨ts', h2, e⟩ := Option.map_eq_some_iff.mp e
    subst e
    obtain ⟨l, g⟩ := reprSs_get h2
    refine ⟨by simp [l], fun i d' h => ?_⟩
    cases i with
    | zero =>
      simp at h
      subst h
      exact ⟨t, rfl, h1⟩
    | succ i => exact g i d' (by simpa using h)
end
/-! ### the library's own word -/
section
variable {X : Cx} {n : Nat}
def DRat (K : Frag) : Shw := fun x t _ H => ∃ a q, x = .ref a ∧ RatAt (CR K) H a (pr q) ∧ t = toldR (pr q) ∧ Tl q.num ∧ Tl q.den
structure RatRep (X : Cx) (n : Nat) : Prop where
  rep : RepG X n (DRat X.K)
theorem monT_rat {K : Frag} : MonT (DRat K) := fun x t as H H' e ⟨a, q, h1, ⟨dx, h2⟩, h3⟩ => ⟨a, q, h1, ⟨dx, e _ _ h2⟩, h3⟩
def sh0 (K : Frag) : Shw := fun x t as H => DInt x t as H ∨ DRat K x t as H
def shS (A D : Shw) : Shw := fun x t as H => A x t as H ∨ DLst D x t as H ∨ DTpl D x t as H
def shK (K : Frag) : Nat → Shw
  | 0 => sh0 K
  | k + 1 => shS (sh0 K) (shK K k)
theorem sh_in0 {K : Frag} {x : V} {t : Str} {as : List Addr} {H : Hp} (h : sh0 K x t as H) : ∀ k, shK K k x t as H
  | 0 => h
  | k + 1 => Or.inl h
theorem sh_inL {K : Frag} {x : V} {t : Str} {as : List Addr} {H : Hp} {k : Nat} (h : DLst (shK K k) x t as H) : shK K (k + 1) x t as H := Or.inr (Or.inl h)
theorem sh_inT {K : Frag} {x : V} {t : Str} {as : List Addr} {H : Hp} {k : Nat} (h : DTpl (shK K k) x t as H) : shK K (k + 1) x t as H := Or.inr (Or.inr h)
theorem monT_sh {K : Frag} : ∀ k, MonT (shK K k)
  | 0 => MonT.or monT_int monT_rat
  | k + 1 => MonT.or (MonT.or monT_int monT_rat) (MonT.or (monT_lst (monT_sh k)) (monT_tpl (monT_sh k)))
theorem repG_sh0 (r : RatRep X n) : RepG X n (sh0 X.K) := RepG.or repG_int r.rep
theorem repG_sh (r : RatRep X n) : ∀ k, RepG X (k + n) (shK X.K k)
  | 0 => (repG_sh0 r).mono (by omega)
  | k + 1 => by
    have z := repG_sh r k
    have a : RepG X (k + 1 + n) (sh0 X.K) := (repG_sh0 r).mono (by omega)
    have b : RepG X (k + 1 + n) (DLst (shK X.K k)) := (repG_lst z (monT_sh k)).mono (by omega)
    have c : RepG X (k + 1 + n) (DTpl (shK X.K k)) := (repG_tpl z (monT_sh k)).mono (by omega)
    exact RepG.or a (RepG.or b c)
mutual
theorem sh_of {K : Frag} {H : Hp} : ∀ (d : D) (k : Nat) {x : V} {as bs : List Addr} {t : Str}, dep d ≤ k → RA (CR K) (CT K) H d x as → (∀ b ∈ as, b ∈ bs) → reprS d = some t → shK K k x t bs H
  | .int i, k, x, as, bs, t, _, h, _, e => by
    rw [reprS] at e
    split at e
    · rename_i hi
      cases e
      exact sh_in0 (Or.inl ⟨i, h.1, rfl, hi⟩) k
    · cases e
  | .rat q, k, x, as, bs, t, _, h, _, e => by
    rw [reprS] at e
    split at e
    · rename_i hi
      cases e
      obtain ⟨⟨a, ea, r⟩, _⟩ := h
      exact sh_in0 (Or.inr ⟨a, q, ea, r, rfl, hi.1, hi.2⟩) k
    · cases e
  | .lst o ds, k, x, as, bs, t, hk, h, hb, e => by
    rw [reprS] at e
    obtain ⟨ts, e1, e2⟩ := Option.map_eq_some_iff.mp e
    obtain ⟨a, xs, cs, rfl, ha, hs, q⟩ := h
    cases k with
    | zero => simp only [dep] at hk; omega
    | succ k =>
      refine sh_inL ⟨a, xs, ts, cs, rfl, e2.symm, fun b z => hb b (by rw [q]; exact z), ra_out (t := false) ha hs, ha, ?_, ?_⟩
      · rw [(reprSs_get e1).1, (RAs.rv ds hs).len]
      · exact fun i y hy => sh_ofs ds k (by simp only [dep] at hk; omega) hs (fun b z => z) e1 i y hy
  | .tup o ds, k, x, as, bs, t, hk, h, hb, e => by
    rw [reprS] at e
    obtain ⟨ts, e1, e2⟩ := Option.map_eq_some_iff.mp e
    obtain ⟨a, xs, cs, rfl, ha, hs, q⟩ := h
    cases k with
    | zero => simp only [dep] at hk; omega
    | succ k =>
      refine sh_inT ⟨a, xs, ts, cs, rfl, e2.symm, fun b z => hb b (by rw [q]; exact z), ra_out (t := true) ha hs, ha, ?_, ?_⟩
      · rw [(reprSs_get e1).1, (RAs.rv ds hs).len]
      · exact fun i y hy => sh_ofs ds k (by simp only [dep] at hk; omega) hs (fun b z => z) e1 i y hy
  | .non, k, x, as, bs, t, _, h, _, e => by rw [reprS] at e; cases e
  | .bl _, k, x, as, bs, t, _, h, _, e => by rw [reprS] at e; cases e
  | .str _, k, x, as, bs, t, _, h, _, e => by rw [reprS] at e; cases e
  | .tab _, k, x, as, bs, t, _, h, _, e => by rw [reprS] at e; cases e
theorem sh_ofs {K : Frag} {H : Hp} : ∀ (ds : List D) (k : Nat) {xs : List V} {as bs : List Addr} {ts : List Str}, deps ds ≤ k → RAs (CR K) (CT K) H ds xs as → (∀ b ∈ as, b ∈ bs) → reprSs ds = some ts → ∀ (i : Nat) (y : V), xs[i]? = some y → ∃ t, ts[i]? = some t ∧ shK K k y t bs H
  | [], k, xs, as, bs, ts, _, h, _, e, i, y, hy => by rw [h.1] at hy; simp at hy
  | d :: ds, k, xs, as, bs, ts, hk, h, hb, e, i, y, hy => by
    obtain ⟨x, xs', b1, b2, f, q, h1, h2⟩ := h
    rw [reprSs] at e
    obtain ⟨t, g1, e⟩ := bs' e
    obtain ⟨ts', g2, e⟩ := Option.map_eq_some_iff.mp e
    subst e
    rw [f] at hy
    cases i with
    | zero =>
      simp at hy
      subst hy
      exact ⟨t, rfl, sh_of d k (by simp only [deps] at hk; omega) h1 (fun b z => hb b (by rw [q]; exact List.mem_append_left _ z)) g1⟩
    | succ i =>
      obtain ⟨t', z1, z2⟩ := sh_ofs ds k (by simp only [deps] at hk; omega) h2 (fun b z => hb b (by rw [q]; exact List.mem_append_right _ z)) g2 i y (by simpa using hy)
      exact ⟨t', by simpa using z1, z2⟩
end
/-- how long a text may be -/
def TMAX : Nat := 16777216
theorem tmax {n : Nat} (h : n ≤ TMAX) : n ≤ sizeLine := by rw [sizeLine_eq]; exact h
def reprD : List D → Option D
  | [.lst _ ds] => if dep (.lst false ds) ≤ 8 then (reprS (.lst false ds)).bind fun t => if t.length ≤ TMAX then some (.str t) else none else none
  | [.tup _ ds] => if dep (.tup false ds) ≤ 8 then (reprS (.tup false ds)).bind fun t => if t.length ≤ TMAX then some (.str t) else none else none
  | _ => none
mutual
theorem reprS_frz : ∀ d : D, reprS d.frz = reprS d
  | .lst o ds => by simp only [D.frz, reprS, reprSs_frz ds]
  | .tup o ds => by simp only [D.frz, reprS, reprSs_frz ds]
  | .non => rfl
  | .bl _ => rfl
  | .int _ => rfl
  | .str _ => rfl
  | .rat _ => rfl
  | .tab _ => rfl
theorem reprSs_frz : ∀ ds : List D, reprSs (frzs ds) = reprSs ds
  | [] => rfl
  | d :: ds => by simp only [frzs, reprSs, reprS_frz d, reprSs_frz ds]
end
theorem reprOk (r : RatRep X n) : CallOk X.K (fun xs H Q => rReprG (shK X.K 7) xs H Q ∨ rReprT (shK X.K 7) xs H Q) reprD := by
  refine call1 rfl (fun a _ _ => by cases a <;> rfl) fun H L x d1 d Q R f e k => ?_
  have rv := rk_rv R
  obtain ⟨as, ra⟩ := RV.ra d1 rv
  cases d1 <;> simp only [D.frz, reprD, reduceCtorEq] at e
  · rename_i o ds
    split at e
    · rename_i hd
      obtain ⟨t, h1, e⟩ := bs e
      split at e
      · rename_i hl
        cases e
        have e2 : reprS (.lst o ds) = some t := by rw [← h1]; simp only [reprS, reprSs_frz]
        have hd2 : dep (.lst o ds) ≤ 8 := by simp only [dep, deps_frz] at hd ⊢; exact hd
        have z := sh_of (K := X.K) (.lst o ds) 8 hd2 ra (fun b hb => hb) e2
        refine .inl ⟨x, t, as, rfl, ?_, tmax hl, fun H' s => k _ H' (Rep.str (R.same s))⟩
        rcases z with z | z | z
        · obtain ⟨a, xs, ea, ha, _⟩ := rv
          rcases z with ⟨i, ei, _⟩ | ⟨a', q, ea', ⟨dx, r'⟩, _⟩
          · rw [ea] at ei; cases ei
          · rw [ea] at ea'
            injection ea' with ea'
            subst ea'
            rw [ha] at r'
            cases r'
        · exact z
        · obtain ⟨a, xs, ea, ha, _⟩ := rv
          obtain ⟨a', ys, _, _, ea', _, _, _, ha', _⟩ := z
          rw [ea] at ea'
          injection ea' with ea'
          subst ea'
          rw [ha] at ha'
          cases ha'
      · cases e
    · cases e
  · rename_i o ds
    split at e
    · rename_i hd
      obtain ⟨t, h1, e⟩ := bs e
      split at e
      · rename_i hl
        cases e
        have e2 : reprS (.tup o ds) = some t := by rw [← h1]; simp only [reprS, reprSs_frz]
        have hd2 : dep (.tup o ds) ≤ 8 := by simp only [dep, deps_frz] at hd ⊢; exact hd
        have z := sh_of (K := X.K) (.tup o ds) 8 hd2 ra (fun b hb => hb) e2
        refine .inr ⟨x, t, as, rfl, ?_, tmax hl, fun H' s => k _ H' (Rep.str (R.same s))⟩
        rcases z with z | z | z
        · obtain ⟨a, xs, ea, ha, _⟩ := rv
          rcases z with ⟨i, ei, _⟩ | ⟨a', q, ea', ⟨dx, r'⟩, _⟩
          · rw [ea] at ei; cases ei
          · rw [ea] at ea'
            injection ea' with ea'
            subst ea'
            rw [ha] at r'
            cases r'
        · obtain ⟨a, xs, ea, ha, _⟩ := rv
          obtain ⟨a', ys, _, _, ea', _, _, _, ha', _⟩ := z
          rw [ea] at ea'
          injection ea' with ea'
          subst ea'
          rw [ha] at ha'
          cases ha'
        · exact z
      · cases e
    · cases e
theorem cr_repr (r : RatRep X n) (gg : X.A.guards = some []) (hr : Room (n + 9) X.A) : CallR X (.builtin "repr") (fun xs H Q => rReprG (shK X.K 7) xs H Q ∨ rReprT (shK X.K 7) xs H Q) :=
  (cg_reprG (repG_sh r 7) (monT_sh 7) gg (hr.mono (by omega))).or (cg_reprT (repG_sh r 7) (monT_sh 7) gg (hr.mono (by omega)))
end
end Dx

set_option Elab.async false
set_option linter.all false
set_option maxRecDepth 100000
set_option maxHeartbeats 4000000
namespace Dx
open PySem PySem.Spec PyProof.Rows L2 Own
open PySem.W (Frag)
/-! ### math.lcm -/
def rLcm : List V → Hp → VK → Prop := fun vs H Q => ∃ a b : Int, vs = [.int a, .int b] ∧ a.natAbs < 2 ^ 64 ∧ b.natAbs < 2 ^ 64 ∧ Q (.int ((Nat.lcm a.natAbs b.natAbs : Nat) : Int)) H
theorem cr_lcm {X : Cx} : CallR X (.builtin "math.lcm") rLcm := by
  intro pins s σ H vs us Q I r h
  obtain ⟨a, b, rfl, ha, hb, q⟩ := h
  obtain ⟨t, u, rfl⟩ := Vals.int2 r
  exact PySem.W.mc_lcm ha hb fun _ => ⟨.int _, H, I.tok _, ⟨_, rfl⟩, q⟩
def lcmD : List D → Option D
  | [.int i, .int j] => if i.natAbs < 2 ^ 64 ∧ j.natAbs < 2 ^ 64 then some (.int (Nat.lcm i.natAbs j.natAbs : Nat)) else none
  | _ => none
section
variable {X : Cx} {K : Frag} {H H' : Hp} {σ : L2.St} {L M : List Ent} {env env' : Env} {x y : V} {d e : D} {f fa fb fc : DE} {a b c : Expr} {ft : DA} {pos : Pos}
theorem lcmOk : CallOk K rLcm lcmD := by
  refine call2 rfl (fun a => by cases a <;> rfl) (fun a b _ _ => by cases a <;> cases b <;> rfl) fun H L x y d1 d2 d Q R f1 f2 e k => ?_
  cases d1 <;> cases d2 <;> simp only [D.frz, lcmD, reduceCtorEq] at e
  split at e
  · rename_i hs
    cases e
    cases rk_int R
    cases rk_int R.tail
    exact ⟨_, _, rfl, hs.1, hs.2, k _ _ R.int⟩
  · cases e
/-! ### isinstance -/
structure KitF (K : Frag) : Prop where
  cl : Cls K (CR K)
  is : IsC K (CR K)
  rt_int : PySem.W.kitOne K (.ref (CR K)) (.type "int") = some false
  rt_bool : PySem.W.kitOne K (.ref (CR K)) (.type "bool") = some false
  rt_list : PySem.W.kitOne K (.ref (CR K)) (.type "list") = some false
  rt_tuple : PySem.W.kitOne K (.ref (CR K)) (.type "tuple") = some false
  rr : PySem.W.kitOne K (.ref (CR K)) (.ref (CR K)) = some true
  t_int : PySem.W.kitOne K (.type "int") (.ref (CR K)) = some false
  t_bool : PySem.W.kitOne K (.type "bool") (.ref (CR K)) = some false
  t_non : PySem.W.kitOne K (.type "NoneType") (.ref (CR K)) = some false
  t_str : PySem.W.kitOne K (.type "str") (.ref (CR K)) = some false
  t_list : PySem.W.kitOne K (.type "list") (.ref (CR K)) = some false
  t_tuple : PySem.W.kitOne K (.type "tuple") (.ref (CR K)) = some false
/-- what the types are called -/
def tyD : D → Option String
  | .non => some "NoneType"
  | .bl _ => some "bool"
  | .int _ => some "int"
  | .str _ => some "str"
  | .lst _ _ => some "list"
  | .tup _ _ => some "tuple"
  | _ => none
def isiTy (T : String) : D → Option D
  | .rat _ => some (.bl false)
  | d => (tyD d).bind fun t => some (.bl (t == T || (t == "bool" && T == "int")))
def isiR : D → Option D
  | .rat _ => some (.bl true)
  | d => (tyD d).bind fun _ => some (.bl false)
def isiSeq : D → Option D
  | .rat _ => some (.bl false)
  | d => (tyD d).bind fun t => some (.bl (t == "list" || t == "tuple"))
theorem tyD_frz (d : D) : tyD d.frz = tyD d := by cases d <;> rfl
theorem tyD_ok {t : String} (R : Rk K H (.v x d :: L)) (h : tyD d = some t) : TyX K H x (.type t) := by
  cases d <;> simp only [tyD, reduceCtorEq] at h <;> cases h
  · cases rk_non R; exact .base .non
  · cases rk_bl R; exact .base (.bl _)
  · cases rk_int R; exact .base (.int _)
  · cases rk_str R; exact .base (.str _)
  · obtain ⟨a, xs, rfl, e, _⟩ := rk_lst R; exact .base (.lst e)
  · obtain ⟨a, xs, rfl, e, _⟩ := rk_tup R; exact .base (.tup e)
theorem tyD_rat {q : Rat} (kf : KitF K) (R : Rk K H (.v x (.rat q) :: L)) : TyX K H x (.ref (CR K)) := by
  obtain ⟨a, rfl, dx, e⟩ := rk_rat R
  exact kf.is.ty kf.cl e
theorem kit_tys : ∀ t ∈ ["NoneType", "bool", "int", "str", "list", "tuple"], ∀ T ∈ ["int", "bool", "list", "tuple"], PySem.W.kitOne K (.type t) (.type T) = some (t == T || (t == "bool" && T == "int")) := by
  intro t ht T hT
  simp only [List.mem_cons, List.not_mem_nil, or_false] at ht hT
  rcases ht with rfl | rfl | rfl | rfl | rfl | rfl <;> rcases hT with rfl | rfl | rfl | rfl <;> exact kit_ty (by decide +kernel)
theorem tyD_mem {t : String} (h : tyD d = some t) : t ∈ ["NoneType", "bool", "int", "str", "list", "tuple"] := by
  cases d <;> simp only [tyD, reduceCtorEq] at h <;> cases h <;> simp
theorem isiTyOk (kf : KitF K) {T : String} (hT : T ∈ ["int", "bool", "list", "tuple"]) : UnOk K (fun x H Q => rIsi K [x, .ty T] H Q) (isiTy T) := by
  intro H L x d1 d Q R f1 e k
  have rat : ∀ q : Rat, d1 = .rat q → rIsi K [x, .ty T] H Q := by
    rintro q rfl
    cases e
    refine ⟨_, _, _, _, false, rfl, .ty T, tyD_rat kf R, ?_, k _ _ R.bl⟩
    simp only [List.mem_cons, List.not_mem_nil, or_false] at hT
    rcases hT with rfl | rfl | rfl | rfl
    · exact kf.rt_int
    · exact kf.rt_bool
    · exact kf.rt_list
    · exact kf.rt_tuple
  have oth : ∀ t, tyD d1 = some t → d = .bl (t == T || (t == "bool" && T == "int")) → rIsi K [x, .ty T] H Q := by
    rintro t ht rfl
    exact ⟨_, _, _, _, _, rfl, .ty T, tyD_ok R ht, kit_tys t (tyD_mem ht) T hT, k _ _ R.bl⟩
  cases d1 with
  | rat q => exact rat q rfl
  | tab ds => simp [D.frz, isiTy, tyD] at e
  | non => cases e; exact oth _ rfl rfl
  | bl b => cases e; exact oth _ rfl rfl
  | int i => cases e; exact oth _ rfl rfl
  | str z => cases e; exact oth _ rfl rfl
  | lst o ds => cases e; exact oth _ rfl rfl
  | tup o ds => cases e; exact oth _ rfl rfl
theorem kit_tR (kf : KitF K) : ∀ t ∈ ["NoneType", "bool", "int", "str", "list", "tuple"], PySem.W.kitOne K (.type t) (.ref (CR K)) = some false := by
  intro t ht
  simp only [List.mem_cons, List.not_mem_nil, or_false] at ht
  rcases ht with rfl | rfl | rfl | rfl | rfl | rfl
  · exact kf.t_non
  · exact kf.t_bool
  · exact kf.t_int
  · exact kf.t_str
  · exact kf.t_list
  · exact kf.t_tuple
theorem isiROk (kf : KitF K) : UnOk K (fun x H Q => rIsi K [x, .ref (CR K)] H Q) isiR := by
  intro H L x d1 d Q R f1 e k
  have rat : ∀ q : Rat, d1 = .rat q → rIsi K [x, .ref (CR K)] H Q := by
    rintro q rfl
    cases e
    exact ⟨_, _, _, _, true, rfl, .own _, tyD_rat kf R, kf.rr, k _ _ R.bl⟩
  have oth : ∀ t, tyD d1 = some t → d = .bl false → rIsi K [x, .ref (CR K)] H Q := by
    rintro t ht rfl
    exact ⟨_, _, _, _, _, rfl, .own _, tyD_ok R ht, kit_tR kf t (tyD_mem ht), k _ _ R.bl⟩
  cases d1 with
  | rat q => exact rat q rfl
  | tab ds => simp [D.frz, isiR, tyD] at e
  | non => cases e; exact oth _ rfl rfl
  | bl b => cases e; exact oth _ rfl rfl
  | int i => cases e; exact oth _ rfl rfl
  | str z => cases e; exact oth _ rfl rfl
  | lst o ds => cases e; exact oth _ rfl rfl
  | tup o ds => cases e; exact oth _ rfl rfl
theorem seqKit {t c1 c2 : Value} {b1 b2 : Bool} (h1 : PySem.W.kitOne K t c1 = some b1) (h2 : PySem.W.kitOne K t c2 = some b2) : PySem.W.kitAny K t [c1, c2] = some (b1 || b2) := by
  cases b1
  · cases b2
    · exact kitAny_cons h1 (fun _ => kitAny_cons h2 (fun _ => kitAny_nil) (fun z => nomatch z)) (fun z => nomatch z)
    · exact kitAny_cons h1 (fun _ => kitAny_cons h2 (fun z => nomatch z) (fun _ => rfl)) (fun z => nomatch z)
  · exact kitAny_cons h1 (fun z => nomatch z) (fun _ => rfl)
theorem isiSeqOk (kf : KitF K) : UnOk K (fun x H Q => 2 ≤ sizeLine ∧ ∀ p, H p = none → rIsiT K [x, .ref p] (upd H p (.tup [.ty "list", .ty "tuple"])) Q) isiSeq := by
  intro H L x d1 d Q R f1 e k
  refine ⟨(by decide), fun p hp => ?_⟩
  have R := R.same (Same.put (o := .tup [.ty "list", .ty "tuple"]) hp)
  have he : (upd H p (.tup [.ty "list", .ty "tuple"])) p = some (.tup [.ty "list", .ty "tuple"]) := upd_same
  generalize upd H p (.tup [.ty "list", .ty "tuple"]) = H2 at R he
  have rat : ∀ q : Rat, d1 = .rat q → rIsiT K [x, .ref p] H2 Q := by
    rintro q rfl
    cases e
    exact ⟨_, p, _, _, _, false, rfl, he, .cons (.ty "list") (.cons (.ty "tuple") .nil), tyD_rat kf R, seqKit kf.rt_list kf.rt_tuple, k _ _ R.bl⟩
  have oth : ∀ t, tyD d1 = some t → d = .bl (t == "list" || t == "tuple") → rIsiT K [x, .ref p] H2 Q := by
    rintro t ht rfl
    have hm := tyD_mem ht
    have z1 := kit_tys (K := K) t hm "list" (by simp)
    have z2 := kit_tys (K := K) t hm "tuple" (by simp)
    have z3 : (t == "list" || (t == "bool" && "list" == "int") || (t == "tuple" || (t == "bool" && "tuple" == "int"))) = (t == "list" || t == "tuple") := by
      simp only [List.mem_cons, List.not_mem_nil, or_false] at hm
      rcases hm with rfl | rfl | rfl | rfl | rfl | rfl <;> decide
    have z4 := seqKit z1 z2
    rw [z3] at z4
    exact ⟨_, p, _, _, _, _, rfl, he, .cons (.ty "list") (.cons (.ty "tuple") .nil), tyD_ok R ht, z4, k _ _ R.bl⟩
  cases d1 with
  | rat q => exact rat q rfl
  | tab ds => simp [D.frz, isiSeq, tyD] at e
  | non => cases e; exact oth _ rfl rfl
  | bl b => cases e; exact oth _ rfl rfl
  | int i => cases e; exact oth _ rfl rfl
  | str z => cases e; exact oth _ rfl rfl
  | lst o ds => cases e; exact oth _ rfl rfl
  | tup o ds => cases e; exact oth _ rfl rfl
/-- one operand, whatever is done to it -/
theorem un_of {r : V → Hp → VK → Prop} {g : D → Option D} (ok : UnOk K r g) {σ : L2.St} {H : Hp} {Q : VK} (h : tD K (un1 g f) σ H Q) : tD K f σ H fun x H1 => r x H1 Q := by
  have z := consA_of (opN_of ok.call h)
  refine L2.PE.tDmono z fun x H1 q => ?_
  obtain ⟨x', e, q⟩ := nilA_of q
  cases e
  exact q
theorem pd_isiTy (kf : KitF X.K) {T : String} (hT : T ∈ ["int", "bool", "list", "tuple"]) (h : PE X a (tCB (rIsi X.K) (tCons (tD X.K f) (tCons (tC (.ty T)) tNil)))) : PE X a (tD X.K (un1 (isiTy T) f)) := h.of fun σ H Q q => un_of (isiTyOk kf hT) q
theorem pd_isiR (kf : KitF X.K) (h : PE X a (tCB (rIsi X.K) (tCons (tD X.K f) (tCons (tC (.ref (CR X.K))) tNil)))) : PE X a (tD X.K (un1 isiR f)) := h.of fun σ H Q q => un_of (isiROk kf) q
theorem pd_isiSeq (kf : KitF X.K) (h : PE X a (tCB (rIsiT X.K) (tCons (tD X.K f) (tCons (tTup (tCons (tC (.ty "list")) (tCons (tC (.ty "tuple")) tNil))) tNil)))) : PE X a (tD X.K (un1 isiSeq f)) := h.of fun σ H Q q => un_of (isiSeqOk kf) q
/-! ### getters -/
def topD : D → Option D
  | .rat q => some (.int q.num)
  | _ => none
def botD : D → Option D
  | .rat q => some (.int q.den)
  | _ => none
def sgnI (i : Int) : Int := if i = 0 then 0 else if i > 0 then 1 else -1
def signD : D → Option D
  | .rat q => some (.int (sgnI q.num))
  | _ => none
def wholeD : D → Option D
  | .rat q => some (.bl (decide ((q.den : Int) = 1)))
  | _ => none
/-- what a getter of Ratio does: G tells it of the pair -/
def spGet (K : Frag) (G : Int × Int → V) : Sp := fun vs H Q _ => ∃ a q, vs = [.ref a] ∧ RatAt (CR K) H a q ∧ Q (G q) H
theorem frz_rat {d : D} {q : Rat} (h : d.frz = .rat q) : d = .rat q := by cases d <;> simp_all [D.frz]
theorem getOk {G : Int × Int → V} {g : D → Option D} {E : XK} (hg : ∀ d, g d = none ∨ ∃ q : Rat, d = .rat q ∧ ∃ z, g d = some z ∧ ∀ C T H A, RD C T H A z (G (pr q)) []) :
    UnOk K (fun x H Q => ∃ a dx fs, x = .ref a ∧ H a = some (.ins (CR K) dx fs) ∧ spGet K G (.ref a :: []) H Q E) g := by
  intro H L x d1 d Q R f1 e k
  rcases hg d1.frz with z | ⟨q, z1, z, z2, z3⟩
  · rw [z] at e; cases e
  · have hd := frz_rat z1
    subst hd
    have z2' : g (D.rat q) = some z := z2
    have e' : g (D.rat q) = some d := e
    rw [z2'] at e'
    cases e'
    obtain ⟨a, rfl, r⟩ := rk_rat R
    obtain ⟨dx, ea⟩ := id r
    exact ⟨a, dx, _, rfl, ea, a, _, rfl, r, k _ _ (R.add fun A => z3 _ _ _ A)⟩
theorem pd_get {G : Int × Int → V} {g : D → Option D} {E : XK} (hg : ∀ d, g d = none ∨ ∃ q : Rat, d = .rat q ∧ ∃ z, g d = some z ∧ ∀ C T H A, RD C T H A z (G (pr q)) [])
    (h : PE X a (tProp (CR X.K) (spGet X.K G) [] E (tD X.K f))) : PE X a (tD X.K (un1 g f)) := h.of fun σ H Q q => un_of (getOk hg) q
theorem top_g : ∀ d, topD d = none ∨ ∃ q : Rat, d = .rat q ∧ ∃ z, topD d = some z ∧ ∀ C T H A, RD C T H A z ((fun p : Int × Int => V.int p.1) (pr q)) [] := by
  intro d
  cases d <;> first | exact .inl rfl | exact .inr ⟨_, rfl, _, rfl, fun _ _ _ _ => ⟨rfl, rfl⟩⟩
theorem bot_g : ∀ d, botD d = none ∨ ∃ q : Rat, d = .rat q ∧ ∃ z, botD d = some z ∧ ∀ C T H A, RD C T H A z ((fun p : Int × Int => V.int p.2) (pr q)) [] := by
  intro d
  cases d <;> first | exact .inl rfl | exact .inr ⟨_, rfl, _, rfl, fun _ _ _ _ => ⟨rfl, rfl⟩⟩
theorem sign_g : ∀ d, signD d = none ∨ ∃ q : Rat, d = .rat q ∧ ∃ z, signD d = some z ∧ ∀ C T H A, RD C T H A z ((fun p : Int × Int => V.int (sgnI p.1)) (pr q)) [] := by
  intro d
  cases d <;> first | exact .inl rfl | exact .inr ⟨_, rfl, _, rfl, fun _ _ _ _ => ⟨rfl, rfl⟩⟩
theorem whole_g : ∀ d, wholeD d = none ∨ ∃ q : Rat, d = .rat q ∧ ∃ z, wholeD d = some z ∧ ∀ C T H A, RD C T H A z ((fun p : Int × Int => V.bl (decide (p.2 = 1))) (pr q)) [] := by
  intro d
  cases d <;> first | exact .inl rfl | exact .inr ⟨_, rfl, _, rfl, fun _ _ _ _ => ⟨rfl, rfl⟩⟩
/-! ### Ratio(..) -/
def mkN : List D → Option D
  | [.int t] => some (.rat (t : Rat))
  | [.int t, .int b] => if b = 0 ∨ 8000 < szI b then none else some (.rat (Rat.divInt t b))
  | _ => none
/-- what Ratio(..) is read as; dvs the defaults -/
def rMk (K : Frag) (sp : Sp) (dvs : List V) (E : XK) : List V → Hp → VK → Prop := fun vs H Q => ∀ x dx, H x = none → H dx = none → dx ≠ x → sp (.ref x :: (vs ++ dvs)) (upd (upd H dx (.own x)) x (.ins (CR K) dx [])) (fun v H2 => v = .non ∧ Q (.ref x) H2) E
/-- what __init__ promises of the fresh object -/
def MkOk (K : Frag) (sp : Sp) (E : XK) : Prop := ∀ (H : Hp) (t b : Int) (Q : VK), b ≠ 0 → Sz 8000 b → (∀ x H2, Same H H2 → RatAt (CR K) H2 x (nrm t b) → Q (.ref x) H2) →
  ∀ x dx, H x = none → H dx = none → dx ≠ x → sp [.ref x, .int t, .int b] (upd (upd H dx (.own x)) x (.ins (CR K) dx [])) (fun v H2 => v = .non ∧ Q (.ref x) H2) E
theorem zip1 {xs : List V} {d : D} (l : xs.length = [d].length) : ∃ x, xs = [x] := by
  match xs, l with
  | [x], _ => exact ⟨x, rfl⟩
theorem zip2 {xs : List V} {d e : D} (l : xs.length = [d, e].length) : ∃ x y, xs = [x, y] := by
  match xs, l with
  | [x, y], _ => exact ⟨x, y, rfl⟩
theorem frzs_inv1 {ds : List D} {d : D} (h : frzs ds = [d]) : ∃ d', ds = [d'] ∧ d'.frz = d := by
  match ds, h with
  | [d'], h => simp [frzs] at h; exact ⟨d', rfl, h⟩
  | [], h => simp [frzs] at h
  | _ :: _ :: _, h => simp [frzs] at h
theorem frzs_inv2 {ds : List D} {d e : D} (h : frzs ds = [d, e]) : ∃ d' e', ds = [d', e'] ∧ d'.frz = d ∧ e'.frz = e := by
  match ds, h with
  | [d', e'], h => simp [frzs] at h; exact ⟨d', e', rfl, h.1, h.2⟩
  | [], h => simp [frzs] at h
  | [_], h => simp [frzs] at h
  | _ :: _ :: _ :: _, h => simp [frzs] at h
theorem frz_int {d : D} {i : Int} (h : d.frz = .int i) : d = .int i := by cases d <;> simp_all [D.frz]
theorem mk1Ok {sp : Sp} {E : XK} (ok : MkOk K sp E) : CallOk K (fun vs H Q => vs.length = 1 ∧ rMk K sp [.int 1] E vs H Q) (fun ds => match ds with | [.int t] => mkN [.int t] | _ => none) := by
  intro H L xs ds d Q R l f e k
  have : ∃ t, frzs ds = [.int t] ∧ d = .rat (t : Rat) := by
    generalize frzs ds = z at e
    match z, e with
    | [.int t], e => cases e; exact ⟨t, rfl, rfl⟩
  obtain ⟨t, h1, rfl⟩ := this
  obtain ⟨d', rfl, h2⟩ := frzs_inv1 h1
  cases frz_int h2
  obtain ⟨x, rfl⟩ := zip1 l
  have hx : x = .int t := rk_int R
  subst hx
  refine ⟨rfl, fun x dx nx ndx ne => ok H t 1 Q (by decide) (by unfold Sz; decide +kernel) (fun x H2 s r => k _ _ (R.rat s ?_)) x dx nx ndx ne⟩
  have z : nrm t 1 = pr (t : Rat) := by
    unfold nrm
    rw [if_neg (by decide)]
    simp [pr]
  rw [← z]
  exact r
theorem mk2Ok {sp : Sp} {E : XK} (ok : MkOk K sp E) : CallOk K (fun vs H Q => vs.length = 2 ∧ rMk K sp [] E vs H Q) (fun ds => match ds with | [.int t, .int b] => mkN [.int t, .int b] | _ => none) := by
  intro H L xs ds d Q R l f e0 k
  have : ∃ t b, frzs ds = [.int t, .int b] ∧ mkN [.int t, .int b] = some d := by
    generalize frzs ds = z at e0
    match z, e0 with
    | [.int t, .int b], e => exact ⟨t, b, rfl, e⟩
  obtain ⟨t, b, h1, e⟩ := this
  obtain ⟨d', e', rfl, h2, h3⟩ := frzs_inv2 h1
  cases frz_int h2
  cases frz_int h3
  obtain ⟨x, y, rfl⟩ := zip2 l
  have hx : x = .int t := rk_int R
  have hy : y = .int b := rk_int (Rep.tail (e := .v x (.int t)) R)
  subst hx
  subst hy
  have e2 : (if b = 0 ∨ 8000 < szI b then none else some (D.rat (Rat.divInt t b))) = some d := e
  clear e e0
  split at e2
  · cases e2
  · rename_i hs
    cases e2
    refine ⟨rfl, fun x dx nx ndx ne => ok H t b Q (fun z => hs (.inl z)) (sz_le (szI_sz _) (by omega)) (fun x H2 s r => k _ _ (R.rat s ?_)) x dx nx ndx ne⟩
    rw [nrm_pr fun z => hs (.inl z)] at r
    exact r
def mkD (n : Nat) : List D → Option D := fun ds => if n = 1 then (match ds with | [.int t] => mkN [.int t] | _ => none) else (match ds with | [.int t, .int b] => mkN [.int t, .int b] | _ => none)
theorem pd_mk1 {sp : Sp} {E : XK} (ok : MkOk X.K sp E) (h : PE X a (tMake (CR X.K) sp [.int 1] E (tDA X.K ft))) : PE X a (tD X.K (opN (mkD 1) ft)) := h.of fun σ H Q q => by
  have z := opN_of (mk1Ok ok) q
  obtain ⟨env, L, avs, env', R, e, k⟩ := z
  exact ⟨env, L, avs, env', R, e, fun xs H' r s => (k xs H' r s).2⟩
theorem pd_mk2 {sp : Sp} {E : XK} (ok : MkOk X.K sp E) (h : PE X a (tMake (CR X.K) sp [] E (tDA X.K ft))) : PE X a (tD X.K (opN (mkD 2) ft)) := h.of fun σ H Q q => by
  have z := opN_of (mk2Ok ok) q
  obtain ⟨env, L, avs, env', R, e, k⟩ := z
  exact ⟨env, L, avs, env', R, e, fun xs H' r s => (k xs H' r s).2⟩
end
end Dx

set_option Elab.async false
set_option linter.all false
set_option maxRecDepth 100000
set_option maxHeartbeats 4000000
namespace Dx
open PySem PySem.Spec PyProof.Rows L2 Own
open PySem.W (Frag)
section
variable {X : Cx} {K : Frag} {H H' : Hp} {σ σ' : L2.St} {L Lp M : List Ent} {pn ts : List Nat} {env env' e2 : Env} {x y : V} {d : D} {f fa fb fc fk : DE} {ft : DA} {g : DS} {a b c e : Expr} {pos : Pos}
/-! ### methods of a Ratio with one argument, with none -/
def meD (g : D → D → Option D) (fa fb : DE) : DE := fun env => (fa env).bind fun p => match p.1 with
  | .t (.rat q) => (fb p.2).bind fun s => (toF s.1 s.2).bind fun r => (g (.rat q) r.1).bind fun z => some (.t z, r.2)
  | _ => none
theorem rk_ins {q : Rat} (R : Rk K H (.v x (.rat q) :: L)) : ∃ a dx, x = .ref a ∧ H a = some (.ins (CR K) dx (rf q.num q.den)) := by
  obtain ⟨a, rfl, dx, e⟩ := rk_rat R
  exact ⟨a, dx, rfl, e⟩
theorem pd_me1 {m : Str} {sp : Sp} {E : XK} {g : D → D → Option D} (ok : OpOk X.K (fun x y H Q => sp [x, y] H Q E) g) (h1 : ¬ m = "_bottom") (h2 : ¬ m = "_top")
    (h : PE X a (tMeth (CR X.K) m sp [] E (tD X.K fa) (tDA X.K (consA fb nilA)))) : PE X a (tD X.K (meD g fa fb)) := h.of fun σ H Q ⟨env, L, av, env', R, e, k⟩ => by
  obtain ⟨⟨a1, e1⟩, q1, e⟩ := bs e
  dsimp only at e
  split at e
  · rename_i q
    obtain ⟨⟨a2, e2⟩, q2, e⟩ := bs e
    obtain ⟨⟨d2, e3⟩, q3, e⟩ := bs e
    obtain ⟨z, q4, e⟩ := bs e
    cases e
    refine ⟨env, L, _, e1, R, q1, fun x H1 R1 s1 => ?_⟩
    obtain ⟨E1, sl, r⟩ := id R1
    have r1 : Rk X.K H1 (.v x (.rat q) :: (E1 ++ L)) := r.perm List.perm_middle
    obtain ⟨p, dx, rfl, ep⟩ := rk_ins r1
    refine ⟨p, dx, _, rfl, ep, rf_no _ _ h1 h2, e1, .v (.ref p) (.rat q) :: L, [a2], e2, R1, by simp only [consA, nilA, q2, Option.bind_some], fun vs H2 R2 s2 => ?_⟩
    obtain ⟨y, ys, rfl, s2, s3⟩ := s2
    cases (show ys = [] from s3)
    obtain ⟨R3, f3⟩ := toF_ok (show Sk X.K H2 σ e2 (avE a2 y ++ (.v (.ref p) (.rat q) :: L)) from R2) s2 q3
    obtain ⟨E3, sl3, r3⟩ := R3
    have r4 : Rk X.K H2 (.v (.ref p) (.rat q) :: .v y d2 :: (E3 ++ L)) := r3.perm (pc fun z => by simp only [List.count_append, List.count_cons]; omega)
    show sp [.ref p, y] H2 Q E
    refine ok H2 (E3 ++ L) _ _ _ _ z Q r4 rfl (fz_kf f3) (by rw [fz_frz _ f3]; exact q4) fun v H3 r5 => k v H3 ⟨E3, sl3, ?_⟩ trivial
    exact Rep.right (L := [.v (.ref p) (.rat q), .v y d2]) (r5.perm (pc fun z => by simp only [avE, List.count_append, List.count_cons, List.count_nil]; omega))
  · cases e
def me0D (g : D → Option D) (fa : DE) : DE := fun env => (fa env).bind fun p => match p.1 with
  | .t (.rat q) => (g (.rat q)).bind fun z => some (.t z, p.2)
  | _ => none
theorem pd_me0 {m : Str} {sp : Sp} {E : XK} {g : D → Option D} (ok : UnOk X.K (fun x H Q => sp [x] H Q E) g) (h1 : ¬ m = "_bottom") (h2 : ¬ m = "_top")
    (h : PE X a (tMeth (CR X.K) m sp [] E (tD X.K fa) tNil)) : PE X a (tD X.K (me0D g fa)) := h.of fun σ H Q ⟨env, L, av, env', R, e, k⟩ => by
  obtain ⟨⟨a1, e1⟩, q1, e⟩ := bs e
  dsimp only at e
  split at e
  · rename_i q
    obtain ⟨z, q4, e⟩ := bs e
    cases e
    refine ⟨env, L, _, _, R, q1, fun x H1 R1 s1 => ?_⟩
    obtain ⟨E1, sl, r⟩ := id R1
    have r1 : Rk X.K H1 (.v x (.rat q) :: (E1 ++ L)) := r.perm List.perm_middle
    obtain ⟨p, dx, rfl, ep⟩ := rk_ins r1
    refine ⟨p, dx, _, rfl, ep, rf_no _ _ h1 h2, ?_⟩
    show sp [.ref p] H1 Q E
    refine ok H1 (E1 ++ L) _ _ z Q r1 rfl q4 fun v H3 r5 => k v H3 ⟨E1, sl, ?_⟩ trivial
    exact Rep.right (L := [.v (.ref p) (.rat q)]) (r5.perm (pc fun z => by simp only [avE, List.count_append, List.count_cons, List.count_nil]; omega))
  · cases e
def overD : D → D → Option D
  | .rat p, .rat q => if q = 0 then none else rr (· / ·) p q
  | .rat p, .int j => if j = 0 then none else rr (· / ·) p j
  | _, _ => none
def unsD : D → Option D
  | .rat q => if szR q ≤ 7900 then some (.rat (if q.num < 0 then -q else q)) else none
  | _ => none
def cmpD (f : Rat → Rat → Bool) : D → D → Option D
  | .rat p, .rat q => if szR p + szR q ≤ 7900 then some (.bl (f p q)) else none
  | .rat p, .int j => if szR p + szR j ≤ 7900 then some (.bl (f p j)) else none
  | _, _ => none
/-! ### calls by keyword -/
theorem _root_.L2.PK.of {kws : List Keyword} {t t' : TA} (h : PK X kws t) (k : ∀ σ H Q, t' σ H Q → t σ H Q) : PK X kws t' := ⟨fun pos pins s σ H Q I q => h.run pos pins s σ H Q I (k _ _ _ q)⟩
theorem pdk_nil : PK X [] (tDA X.K nilA) := pk_nil.of fun σ H Q h => nilA_of h
theorem pdk_cons {kws : List Keyword} {nm : Option Str} {kpos : Pos} (ha : PE X e (tD X.K f)) (hr : PK X kws (tDA X.K ft)) : PK X (⟨nm, e, kpos⟩ :: kws) (tDA X.K (consA f ft)) := (pk_cons ha hr).of fun σ H Q h => consA_of h
def pick {α : Type} (π : List Nat) (l : List α) : List α := π.filterMap (l[·]?)
theorem pick_range {α : Type} (l : List α) : pick (List.range l.length) l = l := by
  unfold pick
  induction l with
  | nil => rfl
  | cons x l ih =>
    rw [List.length_cons, List.range_succ_eq_map, List.filterMap_cons]
    simp only [List.getElem?_cons_zero, List.filterMap_map]
    congr 1
theorem pick_perm {α : Type} {π : List Nat} {l : List α} (h : π.Perm (List.range l.length)) : (pick π l).Perm l := by
  have := h.filterMap (l[·]?)
  rw [show (List.range l.length).filterMap (l[·]?) = l from pick_range l] at this
  exact this
theorem pick_len {α : Type} {π : List Nat} {l : List α} (h : π.Perm (List.range l.length)) : (pick π l).length = l.length := (pick_perm h).length_eq
theorem pick_zip {α β : Type} (π : List Nat) : ∀ {a : List α} {b : List β}, a.length = b.length → (pick π a).zip (pick π b) = pick π (a.zip b) := by
  induction π with
  | nil => intros; rfl
  | cons i π ih =>
    intro a b h
    unfold pick at ih ⊢
    by_cases hi : i < a.length
    · have e1 : a[i]? = some a[i] := List.getElem?_eq_getElem hi
      have e2 : b[i]? = some (b[i]'(h ▸ hi)) := List.getElem?_eq_getElem (h ▸ hi)
      have e3 : (a.zip b)[i]? = some (a[i], b[i]'(h ▸ hi)) := by
        rw [List.getElem?_zip_eq_some]
        exact ⟨e1, e2⟩
      rw [List.filterMap_cons_some e1, List.filterMap_cons_some e2, List.filterMap_cons_some e3, List.zip_cons_cons, ih h]
    · have e1 : a[i]? = none := List.getElem?_eq_none (by omega)
      have e2 : b[i]? = none := List.getElem?_eq_none (by omega)
      have e3 : (a.zip b)[i]? = none := List.getElem?_eq_none (by rw [List.length_zip]; omega)
      rw [List.filterMap_cons_none e1, List.filterMap_cons_none e2, List.filterMap_cons_none e3, ih h]
theorem avsS_len : ∀ {as : List AV} {xs : List V}, avsS σ as xs → as.length = xs.length
  | [], xs, h => by rw [show xs = [] from h]; rfl
  | a :: as, xs, ⟨x, ys, e, _, h⟩ => by rw [e]; simp [avsS_len h]
theorem avsE_zip : ∀ {as : List AV} {xs : List V}, as.length = xs.length → (avsE as xs).Perm ((as.zip xs).flatMap fun p => avE p.1 p.2)
  | [], [], _ => .refl _
  | [], _ :: _, h => by simp at h
  | _ :: _, [], h => by simp at h
  | a :: as, x :: xs, h => by
    show (avsE as xs ++ avE a x).Perm _
    rw [List.zip_cons_cons, List.flatMap_cons]
    exact List.perm_append_comm.trans ((avsE_zip (by simpa using h)).append_left _)
theorem avsS_zip : ∀ {as : List AV} {xs : List V}, avsS σ as xs ↔ as.length = xs.length ∧ ∀ p ∈ as.zip xs, avS σ p.1 p.2
  | [], [] => by simp [avsS]
  | [], _ :: _ => by simp [avsS]
  | _ :: _, [] => by simp [avsS]
  | a :: as, x :: xs => by
    constructor
    · rintro ⟨y, ys, e, h1, h2⟩
      cases e
      obtain ⟨h3, h4⟩ := avsS_zip.mp h2
      refine ⟨by simp [h3], fun p hp => ?_⟩
      rw [List.zip_cons_cons] at hp
      rcases List.mem_cons.mp hp with rfl | hp
      · exact h1
      · exact h4 p hp
    · rintro ⟨h1, h2⟩
      rw [List.zip_cons_cons] at h2
      exact ⟨x, xs, rfl, h2 _ List.mem_cons_self, avsS_zip.mpr ⟨by simpa using h1, fun p hp => h2 p (List.mem_cons_of_mem _ hp)⟩⟩
theorem avsE_app {as bs : List AV} {xs ys : List V} (l1 : as.length = xs.length) (l2 : bs.length = ys.length) : (avsE (as ++ bs) (xs ++ ys)).Perm (avsE bs ys ++ avsE as xs) := by
  refine (avsE_zip (by simp [l1, l2])).trans ?_
  rw [List.zip_append l1, List.flatMap_append]
  exact List.perm_append_comm.trans ((avsE_zip l2).symm.append (avsE_zip l1).symm)
def callKF (fl : List Bool) (m : FM) (π : List Nat) (n j : Nat) (ft fk : DA) : DE := fun env => (ft env).bind fun p => (fk p.2).bind fun q => if p.1.length = n ∧ q.1.length = j then
    (argsD fl (pick π (p.1 ++ q.1)) q.2).bind fun r => (m r.1).bind fun s => some (.t s.1, backA fl (pick π (p.1 ++ q.1)) s.2 r.2)
  else none
theorem callK_of {N n j : Nat} {π : List Nat} {fl : List Bool} {m : FM} {E : XK} {tk : DA} (hn : fl.length = N) (hπ : π.isPerm (List.range (n + j)) = true) {Q : VK} (h : tD K (callKF fl m π n j ft tk) σ H Q) :
    tCallN n j (spF K N fl m) (fun vs zs => pick π (vs ++ zs)) E (tDA K ft) (tDA K tk) σ H Q := by
  obtain ⟨env, L, av, env', R, e, k⟩ := h
  obtain ⟨⟨as, e1⟩, h1, e⟩ := bs e
  obtain ⟨⟨bs', e2⟩, h2, e⟩ := bs e
  dsimp only at e
  split at e
  · rename_i hl
    obtain ⟨⟨ds, e3⟩, h3, e⟩ := bs e
    obtain ⟨r, h5, e⟩ := bs e
    cases e
    refine ⟨env, L, as, e1, R, h1, fun vs H1 R1 s1 => ⟨e1, avsE as vs ++ L, bs', e2, R1, h2, fun zs H2 R2 s2 => ?_⟩⟩
    have l1 := avsS_len s1
    have l2 := avsS_len s2
    refine ⟨by rw [← l1]; exact hl.1, by rw [← l2]; exact hl.2, ?_⟩
    have pm : π.Perm (List.range (as ++ bs').length) := by
      rw [List.length_append, hl.1, hl.2]
      exact List.isPerm_iff.mp hπ
    have lz : (as ++ bs').length = (vs ++ zs).length := by simp [l1, l2]
    have pm2 : π.Perm (List.range (vs ++ zs).length) := lz ▸ pm
    have s3 : avsS σ (as ++ bs') (vs ++ zs) := avsS_zip.mpr ⟨lz, fun p hp => by
      rw [List.zip_append l1] at hp
      rcases List.mem_append.mp hp with hp | hp
      · exact (avsS_zip.mp s1).2 p hp
      · exact (avsS_zip.mp s2).2 p hp⟩
    have lp : (pick π (as ++ bs')).length = (pick π (vs ++ zs)).length := by rw [pick_len pm, pick_len pm2, lz]
    have s4 : avsS σ (pick π (as ++ bs')) (pick π (vs ++ zs)) := avsS_zip.mpr ⟨lp, fun p hp => by
      rw [pick_zip π lz] at hp
      have pz : π.Perm (List.range ((as ++ bs').zip (vs ++ zs)).length) := by
        rw [List.length_zip, ← lz, Nat.min_self]
        exact pm
      exact (avsS_zip.mp s3).2 p ((pick_perm pz).mem_iff.mp hp)⟩
    have pE : (avsE bs' zs ++ avsE as vs).Perm (avsE (pick π (as ++ bs')) (pick π (vs ++ zs))) := by
      have pz : π.Perm (List.range ((as ++ bs').zip (vs ++ zs)).length) := by
        rw [List.length_zip, ← lz, Nat.min_self]
        exact pm
      refine (avsE_app l1 l2).symm.trans ((avsE_zip lz).trans ?_)
      refine List.Perm.trans ?_ (avsE_zip lp).symm
      rw [pick_zip π lz]
      exact (List.Perm.flatMap_right _ (pick_perm pz)).symm
    have R3 : Sk K H2 σ e2 (avsE (pick π (as ++ bs')) (pick π (vs ++ zs)) ++ L) := by
      have z : Sk K H2 σ e2 (avsE bs' zs ++ (avsE as vs ++ L)) := R2
      refine z.perm ?_
      rw [← List.append_assoc]
      exact pE.append_right L
    exact call_of hn R3 s4 h3 h5 fun v H' R' => k v H' R' trivial
  · cases e
theorem pd_fnK {N n j : Nat} {π : List Nat} {fl : List Bool} {m : FM} {E : XK} {tk : DA} (hn : fl.length = N) (hπ : π.isPerm (List.range (n + j)) = true)
    (h : PE X a (tCallN n j (spF X.K N fl m) (fun vs zs => pick π (vs ++ zs)) E (tDA X.K ft) (tDA X.K tk))) : PE X a (tD X.K (callKF fl m π n j ft tk)) := h.of fun σ H Q q => callK_of hn hπ q
/-! ### several names at once -/
def parS2 (i j : Nat) (ft : DA) : DS := fun env => (ft env).bind fun p => (toTs p.1 p.2).bind fun q => match q.1 with
  | [a, b] => if i < q.2.length ∧ j < q.2.length then some (.nx ((q.2.set i (some a)).set j (some b))) else none
  | _ => none
theorem sd_par2 {st : Stmt} {i j : Nat} (h : PS X st (tPar i j (tDA X.K ft))) (hi : pn.contains i = false := by rfl) (hj : pn.contains j = false := by rfl) : PS X st (tDS X.K pn (parS2 i j ft)) := h.of fun D0 σ H ⟨env, L, out, R, e, k⟩ => by
  obtain ⟨⟨as, e1⟩, h1, e⟩ := bs e
  obtain ⟨⟨ds, e2⟩, h2, e⟩ := bs e
  dsimp only at e
  split at e
  · rename_i a b
    split at e
    · rename_i hl
      cases e
      refine ⟨env, L, as, e1, R, h1, fun xs H1 R1 s1 => ?_⟩
      obtain ⟨R2, l⟩ := toTs_ok R1 s1 h2
      match xs, l with
      | [v, w], _ =>
        refine ⟨v, w, rfl, ?_⟩
        have R3 : Sk X.K H1 σ e2 (.v v a :: .v w b :: L) := R2
        have R4 := R3.store hl.1
        have R5 := R4.store (i := j) (by rw [List.length_set]; exact hl.2)
        refine k _ H1 R5 ((Pn.set fun z => ?_).trans (Pn.set fun z => ?_))
        · rw [List.contains_iff_mem.mpr z] at hi; cases hi
        · rw [List.contains_iff_mem.mpr z] at hj; cases hj
    · cases e
  · cases e
def parS3 (i j l : Nat) (ft : DA) : DS := fun env => (ft env).bind fun p => (toTs p.1 p.2).bind fun q => match q.1 with
  | [a, b, c] => if i < q.2.length ∧ j < q.2.length ∧ l < q.2.length then some (.nx (((q.2.set i (some a)).set j (some b)).set l (some c))) else none
  | _ => none
theorem sd_par3 {st : Stmt} {i j l : Nat} (h : PS X st (tPar3 i j l (tDA X.K ft))) (hi : pn.contains i = false := by rfl) (hj : pn.contains j = false := by rfl) (hk : pn.contains l = false := by rfl) : PS X st (tDS X.K pn (parS3 i j l ft)) := h.of fun D0 σ H ⟨env, L, out, R, e, k⟩ => by
  obtain ⟨⟨as, e1⟩, h1, e⟩ := bs e
  obtain ⟨⟨ds, e2⟩, h2, e⟩ := bs e
  dsimp only at e
  split at e
  · rename_i a b c
    split at e
    · rename_i hl
      cases e
      refine ⟨env, L, as, e1, R, h1, fun xs H1 R1 s1 => ?_⟩
      obtain ⟨R2, ll⟩ := toTs_ok R1 s1 h2
      match xs, ll with
      | [u, v, w], _ =>
        refine ⟨u, v, w, rfl, ?_⟩
        have R3 : Sk X.K H1 σ e2 (.v u a :: .v v b :: .v w c :: L) := R2
        have R4 := R3.store hl.1
        have R5 := R4.store (i := j) (by rw [List.length_set]; exact hl.2.1)
        have R6 := R5.store (i := l) (by rw [List.length_set, List.length_set]; exact hl.2.2)
        refine k _ H1 R6 (((Pn.set fun z => ?_).trans (Pn.set fun z => ?_)).trans (Pn.set fun z => ?_))
        · rw [List.contains_iff_mem.mpr z] at hi; cases hi
        · rw [List.contains_iff_mem.mpr z] at hj; cases hj
        · rw [List.contains_iff_mem.mpr z] at hk; cases hk
    · cases e
  · cases e
/-! ### least <= x <= most -/
def intF (f : DE) : Env → Option (Int × Env) := fun env => (f env).bind fun p => match p.1 with
  | .t (.int i) => some (i, p.2)
  | _ => none
def chainT (p1 p2 : Int → Int → Bool) (fa fb fc : DE) : DT := fun env => (intF fa env).bind fun a => (intF fb a.2).bind fun b => if p1 a.1 b.1 then (intF fc b.2).bind fun c => some (p2 b.1 c.1, c.2) else some (false, b.2)
theorem intF_of {i : Int} {Q : VK} (R : Sk K H σ env L) (h : intF f env = some (i, env')) (k : ∀ H', Sk K H' σ env' L → Q (.int i) H') : tD K f σ H Q := by
  obtain ⟨⟨av, e1⟩, h1, e⟩ := bs h
  dsimp only at e
  split at e
  · cases e
    refine ⟨env, L, _, _, R, h1, fun x H' R' _ => ?_⟩
    obtain ⟨rfl, R2⟩ := int_out R'
    exact k H' R2
  · cases e
theorem ptd_chain {r r' : R2} {p1 p2 : Int → Int → Bool} (h1 : ∀ i j H Q, Q (.bl (p1 i j)) H → r (.int i) (.int j) H Q) (h2 : ∀ i j H Q, Q (.bl (p2 i j)) H → r' (.int i) (.int j) H Q)
    (h : PT X a (tTest (tChain r r' (tD X.K fa) (tD X.K fb) (tD X.K fc)))) : PT X a (tDT X.K (chainT p1 p2 fa fb fc)) := h.of fun σ H Q ⟨env, L, b, env', R, e, k⟩ => by
  obtain ⟨⟨i, e1⟩, q1, e⟩ := bs e
  obtain ⟨⟨j, e2⟩, q2, e⟩ := bs e
  dsimp only at e
  refine intF_of R q1 fun H1 R1 => intF_of R1 q2 fun H2 R2 => h1 _ _ _ _ ⟨_, rfl, ?_⟩
  split at e
  · rename_i hp
    obtain ⟨⟨l, e3⟩, q3, e⟩ := bs e
    cases e
    rw [if_pos hp]
    exact intF_of R2 q3 fun H3 R3 => h2 _ _ _ _ ⟨_, rfl, k H3 R3⟩
  · rename_i hp
    cases e
    rw [if_neg hp]
    exact ⟨_, rfl, k H2 R2⟩
theorem ped_chain {r r' : R2} {p1 p2 : Int → Int → Bool} (h1 : ∀ i j H Q, Q (.bl (p1 i j)) H → r (.int i) (.int j) H Q) (h2 : ∀ i j H Q, Q (.bl (p2 i j)) H → r' (.int i) (.int j) H Q)
    (h : PE X a (tChain r r' (tD X.K fa) (tD X.K fb) (tD X.K fc))) : PE X a (tD X.K fun env => (chainT p1 p2 fa fb fc env).bind fun p => some (.t (.bl p.1), p.2)) := h.of fun σ H Q ⟨env, L, av, env', R, e, k⟩ => by
  obtain ⟨⟨b, e0⟩, q0, e⟩ := bs e
  cases e
  obtain ⟨⟨i, e1⟩, q1, e⟩ := bs q0
  obtain ⟨⟨j, e2⟩, q2, e⟩ := bs e
  dsimp only at e
  have fin : ∀ H3, Sk X.K H3 σ e0 L → Q (.bl b) H3 := fun H3 R3 => k _ H3 (RS.lift (M := []) (M' := [.v (.bl b) (.bl b)]) R3 fun L' z => z.bl) trivial
  refine intF_of R q1 fun H1 R1 => intF_of R1 q2 fun H2 R2 => h1 _ _ _ _ ⟨_, rfl, ?_⟩
  split at e
  · rename_i hp
    obtain ⟨⟨l, e3⟩, q3, e⟩ := bs e
    cases e
    rw [if_pos hp]
    exact intF_of R2 q3 fun H3 R3 => h2 _ _ _ _ (fin H3 R3)
  · rename_i hp
    cases e
    rw [if_neg hp]
    exact fin H2 R2
end
end Dx

set_option Elab.async false
set_option linter.all false
set_option maxRecDepth 100000
set_option maxHeartbeats 4000000
namespace Dx
open PySem PySem.Spec PyProof.Rows L2 Own
open PySem.W (Frag)
section
variable {X : Cx} {K : Frag} {H H' : Hp} {σ σ' : L2.St} {L Lp M : List Ent} {pn ts : List Nat} {env env' e2 : Env} {x y : V} {d : D} {f fa fb fc fk : DE} {ft : DA} {g : DS} {a b c e : Expr} {pos : Pos}
theorem Sl.setN {v : Option V} : ∀ {σ : L2.St} {env : Env} {E : List Ent}, Sl σ env E → ∀ {j : Nat}, env[j]? = some none → Sl (σ.set j v) env E := by
  intro σ env E h
  induction h with
  | nil => intro j e; simp at e
  | @un x σ env E h ih =>
    intro j e
    cases j with
    | zero => exact .un h
    | succ j => exact .un (ih (by simpa using e))
  | @so x d σ env E h ih =>
    intro j e
    cases j with
    | zero => simp at e
    | succ j => exact .so (ih (by simpa using e))
theorem RS.setN {C T : Addr} {j : Nat} {v : Option V} (h : RS C T H σ env L) (e : env[j]? = some none) : RS C T H (σ.set j v) env L := by
  obtain ⟨E, s, r⟩ := h
  exact ⟨E, s.setN e, r⟩
theorem zipE_put {xs : List V} {ds : List D} : ∀ {i : Nat} {x : V} {d : D}, xs[i]? = some x → ds[i]? = some d → ∃ M M', zipE xs ds = M ++ .v x d :: M' ∧ ∀ d', zipE xs (ds.set i d') = M ++ .v x d' :: M' := by
  induction xs generalizing ds with
  | nil => intro i x d h; simp at h
  | cons y ys ih =>
    intro i x d h h'
    cases ds with
    | nil => simp at h'
    | cons e es =>
      cases i with
      | zero =>
        simp at h h'
        subst h
        subst h'
        exact ⟨[], zipE ys es, rfl, fun d' => rfl⟩
      | succ i =>
        obtain ⟨M, M', q, q2⟩ := ih (i := i) (by simpa using h) (by simpa using h')
        exact ⟨.v y e :: M, M', by rw [zipE, q]; rfl, fun d' => by
          rw [List.set_cons_succ, zipE, q2]
          rfl⟩
def app1 : D → Option D
  | .lst true us => if us.length < LMAX then some (.lst true (us ++ [.non])) else none
  | _ => none
def appAll : List D → Option (List D)
  | [] => some []
  | d :: ds => (app1 d).bind fun e => (appAll ds).map (e :: ·)
theorem appAll_at : ∀ {ds es : List D}, appAll ds = some es → ds.length = es.length ∧ ∀ (i : Nat) d, ds[i]? = some d → ∃ e, es[i]? = some e ∧ app1 d = some e
  | [], es, h => by cases h; exact ⟨rfl, fun i d e => by simp at e⟩
  | d :: ds, es, h => by
    obtain ⟨e, h1, h⟩ := bs h
    cases h2 : appAll ds with
    | none => rw [h2] at h; cases h
    | some es' =>
      rw [h2] at h
      cases h
      obtain ⟨l, k⟩ := appAll_at h2
      refine ⟨by simp [l], fun i d' e' => ?_⟩
      cases i with
      | zero => cases e'; exact ⟨e, rfl, h1⟩
      | succ i => exact k i d' e'
def forAppS (i j : Nat) : DS := fun env => if i = j then none else (ownL i env).bind fun ds => (appAll ds).bind fun es => if j < env.length then some (.nx ((env.set j none).set i (some (.lst true es)))) else none
theorem item_app {xs : List V} {ds : List D} {i : Nat} {x : V} {d e : D} (R : Rk K H (zipE xs ds ++ L)) (hx : xs[i]? = some x) (hd : ds[i]? = some d) (ha : app1 d = some e) :
    ∃ b ys, x = .ref b ∧ H b = some (.lst ys) ∧ ys.length < sizeLine ∧ Rk K (upd H b (.lst (ys ++ [.non]))) (zipE xs (ds.set i e) ++ L) := by
  obtain ⟨M, M', q, q2⟩ := zipE_put hx hd
  unfold app1 at ha
  split at ha
  · rename_i us
    split at ha
    · rename_i hl
      cases ha
      rw [q] at R
      have R1 : Rk K H (.v x (D.seq false true us) :: (M ++ (M' ++ L))) := R.perm (pc fun z => by
        simp only [List.count_append, List.count_cons, D.seq, Bool.false_eq_true, if_false]; omega)
      obtain ⟨b, ys, rfl, hb, l, _, R2⟩ := R1.open_
      refine ⟨b, ys, rfl, hb, Nat.lt_of_lt_of_le (show ys.length < 10000 by rw [l]; exact hl) (szl (Nat.le_refl _)), ?_⟩
      have R3 : Rk K (upd H b (.lst (ys ++ [.non]))) (.cell b false (ys ++ [.non]) :: (zipE ys us ++ (M ++ (M' ++ L)))) := Rep.set (t := false) (t' := false) R2
      have R4 : Rk K (upd H b (.lst (ys ++ [.non]))) (.v .non .non :: .cell b false (ys ++ [.non]) :: (zipE ys us ++ (M ++ (M' ++ L)))) := R3.non
      have R5 : Rk K (upd H b (.lst (ys ++ [.non]))) (Dx.hd true false b (ys ++ [.non]) :: (zipE (ys ++ [.non]) (us ++ [.non]) ++ (M ++ (M' ++ L)))) := R4.perm (pc fun z => by
        rw [zipE_snoc l]
        simp only [Dx.hd, if_true, List.count_append, List.count_cons, List.count_nil]; omega)
      have R6 := R5.close (t := false) (o := true) (by simp [l]) (fun z => nomatch z)
      rw [q2]
      exact R6.perm (pc fun z => by
        simp only [List.count_append, List.count_cons, D.seq, Bool.false_eq_true, if_false]; omega)
    · cases ha
  · cases ha
theorem sd_forApp {i j : Nat} {st : Stmt} (h : PS X st (tFor (iList X.K (tVar i)) (gName j) (tDrop (tBM X.K "list" rAppend (tVar j) (tCons (tC .non) tNil))))) (hi : pn.contains i = false := by rfl) (hj : pn.contains j = false := by rfl) : PS X st (tDS X.K pn (forAppS i j)) := h.of fun D0 σ H ⟨env, L, out, R, e, k⟩ => by
  unfold forAppS at e
  split at e
  · cases e
  rename_i hij
  obtain ⟨ds, h1, e⟩ := bs e
  obtain ⟨es, h2, e⟩ := bs e
  split at e
  · rename_i hjl
    cases e
    obtain ⟨la, le⟩ := appAll_at h2
    have R0 := R.clear j
    have ej : (env.set j none)[j]? = some none := List.getElem?_set_self hjl
    have ei : ownL i (env.set j none) = some ds := by
      unfold ownL at h1 ⊢
      rw [List.getElem?_set_ne (fun z => hij z.symm)]
      exact h1
    obtain ⟨p, xs, hx, hp, lx, R1⟩ := sk_own R0 ei
    have ej2 : ((env.set j none).set i none)[j]? = some none := by rw [List.getElem?_set_ne hij]; exact ej
    have hil : i < (env.set j none).length := (List.getElem?_eq_some_iff.mp (ownL_of ei)).1
    refine ⟨.ref p, hx, p, rfl, ⟨xs, SqL.of hp⟩, for_list (K := X.K) (a := p) (xs := xs) (fun n σ' H' => Pn pn σ σ' ∧ σ'[i]? = some (some (.ref p)) ∧ Sk X.K H' σ' ((env.set j none).set i none) (.cell p false xs :: (zipE xs (es.take n ++ ds.drop n) ++ L)))
      ⟨Pn.refl σ, hx, by rw [List.take_zero, List.drop_zero]; exact R1⟩ (fun n σ' H' _ ⟨_, _, z⟩ => ?_) ?_ ?_⟩
    · obtain ⟨E, s, r⟩ := z
      have r1 : Rk X.K H' (.cell p false xs :: (E ++ (zipE xs (es.take n ++ ds.drop n) ++ L))) := r.perm List.perm_middle
      exact SqL.of r1.cellAt
    · rintro n x σ' H' hxn ⟨p1, hx1, z⟩
      have hn : n < xs.length := (List.getElem?_eq_some_iff.mp hxn).1
      have hdn : ds[n]? = some ds[n] := List.getElem?_eq_getElem (by omega)
      obtain ⟨en, hen, hap⟩ := le n _ hdn
      have hcur : (es.take n ++ ds.drop n)[n]? = some ds[n] := by
        rw [List.getElem?_append_right (by rw [List.length_take]; omega), List.length_take, Nat.min_eq_left (by omega), Nat.sub_self, List.getElem?_drop, Nat.add_zero]
        exact hdn
      have z2 := RS.setN (v := some x) z ej2
      obtain ⟨E, s, r⟩ := z2
      have r1 : Rk X.K H' (zipE xs (es.take n ++ ds.drop n) ++ (.cell p false xs :: (E ++ L))) := r.perm (pc fun q => by
        simp only [List.count_append, List.count_cons]; omega)
      obtain ⟨b, ys, rfl, hb, hys, r2⟩ := item_app r1 hxn hcur hap
      have hset : (es.take n ++ ds.drop n).set n en = es.take (n + 1) ++ ds.drop (n + 1) := by
        rw [List.set_append_right _ _ (by rw [List.length_take]; omega), List.length_take, Nat.min_eq_left (by omega), Nat.sub_self]
        rw [take_more hen, List.append_assoc]
        congr 1
        rw [List.drop_eq_getElem_cons (by omega), List.set_cons_zero]
        rfl
      rw [hset] at r2
      refine ⟨.ref b, List.getElem?_set_self ?_, tyl hb, b, ys, _, rfl, rfl, hb, hys, (p1.trans (Pn.set fun q => ?_)), ?_, E, s, ?_⟩
      · have := s.len
        rw [List.length_set, List.length_set, List.length_set] at this
        omega
      · rw [List.contains_iff_mem.mpr q] at hj; cases hj
      · rw [List.getElem?_set_ne (fun q => hij q.symm)]
        exact hx1
      · exact r2.perm (pc fun q => by simp only [List.count_append, List.count_cons]; omega)
    · rintro σ' H' ⟨p1, hx1, z⟩
      rw [lx, la, List.take_length, ← la, List.drop_length, List.append_nil] at z
      have z2 := sk_shut z (by rw [ownL_of ei]; simp) hx1 (by rw [lx, la])
      exact k σ' H' z2 p1
  · cases e
end
end Dx

set_option Elab.async false
set_option linter.all false
set_option maxRecDepth 100000
set_option maxHeartbeats 4000000
namespace Dx
open PySem PySem.Spec PyProof.Rows L2 Own
open PySem.W (Frag)
/-! ### the promises of Ratio's methods -/
def spBin (K : Frag) (f : Int × Int → Int × Int → Int × Int) : Sp := fun vs H Q _ => ∃ a v x y n m, vs = [.ref a, v] ∧ RatAt (CR K) H a x ∧ NumV (CR K) H v y ∧ OkP n x ∧ OkP m y ∧ 0 < n ∧ 0 < m ∧ n + m ≤ 7900 ∧
  ∀ p H2, Same H H2 → RatAt (CR K) H2 p (f x y) → Q (.ref p) H2
def spRef (K : Frag) (f : Int × Int → Int × Int → Int × Int) : Sp := fun vs H Q _ => ∃ a i x n m, vs = [.ref a, .int i] ∧ RatAt (CR K) H a x ∧ OkP n x ∧ OkP m (i, 1) ∧ 0 < n ∧ 0 < m ∧ n + m ≤ 7900 ∧
  ∀ p H2, Same H H2 → RatAt (CR K) H2 p (f x (i, 1)) → Q (.ref p) H2
def spUn (K : Frag) (f : Int × Int → Int × Int) : Sp := fun vs H Q _ => ∃ a x n, vs = [.ref a] ∧ RatAt (CR K) H a x ∧ OkP n x ∧ n ≤ 8000 ∧ ∀ p H2, Same H H2 → RatAt (CR K) H2 p (f x) → Q (.ref p) H2
def spEqq (K : Frag) : Sp := fun vs H Q _ => ∃ a b x y, vs = [.ref a, .ref b] ∧ RatAt (CR K) H a x ∧ RatAt (CR K) H b y ∧ ∀ H', Ext H H' → Q (.bl (decide (x = y))) H'
theorem _root_.L2.OpR.of {X : Cx} {f : Value → Value → Sem Value} {r r' : R2} (h : OpR X f r) (k : ∀ x y H Q, r' x y H Q → r x y H Q) : OpR X f r' := fun pins s σ H x y v u Q I rx ry q => h pins s σ H x y v u Q I rx ry (k _ _ _ _ q)
theorem _root_.L2.UnR.of {X : Cx} {f : Value → Sem Value} {r r' : V → Hp → VK → Prop} (h : UnR X f r) (k : ∀ x H Q, r' x H Q → r x H Q) : UnR X f r' := fun pins s σ H x v Q I rx q => h pins s σ H x v Q I rx (k _ _ _ q)
section
variable {X : Cx} {K : Frag}
theorem okp_szR (q : Rat) : OkP (szR q) (pr q) := szR_ok q
theorem rb_of {f : Rat → Rat → Rat} {F : Int × Int → Int × Int → Int × Int} {o : Value → Value → Sem Value} {E E2 : XK} {G : Int × Int → Int × Int → Int × Int} (hF : ∀ p q : Rat, F (pr p) (pr q) = pr (f p q)) (hG : ∀ p q : Rat, G (pr p) (pr q) = pr (f q p))
    (h1 : OpR X o (rBoth (CR X.K) (spBin X.K F) E)) (h2 : OpR X o (rLeft (CR X.K) (spBin X.K F) E)) (h3 : OpR X o (rRight (CR X.K) (spRef X.K G) E2)) : OpR X o (rRB X.K f) := by
  refine (h1.or (h2.or h3)).of fun x y H Q ⟨p, q, u, v, nx, ny, uv, hs, k⟩ => ?_
  cases nx with
  | int i =>
    cases ny with
    | int j => cases uv
    | rat hr =>
      obtain ⟨dx, e⟩ := id hr
      refine .inr (.inr ⟨_, dx, _, i, rfl, rfl, e, _, i, _, _, _, rfl, hr, okp_szR q, (by rw [← pr_int]; exact okp_szR _), szR_pos _, szR_pos _, by omega, fun a H' s r => k a H' s ?_⟩)
      rw [← hG]
      exact r
  | rat hl =>
    obtain ⟨dx, e⟩ := id hl
    cases ny with
    | int j =>
      refine .inr (.inl ⟨_, dx, _, j, rfl, rfl, e, _, _, _, _, _, _, rfl, hl, .inl ⟨j, rfl, (pr_int j)⟩, okp_szR p, okp_szR _, szR_pos _, szR_pos _, hs, fun a H' s r => k a H' s ?_⟩)
      rw [← hF]
      exact r
    | rat hr =>
      obtain ⟨dy, e2⟩ := id hr
      refine .inl ⟨_, dx, _, _, dy, _, rfl, rfl, e, e2, _, _, _, _, _, _, rfl, hl, .inr ⟨_, rfl, hr⟩, okp_szR p, okp_szR q, szR_pos _, szR_pos _, hs, fun a H' s r => k a H' s ?_⟩
      rw [← hF]
      exact r
theorem rn_of {o : Value → Sem Value} {E : XK} (h : UnR X o (rNeg (CR X.K) (spUn X.K negP) E)) : UnR X o (rRN X.K) := by
  refine h.of fun x H Q ⟨a, q, ex, r, hs, k⟩ => ?_
  obtain ⟨dx, e⟩ := id r
  refine ⟨a, dx, _, ex, e, a, _, _, by rw [ex], r, okp_szR q, by omega, fun p H' s r' => k p H' s ?_⟩
  rw [← negP_pr]
  exact r'
theorem ratOk_of (ha : OpR X (binaryOp .Add) (rRB X.K (· + ·))) (hs : OpR X (binaryOp .Sub) (rRB X.K (· - ·))) (hm : OpR X (binaryOp .Mult) (rRB X.K (· * ·))) (hn : UnR X (unaryOp .USub) (rRN X.K)) : RatOk X := ⟨ha, hs, hm, hn⟩
theorem addP_pr' (p q : Rat) : addP (pr p) (pr q) = pr (q + p) := by rw [addP_pr, Rat.add_comm]
theorem mulP_pr' (p q : Rat) : mulP (pr p) (pr q) = pr (q * p) := by rw [mulP_pr, Rat.mul_comm]
/-! == and != of two Ratios, from the method's promise -/
theorem dec_pr (p q : Rat) : decide (pr p = pr q) = decide (p = q) := by
  by_cases h : p = q
  · subst h; simp
  · rw [decide_eq_false h, decide_eq_false fun z => h (pr_inj z)]
theorem eq_run {CX : CXT} {n : Nat} {f : Addr} {fd : FuncData} {ps : List Str} {E : XK} (F : FnOk X.prog X.w X.K X.mg X.base CX n f fd ps (spEqq X.K)) (hb : Binds X.K fd ps []) (hx : Passes CX X E)
    {A : Around} {pins : List (Addr × Obj)} {s : Shared} {σ : L2.St} {H : Hp} {a c : Addr} {x y : Int × Int} (sb : Sub X n A) (I : Inv X pins σ H s) (ha : RatAt (CR X.K) H a x) (hc : RatAt (CR X.K) H c y) :
    wpAny (model X.prog X.w) A (call (.ref f) [.ref a, .ref c]) (fun r s' => r = .bool (decide (x = y)) ∧ ∃ H', Inv X pins σ H' s' ∧ Ext H H') X.xe s := by
  have hsp : spEqq X.K [.ref a, .ref c] H (fun v H' => v = .bl (decide (x = y)) ∧ Ext H H') E := ⟨a, c, x, y, rfl, ha, hc, fun H' e => ⟨rfl, e⟩⟩
  have hl := F.len _ _ _ _ hsp
  have ev := I.env0
  have ev2 : Env0 X.prog X.w X.K X.mg X.base A X.stack s H := ⟨by rw [sb.fr]; exact ev.frames, ev.mod, ev.bs, ev.bsz, ev.funs, ev.frf, ev.hok, ev.bare⟩
  have hbd := hb s [.ref a, .ref c] I.kIn (by simpa using hl)
  rw [List.append_nil] at hbd
  have run := F.run A X.stack s H ⟨[.ref a, .ref c], []⟩ [.ref a, .ref c] [.ref a, .ref c] _ E sb.room ev2 hbd (.cons rfl (.cons rfl .nil)) hsp
  refine wpAny_call (codeAny_mono run fun r s' hq => ?_)
  cases r with
  | error er => exact hx pins σ H s er s' I hq
  | ok fl =>
    cases fl with
    | next => exact hq.elim
    | brk => exact hq.elim
    | cont => exact hq.elim
    | ret w =>
      obtain ⟨z, H', I', rz, ez, ex⟩ := I.after hq
      subst ez
      have ew : w = .bool (decide (x = y)) := rz
      exact ⟨ew, H', I', ex⟩
theorem ratEq_of {CX : CXT} {n : Nat} {f : Addr} {fd : FuncData} {ps : List Str} {E : XK} (k : EqC X.K (CR X.K) f) (F : FnOk X.prog X.w X.K X.mg X.base CX n f fd ps (spEqq X.K)) (hb : Binds X.K fd ps []) (hx : Passes CX X E) : RatEq X (n + 1) where
  eq := fun p q A pins s σ H x y u v sb I rx ry ⟨a, c, ex, ey, ra, rc⟩ => by
    subst ex
    subst ey
    cases rx
    cases ry
    obtain ⟨dx, ea⟩ := id ra
    obtain ⟨dy, ec⟩ := id rc
    obtain ⟨mA, J, _⟩ := ins_get I.hok ea
    obtain ⟨mB, J2, _⟩ := ins_get I.hok ec
    obtain ⟨od, J, _⟩ := J.look
    obtain ⟨od2, J2, _⟩ := J2.look
    obtain ⟨m, hF⟩ := I.fr
    refine PySem.W.cmp_K (op := .Eq) (tb := .ref (CR X.K)) sb.room.units0 hF I.ok.mod.kin J J2.type k.n0 k.fnd k.isf ?_
    refine wpAny_mono (eq_run F hb hx (sb.mono (by omega)) I ra rc) (fun r s' q => ?_) fun _ _ z => z
    obtain ⟨rfl, q⟩ := q
    rw [dec_pr]
    exact ⟨rfl, q⟩
  ne := fun p q A pins s σ H x y u v sb I rx ry ⟨a, c, ex, ey, ra, rc⟩ => by
    subst ex
    subst ey
    cases rx
    cases ry
    obtain ⟨dx, ea⟩ := id ra
    obtain ⟨dy, ec⟩ := id rc
    obtain ⟨mA, J, _⟩ := ins_get I.hok ea
    obtain ⟨mB, J2, _⟩ := ins_get I.hok ec
    obtain ⟨od, J, _⟩ := J.look
    obtain ⟨od2, J2, _⟩ := J2.look
    refine own_ne (by have := sb.room.units; omega) I.kIn J J2 k.ne k.mro k.fnd k.isf ?_
    refine wpAny_mono (eq_run F hb hx sb.in1 I ra rc) (fun r s' q => ?_) fun _ _ z => z
    obtain ⟨rfl, q⟩ := q
    rw [dec_pr]
    exact ⟨_, rfl, rfl, q⟩
end
end Dx

set_option Elab.async false
set_option linter.all false
set_option maxRecDepth 100000
set_option maxHeartbeats 4000000
namespace K12
open PySem PySem.Spec PyProof.Rows L2 Own Dx
open PySem.W (Frag)
section
variable {P : Program} {w : World} {K : Frag} {mg : Str → Option Value} {base : Heap}
abbrev spTop (K : Frag) : Sp := spGet K fun p => .int p.1
abbrev spBot (K : Frag) : Sp := spGet K fun p => .int p.2
abbrev spSign (K : Frag) : Sp := spGet K fun p => .int (sgnI p.1)
abbrev spWhole (K : Frag) : Sp := spGet K fun p => .bl (decide (p.2 = 1))
def IntK (K : Frag) (H : Hp) (v : V) (r : Bool) : Prop := ∃ t b1 b2, TyX K H v t ∧ PySem.W.kitOne K t (.type "int") = some b1 ∧ PySem.W.kitOne K t (.type "bool") = some b2 ∧ r = (b1 && !b2)
theorem IntK.int {H : Hp} (i : Int) : IntK K H (.int i) true := ⟨_, true, false, .base (.int i), kit_ty (by decide +kernel), kit_ty (by decide +kernel), rfl⟩
theorem IntK.bl {H : Hp} (b : Bool) : IntK K H (.bl b) false := ⟨_, true, true, .base (.bl b), kit_ty (by decide +kernel), kit_ty (by decide +kernel), rfl⟩
theorem IntK.non {H : Hp} : IntK K H .non false := ⟨_, false, false, .base .non, kit_ty (by decide +kernel), kit_ty (by decide +kernel), rfl⟩
theorem IntK.str {H : Hp} (z : Str) : IntK K H (.str z) false := ⟨_, false, false, .base (.str z), kit_ty (by decide +kernel), kit_ty (by decide +kernel), rfl⟩
theorem IntK.lst {H : Hp} {a : Addr} {xs : List V} (e : H a = some (.lst xs)) : IntK K H (.ref a) false := ⟨_, false, false, .base (.lst e), kit_ty (by decide +kernel), kit_ty (by decide +kernel), rfl⟩
theorem IntK.tup {H : Hp} {a : Addr} {xs : List V} (e : H a = some (.tup xs)) : IntK K H (.ref a) false := ⟨_, false, false, .base (.tup e), kit_ty (by decide +kernel), kit_ty (by decide +kernel), rfl⟩
def spIsInt (K : Frag) : Sp := fun vs H Q _ => ∃ v r, vs = [v] ∧ IntK K H v r ∧ Q (.bl r) H
theorem ok_is_integer (T : Tx K mg) : FG P w K mg base CX0 1 (ga K "is_integer") (fdOf K (ga K "is_integer")) ["value"] (spIsInt K) := by
  refine fg_no T.F_is_integer sc_is_integer (fun vs H Q E h => ?_) (fun cdv A outer s H vs Q E gg hr h => ?_)
  · obtain ⟨v, r, rfl, _⟩ := h
    rfl
  · obtain ⟨v, r, rfl, ⟨t, b1, b2, ty, k1, k2, rfl⟩, k⟩ := h
    refine ⟨_, pss_one (ps_ret (pe_and (pe_callB call_isi (by rfl) T.n_isinstance (by decide +kernel) (pa_cons (pv 0) (pa_cons (pe_bltn (v := .ty "int") (by rfl) T.n_int (by decide +kernel) rfl) pa_nil)))
      (pe_one (pe_not (pe_callB call_isi (by rfl) T.n_isinstance (by decide +kernel) (pa_cons (pv 0) (pa_cons (pe_bltn (v := .ty "bool") (by rfl) T.n_bool (by decide +kernel) rfl) pa_nil))))))), ?_⟩
    refine ⟨_, rfl, _, _, _, _, _, rfl, .ty "int", ty, k1, _, rfl, ?_⟩
    cases b1 with
    | false => exact iteF k
    | true => exact iteT ⟨_, rfl, _, _, _, _, _, rfl, .ty "bool", ty, k2, _, rfl, k⟩
theorem nd_init : (["self", "top", "bottom", "value", "shared"] : List Str).Nodup := sc_Ratio_init.nd
def spInit (K : Frag) : Sp := fun vs H Q _ => ∃ (p dx : Addr) (t b : Int), vs = [.ref p, .int t, .int b] ∧ H p = some (.ins (CR K) dx []) ∧ b ≠ 0 ∧ Sz 8000 b ∧
  ∀ H2, RatAt (CR K) H2 p (nrm t b) → (∀ c o, H c = some o → c ≠ p → H2 c = some o) → Q .non H2
theorem ok_init (T : Tx K mg) : FG P w K mg base CX0 2 (ma K (CR K) "__init__") (fdOf K (ma K (CR K) "__init__")) ["self", "top", "bottom"] (spInit K) := by
  refine fg_no T.F_Ratio_init sc_Ratio_init (fun vs H Q E h => ?_) (fun cdv A outer s H vs Q E gg hr h => ?_)
  · obtain ⟨p, dx, t, b, rfl, _⟩ := h
    rfl
  · obtain ⟨p, dx, t, b, rfl, hp, hb0, hbs, k⟩ := h
    refine ⟨_, pss_cons (ps_for PassesOwn.never rfl (pi_tup (pe_tup (pa_cons (pv 1) (pa_cons (pv 2) pa_nil)))) (pg_name (i := 3) sc_Ratio_init.nd rfl (Or.inl rfl))
        (pss_one (ps_if (pt_not (pt_val (pe_fn (ok_is_integer T) gg hr rfl T.g_is_integer T.F_is_integer.kp (b_is_integer T) .nil pass0 (pa_cons (pv 3) pa_nil)))) (pss_one ps_never) pss_nil)))
      (pss_cons (ps_if (pt_cmpR op_eq (pv 2) pe_int (nomark _)) (pss_one ps_never) pss_nil)
      (pss_cons (ps_set (i := 4) sc_Ratio_init.nd rfl (Or.inl rfl) (pe_callBfun cr_gcd (by rfl) T.m_gcd (pa_cons (pv 1) (pa_cons (pv 2) pa_nil))))
      (pss_cons (ps_if (pt_cmpR op_lt (pv 2) pe_int (nomark _)) (pss_one (ps_set (i := 4) sc_Ratio_init.nd rfl (Or.inl rfl) (pe_un un_neg (pv 4)))) pss_nil)
      (pss_cons (ps_fld (pv 0) (pe_op op_fdivZ (pv 1) (pv 4)) rfl)
      (pss_one (ps_fld (pv 0) (pe_op op_fdivZ (pv 2) (pv 4)) rfl)))))), ?_⟩
    refine ⟨_, rfl, _, rfl, (by show 2 ≤ sizeLine; decide), fun tp htp => ?_⟩
    have npt : p ≠ tp := ne_of_none hp htp
    refine ⟨tp, rfl, ⟨_, SqT.of upd_same⟩, for_tup (K := K) (a := tp) (xs := [.int t, .int b]) (fun i σ H2 => H2 = upd H tp (.tup [.int t, .int b]) ∧ ∃ v, σ = [some (.ref p), some (.int t), some (.int b), v, none])
      ⟨rfl, none, rfl⟩ (fun i σ H2 _ ⟨e, _⟩ => by rw [e]; exact SqT.of upd_same) ?_ ?_⟩
    · rintro i x σ H2 hx ⟨rfl, v, rfl⟩
      have hxi : ∃ j, x = .int j := by
        match i, hx with
        | 0, hx => exact ⟨t, (Option.some.inj hx).symm⟩
        | 1, hx => exact ⟨b, (Option.some.inj hx).symm⟩
        | i + 2, hx => simp at hx
      obtain ⟨j, rfl⟩ := hxi
      refine ⟨_, rfl, _, true, rfl, IntK.int j, _, rfl, ?_⟩
      exact iteF ⟨rfl, _, rfl⟩
    · rintro σ H2 ⟨rfl, v, rfl⟩
      refine ⟨_, rfl, rfl, _, rfl, ?_⟩
      refine ite2 (fun z => ?_) (fun _ => ?_)
      · exact absurd (by simpa using z) hb0
      refine ⟨_, rfl, _, rfl, t, b, rfl, ?_⟩
      have g0 := gcd_pos' (t := t) hb0
      have gs : Sz 8000 ((Nat.gcd t.natAbs b.natAbs : Nat) : Int) := by
        show (Nat.gcd t.natAbs b.natAbs) < 2 ^ 8000
        exact Nat.lt_of_le_of_lt (Nat.gcd_le_right _ (by omega)) hbs
      have hp2 : (upd H tp (.tup [.int t, .int b])) p = some (.ins (CR K) dx []) := by rw [upd_ne npt]; exact hp
      have keep : ∀ o1 o2 c o, H c = some o → c ≠ p → (upd (upd (upd H tp (.tup [.int t, .int b])) p o1) p o2) c = some o := by
        intro o1 o2 c o e hc
        rw [upd_ne hc, upd_ne hc, upd_ne (ne_of_none e htp)]
        exact e
      refine ⟨_, rfl, _, _, rfl, rfl, _, rfl, ?_⟩
      refine ite2 (fun z => ?_) (fun z => ?_)
      · have hneg : b < 0 := of_decide_eq_true z
        refine ⟨_, rfl, _, rfl, ?_⟩
        refine ⟨_, rfl, _, rfl, _, _, rfl, rfl, ⟨by omega, ?_⟩, _, rfl, p, CR K, dx, _, rfl, hp2, T.cl_Ratio, T.na_top, (by show 0 < 1000; decide), ?_⟩
        · unfold Sz at *; omega
        refine ⟨_, rfl, _, rfl, _, _, rfl, rfl, ⟨by omega, ?_⟩, _, rfl, p, CR K, dx, _, rfl, upd_same, T.cl_Ratio, T.na_bottom, (by show 1 < 1000; decide), ?_⟩
        · unfold Sz at *; omega
        refine k _ ⟨dx, Eq.trans upd_same ?_⟩ (keep _ _)
        show some (HO.ins (CR K) dx _) = some (HO.ins (CR K) dx _)
        unfold nrm rf
        rw [if_pos hneg]
      · have hneg : ¬ b < 0 := fun q => z (decide_eq_true q)
        refine ⟨_, rfl, _, rfl, _, _, rfl, rfl, ⟨by omega, gs⟩, _, rfl, p, CR K, dx, _, rfl, hp2, T.cl_Ratio, T.na_top, (by show 0 < 1000; decide), ?_⟩
        refine ⟨_, rfl, _, rfl, _, _, rfl, rfl, ⟨by omega, gs⟩, _, rfl, p, CR K, dx, _, rfl, upd_same, T.cl_Ratio, T.na_bottom, (by show 1 < 1000; decide), ?_⟩
        refine k _ ⟨dx, Eq.trans upd_same ?_⟩ (keep _ _)
        show some (HO.ins (CR K) dx _) = some (HO.ins (CR K) dx _)
        unfold nrm rf
        rw [if_neg hneg]
theorem b_init2 (T : Tx K mg) : Binds K (fdOf K (ma K (CR K) "__init__")) ["self", "top", "bottom"] [] := by
  obtain ⟨ds, r, b⟩ := T.F_Ratio_init.binds1 (ps := ["self", "top", "bottom"]) 3 1 (by simp) rfl fun _ _ _ _ _ _ _ us its h1 h2 => match us, its, h1, h2 with | [_, _, _], [_], _, _ => ⟨_, rfl, rfl⟩
  cases r
  exact b
theorem b_init1 (T : Tx K mg) : ∃ ds, Vals [V.int 1] ds ∧ Binds K (fdOf K (ma K (CR K) "__init__")) ["self", "top", "bottom"] ds := 
  T.F_Ratio_init.binds1 (ps := ["self", "top", "bottom"]) 2 0 (by simp) rfl fun _ _ _ _ _ _ _ us its h1 h2 => match us, its, h1, h2 with | [_, _], [_], _, _ => ⟨_, rfl, rfl⟩
theorem mkR {H : Hp} {t b : Int} {Q : VK} (hb0 : b ≠ 0) (hbs : Sz 8000 b) (q : ∀ x H2, H x = none → Same H H2 → RatAt (CR K) H2 x (nrm t b) → Q (.ref x) H2) :
    ∀ x dx, H x = none → H dx = none → dx ≠ x → spInit K [.ref x, .int t, .int b] (upd (upd H dx (.own x)) x (.ins (CR K) dx [])) (fun v H2 => v = .non ∧ Q (.ref x) H2) E0 := by
  intro x dx nx ndx ne
  refine ⟨x, dx, t, b, rfl, upd_same, hb0, hbs, fun H2 R2 kp => ⟨rfl, q x H2 nx (Same.made nx ndx kp) R2⟩⟩
theorem ok_top (T : Tx K mg) : FG P w K mg base CX0 1 (gt K "Ratio" "top") (fdOf K (gt K "Ratio" "top")) ["self"] (spTop K) := by
  refine fg_no T.F_Ratio_top sc_Ratio_top (fun vs H Q E h => ?_) (fun cdv A outer s H vs Q E gg hr h => ?_)
  · obtain ⟨a, q, rfl, _⟩ := h
    rfl
  · obtain ⟨a, q, rfl, ⟨dx, e⟩, k⟩ := h
    exact ⟨_, pss_one (ps_ret (pe_fld (pv 0) rfl)), _, rfl, a, CR K, dx, _, _, rfl, e, T.cl_Ratio, T.na_top, rf_top _ _, k⟩
theorem ok_bottom (T : Tx K mg) : FG P w K mg base CX0 1 (gt K "Ratio" "bottom") (fdOf K (gt K "Ratio" "bottom")) ["self"] (spBot K) := by
  refine fg_no T.F_Ratio_bottom sc_Ratio_bottom (fun vs H Q E h => ?_) (fun cdv A outer s H vs Q E gg hr h => ?_)
  · obtain ⟨a, q, rfl, _⟩ := h
    rfl
  · obtain ⟨a, q, rfl, ⟨dx, e⟩, k⟩ := h
    exact ⟨_, pss_one (ps_ret (pe_fld (pv 0) rfl)), _, rfl, a, CR K, dx, _, _, rfl, e, T.cl_Ratio, T.na_bottom, rf_bottom _ _, k⟩
theorem nrm_one (i : Int) : nrm i 1 = (i, 1) := by
  unfold nrm
  rw [if_neg (by decide)]
  simp
def spAsR (K : Frag) : Sp := fun vs H Q _ => ∃ v q, vs = [v] ∧ NumV (CR K) H v q ∧ ∀ a H2, Same H H2 → RatAt (CR K) H2 a q → Q (.ref a) H2
theorem ok_as_ratio (T : Tx K mg) : FG P w K mg base CX0 4 (ga K "as_ratio") (fdOf K (ga K "as_ratio")) ["number"] (spAsR K) := by
  refine fg_no T.F_as_ratio sc_as_ratio (fun vs H Q E h => ?_) (fun cdv A outer s H vs Q E gg hr h => ?_)
  · obtain ⟨v, q, rfl, _⟩ := h
    rfl
  · obtain ⟨v, q, rfl, hv, k⟩ := h
    obtain ⟨ds, rd, bd⟩ := b_init1 T
    refine ⟨_, pss_cons (ps_if (pt_val (pe_callB call_isi (by rfl) T.n_isinstance (by decide +kernel) (pa_cons (pv 0) (pa_cons (pe_glob (v := .ref (CR K)) rfl T.g_Ratio rfl) pa_nil)))) (pss_one (ps_ret (pv 0))) pss_nil)
      (pss_one (ps_ret (pe_mk T.mk_Ratio (ok_init T) gg hr rfl T.g_Ratio bd rd pass0 (pa_cons (pv 0) pa_nil)))), ?_⟩
    rcases hv with ⟨i, rfl, rfl⟩ | ⟨a, rfl, R⟩
    · refine ⟨_, rfl, _, _, _, _, _, rfl, .own _, .base (.int i), T.ko_int, _, rfl, ?_⟩
      refine iteF ⟨_, rfl, ?_⟩
      exact mkR (by decide) (by unfold Sz; decide +kernel) fun x H2 nx s2 R2 => k x H2 s2 (by rw [nrm_one] at R2; exact R2)
    · obtain ⟨dx, e⟩ := R
      refine ⟨_, rfl, _, _, _, _, _, rfl, .own _, T.is_Ratio.ty T.cl_Ratio e, T.kk_Ratio, _, rfl, ?_⟩
      exact iteT ⟨_, rfl, k a H (Same.refl H) ⟨dx, e⟩⟩
theorem NumV.same {C : Addr} {H H2 : Hp} {v : V} {q : Int × Int} (h : NumV C H v q) (s : Same H H2) : NumV C H2 v q := by
  rcases h with h | ⟨a, e, R⟩
  · exact .inl h
  · exact .inr ⟨a, e, R.same s⟩
theorem spBin_len {f : Int × Int → Int × Int → Int × Int} {vs : List V} {H : Hp} {Q : VK} {E : XK} (h : spBin K f vs H Q E) : vs.length = 2 := by
  obtain ⟨a, v, x, y, n, m, rfl, _⟩ := h
  rfl
theorem mw {n m : Nat} {i j : Int} (h : Sz n i) (k : Sz m j) (hn : 0 < n) (hm : 0 < m) (hs : n + m ≤ 7900) : CMulW i j := sz_mulW h k hn hm (by omega)
theorem ok_add (T : Tx K mg) : FG P w K mg base CX0 5 (ma K (CR K) "__add__") (fdOf K (ma K (CR K) "__add__")) ["self", "other"] (spBin K addP) := by
  refine fg_no T.F_Ratio_add sc_Ratio_add (fun vs H Q E h => spBin_len h) (fun cdv A outer s H vs Q E gg hr h => ?_)
  obtain ⟨a, v, x, y, n, m, rfl, R, hv, ox, oy, n0, m0, hs, k⟩ := h
  refine ⟨_, pss_cons (ps_set (i := 2) sc_Ratio_add.nd rfl (Or.inl rfl) (pe_fn (ok_as_ratio T) gg (hr.mono (by decide)) rfl T.g_as_ratio T.F_as_ratio.kp (b_as_ratio T) .nil pass0 (pa_cons (pv 1) pa_nil)))
    (pss_cons (ps_set (i := 3) sc_Ratio_add.nd rfl (Or.inl rfl) (pe_op op_add
      (pe_op op_mulW (pe_fld (pv 0) rfl) (pe_pr (pv 2) T.cl_Ratio T.p_bottom (ok_bottom T) gg (hr.mono (by decide)) (b_Ratio_bottom T) .nil pass0))
      (pe_op op_mulW (pe_pr (pv 2) T.cl_Ratio T.p_top (ok_top T) gg (hr.mono (by decide)) (b_Ratio_top T) .nil pass0) (pe_fld (pv 0) rfl))))
    (pss_one (ps_ret (pe_mk T.mk_Ratio (ok_init T) gg (hr.mono (by decide)) rfl T.g_Ratio (b_init2 T) .nil pass0 (pa_cons (pv 3)
      (pa_cons (pe_op op_mulW (pe_fld (pv 0) rfl) (pe_pr (pv 2) T.cl_Ratio T.p_bottom (ok_bottom T) gg (hr.mono (by decide)) (b_Ratio_bottom T) .nil pass0)) pa_nil)))))), ?_⟩
  refine ⟨_, rfl, v, y, rfl, hv, fun r H2 s2 R2 => ?_⟩
  have R1 : RatAt (CR K) H2 a x := R.same s2
  obtain ⟨dx, e⟩ := id R1
  obtain ⟨dy, e2⟩ := id R2
  refine ⟨_, rfl, a, CR K, dx, _, _, rfl, e, T.cl_Ratio, T.na_top, rf_top _ _, _, rfl, r, dy, _, rfl, e2, r, y, rfl, R2, _, _, rfl, rfl, mw ox.st oy.sb n0 m0 hs, ?_⟩
  refine ⟨_, rfl, r, dy, _, rfl, e2, r, y, rfl, R2, _, rfl, a, CR K, dx, _, _, rfl, e, T.cl_Ratio, T.na_bottom, rf_bottom _ _, _, _, rfl, rfl, mw oy.st ox.sb m0 n0 (by omega), _, _, rfl, rfl, ?_⟩
  refine ⟨_, rfl, _, rfl, a, CR K, dx, _, _, rfl, e, T.cl_Ratio, T.na_bottom, rf_bottom _ _, _, rfl, r, dy, _, rfl, e2, r, y, rfl, R2, _, _, rfl, rfl, mw ox.sb oy.sb n0 m0 hs, ?_⟩
  exact mkR (Int.ne_of_gt (Int.mul_pos ox.pos oy.pos)) (sz_le (sz_mul ox.sb oy.sb) (by omega)) fun p H3 np s3 R3 => k p H3 (s2.trans s3) R3
theorem ok_sub (T : Tx K mg) : FG P w K mg base CX0 5 (ma K (CR K) "__sub__") (fdOf K (ma K (CR K) "__sub__")) ["self", "other"] (spBin K subP) := by
  refine fg_no T.F_Ratio_sub sc_Ratio_sub (fun vs H Q E h => spBin_len h) (fun cdv A outer s H vs Q E gg hr h => ?_)
  obtain ⟨a, v, x, y, n, m, rfl, R, hv, ox, oy, n0, m0, hs, k⟩ := h
  refine ⟨_, pss_cons (ps_set (i := 2) sc_Ratio_sub.nd rfl (Or.inl rfl) (pe_fn (ok_as_ratio T) gg (hr.mono (by decide)) rfl T.g_as_ratio T.F_as_ratio.kp (b_as_ratio T) .nil pass0 (pa_cons (pv 1) pa_nil)))
    (pss_cons (ps_set (i := 3) sc_Ratio_sub.nd rfl (Or.inl rfl) (pe_op op_sub
      (pe_op op_mulW (pe_fld (pv 0) rfl) (pe_pr (pv 2) T.cl_Ratio T.p_bottom (ok_bottom T) gg (hr.mono (by decide)) (b_Ratio_bottom T) .nil pass0))
      (pe_op op_mulW (pe_pr (pv 2) T.cl_Ratio T.p_top (ok_top T) gg (hr.mono (by decide)) (b_Ratio_top T) .nil pass0) (pe_fld (pv 0) rfl))))
    (pss_one (ps_ret (pe_mk T.mk_Ratio (ok_init T) gg (hr.mono (by decide)) rfl T.g_Ratio (b_init2 T) .nil pass0 (pa_cons (pv 3)
      (pa_cons (pe_op op_mulW (pe_fld (pv 0) rfl) (pe_pr (pv 2) T.cl_Ratio T.p_bottom (ok_bottom T) gg (hr.mono (by decide)) (b_Ratio_bottom T) .nil pass0)) pa_nil)))))), ?_⟩
  refine ⟨_, rfl, v, y, rfl, hv, fun r H2 s2 R2 => ?_⟩
  have R1 : RatAt (CR K) H2 a x := R.same s2
  obtain ⟨dx, e⟩ := id R1
  obtain ⟨dy, e2⟩ := id R2
  refine ⟨_, rfl, a, CR K, dx, _, _, rfl, e, T.cl_Ratio, T.na_top, rf_top _ _, _, rfl, r, dy, _, rfl, e2, r, y, rfl, R2, _, _, rfl, rfl, mw ox.st oy.sb n0 m0 hs, ?_⟩
  refine ⟨_, rfl, r, dy, _, rfl, e2, r, y, rfl, R2, _, rfl, a, CR K, dx, _, _, rfl, e, T.cl_Ratio, T.na_bottom, rf_bottom _ _, _, _, rfl, rfl, mw oy.st ox.sb m0 n0 (by omega), _, _, rfl, rfl, ?_⟩
  refine ⟨_, rfl, _, rfl, a, CR K, dx, _, _, rfl, e, T.cl_Ratio, T.na_bottom, rf_bottom _ _, _, rfl, r, dy, _, rfl, e2, r, y, rfl, R2, _, _, rfl, rfl, mw ox.sb oy.sb n0 m0 hs, ?_⟩
  exact mkR (Int.ne_of_gt (Int.mul_pos ox.pos oy.pos)) (sz_le (sz_mul ox.sb oy.sb) (by omega)) fun p H3 np s3 R3 => k p H3 (s2.trans s3) R3
theorem ok_mul (T : Tx K mg) : FG P w K mg base CX0 5 (ma K (CR K) "__mul__") (fdOf K (ma K (CR K) "__mul__")) ["self", "other"] (spBin K mulP) := by
  refine fg_no T.F_Ratio_mul sc_Ratio_mul (fun vs H Q E h => spBin_len h) (fun cdv A outer s H vs Q E gg hr h => ?_)
  obtain ⟨a, v, x, y, n, m, rfl, R, hv, ox, oy, n0, m0, hs, k⟩ := h
  refine ⟨_, pss_cons (ps_set (i := 2) sc_Ratio_mul.nd rfl (Or.inl rfl) (pe_fn (ok_as_ratio T) gg (hr.mono (by decide)) rfl T.g_as_ratio T.F_as_ratio.kp (b_as_ratio T) .nil pass0 (pa_cons (pv 1) pa_nil)))
    (pss_one (ps_ret (pe_mk T.mk_Ratio (ok_init T) gg (hr.mono (by decide)) rfl T.g_Ratio (b_init2 T) .nil pass0
      (pa_cons (pe_op op_mulW (pe_fld (pv 0) rfl) (pe_pr (pv 2) T.cl_Ratio T.p_top (ok_top T) gg (hr.mono (by decide)) (b_Ratio_top T) .nil pass0))
      (pa_cons (pe_op op_mulW (pe_fld (pv 0) rfl) (pe_pr (pv 2) T.cl_Ratio T.p_bottom (ok_bottom T) gg (hr.mono (by decide)) (b_Ratio_bottom T) .nil pass0)) pa_nil))))), ?_⟩
  refine ⟨_, rfl, v, y, rfl, hv, fun r H2 s2 R2 => ?_⟩
  have R1 : RatAt (CR K) H2 a x := R.same s2
  obtain ⟨dx, e⟩ := id R1
  obtain ⟨dy, e2⟩ := id R2
  refine ⟨_, rfl, a, CR K, dx, _, _, rfl, e, T.cl_Ratio, T.na_top, rf_top _ _, _, rfl, r, dy, _, rfl, e2, r, y, rfl, R2, _, _, rfl, rfl, mw ox.st oy.st n0 m0 hs, ?_⟩
  refine ⟨_, rfl, a, CR K, dx, _, _, rfl, e, T.cl_Ratio, T.na_bottom, rf_bottom _ _, _, rfl, r, dy, _, rfl, e2, r, y, rfl, R2, _, _, rfl, rfl, mw ox.sb oy.sb n0 m0 hs, ?_⟩
  exact mkR (Int.ne_of_gt (Int.mul_pos ox.pos oy.pos)) (sz_le (sz_mul ox.sb oy.sb) (by omega)) fun p H3 np s3 R3 => k p H3 (s2.trans s3) R3
theorem spRef_len {f : Int × Int → Int × Int → Int × Int} {vs : List V} {H : Hp} {Q : VK} {E : XK} (h : spRef K f vs H Q E) : vs.length = 2 := by
  obtain ⟨a, v, x, n, m, rfl, _⟩ := h
  rfl
theorem ok_radd (T : Tx K mg) : FG P w K mg base CX0 6 (ma K (CR K) "__radd__") (fdOf K (ma K (CR K) "__radd__")) ["self", "other"] (spRef K addP) := by
  refine fg_no T.F_Ratio_radd sc_Ratio_radd (fun vs H Q E h => spRef_len h) (fun cdv A outer s H vs Q E gg hr h => ?_)
  obtain ⟨a, i, x, n, m, rfl, R, ox, oy, n0, m0, hs, k⟩ := h
  obtain ⟨j1, j2, j3, j4⟩ := T.i_add
  obtain ⟨dx, e⟩ := id R
  exact ⟨_, pss_one (ps_ret (pe_op (og_left (op := .Add) j1 j3 j4 (ok_add T) gg hr (b_Ratio_add T) pass0) (pv 0) (pv 1))),
    _, rfl, _, rfl, a, dx, _, i, rfl, rfl, e, a, _, x, (i, 1), n, m, rfl, R, .inl ⟨i, rfl, rfl⟩, ox, oy, n0, m0, hs, k⟩
theorem ok_rmul (T : Tx K mg) : FG P w K mg base CX0 6 (ma K (CR K) "__rmul__") (fdOf K (ma K (CR K) "__rmul__")) ["self", "other"] (spRef K mulP) := by
  refine fg_no T.F_Ratio_rmul sc_Ratio_rmul (fun vs H Q E h => spRef_len h) (fun cdv A outer s H vs Q E gg hr h => ?_)
  obtain ⟨a, i, x, n, m, rfl, R, ox, oy, n0, m0, hs, k⟩ := h
  obtain ⟨j1, j2, j3, j4⟩ := T.i_mul
  obtain ⟨dx, e⟩ := id R
  exact ⟨_, pss_one (ps_ret (pe_op (og_left (op := .Mult) j1 j3 j4 (ok_mul T) gg hr (b_Ratio_mul T) pass0) (pv 0) (pv 1))),
    _, rfl, _, rfl, a, dx, _, i, rfl, rfl, e, a, _, x, (i, 1), n, m, rfl, R, .inl ⟨i, rfl, rfl⟩, ox, oy, n0, m0, hs, k⟩
theorem ok_rsub (T : Tx K mg) : FG P w K mg base CX0 6 (ma K (CR K) "__rsub__") (fdOf K (ma K (CR K) "__rsub__")) ["self", "other"] (spRef K fun x y => subP y x) := by
  refine fg_no T.F_Ratio_rsub sc_Ratio_rsub (fun vs H Q E h => spRef_len h) (fun cdv A outer s H vs Q E gg hr h => ?_)
  obtain ⟨a, i, x, n, m, rfl, R, ox, oy, n0, m0, hs, k⟩ := h
  obtain ⟨j1, j2, j3, j4⟩ := T.i_sub
  refine ⟨_, pss_one (ps_ret (pe_op (og_both (op := .Sub) j1 (ok_sub T) gg hr (b_Ratio_sub T) pass0)
    (pe_fn (ok_as_ratio T) gg (hr.mono (by decide)) rfl T.g_as_ratio T.F_as_ratio.kp (b_as_ratio T) .nil pass0 (pa_cons (pv 1) pa_nil)) (pv 0))), ?_⟩
  refine ⟨_, rfl, _, (i, 1), rfl, .inl ⟨i, rfl, rfl⟩, fun r H2 s2 R2 => ?_⟩
  obtain ⟨dr, e2⟩ := id R2
  have R1 := R.same s2
  obtain ⟨dx, e⟩ := id R1
  exact ⟨_, rfl, r, dr, _, a, dx, _, rfl, rfl, e2, e, r, _, (i, 1), x, m, n, rfl, R2, .inr ⟨a, rfl, R1⟩, oy, ox, m0, n0, by omega, fun p H3 s3 R3 => k p H3 (s2.trans s3) R3⟩
theorem ok_neg (T : Tx K mg) : FG P w K mg base CX0 4 (ma K (CR K) "__neg__") (fdOf K (ma K (CR K) "__neg__")) ["self"] (spUn K negP) := by
  refine fg_no T.F_Ratio_neg sc_Ratio_neg (fun vs H Q E h => ?_) (fun cdv A outer s H vs Q E gg hr h => ?_)
  · obtain ⟨a, x, n, rfl, _⟩ := h
    rfl
  obtain ⟨a, x, n, rfl, ⟨dx, e⟩, ox, hn, k⟩ := h
  refine ⟨_, pss_one (ps_ret (pe_mk T.mk_Ratio (ok_init T) gg hr rfl T.g_Ratio (b_init2 T) .nil pass0 (pa_cons (pe_un un_neg (pe_fld (pv 0) rfl)) (pa_cons (pe_fld (pv 0) rfl) pa_nil)))), ?_⟩
  refine ⟨_, rfl, a, CR K, dx, _, _, rfl, e, T.cl_Ratio, T.na_top, rf_top _ _, _, rfl, _, rfl, a, CR K, dx, _, _, rfl, e, T.cl_Ratio, T.na_bottom, rf_bottom _ _, ?_⟩
  exact mkR (Int.ne_of_gt ox.pos) (sz_le ox.sb hn) fun p H3 np s3 R3 => k p H3 s3 R3
theorem S_len {i : Int} (h : Tl i) : (S i).length ≤ 1921 := int_text_len_1921 h
theorem len_app (x y : Str) : (x ++ y).length = x.length + y.length := PySem.Str.length_append x y
theorem len_e : (Str.empty).length = 0 := rfl
def RT (K : Frag) : Addr → Str → Hp → Prop := fun a t H => ∃ q : Rat, RatAt (CR K) H a (pr q) ∧ t = toldR (pr q) ∧ Tl (pr q).1 ∧ Tl (pr q).2
theorem fo_repr (T : Tx K mg) : FnOk P w K mg base CX0 1 (ma K (CR K) "__repr__") (fdOf K (ma K (CR K) "__repr__")) ["self"] (spTell (RT K)) := by
  refine T.F_Ratio_repr.ok sc_Ratio_repr (fun vs H Q E h => ?_) (fun cdv A outer s H vs Q E hr h => ?_)
  · obtain ⟨a, t, rfl, _⟩ := h
    rfl
  obtain ⟨a, t, rfl, ⟨qq, ⟨dx, e⟩, rfl, t1, t2⟩, k0⟩ := h
  have k := k0 H Ext.rfl'
  obtain ⟨q, eq0⟩ : ∃ q, q = pr qq := ⟨_, rfl⟩
  rw [← eq0] at e t1 t2
  have k : Q (.str (toldR q)) H := by rw [eq0]; exact k
  refine ⟨_, pss_one (ps_ret (pe_joined (.cons pe_str (.cons (pe_fmt (pe_fld (pv 0) rfl)) (.cons pe_str (.cons (pe_fmt (pe_fld (pv 0) rfl)) (.cons pe_str .nil))))))), ?_⟩
  have l1 := S_len t1
  have l2 := S_len t2
  have l3 : (("Ratio(" : Str)).length = 6 := by decide +kernel
  have l4 : ((", " : Str)).length = 2 := by decide +kernel
  have l5 : ((")" : Str)).length = 1 := by decide +kernel
  refine ⟨"Ratio(", rfl, ?_, _, rfl, a, CR K, dx, _, _, rfl, e, T.cl_Ratio, T.na_top, rf_top _ _, .inr ⟨_, rfl, t1, S q.1, rfl, ?_, ", ", rfl, ?_, _, rfl, a, CR K, dx, _, _, rfl, e, T.cl_Ratio, T.na_bottom, rf_bottom _ _,
    .inr ⟨_, rfl, t2, S q.2, rfl, ?_, ")", rfl, ?_, k⟩⟩⟩
  · rw [len_app, len_e, l3]; exact szl (by omega)
  · rw [len_app, len_app, len_e, l3]; exact szl (by omega)
  · rw [len_app, len_app, len_app, len_e, l3, l4]; exact szl (by omega)
  · rw [len_app, len_app, len_app, len_app, len_e, l3, l4]; exact szl (by omega)
  · rw [len_app, len_app, len_app, len_app, len_app, len_e, l3, l4, l5]; exact szl (by omega)
theorem ratRep (T : Tx K mg) {X : Cx} (hK : X.K = K) (hp : X.prog = P) (hw : X.w = w) (hm : X.mg = mg) (hb : X.base = base) : RatRep X 1 := by
  subst hK hp hw hm hb
  have z : RepG X 1 (DOwn (CR X.K) (RT X.K)) := repG_own (fo_repr T) T.x_repr.1 T.x_repr.2 (b_Ratio_repr T) pass0
  refine ⟨fun A g pins s σ H x t as u base S hg hc I rx dr hbs => z A g pins s σ H x t as u base S hg hc I rx ?_ hbs⟩
  obtain ⟨a, q, e, ⟨dx, r⟩, h1, h2, h3⟩ := dr
  exact ⟨a, dx, _, e, r, q, ⟨dx, r⟩, h1, h2, h3⟩
theorem dec_pair (x y : Int × Int) : decide (x = y) = (decide (V.int x.1 = V.int y.1) && decide (V.int x.2 = V.int y.2)) := by
  obtain ⟨a, b⟩ := x
  obtain ⟨c, d⟩ := y
  by_cases h1 : a = c <;> by_cases h2 : b = d <;> simp [h1, h2]
theorem fo_eqq (T : Tx K mg) : FnOk P w K mg base CX0 1 (ma K (CR K) "__eq__") (fdOf K (ma K (CR K) "__eq__")) ["self", "other"] (spEqq K) := by
  refine T.F_Ratio_eq.ok sc_Ratio_eq (fun vs H Q E h => ?_) (fun cdv A outer s H vs Q E hr h => ?_)
  · obtain ⟨a, b, x, y, rfl, _⟩ := h
    rfl
  obtain ⟨a, b, x, y, rfl, ⟨dx, e⟩, ⟨dy, e2⟩, k⟩ := h
  refine ⟨_, pss_one (ps_ret (pe_and (pe_callB call_isi (by rfl) T.n_isinstance (by decide +kernel) (pa_cons (pv 1) (pa_cons (pe_glob (v := .ref (CR K)) rfl T.g_Ratio rfl) pa_nil)))
    (pe_and (pe_cmpR op_eq (pe_fld (pv 0) rfl) (pe_fld (pv 1) rfl) (nomark _)) (pe_one (pe_cmpR op_eq (pe_fld (pv 0) rfl) (pe_fld (pv 1) rfl) (nomark _)))))), ?_⟩
  refine ⟨_, rfl, _, _, _, _, _, rfl, .own _, T.is_Ratio.ty T.cl_Ratio e2, T.kk_Ratio, _, rfl, ?_⟩
  refine iteT ?_
  have k := k H Ext.rfl'
  rw [dec_pair] at k
  refine ⟨_, rfl, a, CR K, dx, _, _, rfl, e, T.cl_Ratio, T.na_top, rf_top _ _, _, rfl, b, CR K, dy, _, _, rfl, e2, T.cl_Ratio, T.na_top, rf_top _ _, rfl, _, rfl, ?_⟩
  refine ite2 (fun z => ?_) (fun z => ?_)
  · rw [z, Bool.true_and] at k
    exact ⟨_, rfl, a, CR K, dx, _, _, rfl, e, T.cl_Ratio, T.na_bottom, rf_bottom _ _, _, rfl, b, CR K, dy, _, _, rfl, e2, T.cl_Ratio, T.na_bottom, rf_bottom _ _, rfl, k⟩
  · have z2 : decide (V.int x.1 = V.int y.1) = false := by simpa using z
    rw [z2, Bool.false_and] at k
    exact k
theorem ratEq (T : Tx K mg) {X : Cx} (hK : X.K = K) (hp : X.prog = P) (hw : X.w = w) (hm : X.mg = mg) (hb : X.base = base) : RatEq X 2 := by
  subst hK hp hw hm hb
  exact ratEq_of T.q_Ratio (fo_eqq T) (b_Ratio_eq T) pass0
theorem kitF (T : Tx K mg) : KitF K := ⟨T.cl_Ratio, T.is_Ratio, T.kt_int, T.kt_bool, T.kt_list, T.kt_tuple, T.kk_Ratio, T.ko_int, T.ko_bool, T.ko_NoneType, T.ko_str, T.ko_list, T.ko_tuple⟩
theorem mkOk : MkOk K (spInit K) E0 := fun H t b Q h1 h2 q => mkR h1 h2 fun x H2 _ s r => q x H2 s r
theorem ratOk (T : Tx K mg) {X : Cx} (hK : X.K = K) (hp : X.prog = P) (hw : X.w = w) (hm : X.mg = mg) (hb : X.base = base) (gg : X.A.guards = some []) (hr : Room 6 X.A) : RatOk X := by
  subst hK hp hw hm hb
  refine ratOk_of ?_ ?_ ?_ ?_
  · exact rb_of addP_pr addP_pr' (og_both (op := .Add) T.i_add.1 (ok_add T) gg (hr.mono (by decide)) (b_Ratio_add T) pass0) (og_left (op := .Add) T.i_add.1 T.i_add.2.2.1 T.i_add.2.2.2 (ok_add T) gg (hr.mono (by decide)) (b_Ratio_add T) pass0) (og_addR T.i_add.2.1 (ok_radd T) gg hr (b_Ratio_radd T) pass0)
  · exact rb_of (G := fun x y => subP y x) subP_pr (fun p q => subP_pr q p) (og_both (op := .Sub) T.i_sub.1 (ok_sub T) gg (hr.mono (by decide)) (b_Ratio_sub T) pass0) (og_left (op := .Sub) T.i_sub.1 T.i_sub.2.2.1 T.i_sub.2.2.2 (ok_sub T) gg (hr.mono (by decide)) (b_Ratio_sub T) pass0) (og_subR T.i_sub.2.1 (ok_rsub T) gg hr (b_Ratio_rsub T) pass0)
  · exact rb_of mulP_pr mulP_pr' (og_both (op := .Mult) T.i_mul.1 (ok_mul T) gg (hr.mono (by decide)) (b_Ratio_mul T) pass0) (og_left (op := .Mult) T.i_mul.1 T.i_mul.2.2.1 T.i_mul.2.2.2 (ok_mul T) gg (hr.mono (by decide)) (b_Ratio_mul T) pass0) (og_mulR T.i_mul.2.1 (ok_rmul T) gg hr (b_Ratio_rmul T) pass0)
  · exact rn_of (og_neg T.x_neg.1 T.x_neg.2 (ok_neg T) gg (hr.mono (by decide)) (b_Ratio_neg T) pass0)
end
end K12

set_option Elab.async false
set_option linter.all false
set_option maxRecDepth 100000
set_option maxHeartbeats 4000000
namespace Dx
open PySem PySem.Spec PyProof.Rows L2 Own
open PySem.W (Frag)
/-! ### what is only read stays as it is -/
mutual
/-- every list and tuple within is one's own -/
def D.ow : D → Bool
  | .lst o ds => o && ows ds
  | .tup o ds => o && ows ds
  | .tab _ => false
  | .non => true
  | .bl _ => true
  | .int _ => true
  | .str _ => true
  | .rat _ => true
def ows : List D → Bool
  | [] => true
  | d :: ds => d.ow && ows ds
end
section
variable {C T : Addr} {H H' : Hp} {A A' : List Addr}
mutual
theorem RD.reA : ∀ (d : D) {x : V} {B : List Addr}, d.ow = true → RD C T H A d x B → (∀ a ∈ A', ∃ o, H a = some o ∧ SeqO o) → RD C T H A' d x B
  | .non, x, B, _, h, _ => h
  | .bl _, x, B, _, h, _ => h
  | .int _, x, B, _, h, _ => h
  | .str _, x, B, _, h, _ => h
  | .rat q, x, B, _, h, hA => by
    obtain ⟨a, e, na, ⟨dx, r⟩, b⟩ := h
    refine ⟨a, e, fun z => ?_, ⟨dx, r⟩, b⟩
    obtain ⟨o, h1, xs, h2⟩ := hA a z
    rw [r] at h1
    cases h1
    rcases h2 with h2 | h2 <;> cases h2
  | .lst o ds, x, B, w, h, hA => by
    obtain ⟨a, xs, B', e, ha, hs, f⟩ := h
    simp [D.ow] at w
    refine ⟨a, xs, B', e, ha, RDs.reA ds w.2 hs hA, ?_⟩
    rcases f with f | f
    · exact .inl f
    · rw [w.1] at f; cases f.1
  | .tup o ds, x, B, w, h, hA => by
    obtain ⟨a, xs, B', e, ha, hs, f⟩ := h
    simp [D.ow] at w
    refine ⟨a, xs, B', e, ha, RDs.reA ds w.2 hs hA, ?_⟩
    rcases f with f | f
    · exact .inl f
    · rw [w.1] at f; cases f.1
  | .tab _, x, B, w, _, _ => by simp [D.ow] at w
theorem RDs.reA : ∀ (ds : List D) {xs : List V} {B : List Addr}, ows ds = true → RDs C T H A ds xs B → (∀ a ∈ A', ∃ o, H a = some o ∧ SeqO o) → RDs C T H A' ds xs B
  | [], xs, B, _, h, _ => h
  | d :: ds, xs, B, w, ⟨x, xs', B1, B2, e, f, h1, h2⟩, hA => by
    simp [ows] at w
    exact ⟨x, xs', B1, B2, e, f, RD.reA d w.1 h1 hA, RDs.reA ds w.2 h2 hA⟩
end
end
def frzE (env : Env) : Env := env.map (Option.map D.frz)
def frzEnt : Ent → Ent
  | .v x d => .v x d.frz
  | e => e
theorem Sl.frz {σ : L2.St} {env : Env} {E : List Ent} (h : Sl σ env E) : Sl σ (frzE env) (E.map frzEnt) := by
  induction h with
  | nil => exact .nil
  | un _ ih => exact .un ih
  | so _ ih => exact .so ih
theorem frz_res {C T : Addr} {H : Hp} {A : List Addr} {σ : L2.St} {env : Env} {E : List Ent} (h : Sl σ env E) : ∀ {B : List Addr}, REs C T H A E B → REs C T H [] (E.map frzEnt) [] := by
  induction h with
  | nil => intro B _; exact rfl
  | un _ ih => exact ih
  | so _ ih =>
    rintro B ⟨B1, B2, f, h1, h2⟩
    exact ⟨[], [], rfl, RD.frz (fun a o _ _ z => by cases z) _ h1 (fun a _ z => by cases z), ih h2⟩
section
variable {X : Cx} {K : Frag} {H H' : Hp} {σ : L2.St} {L : List Ent} {env env' e2 : Env} {x y : V} {d r : D} {f fa fb : DE} {ft : DT} {a : Expr}
theorem sk_frz (R : Sk K H σ env L) : Sk K H σ (frzE env) [.pins H] := by
  obtain ⟨E, s, A, h, n⟩ := R
  obtain ⟨B1, B2, e, h1, h2⟩ := h.app
  exact ⟨_, s.frz, [], REs.mk (B1 := []) (B2 := []) (frz_res s h1) ⟨[], [], rfl, ⟨fun a o e => ⟨e, fun z => by cases z⟩, rfl⟩, rfl⟩, List.nodup_nil⟩
theorem sk_pins (R : Sk K H' σ env [.pins H]) : Same H H' := by
  obtain ⟨E, s, A, h, n⟩ := R
  obtain ⟨B1, B2, e, h1, B3, B4, f, h2, h3⟩ := h.app
  exact fun a o e => (h2.1 a o e).1
theorem sk_back (R : Sk K H σ env L) (R' : Sk K H' σ e2 (.v x r :: [.pins H])) (w : r.ow = true) : Sk K H' σ env (.v x r :: L) := by
  obtain ⟨E', s', A', h', n'⟩ := R'
  obtain ⟨B1, B2, e1, h1, B3, B4, e2, h2, B5, B6, e3, h3, h4⟩ := h'.app
  have same : Same H H' := fun a o e => (h3.1 a o e).1
  obtain ⟨E, s, A, h, n⟩ := R
  have sub : ∀ b ∈ B3, b ∈ A' := fun b hb => by rw [e1, e2]; exact List.mem_append_right _ (List.mem_append_left _ hb)
  have fresh : ∀ b ∈ B3, H b = none := fun b hb => by
    cases q : H b with
    | none => rfl
    | some o => exact absurd (sub b hb) (h3.1 b o q).2
  have n3 : B3.Nodup := by
    rw [e1, e2] at n'
    exact (List.nodup_append.mp (List.nodup_append.mp n').2.1).1
  have old : ∀ b ∈ A, b ∉ B3 := by
    intro b hb z
    obtain ⟨o, ho, _⟩ := h.has b hb
    rw [fresh b z] at ho
    cases ho
  have k : ∀ a ∈ A, H' a = H a := by
    intro b hb
    obtain ⟨o, ho, _⟩ := h.has b hb
    rw [ho, same _ _ ho]
  have hm : REs (CR K) (CT K) H' (B3 ++ A) (E ++ L) A := REs.mono (fun a o e na => ⟨same _ _ e, fun z => (List.mem_append.mp z).elim (fun z => by rw [fresh a z] at e; cases e) na⟩) h k
  have hr : RD (CR K) (CT K) H' (B3 ++ A) r x B3 := RD.reA r w h2 fun a ha => (List.mem_append.mp ha).elim (fun z => RD.has r h2 a z) fun z => by
    obtain ⟨o, ho, q⟩ := h.has a z
    exact ⟨o, same _ _ ho, q⟩
  refine ⟨E, s, Rep.perm (L := .v x r :: (E ++ L)) ⟨B3 ++ A, ⟨B3, A, rfl, hr, hm⟩, ?_⟩ List.perm_middle.symm⟩
  exact List.nodup_append.mpr ⟨n3, n, fun a ha b hb z => old b hb (z ▸ ha)⟩
def pureD (f : DE) : DE := fun env => (f (frzE env)).bind fun p => match p.1 with
  | .t r => if r.ow = true then some (.t r, env) else none
  | _ => none
def pureT (f : DT) : DT := fun env => (f (frzE env)).bind fun p => some (p.1, env)
theorem pd_pure (h : PE X a (tD X.K f)) : PE X a (tD X.K (pureD f)) := h.of fun σ H Q ⟨env, L, av, env', R, e, k⟩ => by
  obtain ⟨⟨a1, e1⟩, h1, e⟩ := bs e
  dsimp only at e
  split at e
  · rename_i r
    split at e
    · rename_i hw
      cases e
      exact ⟨frzE env, [.pins H], _, e1, sk_frz R, h1, fun x H' R' _ => k x H' (sk_back R R' hw) trivial⟩
    · cases e
  · cases e
theorem ptd_pure (h : PT X a (tDT X.K ft)) : PT X a (tDT X.K (pureT ft)) := h.of fun σ H Q ⟨env, L, b, env', R, e, k⟩ => by
  obtain ⟨⟨b1, e1⟩, h1, e⟩ := bs e
  cases e
  exact ⟨frzE env, [.pins H], _, e1, sk_frz R, h1, fun H' R' => k H' (R.same (sk_pins R'))⟩
end
end Dx

set_option Elab.async false
set_option linter.all false
set_option maxRecDepth 100000
set_option maxHeartbeats 4000000
namespace Dx
open PySem PySem.Spec PyProof.Rows L2 Own
open PySem.W (Frag)
section
variable {X : Cx} {K : Frag} {H H' : Hp} {σ : L2.St} {L : List Ent} {pn : List Nat} {env env' e2 : Env} {x y : V} {d r : D} {f fa fb : DE} {ft : DT} {a b e : Expr} {pos : Pos}
theorem pdv (i : Nat) {x : Str} {pos : Pos} (hN : X.N[i]? = some x := by rfl) (hv : Vis X.env.scope x := by first | exact Or.inl rfl | exact Or.inr (Or.inl rfl) | exact Or.inr (Or.inr rfl)) (hd : (x == ("__debug__" : Str)) = false := by decide) (hcd : (x == ("__classdict__" : Str)) = false := by decide) :
    PE X (.Name x pos) (tD X.K (nameD i)) := pd_name hN hv hd hcd
theorem ptd_cmp {op : CmpOp} {r : R2} {g : D → D → Option D} (ok : OpOk X.K r g) (ho : OpR X (compareOp op) r) (ha : PE X a (tD X.K fa)) (hb : PE X b (tD X.K fb)) (hm : behindInMarks op b = false) : PT X (.Compare a [op] [b] pos) (tDT X.K (valT (bin2 g fa fb))) :=
  (pt_cmpR ho ha hb hm).of fun σ H Q ⟨env, L, b, env', R, e, k⟩ => by
    obtain ⟨⟨a1, e1⟩, h1, e⟩ := bs e
    dsimp only at e
    split at e
    · cases e
      refine tOp_of ok ⟨env, L, _, _, R, h1, fun x H' R' _ => ?_⟩
      obtain ⟨E, s, r⟩ := R'
      have r1 : Rk X.K H' (.v x (.bl b) :: (E ++ L)) := r.perm List.perm_middle
      exact ⟨b, rk_bl r1, k H' ⟨E, s, r1.tail⟩⟩
    · cases e
theorem _root_.L2.PI.or {tg it : Expr} {w w' : TI} (h : PI X tg it w) (h' : PI X tg it w') : PI X tg it (fun σ H R => w σ H R ∨ w' σ H R) := ⟨fun pins s σ H R I q => q.elim (h.run pins s σ H R I) (h'.run pins s σ H R I)⟩
def seqI (pn : List Nat) (f : DE) : DI := fun env => (f env).bind fun p => (itTake pn p.1 p.2).bind fun q => (seqOf q.1).bind fun ds => some ⟨ds, q.2.1, q.2.2⟩
theorem id_seq {tg l : Expr} {f : DE} (hl : PE X l (tD X.K f)) : PI X tg l (tDI X.K pn (seqI pn f)) := ((id_list hl).or (id_tup hl)).of fun σ H R ⟨env, L, r, S, e, k⟩ => by
  obtain ⟨⟨av, e1⟩, h1, e⟩ := bs e
  obtain ⟨⟨d, e2, sl⟩, h2, e⟩ := bs e
  obtain ⟨ds, h3, e⟩ := bs e
  cases e
  cases d <;> simp only [seqOf, reduceCtorEq] at h3
  · cases h3
    exact .inl ⟨env, L, _, S, by simp only [listI, h1, h2, isL, Option.bind_some], k⟩
  · cases h3
    exact .inr ⟨env, L, _, S, by simp only [tupI, h1, h2, isT, Option.bind_some], k⟩
theorem le_ok {i j : Int} {H : Hp} {Q : VK} (q : Q (.bl (decide (i ≤ j))) H) : (rI0 fun i j => .bl (decide (i ≤ j))) (.int i) (.int j) H Q := ⟨i, j, rfl, rfl, q⟩
theorem lt_ok {i j : Int} {H : Hp} {Q : VK} (q : Q (.bl (decide (i < j))) H) : (rI0 fun i j => .bl (decide (i < j))) (.int i) (.int j) H Q := ⟨i, j, rfl, rfl, q⟩
def leI (i j : Int) : Bool := decide (i ≤ j)
def chainD (p1 p2 : Int → Int → Bool) (fa fb fc : DE) : DE := fun env => (chainT p1 p2 fa fb fc env).bind fun p => some (.t (.bl p.1), p.2)
variable {fc : DE} {c : Expr}
theorem ptd_le2 (ha : PE X a (tD X.K fa)) (hb : PE X b (tD X.K fb)) (hc : PE X c (tD X.K fc)) (hm : lastMarks [.LtE, .LtE] [b, c] = false := by with_unfolding_all rfl) : PT X (.Compare a [.LtE, .LtE] [b, c] pos) (tDT X.K (chainT leI leI fa fb fc)) :=
  ptd_chain (fun _ _ _ _ q => le_ok q) (fun _ _ _ _ q => le_ok q) (pt_chain op_le op_le ha hb hc hm)
theorem ped_le2 (ha : PE X a (tD X.K fa)) (hb : PE X b (tD X.K fb)) (hc : PE X c (tD X.K fc)) (hm : lastMarks [.LtE, .LtE] [b, c] = false := by with_unfolding_all rfl) : PE X (.Compare a [.LtE, .LtE] [b, c] pos) (tD X.K (chainD leI leI fa fb fc)) :=
  ped_chain (fun _ _ _ _ q => le_ok q) (fun _ _ _ _ q => le_ok q) (pe_chain op_le op_le ha hb hc hm)
end
/-- a comprehension within another one -/
def relS (scope sc : Scope) : Scope := { scope with names := scope.names.map fun p => if (p.2 == NameKind.free && sc.kind == .function && sc.names.lookup p.1 == some .cell) then (p.1, NameKind.cell) else p }
theorem relS_eq (scope : Scope) (env : PySem.Env) : relabel scope env = relS scope env.scope := rfl
theorem blkOk_in {X : Cx} {s : Shared} {H : Hp} {scope scope2 : Scope} {C : Addr} {cl : List (Str × Addr)} {fp : List Addr} {N : List Str} {own : List (Str × Nat)} (sc : Scope) (hs : X.env.scope = sc) (h : blkC N (relS scope sc) scope2 own = true) :
    BlkOk N ((X.blk s H scope (compEnvC scope cl C X.env) fp).env.scope) scope2 own := by
  subst hs
  exact blkOk_by h
/-- keywords for parameters that have no defaults -/
theorem kbd_aux {a : List V} {b : List Value} (at_ : ∀ i : Nat, (∃ x u, a[i]? = some x ∧ b[i]? = some u ∧ RelV x u) ∨ (a[i]? = none ∧ b[i]? = none)) : ∀ π : List Nat, Vals (pick π a) (pick π b)
  | [] => .nil
  | i :: π => by
    unfold pick
    rcases at_ i with ⟨x, u, h1, h2, h3⟩ | ⟨h1, h2⟩
    · rw [List.filterMap_cons_some h1, List.filterMap_cons_some h2]
      exact .cons h3 (kbd_aux at_ π)
    · rw [List.filterMap_cons_none h1, List.filterMap_cons_none h2]
      exact kbd_aux at_ π
theorem kbd_vals {a : List V} {b : List Value} (q : Vals a b) (π : List Nat) : Vals (pick π a) (pick π b) := by
  refine kbd_aux (fun i => ?_) π
  by_cases hi : i < a.length
  · obtain ⟨u, hu, ru⟩ := q.get (List.getElem?_eq_getElem hi)
    exact .inl ⟨_, u, List.getElem?_eq_getElem hi, hu, ru⟩
  · exact .inr ⟨List.getElem?_eq_none (by omega), List.getElem?_eq_none (by have := q.length; omega)⟩
theorem kbd {K : Frag} {x qual : Str} {params : Arguments} {body : List Stmt} {scope : Scope} {f : Addr} {fd : FuncData} {ps : List Str} (F : FunD K x qual params body scope [] [] f fd) (n : Nat) (ks : List Str) (π : List Nat)
    (h : ∀ (kV doc pm : Value) (an : Option Addr) (cdv ct : Value) (us ws : List Value), us.length = n → ws.length = ks.length → bindArgs (PySem.W.fnOf x qual params body scope .none kV doc pm an cdv ct) ⟨us, ks.zip ws⟩ = pure (ps.zip (pick π (us ++ ws)))) :
    KBn K fd ps n ks (fun us ws => pick π (us ++ ws)) (fun vs zs => pick π (vs ++ zs)) := by
  obtain ⟨oc, od, dV, kV, doc, pm, an, cdv, ct, osl, rfl, lk, hcd, hD, hK⟩ := F.ex
  rcases hD with ⟨_, rfl⟩ | ⟨e, _⟩
  · refine ⟨fun s us ws X l1 l2 => .of_eq (h kV doc pm an cdv ct us ws l1 l2), fun r z => kbd_vals (r.append z) π⟩
  · exact absurd rfl e
/-- by keywords alone -/
theorem pd_fnK0 {X : Cx} {CX : CXT} {k n j : Nat} {fdr : Addr} {fd : FuncData} {ps ks : List Str} {xn : Str} {p pos : Pos} {π : List Nat} {fl : List Bool} {m : FM} {E : XK} {tk : DA} {kws : List Keyword}
    (F : FG X.prog X.w X.K X.mg X.base CX k fdr fd ps (spF X.K n fl m)) (gg : X.A.guards = some []) (hr : Room k X.A) (hg : Gl X xn)
    (hm : X.mg xn = some (.ref fdr)) (hk : PySem.W.keepIn X.K (.ref fdr) = true) (hb : KBn X.K fd ps 0 ks (fun us ws => pick π (us ++ ws)) (fun vs zs => pick π (vs ++ zs))) (hx : Passes CX X E)
    (hkw : PK X kws (tDA X.K tk)) (hj : ks.length = j := by rfl) (hn : fl.length = n := by rfl) (hπ : π.isPerm (List.range (0 + j)) = true := by decide)
    (hall : (backToKw pos (keywordEach kws X.env)).all (·.1.isSome) = true := by rfl)
    (hks : (backToKw pos (keywordEach kws X.env)).filterMap (·.1) = ks := by rfl) (hdb : (xn == ("__debug__" : Str)) = false := by decide)
    (hpl : ((backTo pos (starEach [] X.env)).any (·.1) || (backToKw pos (keywordEach kws X.env)).any (·.1.isNone)) = false := by rfl) :
    PE X (.Call (.Name xn p) [] kws pos) (tD X.K (callKF fl m π 0 j nilA tk)) :=
  (pe_fnK0 F gg hr hg hm hk hb hx hkw hall hks hdb hpl).of fun σ H Q q => by
    subst hj
    exact nilA_of (callK_of (E := E) hn hπ q)
theorem pure_of {K : Frag} {f : DE} {σ : L2.St} {H : Hp} {Q : VK} (h : tD K (pureD f) σ H Q) : tD K f σ H Q := by
  obtain ⟨env, L, av, env', R, e, k⟩ := h
  obtain ⟨⟨a1, e1⟩, h1, e⟩ := bs e
  dsimp only at e
  split at e
  · rename_i r
    split at e
    · rename_i hw
      cases e
      exact ⟨frzE env, [.pins H], _, e1, sk_frz R, h1, fun x H' R' _ => k x H' (sk_back R R' hw) trivial⟩
    · cases e
  · cases e
/-- name = [..], on frozen slots -/
theorem sd_setLcP {X : Cx} {pn ts : List Nat} {t : DG} {ft : DT} {fe : DE} {fi : DI} {i : Nat} {y : Str} {py : Pos} {elt tg iter : Expr} {ifs : List Expr} {scope : Scope} {own : List (Str × Nat)} {pos spos : Pos} (hc : X.calm = true) (hN : X.N.Nodup) (hy : X.N[i]? = some y) (hyl : X.env.scope.names.lookup y = some .local)
    (hsw : swapsWith (.ListComp elt [⟨tg, iter, ifs, 0⟩] scope pos) (some (.Name y py)) spos.line X.env = pure true) (hi : PI X tg iter (tDI X.K pn fi)) (ok : BlkOk X.N X.env.scope scope own)
    (hg : ∀ (s : Shared) (H : Hp) (C : Addr) (cl : List (Str × Addr)) (fp : List Addr), PG (X.blk s H scope (compEnvC scope cl C X.env) fp) tg (tDG X.K ts t)) (ht : ∀ (s : Shared) (H : Hp) (C : Addr) (cl : List (Str × Addr)) (fp : List Addr), PTs (X.blk s H scope (compEnvC scope cl C X.env) fp) ifs (tDT X.K ft))
    (he : ∀ (s : Shared) (H : Hp) (C : Addr) (cl : List (Str × Addr)) (fp : List Addr), PE (X.blk s H scope (compEnvC scope cl C X.env) fp) elt (tD X.K fe)) (hs : ∀ x, foldedSetIterable iter X.env x = pure x := by intro _; rfl)
    (hv : ((own.map (·.2)).all fun i => !pn.contains i) = true := by rfl) (hts : (ts.all fun i => (own.map (·.2)).contains i) = true := by rfl) (hp : pn.contains i = false := by rfl) :
    PS X (.Assign [.Name y py] (.ListComp elt [⟨tg, iter, ifs, 0⟩] scope pos) spos) (tDS X.K pn (setS i (pureD (compD (own.map (·.2)) fi t ft fe)))) :=
  (ps_setLc hc hN hy hyl hsw hi ok hg ht he hs).of fun D0 σ H ⟨env, L, out, R, e, k⟩ => by
    obtain ⟨⟨av, e1⟩, h1, e⟩ := bs e
    obtain ⟨⟨d, e2⟩, h2, e⟩ := bs e
    obtain ⟨e3, h3, e⟩ := bs e
    cases e
    refine lc_of hv hts (pure_of ⟨env, L, av, e1, R, h1, fun x H1 R1 s1 => ?_⟩)
    have R2 := toT_ok R1 s1 h2
    unfold nameG at h3
    split at h3
    · rename_i hi2
      cases h3
      refine k _ H1 (R2.store hi2) (Pn.set fun z => ?_)
      rw [List.contains_iff_mem.mpr z] at hp
      cases hp
    · cases h3
end Dx

set_option Elab.async false
set_option linter.all false
set_option maxRecDepth 100000
set_option maxHeartbeats 4000000
namespace K12
open PySem PySem.Spec PyProof.Rows L2 Own Dx
open PySem.W (Frag)
def g_MOST_ROWS : Int := 64
def g_MOST_WIDE : Int := 64
section
variable {P : Program} {w : World} {K : Frag} {mg : Str → Option Value} {base : Heap}
def b_is_integer_D : DS := (retS (andD (un1 (isiTy "int") (nameD 0)) (notD (un1 (isiTy "bool") (nameD 0)))))
def m_is_integer : FM := runF 1 1 b_is_integer_D
theorem d_is_integer (T : Tx K mg) : FG P w K mg base CX0 1 (ga K "is_integer") (fdOf K (ga K "is_integer")) ["value"] (spF K 1 [false] m_is_integer) := by
  exact fgD (fl := [false]) T.F_is_integer sc_is_integer fun cdv A outer s H gg hr E =>
    (sd_one (sd_ret (ped_and (pd_isiTy (kitF T) (T := "int") (by simp) (pe_callB call_isi (by rfl) T.n_isinstance (by decide +kernel) (pa_cons (pdv 0) (pa_cons (pe_bltn (v := .ty "int") (by rfl) T.n_int (by decide +kernel) rfl) pa_nil)))) (ped_one (ped_not (pd_isiTy (kitF T) (T := "bool") (by simp) (pe_callB call_isi (by rfl) T.n_isinstance (by decide +kernel) (pa_cons (pdv 0) (pa_cons (pe_bltn (v := .ty "bool") (by rfl) T.n_bool (by decide +kernel) rfl) pa_nil)))))))))
def b_is_list_D : DS := (retS (un1 isiSeq (nameD 0)))
def m_is_list : FM := runF 1 1 b_is_list_D
theorem d_is_list (T : Tx K mg) : FG P w K mg base CX0 1 (ga K "is_list") (fdOf K (ga K "is_list")) ["value"] (spF K 1 [false] m_is_list) := by
  exact fgD (fl := [false]) T.F_is_list sc_is_list fun cdv A outer s H gg hr E =>
    (sd_one (sd_ret (pd_isiSeq (kitF T) (pe_callB call_isiT (by rfl) T.n_isinstance (by decide +kernel) (pa_cons (pdv 0) (pa_cons (pe_tup (pa_cons (pe_bltn (v := .ty "list") (by rfl) T.n_list (by decide +kernel) rfl) (pa_cons (pe_bltn (v := .ty "tuple") (by rfl) T.n_tuple (by decide +kernel) rfl) pa_nil))) pa_nil))))))
def b_is_number_D : DS := (retS (orD (callF [false] m_is_integer (consA (nameD 0) nilA)) (un1 isiR (nameD 0))))
def m_is_number : FM := runF 1 1 b_is_number_D
theorem d_is_number (T : Tx K mg) : FG P w K mg base CX0 2 (ga K "is_number") (fdOf K (ga K "is_number")) ["value"] (spF K 1 [false] m_is_number) := by
  exact fgD (fl := [false]) T.F_is_number sc_is_number fun cdv A outer s H gg hr E =>
    (sd_one (sd_ret (ped_or (pd_fn (d_is_integer T) gg (hr.mono (by decide)) rfl T.g_is_integer T.F_is_integer.kp (b_is_integer T) pass0 (pda_cons (pdv 0) pda_nil)) (ped_one (pd_isiR (kitF T) (pe_callB call_isi (by rfl) T.n_isinstance (by decide +kernel) (pa_cons (pdv 0) (pa_cons (pe_glob (v := .ref (CR _)) rfl T.g_Ratio rfl) pa_nil))))))))
def b_as_ratio_D : DS := (seqS (ifS (valT (un1 isiR (nameD 0))) (retV 0) nextS)
    (retS (opN (mkD 1) (consA (nameD 0) nilA))))
def m_as_ratio : FM := runF 1 1 b_as_ratio_D
theorem d_as_ratio (T : Tx K mg) : FG P w K mg base CX0 4 (ga K "as_ratio") (fdOf K (ga K "as_ratio")) ["number"] (spF K 1 [false] m_as_ratio) := by
  obtain ⟨ds, rd, bd⟩ := b_init1 T
  exact fgD (fl := [false]) T.F_as_ratio sc_as_ratio fun cdv A outer s H gg hr E =>
    (sd_cons (sd_if (pt_of_val (pd_isiR (kitF T) (pe_callB call_isi (by rfl) T.n_isinstance (by decide +kernel) (pa_cons (pdv 0) (pa_cons (pe_glob (v := .ref (CR _)) rfl T.g_Ratio rfl) pa_nil))))) (sd_one (sd_retV (i := 0) (by rfl) (by first | exact Or.inl rfl | exact Or.inr (Or.inl rfl) | exact Or.inr (Or.inr rfl)))) sd_nil)
    (sd_one (sd_ret (pd_mk1 mkOk (pe_mk T.mk_Ratio (ok_init T) gg (hr.mono (by decide)) rfl T.g_Ratio bd rd pass0 (pda_cons (pdv 0) pda_nil))))))
def lb_without_bottoms_1 : DS := (setS 1 (opN lcmD (consA (nameD 1) (consA (un1 botD (nameD 2)) nilA))))
def ce_without_bottoms_2 : DE := (bin2 mulD (un1 topD (nameD 2)) (bin2 fdivD (nameD 1) (un1 botD (nameD 2))))
def b_without_bottoms_D : DS := (seqS (setS 1 (litD (.int 1)))
    (seqS (forS (seqI (pnOf [false] 0) (nameD 0)) (nameG 2) lb_without_bottoms_1)
    (retS (compD [2] (seqI (pnOf [false] 0) (nameD 0)) (nameG 2) yesT ce_without_bottoms_2))))
def m_without_bottoms : FM := runF 1 3 b_without_bottoms_D
theorem d_without_bottoms (T : Tx K mg) : FG P w K mg base CX0 7 (ga K "without_bottoms") (fdOf K (ga K "without_bottoms")) ["row"] (spF K 1 [false] m_without_bottoms) := by
  exact fgD (fl := [false]) T.F_without_bottoms sc_without_bottoms fun cdv A outer s H gg hr E =>
    (sd_cons (sd_set (i := 1) sc_without_bottoms.nd rfl (by first | exact Or.inl rfl | exact Or.inr rfl) pd_int)
    (sd_cons (sd_for (ts := [2]) PassesOwn.never rfl (id_seq (pdv 0)) (gd_name (i := 2) sc_without_bottoms.nd rfl (by first | exact Or.inl rfl | exact Or.inr rfl)) (sd_one (sd_set (i := 1) sc_without_bottoms.nd rfl (by first | exact Or.inl rfl | exact Or.inr rfl) (pd_callBfun lcmOk cr_lcm (by rfl) T.m_lcm (pda_cons (pdv 1) (pda_cons (pd_get bot_g (pe_pr (pdv 2) T.cl_Ratio T.p_bottom (ok_bottom T) gg (hr.mono (by decide)) (b_Ratio_bottom T) .nil pass0)) pda_nil))))))
    (sd_one (sd_ret (pd_lc (own := [("number", 2)]) (ts := [2]) (by rfl) sc_without_bottoms.nd (id_seq (pdv 0)) (blkOk_by (N := ["row", "bottom", "number"]) (sc := defScope s_without_bottoms) (by decide +kernel)) (fun _ _ _ _ _ => (gd_name (i := 2) sc_without_bottoms.nd rfl (by first | exact Or.inl rfl | exact Or.inr rfl))) (fun _ _ _ _ _ => ptsd_nil) (fun _ _ _ _ _ => (pd_op mulOk (o_mul (ratOk T rfl rfl rfl rfl rfl gg (hr.mono (by decide)))) (pd_get top_g (pe_pr (pdv 2) T.cl_Ratio T.p_top (ok_top T) gg (hr.mono (by decide)) (b_Ratio_top T) .nil pass0)) (pd_op fdivOk op_fdivZ (pdv 1) (pd_get bot_g (pe_pr (pdv 2) T.cl_Ratio T.p_bottom (ok_bottom T) gg (hr.mono (by decide)) (b_Ratio_bottom T) .nil pass0))))))))))
def lb_pivot_from_1 : DS := (ifS (valT (bin2 neD (ixD (ixD (nameD 0) (nameD 3)) (nameD 2)) (litD (.int 0)))) (retV 3) nextS)
def b_pivot_from_D : DS := (seqS (forS (range2I (consA (nameD 1) (consA (opN lenD (consA (nameD 0) nilA)) nilA))) (nameG 3) lb_pivot_from_1)
    (retS (litD .non)))
def m_pivot_from : FM := runF 3 4 b_pivot_from_D
theorem d_pivot_from (T : Tx K mg) : FG P w K mg base CX0 11 (ga K "pivot_from") (fdOf K (ga K "pivot_from")) ["rows", "first", "place"] (spF K 3 [false, false, false] m_pivot_from) := by
  exact fgD (fl := [false, false, false]) T.F_pivot_from sc_pivot_from fun cdv A outer s H gg hr E =>
    (sd_cons (sd_for (ts := [3]) PassesOwn.never rfl (id_range2 (by rfl) T.n_range (pda_cons (pdv 1) (pda_cons (pd_callB lenOk call_len_seq (by rfl) T.n_len PySem.boot_len (pda_cons (pdv 0) pda_nil)) pda_nil))) (gd_name (i := 3) sc_pivot_from.nd rfl (by first | exact Or.inl rfl | exact Or.inr rfl)) (sd_one (sd_if (ptd_cmp neOk (o_ne (ratEq T rfl rfl rfl rfl rfl) (hr.mono (by decide))) (pd_ix (pd_ix (pdv 0) (pdv 3) (fun _ _ => rfl)) (pdv 2) (fun _ _ => rfl)) pd_int (nomark _)) (sd_one (sd_retV (i := 3) (by rfl) (by first | exact Or.inl rfl | exact Or.inr (Or.inl rfl) | exact Or.inr (Or.inr rfl)))) sd_nil)))
    (sd_one (sd_ret pd_non)))
def ce_cleared_1 : DE := (bin2 fdivD (bin2 subD (bin2 mulD (nameD 4) (nameD 6)) (bin2 mulD (nameD 5) (nameD 7))) (nameD 3))
def b_cleared_D : DS := (seqS (asgS (dispD true (consA (ixD (nameD 2) (nameD 1)) (consA (ixD (nameD 0) (nameD 1)) nilA))) (tupG 2 (consG (nameG 4) (consG (nameG 5) nilG))))
    (retS (compD [6, 7] (zipI (pnOf [false, false, false, false] 0) (nameD 0) (nameD 2)) (tupG 2 (consG (nameG 6) (consG (nameG 7) nilG))) yesT ce_cleared_1)))
def m_cleared : FM := runF 4 8 b_cleared_D
theorem d_cleared (T : Tx K mg) : FG P w K mg base CX0 7 (ga K "cleared") (fdOf K (ga K "cleared")) ["row", "place", "pivot", "last"] (spF K 4 [false, false, false, false] m_cleared) := by
  exact fgD (fl := [false, false, false, false]) T.F_cleared sc_cleared fun cdv A outer s H gg hr E =>
    (sd_cons (sd_asg (ts := [4, 5]) (ps_asg (pd_tup (pda_cons (pd_ix (pdv 2) (pdv 1) (fun _ _ => rfl)) (pda_cons (pd_ix (pdv 0) (pdv 1) (fun _ _ => rfl)) pda_nil))) (gd_tup (pg_tup rfl (gds_cons (gd_name (i := 4) sc_cleared.nd rfl (by first | exact Or.inl rfl | exact Or.inr rfl)) (gds_cons (gd_name (i := 5) sc_cleared.nd rfl (by first | exact Or.inl rfl | exact Or.inr rfl)) gds_nil))))))
    (sd_one (sd_ret (pd_lc (own := [("number", 6), ("other", 7)]) (ts := [6, 7]) (by rfl) sc_cleared.nd (id_zip (by rfl) T.n_zip (pda_cons (pdv 0) (pda_cons (pdv 2) pda_nil))) (blkOk_by (N := ["row", "place", "pivot", "last", "head", "amount", "number", "other"]) (sc := defScope s_cleared) (by decide +kernel)) (fun _ _ _ _ _ => (gd_tup (pg_tup rfl (gds_cons (gd_name (i := 6) sc_cleared.nd rfl (by first | exact Or.inl rfl | exact Or.inr rfl)) (gds_cons (gd_name (i := 7) sc_cleared.nd rfl (by first | exact Or.inl rfl | exact Or.inr rfl)) gds_nil))))) (fun _ _ _ _ _ => ptsd_nil) (fun _ _ _ _ _ => (pd_op fdivOk op_fdivZ (pd_op subOk (o_sub (ratOk T rfl rfl rfl rfl rfl gg (hr.mono (by decide)))) (pd_op mulOk (o_mul (ratOk T rfl rfl rfl rfl rfl gg (hr.mono (by decide)))) (pdv 4) (pdv 6)) (pd_op mulOk (o_mul (ratOk T rfl rfl rfl rfl rfl gg (hr.mono (by decide)))) (pdv 5) (pdv 7))) (pdv 3)))))))
def ce_reduced_1 : DE := (callF [false] m_without_bottoms (consA (nameD 10) nilA))
def ce_reduced_2 : DE := (callF [false, false, false, false] m_cleared (consA (nameD 10) (consA (nameD 5) (consA (nameD 7) (consA (nameD 4) nilA)))))
def ce_reduced_3 : DE := (callF [false, false, false, false] m_cleared (consA (nameD 10) (consA (nameD 5) (consA (nameD 7) (consA (nameD 4) nilA)))))
def lb_reduced_4 : DS := (seqS (setS 6 (pureD (callF [false, false, false] m_pivot_from (consA (nameD 1) (consA (nameD 3) (consA (nameD 5) nilA))))))
    (seqS (ifS (pureT (valT (bin2 isD (nameD 6) (litD .non)))) contS nextS)
    (seqS (setS 7 (ixD (nameD 1) (nameD 6)))
    (seqS (parS2 8 9 (consA (sliceD (nameD 1) noO (someO (nameD 3))) (consA (bin2 addD (sliceD (nameD 1) (someO (nameD 3)) (someO (nameD 6))) (sliceD (nameD 1) (someO (bin2 addD (nameD 6) (litD (.int 1)))) noO)) nilA)))
    (seqS (setS 8 (pureD (compD [10] (seqI (pnOf [false] 0) (nameD 8)) (nameG 10) yesT ce_reduced_2)))
    (seqS (setS 9 (pureD (compD [10] (seqI (pnOf [false] 0) (nameD 9)) (nameG 10) yesT ce_reduced_3)))
    (seqS (setS 1 (bin2 addD (bin2 addD (nameD 8) (dispD false (consA (nameD 7) nilA))) (nameD 9)))
    (seqS (setS 4 (ixD (nameD 7) (nameD 5)))
    (augS 3 (· + ·) (litD (.int 1)))))))))))
def ce_reduced_5 : DE := (opN (mkD 2) (consA (nameD 11) (consA (nameD 4) nilA)))
def ce_reduced_6 : DE := (compD [11] (seqI (pnOf [false] 0) (nameD 10)) (nameG 11) yesT ce_reduced_5)
def b_reduced_D : DS := (seqS (setS 1 (pureD (compD [10] (seqI (pnOf [false] 0) (nameD 0)) (nameG 10) yesT ce_reduced_1)))
    (seqS (setS 2 (ifD (pureT (truT (nameD 1))) (pureD (opN lenD (consA (ixD (nameD 1) (litD (.int 0))) nilA))) (litD (.int 0))))
    (seqS (asgS (dispD true (consA (litD (.int 0)) (consA (litD (.int 1)) nilA))) (tupG 2 (consG (nameG 3) (consG (nameG 4) nilG))))
    (seqS (forS (range1I (consA (nameD 2) nilA)) (nameG 5) lb_reduced_4)
    (retS (pureD (compD [10] (seqI (pnOf [false] 0) (sliceD (nameD 1) noO (someO (nameD 3)))) (nameG 10) yesT ce_reduced_6)))))))
def m_reduced : FM := runF 1 12 b_reduced_D
theorem d_reduced (T : Tx K mg) : FG P w K mg base CX0 12 (ga K "reduced") (fdOf K (ga K "reduced")) ["rows"] (spF K 1 [false] m_reduced) := by
  exact fgD (fl := [false]) T.F_reduced sc_reduced fun cdv A outer s H gg hr E =>
    (sd_cons (sd_setLcP (i := 1) (own := [("row", 10)]) (ts := [10]) (by rfl) sc_reduced.nd rfl rfl (sw_true rfl rfl rfl (by decide +kernel)) (id_seq (pdv 0)) (blkOk_by (N := ["rows", "left", "wide", "done", "last", "place", "at", "pivot", "ahead", "behind", "row", "number"]) (sc := defScope s_reduced) (by decide +kernel)) (fun _ _ _ _ _ => (gd_name (i := 10) sc_reduced.nd rfl (by first | exact Or.inl rfl | exact Or.inr rfl))) (fun _ _ _ _ _ => ptsd_nil) (fun _ _ _ _ _ => (pd_fn (d_without_bottoms T) gg (hr.mono (by decide)) rfl T.g_without_bottoms T.F_without_bottoms.kp (b_without_bottoms T) pass0 (pda_cons (pdv 10) pda_nil))))
    (sd_cons (sd_set (i := 2) sc_reduced.nd rfl (by first | exact Or.inl rfl | exact Or.inr rfl) (ped_if (ptd_pure (pt_of_tru (pdv 1))) (pd_pure (pd_callB lenOk call_len_seq (by rfl) T.n_len PySem.boot_len (pda_cons (pd_ix (pdv 1) pd_int (fun _ _ => rfl)) pda_nil))) pd_int))
    (sd_cons (sd_asg (ts := [3, 4]) (ps_asg (pd_tup (pda_cons pd_int (pda_cons pd_int pda_nil))) (gd_tup (pg_tup rfl (gds_cons (gd_name (i := 3) sc_reduced.nd rfl (by first | exact Or.inl rfl | exact Or.inr rfl)) (gds_cons (gd_name (i := 4) sc_reduced.nd rfl (by first | exact Or.inl rfl | exact Or.inr rfl)) gds_nil))))))
    (sd_cons (sd_for (ts := [5]) PassesOwn.never rfl (id_range1 (by rfl) T.n_range (pda_cons (pdv 2) pda_nil)) (gd_name (i := 5) sc_reduced.nd rfl (by first | exact Or.inl rfl | exact Or.inr rfl)) (sd_cons (sd_set (i := 6) sc_reduced.nd rfl (by first | exact Or.inl rfl | exact Or.inr rfl) (pd_pure (pd_fn (d_pivot_from T) gg (hr.mono (by decide)) rfl T.g_pivot_from T.F_pivot_from.kp (b_pivot_from T) pass0 (pda_cons (pdv 1) (pda_cons (pdv 3) (pda_cons (pdv 5) pda_nil))))))
    (sd_cons (sd_if (ptd_pure (ptd_cmp isOk op_isN (pdv 6) pd_non (nomark _))) (sd_one sd_cont) sd_nil)
    (sd_cons (sd_set (i := 7) sc_reduced.nd rfl (by first | exact Or.inl rfl | exact Or.inr rfl) (pd_ix (pdv 1) (pdv 6) (fun _ _ => rfl)))
    (sd_cons (sd_par2 (ps_par (i := 8) (j := 9) (by rfl) sc_reduced.nd rfl rfl (by decide) rfl rfl (pda_cons (pd_slice (pdv 1) pod_none (pod_some (pdv 3))) (pda_cons (pd_op addOk (o_add (ratOk T rfl rfl rfl rfl rfl gg (hr.mono (by decide)))) (pd_slice (pdv 1) (pod_some (pdv 3)) (pod_some (pdv 6))) (pd_slice (pdv 1) (pod_some (pd_op addOk (o_add (ratOk T rfl rfl rfl rfl rfl gg (hr.mono (by decide)))) (pdv 6) pd_int)) pod_none)) pda_nil)) (by rfl)))
    (sd_cons (sd_setLcP (i := 8) (own := [("row", 10)]) (ts := [10]) (by rfl) sc_reduced.nd rfl rfl (sw_true rfl rfl rfl (by decide +kernel)) (id_seq (pdv 8)) (blkOk_by (N := ["rows", "left", "wide", "done", "last", "place", "at", "pivot", "ahead", "behind", "row", "number"]) (sc := defScope s_reduced) (by decide +kernel)) (fun _ _ _ _ _ => (gd_name (i := 10) sc_reduced.nd rfl (by first | exact Or.inl rfl | exact Or.inr rfl))) (fun _ _ _ _ _ => ptsd_nil) (fun _ _ _ _ _ => (pd_fn (d_cleared T) gg (hr.mono (by decide)) rfl T.g_cleared T.F_cleared.kp (b_cleared T) pass0 (pda_cons (pdv 10) (pda_cons (pdv 5) (pda_cons (pdv 7) (pda_cons (pdv 4) pda_nil)))))))
    (sd_cons (sd_setLcP (i := 9) (own := [("row", 10)]) (ts := [10]) (by rfl) sc_reduced.nd rfl rfl (sw_true rfl rfl rfl (by decide +kernel)) (id_seq (pdv 9)) (blkOk_by (N := ["rows", "left", "wide", "done", "last", "place", "at", "pivot", "ahead", "behind", "row", "number"]) (sc := defScope s_reduced) (by decide +kernel)) (fun _ _ _ _ _ => (gd_name (i := 10) sc_reduced.nd rfl (by first | exact Or.inl rfl | exact Or.inr rfl))) (fun _ _ _ _ _ => ptsd_nil) (fun _ _ _ _ _ => (pd_fn (d_cleared T) gg (hr.mono (by decide)) rfl T.g_cleared T.F_cleared.kp (b_cleared T) pass0 (pda_cons (pdv 10) (pda_cons (pdv 5) (pda_cons (pdv 7) (pda_cons (pdv 4) pda_nil)))))))
    (sd_cons (sd_set (i := 1) sc_reduced.nd rfl (by first | exact Or.inl rfl | exact Or.inr rfl) (pd_op addOk (o_add (ratOk T rfl rfl rfl rfl rfl gg (hr.mono (by decide)))) (pd_op addOk (o_add (ratOk T rfl rfl rfl rfl rfl gg (hr.mono (by decide)))) (pdv 8) (pd_lst (pda_cons (pdv 7) pda_nil))) (pdv 9)))
    (sd_cons (sd_set (i := 4) sc_reduced.nd rfl (by first | exact Or.inl rfl | exact Or.inr rfl) (pd_ix (pdv 7) (pdv 5) (fun _ _ => rfl)))
    (sd_one (sd_aug (ps_aug (i := 3) sc_reduced.nd rfl (by first | exact Or.inl rfl | exact Or.inr rfl) pd_int ip_add))))))))))))
    (sd_one (sd_ret (pd_pure (pd_lc (own := [("row", 10)]) (ts := [10]) (by rfl) sc_reduced.nd (id_seq (pd_slice (pdv 1) pod_none (pod_some (pdv 3)))) (blkOk_by (N := ["rows", "left", "wide", "done", "last", "place", "at", "pivot", "ahead", "behind", "row", "number"]) (sc := defScope s_reduced) (by decide +kernel)) (fun _ _ _ _ _ => (gd_name (i := 10) sc_reduced.nd rfl (by first | exact Or.inl rfl | exact Or.inr rfl))) (fun _ _ _ _ _ => ptsd_nil) (fun _ _ _ _ _ => (pd_lc (own := [("number", 11)]) (ts := [11]) (by rfl) sc_reduced.nd (id_seq (pdv 10)) (blkOk_in (N := ["rows", "left", "wide", "done", "last", "place", "at", "pivot", "ahead", "behind", "row", "number"]) (defScope s_reduced) rfl (by decide +kernel)) (fun _ _ _ _ _ => (gd_name (i := 11) sc_reduced.nd rfl (by first | exact Or.inl rfl | exact Or.inr rfl))) (fun _ _ _ _ _ => ptsd_nil) (fun _ _ _ _ _ => (pd_mk2 mkOk (pe_mk T.mk_Ratio (ok_init T) gg (hr.mono (by decide)) rfl T.g_Ratio (b_init2 T) .nil pass0 (pda_cons (pdv 11) (pda_cons (pdv 4) pda_nil)))))))))))))))
def lb_numbers_from_1 : DS := (ifS (notT (valT (callF [false] m_is_number (consA (nameD 3) nilA)))) (retS (litD .non)) nextS)
def ce_numbers_from_2 : DE := (callF [false] m_as_ratio (consA (nameD 3) nilA))
def b_numbers_from_D : DS := (seqS (ifS (orT (notT (valT (callF [false] m_is_list (consA (nameD 0) nilA)))) (notT (chainT leI leI (nameD 1) (opN lenD (consA (nameD 0) nilA)) (nameD 2)))) (retS (litD .non)) nextS)
    (seqS (forS (seqI (pnOf [false, false, false] 0) (nameD 0)) (nameG 3) lb_numbers_from_1)
    (retS (compD [3] (seqI (pnOf [false, false, false] 0) (nameD 0)) (nameG 3) yesT ce_numbers_from_2))))
def m_numbers_from : FM := runF 3 4 b_numbers_from_D
theorem d_numbers_from (T : Tx K mg) : FG P w K mg base CX0 5 (ga K "numbers_from") (fdOf K (ga K "numbers_from")) ["value", "least", "most"] (spF K 3 [false, false, false] m_numbers_from) := by
  exact fgD (fl := [false, false, false]) T.F_numbers_from sc_numbers_from fun cdv A outer s H gg hr E =>
    (sd_cons (sd_if (PW.pt (pwd_or (ptd_not (pt_of_val (pd_fn (d_is_list T) gg (hr.mono (by decide)) rfl T.g_is_list T.F_is_list.kp (b_is_list T) pass0 (pda_cons (pdv 0) pda_nil)))) (pwd_or1 (ptd_not (ptd_le2 (pdv 1) (pd_callB lenOk call_len_seq (by rfl) T.n_len PySem.boot_len (pda_cons (pdv 0) pda_nil)) (pdv 2)))))) (sd_one (sd_ret pd_non)) sd_nil)
    (sd_cons (sd_for (ts := [3]) PassesOwn.never rfl (id_seq (pdv 0)) (gd_name (i := 3) sc_numbers_from.nd rfl (by first | exact Or.inl rfl | exact Or.inr rfl)) (sd_one (sd_if (ptd_not (pt_of_val (pd_fn (d_is_number T) gg (hr.mono (by decide)) rfl T.g_is_number T.F_is_number.kp (b_is_number T) pass0 (pda_cons (pdv 3) pda_nil)))) (sd_one (sd_ret pd_non)) sd_nil)))
    (sd_one (sd_ret (pd_lc (own := [("number", 3)]) (ts := [3]) (by rfl) sc_numbers_from.nd (id_seq (pdv 0)) (blkOk_by (N := ["value", "least", "most", "number"]) (sc := defScope s_numbers_from) (by decide +kernel)) (fun _ _ _ _ _ => (gd_name (i := 3) sc_numbers_from.nd rfl (by first | exact Or.inl rfl | exact Or.inr rfl))) (fun _ _ _ _ _ => ptsd_nil) (fun _ _ _ _ _ => (pd_fn (d_as_ratio T) gg (hr.mono (by decide)) rfl T.g_as_ratio T.F_as_ratio.kp (b_as_ratio T) pass0 (pda_cons (pdv 3) pda_nil))))))))
def lb_rows_from_1 : DS := (seqS (setS 6 (pureD (callF [false, false, false] m_numbers_from (consA (nameD 5) (consA (nameD 2) (consA (nameD 3) nilA))))))
    (seqS (ifS (pureT (orT (valT (bin2 isD (nameD 6) (litD .non))) (andT (truT (nameD 4)) (valT (bin2 neD (opN lenD (consA (nameD 6) nilA)) (opN lenD (consA (ixD (nameD 4) (litD (.int 0))) nilA))))))) (retS (litD .non)) nextS)
    (exprS (appD 4 (nameD 6)))))
def b_rows_from_D : DS := (seqS (ifS (pureT (orT (notT (valT (callF [false] m_is_list (consA (nameD 0) nilA)))) (valT (bin2 gtD (opN lenD (consA (nameD 0) nilA)) (nameD 1))))) (retS (litD .non)) nextS)
    (seqS (setS 4 (dispD false nilA))
    (seqS (forS (seqI (pnOf [false, false, false, false] 0) (nameD 0)) (nameG 5) lb_rows_from_1)
    (retV 4))))
def m_rows_from : FM := runF 4 7 b_rows_from_D
theorem d_rows_from (T : Tx K mg) : FG P w K mg base CX0 11 (ga K "rows_from") (fdOf K (ga K "rows_from")) ["value", "most", "least_wide", "most_wide"] (spF K 4 [false, false, false, false] m_rows_from) := by
  exact fgD (fl := [false, false, false, false]) T.F_rows_from sc_rows_from fun cdv A outer s H gg hr E =>
    (sd_cons (sd_if (ptd_pure (PW.pt (pwd_or (ptd_not (pt_of_val (pd_fn (d_is_list T) gg (hr.mono (by decide)) rfl T.g_is_list T.F_is_list.kp (b_is_list T) pass0 (pda_cons (pdv 0) pda_nil)))) (pwd_or1 (ptd_cmp gtOk op_gt (pd_callB lenOk call_len_seq (by rfl) T.n_len PySem.boot_len (pda_cons (pdv 0) pda_nil)) (pdv 1) (nomark _)))))) (sd_one (sd_ret pd_non)) sd_nil)
    (sd_cons (sd_set (i := 4) sc_rows_from.nd rfl (by first | exact Or.inl rfl | exact Or.inr rfl) (pd_lst pda_nil))
    (sd_cons (sd_for (ts := [5]) PassesOwn.never rfl (id_seq (pdv 0)) (gd_name (i := 5) sc_rows_from.nd rfl (by first | exact Or.inl rfl | exact Or.inr rfl)) (sd_cons (sd_set (i := 6) sc_rows_from.nd rfl (by first | exact Or.inl rfl | exact Or.inr rfl) (pd_pure (pd_fn (d_numbers_from T) gg (hr.mono (by decide)) rfl T.g_numbers_from T.F_numbers_from.kp (b_numbers_from T) pass0 (pda_cons (pdv 5) (pda_cons (pdv 2) (pda_cons (pdv 3) pda_nil))))))
    (sd_cons (sd_if (ptd_pure (PW.pt (pwd_or (ptd_cmp isOk op_isN (pdv 6) pd_non (nomark _)) (pwd_or1 (PW.pt (pwd_and (pt_of_tru (pdv 4)) (pwd_and1 (ptd_cmp neOk (o_ne (ratEq T rfl rfl rfl rfl rfl) (hr.mono (by decide))) (pd_callB lenOk call_len_seq (by rfl) T.n_len PySem.boot_len (pda_cons (pdv 6) pda_nil)) (pd_callB lenOk call_len_seq (by rfl) T.n_len PySem.boot_len (pda_cons (pd_ix (pdv 4) pd_int (fun _ _ => rfl)) pda_nil)) (nomark _))))))))) (sd_one (sd_ret pd_non)) sd_nil)
    (sd_one (sd_expr (pd_append (by rfl) (by first | exact Or.inl rfl | exact Or.inr (Or.inl rfl) | exact Or.inr (Or.inr rfl)) (pe_bm PySem.F.plainAttrs_list PySem.F.slot_list_append PySem.F.type_list_append mt_append (pv 4) (pda_cons (pdv 6) pda_nil))))))))
    (sd_one (sd_retV (i := 4) (by rfl) (by first | exact Or.inl rfl | exact Or.inr (Or.inl rfl) | exact Or.inr (Or.inr rfl)))))))
def b_grid_from_D : DS := (retS (callF [false, false, false, false] m_rows_from (consA (nameD 0) (consA (litD (.int g_MOST_ROWS)) (consA (litD (.int 1)) (consA (litD (.int g_MOST_WIDE)) nilA))))))
def m_grid_from : FM := runF 1 1 b_grid_from_D
theorem d_grid_from (T : Tx K mg) : FG P w K mg base CX0 12 (ga K "grid_from") (fdOf K (ga K "grid_from")) ["value"] (spF K 1 [false] m_grid_from) := by
  exact fgD (fl := [false]) T.F_grid_from sc_grid_from fun cdv A outer s H gg hr E =>
    (sd_one (sd_ret (pd_fn (d_rows_from T) gg (hr.mono (by decide)) rfl T.g_rows_from T.F_rows_from.kp (b_rows_from T) pass0 (pda_cons (pdv 0) (pda_cons (pd_gint (by rfl) T.v_MOST_ROWS) (pda_cons pd_int (pda_cons (pd_gint (by rfl) T.v_MOST_WIDE) pda_nil)))))))
def b_need_grid_D : DS := (seqS (setS 1 (callF [false] m_grid_from (consA (nameD 0) nilA)))
    (seqS (ifS (valT (bin2 isD (nameD 1) (litD .non))) neverS nextS)
    (retV 1)))
def m_need_grid : FM := runF 1 2 b_need_grid_D
theorem d_need_grid (T : Tx K mg) : FG P w K mg base CX0 13 (ga K "need_grid") (fdOf K (ga K "need_grid")) ["value"] (spF K 1 [false] m_need_grid) := by
  exact fgD (fl := [false]) T.F_need_grid sc_need_grid fun cdv A outer s H gg hr E =>
    (sd_cons (sd_set (i := 1) sc_need_grid.nd rfl (by first | exact Or.inl rfl | exact Or.inr rfl) (pd_fn (d_grid_from T) gg (hr.mono (by decide)) rfl T.g_grid_from T.F_grid_from.kp (b_grid_from T) pass0 (pda_cons (pdv 0) pda_nil)))
    (sd_cons (sd_if (ptd_cmp isOk op_isN (pdv 1) pd_non (nomark _)) sds_never sd_nil)
    (sd_one (sd_retV (i := 1) (by rfl) (by first | exact Or.inl rfl | exact Or.inr (Or.inl rfl) | exact Or.inr (Or.inr rfl))))))
def b_steps_D : DS := (retS (callF [false] m_reduced (consA (callF [false] m_need_grid (consA (nameD 0) nilA)) nilA)))
def m_steps : FM := runF 1 1 b_steps_D
theorem d_steps (T : Tx K mg) : FG P w K mg base CX0 14 (ga K "steps") (fdOf K (ga K "steps")) ["grid"] (spF K 1 [false] m_steps) := by
  exact fgD (fl := [false]) T.F_steps sc_steps fun cdv A outer s H gg hr E =>
    (sd_one (sd_ret (pd_fn (d_reduced T) gg (hr.mono (by decide)) rfl T.g_reduced T.F_reduced.kp (b_reduced T) pass0 (pda_cons (pd_fn (d_need_grid T) gg (hr.mono (by decide)) rfl T.g_need_grid T.F_need_grid.kp (b_need_grid T) pass0 (pda_cons (pdv 0) pda_nil)) pda_nil))))
def b_rank_D : DS := (retS (opN lenD (consA (callF [false] m_steps (consA (nameD 0) nilA)) nilA)))
def m_rank : FM := runF 1 1 b_rank_D
theorem d_rank (T : Tx K mg) : FG P w K mg base CX0 15 (ga K "rank") (fdOf K (ga K "rank")) ["grid"] (spF K 1 [false] m_rank) := by
  exact fgD (fl := [false]) T.F_rank sc_rank fun cdv A outer s H gg hr E =>
    (sd_one (sd_ret (pd_callB lenOk call_len_seq (by rfl) T.n_len PySem.boot_len (pda_cons (pd_fn (d_steps T) gg (hr.mono (by decide)) rfl T.g_steps T.F_steps.kp (b_steps T) pass0 (pda_cons (pdv 0) pda_nil)) pda_nil))))
def b_law_pot_D : DS := (seqS (setS 2 (bin2 addD (bin2 mulD (litD (.int 131)) (nameD 1)) (litD (.int 59))))
    (seqS (ifS (valT (bin2 ltD (nameD 1) (opN lenD (consA (nameD 0) nilA)))) (setS 2 (opN absD (consA (ixD (nameD 0) (nameD 1)) nilA))) nextS)
    (retS (dispD false (consA (opN max2D (consA (litD (.int 0)) (consA (bin2 subD (nameD 2) (bin2 powD (litD (.int 10)) (litD (.int 18)))) nilA))) (consA (bin2 addD (bin2 modD (bin2 mulD (opN intD (consA (bin2 addD (bin2 modD (opN intD (consA (nameD 2) nilA)) (litD (.int 2147483549))) (litD (.int 59))) nilA)) (bin2 powD (bin2 addD (bin2 mulD (litD (.int 2)) (nameD 1)) (litD (.int 3))) (litD (.int 3)))) (litD (.int 2147483477))) (litD (.int 1))) nilA))))))
def m_law_pot : FM := runF 2 3 b_law_pot_D
theorem d_law_pot (T : Tx K mg) : FG P w K mg base CX0 7 (ga K "_law_pot") (fdOf K (ga K "_law_pot")) ["_law_script", "_law_k"] (spF K 2 [false, false] m_law_pot) := by
  exact fgD (fl := [false, false]) T.F_law_pot sc_law_pot fun cdv A outer s H gg hr E =>
    (sd_cons (sd_set (i := 2) sc_law_pot.nd rfl (by first | exact Or.inl rfl | exact Or.inr rfl) (pd_op addOk (o_add (ratOk T rfl rfl rfl rfl rfl gg (hr.mono (by decide)))) (pd_op mulOk (o_mul (ratOk T rfl rfl rfl rfl rfl gg (hr.mono (by decide)))) pd_int (pdv 1)) pd_int))
    (sd_cons (sd_if (ptd_cmp ltOk op_lt (pdv 1) (pd_callB lenOk call_len_seq (by rfl) T.n_len PySem.boot_len (pda_cons (pdv 0) pda_nil)) (nomark _)) (sd_one (sd_set (i := 2) sc_law_pot.nd rfl (by first | exact Or.inl rfl | exact Or.inr rfl) (pd_callB absOk call_abs (by rfl) T.n_abs (by decide +kernel) (pda_cons (pd_ix (pdv 0) (pdv 1) (fun _ _ => rfl)) pda_nil)))) sd_nil)
    (sd_one (sd_ret (pd_lst (pda_cons (pd_callB max2Ok (call_max2 rfl) (by rfl) T.n_max (by decide +kernel) (pda_cons pd_int (pda_cons (pd_op subOk (o_sub (ratOk T rfl rfl rfl rfl rfl gg (hr.mono (by decide)))) (pdv 2) (pd_op powOk op_pow pd_int pd_int)) pda_nil))) (pda_cons (pd_op addOk (o_add (ratOk T rfl rfl rfl rfl rfl gg (hr.mono (by decide)))) (pd_op modOk op_modN (pd_op mulOk (o_mul (ratOk T rfl rfl rfl rfl rfl gg (hr.mono (by decide)))) (pd_callTy intOk call_int1 (by rfl) T.n_int (by decide +kernel) (pda_cons (pd_op addOk (o_add (ratOk T rfl rfl rfl rfl rfl gg (hr.mono (by decide)))) (pd_op modOk op_modN (pd_callTy intOk call_int1 (by rfl) T.n_int (by decide +kernel) (pda_cons (pdv 2) pda_nil)) pd_int) pd_int) pda_nil)) (pd_op powOk op_pow (pd_op addOk (o_add (ratOk T rfl rfl rfl rfl rfl gg (hr.mono (by decide)))) (pd_op mulOk (o_mul (ratOk T rfl rfl rfl rfl rfl gg (hr.mono (by decide)))) pd_int (pdv 1)) pd_int) pd_int)) pd_int) pd_int) pda_nil)))))))
def b_law_draw_D : DS := (seqS (ifS (valT (bin2 gtD (ixD (nameD 0) (litD (.int 0))) (litD (.int 0)))) (seqS (asgS (opN divmodD (consA (ixD (nameD 0) (litD (.int 0))) (consA (nameD 1) nilA))) (tupG 2 (consG (subG 0 (litD (.int 0))) (consG (nameG 2) nilG))))
    (retV 2)) nextS)
    (seqS (asgS (bin2 modD (opN intD (consA (bin2 addD (bin2 mulD (ixD (nameD 0) (litD (.int 1))) (litD (.int 48271))) (litD (.int 18144))) nilA)) (litD (.int 2147483587))) (subG 0 (litD (.int 1))))
    (retS (bin2 modD (opN intD (consA (bin2 fdivD (bin2 modD (opN intD (consA (bin2 mulD (ixD (nameD 0) (litD (.int 1))) (ixD (nameD 0) (litD (.int 1)))) nilA)) (litD (.int 2147483549))) (litD (.int 17))) nilA)) (nameD 1)))))
def m_law_draw : FM := runF 2 3 b_law_draw_D
theorem d_law_draw (T : Tx K mg) : FG P w K mg base CX0 7 (ga K "_law_draw") (fdOf K (ga K "_law_draw")) ["_law_pot_here", "_law_size"] (spF K 2 [true, false] m_law_draw) := by
  exact fgD (fl := [true, false]) T.F_law_draw sc_law_draw fun cdv A outer s H gg hr E =>
    (sd_cons (sd_if (ptd_cmp gtOk op_gt (pd_ix (pdv 0) pd_int (fun _ _ => rfl)) pd_int (nomark _)) (sd_cons (sd_asg (ts := [2]) (ps_asg (pd_callB divmodOk call_divmod (by rfl) T.n_divmod (by decide +kernel) (pda_cons (pd_ix (pdv 0) pd_int (fun _ _ => rfl)) (pda_cons (pdv 1) pda_nil))) (gd_tup (pg_tup rfl (gds_cons (gd_sub (pg_sub (pv 0) pd_int set_list)) (gds_cons (gd_name (i := 2) sc_law_draw.nd rfl (by first | exact Or.inl rfl | exact Or.inr rfl)) gds_nil))))))
    (sd_one (sd_retV (i := 2) (by rfl) (by first | exact Or.inl rfl | exact Or.inr (Or.inl rfl) | exact Or.inr (Or.inr rfl))))) sd_nil)
    (sd_cons (sd_asg (ts := []) (ps_asg (pd_op modOk op_modN (pd_callTy intOk call_int1 (by rfl) T.n_int (by decide +kernel) (pda_cons (pd_op addOk (o_add (ratOk T rfl rfl rfl rfl rfl gg (hr.mono (by decide)))) (pd_op mulOk (o_mul (ratOk T rfl rfl rfl rfl rfl gg (hr.mono (by decide)))) (pd_ix (pdv 0) pd_int (fun _ _ => rfl)) pd_int) pd_int) pda_nil)) pd_int) (gd_sub (pg_sub (pv 0) pd_int set_list))))
    (sd_one (sd_ret (pd_op modOk op_modN (pd_callTy intOk call_int1 (by rfl) T.n_int (by decide +kernel) (pda_cons (pd_op fdivOk op_fdivZ (pd_op modOk op_modN (pd_callTy intOk call_int1 (by rfl) T.n_int (by decide +kernel) (pda_cons (pd_op mulOk (o_mul (ratOk T rfl rfl rfl rfl rfl gg (hr.mono (by decide)))) (pd_ix (pdv 0) pd_int (fun _ _ => rfl)) (pd_ix (pdv 0) pd_int (fun _ _ => rfl))) pda_nil)) pd_int) pd_int) pda_nil)) (pdv 1))))))
def b_law_pick_D : DS := (retS (ixD (nameD 1) (callF [true, false] m_law_draw (consA (nameD 0) (consA (opN lenD (consA (nameD 1) nilA)) nilA)))))
def m_law_pick : FM := runF 2 2 b_law_pick_D
theorem d_law_pick (T : Tx K mg) : FG P w K mg base CX0 8 (ga K "_law_pick") (fdOf K (ga K "_law_pick")) ["_law_pot_here", "_law_some"] (spF K 2 [true, true] m_law_pick) := by
  exact fgD (fl := [true, true]) T.F_law_pick sc_law_pick fun cdv A outer s H gg hr E =>
    (sd_one (sd_ret (pd_ix (pdv 1) (pd_fn (d_law_draw T) gg (hr.mono (by decide)) rfl T.g_law_draw T.F_law_draw.kp (b_law_draw T) pass0 (pda_cons (pdv 0) (pda_cons (pd_callB lenOk call_len_seq (by rfl) T.n_len PySem.boot_len (pda_cons (pdv 1) pda_nil)) pda_nil))) (fun _ _ => rfl))))
def lb_law_low_1 : DS := (parS2 2 3 (consA (nameD 3) (consA (bin2 modD (opN intD (consA (nameD 2) nilA)) (nameD 3)) nilA)))
def b_law_low_D : DS := (seqS (parS2 2 3 (consA (opN absD (consA (nameD 0) nilA)) (consA (opN absD (consA (nameD 1) nilA)) nilA)))
    (seqS (whileS 20000 (valT (bin2 gtD (nameD 3) (litD (.int 0)))) lb_law_low_1)
    (seqS (setS 2 (ifD (valT (bin2 gtD (nameD 1) (litD (.int 0)))) (nameD 2) (bin2 subD (litD (.int 0)) (nameD 2))))
    (retS (dispD true (consA (bin2 fdivD (nameD 0) (nameD 2)) (consA (bin2 fdivD (nameD 1) (nameD 2)) nilA)))))))
def m_law_low : FM := runF 2 4 b_law_low_D
theorem d_law_low (T : Tx K mg) : FG P w K mg base CX0 7 (ga K "_law_low") (fdOf K (ga K "_law_low")) ["_law_top", "_law_bottom"] (spF K 2 [false, false] m_law_low) := by
  exact fgD (fl := [false, false]) T.F_law_low sc_law_low fun cdv A outer s H gg hr E =>
    (sd_cons (sd_par2 (ps_par (i := 2) (j := 3) (by rfl) sc_law_low.nd rfl rfl (by decide) rfl rfl (pda_cons (pd_callB absOk call_abs (by rfl) T.n_abs (by decide +kernel) (pda_cons (pdv 0) pda_nil)) (pda_cons (pd_callB absOk call_abs (by rfl) T.n_abs (by decide +kernel) (pda_cons (pdv 1) pda_nil)) pda_nil)) (by rfl)))
    (sd_cons (sd_while 20000 PassesOwn.never (ptd_cmp gtOk op_gt (pdv 3) pd_int (nomark _)) (sd_one (sd_par2 (ps_par (i := 2) (j := 3) (by rfl) sc_law_low.nd rfl rfl (by decide) rfl rfl (pda_cons (pdv 3) (pda_cons (pd_op modOk op_modN (pd_callTy intOk call_int1 (by rfl) T.n_int (by decide +kernel) (pda_cons (pdv 2) pda_nil)) (pdv 3)) pda_nil)) (by rfl)))))
    (sd_cons (sd_set (i := 2) sc_law_low.nd rfl (by first | exact Or.inl rfl | exact Or.inr rfl) (ped_if (ptd_cmp gtOk op_gt (pdv 1) pd_int (nomark _)) (pdv 2) (pd_op subOk (o_sub (ratOk T rfl rfl rfl rfl rfl gg (hr.mono (by decide)))) pd_int (pdv 2))))
    (sd_one (sd_ret (pd_tup (pda_cons (pd_op fdivOk op_fdivZ (pdv 0) (pdv 2)) (pda_cons (pd_op fdivOk op_fdivZ (pdv 1) (pdv 2)) pda_nil))))))))
def b_law_sum_D : DS := (retS (callF [false, false] m_law_low (consA (bin2 addD (bin2 mulD (ixD (nameD 0) (litD (.int 0))) (ixD (nameD 1) (litD (.int 1)))) (bin2 mulD (ixD (nameD 1) (litD (.int 0))) (ixD (nameD 0) (litD (.int 1))))) (consA (bin2 mulD (ixD (nameD 0) (litD (.int 1))) (ixD (nameD 1) (litD (.int 1)))) nilA))))
def m_law_sum : FM := runF 2 2 b_law_sum_D
theorem d_law_sum (T : Tx K mg) : FG P w K mg base CX0 8 (ga K "_law_sum") (fdOf K (ga K "_law_sum")) ["_law_one", "_law_other"] (spF K 2 [false, false] m_law_sum) := by
  exact fgD (fl := [false, false]) T.F_law_sum sc_law_sum fun cdv A outer s H gg hr E =>
    (sd_one (sd_ret (pd_fn (d_law_low T) gg (hr.mono (by decide)) rfl T.g_law_low T.F_law_low.kp (b_law_low T) pass0 (pda_cons (pd_op addOk (o_add (ratOk T rfl rfl rfl rfl rfl gg (hr.mono (by decide)))) (pd_op mulOk (o_mul (ratOk T rfl rfl rfl rfl rfl gg (hr.mono (by decide)))) (pd_ix (pdv 0) pd_int (fun _ _ => rfl)) (pd_ix (pdv 1) pd_int (fun _ _ => rfl))) (pd_op mulOk (o_mul (ratOk T rfl rfl rfl rfl rfl gg (hr.mono (by decide)))) (pd_ix (pdv 1) pd_int (fun _ _ => rfl)) (pd_ix (pdv 0) pd_int (fun _ _ => rfl)))) (pda_cons (pd_op mulOk (o_mul (ratOk T rfl rfl rfl rfl rfl gg (hr.mono (by decide)))) (pd_ix (pdv 0) pd_int (fun _ _ => rfl)) (pd_ix (pdv 1) pd_int (fun _ _ => rfl))) pda_nil)))))
def b_law_by_D : DS := (retS (callF [false, false] m_law_low (consA (bin2 mulD (ixD (nameD 0) (litD (.int 0))) (ixD (nameD 1) (litD (.int 0)))) (consA (bin2 mulD (ixD (nameD 0) (litD (.int 1))) (ixD (nameD 1) (litD (.int 1)))) nilA))))
def m_law_by : FM := runF 2 2 b_law_by_D
theorem d_law_by (T : Tx K mg) : FG P w K mg base CX0 8 (ga K "_law_by") (fdOf K (ga K "_law_by")) ["_law_one", "_law_other"] (spF K 2 [false, false] m_law_by) := by
  exact fgD (fl := [false, false]) T.F_law_by sc_law_by fun cdv A outer s H gg hr E =>
    (sd_one (sd_ret (pd_fn (d_law_low T) gg (hr.mono (by decide)) rfl T.g_law_low T.F_law_low.kp (b_law_low T) pass0 (pda_cons (pd_op mulOk (o_mul (ratOk T rfl rfl rfl rfl rfl gg (hr.mono (by decide)))) (pd_ix (pdv 0) pd_int (fun _ _ => rfl)) (pd_ix (pdv 1) pd_int (fun _ _ => rfl))) (pda_cons (pd_op mulOk (o_mul (ratOk T rfl rfl rfl rfl rfl gg (hr.mono (by decide)))) (pd_ix (pdv 0) pd_int (fun _ _ => rfl)) (pd_ix (pdv 1) pd_int (fun _ _ => rfl))) pda_nil)))))
def b_law_less_D : DS := (retS (callF [false, false] m_law_sum (consA (nameD 0) (consA (dispD true (consA (bin2 subD (litD (.int 0)) (ixD (nameD 1) (litD (.int 0)))) (consA (ixD (nameD 1) (litD (.int 1))) nilA))) nilA))))
def m_law_less : FM := runF 2 2 b_law_less_D
theorem d_law_less (T : Tx K mg) : FG P w K mg base CX0 9 (ga K "_law_less") (fdOf K (ga K "_law_less")) ["_law_one", "_law_other"] (spF K 2 [false, false] m_law_less) := by
  exact fgD (fl := [false, false]) T.F_law_less sc_law_less fun cdv A outer s H gg hr E =>
    (sd_one (sd_ret (pd_fn (d_law_sum T) gg (hr.mono (by decide)) rfl T.g_law_sum T.F_law_sum.kp (b_law_sum T) pass0 (pda_cons (pdv 0) (pda_cons (pd_tup (pda_cons (pd_op subOk (o_sub (ratOk T rfl rfl rfl rfl rfl gg (hr.mono (by decide)))) pd_int (pd_ix (pdv 1) pd_int (fun _ _ => rfl))) (pda_cons (pd_ix (pdv 1) pd_int (fun _ _ => rfl)) pda_nil))) pda_nil)))))
def b_law_over_D : DS := (retS (callF [false, false] m_law_low (consA (bin2 mulD (ixD (nameD 0) (litD (.int 0))) (ixD (nameD 1) (litD (.int 1)))) (consA (bin2 mulD (ixD (nameD 0) (litD (.int 1))) (ixD (nameD 1) (litD (.int 0)))) nilA))))
def m_law_over : FM := runF 2 2 b_law_over_D
theorem d_law_over (T : Tx K mg) : FG P w K mg base CX0 8 (ga K "_law_over") (fdOf K (ga K "_law_over")) ["_law_one", "_law_other"] (spF K 2 [false, false] m_law_over) := by
  exact fgD (fl := [false, false]) T.F_law_over sc_law_over fun cdv A outer s H gg hr E =>
    (sd_one (sd_ret (pd_fn (d_law_low T) gg (hr.mono (by decide)) rfl T.g_law_low T.F_law_low.kp (b_law_low T) pass0 (pda_cons (pd_op mulOk (o_mul (ratOk T rfl rfl rfl rfl rfl gg (hr.mono (by decide)))) (pd_ix (pdv 0) pd_int (fun _ _ => rfl)) (pd_ix (pdv 1) pd_int (fun _ _ => rfl))) (pda_cons (pd_op mulOk (o_mul (ratOk T rfl rfl rfl rfl rfl gg (hr.mono (by decide)))) (pd_ix (pdv 0) pd_int (fun _ _ => rfl)) (pd_ix (pdv 1) pd_int (fun _ _ => rfl))) pda_nil)))))
def b_law_passed_D : DS := (retS (ifD (andT (valT (bin2 eqD (ixD (nameD 1) (litD (.int 1))) (litD (.int 1)))) (valT (bin2 eqD (callF [true, false] m_law_draw (consA (nameD 0) (consA (litD (.int 2)) nilA))) (litD (.int 0))))) (ixD (nameD 1) (litD (.int 0))) (opN (mkD 2) (consA (ixD (nameD 1) (litD (.int 0))) (consA (ixD (nameD 1) (litD (.int 1))) nilA)))))
def m_law_passed : FM := runF 2 2 b_law_passed_D
theorem d_law_passed (T : Tx K mg) : FG P w K mg base CX0 11 (ga K "_law_passed") (fdOf K (ga K "_law_passed")) ["_law_pot_here", "_law_pair"] (spF K 2 [true, false] m_law_passed) := by
  exact fgD (fl := [true, false]) T.F_law_passed sc_law_passed fun cdv A outer s H gg hr E =>
    (sd_one (sd_ret (ped_if (PW.pt (pwd_and (ptd_cmp eqOk (o_eq (ratEq T rfl rfl rfl rfl rfl) (hr.mono (by decide))) (pd_ix (pdv 1) pd_int (fun _ _ => rfl)) pd_int (nomark _)) (pwd_and1 (ptd_cmp eqOk (o_eq (ratEq T rfl rfl rfl rfl rfl) (hr.mono (by decide))) (pd_fn (d_law_draw T) gg (hr.mono (by decide)) rfl T.g_law_draw T.F_law_draw.kp (b_law_draw T) pass0 (pda_cons (pdv 0) (pda_cons pd_int pda_nil))) pd_int (nomark _))))) (pd_ix (pdv 1) pd_int (fun _ _ => rfl)) (pd_mk2 mkOk (pe_mk T.mk_Ratio (ok_init T) gg (hr.mono (by decide)) rfl T.g_Ratio (b_init2 T) .nil pass0 (pda_cons (pd_ix (pdv 1) pd_int (fun _ _ => rfl)) (pda_cons (pd_ix (pdv 1) pd_int (fun _ _ => rfl)) pda_nil)))))))
def ce_law_given_1 : DE := (callF [true, false] m_law_passed (consA (nameD 0) (consA (nameD 5) nilA)))
def lb_law_given_2 : DS := (seqS (setS 4 (compD [5] (seqI (pnOf [true, false] 0) (nameD 3)) (nameG 5) yesT ce_law_given_1))
    (exprS (appD 2 (ifD (valT (bin2 eqD (callF [true, false] m_law_draw (consA (nameD 0) (consA (litD (.int 3)) nilA))) (litD (.int 0)))) (opN tupleD (consA (nameD 4) nilA)) (nameD 4)))))
def b_law_given_D : DS := (seqS (setS 2 (dispD false nilA))
    (seqS (forS (seqI (pnOf [true, false] 0) (nameD 1)) (nameG 3) lb_law_given_2)
    (retS (ifD (valT (bin2 eqD (callF [true, false] m_law_draw (consA (nameD 0) (consA (litD (.int 3)) nilA))) (litD (.int 0)))) (opN tupleD (consA (nameD 2) nilA)) (nameD 2)))))
def m_law_given : FM := runF 2 6 b_law_given_D
theorem d_law_given (T : Tx K mg) : FG P w K mg base CX0 12 (ga K "_law_given") (fdOf K (ga K "_law_given")) ["_law_pot_here", "_law_rows_here"] (spF K 2 [true, false] m_law_given) := by
  exact fgD (fl := [true, false]) T.F_law_given sc_law_given fun cdv A outer s H gg hr E =>
    (sd_cons (sd_set (i := 2) sc_law_given.nd rfl (by first | exact Or.inl rfl | exact Or.inr rfl) (pd_lst pda_nil))
    (sd_cons (sd_for (ts := [3]) PassesOwn.never rfl (id_seq (pdv 1)) (gd_name (i := 3) sc_law_given.nd rfl (by first | exact Or.inl rfl | exact Or.inr rfl)) (sd_cons (sd_setLc (i := 4) (own := [("_law_pair", 5)]) (ts := [5]) (by rfl) sc_law_given.nd rfl rfl (sw_true rfl rfl rfl (by decide +kernel)) (id_seq (pdv 3)) (blkOk_by (N := ["_law_pot_here", "_law_rows_here", "_law_found", "_law_row", "_law_given_here", "_law_pair"]) (sc := defScope s_law_given) (by decide +kernel)) (fun _ _ _ _ _ => (gd_name (i := 5) sc_law_given.nd rfl (by first | exact Or.inl rfl | exact Or.inr rfl))) (fun _ _ _ _ _ => ptsd_nil) (fun _ _ _ _ _ => (pd_fn (d_law_passed T) gg (hr.mono (by decide)) rfl T.g_law_passed T.F_law_passed.kp (b_law_passed T) pass0 (pda_cons (pdv 0) (pda_cons (pdv 5) pda_nil)))))
    (sd_one (sd_expr (pd_append (by rfl) (by first | exact Or.inl rfl | exact Or.inr (Or.inl rfl) | exact Or.inr (Or.inr rfl)) (pe_bm PySem.F.plainAttrs_list PySem.F.slot_list_append PySem.F.type_list_append mt_append (pv 2) (pda_cons (ped_if (ptd_cmp eqOk (o_eq (ratEq T rfl rfl rfl rfl rfl) (hr.mono (by decide))) (pd_fn (d_law_draw T) gg (hr.mono (by decide)) rfl T.g_law_draw T.F_law_draw.kp (b_law_draw T) pass0 (pda_cons (pdv 0) (pda_cons pd_int pda_nil))) pd_int (nomark _)) (pd_callTy tupleOk call_tuple_of (by rfl) T.n_tuple (by decide +kernel) (pda_cons (pdv 4) pda_nil)) (pdv 4)) pda_nil)))))))
    (sd_one (sd_ret (ped_if (ptd_cmp eqOk (o_eq (ratEq T rfl rfl rfl rfl rfl) (hr.mono (by decide))) (pd_fn (d_law_draw T) gg (hr.mono (by decide)) rfl T.g_law_draw T.F_law_draw.kp (b_law_draw T) pass0 (pda_cons (pdv 0) (pda_cons pd_int pda_nil))) pd_int (nomark _)) (pd_callTy tupleOk call_tuple_of (by rfl) T.n_tuple (by decide +kernel) (pda_cons (pdv 2) pda_nil)) (pdv 2))))))
def ce_law_pairs_1 : DE := (un1 isiR (nameD 1))
def ce_law_pairs_2 : DE := (dispD true (consA (un1 topD (nameD 1)) (consA (un1 botD (nameD 1)) nilA)))
def b_law_pairs_D : DS := (seqS (ifS (orT (notT (valT (un1 (isiTy "list") (nameD 0)))) (notT (valT (opN allD (consA (compD [1] (seqI (pnOf [false] 0) (nameD 0)) (nameG 1) yesT ce_law_pairs_1) nilA))))) (retS (litD .non)) nextS)
    (retS (compD [1] (seqI (pnOf [false] 0) (nameD 0)) (nameG 1) yesT ce_law_pairs_2)))
def m_law_pairs : FM := runF 1 2 b_law_pairs_D
theorem d_law_pairs (T : Tx K mg) : FG P w K mg base CX0 3 (ga K "_law_pairs") (fdOf K (ga K "_law_pairs")) ["_law_value"] (spF K 1 [false] m_law_pairs) := by
  exact fgD (fl := [false]) T.F_law_pairs sc_law_pairs fun cdv A outer s H gg hr E =>
    (sd_cons (sd_if (PW.pt (pwd_or (ptd_not (pt_of_val (pd_isiTy (kitF T) (T := "list") (by simp) (pe_callB call_isi (by rfl) T.n_isinstance (by decide +kernel) (pa_cons (pdv 0) (pa_cons (pe_bltn (v := .ty "list") (by rfl) T.n_list (by decide +kernel) rfl) pa_nil)))))) (pwd_or1 (ptd_not (pt_of_val (pd_callB allOk (cr_all rfl) (by rfl) T.n_all (by decide +kernel) (pda_cons (pd_lc (own := [("_law_one", 1)]) (ts := [1]) (by rfl) sc_law_pairs.nd (id_seq (pdv 0)) (blkOk_by (N := ["_law_value", "_law_one"]) (sc := defScope s_law_pairs) (by decide +kernel)) (fun _ _ _ _ _ => (gd_name (i := 1) sc_law_pairs.nd rfl (by first | exact Or.inl rfl | exact Or.inr rfl))) (fun _ _ _ _ _ => ptsd_nil) (fun _ _ _ _ _ => (pd_isiR (kitF T) (pe_callB call_isi (by rfl) T.n_isinstance (by decide +kernel) (pa_cons (pdv 1) (pa_cons (pe_glob (v := .ref (CR _)) rfl T.g_Ratio rfl) pa_nil)))))) pda_nil))))))) (sd_one (sd_ret pd_non)) sd_nil)
    (sd_one (sd_ret (pd_lc (own := [("_law_one", 1)]) (ts := [1]) (by rfl) sc_law_pairs.nd (id_seq (pdv 0)) (blkOk_by (N := ["_law_value", "_law_one"]) (sc := defScope s_law_pairs) (by decide +kernel)) (fun _ _ _ _ _ => (gd_name (i := 1) sc_law_pairs.nd rfl (by first | exact Or.inl rfl | exact Or.inr rfl))) (fun _ _ _ _ _ => ptsd_nil) (fun _ _ _ _ _ => (pd_tup (pda_cons (pd_get top_g (pe_pr (pdv 1) T.cl_Ratio T.p_top (ok_top T) gg (hr.mono (by decide)) (b_Ratio_top T) .nil pass0)) (pda_cons (pd_get bot_g (pe_pr (pdv 1) T.cl_Ratio T.p_bottom (ok_bottom T) gg (hr.mono (by decide)) (b_Ratio_bottom T) .nil pass0)) pda_nil))))))))
def ce_law_rows_1 : DE := (callF [false] m_law_pairs (consA (nameD 1) nilA))
def b_law_rows_D : DS := (retS (ifD (valT (un1 (isiTy "list") (nameD 0))) (compD [1] (seqI (pnOf [false] 0) (nameD 0)) (nameG 1) yesT ce_law_rows_1) (litD .non)))
def m_law_rows : FM := runF 1 2 b_law_rows_D
theorem d_law_rows (T : Tx K mg) : FG P w K mg base CX0 4 (ga K "_law_rows") (fdOf K (ga K "_law_rows")) ["_law_value"] (spF K 1 [false] m_law_rows) := by
  exact fgD (fl := [false]) T.F_law_rows sc_law_rows fun cdv A outer s H gg hr E =>
    (sd_one (sd_ret (ped_if (pt_of_val (pd_isiTy (kitF T) (T := "list") (by simp) (pe_callB call_isi (by rfl) T.n_isinstance (by decide +kernel) (pa_cons (pdv 0) (pa_cons (pe_bltn (v := .ty "list") (by rfl) T.n_list (by decide +kernel) rfl) pa_nil))))) (pd_lc (own := [("_law_row", 1)]) (ts := [1]) (by rfl) sc_law_rows.nd (id_seq (pdv 0)) (blkOk_by (N := ["_law_value", "_law_row"]) (sc := defScope s_law_rows) (by decide +kernel)) (fun _ _ _ _ _ => (gd_name (i := 1) sc_law_rows.nd rfl (by first | exact Or.inl rfl | exact Or.inr rfl))) (fun _ _ _ _ _ => ptsd_nil) (fun _ _ _ _ _ => (pd_fn (d_law_pairs T) gg (hr.mono (by decide)) rfl T.g_law_pairs T.F_law_pairs.kp (b_law_pairs T) pass0 (pda_cons (pdv 1) pda_nil)))) pd_non)))
def b_law_entry_D : DS := (retS (callF [true, true] m_law_pick (consA (nameD 0) (consA (dispD false (consA (dispD true (consA (litD (.int 0)) (consA (litD (.int 1)) nilA))) (consA (dispD true (consA (litD (.int 0)) (consA (litD (.int 1)) nilA))) (consA (dispD true (consA (litD (.int 1)) (consA (litD (.int 1)) nilA))) (consA (dispD true (consA (un1 negD (litD (.int 1))) (consA (litD (.int 1)) nilA))) (consA (dispD true (consA (litD (.int 2)) (consA (litD (.int 1)) nilA))) (consA (dispD true (consA (litD (.int 3)) (consA (litD (.int 1)) nilA))) (consA (dispD true (consA (un1 negD (litD (.int 2))) (consA (litD (.int 1)) nilA))) (consA (dispD true (consA (litD (.int 1)) (consA (litD (.int 2)) nilA))) (consA (dispD true (consA (un1 negD (litD (.int 3))) (consA (litD (.int 2)) nilA))) nilA)))))))))) nilA))))
def m_law_entry : FM := runF 1 1 b_law_entry_D
theorem d_law_entry (T : Tx K mg) : FG P w K mg base CX0 9 (ga K "_law_entry") (fdOf K (ga K "_law_entry")) ["_law_pot_here"] (spF K 1 [true] m_law_entry) := by
  exact fgD (fl := [true]) T.F_law_entry sc_law_entry fun cdv A outer s H gg hr E =>
    (sd_one (sd_ret (pd_fn (d_law_pick T) gg (hr.mono (by decide)) rfl T.g_law_pick T.F_law_pick.kp (b_law_pick T) pass0 (pda_cons (pdv 0) (pda_cons (pd_lst (pda_cons (pd_tup (pda_cons pd_int (pda_cons pd_int pda_nil))) (pda_cons (pd_tup (pda_cons pd_int (pda_cons pd_int pda_nil))) (pda_cons (pd_tup (pda_cons pd_int (pda_cons pd_int pda_nil))) (pda_cons (pd_tup (pda_cons (pd_un negOk (o_neg (ratOk T rfl rfl rfl rfl rfl gg (hr.mono (by decide)))) pd_int) (pda_cons pd_int pda_nil))) (pda_cons (pd_tup (pda_cons pd_int (pda_cons pd_int pda_nil))) (pda_cons (pd_tup (pda_cons pd_int (pda_cons pd_int pda_nil))) (pda_cons (pd_tup (pda_cons (pd_un negOk (o_neg (ratOk T rfl rfl rfl rfl rfl gg (hr.mono (by decide)))) pd_int) (pda_cons pd_int pda_nil))) (pda_cons (pd_tup (pda_cons pd_int (pda_cons pd_int pda_nil))) (pda_cons (pd_tup (pda_cons (pd_un negOk (o_neg (ratOk T rfl rfl rfl rfl rfl gg (hr.mono (by decide)))) pd_int) (pda_cons pd_int pda_nil))) pda_nil)))))))))) pda_nil)))))
def ce_law_grid_1 : DE := (callF [true] m_law_entry (consA (nameD 0) nilA))
def ce_law_grid_2 : DE := (callF [false, false] m_law_sum (consA (nameD 7) (consA (nameD 8) nilA)))
def lb_law_grid_3 : DS := (seqS (setS 5 (compD [6] (range1I (consA (nameD 2) nilA)) (nameG 6) yesT ce_law_grid_1))
    (seqS (ifS (andT (valT (bin2 neD (nameD 3) (dispD false nilA))) (valT (bin2 eqD (callF [true, false] m_law_draw (consA (nameD 0) (consA (litD (.int 3)) nilA))) (litD (.int 0))))) (setS 5 (compD [7, 8] (zipI (pnOf [true, false, false] 0) (callF [true, true] m_law_pick (consA (nameD 0) (consA (nameD 3) nilA))) (callF [true, true] m_law_pick (consA (nameD 0) (consA (nameD 3) nilA)))) (tupG 2 (consG (nameG 7) (consG (nameG 8) nilG))) yesT ce_law_grid_2)) nextS)
    (exprS (appD 3 (nameD 5)))))
def b_law_grid_D : DS := (seqS (setS 3 (dispD false nilA))
    (seqS (forS (range1I (consA (nameD 1) nilA)) (nameG 4) lb_law_grid_3)
    (retV 3)))
def m_law_grid : FM := runF 3 9 b_law_grid_D
theorem d_law_grid (T : Tx K mg) : FG P w K mg base CX0 11 (ga K "_law_grid") (fdOf K (ga K "_law_grid")) ["_law_pot_here", "_law_many", "_law_wide"] (spF K 3 [true, false, false] m_law_grid) := by
  exact fgD (fl := [true, false, false]) T.F_law_grid sc_law_grid fun cdv A outer s H gg hr E =>
    (sd_cons (sd_set (i := 3) sc_law_grid.nd rfl (by first | exact Or.inl rfl | exact Or.inr rfl) (pd_lst pda_nil))
    (sd_cons (sd_for (ts := [4]) PassesOwn.never rfl (id_range1 (by rfl) T.n_range (pda_cons (pdv 1) pda_nil)) (gd_name (i := 4) sc_law_grid.nd rfl (by first | exact Or.inl rfl | exact Or.inr rfl)) (sd_cons (sd_setLc (i := 5) (own := [("_law_place", 6)]) (ts := [6]) (by rfl) sc_law_grid.nd rfl rfl (sw_true rfl rfl rfl (by decide +kernel)) (id_range1 (by rfl) T.n_range (pda_cons (pdv 2) pda_nil)) (blkOk_by (N := ["_law_pot_here", "_law_many", "_law_wide", "_law_found", "_law_turn", "_law_row", "_law_place", "_law_one", "_law_two"]) (sc := defScope s_law_grid) (by decide +kernel)) (fun _ _ _ _ _ => (gd_name (i := 6) sc_law_grid.nd rfl (by first | exact Or.inl rfl | exact Or.inr rfl))) (fun _ _ _ _ _ => ptsd_nil) (fun _ _ _ _ _ => (pd_fn (d_law_entry T) gg (hr.mono (by decide)) rfl T.g_law_entry T.F_law_entry.kp (b_law_entry T) pass0 (pda_cons (pdv 0) pda_nil))))
    (sd_cons (sd_if (PW.pt (pwd_and (ptd_cmp neOk (o_ne (ratEq T rfl rfl rfl rfl rfl) (hr.mono (by decide))) (pdv 3) (pd_lst pda_nil) (nomark _)) (pwd_and1 (ptd_cmp eqOk (o_eq (ratEq T rfl rfl rfl rfl rfl) (hr.mono (by decide))) (pd_fn (d_law_draw T) gg (hr.mono (by decide)) rfl T.g_law_draw T.F_law_draw.kp (b_law_draw T) pass0 (pda_cons (pdv 0) (pda_cons pd_int pda_nil))) pd_int (nomark _))))) (sd_one (sd_setLc (i := 5) (own := [("_law_one", 7), ("_law_two", 8)]) (ts := [7, 8]) (by rfl) sc_law_grid.nd rfl rfl (sw_true rfl rfl rfl (by decide +kernel)) (id_zip (by rfl) T.n_zip (pda_cons (pd_fn (d_law_pick T) gg (hr.mono (by decide)) rfl T.g_law_pick T.F_law_pick.kp (b_law_pick T) pass0 (pda_cons (pdv 0) (pda_cons (pdv 3) pda_nil))) (pda_cons (pd_fn (d_law_pick T) gg (hr.mono (by decide)) rfl T.g_law_pick T.F_law_pick.kp (b_law_pick T) pass0 (pda_cons (pdv 0) (pda_cons (pdv 3) pda_nil))) pda_nil))) (blkOk_by (N := ["_law_pot_here", "_law_many", "_law_wide", "_law_found", "_law_turn", "_law_row", "_law_place", "_law_one", "_law_two"]) (sc := defScope s_law_grid) (by decide +kernel)) (fun _ _ _ _ _ => (gd_tup (pg_tup rfl (gds_cons (gd_name (i := 7) sc_law_grid.nd rfl (by first | exact Or.inl rfl | exact Or.inr rfl)) (gds_cons (gd_name (i := 8) sc_law_grid.nd rfl (by first | exact Or.inl rfl | exact Or.inr rfl)) gds_nil))))) (fun _ _ _ _ _ => ptsd_nil) (fun _ _ _ _ _ => (pd_fn (d_law_sum T) gg (hr.mono (by decide)) rfl T.g_law_sum T.F_law_sum.kp (b_law_sum T) pass0 (pda_cons (pdv 7) (pda_cons (pdv 8) pda_nil)))))) sd_nil)
    (sd_one (sd_expr (pd_append (by rfl) (by first | exact Or.inl rfl | exact Or.inr (Or.inl rfl) | exact Or.inr (Or.inr rfl)) (pe_bm PySem.F.plainAttrs_list PySem.F.slot_list_append PySem.F.type_list_append mt_append (pv 3) (pda_cons (pdv 5) pda_nil))))))))
    (sd_one (sd_retV (i := 3) (by rfl) (by first | exact Or.inl rfl | exact Or.inr (Or.inl rfl) | exact Or.inr (Or.inr rfl))))))
def ce_law_lowered_1 : DE := (callF [false, false] m_law_less (consA (nameD 3) (consA (callF [false, false] m_law_by (consA (ixD (nameD 0) (nameD 2)) (consA (nameD 4) nilA))) nilA)))
def b_law_lowered_D : DS := (retS (compD [3, 4] (zipI (pnOf [false, false, false] 0) (nameD 0) (nameD 1)) (tupG 2 (consG (nameG 3) (consG (nameG 4) nilG))) yesT ce_law_lowered_1))
def m_law_lowered : FM := runF 3 5 b_law_lowered_D
theorem d_law_lowered (T : Tx K mg) : FG P w K mg base CX0 10 (ga K "_law_lowered") (fdOf K (ga K "_law_lowered")) ["_law_row", "_law_head", "_law_place"] (spF K 3 [false, false, false] m_law_lowered) := by
  exact fgD (fl := [false, false, false]) T.F_law_lowered sc_law_lowered fun cdv A outer s H gg hr E =>
    (sd_one (sd_ret (pd_lc (own := [("_law_one", 3), ("_law_two", 4)]) (ts := [3, 4]) (by rfl) sc_law_lowered.nd (id_zip (by rfl) T.n_zip (pda_cons (pdv 0) (pda_cons (pdv 1) pda_nil))) (blkOk_by (N := ["_law_row", "_law_head", "_law_place", "_law_one", "_law_two"]) (sc := defScope s_law_lowered) (by decide +kernel)) (fun _ _ _ _ _ => (gd_tup (pg_tup rfl (gds_cons (gd_name (i := 3) sc_law_lowered.nd rfl (by first | exact Or.inl rfl | exact Or.inr rfl)) (gds_cons (gd_name (i := 4) sc_law_lowered.nd rfl (by first | exact Or.inl rfl | exact Or.inr rfl)) gds_nil))))) (fun _ _ _ _ _ => ptsd_nil) (fun _ _ _ _ _ => (pd_fn (d_law_less T) gg (hr.mono (by decide)) rfl T.g_law_less T.F_law_less.kp (b_law_less T) pass0 (pda_cons (pdv 3) (pda_cons (pd_fn (d_law_by T) gg (hr.mono (by decide)) rfl T.g_law_by T.F_law_by.kp (b_law_by T) pass0 (pda_cons (pd_ix (pdv 0) (pdv 2) (fun _ _ => rfl)) (pda_cons (pdv 4) pda_nil))) pda_nil)))))))
def ce_law_steps_1 : DE := (nameD 6)
def ce_law_steps_2 : DE := (nameD 6)
def ce_law_steps_3 : DE := (callF [false, false] m_law_over (consA (nameD 7) (consA (ixD (ixD (nameD 4) (litD (.int 0))) (nameD 3)) nilA)))
def ce_law_steps_4 : DE := (callF [false, false, false] m_law_lowered (consA (nameD 6) (consA (nameD 5) (consA (nameD 3) nilA))))
def ce_law_steps_5 : DE := (callF [false, false, false] m_law_lowered (consA (nameD 6) (consA (nameD 5) (consA (nameD 3) nilA))))
def lb_law_steps_6 : DS := (seqS (setS 4 (compD [6] (seqI (pnOf [false] 0) (nameD 1)) (nameG 6) (pureT (valT (bin2 neD (ixD (ixD (nameD 6) (nameD 3)) (litD (.int 0))) (litD (.int 0))))) ce_law_steps_2))
    (ifS (pureT (valT (bin2 neD (nameD 4) (dispD false nilA)))) (seqS (setS 5 (pureD (compD [7] (seqI (pnOf [false] 0) (ixD (nameD 4) (litD (.int 0)))) (nameG 7) yesT ce_law_steps_3)))
    (seqS (setS 1 (pureD (compD [6] (seqI (pnOf [false] 0) (nameD 1)) (nameG 6) yesT ce_law_steps_4)))
    (setS 2 (bin2 addD (pureD (compD [6] (seqI (pnOf [false] 0) (nameD 2)) (nameG 6) yesT ce_law_steps_5)) (dispD false (consA (nameD 5) nilA)))))) nextS))
def b_law_steps_D : DS := (seqS (parS2 1 2 (consA (compD [6] (seqI (pnOf [false] 0) (nameD 0)) (nameG 6) yesT ce_law_steps_1) (consA (dispD false nilA) nilA)))
    (seqS (forS (range1I (consA (ifD (pureT (valT (bin2 neD (nameD 0) (dispD false nilA)))) (pureD (opN lenD (consA (ixD (nameD 0) (litD (.int 0))) nilA))) (litD (.int 0))) nilA)) (nameG 3) lb_law_steps_6)
    (retV 2)))
def m_law_steps : FM := runF 1 8 b_law_steps_D
theorem d_law_steps (T : Tx K mg) : FG P w K mg base CX0 11 (ga K "_law_steps") (fdOf K (ga K "_law_steps")) ["_law_rows_here"] (spF K 1 [false] m_law_steps) := by
  exact fgD (fl := [false]) T.F_law_steps sc_law_steps fun cdv A outer s H gg hr E =>
    (sd_cons (sd_par2 (ps_par (i := 1) (j := 2) (by rfl) sc_law_steps.nd rfl rfl (by decide) rfl rfl (pda_cons (pd_lc (own := [("_law_row", 6)]) (ts := [6]) (by rfl) sc_law_steps.nd (id_seq (pdv 0)) (blkOk_by (N := ["_law_rows_here", "_law_left", "_law_found", "_law_place", "_law_heads", "_law_head", "_law_row", "_law_one"]) (sc := defScope s_law_steps) (by decide +kernel)) (fun _ _ _ _ _ => (gd_name (i := 6) sc_law_steps.nd rfl (by first | exact Or.inl rfl | exact Or.inr rfl))) (fun _ _ _ _ _ => ptsd_nil) (fun _ _ _ _ _ => (pdv 6))) (pda_cons (pd_lst pda_nil) pda_nil)) (by rfl)))
    (sd_cons (sd_for (ts := [3]) PassesOwn.never rfl (id_range1 (by rfl) T.n_range (pda_cons (ped_if (ptd_pure (ptd_cmp neOk (o_ne (ratEq T rfl rfl rfl rfl rfl) (hr.mono (by decide))) (pdv 0) (pd_lst pda_nil) (nomark _))) (pd_pure (pd_callB lenOk call_len_seq (by rfl) T.n_len PySem.boot_len (pda_cons (pd_ix (pdv 0) pd_int (fun _ _ => rfl)) pda_nil))) pd_int) pda_nil)) (gd_name (i := 3) sc_law_steps.nd rfl (by first | exact Or.inl rfl | exact Or.inr rfl)) (sd_cons (sd_set (i := 4) sc_law_steps.nd rfl (by first | exact Or.inl rfl | exact Or.inr rfl) (pd_lc (own := [("_law_row", 6)]) (ts := [6]) (by rfl) sc_law_steps.nd (id_seq (pdv 1)) (blkOk_by (N := ["_law_rows_here", "_law_left", "_law_found", "_law_place", "_law_heads", "_law_head", "_law_row", "_law_one"]) (sc := defScope s_law_steps) (by decide +kernel)) (fun _ _ _ _ _ => (gd_name (i := 6) sc_law_steps.nd rfl (by first | exact Or.inl rfl | exact Or.inr rfl))) (fun _ _ _ _ _ => (ptsd_one (ptd_pure (ptd_cmp neOk (o_ne (ratEq T rfl rfl rfl rfl rfl) (hr.mono (by decide))) (pd_ix (pd_ix (pdv 6) (pdv 3) (fun _ _ => rfl)) pd_int (fun _ _ => rfl)) pd_int (nomark _))))) (fun _ _ _ _ _ => (pdv 6))))
    (sd_one (sd_if (ptd_pure (ptd_cmp neOk (o_ne (ratEq T rfl rfl rfl rfl rfl) (hr.mono (by decide))) (pdv 4) (pd_lst pda_nil) (nomark _))) (sd_cons (sd_set (i := 5) sc_law_steps.nd rfl (by first | exact Or.inl rfl | exact Or.inr rfl) (pd_pure (pd_lc (own := [("_law_one", 7)]) (ts := [7]) (by rfl) sc_law_steps.nd (id_seq (pd_ix (pdv 4) pd_int (fun _ _ => rfl))) (blkOk_by (N := ["_law_rows_here", "_law_left", "_law_found", "_law_place", "_law_heads", "_law_head", "_law_row", "_law_one"]) (sc := defScope s_law_steps) (by decide +kernel)) (fun _ _ _ _ _ => (gd_name (i := 7) sc_law_steps.nd rfl (by first | exact Or.inl rfl | exact Or.inr rfl))) (fun _ _ _ _ _ => ptsd_nil) (fun _ _ _ _ _ => (pd_fn (d_law_over T) gg (hr.mono (by decide)) rfl T.g_law_over T.F_law_over.kp (b_law_over T) pass0 (pda_cons (pdv 7) (pda_cons (pd_ix (pd_ix (pdv 4) pd_int (fun _ _ => rfl)) (pdv 3) (fun _ _ => rfl)) pda_nil)))))))
    (sd_cons (sd_setLcP (i := 1) (own := [("_law_row", 6)]) (ts := [6]) (by rfl) sc_law_steps.nd rfl rfl (sw_true rfl rfl rfl (by decide +kernel)) (id_seq (pdv 1)) (blkOk_by (N := ["_law_rows_here", "_law_left", "_law_found", "_law_place", "_law_heads", "_law_head", "_law_row", "_law_one"]) (sc := defScope s_law_steps) (by decide +kernel)) (fun _ _ _ _ _ => (gd_name (i := 6) sc_law_steps.nd rfl (by first | exact Or.inl rfl | exact Or.inr rfl))) (fun _ _ _ _ _ => ptsd_nil) (fun _ _ _ _ _ => (pd_fn (d_law_lowered T) gg (hr.mono (by decide)) rfl T.g_law_lowered T.F_law_lowered.kp (b_law_lowered T) pass0 (pda_cons (pdv 6) (pda_cons (pdv 5) (pda_cons (pdv 3) pda_nil))))))
    (sd_one (sd_set (i := 2) sc_law_steps.nd rfl (by first | exact Or.inl rfl | exact Or.inr rfl) (pd_op addOk (o_add (ratOk T rfl rfl rfl rfl rfl gg (hr.mono (by decide)))) (pd_pure (pd_lc (own := [("_law_row", 6)]) (ts := [6]) (by rfl) sc_law_steps.nd (id_seq (pdv 2)) (blkOk_by (N := ["_law_rows_here", "_law_left", "_law_found", "_law_place", "_law_heads", "_law_head", "_law_row", "_law_one"]) (sc := defScope s_law_steps) (by decide +kernel)) (fun _ _ _ _ _ => (gd_name (i := 6) sc_law_steps.nd rfl (by first | exact Or.inl rfl | exact Or.inr rfl))) (fun _ _ _ _ _ => ptsd_nil) (fun _ _ _ _ _ => (pd_fn (d_law_lowered T) gg (hr.mono (by decide)) rfl T.g_law_lowered T.F_law_lowered.kp (b_law_lowered T) pass0 (pda_cons (pdv 6) (pda_cons (pdv 5) (pda_cons (pdv 3) pda_nil))))))) (pd_lst (pda_cons (pdv 5) pda_nil))))))) sd_nil))))
    (sd_one (sd_retV (i := 2) (by rfl) (by first | exact Or.inl rfl | exact Or.inr (Or.inl rfl) | exact Or.inr (Or.inr rfl))))))
def lb_law_shuffled_1 : DS := (exprS (appD 3 (popAtD 2 (callF [true, false] m_law_draw (consA (nameD 0) (consA (opN lenD (consA (nameD 2) nilA)) nilA))))))
def b_law_shuffled_D : DS := (seqS (parS2 2 3 (consA (opN listD (consA (nameD 1) nilA)) (consA (dispD false nilA) nilA)))
    (seqS (whileS 100 (valT (bin2 neD (nameD 2) (dispD false nilA))) lb_law_shuffled_1)
    (retV 3)))
def m_law_shuffled : FM := runF 2 4 b_law_shuffled_D
theorem d_law_shuffled (T : Tx K mg) : FG P w K mg base CX0 11 (ga K "_law_shuffled") (fdOf K (ga K "_law_shuffled")) ["_law_pot_here", "_law_some"] (spF K 2 [true, false] m_law_shuffled) := by
  exact fgD (fl := [true, false]) T.F_law_shuffled sc_law_shuffled fun cdv A outer s H gg hr E =>
    (sd_cons (sd_par2 (ps_par (i := 2) (j := 3) (by rfl) sc_law_shuffled.nd rfl rfl (by decide) rfl rfl (pda_cons (pd_callTy listOk call_list_of (by rfl) T.n_list (by decide +kernel) (pda_cons (pdv 1) pda_nil)) (pda_cons (pd_lst pda_nil) pda_nil)) (by rfl)))
    (sd_cons (sd_while 100 PassesOwn.never (ptd_cmp neOk (o_ne (ratEq T rfl rfl rfl rfl rfl) (hr.mono (by decide))) (pdv 2) (pd_lst pda_nil) (nomark _)) (sd_one (sd_expr (pd_append (by rfl) (by first | exact Or.inl rfl | exact Or.inr (Or.inl rfl) | exact Or.inr (Or.inr rfl)) (pe_bm PySem.F.plainAttrs_list PySem.F.slot_list_append PySem.F.type_list_append mt_append (pv 3) (pda_cons (pd_popAt (pe_bm PySem.F.plainAttrs_list PySem.F.slot_list_pop PySem.F.type_list_pop mt_popAt (pv 2) (pda_cons (pd_fn (d_law_draw T) gg (hr.mono (by decide)) rfl T.g_law_draw T.F_law_draw.kp (b_law_draw T) pass0 (pda_cons (pdv 0) (pda_cons (pd_callB lenOk call_len_seq (by rfl) T.n_len PySem.boot_len (pda_cons (pdv 2) pda_nil)) pda_nil))) pda_nil))) pda_nil))))))
    (sd_one (sd_retV (i := 3) (by rfl) (by first | exact Or.inl rfl | exact Or.inr (Or.inl rfl) | exact Or.inr (Or.inr rfl))))))
def ce_law_scaled_1 : DE := (callF [false, false] m_law_by (consA (nameD 2) (consA (nameD 1) nilA)))
def b_law_scaled_D : DS := (retS (compD [2] (seqI (pnOf [false, false] 0) (nameD 0)) (nameG 2) yesT ce_law_scaled_1))
def m_law_scaled : FM := runF 2 3 b_law_scaled_D
theorem d_law_scaled (T : Tx K mg) : FG P w K mg base CX0 9 (ga K "_law_scaled") (fdOf K (ga K "_law_scaled")) ["_law_row", "_law_number"] (spF K 2 [false, false] m_law_scaled) := by
  exact fgD (fl := [false, false]) T.F_law_scaled sc_law_scaled fun cdv A outer s H gg hr E =>
    (sd_one (sd_ret (pd_lc (own := [("_law_one", 2)]) (ts := [2]) (by rfl) sc_law_scaled.nd (id_seq (pdv 0)) (blkOk_by (N := ["_law_row", "_law_number", "_law_one"]) (sc := defScope s_law_scaled) (by decide +kernel)) (fun _ _ _ _ _ => (gd_name (i := 2) sc_law_scaled.nd rfl (by first | exact Or.inl rfl | exact Or.inr rfl))) (fun _ _ _ _ _ => ptsd_nil) (fun _ _ _ _ _ => (pd_fn (d_law_by T) gg (hr.mono (by decide)) rfl T.g_law_by T.F_law_by.kp (b_law_by T) pass0 (pda_cons (pdv 2) (pda_cons (pdv 1) pda_nil)))))))
theorem kb_rank_grid (T : Tx K mg) : KBn K (fdOf K (ga K "rank")) ["grid"] 0 ["grid"] (fun us ws => pick [0] (us ++ ws)) (fun vs zs => pick [0] (vs ++ zs)) :=
  kbd (ps := ["grid"]) T.F_rank 0 ["grid"] [0] fun _ _ _ _ _ _ us ws h1 h2 => match us, ws, h1, h2 with | [], [_], _, _ => rfl
theorem kb_steps_grid (T : Tx K mg) : KBn K (fdOf K (ga K "steps")) ["grid"] 0 ["grid"] (fun us ws => pick [0] (us ++ ws)) (fun vs zs => pick [0] (vs ++ zs)) :=
  kbd (ps := ["grid"]) T.F_steps 0 ["grid"] [0] fun _ _ _ _ _ _ us ws h1 h2 => match us, ws, h1, h2 with | [], [_], _, _ => rfl
def ce_law_grid_right_1 : DE := (nameD 10)
def ce_law_grid_right_2 : DE := (compD [10] (seqI (pnOf [true, false] 0) (nameD 7)) (nameG 10) yesT ce_law_grid_right_1)
def ce_law_grid_right_3 : DE := (callF [false, false] m_law_scaled (consA (nameD 7) (consA (callF [true, true] m_law_pick (consA (nameD 0) (consA (dispD false (consA (dispD true (consA (litD (.int 2)) (consA (litD (.int 1)) nilA))) (consA (dispD true (consA (un1 negD (litD (.int 1))) (consA (litD (.int 1)) nilA))) (consA (dispD true (consA (litD (.int 1)) (consA (litD (.int 3)) nilA))) nilA)))) nilA))) nilA)))
def ce_law_grid_right_4 : DE := (pureD (callF [false, false] m_law_sum (consA (nameD 11) (consA (nameD 12) nilA))))
def b_law_grid_right_D : DS := (seqS (setS 2 (callF [false] m_law_steps (consA (nameD 1) nilA)))
    (seqS (setS 3 (callF [true, false] m_law_given (consA (nameD 0) (consA (nameD 1) nilA))))
    (seqS (parS2 4 5 (consA (pureD (opN reprD (consA (nameD 3) nilA))) (consA (pureD (callF [false] m_steps (consA (nameD 3) nilA))) nilA)))
    (seqS (ifS (pureT (orT (valT (bin2 neD (callF [false] m_law_rows (consA (nameD 5) nilA)) (nameD 2))) (orT (valT (bin2 neD (opN reprD (consA (nameD 3) nilA)) (nameD 4))) (valT (bin2 neD (callF [false] m_rank (consA (nameD 3) nilA)) (opN lenD (consA (nameD 2) nilA))))))) (retS (litD (.bl false))) nextS)
    (seqS (ifS (pureT (orT (valT (bin2 neD (callF [false] m_steps (consA (nameD 5) nilA)) (nameD 5))) (valT (bin2 neD (callKF [false] m_rank [0] 0 1 nilA (consA (nameD 5) nilA)) (opN lenD (consA (nameD 2) nilA)))))) (retS (litD (.bl false))) nextS)
    (seqS (setS 6 (pureD (compD [7] (seqI (pnOf [true, false] 0) (nameD 5)) (nameG 7) yesT ce_law_grid_right_2)))
    (seqS (forAppS 5 7)
    (seqS (exprS (appD 5 (litD .non)))
    (seqS (ifS (pureT (valT (bin2 neD (callKF [false] m_steps [0] 0 1 nilA (consA (nameD 3) nilA)) (nameD 6)))) (retS (litD (.bl false))) nextS)
    (seqS (setS 8 (callF [true, false] m_law_shuffled (consA (nameD 0) (consA (compD [7] (seqI (pnOf [true, false] 0) (nameD 1)) (nameG 7) yesT ce_law_grid_right_3) nilA))))
    (seqS (ifS (pureT (valT (bin2 neD (nameD 1) (dispD false nilA)))) (seqS (setS 9 (compD [11, 12] (zipI (pnOf [true, false] 0) (callF [true, true] m_law_pick (consA (nameD 0) (consA (nameD 1) nilA))) (callF [true, true] m_law_pick (consA (nameD 0) (consA (nameD 1) nilA)))) (tupG 2 (consG (nameG 11) (consG (nameG 12) nilG))) yesT ce_law_grid_right_4))
    (setS 8 (bin2 addD (nameD 8) (dispD false (consA (nameD 9) (consA (bin2 mulD (dispD false (consA (dispD true (consA (litD (.int 0)) (consA (litD (.int 1)) nilA))) nilA)) (pureD (opN lenD (consA (ixD (nameD 1) (litD (.int 0))) nilA)))) nilA)))))) nextS)
    (retS (bin2 eqD (callF [false] m_steps (consA (callF [true, false] m_law_given (consA (nameD 0) (consA (nameD 8) nilA))) nilA)) (nameD 6))))))))))))))
def m_law_grid_right : FM := runF 2 13 b_law_grid_right_D
theorem d_law_grid_right (T : Tx K mg) : FG P w K mg base CX0 16 (ga K "_law_grid_right") (fdOf K (ga K "_law_grid_right")) ["_law_pot_here", "_law_rows_here"] (spF K 2 [true, false] m_law_grid_right) := by
  exact fgD (fl := [true, false]) T.F_law_grid_right sc_law_grid_right fun cdv A outer s H gg hr E =>
    (sd_cons (sd_set (i := 2) sc_law_grid_right.nd rfl (by first | exact Or.inl rfl | exact Or.inr rfl) (pd_fn (d_law_steps T) gg (hr.mono (by decide)) rfl T.g_law_steps T.F_law_steps.kp (b_law_steps T) pass0 (pda_cons (pdv 1) pda_nil)))
    (sd_cons (sd_set (i := 3) sc_law_grid_right.nd rfl (by first | exact Or.inl rfl | exact Or.inr rfl) (pd_fn (d_law_given T) gg (hr.mono (by decide)) rfl T.g_law_given T.F_law_given.kp (b_law_given T) pass0 (pda_cons (pdv 0) (pda_cons (pdv 1) pda_nil))))
    (sd_cons (sd_par2 (ps_par (i := 4) (j := 5) (by rfl) sc_law_grid_right.nd rfl rfl (by decide) rfl rfl (pda_cons (pd_pure (pd_callB (reprOk (ratRep T rfl rfl rfl rfl rfl)) (cr_repr (ratRep T rfl rfl rfl rfl rfl) gg (hr.mono (by decide))) (by rfl) T.n_repr (by decide +kernel) (pda_cons (pdv 3) pda_nil))) (pda_cons (pd_pure (pd_fn (d_steps T) gg (hr.mono (by decide)) rfl T.g_steps T.F_steps.kp (b_steps T) pass0 (pda_cons (pdv 3) pda_nil))) pda_nil)) (by rfl)))
    (sd_cons (sd_if (ptd_pure (PW.pt (pwd_or (ptd_cmp neOk (o_ne (ratEq T rfl rfl rfl rfl rfl) (hr.mono (by decide))) (pd_fn (d_law_rows T) gg (hr.mono (by decide)) rfl T.g_law_rows T.F_law_rows.kp (b_law_rows T) pass0 (pda_cons (pdv 5) pda_nil)) (pdv 2) (nomark _)) (pwd_or (ptd_cmp neOk (o_ne (ratEq T rfl rfl rfl rfl rfl) (hr.mono (by decide))) (pd_callB (reprOk (ratRep T rfl rfl rfl rfl rfl)) (cr_repr (ratRep T rfl rfl rfl rfl rfl) gg (hr.mono (by decide))) (by rfl) T.n_repr (by decide +kernel) (pda_cons (pdv 3) pda_nil)) (pdv 4) (nomark _)) (pwd_or1 (ptd_cmp neOk (o_ne (ratEq T rfl rfl rfl rfl rfl) (hr.mono (by decide))) (pd_fn (d_rank T) gg (hr.mono (by decide)) rfl T.g_rank T.F_rank.kp (b_rank T) pass0 (pda_cons (pdv 3) pda_nil)) (pd_callB lenOk call_len_seq (by rfl) T.n_len PySem.boot_len (pda_cons (pdv 2) pda_nil)) (nomark _))))))) (sd_one (sd_ret pd_bl)) sd_nil)
    (sd_cons (sd_if (ptd_pure (PW.pt (pwd_or (ptd_cmp neOk (o_ne (ratEq T rfl rfl rfl rfl rfl) (hr.mono (by decide))) (pd_fn (d_steps T) gg (hr.mono (by decide)) rfl T.g_steps T.F_steps.kp (b_steps T) pass0 (pda_cons (pdv 5) pda_nil)) (pdv 5) (nomark _)) (pwd_or1 (ptd_cmp neOk (o_ne (ratEq T rfl rfl rfl rfl rfl) (hr.mono (by decide))) (pd_fnK0 (d_rank T) gg (hr.mono (by decide)) rfl T.g_rank T.F_rank.kp (kb_rank_grid T) pass0 (pdk_cons (pdv 5) pdk_nil)) (pd_callB lenOk call_len_seq (by rfl) T.n_len PySem.boot_len (pda_cons (pdv 2) pda_nil)) (nomark _)))))) (sd_one (sd_ret pd_bl)) sd_nil)
    (sd_cons (sd_setLcP (i := 6) (own := [("_law_row", 7)]) (ts := [7]) (by rfl) sc_law_grid_right.nd rfl rfl (sw_true rfl rfl rfl (by decide +kernel)) (id_seq (pdv 5)) (blkOk_by (N := ["_law_pot_here", "_law_rows_here", "_law_due", "_law_passed_here", "_law_stay", "_law_told", "_law_again", "_law_row", "_law_other", "_law_sums", "_law_number", "_law_one", "_law_two"]) (sc := defScope s_law_grid_right) (by decide +kernel)) (fun _ _ _ _ _ => (gd_name (i := 7) sc_law_grid_right.nd rfl (by first | exact Or.inl rfl | exact Or.inr rfl))) (fun _ _ _ _ _ => ptsd_nil) (fun _ _ _ _ _ => (pd_lc (own := [("_law_number", 10)]) (ts := [10]) (by rfl) sc_law_grid_right.nd (id_seq (pdv 7)) (blkOk_in (N := ["_law_pot_here", "_law_rows_here", "_law_due", "_law_passed_here", "_law_stay", "_law_told", "_law_again", "_law_row", "_law_other", "_law_sums", "_law_number", "_law_one", "_law_two"]) (defScope s_law_grid_right) rfl (by decide +kernel)) (fun _ _ _ _ _ => (gd_name (i := 10) sc_law_grid_right.nd rfl (by first | exact Or.inl rfl | exact Or.inr rfl))) (fun _ _ _ _ _ => ptsd_nil) (fun _ _ _ _ _ => (pdv 10)))))
    (sd_cons (sd_forApp (ps_for PassesOwn.never rfl (pi_list (pv 5)) (pg_name (i := 7) sc_law_grid_right.nd rfl (by first | exact Or.inl rfl | exact Or.inr rfl)) (pss_one (ps_expr (pe_bm PySem.F.plainAttrs_list PySem.F.slot_list_append PySem.F.type_list_append mt_append (pv 7) (pa_cons pe_non pa_nil))))))
    (sd_cons (sd_expr (pd_append (by rfl) (by first | exact Or.inl rfl | exact Or.inr (Or.inl rfl) | exact Or.inr (Or.inr rfl)) (pe_bm PySem.F.plainAttrs_list PySem.F.slot_list_append PySem.F.type_list_append mt_append (pv 5) (pda_cons pd_non pda_nil))))
    (sd_cons (sd_if (ptd_pure (ptd_cmp neOk (o_ne (ratEq T rfl rfl rfl rfl rfl) (hr.mono (by decide))) (pd_fnK0 (d_steps T) gg (hr.mono (by decide)) rfl T.g_steps T.F_steps.kp (kb_steps_grid T) pass0 (pdk_cons (pdv 3) pdk_nil)) (pdv 6) (nomark _))) (sd_one (sd_ret pd_bl)) sd_nil)
    (sd_cons (sd_set (i := 8) sc_law_grid_right.nd rfl (by first | exact Or.inl rfl | exact Or.inr rfl) (pd_fn (d_law_shuffled T) gg (hr.mono (by decide)) rfl T.g_law_shuffled T.F_law_shuffled.kp (b_law_shuffled T) pass0 (pda_cons (pdv 0) (pda_cons (pd_lc (own := [("_law_row", 7)]) (ts := [7]) (by rfl) sc_law_grid_right.nd (id_seq (pdv 1)) (blkOk_by (N := ["_law_pot_here", "_law_rows_here", "_law_due", "_law_passed_here", "_law_stay", "_law_told", "_law_again", "_law_row", "_law_other", "_law_sums", "_law_number", "_law_one", "_law_two"]) (sc := defScope s_law_grid_right) (by decide +kernel)) (fun _ _ _ _ _ => (gd_name (i := 7) sc_law_grid_right.nd rfl (by first | exact Or.inl rfl | exact Or.inr rfl))) (fun _ _ _ _ _ => ptsd_nil) (fun _ _ _ _ _ => (pd_fn (d_law_scaled T) gg (hr.mono (by decide)) rfl T.g_law_scaled T.F_law_scaled.kp (b_law_scaled T) pass0 (pda_cons (pdv 7) (pda_cons (pd_fn (d_law_pick T) gg (hr.mono (by decide)) rfl T.g_law_pick T.F_law_pick.kp (b_law_pick T) pass0 (pda_cons (pdv 0) (pda_cons (pd_lst (pda_cons (pd_tup (pda_cons pd_int (pda_cons pd_int pda_nil))) (pda_cons (pd_tup (pda_cons (pd_un negOk (o_neg (ratOk T rfl rfl rfl rfl rfl gg (hr.mono (by decide)))) pd_int) (pda_cons pd_int pda_nil))) (pda_cons (pd_tup (pda_cons pd_int (pda_cons pd_int pda_nil))) pda_nil)))) pda_nil))) pda_nil))))) pda_nil))))
    (sd_cons (sd_if (ptd_pure (ptd_cmp neOk (o_ne (ratEq T rfl rfl rfl rfl rfl) (hr.mono (by decide))) (pdv 1) (pd_lst pda_nil) (nomark _))) (sd_cons (sd_setLc (i := 9) (own := [("_law_one", 11), ("_law_two", 12)]) (ts := [11, 12]) (by rfl) sc_law_grid_right.nd rfl rfl (sw_true rfl rfl rfl (by decide +kernel)) (id_zip (by rfl) T.n_zip (pda_cons (pd_fn (d_law_pick T) gg (hr.mono (by decide)) rfl T.g_law_pick T.F_law_pick.kp (b_law_pick T) pass0 (pda_cons (pdv 0) (pda_cons (pdv 1) pda_nil))) (pda_cons (pd_fn (d_law_pick T) gg (hr.mono (by decide)) rfl T.g_law_pick T.F_law_pick.kp (b_law_pick T) pass0 (pda_cons (pdv 0) (pda_cons (pdv 1) pda_nil))) pda_nil))) (blkOk_by (N := ["_law_pot_here", "_law_rows_here", "_law_due", "_law_passed_here", "_law_stay", "_law_told", "_law_again", "_law_row", "_law_other", "_law_sums", "_law_number", "_law_one", "_law_two"]) (sc := defScope s_law_grid_right) (by decide +kernel)) (fun _ _ _ _ _ => (gd_tup (pg_tup rfl (gds_cons (gd_name (i := 11) sc_law_grid_right.nd rfl (by first | exact Or.inl rfl | exact Or.inr rfl)) (gds_cons (gd_name (i := 12) sc_law_grid_right.nd rfl (by first | exact Or.inl rfl | exact Or.inr rfl)) gds_nil))))) (fun _ _ _ _ _ => ptsd_nil) (fun _ _ _ _ _ => (pd_pure (pd_fn (d_law_sum T) gg (hr.mono (by decide)) rfl T.g_law_sum T.F_law_sum.kp (b_law_sum T) pass0 (pda_cons (pdv 11) (pda_cons (pdv 12) pda_nil))))))
    (sd_one (sd_set (i := 8) sc_law_grid_right.nd rfl (by first | exact Or.inl rfl | exact Or.inr rfl) (pd_op addOk (o_add (ratOk T rfl rfl rfl rfl rfl gg (hr.mono (by decide)))) (pdv 8) (pd_lst (pda_cons (pdv 9) (pda_cons (pd_op mulOk (o_mul (ratOk T rfl rfl rfl rfl rfl gg (hr.mono (by decide)))) (pd_lst (pda_cons (pd_tup (pda_cons pd_int (pda_cons pd_int pda_nil))) pda_nil)) (pd_pure (pd_callB lenOk call_len_seq (by rfl) T.n_len PySem.boot_len (pda_cons (pd_ix (pdv 1) pd_int (fun _ _ => rfl)) pda_nil)))) pda_nil))))))) sd_nil)
    (sd_one (sd_ret (pd_cmp eqOk (o_eq (ratEq T rfl rfl rfl rfl rfl) (hr.mono (by decide))) (pd_fn (d_steps T) gg (hr.mono (by decide)) rfl T.g_steps T.F_steps.kp (b_steps T) pass0 (pda_cons (pd_fn (d_law_given T) gg (hr.mono (by decide)) rfl T.g_law_given T.F_law_given.kp (b_law_given T) pass0 (pda_cons (pdv 0) (pda_cons (pdv 8) pda_nil))) pda_nil)) (pdv 6) (nomark _)))))))))))))))
def b_law_right_D : DS := (seqS (ifS (notT (valT (callF [true, false] m_law_grid_right (consA (nameD 0) (consA (callF [true, false, false] m_law_grid (consA (nameD 0) (consA (callF [true, false] m_law_draw (consA (nameD 0) (consA (litD (.int 6)) nilA))) (consA (bin2 addD (litD (.int 1)) (callF [true, false] m_law_draw (consA (nameD 0) (consA (litD (.int 5)) nilA)))) nilA)))) nilA))))) (retS (litD (.bl false))) nextS)
    (seqS (ifS (notT (valT (callF [true, false] m_law_grid_right (consA (nameD 0) (consA (callF [true, false, false] m_law_grid (consA (nameD 0) (consA (bin2 addD (litD (.int 1)) (callF [true, false] m_law_draw (consA (nameD 0) (consA (litD (.int 3)) nilA)))) (consA (litD (.int 6)) nilA)))) nilA))))) (retS (litD (.bl false))) nextS)
    (seqS (ifS (orT (valT (bin2 neD (callF [false] m_steps (consA (dispD false nilA) nilA)) (dispD false nilA))) (orT (valT (bin2 neD (callF [false] m_rank (consA (dispD false nilA) nilA)) (litD (.int 0)))) (valT (bin2 neD (callF [false] m_rank (consA (bin2 mulD (dispD false (consA (dispD false (consA (litD (.int 0)) (consA (litD (.int 0)) (consA (litD (.int 0)) nilA)))) nilA)) (litD (.int 12))) nilA)) (litD (.int 0)))))) (retS (litD (.bl false))) nextS)
    (retS (bin2 eqD (callF [false] m_steps (consA (dispD false (consA (dispD false (consA (litD (.int 0)) (consA (litD (.int 5)) nilA))) nilA)) nilA)) (dispD false (consA (dispD false (consA (opN (mkD 1) (consA (litD (.int 0)) nilA)) (consA (opN (mkD 1) (consA (litD (.int 1)) nilA)) nilA))) nilA)))))))
def m_law_right : FM := runF 1 1 b_law_right_D
theorem d_law_right (T : Tx K mg) : FG P w K mg base CX0 17 (ga K "_law_right") (fdOf K (ga K "_law_right")) ["_law_pot_here"] (spF K 1 [true] m_law_right) := by
  obtain ⟨ds, rd, bd⟩ := b_init1 T
  exact fgD (fl := [true]) T.F_law_right sc_law_right fun cdv A outer s H gg hr E =>
    (sd_cons (sd_if (ptd_not (pt_of_val (pd_fn (d_law_grid_right T) gg (hr.mono (by decide)) rfl T.g_law_grid_right T.F_law_grid_right.kp (b_law_grid_right T) pass0 (pda_cons (pdv 0) (pda_cons (pd_fn (d_law_grid T) gg (hr.mono (by decide)) rfl T.g_law_grid T.F_law_grid.kp (b_law_grid T) pass0 (pda_cons (pdv 0) (pda_cons (pd_fn (d_law_draw T) gg (hr.mono (by decide)) rfl T.g_law_draw T.F_law_draw.kp (b_law_draw T) pass0 (pda_cons (pdv 0) (pda_cons pd_int pda_nil))) (pda_cons (pd_op addOk (o_add (ratOk T rfl rfl rfl rfl rfl gg (hr.mono (by decide)))) pd_int (pd_fn (d_law_draw T) gg (hr.mono (by decide)) rfl T.g_law_draw T.F_law_draw.kp (b_law_draw T) pass0 (pda_cons (pdv 0) (pda_cons pd_int pda_nil)))) pda_nil)))) pda_nil))))) (sd_one (sd_ret pd_bl)) sd_nil)
    (sd_cons (sd_if (ptd_not (pt_of_val (pd_fn (d_law_grid_right T) gg (hr.mono (by decide)) rfl T.g_law_grid_right T.F_law_grid_right.kp (b_law_grid_right T) pass0 (pda_cons (pdv 0) (pda_cons (pd_fn (d_law_grid T) gg (hr.mono (by decide)) rfl T.g_law_grid T.F_law_grid.kp (b_law_grid T) pass0 (pda_cons (pdv 0) (pda_cons (pd_op addOk (o_add (ratOk T rfl rfl rfl rfl rfl gg (hr.mono (by decide)))) pd_int (pd_fn (d_law_draw T) gg (hr.mono (by decide)) rfl T.g_law_draw T.F_law_draw.kp (b_law_draw T) pass0 (pda_cons (pdv 0) (pda_cons pd_int pda_nil)))) (pda_cons pd_int pda_nil)))) pda_nil))))) (sd_one (sd_ret pd_bl)) sd_nil)
    (sd_cons (sd_if (PW.pt (pwd_or (ptd_cmp neOk (o_ne (ratEq T rfl rfl rfl rfl rfl) (hr.mono (by decide))) (pd_fn (d_steps T) gg (hr.mono (by decide)) rfl T.g_steps T.F_steps.kp (b_steps T) pass0 (pda_cons (pd_lst pda_nil) pda_nil)) (pd_lst pda_nil) (nomark _)) (pwd_or (ptd_cmp neOk (o_ne (ratEq T rfl rfl rfl rfl rfl) (hr.mono (by decide))) (pd_fn (d_rank T) gg (hr.mono (by decide)) rfl T.g_rank T.F_rank.kp (b_rank T) pass0 (pda_cons (pd_lst pda_nil) pda_nil)) pd_int (nomark _)) (pwd_or1 (ptd_cmp neOk (o_ne (ratEq T rfl rfl rfl rfl rfl) (hr.mono (by decide))) (pd_fn (d_rank T) gg (hr.mono (by decide)) rfl T.g_rank T.F_rank.kp (b_rank T) pass0 (pda_cons (pd_op mulOk (o_mul (ratOk T rfl rfl rfl rfl rfl gg (hr.mono (by decide)))) (pd_lst (pda_cons (pd_lst (pda_cons pd_int (pda_cons pd_int (pda_cons pd_int pda_nil)))) pda_nil)) pd_int) pda_nil)) pd_int (nomark _)))))) (sd_one (sd_ret pd_bl)) sd_nil)
    (sd_one (sd_ret (pd_cmp eqOk (o_eq (ratEq T rfl rfl rfl rfl rfl) (hr.mono (by decide))) (pd_fn (d_steps T) gg (hr.mono (by decide)) rfl T.g_steps T.F_steps.kp (b_steps T) pass0 (pda_cons (pd_lst (pda_cons (pd_lst (pda_cons pd_int (pda_cons pd_int pda_nil))) pda_nil)) pda_nil)) (pd_lst (pda_cons (pd_lst (pda_cons (pd_mk1 mkOk (pe_mk T.mk_Ratio (ok_init T) gg (hr.mono (by decide)) rfl T.g_Ratio bd rd pass0 (pda_cons pd_int pda_nil))) (pda_cons (pd_mk1 mkOk (pe_mk T.mk_Ratio (ok_init T) gg (hr.mono (by decide)) rfl T.g_Ratio bd rd pass0 (pda_cons pd_int pda_nil))) pda_nil))) pda_nil)) (nomark _)))))))
end
end K12

set_option Elab.async false
set_option linter.all false
set_option maxRecDepth 100000
set_option maxHeartbeats 4000000
namespace Dx
open PySem PySem.Spec PyProof.Rows L2 Own
/-! ### walks, evaluated -/
/-- one turn of a comprehension -/
def one (vs : List Nat) (t : DG) (ft : DT) (fe : DE) (d : D) (env : Env) : Option (Option D × Env) := (t d env).bind fun e => (ft e).bind fun p => if p.1 = true then (fe p.2).bind fun q => (toT q.1 q.2).bind fun r => some (some r.1, wipeE r.2 vs) else some (none, wipeE p.2 vs)
theorem compL_cons {vs : List Nat} {t : DG} {ft : DT} {fe : DE} {d : D} {ds : List D} {env : Env} {acc : List D} {o : Option D} {e : Env} (h : one vs t ft fe d env = some (o, e)) (hl : acc.length < LMAX) :
    compL vs t ft fe (d :: ds) env acc = compL vs t ft fe ds e (acc ++ o.toList) := by
  unfold one at h
  obtain ⟨e1, h1, h⟩ := bs h
  obtain ⟨⟨b, e2⟩, h2, h⟩ := bs h
  dsimp only at h
  rw [compL, h1, Option.bind_some, h2, Option.bind_some]
  dsimp only
  split at h
  · rename_i hb
    obtain ⟨q, h3, h⟩ := bs h
    obtain ⟨r, h4, h⟩ := bs h
    cases h
    rw [if_pos hb, h3, Option.bind_some, h4, Option.bind_some, if_pos hl]
    rfl
  · rename_i hb
    cases h
    rw [if_neg hb]
    simp
theorem compL_filter {vs : List Nat} {t : DG} {ft : DT} {fe : DE} {env : Env} (F : D → Option D) : ∀ {ds acc : List D}, (∀ d ∈ ds, one vs t ft fe d env = some (F d, env)) → acc.length + ds.length ≤ LMAX → compL vs t ft fe ds env acc = some (acc ++ ds.filterMap F, env)
  | [], acc, _, _ => by rw [compL]; simp
  | d :: ds, acc, h, hl => by
    have hl' : acc.length + (ds.length + 1) ≤ LMAX := hl
    have h1 := h d List.mem_cons_self
    rw [compL_cons h1 (by omega)]
    have ht : (F d).toList.length ≤ 1 := by cases F d <;> simp
    rw [compL_filter F (fun d' hd => h d' (List.mem_cons_of_mem _ hd)) (by rw [List.length_append]; omega)]
    cases q : F d with
    | none => rw [List.filterMap_cons_none q]; simp
    | some r => rw [List.filterMap_cons_some q]; simp
theorem compL_map {vs : List Nat} {t : DG} {ft : DT} {fe : DE} {env : Env} (F : D → D) {ds acc : List D} (h : ∀ d ∈ ds, one vs t ft fe d env = some (some (F d), env)) (hl : acc.length + ds.length ≤ LMAX) : compL vs t ft fe ds env acc = some (acc ++ ds.map F, env) := by
  rw [compL_filter (fun d => some (F d)) h hl]
  have z : ∀ ds : List D, ds.filterMap (fun d => some (F d)) = ds.map F := fun ds => by
    induction ds with
    | nil => rfl
    | cons d ds ih => simp [List.filterMap_cons, ih]
  rw [z]
theorem compL_inv {vs : List Nat} {t : DG} {ft : DT} {fe : DE} (I : List D → List D → Env → Prop) : ∀ {ds acc : List D} {env : Env}, (∀ d ds acc env, I (d :: ds) acc env → ∃ o e, one vs t ft fe d env = some (o, e) ∧ I ds (acc ++ o.toList) e) → acc.length + ds.length ≤ LMAX → I ds acc env →
    ∃ acc' env', compL vs t ft fe ds env acc = some (acc', env') ∧ I [] acc' env'
  | [], acc, env, _, _, i => ⟨acc, env, rfl, i⟩
  | d :: ds, acc, env, k, hl, i => by
    obtain ⟨o, e, h1, h2⟩ := k d ds acc env i
    have hl' : acc.length + (ds.length + 1) ≤ LMAX := hl
    have ht : o.toList.length ≤ 1 := by cases o <;> simp
    rw [compL_cons h1 (by omega)]
    exact compL_inv I k (by rw [List.length_append]; omega) h2
theorem compD_of {vs : List Nat} {fi : DI} {t : DG} {ft : DT} {fe : DE} {env e1 e2 : Env} {items res : List D} (h1 : fi env = some ⟨items, e1, []⟩) (h2 : compL vs t ft fe items (wipeE e1 vs) [] = some (res, e2)) (h3 : wipeE e2 vs = e2) : compD vs fi t ft fe env = some (.t (.lst true res), e2) := by
  unfold compD
  rw [h1, Option.bind_some, h2, Option.bind_some]
  show (backs [] (wipeE e2 vs)).bind _ = _
  rw [h3]
  rfl
/-- what a turn of a loop brings on -/
theorem forL_inv {t : DG} {g : DS} (I : List D → Env → Prop) (Q : Out → Prop) (h0 : ∀ env, I [] env → Q (.nx env))
    (hs : ∀ d ds env, I (d :: ds) env → ∃ e1 o, t d env = some e1 ∧ g e1 = some o ∧ (match o with | .nx e => I ds e | .ct e => I ds e | .bk e => Q (.nx e) | .rt r e => Q (.rt r e))) :
    ∀ {ds : List D} {env : Env}, I ds env → ∃ o, forL t g ds env = some o ∧ Q o
  | [], env, i => ⟨_, rfl, h0 env i⟩
  | d :: ds, env, i => by
    obtain ⟨e1, o, h1, h2, h3⟩ := hs d ds env i
    rw [forL, h1, Option.bind_some, h2, Option.bind_some]
    cases o with
    | nx e => exact forL_inv I Q h0 hs h3
    | ct e => exact forL_inv I Q h0 hs h3
    | bk e => exact ⟨_, rfl, h3⟩
    | rt r e => exact ⟨_, rfl, h3⟩
theorem forS_of {fi : DI} {t : DG} {g : DS} {env e1 e2 : Env} {items : List D} (h1 : fi env = some ⟨items, e1, []⟩) (h2 : forL t g items e1 = some (.nx e2)) : forS fi t g env = some (.nx e2) := by
  unfold forS
  rw [h1, Option.bind_some, h2]
  rfl
theorem forS_rt {fi : DI} {t : DG} {g : DS} {env e1 e2 : Env} {items : List D} {r : D} (h1 : fi env = some ⟨items, e1, []⟩) (h2 : forL t g items e1 = some (.rt r e2)) : forS fi t g env = some (.rt r e2) := by
  unfold forS
  rw [h1, Option.bind_some, h2]
  rfl
theorem forS_out {fi : DI} {t : DG} {g : DS} {env e1 : Env} {items : List D} {o : Out} (h1 : fi env = some ⟨items, e1, []⟩) (h2 : forL t g items e1 = some o) (ho : ∀ e, o ≠ .bk e ∧ o ≠ .ct e) : forS fi t g env = some o := by
  unfold forS
  rw [h1, Option.bind_some, h2, Option.bind_some]
  cases o with
  | nx e => rfl
  | rt r e => rfl
  | bk e => exact absurd rfl (ho e).1
  | ct e => exact absurd rfl (ho e).2
theorem while_inv {c : DT} {b : DS} (I : Env → Prop) (m : Env → Nat) (Q : Out → Prop)
    (hs : ∀ env, I env → (∃ e, c env = some (false, e) ∧ Q (.nx e)) ∨ (∃ e o, c env = some (true, e) ∧ b e = some o ∧ (match o with | .nx e' => I e' ∧ m e' < m env | .ct e' => I e' ∧ m e' < m env | .bk e' => Q (.nx e') | .rt r e' => Q (.rt r e')))) :
    ∀ {n : Nat} {env : Env}, I env → m env < n → ∃ o, whileS n c b env = some o ∧ Q o
  | 0, env, _, h => by omega
  | n + 1, env, i, h => by
    rw [whileS]
    rcases hs env i with ⟨e, h1, h2⟩ | ⟨e, o, h1, h2, h3⟩
    · rw [h1]
      exact ⟨_, rfl, h2⟩
    · rw [h1, Option.bind_some]
      dsimp only
      rw [if_pos rfl, h2, Option.bind_some]
      cases o with
      | nx e' => exact while_inv I m Q hs h3.1 (by have := h3.2; omega)
      | ct e' => exact while_inv I m Q hs h3.1 (by have := h3.2; omega)
      | bk e' => exact ⟨_, rfl, h3⟩
      | rt r e' => exact ⟨_, rfl, h3⟩
theorem runF_rt {n k : Nat} {g : DS} {ds : List D} {d : D} {e : Env} (h : g (ds.map some ++ List.replicate (k - n) none) = some (.rt d e)) : runF n k g ds = some (d, e.take n) := by
  unfold runF
  rw [h]
theorem runF_nx {n k : Nat} {g : DS} {ds : List D} {e : Env} (h : g (ds.map some ++ List.replicate (k - n) none) = some (.nx e)) : runF n k g ds = some (.non, e.take n) := by
  unfold runF
  rw [h]
theorem seqS_nx {g h : DS} {env e : Env} (k : g env = some (.nx e)) : seqS g h env = h e := by
  unfold seqS
  rw [k]
  rfl
theorem seqS_rt {g h : DS} {env e : Env} {d : D} (k : g env = some (.rt d e)) : seqS g h env = some (.rt d e) := by
  unfold seqS
  rw [k]
  rfl
theorem ifS_t {c : DT} {g h : DS} {env e : Env} (k : c env = some (true, e)) : ifS c g h env = g e := by
  unfold ifS
  rw [k]
  rfl
theorem ifS_f {c : DT} {g h : DS} {env e : Env} (k : c env = some (false, e)) : ifS c g h env = h e := by
  unfold ifS
  rw [k]
  rfl
theorem callF_ev {fl : List Bool} {m : FM} {fa : DA} {env e1 e2 : Env} {as : List AV} {ds : List D} {r : D} {ps : List (Option D)} (h1 : fa env = some (as, e1)) (h2 : argsD fl as e1 = some (ds, e2)) (h3 : m ds = some (r, ps)) : callF fl m fa env = some (.t r, backA fl as ps e2) := by
  unfold callF
  rw [h1, Option.bind_some, h2, Option.bind_some, h3]
  rfl
theorem bnd_nat {n : Nat} (h : n ≤ 1000000) : bnd (n : Int) = true := by
  unfold bnd
  rw [decide_eq_true_eq]
  constructor <;> omega
theorem range2I_ev {fa : DA} {env e : Env} {i j : Int} (h : fa env = some ([.t (.int i), .t (.int j)], e)) (b1 : bnd i = true) (b2 : bnd j = true) : range2I fa env = some ⟨rangeL i (j - i).toNat, e, []⟩ := by
  unfold range2I
  rw [h]
  simp only [Option.bind_some, int2]
  rw [if_pos ⟨b1, b2⟩]
theorem range1I_ev {fa : DA} {env e : Env} {i : Int} (h : fa env = some ([.t (.int i)], e)) (b1 : bnd i = true) : range1I fa env = some ⟨rangeL 0 i.toNat, e, []⟩ := by
  unfold range1I
  rw [h]
  simp only [Option.bind_some, int1]
  rw [if_pos b1]
theorem addD_int (i j : Int) : addD (.int i) (.int j) = some (.int (i + j)) := rfl
theorem subD_int (i j : Int) : subD (.int i) (.int j) = some (.int (i - j)) := rfl
theorem mulD_int {i j : Int} (h : szI i + szI j ≤ 1000000) : mulD (.int i) (.int j) = some (.int (i * j)) := if_pos h
theorem fdivD_int {i j : Int} (h0 : j ≠ 0) (h : szI j ≤ 8000) : fdivD (.int i) (.int j) = some (.int (i.fdiv j)) := if_neg (by omega)
theorem modD_int {i j : Int} (h0 : j ≠ 0) : modD (.int i) (.int j) = some (.int (i.fmod j)) := if_neg h0
theorem lcmD_int {a b : Nat} (h1 : a < 2 ^ 64) (h2 : b < 2 ^ 64) : lcmD [.int a, .int b] = some (.int (Nat.lcm a b : Nat)) :=
  if_pos (show (a : Int).natAbs < 2 ^ 64 ∧ (b : Int).natAbs < 2 ^ 64 from ⟨by rw [Int.natAbs_natCast]; exact h1, by rw [Int.natAbs_natCast]; exact h2⟩)
theorem mkD2_int {t b : Int} (h0 : b ≠ 0) (h : szI b ≤ 8000) : mkD 2 [.int t, .int b] = some (.rat (Rat.divInt t b)) := if_neg (show ¬ (b = 0 ∨ 8000 < szI b) by omega)
/-! ### data of numbers -/
def il (r : List Int) : D := .lst false (r.map .int)
def rl (r : List Rat) : D := .lst false (r.map .rat)
theorem fzs_map {α : Type} (f : α → D) (h : ∀ a, (f a).fz = true) : ∀ r : List α, fzs (r.map f) = true
  | [] => rfl
  | a :: r => by rw [List.map_cons, fzs, h a, fzs_map f h r]; rfl
theorem frzs_map' {α : Type} (f : α → D) (h : ∀ a, (f a).fz = true) (r : List α) : frzs (r.map f) = r.map f := fzs_frzs _ (fzs_map f h r)
theorem fzs_int (r : List Int) : fzs (r.map .int) = true := fzs_map _ (fun _ => rfl) r
theorem frzs_int (r : List Int) : frzs (r.map .int) = r.map .int := frzs_map' _ (fun _ => rfl) r
theorem fzs_rat (r : List Rat) : fzs (r.map .rat) = true := fzs_map _ (fun _ => rfl) r
theorem frzs_rat (r : List Rat) : frzs (r.map .rat) = r.map .rat := frzs_map' _ (fun _ => rfl) r
theorem il_fz (r : List Int) : (il r).fz = true := by simp [il, D.fz, fzs_int]
theorem rl_fz (r : List Rat) : (rl r).fz = true := by simp [rl, D.fz, fzs_rat]
theorem il_frz (r : List Int) : (il r).frz = il r := fz_frz _ (il_fz r)
theorem rl_frz (r : List Rat) : (rl r).frz = rl r := fz_frz _ (rl_fz r)
theorem fzs_il (M : List (List Int)) : fzs (M.map il) = true := fzs_map _ il_fz M
theorem fzs_rl (M : List (List Rat)) : fzs (M.map rl) = true := fzs_map _ rl_fz M
theorem frzs_il (M : List (List Int)) : frzs (M.map il) = M.map il := fzs_frzs _ (fzs_il M)
theorem frzs_rl (M : List (List Rat)) : frzs (M.map rl) = M.map rl := fzs_frzs _ (fzs_rl M)
theorem ixN_nat {n i : Nat} (h : i < n) : ixN n (i : Int) = some i := by
  unfold ixN
  rw [if_pos (by omega), if_pos (by omega)]
  simp
end Dx

set_option Elab.async false
set_option linter.all false
set_option maxHeartbeats 1000000
namespace La
/-! ### sums -/
def Si (f : Nat → Int) : Nat → Int
  | 0 => 0
  | n + 1 => Si f n + f n
theorem Si_congr {f g : Nat → Int} : ∀ {n : Nat}, (∀ i, i < n → f i = g i) → Si f n = Si g n
  | 0, _ => rfl
  | n + 1, h => by rw [Si, Si, Si_congr fun i hi => h i (by omega), h n (by omega)]
theorem Si_zero {f : Nat → Int} {n : Nat} (h : ∀ i, i < n → f i = 0) : Si f n = 0 := by
  induction n with
  | zero => rfl
  | succ n ih => rw [Si, ih fun i hi => h i (by omega), h n (by omega)]; rfl
theorem Si_one {f : Nat → Int} {n b : Nat} (hb : b < n) (h : ∀ i, i < n → i ≠ b → f i = 0) : Si f n = f b := by
  induction n with
  | zero => omega
  | succ n ih =>
    rw [Si]
    by_cases e : b = n
    · subst e
      rw [Si_zero fun i hi => h i (by omega) (by omega)]
      omega
    · rw [ih (by omega) fun i hi hn => h i (by omega) hn, h n (by omega) (fun z => e z.symm)]
      omega
theorem Si_two {f : Nat → Int} {n b c : Nat} (hb : b < n) (hc : c < n) (hn : b ≠ c) (h : ∀ i, i < n → i ≠ b → i ≠ c → f i = 0) : Si f n = f b + f c := by
  induction n with
  | zero => omega
  | succ n ih =>
    rw [Si]
    by_cases e : b = n
    · subst e
      rw [Si_one (b := c) (by omega) fun i hi hn => h i (by omega) (by omega) hn]
      omega
    · by_cases e2 : c = n
      · subst e2
        rw [Si_one (b := b) (by omega) fun i hi hn => h i (by omega) hn (by omega)]
      · rw [ih (by omega) (by omega) fun i hi h1 h2 => h i (by omega) h1 h2, h n (by omega) (fun z => e z.symm) (fun z => e2 z.symm)]
        omega
theorem Si_add (f g : Nat → Int) (n : Nat) : Si (fun i => f i + g i) n = Si f n + Si g n := by
  induction n with
  | zero => rfl
  | succ n ih => rw [Si, Si, Si, ih]; omega
theorem Si_mul (x : Int) (f : Nat → Int) (n : Nat) : Si (fun i => x * f i) n = x * Si f n := by
  induction n with
  | zero => simp [Si]
  | succ n ih => rw [Si, Si, ih, Int.mul_add]
theorem Si_lin (x y : Int) (f g : Nat → Int) (n : Nat) : Si (fun i => x * f i + y * g i) n = x * Si f n + y * Si g n := by rw [Si_add, Si_mul, Si_mul]
/-! ### the determinant of n rows, by its last column -/
def drp {α : Type} (b : Nat) (v : Nat → α) : Nat → α := fun k => if k < b then v k else v (k + 1)
def put {α : Type} (v : Nat → α) (b : Nat) (u : α) : Nat → α := fun k => if k = b then u else v k
def sg (k : Nat) : Int := if k % 2 = 0 then 1 else -1
def det : Nat → (Nat → Nat → Int) → Int
  | 0, _ => 1
  | n + 1, v => Si (fun b => sg (n - b) * v b n * det n (drp b v)) (n + 1)
theorem det_congr : ∀ {n : Nat} {v w : Nat → Nat → Int}, (∀ k i, k < n → i < n → v k i = w k i) → det n v = det n w
  | 0, _, _, _ => rfl
  | n + 1, v, w, h => by
    rw [det, det]
    refine Si_congr fun b hb => ?_
    rw [h b n hb (by omega), det_congr (v := drp b v) (w := drp b w) fun k i hk hi => ?_]
    unfold drp
    split
    · exact h k i (by omega) (by omega)
    · exact h (k + 1) i (by omega) (by omega)
theorem drp_put_lt {α : Type} {v : Nat → α} {b c : Nat} {u : α} (h : b < c) : drp b (put v c u) = put (drp b v) (c - 1) u := by
  funext k
  simp only [drp, put]
  by_cases h1 : k < b
  · rw [if_pos h1, if_neg (by omega), if_neg (by omega), if_pos h1]
  · rw [if_neg h1]
    by_cases h2 : k + 1 = c
    · rw [if_pos h2, if_pos (by omega)]
    · rw [if_neg h2, if_neg (by omega), if_neg h1]
theorem drp_put_gt {α : Type} {v : Nat → α} {b c : Nat} {u : α} (h : c < b) : drp b (put v c u) = put (drp b v) c u := by
  funext k
  simp only [drp, put]
  by_cases h1 : k < b
  · rw [if_pos h1, if_pos h1]
  · rw [if_neg h1, if_neg h1, if_neg (by omega), if_neg (by omega)]
theorem drp_put_eq {α : Type} {v : Nat → α} {b : Nat} {u : α} : drp b (put v b u) = drp b v := by
  funext k
  simp only [drp, put]
  by_cases h1 : k < b
  · rw [if_pos h1, if_pos h1, if_neg (by omega)]
  · rw [if_neg h1, if_neg h1, if_neg (by omega)]
theorem put_same {α : Type} {v : Nat → α} {b : Nat} {u : α} : put v b u b = u := by unfold put; rw [if_pos rfl]
theorem put_ne {α : Type} {v : Nat → α} {b c : Nat} {u : α} (h : c ≠ b) : put v b u c = v c := by unfold put; rw [if_neg h]
/-- the determinant is led through sums of a row -/
theorem det_lin (x y : Int) (u w : Nat → Int) : ∀ {n : Nat} {v : Nat → Nat → Int} {c : Nat}, c < n → det n (put v c fun i => x * u i + y * w i) = x * det n (put v c u) + y * det n (put v c w)
  | 0, _, _, h => by omega
  | n + 1, v, c, h => by
    rw [det, det, det, ← Si_lin]
    refine Si_congr fun b hb => ?_
    by_cases e : b = c
    · subst e
      rw [put_same, put_same, put_same, drp_put_eq, drp_put_eq, drp_put_eq]
      rw [Int.mul_add, Int.add_mul]
      congr 1
      · rw [Int.mul_left_comm (sg (n - b)) x (u n), Int.mul_assoc x]
      · rw [Int.mul_left_comm (sg (n - b)) y (w n), Int.mul_assoc y]
    · rw [put_ne e, put_ne e, put_ne e]
      have go : ∀ c', c' < n → sg (n - b) * v b n * det n (put (drp b v) c' fun i => x * u i + y * w i) = x * (sg (n - b) * v b n * det n (put (drp b v) c' u)) + y * (sg (n - b) * v b n * det n (put (drp b v) c' w)) := by
        intro c' hc'
        rw [det_lin x y u w hc', Int.mul_add, Int.mul_left_comm _ x, Int.mul_left_comm _ y]
      rcases (by omega : b < c ∨ c < b) with q | q
      · rw [drp_put_lt q, drp_put_lt q, drp_put_lt q]
        exact go _ (by omega)
      · rw [drp_put_gt q, drp_put_gt q, drp_put_gt q]
        exact go _ (by omega)
theorem put_self {α : Type} {v : Nat → α} {c : Nat} : put v c (v c) = v := by
  funext k
  unfold put
  split
  · rename_i h; rw [h]
  · rfl
theorem det_zero {n : Nat} {v : Nat → Nat → Int} {c : Nat} (h : c < n) (hz : ∀ i, i < n → v c i = 0) : det n v = 0 := by
  have e : det n v = det n (put v c fun i => 0 * v c i + 0 * v c i) := by
    refine det_congr fun k i hk hi => ?_
    unfold put
    split
    · rename_i q
      rw [q, hz i hi]
      show (0 : Int) = 0 * v c i + 0 * v c i
      rw [Int.zero_mul]
      rfl
    · rfl
  rw [e, det_lin 0 0 _ _ h]
  omega
theorem sg_succ (k : Nat) : sg (k + 1) = - sg k := by
  unfold sg
  by_cases h : k % 2 = 0
  · rw [if_pos h, if_neg (by omega)]
  · rw [if_neg h, if_pos (by omega)]; rfl
theorem det_adj : ∀ {n : Nat} {v : Nat → Nat → Int} {b : Nat}, b + 1 < n → v b = v (b + 1) → det n v = 0
  | 0, _, _, h, _ => by omega
  | n + 1, v, b, h, hv => by
    rw [det, Si_two (b := b) (c := b + 1) (by omega) h (by omega)]
    · have e1 : drp b v = drp (b + 1) v := by
        funext k
        unfold drp
        by_cases h1 : k < b
        · rw [if_pos h1, if_pos (by omega)]
        · rw [if_neg h1]
          by_cases h2 : k = b
          · subst h2; rw [if_pos (by omega), hv]
          · rw [if_neg (by omega)]
      have e2 : sg (n - b) = - sg (n - (b + 1)) := by rw [← sg_succ]; congr 1; omega
      rw [e1, ← hv, e2, Int.neg_mul, Int.neg_mul]
      omega
    · intro i hi h1 h2
      have z : det n (drp i v) = 0 := by
        rcases (by omega : i < b ∨ b + 1 < i) with q | q
        · refine det_adj (b := b - 1) (by omega) ?_
          unfold drp
          rw [if_neg (by omega), if_neg (by omega)]
          have : b - 1 + 1 = b := by omega
          rw [this]
          exact hv
        · refine det_adj (b := b) (by omega) ?_
          unfold drp
          rw [if_pos (by omega), if_pos (by omega)]
          exact hv
      rw [z, Int.mul_zero]
theorem put_comm {α : Type} {v : Nat → α} {b c : Nat} {u w : α} (h : b ≠ c) : put (put v b u) c w = put (put v c w) b u := by
  funext k
  simp only [put]
  by_cases h1 : k = b
  · rw [if_pos h1, if_neg (by omega), if_pos h1]
  · rw [if_neg h1, if_neg h1]
theorem det_swap {n : Nat} {v : Nat → Nat → Int} {b : Nat} (h : b + 1 < n) (u w : Nat → Int) : det n (put (put v b u) (b + 1) w) = - det n (put (put v b w) (b + 1) u) := by
  have ne : b ≠ b + 1 := by omega
  have z : ∀ a : Nat → Int, det n (put (put v b a) (b + 1) a) = 0 := fun a => det_adj h (by
    rw [put_ne (u := a) ne, put_same, put_same])
  have s := z fun i => 1 * u i + 1 * w i
  rw [det_lin 1 1 u w h, put_comm ne, put_comm ne, det_lin 1 1 u w (by omega), det_lin 1 1 u w (by omega), ← put_comm ne, ← put_comm ne, ← put_comm ne, ← put_comm ne, z u, z w] at s
  omega
theorem det_eq : ∀ (d : Nat) {n : Nat} {v : Nat → Nat → Int} {a : Nat}, a + 1 + d < n → v a = v (a + 1 + d) → det n v = 0
  | 0, n, v, a, h, hv => det_adj h hv
  | d + 1, n, v, a, h, hv => by
    have e : v = put (put v (a + 1 + d) (v (a + 1 + d))) (a + 1 + d + 1) (v (a + 1 + d + 1)) := by
      rw [put_self]
      exact put_self.symm
    rw [e, det_swap (by omega), det_eq d (a := a) (by omega)]
    · rfl
    · rw [put_ne (by omega), put_ne (by omega), put_ne (by omega), put_same]
      exact hv
theorem det_two {n : Nat} {v : Nat → Nat → Int} {a b : Nat} (ha : a < n) (hb : b < n) (hn : a ≠ b) (hv : v a = v b) : det n v = 0 := by
  rcases (by omega : a < b ∨ b < a) with q | q
  · exact det_eq (b - a - 1) (a := a) (by omega) (by rw [hv]; congr 1; omega)
  · exact det_eq (a - b - 1) (a := b) (by omega) (by rw [← hv]; congr 1; omega)
/-- a row made of all of them: its own amount alone counts -/
theorem det_comb {n : Nat} {v : Nat → Nat → Int} {b : Nat} (hb : b < n) (x : Nat → Int) : ∀ m, m ≤ n → det n (put v b fun i => Si (fun k => x k * v k i) m) = if b < m then x b * det n v else 0
  | 0, _ => by
    rw [if_neg (by omega)]
    exact det_zero hb fun i _ => by rw [put_same]; rfl
  | m + 1, hm => by
    have e : (fun i => Si (fun k => x k * v k i) (m + 1)) = fun i => 1 * Si (fun k => x k * v k i) m + x m * v m i := by
      funext i
      rw [Si, Int.one_mul]
    rw [e, det_lin _ _ _ _ hb, det_comb hb x m (by omega), Int.one_mul]
    by_cases q : b = m
    · subst q
      rw [if_neg (by omega), if_pos (by omega), put_self]
      omega
    · have z : det n (put v b (v m)) = 0 := det_two hb (show m < n by omega) q (by rw [put_same, put_ne (fun z => q z.symm)])
      rw [z, Int.mul_zero, Int.add_zero]
      by_cases q2 : b < m
      · rw [if_pos q2, if_pos (by omega)]
      · rw [if_neg q2, if_neg (by omega)]
theorem det_last {n : Nat} {v : Nat → Nat → Int} (h : ∀ i, i < n → v n i = 0) : det (n + 1) v = v n n * det n v := by
  rw [det, Si, Si_zero]
  · have e : det n (drp n v) = det n v := det_congr fun k i hk _ => by unfold drp; rw [if_pos hk]
    rw [e, Nat.sub_self]
    show 0 + sg 0 * v n n * det n v = _
    have : sg 0 = 1 := rfl
    rw [this, Int.one_mul, Int.zero_add]
  · intro i hi
    have z : det n (drp i v) = 0 := by
      refine det_zero (c := n - 1) (by omega) fun j hj => ?_
      unfold drp
      rw [if_neg (by omega)]
      have : n - 1 + 1 = n := by omega
      rw [this]
      exact h j hj
    rw [z, Int.mul_zero]
/-- how great it is -/
theorem Si_abs {f : Nat → Int} {c : Nat} : ∀ {n : Nat}, (∀ i, i < n → (f i).natAbs ≤ c) → (Si f n).natAbs ≤ n * c
  | 0, _ => by simp [Si]
  | n + 1, h => by
    have h1 := Si_abs (n := n) fun i hi => h i (by omega)
    have h2 := h n (by omega)
    rw [Si, Nat.succ_mul]
    omega
def fact : Nat → Nat
  | 0 => 1
  | n + 1 => (n + 1) * fact n
theorem det_abs {B : Nat} : ∀ {n : Nat} {v : Nat → Nat → Int}, (∀ k i, k < n → i < n → (v k i).natAbs ≤ B) → (det n v).natAbs ≤ fact n * B ^ n
  | 0, _, _ => by simp [det, fact]
  | n + 1, v, h => by
    have e : fact (n + 1) * B ^ (n + 1) = (n + 1) * (B * (fact n * B ^ n)) := by
      rw [fact, Nat.pow_succ, Nat.mul_assoc, Nat.mul_comm B, Nat.mul_assoc]
    rw [det, e]
    refine Si_abs fun b hb => ?_
    have h1 : (det n (drp b v)).natAbs ≤ fact n * B ^ n := det_abs fun k i hk hi => by
      unfold drp
      split
      · exact h k i (by omega) (by omega)
      · exact h (k + 1) i (by omega) (by omega)
    have h2 := h b n hb (by omega)
    have h3 : (sg (n - b)).natAbs = 1 := by unfold sg; split <;> rfl
    rw [Int.natAbs_mul, Int.natAbs_mul, h3, Nat.one_mul]
    exact Nat.mul_le_mul h2 h1
end La

set_option Elab.async false
set_option linter.all false
set_option maxHeartbeats 1000000
namespace La
theorem Si_swap (f : Nat → Nat → Int) (n : Nat) : ∀ m, Si (fun a => Si (fun b => f a b) n) m = Si (fun b => Si (fun a => f a b) m) n
  | 0 => by
    show (0 : Int) = Si (fun b => 0) n
    exact (Si_zero fun i _ => rfl).symm
  | m + 1 => by
    have e : (fun b => Si (fun a => f a b) (m + 1)) = fun b => Si (fun a => f a b) m + f m b := rfl
    rw [e, Si_add, ← Si_swap f n m]
    rfl
theorem mul_Si (x : Int) (f : Nat → Int) (n : Nat) : x * Si f n = Si (fun i => x * f i) n := (Si_mul x f n).symm
theorem Si_mulr (x : Int) (f : Nat → Int) (n : Nat) : Si (fun i => f i * x) n = Si f n * x := by
  rw [Int.mul_comm, mul_Si]
  exact Si_congr fun i _ => Int.mul_comm _ _
/-- where an elimination without fractions stands -/
structure St where
  d : Nat
  h : Nat → Nat
  pv : Nat → Nat
  p : Int
  A : Nat → Nat → Int
variable {M : Nat → Nat → Int}
def Bs (M : Nat → Nat → Int) (s : St) (i j : Nat) : Int := s.p * M i j - Si (fun a => M i (s.h a) * s.A a j) s.d
structure Ok (M : Nat → Nat → Int) (s : St) : Prop where
  p0 : s.p ≠ 0
  det : s.p = det s.d (fun b c => M (s.pv b) (s.h c))
  comb : ∀ a, a < s.d → ∃ y : Nat → Int, ∀ j, s.A a j = Si (fun b => y b * M (s.pv b) j) s.d
  unit : ∀ a b, a < s.d → b < s.d → s.A a (s.h b) = if a = b then s.p else 0
theorem Bs_head {s : St} (k : Ok M s) (i : Nat) {c : Nat} (hc : c < s.d) : Bs M s i (s.h c) = 0 := by
  unfold Bs
  rw [Si_one hc fun a ha hn => by rw [k.unit a c ha hc, if_neg hn, Int.mul_zero], k.unit c c hc hc, if_pos rfl, Int.mul_comm]
  omega
theorem put_lt {α : Type} {v : Nat → α} {n b : Nat} {u : α} (h : b < n) : put v n u b = v b := put_ne (by omega)
/-- what B is made of -/
theorem Bs_comb {s : St} (k : Ok M s) (i0 : Nat) : ∃ z : Nat → Int, ∀ j, Bs M s i0 j = s.p * M i0 j - Si (fun b => z b * M (s.pv b) j) s.d := by
  have hy : ∃ y : Nat → Nat → Int, ∀ a, a < s.d → ∀ j, s.A a j = Si (fun b => y a b * M (s.pv b) j) s.d :=
    ⟨fun a => if h : a < s.d then (k.comb a h).choose else fun _ => 0, fun a ha j => by
      dsimp only
      rw [dif_pos ha]
      exact (k.comb a ha).choose_spec j⟩
  obtain ⟨y, hy⟩ := hy
  refine ⟨fun b => Si (fun a => M i0 (s.h a) * y a b) s.d, fun j => ?_⟩
  unfold Bs
  congr 1
  have e : Si (fun a => M i0 (s.h a) * s.A a j) s.d = Si (fun a => Si (fun b => M i0 (s.h a) * y a b * M (s.pv b) j) s.d) s.d := Si_congr fun a ha => by
    rw [hy a ha j, mul_Si]
    exact Si_congr fun b _ => by rw [Int.mul_assoc]
  rw [e, Si_swap]
  exact Si_congr fun b _ => Si_mulr _ _ _
def next (M : Nat → Nat → Int) (s : St) (i0 c : Nat) : St :=
  { d := s.d + 1, h := put s.h s.d c, pv := put s.pv s.d i0, p := Bs M s i0 c, A := fun a j => if a = s.d then Bs M s i0 j else (Bs M s i0 c * s.A a j - s.A a c * Bs M s i0 j).fdiv s.p }
theorem next_det {s : St} (k : Ok M s) {i0 c : Nat} : Bs M s i0 c = det (s.d + 1) (fun b e => M (put s.pv s.d i0 b) (put s.h s.d c e)) := by
  obtain ⟨z, hz⟩ := Bs_comb k i0
  generalize hv : (fun b e => M (put s.pv s.d i0 b) (put s.h s.d c e)) = v
  have vd : ∀ e, v s.d e = M i0 (put s.h s.d c e) := fun e => by rw [← hv]; dsimp only; rw [put_same]
  have vb : ∀ b e, b < s.d → v b e = M (s.pv b) (put s.h s.d c e) := fun b e hb => by rw [← hv]; dsimp only; rw [put_lt hb]
  -- the last row less what the others make
  have h1 : det (s.d + 1) (put v s.d fun e => Bs M s i0 (put s.h s.d c e)) = s.p * det (s.d + 1) v := by
    have e : (fun e => Bs M s i0 (put s.h s.d c e)) = fun e => s.p * v s.d e + (-1) * Si (fun b => z b * v b e) s.d := by
      funext e
      rw [hz, vd, Si_congr (f := fun b => z b * v b e) (g := fun b => z b * M (s.pv b) (put s.h s.d c e)) fun b hb => by rw [vb b e hb]]
      omega
    have hl : s.d < s.d + 1 := Nat.lt_succ_self _
    rw [e, det_lin _ _ _ _ hl, put_self, det_comb hl z s.d (Nat.le_of_lt hl), if_neg (Nat.lt_irrefl _)]
    omega
  have h2 : det (s.d + 1) (put v s.d fun e => Bs M s i0 (put s.h s.d c e)) = Bs M s i0 c * s.p := by
    rw [det_last fun i hi => by rw [put_same, put_lt hi]; exact Bs_head k i0 hi, put_same, put_same]
    congr 1
    rw [k.det]
    refine det_congr fun b e hb he => ?_
    rw [put_lt hb, vb b e hb, put_lt he]
  have h3 := h1.symm.trans h2
  rw [Int.mul_comm] at h3
  exact (Int.eq_of_mul_eq_mul_right k.p0 h3).symm
/-- the divisions leave no rest -/
theorem next_exact {s : St} (k : Ok M s) {i0 c a : Nat} (hp : Bs M s i0 c ≠ 0) (ha : a < s.d) :
    ∃ C : Nat → Int, (∀ j, Bs M s i0 c * s.A a j - s.A a c * Bs M s i0 j = s.p * Si (fun b => C b * M (put s.pv s.d i0 b) j) (s.d + 1)) ∧
      ∀ B : Nat, 1 ≤ B → (∀ b e, b < s.d + 1 → e < s.d + 1 → (M (put s.pv s.d i0 b) (put s.h s.d c e)).natAbs ≤ B) → ∀ b, b < s.d + 1 → (C b).natAbs ≤ fact (s.d + 1) * B ^ (s.d + 1) := by
  obtain ⟨z, hz⟩ := Bs_comb k i0
  obtain ⟨y, hy⟩ := k.comb a ha
  have hd := next_det k (i0 := i0) (c := c)
  generalize hP : Bs M s i0 c = P at hp hd
  generalize hv : (fun b e => M (put s.pv s.d i0 b) (put s.h s.d c e)) = v at hd
  -- what it is made of
  obtain ⟨x, hx⟩ : ∃ x : Nat → Int, ∀ j, P * s.A a j - s.A a c * Bs M s i0 j = Si (fun b => x b * M (put s.pv s.d i0 b) j) (s.d + 1) := by
    refine ⟨fun b => if b = s.d then - (s.A a c * s.p) else P * y b + s.A a c * z b, fun j => ?_⟩
    rw [Si]
    dsimp only
    rw [if_pos rfl, put_same, hy j, hz j]
    have e : Si (fun b => (if b = s.d then - (s.A a c * s.p) else P * y b + s.A a c * z b) * M (put s.pv s.d i0 b) j) s.d = Si (fun b => P * (y b * M (s.pv b) j) + s.A a c * (z b * M (s.pv b) j)) s.d := Si_congr fun b hb => by
      rw [if_neg (by omega), put_lt hb, Int.add_mul, Int.mul_assoc, Int.mul_assoc]
    rw [e, Si_lin, Int.mul_sub, Int.neg_mul, Int.mul_assoc]
    omega
  -- what it is at the heads
  have hh : ∀ e, e < s.d + 1 → P * s.A a (put s.h s.d c e) - s.A a c * Bs M s i0 (put s.h s.d c e) = s.p * P * (if e = a then 1 else 0) := by
    intro e he
    by_cases q : e = s.d
    · subst q
      rw [put_same, hP, if_neg (by omega), Int.mul_comm]
      omega
    · have he' : e < s.d := by omega
      rw [put_lt he', Bs_head k i0 he', k.unit a e ha he']
      by_cases q2 : e = a
      · rw [if_pos q2.symm, if_pos q2, Int.mul_comm]; omega
      · rw [if_neg (fun z => q2 z.symm), if_neg q2]; omega
  refine ⟨fun b => det (s.d + 1) (put v b fun e => if e = a then 1 else 0), fun j => ?_, fun B hB hM b hb => det_abs fun k i hk hi => ?_⟩
  rotate_left
  · by_cases q : k = b
    · subst q
      rw [put_same]
      split
      · exact hB
      · exact Nat.zero_le _
    · rw [put_ne q, ← hv]
      exact hM k i hk hi
  rw [hx j, mul_Si]
  refine Si_congr fun b hb => ?_
  rw [← Int.mul_assoc]
  congr 1
  have r1 : det (s.d + 1) (put v b fun e => Si (fun b => x b * v b e) (s.d + 1)) = x b * P := by
    rw [det_comb hb x (s.d + 1) (Nat.le_refl _), if_pos hb, ← hd]
  have r2 : det (s.d + 1) (put v b fun e => Si (fun b => x b * v b e) (s.d + 1)) = det (s.d + 1) (put v b fun e => (s.p * P) * (if e = a then 1 else 0) + 0 * (0 : Int)) := by
    refine det_congr fun b' e hb' he => ?_
    by_cases q : b' = b
    · subst q
      rw [put_same, put_same]
      rw [show Si (fun b => x b * v b e) (s.d + 1) = Si (fun b => x b * M (put s.pv s.d i0 b) (put s.h s.d c e)) (s.d + 1) from Si_congr fun b _ => by rw [← hv], ← hx, hh e he]
      omega
    · rw [put_ne q, put_ne q]
  rw [det_lin (s.p * P) 0 (fun e => if e = a then 1 else 0) (fun _ => 0) hb] at r2
  have r3 := r1.symm.trans r2
  rw [Int.zero_mul, Int.add_zero, Int.mul_assoc, Int.mul_comm P, ← Int.mul_assoc] at r3
  exact Int.eq_of_mul_eq_mul_right hp r3
theorem next_A {s : St} (k : Ok M s) {i0 c a : Nat} (hp : Bs M s i0 c ≠ 0) (ha : a < s.d) (j : Nat) : s.p * (next M s i0 c).A a j = Bs M s i0 c * s.A a j - s.A a c * Bs M s i0 j := by
  obtain ⟨C, hC, _⟩ := next_exact k hp ha
  show s.p * (if a = s.d then Bs M s i0 j else (Bs M s i0 c * s.A a j - s.A a c * Bs M s i0 j).fdiv s.p) = _
  rw [if_neg (by omega), hC j, Int.mul_fdiv_cancel_left _ k.p0]
theorem next_ok {s : St} (k : Ok M s) {i0 c : Nat} (hp : Bs M s i0 c ≠ 0) : Ok M (next M s i0 c) where
  p0 := hp
  det := next_det k
  comb := fun a ha => by
    show ∃ y : Nat → Int, ∀ j, (next M s i0 c).A a j = Si (fun b => y b * M (put s.pv s.d i0 b) j) (s.d + 1)
    have ha' : a < s.d + 1 := ha
    by_cases q : a = s.d
    · obtain ⟨z, hz⟩ := Bs_comb k i0
      refine ⟨fun b => if b = s.d then s.p else - z b, fun j => ?_⟩
      show (if a = s.d then Bs M s i0 j else _) = _
      rw [if_pos q, hz, Si]
      dsimp only
      rw [if_pos rfl, put_same]
      have e : Si (fun b => (if b = s.d then s.p else - z b) * M (put s.pv s.d i0 b) j) s.d = (-1) * Si (fun b => z b * M (s.pv b) j) s.d := by
        rw [mul_Si]
        exact Si_congr fun b hb => by rw [if_neg (by omega), put_lt hb, Int.neg_mul, Int.neg_mul, Int.one_mul]
      rw [e]
      omega
    · obtain ⟨C, hC, _⟩ := next_exact k hp (a := a) (by omega)
      refine ⟨C, fun j => ?_⟩
      show (if a = s.d then Bs M s i0 j else (Bs M s i0 c * s.A a j - s.A a c * Bs M s i0 j).fdiv s.p) = _
      rw [if_neg q, hC j, Int.mul_fdiv_cancel_left _ k.p0]
  unit := fun a b ha hb => by
    have ha' : a < s.d + 1 := ha
    have hb' : b < s.d + 1 := hb
    show (next M s i0 c).A a (put s.h s.d c b) = if a = b then Bs M s i0 c else 0
    by_cases q : a = s.d
    · show (if a = s.d then Bs M s i0 (put s.h s.d c b) else _) = _
      rw [if_pos q]
      by_cases q2 : b = s.d
      · subst q2; rw [put_same, if_pos q]
      · rw [put_lt (by omega), Bs_head k i0 (by omega), if_neg (by omega)]
    · have h1 := next_A k hp (a := a) (by omega) (put s.h s.d c b)
      refine Int.eq_of_mul_eq_mul_left k.p0 (h1.trans ?_)
      by_cases q2 : b = s.d
      · subst q2
        rw [put_same, if_neg q, Int.mul_comm]
        omega
      · rw [put_lt (by omega), Bs_head k i0 (by omega), k.unit a b (by omega) (by omega)]
        by_cases q3 : a = b
        · rw [if_pos q3, if_pos q3, Int.mul_comm]; omega
        · rw [if_neg q3, if_neg q3]; omega
theorem next_B {s : St} (k : Ok M s) {i0 c : Nat} (hp : Bs M s i0 c ≠ 0) (i j : Nat) : s.p * Bs M (next M s i0 c) i j = Bs M s i0 c * Bs M s i j - Bs M s i c * Bs M s i0 j := by
  have e1 : Bs M (next M s i0 c) i j = Bs M s i0 c * M i j - (Si (fun a => M i (s.h a) * (next M s i0 c).A a j) s.d + M i c * Bs M s i0 j) := by
    show Bs M s i0 c * M i j - Si (fun a => M i (put s.h s.d c a) * (next M s i0 c).A a j) (s.d + 1) = _
    rw [Si, put_same]
    have q : (next M s i0 c).A s.d j = Bs M s i0 j := if_pos rfl
    rw [q]
    congr 2
    exact Si_congr fun a ha => by rw [put_lt ha]
  have e2 : s.p * Si (fun a => M i (s.h a) * (next M s i0 c).A a j) s.d = Bs M s i0 c * Si (fun a => M i (s.h a) * s.A a j) s.d + (- Bs M s i0 j) * Si (fun a => M i (s.h a) * s.A a c) s.d := by
    rw [mul_Si, ← Si_lin]
    refine Si_congr fun a ha => ?_
    rw [Int.mul_left_comm, next_A k hp ha, Int.mul_sub, Int.neg_mul, Int.mul_left_comm, ← Int.mul_assoc (M i (s.h a)) (s.A a c), Int.mul_comm (Bs M s i0 j)]
    omega
  rw [e1, Int.mul_sub, Int.mul_add, e2]
  generalize hb0 : Bs M s i0 c = P
  generalize hbj : Bs M s i0 j = Q
  unfold Bs
  generalize Si (fun a => M i (s.h a) * s.A a j) s.d = S1
  generalize Si (fun a => M i (s.h a) * s.A a c) s.d = S2
  rw [Int.mul_sub, Int.sub_mul, Int.neg_mul, Int.mul_left_comm, Int.mul_assoc s.p (M i c) Q, Int.mul_comm Q S2]
  omega
end La

set_option Elab.async false
set_option linter.all false
set_option maxHeartbeats 1000000
namespace La
def Sr (f : Nat → Rat) : Nat → Rat
  | 0 => 0
  | n + 1 => Sr f n + f n
theorem Sr_congr {f g : Nat → Rat} : ∀ {n : Nat}, (∀ i, i < n → f i = g i) → Sr f n = Sr g n
  | 0, _ => rfl
  | n + 1, h => by rw [Sr, Sr, Sr_congr fun i hi => h i (by omega), h n (by omega)]
theorem Sr_zero {f : Nat → Rat} : ∀ {n : Nat}, (∀ i, i < n → f i = 0) → Sr f n = 0
  | 0, _ => rfl
  | n + 1, h => by rw [Sr, Sr_zero fun i hi => h i (by omega), h n (by omega), Rat.add_zero]
theorem Sr_one {f : Nat → Rat} {b : Nat} : ∀ {n : Nat}, b < n → (∀ i, i < n → i ≠ b → f i = 0) → Sr f n = f b
  | 0, h, _ => by omega
  | n + 1, hb, h => by
    rw [Sr]
    by_cases e : b = n
    · subst e
      rw [Sr_zero fun i hi => h i (by omega) (by omega), Rat.zero_add]
    · rw [Sr_one (n := n) (by omega) fun i hi hn => h i (by omega) hn, h n (by omega) (fun z => e z.symm), Rat.add_zero]
theorem Sr_add (f g : Nat → Rat) (n : Nat) : Sr (fun i => f i + g i) n = Sr f n + Sr g n := by
  induction n with
  | zero => rw [Sr, Sr, Sr, Rat.add_zero]
  | succ n ih => rw [Sr, Sr, Sr, ih]; grind
theorem Sr_mul (x : Rat) (f : Nat → Rat) (n : Nat) : Sr (fun i => x * f i) n = x * Sr f n := by
  induction n with
  | zero => rw [Sr, Sr, Rat.mul_zero]
  | succ n ih => rw [Sr, Sr, ih, Rat.mul_add]
theorem Sr_mulr (x : Rat) (f : Nat → Rat) (n : Nat) : Sr (fun i => f i * x) n = Sr f n * x := by
  rw [Rat.mul_comm, ← Sr_mul]
  exact Sr_congr fun i _ => Rat.mul_comm _ _
theorem Sr_swap (f : Nat → Nat → Rat) (n : Nat) : ∀ m, Sr (fun a => Sr (fun b => f a b) n) m = Sr (fun b => Sr (fun a => f a b) m) n
  | 0 => by
    show (0 : Rat) = Sr (fun b => 0) n
    exact (Sr_zero fun i _ => rfl).symm
  | m + 1 => by
    have e : (fun b => Sr (fun a => f a b) (m + 1)) = fun b => Sr (fun a => f a b) m + f m b := rfl
    rw [e, Sr_add, ← Sr_swap f n m]
    rfl
/-! ### steps -/
structure Steps (n w : Nat) (T : Nat → Nat → Rat) (h : Nat → Nat) : Prop where
  lt : ∀ a, a < n → h a < w
  inc : ∀ a b, a < b → b < n → h a < h b
  unit : ∀ a b, a < n → b < n → T a (h b) = if a = b then 1 else 0
  zero : ∀ a j, a < n → j < h a → T a j = 0
/-- v is made of the n rows T -/
def Made (n w : Nat) (T : Nat → Nat → Rat) (v : Nat → Rat) : Prop := ∃ x : Nat → Rat, ∀ j, j < w → v j = Sr (fun a => x a * T a j) n
variable {n m w : Nat} {T U : Nat → Nat → Rat} {h g : Nat → Nat} {v : Nat → Rat}
theorem Made.row {a : Nat} (ha : a < n) : Made n w T (T a) := ⟨fun b => if b = a then 1 else 0, fun j _ => by
  rw [Sr_one ha fun i _ hn => by dsimp only; rw [if_neg hn, Rat.zero_mul]]
  dsimp only
  rw [if_pos rfl, Rat.one_mul]⟩
theorem Made.trans (k : ∀ a, a < n → Made m w U (T a)) (hv : Made n w T v) : Made m w U v := by
  obtain ⟨x, hx⟩ := hv
  have hy : ∃ y : Nat → Nat → Rat, ∀ a, a < n → ∀ j, j < w → T a j = Sr (fun b => y a b * U b j) m :=
    ⟨fun a => if h : a < n then (k a h).choose else fun _ => 0, fun a ha j hj => by
      dsimp only
      rw [dif_pos ha]
      exact (k a ha).choose_spec j hj⟩
  obtain ⟨y, hy⟩ := hy
  refine ⟨fun b => Sr (fun a => x a * y a b) n, fun j hj => ?_⟩
  rw [hx j hj]
  have e : Sr (fun a => x a * T a j) n = Sr (fun a => Sr (fun b => x a * y a b * U b j) m) n := Sr_congr fun a ha => by
    rw [hy a ha j hj, ← Sr_mul]
    exact Sr_congr fun b _ => by rw [Rat.mul_assoc]
  rw [e, Sr_swap]
  exact Sr_congr fun b _ => Sr_mulr _ _ _
theorem Made.lin {u : Nat → Rat} (x y : Rat) (hv : Made n w T v) (hu : Made n w T u) : Made n w T (fun j => x * v j + y * u j) := by
  obtain ⟨a, ha⟩ := hv
  obtain ⟨b, hb⟩ := hu
  refine ⟨fun i => x * a i + y * b i, fun j hj => ?_⟩
  dsimp only
  rw [ha j hj, hb j hj, ← Sr_mul, ← Sr_mul, ← Sr_add]
  exact Sr_congr fun i _ => by grind
theorem Made.congr {u : Nat → Rat} (hv : Made n w T v) (e : ∀ j, j < w → u j = v j) : Made n w T u := by
  obtain ⟨a, ha⟩ := hv
  exact ⟨a, fun j hj => by rw [e j hj, ha j hj]⟩
theorem Made.zero : Made n w T (fun _ => 0) := ⟨fun _ => 0, fun j _ => by rw [Sr_zero fun i _ => Rat.zero_mul _]⟩
theorem Made.sum {V : Nat → Nat → Rat} (k : ∀ a, a < m → Made n w T (V a)) (x : Nat → Rat) : Made n w T (fun j => Sr (fun a => x a * V a j) m) :=
  Made.trans k ⟨x, fun j _ => rfl⟩
/-- what is made of steps is told by the numbers at the heads -/
theorem Steps.at_heads (s : Steps n w T h) (hv : Made n w T v) {j : Nat} (hj : j < w) : v j = Sr (fun a => v (h a) * T a j) n := by
  obtain ⟨x, hx⟩ := hv
  rw [hx j hj]
  refine Sr_congr fun a ha => ?_
  rw [hx _ (s.lt a ha), Sr_one ha fun i hi hn => by rw [s.unit i a hi ha, if_neg hn, Rat.mul_zero], s.unit a a ha ha, if_pos rfl, Rat.mul_one]
theorem inc_eq (hi : ∀ a b, a < b → b < n → h a < h b) (gi : ∀ a b, a < b → b < m → g a < g b) (k1 : ∀ a, a < n → ∃ b, b < m ∧ h a = g b) (k2 : ∀ b, b < m → ∃ a, a < n ∧ g b = h a) : ∀ a, a < n → a < m ∧ h a = g a := by
  intro a
  induction a using Nat.strongRecOn with
  | ind a ih =>
    intro ha
    obtain ⟨b, hb, e1⟩ := k1 a ha
    have hab : a ≤ b := by
      rcases Nat.lt_or_ge b a with q | q
      · have h1 := (ih b q (by omega)).2
        have h2 := hi b a q ha
        omega
      · exact q
    have ham : a < m := by omega
    obtain ⟨c, hc, e2⟩ := k2 a ham
    have hac : a ≤ c := by
      rcases Nat.lt_or_ge c a with q | q
      · have h1 := (ih c q hc).2
        have h2 := gi c a q ham
        omega
      · exact q
    have h3 : h a ≤ h c := by
      rcases Nat.lt_or_ge a c with q | q
      · exact Nat.le_of_lt (hi a c q hc)
      · have : a = c := by omega
        rw [this]; exact Nat.le_refl _
    have h4 : g a ≤ g b := by
      rcases Nat.lt_or_ge a b with q | q
      · exact Nat.le_of_lt (gi a b q hb)
      · have : a = b := by omega
        rw [this]; exact Nat.le_refl _
    exact ⟨ham, by omega⟩
theorem Steps.head_in (s : Steps n w T h) (u : Steps m w U g) {a : Nat} (ha : a < n) (k : Made m w U (T a)) : ∃ b, b < m ∧ h a = g b := by
  -- the first head at which it is not nought
  have ex : ∃ b, b < m ∧ T a (g b) ≠ 0 ∧ ∀ c, c < b → T a (g c) = 0 := by
    have : ∀ l, l ≤ m → (∀ c, c < l → T a (g c) = 0) ∨ ∃ b, b < m ∧ T a (g b) ≠ 0 ∧ ∀ c, c < b → T a (g c) = 0 := by
      intro l
      induction l with
      | zero => intro _; exact .inl fun c hc => by omega
      | succ l ih =>
        intro hl
        rcases ih (by omega) with q | q
        · by_cases z : T a (g l) = 0
          · refine .inl fun c hc => ?_
            rcases (by omega : c < l ∨ c = l) with q2 | q2
            · exact q c q2
            · rw [q2]; exact z
          · exact .inr ⟨l, by omega, z, q⟩
        · exact .inr q
    rcases this m (Nat.le_refl _) with q | q
    · have z := u.at_heads k (s.lt a ha)
      rw [s.unit a a ha ha, if_pos rfl, Sr_zero fun i hi => by rw [q i hi, Rat.zero_mul]] at z
      exact absurd z (by decide)
    · exact q
  obtain ⟨b, hb, h1, h2⟩ := ex
  refine ⟨b, hb, ?_⟩
  -- nothing ahead of that head
  have h3 : ∀ j, j < g b → T a j = 0 := by
    intro j hj
    have hjw : j < w := Nat.lt_trans hj (u.lt b hb)
    rw [u.at_heads k hjw]
    refine Sr_zero fun c hc => ?_
    rcases (by omega : c < b ∨ b ≤ c) with q | q
    · rw [h2 c q, Rat.zero_mul]
    · have : g b ≤ g c := by
        rcases (by omega : b < c ∨ b = c) with q2 | q2
        · exact Nat.le_of_lt (u.inc b c q2 hc)
        · rw [q2]; exact Nat.le_refl _
      rw [u.zero c j hc (by omega), Rat.mul_zero]
  rcases Nat.lt_trichotomy (h a) (g b) with q | q | q
  · have := h3 _ q
    rw [s.unit a a ha ha, if_pos rfl] at this
    exact absurd this (by decide)
  · exact q
  · exact absurd (s.zero a _ ha q) h1
/-- steps are single -/
theorem Steps.single (s : Steps n w T h) (u : Steps m w U g) (k1 : ∀ a, a < n → Made m w U (T a)) (k2 : ∀ b, b < m → Made n w T (U b)) : n = m ∧ ∀ a, a < n → h a = g a ∧ ∀ j, j < w → T a j = U a j := by
  have i1 := fun a ha => s.head_in u ha (k1 a ha)
  have i2 := fun b hb => u.head_in s hb (k2 b hb)
  have e1 := inc_eq s.inc u.inc i1 i2
  have e2 := inc_eq u.inc s.inc i2 i1
  have hnm : n = m := by
    rcases Nat.lt_trichotomy n m with q | q | q
    · have := (e2 n q).1; omega
    · exact q
    · have := (e1 m q).1; omega
  refine ⟨hnm, fun a ha => ⟨(e1 a ha).2, fun j hj => ?_⟩⟩
  have ham := (e1 a ha).1
  rw [u.at_heads (k1 a ha) hj, Sr_one ham fun i hi hn => by
    have e := (e2 i hi).2
    rw [e, s.unit a i ha (by omega), if_neg (fun z => hn z.symm), Rat.zero_mul]]
  rw [← (e1 a ha).2, s.unit a a ha ha, if_pos rfl, Rat.one_mul]
end La

set_option Elab.async false
set_option linter.all false
set_option maxHeartbeats 1000000
namespace La
/-- the first row below m that is not nought there -/
def fst (M : Nat → Nat → Int) (s : St) (c : Nat) : Nat → Option Nat
  | 0 => none
  | m + 1 => match fst M s c m with
    | some i => some i
    | none => if Bs M s m c ≠ 0 then some m else none
theorem fst_none {M : Nat → Nat → Int} {s : St} {c : Nat} : ∀ {m : Nat}, fst M s c m = none → ∀ k, k < m → Bs M s k c = 0
  | 0, _, k, hk => by omega
  | m + 1, h, k, hk => by
    unfold fst at h
    split at h
    · cases h
    · rename_i e
      split at h
      · cases h
      · rename_i hz
        rcases (by omega : k < m ∨ k = m) with q | q
        · exact fst_none e k q
        · rw [q]; exact Decidable.not_not.mp hz
theorem fst_some {M : Nat → Nat → Int} {s : St} {c i : Nat} : ∀ {m : Nat}, fst M s c m = some i → i < m ∧ Bs M s i c ≠ 0 ∧ ∀ k, k < i → Bs M s k c = 0
  | 0, h => by cases h
  | m + 1, h => by
    unfold fst at h
    split at h
    · rename_i j e
      cases h
      obtain ⟨h1, h2, h3⟩ := fst_some e
      exact ⟨by omega, h2, h3⟩
    · rename_i e
      split at h
      · rename_i hz
        cases h
        refine ⟨Nat.lt_succ_self _, hz, ?_⟩
        exact fst_none e
      · cases h
def s0 : St := { d := 0, h := fun _ => 0, pv := fun _ => 0, p := 1, A := fun _ _ => 0 }
def turn (M : Nat → Nat → Int) (m : Nat) (s : St) (c : Nat) : St := match fst M s c m with
  | some i => next M s i c
  | none => s
def run (M : Nat → Nat → Int) (m : Nat) : Nat → St
  | 0 => s0
  | c + 1 => turn M m (run M m c) c
/-- where the run stands ahead of the place c -/
structure At (M : Nat → Nat → Int) (m c : Nat) (s : St) : Prop where
  ok : Ok M s
  pv : ∀ b, b < s.d → s.pv b < m
  hc : ∀ b, b < s.d → s.h b < c
  inc : ∀ a b, a < b → b < s.d → s.h a < s.h b
  zero : ∀ a j, a < s.d → j < s.h a → s.A a j = 0
  done : ∀ i j, i < m → j < c → Bs M s i j = 0
  used : ∀ b j, b < s.d → Bs M s (s.pv b) j = 0
theorem at0 (M : Nat → Nat → Int) (m : Nat) : At M m 0 s0 where
  ok := ⟨by decide, rfl, fun a h => absurd h (Nat.not_lt_zero _), fun a b h => absurd h (Nat.not_lt_zero _)⟩
  pv := fun b h => absurd h (Nat.not_lt_zero _)
  hc := fun b h => absurd h (Nat.not_lt_zero _)
  inc := fun a b _ h => absurd h (Nat.not_lt_zero _)
  zero := fun a j h => absurd h (Nat.not_lt_zero _)
  done := fun i j _ h => absurd h (Nat.not_lt_zero _)
  used := fun b j h => absurd h (Nat.not_lt_zero _)
theorem at_turn {M : Nat → Nat → Int} {m c : Nat} {s : St} (k : At M m c s) : At M m (c + 1) (turn M m s c) := by
  unfold turn
  split
  · rename_i i e
    obtain ⟨hi, hp, _⟩ := fst_some e
    have nb := fun i' j => next_B k.ok hp i' j
    have zz : ∀ i' j, Bs M s i c * Bs M s i' j - Bs M s i' c * Bs M s i j = 0 → Bs M (next M s i c) i' j = 0 := by
      intro i' j h
      have := nb i' j
      rw [h] at this
      rcases Int.mul_eq_zero.mp this with q | q
      · exact absurd q k.ok.p0
      · exact q
    refine ⟨next_ok k.ok hp, ?_, ?_, ?_, ?_, ?_, ?_⟩
    · intro b hb
      have hb' : b < s.d + 1 := hb
      show put s.pv s.d i b < m
      by_cases q : b = s.d
      · rw [q, put_same]; exact hi
      · rw [put_ne q]; exact k.pv b (by omega)
    · intro b hb
      have hb' : b < s.d + 1 := hb
      show put s.h s.d c b < c + 1
      by_cases q : b = s.d
      · rw [q, put_same]; omega
      · rw [put_ne q]; exact Nat.lt_succ_of_lt (k.hc b (by omega))
    · intro a b hab hb
      have hb' : b < s.d + 1 := hb
      show put s.h s.d c a < put s.h s.d c b
      rw [put_ne (by omega)]
      by_cases q : b = s.d
      · rw [q, put_same]; exact k.hc a (by omega)
      · rw [put_ne q]; exact k.inc a b hab (by omega)
    · intro a j ha hj
      have ha' : a < s.d + 1 := ha
      have hj' : j < put s.h s.d c a := hj
      by_cases q : a = s.d
      · rw [q, put_same] at hj'
        show (if a = s.d then Bs M s i j else _) = 0
        rw [if_pos q]
        exact k.done i j hi hj'
      · rw [put_ne q] at hj'
        have h1 := next_A k.ok hp (a := a) (by omega) j
        have hjc : j < c := Nat.lt_trans hj' (k.hc a (by omega))
        rw [k.zero a j (by omega) hj', k.done i j hi hjc, Int.mul_zero, Int.mul_zero] at h1
        rcases Int.mul_eq_zero.mp (h1.trans (by omega)) with z | z
        · exact absurd z k.ok.p0
        · exact z
    · intro i' j hi' hj
      refine zz i' j ?_
      by_cases q : j = c
      · subst q
        rw [Int.mul_comm]
        omega
      · rw [k.done i' j hi' (by omega), k.done i j hi (by omega), Int.mul_zero, Int.mul_zero]
        omega
    · intro b j hb
      have hb' : b < s.d + 1 := hb
      show Bs M (next M s i c) (put s.pv s.d i b) j = 0
      refine zz _ j ?_
      by_cases q : b = s.d
      · subst q
        rw [put_same]
        omega
      · rw [put_ne q, k.used b j (by omega), k.used b c (by omega), Int.mul_zero, Int.zero_mul]
        omega
  · rename_i e
    have z := fst_none e
    refine ⟨k.ok, k.pv, fun b hb => Nat.lt_succ_of_lt (k.hc b hb), k.inc, k.zero, fun i j hi hj => ?_, k.used⟩
    by_cases q : j = c
    · rw [q]; exact z i hi
    · exact k.done i j hi (by omega)
theorem at_run (M : Nat → Nat → Int) (m : Nat) : ∀ c, At M m c (run M m c)
  | 0 => at0 M m
  | c + 1 => at_turn (at_run M m c)
/-! ### the end -/
def ofI (M : Nat → Nat → Int) (i j : Nat) : Rat := (M i j : Rat)
def stepsOf (s : St) (a j : Nat) : Rat := (s.A a j : Rat) / (s.p : Rat)
theorem Si_cast (f : Nat → Int) (n : Nat) : ((Si f n : Int) : Rat) = Sr (fun i => (f i : Rat)) n := by
  induction n with
  | zero => rfl
  | succ n ih => rw [Si, Sr, ← ih, Rat.intCast_add]
theorem cast_ne {p : Int} (h : p ≠ 0) : (p : Rat) ≠ 0 := fun z => h (by exact_mod_cast z)
theorem end_steps {M : Nat → Nat → Int} {m w : Nat} {s : St} (k : At M m w s) : Steps s.d w (stepsOf s) s.h where
  lt := k.hc
  inc := k.inc
  unit := fun a b ha hb => by
    unfold stepsOf
    rw [k.ok.unit a b ha hb]
    split
    · rw [Rat.div_def, Rat.mul_inv_cancel _ (cast_ne k.ok.p0)]
    · show (0 : Rat) / _ = 0
      rw [Rat.div_def, Rat.zero_mul]
  zero := fun a j ha hj => by
    unfold stepsOf
    rw [k.zero a j ha hj]
    show (0 : Rat) / _ = 0
    rw [Rat.div_def, Rat.zero_mul]
theorem end_made {M : Nat → Nat → Int} {m w : Nat} {s : St} (k : At M m w s) {a : Nat} (ha : a < s.d) : Made m w (ofI M) (stepsOf s a) := by
  obtain ⟨y, hy⟩ := k.ok.comb a ha
  have h1 : Made s.d w (fun b => ofI M (s.pv b)) (stepsOf s a) := ⟨fun b => (y b : Rat) / (s.p : Rat), fun j hj => by
    unfold stepsOf
    rw [hy j, Si_cast, Rat.div_def, ← Sr_mulr]
    refine Sr_congr fun b _ => ?_
    unfold ofI
    dsimp only
    rw [Rat.intCast_mul, Rat.div_def]
    grind⟩
  exact Made.trans (fun b hb => Made.row (T := ofI M) (k.pv b hb)) h1
theorem end_rows {M : Nat → Nat → Int} {m w : Nat} {s : St} (k : At M m w s) {i : Nat} (hi : i < m) : Made s.d w (stepsOf s) (ofI M i) := by
  refine ⟨fun a => (M i (s.h a) : Rat), fun j hj => ?_⟩
  have h := k.done i j hi hj
  unfold Bs at h
  have h2 : s.p * M i j = Si (fun a => M i (s.h a) * s.A a j) s.d := by omega
  have h3 : (s.p : Rat) * (M i j : Rat) = Sr (fun a => (M i (s.h a) : Rat) * (s.A a j : Rat)) s.d := by
    rw [← Rat.intCast_mul, h2, Si_cast]
    exact Sr_congr fun a _ => Rat.intCast_mul _ _
  have p0 := cast_ne k.ok.p0
  have e : Sr (fun a => (M i (s.h a) : Rat) * stepsOf s a j) s.d = Sr (fun a => (M i (s.h a) : Rat) * (s.A a j : Rat)) s.d * (s.p : Rat)⁻¹ := by
    rw [← Sr_mulr]
    refine Sr_congr fun a _ => ?_
    unfold stepsOf
    rw [Rat.div_def, Rat.mul_assoc]
  rw [e, ← h3]
  unfold ofI
  rw [Rat.mul_comm (s.p : Rat), Rat.mul_assoc, Rat.mul_inv_cancel _ p0, Rat.mul_one]
/-! ### how great the numbers are -/
structure Bd (B : Nat) (s : St) : Prop where
  p : s.p.natAbs ≤ fact s.d * B ^ s.d
  A : ∀ a j, a < s.d → (s.A a j).natAbs ≤ s.d * (fact s.d * B ^ (s.d + 1))
theorem Si_abs2 {f g : Nat → Int} {x y n : Nat} (hf : ∀ i, i < n → (f i).natAbs ≤ x) (hg : ∀ i, i < n → (g i).natAbs ≤ y) : (Si (fun i => f i * g i) n).natAbs ≤ n * (x * y) :=
  Si_abs fun i hi => by rw [Int.natAbs_mul]; exact Nat.mul_le_mul (hf i hi) (hg i hi)
theorem bd_B {M : Nat → Nat → Int} {B : Nat} {s : St} (h1 : 1 ≤ B) (hM : ∀ i j, (M i j).natAbs ≤ B) (b : Bd B s) (i j : Nat) : (Bs M s i j).natAbs ≤ (1 + s.d * s.d) * (fact s.d * B ^ (s.d + 2)) := by
  have e1 : (s.p * M i j).natAbs ≤ fact s.d * B ^ s.d * B := by
    rw [Int.natAbs_mul]
    exact Nat.mul_le_mul b.p (hM i j)
  have e2 : (Si (fun a => M i (s.h a) * s.A a j) s.d).natAbs ≤ s.d * (B * (s.d * (fact s.d * B ^ (s.d + 1)))) := Si_abs2 (fun a _ => hM i _) (fun a ha => b.A a j ha)
  have e3 : (Bs M s i j).natAbs ≤ fact s.d * B ^ s.d * B + s.d * (B * (s.d * (fact s.d * B ^ (s.d + 1)))) := by
    unfold Bs
    omega
  refine Nat.le_trans e3 ?_
  have q1 : s.d * (B * (s.d * (fact s.d * B ^ (s.d + 1)))) = s.d * s.d * (fact s.d * B ^ (s.d + 2)) := by
    rw [Nat.pow_succ B (s.d + 1)]
    ac_rfl
  have q2 : fact s.d * B ^ s.d * B ≤ fact s.d * B ^ (s.d + 2) := by
    rw [Nat.mul_assoc, ← Nat.pow_succ]
    exact Nat.mul_le_mul_left _ (Nat.pow_le_pow_right h1 (by omega))
  rw [q1, Nat.add_mul, Nat.one_mul]
  omega
theorem bd0 (B : Nat) : Bd B s0 := ⟨by show (1 : Int).natAbs ≤ 1 * 1; decide, fun a j h => absurd h (Nat.not_lt_zero _)⟩
theorem bd_next {M : Nat → Nat → Int} {B i c : Nat} {s : St} (h1 : 1 ≤ B) (hM : ∀ i j, (M i j).natAbs ≤ B) (k : Ok M s) (hp : Bs M s i c ≠ 0) (b : Bd B s) : Bd B (next M s i c) where
  p := by
    show (Bs M s i c).natAbs ≤ fact (s.d + 1) * B ^ (s.d + 1)
    rw [next_det k]
    exact det_abs fun _ _ _ _ => hM _ _
  A := fun a j ha => by
    have ha' : a < s.d + 1 := ha
    show ((next M s i c).A a j).natAbs ≤ (s.d + 1) * (fact (s.d + 1) * B ^ (s.d + 2))
    by_cases q : a = s.d
    · show (if a = s.d then Bs M s i j else _).natAbs ≤ _
      rw [if_pos q]
      refine Nat.le_trans (bd_B h1 hM b i j) ?_
      have e : (s.d + 1) * (fact (s.d + 1) * B ^ (s.d + 2)) = (s.d + 1) * (s.d + 1) * (fact s.d * B ^ (s.d + 2)) := by
        rw [fact]
        ac_rfl
      rw [e]
      refine Nat.mul_le_mul_right _ ?_
      rw [Nat.add_mul, Nat.mul_add]
      omega
    · obtain ⟨C, hC, hb⟩ := next_exact k hp (a := a) (by omega)
      have e : (next M s i c).A a j = Si (fun b => C b * M (put s.pv s.d i b) j) (s.d + 1) := by
        show (if a = s.d then Bs M s i j else (Bs M s i c * s.A a j - s.A a c * Bs M s i j).fdiv s.p) = _
        rw [if_neg q, hC j, Int.mul_fdiv_cancel_left _ k.p0]
      rw [e, Nat.pow_succ, ← Nat.mul_assoc (fact (s.d + 1))]
      exact Si_abs2 (hb B h1 fun _ _ _ _ => hM _ _) fun b _ => hM _ _
theorem bd_run {M : Nat → Nat → Int} {B m : Nat} (h1 : 1 ≤ B) (hM : ∀ i j, (M i j).natAbs ≤ B) : ∀ c, Bd B (run M m c)
  | 0 => bd0 B
  | c + 1 => by
    show Bd B (turn M m (run M m c) c)
    unfold turn
    split
    · rename_i i e
      exact bd_next h1 hM (at_run M m c).ok (fst_some e).2.1 (bd_run h1 hM c)
    · exact bd_run h1 hM c
end La

set_option Elab.async false
set_option linter.all false
set_option maxRecDepth 100000
set_option maxHeartbeats 4000000
namespace K12
open PySem PySem.Spec PyProof.Rows L2 Own Dx
/-! ### rows of whole numbers -/
def clr (row pivot : List Int) (place : Nat) (last : Int) : List Int := List.zipWith (fun x y => (pivot.getD place 0 * x - row.getD place 0 * y).fdiv last) row pivot
def pairF (f : Int → Int → D) : D → D
  | .tup _ [.int x, .int y] => f x y
  | _ => .non
theorem zip_map (f : Int → Int → Int) : ∀ (a b : List Int), (List.zipWith (fun a b => D.tup true [a, b]) (a.map .int) (b.map .int)).map (pairF fun x y => .int (f x y)) = (List.zipWith f a b).map .int
  | [], _ => by simp
  | _ :: _, [] => by simp
  | x :: a, y :: b => by simp [pairF, zip_map f a b]
theorem zip_mem {a b : List Int} {d : D} (h : d ∈ List.zipWith (fun a b => D.tup true [a, b]) (a.map .int) (b.map .int)) : ∃ x y, x ∈ a ∧ y ∈ b ∧ d = .tup true [.int x, .int y] := by
  induction a generalizing b with
  | nil => simp at h
  | cons x a ih =>
    cases b with
    | nil => simp at h
    | cons y b =>
      simp only [List.map_cons, List.zipWith_cons_cons, List.mem_cons] at h
      rcases h with h | h
      · exact ⟨x, y, by simp, by simp, h⟩
      · obtain ⟨x', y', h1, h2, h3⟩ := ih h
        exact ⟨x', y', by simp [h1], by simp [h2], h3⟩
theorem cleared_ev (row pivot : List Int) (place : Nat) (last : Int) (h1 : place < row.length) (h2 : place < pivot.length) (hl : row.length ≤ 128) (h0 : last ≠ 0) (hs : szI last ≤ 8000) (hr : ∀ x ∈ row, szI x ≤ 100000) (hp : ∀ x ∈ pivot, szI x ≤ 100000) :
    ∃ ps, m_cleared [il row, .int place, il pivot, .int last] = some (.lst true ((clr row pivot place last).map .int), ps) := by
  have e1 : ixN row.length (place : Int) = some place := ixN_nat h1
  have e2 : ixN pivot.length (place : Int) = some place := ixN_nat h2
  have e3 : row[place]? = some row[place] := List.getElem?_eq_getElem h1
  have e4 : pivot[place]? = some pivot[place] := List.getElem?_eq_getElem h2
  have m1 := hr _ (List.getElem_mem h1)
  have m2 := hp _ (List.getElem_mem h2)
  unfold m_cleared runF b_cleared_D
  simp [seqS, asgS, dispD, consA, nilA, ixD, nameD, D.fz, toF, intOf, ixAt, D.frz, il, seqOf, fzs_int, e1, e2, e3, e4, toT, toTs, tupG, consG, nilG, nameG, D.seq, LMAX]
  generalize hE : [some (D.lst false (row.map D.int)), some (D.int place), some (D.lst false (pivot.map D.int)), some (D.int last), some (D.int pivot[place]), some (D.int row[place]), none, none] = E
  have hc : compD [6, 7] (zipI (pnOf [false, false, false, false] 0) (nameD 0) (nameD 2)) (tupG 2 (consG (nameG 6) (consG (nameG 7) nilG))) yesT ce_cleared_1 E = some (.t (.lst true ((clr row pivot place last).map .int)), E) := by
    refine compD_of (items := zipL (row.map .int) (pivot.map .int)) (e1 := E) ?_ ?_ ?_
    · subst hE
      simp [seqS, asgS, dispD, consA, nilA, ixD, nameD, litD, D.fz, D.kfz, D.kf, toF, toFs, intOf, ixAt, D.frz, il, rl, seqOf, fzs_int, frzs_int, fzs_rat, frzs_rat, fzs_il, frzs_il, fzs_rl, frzs_rl, il_fz, rl_fz, il_frz, rl_frz, toT, toTs, tupG, consG, nilG, nameG, D.seq, LMAX, bin2, un1, opN, takeKs, takeK, backKs, backK, frzs, fzs, g1, g2, retS, setS, wipeE, exprS, ifS, valT, truT, truD, andT, orT, notT, ifD, itTake, zipI, zipL, seqI, enumI, enumL, isL, parS2, parS3, pnOf, one, yesT, callF, argsD, argD, backA, nextS, contS, breakS, retV, retN, sliceD, someO, noO, augS, chainT, intF, leI]
    · have z := compL_map (vs := [6, 7]) (t := tupG 2 (consG (nameG 6) (consG (nameG 7) nilG))) (ft := yesT) (fe := ce_cleared_1) (env := E) (pairF fun x y => .int ((pivot[place] * x - row[place] * y).fdiv last)) (ds := zipL (row.map .int) (pivot.map .int)) (acc := []) (fun d hd => ?_) (by simp [zipL, LMAX]; omega)
      · have hw : wipeE E [6, 7] = E := by subst hE; rfl
        rw [hw, z, List.nil_append]
        unfold zipL clr
        rw [zip_map, List.getD_eq_getElem?_getD, List.getD_eq_getElem?_getD, e3, e4]
        rfl
      · obtain ⟨x, y, hx, hy, rfl⟩ := zip_mem hd
        have q1 := hr x hx
        have q2 := hp y hy
        subst hE
        have s1 : szI pivot[place] + szI x ≤ 1000000 := by omega
        have s2 : szI row[place] + szI y ≤ 1000000 := by omega
        have s3 : ¬ 8000 < szI last := by omega
        simp [ce_cleared_1, seqS, asgS, dispD, consA, nilA, ixD, nameD, litD, D.fz, D.kfz, D.kf, toF, toFs, intOf, ixAt, D.frz, il, rl, seqOf, fzs_int, frzs_int, fzs_rat, frzs_rat, fzs_il, frzs_il, fzs_rl, frzs_rl, il_fz, rl_fz, il_frz, rl_frz, toT, toTs, tupG, consG, nilG, nameG, D.seq, LMAX, bin2, un1, opN, takeKs, takeK, backKs, backK, frzs, fzs, g1, g2, retS, setS, wipeE, exprS, ifS, valT, truT, truD, andT, orT, notT, ifD, itTake, zipI, zipL, seqI, enumI, enumL, isL, parS2, parS3, pnOf, one, yesT, callF, argsD, argD, backA, nextS, contS, breakS, retV, retN, sliceD, someO, noO, augS, chainT, intF, leI, pairF, mulD, subD, fdivD, s1, s2, s3, h0]
    · subst hE; rfl
  unfold retS
  rw [hc]
  exact ⟨_, rfl⟩
/-! ### the first row that is not nought at a place -/
def nz (rows : List (List Int)) (place k : Nat) : Bool := (rows.getD k []).getD place 0 != 0
theorem pivot_ev (rows : List (List Int)) (first place : Nat) (hf : first ≤ rows.length) (hw : ∀ r ∈ rows, place < r.length) (hl : rows.length ≤ 100000) :
    ∃ ps, m_pivot_from [.lst false (rows.map il), .int first, .int place] = some ((match (List.range' first (rows.length - first)).find? (nz rows place) with | some k => .int k | none => .non), ps) := by
  have loop : ∀ (ks : List Nat) (o : Option D), (∀ k ∈ ks, k < rows.length) → ∃ out, forL (nameG 3) lb_pivot_from_1 (ks.map fun k => D.int (k : Nat)) [some (.lst false (rows.map il)), some (.int first), some (.int place), o] = some out ∧
      (match ks.find? (nz rows place) with | some k => ∃ e, out = .rt (.int k) e | none => ∃ o', out = .nx [some (.lst false (rows.map il)), some (.int first), some (.int place), o']) := by
    intro ks
    induction ks with
    | nil => intro o _; exact ⟨_, rfl, o, rfl⟩
    | cons k ks ih =>
      intro o hk
      have hkl := hk k List.mem_cons_self
      have e1 : ixN rows.length (k : Int) = some k := ixN_nat hkl
      have hrw := hw rows[k] (List.getElem_mem hkl)
      have e2 : ixN rows[k].length (place : Int) = some place := ixN_nat hrw
      have e3 : rows[k]? = some rows[k] := List.getElem?_eq_getElem hkl
      have e4 : rows[k][place]? = some rows[k][place] := List.getElem?_eq_getElem hrw
      have e5 : nz rows place k = (rows[k][place] != 0) := by
        unfold nz
        simp only [List.getD_eq_getElem?_getD, e3, Option.getD_some, e4]
      rw [List.map_cons, forL]
      have st : nameG 3 (.int k) [some (.lst false (rows.map il)), some (.int first), some (.int place), o] = some [some (.lst false (rows.map il)), some (.int first), some (.int place), some (.int k)] := rfl
      rw [st, Option.bind_some]
      have tst : valT (bin2 neD (ixD (ixD (nameD 0) (nameD 3)) (nameD 2)) (litD (.int 0))) [some (.lst false (rows.map il)), some (.int first), some (.int place), some (.int k)] = some (rows[k][place] != 0, [some (.lst false (rows.map il)), some (.int first), some (.int place), some (.int k)]) := by
        simp [seqS, asgS, dispD, consA, nilA, ixD, nameD, litD, D.fz, D.kfz, D.kf, toF, toFs, intOf, ixAt, D.frz, il, rl, seqOf, fzs_int, frzs_int, fzs_rat, frzs_rat, fzs_il, frzs_il, fzs_rl, frzs_rl, il_fz, rl_fz, il_frz, rl_frz, toT, toTs, tupG, consG, nilG, nameG, D.seq, LMAX, bin2, un1, opN, takeKs, takeK, backKs, backK, frzs, fzs, g1, g2, retS, setS, wipeE, exprS, ifS, valT, truT, truD, andT, orT, notT, ifD, itTake, zipI, zipL, seqI, enumI, enumL, isL, parS2, parS3, pnOf, one, yesT, callF, argsD, argD, backA, nextS, contS, breakS, retV, retN, sliceD, someO, noO, augS, chainT, intF, leI, lcmD, botD, topD, lenD, mulD, fdivD, subD, addD, isD, isNonD, D.frz, e1, e2, e3, e4, neD, eqTop]
        rfl
      rw [List.find?_cons, e5]
      by_cases hz : rows[k][place] = 0
      · have hb : (rows[k][place] != 0) = false := by simp [hz]
        rw [hb]
        have q : lb_pivot_from_1 [some (.lst false (rows.map il)), some (.int first), some (.int place), some (.int k)] = some (.nx [some (.lst false (rows.map il)), some (.int first), some (.int place), some (.int k)]) := by
          unfold lb_pivot_from_1 ifS
          rw [tst, Option.bind_some, hb]
          rfl
        rw [q, Option.bind_some]
        exact ih _ fun k' hk' => hk k' (List.mem_cons_of_mem _ hk')
      · have hb : (rows[k][place] != 0) = true := by simp [hz]
        rw [hb]
        have q : lb_pivot_from_1 [some (.lst false (rows.map il)), some (.int first), some (.int place), some (.int k)] = some (.rt (.int k) [some (.lst false (rows.map il)), some (.int first), some (.int place), some (.int k)]) := by
          unfold lb_pivot_from_1 ifS
          rw [tst, Option.bind_some, hb]
          rfl
        rw [q, Option.bind_some]
        exact ⟨_, rfl, _, rfl⟩
  have items : rangeL (first : Int) (((rows.length : Int) - (first : Int)).toNat) = (List.range' first (rows.length - first)).map fun k => D.int (k : Nat) := by
    unfold rangeL
    have : ((rows.length : Int) - (first : Int)).toNat = rows.length - first := by omega
    rw [this, List.range'_eq_map_range, List.map_map]
    congr 1
  unfold m_pivot_from b_pivot_from_D
  obtain ⟨out, h1, h2⟩ := loop (List.range' first (rows.length - first)) none (fun k hk => by rw [List.mem_range'_1] at hk; omega)
  have hi : range2I (consA (nameD 1) (consA (opN lenD (consA (nameD 0) nilA)) nilA)) [some (.lst false (rows.map il)), some (.int first), some (.int place), none] = some ⟨(List.range' first (rows.length - first)).map fun k => D.int (k : Nat), [some (.lst false (rows.map il)), some (.int first), some (.int place), none], []⟩ := by
    rw [← items]
    have b1 : bnd (first : Int) = true := bnd_nat (by omega)
    have b2 : bnd (rows.length : Int) = true := bnd_nat (by omega)
    have h : consA (nameD 1) (consA (opN lenD (consA (nameD 0) nilA)) nilA) [some (.lst false (rows.map il)), some (.int first), some (.int place), none] = some ([.t (.int first), .t (.int rows.length)], [some (.lst false (rows.map il)), some (.int first), some (.int place), none]) := by
      simp [seqS, asgS, dispD, consA, nilA, ixD, nameD, litD, D.fz, D.kfz, D.kf, toF, toFs, intOf, ixAt, D.frz, il, rl, seqOf, fzs_int, frzs_int, fzs_rat, frzs_rat, fzs_il, frzs_il, fzs_rl, frzs_rl, il_fz, rl_fz, il_frz, rl_frz, toT, toTs, tupG, consG, nilG, nameG, D.seq, LMAX, bin2, un1, opN, takeKs, takeK, backKs, backK, frzs, fzs, g1, g2, retS, setS, wipeE, exprS, ifS, valT, truT, truD, andT, orT, notT, ifD, itTake, zipI, zipL, seqI, enumI, enumL, isL, parS2, parS3, pnOf, one, yesT, callF, argsD, argD, backA, nextS, contS, breakS, retV, retN, sliceD, someO, noO, augS, chainT, intF, leI, lcmD, botD, topD, lenD, mulD, fdivD, subD, addD, isD, isNonD, D.frz, List.length_map]
    exact range2I_ev h b1 b2
  cases hf2 : (List.range' first (rows.length - first)).find? (nz rows place) with
  | some k =>
    rw [hf2] at h2
    obtain ⟨e, rfl⟩ := h2
    exact ⟨_, runF_rt (seqS_rt (forS_rt hi h1))⟩
  | none =>
    rw [hf2] at h2
    obtain ⟨o', rfl⟩ := h2
    exact ⟨_, runF_rt ((seqS_nx (forS_of hi h1)).trans rfl)⟩
end K12

set_option Elab.async false
set_option linter.all false
set_option maxRecDepth 100000
set_option maxHeartbeats 4000000
namespace K12
open PySem PySem.Spec PyProof.Rows L2 Own Dx La
/-! ### without bottoms -/
def lcmF (b : Nat) (r : List Rat) : Nat := r.foldl (fun b q => Nat.lcm b q.den) b
theorem lcmF_dvd : ∀ (r : List Rat) (b : Nat), b ∣ lcmF b r
  | [], b => Nat.dvd_refl b
  | q :: r, b => Nat.dvd_trans (Nat.dvd_lcm_left _ _) (lcmF_dvd r _)
theorem lcmF_den : ∀ (r : List Rat) (b : Nat) (q : Rat), q ∈ r → q.den ∣ lcmF b r
  | p :: r, b, q, h => by
    rcases List.mem_cons.mp h with e | h
    · subst e
      exact Nat.dvd_trans (Nat.dvd_lcm_right _ _) (lcmF_dvd r _)
    · exact lcmF_den r _ q h
theorem lcmF_pos : ∀ (r : List Rat) (b : Nat), 0 < b → 0 < lcmF b r
  | [], b, h => h
  | q :: r, b, h => lcmF_pos r _ (Nat.lcm_pos h (Nat.pos_of_ne_zero q.den_nz))
def wbI (r : List Rat) : List Int := r.map fun q => q.num * ((lcmF 1 r : Nat) : Int).fdiv q.den
theorem wb_ev (r : List Rat) (hl : r.length ≤ 128) (hL : lcmF 1 r < 2 ^ 64) (hn : ∀ q ∈ r, szI q.num ≤ 7000) : ∃ ps, m_without_bottoms [rl r] = some (.lst true ((wbI r).map .int), ps) := by
  have loop : ∀ (t : List Rat) (b : Nat) (o : Option D), 0 < b → lcmF b t < 2 ^ 64 → ∃ o', forL (nameG 2) lb_without_bottoms_1 (t.map .rat) [some (rl r), some (.int b), o] = some (.nx [some (rl r), some (.int (lcmF b t)), o']) := by
    intro t
    induction t with
    | nil => intro b o _ _; exact ⟨o, rfl⟩
    | cons q t ih =>
      intro b o hb h
      have h1 : lcmF (Nat.lcm b q.den) t < 2 ^ 64 := h
      have h0 : 0 < Nat.lcm b q.den := Nat.lcm_pos hb (Nat.pos_of_ne_zero q.den_nz)
      have h2 : Nat.lcm b q.den < 2 ^ 64 := Nat.lt_of_le_of_lt (Nat.le_of_dvd (lcmF_pos t _ h0) (lcmF_dvd t _)) h1
      have h3 : b < 2 ^ 64 := Nat.lt_of_le_of_lt (Nat.le_of_dvd h0 (Nat.dvd_lcm_left _ _)) h2
      have h4 : q.den < 2 ^ 64 := Nat.lt_of_le_of_lt (Nat.le_of_dvd h0 (Nat.dvd_lcm_right _ _)) h2
      obtain ⟨o', ho⟩ := ih (Nat.lcm b q.den) (some (.rat q)) h0 h1
      refine ⟨o', ?_⟩
      rw [List.map_cons, forL]
      have st : nameG 2 (.rat q) [some (rl r), some (.int b), o] = some [some (rl r), some (.int b), some (.rat q)] := rfl
      rw [st, Option.bind_some]
      have bd : lb_without_bottoms_1 [some (rl r), some (.int b), some (.rat q)] = some (.nx [some (rl r), some (.int (Nat.lcm b q.den : Nat)), some (.rat q)]) := by
        have c1 : (b : Int).natAbs < 2 ^ 64 ∧ (q.den : Int).natAbs < 2 ^ 64 := ⟨by rw [Int.natAbs_natCast]; exact h3, by rw [Int.natAbs_natCast]; exact h4⟩
        have e : opN lcmD (consA (nameD 1) (consA (un1 botD (nameD 2)) nilA)) [some (rl r), some (.int b), some (.rat q)] = some (.t (.int (Nat.lcm b q.den : Nat)), [some (rl r), some (.int b), some (.rat q)]) := by
          have l := lcmD_int h3 h4
          simp only [opN, consA, nilA, nameD, un1, List.getElem?_cons_zero, List.getElem?_cons_succ, D.fz, if_true, Option.bind_some, takeKs, takeK, backKs, backK, D.frz, frzs, g1, botD, l]
        unfold lb_without_bottoms_1 setS asgS
        rw [e]
        rfl
      rw [bd, Option.bind_some]
      exact ho
  obtain ⟨o', ho⟩ := loop r 1 none (by decide) hL
  generalize hE : [some (rl r), some (.int (lcmF 1 r)), o'] = E at ho
  have hc : compD [2] (seqI (pnOf [false] 0) (nameD 0)) (nameG 2) yesT ce_without_bottoms_2 [some (rl r), some (.int (lcmF 1 r)), none] = some (.t (.lst true ((wbI r).map .int)), [some (rl r), some (.int (lcmF 1 r)), none]) := by
    refine compD_of (items := r.map .rat) (e1 := [some (rl r), some (.int (lcmF 1 r)), none]) ?_ ?_ rfl
    · simp only [seqI, nameD, List.getElem?_cons_zero, rl_fz, if_true, Option.bind_some, itTake, rl_frz]
      rfl
    · have hw : wipeE [some (rl r), some (.int (lcmF 1 r)), none] [2] = [some (rl r), some (.int (lcmF 1 r)), none] := rfl
      rw [hw, compL_map (fun d => match d with | .rat q => .int (q.num * ((lcmF 1 r : Nat) : Int).fdiv q.den) | _ => .non) (fun d hd => ?_) (by simp [LMAX]; omega), List.nil_append, List.map_map]
      · unfold wbI
        rw [List.map_map]
        rfl
      · obtain ⟨q, hq, rfl⟩ := List.mem_map.mp hd
        have hd1 := Nat.le_of_dvd (lcmF_pos r 1 (by decide)) (lcmF_den r 1 q hq)
        have s1 : szI (q.den : Int) ≤ 64 := szI_le (show Sz 64 _ by unfold Sz; rw [Int.natAbs_natCast]; omega) (by decide)
        have s2 : szI (((lcmF 1 r : Nat) : Int).fdiv q.den) ≤ 64 := by
          refine szI_le (show Sz 64 _ from ?_) (by decide)
          unfold Sz
          have : ((lcmF 1 r : Nat) : Int).fdiv q.den = ((lcmF 1 r / q.den : Nat) : Int) := by
            rw [Int.fdiv_eq_ediv_of_nonneg _ (by omega)]
            rfl
          rw [this, Int.natAbs_natCast]
          exact Nat.lt_of_le_of_lt (Nat.div_le_self _ _) hL
        have s3 := hn q hq
        have c1 : ¬ ((q.den : Int) = 0 ∨ 8000 < szI (q.den : Int)) := by
          have := q.den_nz
          omega
        have c2 : szI q.num + szI (((lcmF 1 r : Nat) : Int).fdiv q.den) ≤ 1000000 := by omega
        have f1 : fdivD (.int (lcmF 1 r : Nat)) (.int q.den) = some (.int (((lcmF 1 r : Nat) : Int).fdiv q.den)) := fdivD_int (by omega) (by omega)
        have f2 : mulD (.int q.num) (.int (((lcmF 1 r : Nat) : Int).fdiv q.den)) = some (.int (q.num * ((lcmF 1 r : Nat) : Int).fdiv q.den)) := mulD_int c2
        simp only [one, nameG, List.length_cons, List.length_nil, Nat.reduceAdd, Nat.reduceLT, if_true, Option.bind_some, List.set_cons_succ, List.set_cons_zero, yesT, ce_without_bottoms_2, bin2, un1, opN, consA, nilA, nameD, List.getElem?_cons_zero, List.getElem?_cons_succ, D.fz, takeKs, takeK, backKs, backK, D.frz, frzs, g1, g2, topD, botD, f1, f2, toT, wipeE]
  have hc2 : compD [2] (seqI (pnOf [false] 0) (nameD 0)) (nameG 2) yesT ce_without_bottoms_2 [some (rl r), some (.int (lcmF 1 r)), o'] = some (.t (.lst true ((wbI r).map .int)), [some (rl r), some (.int (lcmF 1 r)), none]) := by
    rw [← hc]
    unfold compD
    simp only [seqI, nameD, List.getElem?_cons_zero, rl_fz, if_true, Option.bind_some, itTake, rl_frz]
    rfl
  unfold m_without_bottoms b_without_bottoms_D
  have i1 : seqI (pnOf [false] 0) (nameD 0) [some (rl r), some (.int 1), none] = some ⟨r.map .rat, [some (rl r), some (.int 1), none], []⟩ := by
    simp only [seqI, nameD, List.getElem?_cons_zero, rl_fz, if_true, Option.bind_some, itTake, rl_frz]
    rfl
  have s1 : setS 1 (litD (.int 1)) ([rl r].map some ++ List.replicate (3 - 1) none) = some (.nx [some (rl r), some (.int 1), none]) := rfl
  subst hE
  have s3 : retS (compD [2] (seqI (pnOf [false] 0) (nameD 0)) (nameG 2) yesT ce_without_bottoms_2) [some (rl r), some (.int (lcmF 1 r)), o'] = some (.rt (.lst true ((wbI r).map .int)) [some (rl r), some (.int (lcmF 1 r)), none]) := by
    unfold retS
    rw [hc2]
    rfl
  exact ⟨_, runF_rt ((seqS_nx s1).trans ((seqS_nx (forS_of i1 ho)).trans s3))⟩
end K12

set_option Elab.async false
set_option linter.all false
set_option maxRecDepth 100000
set_option maxHeartbeats 4000000
namespace Dx
open PySem PySem.Spec PyProof.Rows L2 Own
/-! ### rules for evaluation -/
theorem backA1 {as : List AV} {ps : List (Option D)} {e : Env} : backA [false] as ps e = e := by
  cases as with
  | nil => rfl
  | cons a as => cases ps with
    | nil => cases a <;> rfl
    | cons p ps => cases a <;> (cases as <;> rfl)
theorem backA_cons_f {fl : List Bool} {a : AV} {as : List AV} {p : Option D} {ps : List (Option D)} {e : Env} : backA (false :: fl) (a :: as) (p :: ps) e = backA fl as ps e := by cases a <;> rfl
theorem backA_ff : ∀ (fl : List Bool) (as : List AV) (ps : List (Option D)) (e : Env), fl.all (!·) = true → backA fl as ps e = e
  | [], as, ps, e, _ => by cases as <;> rfl
  | b :: fl, as, ps, e, h => by
    simp only [List.all_cons, Bool.and_eq_true, Bool.not_eq_true'] at h
    obtain ⟨rfl, h⟩ := h
    cases as with
    | nil => rfl
    | cons a as => cases ps with
      | nil => cases a <;> rfl
      | cons p ps =>
        rw [backA_cons_f]
        exact backA_ff fl as ps e h
theorem backA2 {as : List AV} {ps : List (Option D)} {e : Env} : backA [false, false] as ps e = e := backA_ff _ _ _ _ rfl
theorem backA3 {as : List AV} {ps : List (Option D)} {e : Env} : backA [false, false, false] as ps e = e := backA_ff _ _ _ _ rfl
theorem backA4 {as : List AV} {ps : List (Option D)} {e : Env} : backA [false, false, false, false] as ps e = e := backA_ff _ _ _ _ rfl
/-- what a def tells, whatever comes back of its arguments -/
def EvF (m : FM) (ds : List D) (r : D) : Prop := ∃ ps, m ds = some (r, ps)
theorem callF_ff {fl : List Bool} {m : FM} {fa : DA} {env e1 e2 : Env} {as : List AV} {ds : List D} {r : D} (hf : fl.all (!·) = true) (h1 : fa env = some (as, e1)) (h2 : argsD fl as e1 = some (ds, e2)) (h3 : EvF m ds r) : callF fl m fa env = some (.t r, e2) := by
  obtain ⟨ps, h3⟩ := h3
  rw [callF_ev h1 h2 h3, backA_ff _ _ _ _ hf]
/-- rows of fractions as tuples -/
def fq (q : Rat) : D := .tup true [.int q.num, .int q.den]
def zq (q : Rat) : D := .tup false [.int q.num, .int q.den]
theorem fq_frz (q : Rat) : (fq q).frz = zq q := rfl
theorem zq_frz (q : Rat) : (zq q).frz = zq q := rfl
theorem zq_fz (q : Rat) : (zq q).fz = true := rfl
def zl (r : List Rat) : D := .lst false (r.map zq)
theorem fzs_zq (r : List Rat) : fzs (r.map zq) = true := fzs_map _ (fun _ => rfl) r
theorem frzs_zq (r : List Rat) : frzs (r.map zq) = r.map zq := frzs_map' _ (fun _ => rfl) r
theorem frzs_fq : ∀ r : List Rat, frzs (r.map fq) = r.map zq
  | [] => rfl
  | q :: r => by rw [List.map_cons, frzs, frzs_fq r]; rfl
theorem zl_fz (r : List Rat) : (zl r).fz = true := by simp [zl, D.fz, fzs_zq]
theorem zl_frz (r : List Rat) : (zl r).frz = zl r := fz_frz _ (zl_fz r)
theorem fzs_zl (M : List (List Rat)) : fzs (M.map zl) = true := fzs_map _ zl_fz M
theorem frzs_zl (M : List (List Rat)) : frzs (M.map zl) = M.map zl := fzs_frzs _ (fzs_zl M)
def zg (M : List (List Rat)) : D := .lst false (M.map zl)
theorem zg_fz (M : List (List Rat)) : (zg M).fz = true := by simp [zg, D.fz, fzs_zl]
theorem zg_frz (M : List (List Rat)) : (zg M).frz = zg M := fz_frz _ (zg_fz M)
def rg (M : List (List Rat)) : D := .lst false (M.map rl)
theorem rg_fz (M : List (List Rat)) : (rg M).fz = true := by simp [rg, D.fz, fzs_rl]
theorem rg_frz (M : List (List Rat)) : (rg M).frz = rg M := fz_frz _ (rg_fz M)
theorem nameD_fz {env : Env} {i : Nat} {d : D} (h : env[i]? = some (some d)) (hf : d.fz = true) : nameD i env = some (.t d, env) := by
  unfold nameD
  rw [h]
  dsimp only
  rw [if_pos hf]
theorem nameD_ow {env : Env} {i : Nat} {d : D} (h : env[i]? = some (some d)) (hf : d.fz = false) : nameD i env = some (.s i, env) := by
  unfold nameD
  rw [h]
  dsimp only
  rw [hf]
  rfl
/-- small fractions -/
def Sq (k : Nat) (q : Rat) : Prop := q.num.natAbs < 2 ^ k ∧ q.den < 2 ^ k
theorem szI_lt {k : Nat} {i : Int} (h : i.natAbs < 2 ^ k) : szI i ≤ k + 1 := by
  unfold szI
  by_cases z : i.natAbs = 0
  · rw [z]; simp
  · have := (Nat.log2_lt z).mpr h
    omega
theorem Sq.mono {k l : Nat} {q : Rat} (h : Sq k q) (hl : k ≤ l) : Sq l q :=
  ⟨Nat.lt_of_lt_of_le h.1 (Nat.pow_le_pow_right (by decide) hl), Nat.lt_of_lt_of_le h.2 (Nat.pow_le_pow_right (by decide) hl)⟩
theorem Sq.num {k : Nat} {q : Rat} (h : Sq k q) : szI q.num ≤ k + 1 := szI_lt h.1
theorem Sq.den {k : Nat} {q : Rat} (h : Sq k q) : szI (q.den : Int) ≤ k + 1 := szI_lt (by rw [Int.natAbs_natCast]; exact h.2)
/-- a fraction told by great numbers is no greater -/
theorem divInt_le {t b : Int} (hb : b ≠ 0) : (Rat.divInt t b).num.natAbs ≤ t.natAbs ∧ (Rat.divInt t b).den ≤ b.natAbs := by
  have h := nrm_pr (t := t) hb
  unfold pr at h
  have g0 := gcd_pos' (t := t) hb
  have h1 : ((Rat.divInt t b).num) = (nrm t b).1 := by rw [h]
  have h2 : ((Rat.divInt t b).den : Int) = (nrm t b).2 := by rw [h]
  have key : (nrm t b).1.natAbs ≤ t.natAbs ∧ (nrm t b).2.natAbs ≤ b.natAbs := by
    unfold nrm
    split
    · exact ⟨fdiv_abs_le _ _ (by omega) (Int.neg_dvd.mpr (gcd_dvd_t t b)), fdiv_abs_le _ _ (by omega) (Int.neg_dvd.mpr (gcd_dvd_b t b))⟩
    · exact ⟨fdiv_abs_le _ _ (by omega) (gcd_dvd_t t b), fdiv_abs_le _ _ (by omega) (gcd_dvd_b t b)⟩
  rw [h1]
  refine ⟨key.1, ?_⟩
  have := key.2
  omega
end Dx

set_option Elab.async false
set_option linter.all false
set_option maxRecDepth 100000
set_option maxHeartbeats 4000000
namespace K12
open PySem PySem.Spec PyProof.Rows L2 Own Dx La
/-! ### fractions in lowest terms -/
theorem low_turn {t b : Option D} {x y : Nat} (hy : 0 < y) : lb_law_low_1 [t, b, some (.int x), some (.int y)] = some (.nx [t, b, some (.int y), some (.int (x % y : Nat))]) := by
  have h : (y : Int) ≠ 0 := by omega
  have e : (x : Int).fmod y = ((x % y : Nat) : Int) := by
    rw [Int.fmod_eq_emod_of_nonneg _ (by omega)]
    rfl
  have hm := modD_int (i := x) h
  rw [e] at hm
  unfold lb_law_low_1 parS2
  simp only [consA, nilA, nameD, bin2, opN, g2, takeKs, takeK, backKs, backK, frzs, D.frz, Dx.intD, hm, List.getElem?_cons_zero, List.getElem?_cons_succ, D.fz, if_true, Option.bind_some, toTs, toT, List.length_cons, List.length_nil, List.set_cons_zero, List.set_cons_succ]
  rfl
theorem low_test {t b o : Option D} {y : Nat} : valT (bin2 gtD (nameD 3) (litD (.int 0))) [t, b, o, some (.int y)] = some (decide (0 < y), [t, b, o, some (.int y)]) := by
  simp only [valT, consA, nilA, nameD, litD, bin2, opN, g2, takeKs, takeK, backKs, backK, frzs, D.frz, gtD, List.getElem?_cons_zero, List.getElem?_cons_succ, D.fz, if_true, Option.bind_some]
  congr 2
  exact decide_eq_decide.mpr (by omega)
theorem low_loop {t b : Option D} : ∀ (n : Nat) (N x y : Nat), n + 1 < N → y ≤ x → x * y < 2 ^ n → whileS N (valT (bin2 gtD (nameD 3) (litD (.int 0)))) lb_law_low_1 [t, b, some (.int x), some (.int y)] = some (.nx [t, b, some (.int (Nat.gcd x y : Nat)), some (.int 0)]) := by
  intro n
  induction n with
  | zero =>
    intro N x y hN hy h
    have y0 : y = 0 := by
      rcases Nat.eq_zero_or_pos y with z | z
      · exact z
      · have := Nat.mul_le_mul (show 1 ≤ x by omega) z
        omega
    subst y0
    cases N with
    | zero => omega
    | succ N =>
      rw [whileS, low_test, Option.bind_some, Nat.gcd_zero_right]
      rfl
  | succ n ih =>
    intro N x y hN hy h
    cases N with
    | zero => omega
    | succ N =>
      rw [whileS, low_test, Option.bind_some]
      by_cases y0 : 0 < y
      · rw [decide_eq_true y0]
        dsimp only
        rw [if_pos rfl, low_turn y0, Option.bind_some]
        have hm : x % y < y := Nat.mod_lt _ y0
        have h2 : 2 * (x % y) ≤ x := by
          have e := Nat.div_add_mod x y
          have d1 : 1 ≤ x / y := (Nat.one_le_div_iff y0).mpr hy
          have : y * 1 ≤ y * (x / y) := Nat.mul_le_mul_left _ d1
          omega
        have h3 : y * (x % y) < 2 ^ n := by
          have : 2 * (y * (x % y)) ≤ x * y := by
            rw [← Nat.mul_assoc, Nat.mul_comm 2 y, Nat.mul_assoc, Nat.mul_comm x y]
            exact Nat.mul_le_mul_left _ h2
          rw [Nat.pow_succ] at h
          omega
        show whileS N _ _ _ = _
        rw [ih N y (x % y) (by omega) (Nat.le_of_lt hm) h3]
        rw [show Nat.gcd x y = Nat.gcd y (x % y) by rw [Nat.gcd_comm x y, Nat.gcd_rec, Nat.gcd_comm]]
      · have z : y = 0 := by omega
        subst z
        rw [Nat.gcd_zero_right]
        rfl
theorem low_ev {t b : Int} {k : Nat} (hk : k ≤ 4000) (hb : b ≠ 0) (h1 : t.natAbs < 2 ^ k) (h2 : b.natAbs < 2 ^ k) : EvF m_law_low [.int t, .int b] (fq (Rat.divInt t b)) := by
  have g0 := gcd_pos' (t := t) hb
  have hg : ∀ x y : Nat, x < 2 ^ k → y < 2 ^ k → whileS 20000 (valT (bin2 gtD (nameD 3) (litD (.int 0)))) lb_law_low_1 [some (.int t), some (.int b), some (.int x), some (.int y)] = some (.nx [some (.int t), some (.int b), some (.int (Nat.gcd x y : Nat)), some (.int 0)]) := by
    intro x y hx hy
    rcases Nat.eq_zero_or_pos y with z | z
    · subst z
      exact low_loop 0 20000 x 0 (by omega) (by omega) (by rw [Nat.mul_zero]; decide)
    · show whileS (19999 + 1) _ _ _ = _
      rw [whileS, low_test, Option.bind_some, decide_eq_true z]
      dsimp only
      rw [if_pos rfl, low_turn z, Option.bind_some]
      have hm : x % y < y := Nat.mod_lt _ z
      have hp : y * (x % y) < 2 ^ (k + k) := by
        rw [Nat.pow_add]
        exact Nat.lt_of_le_of_lt (Nat.mul_le_mul_left _ (Nat.le_of_lt hm)) (Nat.mul_lt_mul_of_lt_of_le hy (Nat.le_of_lt hy) (Nat.pow_pos (by decide)))
      have z2 := low_loop (t := some (.int t)) (b := some (.int b)) (k + k) 19999 y (x % y) (by omega) (Nat.le_of_lt hm) hp
      show whileS 19999 _ _ _ = _
      rw [z2, show Nat.gcd x y = Nat.gcd y (x % y) by rw [Nat.gcd_comm x y, Nat.gcd_rec, Nat.gcd_comm]]
  have hg2 := hg t.natAbs b.natAbs h1 h2
  have a1 : (if t < 0 then -t else t) = (t.natAbs : Int) := by split <;> omega
  have a2 : (if b < 0 then -b else b) = (b.natAbs : Int) := by split <;> omega
  have s1 : parS2 2 3 (consA (opN absD (consA (nameD 0) nilA)) (consA (opN absD (consA (nameD 1) nilA)) nilA)) ([.int t, .int b].map some ++ List.replicate (4 - 2) none) = some (.nx [some (.int t), some (.int b), some (.int t.natAbs), some (.int b.natAbs)]) := by
    show parS2 2 3 _ [some (.int t), some (.int b), none, none] = _
    simp only [parS2, consA, nilA, nameD, opN, takeKs, takeK, backKs, backK, frzs, D.frz, absD, List.getElem?_cons_zero, List.getElem?_cons_succ, D.fz, if_true, Option.bind_some, toTs, toT, List.length_cons, List.length_nil, List.set_cons_zero, List.set_cons_succ, a1, a2]
    rfl
  generalize hG : ((Nat.gcd t.natAbs b.natAbs : Nat) : Int) = G at hg2
  have hGp : 0 < G := by omega
  have hGs : G.natAbs < 2 ^ k := by
    have := Nat.gcd_le_right t.natAbs (n := b.natAbs) (by omega)
    omega
  have e : fq (Rat.divInt t b) = .tup true [.int (nrm t b).1, .int (nrm t b).2] := by
    rw [nrm_pr hb]
    rfl
  have sz : ∀ g : Int, g.natAbs = G.natAbs → szI g ≤ 8000 := fun g hg => by
    have := szI_lt (i := g) (k := k) (by rw [hg]; exact hGs)
    omega
  have fin : ∀ g : Int, g.natAbs = G.natAbs → g ≠ 0 → (nrm t b) = (t.fdiv g, b.fdiv g) → retS (dispD true (consA (bin2 fdivD (nameD 0) (nameD 2)) (consA (bin2 fdivD (nameD 1) (nameD 2)) nilA))) [some (.int t), some (.int b), some (.int g), some (.int 0)] = some (.rt (fq (Rat.divInt t b)) [some (.int t), some (.int b), some (.int g), some (.int 0)]) := by
    intro g hgn hg0 hn
    have f1 := fdivD_int (i := t) hg0 (sz g hgn)
    have f2 := fdivD_int (i := b) hg0 (sz g hgn)
    rw [e, hn]
    simp only [retS, dispD, consA, nilA, nameD, bin2, opN, g2, takeKs, takeK, backKs, backK, frzs, D.frz, f1, f2, List.getElem?_cons_zero, List.getElem?_cons_succ, D.fz, if_true, Option.bind_some, toTs, toT, List.length_cons, List.length_nil, D.seq]
    rfl
  have s3 : ∃ g : Int, g.natAbs = G.natAbs ∧ g ≠ 0 ∧ nrm t b = (t.fdiv g, b.fdiv g) ∧ setS 2 (ifD (valT (bin2 gtD (nameD 1) (litD (.int 0)))) (nameD 2) (bin2 subD (litD (.int 0)) (nameD 2))) [some (.int t), some (.int b), some (.int G), some (.int 0)] = some (.nx [some (.int t), some (.int b), some (.int g), some (.int 0)]) := by
    by_cases hp : 0 < b
    · refine ⟨G, rfl, by omega, ?_, ?_⟩
      · unfold nrm
        rw [if_neg (by omega), hG]
      · simp only [setS, asgS, ifD, valT, consA, nilA, nameD, litD, bin2, opN, g2, takeKs, takeK, backKs, backK, frzs, D.frz, gtD, List.getElem?_cons_zero, List.getElem?_cons_succ, D.fz, if_true, Option.bind_some, decide_eq_true hp, toT, nameG, List.length_cons, List.length_nil, List.set_cons_zero, List.set_cons_succ]
        rfl
    · refine ⟨-G, by omega, by omega, ?_, ?_⟩
      · unfold nrm
        rw [if_pos (by omega), hG]
      · simp only [setS, asgS, ifD, valT, consA, nilA, nameD, litD, bin2, opN, g2, takeKs, takeK, backKs, backK, frzs, D.frz, gtD, List.getElem?_cons_zero, List.getElem?_cons_succ, D.fz, if_true, Option.bind_some, decide_eq_false hp, toT, nameG, List.length_cons, List.length_nil, List.set_cons_zero, List.set_cons_succ, subD, Int.zero_sub]
        rfl
  obtain ⟨g, hgn, hg0, hn, s3⟩ := s3
  unfold EvF m_law_low b_law_low_D
  exact ⟨_, runF_rt ((seqS_nx s1).trans ((seqS_nx hg2).trans ((seqS_nx s3).trans (fin g hgn hg0 hn))))⟩
end K12

set_option Elab.async false
set_option linter.all false
set_option maxRecDepth 100000
set_option maxHeartbeats 4000000
namespace Dx
open PySem PySem.Spec PyProof.Rows L2 Own
section
variable {env e1 e2 e3 : Env} {fa fb fc : DE} {x y z r d : D} {m : FM} {i : Nat} {g : D → D → Option D}
theorem bin2_tt (ha : fa env = some (.t x, e1)) (hb : fb e1 = some (.t y, e2)) (h : g x.frz y.frz = some z) : bin2 g fa fb env = some (.t z, e2) := by
  simp only [bin2, opN, consA, nilA, ha, hb, Option.bind_some, takeKs, takeK, frzs, g2, backKs, backK]
  rw [show x.frz.frz = x.frz from fz_frz _ (frz_fz x), show y.frz.frz = y.frz from fz_frz _ (frz_fz y), h]
  rfl
theorem un1_t {g : D → Option D} (ha : fa env = some (.t x, e1)) (h : g x.frz = some z) : un1 g fa env = some (.t z, e1) := by
  simp only [un1, opN, consA, nilA, ha, Option.bind_some, takeKs, takeK, frzs, g1, backKs, backK]
  rw [show x.frz.frz = x.frz from fz_frz _ (frz_fz x), h]
  rfl
theorem opN1_t {g : List D → Option D} (ha : fa env = some (.t x, e1)) (h : g [x.frz] = some z) : opN g (consA fa nilA) env = some (.t z, e1) := by
  simp only [opN, consA, nilA, ha, Option.bind_some, takeKs, takeK, frzs, backKs, backK]
  rw [show x.frz.frz = x.frz from fz_frz _ (frz_fz x), h]
  rfl
theorem callF1 (ha : fa env = some (.t x, e1)) (h : EvF m [x.frz] r) : callF [false] m (consA fa nilA) env = some (.t r, e1) :=
  callF_ff rfl (as := [.t x]) (e1 := e1) (by simp only [consA, nilA, ha, Option.bind_some]) rfl h
theorem callF2 (ha : fa env = some (.t x, e1)) (hb : fb e1 = some (.t y, e2)) (h : EvF m [x.frz, y.frz] r) : callF [false, false] m (consA fa (consA fb nilA)) env = some (.t r, e2) :=
  callF_ff rfl (as := [.t x, .t y]) (e1 := e2) (by simp only [consA, nilA, ha, hb, Option.bind_some]) rfl h
theorem callF3 (ha : fa env = some (.t x, e1)) (hb : fb e1 = some (.t y, e2)) (hc : fc e2 = some (.t z, e3)) (h : EvF m [x.frz, y.frz, z.frz] r) : callF [false, false, false] m (consA fa (consA fb (consA fc nilA))) env = some (.t r, e3) :=
  callF_ff rfl (as := [.t x, .t y, .t z]) (e1 := e3) (by simp only [consA, nilA, ha, hb, hc, Option.bind_some]) rfl h
theorem retS_t (h : fa env = some (.t d, e1)) : retS fa env = some (.rt d e1) := by
  unfold retS
  rw [h]
  rfl
theorem retS_s {d' : D} (h : fa env = some (.s i, e1)) (h2 : e1[i]? = some (some d)) : retS fa env = some (.rt d.frz (e1.set i (some d.frz))) := by
  unfold retS
  rw [h]
  simp only [Option.bind_some, toT, toF, h2]
theorem setS_t (h : fa env = some (.t d, e1)) (hi : i < e1.length) : setS i fa env = some (.nx (e1.set i (some d))) := by
  unfold setS asgS
  rw [h]
  simp only [Option.bind_some, toT, nameG, if_pos hi]
theorem ev_rt {n k : Nat} {b : DS} {ds : List D} {env e : Env} (he : ds.map some ++ List.replicate (k - n) none = env) (h : b env = some (.rt d e)) : EvF (runF n k b) ds d := ⟨_, runF_rt (by rw [he]; exact h)⟩
theorem disp2 {t : Bool} (ha : fa env = some (.t x, e1)) (hb : fb e1 = some (.t y, e2)) : dispD t (consA fa (consA fb nilA)) env = some (.t (D.seq t true [x, y]), e2) := by
  simp only [dispD, consA, nilA, ha, hb, Option.bind_some, toTs, toT, List.length_cons, List.length_nil]
  rfl
theorem disp1 {t : Bool} (ha : fa env = some (.t x, e1)) : dispD t (consA fa nilA) env = some (.t (D.seq t true [x]), e1) := by
  simp only [dispD, consA, nilA, ha, Option.bind_some, toTs, toT, List.length_cons, List.length_nil]
  rfl
theorem disp0 {t : Bool} : dispD t nilA env = some (.t (D.seq t true []), env) := rfl
theorem litD_ev : litD d env = some (.t d, env) := rfl
theorem ix_zq0 {q : Rat} (h : env[i]? = some (some (zq q))) : ixD (nameD i) (litD (.int 0)) env = some (.t (.int q.num), env) := by
  simp only [ixD, nameD_fz h (zq_fz q), litD, Option.bind_some, toF, D.frz, intOf, ixAt, zq, seqOf, ixN]
  rfl
theorem ix_zq1 {q : Rat} (h : env[i]? = some (some (zq q))) : ixD (nameD i) (litD (.int 1)) env = some (.t (.int q.den), env) := by
  simp only [ixD, nameD_fz h (zq_fz q), litD, Option.bind_some, toF, D.frz, intOf, ixAt, zq, seqOf, ixN]
  rfl
end
theorem Rat_neg_num (q : Rat) : (-q).num = -q.num := rfl
theorem Rat_neg_den (q : Rat) : (-q).den = q.den := rfl
theorem zq_neg (q : Rat) : D.tup false [.int (0 - q.num), .int q.den] = zq (-q) := by
  rw [Int.zero_sub]
  rfl
theorem mul_lt {a b : Nat} {k l : Nat} (ha : a < 2 ^ k) (hb : b < 2 ^ l) : a * b < 2 ^ (k + l) := by
  rw [Nat.pow_add]
  exact Nat.mul_lt_mul'' ha hb
theorem add_divs (a b : Rat) : Rat.divInt (a.num * b.den + b.num * a.den) (a.den * b.den) = a + b := by
  rw [← Rat.divInt_add_divInt _ _ (pr_ne a) (pr_ne b), dd, dd]
theorem mul_divs (a b : Rat) : Rat.divInt (a.num * b.num) (a.den * b.den) = a * b := by
  rw [← Rat.divInt_mul_divInt, dd, dd]
theorem div_divs (a b : Rat) (hb : b ≠ 0) : Rat.divInt (a.num * b.den) (a.den * b.num) = a / b := by
  rw [← Rat.divInt_mul_divInt, dd, Rat.div_def]
  congr 1
  rw [Rat.inv_def]
theorem num_ne {b : Rat} (h : b ≠ 0) : b.num ≠ 0 := fun z => h (Rat.num_eq_zero.mp z)
theorem Sq.add {k : Nat} {a b : Rat} (ha : Sq k a) (hb : Sq k b) : Sq (2 * k + 1) (a + b) := by
  rw [← add_divs]
  have h := divInt_le (t := a.num * b.den + b.num * a.den) (b := (a.den : Int) * b.den) (Int.mul_ne_zero (pr_ne a) (pr_ne b))
  have x1 := mul_lt ha.1 hb.2
  have x2 := mul_lt hb.1 ha.2
  have x3 := mul_lt ha.2 hb.2
  have e1 : (a.num * b.den).natAbs = a.num.natAbs * b.den := by rw [Int.natAbs_mul, Int.natAbs_natCast]
  have e2 : (b.num * a.den).natAbs = b.num.natAbs * a.den := by rw [Int.natAbs_mul, Int.natAbs_natCast]
  have e3 : ((a.den : Int) * b.den).natAbs = a.den * b.den := by rw [Int.natAbs_mul, Int.natAbs_natCast, Int.natAbs_natCast]
  have hp : 2 ^ (2 * k + 1) = 2 ^ (k + k) + 2 ^ (k + k) := by rw [Nat.pow_succ, show 2 * k = k + k by omega]; omega
  refine ⟨?_, ?_⟩ <;> omega
theorem Sq.mul {k : Nat} {a b : Rat} (ha : Sq k a) (hb : Sq k b) : Sq (2 * k) (a * b) := by
  rw [← mul_divs]
  have h := divInt_le (t := a.num * b.num) (b := (a.den : Int) * b.den) (Int.mul_ne_zero (pr_ne a) (pr_ne b))
  have x1 := mul_lt ha.1 hb.1
  have x3 := mul_lt ha.2 hb.2
  have e1 : (a.num * b.num).natAbs = a.num.natAbs * b.num.natAbs := Int.natAbs_mul _ _
  have e3 : ((a.den : Int) * b.den).natAbs = a.den * b.den := by rw [Int.natAbs_mul, Int.natAbs_natCast, Int.natAbs_natCast]
  rw [show 2 * k = k + k by omega]
  refine ⟨?_, ?_⟩ <;> omega
theorem Sq.neg {k : Nat} {a : Rat} (ha : Sq k a) : Sq k (-a) := ⟨by rw [Rat_neg_num, Int.natAbs_neg]; exact ha.1, ha.2⟩
end Dx
namespace K12
open PySem PySem.Spec PyProof.Rows L2 Own Dx La
theorem sum_ev {k : Nat} {a b : Rat} (hk : k ≤ 1900) (ha : Sq k a) (hb : Sq k b) : EvF m_law_sum [zq a, zq b] (fq (a + b)) := by
  have x1 := mul_lt ha.1 hb.2
  have x2 := mul_lt hb.1 ha.2
  have x3 := mul_lt ha.2 hb.2
  have e1 : (a.num * b.den).natAbs = a.num.natAbs * b.den := by rw [Int.natAbs_mul, Int.natAbs_natCast]
  have e2 : (b.num * a.den).natAbs = b.num.natAbs * a.den := by rw [Int.natAbs_mul, Int.natAbs_natCast]
  have e3 : ((a.den : Int) * b.den).natAbs = a.den * b.den := by rw [Int.natAbs_mul, Int.natAbs_natCast, Int.natAbs_natCast]
  have hp : 2 ^ (2 * k + 1) = 2 ^ (k + k) + 2 ^ (k + k) := by rw [Nat.pow_succ, show 2 * k = k + k by omega]; omega
  have s1 := ha.num
  have s2 := ha.den
  have s3 := hb.num
  have s4 := hb.den
  have l := low_ev (t := a.num * b.den + b.num * a.den) (b := (a.den : Int) * b.den) (k := 2 * k + 1) (by omega) (Int.mul_ne_zero (pr_ne a) (pr_ne b)) (by omega) (by omega)
  rw [add_divs] at l
  refine ev_rt rfl (retS_t (callF2 (bin2_tt (bin2_tt (ix_zq0 rfl) (ix_zq1 rfl) (mulD_int (by omega))) (bin2_tt (ix_zq0 rfl) (ix_zq1 rfl) (mulD_int (by omega))) rfl) (bin2_tt (ix_zq1 rfl) (ix_zq1 rfl) (mulD_int (by omega))) l))
theorem by_ev {k : Nat} {a b : Rat} (hk : k ≤ 1900) (ha : Sq k a) (hb : Sq k b) : EvF m_law_by [zq a, zq b] (fq (a * b)) := by
  have x1 := mul_lt ha.1 hb.1
  have x3 := mul_lt ha.2 hb.2
  have e1 : (a.num * b.num).natAbs = a.num.natAbs * b.num.natAbs := Int.natAbs_mul _ _
  have e3 : ((a.den : Int) * b.den).natAbs = a.den * b.den := by rw [Int.natAbs_mul, Int.natAbs_natCast, Int.natAbs_natCast]
  have s1 := ha.num
  have s2 := ha.den
  have s3 := hb.num
  have s4 := hb.den
  have l := low_ev (t := a.num * b.num) (b := (a.den : Int) * b.den) (k := k + k) (by omega) (Int.mul_ne_zero (pr_ne a) (pr_ne b)) (by omega) (by omega)
  rw [mul_divs] at l
  exact ev_rt rfl (retS_t (callF2 (bin2_tt (ix_zq0 rfl) (ix_zq0 rfl) (mulD_int (by omega))) (bin2_tt (ix_zq1 rfl) (ix_zq1 rfl) (mulD_int (by omega))) l))
theorem over_ev {k : Nat} {a b : Rat} (hk : k ≤ 1900) (ha : Sq k a) (hb : Sq k b) (h0 : b ≠ 0) : EvF m_law_over [zq a, zq b] (fq (a / b)) := by
  have x1 := mul_lt ha.1 hb.2
  have x3 := mul_lt ha.2 hb.1
  have e1 : (a.num * b.den).natAbs = a.num.natAbs * b.den := by rw [Int.natAbs_mul, Int.natAbs_natCast]
  have e3 : ((a.den : Int) * b.num).natAbs = a.den * b.num.natAbs := by rw [Int.natAbs_mul, Int.natAbs_natCast]
  have s1 := ha.num
  have s2 := ha.den
  have s3 := hb.num
  have s4 := hb.den
  have l := low_ev (t := a.num * b.den) (b := (a.den : Int) * b.num) (k := k + k) (by omega) (Int.mul_ne_zero (pr_ne a) (num_ne h0)) (by omega) (by omega)
  rw [div_divs a b h0] at l
  exact ev_rt rfl (retS_t (callF2 (bin2_tt (ix_zq0 rfl) (ix_zq1 rfl) (mulD_int (by omega))) (bin2_tt (ix_zq1 rfl) (ix_zq0 rfl) (mulD_int (by omega))) l))
theorem less_ev {k : Nat} {a b : Rat} (hk : k ≤ 1900) (ha : Sq k a) (hb : Sq k b) : EvF m_law_less [zq a, zq b] (fq (a - b)) := by
  have l := sum_ev hk ha hb.neg
  rw [← Rat.sub_eq_add_neg, ← zq_neg] at l
  exact ev_rt rfl (retS_t (callF2 (nameD_fz rfl (zq_fz a)) (disp2 (t := true) (bin2_tt litD_ev (ix_zq0 rfl) (z := .int (0 - b.num)) rfl) (ix_zq1 rfl)) l))
end K12

set_option Elab.async false
set_option linter.all false
set_option maxHeartbeats 1000000
namespace La
/-- a row of fractions told by places -/
def rowQ (w : Nat) (f : Nat → Rat) : List Rat := (List.range w).map f
theorem rowQ_len (w : Nat) (f : Nat → Rat) : (rowQ w f).length = w := by unfold rowQ; simp
theorem rowQ_get {w j : Nat} {f : Nat → Rat} (h : j < w) : (rowQ w f)[j]? = some (f j) := by unfold rowQ; simp [h]
theorem rowQ_getD {w j : Nat} {f : Nat → Rat} (h : j < w) : (rowQ w f).getD j 0 = f j := by rw [List.getD_eq_getElem?_getD, rowQ_get h]; rfl
theorem rowQ_mem {w : Nat} {f : Nat → Rat} {x : Rat} (h : x ∈ rowQ w f) : ∃ j, j < w ∧ x = f j := by
  unfold rowQ at h
  obtain ⟨j, h1, h2⟩ := List.mem_map.mp h
  exact ⟨j, List.mem_range.mp h1, h2.symm⟩
theorem rowQ_congr {w : Nat} {f g : Nat → Rat} (h : ∀ j, j < w → f j = g j) : rowQ w f = rowQ w g := by
  unfold rowQ
  exact List.map_congr_left fun j hj => h j (List.mem_range.mp hj)
theorem rowQ_of (r : List Rat) : rowQ r.length (fun j => r.getD j 0) = r := by
  apply List.ext_getElem?
  intro i
  by_cases hi : i < r.length
  · rw [rowQ_get hi, List.getD_eq_getElem?_getD, List.getElem?_eq_getElem hi]
    rfl
  · rw [List.getElem?_eq_none (by rw [rowQ_len]; omega), List.getElem?_eq_none (by omega)]
/-- a row less a multiple of another one -/
def lowR (row head : List Rat) (c : Nat) : List Rat := (row.zip head).map fun p => p.1 - row.getD c 0 * p.2
theorem lowR_rowQ {w c : Nat} {f g : Nat → Rat} (h : c < w) : lowR (rowQ w f) (rowQ w g) c = rowQ w fun j => f j - f c * g j := by
  unfold lowR
  rw [rowQ_getD h]
  unfold rowQ
  rw [List.zip_map', List.map_map]
  rfl
/-- one turn of the law's own steps -/
def lawT (c : Nat) (L F : List (List Rat)) : List (List Rat) × List (List Rat) := match L.filter fun r => r.getD c 0 != 0 with
  | [] => (L, F)
  | h :: _ => (L.map fun r => lowR r (h.map (· / h.getD c 0)) c, (F.map fun r => lowR r (h.map (· / h.getD c 0)) c) ++ [h.map (· / h.getD c 0)])
section
variable (M : Nat → Nat → Int) (cI : Nat → Nat)
def Lq (s : St) (i j : Nat) : Rat := (Bs M s i j : Rat) / ((s.p : Rat) * ((cI i : Nat) : Rat))
def gridL (s : St) (m w : Nat) : List (List Rat) := (List.range m).map fun i => rowQ w (Lq M cI s i)
def gridF (s : St) (w : Nat) : List (List Rat) := (List.range s.d).map fun a => rowQ w (stepsOf s a)
end
variable {M : Nat → Nat → Int} {cI : Nat → Nat}
theorem cI_ne {i : Nat} (h : ∀ i, 0 < cI i) : ((cI i : Nat) : Rat) ≠ 0 := fun z => by
  have h1 := h i
  have : cI i = 0 := by exact_mod_cast z
  omega
theorem Lq_zero {s : St} (p0 : s.p ≠ 0) (hc : ∀ i, 0 < cI i) {i j : Nat} : Lq M cI s i j = 0 ↔ Bs M s i j = 0 := by
  unfold Lq
  have h1 := cast_ne p0
  have h2 := cI_ne (i := i) hc
  constructor
  · intro h
    have : (Bs M s i j : Rat) = 0 := by grind
    exact_mod_cast this
  · intro h
    rw [h]
    show (0 : Rat) / _ = 0
    rw [Rat.div_def, Rat.zero_mul]
theorem find_range {p : Nat → Bool} : ∀ (m : Nat), (List.range m).filter p = [] ∨ ∃ i t, (List.range m).filter p = i :: t ∧ i < m ∧ p i = true ∧ ∀ k, k < i → p k = false
  | 0 => .inl rfl
  | m + 1 => by
    rw [List.range_succ, List.filter_append]
    rcases find_range (p := p) m with h | ⟨i, t, h, h1, h2, h3⟩
    · rw [h]
      by_cases q : p m = true
      · refine .inr ⟨m, [], by simp [q], by omega, q, fun k hk => ?_⟩
        cases z : p k with
        | false => rfl
        | true =>
          have : k ∈ (List.range m).filter p := List.mem_filter.mpr ⟨List.mem_range.mpr hk, z⟩
          rw [h] at this
          cases this
      · exact .inl (by simp [q])
    · exact .inr ⟨i, t ++ List.filter p [m], by rw [h]; rfl, by omega, h2, h3⟩
theorem fst_find {s : St} {c m i : Nat} (hi : i < m) (h1 : Bs M s i c ≠ 0) (h2 : ∀ k, k < i → Bs M s k c = 0) : fst M s c m = some i := by
  cases q : fst M s c m with
  | none => exact absurd (fst_none q i hi) h1
  | some j =>
    obtain ⟨a1, a2, a3⟩ := fst_some q
    rcases Nat.lt_trichotomy i j with z | z | z
    · exact absurd (a3 i z) h1
    · rw [z]
    · exact absurd (h2 j z) a2
theorem fst_no {s : St} {c m : Nat} (h2 : ∀ k, k < m → Bs M s k c = 0) : fst M s c m = none := by
  cases q : fst M s c m with
  | none => rfl
  | some j =>
    obtain ⟨a1, a2, a3⟩ := fst_some q
    exact absurd (h2 j a1) a2
/-- the law's turn is the run's -/
theorem lawT_turn {s : St} {m w c : Nat} (k : At M m c s) (hc : ∀ i, 0 < cI i) (hw : c < w) :
    lawT c (gridL M cI s m w) (gridF s w) = (gridL M cI (turn M m s c) m w, gridF (turn M m s c) w) := by
  have e : (gridL M cI s m w).filter (fun r => r.getD c 0 != 0) = ((List.range m).filter fun i => Bs M s i c != 0).map fun i => rowQ w (Lq M cI s i) := by
    unfold gridL
    rw [List.filter_map]
    congr 1
    apply List.filter_congr
    intro i _
    show ((rowQ w (Lq M cI s i)).getD c 0 != 0) = _
    rw [rowQ_getD hw]
    by_cases z : Bs M s i c = 0
    · rw [(Lq_zero k.ok.p0 hc).mpr z, z]
      rfl
    · have z2 : ¬ Lq M cI s i c = 0 := fun q => z ((Lq_zero k.ok.p0 hc).mp q)
      rw [bne_iff_ne.mpr z2, bne_iff_ne.mpr z]
  unfold lawT
  rw [e]
  rcases find_range (p := fun i => Bs M s i c != 0) m with h | ⟨i, t, h, h1, h2, h3⟩
  · rw [h]
    have z : fst M s c m = none := fst_no fun k' hk' => by
      cases q : (Bs M s k' c != 0) with
      | false => simpa using q
      | true =>
        have : k' ∈ (List.range m).filter fun i => Bs M s i c != 0 := List.mem_filter.mpr ⟨List.mem_range.mpr hk', q⟩
        rw [h] at this
        cases this
    unfold turn
    rw [z]
    rfl
  · have hp : Bs M s i c ≠ 0 := by simpa using h2
    have z : fst M s c m = some i := fst_find h1 hp fun k' hk' => by simpa using h3 k' hk'
    unfold turn
    rw [h, z]
    have p0 := cast_ne k.ok.p0
    have q0 : (Bs M s i c : Rat) ≠ 0 := cast_ne hp
    have hd : (rowQ w (Lq M cI s i)).map (· / (rowQ w (Lq M cI s i)).getD c 0) = rowQ w fun j => (Bs M s i j : Rat) / (Bs M s i c : Rat) := by
      rw [rowQ_getD hw]
      unfold rowQ
      rw [List.map_map]
      refine List.map_congr_left fun j _ => ?_
      show Lq M cI s i j / Lq M cI s i c = _
      unfold Lq
      have c0 := cI_ne (i := i) hc
      grind
    show ((gridL M cI s m w).map fun r => lowR r ((rowQ w (Lq M cI s i)).map (· / (rowQ w (Lq M cI s i)).getD c 0)) c, ((gridF s w).map fun r => lowR r ((rowQ w (Lq M cI s i)).map (· / (rowQ w (Lq M cI s i)).getD c 0)) c) ++ [(rowQ w (Lq M cI s i)).map (· / (rowQ w (Lq M cI s i)).getD c 0)]) = (gridL M cI (next M s i c) m w, gridF (next M s i c) w)
    rw [hd]
    congr 1
    · unfold gridL
      rw [List.map_map]
      refine List.map_congr_left fun i' _ => ?_
      show lowR _ _ _ = _
      rw [lowR_rowQ hw]
      refine rowQ_congr fun j _ => ?_
      have nb := next_B k.ok hp i' j
      have nb' : (s.p : Rat) * (Bs M (next M s i c) i' j : Rat) = (Bs M s i c : Rat) * (Bs M s i' j : Rat) - (Bs M s i' c : Rat) * (Bs M s i j : Rat) := by exact_mod_cast nb
      unfold Lq
      have c0 := cI_ne (i := i') hc
      have e2 : (next M s i c).p = Bs M s i c := rfl
      rw [e2]
      grind
    · unfold gridF
      have e3 : (next M s i c).d = s.d + 1 := rfl
      rw [e3, List.range_succ, List.map_append, List.map_map]
      congr 1
      · refine List.map_congr_left fun a ha => ?_
        have ha' := List.mem_range.mp ha
        show lowR _ _ _ = _
        rw [lowR_rowQ hw]
        refine rowQ_congr fun j _ => ?_
        have na := next_A k.ok hp ha' j
        have na' : (s.p : Rat) * ((next M s i c).A a j : Rat) = (Bs M s i c : Rat) * (s.A a j : Rat) - (s.A a c : Rat) * (Bs M s i j : Rat) := by exact_mod_cast na
        unfold stepsOf
        have e2 : (next M s i c).p = Bs M s i c := rfl
        rw [e2]
        grind
      · rw [List.map_cons, List.map_nil]
        congr 1
        refine rowQ_congr fun j _ => ?_
        unfold stepsOf
        have e2 : (next M s i c).p = Bs M s i c := rfl
        have e4 : (next M s i c).A s.d j = Bs M s i j := if_pos rfl
        rw [e2, e4]
end La

set_option Elab.async false
set_option linter.all false
set_option maxRecDepth 100000
set_option maxHeartbeats 4000000
namespace Dx
open PySem PySem.Spec PyProof.Rows L2 Own
section
variable {α : Type} {vs pn : List Nat} {t : DG} {ft : DT} {fe fa fb : DE} {env e1 e2 e3 : Env} {d r : D} {i j : Nat}
theorem compL_list (f g : α → D) : ∀ (l : List α) (acc : List D), (∀ x ∈ l, one vs t ft fe (f x) env = some (some (g x), env)) → acc.length + l.length ≤ LMAX → compL vs t ft fe (l.map f) env acc = some (acc ++ l.map g, env)
  | [], acc, _, _ => by rw [List.map_nil, compL]; simp
  | x :: l, acc, h, hl => by
    have hl' : acc.length + (l.length + 1) ≤ LMAX := hl
    rw [List.map_cons, compL_cons (h x List.mem_cons_self) (by omega), compL_list f g l _ (fun y hy => h y (List.mem_cons_of_mem _ hy)) (by simp; omega)]
    simp
theorem compL_flist (f : α → D) (g : α → Option D) : ∀ (l : List α) (acc : List D), (∀ x ∈ l, one vs t ft fe (f x) env = some (g x, env)) → acc.length + l.length ≤ LMAX → compL vs t ft fe (l.map f) env acc = some (acc ++ l.filterMap g, env)
  | [], acc, _, _ => by rw [List.map_nil, compL]; simp
  | x :: l, acc, h, hl => by
    have hl' : acc.length + (l.length + 1) ≤ LMAX := hl
    have ht : (g x).toList.length ≤ 1 := by cases g x <;> simp
    rw [List.map_cons, compL_cons (h x List.mem_cons_self) (by omega), compL_flist f g l _ (fun y hy => h y (List.mem_cons_of_mem _ hy)) (by rw [List.length_append]; omega)]
    cases q : g x with
    | none => rw [List.filterMap_cons_none q]; simp
    | some z => rw [List.filterMap_cons_some q]; simp
theorem one_yes (h1 : t d env = some e1) (h2 : fe e1 = some (.t r, e2)) (h3 : wipeE e2 vs = e3) : one vs t yesT fe d env = some (some r, e3) := by
  unfold one
  rw [h1, Option.bind_some]
  show (some (true, e1)).bind _ = _
  rw [Option.bind_some]
  dsimp only
  rw [if_pos rfl, h2, Option.bind_some]
  dsimp only [toT]
  rw [Option.bind_some, h3]
theorem one_yesS {d' : D} (h1 : t d env = some e1) (h2 : fe e1 = some (.s i, e2)) (h4 : e2[i]? = some (some d')) (h3 : wipeE (e2.set i (some d'.frz)) vs = e3) : one vs t yesT fe d env = some (some d'.frz, e3) := by
  unfold one
  rw [h1, Option.bind_some]
  show (some (true, e1)).bind _ = _
  rw [Option.bind_some]
  dsimp only
  rw [if_pos rfl, h2, Option.bind_some]
  dsimp only [toT, toF]
  rw [h4]
  dsimp only
  rw [Option.bind_some, h3]
theorem one_t {e0 : Env} (h1 : t d env = some e1) (h0 : ft e1 = some (true, e0)) (h2 : fe e0 = some (.t r, e2)) (h3 : wipeE e2 vs = e3) : one vs t ft fe d env = some (some r, e3) := by
  unfold one
  rw [h1, Option.bind_some, h0, Option.bind_some]
  dsimp only
  rw [if_pos rfl, h2, Option.bind_some]
  dsimp only [toT]
  rw [Option.bind_some, h3]
theorem one_f {e0 : Env} (h1 : t d env = some e1) (h0 : ft e1 = some (false, e0)) (h3 : wipeE e0 vs = e3) : one vs t ft fe d env = some (none, e3) := by
  unfold one
  rw [h1, Option.bind_some, h0, Option.bind_some]
  dsimp only
  rw [if_neg (by decide), h3]
theorem nameG_ev (h : i < env.length) : nameG i d env = some (env.set i (some d)) := if_pos h
theorem pairG_ev {o : Bool} {x y : D} (hi : i < env.length) (hj : j < env.length) : tupG 2 (consG (nameG i) (consG (nameG j) nilG)) (.tup o [x, y]) env = some ((env.set i (some x)).set j (some y)) := by
  unfold tupG
  simp only [List.length_cons, List.length_nil, Nat.reduceAdd, if_true, consG, nameG, nilG, Option.bind_some, if_pos hi, List.length_set, if_pos hj]
theorem seqI_fz {o : Bool} {l : List D} (h : env[i]? = some (some (.lst o l))) (hf : (D.lst o l).fz = true) : seqI pn (nameD i) env = some ⟨l, env, []⟩ := by
  have e : (D.lst o l).frz = .lst o l := fz_frz _ hf
  simp only [seqI, nameD_fz h hf, Option.bind_some, itTake, e, seqOf]
theorem seqI_fzt {o : Bool} {l : List D} (h : env[i]? = some (some (.tup o l))) (hf : (D.tup o l).fz = true) : seqI pn (nameD i) env = some ⟨l, env, []⟩ := by
  have e : (D.tup o l).frz = .tup o l := fz_frz _ hf
  simp only [seqI, nameD_fz h hf, Option.bind_some, itTake, e, seqOf]
theorem zipI_fz {o o' : Bool} {l l' : List D} (h : env[i]? = some (some (.lst o l))) (hf : (D.lst o l).fz = true) (h' : env[j]? = some (some (.lst o' l'))) (hf' : (D.lst o' l').fz = true) : zipI pn (nameD i) (nameD j) env = some ⟨zipL l l', env, []⟩ := by
  have e : (D.lst o l).frz = .lst o l := fz_frz _ hf
  have e' : (D.lst o' l').frz = .lst o' l' := fz_frz _ hf'
  simp only [zipI, nameD_fz h hf, nameD_fz h' hf', Option.bind_some, itTake, e, e', isL, List.append_nil]
theorem zipL_zip {β : Type} (f : α → D) (g : β → D) : ∀ (a : List α) (b : List β), zipL (a.map f) (b.map g) = (a.zip b).map fun p => .tup true [f p.1, g p.2]
  | [], b => by simp [zipL]
  | x :: a, [] => by simp [zipL]
  | x :: a, y :: b => by
    have z := zipL_zip f g a b
    simp only [zipL] at z ⊢
    simp [z]
theorem comp_t {fi : DI} {l : List α} {f g : α → D} {env0 : Env} (h1 : fi env = some ⟨l.map f, e1, []⟩) (hw : wipeE e1 vs = env0) (h2 : ∀ x ∈ l, one vs t ft fe (f x) env0 = some (some (g x), env0)) (hw2 : wipeE env0 vs = env0) (hl : l.length ≤ LMAX) : compD vs fi t ft fe env = some (.t (.lst true (l.map g)), env0) := by
  refine compD_of h1 (by rw [hw, compL_list f g l [] h2 (by simp; omega)]; rfl) hw2
theorem comp_f {fi : DI} {l : List α} {f : α → D} {g : α → Option D} {env0 : Env} (h1 : fi env = some ⟨l.map f, e1, []⟩) (hw : wipeE e1 vs = env0) (h2 : ∀ x ∈ l, one vs t ft fe (f x) env0 = some (g x, env0)) (hw2 : wipeE env0 vs = env0) (hl : l.length ≤ LMAX) : compD vs fi t ft fe env = some (.t (.lst true (l.filterMap g)), env0) := by
  refine compD_of h1 (by rw [hw, compL_flist f g l [] h2 (by simp; omega)]; rfl) hw2
/-- an item of a list that is frozen -/
theorem ix_nm {o : Bool} {l : List D} {n : Nat} (h : env[i]? = some (some (.lst o l))) (hf : (D.lst o l).fz = true) (hk : env[j]? = some (some (.int (n : Nat)))) (hn : l[n]? = some d) : ixD (nameD i) (nameD j) env = some (.t d, env) := by
  have hlt := (List.getElem?_eq_some_iff.mp hn).1
  simp only [ixD, nameD_fz h hf, nameD_fz hk rfl, Option.bind_some, toF, D.frz, intOf, ixAt, seqOf, ixN_nat hlt, hn]
theorem ix_lit {o : Bool} {l : List D} {n : Nat} (h : env[i]? = some (some (.lst o l))) (hf : (D.lst o l).fz = true) (hn : l[n]? = some d) : ixD (nameD i) (litD (.int (n : Nat))) env = some (.t d, env) := by
  have hlt := (List.getElem?_eq_some_iff.mp hn).1
  simp only [ixD, nameD_fz h hf, litD, Option.bind_some, toF, D.frz, intOf, ixAt, seqOf, ixN_nat hlt, hn]
theorem ix_t {o : Bool} {l : List D} {n : Nat} (h : fa env = some (.t (.lst o l), e1)) (hk : fb e1 = some (.t (.int (n : Nat)), e2)) (hn : l[n]? = some d) : ixD fa fb env = some (.t d, e2) := by
  have hlt := (List.getElem?_eq_some_iff.mp hn).1
  simp only [ixD, h, hk, Option.bind_some, toF, D.frz, intOf, ixAt, seqOf, ixN_nat hlt, hn]
theorem ix_tup {o : Bool} {l : List D} {n : Nat} (h : fa env = some (.t (.tup o l), e1)) (hk : fb e1 = some (.t (.int (n : Nat)), e2)) (hn : l[n]? = some d) : ixD fa fb env = some (.t d, e2) := by
  have hlt := (List.getElem?_eq_some_iff.mp hn).1
  simp only [ixD, h, hk, Option.bind_some, toF, D.frz, intOf, ixAt, seqOf, ixN_nat hlt, hn]
end
end Dx
namespace K12
open PySem PySem.Spec PyProof.Rows L2 Own Dx La


theorem lowered_ev {k c : Nat} {row head : List Rat} (hk : k ≤ 600) (hr : ∀ x ∈ row, Sq k x) (hh : ∀ x ∈ head, Sq k x) (hc : c < row.length) (hl : row.length ≤ 1000) : EvF m_law_lowered [zl row, zl head, .int c] (.lst true ((lowR row head c).map fq)) := by
  unfold lowR
  rw [List.map_map]
  have hg : row[c]? = some row[c] := List.getElem?_eq_getElem hc
  have e : row.getD c 0 = row[c] := by rw [List.getD_eq_getElem?_getD, hg]; rfl
  have hz : (row.map zq)[c]? = some (zq row[c]) := by rw [List.getElem?_map, hg]; rfl
  rw [e]
  refine ev_rt rfl (retS_t (comp_t (l := row.zip head) (f := fun p => .tup true [zq p.1, zq p.2]) (e1 := [some (zl row), some (zl head), some (.int c), none, none]) (env0 := [some (zl row), some (zl head), some (.int c), none, none]) ?_ rfl (fun p hp => ?_) rfl ?_))
  · show zipI _ _ _ [some (zl row), some (zl head), some (.int c), none, none] = _
    rw [zipI_fz (o := false) (o' := false) (l := row.map zq) (l' := head.map zq) rfl (zl_fz row) rfl (zl_fz head), zipL_zip]
  · obtain ⟨x, y⟩ := p
    have hx := (List.of_mem_zip hp).1
    have hy := (List.of_mem_zip hp).2
    have b1 := by_ev (k := k) (by omega) (hr _ (List.getElem_mem hc)) (hh y hy)
    have s1 := (hr _ (List.getElem_mem hc)).mul (hh y hy)
    have l1 := less_ev (k := 2 * k) (a := x) (by omega) ((hr x hx).mono (by omega)) s1
    refine one_yes (pairG_ev (by simp) (by simp)) (callF2 (nameD_fz rfl (zq_fz x)) (callF2 (ix_nm (o := false) (l := row.map zq) rfl (zl_fz row) rfl hz) (nameD_fz rfl (zq_fz y)) b1) l1) rfl
  · rw [List.length_zip]; show _ ≤ 10000; omega
end K12

set_option Elab.async false
set_option linter.all false
set_option maxRecDepth 100000
set_option maxHeartbeats 4000000
namespace Dx
open PySem PySem.Spec PyProof.Rows L2 Own
section
variable {env e1 e2 : Env} {f : DE} {ft : DT} {d r : D} {l : List D} {pn : List Nat} {i : Nat} {b : Bool} {g h : DS} {o : Out}
theorem pureD_ev (h1 : f (frzE env) = some (.t r, e1)) (hw : r.ow = true) : pureD f env = some (.t r, env) := by
  unfold pureD
  rw [h1, Option.bind_some]
  dsimp only
  rw [if_pos hw]
theorem pureT_ev (h1 : ft (frzE env) = some (b, e1)) : pureT ft env = some (b, env) := by
  unfold pureT
  rw [h1]
  rfl
theorem seqI_frz (h1 : env[i]? = some (some d)) (hd : d.frz = .lst false l) (hp : pn.contains i = false) : seqI pn (nameD i) env = some ⟨l, env.set i (some (.lst false l)), []⟩ := by
  by_cases hf : d.fz = true
  · have e : d.frz = d := fz_frz d hf
    rw [e] at hd
    subst hd
    rw [seqI_fz h1 hf, set_self h1]
  · have hf' : d.fz = false := by simpa using hf
    simp only [seqI, nameD_ow h1 hf', Option.bind_some, itTake, h1, hp, hd, Bool.false_eq_true, if_false, seqOf]
theorem disp1_n {t : Bool} (h : env[i]? = some (some d)) : dispD t (consA (nameD i) nilA) env = some (.t (D.seq t true [d.frz]), env.set i (some d.frz)) := by
  by_cases hf : d.fz = true
  · have e : d.frz = d := fz_frz d hf
    rw [e, set_self h]
    exact disp1 (nameD_fz h hf)
  · have hf' : d.fz = false := by simpa using hf
    simp only [dispD, consA, nilA, nameD_ow h hf', Option.bind_some, toTs, toT, toF, h, List.length_cons, List.length_nil]
    rfl
theorem seqS_any (h1 : g env = some (.nx e1)) (h2 : h e1 = some o) : seqS g h env = some o := by rw [seqS_nx h1, h2]
theorem ifS_yes (h1 : ft env = some (true, e1)) (h2 : g e1 = some o) : ifS ft g h env = some o := by rw [ifS_t h1, h2]
theorem ifS_no (h1 : ft env = some (false, e1)) (h2 : h e1 = some o) : ifS ft g h env = some o := by rw [ifS_f h1, h2]
theorem valT_ev (h1 : f env = some (.t (.bl b), e1)) : valT f env = some (b, e1) := by
  unfold valT
  rw [h1]
  rfl
theorem ne_int {x y : Int} : neD (.int x) (.int y) = some (.bl (x != y)) := rfl
theorem ne_lst_nil {o o' : Bool} (hd : deps l + 1 ≤ 8) : neD (.lst o l) (.lst o' []) = some (.bl (!l.isEmpty)) := by
  unfold neD eqTop
  simp only [flatD, Bool.or_self, Bool.false_eq_true, if_false, dep, hd, if_true, eqB]
  cases l with
  | nil => rfl
  | cons x l => rfl
theorem ows_map {α : Type} (f : α → D) (h : ∀ a, (f a).ow = true) : ∀ r : List α, ows (r.map f) = true
  | [] => rfl
  | a :: r => by rw [List.map_cons, ows, h a, ows_map f h r]; rfl
theorem ow_lst_map {α : Type} (f : α → D) (h : ∀ a, (f a).ow = true) (r : List α) : (D.lst true (r.map f)).ow = true := by
  show (true && ows _) = true
  rw [ows_map f h]
  rfl
theorem fq_ow (q : Rat) : (fq q).ow = true := rfl
theorem deps_map {α : Type} (f : α → D) (n : Nat) (h : ∀ a, dep (f a) ≤ n) : ∀ r : List α, deps (r.map f) ≤ n
  | [] => by rw [List.map_nil, deps]; omega
  | a :: r => by
    rw [List.map_cons, deps]
    have := h a
    have := deps_map f n h r
    omega
theorem dep_zq (q : Rat) : dep (zq q) ≤ 1 := by simp [zq, dep, deps]
theorem dep_zl (r : List Rat) : dep (zl r) ≤ 2 := by
  show deps _ + 1 ≤ 2
  have := deps_map zq 1 dep_zq r
  omega
theorem frzs_ofq (L : List (List Rat)) : frzs (L.map fun r => D.lst true (r.map fq)) = L.map zl := by
  induction L with
  | nil => rfl
  | cons r L ih =>
    rw [List.map_cons, frzs, ih]
    show D.lst false (frzs (r.map fq)) :: _ = _
    rw [frzs_fq]
    rfl
theorem addD_ll {o o' : Bool} {a b : List D} (h : a.length + b.length ≤ 10000) : addD (.lst o a) (.lst o' b) = some (.lst true (a ++ b)) := if_pos h
end
end Dx
namespace K12
open PySem PySem.Spec PyProof.Rows L2 Own Dx La
/-- rows of one width, their numbers small -/
structure SzG (k w : Nat) (L : List (List Rat)) : Prop where
  len : ∀ r ∈ L, r.length = w
  sz : ∀ r ∈ L, ∀ x ∈ r, Sq k x
  many : L.length ≤ 500
theorem num_zero (x : Rat) : (x.num != 0) = (x != 0) := by
  by_cases h : x = 0
  · rw [h]; rfl
  · rw [bne_iff_ne.mpr h, bne_iff_ne.mpr (num_ne h)]
theorem Sq.div {k : Nat} {a b : Rat} (ha : Sq k a) (hb : Sq k b) (h0 : b ≠ 0) : Sq (2 * k) (a / b) := by
  rw [← div_divs a b h0]
  have h := divInt_le (t := a.num * b.den) (b := (a.den : Int) * b.num) (Int.mul_ne_zero (pr_ne a) (num_ne h0))
  have x1 := mul_lt ha.1 hb.2
  have x3 := mul_lt ha.2 hb.1
  have e1 : (a.num * b.den).natAbs = a.num.natAbs * b.den := by rw [Int.natAbs_mul, Int.natAbs_natCast]
  have e3 : ((a.den : Int) * b.num).natAbs = a.den * b.num.natAbs := by rw [Int.natAbs_mul, Int.natAbs_natCast]
  rw [show 2 * k = k + k by omega]
  refine ⟨?_, ?_⟩ <;> omega
theorem heads_ev {w c : Nat} {L : List (List Rat)} {x0 x2 o4 o5 : Option D} {l : D} {F : D} (hl : l.frz = zg L) (sL : ∀ r ∈ L, r.length = w) (hL : L.length ≤ 500) (hc : c < w) :
    setS 4 (compD [6] (seqI (pnOf [false] 0) (nameD 1)) (nameG 6) (pureT (valT (bin2 neD (ixD (ixD (nameD 6) (nameD 3)) (litD (.int 0))) (litD (.int 0))))) ce_law_steps_2) [x0, some l, x2, some (.int c), o4, o5, none, none]
      = some (.nx [x0, some (zg L), x2, some (.int c), some (.lst true ((L.filter fun r => r.getD c 0 != 0).map zl)), o5, none, none]) := by
  have key : ∀ (L : List (List Rat)), L.filterMap (fun r => if r.getD c 0 != 0 then some (zl r) else none) = (L.filter fun r => r.getD c 0 != 0).map zl := by
    intro L
    induction L with
    | nil => rfl
    | cons r L ih =>
      rw [List.filterMap_cons, List.filter_cons, ih]
      cases (r.getD c 0 != 0) <;> rfl
  rw [← key]
  refine setS_t (e1 := [x0, some (zg L), x2, some (.int c), o4, o5, none, none]) (comp_f (l := L) (f := zl) (e1 := [x0, some (zg L), x2, some (.int c), o4, o5, none, none]) ?_ rfl (fun r hr => ?_) rfl (by show _ ≤ 10000; omega)) (by simp)
  · exact seqI_frz (d := l) rfl hl rfl
  · have hrl := sL r hr
    have hg : r[c]? = some (r[c]'(by omega)) := List.getElem?_eq_getElem (by omega)
    have e : r.getD c 0 = r[c]'(by omega) := by rw [List.getD_eq_getElem?_getD, hg]; rfl
    have hz : (r.map zq)[c]? = some (zq (r[c]'(by omega))) := by rw [List.getElem?_map, hg]; rfl
    have tst : pureT (valT (bin2 neD (ixD (ixD (nameD 6) (nameD 3)) (litD (.int 0))) (litD (.int 0)))) [x0, some (zg L), x2, some (.int c), o4, o5, some (zl r), none] = some (r.getD c 0 != 0, [x0, some (zg L), x2, some (.int c), o4, o5, some (zl r), none]) := by
      rw [e, ← num_zero]
      have f6 : (frzE [x0, some (zg L), x2, some (.int c), o4, o5, some (zl r), none])[6]? = some (some (zl r)) := by
        show some (some (zl r).frz) = _
        rw [zl_frz]
      have f3 : (frzE [x0, some (zg L), x2, some (.int c), o4, o5, some (zl r), none])[3]? = some (some (.int (c : Nat))) := rfl
      exact pureT_ev (valT_ev (bin2_tt (ix_tup (n := 0) (o := false) (l := [.int (r[c]'(by omega)).num, .int (r[c]'(by omega)).den]) (ix_nm (o := false) (l := r.map zq) f6 (zl_fz r) f3 hz) litD_ev rfl) litD_ev ne_int))
    cases q : (r.getD c 0 != 0) with
    | true =>
      rw [q] at tst
      rw [if_pos rfl]
      exact one_t (nameG_ev (by simp)) tst (nameD_fz rfl (zl_fz r)) rfl
    | false =>
      rw [q] at tst
      rw [if_neg (by decide)]
      exact one_f (nameG_ev (by simp)) tst rfl
theorem turn_ev {w c : Nat} {L F : List (List Rat)} {x0 o4 o5 : Option D} {l : D} (hl : l.frz = zg L) (sL : SzG 300 w L) (sF : SzG 300 w F) (hc : c < w) (wlen : w ≤ 500) :
    ∃ l' o4' o5', lb_law_steps_6 [x0, some l, some (.lst true (F.map zl)), some (.int c), o4, o5, none, none] = some (.nx [x0, some l', some (.lst true ((lawT c L F).2.map zl)), some (.int c), o4', o5', none, none]) ∧ l'.frz = zg (lawT c L F).1 := by
  have s1 := heads_ev (x0 := x0) (x2 := some (.lst true (F.map zl))) (o4 := o4) (o5 := o5) (F := .non) hl sL.len sL.many hc
  unfold lb_law_steps_6 lawT
  generalize hH : L.filter (fun r => r.getD c 0 != 0) = Hs at s1
  have ff : ∀ {l : List (List Rat)}, frzs (l.map zl) = l.map zl := fun {l} => frzs_zl l
  have tst : pureT (valT (bin2 neD (nameD 4) (dispD false nilA))) [x0, some (zg L), some (.lst true (F.map zl)), some (.int c), some (.lst true (Hs.map zl)), o5, none, none] = some (!(Hs.map zl).isEmpty, [x0, some (zg L), some (.lst true (F.map zl)), some (.int c), some (.lst true (Hs.map zl)), o5, none, none]) := by
    refine pureT_ev (valT_ev (bin2_tt (x := zg Hs) (y := .lst true []) (nameD_fz ?_ (zg_fz Hs)) disp0 ?_))
    · show some (some (D.lst false (frzs (Hs.map zl)))) = _
      rw [ff]
      rfl
    · rw [zg_frz]
      have := deps_map zl 2 dep_zl Hs
      exact ne_lst_nil (by omega)
  cases Hs with
  | nil => exact ⟨_, _, _, seqS_any s1 (ifS_no tst rfl), zg_frz L⟩
  | cons h t =>
    dsimp only
    have hm : h ∈ L ∧ (h.getD c 0 != 0) = true := by
      have : h ∈ L.filter (fun r => r.getD c 0 != 0) := by rw [hH]; exact List.mem_cons_self
      exact List.mem_filter.mp this
    have h0 : h.getD c 0 ≠ 0 := by simpa using hm.2
    have hlen := sL.len h hm.1
    have hsz := sL.sz h hm.1
    have hg : h[c]? = some (h[c]'(by omega)) := List.getElem?_eq_getElem (by omega)
    have e : h.getD c 0 = h[c]'(by omega) := by rw [List.getD_eq_getElem?_getD, hg]; rfl
    have hz : (h.map zq)[c]? = some (zq (h[c]'(by omega))) := by rw [List.getElem?_map, hg]; rfl
    generalize hV : h.getD c 0 = V at *
    have hVs : Sq 300 V := by rw [e]; exact hsz _ (List.getElem_mem _)
    rw [← e] at hz
    have s3 : setS 5 (pureD (compD [7] (seqI (pnOf [false] 0) (ixD (nameD 4) (litD (.int 0)))) (nameG 7) yesT ce_law_steps_3)) [x0, some (zg L), some (.lst true (F.map zl)), some (.int c), some (.lst true ((h :: t).map zl)), o5, none, none] = some (.nx [x0, some (zg L), some (.lst true (F.map zl)), some (.int c), some (.lst true ((h :: t).map zl)), some (.lst true ((h.map (· / V)).map fq)), none, none]) := by
      refine setS_t (pureD_ev (e1 := frzE [x0, some (zg L), some (.lst true (F.map zl)), some (.int c), some (.lst true ((h :: t).map zl)), o5, none, none]) ?_ (ow_lst_map fq fq_ow _)) (by simp)
      have f4 : (frzE [x0, some (zg L), some (.lst true (F.map zl)), some (.int c), some (.lst true ((h :: t).map zl)), o5, none, none]) = [x0.map D.frz, some (zg L), some (zg F), some (.int c), some (zg (h :: t)), o5.map D.frz, none, none] := by
        show [x0.map D.frz, some (zg L).frz, some (.lst false (frzs (F.map zl))), some (.int c), some (.lst false (frzs ((h :: t).map zl))), o5.map D.frz, none, none] = _
        rw [ff, ff, zg_frz]
        rfl
      rw [f4, List.map_map]
      have i0 : ∀ {o7 : Option D}, ixD (nameD 4) (litD (.int 0)) [x0.map D.frz, some (zg L), some (zg F), some (.int c), some (zg (h :: t)), o5.map D.frz, none, o7] = some (.t (zl h), [x0.map D.frz, some (zg L), some (zg F), some (.int c), some (zg (h :: t)), o5.map D.frz, none, o7]) := fun {o7} => ix_lit (n := 0) (o := false) (l := (h :: t).map zl) rfl (zg_fz (h :: t)) rfl
      refine comp_t (l := h) (f := zq) (g := fq ∘ (· / V)) (e1 := [x0.map D.frz, some (zg L), some (zg F), some (.int c), some (zg (h :: t)), o5.map D.frz, none, none]) ?_ rfl (fun x hx => ?_) rfl (by show _ ≤ 10000; omega)
      · simp only [seqI, i0, Option.bind_some, itTake, zl_frz]
        rfl
      · refine one_yes (nameG_ev (by simp)) (callF2 (nameD_fz rfl (zq_fz x)) (ix_t (o := false) (l := h.map zq) (n := c) i0 (nameD_fz rfl rfl) hz) (over_ev (k := 300) (by omega) (hsz x hx) hVs h0)) rfl
    generalize hHd : h.map (· / V) = Hd at s3
    have hHs : ∀ x ∈ Hd, Sq 600 x := by
      intro x hx
      rw [← hHd] at hx
      obtain ⟨y, hy, rfl⟩ := List.mem_map.mp hx
      exact Sq.div (hsz y hy) hVs h0
    have low : ∀ {x1 : D} {x2 o4 o7 : Option D} (G : List (List Rat)), SzG 300 w G → ∀ r ∈ G, one [6] (nameG 6) yesT (callF [false, false, false] m_law_lowered (consA (nameD 6) (consA (nameD 5) (consA (nameD 3) nilA)))) (zl r) [x0.map D.frz, some x1, x2, some (.int c), o4, some (zl Hd), none, o7] = some (some (.lst true ((lowR r Hd c).map fq)), [x0.map D.frz, some x1, x2, some (.int c), o4, some (zl Hd), none, o7]) := by
      intro x1 x2 o4 o7 G sG r hr
      have hrl := sG.len r hr
      refine one_yes (nameG_ev (by simp)) (callF3 (nameD_fz rfl (zl_fz r)) (nameD_fz rfl (zl_fz Hd)) (nameD_fz rfl rfl) ?_) rfl
      rw [zl_frz, zl_frz]
      exact (lowered_ev (k := 600) (by omega) (fun x hx => (sG.sz r hr x hx).mono (by omega)) hHs (by omega) (by omega))
    have s4 : setS 1 (pureD (compD [6] (seqI (pnOf [false] 0) (nameD 1)) (nameG 6) yesT ce_law_steps_4)) [x0, some (zg L), some (.lst true (F.map zl)), some (.int c), some (.lst true ((h :: t).map zl)), some (.lst true (Hd.map fq)), none, none] = some (.nx [x0, some (.lst true (L.map fun r => .lst true ((lowR r Hd c).map fq))), some (.lst true (F.map zl)), some (.int c), some (.lst true ((h :: t).map zl)), some (.lst true (Hd.map fq)), none, none]) := by
      refine setS_t (pureD_ev (e1 := [x0.map D.frz, some (zg L), some (zg F), some (.int c), some (zg (h :: t)), some (zl Hd), none, none]) ?_ (ow_lst_map (fun r => .lst true ((lowR r Hd c).map fq)) (fun r => ow_lst_map fq fq_ow _) _)) (by simp)
      have f4 : (frzE [x0, some (zg L), some (.lst true (F.map zl)), some (.int c), some (.lst true ((h :: t).map zl)), some (.lst true (Hd.map fq)), none, none]) = [x0.map D.frz, some (zg L), some (zg F), some (.int c), some (zg (h :: t)), some (zl Hd), none, none] := by
        show [x0.map D.frz, some (zg L).frz, some (.lst false (frzs (F.map zl))), some (.int c), some (.lst false (frzs ((h :: t).map zl))), some (.lst false (frzs (Hd.map fq))), none, none] = _
        rw [ff, ff, zg_frz, frzs_fq]
        rfl
      rw [f4]
      exact comp_t (l := L) (f := zl) (e1 := [x0.map D.frz, some (zg L), some (zg F), some (.int c), some (zg (h :: t)), some (zl Hd), none, none]) (seqI_fz (o := false) (l := L.map zl) rfl (zg_fz L)) rfl (low L sL) rfl (by have := sL.many; show _ ≤ 10000; omega)
    have s5 : setS 2 (bin2 addD (pureD (compD [6] (seqI (pnOf [false] 0) (nameD 2)) (nameG 6) yesT ce_law_steps_5)) (dispD false (consA (nameD 5) nilA))) [x0, some (.lst true (L.map fun r => .lst true ((lowR r Hd c).map fq))), some (.lst true (F.map zl)), some (.int c), some (.lst true ((h :: t).map zl)), some (.lst true (Hd.map fq)), none, none] = some (.nx [x0, some (.lst true (L.map fun r => .lst true ((lowR r Hd c).map fq))), some (.lst true (((F.map fun r => lowR r Hd c) ++ [Hd]).map zl)), some (.int c), some (.lst true ((h :: t).map zl)), some (zl Hd), none, none]) := by
      have mm : ∀ G : List (List Rat), (G.map fun r => D.lst true ((lowR r Hd c).map fq)) = (G.map fun r => lowR r Hd c).map fun r => D.lst true (r.map fq) := fun G => by rw [List.map_map]; rfl
      have f4 : (frzE [x0, some (.lst true (L.map fun r => .lst true ((lowR r Hd c).map fq))), some (.lst true (F.map zl)), some (.int c), some (.lst true ((h :: t).map zl)), some (.lst true (Hd.map fq)), none, none]) = [x0.map D.frz, some (zg (L.map fun r => lowR r Hd c)), some (zg F), some (.int c), some (zg (h :: t)), some (zl Hd), none, none] := by
        show [x0.map D.frz, some (.lst false (frzs (L.map fun r => .lst true ((lowR r Hd c).map fq)))), some (.lst false (frzs (F.map zl))), some (.int c), some (.lst false (frzs ((h :: t).map zl))), some (.lst false (frzs (Hd.map fq))), none, none] = _
        rw [ff, ff, frzs_fq, mm, frzs_ofq]
        rfl
      have hc1 : pureD (compD [6] (seqI (pnOf [false] 0) (nameD 2)) (nameG 6) yesT ce_law_steps_5) [x0, some (.lst true (L.map fun r => .lst true ((lowR r Hd c).map fq))), some (.lst true (F.map zl)), some (.int c), some (.lst true ((h :: t).map zl)), some (.lst true (Hd.map fq)), none, none] = some (.t (.lst true (F.map fun r => .lst true ((lowR r Hd c).map fq))), [x0, some (.lst true (L.map fun r => .lst true ((lowR r Hd c).map fq))), some (.lst true (F.map zl)), some (.int c), some (.lst true ((h :: t).map zl)), some (.lst true (Hd.map fq)), none, none]) := by
        refine pureD_ev (e1 := [x0.map D.frz, some (zg (L.map fun r => lowR r Hd c)), some (zg F), some (.int c), some (zg (h :: t)), some (zl Hd), none, none]) ?_ (ow_lst_map (fun r => .lst true ((lowR r Hd c).map fq)) (fun r => ow_lst_map fq fq_ow _) _)
        rw [f4]
        exact comp_t (l := F) (f := zl) (e1 := [x0.map D.frz, some (zg (L.map fun r => lowR r Hd c)), some (zg F), some (.int c), some (zg (h :: t)), some (zl Hd), none, none]) (seqI_fz (o := false) (l := F.map zl) rfl (zg_fz F)) rfl (low (x1 := zg (L.map fun r => lowR r Hd c)) F sF) rfl (by have := sF.many; show _ ≤ 10000; omega)
      have z : addD (D.lst true (F.map fun r => .lst true ((lowR r Hd c).map fq))).frz (D.seq false true [(D.lst true (Hd.map fq)).frz]).frz = some (.lst true (((F.map fun r => lowR r Hd c) ++ [Hd]).map zl)) := by
        show addD (.lst false (frzs (F.map fun r => D.lst true ((lowR r Hd c).map fq)))) (.lst false (frzs [D.lst false (frzs (Hd.map fq))])) = _
        rw [mm, frzs_ofq, frzs_fq, List.map_append]
        show addD (.lst false _) (.lst false [D.lst false (frzs (Hd.map zq))]) = _
        rw [frzs_zq]
        exact addD_ll (by have := sF.many; simp; omega)
      have fz : (D.lst true (Hd.map fq)).frz = zl Hd := by
        show D.lst false (frzs _) = _
        rw [frzs_fq]
        rfl
      have d1 := disp1_n (t := false) (env := [x0, some (.lst true (L.map fun r => .lst true ((lowR r Hd c).map fq))), some (.lst true (F.map zl)), some (.int c), some (.lst true ((h :: t).map zl)), some (.lst true (Hd.map fq)), none, none]) (i := 5) (d := .lst true (Hd.map fq)) rfl
      have z2 := setS_t (i := 2) (bin2_tt hc1 d1 z) (by simp)
      rw [fz] at z2
      exact z2
    refine ⟨_, _, _, seqS_any s1 (ifS_yes tst (seqS_any s3 (seqS_any s4 s5))), ?_⟩
    show D.lst false (frzs (L.map fun r => D.lst true ((lowR r Hd c).map fq))) = _
    rw [show (L.map fun r => D.lst true ((lowR r Hd c).map fq)) = (L.map fun r => lowR r Hd c).map fun r => D.lst true (r.map fq) by rw [List.map_map]; rfl, frzs_ofq]
    rfl
end K12

set_option Elab.async false
set_option linter.all false
set_option maxRecDepth 100000
set_option maxHeartbeats 4000000
set_option exponentiation.threshold 4000
namespace La
theorem inc_ge {h : Nat → Nat} {d : Nat} (hi : ∀ a b, a < b → b < d → h a < h b) : ∀ a, a < d → a ≤ h a
  | 0, _ => Nat.zero_le _
  | a + 1, ha => by
    have := inc_ge hi a (by omega)
    have := hi a (a + 1) (by omega) ha
    omega
theorem At.d_le {M : Nat → Nat → Int} {m c : Nat} {s : St} (k : At M m c s) : s.d ≤ c := by
  rcases Nat.eq_zero_or_pos s.d with z | z
  · omega
  · have h1 := inc_ge k.inc (s.d - 1) (by omega)
    have h2 := k.hc (s.d - 1) (by omega)
    omega
theorem fact_le : ∀ {d : Nat}, d ≤ 6 → fact d ≤ 1024 := by decide
/-- numbers are small -/
structure Sml (M : Nat → Nat → Int) (s : St) : Prop where
  p : s.p.natAbs < 2 ^ 200
  B : ∀ i j, (Bs M s i j).natAbs < 2 ^ 200
  A : ∀ a j, a < s.d → (s.A a j).natAbs < 2 ^ 200
theorem sml_of {M : Nat → Nat → Int} {s : St} (hM : ∀ i j, (M i j).natAbs ≤ 2 ^ 20) (b : Bd (2 ^ 20) s) (hd : s.d ≤ 6) : Sml M s := by
  have f := fact_le hd
  have pw : ∀ e, e ≤ 8 → (2 ^ 20) ^ e ≤ 2 ^ 160 := fun e he => by
    rw [← Nat.pow_mul]
    exact Nat.pow_le_pow_right (by decide) (by omega)
  have g : ∀ e, e ≤ 8 → fact s.d * (2 ^ 20) ^ e ≤ 2 ^ 170 := fun e he => by
    have := Nat.mul_le_mul f (pw e he)
    refine Nat.le_trans this ?_
    decide
  refine ⟨?_, fun i j => ?_, fun a j ha => ?_⟩
  · exact Nat.lt_of_le_of_lt (Nat.le_trans b.p (g _ (by omega))) (by decide)
  · have h1 := bd_B (by decide) hM b i j
    have h2 : (1 + s.d * s.d) * (fact s.d * (2 ^ 20) ^ (s.d + 2)) ≤ 37 * 2 ^ 170 := by
      refine Nat.mul_le_mul ?_ (g _ (by omega))
      have := Nat.mul_le_mul hd hd
      omega
    exact Nat.lt_of_le_of_lt (Nat.le_trans h1 h2) (by decide)
  · have h1 := b.A a j ha
    have h2 : s.d * (fact s.d * (2 ^ 20) ^ (s.d + 1)) ≤ 6 * 2 ^ 170 := Nat.mul_le_mul hd (g _ (by omega))
    exact Nat.lt_of_le_of_lt (Nat.le_trans h1 h2) (by decide)
end La
namespace K12
open PySem PySem.Spec PyProof.Rows L2 Own Dx La
theorem divq {x y : Int} {k : Nat} (hy : y ≠ 0) (h1 : x.natAbs < 2 ^ k) (h2 : y.natAbs < 2 ^ k) : Sq k ((x : Rat) / (y : Rat)) := by
  rw [← Rat.divInt_eq_div]
  have h := divInt_le (t := x) hy
  exact ⟨Nat.lt_of_le_of_lt h.1 h1, Nat.lt_of_le_of_lt h.2 h2⟩
def Mof (R : List (List Rat)) (i j : Nat) : Int := (wbI (R.getD i [])).getD j 0
def cof (R : List (List Rat)) (i : Nat) : Nat := lcmF 1 (R.getD i [])
theorem cof_pos (R : List (List Rat)) (i : Nat) : 0 < cof R i := lcmF_pos _ 1 (by decide)
theorem fdiv_nat (a b : Nat) : ((a : Nat) : Int).fdiv b = ((a / b : Nat) : Int) := by
  rw [Int.fdiv_eq_ediv_of_nonneg _ (by omega)]
  rfl
theorem wb_q {r : List Rat} {q : Rat} (h : q ∈ r) : ((q.num * ((lcmF 1 r : Nat) : Int).fdiv q.den : Int) : Rat) / ((lcmF 1 r : Nat) : Rat) = q := by
  obtain ⟨e, he⟩ := lcmF_den r 1 q h
  have hL := lcmF_pos r 1 (by decide)
  have hd := Nat.pos_of_ne_zero q.den_nz
  have e0 : 0 < e := by
    rcases Nat.eq_zero_or_pos e with z | z
    · rw [z, Nat.mul_zero] at he; omega
    · exact z
  rw [fdiv_nat, he, Nat.mul_div_cancel_left _ hd]
  have h1 : q = (q.num : Rat) / ((q.den : Nat) : Rat) := by
    have := dd q
    rw [Rat.divInt_eq_div] at this
    exact this.symm
  have d0 : ((q.den : Nat) : Rat) ≠ 0 := fun z => q.den_nz (by exact_mod_cast z)
  have e1 : ((e : Nat) : Rat) ≠ 0 := fun z => by
    have : e = 0 := by exact_mod_cast z
    omega
  have c1 : ((q.num * ((e : Nat) : Int) : Int) : Rat) = (q.num : Rat) * ((e : Nat) : Rat) := by
    rw [Rat.intCast_mul]
    rfl
  have c2 : ((q.den * e : Nat) : Rat) = ((q.den : Nat) : Rat) * ((e : Nat) : Rat) := by exact_mod_cast rfl
  rw [c1, c2]
  have key : ∀ n d e : Rat, d ≠ 0 → e ≠ 0 → n * e / (d * e) = n / d := by intro n d e h1 h2; grind
  rw [key _ _ _ d0 e1, ← h1]
theorem gridL_s0 {R : List (List Rat)} {w : Nat} (h : ∀ r ∈ R, r.length = w) : gridL (Mof R) (cof R) s0 R.length w = R := by
  unfold gridL
  apply List.ext_getElem?
  intro i
  by_cases hi : i < R.length
  · rw [List.getElem?_map, List.getElem?_range hi, List.getElem?_eq_getElem hi]
    show some _ = _
    congr 1
    have hr := h _ (List.getElem_mem hi)
    have e : R.getD i [] = R[i] := by rw [List.getD_eq_getElem?_getD, List.getElem?_eq_getElem hi]; rfl
    rw [← rowQ_of R[i], hr]
    refine rowQ_congr fun j hj => ?_
    have hj' : j < R[i].length := by omega
    unfold Lq Bs
    have e1 : Mof R i j = (R[i][j]).num * ((lcmF 1 R[i] : Nat) : Int).fdiv (R[i][j]).den := by
      unfold Mof wbI
      rw [e, List.getD_eq_getElem?_getD, List.getElem?_map, List.getElem?_eq_getElem hj']
      rfl
    have e2 : s0.p * Mof R i j - Si (fun a => Mof R i (s0.h a) * s0.A a j) s0.d = Mof R i j := by
      show 1 * Mof R i j - 0 = _
      omega
    rw [e2, e1]
    have e3 : ((s0.p : Int) : Rat) * ((cof R i : Nat) : Rat) = ((lcmF 1 R[i] : Nat) : Rat) := by
      unfold cof
      rw [e]
      show ((1 : Int) : Rat) * _ = _
      rw [Rat.intCast_one, Rat.one_mul]
    rw [e3, wb_q (List.getElem_mem hj'), List.getD_eq_getElem?_getD, List.getElem?_eq_getElem hj']
    rfl
  · rw [List.getElem?_eq_none (by simp; omega), List.getElem?_eq_none (by omega)]
/-- rows that the law may hand -/
structure RowsE (e f : Nat) (R : List (List Rat)) (w : Nat) : Prop where
  len : ∀ r ∈ R, r.length = w
  w : w ≤ 6
  many : R.length ≤ 12
  M : ∀ i j, (Mof R i j).natAbs ≤ 2 ^ e
  c : ∀ i, cof R i ≤ 2 ^ f
abbrev Rows := RowsE 20 20
theorem RowsE.mono {e f e' f' : Nat} {R : List (List Rat)} {w : Nat} (h : RowsE e f R w) (he : e ≤ e') (hf : f ≤ f') : RowsE e' f' R w :=
  ⟨h.len, h.w, h.many, fun i j => Nat.le_trans (h.M i j) (Nat.pow_le_pow_right (by decide) he), fun i => Nat.le_trans (h.c i) (Nat.pow_le_pow_right (by decide) hf)⟩
theorem sz_state {R : List (List Rat)} {w c : Nat} (h : Rows R w) (hc : c ≤ w) : Sml (Mof R) (run (Mof R) R.length c) := by
  have k := at_run (Mof R) R.length c
  exact sml_of h.M (bd_run (by decide) h.M c) (by have := k.d_le; have := h.w; omega)
theorem szL {R : List (List Rat)} {w c : Nat} (h : Rows R w) (hc : c ≤ w) : SzG 300 w (gridL (Mof R) (cof R) (run (Mof R) R.length c) R.length w) := by
  have z := sz_state h hc
  have k := at_run (Mof R) R.length c
  refine ⟨fun r hr => ?_, fun r hr x hx => ?_, ?_⟩
  · obtain ⟨i, _, rfl⟩ := List.mem_map.mp hr
    exact rowQ_len _ _
  · obtain ⟨i, _, rfl⟩ := List.mem_map.mp hr
    obtain ⟨j, _, rfl⟩ := rowQ_mem hx
    unfold Lq
    have e : ((run (Mof R) R.length c).p : Rat) * ((cof R i : Nat) : Rat) = (((run (Mof R) R.length c).p * ((cof R i : Nat) : Int) : Int) : Rat) := by
      rw [Rat.intCast_mul]
      rfl
    rw [e]
    have c1 := cof_pos R i
    refine divq (Int.mul_ne_zero k.ok.p0 (by omega)) (Nat.lt_of_lt_of_le (z.B i j) (Nat.pow_le_pow_right (by decide) (by decide))) ?_
    rw [Int.natAbs_mul, Int.natAbs_natCast]
    exact Nat.lt_of_lt_of_le (mul_lt z.p (Nat.lt_of_le_of_lt (h.c i) (show 2 ^ 20 < 2 ^ 21 by decide))) (Nat.pow_le_pow_right (by decide) (by decide))
  · unfold gridL
    rw [List.length_map, List.length_range]
    have := h.many
    omega
theorem szF {R : List (List Rat)} {w c : Nat} (h : Rows R w) (hc : c ≤ w) : SzG 300 w (gridF (run (Mof R) R.length c) w) := by
  have z := sz_state h hc
  have k := at_run (Mof R) R.length c
  refine ⟨fun r hr => ?_, fun r hr x hx => ?_, ?_⟩
  · obtain ⟨i, _, rfl⟩ := List.mem_map.mp hr
    exact rowQ_len _ _
  · obtain ⟨a, ha, rfl⟩ := List.mem_map.mp hr
    obtain ⟨j, _, rfl⟩ := rowQ_mem hx
    unfold stepsOf
    exact divq k.ok.p0 (Nat.lt_of_lt_of_le (z.A a j (List.mem_range.mp ha)) (Nat.pow_le_pow_right (by decide) (by decide))) (Nat.lt_of_lt_of_le z.p (Nat.pow_le_pow_right (by decide) (by decide)))
  · unfold gridF
    rw [List.length_map, List.length_range]
    have := k.d_le
    have := h.w
    omega
/-- the steps of rows -/
def stepsL (R : List (List Rat)) (w : Nat) : List (List Rat) := gridF (run (Mof R) R.length w) w
theorem steps_loop {R : List (List Rat)} {w : Nat} {x0 : Option D} (h : Rows R w) : ∀ (n c : Nat) (l : D) (o3 o4 o5 : Option D), c + n = w → l.frz = zg (gridL (Mof R) (cof R) (run (Mof R) R.length c) R.length w) →
    ∃ e, forL (nameG 3) lb_law_steps_6 (rangeL (c : Nat) n) [x0, some l, some (.lst true ((gridF (run (Mof R) R.length c) w).map zl)), o3, o4, o5, none, none] = some (.nx e) ∧ e[2]? = some (some (.lst true ((stepsL R w).map zl))) ∧ 2 < e.length := by
  intro n
  induction n with
  | zero =>
    intro c l o3 o4 o5 hc hl
    have : c = w := by omega
    subst this
    exact ⟨_, rfl, rfl, by simp⟩
  | succ n ih =>
    intro c l o3 o4 o5 hc hl
    have e : rangeL (c : Nat) (n + 1) = D.int (c : Nat) :: rangeL ((c + 1 : Nat) : Int) n := by
      unfold rangeL
      rw [List.range_succ_eq_map, List.map_cons, List.map_map]
      refine List.cons_eq_cons.mpr ⟨by simp, List.map_congr_left fun i _ => ?_⟩
      show D.int _ = D.int _
      congr 1
      simp only [Nat.succ_eq_add_one]
      omega
    have hw := h.w
    have hcw : c ≤ w := by omega
    obtain ⟨l', o4', o5', h1, h2⟩ := turn_ev (c := c) (w := w) (x0 := x0) (o4 := o4) (o5 := o5) hl (szL h hcw) (szF h hcw) (by omega) (by omega)
    rw [lawT_turn (at_run (Mof R) R.length c) (cof_pos R) (by omega)] at h1 h2
    obtain ⟨e', h3, h4⟩ := ih (c + 1) l' (some (.int (c : Nat))) o4' o5' (by omega) h2
    refine ⟨e', ?_, h4⟩
    rw [e, forL]
    have tg : nameG 3 (.int (c : Nat)) [x0, some l, some (.lst true ((gridF (run (Mof R) R.length c) w).map zl)), o3, o4, o5, none, none] = some [x0, some l, some (.lst true ((gridF (run (Mof R) R.length c) w).map zl)), some (.int (c : Nat)), o4, o5, none, none] := rfl
    rw [tg, Option.bind_some, h1, Option.bind_some]
    exact h3
theorem law_steps_ev {R : List (List Rat)} {w : Nat} (h : Rows R w) (hw : R = [] → w = 0) : EvF m_law_steps [zg R] (.lst true ((stepsL R w).map zl)) := by
  have ffz : ∀ {l : List (List Rat)}, frzs (l.map zl) = l.map zl := fun {l} => frzs_zl l
  have s1 : parS2 1 2 (consA (compD [6] (seqI (pnOf [false] 0) (nameD 0)) (nameG 6) yesT ce_law_steps_1) (consA (dispD false nilA) nilA)) ([zg R].map some ++ List.replicate (8 - 1) none) = some (.nx [some (zg R), some (.lst true (R.map zl)), some (.lst true []), none, none, none, none, none]) := by
    show parS2 1 2 _ [some (zg R), none, none, none, none, none, none, none] = _
    have c1 : compD [6] (seqI (pnOf [false] 0) (nameD 0)) (nameG 6) yesT ce_law_steps_1 [some (zg R), none, none, none, none, none, none, none] = some (.t (.lst true (R.map zl)), [some (zg R), none, none, none, none, none, none, none]) :=
      comp_t (l := R) (f := zl) (g := zl) (e1 := [some (zg R), none, none, none, none, none, none, none]) (seqI_fz (o := false) (l := R.map zl) rfl (zg_fz R)) rfl (fun r hr => one_yes (nameG_ev (by simp)) (nameD_fz rfl (zl_fz r)) rfl) rfl (by have := h.many; show _ ≤ 10000; omega)
    unfold parS2
    simp only [consA, nilA, c1, disp0, Option.bind_some, toTs, toT, List.length_cons, List.length_nil]
    rfl
  have s2 : range1I (consA (ifD (pureT (valT (bin2 neD (nameD 0) (dispD false nilA)))) (pureD (opN lenD (consA (ixD (nameD 0) (litD (.int 0))) nilA))) (litD (.int 0))) nilA) [some (zg R), some (.lst true (R.map zl)), some (.lst true []), none, none, none, none, none] = some ⟨rangeL 0 w, [some (zg R), some (.lst true (R.map zl)), some (.lst true []), none, none, none, none, none], []⟩ := by
    have f4 : frzE [some (zg R), some (.lst true (R.map zl)), some (.lst true []), none, none, none, none, none] = [some (zg R), some (zg R), some (.lst false []), none, none, none, none, none] := by
      show [some (zg R).frz, some (.lst false (frzs (R.map zl))), some (.lst false []), none, none, none, none, none] = _
      rw [ffz, zg_frz]
      rfl
    have t : pureT (valT (bin2 neD (nameD 0) (dispD false nilA))) [some (zg R), some (.lst true (R.map zl)), some (.lst true []), none, none, none, none, none] = some (!(R.map zl).isEmpty, [some (zg R), some (.lst true (R.map zl)), some (.lst true []), none, none, none, none, none]) := by
      refine pureT_ev (e1 := [some (zg R), some (zg R), some (.lst false []), none, none, none, none, none]) (valT_ev (bin2_tt (x := zg R) (y := .lst true []) ?_ disp0 ?_))
      · rw [f4]; exact nameD_fz rfl (zg_fz R)
      · rw [zg_frz]
        have := deps_map zl 2 dep_zl R
        exact ne_lst_nil (by omega)
    have v : consA (ifD (pureT (valT (bin2 neD (nameD 0) (dispD false nilA)))) (pureD (opN lenD (consA (ixD (nameD 0) (litD (.int 0))) nilA))) (litD (.int 0))) nilA [some (zg R), some (.lst true (R.map zl)), some (.lst true []), none, none, none, none, none] = some ([.t (.int (w : Nat))], [some (zg R), some (.lst true (R.map zl)), some (.lst true []), none, none, none, none, none]) := by
      unfold consA ifD
      rw [t, Option.bind_some]
      cases R with
      | nil =>
        have := hw rfl
        subst this
        rfl
      | cons r R =>
        have hr := h.len r List.mem_cons_self
        have z : pureD (opN lenD (consA (ixD (nameD 0) (litD (.int 0))) nilA)) [some (zg (r :: R)), some (.lst true ((r :: R).map zl)), some (.lst true []), none, none, none, none, none] = some (.t (.int (w : Nat)), [some (zg (r :: R)), some (.lst true ((r :: R).map zl)), some (.lst true []), none, none, none, none, none]) := by
          refine pureD_ev (e1 := [some (zg (r :: R)), some (zg (r :: R)), some (.lst false []), none, none, none, none, none]) (opN1_t (x := zl r) ?_ ?_) rfl
          · rw [f4]
            exact ix_lit (n := 0) (o := false) (l := (r :: R).map zl) rfl (zg_fz (r :: R)) rfl
          · rw [zl_frz]
            show some (D.int ((r.map zq).length : Nat)) = _
            rw [List.length_map, hr]
        rw [if_pos (show (!(List.map zl (r :: R)).isEmpty) = true from rfl)]
        have z' := z
        unfold consA at z'
        dsimp only
        rw [z']
        rfl
    have := h.w
    exact range1I_ev v (bnd_nat (by omega))
  obtain ⟨e, h3, h4, h5⟩ := steps_loop (x0 := some (zg R)) h w 0 (.lst true (R.map zl)) none none none (by omega) (by
    show D.lst false (frzs _) = zg (gridL (Mof R) (cof R) s0 R.length w)
    rw [ffz, gridL_s0 h.len]
    rfl)
  have r4 : retV 2 e = some (.rt (.lst true ((stepsL R w).map zl)) e) ∨ retV 2 e = some (.rt (.lst true ((stepsL R w).map zl)) (e.set 2 none)) := by
    unfold retV
    rw [h4]
    dsimp only
    split
    · exact .inl rfl
    · exact .inr rfl
  unfold EvF m_law_steps b_law_steps_D
  rcases r4 with r4 | r4
  · exact ⟨_, runF_rt ((seqS_nx s1).trans ((seqS_nx (forS_of s2 h3)).trans r4))⟩
  · exact ⟨_, runF_rt ((seqS_nx s1).trans ((seqS_nx (forS_of s2 h3)).trans r4))⟩
end K12

set_option Elab.async false
set_option linter.all false
set_option maxRecDepth 100000
set_option maxHeartbeats 4000000
set_option exponentiation.threshold 4000
namespace Dx
open PySem PySem.Spec PyProof.Rows L2 Own
section
variable {env e1 e2 : Env} {f fa fb : DE} {fl fh : DO} {ft : DT} {d r y z : D} {l X : List D} {pn : List Nat} {i j n : Nat} {b : Bool} {lo hi : Option Int} {g : D → D → Option D}
theorem lst_of_frz (hd : d.frz = .lst false X) : ∃ o ds, d = .lst o ds ∧ frzs ds = X := by
  cases d <;> simp only [D.frz, reduceCtorEq] at hd
  rename_i o ds
  injection hd with _ h
  exact ⟨o, ds, rfl, h⟩
theorem frzs_idem {ds : List D} (h : frzs ds = X) : frzs X = X := by rw [← h]; exact fzs_frzs _ (frzs_fz ds)
theorem slice_n (h : env[i]? = some (some d)) (hd : d.frz = .lst false X) (hl : ∀ e : Env, (∀ k, k ≠ i → e[k]? = env[k]?) → fl e = some (lo, e)) (hh : ∀ e : Env, (∀ k, k ≠ i → e[k]? = env[k]?) → fh e = some (hi, e)) :
    ∃ d', d'.frz = .lst false X ∧ sliceD (nameD i) fl fh env = some (.t (.lst true (cutL X lo hi)), env.set i (some d')) := by
  by_cases hf : d.fz = true
  · have e : d.frz = d := fz_frz d hf
    refine ⟨d, hd, ?_⟩
    simp only [sliceD, nameD_fz h hf, Option.bind_some, hl env (fun _ _ => rfl), hh env (fun _ _ => rfl), takeK, hd, backK, set_self h]
  · have hf' : d.fz = false := by simpa using hf
    obtain ⟨o, ds, rfl, hX⟩ := lst_of_frz hd
    refine ⟨.lst o X, by show D.lst false (frzs X) = _; rw [frzs_idem hX], ?_⟩
    simp only [sliceD, nameD_ow h hf', Option.bind_some, hl env (fun _ _ => rfl), hh env (fun _ _ => rfl), takeK, h, D.kfz, hX, backK, List.set_set]
theorem someO_n {k : Int} (h : env[j]? = some (some (.int k))) : someO (nameD j) env = some (some k, env) := by
  unfold someO
  rw [nameD_fz h rfl]
  rfl
theorem ix_n (h : env[i]? = some (some d)) (hd : d.frz = .lst false X) (hk : env[j]? = some (some (.int (n : Nat)))) (hn : X[n]? = some y) : ∃ d', d'.frz = .lst false X ∧ ixD (nameD i) (nameD j) env = some (.t y, env.set i (some d')) := by
  by_cases hf : d.fz = true
  · have e : d.frz = d := fz_frz d hf
    rw [e] at hd
    subst hd
    exact ⟨_, e, by rw [ix_nm h hf hk hn, set_self h]⟩
  · have hf' : d.fz = false := by simpa using hf
    obtain ⟨o, ds, rfl, hX⟩ := lst_of_frz hd
    have hl : ds.length = X.length := by rw [← hX, frzs_map, List.length_map]
    have hlt := (List.getElem?_eq_some_iff.mp hn).1
    have hdn : ∃ e, ds[n]? = some e ∧ e.frz = y := by
      rw [← hX, frzs_map, List.getElem?_map] at hn
      cases q : ds[n]? with
      | none => rw [q] at hn; cases hn
      | some e => rw [q] at hn; exact ⟨e, rfl, Option.some.inj hn⟩
    obtain ⟨e, he, hy⟩ := hdn
    by_cases ef : e.fz = true
    · refine ⟨.lst o ds, hd, ?_⟩
      simp only [ixD, nameD_ow h hf', nameD_fz hk rfl, Option.bind_some, toF, D.frz, intOf, ixAt, h, seqOf, ixN_nat (hl ▸ hlt : n < ds.length), he, ef, if_true]
      rw [← hy, fz_frz e ef, set_self h]
    · refine ⟨.lst o (ds.set n e.frz), ?_, ?_⟩
      · show D.lst false (frzs (ds.set n e.frz)) = _
        rw [frzs_map, List.map_set, frz_fz_frz]
        rw [← frzs_map, hX]
        congr 1
        rw [hy]
        exact set_self hn
      · simp only [ixD, nameD_ow h hf', nameD_fz hk rfl, Option.bind_some, toF, D.frz, intOf, ixAt, h, seqOf, ixN_nat (hl ▸ hlt : n < ds.length), he]
        rw [if_neg ef, hy]
        rfl
where
  frz_fz_frz {e : D} : e.frz.frz = e.frz := fz_frz _ (frz_fz e)
theorem bin2_nt (h : env[i]? = some (some d)) (hd : d.frz = .lst false X) (hb : fb env = some (.t y, env)) (hg : g (.lst false X) y.frz = some z) : ∃ d', d'.frz = .lst false X ∧ bin2 g (nameD i) fb env = some (.t z, env.set i (some d')) := by
  by_cases hf : d.fz = true
  · have e : d.frz = d := fz_frz d hf
    refine ⟨d, hd, ?_⟩
    rw [set_self h]
    exact bin2_tt (nameD_fz h hf) hb (by rw [hd]; exact hg)
  · have hf' : d.fz = false := by simpa using hf
    obtain ⟨o, ds, rfl, hX⟩ := lst_of_frz hd
    refine ⟨.lst o X, by show D.lst false (frzs X) = _; rw [frzs_idem hX], ?_⟩
    have fy : y.frz.frz = y.frz := fz_frz _ (frz_fz y)
    simp only [bin2, opN, consA, nilA, nameD_ow h hf', hb, Option.bind_some, takeKs, takeK, h, D.kfz, hX, frzs, g2, D.frz, frzs_idem hX, fy, hg, backKs, backK, List.set_set]
theorem bin2_tn (ha : fa env = some (.t y, e1)) (h : e1[i]? = some (some d)) (hd : d.frz = .lst false X) (hg : g y.frz (.lst false X) = some z) : ∃ d', d'.frz = .lst false X ∧ bin2 g fa (nameD i) env = some (.t z, e1.set i (some d')) := by
  by_cases hf : d.fz = true
  · have e : d.frz = d := fz_frz d hf
    refine ⟨d, hd, ?_⟩
    rw [set_self h]
    exact bin2_tt ha (nameD_fz h hf) (by rw [hd]; exact hg)
  · have hf' : d.fz = false := by simpa using hf
    obtain ⟨o, ds, rfl, hX⟩ := lst_of_frz hd
    refine ⟨.lst o X, by show D.lst false (frzs X) = _; rw [frzs_idem hX], ?_⟩
    have fy : y.frz.frz = y.frz := fz_frz _ (frz_fz y)
    simp only [bin2, opN, consA, nilA, nameD_ow h hf', ha, Option.bind_some, takeKs, takeK, h, D.kfz, hX, frzs, g2, D.frz, frzs_idem hX, fy, hg, backKs, backK, List.set_set]
theorem cut_take {α : Type} {xs : List α} {n : Nat} (h : n ≤ xs.length) : cutL xs none (some (n : Int)) = xs.take n := by
  unfold cutL
  rw [HT.sIx_none, HT.sIx_nat]
  simp [Nat.min_eq_left h]
theorem cut_drop {α : Type} {xs : List α} {n : Nat} (h : n ≤ xs.length) : cutL xs (some (n : Int)) none = xs.drop n := by
  unfold cutL
  rw [HT.sIx_none, HT.sIx_nat, Nat.min_eq_left h]
  exact List.take_of_length_le (by simp)
theorem cut_mid {α : Type} {xs : List α} {n m : Nat} (h : n ≤ xs.length) (h2 : m ≤ xs.length) : cutL xs (some (n : Int)) (some (m : Int)) = (xs.drop n).take (m - n) := by
  unfold cutL
  rw [HT.sIx_nat, HT.sIx_nat, Nat.min_eq_left h, Nat.min_eq_left h2]
end
def oil (r : List Int) : D := .lst true (r.map .int)
theorem frzs_oil : ∀ R : List (List Int), frzs (R.map oil) = R.map il
  | [] => rfl
  | r :: R => by rw [List.map_cons, List.map_cons, frzs, frzs_oil R]; simp [oil, il, D.frz, frzs_int]
def ig (R : List (List Int)) : D := .lst false (R.map il)
theorem ig_fz (R : List (List Int)) : (ig R).fz = true := by simp [ig, D.fz, fzs_il]
theorem ig_frz (R : List (List Int)) : (ig R).frz = ig R := fz_frz _ (ig_fz R)
end Dx
namespace K12
open PySem PySem.Spec PyProof.Rows L2 Own Dx La
def rowL (w : Nat) (f : Nat → Int) : List Int := (List.range w).map f
theorem rowL_len (w : Nat) (f : Nat → Int) : (rowL w f).length = w := by unfold rowL; simp
theorem rowL_get {w j : Nat} {f : Nat → Int} (h : j < w) : (rowL w f)[j]? = some (f j) := by unfold rowL; simp [h]
theorem rowL_getD {w j : Nat} {f : Nat → Int} (h : j < w) : (rowL w f).getD j 0 = f j := by rw [List.getD_eq_getElem?_getD, rowL_get h]; rfl
theorem rowL_mem {w : Nat} {f : Nat → Int} {x : Int} (h : x ∈ rowL w f) : ∃ j, j < w ∧ x = f j := by
  unfold rowL at h
  obtain ⟨j, h1, h2⟩ := List.mem_map.mp h
  exact ⟨j, List.mem_range.mp h1, h2.symm⟩
theorem rowL_congr {w : Nat} {f g : Nat → Int} (h : ∀ j, j < w → f j = g j) : rowL w f = rowL w g := by
  unfold rowL
  exact List.map_congr_left fun j hj => h j (List.mem_range.mp hj)
theorem clr_rowL {w c : Nat} {f g : Nat → Int} {p : Int} (h : c < w) : clr (rowL w f) (rowL w g) c p = rowL w fun j => (g c * f j - f c * g j).fdiv p := by
  unfold clr
  rw [rowL_getD h, rowL_getD h]
  apply List.ext_getElem?
  intro i
  by_cases hi : i < w
  · rw [rowL_get hi, List.getElem?_zipWith_eq_some.mpr ⟨f i, g i, rowL_get hi, rowL_get hi, rfl⟩]
  · rw [List.getElem?_eq_none (by simp [rowL_len]; omega), List.getElem?_eq_none (by rw [rowL_len]; omega)]
/-- one turn of elimination, over rows of whole numbers: done rows, the first row of the rest that is not nought there -/
structure SmI (w : Nat) (R : List (List Int)) : Prop where
  len : ∀ r ∈ R, r.length = w
  sz : ∀ r ∈ R, ∀ x ∈ r, szI x ≤ 7000
  many : R.length ≤ 1000
theorem comp_clr {env : Dx.Env} {i : Nat} {G l w d x6 x8 x9 x11 : Option D} {p : Int} {c W : Nat} {piv : List Int} {R : List (List Int)} (sm : SmI W R) (hc : c < W) (hw : W ≤ 128) (hp : piv.length = W) (hps : ∀ x ∈ piv, szI x ≤ 7000) (p0 : p ≠ 0) (ps : szI p ≤ 7000)
    (he : env = [G, l, w, d, some (.int p), some (.int c), x6, some (il piv), x8, x9, none, x11]) (hi : env[i]? = some (some (ig R))) :
    compD [10] (seqI (pnOf [false] 0) (nameD i)) (nameG 10) yesT (callF [false, false, false, false] m_cleared (consA (nameD 10) (consA (nameD 5) (consA (nameD 7) (consA (nameD 4) nilA))))) env = some (.t (.lst true ((R.map fun r => clr r piv c p).map oil)), env) := by
  rw [List.map_map]
  refine comp_t (l := R) (f := il) (g := oil ∘ fun r => clr r piv c p) (e1 := env) (seqI_fz (o := false) (l := R.map il) hi (ig_fz R)) (by subst he; rfl) (fun r hr => ?_) (by subst he; rfl) (by have := sm.many; show _ ≤ 10000; omega)
  have hev := cleared_ev r piv c p (by rw [sm.len r hr]; exact hc) (by rw [hp]; exact hc) (by rw [sm.len r hr]; exact hw) p0 (by omega) (fun x hx => by have := sm.sz r hr x hx; omega) (fun x hx => by have := hps x hx; omega)
  subst he
  refine one_yes (e1 := [G, l, w, d, some (.int p), some (.int c), x6, some (il piv), x8, x9, some (il r), x11]) rfl (callF_ff rfl (as := [.t (il r), .t (.int c), .t (il piv), .t (.int p)]) (e1 := [G, l, w, d, some (.int p), some (.int c), x6, some (il piv), x8, x9, some (il r), x11]) (e2 := [G, l, w, d, some (.int p), some (.int c), x6, some (il piv), x8, x9, some (il r), x11]) ?_ ?_ hev) rfl
  · simp only [consA, nilA, nameD, List.getElem?_cons_zero, List.getElem?_cons_succ, il_fz, D.fz, if_true, Option.bind_some]
  · simp only [argsD, argD, Bool.false_eq_true, if_false, toF, il_frz, D.frz, Option.bind_some]
end K12

set_option Elab.async false
set_option linter.all false
set_option maxRecDepth 100000
set_option maxHeartbeats 4000000
set_option exponentiation.threshold 4000
namespace K12
open PySem PySem.Spec PyProof.Rows L2 Own Dx La
theorem piv_call {G wv x6 x7 x8 x9 : Option D} {l : D} {X : List (List Int)} {d c w : Nat} {p : Int} {r : D} (hl : l.frz = ig X) (h : EvF m_pivot_from [ig X, .int (d : Nat), .int (c : Nat)] r) (hr : r.ow = true) :
    setS 6 (pureD (callF [false, false, false] m_pivot_from (consA (nameD 1) (consA (nameD 3) (consA (nameD 5) nilA))))) [G, some l, wv, some (.int (d : Nat)), some (.int p), some (.int (c : Nat)), x6, x7, x8, x9, none, none] =
      some (.nx [G, some l, wv, some (.int (d : Nat)), some (.int p), some (.int (c : Nat)), some r, x7, x8, x9, none, none]) := by
  have f4 : frzE [G, some l, wv, some (.int (d : Nat)), some (.int p), some (.int (c : Nat)), x6, x7, x8, x9, none, none] = [G.map D.frz, some (ig X), wv.map D.frz, some (.int (d : Nat)), some (.int p), some (.int (c : Nat)), x6.map D.frz, x7.map D.frz, x8.map D.frz, x9.map D.frz, none, none] := by
    show [G.map D.frz, some l.frz, wv.map D.frz, some (.int (d : Nat)), some (.int p), some (.int (c : Nat)), x6.map D.frz, x7.map D.frz, x8.map D.frz, x9.map D.frz, none, none] = _
    rw [hl]
  refine setS_t (pureD_ev (e1 := [G.map D.frz, some (ig X), wv.map D.frz, some (.int (d : Nat)), some (.int p), some (.int (c : Nat)), x6.map D.frz, x7.map D.frz, x8.map D.frz, x9.map D.frz, none, none]) ?_ hr) (by simp)
  rw [f4]
  refine callF3 (nameD_fz rfl (ig_fz X)) (nameD_fz rfl rfl) (nameD_fz rfl rfl) ?_
  rw [ig_frz]
  exact h
theorem isnon_ev {r : D} {env : Dx.Env} (h : (frzE env)[6]? = some (some r)) (hf : r.fz = true) : pureT (valT (bin2 isD (nameD 6) (litD .non))) env = some (isNonD r, env) := by
  refine pureT_ev (valT_ev (bin2_tt (nameD_fz h hf) litD_ev ?_))
  rw [fz_frz r hf]
  rfl
theorem red_none {G wv x6 x7 x8 x9 : Option D} {l : D} {X : List (List Int)} {d c w : Nat} {p : Int} (hl : l.frz = ig X) (sm : SmI w X) (hc : c < w) (hd : d ≤ X.length) (hz : ∀ k, d ≤ k → k < X.length → (X.getD k []).getD c 0 = 0) :
    lb_reduced_4 [G, some l, wv, some (.int (d : Nat)), some (.int p), some (.int (c : Nat)), x6, x7, x8, x9, none, none] = some (.ct [G, some l, wv, some (.int (d : Nat)), some (.int p), some (.int (c : Nat)), some .non, x7, x8, x9, none, none]) := by
  have h := pivot_ev X d c hd (fun r hr => by rw [sm.len r hr]; exact hc) (by have := sm.many; omega)
  have e : (List.range' d (X.length - d)).find? (nz X c) = none := List.find?_range'_eq_none.mpr fun i h1 h2 => by
    unfold nz
    rw [hz i h1 (by omega)]
    rfl
  rw [e] at h
  have s1 := piv_call (G := G) (wv := wv) (x6 := x6) (x7 := x7) (x8 := x8) (x9 := x9) (w := w) (p := p) (r := .non) hl h rfl
  unfold lb_reduced_4
  rw [seqS_nx s1]
  unfold seqS
  rw [ifS_t (isnon_ev (r := .non) rfl rfl)]
  rfl
theorem red_some {G wv x6 x7 x8 x9 : Option D} {l : D} {A r1 r2 : List (List Int)} {piv : List Int} {c w : Nat} {p : Int} (hl : l.frz = ig (A ++ (r1 ++ piv :: r2))) (sm : SmI w (A ++ (r1 ++ piv :: r2))) (hc : c < w) (hw : w ≤ 128) (p0 : p ≠ 0) (ps : szI p ≤ 7000)
    (hz : ∀ r ∈ r1, r.getD c 0 = 0) (hp : piv.getD c 0 ≠ 0) :
    ∃ l' x6' x7' x8' x9', lb_reduced_4 [G, some l, wv, some (.int (A.length : Nat)), some (.int p), some (.int (c : Nat)), x6, x7, x8, x9, none, none] = some (.nx [G, some l', wv, some (.int ((A.length + 1 : Nat) : Int)), some (.int (piv.getD c 0)), some (.int (c : Nat)), x6', x7', x8', x9', none, none]) ∧
      l'.frz = ig ((A.map fun r => clr r piv c p) ++ (piv :: (r1 ++ r2).map fun r => clr r piv c p)) := by
  generalize hX : A ++ (r1 ++ piv :: r2) = X at hl sm
  have hlen : X.length = A.length + (r1.length + (r2.length + 1)) := by rw [← hX]; simp
  have gX : ∀ k, k < r1.length → X.getD (A.length + k) [] = r1.getD k [] := fun k hk => by
    rw [← hX, List.getD_eq_getElem?_getD, List.getD_eq_getElem?_getD, List.getElem?_append_right (by omega), List.getElem?_append_left (by omega)]
    congr 2
    omega
  have gP : X[A.length + r1.length]? = some piv := by
    rw [← hX, List.getElem?_append_right (by omega), List.getElem?_append_right (by omega)]
    have : A.length + r1.length - A.length - r1.length = 0 := by omega
    rw [this]
    rfl
  have h := pivot_ev X A.length c (by omega) (fun r hr => by rw [sm.len r hr]; exact hc) (by have := sm.many; omega)
  have e : (List.range' A.length (X.length - A.length)).find? (nz X c) = some (A.length + r1.length) := List.find?_range'_eq_some.mpr ⟨by
      unfold nz
      rw [show X.getD (A.length + r1.length) [] = piv by rw [List.getD_eq_getElem?_getD, gP]; rfl]
      exact bne_iff_ne.mpr hp, by rw [List.mem_range'_1]; omega, fun j h1 h2 => by
      obtain ⟨k, rfl⟩ : ∃ k, j = A.length + k := ⟨j - A.length, by omega⟩
      unfold nz
      rw [gX k (by omega), List.getD_eq_getElem?_getD (l := r1), List.getElem?_eq_getElem (by omega : k < r1.length)]
      show (! (r1[k].getD c 0 != 0)) = true
      rw [hz _ (List.getElem_mem _)]
      rfl⟩
  rw [e] at h
  have s1 := piv_call (G := G) (wv := wv) (x6 := x6) (x7 := x7) (x8 := x8) (x9 := x9) (w := w) (p := p) (r := .int ((A.length + r1.length : Nat) : Int)) hl h rfl
  generalize hat : A.length + r1.length = at_ at *
  have mp : piv ∈ X := by rw [← hX]; simp
  have lp := sm.len piv mp
  have sp := sm.sz piv mp
  -- pivot
  have hlX : l.frz = .lst false (X.map il) := hl
  obtain ⟨l1, hl1, s3⟩ := ix_n (env := [G, some l, wv, some (.int (A.length : Nat)), some (.int p), some (.int (c : Nat)), some (.int (at_ : Nat)), x7, x8, x9, none, none]) (i := 1) (j := 6) (n := at_) (d := l) rfl hlX rfl (show (X.map il)[at_]? = some (il piv) by rw [List.getElem?_map, gP]; rfl)
  have t3 := setS_t (i := 7) s3 (by simp)
  -- ahead, behind
  have hXl : (X.map il).length = X.length := List.length_map ..
  obtain ⟨l2, hl2, s4⟩ := slice_n (env := [G, some l1, wv, some (.int (A.length : Nat)), some (.int p), some (.int (c : Nat)), some (.int (at_ : Nat)), some (il piv), x8, x9, none, none]) (i := 1) (d := l1) (fl := noO) (fh := someO (nameD 3)) (lo := none) (hi := some (A.length : Nat)) rfl hl1 (fun e _ => rfl) (fun e he => someO_n (by rw [he 3 (by decide)]; rfl))
  obtain ⟨l3, hl3, s5⟩ := slice_n (env := [G, some l2, wv, some (.int (A.length : Nat)), some (.int p), some (.int (c : Nat)), some (.int (at_ : Nat)), some (il piv), x8, x9, none, none]) (i := 1) (d := l2) (fl := someO (nameD 3)) (fh := someO (nameD 6)) (lo := some (A.length : Nat)) (hi := some (at_ : Nat)) rfl hl2 (fun e he => someO_n (by rw [he 3 (by decide)]; rfl)) (fun e he => someO_n (by rw [he 6 (by decide)]; rfl))
  have plus : ∀ e : Dx.Env, e[6]? = some (some (.int (at_ : Nat))) → someO (bin2 addD (nameD 6) (litD (.int 1))) e = some (some ((at_ + 1 : Nat) : Int), e) := fun e he => by
    unfold someO
    rw [bin2_tt (nameD_fz he rfl) litD_ev (show addD (D.int (at_ : Nat)).frz (D.int 1).frz = some (.int ((at_ + 1 : Nat) : Int)) from rfl)]
    rfl
  obtain ⟨l4, hl4, s6⟩ := slice_n (env := [G, some l3, wv, some (.int (A.length : Nat)), some (.int p), some (.int (c : Nat)), some (.int (at_ : Nat)), some (il piv), x8, x9, none, none]) (i := 1) (d := l3) (fl := someO (bin2 addD (nameD 6) (litD (.int 1)))) (fh := noO) (lo := some ((at_ + 1 : Nat) : Int)) (hi := none) rfl hl3 (fun e he => plus e (by rw [he 6 (by decide)]; rfl)) (fun e he => rfl)
  rw [cut_take (by rw [hXl]; omega)] at s4
  rw [cut_mid (by rw [hXl]; omega) (by rw [hXl]; omega)] at s5
  rw [cut_drop (by rw [hXl]; omega)] at s6
  have c1 : (X.map il).take A.length = A.map il := by rw [← List.map_take, ← hX, List.take_left]
  have c2 : ((X.map il).drop A.length).take (at_ - A.length) = r1.map il := by
    rw [← List.map_drop, ← List.map_take, ← hX, List.drop_left, show at_ - A.length = r1.length by omega, List.take_left]
  have c3 : (X.map il).drop (at_ + 1) = r2.map il := by
    rw [← List.map_drop, ← hX, show at_ + 1 = (A ++ (r1 ++ [piv])).length by simp; omega, show A ++ (r1 ++ piv :: r2) = (A ++ (r1 ++ [piv])) ++ r2 by simp, List.drop_left]
  rw [c1] at s4
  rw [c2] at s5
  rw [c3] at s6
  have fil : ∀ Y : List (List Int), frzs (Y.map il) = Y.map il := fun Y => frzs_il Y
  have s7 := bin2_tt (g := addD) (z := .lst true ((r1 ++ r2).map il)) s5 s6 (by
    show addD (.lst false (frzs (r1.map il))) (.lst false (frzs (r2.map il))) = _
    rw [fil, fil, List.map_append]
    exact addD_ll (by have := sm.many; simp; omega))
  have t4 : parS2 8 9 (consA (sliceD (nameD 1) noO (someO (nameD 3))) (consA (bin2 addD (sliceD (nameD 1) (someO (nameD 3)) (someO (nameD 6))) (sliceD (nameD 1) (someO (bin2 addD (nameD 6) (litD (.int 1)))) noO)) nilA)) [G, some l1, wv, some (.int (A.length : Nat)), some (.int p), some (.int (c : Nat)), some (.int (at_ : Nat)), some (il piv), x8, x9, none, none]
      = some (.nx [G, some l4, wv, some (.int (A.length : Nat)), some (.int p), some (.int (c : Nat)), some (.int (at_ : Nat)), some (il piv), some (.lst true (A.map il)), some (.lst true ((r1 ++ r2).map il)), none, none]) := by
    unfold parS2
    simp only [consA, nilA, s4, Option.bind_some]
    rw [show ([G, some l1, wv, some (.int (A.length : Nat)), some (.int p), some (.int (c : Nat)), some (.int (at_ : Nat)), some (il piv), x8, x9, none, none] : Dx.Env).set 1 (some l2) = [G, some l2, wv, some (.int (A.length : Nat)), some (.int p), some (.int (c : Nat)), some (.int (at_ : Nat)), some (il piv), x8, x9, none, none] from rfl, s7]
    rfl
  -- cleared
  have smA : SmI w A := ⟨fun r hr => sm.len r (by rw [← hX]; simp [hr]), fun r hr => sm.sz r (by rw [← hX]; simp [hr]), by have := sm.many; omega⟩
  have smR : SmI w (r1 ++ r2) := ⟨fun r hr => sm.len r (by rw [← hX]; simp only [List.mem_append, List.mem_cons] at hr ⊢; rcases hr with h | h <;> simp [h]), fun r hr => sm.sz r (by rw [← hX]; simp only [List.mem_append, List.mem_cons] at hr ⊢; rcases hr with h | h <;> simp [h]), by have := sm.many; simp; omega⟩
  have fz4 : ∀ (a b : List (List Int)) (a' b' : D), a'.frz = ig a → b'.frz = ig b → frzE [G, some l4, wv, some (.int (A.length : Nat)), some (.int p), some (.int (c : Nat)), some (.int (at_ : Nat)), some (il piv), some a', some b', none, none] = [G.map D.frz, some (ig X), wv.map D.frz, some (.int (A.length : Nat)), some (.int p), some (.int (c : Nat)), some (.int (at_ : Nat)), some (il piv), some (ig a), some (ig b), none, none] := by
    intro a b a' b' ha hb
    show [G.map D.frz, some l4.frz, wv.map D.frz, some (.int (A.length : Nat)), some (.int p), some (.int (c : Nat)), some (.int (at_ : Nat)), some (il piv).frz, some a'.frz, some b'.frz, none, none] = _
    rw [ha, hb, hl4, il_frz]
    rfl
  have fo : ∀ Y : List (List Int), (D.lst true (Y.map il)).frz = ig Y := fun Y => by show D.lst false (frzs _) = _; rw [fil]; rfl
  have fo2 : ∀ Y : List (List Int), (D.lst true (Y.map oil)).frz = ig Y := fun Y => by show D.lst false (frzs _) = _; rw [frzs_oil]; rfl
  have oow : ∀ Y : List (List Int), (D.lst true (Y.map oil)).ow = true := fun Y => ow_lst_map oil (fun r => ow_lst_map D.int (fun _ => rfl) r) Y
  have s8 : setS 8 (pureD (compD [10] (seqI (pnOf [false] 0) (nameD 8)) (nameG 10) yesT ce_reduced_2)) [G, some l4, wv, some (.int (A.length : Nat)), some (.int p), some (.int (c : Nat)), some (.int (at_ : Nat)), some (il piv), some (.lst true (A.map il)), some (.lst true ((r1 ++ r2).map il)), none, none]
      = some (.nx [G, some l4, wv, some (.int (A.length : Nat)), some (.int p), some (.int (c : Nat)), some (.int (at_ : Nat)), some (il piv), some (.lst true ((A.map fun r => clr r piv c p).map oil)), some (.lst true ((r1 ++ r2).map il)), none, none]) := by
    refine setS_t (pureD_ev (e1 := [G.map D.frz, some (ig X), wv.map D.frz, some (.int (A.length : Nat)), some (.int p), some (.int (c : Nat)), some (.int (at_ : Nat)), some (il piv), some (ig A), some (ig (r1 ++ r2)), none, none]) ?_ (oow _)) (by simp)
    rw [fz4 A (r1 ++ r2) _ _ (fo _) (fo _)]
    exact comp_clr (i := 8) smA hc hw lp sp p0 ps rfl rfl
  have s9 : setS 9 (pureD (compD [10] (seqI (pnOf [false] 0) (nameD 9)) (nameG 10) yesT ce_reduced_3)) [G, some l4, wv, some (.int (A.length : Nat)), some (.int p), some (.int (c : Nat)), some (.int (at_ : Nat)), some (il piv), some (.lst true ((A.map fun r => clr r piv c p).map oil)), some (.lst true ((r1 ++ r2).map il)), none, none]
      = some (.nx [G, some l4, wv, some (.int (A.length : Nat)), some (.int p), some (.int (c : Nat)), some (.int (at_ : Nat)), some (il piv), some (.lst true ((A.map fun r => clr r piv c p).map oil)), some (.lst true (((r1 ++ r2).map fun r => clr r piv c p).map oil)), none, none]) := by
    refine setS_t (pureD_ev (e1 := [G.map D.frz, some (ig X), wv.map D.frz, some (.int (A.length : Nat)), some (.int p), some (.int (c : Nat)), some (.int (at_ : Nat)), some (il piv), some (ig (A.map fun r => clr r piv c p)), some (ig (r1 ++ r2)), none, none]) ?_ (oow _)) (by simp)
    rw [fz4 (A.map fun r => clr r piv c p) (r1 ++ r2) _ _ (fo2 _) (fo _)]
    exact comp_clr (i := 9) smR hc hw lp sp p0 ps rfl rfl
  -- put together
  generalize hA' : (A.map fun r => clr r piv c p) = A' at *
  generalize hR' : ((r1 ++ r2).map fun r => clr r piv c p) = R' at *
  have lA : A'.length = A.length := by rw [← hA', List.length_map]
  have lR : R'.length = r1.length + r2.length := by rw [← hR', List.length_map, List.length_append]
  obtain ⟨a2, ha2, s10⟩ := bin2_nt (g := addD) (env := [G, some l4, wv, some (.int (A.length : Nat)), some (.int p), some (.int (c : Nat)), some (.int (at_ : Nat)), some (il piv), some (.lst true (A'.map oil)), some (.lst true (R'.map oil)), none, none]) (i := 8) (d := .lst true (A'.map oil)) (fb := dispD false (consA (nameD 7) nilA)) (y := .lst true [il piv]) (z := .lst true ((A' ++ [piv]).map il)) rfl (fo2 A') (disp1 (t := false) (nameD_fz rfl (il_fz piv))) (by
    show addD (.lst false (A'.map il)) (.lst false (frzs [il piv])) = _
    rw [show frzs [il piv] = [piv].map il by rw [← fil [piv]]; rfl, List.map_append]
    exact addD_ll (by have := sm.many; simp; omega))
  obtain ⟨b2, hb2, s11⟩ := bin2_tn (g := addD) (fa := bin2 addD (nameD 8) (dispD false (consA (nameD 7) nilA))) (i := 9) (d := .lst true (R'.map oil)) (z := .lst true ((A' ++ [piv] ++ R').map il)) s10 rfl (fo2 R') (by
    show addD (.lst false (frzs ((A' ++ [piv]).map il))) (.lst false (R'.map il)) = _
    rw [fil, List.map_append (l₁ := A' ++ [piv])]
    exact addD_ll (by have := sm.many; simp; omega))
  have s12 := setS_t (i := 1) s11 (by simp)
  have hpc : piv[c]? = some (piv.getD c 0) := by
    rw [List.getD_eq_getElem?_getD, List.getElem?_eq_getElem (by omega)]
    rfl
  have s13 := setS_t (i := 4) (ix_nm (env := [G, some (.lst true ((A' ++ [piv] ++ R').map il)), wv, some (.int (A.length : Nat)), some (.int p), some (.int (c : Nat)), some (.int (at_ : Nat)), some (il piv), some a2, some b2, none, none]) (i := 7) (j := 5) (n := c) (o := false) (l := piv.map .int) (d := .int (piv.getD c 0)) rfl (il_fz piv) rfl (by rw [List.getElem?_map, hpc]; rfl)) (by simp)
  refine ⟨_, _, _, _, _, seqS_any s1 (seqS_any (ifS_no (isnon_ev (r := .int (at_ : Nat)) rfl rfl) rfl) (seqS_any t3 (seqS_any t4 (seqS_any s8 (seqS_any s9 (seqS_any s12 (seqS_any s13 rfl))))))), ?_⟩
  rw [fo]
  congr 1
  simp
end K12

set_option Elab.async false
set_option linter.all false
set_option maxRecDepth 100000
set_option maxHeartbeats 4000000
set_option exponentiation.threshold 4000
namespace K12
open PySem PySem.Spec PyProof.Rows L2 Own Dx La
structure Rst (M : Nat → Nat → Int) (m : Nat) (s : La.St) (rest : List Nat) : Prop where
  sub : rest.Sublist (List.range m)
  used : ∀ i, i < m → i ∉ rest → ∃ b, b < s.d ∧ s.pv b = i
def stX (M : Nat → Nat → Int) (w : Nat) (s : La.St) (rest : List Nat) : List (List Int) := ((List.range s.d).map fun a => rowL w (s.A a)) ++ rest.map fun i => rowL w (Bs M s i)
theorem rest_split {p : Nat → Prop} [DecidablePred p] : ∀ rest : List Nat, (∀ i ∈ rest, p i) ∨ ∃ r1 i r2, rest = r1 ++ i :: r2 ∧ ¬ p i ∧ ∀ k ∈ r1, p k
  | [] => .inl fun i h => by cases h
  | i :: rest => by
    by_cases h : p i
    · rcases rest_split (p := p) rest with q | ⟨r1, j, r2, e, h1, h2⟩
      · exact .inl fun k hk => (List.mem_cons.mp hk).elim (fun z => z ▸ h) (q k)
      · exact .inr ⟨i :: r1, j, r2, by rw [e]; rfl, h1, fun k hk => (List.mem_cons.mp hk).elim (fun z => z ▸ h) (h2 k)⟩
    · exact .inr ⟨[], i, rest, rfl, h, fun k hk => by cases hk⟩
/-- numbers that are not too great -/
structure Sml2 (M : Nat → Nat → Int) (s : La.St) : Prop where
  p : s.p.natAbs < 2 ^ 700
  B : ∀ i j, (Bs M s i j).natAbs < 2 ^ 700
  A : ∀ a j, a < s.d → (s.A a j).natAbs < 2 ^ 700
theorem sml2_of {M : Nat → Nat → Int} {s : La.St} (hM : ∀ i j, (M i j).natAbs ≤ 2 ^ 70) (b : Bd (2 ^ 70) s) (hd : s.d ≤ 6) : Sml2 M s := by
  have f := fact_le hd
  have pw : ∀ e, e ≤ 8 → (2 ^ 70) ^ e ≤ 2 ^ 560 := fun e he => by
    rw [← Nat.pow_mul]
    exact Nat.pow_le_pow_right (by decide) (by omega)
  have g : ∀ e, e ≤ 8 → fact s.d * (2 ^ 70) ^ e ≤ 2 ^ 570 := fun e he => by
    have := Nat.mul_le_mul f (pw e he)
    refine Nat.le_trans this ?_
    decide
  refine ⟨?_, fun i j => ?_, fun a j ha => ?_⟩
  · exact Nat.lt_of_le_of_lt (Nat.le_trans b.p (g _ (by omega))) (by decide)
  · have h1 := bd_B (by decide) hM b i j
    have h2 : (1 + s.d * s.d) * (fact s.d * (2 ^ 70) ^ (s.d + 2)) ≤ 37 * 2 ^ 570 := by
      refine Nat.mul_le_mul ?_ (g _ (by omega))
      have := Nat.mul_le_mul hd hd
      omega
    exact Nat.lt_of_le_of_lt (Nat.le_trans h1 h2) (by decide)
  · have h1 := b.A a j ha
    have h2 : s.d * (fact s.d * (2 ^ 70) ^ (s.d + 1)) ≤ 6 * 2 ^ 570 := Nat.mul_le_mul hd (g _ (by omega))
    exact Nat.lt_of_le_of_lt (Nat.le_trans h1 h2) (by decide)
theorem sz_state2 {R : List (List Rat)} {w c : Nat} (h : RowsE 70 60 R w) (hc : c ≤ w) : Sml2 (Mof R) (La.run (Mof R) R.length c) := by
  have k := at_run (Mof R) R.length c
  exact sml2_of h.M (bd_run (by decide) h.M c) (by have := k.d_le; have := h.w; omega)
theorem szI_of {x : Int} (h : x.natAbs < 2 ^ 700) : szI x ≤ 7000 := by have := szI_lt h; omega
theorem smX {M : Nat → Nat → Int} {w m : Nat} {s : La.St} {rest : List Nat} (z : Sml2 M s) (hd : s.d ≤ 6) (hm : m ≤ 12) (r : Rst M m s rest) : SmI w (stX M w s rest) := by
  refine ⟨fun x hx => ?_, fun x hx y hy => ?_, ?_⟩
  · rcases List.mem_append.mp hx with h | h <;> obtain ⟨i, _, rfl⟩ := List.mem_map.mp h <;> exact rowL_len _ _
  · rcases List.mem_append.mp hx with h | h <;> obtain ⟨i, hi, rfl⟩ := List.mem_map.mp h <;> obtain ⟨j, _, rfl⟩ := rowL_mem hy
    · exact szI_of (z.A i j (List.mem_range.mp hi))
    · exact szI_of (z.B i j)
  · have := r.sub.length_le
    unfold stX
    simp only [List.length_append, List.length_map, List.length_range] at this ⊢
    omega
theorem red_turn {R : List (List Rat)} {w c : Nat} {G wv o5 o6 o7 o8 o9 : Option D} {l : D} {rest : List Nat} (h : RowsE 70 60 R w) (hc : c < w) (hr : Rst (Mof R) R.length (La.run (Mof R) R.length c) rest) (hl : l.frz = ig (stX (Mof R) w (La.run (Mof R) R.length c) rest)) :
    ∃ l' rest' o6' o7' o8' o9', (lb_reduced_4 [G, some l, wv, some (.int ((La.run (Mof R) R.length c).d : Nat)), some (.int (La.run (Mof R) R.length c).p), some (.int (c : Nat)), o6, o7, o8, o9, none, none] = some (.nx [G, some l', wv, some (.int ((La.run (Mof R) R.length (c + 1)).d : Nat)), some (.int (La.run (Mof R) R.length (c + 1)).p), some (.int (c : Nat)), o6', o7', o8', o9', none, none]) ∨
        lb_reduced_4 [G, some l, wv, some (.int ((La.run (Mof R) R.length c).d : Nat)), some (.int (La.run (Mof R) R.length c).p), some (.int (c : Nat)), o6, o7, o8, o9, none, none] = some (.ct [G, some l', wv, some (.int ((La.run (Mof R) R.length (c + 1)).d : Nat)), some (.int (La.run (Mof R) R.length (c + 1)).p), some (.int (c : Nat)), o6', o7', o8', o9', none, none])) ∧
      Rst (Mof R) R.length (La.run (Mof R) R.length (c + 1)) rest' ∧ l'.frz = ig (stX (Mof R) w (La.run (Mof R) R.length (c + 1)) rest') := by
  have k := at_run (Mof R) R.length c
  have z := sz_state2 h (Nat.le_of_lt hc)
  have hd6 : (La.run (Mof R) R.length c).d ≤ 6 := by have := k.d_le; have := h.w; omega
  have hw := h.w
  show ∃ l' rest' o6' o7' o8' o9', (lb_reduced_4 [G, some l, wv, some (.int ((La.run (Mof R) R.length c).d : Nat)), some (.int (La.run (Mof R) R.length c).p), some (.int (c : Nat)), o6, o7, o8, o9, none, none] = some (.nx [G, some l', wv, some (.int ((turn (Mof R) R.length (La.run (Mof R) R.length c) c).d : Nat)), some (.int (turn (Mof R) R.length (La.run (Mof R) R.length c) c).p), some (.int (c : Nat)), o6', o7', o8', o9', none, none]) ∨
        lb_reduced_4 [G, some l, wv, some (.int ((La.run (Mof R) R.length c).d : Nat)), some (.int (La.run (Mof R) R.length c).p), some (.int (c : Nat)), o6, o7, o8, o9, none, none] = some (.ct [G, some l', wv, some (.int ((turn (Mof R) R.length (La.run (Mof R) R.length c) c).d : Nat)), some (.int (turn (Mof R) R.length (La.run (Mof R) R.length c) c).p), some (.int (c : Nat)), o6', o7', o8', o9', none, none])) ∧
      Rst (Mof R) R.length (turn (Mof R) R.length (La.run (Mof R) R.length c) c) rest' ∧ l'.frz = ig (stX (Mof R) w (turn (Mof R) R.length (La.run (Mof R) R.length c) c) rest')
  have sm := smX (w := w) z hd6 h.many hr
  generalize hs : La.run (Mof R) R.length c = s at *
  have inR : ∀ i ∈ rest, i < R.length := fun i hi => List.mem_range.mp (hr.sub.subset hi)
  rcases rest_split (p := fun i => Bs (Mof R) s i c = 0) rest with q | ⟨r1, i, r2, e, h1, h2⟩
  · have f0 : fst (Mof R) s c R.length = none := fst_no fun i hi => by
      by_cases hm : i ∈ rest
      · exact q i hm
      · obtain ⟨b, hb, rfl⟩ := hr.used i hi hm
        exact k.used b c hb
    unfold turn
    rw [f0]
    refine ⟨_, rest, _, _, _, _, .inr (red_none hl sm hc ?_ fun n hn hn2 => ?_), hr, hl⟩
    · unfold stX
      simp
    · unfold stX at hn2 ⊢
      simp only [List.length_append, List.length_map, List.length_range] at hn2
      rw [List.getD_eq_getElem?_getD (l := _ ++ _), List.getElem?_append_right (by simp; omega)]
      simp only [List.length_map, List.length_range]
      have hlt : n - s.d < rest.length := by omega
      rw [List.getElem?_map, List.getElem?_eq_getElem hlt]
      show (rowL w (Bs (Mof R) s rest[n - s.d])).getD c 0 = 0
      rw [rowL_getD hc]
      exact q _ (List.getElem_mem _)
  · have hi : i < R.length := inR i (by rw [e]; simp)
    have pw : rest.Pairwise (· < ·) := List.pairwise_lt_range.sublist hr.sub
    have f1 : fst (Mof R) s c R.length = some i := fst_find hi h1 fun n hn => by
      by_cases hm : n ∈ rest
      · rw [e] at hm pw
        rcases List.mem_append.mp hm with g | g
        · exact h2 n g
        · exfalso
          rcases List.mem_cons.mp g with g | g
          · omega
          · have := (List.pairwise_append.mp pw).2.1
            have := (List.pairwise_cons.mp this).1 n g
            omega
      · obtain ⟨b, hb, rfl⟩ := hr.used n (by omega) hm
        exact k.used b c hb
    unfold turn
    rw [f1]
    have eX : stX (Mof R) w s rest = ((List.range s.d).map fun a => rowL w (s.A a)) ++ ((r1.map fun i => rowL w (Bs (Mof R) s i)) ++ rowL w (Bs (Mof R) s i) :: (r2.map fun i => rowL w (Bs (Mof R) s i))) := by
      unfold stX
      rw [e, List.map_append, List.map_cons]
    rw [eX] at hl sm
    obtain ⟨l', x6', x7', x8', x9', ev, fl⟩ := red_some (G := G) (wv := wv) (x6 := o6) (x7 := o7) (x8 := o8) (x9 := o9) hl sm hc (by omega) k.ok.p0 (szI_of z.p) (fun r hr' => by
      obtain ⟨n, hn, rfl⟩ := List.mem_map.mp hr'
      rw [rowL_getD hc]
      exact h2 n hn) (by rw [rowL_getD hc]; exact h1)
    rw [rowL_getD hc] at ev
    simp only [List.length_map, List.length_range] at ev
    refine ⟨l', r1 ++ r2, x6', x7', x8', x9', .inl ev, ⟨?_, fun n hn hm => ?_⟩, ?_⟩
    · refine List.Sublist.trans ?_ hr.sub
      rw [e]
      exact List.Sublist.append (List.Sublist.refl _) (List.sublist_cons_self _ _)
    · show ∃ b, b < s.d + 1 ∧ put s.pv s.d i b = n
      by_cases g : n ∈ rest
      · rw [e] at g
        have : n = i := by
          rcases List.mem_append.mp g with g | g
          · exact absurd (List.mem_append_left _ g) hm
          · rcases List.mem_cons.mp g with g | g
            · exact g
            · exact absurd (List.mem_append_right _ g) hm
        subst this
        exact ⟨s.d, by omega, put_same⟩
      · obtain ⟨b, hb, e2⟩ := hr.used n hn g
        exact ⟨b, by omega, by rw [put_ne (by omega)]; exact e2⟩
    · rw [fl]
      congr 1
      show _ = ((List.range (s.d + 1)).map fun a => rowL w ((next (Mof R) s i c).A a)) ++ (r1 ++ r2).map fun k => rowL w (Bs (Mof R) (next (Mof R) s i c) k)
      have eR : ((List.range (s.d + 1)).map fun a => rowL w ((next (Mof R) s i c).A a)) = ((List.range s.d).map fun a => rowL w ((next (Mof R) s i c).A a)) ++ [rowL w ((next (Mof R) s i c).A s.d)] := by
        rw [List.range_succ, List.map_append]
        rfl
      rw [eR, List.append_assoc]
      congr 1
      · rw [List.map_map]
        refine List.map_congr_left fun a ha => ?_
        have ha' := List.mem_range.mp ha
        show clr (rowL w (s.A a)) (rowL w (Bs (Mof R) s i)) c s.p = _
        rw [clr_rowL hc]
        refine rowL_congr fun j _ => ?_
        show _ = (if a = s.d then Bs (Mof R) s i j else (Bs (Mof R) s i c * s.A a j - s.A a c * Bs (Mof R) s i j).fdiv s.p)
        rw [if_neg (by omega)]
      · rw [List.singleton_append]
        congr 1
        · refine rowL_congr fun j _ => ?_
          exact (if_pos rfl : (next (Mof R) s i c).A s.d j = _).symm
        · rw [← List.map_append, List.map_map]
          refine List.map_congr_left fun n _ => ?_
          show clr (rowL w (Bs (Mof R) s n)) (rowL w (Bs (Mof R) s i)) c s.p = _
          rw [clr_rowL hc]
          refine rowL_congr fun j _ => ?_
          rw [← next_B k.ok h1 n j, Int.mul_fdiv_cancel_left _ k.ok.p0]
theorem red_loop {R : List (List Rat)} {w : Nat} {G wv : Option D} (h : RowsE 70 60 R w) : ∀ (n c : Nat) (l : D) (rest : List Nat) (o5 o6 o7 o8 o9 : Option D), c + n = w → Rst (Mof R) R.length (La.run (Mof R) R.length c) rest → l.frz = ig (stX (Mof R) w (La.run (Mof R) R.length c) rest) →
    ∃ l' rest' o5' o6' o7' o8' o9', forL (nameG 5) lb_reduced_4 (rangeL (c : Nat) n) [G, some l, wv, some (.int ((La.run (Mof R) R.length c).d : Nat)), some (.int (La.run (Mof R) R.length c).p), o5, o6, o7, o8, o9, none, none]
      = some (.nx [G, some l', wv, some (.int ((La.run (Mof R) R.length w).d : Nat)), some (.int (La.run (Mof R) R.length w).p), o5', o6', o7', o8', o9', none, none]) ∧ l'.frz = ig (stX (Mof R) w (La.run (Mof R) R.length w) rest') ∧ Rst (Mof R) R.length (La.run (Mof R) R.length w) rest' := by
  intro n
  induction n with
  | zero =>
    intro c l rest o5 o6 o7 o8 o9 hc hr hl
    have : c = w := by omega
    subst this
    exact ⟨_, _, _, _, _, _, _, rfl, hl, hr⟩
  | succ n ih =>
    intro c l rest o5 o6 o7 o8 o9 hc hr hl
    have e : rangeL (c : Nat) (n + 1) = D.int (c : Nat) :: rangeL ((c + 1 : Nat) : Int) n := by
      unfold rangeL
      rw [List.range_succ_eq_map, List.map_cons, List.map_map]
      refine List.cons_eq_cons.mpr ⟨by simp, List.map_congr_left fun i _ => ?_⟩
      show D.int _ = D.int _
      congr 1
      simp only [Nat.succ_eq_add_one]
      omega
    obtain ⟨l', rest', o6', o7', o8', o9', h1, h2, h3⟩ := red_turn (G := G) (wv := wv) (o5 := o5) (o6 := o6) (o7 := o7) (o8 := o8) (o9 := o9) h (by omega) hr hl
    obtain ⟨l2, rest2, p5, p6, p7, p8, p9, g1, g2⟩ := ih (c + 1) l' rest' (some (.int (c : Nat))) o6' o7' o8' o9' (by omega) h2 h3
    refine ⟨l2, rest2, p5, p6, p7, p8, p9, ?_, g2⟩
    rw [e, forL]
    have tg : nameG 5 (.int (c : Nat)) [G, some l, wv, some (.int ((La.run (Mof R) R.length c).d : Nat)), some (.int (La.run (Mof R) R.length c).p), o5, o6, o7, o8, o9, none, none] = some [G, some l, wv, some (.int ((La.run (Mof R) R.length c).d : Nat)), some (.int (La.run (Mof R) R.length c).p), some (.int (c : Nat)), o6, o7, o8, o9, none, none] := rfl
    rw [tg, Option.bind_some]
    rcases h1 with h1 | h1
    · rw [h1, Option.bind_some]
      exact g1
    · rw [h1, Option.bind_some]
      exact g1
end K12

set_option Elab.async false
set_option linter.all false
set_option maxRecDepth 100000
set_option maxHeartbeats 4000000
set_option exponentiation.threshold 4000
namespace Dx
open PySem PySem.Spec PyProof.Rows L2 Own
/-- rows of Ratios, told new -/
def orl (r : List Rat) : D := .lst true (r.map .rat)
theorem frzs_orl : ∀ R : List (List Rat), frzs (R.map orl) = R.map rl
  | [] => rfl
  | r :: R => by rw [List.map_cons, List.map_cons, frzs, frzs_orl R]; simp [orl, rl, D.frz, frzs_rat]
theorem orl_ow (r : List Rat) : (orl r).ow = true := ow_lst_map D.rat (fun _ => rfl) r
end Dx
namespace K12
open PySem PySem.Spec PyProof.Rows L2 Own Dx La
theorem wb_row {R : List (List Rat)} {w i : Nat} (h : RowsE 70 60 R w) (hi : i < R.length) : wbI (R.getD i []) = rowL w (Bs (Mof R) s0 i) := by
  have e : R.getD i [] = R[i] := by rw [List.getD_eq_getElem?_getD, List.getElem?_eq_getElem hi]; rfl
  have hr := h.len _ (List.getElem_mem hi)
  have l1 : (wbI (R.getD i [])).length = w := by unfold wbI; rw [List.length_map, e, hr]
  apply List.ext_getElem?
  intro j
  by_cases hj : j < w
  · rw [rowL_get hj, List.getElem?_eq_getElem (by omega)]
    congr 1
    have : Bs (Mof R) s0 i j = Mof R i j := by
      show 1 * Mof R i j - 0 = _
      omega
    rw [this]
    unfold Mof
    rw [List.getD_eq_getElem?_getD (l := wbI _), List.getElem?_eq_getElem (by omega)]
    rfl
  · rw [List.getElem?_eq_none (by omega), List.getElem?_eq_none (by rw [rowL_len]; omega)]
theorem num_M {R : List (List Rat)} {w : Nat} (h : RowsE 70 60 R w) {r : List Rat} (hr : r ∈ R) {q : Rat} (hq : q ∈ r) : q.num.natAbs ≤ 2 ^ 70 := by
  obtain ⟨i, hi, rfl⟩ := List.mem_iff_getElem.mp hr
  obtain ⟨j, hj, rfl⟩ := List.mem_iff_getElem.mp hq
  have hM := h.M i j
  have e : R.getD i [] = R[i] := by rw [List.getD_eq_getElem?_getD, List.getElem?_eq_getElem hi]; rfl
  have e1 : Mof R i j = (R[i][j]).num * ((lcmF 1 R[i] : Nat) : Int).fdiv (R[i][j]).den := by
    unfold Mof wbI
    rw [e, List.getD_eq_getElem?_getD, List.getElem?_map, List.getElem?_eq_getElem hj]
    rfl
  obtain ⟨t, ht⟩ := lcmF_den R[i] 1 R[i][j] (List.getElem_mem hj)
  have hL := lcmF_pos R[i] 1 (by decide)
  have hd := Nat.pos_of_ne_zero (R[i][j]).den_nz
  have t0 : 0 < t := by
    rcases Nat.eq_zero_or_pos t with z | z
    · rw [z, Nat.mul_zero] at ht; omega
    · exact z
  rw [e1, fdiv_nat, ht, Nat.mul_div_cancel_left _ hd, Int.natAbs_mul, Int.natAbs_natCast] at hM
  exact Nat.le_trans (Nat.le_mul_of_pos_right _ t0) hM
theorem reduced_ev {R : List (List Rat)} {w : Nat} (h : RowsE 70 60 R w) (hw : R = [] → w = 0) : EvF m_reduced [rg R] (.lst true ((stepsL R w).map orl)) := by
  have w6 := h.w
  have m12 := h.many
  have frl : ∀ Y : List (List Rat), frzs (Y.map rl) = Y.map rl := fun Y => frzs_rl Y
  -- left
  have s1 : setS 1 (pureD (compD [10] (seqI (pnOf [false] 0) (nameD 0)) (nameG 10) yesT ce_reduced_1)) ([rg R].map some ++ List.replicate (12 - 1) none) = some (.nx [some (rg R), some (.lst true ((R.map wbI).map oil)), none, none, none, none, none, none, none, none, none, none]) := by
    show setS 1 _ [some (rg R), none, none, none, none, none, none, none, none, none, none, none] = _
    refine setS_t (pureD_ev (e1 := [some (rg R), none, none, none, none, none, none, none, none, none, none, none]) ?_ (ow_lst_map oil (fun r => ow_lst_map D.int (fun _ => rfl) r) _)) (by simp)
    have f4 : frzE [some (rg R), none, none, none, none, none, none, none, none, none, none, none] = [some (rg R), none, none, none, none, none, none, none, none, none, none, none] := by
      show [some (rg R).frz, none, none, none, none, none, none, none, none, none, none, none] = _
      rw [rg_frz]
    rw [f4, List.map_map]
    refine comp_t (l := R) (f := rl) (g := oil ∘ wbI) (e1 := [some (rg R), none, none, none, none, none, none, none, none, none, none, none]) (seqI_fz (o := false) (l := R.map rl) rfl (rg_fz R)) rfl (fun r hr => one_yes (nameG_ev (by simp)) (callF1 (nameD_fz rfl (rl_fz r)) ?_) rfl) rfl (by show _ ≤ 10000; omega)
    rw [rl_frz]
    obtain ⟨i, hi, rfl⟩ := List.mem_iff_getElem.mp hr
    have hl := h.len _ hr
    refine wb_ev _ (by omega) ?_ fun q hq => ?_
    · have hc := h.c i
      unfold cof at hc
      rw [List.getD_eq_getElem?_getD, List.getElem?_eq_getElem hi] at hc
      exact Nat.lt_of_le_of_lt hc (by decide)
    · have := num_M h hr hq
      have := szI_lt (i := q.num) (k := 71) (Nat.lt_of_le_of_lt this (by decide))
      omega
  have eX : R.map wbI = stX (Mof R) w s0 (List.range R.length) := by
    unfold stX
    show _ = [] ++ _
    rw [List.nil_append]
    apply List.ext_getElem?
    intro i
    by_cases hi : i < R.length
    · rw [List.getElem?_map, List.getElem?_map, List.getElem?_range hi, List.getElem?_eq_getElem hi]
      show some (wbI R[i]) = some (rowL w (Bs (Mof R) s0 i))
      rw [← wb_row h hi, List.getD_eq_getElem?_getD, List.getElem?_eq_getElem hi]
      rfl
    · rw [List.getElem?_eq_none (by simp; omega), List.getElem?_eq_none (by simp; omega)]
  generalize hX0 : R.map wbI = X0 at *
  have lX : X0.length = R.length := by rw [← hX0, List.length_map]
  have fo2 : (D.lst true (X0.map oil)).frz = ig X0 := by show D.lst false (frzs _) = _; rw [frzs_oil]; rfl
  have f5 : frzE [some (rg R), some (.lst true (X0.map oil)), none, none, none, none, none, none, none, none, none, none] = [some (rg R), some (ig X0), none, none, none, none, none, none, none, none, none, none] := by
    show [some (rg R).frz, some (D.lst true (X0.map oil)).frz, none, none, none, none, none, none, none, none, none, none] = _
    rw [rg_frz, fo2]
  -- wide
  have t2 : pureT (truT (nameD 1)) [some (rg R), some (.lst true (X0.map oil)), none, none, none, none, none, none, none, none, none, none] = some (!(X0.map il).isEmpty, [some (rg R), some (.lst true (X0.map oil)), none, none, none, none, none, none, none, none, none, none]) := by
    refine pureT_ev (e1 := [some (rg R), some (ig X0), none, none, none, none, none, none, none, none, none, none]) ?_
    rw [f5]
    unfold truT
    rw [nameD_fz rfl (ig_fz X0), Option.bind_some]
    dsimp only [takeK]
    rw [ig_frz]
    rfl
  have s2 : setS 2 (ifD (pureT (truT (nameD 1))) (pureD (opN lenD (consA (ixD (nameD 1) (litD (.int 0))) nilA))) (litD (.int 0))) [some (rg R), some (.lst true (X0.map oil)), none, none, none, none, none, none, none, none, none, none] = some (.nx [some (rg R), some (.lst true (X0.map oil)), some (.int (w : Nat)), none, none, none, none, none, none, none, none, none]) := by
    refine setS_t (e1 := [some (rg R), some (.lst true (X0.map oil)), none, none, none, none, none, none, none, none, none, none]) ?_ (by simp)
    unfold ifD
    rw [t2, Option.bind_some]
    cases hx : X0 with
    | nil =>
      have : R = [] := by
        rw [hx] at lX
        exact List.length_eq_zero_iff.mp lX.symm
      have := hw this
      subst this
      rfl
    | cons x X =>
      rw [if_pos (show (!(List.map il (x :: X)).isEmpty) = true from rfl)]
      refine pureD_ev (e1 := [some (rg R), some (ig (x :: X)), none, none, none, none, none, none, none, none, none, none]) ?_ rfl
      rw [← hx, f5, hx]
      refine opN1_t (x := il x) (ix_lit (n := 0) (o := false) (l := (x :: X).map il) rfl (ig_fz (x :: X)) rfl) ?_
      rw [il_frz]
      show some (D.int ((x.map D.int).length : Nat)) = _
      rw [List.length_map]
      have : x.length = w := by
        have hm : x ∈ R.map wbI := by rw [hX0, hx]; exact List.mem_cons_self
        obtain ⟨r, hr, rfl⟩ := List.mem_map.mp hm
        unfold wbI
        rw [List.length_map, h.len r hr]
      rw [this]
  have s3 : asgS (dispD true (consA (litD (.int 0)) (consA (litD (.int 1)) nilA))) (tupG 2 (consG (nameG 3) (consG (nameG 4) nilG))) [some (rg R), some (.lst true (X0.map oil)), some (.int (w : Nat)), none, none, none, none, none, none, none, none, none] = some (.nx [some (rg R), some (.lst true (X0.map oil)), some (.int (w : Nat)), some (.int 0), some (.int 1), none, none, none, none, none, none, none]) := rfl
  have i4 : range1I (consA (nameD 2) nilA) [some (rg R), some (.lst true (X0.map oil)), some (.int (w : Nat)), some (.int 0), some (.int 1), none, none, none, none, none, none, none] = some ⟨rangeL 0 w, [some (rg R), some (.lst true (X0.map oil)), some (.int (w : Nat)), some (.int 0), some (.int 1), none, none, none, none, none, none, none], []⟩ :=
    range1I_ev (i := (w : Nat)) (by simp only [consA, nilA, nameD_fz (env := [some (rg R), some (.lst true (X0.map oil)), some (.int (w : Nat)), some (.int 0), some (.int 1), none, none, none, none, none, none, none]) (i := 2) (d := .int (w : Nat)) rfl rfl, Option.bind_some]) (bnd_nat (by omega))
  have r0 : Rst (Mof R) R.length s0 (List.range R.length) := ⟨List.Sublist.refl _, fun i hi hn => absurd (List.mem_range.mpr hi) hn⟩
  obtain ⟨l', rest', o5, o6, o7, o8, o9, lp, fl, rr⟩ := red_loop (G := some (rg R)) (wv := some (.int (w : Nat))) h w 0 (.lst true (X0.map oil)) (List.range R.length) none none none none none (by omega) r0 (by
    rw [fo2, eX]
    rfl)
  have k := at_run (Mof R) R.length w
  have z := sz_state2 h (Nat.le_refl w)
  have dl := k.d_le
  unfold stepsL gridF
  generalize hs : La.run (Mof R) R.length w = s at *
  -- the answer
  have f6 : frzE [some (rg R), some l', some (.int (w : Nat)), some (.int (s.d : Nat)), some (.int s.p), o5, o6, o7, o8, o9, none, none] = [some (rg R), some (ig (stX (Mof R) w s rest')), some (.int (w : Nat)), some (.int (s.d : Nat)), some (.int s.p), o5.map D.frz, o6.map D.frz, o7.map D.frz, o8.map D.frz, o9.map D.frz, none, none] := by
    show [some (rg R).frz, some l'.frz, some (.int (w : Nat)), some (.int (s.d : Nat)), some (.int s.p), o5.map D.frz, o6.map D.frz, o7.map D.frz, o8.map D.frz, o9.map D.frz, none, none] = _
    rw [rg_frz, fl]
  have s5 : retS (pureD (compD [10] (seqI (pnOf [false] 0) (sliceD (nameD 1) noO (someO (nameD 3)))) (nameG 10) yesT ce_reduced_6)) [some (rg R), some l', some (.int (w : Nat)), some (.int (s.d : Nat)), some (.int s.p), o5, o6, o7, o8, o9, none, none] = some (.rt (.lst true (((List.range s.d).map fun a => rowQ w (stepsOf s a)).map orl)) [some (rg R), some l', some (.int (w : Nat)), some (.int (s.d : Nat)), some (.int s.p), o5, o6, o7, o8, o9, none, none]) := by
    refine retS_t (pureD_ev (e1 := [some (rg R), some (ig (stX (Mof R) w s rest')), some (.int (w : Nat)), some (.int (s.d : Nat)), some (.int s.p), o5.map D.frz, o6.map D.frz, o7.map D.frz, o8.map D.frz, o9.map D.frz, none, none]) ?_ (ow_lst_map orl orl_ow _))
    rw [f6, List.map_map]
    refine comp_t (l := List.range s.d) (f := fun a => il (rowL w (s.A a))) (g := orl ∘ fun a => rowQ w (stepsOf s a)) (e1 := [some (rg R), some (ig (stX (Mof R) w s rest')), some (.int (w : Nat)), some (.int (s.d : Nat)), some (.int s.p), o5.map D.frz, o6.map D.frz, o7.map D.frz, o8.map D.frz, o9.map D.frz, none, none]) ?_ rfl (fun a ha => ?_) rfl (by rw [List.length_range]; show _ ≤ 10000; omega)
    · have sl : sliceD (nameD 1) noO (someO (nameD 3)) [some (rg R), some (ig (stX (Mof R) w s rest')), some (.int (w : Nat)), some (.int (s.d : Nat)), some (.int s.p), o5.map D.frz, o6.map D.frz, o7.map D.frz, o8.map D.frz, o9.map D.frz, none, none] = some (.t (.lst true (((List.range s.d).map fun a => rowL w (s.A a)).map il)), [some (rg R), some (ig (stX (Mof R) w s rest')), some (.int (w : Nat)), some (.int (s.d : Nat)), some (.int s.p), o5.map D.frz, o6.map D.frz, o7.map D.frz, o8.map D.frz, o9.map D.frz, none, none]) := by
        obtain ⟨d', hd', q⟩ := slice_n (env := [some (rg R), some (ig (stX (Mof R) w s rest')), some (.int (w : Nat)), some (.int (s.d : Nat)), some (.int s.p), o5.map D.frz, o6.map D.frz, o7.map D.frz, o8.map D.frz, o9.map D.frz, none, none]) (i := 1) (X := (stX (Mof R) w s rest').map il) (fl := noO) (fh := someO (nameD 3)) (lo := none) (hi := some (s.d : Nat)) rfl (ig_frz _) (fun e _ => rfl) (fun e he => someO_n (by rw [he 3 (by decide)]; rfl))
        have z1 : sliceD (nameD 1) noO (someO (nameD 3)) [some (rg R), some (ig (stX (Mof R) w s rest')), some (.int (w : Nat)), some (.int (s.d : Nat)), some (.int s.p), o5.map D.frz, o6.map D.frz, o7.map D.frz, o8.map D.frz, o9.map D.frz, none, none] = some (.t (.lst true (cutL ((stX (Mof R) w s rest').map il) none (some (s.d : Nat)))), [some (rg R), some (ig (stX (Mof R) w s rest')), some (.int (w : Nat)), some (.int (s.d : Nat)), some (.int s.p), o5.map D.frz, o6.map D.frz, o7.map D.frz, o8.map D.frz, o9.map D.frz, none, none]) := by
          simp only [sliceD, nameD_fz (env := [some (rg R), some (ig (stX (Mof R) w s rest')), some (.int (w : Nat)), some (.int (s.d : Nat)), some (.int s.p), o5.map D.frz, o6.map D.frz, o7.map D.frz, o8.map D.frz, o9.map D.frz, none, none]) (i := 1) rfl (ig_fz _), Option.bind_some, noO, someO_n (env := [some (rg R), some (ig (stX (Mof R) w s rest')), some (.int (w : Nat)), some (.int (s.d : Nat)), some (.int s.p), o5.map D.frz, o6.map D.frz, o7.map D.frz, o8.map D.frz, o9.map D.frz, none, none]) (j := 3) (k := (s.d : Nat)) rfl, takeK, ig_frz, backK]
          rfl
        have ct : ((stX (Mof R) w s rest').map il).take s.d = ((List.range s.d).map fun a => rowL w (s.A a)).map il := by
          unfold stX
          rw [List.map_append, List.take_left' (by simp)]
        rw [z1, cut_take (by unfold stX; simp), ct]
      simp only [seqI, sl, Option.bind_some, itTake, D.frz, frzs_il, seqOf]
      rw [List.map_map]
      rfl
    · have ha' := List.mem_range.mp ha
      refine one_yes (r := orl (rowQ w (stepsOf s a))) (e1 := [some (rg R), some (ig (stX (Mof R) w s rest')), some (.int (w : Nat)), some (.int (s.d : Nat)), some (.int s.p), o5.map D.frz, o6.map D.frz, o7.map D.frz, o8.map D.frz, o9.map D.frz, some (il (rowL w (s.A a))), none]) rfl (e2 := [some (rg R), some (ig (stX (Mof R) w s rest')), some (.int (w : Nat)), some (.int (s.d : Nat)), some (.int s.p), o5.map D.frz, o6.map D.frz, o7.map D.frz, o8.map D.frz, o9.map D.frz, some (il (rowL w (s.A a))), none]) ?_ rfl
      unfold orl rowQ
      rw [List.map_map]
      refine comp_t (l := List.range w) (f := fun j => .int (s.A a j)) (g := D.rat ∘ stepsOf s a) (e1 := [some (rg R), some (ig (stX (Mof R) w s rest')), some (.int (w : Nat)), some (.int (s.d : Nat)), some (.int s.p), o5.map D.frz, o6.map D.frz, o7.map D.frz, o8.map D.frz, o9.map D.frz, some (il (rowL w (s.A a))), none]) ?_ rfl (fun j hj => ?_) rfl (by rw [List.length_range]; show _ ≤ 10000; omega)
      · rw [seqI_fz (o := false) (l := (rowL w (s.A a)).map .int) rfl (il_fz _)]
        unfold rowL
        rw [List.map_map]
        rfl
      · have mk : mkD 2 [.int (s.A a j), .int s.p] = some (.rat (stepsOf s a j)) := by
          rw [mkD2_int k.ok.p0 (by have := szI_of z.p; omega), Rat.divInt_eq_div]
          rfl
        refine one_yes (e1 := [some (rg R), some (ig (stX (Mof R) w s rest')), some (.int (w : Nat)), some (.int (s.d : Nat)), some (.int s.p), o5.map D.frz, o6.map D.frz, o7.map D.frz, o8.map D.frz, o9.map D.frz, some (il (rowL w (s.A a))), some (.int (s.A a j))]) rfl (e2 := [some (rg R), some (ig (stX (Mof R) w s rest')), some (.int (w : Nat)), some (.int (s.d : Nat)), some (.int s.p), o5.map D.frz, o6.map D.frz, o7.map D.frz, o8.map D.frz, o9.map D.frz, some (il (rowL w (s.A a))), some (.int (s.A a j))]) ?_ rfl
        unfold ce_reduced_5 opN
        simp only [consA, nilA, nameD_fz (env := [some (rg R), some (ig (stX (Mof R) w s rest')), some (.int (w : Nat)), some (.int (s.d : Nat)), some (.int s.p), o5.map D.frz, o6.map D.frz, o7.map D.frz, o8.map D.frz, o9.map D.frz, some (il (rowL w (s.A a))), some (.int (s.A a j))]) (i := 11) (d := .int (s.A a j)) rfl rfl, nameD_fz (env := [some (rg R), some (ig (stX (Mof R) w s rest')), some (.int (w : Nat)), some (.int (s.d : Nat)), some (.int s.p), o5.map D.frz, o6.map D.frz, o7.map D.frz, o8.map D.frz, o9.map D.frz, some (il (rowL w (s.A a))), some (.int (s.A a j))]) (i := 4) (d := .int s.p) rfl rfl, Option.bind_some, takeKs, takeK, frzs, D.frz, mk, backKs, backK]
        rfl
  unfold EvF m_reduced b_reduced_D
  exact ⟨_, runF_rt ((seqS_nx s1).trans ((seqS_nx s2).trans ((seqS_nx s3).trans ((seqS_nx (forS_of i4 lp)).trans s5))))⟩
end K12

set_option Elab.async false
set_option linter.all false
set_option maxRecDepth 100000
set_option maxHeartbeats 4000000
set_option exponentiation.threshold 4000
namespace K12
open PySem PySem.Spec PyProof.Rows L2 Own Dx La
/-- a number as it may be handed -/
inductive NumD : D → Rat → Prop
  | rat (q : Rat) : NumD (.rat q) q
  | int (i : Int) : NumD (.int i) i
inductive NumsD : List D → List Rat → Prop
  | nil : NumsD [] []
  | cons {d : D} {q : Rat} {ds : List D} {r : List Rat} : NumD d q → NumsD ds r → NumsD (d :: ds) (q :: r)
/-- a row as it may be handed -/
inductive RowD : D → List Rat → Prop
  | mk (t : Bool) {ds : List D} {r : List Rat} : NumsD ds r → RowD (D.seq t false ds) r
inductive RowsD : List D → List (List Rat) → Prop
  | nil : RowsD [] []
  | cons {d : D} {r : List Rat} {ds : List D} {R : List (List Rat)} : RowD d r → RowsD ds R → RowsD (d :: ds) (r :: R)
inductive GridD : D → List (List Rat) → Prop
  | mk (t : Bool) {ds : List D} {R : List (List Rat)} : RowsD ds R → GridD (D.seq t false ds) R
theorem NumsD.len {ds : List D} {r : List Rat} (h : NumsD ds r) : ds.length = r.length := by
  induction h with
  | nil => rfl
  | cons _ _ ih => simp [ih]
theorem RowsD.len {ds : List D} {r : List (List Rat)} (h : RowsD ds r) : ds.length = r.length := by
  induction h with
  | nil => rfl
  | cons _ _ ih => simp [ih]
theorem NumD.fz {d : D} {q : Rat} (h : NumD d q) : d.fz = true := by cases h <;> rfl
theorem NumsD.fz {ds : List D} {r : List Rat} (h : NumsD ds r) : fzs ds = true := by
  induction h with
  | nil => rfl
  | cons h _ ih => simp [fzs, h.fz, ih]
theorem seq_fz {t : Bool} {ds : List D} (h : fzs ds = true) : (D.seq t false ds).fz = true := by
  cases t <;> simp [D.seq, D.fz, h]
theorem RowD.fz {d : D} {r : List Rat} (h : RowD d r) : d.fz = true := by
  cases h with
  | mk t h => exact seq_fz h.fz
theorem RowsD.fz {ds : List D} {r : List (List Rat)} (h : RowsD ds r) : fzs ds = true := by
  induction h with
  | nil => rfl
  | cons h _ ih => simp [fzs, h.fz, ih]
theorem GridD.fz {d : D} {r : List (List Rat)} (h : GridD d r) : d.fz = true := by
  cases h with
  | mk t h => exact seq_fz h.fz
theorem is_number_ev {d : D} {q : Rat} (h : NumD d q) : EvF m_is_number [d] (.bl true) := by
  cases h with
  | rat q => exact ⟨_, rfl⟩
  | int i => exact ⟨_, rfl⟩
theorem as_ratio_ev {d : D} {q : Rat} (h : NumD d q) : EvF m_as_ratio [d] (.rat q) := by
  cases h with
  | rat q => exact ⟨_, rfl⟩
  | int i => exact ⟨_, rfl⟩
theorem is_list_ev (t : Bool) {ds : List D} (hf : fzs ds = true) : EvF m_is_list [D.seq t false ds] (.bl true) := by
  refine ev_rt rfl (retS_t (un1_t (nameD_fz rfl (seq_fz hf)) ?_))
  rw [fz_frz _ (seq_fz hf)]
  cases t <;> rfl
theorem seqI_seq {env : Dx.Env} {i : Nat} {t : Bool} {ds : List D} {pn : List Nat} (h : env[i]? = some (some (D.seq t false ds))) (hf : fzs ds = true) : seqI pn (nameD i) env = some ⟨ds, env, []⟩ := by
  cases t
  · exact seqI_fz (o := false) h (seq_fz (t := false) hf)
  · exact seqI_fzt (o := false) h (seq_fz (t := true) hf)
theorem len_seq {env : Dx.Env} {i : Nat} {t : Bool} {ds : List D} (h : env[i]? = some (some (D.seq t false ds))) (hf : fzs ds = true) : opN lenD (consA (nameD i) nilA) env = some (.t (.int ds.length), env) := by
  refine opN1_t (nameD_fz h (seq_fz hf)) ?_
  rw [fz_frz _ (seq_fz hf)]
  cases t <;> rfl
theorem int_ev {env : Dx.Env} {i : Nat} {k : Int} (h : env[i]? = some (some (.int k))) : intF (nameD i) env = some (k, env) := by
  unfold intF
  rw [nameD_fz h rfl]
  rfl
theorem num_loop {P : Option D} {a b : Option D} : ∀ {ds : List D} {r : List Rat} {o : Option D}, NumsD ds r → ∃ o', forL (nameG 3) lb_numbers_from_1 ds [P, a, b, o] = some (.nx [P, a, b, o'])
  | [], _, o, _ => ⟨o, rfl⟩
  | d :: ds, _, o, h => by
    cases h with
    | cons h hs =>
      obtain ⟨o', ho⟩ := num_loop (P := P) (a := a) (b := b) (o := some d) hs
      refine ⟨o', ?_⟩
      rw [forL]
      have tg : nameG 3 d [P, a, b, o] = some [P, a, b, some d] := rfl
      rw [tg, Option.bind_some]
      have c := callF1 (fa := nameD 3) (env := [P, a, b, some d]) (nameD_fz rfl h.fz) (m := m_is_number) (r := .bl true) (by rw [fz_frz d h.fz]; exact is_number_ev h)
      have e : lb_numbers_from_1 [P, a, b, some d] = some (.nx [P, a, b, some d]) := by
        unfold lb_numbers_from_1
        refine ifS_no (e1 := [P, a, b, some d]) ?_ rfl
        unfold notT
        rw [valT_ev c]
        rfl
      rw [e, Option.bind_some]
      exact ho
theorem numbers_from_ev {d : D} {r : List Rat} {a b : Nat} (h : RowD d r) (h1 : a ≤ r.length) (h2 : r.length ≤ b) (h3 : r.length ≤ 1000) : EvF m_numbers_from [d, .int a, .int b] (orl r) := by
  cases h with
  | @mk t ds r hs =>
    have hl := hs.len
    obtain ⟨o', ho⟩ := num_loop (P := some (D.seq t false ds)) (a := some (.int a)) (b := some (.int b)) (o := none) hs
    have hn : (D.seq t false ds).fz = true := seq_fz hs.fz
    have c0 := callF1 (fa := nameD 0) (env := [some (D.seq t false ds), some (.int a), some (.int b), none]) (nameD_fz rfl hn) (m := m_is_list) (r := .bl true) (by rw [fz_frz _ hn]; exact is_list_ev t hs.fz)
    have ch : chainT leI leI (nameD 1) (opN lenD (consA (nameD 0) nilA)) (nameD 2) [some (D.seq t false ds), some (.int a), some (.int b), none] = some (true, [some (D.seq t false ds), some (.int a), some (.int b), none]) := by
      unfold chainT
      rw [int_ev (k := a) rfl, Option.bind_some]
      have l := len_seq (env := [some (D.seq t false ds), some (.int a), some (.int b), none]) (i := 0) rfl hs.fz
      have l2 : intF (opN lenD (consA (nameD 0) nilA)) [some (D.seq t false ds), some (.int a), some (.int b), none] = some ((ds.length : Int), [some (D.seq t false ds), some (.int a), some (.int b), none]) := by
        unfold intF
        rw [l]
        rfl
      dsimp only
      rw [l2, Option.bind_some]
      dsimp only
      rw [if_pos (show leI (a : Int) (ds.length : Int) = true from decide_eq_true (by omega)), int_ev (k := b) rfl, Option.bind_some]
      show some (leI (ds.length : Int) (b : Int), _) = _
      rw [show leI (ds.length : Int) (b : Int) = true from decide_eq_true (by omega)]
    have s1 : ifS (orT (notT (valT (callF [false] m_is_list (consA (nameD 0) nilA)))) (notT (chainT leI leI (nameD 1) (opN lenD (consA (nameD 0) nilA)) (nameD 2)))) (retS (litD .non)) nextS ([D.seq t false ds, .int a, .int b].map some ++ List.replicate (4 - 3) none) = some (.nx [some (D.seq t false ds), some (.int a), some (.int b), none]) := by
      refine ifS_no (e1 := [some (D.seq t false ds), some (.int a), some (.int b), none]) ?_ rfl
      unfold orT notT
      show ((valT _ [some (D.seq t false ds), some (.int a), some (.int b), none]).bind _).bind _ = _
      rw [valT_ev c0]
      simp only [Option.bind_some, Bool.not_true, Bool.false_eq_true, if_false]
      rw [ch]
      rfl
    have cp : compD [3] (seqI (pnOf [false, false, false] 0) (nameD 0)) (nameG 3) yesT ce_numbers_from_2 [some (D.seq t false ds), some (.int a), some (.int b), o'] = some (.t (orl r), [some (D.seq t false ds), some (.int a), some (.int b), none]) := by
      unfold orl
      have key : ∀ {ds' : List D} {r' : List Rat}, NumsD ds' r' → ∀ acc : List D, acc.length + ds'.length ≤ 2000 → compL [3] (nameG 3) yesT ce_numbers_from_2 ds' [some (D.seq t false ds), some (.int a), some (.int b), none] acc = some (acc ++ r'.map .rat, [some (D.seq t false ds), some (.int a), some (.int b), none]) := by
        intro ds' r' hs'
        induction hs' with
        | nil => intro acc _; rw [compL]; simp
        | @cons d q ds' r' hd _ ih =>
          intro acc hl'
          have hl2 : acc.length + (ds'.length + 1) ≤ 2000 := hl'
          have o1 : one [3] (nameG 3) yesT ce_numbers_from_2 d [some (D.seq t false ds), some (.int a), some (.int b), none] = some (some (.rat q), [some (D.seq t false ds), some (.int a), some (.int b), none]) :=
            one_yes (nameG_ev (by simp)) (callF1 (nameD_fz rfl hd.fz) (by rw [fz_frz d hd.fz]; exact as_ratio_ev hd)) rfl
          rw [compL_cons o1 (by show _ < 10000; omega), ih _ (by simp; omega)]
          simp
      refine compD_of (items := ds) (e1 := [some (D.seq t false ds), some (.int a), some (.int b), o']) (e2 := [some (D.seq t false ds), some (.int a), some (.int b), none]) (seqI_seq rfl hs.fz) ?_ rfl
      have := key hs [] (by simp; omega)
      rw [List.nil_append] at this
      exact this
    unfold EvF m_numbers_from b_numbers_from_D
    exact ⟨_, runF_rt ((seqS_nx s1).trans ((seqS_nx (forS_of (seqI_seq rfl hs.fz) ho)).trans (retS_t cp)))⟩
end K12

set_option Elab.async false
set_option linter.all false
set_option maxRecDepth 100000
set_option maxHeartbeats 4000000
set_option exponentiation.threshold 4000
namespace Dx
open PySem PySem.Spec PyProof.Rows L2 Own
theorem valT_or {ft gt : DT} {env e1 : Env} {b c : Bool} {e2 : Env} (h1 : ft env = some (b, e1)) (h2 : b = false → gt e1 = some (c, e2)) (h3 : b = true → e2 = e1) : orT ft gt env = some (b || c, e2) := by
  unfold orT
  rw [h1, Option.bind_some]
  cases b with
  | true => rw [h3 rfl]; rfl
  | false => rw [h2 rfl]; rfl
theorem valT_and {ft gt : DT} {env e1 : Env} {b c : Bool} {e2 : Env} (h1 : ft env = some (b, e1)) (h2 : b = true → gt e1 = some (c, e2)) (h3 : b = false → e2 = e1) : andT ft gt env = some (b && c, e2) := by
  unfold andT
  rw [h1, Option.bind_some]
  cases b with
  | true => rw [h2 rfl]; rfl
  | false => rw [h3 rfl]; rfl
theorem truT_lst {env : Env} {i : Nat} {o : Bool} {l : List D} (h : env[i]? = some (some (.lst o l))) (hf : (D.lst o l).fz = true) : truT (nameD i) env = some (!l.isEmpty, env) := by
  unfold truT
  rw [nameD_fz h hf, Option.bind_some]
  dsimp only [takeK]
  rw [fz_frz _ hf]
  rfl
theorem len_lst {env : Env} {i : Nat} {o : Bool} {l : List D} (h : env[i]? = some (some (.lst o l))) (hf : (D.lst o l).fz = true) : opN lenD (consA (nameD i) nilA) env = some (.t (.int l.length), env) := by
  refine opN1_t (nameD_fz h hf) ?_
  rw [fz_frz _ hf]
  rfl
theorem appD_n {env : Env} {i j : Nat} {l : List D} {d : D} (h : env[i]? = some (some (.lst true l))) (h2 : env[j]? = some (some d)) (hij : i ≠ j) (hl : l.length < 10000) : appD i (nameD j) env = some (.t .non, (env.set j (some d.frz)).set i (some (.lst true (l ++ [d.frz])))) := by
  have o1 : ownL i env = some l := by unfold ownL; rw [h]
  have o2 : ownL i (env.set j (some d.frz)) = some l := by
    unfold ownL
    rw [List.getElem?_set_ne (Ne.symm hij), h]
  unfold appD
  rw [o1, Option.bind_some]
  by_cases hf : d.fz = true
  · have e : d.frz = d := fz_frz d hf
    rw [nameD_fz h2 hf, Option.bind_some]
    dsimp only [toT]
    rw [Option.bind_some]
    dsimp only
    rw [o1, Option.bind_some, if_pos (show l.length < LMAX from hl), e, set_self h2]
  · have hf' : d.fz = false := by simpa using hf
    rw [nameD_ow h2 hf', Option.bind_some]
    dsimp only [toT, toF]
    rw [h2]
    dsimp only
    rw [Option.bind_some]
    dsimp only
    rw [o2, Option.bind_some, if_pos (show l.length < LMAX from hl)]
end Dx
namespace K12
open PySem PySem.Spec PyProof.Rows L2 Own Dx La
theorem rows_turn {P a : Option D} {lw mw w : Nat} {acc : List (List Rat)} {d : D} {r : List Rat} {o6 : Option D} (h : RowD d r) (hr : r.length = w) (h1 : lw ≤ w) (h2 : w ≤ mw) (hw : w ≤ 1000) (ha : ∀ x ∈ acc, x.length = w) (hl : acc.length < 1000) :
    lb_rows_from_1 [P, a, some (.int lw), some (.int mw), some (.lst true (acc.map rl)), some d, o6] = some (.nx [P, a, some (.int lw), some (.int mw), some (.lst true ((acc ++ [r]).map rl)), some d, some (rl r)]) := by
  have fr : frzs (acc.map rl) = acc.map rl := frzs_rl acc
  have frl : (D.lst true (acc.map rl)).frz = rg acc := by show D.lst false (frzs _) = _; rw [fr]; rfl
  have fo : (orl r).frz = rl r := by show D.lst false (frzs _) = _; rw [frzs_rat]; rfl
  have s1 : setS 6 (pureD (callF [false, false, false] m_numbers_from (consA (nameD 5) (consA (nameD 2) (consA (nameD 3) nilA))))) [P, a, some (.int lw), some (.int mw), some (.lst true (acc.map rl)), some d, o6] = some (.nx [P, a, some (.int lw), some (.int mw), some (.lst true (acc.map rl)), some d, some (orl r)]) := by
    refine setS_t (pureD_ev (e1 := [P.map D.frz, a.map D.frz, some (.int lw), some (.int mw), some (rg acc), some d, o6.map D.frz]) ?_ (orl_ow r)) (by simp)
    have f4 : frzE [P, a, some (.int lw), some (.int mw), some (.lst true (acc.map rl)), some d, o6] = [P.map D.frz, a.map D.frz, some (.int lw), some (.int mw), some (rg acc), some d, o6.map D.frz] := by
      show [P.map D.frz, a.map D.frz, some (.int lw), some (.int mw), some (D.lst true (acc.map rl)).frz, some d.frz, o6.map D.frz] = _
      rw [frl, fz_frz d h.fz]
    rw [f4]
    refine callF3 (nameD_fz rfl h.fz) (nameD_fz (d := .int lw) rfl rfl) (nameD_fz (d := .int mw) rfl rfl) ?_
    rw [fz_frz d h.fz]
    exact numbers_from_ev h (by omega) (by omega) (by omega)
  have f5 : frzE [P, a, some (.int lw), some (.int mw), some (.lst true (acc.map rl)), some d, some (orl r)] = [P.map D.frz, a.map D.frz, some (.int lw), some (.int mw), some (rg acc), some d, some (rl r)] := by
    show [P.map D.frz, a.map D.frz, some (.int lw), some (.int mw), some (D.lst true (acc.map rl)).frz, some d.frz, some (orl r).frz] = _
    rw [frl, fz_frz d h.fz, fo]
  have t2 : pureT (orT (valT (bin2 isD (nameD 6) (litD .non))) (andT (truT (nameD 4)) (valT (bin2 neD (opN lenD (consA (nameD 6) nilA)) (opN lenD (consA (ixD (nameD 4) (litD (.int 0))) nilA)))))) [P, a, some (.int lw), some (.int mw), some (.lst true (acc.map rl)), some d, some (orl r)] = some (false, [P, a, some (.int lw), some (.int mw), some (.lst true (acc.map rl)), some d, some (orl r)]) := by
    refine pureT_ev (e1 := [P.map D.frz, a.map D.frz, some (.int lw), some (.int mw), some (rg acc), some d, some (rl r)]) ?_
    rw [f5]
    refine valT_or (b := false) (c := false) (valT_ev (bin2_tt (nameD_fz rfl (rl_fz r)) litD_ev (by rw [rl_frz]; rfl))) (fun _ => ?_) (fun q => by cases q)
    have tr := truT_lst (env := [P.map D.frz, a.map D.frz, some (.int lw), some (.int mw), some (rg acc), some d, some (rl r)]) (i := 4) (o := false) (l := acc.map rl) rfl (rg_fz acc)
    cases acc with
    | nil => exact valT_and tr (c := false) (fun q => by cases q) (fun _ => rfl)
    | cons x acc =>
      have hx := ha x List.mem_cons_self
      refine valT_and tr (fun _ => valT_ev (bin2_tt (len_lst (o := false) (l := r.map .rat) rfl (rl_fz r)) (opN1_t (x := rl x) (z := .int (w : Nat)) (ix_lit (n := 0) (o := false) (l := (x :: acc).map rl) rfl (rg_fz (x :: acc)) rfl) ?_) ?_)) (fun q => by cases q)
      · rw [rl_frz]
        show some (D.int ((x.map D.rat).length : Nat)) = _
        rw [List.length_map, hx]
      · rw [List.length_map, hr]
        show some (D.bl ((w : Int) != (w : Int))) = some (D.bl false)
        rw [bne_self_eq_false]
  have ap := appD_n (env := [P, a, some (.int lw), some (.int mw), some (.lst true (acc.map rl)), some d, some (orl r)]) (i := 4) (j := 6) (l := acc.map rl) (d := orl r) rfl rfl (by decide) (by rw [List.length_map]; omega)
  unfold lb_rows_from_1
  refine seqS_any s1 (seqS_any (ifS_no t2 rfl) ?_)
  unfold exprS
  rw [ap, fo, List.map_append]
  rfl
theorem rows_loop {P a : Option D} {lw mw w : Nat} (h1 : lw ≤ w) (h2 : w ≤ mw) (hw : w ≤ 1000) : ∀ {ds : List D} {R : List (List Rat)} (acc : List (List Rat)) (o5 o6 : Option D), RowsD ds R → (∀ x ∈ R, x.length = w) → (∀ x ∈ acc, x.length = w) → acc.length + R.length ≤ 1000 →
    ∃ o5' o6', forL (nameG 5) lb_rows_from_1 ds [P, a, some (.int lw), some (.int mw), some (.lst true (acc.map rl)), o5, o6] = some (.nx [P, a, some (.int lw), some (.int mw), some (.lst true ((acc ++ R).map rl)), o5', o6'])
  | [], _, acc, o5, o6, h, _, _, _ => by
    cases h
    exact ⟨o5, o6, by rw [List.append_nil]; rfl⟩
  | d :: ds, _, acc, o5, o6, h, hR, ha, hl => by
    cases h with
    | @cons _ r _ R hd hs =>
      have hl' : acc.length + (R.length + 1) ≤ 1000 := hl
      have hr := hR r List.mem_cons_self
      have t := rows_turn (P := P) (a := a) (lw := lw) (mw := mw) (o6 := o6) hd hr h1 h2 hw ha (by omega)
      obtain ⟨p5, p6, g⟩ := rows_loop (P := P) (a := a) h1 h2 hw (acc ++ [r]) (some d) (some (rl r)) hs (fun x hx => hR x (List.mem_cons_of_mem _ hx)) (fun x hx => by
        rcases List.mem_append.mp hx with q | q
        · exact ha x q
        · rw [List.mem_singleton.mp q]; exact hr) (by simp; omega)
      refine ⟨p5, p6, ?_⟩
      rw [forL]
      have tg : nameG 5 d [P, a, some (.int lw), some (.int mw), some (.lst true (acc.map rl)), o5, o6] = some [P, a, some (.int lw), some (.int mw), some (.lst true (acc.map rl)), some d, o6] := rfl
      rw [tg, Option.bind_some, t, Option.bind_some]
      dsimp only
      rw [g]
      simp
end K12

set_option Elab.async false
set_option linter.all false
set_option maxRecDepth 100000
set_option maxHeartbeats 4000000
set_option exponentiation.threshold 4000
namespace Dx
open PySem PySem.Spec PyProof.Rows L2 Own
theorem retV_any {env : Env} {i : Nat} {d : D} (h : env[i]? = some (some d)) : ∃ e, retV i env = some (.rt d e) := by
  unfold retV
  rw [h]
  dsimp only
  split
  · exact ⟨_, rfl⟩
  · exact ⟨_, rfl⟩
end Dx
namespace K12
open PySem PySem.Spec PyProof.Rows L2 Own Dx La
theorem rows_from_ev {d : D} {R : List (List Rat)} {w most lw mw : Nat} (h : GridD d R) (hR : ∀ x ∈ R, x.length = w) (h0 : R.length ≤ most) (hm : R.length ≤ 500) (h1 : lw ≤ w) (h2 : w ≤ mw) (hw : w ≤ 1000) : EvF m_rows_from [d, .int most, .int lw, .int mw] (.lst true (R.map rl)) := by
  cases h with
  | @mk t ds R hs =>
    have hn : (D.seq t false ds).fz = true := seq_fz hs.fz
    have hl := hs.len
    have s1 : ifS (pureT (orT (notT (valT (callF [false] m_is_list (consA (nameD 0) nilA)))) (valT (bin2 gtD (opN lenD (consA (nameD 0) nilA)) (nameD 1))))) (retS (litD .non)) nextS ([D.seq t false ds, .int most, .int lw, .int mw].map some ++ List.replicate (7 - 4) none) = some (.nx [some (D.seq t false ds), some (.int most), some (.int lw), some (.int mw), none, none, none]) := by
      refine ifS_no (e1 := [some (D.seq t false ds), some (.int most), some (.int lw), some (.int mw), none, none, none]) ?_ rfl
      show pureT _ [some (D.seq t false ds), some (.int most), some (.int lw), some (.int mw), none, none, none] = _
      refine pureT_ev (e1 := [some (D.seq t false ds), some (.int most), some (.int lw), some (.int mw), none, none, none]) ?_
      have f4 : frzE [some (D.seq t false ds), some (.int most), some (.int lw), some (.int mw), none, none, none] = [some (D.seq t false ds), some (.int most), some (.int lw), some (.int mw), none, none, none] := by
        show [some (D.seq t false ds).frz, some (.int most), some (.int lw), some (.int mw), none, none, none] = _
        rw [fz_frz _ hn]
      rw [f4]
      have c0 := callF1 (fa := nameD 0) (env := [some (D.seq t false ds), some (.int most), some (.int lw), some (.int mw), none, none, none]) (nameD_fz rfl hn) (m := m_is_list) (r := .bl true) (by rw [fz_frz _ hn]; exact is_list_ev t hs.fz)
      refine valT_or (b := false) (c := false) (e1 := [some (D.seq t false ds), some (.int most), some (.int lw), some (.int mw), none, none, none]) ?_ (fun _ => valT_ev (bin2_tt (len_seq rfl hs.fz) (nameD_fz (d := .int most) rfl rfl) ?_)) (fun q => by cases q)
      · unfold notT
        rw [valT_ev c0]
        rfl
      · show some (D.bl (decide ((most : Int) < (ds.length : Int)))) = _
        rw [decide_eq_false (by omega)]
    obtain ⟨o5, o6, lp⟩ := rows_loop (P := some (D.seq t false ds)) (a := some (.int most)) h1 h2 hw [] none none hs hR (fun x hx => by cases hx) (by show 0 + _ ≤ _; omega)
    obtain ⟨e, he⟩ := retV_any (env := [some (D.seq t false ds), some (.int most), some (.int lw), some (.int mw), some (.lst true (([] ++ R).map rl)), o5, o6]) (i := 4) rfl
    rw [List.nil_append] at lp he
    have i3 : seqI (pnOf [false, false, false, false] 0) (nameD 0) [some (D.seq t false ds), some (.int most), some (.int lw), some (.int mw), some (.lst true []), none, none] = some ⟨ds, [some (D.seq t false ds), some (.int most), some (.int lw), some (.int mw), some (.lst true []), none, none], []⟩ := seqI_seq rfl hs.fz
    unfold EvF m_rows_from b_rows_from_D
    exact ⟨_, runF_rt ((seqS_nx s1).trans ((seqS_nx (e := [some (D.seq t false ds), some (.int most), some (.int lw), some (.int mw), some (.lst true []), none, none]) rfl).trans ((seqS_nx (forS_of i3 lp)).trans he)))⟩
theorem frz_org (R : List (List Rat)) : (D.lst true (R.map rl)).frz = rg R := by show D.lst false (frzs _) = _; rw [frzs_rl]; rfl
theorem grid_from_ev {d : D} {R : List (List Rat)} {w : Nat} (h : GridD d R) (hR : ∀ x ∈ R, x.length = w) (h0 : R.length ≤ 64) (h1 : 1 ≤ w) (h2 : w ≤ 64) : EvF m_grid_from [d] (.lst true (R.map rl)) := by
  have l := rows_from_ev (most := 64) (lw := 1) (mw := 64) h hR h0 (by omega) h1 h2 (by omega)
  refine ev_rt rfl (retS_t (callF_ff rfl (as := [.t d, .t (.int 64), .t (.int 1), .t (.int 64)]) (e1 := [some d]) (e2 := [some d]) ?_ ?_ l))
  · show consA (nameD 0) _ [some d] = _
    unfold consA
    rw [nameD_fz (env := [some d]) (i := 0) rfl h.fz]
    rfl
  · simp only [argsD, argD, Bool.false_eq_true, if_false, toF, D.frz, Option.bind_some, fz_frz d h.fz]
    rfl
theorem need_grid_ev {d : D} {R : List (List Rat)} {w : Nat} (h : GridD d R) (hR : ∀ x ∈ R, x.length = w) (h0 : R.length ≤ 64) (h1 : 1 ≤ w) (h2 : w ≤ 64) : EvF m_need_grid [d] (.lst true (R.map rl)) := by
  have l := grid_from_ev h hR h0 h1 h2
  have s1 : setS 1 (callF [false] m_grid_from (consA (nameD 0) nilA)) [some d, none] = some (.nx [some d, some (.lst true (R.map rl))]) := setS_t (callF1 (nameD_fz rfl h.fz) (by rw [fz_frz d h.fz]; exact l)) (by simp)
  obtain ⟨d', hd', t2⟩ := bin2_nt (g := isD) (env := [some d, some (.lst true (R.map rl))]) (i := 1) (d := .lst true (R.map rl)) (X := R.map rl) (fb := litD .non) (y := .non) (z := .bl false) rfl (frz_org R) rfl rfl
  have hd2 : d' = .lst true (R.map rl) ∨ True := .inr trivial
  have s2 : ifS (valT (bin2 isD (nameD 1) (litD .non))) neverS nextS [some d, some (.lst true (R.map rl))] = some (.nx [some d, some d']) := ifS_no (valT_ev t2) rfl
  -- what stands there is the list itself
  have own : d' = .lst true (R.map rl) := by
    have hf' : (D.lst true (R.map rl)).fz = false := rfl
    have e2 : bin2 isD (nameD 1) (litD .non) [some d, some (.lst true (R.map rl))] = some (.t (.bl false), [some d, some (.lst true (R.map rl))]) := by
      simp only [bin2, opN, consA, nilA, nameD_ow (env := [some d, some (.lst true (R.map rl))]) (i := 1) rfl hf', litD, Option.bind_some, takeKs, takeK, List.getElem?_cons_succ, List.getElem?_cons_zero, D.kfz, frzs_rl, frzs, D.frz, g2, backKs, backK]
      rfl
    rw [e2] at t2
    have := Option.some.inj t2
    injection this with _ this
    injection this with _ this
    injection this with this _
    exact (Option.some.inj this).symm
  subst own
  obtain ⟨e, he⟩ := retV_any (env := [some d, some (.lst true (R.map rl))]) (i := 1) rfl
  unfold EvF m_need_grid b_need_grid_D
  exact ⟨_, runF_rt ((seqS_nx s1).trans ((seqS_nx s2).trans he))⟩
theorem steps_ev {d : D} {R : List (List Rat)} {w : Nat} (h : GridD d R) (hr : RowsE 70 60 R w) (h1 : 1 ≤ w) : EvF m_steps [d] (.lst true ((stepsL R w).map orl)) := by
  have w6 := hr.w
  have m12 := hr.many
  have l := need_grid_ev h hr.len (by omega) h1 (by omega)
  have hz : EvF m_reduced [rg R] (.lst true ((stepsL R w).map orl)) := by
    cases R with
    | nil =>
      have z := reduced_ev (R := []) (w := 0) ⟨fun r hr => (by cases hr), by decide, by decide, hr.M, hr.c⟩ (fun _ => rfl)
      have e : stepsL [] w = [] := by
        unfold stepsL gridF
        have : ∀ c, (La.run (Mof []) 0 c) = s0 := by
          intro c
          induction c with
          | zero => rfl
          | succ c ih =>
            show turn _ 0 _ c = _
            rw [ih]
            rfl
        show (List.range (La.run (Mof []) 0 w).d).map _ = []
        rw [this]
        rfl
      rw [e]
      exact z
    | cons r R => exact reduced_ev hr (fun q => by cases q)
  refine ev_rt rfl (retS_t (callF1 (callF1 (nameD_fz rfl h.fz) (by rw [fz_frz d h.fz]; exact l)) ?_))
  rw [frz_org]
  exact hz
theorem rank_ev {d : D} {R : List (List Rat)} {w : Nat} (h : GridD d R) (hr : RowsE 70 60 R w) (h1 : 1 ≤ w) : EvF m_rank [d] (.int (stepsL R w).length) := by
  refine ev_rt rfl (retS_t (opN1_t (callF1 (nameD_fz rfl h.fz) (by rw [fz_frz d h.fz]; exact steps_ev h hr h1)) ?_))
  show some (D.int ((frzs ((stepsL R w).map orl)).length : Nat)) = _
  rw [frzs_orl, List.length_map]
end K12

set_option Elab.async false
set_option linter.all false
set_option maxRecDepth 100000
set_option maxHeartbeats 4000000
set_option exponentiation.threshold 4000
namespace K12
open PySem PySem.Spec PyProof.Rows L2 Own Dx La
def pot (a b : Int) : D := .lst true [.int a, .int b]
structure Pot (a b : Int) : Prop where
  a0 : 0 ≤ a
  b0 : 0 ≤ b
  b1 : b < 2147483648
theorem draw_pos {a b n : Int} (h : 0 < a) (h1 : 0 < n) (h2 : n < 1073741824) : m_law_draw [pot a b, .int n] = some (.int (a % n), [some (pot (a / n) b), some (.int n)]) := by
  have dm : divmodD [.int a, .int n] = some (.tup true [.int (a / n), .int (a % n)]) := if_pos ⟨h1, h2⟩
  unfold m_law_draw runF b_law_draw_D pot
  simp [seqS, ifS, valT, bin2, opN, consA, nilA, nameD, litD, ixD, ixAt, toF, toT, intOf, seqOf, ixN, D.fz, fzs, D.frz, frzs, takeKs, takeK, backKs, backK, g2, gtD, h, asgS, dm, tupG, consG, nilG, subG, ownL, nameG, retV]
theorem draw_neg {a b n : Int} (h : ¬ 0 < a) (hb : Pot a b) (h1 : 0 < n) : ∃ d b', m_law_draw [pot a b, .int n] = some (.int d, [some (pot a b'), some (.int n)]) ∧ 0 ≤ d ∧ d < n ∧ 0 ≤ b' ∧ b' < 2147483648 := by
  have hb0 := hb.b0
  have hb1 := hb.b1
  have z1 : szI b ≤ 40 := by have := szI_lt (i := b) (k := 31) (by omega); omega
  have m1 : mulD (.int b) (.int 48271) = some (.int (b * 48271)) := mulD_int (by have : szI 48271 ≤ 100 := (by decide); omega)
  have m2 : modD (.int (b * 48271 + 18144)) (.int 2147483587) = some (.int ((b * 48271 + 18144).fmod 2147483587)) := modD_int (by decide)
  have e1 : (b * 48271 + 18144).fmod 2147483587 = (b * 48271 + 18144) % 2147483587 := Int.fmod_eq_emod_of_nonneg _ (by decide)
  generalize hc : (b * 48271 + 18144).fmod 2147483587 = c at *
  have c0 : 0 ≤ c ∧ c < 2147483648 := by omega
  have z2 : szI c ≤ 40 := by have := szI_lt (i := c) (k := 31) (by omega); omega
  have m3 : mulD (.int c) (.int c) = some (.int (c * c)) := mulD_int (by omega)
  have m4 : modD (.int (c * c)) (.int 2147483549) = some (.int ((c * c).fmod 2147483549)) := modD_int (by decide)
  have m5 : ∀ x : Int, fdivD (.int x) (.int 17) = some (.int (x.fdiv 17)) := fun x => fdivD_int (by decide) (by decide)
  have m6 : ∀ x : Int, modD (.int x) (.int n) = some (.int (x.fmod n)) := fun x => modD_int (by omega)
  refine ⟨(((c * c).fmod 2147483549).fdiv 17).fmod n, c, ?_, ?_, ?_, c0.1, c0.2⟩
  · unfold m_law_draw runF b_law_draw_D pot
    simp [seqS, ifS, valT, bin2, opN, consA, nilA, nameD, litD, ixD, ixAt, toF, toT, intOf, seqOf, ixN, D.fz, fzs, D.frz, frzs, takeKs, takeK, backKs, backK, g2, gtD, h, asgS, tupG, consG, nilG, subG, ownL, nameG, retV, retS, nextS, m1, m2, m3, m4, m5, m6, addD, Dx.intD]
  · rw [Int.fmod_eq_emod_of_nonneg _ (by omega)]
    exact Int.emod_nonneg _ (by omega)
  · rw [Int.fmod_eq_emod_of_nonneg _ (by omega)]
    exact Int.emod_lt_of_pos _ h1
/-- a def that changes the pot -/
def EvP (m : FM) (a b : Int) (ds : List D) (r : D) (a' b' : Int) : Prop := ∃ ps, m (pot a b :: ds) = some (r, some (pot a' b') :: ps)
theorem draw_ev {a b n : Int} (h : Pot a b) (h1 : 0 < n) (h2 : n < 1073741824) : ∃ d a' b', EvP m_law_draw a b [.int n] (.int d) a' b' ∧ 0 ≤ d ∧ d < n ∧ Pot a' b' := by
  by_cases ha : 0 < a
  · exact ⟨_, _, _, ⟨_, draw_pos ha h1 h2⟩, Int.emod_nonneg _ (by omega), Int.emod_lt_of_pos _ h1, Int.ediv_nonneg h.a0 (by omega), h.b0, h.b1⟩
  · obtain ⟨d, b', e, h3, h4, h5, h6⟩ := draw_neg ha h h1
    exact ⟨d, a, b', ⟨_, e⟩, h3, h4, h.a0, h5, h6⟩
theorem pot_fz (a b : Int) : (pot a b).fz = false := rfl
section
variable {env e1 e2 : Dx.Env} {a b a0 b0 a' b' : Int} {fb fc : DE} {y z r : D} {m : FM}
theorem callP0 (hp : env[0]? = some (some (pot a b))) (h : EvP m a b [] r a' b') : callF [true] m (consA (nameD 0) nilA) env = some (.t r, env.set 0 (some (pot a' b'))) := by
  obtain ⟨ps, h⟩ := h
  unfold callF
  simp only [consA, nilA, nameD_ow hp (pot_fz a b), Option.bind_some, argsD, argD, if_true, hp, h, backA]
  rw [List.set_set]
theorem callP1 (hp : env[0]? = some (some (pot a0 b0))) (hb : fb env = some (.t y, e1)) (h1 : e1[0]? = some (some (pot a b))) (h : EvP m a b [y.frz] r a' b') : callF [true, false] m (consA (nameD 0) (consA fb nilA)) env = some (.t r, e1.set 0 (some (pot a' b'))) := by
  obtain ⟨ps, h⟩ := h
  unfold callF
  simp only [consA, nilA, nameD_ow hp (pot_fz a0 b0), hb, Option.bind_some, argsD, argD, if_true, Bool.false_eq_true, if_false, toF, h1, h, backA]
  rw [backA1, List.set_set]
theorem callP2 (hp : env[0]? = some (some (pot a0 b0))) (hb : fb env = some (.t y, e1)) (hc : fc e1 = some (.t z, e2)) (h1 : e2[0]? = some (some (pot a b))) (h : EvP m a b [y.frz, z.frz] r a' b') : callF [true, false, false] m (consA (nameD 0) (consA fb (consA fc nilA))) env = some (.t r, e2.set 0 (some (pot a' b'))) := by
  obtain ⟨ps, h⟩ := h
  unfold callF
  simp only [consA, nilA, nameD_ow hp (pot_fz a0 b0), hb, hc, Option.bind_some, argsD, argD, if_true, Bool.false_eq_true, if_false, toF, h1, h, backA]
  rw [backA2, List.set_set]
end
/-- what a draw brings -/
theorem draw_at {env e1 : Dx.Env} {a b a0 b0 n : Int} {fb : DE} (hp : env[0]? = some (some (pot a0 b0))) (hb : fb env = some (.t (.int n), e1)) (h1 : e1[0]? = some (some (pot a b))) (h : Pot a b) (hn : 0 < n) (hn2 : n < 1073741824) :
    ∃ d a' b', callF [true, false] m_law_draw (consA (nameD 0) (consA fb nilA)) env = some (.t (.int d), e1.set 0 (some (pot a' b'))) ∧ 0 ≤ d ∧ d < n ∧ Pot a' b' := by
  obtain ⟨d, a', b', e, h3, h4, h5⟩ := draw_ev h hn hn2
  exact ⟨d, a', b', callP1 hp hb h1 e, h3, h4, h5⟩
end K12

set_option Elab.async false
set_option linter.all false
set_option maxRecDepth 100000
set_option maxHeartbeats 4000000
set_option exponentiation.threshold 4000
namespace K12
open PySem PySem.Spec PyProof.Rows L2 Own Dx La
theorem evP_rt {n k : Nat} {g : DS} {a b a' b' : Int} {ds ps : List D} {d : D} {env e : Dx.Env} {ps' : List (Option D)} (he : (pot a b :: ds).map some ++ List.replicate (k - n) none = env) (h : g env = some (.rt d e)) (ht : e.take n = some (pot a' b') :: ps') : EvP (runF n k g) a b ds d a' b' :=
  ⟨ps', by rw [runF_rt (by rw [he]; exact h), ht]⟩
theorem seq_frz_lst {o : Bool} {l : List D} : (D.lst o l).frz = .lst false (frzs l) := rfl
theorem len_ow {env : Dx.Env} {i : Nat} {o : Bool} {l : List D} (h : env[i]? = some (some (.lst o l))) (hf : (D.lst o l).fz = false) : opN lenD (consA (nameD i) nilA) env = some (.t (.int l.length), env.set i (some (.lst o (frzs l)))) := by
  simp only [opN, consA, nilA, nameD_ow h hf, Option.bind_some, takeKs, takeK, h, D.kfz, frzs, D.frz, frzs_idem (ds := l) rfl, lenD, backKs, backK, List.set_set]
  rw [frzs_map, List.length_map]
/-- the list that is picked from comes back -/
theorem pick_ev {a b : Int} {o : Bool} {l : List D} (h : Pot a b) (hl : 0 < l.length) (hl2 : l.length ≤ 1000000) : ∃ (i : Nat) (d : D) (a' b' : Int), m_law_pick [pot a b, .lst o l] = some (d, [some (pot a' b'), some (.lst o (frzs l))]) ∧ i < l.length ∧ (frzs l)[i]? = some d ∧ Pot a' b' := by
  have ll : (frzs l).length = l.length := by rw [frzs_map, List.length_map]
  by_cases hf : (D.lst o l).fz = true
  · have hl0 : frzs l = l := by
      have := fz_frz _ hf
      rw [seq_frz_lst] at this
      injection this
    obtain ⟨d, a', b', e, h3, h4, h5⟩ := draw_at (env := [some (pot a b), some (.lst o l)]) (fb := opN lenD (consA (nameD 1) nilA)) rfl (len_lst rfl hf) rfl h (by omega) (by omega)
    obtain ⟨i, rfl⟩ : ∃ i : Nat, d = (i : Int) := ⟨d.toNat, by omega⟩
    have hi : i < l.length := by omega
    have r := retS_t (ix_t (nameD_fz (env := [some (pot a b), some (.lst o l)]) (i := 1) rfl hf) e (List.getElem?_eq_getElem hi))
    refine ⟨i, l[i], a', b', ?_, hi, by rw [hl0]; exact List.getElem?_eq_getElem hi, h5⟩
    rw [hl0]
    exact runF_rt (n := 2) (k := 2) (g := b_law_pick_D) (ds := [pot a b, .lst o l]) r
  · have hf' : (D.lst o l).fz = false := by simpa using hf
    obtain ⟨d, a', b', e, h3, h4, h5⟩ := draw_at (env := [some (pot a b), some (.lst o l)]) (fb := opN lenD (consA (nameD 1) nilA)) rfl (len_ow rfl hf') rfl h (by omega) (by omega)
    obtain ⟨i, rfl⟩ : ∃ i : Nat, d = (i : Int) := ⟨d.toNat, by omega⟩
    have hi : i < (frzs l).length := by omega
    have fi : (frzs l)[i].fz = true := by
      have : (frzs l)[i] = (l[i]'(by omega)).frz := by simp [frzs_map]
      rw [this]
      exact frz_fz _
    have r : retS (ixD (nameD 1) (callF [true, false] m_law_draw (consA (nameD 0) (consA (opN lenD (consA (nameD 1) nilA)) nilA)))) [some (pot a b), some (.lst o l)] = some (.rt (frzs l)[i] [some (pot a' b'), some (.lst o (frzs l))]) := by
      refine retS_t ?_
      simp only [ixD, nameD_ow (env := [some (pot a b), some (.lst o l)]) (i := 1) rfl hf', e, Option.bind_some, toF, D.frz, intOf, ixAt, List.set_cons_zero, List.set_cons_succ, List.getElem?_cons_succ, List.getElem?_cons_zero, seqOf, ixN_nat hi, List.getElem?_eq_getElem hi, fi, if_true]
    exact ⟨i, (frzs l)[i], a', b', runF_rt (n := 2) (k := 2) (g := b_law_pick_D) (ds := [pot a b, .lst o l]) r, by omega, List.getElem?_eq_getElem hi, h5⟩
section
variable {env e1 : Dx.Env} {a b a0 b0 a' b' : Int} {fb : DE} {y y' r : D} {m : FM} {j : Nat} {ps : List (Option D)}
/-- a list of one's own, handed by reference -/
theorem callR1 (hp : env[0]? = some (some (pot a b))) (hj : env[j]? = some (some y)) (hf : y.fz = false) (h0 : j ≠ 0) (h : m [pot a b, y] = some (r, [some (pot a' b'), some y'])) : callF [true, true] m (consA (nameD 0) (consA (nameD j) nilA)) env = some (.t r, (env.set j (some y')).set 0 (some (pot a' b'))) := by
  have h1 : (env.set 0 none)[j]? = some (some y) := by rw [List.getElem?_set_ne (Ne.symm h0)]; exact hj
  unfold callF
  simp only [consA, nilA, nameD_ow hp (pot_fz a b), nameD_ow hj hf, Option.bind_some, argsD, argD, if_true, hp, h1, h, backA]
  congr 2
  apply List.ext_getElem?
  intro k
  by_cases hk : k = 0
  · subst hk
    have l0 := (List.getElem?_eq_some_iff.mp hp).1
    rw [List.getElem?_set_self (by first | omega | (simp only [List.length_set]; omega)), List.getElem?_set_self (by first | omega | (simp only [List.length_set]; omega))]
  · rw [List.getElem?_set_ne (Ne.symm hk), List.getElem?_set_ne (Ne.symm hk)]
    by_cases hk2 : k = j
    · subst hk2
      have l0 := (List.getElem?_eq_some_iff.mp hj).1
      rw [List.getElem?_set_self (by first | omega | (simp only [List.length_set]; omega)), List.getElem?_set_self (by first | omega | (simp only [List.length_set]; omega))]
    · rw [List.getElem?_set_ne (Ne.symm hk2), List.getElem?_set_ne (Ne.symm hk2), List.getElem?_set_ne (Ne.symm hk2), List.getElem?_set_ne (Ne.symm hk)]
/-- a value, handed by reference -/
theorem callR1t (hp : env[0]? = some (some (pot a0 b0))) (hb : fb env = some (.t y, e1)) (h1 : e1[0]? = some (some (pot a b))) (h : m [pot a b, y] = some (r, some (pot a' b') :: ps)) : callF [true, true] m (consA (nameD 0) (consA fb nilA)) env = some (.t r, e1.set 0 (some (pot a' b'))) := by
  unfold callF
  simp only [consA, nilA, nameD_ow hp (pot_fz a0 b0), hb, Option.bind_some, argsD, argD, if_true, h1, h, backA]
  rw [show backA [true] [.t y] ps (e1.set 0 none) = e1.set 0 none by
    cases ps with
    | nil => rfl
    | cons p ps => cases ps <;> rfl, List.set_set]
end
theorem den_one {q : Rat} (h : q.den = 1) : ((q.num : Int) : Rat) = q := by
  apply Rat.ext
  · rfl
  · rw [h]; rfl
theorem passed_ev {a b : Int} {q : Rat} (h : Pot a b) (hq : Sq 1000 q) : ∃ r a' b', EvP m_law_passed a b [zq q] r a' b' ∧ NumD r q ∧ Pot a' b' := by
  have mk : mkD 2 [.int q.num, .int q.den] = some (.rat q) := by
    rw [mkD2_int (pr_ne q) (by have := hq.den; omega), dd]
  have t1 : valT (bin2 eqD (ixD (nameD 1) (litD (.int 1))) (litD (.int 1))) [some (pot a b), some (zq q)] = some ((q.den : Int) == 1, [some (pot a b), some (zq q)]) := valT_ev (bin2_tt (ix_zq1 rfl) litD_ev rfl)
  have mkE : ∀ p : D, opN (mkD 2) (consA (ixD (nameD 1) (litD (.int 0))) (consA (ixD (nameD 1) (litD (.int 1))) nilA)) [some p, some (zq q)] = some (.t (.rat q), [some p, some (zq q)]) := fun p => by
    simp only [opN, consA, nilA, ix_zq0 (env := [some p, some (zq q)]) (i := 1) (q := q) rfl, ix_zq1 (env := [some p, some (zq q)]) (i := 1) (q := q) rfl, Option.bind_some, takeKs, takeK, frzs, D.frz, mk, backKs, backK]
  obtain ⟨d, a', b', e, h3, h4, h5⟩ := draw_at (env := [some (pot a b), some (zq q)]) (fb := litD (.int 2)) rfl litD_ev rfl h (by decide) (by decide)
  by_cases hd : q.den = 1
  · have b1 : ((q.den : Int) == 1) = true := by rw [hd]; rfl
    have t2 : andT (valT (bin2 eqD (ixD (nameD 1) (litD (.int 1))) (litD (.int 1)))) (valT (bin2 eqD (callF [true, false] m_law_draw (consA (nameD 0) (consA (litD (.int 2)) nilA))) (litD (.int 0)))) [some (pot a b), some (zq q)] = some (d == 0, [some (pot a' b'), some (zq q)]) := by
      have z := valT_and (c := (d == 0)) (e2 := [some (pot a' b'), some (zq q)]) (gt := valT (bin2 eqD (callF [true, false] m_law_draw (consA (nameD 0) (consA (litD (.int 2)) nilA))) (litD (.int 0)))) t1 (fun _ => valT_ev (bin2_tt e litD_ev rfl)) (fun w => by rw [b1] at w; cases w)
      rw [z, b1]
      rfl
    by_cases d0 : d = 0
    · refine ⟨.int q.num, a', b', evP_rt (ps := []) (ps' := [some (zq q)]) rfl (retS_t (e1 := [some (pot a' b'), some (zq q)]) ?_) rfl, ?_, h5⟩
      · show ifD _ _ _ [some (pot a b), some (zq q)] = _
        unfold ifD
        rw [t2, Option.bind_some, d0]
        exact ix_zq0 rfl
      · have z := NumD.int q.num
        rw [den_one hd] at z
        exact z
    · refine ⟨.rat q, a', b', evP_rt (ps := []) (ps' := [some (zq q)]) rfl (retS_t (e1 := [some (pot a' b'), some (zq q)]) ?_) rfl, .rat q, h5⟩
      show ifD _ _ _ [some (pot a b), some (zq q)] = _
      unfold ifD
      rw [t2, Option.bind_some, beq_eq_false_iff_ne.mpr d0]
      exact mkE _
  · have b1 : ((q.den : Int) == 1) = false := beq_eq_false_iff_ne.mpr (by omega)
    refine ⟨.rat q, a, b, evP_rt (ps := []) (ps' := [some (zq q)]) rfl (retS_t (e1 := [some (pot a b), some (zq q)]) ?_) rfl, .rat q, h⟩
    show ifD _ _ _ [some (pot a b), some (zq q)] = _
    unfold ifD
    have z := valT_and (c := false) (e2 := [some (pot a b), some (zq q)]) (gt := valT (bin2 eqD (callF [true, false] m_law_draw (consA (nameD 0) (consA (litD (.int 2)) nilA))) (litD (.int 0)))) t1 (fun w => by rw [b1] at w; cases w) (fun _ => rfl)
    rw [z, b1]
    exact mkE _
/-- a row as it is handed -/
theorem given_row {x1 x2 x3 x4 : Option D} : ∀ {r : List Rat} {a b : Int} {acc : List D} {ra : List Rat}, Pot a b → (∀ q ∈ r, Sq 1000 q) → NumsD acc ra → acc.length + r.length ≤ 1000 →
    ∃ ds a' b', compL [5] (nameG 5) yesT ce_law_given_1 (r.map zq) [some (pot a b), x1, x2, x3, x4, none] acc = some (ds, [some (pot a' b'), x1, x2, x3, x4, none]) ∧ NumsD ds (ra ++ r) ∧ Pot a' b'
  | [], a, b, acc, ra, h, _, hn, _ => ⟨acc, a, b, by rw [List.map_nil, compL], by rw [List.append_nil]; exact hn, h⟩
  | q :: r, a, b, acc, ra, h, hs, hn, hl => by
    have hl' : acc.length + (r.length + 1) ≤ 1000 := hl
    obtain ⟨d, a1, b1, e, nd, p1⟩ := passed_ev h (hs q List.mem_cons_self)
    have app : ∀ {acc : List D} {ra : List Rat}, NumsD acc ra → NumsD (acc ++ [d]) (ra ++ [q]) := by
      intro acc ra hn
      induction hn with
      | nil => exact .cons nd .nil
      | cons h _ ih => exact .cons h ih
    obtain ⟨ds, a', b', e2, n2, p2⟩ := given_row (x1 := x1) (x2 := x2) (x3 := x3) (x4 := x4) (r := r) p1 (fun q' hq => hs q' (List.mem_cons_of_mem _ hq)) (app hn) (by simp; omega)
    refine ⟨ds, a', b', ?_, by rw [List.append_assoc] at n2; exact n2, p2⟩
    have o1 : one [5] (nameG 5) yesT ce_law_given_1 (zq q) [some (pot a b), x1, x2, x3, x4, none] = some (some d, [some (pot a1 b1), x1, x2, x3, x4, none]) :=
      one_yes (nameG_ev (by simp)) (callP1 (e1 := [some (pot a b), x1, x2, x3, x4, some (zq q)]) rfl (nameD_fz rfl (zq_fz q)) rfl e) rfl
    rw [List.map_cons, compL_cons o1 (by show _ < 10000; omega)]
    exact e2
theorem tup_of {env : Dx.Env} {i : Nat} {ds : List D} (h : env[i]? = some (some (.lst true ds))) : opN tupleD (consA (nameD i) nilA) env = some (.t (.tup true (frzs ds)), env.set i (some (.lst true (frzs ds)))) := by
  have hf' : (D.lst true ds).fz = false := rfl
  simp only [opN, consA, nilA, nameD_ow h hf', Option.bind_some, takeKs, takeK, h, D.kfz, frzs, D.frz, tupleD, backKs, backK, List.set_set]
  rw [frzs_idem (ds := ds) rfl]
theorem RowsD.snoc {d : D} {r : List Rat} (h : RowD d r) : ∀ {ds : List D} {R : List (List Rat)}, RowsD ds R → RowsD (ds ++ [d]) (R ++ [r])
  | _, _, .nil => .cons h .nil
  | _, _, .cons k t => .cons k (RowsD.snoc h t)
theorem given_turn {a b : Int} {x1 o4 : Option D} {ds : List D} {R : List (List Rat)} {r : List Rat} (h : Pot a b) (hr : ∀ q ∈ r, Sq 1000 q) (hl : r.length ≤ 500) (hd : RowsD (frzs ds) R) (hn : ds.length ≤ 500) :
    ∃ ds' o4' a' b', lb_law_given_2 [some (pot a b), x1, some (.lst true ds), some (zl r), o4, none] = some (.nx [some (pot a' b'), x1, some (.lst true ds'), some (zl r), o4', none]) ∧ RowsD (frzs ds') (R ++ [r]) ∧ ds'.length = ds.length + 1 ∧ Pot a' b' := by
  obtain ⟨gs, a1, b1, e1, n1, p1⟩ := given_row (x1 := x1) (x2 := some (.lst true ds)) (x3 := some (zl r)) (x4 := o4) (r := r) (acc := []) (ra := []) h hr .nil (by show 0 + _ ≤ _; omega)
  have ng : NumsD gs r := n1
  have s1 : setS 4 (compD [5] (seqI (pnOf [true, false] 0) (nameD 3)) (nameG 5) yesT ce_law_given_1) [some (pot a b), x1, some (.lst true ds), some (zl r), o4, none] = some (.nx [some (pot a1 b1), x1, some (.lst true ds), some (zl r), some (.lst true gs), none]) :=
    setS_t (compD_of (items := r.map zq) (e1 := [some (pot a b), x1, some (.lst true ds), some (zl r), o4, none]) (e2 := [some (pot a1 b1), x1, some (.lst true ds), some (zl r), o4, none]) (seqI_fz (o := false) rfl (zl_fz r)) e1 rfl) (by simp)
  obtain ⟨d, a', b', e, h3, h4, h5⟩ := draw_at (env := [some (pot a1 b1), x1, some (.lst true ds), some (zl r), some (.lst true gs), none]) (fb := litD (.int 3)) rfl litD_ev rfl p1 (by decide) (by decide)
  have t : valT (bin2 eqD (callF [true, false] m_law_draw (consA (nameD 0) (consA (litD (.int 3)) nilA))) (litD (.int 0))) [some (pot a1 b1), x1, some (.lst true ds), some (zl r), some (.lst true gs), none] = some (d == 0, [some (pot a' b'), x1, some (.lst true ds), some (zl r), some (.lst true gs), none]) := valT_ev (bin2_tt e litD_ev rfl)
  have fg : frzs gs = gs := fzs_frzs gs ng.fz
  have o1 : ∀ p : D, ∀ x : Option D, ownL 2 [some p, x1, some (.lst true ds), some (zl r), x, none] = some ds := fun _ _ => rfl
  by_cases d0 : d = 0
  · refine ⟨ds ++ [.tup true gs], some (.lst true gs), a', b', seqS_any s1 ?_, ?_, by simp, h5⟩
    · unfold exprS appD
      rw [o1, Option.bind_some]
      unfold ifD
      rw [t, Option.bind_some, d0]
      dsimp only
      rw [if_pos (show ((0 : Int) == 0) = true from rfl), tup_of (env := [some (pot a' b'), x1, some (.lst true ds), some (zl r), some (.lst true gs), none]) (i := 4) rfl, fg, Option.bind_some]
      dsimp only [toT]
      rw [Option.bind_some]
      show ((ownL 2 [some (pot a' b'), x1, some (.lst true ds), some (zl r), some (.lst true gs), none]).bind _).bind _ = _
      rw [o1, Option.bind_some, if_pos (show ds.length < LMAX by show _ < 10000; omega)]
      rfl
    · rw [frzs_map, List.map_append, ← frzs_map]
      refine RowsD.snoc ?_ hd
      show RowD (D.tup false (frzs gs)) r
      rw [fg]
      exact RowD.mk true ng
  · refine ⟨ds ++ [.lst false gs], some (.lst false gs), a', b', seqS_any s1 ?_, ?_, by simp, h5⟩
    · unfold exprS appD
      rw [o1, Option.bind_some]
      unfold ifD
      rw [t, Option.bind_some, beq_eq_false_iff_ne.mpr d0]
      dsimp only
      rw [if_neg (by decide), nameD_ow (env := [some (pot a' b'), x1, some (.lst true ds), some (zl r), some (.lst true gs), none]) (i := 4) (d := .lst true gs) rfl rfl, Option.bind_some]
      dsimp only [toT, toF, List.getElem?_cons_succ, List.getElem?_cons_zero, D.frz]
      rw [fg, Option.bind_some]
      show ((ownL 2 [some (pot a' b'), x1, some (.lst true ds), some (zl r), some (.lst false gs), none]).bind _).bind _ = _
      rw [o1, Option.bind_some, if_pos (show ds.length < LMAX by show _ < 10000; omega)]
      rfl
    · rw [frzs_map, List.map_append, ← frzs_map]
      refine RowsD.snoc ?_ hd
      show RowD (D.lst false (frzs gs)) r
      rw [fg]
      exact RowD.mk false ng
theorem given_loop {x1 : Option D} : ∀ {R2 : List (List Rat)} {a b : Int} {o3 o4 : Option D} {ds : List D} {R : List (List Rat)}, Pot a b → (∀ r ∈ R2, (∀ q ∈ r, Sq 1000 q) ∧ r.length ≤ 500) → RowsD (frzs ds) R → ds.length + R2.length ≤ 500 →
    ∃ ds' o3' o4' a' b', forL (nameG 3) lb_law_given_2 (R2.map zl) [some (pot a b), x1, some (.lst true ds), o3, o4, none] = some (.nx [some (pot a' b'), x1, some (.lst true ds'), o3', o4', none]) ∧ RowsD (frzs ds') (R ++ R2) ∧ Pot a' b'
  | [], a, b, o3, o4, ds, R, h, _, hd, _ => ⟨ds, o3, o4, a, b, rfl, by rw [List.append_nil]; exact hd, h⟩
  | r :: R2, a, b, o3, o4, ds, R, h, hs, hd, hl => by
    have hl' : ds.length + (R2.length + 1) ≤ 500 := hl
    obtain ⟨ds1, o4', a1, b1, e1, hd1, l1, p1⟩ := given_turn (x1 := x1) (o4 := o4) h (hs r List.mem_cons_self).1 (hs r List.mem_cons_self).2 hd (by omega)
    obtain ⟨ds', p3, p4, a', b', e2, hd2, p2⟩ := given_loop (x1 := x1) (R2 := R2) (o3 := some (zl r)) (o4 := o4') p1 (fun x hx => hs x (List.mem_cons_of_mem _ hx)) hd1 (by omega)
    refine ⟨ds', p3, p4, a', b', ?_, by rw [List.append_assoc] at hd2; exact hd2, p2⟩
    rw [List.map_cons, forL]
    have tg : nameG 3 (zl r) [some (pot a b), x1, some (.lst true ds), o3, o4, none] = some [some (pot a b), x1, some (.lst true ds), some (zl r), o4, none] := rfl
    rw [tg, Option.bind_some, e1, Option.bind_some]
    exact e2
theorem given_ev {a b : Int} {R : List (List Rat)} (h : Pot a b) (hs : ∀ r ∈ R, (∀ q ∈ r, Sq 1000 q) ∧ r.length ≤ 500) (hl : R.length ≤ 500) : ∃ d a' b', EvP m_law_given a b [zg R] d a' b' ∧ GridD d.frz R ∧ Pot a' b' := by
  obtain ⟨ds, o3, o4, a1, b1, e1, hd, p1⟩ := given_loop (x1 := some (zg R)) (R2 := R) (o3 := none) (o4 := none) (ds := []) (R := []) h hs .nil (by show 0 + _ ≤ _; omega)
  have hd' : RowsD (frzs ds) R := hd
  obtain ⟨d, a', b', e, h3, h4, h5⟩ := draw_at (env := [some (pot a1 b1), some (zg R), some (.lst true ds), o3, o4, none]) (fb := litD (.int 3)) rfl litD_ev rfl p1 (by decide) (by decide)
  have t : valT (bin2 eqD (callF [true, false] m_law_draw (consA (nameD 0) (consA (litD (.int 3)) nilA))) (litD (.int 0))) [some (pot a1 b1), some (zg R), some (.lst true ds), o3, o4, none] = some (d == 0, [some (pot a' b'), some (zg R), some (.lst true ds), o3, o4, none]) := valT_ev (bin2_tt e litD_ev rfl)
  have i2 : seqI (pnOf [true, false] 0) (nameD 1) [some (pot a b), some (zg R), some (.lst true []), none, none, none] = some ⟨R.map zl, [some (pot a b), some (zg R), some (.lst true []), none, none, none], []⟩ := seqI_fz (o := false) rfl (zg_fz R)
  by_cases d0 : d = 0
  · have r3 : retS (ifD (valT (bin2 eqD (callF [true, false] m_law_draw (consA (nameD 0) (consA (litD (.int 3)) nilA))) (litD (.int 0)))) (opN tupleD (consA (nameD 2) nilA)) (nameD 2)) [some (pot a1 b1), some (zg R), some (.lst true ds), o3, o4, none] = some (.rt (.tup true (frzs ds)) [some (pot a' b'), some (zg R), some (.lst true (frzs ds)), o3, o4, none]) := by
      refine retS_t ?_
      unfold ifD
      rw [t, Option.bind_some, d0]
      exact tup_of rfl
    refine ⟨.tup true (frzs ds), a', b', evP_rt (ps := []) (ps' := [some (zg R)]) rfl ((seqS_nx (e := [some (pot a b), some (zg R), some (.lst true []), none, none, none]) rfl).trans ((seqS_nx (forS_of i2 e1)).trans r3)) rfl, ?_, h5⟩
    show GridD (D.tup false (frzs (frzs ds))) R
    rw [frzs_idem (ds := ds) rfl]
    exact GridD.mk true hd'
  · have r3 : retS (ifD (valT (bin2 eqD (callF [true, false] m_law_draw (consA (nameD 0) (consA (litD (.int 3)) nilA))) (litD (.int 0)))) (opN tupleD (consA (nameD 2) nilA)) (nameD 2)) [some (pot a1 b1), some (zg R), some (.lst true ds), o3, o4, none] = some (.rt (.lst false (frzs ds)) [some (pot a' b'), some (zg R), some (.lst false (frzs ds)), o3, o4, none]) := by
      refine retS_s (d' := .non) (d := .lst true ds) (i := 2) (e1 := [some (pot a' b'), some (zg R), some (.lst true ds), o3, o4, none]) ?_ rfl
      unfold ifD
      rw [t, Option.bind_some, beq_eq_false_iff_ne.mpr d0]
      dsimp only
      rw [if_neg (by decide)]
      exact nameD_ow (env := [some (pot a' b'), some (zg R), some (.lst true ds), o3, o4, none]) (d := .lst true ds) rfl rfl
    refine ⟨.lst false (frzs ds), a', b', evP_rt (ps := []) (ps' := [some (zg R)]) rfl ((seqS_nx (e := [some (pot a b), some (zg R), some (.lst true []), none, none, none]) rfl).trans ((seqS_nx (forS_of i2 e1)).trans r3)) rfl, ?_, h5⟩
    show GridD (D.lst false (frzs (frzs ds))) R
    rw [frzs_idem (ds := ds) rfl]
    exact GridD.mk false hd'
end K12

set_option Elab.async false
set_option linter.all false
set_option maxRecDepth 100000
set_option maxHeartbeats 4000000
set_option exponentiation.threshold 4000
namespace K12
open PySem PySem.Spec PyProof.Rows L2 Own Dx La
theorem blsOf_true {α : Type} : ∀ r : List α, blsOf (r.map fun _ => D.bl true) = some (r.map fun _ => true)
  | [] => rfl
  | a :: r => by rw [List.map_cons, blsOf, blsOf_true r]; rfl
theorem pairs_ev {r : List Rat} (hl : r.length ≤ 500) : EvF m_law_pairs [rl r] (.lst true (r.map fq)) := by
  have c1 : compD [1] (seqI (pnOf [false] 0) (nameD 0)) (nameG 1) yesT ce_law_pairs_1 [some (rl r), none] = some (.t (.lst true (r.map fun _ => D.bl true)), [some (rl r), none]) :=
    comp_t (l := r) (f := D.rat) (e1 := [some (rl r), none]) (seqI_fz (o := false) rfl (rl_fz r)) rfl (fun x hx => one_yes (nameG_ev (by simp)) (un1_t (nameD_fz (d := .rat x) rfl rfl) rfl) rfl) rfl (by show _ ≤ 10000; omega)
  have c2 : compD [1] (seqI (pnOf [false] 0) (nameD 0)) (nameG 1) yesT ce_law_pairs_2 [some (rl r), none] = some (.t (.lst true (r.map fq)), [some (rl r), none]) :=
    comp_t (l := r) (f := D.rat) (e1 := [some (rl r), none]) (seqI_fz (o := false) rfl (rl_fz r)) rfl (fun x hx => one_yes (nameG_ev (by simp)) (disp2 (t := true) (un1_t (nameD_fz (env := [some (rl r), some (.rat x)]) (i := 1) (d := .rat x) rfl rfl) (z := .int x.num) rfl) (un1_t (nameD_fz (env := [some (rl r), some (.rat x)]) (i := 1) (d := .rat x) rfl rfl) (z := .int x.den) rfl)) rfl) rfl (by show _ ≤ 10000; omega)
  have t1 : valT (un1 (isiTy "list") (nameD 0)) [some (rl r), none] = some (true, [some (rl r), none]) := valT_ev (un1_t (nameD_fz rfl (rl_fz r)) (by rw [rl_frz]; rfl))
  have t2 : valT (opN allD (consA (compD [1] (seqI (pnOf [false] 0) (nameD 0)) (nameG 1) yesT ce_law_pairs_1) nilA)) [some (rl r), none] = some (true, [some (rl r), none]) := by
    refine valT_ev (opN1_t c1 ?_)
    show allD [D.lst false (frzs (r.map fun _ => D.bl true))] = _
    rw [frzs_map' _ (fun _ => rfl) r]
    show (blsOf (r.map fun _ => D.bl true)).map _ = _
    rw [blsOf_true]
    show some (D.bl ((r.map fun _ => true).all id)) = _
    rw [show (r.map fun _ => true).all id = true by simp]
  have s1 : ifS (orT (notT (valT (un1 (isiTy "list") (nameD 0)))) (notT (valT (opN allD (consA (compD [1] (seqI (pnOf [false] 0) (nameD 0)) (nameG 1) yesT ce_law_pairs_1) nilA))))) (retS (litD .non)) nextS [some (rl r), none] = some (.nx [some (rl r), none]) := by
    refine ifS_no (valT_or (b := false) (c := false) (e1 := [some (rl r), none]) (e2 := [some (rl r), none]) ?_ (fun _ => ?_) (fun q => by cases q)) rfl
    · unfold notT
      rw [t1]
      rfl
    · unfold notT
      rw [t2]
      rfl
  exact ev_rt (env := [some (rl r), none]) rfl ((seqS_nx s1).trans (retS_t c2))
theorem law_rows_ev {S : List (List Rat)} (hs : ∀ r ∈ S, r.length ≤ 500) (hl : S.length ≤ 500) : EvF m_law_rows [rg S] (.lst true (S.map fun r => .lst true (r.map fq))) := by
  have t1 : valT (un1 (isiTy "list") (nameD 0)) [some (rg S), none] = some (true, [some (rg S), none]) := valT_ev (un1_t (nameD_fz rfl (rg_fz S)) (by rw [rg_frz]; rfl))
  refine ev_rt (env := [some (rg S), none]) rfl (retS_t (e1 := [some (rg S), none]) ?_)
  unfold ifD
  rw [t1, Option.bind_some]
  exact comp_t (l := S) (f := rl) (e1 := [some (rg S), none]) (seqI_fz (o := false) rfl (rg_fz S)) rfl (fun x hx => one_yes (nameG_ev (by simp)) (callF1 (nameD_fz rfl (rl_fz x)) (by rw [rl_frz]; exact pairs_ev (hs x hx))) rfl) rfl (by show _ ≤ 10000; omega)
/-! ### equality of told things -/
theorem eqB_int (i j : Int) : eqB (.int i) (.int j) = some (i == j) := rfl
theorem eqBs_same {α : Type} (f g : α → D) (h : ∀ a, eqB (f a) (g a) = some true) : ∀ r : List α, eqBs (r.map f) (r.map g) = some true
  | [] => rfl
  | a :: r => by rw [List.map_cons, List.map_cons, eqBs, h a]; exact eqBs_same f g h r
theorem eqB_zq (q : Rat) : eqB (zq q) (zq q) = some true := by
  unfold zq
  simp only [eqB, List.length_cons, List.length_nil, if_true, eqBs, flatD, eqFlat, beq_self_eq_true]
theorem eqB_lst {α : Type} (f g : α → D) (h : ∀ a, eqB (f a) (g a) = some true) (r : List α) : eqB (.lst false (r.map f)) (.lst false (r.map g)) = some true := by
  rw [eqB, if_pos (by simp)]
  exact eqBs_same f g h r
theorem eqB_zl (r : List Rat) : eqB (zl r) (zl r) = some true := eqB_lst zq zq eqB_zq r
theorem eqB_zg (S : List (List Rat)) : eqB (zg S) (zg S) = some true := eqB_lst zl zl eqB_zl S
theorem eqB_rat (q : Rat) : eqB (.rat q) (.rat q) = some true := by
  rw [eqB, decide_eq_true rfl]
theorem eqB_rl (r : List Rat) : eqB (rl r) (rl r) = some true := eqB_lst D.rat D.rat eqB_rat r
theorem eqB_rg (S : List (List Rat)) : eqB (rg S) (rg S) = some true := eqB_lst rl rl eqB_rl S
theorem dep_rl (r : List Rat) : dep (rl r) ≤ 1 := by
  show deps _ + 1 ≤ 1
  have := deps_map D.rat 0 (fun _ => Nat.le_refl _) r
  omega
theorem ne_same {d : D} (hf : flatD d = false) (hd : dep d ≤ 8) (h : eqB d d = some true) : neD d d = some (.bl false) := by
  unfold neD eqTop
  rw [hf]
  simp only [Bool.or_self, Bool.false_eq_true, if_false, hd, if_true, h]
  rfl
theorem eq_same {d : D} (hf : flatD d = false) (hd : dep d ≤ 8) (h : eqB d d = some true) : eqD d d = some (.bl true) := by
  unfold eqD eqTop
  rw [hf]
  simp only [Bool.or_self, Bool.false_eq_true, if_false, hd, if_true, h]
  rfl
theorem ne_zg (S : List (List Rat)) : neD (zg S) (zg S) = some (.bl false) := ne_same rfl (by
  show deps _ + 1 ≤ 8
  have := deps_map zl 2 dep_zl S
  omega) (eqB_zg S)
theorem dep_rg (S : List (List Rat)) : dep (rg S) ≤ 8 := by
  show deps _ + 1 ≤ 8
  have := deps_map rl 1 dep_rl S
  omega
theorem ne_rg (S : List (List Rat)) : neD (rg S) (rg S) = some (.bl false) := ne_same rfl (dep_rg S) (eqB_rg S)
theorem eq_rg (S : List (List Rat)) : eqD (rg S) (rg S) = some (.bl true) := eq_same rfl (dep_rg S) (eqB_rg S)
end K12

set_option Elab.async false
set_option linter.all false
set_option maxRecDepth 100000
set_option maxHeartbeats 4000000
set_option exponentiation.threshold 4000
namespace K12
open PySem PySem.Spec PyProof.Rows L2 Own Dx La
def E9 : List Rat := [0, 0, 1, -1, 2, 3, -2, mkRat 1 2, mkRat (-3) 2]
/-- a number of halves -/
def Hf (n : Nat) (x : Rat) : Prop := ∃ y : Int, x = (y : Rat) / 2 ∧ y.natAbs ≤ n
theorem E9_hf : ∀ x ∈ E9, Hf 6 x := by
  intro x hx
  have h : ∀ (x : Rat) (y : Int), y.natAbs ≤ 6 → x = (y : Rat) / 2 → Hf 6 x := fun x y hy e => ⟨y, e, hy⟩
  simp only [E9, List.mem_cons, List.not_mem_nil, or_false] at hx
  rcases hx with e | e | e | e | e | e | e | e | e <;> rw [e]
  · exact h _ 0 (by decide) (by decide +kernel)
  · exact h _ 0 (by decide) (by decide +kernel)
  · exact h _ 2 (by decide) (by decide +kernel)
  · exact h _ (-2) (by decide) (by decide +kernel)
  · exact h _ 4 (by decide) (by decide +kernel)
  · exact h _ 6 (by decide) (by decide +kernel)
  · exact h _ (-4) (by decide) (by decide +kernel)
  · exact h _ 1 (by decide) (by decide +kernel)
  · exact h _ (-3) (by decide) (by decide +kernel)
theorem Hf.mono {n m : Nat} {x : Rat} (h : Hf n x) (hm : n ≤ m) : Hf m x := let ⟨y, e, hy⟩ := h; ⟨y, e, Nat.le_trans hy hm⟩
theorem Hf.add {n : Nat} {x y : Rat} (h : Hf n x) (k : Hf n y) : Hf (2 * n) (x + y) := by
  obtain ⟨a, rfl, ha⟩ := h
  obtain ⟨b, rfl, hb⟩ := k
  refine ⟨a + b, ?_, by omega⟩
  rw [Rat.intCast_add]
  grind
theorem e9_frz : frzs [.tup true [.int 0, .int 1], .tup true [.int 0, .int 1], .tup true [.int 1, .int 1], .tup true [.int (-1), .int 1], .tup true [.int 2, .int 1], .tup true [.int 3, .int 1], .tup true [.int (-2), .int 1], .tup true [.int 1, .int 2], .tup true [.int (-3), .int 2]] = E9.map zq := by
  have a : (mkRat 1 2).num = 1 := by decide +kernel
  have a2 : (mkRat 1 2).den = 2 := by decide +kernel
  have b : (mkRat (-3) 2).num = -3 := by decide +kernel
  have b2 : (mkRat (-3) 2).den = 2 := by decide +kernel
  have e : ∀ i : Int, D.tup false [.int i, .int 1] = zq i := fun i => rfl
  have c : D.tup false [.int 1, .int 2] = zq (mkRat 1 2) := by unfold zq; rw [a, a2]; rfl
  have d : D.tup false [.int (-3), .int 2] = zq (mkRat (-3) 2) := by unfold zq; rw [b, b2]; rfl
  show [D.tup false [.int 0, .int 1], .tup false [.int 0, .int 1], .tup false [.int 1, .int 1], .tup false [.int (-1), .int 1], .tup false [.int 2, .int 1], .tup false [.int 3, .int 1], .tup false [.int (-2), .int 1], .tup false [.int 1, .int 2], .tup false [.int (-3), .int 2]] = _
  rw [c, d, e, e, e, e, e, e]
  rfl
theorem consA_t {fa : DE} {fb : DA} {env e1 e2 : Dx.Env} {x : D} {ds : List D} (ha : fa env = some (.t x, e1)) (hb : fb e1 = some (ds.map .t, e2)) : consA fa fb env = some ((x :: ds).map .t, e2) := by
  unfold consA
  rw [ha, Option.bind_some]
  dsimp only
  rw [hb]
  rfl
theorem toTs_t : ∀ (ds : List D) (e : Dx.Env), toTs (ds.map .t) e = some (ds, e)
  | [], e => rfl
  | d :: ds, e => by
    rw [List.map_cons, toTs]
    dsimp only [toT]
    rw [Option.bind_some]
    dsimp only
    rw [toTs_t ds e]
    rfl
theorem dispD_t {t : Bool} {ft : DA} {env e : Dx.Env} {ds : List D} (h : ft env = some (ds.map .t, e)) (hl : ds.length ≤ 10000) : dispD t ft env = some (.t (D.seq t true ds), e) := by
  unfold dispD
  rw [h, Option.bind_some]
  dsimp only
  rw [toTs_t, Option.bind_some]
  dsimp only
  rw [if_pos (show ds.length ≤ LMAX from hl)]
theorem disp9 {env : Dx.Env} : dispD false (consA (dispD true (consA (litD (.int 0)) (consA (litD (.int 1)) nilA))) (consA (dispD true (consA (litD (.int 0)) (consA (litD (.int 1)) nilA))) (consA (dispD true (consA (litD (.int 1)) (consA (litD (.int 1)) nilA))) (consA (dispD true (consA (un1 negD (litD (.int 1))) (consA (litD (.int 1)) nilA))) (consA (dispD true (consA (litD (.int 2)) (consA (litD (.int 1)) nilA))) (consA (dispD true (consA (litD (.int 3)) (consA (litD (.int 1)) nilA))) (consA (dispD true (consA (un1 negD (litD (.int 2))) (consA (litD (.int 1)) nilA))) (consA (dispD true (consA (litD (.int 1)) (consA (litD (.int 2)) nilA))) (consA (dispD true (consA (un1 negD (litD (.int 3))) (consA (litD (.int 2)) nilA))) nilA))))))))) env = some (.t (.lst true [.tup true [.int 0, .int 1], .tup true [.int 0, .int 1], .tup true [.int 1, .int 1], .tup true [.int (-1), .int 1], .tup true [.int 2, .int 1], .tup true [.int 3, .int 1], .tup true [.int (-2), .int 1], .tup true [.int 1, .int 2], .tup true [.int (-3), .int 2]]), env) := by
  have d : ∀ i j : Int, dispD true (consA (litD (.int i)) (consA (litD (.int j)) nilA)) env = some (.t (.tup true [.int i, .int j]), env) := fun i j => disp2 (t := true) litD_ev litD_ev
  have n : ∀ i j : Int, dispD true (consA (un1 negD (litD (.int i))) (consA (litD (.int j)) nilA)) env = some (.t (.tup true [.int (-i), .int j]), env) := fun i j => disp2 (t := true) (un1_t litD_ev rfl) litD_ev
  exact dispD_t (t := false) (consA_t (d 0 1) (consA_t (d 0 1) (consA_t (d 1 1) (consA_t (n 1 1) (consA_t (d 2 1) (consA_t (d 3 1) (consA_t (n 2 1) (consA_t (d 1 2) (consA_t (n 3 2) (ds := []) rfl))))))))) (by decide)
theorem entry_ev {a b : Int} (h : Pot a b) : ∃ q a' b', EvP m_law_entry a b [] (zq q) a' b' ∧ q ∈ E9 ∧ Pot a' b' := by
  obtain ⟨i, d, a', b', e, hi, hd, p⟩ := pick_ev (o := true) (l := [.tup true [.int 0, .int 1], .tup true [.int 0, .int 1], .tup true [.int 1, .int 1], .tup true [.int (-1), .int 1], .tup true [.int 2, .int 1], .tup true [.int 3, .int 1], .tup true [.int (-2), .int 1], .tup true [.int 1, .int 2], .tup true [.int (-3), .int 2]]) h (by decide) (by decide)
  rw [e9_frz, List.getElem?_map] at hd
  cases q : E9[i]? with
  | none => rw [q] at hd; cases hd
  | some x =>
    rw [q] at hd
    have hd' : zq x = d := Option.some.inj hd
    subst hd'
    have r := retS_t (callR1t (env := [some (pot a b)]) rfl disp9 rfl e)
    exact ⟨x, a', b', evP_rt (ps := []) (ps' := []) (env := [some (pot a b)]) rfl r rfl, List.mem_of_getElem? q, p⟩
theorem entries_ev {x1 x2 x3 x4 x5 x7 x8 : Option D} : ∀ {its : List D} {a b : Int} {acc : List Rat}, Pot a b → acc.length + its.length ≤ 500 →
    ∃ r a' b', compL [6] (nameG 6) yesT ce_law_grid_1 its [some (pot a b), x1, x2, x3, x4, x5, none, x7, x8] (acc.map zq) = some ((acc ++ r).map zq, [some (pot a' b'), x1, x2, x3, x4, x5, none, x7, x8]) ∧ r.length = its.length ∧ (∀ x ∈ r, Hf 6 x) ∧ Pot a' b'
  | [], a, b, acc, h, _ => ⟨[], a, b, by rw [compL, List.append_nil], rfl, (fun x hx => by cases hx), h⟩
  | d :: its, a, b, acc, h, hl => by
    have hl' : acc.length + (its.length + 1) ≤ 500 := hl
    obtain ⟨q, a1, b1, e, hq, p1⟩ := entry_ev h
    obtain ⟨r, a', b', e2, hr, hf, p2⟩ := entries_ev (x1 := x1) (x2 := x2) (x3 := x3) (x4 := x4) (x5 := x5) (x7 := x7) (x8 := x8) (its := its) (acc := acc ++ [q]) p1 (by simp; omega)
    refine ⟨q :: r, a', b', ?_, by simp [hr], fun x hx => (List.mem_cons.mp hx).elim (fun z => z ▸ E9_hf q hq) (hf x), p2⟩
    have o1 : one [6] (nameG 6) yesT ce_law_grid_1 d [some (pot a b), x1, x2, x3, x4, x5, none, x7, x8] = some (some (zq q), [some (pot a1 b1), x1, x2, x3, x4, x5, none, x7, x8]) :=
      one_yes (e1 := [some (pot a b), x1, x2, x3, x4, x5, some d, x7, x8]) (nameG_ev (by simp)) (callP0 (a := a) (b := b) rfl e) rfl
    rw [compL_cons o1 (by rw [List.length_map]; show _ < 10000; omega)]
    have : (acc.map zq) ++ (some (zq q)).toList = (acc ++ [q]).map zq := by simp
    rw [this, e2]
    simp
theorem ne_own {env : Dx.Env} {i : Nat} {l : List D} (h : env[i]? = some (some (.lst true l))) (hl : frzs l = l) (hd : deps l + 1 ≤ 8) : valT (bin2 neD (nameD i) (dispD false nilA)) env = some (!l.isEmpty, env) := by
  refine valT_ev ?_
  have hf' : (D.lst true l).fz = false := rfl
  simp only [bin2, opN, consA, nilA, nameD_ow h hf', disp0, D.seq, Option.bind_some, takeKs, takeK, h, D.kfz, hl, frzs, D.frz, g2, ne_lst_nil hd, backKs, backK, List.set_set, set_self h]
  simp only [Bool.false_eq_true, if_false, D.frz, frzs, ne_lst_nil hd, Option.bind_some, backKs, backK, List.set_set, set_self h]
theorem grid_turn {a b : Int} {x1 o4 o5 : Option D} {wide : Nat} {R : List (List Rat)} {n : Nat} (h : Pot a b) (hw : wide ≤ 6) (hR : ∀ r ∈ R, r.length = wide ∧ ∀ x ∈ r, Hf n x) (hn : 6 ≤ n) (hn2 : n ≤ 10000) (hl : R.length ≤ 100) :
    ∃ r o5' a' b', lb_law_grid_3 [some (pot a b), x1, some (.int (wide : Nat)), some (.lst true (R.map zl)), o4, o5, none, none, none] = some (.nx [some (pot a' b'), x1, some (.int (wide : Nat)), some (.lst true ((R ++ [r]).map zl)), o4, o5', none, none, none]) ∧ r.length = wide ∧ (∀ x ∈ r, Hf (2 * n) x) ∧ Pot a' b' := by
  have fzl : frzs (R.map zl) = R.map zl := frzs_zl R
  obtain ⟨r0, a1, b1, e1, l1, h1, p1⟩ := entries_ev (x1 := x1) (x2 := some (.int (wide : Nat))) (x3 := some (.lst true (R.map zl))) (x4 := o4) (x5 := o5) (x7 := none) (x8 := none) (its := rangeL 0 wide) (acc := []) h (by unfold rangeL; simp; omega)
  have lr : (rangeL 0 wide).length = wide := by unfold rangeL; simp
  rw [lr] at l1
  rw [List.nil_append] at e1
  have i1 : range1I (consA (nameD 2) nilA) [some (pot a b), x1, some (.int (wide : Nat)), some (.lst true (R.map zl)), o4, o5, none, none, none] = some ⟨rangeL 0 wide, [some (pot a b), x1, some (.int (wide : Nat)), some (.lst true (R.map zl)), o4, o5, none, none, none], []⟩ :=
    range1I_ev (i := (wide : Nat)) (by simp only [consA, nilA, nameD_fz (env := [some (pot a b), x1, some (.int (wide : Nat)), some (.lst true (R.map zl)), o4, o5, none, none, none]) (i := 2) (d := .int (wide : Nat)) rfl rfl, Option.bind_some]) (bnd_nat (by omega))
  have s1 : setS 5 (compD [6] (range1I (consA (nameD 2) nilA)) (nameG 6) yesT ce_law_grid_1) [some (pot a b), x1, some (.int (wide : Nat)), some (.lst true (R.map zl)), o4, o5, none, none, none] = some (.nx [some (pot a1 b1), x1, some (.int (wide : Nat)), some (.lst true (R.map zl)), o4, some (.lst true (r0.map zq)), none, none, none]) :=
    setS_t (compD_of (e1 := [some (pot a b), x1, some (.int (wide : Nat)), some (.lst true (R.map zl)), o4, o5, none, none, none]) (e2 := [some (pot a1 b1), x1, some (.int (wide : Nat)), some (.lst true (R.map zl)), o4, o5, none, none, none]) i1 e1 rfl) (by simp)
  have dp : deps (R.map zl) + 1 ≤ 8 := by have := deps_map zl 2 dep_zl R; omega
  have t1 := ne_own (env := [some (pot a1 b1), x1, some (.int (wide : Nat)), some (.lst true (R.map zl)), o4, some (.lst true (r0.map zq)), none, none, none]) (i := 3) rfl fzl dp
  obtain ⟨d, a2, b2, e2, d0, d1, p2⟩ := draw_at (env := [some (pot a1 b1), x1, some (.int (wide : Nat)), some (.lst true (R.map zl)), o4, some (.lst true (r0.map zq)), none, none, none]) (fb := litD (.int 3)) rfl litD_ev rfl p1 (by decide) (by decide)
  have t2 : valT (bin2 eqD (callF [true, false] m_law_draw (consA (nameD 0) (consA (litD (.int 3)) nilA))) (litD (.int 0))) [some (pot a1 b1), x1, some (.int (wide : Nat)), some (.lst true (R.map zl)), o4, some (.lst true (r0.map zq)), none, none, none] = some (d == 0, [some (pot a2 b2), x1, some (.int (wide : Nat)), some (.lst true (R.map zl)), o4, some (.lst true (r0.map zq)), none, none, none]) := valT_ev (bin2_tt e2 litD_ev rfl)
  -- the row is appended
  have fin : ∀ (a b : Int) (r : List Rat) (g : D), g.frz = zl r → exprS (appD 3 (nameD 5)) [some (pot a b), x1, some (.int (wide : Nat)), some (.lst true (R.map zl)), o4, some g, none, none, none] = some (.nx [some (pot a b), x1, some (.int (wide : Nat)), some (.lst true ((R ++ [r]).map zl)), o4, some (zl r), none, none, none]) := by
    intro a b r g hg
    unfold exprS
    rw [appD_n (l := R.map zl) (d := g) rfl rfl (by decide) (by rw [List.length_map]; omega), hg, List.map_append]
    rfl
  have fq0 : (D.lst true (r0.map zq)).frz = zl r0 := by show D.lst false (frzs _) = _; rw [frzs_zq]; rfl
  have keep : ∀ (a' b' : Int), Pot a' b' → (andT (valT (bin2 neD (nameD 3) (dispD false nilA))) (valT (bin2 eqD (callF [true, false] m_law_draw (consA (nameD 0) (consA (litD (.int 3)) nilA))) (litD (.int 0)))) [some (pot a1 b1), x1, some (.int (wide : Nat)), some (.lst true (R.map zl)), o4, some (.lst true (r0.map zq)), none, none, none] = some (false, [some (pot a' b'), x1, some (.int (wide : Nat)), some (.lst true (R.map zl)), o4, some (.lst true (r0.map zq)), none, none, none])) →
      ∃ r o5' a' b', lb_law_grid_3 [some (pot a b), x1, some (.int (wide : Nat)), some (.lst true (R.map zl)), o4, o5, none, none, none] = some (.nx [some (pot a' b'), x1, some (.int (wide : Nat)), some (.lst true ((R ++ [r]).map zl)), o4, o5', none, none, none]) ∧ r.length = wide ∧ (∀ x ∈ r, Hf (2 * n) x) ∧ Pot a' b' := by
    intro a' b' p' t
    exact ⟨r0, some (zl r0), a', b', seqS_any s1 (seqS_any (ifS_no t rfl) (fin a' b' r0 _ fq0)), l1, fun x hx => (h1 x hx).mono (by omega), p'⟩
  by_cases hR0 : R = []
  · refine keep a1 b1 p1 ?_
    have z := valT_and (c := false) (gt := valT (bin2 eqD (callF [true, false] m_law_draw (consA (nameD 0) (consA (litD (.int 3)) nilA))) (litD (.int 0)))) t1 (e2 := [some (pot a1 b1), x1, some (.int (wide : Nat)), some (.lst true (R.map zl)), o4, some (.lst true (r0.map zq)), none, none, none]) (fun q => by subst hR0; cases q) (fun _ => rfl)
    rw [z, Bool.and_false]
  · have ne : (!(R.map zl).isEmpty) = true := by cases R with
      | nil => exact absurd rfl hR0
      | cons _ _ => rfl
    have tt := valT_and (c := (d == 0)) (gt := valT (bin2 eqD (callF [true, false] m_law_draw (consA (nameD 0) (consA (litD (.int 3)) nilA))) (litD (.int 0)))) t1 (e2 := [some (pot a2 b2), x1, some (.int (wide : Nat)), some (.lst true (R.map zl)), o4, some (.lst true (r0.map zq)), none, none, none]) (fun _ => t2) (fun q => by rw [ne] at q; cases q)
    rw [ne, Bool.true_and] at tt
    by_cases hd : d = 0
    · rw [show (d == 0) = true by rw [hd]; rfl] at tt
      have lR : 0 < (R.map zl).length := by
        rw [List.length_map]
        exact List.length_pos_iff.mpr hR0
      have pk : ∀ (a b : Int), Pot a b → ∃ r a' b', callF [true, true] m_law_pick (consA (nameD 0) (consA (nameD 3) nilA)) [some (pot a b), x1, some (.int (wide : Nat)), some (.lst true (R.map zl)), o4, some (.lst true (r0.map zq)), none, none, none] = some (.t (zl r), [some (pot a' b'), x1, some (.int (wide : Nat)), some (.lst true (R.map zl)), o4, some (.lst true (r0.map zq)), none, none, none]) ∧ r ∈ R ∧ Pot a' b' := by
        intro a b p
        obtain ⟨i, dd, a', b', e, hi, hd, p'⟩ := pick_ev (o := true) (l := R.map zl) p lR (by rw [List.length_map]; omega)
        rw [fzl] at hd e
        rw [List.getElem?_map] at hd
        cases q : R[i]? with
        | none => rw [q] at hd; cases hd
        | some r =>
          rw [q] at hd
          have hd' : zl r = dd := Option.some.inj hd
          subst hd'
          exact ⟨r, a', b', callR1 (j := 3) (y := .lst true (R.map zl)) rfl rfl rfl (by decide) e, List.mem_of_getElem? q, p'⟩
      obtain ⟨r1, a3, b3, k1, m1, p3⟩ := pk a2 b2 p2
      obtain ⟨r2, a4, b4, k2, m2, p4⟩ := pk a3 b3 p3
      have hr1 := hR r1 m1
      have hr2 := hR r2 m2
      have s2 : setS 5 (compD [7, 8] (zipI (pnOf [true, false, false] 0) (callF [true, true] m_law_pick (consA (nameD 0) (consA (nameD 3) nilA))) (callF [true, true] m_law_pick (consA (nameD 0) (consA (nameD 3) nilA)))) (tupG 2 (consG (nameG 7) (consG (nameG 8) nilG))) yesT ce_law_grid_2) [some (pot a2 b2), x1, some (.int (wide : Nat)), some (.lst true (R.map zl)), o4, some (.lst true (r0.map zq)), none, none, none]
          = some (.nx [some (pot a4 b4), x1, some (.int (wide : Nat)), some (.lst true (R.map zl)), o4, some (.lst true (((r1.zip r2).map fun p => p.1 + p.2).map fq)), none, none, none]) := by
        rw [List.map_map]
        refine setS_t (comp_t (l := r1.zip r2) (f := fun p => .tup true [zq p.1, zq p.2]) (g := fq ∘ fun p => p.1 + p.2) (e1 := [some (pot a4 b4), x1, some (.int (wide : Nat)), some (.lst true (R.map zl)), o4, some (.lst true (r0.map zq)), none, none, none]) (env0 := [some (pot a4 b4), x1, some (.int (wide : Nat)), some (.lst true (R.map zl)), o4, some (.lst true (r0.map zq)), none, none, none]) ?_ rfl (fun p hp => ?_) rfl ?_) (by simp)
        · simp only [zipI, k1, k2, Option.bind_some, itTake, zl_frz]
          simp only [zl, isL, Option.bind_some, zipL_zip, List.append_nil]
        · obtain ⟨x, y⟩ := p
          have hx := hr1.2 x (List.of_mem_zip hp).1
          have hy := hr2.2 y (List.of_mem_zip hp).2
          have sm : ∀ z : Rat, Hf n z → Sq 100 z := fun z hz => by
            obtain ⟨y, rfl, hy⟩ := hz
            have : ((2 : Int) : Rat) = 2 := rfl
            rw [← this]
            exact divq (by decide) (Nat.lt_of_le_of_lt (Nat.le_trans hy hn2) (by decide)) (by decide)
          exact one_yes (pairG_ev (by simp) (by simp)) (callF2 (nameD_fz rfl (zq_fz x)) (nameD_fz rfl (zq_fz y)) (sum_ev (k := 100) (by decide) (sm x hx) (sm y hy))) rfl
        · rw [List.length_zip]
          have := hr1.1
          show _ ≤ 10000
          omega
      refine ⟨(r1.zip r2).map fun p => p.1 + p.2, _, a4, b4, seqS_any s1 (seqS_any (ifS_yes tt s2) (fin a4 b4 _ _ ?_)), ?_, fun x hx => ?_, p4⟩
      · show D.lst false (frzs _) = _
        rw [frzs_fq]
        rfl
      · rw [List.length_map, List.length_zip, hr1.1, hr2.1, Nat.min_self]
      · obtain ⟨⟨u, v⟩, hp, rfl⟩ := List.mem_map.mp hx
        exact (hr1.2 u (List.of_mem_zip hp).1).add (hr2.2 v (List.of_mem_zip hp).2)
    · rw [show (d == 0) = false from beq_eq_false_iff_ne.mpr hd] at tt
      exact keep a2 b2 p2 tt
end K12

set_option Elab.async false
set_option linter.all false
set_option maxRecDepth 100000
set_option maxHeartbeats 4000000
set_option exponentiation.threshold 4000
namespace K12
open PySem PySem.Spec PyProof.Rows L2 Own Dx La
theorem grid_loop {x1 : Option D} {wide : Nat} (hw : wide ≤ 6) : ∀ {its : List D} {a b : Int} {o4 o5 : Option D} {R : List (List Rat)}, Pot a b → (∀ r ∈ R, r.length = wide ∧ ∀ x ∈ r, Hf (6 * 2 ^ R.length) x) → R.length + its.length ≤ 8 →
    ∃ (R' : List (List Rat)) (o4' o5' : Option D) (a' b' : Int), forL (nameG 4) lb_law_grid_3 its [some (pot a b), x1, some (.int (wide : Nat)), some (.lst true (R.map zl)), o4, o5, none, none, none] = some (.nx [some (pot a' b'), x1, some (.int (wide : Nat)), some (.lst true (R'.map zl)), o4', o5', none, none, none]) ∧ R'.length = R.length + its.length ∧ (∀ r ∈ R', r.length = wide ∧ ∀ x ∈ r, Hf (6 * 2 ^ R'.length) x) ∧ Pot a' b'
  | [], a, b, o4, o5, R, h, hR, _ => ⟨R, o4, o5, a, b, rfl, rfl, hR, h⟩
  | d :: its, a, b, o4, o5, R, h, hR, hl => by
    have hl' : R.length + (its.length + 1) ≤ 8 := hl
    have p2 : 2 ^ R.length ≤ 2 ^ 8 := Nat.pow_le_pow_right (by decide) (by omega)
    have p1 : 1 ≤ 2 ^ R.length := Nat.pow_pos (by decide)
    obtain ⟨r, o5', a1, b1, e, lr, hr, p⟩ := grid_turn (x1 := x1) (o4 := some d) (o5 := o5) (n := 6 * 2 ^ R.length) h hw hR (by omega) (by omega) (by omega)
    have hp : 2 ^ (R.length + 1) = 2 * 2 ^ R.length := by rw [Nat.pow_succ]; omega
    obtain ⟨R', p4, p5, a', b', e2, l2, h2, q2⟩ := grid_loop (x1 := x1) hw (its := its) (o4 := some d) (o5 := o5') (R := R ++ [r]) p (fun r' hr' => by
      rw [List.length_append, List.length_singleton, hp]
      rcases List.mem_append.mp hr' with g | g
      · exact ⟨(hR r' g).1, fun x hx => ((hR r' g).2 x hx).mono (by omega)⟩
      · rw [List.mem_singleton.mp g]
        exact ⟨lr, fun x hx => (hr x hx).mono (by omega)⟩) (by simp; omega)
    refine ⟨R', p4, p5, a', b', ?_, by rw [l2, List.length_append, List.length_singleton, List.length_cons]; omega, h2, q2⟩
    rw [forL]
    have tg : nameG 4 d [some (pot a b), x1, some (.int (wide : Nat)), some (.lst true (R.map zl)), o4, o5, none, none, none] = some [some (pot a b), x1, some (.int (wide : Nat)), some (.lst true (R.map zl)), some d, o5, none, none, none] := rfl
    rw [tg, Option.bind_some, e, Option.bind_some]
    exact e2
theorem grid_ev {a b : Int} {many wide : Nat} (h : Pot a b) (hm : many ≤ 6) (hw : wide ≤ 6) : ∃ (R : List (List Rat)) (a' b' : Int), EvP m_law_grid a b [.int many, .int wide] (.lst true (R.map zl)) a' b' ∧ R.length = many ∧ (∀ r ∈ R, r.length = wide ∧ ∀ x ∈ r, Hf (6 * 2 ^ many) x) ∧ Pot a' b' := by
  have i1 : range1I (consA (nameD 1) nilA) [some (pot a b), some (.int (many : Nat)), some (.int (wide : Nat)), some (.lst true []), none, none, none, none, none] = some ⟨rangeL 0 many, [some (pot a b), some (.int (many : Nat)), some (.int (wide : Nat)), some (.lst true []), none, none, none, none, none], []⟩ :=
    range1I_ev (i := (many : Nat)) (by simp only [consA, nilA, nameD_fz (env := [some (pot a b), some (.int (many : Nat)), some (.int (wide : Nat)), some (.lst true []), none, none, none, none, none]) (i := 1) (d := .int (many : Nat)) rfl rfl, Option.bind_some]) (bnd_nat (by omega))
  have lr : (rangeL 0 many).length = many := by unfold rangeL; simp
  obtain ⟨R, o4, o5, a', b', e, l, hR, p⟩ := grid_loop (x1 := some (.int (many : Nat))) hw (its := rangeL 0 many) (o4 := none) (o5 := none) (R := []) h (fun r hr => by cases hr) (by rw [lr]; show 0 + _ ≤ _; omega)
  have l' : R.length = many := by rw [l, lr]; show 0 + many = many; omega
  have rv : retV 3 [some (pot a' b'), some (.int (many : Nat)), some (.int (wide : Nat)), some (.lst true (R.map zl)), o4, o5, none, none, none] = some (.rt (.lst true (R.map zl)) [some (pot a' b'), some (.int (many : Nat)), some (.int (wide : Nat)), none, o4, o5, none, none, none]) := rfl
  refine ⟨R, a', b', evP_rt (ps := []) (ps' := [some (.int (many : Nat)), some (.int (wide : Nat))]) rfl ((seqS_nx (e := [some (pot a b), some (.int (many : Nat)), some (.int (wide : Nat)), some (.lst true []), none, none, none, none, none]) rfl).trans ((seqS_nx (forS_of i1 e)).trans rv)) rfl, l', fun r hr => ⟨(hR r hr).1, fun x hx => by have := (hR r hr).2 x hx; rw [l'] at this; exact this⟩, p⟩
/-! ### in another sequence -/
theorem eraseIdx_map' {α β : Type} (f : α → β) : ∀ (l : List α) (i : Nat), (l.map f).eraseIdx i = (l.eraseIdx i).map f
  | [], i => by cases i <;> rfl
  | a :: l, 0 => rfl
  | a :: l, i + 1 => by
    show f a :: (l.map f).eraseIdx i = f a :: (l.eraseIdx i).map f
    rw [eraseIdx_map' f l i]
theorem cons_eraseIdx {α : Type} : ∀ (l : List α) (i : Nat) (h : i < l.length), (l[i] :: l.eraseIdx i).Perm l
  | [], i, h => by simp at h
  | a :: l, 0, h => List.Perm.refl _
  | a :: l, i + 1, h => by
    have h' : i < l.length := by simpa using h
    show (l[i] :: a :: l.eraseIdx i).Perm (a :: l)
    exact (List.Perm.swap a l[i] _).trans ((cons_eraseIdx l i h').cons a)
theorem shuf_turn {a b : Int} {x1 : Option D} {L F : List (List Rat)} (h : Pot a b) (h0 : L ≠ []) (hl : L.length ≤ 500) (hf : F.length ≤ 500) :
    ∃ (i : Nat) (hi : i < L.length) (a' b' : Int), lb_law_shuffled_1 [some (pot a b), x1, some (.lst true (L.map zl)), some (.lst true (F.map zl))] = some (.nx [some (pot a' b'), x1, some (.lst true ((L.eraseIdx i).map zl)), some (.lst true ((F ++ [L[i]]).map zl))]) ∧ Pot a' b' := by
  have fz : ∀ G : List (List Rat), frzs (G.map zl) = G.map zl := fun G => frzs_zl G
  have l0 : 0 < L.length := List.length_pos_iff.mpr h0
  obtain ⟨d, a', b', e, d0, d1, p⟩ := draw_at (env := [some (pot a b), x1, some (.lst true (L.map zl)), some (.lst true (F.map zl))]) (fb := opN lenD (consA (nameD 2) nilA)) rfl (len_ow (i := 2) (o := true) (l := L.map zl) rfl rfl) rfl h (by rw [List.length_map]; omega) (by rw [List.length_map]; omega)
  rw [List.length_map] at d1
  obtain ⟨i, rfl⟩ : ∃ i : Nat, d = (i : Int) := ⟨d.toNat, by omega⟩
  have hi : i < L.length := by omega
  refine ⟨i, hi, a', b', ?_, p⟩
  rw [fz] at e
  have e' : callF [true, false] m_law_draw (consA (nameD 0) (consA (opN lenD (consA (nameD 2) nilA)) nilA)) [some (pot a b), x1, some (.lst true (L.map zl)), some (.lst true (F.map zl))] = some (.t (.int (i : Nat)), [some (pot a' b'), x1, some (.lst true (L.map zl)), some (.lst true (F.map zl))]) := e
  have gi : (L.map zl)[i]? = some (zl L[i]) := by rw [List.getElem?_map, List.getElem?_eq_getElem hi]; rfl
  have o2 : ∀ p : D, ownL 2 [some p, x1, some (.lst true (L.map zl)), some (.lst true (F.map zl))] = some (L.map zl) := fun _ => rfl
  have o3 : ∀ (p : D) (x : Option D), ownL 3 [some p, x1, x, some (.lst true (F.map zl))] = some (F.map zl) := fun _ _ => rfl
  have pp : popAtD 2 (callF [true, false] m_law_draw (consA (nameD 0) (consA (opN lenD (consA (nameD 2) nilA)) nilA))) [some (pot a b), x1, some (.lst true (L.map zl)), some (.lst true (F.map zl))] = some (.t (zl L[i]), [some (pot a' b'), x1, some (.lst true ((L.eraseIdx i).map zl)), some (.lst true (F.map zl))]) := by
    unfold popAtD
    rw [o2, Option.bind_some, e', Option.bind_some]
    dsimp only [toF, D.frz]
    rw [Option.bind_some]
    dsimp only [intOf]
    rw [Option.bind_some]
    rw [o2, Option.bind_some, if_pos (by omega), Int.toNat_natCast, gi, Option.bind_some, eraseIdx_map']
    rfl
  unfold lb_law_shuffled_1 exprS appD
  rw [o3, Option.bind_some, pp, Option.bind_some]
  dsimp only [toT]
  rw [Option.bind_some]
  dsimp only
  rw [o3, Option.bind_some, if_pos (show (F.map zl).length < LMAX by rw [List.length_map]; show _ < 10000; omega), List.map_append]
  rfl
theorem shuf_loop {x1 : Option D} {G : List (List Rat)} (hg : G.length ≤ 90) : ∀ (n : Nat) {a b : Int} {L F : List (List Rat)}, Pot a b → (F ++ L).Perm G → L.length < n →
    ∃ (F' : List (List Rat)) (a' b' : Int), whileS n (valT (bin2 neD (nameD 2) (dispD false nilA))) lb_law_shuffled_1 [some (pot a b), x1, some (.lst true (L.map zl)), some (.lst true (F.map zl))] = some (.nx [some (pot a' b'), x1, some (.lst true []), some (.lst true (F'.map zl))]) ∧ F'.Perm G ∧ Pot a' b'
  | 0, a, b, L, F, h, hp, hl => by omega
  | n + 1, a, b, L, F, h, hp, hl => by
    have len := hp.length_eq
    rw [List.length_append] at len
    have dp : deps (L.map zl) + 1 ≤ 8 := by have := deps_map zl 2 dep_zl L; omega
    have t := ne_own (env := [some (pot a b), x1, some (.lst true (L.map zl)), some (.lst true (F.map zl))]) (i := 2) rfl (frzs_zl L) dp
    rw [whileS, t, Option.bind_some]
    cases L with
    | nil =>
      rw [List.append_nil] at hp
      exact ⟨F, a, b, rfl, hp, h⟩
    | cons r L =>
      obtain ⟨i, hi, a1, b1, e, p⟩ := shuf_turn (x1 := x1) (L := r :: L) (F := F) h (by simp) (by omega) (by omega)
      have ll : ((r :: L).eraseIdx i).length = L.length := by rw [List.length_eraseIdx_of_lt hi]; rfl
      obtain ⟨F', a', b', e2, h2, p2⟩ := shuf_loop (x1 := x1) hg n (L := (r :: L).eraseIdx i) (F := F ++ [(r :: L)[i]]) p (by
        rw [List.append_assoc]
        refine List.Perm.trans (List.Perm.append_left F ?_) hp
        exact cons_eraseIdx _ i hi) (by rw [ll]; rw [List.length_cons] at hl; omega)
      refine ⟨F', a', b', ?_, h2, p2⟩
      dsimp only
      rw [if_pos (show (!(List.map zl (r :: L)).isEmpty) = true from rfl), e, Option.bind_some]
      exact e2
theorem shuffled_ev {a b : Int} {G : List (List Rat)} (h : Pot a b) (hg : G.length ≤ 90) : ∃ (F : List (List Rat)) (a' b' : Int), EvP m_law_shuffled a b [zg G] (.lst true (F.map zl)) a' b' ∧ F.Perm G ∧ Pot a' b' := by
  have s1 : parS2 2 3 (consA (opN listD (consA (nameD 1) nilA)) (consA (dispD false nilA) nilA)) [some (pot a b), some (zg G), none, none] = some (.nx [some (pot a b), some (zg G), some (.lst true (G.map zl)), some (.lst true [])]) := by
    have l : opN listD (consA (nameD 1) nilA) [some (pot a b), some (zg G), none, none] = some (.t (.lst true (G.map zl)), [some (pot a b), some (zg G), none, none]) := opN1_t (nameD_fz rfl (zg_fz G)) (by rw [zg_frz]; rfl)
    unfold parS2
    simp only [consA, nilA, l, disp0, Option.bind_some, toTs, toT, List.length_cons, List.length_nil]
    rfl
  obtain ⟨F, a', b', e, hp, p⟩ := shuf_loop (x1 := some (zg G)) hg 100 (L := G) (F := []) h (List.Perm.refl _) (by omega)
  have rv : retV 3 [some (pot a' b'), some (zg G), some (.lst true []), some (.lst true (F.map zl))] = some (.rt (.lst true (F.map zl)) [some (pot a' b'), some (zg G), some (.lst true []), none]) := rfl
  exact ⟨F, a', b', evP_rt (ps := []) (ps' := [some (zg G)]) (env := [some (pot a b), some (zg G), none, none]) rfl ((seqS_nx s1).trans ((seqS_nx e).trans rv)) rfl, hp, p⟩
theorem scaled_ev {r : List Rat} {q : Rat} (hr : ∀ x ∈ r, Sq 100 x) (hq : Sq 100 q) (hl : r.length ≤ 500) : EvF m_law_scaled [zl r, zq q] (.lst true ((r.map (· * q)).map fq)) := by
  rw [List.map_map]
  exact ev_rt (env := [some (zl r), some (zq q), none]) rfl (retS_t (comp_t (l := r) (f := zq) (g := fq ∘ (· * q)) (e1 := [some (zl r), some (zq q), none]) (env0 := [some (zl r), some (zq q), none]) (seqI_fz (o := false) rfl (zl_fz r)) rfl (fun x hx => one_yes (nameG_ev (by simp)) (callF2 (nameD_fz rfl (zq_fz x)) (nameD_fz rfl (zq_fz q)) (by_ev (k := 100) (by decide) (hr x hx) hq)) rfl) rfl (by show _ ≤ 10000; omega)))
/-! ### numbers of sixths -/
def Sx (n : Nat) (x : Rat) : Prop := ∃ y : Int, x = (y : Rat) / 6 ∧ y.natAbs ≤ n
theorem Sx.mono {n m : Nat} {x : Rat} (h : Sx n x) (hm : n ≤ m) : Sx m x := let ⟨y, e, hy⟩ := h; ⟨y, e, Nat.le_trans hy hm⟩
theorem Hf.sx {n : Nat} {x : Rat} (h : Hf n x) : Sx (3 * n) x := by
  obtain ⟨y, rfl, hy⟩ := h
  refine ⟨3 * y, ?_, by omega⟩
  rw [Rat.intCast_mul]
  show (y : Rat) / 2 = (3 : Rat) * y / 6
  grind
theorem Sx.cross {n : Nat} {x : Rat} (h : Sx n x) : ∃ y : Int, x.num * 6 = y * x.den ∧ y.natAbs ≤ n := by
  obtain ⟨y, e, hy⟩ := h
  refine ⟨y, ?_, hy⟩
  have h1 : x = Rat.divInt x.num x.den := (dd x).symm
  have h2 : x = Rat.divInt y 6 := by rw [e, Rat.divInt_eq_div]; rfl
  have h3 : Rat.divInt x.num x.den = Rat.divInt y 6 := by rw [← h1, ← h2]
  exact (Rat.divInt_eq_divInt_iff (pr_ne x) (by decide)).mp h3
/-- numbers of P-ths -/
def Sg (P n : Nat) (x : Rat) : Prop := ∃ y : Int, x.num * P = y * x.den ∧ y.natAbs ≤ n
theorem Sx.sg {n : Nat} {x : Rat} (h : Sx n x) : Sg 6 n x := h.cross
theorem Sg.den {P n : Nat} {x : Rat} (h : Sg P n x) : x.den ∣ P := by
  obtain ⟨y, e, _⟩ := h
  have h1 : (x.den : Int) ∣ x.num * P := ⟨y, by rw [e]; exact Int.mul_comm _ _⟩
  have h2 : x.den ∣ x.num.natAbs * P := by
    have := Int.natAbs_dvd_natAbs.mpr h1
    rw [Int.natAbs_natCast, Int.natAbs_mul, Int.natAbs_natCast] at this
    exact this
  exact Nat.Coprime.dvd_of_dvd_mul_left (Nat.Coprime.symm x.reduced) h2
theorem lcmF_P {P n : Nat} : ∀ (r : List Rat) (b : Nat), b ∣ P → (∀ x ∈ r, Sg P n x) → lcmF b r ∣ P
  | [], b, hb, _ => hb
  | x :: r, b, hb, h => lcmF_P r _ (Nat.lcm_dvd hb (h x List.mem_cons_self).den) fun y hy => h y (List.mem_cons_of_mem _ hy)
theorem rows_gen {R : List (List Rat)} {w n P e f : Nat} (h : ∀ r ∈ R, r.length = w ∧ ∀ x ∈ r, Sg P n x) (hw : w ≤ 6) (hm : R.length ≤ 12) (hP : 0 < P) (hn : n ≤ 2 ^ e) (hf : P ≤ 2 ^ f) : RowsE e f R w := by
  refine ⟨fun r hr => (h r hr).1, hw, hm, fun i j => ?_, fun i => ?_⟩
  · unfold Mof
    by_cases hi : i < R.length
    · have e' : R.getD i [] = R[i] := by rw [List.getD_eq_getElem?_getD, List.getElem?_eq_getElem hi]; rfl
      rw [e']
      have hr := h _ (List.getElem_mem hi)
      generalize R[i] = r at *
      unfold wbI
      by_cases hj : j < r.length
      · rw [List.getD_eq_getElem?_getD, List.getElem?_map, List.getElem?_eq_getElem hj]
        show (r[j].num * _).natAbs ≤ _
        have hx := hr.2 _ (List.getElem_mem hj)
        have hd := lcmF_den r 1 _ (List.getElem_mem hj)
        have h6 := lcmF_P r 1 (Nat.one_dvd _) hr.2
        generalize r[j] = x at *
        generalize lcmF 1 r = L at *
        obtain ⟨t, rfl⟩ := hd
        obtain ⟨u, hu⟩ := h6
        have dp := Nat.pos_of_ne_zero x.den_nz
        obtain ⟨y, hc, hy⟩ := hx
        rw [fdiv_nat, Nat.mul_div_cancel_left _ dp]
        have tp : 0 < t * u := by
          rcases Nat.eq_zero_or_pos (t * u) with z | z
          · rw [Nat.mul_assoc, z] at hu; omega
          · exact z
        have up : 1 ≤ u := by
          rcases Nat.eq_zero_or_pos u with z | z
          · rw [z, Nat.mul_zero] at tp; omega
          · exact z
        -- num * den * t * u = y * den
        have k1 : x.num * ((t * u : Nat) : Int) = y := by
          have k2 : (x.num * ((t * u : Nat) : Int)) * x.den = y * x.den := by
            rw [← hc]
            rw [hu]
            simp only [Int.natCast_mul]
            ac_rfl
          exact Int.eq_of_mul_eq_mul_right (by omega) k2
        have k3 : (x.num * ((t : Nat) : Int)).natAbs * u = y.natAbs := by
          rw [← k1, Int.natAbs_mul, Int.natAbs_mul, Int.natAbs_natCast, Int.natAbs_natCast, Nat.mul_assoc]
        have : (x.num * ((t : Nat) : Int)).natAbs ≤ y.natAbs := by
          rw [← k3]
          exact Nat.le_mul_of_pos_right _ up
        omega
      · rw [List.getD_eq_getElem?_getD, List.getElem?_eq_none (by simp; omega)]
        exact Nat.zero_le _
    · have e' : R.getD i [] = [] := by rw [List.getD_eq_getElem?_getD, List.getElem?_eq_none (by omega)]; rfl
      rw [e', show wbI [] = [] from rfl, List.getD_eq_getElem?_getD, List.getElem?_nil]
      exact Nat.zero_le _
  · unfold cof
    by_cases hi : i < R.length
    · have e' : R.getD i [] = R[i] := by rw [List.getD_eq_getElem?_getD, List.getElem?_eq_getElem hi]; rfl
      rw [e']
      have := Nat.le_of_dvd hP (lcmF_P R[i] 1 (Nat.one_dvd _) (h _ (List.getElem_mem hi)).2)
      omega
    · have e' : R.getD i [] = [] := by rw [List.getD_eq_getElem?_getD, List.getElem?_eq_none (by omega)]; rfl
      rw [e']
      exact Nat.pow_pos (by decide)
theorem rows_of {R : List (List Rat)} {w n : Nat} (h : ∀ r ∈ R, r.length = w ∧ ∀ x ∈ r, Sx n x) (hw : w ≤ 6) (hm : R.length ≤ 12) (hn : n ≤ 2 ^ 20) : Rows R w :=
  rows_gen (n := n) (P := 6) (fun r hr => ⟨(h r hr).1, fun x hx => ((h r hr).2 x hx).sg⟩) hw hm (by decide) hn (by decide)
end K12

set_option Elab.async false
set_option linter.all false
set_option maxRecDepth 100000
set_option maxHeartbeats 4000000
set_option exponentiation.threshold 4000
namespace K12
open PySem PySem.Spec PyProof.Rows L2 Own Dx La
def rowF (R : List (List Rat)) (i j : Nat) : Rat := (R.getD i []).getD j 0
theorem Mof_row (R : List (List Rat)) (i j : Nat) : (Mof R i j : Rat) = ((cof R i : Nat) : Rat) * rowF R i j := by
  have c0 : ((cof R i : Nat) : Rat) ≠ 0 := fun z => by
    have h1 := cof_pos R i
    have : cof R i = 0 := by exact_mod_cast z
    omega
  unfold Mof rowF cof at *
  generalize R.getD i [] = r at *
  by_cases hj : j < r.length
  · have e1 : (wbI r).getD j 0 = (r[j]).num * ((lcmF 1 r : Nat) : Int).fdiv (r[j]).den := by
      unfold wbI
      rw [List.getD_eq_getElem?_getD, List.getElem?_map, List.getElem?_eq_getElem hj]
      rfl
    have e2 : r.getD j 0 = r[j] := by rw [List.getD_eq_getElem?_getD, List.getElem?_eq_getElem hj]; rfl
    have h := wb_q (List.getElem_mem hj)
    rw [e1, e2]
    generalize ((r[j].num * ((lcmF 1 r : Nat) : Int).fdiv r[j].den : Int) : Rat) = a at *
    rw [← h]
    grind
  · have e1 : (wbI r).getD j 0 = 0 := by
      rw [List.getD_eq_getElem?_getD, List.getElem?_eq_none (by unfold wbI; rw [List.length_map]; omega)]
      rfl
    have e2 : r.getD j 0 = 0 := by rw [List.getD_eq_getElem?_getD, List.getElem?_eq_none (by omega)]; rfl
    rw [e1, e2, Rat.mul_zero]
    rfl
section
variable {n w : Nat} {T : Nat → Nat → Rat}
theorem made_scale {v u : Nat → Rat} (q : Rat) (h : Made n w T v) (e : ∀ j, j < w → u j = q * v j) : Made n w T u :=
  (Made.lin q 0 h Made.zero).congr fun j hj => by rw [e j hj]; grind
theorem made_M {R : List (List Rat)} {i : Nat} (h : Made n w T (rowF R i)) : Made n w T (ofI (Mof R) i) := made_scale _ h fun j _ => Mof_row R i j
theorem made_row {R : List (List Rat)} {i : Nat} (h : Made n w T (ofI (Mof R) i)) : Made n w T (rowF R i) := made_scale (((cof R i : Nat) : Rat)⁻¹) h fun j _ => by
  have c0 : ((cof R i : Nat) : Rat) ≠ 0 := fun z => by
    have h1 := cof_pos R i
    have : cof R i = 0 := by exact_mod_cast z
    omega
  show rowF R i j = _ * (Mof R i j : Rat)
  rw [Mof_row]
  grind
end
abbrev stR (R : List (List Rat)) (w : Nat) : La.St := La.run (Mof R) R.length w
/-- each row is made of the steps -/
theorem row_steps (R : List (List Rat)) (w : Nat) {i : Nat} (hi : i < R.length) : Made (stR R w).d w (stepsOf (stR R w)) (rowF R i) := made_row (end_rows (at_run (Mof R) R.length w) hi)
/-- steps are the same where each row of the one is made of the steps of the other one -/
theorem same_steps {R O : List (List Rat)} {w : Nat} (h1 : ∀ i, i < O.length → Made (stR R w).d w (stepsOf (stR R w)) (rowF O i)) (h2 : ∀ i, i < R.length → Made (stR O w).d w (stepsOf (stR O w)) (rowF R i)) : stepsL O w = stepsL R w := by
  have kR := at_run (Mof R) R.length w
  have kO := at_run (Mof O) O.length w
  have m1 : ∀ a, a < (stR O w).d → Made (stR R w).d w (stepsOf (stR R w)) (stepsOf (stR O w) a) := fun a ha => Made.trans (fun i hi => made_M (h1 i hi)) (end_made kO ha)
  have m2 : ∀ a, a < (stR R w).d → Made (stR O w).d w (stepsOf (stR O w)) (stepsOf (stR R w) a) := fun a ha => Made.trans (fun i hi => made_M (h2 i hi)) (end_made kR ha)
  obtain ⟨hd, ht⟩ := (end_steps kO).single (end_steps kR) m1 m2
  unfold stepsL gridF
  rw [show (La.run (Mof O) O.length w).d = (La.run (Mof R) R.length w).d from hd]
  refine List.map_congr_left fun a ha => ?_
  have ha' := List.mem_range.mp ha
  exact rowQ_congr fun j hj => (ht a (by rw [hd]; exact ha')).2 j hj
theorem stepsL_get {R : List (List Rat)} {w a j : Nat} (ha : a < (stR R w).d) (hj : j < w) : rowF (stepsL R w) a j = stepsOf (stR R w) a j := by
  unfold rowF stepsL gridF
  have : ((List.range (stR R w).d).map fun a => rowQ w (stepsOf (stR R w) a)).getD a [] = rowQ w (stepsOf (stR R w) a) := by
    rw [List.getD_eq_getElem?_getD, List.getElem?_map, List.getElem?_range ha]
    rfl
  rw [this, rowQ_getD hj]
theorem stepsL_len (R : List (List Rat)) (w : Nat) : (stepsL R w).length = (stR R w).d := by unfold stepsL gridF; rw [List.length_map, List.length_range]
/-- steps of steps are the same -/
theorem self_steps (R : List (List Rat)) (w : Nat) : stepsL (stepsL R w) w = stepsL R w := by
  refine same_steps (fun i hi => ?_) fun i hi => ?_
  · rw [stepsL_len] at hi
    exact (Made.row hi).congr fun j hj => stepsL_get hi hj
  · refine Made.trans (fun a ha => ?_) (row_steps R w hi)
    have ha' : a < (stepsL R w).length := by rw [stepsL_len]; exact ha
    exact (row_steps (stepsL R w) w ha').congr fun j hj => (stepsL_get ha hj).symm
theorem rowF_mem {R : List (List Rat)} {i : Nat} (hi : i < R.length) : R[i] ∈ R ∧ ∀ j, rowF R i j = R[i].getD j 0 := ⟨List.getElem_mem hi, fun j => by
  unfold rowF
  rw [List.getD_eq_getElem?_getD (l := R), List.getElem?_eq_getElem hi]
  rfl⟩
/-- by members -/
theorem same_mem {R O : List (List Rat)} {w : Nat} (h1 : ∀ r ∈ O, Made (stR R w).d w (stepsOf (stR R w)) fun j => r.getD j 0) (h2 : ∀ r ∈ R, ∃ r' ∈ O, ∃ q : Rat, ∀ j, j < w → r.getD j 0 = q * r'.getD j 0) : stepsL O w = stepsL R w := by
  refine same_steps (fun i hi => ?_) fun i hi => ?_
  · obtain ⟨m, e⟩ := rowF_mem hi
    exact (h1 _ m).congr fun j _ => e j
  · obtain ⟨m, e⟩ := rowF_mem hi
    obtain ⟨r', hr', q, hq⟩ := h2 _ m
    obtain ⟨k, hk, rfl⟩ := List.mem_iff_getElem.mp hr'
    refine made_scale q (row_steps O w hk) fun j hj => ?_
    rw [e j, hq j hj, (rowF_mem hk).2 j]
theorem made_mem {R : List (List Rat)} {w : Nat} {r : List Rat} (hr : r ∈ R) : Made (stR R w).d w (stepsOf (stR R w)) fun j => r.getD j 0 := by
  obtain ⟨k, hk, rfl⟩ := List.mem_iff_getElem.mp hr
  exact (row_steps R w hk).congr fun j _ => ((rowF_mem hk).2 j).symm
/-! ### how great told steps are -/
structure Drw (R : List (List Rat)) (w : Nat) : Prop where
  w1 : 1 ≤ w
  rows : ∀ r ∈ R, r.length = w ∧ ∀ x ∈ r, Hf (6 * 2 ^ R.length) x
  how : (R.length ≤ 5 ∧ w ≤ 5) ∨ (R.length ≤ 3 ∧ w = 6)
theorem Drw.w6 {R : List (List Rat)} {w : Nat} (h : Drw R w) : w ≤ 6 := by rcases h.how with q | q <;> omega
theorem Drw.r5 {R : List (List Rat)} {w : Nat} (h : Drw R w) : R.length ≤ 5 := by rcases h.how with q | q <;> omega
theorem Drw.hf {R : List (List Rat)} {w : Nat} (h : Drw R w) {r : List Rat} (hr : r ∈ R) {x : Rat} (hx : x ∈ r) : Hf 192 x := by
  refine ((h.rows r hr).2 x hx).mono ?_
  have : 2 ^ R.length ≤ 2 ^ 5 := Nat.pow_le_pow_right (by decide) h.r5
  omega
theorem Drw.Rows {R : List (List Rat)} {w : Nat} (h : Drw R w) : Rows R w := rows_of (n := 576) (fun r hr => ⟨(h.rows r hr).1, fun x hx => (h.hf hr hx).sx⟩) h.w6 (by have := h.r5; omega) (by decide)
theorem Hf.M {n : Nat} {x : Rat} (h : Hf n x) : Sg 2 n x := by
  obtain ⟨y, e, hy⟩ := h
  refine ⟨y, ?_, hy⟩
  have h1 : x = Rat.divInt x.num x.den := (dd x).symm
  have h2 : x = Rat.divInt y 2 := by rw [e, Rat.divInt_eq_div]; rfl
  have h3 : Rat.divInt x.num x.den = Rat.divInt y 2 := by rw [← h1, ← h2]
  exact (Rat.divInt_eq_divInt_iff (pr_ne x) (by decide)).mp h3
theorem fac_a : ∀ d, d ≤ 5 → fact d * 1024 ^ d ≤ 2 ^ 60 ∧ d * (fact d * 1024 ^ (d + 1)) ≤ 2 ^ 70 := by decide
theorem fac_b : ∀ d, d ≤ 6 → fact d * 256 ^ d ≤ 2 ^ 60 ∧ d * (fact d * 256 ^ (d + 1)) ≤ 2 ^ 70 := by decide
theorem Mof_le {R : List (List Rat)} {n : Nat} (h : ∀ r ∈ R, ∀ x ∈ r, Sg 2 n x) (i j : Nat) : (Mof R i j).natAbs ≤ n := by
  unfold Mof
  by_cases hi : i < R.length
  · have e' : R.getD i [] = R[i] := by rw [List.getD_eq_getElem?_getD, List.getElem?_eq_getElem hi]; rfl
    rw [e']
    have hr := h _ (List.getElem_mem hi)
    generalize R[i] = r at *
    unfold wbI
    by_cases hj : j < r.length
    · rw [List.getD_eq_getElem?_getD, List.getElem?_map, List.getElem?_eq_getElem hj]
      show (r[j].num * _).natAbs ≤ _
      have hx := hr _ (List.getElem_mem hj)
      have hd := lcmF_den r 1 _ (List.getElem_mem hj)
      have h6 := lcmF_P r 1 (Nat.one_dvd _) hr
      generalize r[j] = x at *
      generalize lcmF 1 r = L at *
      obtain ⟨t, rfl⟩ := hd
      obtain ⟨u, hu⟩ := h6
      have dp := Nat.pos_of_ne_zero x.den_nz
      obtain ⟨y, hc, hy⟩ := hx
      rw [fdiv_nat, Nat.mul_div_cancel_left _ dp]
      have up : 1 ≤ u := by
        rcases Nat.eq_zero_or_pos u with z | z
        · rw [z, Nat.mul_zero] at hu; omega
        · exact z
      have k1 : x.num * ((t * u : Nat) : Int) = y := by
        have k2 : (x.num * ((t * u : Nat) : Int)) * x.den = y * x.den := by
          rw [← hc, hu]
          simp only [Int.natCast_mul]
          ac_rfl
        exact Int.eq_of_mul_eq_mul_right (by omega) k2
      have k3 : (x.num * ((t : Nat) : Int)).natAbs * u = y.natAbs := by
        rw [← k1, Int.natAbs_mul, Int.natAbs_mul, Int.natAbs_natCast, Int.natAbs_natCast, Nat.mul_assoc]
      have : (x.num * ((t : Nat) : Int)).natAbs ≤ y.natAbs := by
        rw [← k3]
        exact Nat.le_mul_of_pos_right _ up
      omega
    · rw [List.getD_eq_getElem?_getD, List.getElem?_eq_none (by simp; omega)]
      exact Nat.zero_le _
  · have e' : R.getD i [] = [] := by rw [List.getD_eq_getElem?_getD, List.getElem?_eq_none (by omega)]; rfl
    rw [e', show wbI [] = [] from rfl, List.getD_eq_getElem?_getD, List.getElem?_nil]
    exact Nat.zero_le _
theorem Drw.small {R : List (List Rat)} {w : Nat} (h : Drw R w) : (stR R w).p.natAbs ≤ 2 ^ 60 ∧ ∀ a j, a < (stR R w).d → ((stR R w).A a j).natAbs ≤ 2 ^ 70 := by
  have k := at_run (Mof R) R.length w
  have dl : (stR R w).d ≤ w := k.d_le
  rcases h.how with q | q
  · have hM : ∀ i j, (Mof R i j).natAbs ≤ 1024 := fun i j => Nat.le_trans (Mof_le (n := 192) (fun r hr x hx => (h.hf hr hx).M) i j) (by decide)
    have b := bd_run (m := R.length) (by decide) hM w
    have f := fac_a (stR R w).d (by omega)
    exact ⟨Nat.le_trans b.p f.1, fun a j ha => Nat.le_trans (b.A a j ha) f.2⟩
  · have hM : ∀ i j, (Mof R i j).natAbs ≤ 256 := fun i j => Nat.le_trans (Mof_le (n := 48) (fun r hr x hx => by
      refine Hf.M (((h.rows r hr).2 x hx).mono ?_)
      have : 2 ^ R.length ≤ 2 ^ 3 := Nat.pow_le_pow_right (by decide) q.1
      omega) i j) (by decide)
    have b := bd_run (m := R.length) (by decide) hM w
    have f := fac_b (stR R w).d (by omega)
    exact ⟨Nat.le_trans b.p f.1, fun a j ha => Nat.le_trans (b.A a j ha) f.2⟩
theorem Drw.told {R : List (List Rat)} {w : Nat} (h : Drw R w) : RowsE 70 60 (stepsL R w) w := by
  have k := at_run (Mof R) R.length w
  have z := h.small
  have dl := k.d_le
  have w6 := h.w6
  have p0 : 0 < (stR R w).p.natAbs := by have := k.ok.p0; show 0 < (La.run (Mof R) R.length w).p.natAbs; omega
  refine rows_gen (n := 2 ^ 70) (P := (stR R w).p.natAbs) (fun r hr => ?_) w6 ?_ p0 (Nat.le_refl _) z.1
  · obtain ⟨a, ha, rfl⟩ := List.mem_map.mp hr
    refine ⟨rowQ_len _ _, fun x hx => ?_⟩
    obtain ⟨j, _, rfl⟩ := rowQ_mem hx
    have za := z.2 a j (List.mem_range.mp ha)
    have e : stepsOf (stR R w) a j = Rat.divInt ((stR R w).A a j) (stR R w).p := by rw [Rat.divInt_eq_div]; rfl
    show Sg _ _ (stepsOf (stR R w) a j)
    rw [e]
    generalize (stR R w).A a j = A at *
    generalize hp : (stR R w).p = p at *
    have pn : p ≠ 0 := by omega
    have hx2 : (Rat.divInt A p).num * p = A * (Rat.divInt A p).den := (Rat.divInt_eq_divInt_iff (pr_ne _) pn).mp (dd (Rat.divInt A p))
    rcases Int.natAbs_eq p with q | q
    · exact ⟨A, by rw [← q]; exact hx2, za⟩
    · refine ⟨-A, ?_, by omega⟩
      have : ((p.natAbs : Nat) : Int) = -p := by omega
      rw [this, Int.mul_neg, hx2, Int.neg_mul]
  · rw [stepsL_len]
    show (La.run (Mof R) R.length w).d ≤ 12
    omega
theorem told_len {R : List (List Rat)} {w : Nat} {r : List Rat} (hr : r ∈ stepsL R w) : r.length = w := by
  obtain ⟨a, _, rfl⟩ := List.mem_map.mp hr
  exact rowQ_len _ _
end K12

set_option Elab.async false
set_option linter.all false
set_option maxRecDepth 100000
set_option maxHeartbeats 4000000
set_option exponentiation.threshold 4000
namespace K12
open PySem PySem.Spec PyProof.Rows L2 Own Dx La
/-! ### how long what is shown is -/
theorem lt_len (ts : List Str) : (listText ts).length ≤ 2 + piled ts := by
  cases ts with
  | nil => decide +kernel
  | cons t r =>
    have h := textFrom_length_pos r 1 (("[" : Str) ++ (if (0 : Nat) > 0 then ", " else "" : String) ++ t) (Nat.succ_pos 0)
    have hX : (listText (t :: r)).length = (textFrom 1 (("[" : Str) ++ (if (0 : Nat) > 0 then ", " else "" : String) ++ t) r).length + 1 := by
      show (textFrom 0 "[" (t :: r) ++ "]").length = _
      rw [len_app]
      rfl
    have l1 : (("[" : Str) ++ (if (0 : Nat) > 0 then ", " else "" : String)).length = 1 := by decide +kernel
    rw [hX, h, len_app, l1]
    have hp : piled (t :: r) = t.length + 2 + piled r := by simp [piled]
    omega
theorem tt_len (ts : List Str) : (tupleText ts).length ≤ 4 + piled ts := by
  unfold tupleText
  rw [len_app, len_app]
  have l1 : (Str.ofString "(").length = 1 := by decide +kernel
  have l2 : (Str.ofString (if (ts.length == 1) = true then ",)" else ")")).length ≤ 2 := by
    cases (ts.length == 1) <;> decide +kernel
  have l3 : ((Str.ofString ", ").join ts).length ≤ piled ts := by
    by_cases h : ts = []
    · subst h; decide +kernel
    · have := join_length_add ts h
      exact Nat.le_trans (Nat.le_add_right _ 2) (Nat.le_of_eq this)
  omega
theorem piled_le {c : Nat} : ∀ ts : List Str, (∀ t, t ∈ ts → t.length ≤ c) → piled ts ≤ ts.length * (c + 2)
  | [], _ => by simp [piled]
  | t :: r, h => by
    have h1 := piled_le r fun u hu => h u (.tail _ hu)
    have h2 := h t (.head _)
    have hp : piled (t :: r) = t.length + 2 + piled r := by simp [piled]
    have e : (t :: r).length * (c + 2) = r.length * (c + 2) + (c + 2) := by rw [List.length_cons, Nat.succ_mul]
    omega
theorem tl_lt {i : Int} {k : Nat} (h : i.natAbs < 2 ^ k) (hk : k ≤ 1000) : Tl i := by
  have := szI_lt h
  unfold szI at this
  unfold Tl
  omega
theorem reprS_num {d : D} {q : Rat} (h : NumD d q) (hs : Sq 1000 q) : ∃ t, reprS d = some t ∧ t.length ≤ 4000 := by
  cases h with
  | rat q =>
    have t1 : Tl q.num := tl_lt hs.1 (by decide)
    have t2 : Tl (q.den : Int) := tl_lt (k := 1000) (by rw [Int.natAbs_natCast]; exact hs.2) (by decide)
    refine ⟨toldR (pr q), ?_, ?_⟩
    · rw [reprS, if_pos ⟨t1, t2⟩]
    · have l1 := S_len t1
      have l2 := S_len t2
      have l3 : (("Ratio(" : Str)).length = 6 := by decide +kernel
      have l4 : ((", " : Str)).length = 2 := by decide +kernel
      have l5 : ((")" : Str)).length = 1 := by decide +kernel
      unfold toldR
      rw [len_app, len_app, len_app, len_app, len_app, len_e, l3, l4, l5]
      show 0 + 6 + (S q.num).length + 2 + (S (q.den : Int)).length + 1 ≤ 4000
      omega
  | int i =>
    have t1 : Tl i := tl_lt (k := 1000) hs.1 (by decide)
    refine ⟨S i, ?_, ?_⟩
    · rw [reprS, if_pos t1]
    · have := S_len t1
      omega
theorem reprSs_nums : ∀ {ds : List D} {r : List Rat}, NumsD ds r → (∀ q ∈ r, Sq 1000 q) → ∃ ts, reprSs ds = some ts ∧ ts.length = ds.length ∧ ∀ t ∈ ts, t.length ≤ 4000
  | _, _, .nil, _ => ⟨[], rfl, rfl, fun t h => by cases h⟩
  | _, _, .cons h hs, hq => by
    obtain ⟨t, e, l⟩ := reprS_num h (hq _ List.mem_cons_self)
    obtain ⟨ts, e2, l2, l3⟩ := reprSs_nums hs fun q h => hq q (List.mem_cons_of_mem _ h)
    exact ⟨t :: ts, by rw [reprSs, e, e2]; rfl, by simp [l2], fun u hu => (List.mem_cons.mp hu).elim (fun z => z ▸ l) (l3 u)⟩
theorem reprS_row {d : D} {r : List Rat} (h : RowD d r) (hq : ∀ q ∈ r, Sq 1000 q) (hl : r.length ≤ 6) : ∃ t, reprS d = some t ∧ t.length ≤ 30000 := by
  cases h with
  | @mk t ds r hs =>
    obtain ⟨ts, e, l, b⟩ := reprSs_nums hs hq
    have p := piled_le ts b
    have : ts.length * (4000 + 2) ≤ 6 * (4000 + 2) := Nat.mul_le_mul_right _ (by rw [l, hs.len]; exact hl)
    cases t with
    | false =>
      refine ⟨listText ts, ?_, by have := lt_len ts; omega⟩
      show reprS (.lst false ds) = _
      rw [reprS, e]
      rfl
    | true =>
      refine ⟨tupleText ts, ?_, by have := tt_len ts; omega⟩
      show reprS (.tup false ds) = _
      rw [reprS, e]
      rfl
theorem reprSs_rows : ∀ {ds : List D} {R : List (List Rat)}, RowsD ds R → (∀ r ∈ R, r.length ≤ 6 ∧ ∀ q ∈ r, Sq 1000 q) → ∃ ts, reprSs ds = some ts ∧ ts.length = ds.length ∧ ∀ t ∈ ts, t.length ≤ 30000
  | _, _, .nil, _ => ⟨[], rfl, rfl, fun t h => by cases h⟩
  | _, _, .cons h hs, hq => by
    obtain ⟨t, e, l⟩ := reprS_row h (hq _ List.mem_cons_self).2 (hq _ List.mem_cons_self).1
    obtain ⟨ts, e2, l2, l3⟩ := reprSs_rows hs fun q h => hq q (List.mem_cons_of_mem _ h)
    exact ⟨t :: ts, by rw [reprSs, e, e2]; rfl, by simp [l2], fun u hu => (List.mem_cons.mp hu).elim (fun z => z ▸ l) (l3 u)⟩
theorem NumsD.dep : ∀ {ds : List D} {r : List Rat}, NumsD ds r → deps ds = 0
  | _, _, .nil => rfl
  | _, _, .cons h hs => by
    rw [deps, NumsD.dep hs]
    cases h <;> rfl
theorem RowD.dep {d : D} {r : List Rat} (h : RowD d r) : dep d = 1 := by
  cases h with
  | @mk t ds r hs => cases t <;> (show deps ds + 1 = 1; rw [hs.dep])
theorem RowsD.dep : ∀ {ds : List D} {R : List (List Rat)}, RowsD ds R → deps ds ≤ 1
  | _, _, .nil => by rw [deps]; omega
  | _, _, .cons h hs => by
    rw [deps, h.dep]
    have := RowsD.dep hs
    omega
theorem repr_ev {d : D} {R : List (List Rat)} (h : GridD d R) (hR : ∀ r ∈ R, r.length ≤ 6 ∧ ∀ q ∈ r, Sq 1000 q) (hl : R.length ≤ 12) : ∃ t, reprD [d] = some (.str t) := by
  cases h with
  | @mk t ds R hs =>
    obtain ⟨ts, e, l, b⟩ := reprSs_rows hs hR
    have p := piled_le ts b
    have : ts.length * (30000 + 2) ≤ 12 * (30000 + 2) := Nat.mul_le_mul_right _ (by rw [l, hs.len]; exact hl)
    have dp := hs.dep
    cases t with
    | false =>
      refine ⟨listText ts, ?_⟩
      show (if dep (.lst false ds) ≤ 8 then _ else _) = _
      rw [if_pos (show dep (.lst false ds) ≤ 8 by rw [dep]; omega), reprS, e]
      show (if (listText ts).length ≤ TMAX then _ else _) = _
      rw [if_pos (by have := lt_len ts; show _ ≤ 16777216; omega)]
    | true =>
      refine ⟨tupleText ts, ?_⟩
      show (if dep (.tup false ds) ≤ 8 then _ else _) = _
      rw [if_pos (show dep (.tup false ds) ≤ 8 by rw [dep]; omega), reprS, e]
      show (if (tupleText ts).length ≤ TMAX then _ else _) = _
      rw [if_pos (by have := tt_len ts; show _ ≤ 16777216; omega)]
/-! ### rows, multiplied -/
inductive ScD : List (List Rat) → List (List Rat) → Prop
  | nil : ScD [] []
  | cons {r : List Rat} {R G : List (List Rat)} (q : Rat) (h : q = 2 ∨ q = -1 ∨ q = mkRat 1 3) : ScD R G → ScD (r :: R) (r.map (· * q) :: G)
theorem ScD.len : ∀ {R G : List (List Rat)}, ScD R G → G.length = R.length
  | _, _, .nil => rfl
  | _, _, .cons _ _ h => by simp [h.len]
theorem e3_frz : frzs [.tup true [.int 2, .int 1], .tup true [.int (-1), .int 1], .tup true [.int 1, .int 3]] = [(2 : Rat), -1, mkRat 1 3].map zq := by
  have a : (mkRat 1 3).num = 1 := by decide +kernel
  have a2 : (mkRat 1 3).den = 3 := by decide +kernel
  have c : D.tup false [.int 1, .int 3] = zq (mkRat 1 3) := by unfold zq; rw [a, a2]; rfl
  show [D.tup false [.int 2, .int 1], .tup false [.int (-1), .int 1], .tup false [.int 1, .int 3]] = _
  rw [c]
  rfl
theorem disp3 {env : Dx.Env} : dispD false (consA (dispD true (consA (litD (.int 2)) (consA (litD (.int 1)) nilA))) (consA (dispD true (consA (un1 negD (litD (.int 1))) (consA (litD (.int 1)) nilA))) (consA (dispD true (consA (litD (.int 1)) (consA (litD (.int 3)) nilA))) nilA))) env = some (.t (.lst true [.tup true [.int 2, .int 1], .tup true [.int (-1), .int 1], .tup true [.int 1, .int 3]]), env) := by
  have d : ∀ i j : Int, dispD true (consA (litD (.int i)) (consA (litD (.int j)) nilA)) env = some (.t (.tup true [.int i, .int j]), env) := fun i j => disp2 (t := true) litD_ev litD_ev
  have n : ∀ i j : Int, dispD true (consA (un1 negD (litD (.int i))) (consA (litD (.int j)) nilA)) env = some (.t (.tup true [.int (-i), .int j]), env) := fun i j => disp2 (t := true) (un1_t litD_ev rfl) litD_ev
  exact dispD_t (t := false) (consA_t (d 2 1) (consA_t (n 1 1) (consA_t (d 1 3) (ds := []) rfl))) (by decide)
end K12

set_option Elab.async false
set_option linter.all false
set_option maxRecDepth 100000
set_option maxHeartbeats 4000000
set_option exponentiation.threshold 4000
namespace Dx
open PySem PySem.Spec PyProof.Rows L2 Own
theorem callKF1 {m : FM} {fa : DE} {env e1 : Env} {x r : D} (ha : fa env = some (.t x, e1)) (h : EvF m [x.frz] r) : callKF [false] m [0] 0 1 nilA (consA fa nilA) env = some (.t r, e1) := by
  obtain ⟨ps, h⟩ := h
  unfold callKF
  simp only [consA, nilA, ha, Option.bind_some, List.length_nil, List.length_cons, Nat.zero_add, and_self, if_true, List.nil_append]
  show ((argsD [false] [.t x] e1).bind fun r => (m r.1).bind fun s => some (AV.t s.1, backA [false] [.t x] s.2 r.2)) = _
  simp only [argsD, argD, Bool.false_eq_true, if_false, toF, Option.bind_some, h, backA1]
theorem bin2_n1 {g : D → D → Option D} {env e1 : Env} {i : Nat} {d y z : D} {X : List D} {fb : DE} (h : env[i]? = some (some d)) (hd : d.frz = .lst false X) (hb : fb env = some (.t y, e1)) (h1 : e1[i]? = some (some d)) (hg : g (.lst false X) y.frz = some z) : ∃ d', d'.frz = .lst false X ∧ bin2 g (nameD i) fb env = some (.t z, e1.set i (some d')) := by
  by_cases hf : d.fz = true
  · have e : d.frz = d := fz_frz d hf
    refine ⟨d, hd, ?_⟩
    rw [set_self h1]
    exact bin2_tt (nameD_fz h hf) hb (by rw [hd]; exact hg)
  · have hf' : d.fz = false := by simpa using hf
    obtain ⟨o, ds, rfl, hX⟩ := lst_of_frz hd
    refine ⟨.lst o X, by show D.lst false (frzs X) = _; rw [frzs_idem hX], ?_⟩
    have fy : y.frz.frz = y.frz := fz_frz _ (frz_fz y)
    simp only [bin2, opN, consA, nilA, nameD_ow h hf', hb, Option.bind_some, takeKs, takeK, h1, D.kfz, hX, frzs, g2, D.frz, frzs_idem hX, fy, hg, backKs, backK, List.set_set]
theorem appAll_lst {α : Type} (f : α → List D) (hf : ∀ a, (f a).length < 10000) : ∀ l : List α, appAll (l.map fun a => .lst true (f a)) = some (l.map fun a => .lst true (f a ++ [.non]))
  | [] => rfl
  | a :: l => by
    rw [List.map_cons, appAll, app1, if_pos (show (f a).length < LMAX from hf a), Option.bind_some, appAll_lst f hf l]
    rfl
end Dx
namespace K12
open PySem PySem.Spec PyProof.Rows L2 Own Dx La
theorem scal_loop {x1 x2 x3 x4 x5 x6 x8 x9 x10 x11 x12 : Option D} : ∀ {R2 : List (List Rat)} {a b : Int} {acc : List D}, Pot a b → (∀ r ∈ R2, (∀ x ∈ r, Sq 100 x) ∧ r.length ≤ 500) → acc.length + R2.length ≤ 100 →
    ∃ (G : List (List Rat)) (a' b' : Int), compL [7] (nameG 7) yesT ce_law_grid_right_3 (R2.map zl) [some (pot a b), x1, x2, x3, x4, x5, x6, none, x8, x9, x10, x11, x12] acc = some (acc ++ G.map (fun r => .lst true (r.map fq)), [some (pot a' b'), x1, x2, x3, x4, x5, x6, none, x8, x9, x10, x11, x12]) ∧ ScD R2 G ∧ Pot a' b'
  | [], a, b, acc, h, _, _ => ⟨[], a, b, by rw [List.map_nil, compL]; simp, .nil, h⟩
  | r :: R2, a, b, acc, h, hs, hl => by
    have hl' : acc.length + (R2.length + 1) ≤ 100 := hl
    have hr := hs r List.mem_cons_self
    obtain ⟨i, d, a1, b1, e, hi, hd, p1⟩ := pick_ev (o := true) (l := [.tup true [.int 2, .int 1], .tup true [.int (-1), .int 1], .tup true [.int 1, .int 3]]) h (by decide) (by decide)
    rw [e3_frz, List.getElem?_map] at hd
    obtain ⟨q, hq, hqd⟩ : ∃ q : Rat, (q = 2 ∨ q = -1 ∨ q = mkRat 1 3) ∧ d = zq q := by
      cases z : [(2 : Rat), -1, mkRat 1 3][i]? with
      | none => rw [z] at hd; cases hd
      | some q =>
        rw [z] at hd
        have := List.mem_of_getElem? z
        simp only [List.mem_cons, List.not_mem_nil, or_false] at this
        exact ⟨q, this, (Option.some.inj hd).symm⟩
    subst hqd
    have sq : Sq 100 q := by
      rcases hq with rfl | rfl | rfl <;> exact ⟨by decide +kernel, by decide +kernel⟩
    obtain ⟨G, a', b', e2, hG, p2⟩ := scal_loop (x1 := x1) (x2 := x2) (x3 := x3) (x4 := x4) (x5 := x5) (x6 := x6) (x8 := x8) (x9 := x9) (x10 := x10) (x11 := x11) (x12 := x12) (R2 := R2) (acc := acc ++ [.lst true ((r.map (· * q)).map fq)]) p1 (fun x hx => hs x (List.mem_cons_of_mem _ hx)) (by simp; omega)
    refine ⟨r.map (· * q) :: G, a', b', ?_, .cons q hq hG, p2⟩
    have sc := scaled_ev hr.1 sq hr.2
    have pk := callR1t (env := [some (pot a b), x1, x2, x3, x4, x5, x6, some (zl r), x8, x9, x10, x11, x12]) (fb := dispD false (consA (dispD true (consA (litD (.int 2)) (consA (litD (.int 1)) nilA))) (consA (dispD true (consA (un1 negD (litD (.int 1))) (consA (litD (.int 1)) nilA))) (consA (dispD true (consA (litD (.int 1)) (consA (litD (.int 3)) nilA))) nilA)))) rfl disp3 rfl e
    have o1 : one [7] (nameG 7) yesT ce_law_grid_right_3 (zl r) [some (pot a b), x1, x2, x3, x4, x5, x6, none, x8, x9, x10, x11, x12] = some (some (.lst true ((r.map (· * q)).map fq)), [some (pot a1 b1), x1, x2, x3, x4, x5, x6, none, x8, x9, x10, x11, x12]) :=
      one_yes (e1 := [some (pot a b), x1, x2, x3, x4, x5, x6, some (zl r), x8, x9, x10, x11, x12]) rfl (callF2 (nameD_fz (i := 7) rfl (zl_fz r)) pk (by rw [zl_frz]; exact sc)) rfl
    rw [List.map_cons, compL_cons o1 (by show _ < 10000; omega)]
    show compL [7] (nameG 7) yesT ce_law_grid_right_3 (R2.map zl) _ (acc ++ [.lst true ((r.map (· * q)).map fq)]) = _
    rw [e2]
    simp
theorem gridD_rg (S : List (List Rat)) : GridD (rg S) S := by
  have n : ∀ r : List Rat, NumsD (r.map .rat) r := fun r => by
    induction r with
    | nil => exact .nil
    | cons q r ih => exact .cons (.rat q) ih
  have rr : ∀ S : List (List Rat), RowsD (S.map rl) S := fun S => by
    induction S with
    | nil => exact .nil
    | cons r S ih => exact .cons (RowD.mk false (n r)) ih
  exact GridD.mk false (rr S)
theorem frz_orls (S : List (List Rat)) : (D.lst true (S.map orl)).frz = rg S := by show D.lst false (frzs _) = _; rw [frzs_orl]; rfl
theorem frz_zls (S : List (List Rat)) : (D.lst true (S.map zl)).frz = zg S := by show D.lst false (frzs _) = _; rw [frzs_zl]; rfl
theorem ne_str (t : Str) : neD (.str t) (.str t) = some (.bl false) := by
  show some (D.bl (!(t == t))) = _
  rw [beq_self_eq_true]
  rfl
theorem ne_int_same (i : Int) : neD (.int i) (.int i) = some (.bl false) := by
  show some (D.bl (!(i == i))) = _
  rw [beq_self_eq_true]
  rfl
end K12

set_option Elab.async false
set_option linter.all false
set_option maxRecDepth 100000
set_option maxHeartbeats 4000000
set_option exponentiation.threshold 4000
namespace K12
open PySem PySem.Spec PyProof.Rows L2 Own Dx La
/-- what is handed is as it was handed: numbers, widths -/
theorem Drw.sq {R : List (List Rat)} {w : Nat} (h : Drw R w) : ∀ r ∈ R, (∀ q ∈ r, Sq 1000 q) ∧ r.length ≤ 500 := fun r hr => by
  refine ⟨fun q hq => ?_, ?_⟩
  · obtain ⟨y, rfl, hy⟩ := h.hf hr hq
    have : ((2 : Int) : Rat) = 2 := rfl
    rw [← this]
    exact (divq (k := 100) (by decide) (Nat.lt_of_le_of_lt hy (by decide)) (by decide)).mono (by decide)
  · rw [(h.rows r hr).1]
    have := h.w6
    omega
theorem grid_right_a {a b : Int} {R : List (List Rat)} {w : Nat} (h : Pot a b) (hd : Drw R w) :
    ∃ (P T' : D) (t : Str) (a1 b1 : Int), GridD P.frz R ∧ Pot a1 b1 ∧ ∀ k : DS, ∀ out,
      k [some (pot a1 b1), some (zg R), some (.lst true ((stepsL R w).map zl)), some P, some (.str t), some T', some (.lst true ((stepsL R w).map orl)), none, none, none, none, none, none] = some out →
      (seqS (setS 2 (callF [false] m_law_steps (consA (nameD 1) nilA)))
    (seqS (setS 3 (callF [true, false] m_law_given (consA (nameD 0) (consA (nameD 1) nilA))))
    (seqS (parS2 4 5 (consA (pureD (opN reprD (consA (nameD 3) nilA))) (consA (pureD (callF [false] m_steps (consA (nameD 3) nilA))) nilA)))
    (seqS (ifS (pureT (orT (valT (bin2 neD (callF [false] m_law_rows (consA (nameD 5) nilA)) (nameD 2))) (orT (valT (bin2 neD (opN reprD (consA (nameD 3) nilA)) (nameD 4))) (valT (bin2 neD (callF [false] m_rank (consA (nameD 3) nilA)) (opN lenD (consA (nameD 2) nilA))))))) (retS (litD (.bl false))) nextS)
    (seqS (ifS (pureT (orT (valT (bin2 neD (callF [false] m_steps (consA (nameD 5) nilA)) (nameD 5))) (valT (bin2 neD (callKF [false] m_rank [0] 0 1 nilA (consA (nameD 5) nilA)) (opN lenD (consA (nameD 2) nilA)))))) (retS (litD (.bl false))) nextS)
    (seqS (setS 6 (pureD (compD [7] (seqI (pnOf [true, false] 0) (nameD 5)) (nameG 7) yesT ce_law_grid_right_2)))
    (seqS (forAppS 5 7)
    (seqS (exprS (appD 5 (litD .non)))
    (seqS (ifS (pureT (valT (bin2 neD (callKF [false] m_steps [0] 0 1 nilA (consA (nameD 3) nilA)) (nameD 6)))) (retS (litD (.bl false))) nextS) k))))))))) [some (pot a b), some (zg R), none, none, none, none, none, none, none, none, none, none, none] = some out := by
  have w6 := hd.w6
  have r5 := hd.r5
  have hRows := hd.Rows
  have hsq := hd.sq
  generalize hS : stepsL R w = S
  have lS6 : S.length ≤ 6 := by
    rw [← hS, stepsL_len]
    have : (stR R w).d ≤ w := (at_run (Mof R) R.length w).d_le
    omega
  have lenS : ∀ r ∈ S, r.length = w := fun r hr => told_len (by rw [hS]; exact hr)
  -- due
  have e1 : EvF m_law_steps [zg R] (.lst true (S.map zl)) := by
    rw [← hS]
    by_cases hR : R = []
    · subst hR
      have z := law_steps_ev (R := []) (w := 0) ⟨fun r hr => (by cases hr), by decide, by decide, hRows.M, hRows.c⟩ (fun _ => rfl)
      have e : stepsL [] w = stepsL [] 0 := by
        have q : ∀ c, (La.run (Mof []) 0 c) = s0 := by
          intro c
          induction c with
          | zero => rfl
          | succ c ih =>
            show turn _ 0 _ c = _
            rw [ih]
            rfl
        have e0 : ∀ v, stepsL [] v = [] := fun v => by
          unfold stepsL gridF
          rw [show La.run (Mof []) ([] : List (List Rat)).length v = s0 from q v]
          rfl
        rw [e0, e0]
      rw [e]
      exact z
    · exact law_steps_ev hRows (fun q => absurd q hR)
  have s1 : setS 2 (callF [false] m_law_steps (consA (nameD 1) nilA)) [some (pot a b), some (zg R), none, none, none, none, none, none, none, none, none, none, none] = some (.nx [some (pot a b), some (zg R), some (.lst true (S.map zl)), none, none, none, none, none, none, none, none, none, none]) :=
    setS_t (callF1 (nameD_fz (i := 1) rfl (zg_fz R)) (by rw [zg_frz]; exact e1)) (by simp)
  -- handed
  obtain ⟨P, a1, b1, e2, hP, p1⟩ := given_ev h hsq (by omega)
  have s2 : setS 3 (callF [true, false] m_law_given (consA (nameD 0) (consA (nameD 1) nilA))) [some (pot a b), some (zg R), some (.lst true (S.map zl)), none, none, none, none, none, none, none, none, none, none] = some (.nx [some (pot a1 b1), some (zg R), some (.lst true (S.map zl)), some P, none, none, none, none, none, none, none, none, none]) :=
    setS_t (callP1 (a := a) (b := b) rfl (nameD_fz (i := 1) rfl (zg_fz R)) rfl (by rw [zg_frz]; exact e2)) (by simp)
  have hPf := hP.fz
  have fPP : P.frz.frz = P.frz := fz_frz _ hPf
  obtain ⟨t, ht⟩ := repr_ev hP (fun r hr => ⟨by rw [(hd.rows r hr).1]; exact w6, (hsq r hr).1⟩) (by omega)
  have st := steps_ev hP (hRows.mono (by decide) (by decide)) hd.w1
  rw [hS] at st
  have rk := rank_ev hP (hRows.mono (by decide) (by decide)) hd.w1
  rw [hS] at rk
  have pf : (pot a1 b1).frz = .lst false [.int a1, .int b1] := rfl
  have oS := ow_lst_map orl orl_ow S
  have s3 : parS2 4 5 (consA (pureD (opN reprD (consA (nameD 3) nilA))) (consA (pureD (callF [false] m_steps (consA (nameD 3) nilA))) nilA)) [some (pot a1 b1), some (zg R), some (.lst true (S.map zl)), some P, none, none, none, none, none, none, none, none, none] = some (.nx [some (pot a1 b1), some (zg R), some (.lst true (S.map zl)), some P, some (.str t), some (.lst true (S.map orl)), none, none, none, none, none, none, none]) := by
    have f : frzE [some (pot a1 b1), some (zg R), some (.lst true (S.map zl)), some P, none, none, none, none, none, none, none, none, none] = [some (pot a1 b1).frz, some (zg R).frz, some (D.lst true (S.map zl)).frz, some P.frz, none, none, none, none, none, none, none, none, none] := rfl
    have q1 : pureD (opN reprD (consA (nameD 3) nilA)) [some (pot a1 b1), some (zg R), some (.lst true (S.map zl)), some P, none, none, none, none, none, none, none, none, none] = some (.t (.str t), [some (pot a1 b1), some (zg R), some (.lst true (S.map zl)), some P, none, none, none, none, none, none, none, none, none]) := by
      refine pureD_ev (e1 := frzE [some (pot a1 b1), some (zg R), some (.lst true (S.map zl)), some P, none, none, none, none, none, none, none, none, none]) (opN1_t (x := P.frz) ?_ (by rw [fPP]; exact ht)) rfl
      rw [f]
      exact nameD_fz rfl hPf
    have q2 : pureD (callF [false] m_steps (consA (nameD 3) nilA)) [some (pot a1 b1), some (zg R), some (.lst true (S.map zl)), some P, none, none, none, none, none, none, none, none, none] = some (.t (.lst true (S.map orl)), [some (pot a1 b1), some (zg R), some (.lst true (S.map zl)), some P, none, none, none, none, none, none, none, none, none]) := by
      refine pureD_ev (e1 := frzE [some (pot a1 b1), some (zg R), some (.lst true (S.map zl)), some P, none, none, none, none, none, none, none, none, none]) (callF1 (x := P.frz) ?_ (by rw [fPP]; exact st)) oS
      rw [f]
      exact nameD_fz rfl hPf
    unfold parS2
    simp only [consA, nilA, q1, q2, Option.bind_some, toTs, toT, List.length_cons, List.length_nil]
    rfl
  have f4 : frzE [some (pot a1 b1), some (zg R), some (.lst true (S.map zl)), some P, some (.str t), some (.lst true (S.map orl)), none, none, none, none, none, none, none] = [some (pot a1 b1).frz, some (zg R), some (zg S), some P.frz, some (.str t), some (rg S), none, none, none, none, none, none, none] := by
    show [some (pot a1 b1).frz, some (zg R).frz, some (D.lst true (S.map zl)).frz, some P.frz, some (.str t), some (D.lst true (S.map orl)).frz, none, none, none, none, none, none, none] = _
    rw [zg_frz, frz_zls, frz_orls]
  have s4 : ifS (pureT (orT (valT (bin2 neD (callF [false] m_law_rows (consA (nameD 5) nilA)) (nameD 2))) (orT (valT (bin2 neD (opN reprD (consA (nameD 3) nilA)) (nameD 4))) (valT (bin2 neD (callF [false] m_rank (consA (nameD 3) nilA)) (opN lenD (consA (nameD 2) nilA))))))) (retS (litD (.bl false))) nextS [some (pot a1 b1), some (zg R), some (.lst true (S.map zl)), some P, some (.str t), some (.lst true (S.map orl)), none, none, none, none, none, none, none] = some (.nx [some (pot a1 b1), some (zg R), some (.lst true (S.map zl)), some P, some (.str t), some (.lst true (S.map orl)), none, none, none, none, none, none, none]) := by
    refine ifS_no (pureT_ev (e1 := [some (pot a1 b1).frz, some (zg R), some (zg S), some P.frz, some (.str t), some (rg S), none, none, none, none, none, none, none]) ?_) rfl
    rw [f4]
    refine valT_or (b := false) (c := false) (valT_ev (bin2_tt (callF1 (nameD_fz (i := 5) rfl (rg_fz S)) (by rw [rg_frz]; exact law_rows_ev (fun r hr => by rw [lenS r hr]; omega) (by omega))) (nameD_fz (i := 2) rfl (zg_fz S)) ?_)) (fun _ => ?_) (fun q => by cases q)
    · show neD (.lst false (frzs (S.map fun r => .lst true (r.map fq)))) (zg S).frz = _
      rw [frzs_ofq, zg_frz]
      exact ne_zg S
    · refine valT_or (b := false) (c := false) (valT_ev (bin2_tt (opN1_t (x := P.frz) (z := .str t) (nameD_fz (i := 3) rfl hPf) (by rw [fPP]; exact ht)) (nameD_fz (i := 4) (d := .str t) rfl rfl) (ne_str t))) (fun _ => ?_) (fun q => by cases q)
      refine valT_ev (bin2_tt (callF1 (x := P.frz) (nameD_fz (i := 3) rfl hPf) (by rw [fPP]; exact rk)) (len_lst (i := 2) (o := false) (l := S.map zl) rfl (zg_fz S)) ?_)
      rw [List.length_map]
      exact ne_int_same _
  -- steps of steps
  have told := hd.told
  rw [hS] at told
  have ss : stepsL S w = S := by rw [← hS]; exact self_steps R w
  have st2 := steps_ev (gridD_rg S) told hd.w1
  rw [ss] at st2
  have rk2 := rank_ev (gridD_rg S) told hd.w1
  rw [ss] at rk2
  have s5 : ifS (pureT (orT (valT (bin2 neD (callF [false] m_steps (consA (nameD 5) nilA)) (nameD 5))) (valT (bin2 neD (callKF [false] m_rank [0] 0 1 nilA (consA (nameD 5) nilA)) (opN lenD (consA (nameD 2) nilA)))))) (retS (litD (.bl false))) nextS [some (pot a1 b1), some (zg R), some (.lst true (S.map zl)), some P, some (.str t), some (.lst true (S.map orl)), none, none, none, none, none, none, none] = some (.nx [some (pot a1 b1), some (zg R), some (.lst true (S.map zl)), some P, some (.str t), some (.lst true (S.map orl)), none, none, none, none, none, none, none]) := by
    refine ifS_no (pureT_ev (e1 := [some (pot a1 b1).frz, some (zg R), some (zg S), some P.frz, some (.str t), some (rg S), none, none, none, none, none, none, none]) ?_) rfl
    rw [f4]
    refine valT_or (b := false) (c := false) (valT_ev (bin2_tt (callF1 (nameD_fz (i := 5) rfl (rg_fz S)) (by rw [rg_frz]; exact st2)) (nameD_fz (i := 5) rfl (rg_fz S)) ?_)) (fun _ => ?_) (fun q => by cases q)
    · rw [frz_orls, rg_frz]
      exact ne_rg S
    · refine valT_ev (bin2_tt (callKF1 (nameD_fz (i := 5) rfl (rg_fz S)) (by rw [rg_frz]; exact rk2)) (len_lst (i := 2) (o := false) (l := S.map zl) rfl (zg_fz S)) ?_)
      rw [List.length_map]
      exact ne_int_same _
  -- again
  have s6 : setS 6 (pureD (compD [7] (seqI (pnOf [true, false] 0) (nameD 5)) (nameG 7) yesT ce_law_grid_right_2)) [some (pot a1 b1), some (zg R), some (.lst true (S.map zl)), some P, some (.str t), some (.lst true (S.map orl)), none, none, none, none, none, none, none] = some (.nx [some (pot a1 b1), some (zg R), some (.lst true (S.map zl)), some P, some (.str t), some (.lst true (S.map orl)), some (.lst true (S.map orl)), none, none, none, none, none, none]) := by
    refine setS_t (pureD_ev (e1 := [some (pot a1 b1).frz, some (zg R), some (zg S), some P.frz, some (.str t), some (rg S), none, none, none, none, none, none, none]) ?_ oS) (by simp)
    rw [f4]
    refine comp_t (l := S) (f := rl) (g := orl) (e1 := [some (pot a1 b1).frz, some (zg R), some (zg S), some P.frz, some (.str t), some (rg S), none, none, none, none, none, none, none]) (env0 := [some (pot a1 b1).frz, some (zg R), some (zg S), some P.frz, some (.str t), some (rg S), none, none, none, none, none, none, none]) (seqI_fz (o := false) (l := S.map rl) rfl (rg_fz S)) rfl (fun r hr => ?_) rfl (by show _ ≤ 10000; omega)
    refine one_yes (e1 := [some (pot a1 b1).frz, some (zg R), some (zg S), some P.frz, some (.str t), some (rg S), none, some (rl r), none, none, none, none, none]) rfl (e2 := [some (pot a1 b1).frz, some (zg R), some (zg S), some P.frz, some (.str t), some (rg S), none, some (rl r), none, none, none, none, none]) ?_ rfl
    refine comp_t (l := r) (f := D.rat) (g := D.rat) (e1 := [some (pot a1 b1).frz, some (zg R), some (zg S), some P.frz, some (.str t), some (rg S), none, some (rl r), none, none, none, none, none]) (seqI_fz (i := 7) (o := false) (l := r.map .rat) rfl (rl_fz r)) rfl (fun q hq => ?_) rfl (by rw [lenS r hr]; show _ ≤ 10000; omega)
    exact one_yes (e1 := [some (pot a1 b1).frz, some (zg R), some (zg S), some P.frz, some (.str t), some (rg S), none, some (rl r), none, none, some (.rat q), none, none]) rfl (nameD_fz (i := 10) (d := .rat q) rfl rfl) rfl
  -- told lists are new
  have hlen : ∀ r : List Rat, r ∈ S → (r.map D.rat).length < 10000 := fun r hr => by rw [List.length_map, lenS r hr]; omega
  have ap : ∃ es, appAll (S.map orl) = some es := by
    have : ∀ Y : List (List Rat), (∀ r ∈ Y, r.length = w) → ∃ es, appAll (Y.map orl) = some es := by
      intro Y
      induction Y with
      | nil => intro _; exact ⟨[], rfl⟩
      | cons r Y ih =>
        intro hY
        obtain ⟨es, he⟩ := ih fun r' hr' => hY r' (List.mem_cons_of_mem _ hr')
        refine ⟨.lst true (r.map D.rat ++ [.non]) :: es, ?_⟩
        rw [List.map_cons, appAll]
        unfold orl app1
        dsimp only
        rw [if_pos (show (r.map D.rat).length < LMAX by rw [List.length_map, hY r List.mem_cons_self]; show _ < 10000; omega), Option.bind_some]
        have he' : appAll (Y.map fun r => D.lst true (r.map D.rat)) = some es := he
        rw [show (Y.map orl) = Y.map fun r => D.lst true (r.map D.rat) from rfl] at he
        show (appAll (List.map orl Y)).map _ = _
        rw [show (Y.map orl) = Y.map fun r => D.lst true (r.map D.rat) from rfl, he]
        rfl
    exact this S lenS
  obtain ⟨es, he⟩ := ap
  have les : es.length = S.length := by rw [← (appAll_at he).1, List.length_map]
  have s7 : forAppS 5 7 [some (pot a1 b1), some (zg R), some (.lst true (S.map zl)), some P, some (.str t), some (.lst true (S.map orl)), some (.lst true (S.map orl)), none, none, none, none, none, none] = some (.nx [some (pot a1 b1), some (zg R), some (.lst true (S.map zl)), some P, some (.str t), some (.lst true es), some (.lst true (S.map orl)), none, none, none, none, none, none]) := by
    unfold forAppS
    rw [if_neg (by decide)]
    show ((some (S.map orl)).bind _) = _
    rw [Option.bind_some, he]
    rfl
  have s8 : exprS (appD 5 (litD .non)) [some (pot a1 b1), some (zg R), some (.lst true (S.map zl)), some P, some (.str t), some (.lst true es), some (.lst true (S.map orl)), none, none, none, none, none, none] = some (.nx [some (pot a1 b1), some (zg R), some (.lst true (S.map zl)), some P, some (.str t), some (.lst true (es ++ [.non])), some (.lst true (S.map orl)), none, none, none, none, none, none]) := by
    unfold exprS appD litD
    show ((((some es).bind _).bind _) : Option Out) = _
    rw [Option.bind_some, Option.bind_some]
    dsimp only [toT]
    rw [Option.bind_some]
    show ((((some es).bind _).bind _) : Option Out) = _
    rw [Option.bind_some, if_pos (show es.length < LMAX by rw [les]; show _ < 10000; omega)]
    rfl
  have s9 : ifS (pureT (valT (bin2 neD (callKF [false] m_steps [0] 0 1 nilA (consA (nameD 3) nilA)) (nameD 6)))) (retS (litD (.bl false))) nextS [some (pot a1 b1), some (zg R), some (.lst true (S.map zl)), some P, some (.str t), some (.lst true (es ++ [.non])), some (.lst true (S.map orl)), none, none, none, none, none, none] = some (.nx [some (pot a1 b1), some (zg R), some (.lst true (S.map zl)), some P, some (.str t), some (.lst true (es ++ [.non])), some (.lst true (S.map orl)), none, none, none, none, none, none]) := by
    have f9 : frzE [some (pot a1 b1), some (zg R), some (.lst true (S.map zl)), some P, some (.str t), some (.lst true (es ++ [.non])), some (.lst true (S.map orl)), none, none, none, none, none, none] = [some (pot a1 b1).frz, some (zg R), some (zg S), some P.frz, some (.str t), some (D.lst true (es ++ [.non])).frz, some (rg S), none, none, none, none, none, none] := by
      show [some (pot a1 b1).frz, some (zg R).frz, some (D.lst true (S.map zl)).frz, some P.frz, some (.str t), some (D.lst true (es ++ [.non])).frz, some (D.lst true (S.map orl)).frz, none, none, none, none, none, none] = _
      rw [zg_frz, frz_zls, frz_orls]
    refine ifS_no (pureT_ev (e1 := [some (pot a1 b1).frz, some (zg R), some (zg S), some P.frz, some (.str t), some (D.lst true (es ++ [.non])).frz, some (rg S), none, none, none, none, none, none]) ?_) rfl
    rw [f9]
    refine valT_ev (bin2_tt (callKF1 (x := P.frz) (nameD_fz (i := 3) rfl hPf) (by rw [fPP]; exact st)) (nameD_fz (i := 6) rfl (rg_fz S)) ?_)
    rw [frz_orls, rg_frz]
    exact ne_rg S
  refine ⟨P, .lst true (es ++ [.non]), t, a1, b1, hP, p1, fun k out hk => ?_⟩
  exact seqS_any s1 (seqS_any s2 (seqS_any s3 (seqS_any s4 (seqS_any s5 (seqS_any s6 (seqS_any s7 (seqS_any s8 (seqS_any s9 hk))))))))
end K12

set_option Elab.async false
set_option linter.all false
set_option maxRecDepth 100000
set_option maxHeartbeats 4000000
set_option exponentiation.threshold 4000
namespace K12
open PySem PySem.Spec PyProof.Rows L2 Own Dx La
theorem dispD_ev {t : Bool} {ft : DA} {env e1 e2 : Dx.Env} {as : List AV} {ds : List D} (h : ft env = some (as, e1)) (h2 : toTs as e1 = some (ds, e2)) (hl : ds.length ≤ 10000) : dispD t ft env = some (.t (D.seq t true ds), e2) := by
  unfold dispD
  rw [h, Option.bind_some]
  dsimp only
  rw [h2, Option.bind_some]
  dsimp only
  rw [if_pos (show ds.length ≤ LMAX from hl)]
def isQ (q : Rat) : Prop := q = 2 ∨ q = -1 ∨ q = mkRat 1 3
theorem third : mkRat 1 3 = (1 : Rat) / 3 := by decide +kernel
theorem isQ.ne {q : Rat} (h : isQ q) : q ≠ 0 := by
  rcases h with rfl | rfl | rfl <;> decide +kernel
theorem ScD.of {R G : List (List Rat)} (h : ScD R G) : ∀ g ∈ G, ∃ r ∈ R, ∃ q, isQ q ∧ g = r.map (· * q) := by
  induction h with
  | nil => intro g hg; cases hg
  | cons q hq _ ih =>
    intro g hg
    rcases List.mem_cons.mp hg with e | hg
    · exact ⟨_, List.mem_cons_self, q, hq, e⟩
    · obtain ⟨r, hr, q', h1, h2⟩ := ih g hg
      exact ⟨r, List.mem_cons_of_mem _ hr, q', h1, h2⟩
theorem ScD.to {R G : List (List Rat)} (h : ScD R G) : ∀ r ∈ R, ∃ q, isQ q ∧ r.map (· * q) ∈ G := by
  induction h with
  | nil => intro g hg; cases hg
  | cons q hq _ ih =>
    intro g hg
    rcases List.mem_cons.mp hg with e | hg
    · subst e
      exact ⟨q, hq, List.mem_cons_self⟩
    · obtain ⟨q', h1, h2⟩ := ih g hg
      exact ⟨q', h1, List.mem_cons_of_mem _ h2⟩
theorem map_getD (r : List Rat) (q : Rat) (j : Nat) : (r.map (· * q)).getD j 0 = r.getD j 0 * q := by
  rw [List.getD_eq_getElem?_getD, List.getD_eq_getElem?_getD, List.getElem?_map]
  cases r[j]? with
  | none => show (0 : Rat) = 0 * q; rw [Rat.zero_mul]
  | some x => rfl
theorem sum_getD {r1 r2 : List Rat} {w j : Nat} (h1 : r1.length = w) (h2 : r2.length = w) (hj : j < w) : ((r1.zip r2).map fun p => p.1 + p.2).getD j 0 = r1.getD j 0 + r2.getD j 0 := by
  have a : r1[j]? = some (r1[j]'(by omega)) := List.getElem?_eq_getElem (by omega)
  have b : r2[j]? = some (r2[j]'(by omega)) := List.getElem?_eq_getElem (by omega)
  have c : (r1.zip r2)[j]? = some (r1[j]'(by omega), r2[j]'(by omega)) := List.getElem?_zip_eq_some.mpr ⟨a, b⟩
  rw [List.getD_eq_getElem?_getD, List.getD_eq_getElem?_getD, List.getD_eq_getElem?_getD, List.getElem?_map, a, b, c]
  rfl
theorem Hf.mulQ {n : Nat} {x q : Rat} (h : Hf n x) (hq : isQ q) : Sx (6 * n) (x * q) := by
  obtain ⟨y, rfl, hy⟩ := h
  rcases hq with rfl | rfl | rfl
  · refine ⟨6 * y, ?_, by omega⟩
    rw [Rat.intCast_mul]
    show (y : Rat) / 2 * 2 = (6 : Rat) * y / 6
    grind
  · refine ⟨-3 * y, ?_, by omega⟩
    rw [Rat.intCast_mul]
    show (y : Rat) / 2 * -1 = (-3 : Rat) * y / 6
    grind
  · refine ⟨y, ?_, by omega⟩
    rw [third]
    grind
/-- the other rows -/
structure Oth (R O : List (List Rat)) (w : Nat) : Prop where
  len : O.length ≤ 12
  rows : ∀ r ∈ O, r.length = w ∧ ∀ x ∈ r, Sx 1200 x
  made : ∀ r ∈ O, Made (stR R w).d w (stepsOf (stR R w)) fun j => r.getD j 0
  back : ∀ r ∈ R, ∃ r' ∈ O, ∃ q : Rat, ∀ j, j < w → r.getD j 0 = q * r'.getD j 0
theorem oth_of {R G F : List (List Rat)} {w : Nat} (hd : Drw R w) (hG : ScD R G) (hF : F.Perm G) : Oth R F w := by
  refine ⟨by rw [hF.length_eq, hG.len]; have := hd.r5; omega, fun r hr => ?_, fun r hr => ?_, fun r hr => ?_⟩
  · obtain ⟨r0, h0, q, hq, rfl⟩ := hG.of r (hF.subset hr)
    refine ⟨by rw [List.length_map]; exact (hd.rows r0 h0).1, fun x hx => ?_⟩
    obtain ⟨y, hy, rfl⟩ := List.mem_map.mp hx
    exact ((hd.hf h0 hy).mulQ hq).mono (by decide)
  · obtain ⟨r0, h0, q, hq, rfl⟩ := hG.of r (hF.subset hr)
    exact made_scale q (made_mem h0) fun j _ => by rw [map_getD, Rat.mul_comm]
  · obtain ⟨q, hq, hm⟩ := hG.to r hr
    refine ⟨_, hF.symm.subset hm, q⁻¹, fun j _ => ?_⟩
    rw [map_getD]
    have := hq.ne
    grind
theorem oth_more {R F : List (List Rat)} {w : Nat} (hd : Drw R w) (h : Oth R F w) (hl : F.length ≤ 5) {r1 r2 : List Rat} (m1 : r1 ∈ R) (m2 : r2 ∈ R) : Oth R (F ++ [(r1.zip r2).map fun p => p.1 + p.2, List.replicate w 0]) w := by
  have l1 := (hd.rows r1 m1).1
  have l2 := (hd.rows r2 m2).1
  refine ⟨by simp; omega, fun r hr => ?_, fun r hr => ?_, fun r hr => ?_⟩
  · rcases List.mem_append.mp hr with g | g
    · exact h.rows r g
    · simp only [List.mem_cons, List.not_mem_nil, or_false] at g
      rcases g with rfl | rfl
      · refine ⟨by rw [List.length_map, List.length_zip, l1, l2, Nat.min_self], fun x hx => ?_⟩
        obtain ⟨⟨u, v⟩, hp, rfl⟩ := List.mem_map.mp hx
        have := (Hf.add (hd.hf m1 (List.of_mem_zip hp).1) (hd.hf m2 (List.of_mem_zip hp).2)).sx
        exact this.mono (by decide)
      · refine ⟨List.length_replicate .., fun x hx => ?_⟩
        rw [List.eq_of_mem_replicate hx]
        exact ⟨0, by decide +kernel, by decide⟩
  · rcases List.mem_append.mp hr with g | g
    · exact h.made r g
    · simp only [List.mem_cons, List.not_mem_nil, or_false] at g
      rcases g with rfl | rfl
      · refine (Made.lin 1 1 (made_mem m1) (made_mem m2)).congr fun j hj => ?_
        rw [sum_getD l1 l2 hj, Rat.one_mul, Rat.one_mul]
      · refine Made.zero.congr fun j hj => ?_
        rw [List.getD_eq_getElem?_getD, List.getElem?_replicate, if_pos hj]
        rfl
  · obtain ⟨r', h1, h2⟩ := h.back r hr
    exact ⟨r', List.mem_append_left _ h1, h2⟩
theorem Oth.same {R O : List (List Rat)} {w : Nat} (h : Oth R O w) : stepsL O w = stepsL R w := same_mem h.made h.back
theorem Oth.sq {R O : List (List Rat)} {w : Nat} (hd : Drw R w) (h : Oth R O w) : ∀ r ∈ O, (∀ q ∈ r, Sq 1000 q) ∧ r.length ≤ 500 := fun r hr => by
  refine ⟨fun q hq => ?_, by rw [(h.rows r hr).1]; have := hd.w6; omega⟩
  obtain ⟨y, rfl, hy⟩ := (h.rows r hr).2 q hq
  have : ((6 : Int) : Rat) = 6 := rfl
  rw [← this]
  exact (divq (k := 100) (by decide) (Nat.lt_of_le_of_lt hy (by decide)) (by decide)).mono (by decide)
theorem grid_right_b {a b : Int} {R : List (List Rat)} {w : Nat} {x2 x3 x4 x5 : Option D} (h : Pot a b) (hd : Drw R w) :
    ∃ (a' b' : Int) (e : Dx.Env), Pot a' b' ∧ e.take 2 = [some (pot a' b'), some (zg R)] ∧
    (seqS (setS 8 (callF [true, false] m_law_shuffled (consA (nameD 0) (consA (compD [7] (seqI (pnOf [true, false] 0) (nameD 1)) (nameG 7) yesT ce_law_grid_right_3) nilA))))
    (seqS (ifS (pureT (valT (bin2 neD (nameD 1) (dispD false nilA)))) (seqS (setS 9 (compD [11, 12] (zipI (pnOf [true, false] 0) (callF [true, true] m_law_pick (consA (nameD 0) (consA (nameD 1) nilA))) (callF [true, true] m_law_pick (consA (nameD 0) (consA (nameD 1) nilA)))) (tupG 2 (consG (nameG 11) (consG (nameG 12) nilG))) yesT ce_law_grid_right_4))
    (setS 8 (bin2 addD (nameD 8) (dispD false (consA (nameD 9) (consA (bin2 mulD (dispD false (consA (dispD true (consA (litD (.int 0)) (consA (litD (.int 1)) nilA))) nilA)) (pureD (opN lenD (consA (ixD (nameD 1) (litD (.int 0))) nilA)))) nilA)))))) nextS)
    (retS (bin2 eqD (callF [false] m_steps (consA (callF [true, false] m_law_given (consA (nameD 0) (consA (nameD 8) nilA))) nilA)) (nameD 6))))) [some (pot a b), some (zg R), x2, x3, x4, x5, some (.lst true ((stepsL R w).map orl)), none, none, none, none, none, none] = some (.rt (.bl true) e) := by
  have w6 := hd.w6
  have r5 := hd.r5
  generalize hS : stepsL R w = S
  have oS : ∃ o : D, o = .lst true (S.map orl) := ⟨_, rfl⟩
  -- scaled, shuffled
  obtain ⟨G, a1, b1, e1, hG, p1⟩ := scal_loop (x1 := some (zg R)) (x2 := x2) (x3 := x3) (x4 := x4) (x5 := x5) (x6 := some (.lst true (S.map orl))) (x8 := none) (x9 := none) (x10 := none) (x11 := none) (x12 := none) (R2 := R) (acc := []) h (fun r hr => ⟨fun x hx => by
    obtain ⟨y, rfl, hy⟩ := hd.hf hr hx
    have : ((2 : Int) : Rat) = 2 := rfl
    rw [← this]
    exact divq (k := 100) (by decide) (Nat.lt_of_le_of_lt hy (by decide)) (by decide), by rw [(hd.rows r hr).1]; omega⟩) (by show 0 + _ ≤ _; omega)
  rw [List.nil_append] at e1
  have lG : G.length ≤ 5 := by rw [hG.len]; exact r5
  obtain ⟨F, a2, b2, e2, hF, p2⟩ := shuffled_ev (G := G) p1 (by omega)
  have lF : F.length ≤ 5 := by rw [hF.length_eq]; exact lG
  have c1 : compD [7] (seqI (pnOf [true, false] 0) (nameD 1)) (nameG 7) yesT ce_law_grid_right_3 [some (pot a b), some (zg R), x2, x3, x4, x5, some (.lst true (S.map orl)), none, none, none, none, none, none] = some (.t (.lst true (G.map fun r => .lst true (r.map fq))), [some (pot a1 b1), some (zg R), x2, x3, x4, x5, some (.lst true (S.map orl)), none, none, none, none, none, none]) :=
    compD_of (e1 := [some (pot a b), some (zg R), x2, x3, x4, x5, some (.lst true (S.map orl)), none, none, none, none, none, none]) (seqI_fz (i := 1) (o := false) (l := R.map zl) rfl (zg_fz R)) e1 rfl
  have fG : (D.lst true (G.map fun r => .lst true (r.map fq))).frz = zg G := by show D.lst false (frzs _) = _; rw [frzs_ofq]; rfl
  have s10 : setS 8 (callF [true, false] m_law_shuffled (consA (nameD 0) (consA (compD [7] (seqI (pnOf [true, false] 0) (nameD 1)) (nameG 7) yesT ce_law_grid_right_3) nilA))) [some (pot a b), some (zg R), x2, x3, x4, x5, some (.lst true (S.map orl)), none, none, none, none, none, none] = some (.nx [some (pot a2 b2), some (zg R), x2, x3, x4, x5, some (.lst true (S.map orl)), none, some (.lst true (F.map zl)), none, none, none, none]) :=
    setS_t (callP1 (a := a1) (b := b1) rfl c1 rfl (by rw [fG]; exact e2)) (by simp)
  have o1 := oth_of hd hG hF
  -- the end, whatever the other rows
  have fin : ∀ (O : List (List Rat)) (a3 b3 : Int) (x9 : Option D) (ol : D), ol.frz = zg O → Pot a3 b3 → Oth R O w → ∃ (a' b' : Int) (e : Dx.Env), Pot a' b' ∧ e.take 2 = [some (pot a' b'), some (zg R)] ∧
      retS (bin2 eqD (callF [false] m_steps (consA (callF [true, false] m_law_given (consA (nameD 0) (consA (nameD 8) nilA))) nilA)) (nameD 6)) [some (pot a3 b3), some (zg R), x2, x3, x4, x5, some (.lst true (S.map orl)), none, some ol, x9, none, none, none] = some (.rt (.bl true) e) := by
    intro O a3 b3 x9 ol hol p3 ho
    obtain ⟨P, a4, b4, e4, hP, p4⟩ := given_ev p3 (ho.sq hd) (by have := ho.len; omega)
    have hRows : Rows O w := rows_of (n := 1200) ho.rows w6 ho.len (by decide)
    have st := steps_ev hP (hRows.mono (by decide) (by decide)) hd.w1
    rw [ho.same, hS] at st
    -- given: the other rows are frozen
    have cg : callF [true, false] m_law_given (consA (nameD 0) (consA (nameD 8) nilA)) [some (pot a3 b3), some (zg R), x2, x3, x4, x5, some (.lst true (S.map orl)), none, some ol, x9, none, none, none] = some (.t P, [some (pot a4 b4), some (zg R), x2, x3, x4, x5, some (.lst true (S.map orl)), none, some (zg O), x9, none, none, none]) := by
      by_cases hf : ol.fz = true
      · have e : ol.frz = ol := fz_frz ol hf
        rw [e] at hol
        subst hol
        exact callP1 (a := a3) (b := b3) rfl (nameD_fz (i := 8) rfl hf) rfl (by rw [e]; exact e4)
      · have hf' : ol.fz = false := by simpa using hf
        obtain ⟨ps, e4⟩ := e4
        unfold callF
        simp only [consA, nilA, nameD_ow (env := [some (pot a3 b3), some (zg R), x2, x3, x4, x5, some (.lst true (S.map orl)), none, some ol, x9, none, none, none]) (i := 0) rfl (pot_fz a3 b3), nameD_ow (env := [some (pot a3 b3), some (zg R), x2, x3, x4, x5, some (.lst true (S.map orl)), none, some ol, x9, none, none, none]) (i := 8) rfl hf', Option.bind_some, argsD, argD, if_true, List.getElem?_cons_zero, Bool.false_eq_true, if_false, toF, List.set_cons_zero, List.getElem?_cons_succ, hol, List.set_cons_succ, e4, backA]
        rw [backA1]
        rfl
    obtain ⟨d', hd', q⟩ := bin2_tn (g := eqD) (i := 6) (d := .lst true (S.map orl)) (X := S.map rl) (z := .bl true) (callF1 cg st) rfl (frz_orls S) (by rw [frz_orls]; exact eq_rg S)
    exact ⟨a4, b4, _, p4, rfl, retS_t q⟩
  by_cases hR : R = []
  · obtain ⟨a', b', e, q1, q2, q3⟩ := fin F a2 b2 none (.lst true (F.map zl)) (frz_zls F) p2 o1
    refine ⟨a', b', e, q1, q2, seqS_any s10 (seqS_any (ifS_no (pureT_ev (e1 := frzE [some (pot a2 b2), some (zg R), x2, x3, x4, x5, some (.lst true (S.map orl)), none, some (.lst true (F.map zl)), none, none, none, none]) ?_) rfl) q3)⟩
    refine valT_ev (bin2_tt (x := zg R) (y := .lst true []) (nameD_fz ?_ (zg_fz R)) disp0 ?_)
    · show some (some (zg R).frz) = _
      rw [zg_frz]
    · subst hR
      rfl
  · have lR : 0 < (R.map zl).length := by
      rw [List.length_map]
      exact List.length_pos_iff.mpr hR
    have pk : ∀ (a b : Int), Pot a b → ∃ r a' b', callF [true, true] m_law_pick (consA (nameD 0) (consA (nameD 1) nilA)) [some (pot a b), some (zg R), x2, x3, x4, x5, some (.lst true (S.map orl)), none, some (.lst true (F.map zl)), none, none, none, none] = some (.t (zl r), [some (pot a' b'), some (zg R), x2, x3, x4, x5, some (.lst true (S.map orl)), none, some (.lst true (F.map zl)), none, none, none, none]) ∧ r ∈ R ∧ Pot a' b' := by
      intro a b p
      obtain ⟨i, dd, a', b', e, hi, hdd, p'⟩ := pick_ev (o := false) (l := R.map zl) p lR (by rw [List.length_map]; omega)
      rw [frzs_zl, List.getElem?_map] at hdd
      cases q : R[i]? with
      | none => rw [q] at hdd; cases hdd
      | some r =>
        rw [q] at hdd
        have hd' : zl r = dd := Option.some.inj hdd
        subst hd'
        exact ⟨r, a', b', callR1t (y := zg R) rfl (nameD_fz (i := 1) rfl (zg_fz R)) rfl e, List.mem_of_getElem? q, p'⟩
    obtain ⟨r1, a3, b3, k1, m1, p3⟩ := pk a2 b2 p2
    obtain ⟨r2, a4, b4, k2, m2, p4⟩ := pk a3 b3 p3
    have l1 := (hd.rows r1 m1).1
    have l2 := (hd.rows r2 m2).1
    have tst : pureT (valT (bin2 neD (nameD 1) (dispD false nilA))) [some (pot a2 b2), some (zg R), x2, x3, x4, x5, some (.lst true (S.map orl)), none, some (.lst true (F.map zl)), none, none, none, none] = some (true, [some (pot a2 b2), some (zg R), x2, x3, x4, x5, some (.lst true (S.map orl)), none, some (.lst true (F.map zl)), none, none, none, none]) := by
      refine pureT_ev (e1 := frzE [some (pot a2 b2), some (zg R), x2, x3, x4, x5, some (.lst true (S.map orl)), none, some (.lst true (F.map zl)), none, none, none, none]) ?_
      refine valT_ev (bin2_tt (x := zg R) (y := .lst true []) (nameD_fz ?_ (zg_fz R)) disp0 ?_)
      · show some (some (zg R).frz) = _
        rw [zg_frz]
      · rw [zg_frz]
        have := deps_map zl 2 dep_zl R
        have z := ne_lst_nil (o := false) (o' := false) (l := R.map zl) (by omega)
        have ne : (!(R.map zl).isEmpty) = true := by cases R with
          | nil => exact absurd rfl hR
          | cons _ _ => rfl
        rw [ne] at z
        exact z
    generalize hSm : ((r1.zip r2).map fun p => p.1 + p.2) = Sm
    have s11 : setS 9 (compD [11, 12] (zipI (pnOf [true, false] 0) (callF [true, true] m_law_pick (consA (nameD 0) (consA (nameD 1) nilA))) (callF [true, true] m_law_pick (consA (nameD 0) (consA (nameD 1) nilA)))) (tupG 2 (consG (nameG 11) (consG (nameG 12) nilG))) yesT ce_law_grid_right_4) [some (pot a2 b2), some (zg R), x2, x3, x4, x5, some (.lst true (S.map orl)), none, some (.lst true (F.map zl)), none, none, none, none]
        = some (.nx [some (pot a4 b4), some (zg R), x2, x3, x4, x5, some (.lst true (S.map orl)), none, some (.lst true (F.map zl)), some (.lst true (Sm.map fq)), none, none, none]) := by
      rw [← hSm, List.map_map]
      refine setS_t (comp_t (l := r1.zip r2) (f := fun p => .tup true [zq p.1, zq p.2]) (g := fq ∘ fun p => p.1 + p.2) (e1 := [some (pot a4 b4), some (zg R), x2, x3, x4, x5, some (.lst true (S.map orl)), none, some (.lst true (F.map zl)), none, none, none, none]) (env0 := [some (pot a4 b4), some (zg R), x2, x3, x4, x5, some (.lst true (S.map orl)), none, some (.lst true (F.map zl)), none, none, none, none]) ?_ rfl (fun p hp => ?_) rfl ?_) (by simp)
      · simp only [zipI, k1, k2, Option.bind_some, itTake, zl_frz]
        simp only [zl, isL, Option.bind_some, zipL_zip, List.append_nil]
      · obtain ⟨x, y⟩ := p
        have sm : ∀ z : Rat, Hf 192 z → Sq 100 z := fun z hz => by
          obtain ⟨y, rfl, hy⟩ := hz
          have : ((2 : Int) : Rat) = 2 := rfl
          rw [← this]
          exact divq (by decide) (Nat.lt_of_le_of_lt hy (by decide)) (by decide)
        have hx := sm x (hd.hf m1 (List.of_mem_zip hp).1)
        have hy := sm y (hd.hf m2 (List.of_mem_zip hp).2)
        refine one_yes (e1 := [some (pot a4 b4), some (zg R), x2, x3, x4, x5, some (.lst true (S.map orl)), none, some (.lst true (F.map zl)), none, none, some (zq x), some (zq y)]) rfl (pureD_ev (e1 := frzE [some (pot a4 b4), some (zg R), x2, x3, x4, x5, some (.lst true (S.map orl)), none, some (.lst true (F.map zl)), none, none, some (zq x), some (zq y)]) (callF2 (nameD_fz (i := 11) rfl (zq_fz x)) (nameD_fz (i := 12) rfl (zq_fz y)) (sum_ev (k := 100) (by decide) hx hy)) rfl) rfl
      · rw [List.length_zip, l1]
        show _ ≤ 10000
        omega
    have fSm : (D.lst true (Sm.map fq)).frz = zl Sm := by show D.lst false (frzs _) = _; rw [frzs_fq]; rfl
    have rpl : ∀ n : Nat, (List.replicate n [zq 0]).flatten = (List.replicate n (0 : Rat)).map zq := by
      intro n
      induction n with
      | zero => rfl
      | succ n ih => rw [List.replicate_succ, List.flatten_cons, ih, List.replicate_succ, List.map_cons]; rfl
    have mz : bin2 mulD (dispD false (consA (dispD true (consA (litD (.int 0)) (consA (litD (.int 1)) nilA))) nilA)) (pureD (opN lenD (consA (ixD (nameD 1) (litD (.int 0))) nilA))) [some (pot a4 b4), some (zg R), x2, x3, x4, x5, some (.lst true (S.map orl)), none, some (.lst true (F.map zl)), some (.lst true (Sm.map fq)), none, none, none] = some (.t (.lst true ((List.replicate w (0 : Rat)).map zq)), [some (pot a4 b4), some (zg R), x2, x3, x4, x5, some (.lst true (S.map orl)), none, some (.lst true (F.map zl)), some (.lst true (Sm.map fq)), none, none, none]) := by
      refine bin2_tt (x := .lst true [.tup true [.int 0, .int 1]]) (y := .int (w : Nat)) (disp1 (t := false) (disp2 (t := true) litD_ev litD_ev)) (pureD_ev (e1 := frzE [some (pot a4 b4), some (zg R), x2, x3, x4, x5, some (.lst true (S.map orl)), none, some (.lst true (F.map zl)), some (.lst true (Sm.map fq)), none, none, none]) ?_ rfl) ?_
      · cases hRc : R with
        | nil => exact absurd hRc hR
        | cons r0 R0 =>
          have hr0 := (hd.rows r0 (by rw [hRc]; exact List.mem_cons_self)).1
          refine opN1_t (x := zl r0) (ix_lit (n := 0) (o := false) (l := (r0 :: R0).map zl) ?_ (zg_fz (r0 :: R0)) rfl) ?_
          · show some (some (zg (r0 :: R0)).frz) = _
            rw [zg_frz]
            rfl
          · rw [zl_frz]
            show some (D.int ((r0.map zq).length : Nat)) = _
            rw [List.length_map, hr0]
      · show mulD (.lst false [zq 0]) (.int (w : Nat)) = _
        rw [mulD, if_pos ⟨by show 1 * (w : Int).toNat ≤ 10000; omega, by omega, by omega⟩, Int.toNat_natCast, rpl]
    have dz : dispD false (consA (nameD 9) (consA (bin2 mulD (dispD false (consA (dispD true (consA (litD (.int 0)) (consA (litD (.int 1)) nilA))) nilA)) (pureD (opN lenD (consA (ixD (nameD 1) (litD (.int 0))) nilA)))) nilA)) [some (pot a4 b4), some (zg R), x2, x3, x4, x5, some (.lst true (S.map orl)), none, some (.lst true (F.map zl)), some (.lst true (Sm.map fq)), none, none, none] = some (.t (.lst true [zl Sm, .lst true ((List.replicate w (0 : Rat)).map zq)]), [some (pot a4 b4), some (zg R), x2, x3, x4, x5, some (.lst true (S.map orl)), none, some (.lst true (F.map zl)), some (zl Sm), none, none, none]) := by
      have c : consA (nameD 9) (consA (bin2 mulD (dispD false (consA (dispD true (consA (litD (.int 0)) (consA (litD (.int 1)) nilA))) nilA)) (pureD (opN lenD (consA (ixD (nameD 1) (litD (.int 0))) nilA)))) nilA) [some (pot a4 b4), some (zg R), x2, x3, x4, x5, some (.lst true (S.map orl)), none, some (.lst true (F.map zl)), some (.lst true (Sm.map fq)), none, none, none] = some ([.s 9, .t (.lst true ((List.replicate w (0 : Rat)).map zq))], [some (pot a4 b4), some (zg R), x2, x3, x4, x5, some (.lst true (S.map orl)), none, some (.lst true (F.map zl)), some (.lst true (Sm.map fq)), none, none, none]) := by
        unfold consA
        rw [nameD_ow (env := [some (pot a4 b4), some (zg R), x2, x3, x4, x5, some (.lst true (S.map orl)), none, some (.lst true (F.map zl)), some (.lst true (Sm.map fq)), none, none, none]) (i := 9) (d := .lst true (Sm.map fq)) rfl rfl, Option.bind_some]
        have mz' := mz
        unfold consA at mz'
        dsimp only
        rw [mz', Option.bind_some]
        rfl
      refine dispD_ev (t := false) c (ds := [zl Sm, .lst true ((List.replicate w (0 : Rat)).map zq)]) ?_ (show 2 ≤ 10000 by decide)
      simp only [toTs, toT, toF, List.getElem?_cons_succ, List.getElem?_cons_zero, fSm, Option.bind_some]
      rfl
    obtain ⟨ol, hol, s12⟩ := bin2_n1 (g := addD) (i := 8) (d := .lst true (F.map zl)) (X := F.map zl) (z := .lst true ((F ++ [Sm, List.replicate w 0]).map zl)) (fb := dispD false (consA (nameD 9) (consA (bin2 mulD (dispD false (consA (dispD true (consA (litD (.int 0)) (consA (litD (.int 1)) nilA))) nilA)) (pureD (opN lenD (consA (ixD (nameD 1) (litD (.int 0))) nilA)))) nilA))) rfl (frz_zls F) dz rfl (by
      have z : (D.lst true [zl Sm, .lst true ((List.replicate w (0 : Rat)).map zq)]).frz = .lst false ([Sm, List.replicate w 0].map zl) := by
        show D.lst false [(zl Sm).frz, D.lst false (frzs ((List.replicate w (0 : Rat)).map zq))] = _
        rw [zl_frz, frzs_zq]
        rfl
      rw [z, List.map_append]
      exact addD_ll (by simp; omega))
    have s13 := setS_t (i := 8) s12 (by simp)
    have o2 := oth_more hd o1 lF m1 m2
    rw [hSm] at o2
    obtain ⟨a', b', e, q1, q2, q3⟩ := fin (F ++ [Sm, List.replicate w 0]) a4 b4 (some (zl Sm)) (.lst true ((F ++ [Sm, List.replicate w 0]).map zl)) (frz_zls _) p4 o2
    exact ⟨a', b', e, q1, q2, seqS_any s10 (seqS_any (ifS_yes tst (seqS_any s11 s13)) q3)⟩
end K12

set_option Elab.async false
set_option linter.all false
set_option maxRecDepth 100000
set_option maxHeartbeats 4000000
set_option exponentiation.threshold 4000
namespace K12
open PySem PySem.Spec PyProof.Rows L2 Own Dx La
theorem grid_right_ev {a b : Int} {R : List (List Rat)} {w : Nat} (h : Pot a b) (hd : Drw R w) : ∃ a' b', EvP m_law_grid_right a b [zg R] (.bl true) a' b' ∧ Pot a' b' := by
  obtain ⟨P, T', t, a1, b1, hP, p1, k⟩ := grid_right_a h hd
  obtain ⟨a', b', e, p, ht, hB⟩ := grid_right_b (x2 := some (.lst true ((stepsL R w).map zl))) (x3 := some P) (x4 := some (.str t)) (x5 := some T') p1 hd
  exact ⟨a', b', evP_rt (ps := [zg R]) (ps' := [some (zg R)]) (env := [some (pot a b), some (zg R), none, none, none, none, none, none, none, none, none, none, none]) rfl (k _ _ hB) ht, p⟩
theorem drw_of {R : List (List Rat)} {w : Nat} (h1 : 1 ≤ w) (hr : ∀ r ∈ R, r.length = w ∧ ∀ x ∈ r, Hf (6 * 2 ^ R.length) x) (h : (R.length ≤ 5 ∧ w ≤ 5) ∨ (R.length ≤ 3 ∧ w = 6)) : Drw R w := ⟨h1, hr, h⟩
/-- a grid is drawn, and looked at -/
theorem one_grid {env env2 : Dx.Env} {a b : Int} {fm fw : DE} {m w : Nat} {e1 e2 : Dx.Env} {x : Dx.Env} (he : env = [some (pot a b)]) (hm : fm env = some (.t (.int m), e1)) (hw : fw e1 = some (.t (.int w), e2)) {a1 b1 : Int} (h2 : e2 = [some (pot a1 b1)]) (p : Pot a1 b1) (h1 : 1 ≤ w) (hs : (m ≤ 5 ∧ w ≤ 5) ∨ (m ≤ 3 ∧ w = 6)) :
    ∃ a' b', valT (callF [true, false] m_law_grid_right (consA (nameD 0) (consA (callF [true, false, false] m_law_grid (consA (nameD 0) (consA fm (consA fw nilA)))) nilA))) env = some (true, [some (pot a' b')]) ∧ Pot a' b' := by
  subst he
  subst h2
  obtain ⟨R, a2, b2, eg, lR, hR, p2⟩ := grid_ev (many := m) (wide := w) p (by rcases hs with q | q <;> omega) (by rcases hs with q | q <;> omega)
  have hd : Drw R w := drw_of h1 (fun r hr => by rw [lR]; exact hR r hr) (by rw [lR]; exact hs)
  obtain ⟨a3, b3, er, p3⟩ := grid_right_ev p2 hd
  have c1 := callP2 (a0 := a) (b0 := b) (env := [some (pot a b)]) rfl hm hw rfl (m := m_law_grid) eg
  have c2 := callP1 (a0 := a) (b0 := b) (env := [some (pot a b)]) (a := a2) (b := b2) rfl c1 rfl (m := m_law_grid_right) (r := .bl true) (by rw [frz_zls]; exact er)
  exact ⟨a3, b3, valT_ev c2, p3⟩
theorem draw_int {a b n : Int} (h : Pot a b) (hn : 0 < n) (hn2 : n < 1073741824) : ∃ (d : Nat) (a' b' : Int), callF [true, false] m_law_draw (consA (nameD 0) (consA (litD (.int n)) nilA)) [some (pot a b)] = some (.t (.int d), [some (pot a' b')]) ∧ (d : Int) < n ∧ Pot a' b' := by
  obtain ⟨d, a', b', e, d0, d1, p⟩ := draw_at (env := [some (pot a b)]) (fb := litD (.int n)) rfl litD_ev rfl h hn hn2
  obtain ⟨i, rfl⟩ : ∃ i : Nat, d = (i : Int) := ⟨d.toNat, by omega⟩
  exact ⟨i, a', b', e, d1, p⟩
theorem plus_draw {a b n : Int} (h : Pot a b) (hn : 0 < n) (hn2 : n < 1073741824) : ∃ (d : Nat) (a' b' : Int), bin2 addD (litD (.int 1)) (callF [true, false] m_law_draw (consA (nameD 0) (consA (litD (.int n)) nilA))) [some (pot a b)] = some (.t (.int (d + 1 : Nat)), [some (pot a' b')]) ∧ (d : Int) < n ∧ Pot a' b' := by
  obtain ⟨d, a', b', e, h1, p⟩ := draw_int h hn hn2
  refine ⟨d, a', b', bin2_tt litD_ev e ?_, h1, p⟩
  show some (D.int (1 + (d : Int))) = some (D.int ((d + 1 : Nat) : Int))
  congr 2
  omega
theorem stepsL_nil (w : Nat) : stepsL [] w = [] := by
  have q : ∀ c, (La.run (Mof []) 0 c) = s0 := by
    intro c
    induction c with
    | zero => rfl
    | succ c ih =>
      show turn _ 0 _ c = _
      rw [ih]
      rfl
  unfold stepsL gridF
  rw [show La.run (Mof []) ([] : List (List Rat)).length w = s0 from q w]
  rfl
theorem rows_small {R : List (List Rat)} {w n : Nat} (h : ∀ r ∈ R, r.length = w ∧ ∀ x ∈ r, ∃ y : Int, x = (y : Rat) ∧ y.natAbs ≤ n) (hw : w ≤ 6) (hm : R.length ≤ 12) (hn : n ≤ 100) : RowsE 70 60 R w :=
  (rows_of (n := 6 * n) (fun r hr => ⟨(h r hr).1, fun x hx => by
    obtain ⟨y, rfl, hy⟩ := (h r hr).2 x hx
    refine ⟨6 * y, ?_, by omega⟩
    rw [Rat.intCast_mul]
    show (y : Rat) = (6 : Rat) * y / 6
    grind⟩) hw hm (by omega)).mono (by decide) (by decide)
def Z12 : List (List Rat) := List.replicate 12 [0, 0, 0]
def F05 : List (List Rat) := [[0, 5]]
theorem z12_steps : (stepsL Z12 3).length = 0 := by decide +kernel
theorem f05_steps : stepsL F05 2 = [[0, 1]] := by decide +kernel
theorem right_ev {a b : Int} (h : Pot a b) : ∃ a' b', EvP m_law_right a b [] (.bl true) a' b' ∧ Pot a' b' := by
  -- the first grid
  obtain ⟨d1, a1, b1, e1, l1, p1⟩ := draw_int (n := 6) h (by decide) (by decide)
  obtain ⟨d2, a2, b2, e2, l2, p2⟩ := plus_draw (n := 5) p1 (by decide) (by decide)
  obtain ⟨a3, b3, g1, p3⟩ := one_grid (env2 := []) (x := []) rfl e1 e2 rfl p2 (by omega) (.inl ⟨by omega, by omega⟩)
  have s1 : ifS (notT (valT (callF [true, false] m_law_grid_right (consA (nameD 0) (consA (callF [true, false, false] m_law_grid (consA (nameD 0) (consA (callF [true, false] m_law_draw (consA (nameD 0) (consA (litD (.int 6)) nilA))) (consA (bin2 addD (litD (.int 1)) (callF [true, false] m_law_draw (consA (nameD 0) (consA (litD (.int 5)) nilA)))) nilA)))) nilA))))) (retS (litD (.bl false))) nextS [some (pot a b)] = some (.nx [some (pot a3 b3)]) := by
    refine ifS_no (e1 := [some (pot a3 b3)]) ?_ rfl
    unfold notT
    rw [g1]
    rfl
  -- the second one
  obtain ⟨d4, a4, b4, e4, l4, p4⟩ := plus_draw (n := 3) p3 (by decide) (by decide)
  obtain ⟨a5, b5, g2, p5⟩ := one_grid (env2 := []) (x := []) (fw := litD (.int 6)) (w := 6) rfl e4 litD_ev rfl p4 (by omega) (.inr ⟨by omega, rfl⟩)
  have s2 : ifS (notT (valT (callF [true, false] m_law_grid_right (consA (nameD 0) (consA (callF [true, false, false] m_law_grid (consA (nameD 0) (consA (bin2 addD (litD (.int 1)) (callF [true, false] m_law_draw (consA (nameD 0) (consA (litD (.int 3)) nilA)))) (consA (litD (.int 6)) nilA)))) nilA))))) (retS (litD (.bl false))) nextS [some (pot a3 b3)] = some (.nx [some (pot a5 b5)]) := by
    refine ifS_no (e1 := [some (pot a5 b5)]) ?_ rfl
    unfold notT
    rw [g2]
    rfl
  -- grids without rows, of noughts
  have r0 : RowsE 70 60 [] 1 := rows_small (n := 0) (fun r hr => by cases hr) (by decide) (by decide) (by decide)
  have st0 : EvF m_steps [.lst false []] (.lst true []) := by
    have z := steps_ev (GridD.mk false .nil) r0 (by decide)
    rw [stepsL_nil] at z
    exact z
  have rk0 : EvF m_rank [.lst false []] (.int 0) := by
    have z := rank_ev (GridD.mk false .nil) r0 (by decide)
    rw [stepsL_nil] at z
    exact z
  have n3 : NumsD [.int 0, .int 0, .int 0] [((0 : Int) : Rat), ((0 : Int) : Rat), ((0 : Int) : Rat)] := .cons (.int 0) (.cons (.int 0) (.cons (.int 0) .nil))
  have gz : GridD (.lst false (List.replicate 12 (.lst false [.int 0, .int 0, .int 0]))) Z12 := by
    have rr : ∀ n : Nat, RowsD (List.replicate n (.lst false [.int 0, .int 0, .int 0])) (List.replicate n ([((0 : Int) : Rat), ((0 : Int) : Rat), ((0 : Int) : Rat)])) := by
      intro n
      induction n with
      | zero => exact .nil
      | succ n ih => exact .cons (RowD.mk false n3) ih
    exact GridD.mk false (rr 12)
  have rz : RowsE 70 60 Z12 3 := rows_small (n := 0) (fun r hr => by
    rw [List.eq_of_mem_replicate hr]
    refine ⟨rfl, fun x hx => ⟨0, ?_, by decide⟩⟩
    simp only [List.mem_cons, List.not_mem_nil, or_false, or_self] at hx
    exact hx) (by decide) (by decide) (by decide)
  have rk1 : EvF m_rank [.lst false (List.replicate 12 (.lst false [.int 0, .int 0, .int 0]))] (.int 0) := by
    have z := rank_ev gz rz (by decide)
    rw [z12_steps] at z
    exact z
  have t3 : orT (valT (bin2 neD (callF [false] m_steps (consA (dispD false nilA) nilA)) (dispD false nilA))) (orT (valT (bin2 neD (callF [false] m_rank (consA (dispD false nilA) nilA)) (litD (.int 0)))) (valT (bin2 neD (callF [false] m_rank (consA (bin2 mulD (dispD false (consA (dispD false (consA (litD (.int 0)) (consA (litD (.int 0)) (consA (litD (.int 0)) nilA)))) nilA)) (litD (.int 12))) nilA)) (litD (.int 0))))) [some (pot a5 b5)] = some (false, [some (pot a5 b5)]) := by
    refine valT_or (b := false) (c := false) (valT_ev (bin2_tt (callF1 disp0 st0) disp0 rfl)) (fun _ => ?_) (fun q => by cases q)
    refine valT_or (b := false) (c := false) (valT_ev (bin2_tt (callF1 disp0 rk0) litD_ev rfl)) (fun _ => ?_) (fun q => by cases q)
    have dd : dispD false (consA (dispD false (consA (litD (.int 0)) (consA (litD (.int 0)) (consA (litD (.int 0)) nilA)))) nilA) [some (pot a5 b5)] = some (.t (.lst true [.lst true [.int 0, .int 0, .int 0]]), [some (pot a5 b5)]) :=
      disp1 (t := false) (dispD_t (t := false) (consA_t litD_ev (consA_t litD_ev (consA_t litD_ev (ds := []) rfl))) (by decide))
    have mz : bin2 mulD (dispD false (consA (dispD false (consA (litD (.int 0)) (consA (litD (.int 0)) (consA (litD (.int 0)) nilA)))) nilA)) (litD (.int 12)) [some (pot a5 b5)] = some (.t (.lst true (List.replicate 12 (.lst false [.int 0, .int 0, .int 0]))), [some (pot a5 b5)]) := by
      refine bin2_tt dd litD_ev ?_
      show mulD (.lst false [.lst false [.int 0, .int 0, .int 0]]) (.int 12) = _
      rw [mulD, if_pos ⟨by decide, by decide, by decide⟩]
      rfl
    exact valT_ev (bin2_tt (callF1 mz rk1) litD_ev rfl)
  -- one step
  have gf : GridD (.lst false [.lst false [.int 0, .int 5]]) F05 := by
    have z : NumsD [.int 0, .int 5] [((0 : Int) : Rat), ((5 : Int) : Rat)] := .cons (.int 0) (.cons (.int 5) .nil)
    exact GridD.mk false (.cons (RowD.mk false z) .nil)
  have rf : RowsE 70 60 F05 2 := rows_small (n := 5) (fun r hr => by
    have : r = [0, 5] := by simpa [F05] using hr
    subst this
    refine ⟨rfl, fun x hx => ?_⟩
    simp only [List.mem_cons, List.not_mem_nil, or_false] at hx
    rcases hx with rfl | rfl
    · exact ⟨0, rfl, by decide⟩
    · exact ⟨5, rfl, by decide⟩) (by decide) (by decide) (by decide)
  have stf : EvF m_steps [.lst false [.lst false [.int 0, .int 5]]] (.lst true [orl [0, 1]]) := by
    have z := steps_ev gf rf (by decide)
    rw [f05_steps] at z
    exact z
  have d5 : dispD false (consA (dispD false (consA (litD (.int 0)) (consA (litD (.int 5)) nilA))) nilA) [some (pot a5 b5)] = some (.t (.lst true [.lst true [.int 0, .int 5]]), [some (pot a5 b5)]) := disp1 (t := false) (disp2 (t := false) litD_ev litD_ev)
  have d6 : dispD false (consA (dispD false (consA (opN (mkD 1) (consA (litD (.int 0)) nilA)) (consA (opN (mkD 1) (consA (litD (.int 1)) nilA)) nilA))) nilA) [some (pot a5 b5)] = some (.t (.lst true [orl [0, 1]]), [some (pot a5 b5)]) := disp1 (t := false) (disp2 (t := false) (opN1_t litD_ev rfl) (opN1_t litD_ev rfl))
  have r4 : retS (bin2 eqD (callF [false] m_steps (consA (dispD false (consA (dispD false (consA (litD (.int 0)) (consA (litD (.int 5)) nilA))) nilA)) nilA)) (dispD false (consA (dispD false (consA (opN (mkD 1) (consA (litD (.int 0)) nilA)) (consA (opN (mkD 1) (consA (litD (.int 1)) nilA)) nilA))) nilA))) [some (pot a5 b5)] = some (.rt (.bl true) [some (pot a5 b5)]) := by
    refine retS_t (bin2_tt (callF1 d5 stf) d6 ?_)
    have z : (D.lst true [orl [0, 1]]).frz = rg [[0, 1]] := frz_orls [[0, 1]]
    rw [z]
    exact eq_rg _
  exact ⟨a5, b5, evP_rt (ps := []) (ps' := []) (env := [some (pot a b)]) rfl ((seqS_nx s1).trans ((seqS_nx s2).trans ((seqS_nx (ifS_no t3 rfl)).trans r4))) rfl, p5⟩
end K12

set_option Elab.async false
set_option linter.all false
set_option maxRecDepth 100000
set_option maxHeartbeats 4000000
namespace K12
open PySem PySem.Spec PyProof.Rows L2 Own Dx La
open PySem.W (Frag)
section
variable {P : Program} {w : World} {K : Frag} {mg : Str → Option Value} {base : Heap}
theorem yes_ifL {σ : L2.St} {H : Hp} {A B : Hp → Prop} (h : A H) : tYes σ H (fun b H3 => if b = true then A H3 else B H3) := by
  show if true = true then A H else B H
  rw [if_pos rfl]
  exact h
theorem Same.lstL {H0 H : Hp} {l : Addr} {ys : List V} (s : Same H0 H) (h0 : H0 l = none) : Same H0 (upd H l (.lst ys)) := fun c o e => by
  rw [upd_ne (fun z => by rw [z, h0] at e; cases e)]
  exact s c o e
theorem SqL.same {H H2 : Hp} {a : Addr} {xs : List V} (s : Same H H2) (h : SqL K H a xs) : SqL K H2 a xs := by
  rcases h with (h | ⟨o, h⟩) | h
  · exact .inl (.inl (s _ _ h))
  · exact .inl (.inr ⟨o, s _ _ h⟩)
  · exact .inr h
/-- the pot -/
def spPot (K : Frag) : Sp := fun vs H Q _ => ∃ (a : Addr) (ns : List Int) (k : Nat), vs = [.ref a, .int (k : Int)] ∧ k < 2 ∧ SqL K H a (ns.map V.int) ∧ ns.length ≤ 63 ∧ ∀ p H2 A B, Same H H2 → H p = none → H2 p = some (.lst [.int A, .int B]) → Pot A B → Q (.ref p) H2
theorem pot_b (x : Int) : 0 ≤ x % 2147483477 + 1 ∧ x % 2147483477 + 1 < 2147483648 := by omega
theorem pot_a (x : Int) : 0 ≤ (if x > 0 then x else 0) := by
  split <;> omega
theorem ok_pot (T : Tx K mg) : FG P w K mg base CX0 1 (ga K "_law_pot") (fdOf K (ga K "_law_pot")) ["_law_script", "_law_k"] (spPot K) := by
  refine fg_no T.F_law_pot sc_law_pot (fun vs H Q E h => ?_) (fun cdv A outer s H vs Q E gg hr h => ?_)
  · obtain ⟨a, ns, k, rfl, _⟩ := h
    rfl
  obtain ⟨a, ns, j, rfl, hj, hS, hl, k⟩ := h
  refine ⟨_, pss_cons (ps_set (i := 2) sc_law_pot.nd rfl (Or.inl rfl) (pe_op op_add (pe_op op_mul pe_int (pv 1)) pe_int))
    (pss_cons (ps_if (pt_cmpR op_lt (pv 1) (pe_callB call_len (by rfl) T.n_len PySem.boot_len (pa_cons (pv 0) pa_nil)) (nomark _))
      (pss_one (ps_set (i := 2) sc_law_pot.nd rfl (Or.inl rfl) (pe_callB call_abs (by rfl) T.n_abs (by decide +kernel) (pa_cons (pe_ix ix_list (pv 0) (pv 1) (fun _ _ => rfl)) pa_nil)))) pss_nil)
    (pss_one (ps_ret (pe_lst (pa_cons (pe_callB (call_max2 rfl) (by rfl) T.n_max (by decide +kernel) (pa_cons pe_int (pa_cons (pe_op op_sub (pv 2) (pe_op op_pow pe_int pe_int)) pa_nil)))
      (pa_cons (pe_op op_add (pe_op op_mod (pe_op op_mul (pe_callTy call_int1 (by rfl) T.n_int (by decide +kernel) (pa_cons (pe_op op_add (pe_op op_mod (pe_callTy call_int1 (by rfl) T.n_int (by decide +kernel) (pa_cons (pv 2) pa_nil)) pe_int) pe_int) pa_nil)) (pe_op op_pow (pe_op op_add (pe_op op_mul pe_int (pv 1)) pe_int) pe_int)) pe_int) pe_int) pa_nil)))))), ?_⟩
  have hpw : (2 * (j : Int) + 3).natAbs < 2 ^ 64 := by omega
  refine ⟨_, rfl, _, _, rfl, rfl, .inl ⟨by decide, by decide⟩, _, _, rfl, rfl, ?_⟩
  refine ⟨_, rfl, _, rfl, _, _, rfl, .inl ⟨_, hS, rfl⟩, _, _, rfl, rfl, _, rfl, ?_⟩
  refine ite2 (fun z => ?_) (fun z => ?_)
  · have hn : j < ns.length := by
      have z2 : (j : Int) < ((ns.map V.int).length : Int) := of_decide_eq_true z
      rw [List.length_map] at z2
      omega
    obtain ⟨n0, hn0⟩ : ∃ n0, ns[j]? = some n0 := ⟨ns[j], List.getElem?_eq_getElem hn⟩
    refine ⟨_, rfl, _, rfl, a, _, _, V.int n0, rfl, rfl, hS, L2.at_of (j := j) rfl (by rw [List.getElem?_map, hn0]; rfl), _, rfl, ?_⟩
    refine ⟨_, rfl, _, _, rfl, rfl, ⟨by decide, by decide, by decide⟩, _, _, rfl, rfl, _, _, rfl, _, rfl, .inl ⟨_, rfl, _, _, rfl, rfl, (by show (0 : Int) < 2147483549; decide), _, _, rfl, rfl, .inl ⟨_, rfl, _, rfl, _, _, rfl, rfl, .inl ⟨by decide, by decide⟩, _, _, rfl, rfl, _, _, rfl, rfl, ⟨by decide, by decide, hpw⟩, _, _, rfl, rfl, .inl ⟨by omega, by omega⟩, _, _, rfl, rfl, (by show (0 : Int) < 2147483477; decide), _, _, rfl, rfl, (by show 2 ≤ sizeLine; decide), fun p hp => ?_⟩⟩⟩
    exact k p _ _ _ (fun b o e => by rw [upd_ne (ne_of_none e hp)]; exact e) hp upd_same ⟨pot_a _, (pot_b _).1, (pot_b _).2⟩
  · refine ⟨_, rfl, _, _, rfl, rfl, ⟨by decide, by decide, by decide⟩, _, _, rfl, rfl, _, _, rfl, _, rfl, .inl ⟨_, rfl, _, _, rfl, rfl, (by show (0 : Int) < 2147483549; decide), _, _, rfl, rfl, .inl ⟨_, rfl, _, rfl, _, _, rfl, rfl, .inl ⟨by decide, by decide⟩, _, _, rfl, rfl, _, _, rfl, rfl, ⟨by decide, by decide, hpw⟩, _, _, rfl, rfl, .inl ⟨by omega, by omega⟩, _, _, rfl, rfl, (by show (0 : Int) < 2147483477; decide), _, _, rfl, rfl, (by show 2 ≤ sizeLine; decide), fun p hp => ?_⟩⟩⟩
    exact k p _ _ _ (fun b o e => by rw [upd_ne (ne_of_none e hp)]; exact e) hp upd_same ⟨pot_a _, (pot_b _).1, (pot_b _).2⟩
/-- what the data level says of the one pot, said of the heap -/
theorem right_sp {p : Addr} {H : Hp} {a b : Int} {Q : VK} {E : XK} (hp : H p = some (.lst [.int a, .int b])) (h : Pot a b)
    (k : ∀ H', (∀ c o, c ≠ p → H c = some o → H' c = some o) → Q (.bl true) H') : spF K 1 [true] m_law_right [.ref p] H Q E := by
  obtain ⟨a', b', ⟨ps, e⟩, _⟩ := right_ev h
  refine ⟨[pot a b], [.pins fun c => if c = p then none else H c], _, _, ?_, rfl, rfl, e, fun v H' R => ?_⟩
  · refine ⟨[p], ⟨[p], [], rfl, ⟨p, _, [], rfl, hp, ⟨_, _, [], [], rfl, rfl, ⟨rfl, rfl⟩, _, _, [], [], rfl, rfl, ⟨rfl, rfl⟩, rfl, rfl⟩, .inl ⟨rfl, rfl⟩⟩, ?_⟩, ?_⟩
    · refine ⟨[], [], rfl, ⟨fun c o e2 => ?_, rfl⟩, rfl⟩
      have e3 : (if c = p then none else H c) = some o := e2
      by_cases hc : c = p
      · rw [if_pos hc] at e3
        cases e3
      · rw [if_neg hc] at e3
        exact ⟨e3, fun z => hc (List.mem_singleton.mp z)⟩
    · simp
  · obtain ⟨A, ⟨B1, B2, f, h1, h2⟩, nd⟩ := R
    obtain ⟨rfl, _⟩ : v = .bl true ∧ _ := h1
    obtain ⟨B3, B4, _, _, h4⟩ := h2
    obtain ⟨B5, B6, _, h5, _⟩ := h4
    exact k H' fun c o hc e2 => (h5.1 c o (by show (if c = p then none else H c) = some o; rw [if_neg hc]; exact e2)).1
def spLaw (K : Frag) : Sp := fun vs H Q _ => ∃ (a : Addr) (ns : List Int), vs = [.ref a] ∧ SqL K H a (ns.map V.int) ∧ ns.length ≤ 63 ∧ ∀ H2, Q (.bl true) H2
theorem ok_law (T : Tx K mg) : FG P w K mg base CX0 18 (ga K "law") (fdOf K (ga K "law")) ["_law_script"] (spLaw K) := by
  refine fg_no T.F_law sc_law (fun vs H Q E h => ?_) (fun cdv A outer s H vs Q E gg hr h => ?_)
  · obtain ⟨a, ns, rfl, _⟩ := h
    rfl
  obtain ⟨a, ns, rfl, hS, hl, k⟩ := h
  refine ⟨_, pss_one (ps_ret (pe_callB (cr_all rfl) (by rfl) T.n_all (by decide +kernel) (pa_cons (pe_lc (own := [("_law_k", 1)]) (g := gName 1) (tt := tYes) (by rfl) sc_law.nd
    (pi_range1 (by rfl) T.n_range (pa_cons (pe_callB (call_max2 rfl) (by rfl) T.n_max (by decide +kernel) (pa_cons pe_int (pa_cons (pe_callB (call_min2 rfl) (by rfl) T.n_min (by decide +kernel) (pa_cons pe_int (pa_cons (pe_callB call_len (by rfl) T.n_len PySem.boot_len (pa_cons (pv 0) pa_nil)) pa_nil))) pa_nil))) pa_nil))
    (blkOk_by (N := ["_law_script", "_law_k"]) (sc := defScope s_law) (by decide +kernel)) (fun _ _ _ _ _ => pg_name (i := 1) sc_law.nd rfl (Or.inl rfl)) (fun _ _ _ _ _ => pts_nil)
    (fun _ _ _ _ _ => pe_fn (d_law_right T) gg (hr.mono (by decide)) rfl T.g_law_right T.F_law_right.kp (b_law_right T) .nil pass0 (pa_cons (pe_fn (ok_pot T) gg (hr.mono (by decide)) rfl T.g_law_pot T.F_law_pot.kp (b_law_pot T) .nil pass0 (pa_cons (pv 0) (pa_cons (pv 1) pa_nil))) pa_nil))) pa_nil))), ?_⟩
  obtain ⟨W, hW, e0⟩ : ∃ W : Nat, W ≤ 2 ∧ (if (if (((ns.map V.int).length : Nat) : Int) < 2 then (((ns.map V.int).length : Nat) : Int) else 2) > 1 then (if (((ns.map V.int).length : Nat) : Int) < 2 then (((ns.map V.int).length : Nat) : Int) else 2) else 1) = (W : Int) := by
    generalize (ns.map V.int).length = q
    by_cases hq : q ≤ 1
    · exact ⟨1, by omega, by split <;> omega⟩
    · exact ⟨2, by omega, by split <;> omega⟩
  refine ⟨_, rfl, _, _, rfl, .inl ⟨_, hS, rfl⟩, _, _, rfl, _, _, rfl, ?_⟩
  rw [e0]
  refine ⟨_, rfl, by omega, by omega, fun D hD => lc_range (lo := 0) (n := (W : Int).toNat) (fun i H3 => H3 D = some (.lst (List.replicate i (.bl true))) ∧ Same H H3)
    ⟨upd_same, Same.put hD⟩ ?_ ?_⟩
  · rintro i H3 hi ⟨h3, s3⟩
    have hi2 : i < 2 := by omega
    have ei : (0 : Int) + (i : Int) = (i : Int) := Int.zero_add _
    rw [ei]
    refine ⟨rfl, ?_⟩
    refine yes_ifL ?_
    refine ⟨_, rfl, _, rfl, a, ns, i, rfl, hi2, SqL.same s3 hS, hl, fun p H4 A B s4 np hp hq => ?_⟩
    refine right_sp (E := E) hp hq fun H5 k5 => ?_
    have s5 : Same H3 H5 := fun c o e => k5 c o (fun z => by rw [z, np] at e; cases e) (s4 _ _ e)
    refine ⟨_, s5 _ _ h3, ?_, ?_, Same.lstL (s3.trans s5) hD⟩
    · rw [List.length_replicate]
      exact Nat.lt_of_lt_of_le hi2 (by show 2 ≤ sizeLine; decide)
    · rw [upd_same, List.replicate_succ']
  · rintro H3 ⟨h3, _⟩
    refine ⟨D, List.replicate (W : Int).toNat true, rfl, ?_, ?_⟩
    · rw [List.map_replicate]
      exact SqL.of h3
    · have z : (List.replicate (W : Int).toNat true).all id = true := by simp
      rw [z]
      exact k _
end
end K12

set_option Elab.async false
set_option linter.all false
set_option maxRecDepth 100000
set_option maxHeartbeats 0
namespace K12
open PySem PySem.Spec PyProof.Rows L2 Own
def names0 : List Str := ["gcd", "lcm", "_wall", "__name__", "is_integer", "is_list", "MixError", "InvalidGrid", "InvalidNumber", "Ratio", "is_number", "as_ratio", "without_bottoms", "pivot_from", "cleared", "reduced", "MOST_ROWS", "MOST_WIDE", "numbers_from", "rows_from", "grid_from", "need_grid", "steps", "rank", "_law_pot", "_law_draw", "_law_pick", "_law_low", "_law_sum", "_law_by"]
def names1 : List Str := ["_law_less", "_law_over", "_law_passed", "_law_given", "_law_pairs", "_law_rows", "_law_entry", "_law_grid", "_law_lowered", "_law_steps", "_law_shuffled", "_law_scaled", "_law_grid_right", "_law_right"]
def names : List Str := names0 ++ names1

abbrev R : PySem.W.OpenRow := PySem.W.OpenLaw.row PySem.Challenge.rw_producttables_k12_whole_steps_of_grids
abbrev hk : PySem.W.Hook := hookX 6 fl dl
def ob (s : PySem.W.SharedT) : AlX := obsXG 6 fl dl (HandSHeadRun.getT s)
theorem ob_eq (s : PySem.W.SharedT) : ob s = hk.obs s.abs := obsXG_eq (HandSHeadRun.getT_eq s)
theorem run (w : World) : HandSHeadRun.RunEqI R (PySem.W.view R.prog [0, 49]) hk ob 6000 names w := by
  unfold HandSHeadRun.RunEqI
  kernel_rfl
end K12
open PySem PySem.W PySem.Calls PyProof.Rows
theorem K12.whole (call : WalkO (view K12.R.prog [0, 49]) K12.names (XL (view K12.R.prog [0, 49]) []) K12.hk.says K12.R.toRowW (HandSHeadRun.topDef K12.R.prog 49) [] fun f vs => PySem.call f vs) :
    PySem.Challenge.rw_producttables_k12_whole_steps_of_grids.Holds := by
  w_on; o_law
  refine HandSHeadRun.head_imp (r := K12.R) (q := view K12.R.prog [0, 49]) (H := K12.hk) (ob := K12.ob) (M := 6000) (loose := K12.names) (d := HandSHeadRun.topDef K12.R.prog 49) (kwd := []) K12.ob_eq
    K12.run (by kernel_rfl) (by kernel_rfl) (by kernel_rfl) (by rfl) (by first | assumption | decide +kernel) (by decide +kernel) ⟨rfl, rfl, rfl, rfl, rfl, by decide +kernel⟩ ?hw call
  case hw => w_witness2

set_option Elab.async false
set_option linter.all false
set_option maxRecDepth 100000
set_option maxHeartbeats 4000000
open PySem PySem.Spec PyProof.Rows L2 Own
theorem PySem.Challenge.cw_producttables_k12_whole_steps_of_grids_holds : PySem.Challenge.rw_producttables_k12_whole_steps_of_grids.Holds := by
  refine K12.whole ?_
  refine end_g (l := PySem.Challenge.rw_producttables_k12_whole_steps_of_grids) (n := 63) (k := 18) (CX := CX0) (x := "_law_script") rfl (by decide) (by rfl) ⟨rfl, by decide, by decide⟩ (fun w mg fa h Y G hm => ?_) (fun _ _ _ _ z => z)
  obtain ⟨K, KX, c⟩ := Y
  have T := K12.tx_of KX G c
  have e : fa = ga K "law" := by
    have g := T.g_law
    have g2 := hm.symm.trans g
    injection g2 with g3
    injection g3
  subst e
  refine ⟨K, fdOf K (ga K "law"), K12.spLaw K, KX, fun s u => T.F_law.bindsA (ps := ["_law_script"]) (fun _ _ _ _ _ _ us hl => match us, hl with | [_], _ => rfl) s [u] rfl, fun H a ns hl hS => ⟨a, ns, rfl, hS, hl, fun _ => rfl⟩, fun base KB GB => K12.ok_law T⟩
