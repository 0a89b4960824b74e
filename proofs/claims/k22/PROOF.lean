import PyProof.Rows.All
import Wide.All
import OpenK.AllK
import Wide.FinOn
import HandS.ForMost
import HandS.IsInst
import HandS.Wide
import HandS.WideBits
import HandS.Style
import HandS.TryOnly
import HandS.More
import HandS.ClsMeth
import HandS.Star
import HandS.OwnEq
import HandS.SortInts
import KE.KEqSeq
import KE.RegKIsAll
import PyProof.InstNe
import HandS.RaiseMore
import HandS.SetFor
import HandS.Records
import HandS.MakeKwOnly
import PySem.Challenge.RW_fourthlike_k22_fourths_by_a_power_or_non
import PyProof.Rows.Range3
set_option Elab.async false
set_option linter.all false
set_option maxRecDepth 100000
set_option maxHeartbeats 4000000
namespace Ru
open PySem PySem.Spec PyProof.Rows L2
/-! ### C.m(..): a def of a class, read off the class and called with all its arguments -/
section
variable {X : Cx} {pins : List (Addr × Obj)} {σ : L2.St} {H : Hp} {s : Shared} {C g : Addr} {mc : Value} {m : Str} {A : Around} {E0 : Value → Shared → Prop}
theorem getcf_ok {pl : Sem Bool} {Q : Value × List Value → Shared → Prop} (I : Inv X pins σ H s) (r : ClX.CRead X.K C mc) (k : ClX.CVal X.K C mc m (.ref g) (.ref g)) (h : ∀ s', Inv X pins σ H s' → Q (.ref g, []) s') :
    wpAny (model X.prog X.w) A (getMethod (.ref C) m pl) Q E0 s := PySem.W.method_cls I.kIn r.ga (ClX.getcval_ok I r k h)
end
def tCFn (C : Addr) (sp : Sp) (E : XK) (ta : TE) (t : TA) : TE := fun σ H Q => ta σ H fun x H1 => x = .ref C ∧ t σ H1 fun vs H2 => sp vs H2 Q E
theorem pe_cfn {X : Cx} {CX : CXT} {k : Nat} {C g : Addr} {mc : Value} {sp : Sp} {E : XK} {o e : Expr} {es : List Expr} {m : Str} {pos apos : Pos} {ta : TE} {t : TA} {pl : Sem Bool}
    (he : PE X o ta) (r : ClX.CRead X.K C mc) (c : ClX.CVal X.K C mc m (.ref g) (.ref g)) (hk : PySem.W.keepIn X.K (.ref g) = true) (F : FnR X.prog X.w X.K X.mg X.base CX k g sp) (hr : Room k X.A) (hx : Passes CX X E) (ha : PA X (e :: es) t)
    (hst : starEach (e :: es) X.env = (false, eval e X.env) :: starEach es X.env := by rfl) (hpl : (backTo pos (starEach es X.env)).any (·.1) = false := by rfl)
    (ht : eval (.Call (.Attribute o m apos) (e :: es) [] pos) X.env = (do
      let ov ← eval o X.env
      standAt apos.atName
      let (f, first) ← holding [ov] (getMethod ov m pl)
      callWith pos f first (backTo pos (starEach (e :: es) X.env)) (backToKw pos (keywordEach [] X.env))) := by rfl) :
    PE X (.Call (.Attribute o m apos) (e :: es) [] pos) (tCFn C sp E ta t) := by
  refine ⟨fun pins s σ H Q I h => ?_⟩
  refine PySem.W.methodCall_KW (pl := pl) (thn (he.run pins s σ H _ I h) fun u s1 ⟨x, H1, I1, rx, ex, q⟩ => ?_) ht
  subst ex
  obtain rfl : u = Value.ref C := rx
  refine getcf_ok I1 r c fun s2 I2 => ?_
  refine PySem.W.callWith_K (first := []) (h₀ := X.base) I.ok.mod.kin hk (thn (ha.run pos pins s2 σ H1 _ I2 q) fun us s3 ⟨vs, H2, I3, rv, q2⟩ => ⟨I3.kIn, ?_⟩) hst hpl
  exact wpAny_call (run_fnR F hr hx I3 rv q2)
/-! ### x == y, x != y of two instances of one class by an __eq__ of the text's own -/
section
variable {prog : Program} {w : World} {A : Around} {E : Value → Shared → Prop} {s : Shared} {K : PySem.W.Frag} {x C f : Addr} {ox : Obj} {od : Option Obj} {b tb : Value}
theorem ifBound_objNe {M : Model} {args : List Value} {Q : Option Value → Shared → Prop} (X : K.In s.heap) (I : PySem.W.InstAt s.heap x ox C od) (hs : PySem.W.findIn K (.ref C) "__ne__" = some (some (.builtin "object.__ne__")))
    (h : wpAny M A (call (.builtin "object.__ne__") (.ref x :: args)) (fun v => Q (some v)) E s) : wpAny M A (callSpecialIfBound? (.ref x) "__ne__" args) Q E s := by
  simp only [callSpecialIfBound?, bindSpecialIfBound?]
  refine wpAny_holding (wpAny_bind (wpAny_bind (wpAny_bind (I.type.here ((PySem.W.looks_findIn X hs).here ?_)))))
  refine wpAny_bind (wpAny_askSetting (wpAny_ite ?_))
  have fin : wpAny M A (call (.builtin "object.__ne__") ([.ref x] ++ args) >>= fun v => pure (some v)) Q E s := wpAny_bind (wpAny_mono h (fun v s' h' => wpAny_pure h') fun _ _ h' => h')
  split
  · exact wpAny_bind (wpAny_of_eq (F.cmp_object.ne.bind _) (wpAny_pure (by exact fin)))
  · exact wpAny_tryCatch (wpAny_bind (wpAny_of_eq (F.cmp_object.ne.bind _) (wpAny_pure (by exact fin))))
open Builtin in
theorem objNe_entry {Q : Fin → Shared → Prop} (X : K.In s.heap) (I : PySem.W.InstAt s.heap x ox C od) (hs : PySem.W.findIn K (.ref C) "__eq__" = some (some (.ref f))) (hf : PySem.W.isFn K (.ref f) = true) (hu : A.units < cLine)
    (hcall : wpAny (model prog w) A (call (.ref f) [.ref x, b]) (fun v s' => ∃ r, v = .bool r ∧ Q (.done (.ret (.bool (!r)))) s') E s) :
    wpAny (model prog w) A (Builtin.«object.__ne__» ⟨[.ref x, b], []⟩) Q E s := by
  unfold Builtin.«object.__ne__»
  repeat (first
    | with_reducible refine wpAny_cRoomFor hu ?_
    | (refine wpAny_bind (m := callSpecialIfBound? (.ref x) (Str.ofString "__eq__") [b])
        (PySem.W.ifBound_K X I hs hf (wpAny_mono hcall (fun r s' hr => by
          obtain ⟨c, rfl, hq⟩ := hr
          repeat (first | exact hq | exact wpAny_pure hq | exact wpAny_truthy_bool hq | (refine wpAny_bind (m := truthy (.bool _)) (wpAny_truthy_bool ?_)) | wp_step)) fun _ _ e => e)))
    | wp_step)
theorem try_ne {Q : Option Value → Shared → Prop} (X : K.In s.heap) (I : PySem.W.InstAt s.heap x ox C od) (hm : PySem.W.mroIn K C (.type "object") = some true) (hn : PySem.W.findIn K (.ref C) "__ne__" = some (some (.builtin "object.__ne__")))
    (hs : PySem.W.findIn K (.ref C) "__eq__" = some (some (.ref f))) (hf : PySem.W.isFn K (.ref f) = true) (hu : A.units + 1 < cLine)
    (hcall : wpAny (model prog w) A.in1 (call (.ref f) [.ref x, b]) (fun v s' => ∃ r, v = .bool r ∧ Q (some (.bool (!r))) s') E s) :
    wpAny (model prog w) A (tryCompare (.ref x) "__ne__" b) Q E s := by
  unfold tryCompare
  refine wpAny_bind (ifBound_objNe X I hn (wpAny_call (codeAny_call_builtin F.cmp_object.ne.plain F.cmpEntry_ne (PySem.W.check_slot F.cmpKind_ne F.cmpSplit_ne (I.type.andThen (PySem.W.looks_mroIn X hm)) (F.cmpArgs_ne _ _)
    (objNe_entry X I hs hf hu (wpAny_mono hcall (fun v s' hv => ?_) fun _ _ e => e))))))
  obtain ⟨r, rfl, hq⟩ := hv
  first | exact ⟨r, rfl, wpAny_pure hq⟩ | exact ⟨r, rfl, wpAny_pure (wpAny_pure hq)⟩ | exact ⟨r, rfl, hq⟩
theorem rich_ne {L : Addr} {h₀ : Heap} {m : Str → Option Value} {Q : Value → Shared → Prop} (hu : A.units + 1 < cLine) (F : Fr h₀ L s.heap m) (X₀ : K.In h₀) (I : PySem.W.InstAt s.heap x ox C od) (hb : PySem.W.Looks (model prog w) s.heap (typeOf b) tb)
    (hnf : PySem.W.notFirst K C tb = true) (hm : PySem.W.mroIn K C (.type "object") = some true) (hn : PySem.W.findIn K (.ref C) "__ne__" = some (some (.builtin "object.__ne__")))
    (hs : PySem.W.findIn K (.ref C) "__eq__" = some (some (.ref f))) (hf : PySem.W.isFn K (.ref f) = true)
    (hcall : wpAny (model prog w) A.in1 (call (.ref f) [.ref x, b]) (fun v s' => ∃ r, v = .bool r ∧ Q (.bool (!r)) s') E s) : wpAny (model prog w) A (richCompare .NotEq (.ref x) b) Q E s := by
  have X := X₀.keeps F.keep
  have one : wpAny (model prog w) A (tryCompare (.ref x) (cmpInfo .NotEq).2.1 b) (fun r s' => ∃ v, r = some v ∧ Q v s') E s :=
    try_ne X I hm hn hs hf hu (wpAny_mono hcall (fun v s' ⟨r, e, q⟩ => ⟨r, e, _, rfl, q⟩) fun _ _ e => e)
  unfold richCompare
  simp only [oneThing_ref]
  refine wpAny_holding (wpAny_bind (wpAny_cRoomFor (Nat.lt_of_succ_lt hu) ?_))
  refine wpAny_bind (I.type.here (wpAny_bind (hb.here ?_)))
  split
  · rename_i q
    have e : PySem.W.subIn K tb (.ref C) = some false := by
      rcases Bool.or_eq_true_iff.mp hnf with e | e
      · rw [beq_iff_eq.mp e] at q; simp at q
      · exact beq_iff_eq.mp e
    refine wpAny_bind ((PySem.W.looks_subIn X e).here ?_)
    simp only [Bool.false_eq_true, if_false]
    refine wpAny_bind (wpAny_mono one (fun r s' z => ?_) fun _ _ e => e)
    obtain ⟨v, rfl, hq⟩ := z
    exact wpAny_pure hq
  · refine wpAny_bind (wpAny_pure ?_)
    simp only [Bool.false_eq_true, if_false]
    refine wpAny_bind (wpAny_mono one (fun r s' z => ?_) fun _ _ e => e)
    obtain ⟨v, rfl, hq⟩ := z
    exact wpAny_pure hq
end
/-- what the text's class must have: its own ==, and no != -/
structure EqC (K : PySem.W.Frag) (C f : Addr) : Prop where
  eq : PySem.W.findIn K (.ref C) "__eq__" = some (some (.ref f))
  fn : PySem.W.isFn K (.ref f) = true
  ne : PySem.W.findIn K (.ref C) "__ne__" = some (some (.builtin "object.__ne__"))
  ob : PySem.W.mroIn K C (.type "object") = some true
def rInsEq (C : Addr) (sp : Sp) (E : XK) (neg : Bool) : R2 := fun x y H Q => ∃ a b dx dy fs gs, x = .ref a ∧ y = .ref b ∧ H a = some (.ins C dx fs) ∧ H b = some (.ins C dy gs) ∧ sp [x, y] H (fun v H' => ∃ r, v = .bl r ∧ Q (.bl (if neg then !r else r)) H') E
section
variable {X : Cx} {CX : CXT} {k : Nat} {C f : Addr} {sp : Sp} {E : XK}
theorem op_eqI (c : EqC X.K C f) (F : FnR X.prog X.w X.K X.mg X.base CX k f sp) (hr : Room k X.A) (hx : Passes CX X E) : OpR X (compareOp .Eq) (rInsEq C sp E false) := by
  intro pins s σ H x y v u Q I rx ry h
  obtain ⟨a, b, dx, dy, fs, gs, rfl, rfl, ha, hb, q⟩ := h
  cases rx
  cases ry
  show wpAny (model X.prog X.w) X.A (richCompare .Eq (.ref a) (.ref b)) (EP X pins σ Q) X.xe s
  obtain ⟨mA, J, _⟩ := ins_get I.hok ha
  obtain ⟨mB, J', _⟩ := ins_get I.hok hb
  obtain ⟨od, J, _⟩ := J.look
  obtain ⟨od', J', _⟩ := J'.look
  obtain ⟨m, hF⟩ := I.fr
  refine PySem.W.cmp_K (op := .Eq) (tb := .ref C) hr.units0 hF I.ok.mod.kin J J'.type (by simp [PySem.W.notFirst]) c.eq c.fn ?_
  refine thn (wpAny_call (run_fnR (us := [.ref a, .ref b]) (vs := [.ref a, .ref b]) F hr hx I (.cons rfl (.cons rfl .nil)) q)) fun w s' ⟨z, H', I', rz, r, ez, q'⟩ => ?_
  subst ez
  cases rz
  exact ⟨.bl r, H', I', rfl, q'⟩
theorem op_neI (c : EqC X.K C f) (F : FnR X.prog X.w X.K X.mg X.base CX k f sp) (hr : Room (k + 1) X.A) (hx : Passes CX X E) : OpR X (compareOp .NotEq) (rInsEq C sp E true) := by
  intro pins s σ H x y v u Q I rx ry h
  obtain ⟨a, b, dx, dy, fs, gs, rfl, rfl, ha, hb, q⟩ := h
  cases rx
  cases ry
  show wpAny (model X.prog X.w) X.A (richCompare .NotEq (.ref a) (.ref b)) (EP X pins σ Q) X.xe s
  obtain ⟨mA, J, _⟩ := ins_get I.hok ha
  obtain ⟨mB, J', _⟩ := ins_get I.hok hb
  obtain ⟨od, J, _⟩ := J.look
  obtain ⟨od', J', _⟩ := J'.look
  obtain ⟨m, hF⟩ := I.fr
  refine rich_ne (tb := .ref C) (Nat.lt_of_le_of_lt (Nat.add_le_add_left (by decide : 1 ≤ 64) _) hr.units) hF I.ok.mod.kin J J'.type (by simp [PySem.W.notFirst]) c.ob c.ne c.eq c.fn ?_
  have e0 : Env0 X.prog X.w X.K X.mg X.base X.A.in1 X.stack s H := I.env0.in1
  refine wpAny_call (codeAny_mono (F X.A.in1 X.stack s H [.ref a, .ref b] [.ref a, .ref b] _ E hr.in1 e0 (.cons rfl (.cons rfl .nil)) q) fun r s' hq => ?_)
  cases r with
  | error e => exact hx pins σ H s e s' I hq
  | ok fl =>
    cases fl with
    | ret w =>
      obtain ⟨z, H', I', rz, c', ez, q'⟩ := I.after hq
      subst ez
      cases rz
      exact ⟨c', rfl, .bl (!c'), H', I', rfl, q'⟩
    | next => exact False.elim hq
    | brk => exact False.elim hq
    | cont => exact False.elim hq
end
end Ru

namespace Ru
open PySem PySem.Spec PyProof.Rows L2
/-! ### a op b op c op d .. of any length, as a test and as a value -/
structure PTC (X : Cx) (ops : List CmpOp) (es : List Expr) (t : V → TT) : Prop where
  run : ∀ (pos : Pos) (pins : List (Addr × Obj)) (s : Shared) (σ : L2.St) (H : Hp) (x : V) (v : Value) (Q : Bool → Hp → Prop), Inv X pins σ H s → RelV x v → t x σ H Q → wpAny (model X.prog X.w) X.A (testChain pos v ops (evalEach es X.env)) (TP X pins σ Q) X.xe s
structure PEC (X : Cx) (ops : List CmpOp) (es : List Expr) (t : V → TE) : Prop where
  run : ∀ (pos : Pos) (pins : List (Addr × Obj)) (s : Shared) (σ : L2.St) (H : Hp) (x : V) (v : Value) (Q : VK), Inv X pins σ H s → RelV x v → t x σ H Q → wpAny (model X.prog X.w) X.A (compareChain pos v ops (evalEach es X.env)) (EP X pins σ Q) X.xe s
section
variable {X : Cx} {op op' op1 op2 : CmpOp} {ops : List CmpOp} {r : R2} {a b e e1 e2 : Expr} {es : List Expr} {ta tb : TE} {t : V → TT} {u : V → TE} {pos : Pos}
def cLast (r : R2) (tb : TE) : V → TT := fun x σ H Q => tb σ H fun y H1 => r x y H1 fun z H2 => ∃ k, z = .bl k ∧ Q k H2
def cLink (r : R2) (tb : TE) (t : V → TT) : V → TT := fun x σ H Q => tb σ H fun y H1 => r x y H1 fun z H2 => ∃ k, z = .bl k ∧ if k = true then t y σ H2 Q else Q false H2
def vLast (r : R2) (tb : TE) : V → TE := fun x σ H Q => tb σ H fun y H1 => r x y H1 Q
def vLink (r : R2) (tb : TE) (t : V → TE) : V → TE := fun x σ H Q => tb σ H fun y H1 => r x y H1 fun z H2 => ∃ k, z = .bl k ∧ if k = true then t y σ H2 Q else Q (.bl false) H2
theorem ptc_last (ho : OpR X (compareOp op) r) (hb : PE X b tb) : PTC X [op] [b] (cLast r tb) := by
  refine ⟨fun pos pins s σ H x v Q I rx h => ?_⟩
  show wpAny _ _ (testChain pos v [op] [eval b X.env]) _ _ s
  refine test_last (thn (hb.run pins s σ H _ I h) fun u s1 ⟨y, H1, I1, r1, q1⟩ => thn (ho pins s1 σ H1 x y v u _ I1 rx r1 q1) fun c s2 ⟨z, H2, I2, r2, k, e, q⟩ => ?_)
  subst e
  cases r2
  exact wpAny_truthy_bool ⟨H2, I2, q⟩
theorem ptc_link (ho : OpR X (compareOp op) r) (hb : PE X b tb) (hr : PTC X (op' :: ops) (e :: es) t) : PTC X (op :: op' :: ops) (b :: e :: es) (cLink r tb t) := by
  refine ⟨fun pos pins s σ H x v Q I rx h => ?_⟩
  show wpAny _ _ (testChain pos v (op :: op' :: ops) (eval b X.env :: eval e X.env :: evalEach es X.env)) _ _ s
  refine test_link (thn (hb.run pins s σ H _ I h) fun u s1 ⟨y, H1, I1, r1, q1⟩ => thn (ho pins s1 σ H1 x y v u _ I1 rx r1 q1) fun c s2 ⟨z, H2, I2, r2, k, e, q⟩ => ?_)
  subst e
  cases r2
  refine wpAny_truthy_bool ?_
  cases k with
  | false => exact ite_ff ⟨H2, I2, q⟩
  | true => exact ite_tt (hr.run pos pins s2 σ H2 y u Q I2 r1 q)
theorem pec_last (ho : OpR X (compareOp op) r) (hb : PE X b tb) : PEC X [op] [b] (vLast r tb) := by
  refine ⟨fun pos pins s σ H x v Q I rx h => ?_⟩
  show wpAny _ _ (compareChain pos v [op] [eval b X.env]) _ _ s
  exact chain_last (thn (hb.run pins s σ H _ I h) fun u s1 ⟨y, H1, I1, r1, q1⟩ => ho pins s1 σ H1 x y v u _ I1 rx r1 q1)
theorem pec_link (ho : OpR X (compareOp op) r) (hb : PE X b tb) (hr : PEC X (op' :: ops) (e :: es) u) : PEC X (op :: op' :: ops) (b :: e :: es) (vLink r tb u) := by
  refine ⟨fun pos pins s σ H x v Q I rx h => ?_⟩
  show wpAny _ _ (compareChain pos v (op :: op' :: ops) (eval b X.env :: eval e X.env :: evalEach es X.env)) _ _ s
  refine chain_link (thn (hb.run pins s σ H _ I h) fun u s1 ⟨y, H1, I1, r1, q1⟩ => thn (ho pins s1 σ H1 x y v u _ I1 rx r1 q1) fun c s2 ⟨z, H2, I2, r2, k, e, q⟩ => ?_)
  subst e
  cases r2
  refine wpAny_truthy_bool ?_
  cases k with
  | false => exact ite_ff ⟨.bl false, H2, I2, rfl, q⟩
  | true => exact ite_tt (hr.run pos pins s2 σ H2 y u Q I2 r1 q)
theorem pt_chainN (ha : PE X a ta) (hc : PTC X (op1 :: op2 :: ops) (e1 :: e2 :: es) t) (hm : lastMarks (op1 :: op2 :: ops) (e1 :: e2 :: es) = false := by with_unfolding_all rfl) :
    PT X (.Compare a (op1 :: op2 :: ops) (e1 :: e2 :: es) pos) (fun σ H Q => ta σ H fun x H1 => t x σ H1 Q) :=
  ⟨fun pins s σ H Q I h => isTrue_chain (thn (ha.run pins s σ H _ I h) fun v s1 ⟨x, H1, I1, r1, q1⟩ => hc.run pos pins s1 σ H1 x v Q I1 r1 q1) hm⟩
theorem pe_chainN (ha : PE X a ta) (hc : PEC X (op1 :: op2 :: ops) (e1 :: e2 :: es) u) (hm : lastMarks (op1 :: op2 :: ops) (e1 :: e2 :: es) = false := by with_unfolding_all rfl) :
    PE X (.Compare a (op1 :: op2 :: ops) (e1 :: e2 :: es) pos) (fun σ H Q => ta σ H fun x H1 => u x σ H1 Q) :=
  ⟨fun pins s σ H Q I h => Compare_chain (thn (ha.run pins s σ H _ I h) fun v s1 ⟨x, H1, I1, r1, q1⟩ => hc.run pos pins s1 σ H1 x v Q I1 r1 q1) hm⟩
end
/-! ### the truth of an instance by an own __bool__ -/
structure BoolC (K : PySem.W.Frag) (C f : Addr) : Prop where
  bo : PySem.W.findIn K (.ref C) "__bool__" = some (some (.ref f))
  fn : PySem.W.isFn K (.ref f) = true
def rInsTru (C : Addr) (sp : Sp) (E : XK) : V → Hp → (Bool → Hp → Prop) → Prop := fun x H Q => ∃ a dx fs, x = .ref a ∧ H a = some (.ins C dx fs) ∧ sp [x] H (fun v H' => ∃ r, v = .bl r ∧ Q r H') E
theorem tru_own {X : Cx} {CX : CXT} {k : Nat} {C f : Addr} {sp : Sp} {E : XK} (c : BoolC X.K C f) (F : FnR X.prog X.w X.K X.mg X.base CX k f sp) (hr : Room k X.A) (hx : Passes CX X E) : TruR X (rInsTru C sp E) := by
  intro pins s σ H x v Q I rx h
  obtain ⟨a, dx, fs, rfl, ha, q⟩ := h
  cases rx
  obtain ⟨mA, J, _⟩ := ins_get I.hok ha
  obtain ⟨od, J, _⟩ := J.look
  obtain ⟨m, hF⟩ := I.fr
  refine PySem.W.truthy_K hF I.ok.mod.kin J c.bo c.fn ?_
  refine thn (wpAny_call (run_fnR (us := [.ref a]) (vs := [.ref a]) F hr hx I (.cons rfl .nil) q)) fun w s' ⟨z, H', I', rz, r, ez, q'⟩ => ?_
  subst ez
  cases rz
  exact ⟨H', I', q'⟩
theorem TruR.or {X : Cx} {r r' : V → Hp → (Bool → Hp → Prop) → Prop} (h : TruR X r) (h' : TruR X r') : TruR X (fun x H Q => r x H Q ∨ r' x H Q) := by
  intro pins s σ H x v Q I rx q
  rcases q with q | q
  · exact h pins s σ H x v Q I rx q
  · exact h' pins s σ H x v Q I rx q
theorem OpR.or {X : Cx} {f : Value → Value → Sem Value} {r r' : R2} (h : OpR X f r) (h' : OpR X f r') : OpR X f (fun x y H Q => r x y H Q ∨ r' x y H Q) := by
  intro pins s σ H x y v u Q I rx ry q
  rcases q with q | q
  · exact h pins s σ H x y v u Q I rx ry q
  · exact h' pins s σ H x y v u Q I rx ry q
theorem CallR.or {X : Cx} {f : Value} {r r' : List V → Hp → VK → Prop} (h : CallR X f r) (h' : CallR X f r') : CallR X f (fun xs H Q => r xs H Q ∨ r' xs H Q) := by
  intro pins s σ H xs us Q I rx q
  rcases q with q | q
  · exact h pins s σ H xs us Q I rx q
  · exact h' pins s σ H xs us Q I rx q
/-- a built-in type is no class of the text -/
theorem op_isTR {X : Cx} : OpR X (compareOp .Is) (fun x y H Q => ∃ m a, x = .ty m ∧ y = .ref a ∧ Q (.bl false) H) := by
  intro pins s σ H x y v u Q I rx ry h
  obtain ⟨m, a, rfl, rfl, q⟩ := h
  cases (show v = Value.type m from rx)
  cases (show u = Value.ref a from ry)
  exact wpAny_is_other rfl (fun z => nomatch z) ⟨.bl false, H, I, rfl, q⟩
theorem op_isnotTR {X : Cx} : OpR X (compareOp .IsNot) (fun x y H Q => ∃ m a, x = .ty m ∧ y = .ref a ∧ Q (.bl true) H) := by
  intro pins s σ H x y v u Q I rx ry h
  obtain ⟨m, a, rfl, rfl, q⟩ := h
  cases (show v = Value.type m from rx)
  cases (show u = Value.ref a from ry)
  exact wpAny_isNot_other rfl (fun z => nomatch z) ⟨.bl true, H, I, rfl, q⟩
theorem pi_seq {X : Cx} {tg l : Expr} {tl : TE} (hl : PE X l tl) : PI X tg l (fun σ H R => iTup X.K tl σ H R ∨ iList X.K tl σ H R) :=
  ⟨fun pins s σ H R I h => h.elim (fun h => (pi_tup hl).run pins s σ H R I h) fun h => (pi_list hl).run pins s σ H R I h⟩
/-- f(k = v, ..) without positional arguments -/
theorem pe_callK0 {X : Cx} {CX : CXT} {k : Nat} {f : Addr} {fd : FuncData} {ps ks : List Str} {sp : Sp} {E : XK} {x : Str} {p pos : Pos} {kws : List Keyword} {tk : TA} {g : List Value → List Value → List Value} {gV : List V → List V → List V}
    (F : FnOk X.prog X.w X.K X.mg X.base CX k f fd ps sp) (hr : Room k X.A) (hg : Gl X x) (hm : X.mg x = some (.ref f)) (hk : PySem.W.keepIn X.K (.ref f) = true) (hb : KBinds X.K fd ps ks g gV) (hx : Passes CX X E)
    (hkw : PK X kws tk) (hall : (backToKw pos (keywordEach kws X.env)).all (·.1.isSome) = true := by rfl) (hks : (backToKw pos (keywordEach kws X.env)).filterMap (·.1) = ks := by rfl)
    (hdb : (x == ("__debug__" : Str)) = false := by decide)
    (hpl : ((backTo pos (starEach [] X.env)).any (·.1) || (backToKw pos (keywordEach kws X.env)).any (·.1.isNone)) = false := by rfl) :
    PE X (.Call (.Name x p) [] kws pos) (tCallK sp gV E tNil tk) := by
  refine ⟨fun pins s σ H Q I h => ?_⟩
  refine wpAny_Call_Name_kw (ld_glob I hg hm ?_ hdb)
  refine PySem.W.callWith_KW0 I.kIn hk hall (thn (hkw.run pos pins s σ H _ I h) fun ws s2 ⟨zs, H2, I2, rz, q2⟩ => ?_) hpl
  rw [hks]
  exact ⟨I2.kIn, run_fnk F hr hb hx I2 .nil rz q2⟩
end Ru

namespace Q
open PySem PySem.Spec PyProof.Rows L2
def top (i : Nat) : Stmt := PySem.Challenge.pw_fourthlike_k22_fourths_by_a_power_or_non.main.body.getD i (.Pass ⟨0, 0, 0, 0⟩)
abbrev s_is_integer : Stmt := top 1
abbrev n_is_integer : List Str := ["value"]
theorem sc_is_integer : FnScope ["value"] ["value"] (defScope s_is_integer) := ⟨rfl, rfl, rfl, by decide +kernel, rfl, by decide +kernel, by decide +kernel⟩
abbrev s_is_within : Stmt := top 2
abbrev n_is_within : List Str := ["value", "least", "most"]
theorem sc_is_within : FnScope ["value", "least", "most"] ["value", "least", "most"] (defScope s_is_within) := ⟨rfl, rfl, rfl, by decide +kernel, rfl, by decide +kernel, by decide +kernel⟩
abbrev s_need_within : Stmt := top 11
abbrev n_need_within : List Str := ["part", "value", "least", "most"]
theorem sc_need_within : FnScope ["part", "value", "least", "most"] ["part", "value", "least", "most"] (defScope s_need_within) := ⟨rfl, rfl, rfl, by decide +kernel, rfl, by decide +kernel, by decide +kernel⟩
abbrev s_need_numbers : Stmt := top 12
abbrev n_need_numbers : List Str := ["named", "most", "part", "value"]
theorem sc_need_numbers : FnScope ["named", "most", "part", "value"] ["named", "most"] (defScope s_need_numbers) := ⟨rfl, rfl, rfl, by decide +kernel, rfl, by decide +kernel, by decide +kernel⟩
abbrev s_need_power : Stmt := top 13
abbrev n_need_power : List Str := ["power"]
theorem sc_need_power : FnScope ["power"] ["power"] (defScope s_need_power) := ⟨rfl, rfl, rfl, by decide +kernel, rfl, by decide +kernel, by decide +kernel⟩
abbrev s_fixed : Stmt := top 15
abbrev n_fixed : List Str := ["value", "one"]
theorem sc_fixed : FnScope ["value", "one"] ["value"] (defScope s_fixed) := ⟨rfl, rfl, rfl, by decide +kernel, rfl, by decide +kernel, by decide +kernel⟩
abbrev s_Paper__init__ : Stmt := inClass (top 16) 0
abbrev n_Paper__init__ : List Str := ["self", "word", "parts"]
theorem sc_Paper__init__ : FnScope ["self", "word", "parts"] ["self", "word", "parts"] (defScope s_Paper__init__) := ⟨rfl, rfl, rfl, by decide +kernel, rfl, by decide +kernel, by decide +kernel⟩
abbrev s_Paper__eq__ : Stmt := inClass (top 16) 1
abbrev n_Paper__eq__ : List Str := ["self", "other"]
theorem sc_Paper__eq__ : FnScope ["self", "other"] ["self", "other"] (defScope s_Paper__eq__) := ⟨rfl, rfl, rfl, by decide +kernel, rfl, by decide +kernel, by decide +kernel⟩
abbrev s_Paper__bool__ : Stmt := inClass (top 16) 2
abbrev n_Paper__bool__ : List Str := ["self"]
theorem sc_Paper__bool__ : FnScope ["self"] ["self"] (defScope s_Paper__bool__) := ⟨rfl, rfl, rfl, by decide +kernel, rfl, by decide +kernel, by decide +kernel⟩
abbrev s_Denial__init__ : Stmt := inClass (top 17) 0
abbrev n_Denial__init__ : List Str := ["self", "word", "parts"]
theorem sc_Denial__init__ : FnScope ["self", "word", "parts"] ["self", "word", "parts"] (defScope s_Denial__init__) := ⟨rfl, rfl, rfl, by decide +kernel, rfl, by decide +kernel, by decide +kernel⟩
abbrev s_Denial__eq__ : Stmt := inClass (top 17) 1
abbrev n_Denial__eq__ : List Str := ["self", "other"]
theorem sc_Denial__eq__ : FnScope ["self", "other"] ["self", "other"] (defScope s_Denial__eq__) := ⟨rfl, rfl, rfl, by decide +kernel, rfl, by decide +kernel, by decide +kernel⟩
abbrev s_Denial__bool__ : Stmt := inClass (top 17) 2
abbrev n_Denial__bool__ : List Str := ["self"]
theorem sc_Denial__bool__ : FnScope ["self"] ["self"] (defScope s_Denial__bool__) := ⟨rfl, rfl, rfl, by decide +kernel, rfl, by decide +kernel, by decide +kernel⟩
abbrev s_raised : Stmt := top 19
abbrev n_raised : List Str := ["number", "times", "found"]
theorem sc_raised : FnScope ["number", "times", "found"] ["number", "times"] (defScope s_raised) := ⟨rfl, rfl, rfl, by decide +kernel, rfl, by decide +kernel, by decide +kernel⟩
abbrev s_whole_sum : Stmt := top 20
abbrev n_whole_sum : List Str := ["a", "b", "c", "d", "power"]
theorem sc_whole_sum : FnScope ["a", "b", "c", "d", "power"] ["a", "b", "c", "d", "power"] (defScope s_whole_sum) := ⟨rfl, rfl, rfl, by decide +kernel, rfl, by decide +kernel, by decide +kernel⟩
abbrev s_is_by_power : Stmt := top 21
abbrev n_is_by_power : List Str := ["a", "b", "c", "d", "power"]
theorem sc_is_by_power : FnScope ["a", "b", "c", "d", "power"] ["a", "b", "c", "d", "power"] (defScope s_is_by_power) := ⟨rfl, rfl, rfl, by decide +kernel, rfl, by decide +kernel, by decide +kernel⟩
abbrev s_fourth_quotient : Stmt := top 22
abbrev n_fourth_quotient : List Str := ["a", "b", "c", "power", "times", "top", "bottom"]
theorem sc_fourth_quotient : FnScope ["a", "b", "c", "power", "times", "top", "bottom"] ["a", "b", "c", "power"] (defScope s_fourth_quotient) := ⟨rfl, rfl, rfl, by decide +kernel, rfl, by decide +kernel, by decide +kernel⟩
abbrev s_side_of : Stmt := top 23
abbrev n_side_of : List Str := ["number", "quotient", "times", "top", "bottom"]
theorem sc_side_of : FnScope ["number", "quotient", "times", "top", "bottom"] ["number", "quotient"] (defScope s_side_of) := ⟨rfl, rfl, rfl, by decide +kernel, rfl, by decide +kernel, by decide +kernel⟩
abbrev s_whole_below : Stmt := top 24
abbrev n_whole_below : List Str := ["quotient", "high", "low", "middle"]
theorem sc_whole_below : FnScope ["quotient", "high", "low", "middle"] ["quotient"] (defScope s_whole_below) := ⟨rfl, rfl, rfl, by decide +kernel, rfl, by decide +kernel, by decide +kernel⟩
abbrev s_Whole__init__ : Stmt := inClass (top 26) 0
abbrev n_Whole__init__ : List Str := ["self", "number"]
theorem sc_Whole__init__ : FnScope ["self", "number"] ["self", "number"] (defScope s_Whole__init__) := ⟨rfl, rfl, rfl, by decide +kernel, rfl, by decide +kernel, by decide +kernel⟩
abbrev s_NoWhole__init__ : Stmt := inClass (top 27) 0
abbrev n_NoWhole__init__ : List Str := ["self", "low"]
theorem sc_NoWhole__init__ : FnScope ["self", "low"] ["self", "low"] (defScope s_NoWhole__init__) := ⟨rfl, rfl, rfl, by decide +kernel, rfl, by decide +kernel, by decide +kernel⟩
abbrev s_is_by : Stmt := top 28
abbrev n_is_by : List Str := ["a", "b", "c", "d", "power"]
theorem sc_is_by : FnScope ["a", "b", "c", "d", "power"] ["a", "b", "c", "d", "power"] (defScope s_is_by) := ⟨rfl, rfl, rfl, by decide +kernel, rfl, by decide +kernel, by decide +kernel⟩
abbrev s_fourth_by : Stmt := top 29
abbrev n_fourth_by : List Str := ["a", "b", "c", "power", "quotient", "low"]
theorem sc_fourth_by : FnScope ["a", "b", "c", "power", "quotient", "low"] ["a", "b", "c", "power"] (defScope s_fourth_by) := ⟨rfl, rfl, rfl, by decide +kernel, rfl, by decide +kernel, by decide +kernel⟩
abbrev s_ByPower__init__ : Stmt := inClass (top 31) 0
abbrev n_ByPower__init__ : List Str := ["self", "power"]
theorem sc_ByPower__init__ : FnScope ["self", "power"] ["self", "power"] (defScope s_ByPower__init__) := ⟨rfl, rfl, rfl, by decide +kernel, rfl, by decide +kernel, by decide +kernel⟩
abbrev s_Between__init__ : Stmt := inClass (top 32) 0
abbrev n_Between__init__ : List Str := ["self", "low"]
theorem sc_Between__init__ : FnScope ["self", "low"] ["self", "low"] (defScope s_Between__init__) := ⟨rfl, rfl, rfl, by decide +kernel, rfl, by decide +kernel, by decide +kernel⟩
abbrev s_shows_fourth_by : Stmt := top 34
abbrev n_shows_fourth_by : List Str := ["a", "b", "c", "power", "value", "quotient"]
theorem sc_shows_fourth_by : FnScope ["a", "b", "c", "power", "value", "quotient"] ["a", "b", "c", "power", "value"] (defScope s_shows_fourth_by) := ⟨rfl, rfl, rfl, by decide +kernel, rfl, by decide +kernel, by decide +kernel⟩
abbrev s__law_hat : Stmt := top 36
abbrev n__law_hat : List Str := ["_law_script", "_law_cell"]
theorem sc__law_hat : FnScope ["_law_script", "_law_cell"] ["_law_script"] (defScope s__law_hat) := ⟨rfl, rfl, rfl, by decide +kernel, rfl, by decide +kernel, by decide +kernel⟩
abbrev s__law_lot : Stmt := top 37
abbrev n__law_lot : List Str := ["_law_hat_here", "_law_many", "_law_digit", "_law_at", "_law_cell", "_law_great", "_law_mixed"]
theorem sc__law_lot : FnScope ["_law_hat_here", "_law_many", "_law_digit", "_law_at", "_law_cell", "_law_great", "_law_mixed"] ["_law_hat_here", "_law_many"] (defScope s__law_lot) := ⟨rfl, rfl, rfl, by decide +kernel, rfl, by decide +kernel, by decide +kernel⟩
abbrev s__law_one : Stmt := top 38
abbrev n__law_one : List Str := ["_law_hat_here", "_law_some"]
theorem sc__law_one : FnScope ["_law_hat_here", "_law_some"] ["_law_hat_here", "_law_some"] (defScope s__law_one) := ⟨rfl, rfl, rfl, by decide +kernel, rfl, by decide +kernel, by decide +kernel⟩
abbrev s__law_raised : Stmt := top 39
abbrev n__law_raised : List Str := ["_law_number", "_law_many", "_law_found", "_law_turn"]
theorem sc__law_raised : FnScope ["_law_number", "_law_many", "_law_found", "_law_turn"] ["_law_number", "_law_many"] (defScope s__law_raised) := ⟨rfl, rfl, rfl, by decide +kernel, rfl, by decide +kernel, by decide +kernel⟩
abbrev s__law_wanted : Stmt := top 40
abbrev n__law_wanted : List Str := ["_law_a", "_law_b", "_law_c", "_law_power", "_law_many"]
theorem sc__law_wanted : FnScope ["_law_a", "_law_b", "_law_c", "_law_power", "_law_many"] ["_law_a", "_law_b", "_law_c", "_law_power"] (defScope s__law_wanted) := ⟨rfl, rfl, rfl, by decide +kernel, rfl, by decide +kernel, by decide +kernel⟩
abbrev s__law_planted : Stmt := top 41
abbrev n__law_planted : List Str := ["_law_hat_here", "_law_way", "_law_one_here", "_law_other", "_law_more", "_law_k", "_law_m", "_law_n", "_law_o", "_law_first", "_law_second", "_law_least", "_law_step", "_law_far", "_law_whole", "_law_power", "_law_turn"]
theorem sc__law_planted : FnScope ["_law_hat_here", "_law_way", "_law_one_here", "_law_other", "_law_more", "_law_k", "_law_m", "_law_n", "_law_o", "_law_first", "_law_second", "_law_least", "_law_step", "_law_far", "_law_whole", "_law_power", "_law_turn"] ["_law_hat_here"] (defScope s__law_planted) := ⟨rfl, rfl, rfl, by decide +kernel, rfl, by decide +kernel, by decide +kernel⟩
abbrev s__law_drawn : Stmt := top 42
abbrev n__law_drawn : List Str := ["_law_hat_here", "_law_power", "_law_some", "_law_turn"]
theorem sc__law_drawn : FnScope ["_law_hat_here", "_law_power", "_law_some", "_law_turn"] ["_law_hat_here"] (defScope s__law_drawn) := ⟨rfl, rfl, rfl, by decide +kernel, rfl, by decide +kernel, by decide +kernel⟩
abbrev s__law_is_whole : Stmt := top 43
abbrev n__law_is_whole : List Str := ["_law_value", "_law_least"]
theorem sc__law_is_whole : FnScope ["_law_value", "_law_least"] ["_law_value", "_law_least"] (defScope s__law_is_whole) := ⟨rfl, rfl, rfl, by decide +kernel, rfl, by decide +kernel, by decide +kernel⟩
abbrev s__law_is_right : Stmt := top 44
abbrev n__law_is_right : List Str := ["_law_paper", "_law_rest", "_law_part", "_law_many", "_law_low"]
theorem sc__law_is_right : FnScope ["_law_paper", "_law_rest", "_law_part", "_law_many", "_law_low"] ["_law_paper", "_law_rest", "_law_part", "_law_many"] (defScope s__law_is_right) := ⟨rfl, rfl, rfl, by decide +kernel, rfl, by decide +kernel, by decide +kernel⟩
abbrev s__law_bent : Stmt := top 45
abbrev n__law_bent : List Str := ["_law_hat_here", "_law_at", "_law_some", "_law_value"]
theorem sc__law_bent : FnScope ["_law_hat_here", "_law_at", "_law_some", "_law_value"] ["_law_hat_here", "_law_at"] (defScope s__law_bent) := ⟨rfl, rfl, rfl, by decide +kernel, rfl, by decide +kernel, by decide +kernel⟩
abbrev s_law : Stmt := top 46
abbrev n_law : List Str := ["_law_script", "_law_hat_here", "_law_lap", "_law_a", "_law_b", "_law_c", "_law_power", "_law_rest", "_law_part", "_law_many", "_law_found", "_law_at", "_law_turn", "_law_value", "_law_odd"]
theorem sc_law : FnScope ["_law_script", "_law_hat_here", "_law_lap", "_law_a", "_law_b", "_law_c", "_law_power", "_law_rest", "_law_part", "_law_many", "_law_found", "_law_at", "_law_turn", "_law_value", "_law_odd"] ["_law_script"] (defScope s_law) := ⟨rfl, rfl, rfl, by decide +kernel, rfl, by decide +kernel, by decide +kernel⟩
structure ClsT (K : PySem.W.Frag) (mg : Str → Option Value) (nm : Str) where
  a : Addr
  g : mg nm = some (.ref a)
  cl : Cls K a
  kp : PySem.W.keepIn K (.ref a) = true
  ha : PySem.W.findIn K (.ref a) "__class__" = some (some (.builtin "object.__class__"))
  hn : PySem.W.specialIn K (.builtin "object.__class__") "__get__" = some (some (.builtin "getset_descriptor.__get__"))
  ht : PySem.W.takesIn K (.builtin "object.__class__") = some true
  hm : PySem.W.mroIn K a (.type "object") = some true
  ml : PySem.W.makesIn K a = true
structure MetT (K : PySem.W.Frag) (nm qual : Str) (st : Stmt) (ps : List Str) where
  a : Addr
  fd : FuncData
  F : Fun K nm qual st a fd
  fn : PySem.W.isFn K (.ref a) = true
  b : Binds K fd ps []
structure MetS (K : PySem.W.Frag) (nm qual : Str) (st : Stmt) where
  a : Addr
  fd : FuncData
  F : Fun K nm qual st a fd
  fn : PySem.W.isFn K (.ref a) = true
structure FnT (K : PySem.W.Frag) (mg : Str → Option Value) (nm : Str) (st : Stmt) (ps : List Str) where
  a : Addr
  fd : FuncData
  F : Fun K nm nm st a fd
  g : mg nm = some (.ref a)
  b : Binds K fd ps []
structure Txt (K : PySem.W.Frag) (mg : Str → Option Value) where
  f_is_integer : FnT K mg "is_integer" s_is_integer ["value"]
  f_is_within : FnT K mg "is_within" s_is_within ["value", "least", "most"]
  f_need_within : FnT K mg "need_within" s_need_within ["part", "value", "least", "most"]
  f_need_numbers : FnT K mg "need_numbers" s_need_numbers ["named", "most"]
  f_need_power : FnT K mg "need_power" s_need_power ["power"]
  f_fixed : FnT K mg "fixed" s_fixed ["value"]
  f_Paper__init__ : MetS K "__init__" "Paper.__init__" s_Paper__init__
  f_Paper__eq__ : MetT K "__eq__" "Paper.__eq__" s_Paper__eq__ ["self", "other"]
  f_Paper__bool__ : MetT K "__bool__" "Paper.__bool__" s_Paper__bool__ ["self"]
  f_Denial__init__ : MetS K "__init__" "Denial.__init__" s_Denial__init__
  f_Denial__eq__ : MetT K "__eq__" "Denial.__eq__" s_Denial__eq__ ["self", "other"]
  f_Denial__bool__ : MetT K "__bool__" "Denial.__bool__" s_Denial__bool__ ["self"]
  f_raised : FnT K mg "raised" s_raised ["number", "times"]
  f_whole_sum : FnT K mg "whole_sum" s_whole_sum ["a", "b", "c", "d", "power"]
  f_is_by_power : FnT K mg "is_by_power" s_is_by_power ["a", "b", "c", "d", "power"]
  f_fourth_quotient : FnT K mg "fourth_quotient" s_fourth_quotient ["a", "b", "c", "power"]
  f_side_of : FnT K mg "side_of" s_side_of ["number", "quotient"]
  f_whole_below : FnT K mg "whole_below" s_whole_below ["quotient"]
  f_Whole__init__ : MetT K "__init__" "Whole.__init__" s_Whole__init__ ["self", "number"]
  f_NoWhole__init__ : MetT K "__init__" "NoWhole.__init__" s_NoWhole__init__ ["self", "low"]
  f_is_by : FnT K mg "is_by" s_is_by ["a", "b", "c", "d", "power"]
  f_fourth_by : FnT K mg "fourth_by" s_fourth_by ["a", "b", "c", "power"]
  f_ByPower__init__ : MetT K "__init__" "ByPower.__init__" s_ByPower__init__ ["self", "power"]
  f_Between__init__ : MetT K "__init__" "Between.__init__" s_Between__init__ ["self", "low"]
  f_shows_fourth_by : FnT K mg "shows_fourth_by" s_shows_fourth_by ["a", "b", "c", "power", "value"]
  f__law_hat : FnT K mg "_law_hat" s__law_hat ["_law_script"]
  f__law_lot : FnT K mg "_law_lot" s__law_lot ["_law_hat_here", "_law_many"]
  f__law_one : FnT K mg "_law_one" s__law_one ["_law_hat_here", "_law_some"]
  f__law_raised : FnT K mg "_law_raised" s__law_raised ["_law_number", "_law_many"]
  f__law_wanted : FnT K mg "_law_wanted" s__law_wanted ["_law_a", "_law_b", "_law_c", "_law_power"]
  f__law_planted : FnT K mg "_law_planted" s__law_planted ["_law_hat_here"]
  f__law_drawn : FnT K mg "_law_drawn" s__law_drawn ["_law_hat_here"]
  f__law_is_whole : FnT K mg "_law_is_whole" s__law_is_whole ["_law_value", "_law_least"]
  f__law_is_right : FnT K mg "_law_is_right" s__law_is_right ["_law_paper", "_law_rest", "_law_part", "_law_many"]
  f__law_bent : FnT K mg "_law_bent" s__law_bent ["_law_hat_here", "_law_at"]
  f_law : FnT K mg "law" s_law ["_law_script"]
  k_Paper : ClsT K mg "Paper"
  k_Denial : ClsT K mg "Denial"
  k_ByPower : ClsT K mg "ByPower"
  k_Between : ClsT K mg "Between"
  k_Whole : ClsT K mg "Whole"
  k_NoWhole : ClsT K mg "NoWhole"
  na_Paper_word : NoAttr K k_Paper.a "word"
  na_Paper_parts : NoAttr K k_Paper.a "parts"
  at_Paper__init__ : PySem.W.findIn K (.ref k_Paper.a) "__init__" = some (some (.ref f_Paper__init__.a))
  at_Paper__eq__ : PySem.W.findIn K (.ref k_Paper.a) "__eq__" = some (some (.ref f_Paper__eq__.a))
  at_Paper__bool__ : PySem.W.findIn K (.ref k_Paper.a) "__bool__" = some (some (.ref f_Paper__bool__.a))
  mk_Paper : Mk K k_Paper.a f_Paper__init__.a
  eq_Paper : Ru.EqC K k_Paper.a f_Paper__eq__.a
  mc_Paper : Value
  cr_Paper : ClX.CRead K k_Paper.a mc_Paper
  cv_Paper__init__ : ClX.CVal K k_Paper.a mc_Paper "__init__" (.ref f_Paper__init__.a) (.ref f_Paper__init__.a)
  is_Paper_Whole : PySem.W.kitOne K (.ref k_Paper.a) (.ref k_Whole.a) = some false
  is_Paper_NoWhole : PySem.W.kitOne K (.ref k_Paper.a) (.ref k_NoWhole.a) = some false
  na_Denial_word : NoAttr K k_Denial.a "word"
  na_Denial_parts : NoAttr K k_Denial.a "parts"
  at_Denial__init__ : PySem.W.findIn K (.ref k_Denial.a) "__init__" = some (some (.ref f_Denial__init__.a))
  at_Denial__eq__ : PySem.W.findIn K (.ref k_Denial.a) "__eq__" = some (some (.ref f_Denial__eq__.a))
  at_Denial__bool__ : PySem.W.findIn K (.ref k_Denial.a) "__bool__" = some (some (.ref f_Denial__bool__.a))
  mk_Denial : Mk K k_Denial.a f_Denial__init__.a
  eq_Denial : Ru.EqC K k_Denial.a f_Denial__eq__.a
  mc_Denial : Value
  cr_Denial : ClX.CRead K k_Denial.a mc_Denial
  cv_Denial__init__ : ClX.CVal K k_Denial.a mc_Denial "__init__" (.ref f_Denial__init__.a) (.ref f_Denial__init__.a)
  is_Denial_Whole : PySem.W.kitOne K (.ref k_Denial.a) (.ref k_Whole.a) = some false
  is_Denial_NoWhole : PySem.W.kitOne K (.ref k_Denial.a) (.ref k_NoWhole.a) = some false
  na_ByPower_word : NoAttr K k_ByPower.a "word"
  na_ByPower_parts : NoAttr K k_ByPower.a "parts"
  na_ByPower_power : NoAttr K k_ByPower.a "power"
  at_ByPower__init__ : PySem.W.findIn K (.ref k_ByPower.a) "__init__" = some (some (.ref f_ByPower__init__.a))
  mk_ByPower : Mk K k_ByPower.a f_ByPower__init__.a
  eq_ByPower : Ru.EqC K k_ByPower.a f_Paper__eq__.a
  bo_ByPower : Ru.BoolC K k_ByPower.a f_Paper__bool__.a
  is_ByPower_Whole : PySem.W.kitOne K (.ref k_ByPower.a) (.ref k_Whole.a) = some false
  is_ByPower_NoWhole : PySem.W.kitOne K (.ref k_ByPower.a) (.ref k_NoWhole.a) = some false
  na_Between_word : NoAttr K k_Between.a "word"
  na_Between_parts : NoAttr K k_Between.a "parts"
  na_Between_low : NoAttr K k_Between.a "low"
  at_Between__init__ : PySem.W.findIn K (.ref k_Between.a) "__init__" = some (some (.ref f_Between__init__.a))
  mk_Between : Mk K k_Between.a f_Between__init__.a
  eq_Between : Ru.EqC K k_Between.a f_Denial__eq__.a
  bo_Between : Ru.BoolC K k_Between.a f_Denial__bool__.a
  is_Between_Whole : PySem.W.kitOne K (.ref k_Between.a) (.ref k_Whole.a) = some false
  is_Between_NoWhole : PySem.W.kitOne K (.ref k_Between.a) (.ref k_NoWhole.a) = some false
  na_Whole_word : NoAttr K k_Whole.a "word"
  na_Whole_parts : NoAttr K k_Whole.a "parts"
  na_Whole_number : NoAttr K k_Whole.a "number"
  at_Whole__init__ : PySem.W.findIn K (.ref k_Whole.a) "__init__" = some (some (.ref f_Whole__init__.a))
  mk_Whole : Mk K k_Whole.a f_Whole__init__.a
  eq_Whole : Ru.EqC K k_Whole.a f_Paper__eq__.a
  is_Whole_Whole : PySem.W.kitOne K (.ref k_Whole.a) (.ref k_Whole.a) = some true
  is_Whole_NoWhole : PySem.W.kitOne K (.ref k_Whole.a) (.ref k_NoWhole.a) = some false
  bo_Whole : Ru.BoolC K k_Whole.a f_Paper__bool__.a
  na_NoWhole_word : NoAttr K k_NoWhole.a "word"
  na_NoWhole_parts : NoAttr K k_NoWhole.a "parts"
  na_NoWhole_low : NoAttr K k_NoWhole.a "low"
  at_NoWhole__init__ : PySem.W.findIn K (.ref k_NoWhole.a) "__init__" = some (some (.ref f_NoWhole__init__.a))
  mk_NoWhole : Mk K k_NoWhole.a f_NoWhole__init__.a
  eq_NoWhole : Ru.EqC K k_NoWhole.a f_Denial__eq__.a
  is_NoWhole_NoWhole : PySem.W.kitOne K (.ref k_NoWhole.a) (.ref k_NoWhole.a) = some true
  is_NoWhole_Whole : PySem.W.kitOne K (.ref k_NoWhole.a) (.ref k_Whole.a) = some false
  bo_NoWhole : Ru.BoolC K k_NoWhole.a f_Denial__bool__.a
  t_LEAST_POWER : Tok
  c_LEAST_POWER : mg "LEAST_POWER" = some (.int (-80) t_LEAST_POWER)
  t_MOST_POWER : Tok
  c_MOST_POWER : mg "MOST_POWER" = some (.int (80) t_MOST_POWER)
  t_MOST_NUMBER : Tok
  c_MOST_NUMBER : mg "MOST_NUMBER" = some (.int (1000000) t_MOST_NUMBER)
  t_MOST_SMALL : Tok
  c_MOST_SMALL : mg "MOST_SMALL" = some (.int (99) t_MOST_SMALL)
  n_abs : mg "abs" = none
  n_bool : mg "bool" = none
  n_int : mg "int" = none
  n_isinstance : mg "isinstance" = none
  n_len : mg "len" = none
  n_list : mg "list" = none
  n_max : mg "max" = none
  n_min : mg "min" = none
  n_range : mg "range" = none
  n_str : mg "str" = none
  n_tuple : mg "tuple" = none
  n_type : mg "type" = none
section
variable {P : Program} {w : World} {K : PySem.W.Frag} {mg : Str → Option Value} {base : Heap}
/-! ### the program's defs -/
def spIsInt : Sp := fun vs H Q _ => ∃ i, vs = [.int i] ∧ Q (.bl true) H
theorem ok_is_integer (T : Txt K mg) : FnOk P w K mg base CX0 1 T.f_is_integer.a T.f_is_integer.fd ["value"] spIsInt := by
  refine T.f_is_integer.F.ok sc_is_integer (fun vs H Q E h => ?_) (fun cdv A outer s H vs Q E hr h => ?_)
  · obtain ⟨i, rfl, _⟩ := h
    rfl
  · obtain ⟨i, rfl, q⟩ := h
    refine ⟨_, (pss_one (ps_ret (pe_and (pe_callB call_isi (by rfl) T.n_isinstance (by decide +kernel) (pa_cons (pv 0) (pa_cons (pe_bltn (v := .ty "int") (by rfl) T.n_int (by decide +kernel) rfl) pa_nil))) (pe_one (pe_not (pe_callB call_isi (by rfl) T.n_isinstance (by decide +kernel) (pa_cons (pv 0) (pa_cons (pe_bltn (v := .ty "bool") (by rfl) T.n_bool (by decide +kernel) rfl) pa_nil)))))))), ?_⟩
    refine ⟨_, rfl, _, _, _, _, true, rfl, .ty _, .base (.int _), kit_ty (by decide +kernel), true, rfl, iteT ?_⟩
    exact ⟨_, rfl, _, _, _, _, false, rfl, .ty _, .base (.int _), kit_ty (by decide +kernel), false, rfl, q⟩
def spWithin : Sp := fun vs H Q _ => ∃ i l m : Int, vs = [.int i, .int l, .int m] ∧ Q (.bl (decide (l ≤ i ∧ i ≤ m))) H
theorem ok_is_within (T : Txt K mg) : FnOk P w K mg base CX0 2 T.f_is_within.a T.f_is_within.fd ["value", "least", "most"] spWithin := by
  have G_is_integer := ok_is_integer (P := P) (w := w) (base := base) T
  refine T.f_is_within.F.ok sc_is_within (fun vs H Q E h => ?_) (fun cdv A outer s H vs Q E hr h => ?_)
  · obtain ⟨i, l, m, rfl, _⟩ := h
    rfl
  · obtain ⟨i, l, m, rfl, q⟩ := h
    refine ⟨_, (pss_cons (ps_if (pt_not (pt_val (pe_call G_is_integer (hr.mono (by decide)) (by rfl) T.f_is_integer.g T.f_is_integer.F.kp T.f_is_integer.b .nil pass0 (pa_cons (pv 0) pa_nil)))) (pss_one (ps_ret pe_bl)) pss_nil) (pss_one (ps_ret (pe_and (pe_or (pe_cmpR op_isN (pv 1) pe_non (nomark _)) (pe_one (pe_cmpR op_ge (pv 0) (pv 1) (nomark _)))) (pe_one (pe_or (pe_cmpR op_isN (pv 2) pe_non (nomark _)) (pe_one (pe_cmpR op_le (pv 0) (pv 2) (nomark _))))))))), ?_⟩
    refine ⟨_, rfl, i, rfl, true, rfl, iteF ?_⟩
    refine ⟨_, rfl, rfl, false, rfl, iteF ⟨_, rfl, _, rfl, _, _, rfl, rfl, _, rfl, ?_⟩⟩
    refine ite2 (fun e => ?_) (fun e => ?_)
    · refine ⟨_, rfl, rfl, false, rfl, iteF ⟨_, rfl, _, rfl, _, _, rfl, rfl, ?_⟩⟩
      have e1 : l ≤ i := of_decide_eq_true e
      have e2 : decide (l ≤ i ∧ i ≤ m) = decide (i ≤ m) := by
        by_cases h : i ≤ m
        · rw [decide_eq_true h, decide_eq_true ⟨e1, h⟩]
        · rw [decide_eq_false h, decide_eq_false (fun z => h z.2)]
      rw [e2] at q
      exact q
    · have e2 : decide (l ≤ i ∧ i ≤ m) = false := decide_eq_false (fun z => e (decide_eq_true z.1))
      rw [e2] at q
      exact q
def spNeedWithin : Sp := fun vs H Q _ => ∃ (p : Str) (i l m : Int), vs = [.str p, .int i, .int l, .int m] ∧ l ≤ i ∧ i ≤ m ∧ Q .non H
theorem ok_need_within (T : Txt K mg) : FnOk P w K mg base CX0 3 T.f_need_within.a T.f_need_within.fd ["part", "value", "least", "most"] spNeedWithin := by
  have G_is_within := ok_is_within (P := P) (w := w) (base := base) T
  refine T.f_need_within.F.ok sc_need_within (fun vs H Q E h => ?_) (fun cdv A outer s H vs Q E hr h => ?_)
  · obtain ⟨p, i, l, m, rfl, _⟩ := h
    rfl
  · obtain ⟨p, i, l, m, rfl, h1, h2, q⟩ := h
    refine ⟨_, (pss_one (ps_if (pt_not (pt_val (pe_call G_is_within (hr.mono (by decide)) (by rfl) T.f_is_within.g T.f_is_within.F.kp T.f_is_within.b .nil pass0 (pa_cons (pv 1) (pa_cons (pv 2) (pa_cons (pv 3) pa_nil)))))) (pss_one ps_never) pss_nil)), ?_⟩
    exact ⟨_, rfl, _, rfl, _, rfl, i, l, m, rfl, true, decide_eq_true (⟨h1, h2⟩ : l ≤ i ∧ i ≤ m) ▸ rfl, iteF q⟩
/-- pairs of a text and an integer from 1 to m -/
def Named (K : PySem.W.Frag) (H : Hp) (m : Int) (v : V) : Prop := ∃ (t : Addr) (p : Str) (n : Int), v = .ref t ∧ SqT K H t [.str p, .int n] ∧ 1 ≤ n ∧ n ≤ m
def spNeedNumbers (K : PySem.W.Frag) : Sp := fun vs H Q _ => ∃ (l : Addr) (xs : List V) (m : Int), vs = [.ref l, .int m] ∧ SqL K H l xs ∧ (∀ x ∈ xs, Named K H m x) ∧ Q .non H
theorem ok_need_numbers (T : Txt K mg) : FnOk P w K mg base CX0 4 T.f_need_numbers.a T.f_need_numbers.fd ["named", "most"] (spNeedNumbers K) := by
  have G_need_within := ok_need_within (P := P) (w := w) (base := base) T
  refine T.f_need_numbers.F.ok sc_need_numbers (fun vs H Q E h => ?_) (fun cdv A outer s H vs Q E hr h => ?_)
  · obtain ⟨l, xs, m, rfl, _⟩ := h
    rfl
  · obtain ⟨l, xs, m, rfl, hL, hx, q⟩ := h
    refine ⟨_, (pss_one (ps_for PassesOwn.never rfl (pi_list (pv 0)) (pg_tup rfl (pgs_cons (pg_name (i := 2) sc_need_numbers.nd rfl (Or.inl rfl)) (pgs_cons (pg_name (i := 3) sc_need_numbers.nd rfl (Or.inl rfl)) pgs_nil))) (pss_one (ps_expr (pe_call G_need_within (hr.mono (by decide)) (by rfl) T.f_need_within.g T.f_need_within.F.kp T.f_need_within.b .nil pass0 (pa_cons (pv 2) (pa_cons (pv 3) (pa_cons pe_int (pa_cons (pv 1) pa_nil))))))))), ?_⟩
    refine ⟨_, rfl, l, rfl, ⟨_, hL⟩, for_list (K := K) (a := l) (xs := xs) (fun i σ H' => H' = H ∧ ∃ x y, σ = [some (.ref l), some (.int m), x, y]) ⟨rfl, none, none, rfl⟩ (fun i σ H' _ h => h.1 ▸ hL) ?_ ?_⟩
    · rintro i x σ H' hi ⟨rfl, y, z, rfl⟩
      obtain ⟨t, p, n, rfl, hT, h1, h2⟩ := hx x (List.mem_of_getElem? hi)
      refine ⟨t, _, rfl, hT, rfl, _, _, rfl, _, _, rfl, rfl, ?_⟩
      exact ⟨_, rfl, _, rfl, _, rfl, p, n, 1, m, rfl, h1, h2, rfl, _, _, rfl⟩
    · rintro σ H' ⟨rfl, _⟩
      exact q
def spNeedPower : Sp := fun vs H Q _ => ∃ p : Int, vs = [.int p] ∧ -80 ≤ p ∧ p ≤ 80 ∧ Q .non H
theorem ok_need_power (T : Txt K mg) : FnOk P w K mg base CX0 4 T.f_need_power.a T.f_need_power.fd ["power"] spNeedPower := by
  have G_need_within := ok_need_within (P := P) (w := w) (base := base) T
  refine T.f_need_power.F.ok sc_need_power (fun vs H Q E h => ?_) (fun cdv A outer s H vs Q E hr h => ?_)
  · obtain ⟨p, rfl, _⟩ := h
    rfl
  · obtain ⟨p, rfl, h1, h2, q⟩ := h
    refine ⟨_, (pss_one (ps_expr (pe_call G_need_within (hr.mono (by decide)) (by rfl) T.f_need_within.g T.f_need_within.F.kp T.f_need_within.b .nil pass0 (pa_cons pe_str (pa_cons (pv 0) (pa_cons (pe_glob (v := .int (-80)) rfl T.c_LEAST_POWER ⟨_, rfl⟩) (pa_cons (pe_glob (v := .int (80)) rfl T.c_MOST_POWER ⟨_, rfl⟩) pa_nil))))))), ?_⟩
    exact ⟨_, rfl, _, p, -80, 80, rfl, h1, h2, q⟩
/-! ### powers -/
theorem pow_lt {x : Int} {b e : Nat} (h : x.natAbs < 2 ^ b) : (x ^ e).natAbs < 2 ^ (b * e + 1) := by
  have h1 : (x ^ e).natAbs = x.natAbs ^ e := Int.natAbs_pow x e
  rw [h1]
  have h2 : x.natAbs ^ e ≤ (2 ^ b) ^ e := Nat.pow_le_pow_left (Nat.le_of_lt h) e
  rw [← Nat.pow_mul] at h2
  have h3 : 2 ^ (b * e) < 2 ^ (b * e + 1) := Nat.pow_lt_pow_right (by decide) (by omega)
  omega
def spRaised : Sp := fun vs H Q _ => ∃ (x : Int) (n : Nat), vs = [.int x, .int (n : Int)] ∧ x.natAbs < 2 ^ 64 ∧ n ≤ 100 ∧ Q (.int (x ^ n)) H
theorem ok_raised (T : Txt K mg) : FnOk P w K mg base CX0 1 T.f_raised.a T.f_raised.fd ["number", "times"] spRaised := by
  refine T.f_raised.F.ok sc_raised (fun vs H Q E h => ?_) (fun cdv A outer s H vs Q E hr h => ?_)
  · obtain ⟨x, n, rfl, _⟩ := h
    rfl
  · obtain ⟨x, n, rfl, hx, hn, q⟩ := h
    refine ⟨_, (pss_cons (ps_set (i := 2) sc_raised.nd rfl (Or.inl rfl) pe_int) (pss_cons (ps_while PassesOwn.never (pt_cmpR op_gt (pv 1) pe_int (nomark _)) (pss_cons (ps_if (pt_truth (pe_op op_odd (pv 1) pe_int) (by intro _; rfl)) (pss_one (ps_set (i := 2) sc_raised.nd rfl (Or.inl rfl) (pe_op op_mulW (pv 2) (pv 0)))) pss_nil) (pss_cons (ps_set (i := 0) sc_raised.nd rfl (Or.inl rfl) (pe_op op_mulW (pv 0) (pv 0))) (pss_one (ps_set (i := 1) sc_raised.nd rfl (Or.inl rfl) (pe_op op_halfN (pv 1) pe_int)))))) (pss_one (ps_ret (pv 2))))), ?_⟩
    -- j turns are done: number = x ^ (2 ^ j), times = n / 2 ^ j, found = x ^ (n % 2 ^ j)
    refine while_by (fun σ H' => H' = H ∧ ∃ (t u : Nat) (f : Nat), σ = [some (.int (x ^ u)), some (.int (t : Int)), some (.int (x ^ f))] ∧ f + u * t = n ∧ f ≤ n ∧ (u ≤ n ∨ u = 1 ∨ (t = 0 ∧ u ≤ 2 * n)))
      (fun σ _ => match σ with
        | [_, some (.int t), _] => t.toNat
        | _ => 0) ⟨rfl, n, 1, 0, by rw [Int.pow_one, Int.pow_zero]; rfl, by omega, by omega, by omega⟩ ?_ ?_
    · rintro σ H' ⟨rfl, t, u, f, rfl, e1, e2, e3⟩
      refine ⟨_, rfl, _, _, rfl, rfl, _, rfl, ite2 (fun e => ?_) (fun e => ?_)⟩
      · have ht : 0 < t := by
          have := of_decide_eq_true e
          omega
        have hu : u ≤ 100 := by
          have : u ≤ u * t := Nat.le_mul_of_pos_right u ht
          omega
        have bu : (x ^ u).natAbs < 2 ^ (64 * 100 + 1) := Nat.lt_of_lt_of_le (pow_lt (e := u) hx) (Nat.pow_le_pow_right (by decide) (by omega))
        have bf : (x ^ f).natAbs < 2 ^ (64 * 100 + 1) := Nat.lt_of_lt_of_le (pow_lt (e := f) hx) (Nat.pow_le_pow_right (by decide) (by omega))
        have sq : x ^ u * x ^ u = x ^ (2 * u) := by
          rw [← Int.pow_add, Nat.two_mul]
        have hd : t = t % 2 + 2 * (t / 2) := by omega
        have hm : u * t = u * (t % 2) + 2 * u * (t / 2) := by
          have z : u * t = u * (t % 2 + 2 * (t / 2)) := congrArg (fun z => u * z) hd
          rw [z, Nat.mul_add, ← Nat.mul_assoc, Nat.mul_comm u 2]
        have hstep : ∀ f' : Nat, f' = f + u * (t % 2) → f' + 2 * u * (t / 2) = n ∧ f' ≤ n ∧ (2 * u ≤ n ∨ 2 * u = 1 ∨ (t / 2 = 0 ∧ 2 * u ≤ 2 * n)) := by
          intro f' ef
          refine ⟨by omega, ?_, ?_⟩
          · have := Nat.zero_le (2 * u * (t / 2))
            omega
          · by_cases h0 : t / 2 = 0
            · refine .inr (.inr ⟨h0, ?_⟩)
              have : u ≤ u * t := Nat.le_mul_of_pos_right u ht
              omega
            · refine .inl ?_
              have : 2 * u ≤ 2 * u * (t / 2) := Nat.le_mul_of_pos_right (2 * u) (by omega)
              omega
        refine ⟨_, rfl, t, rfl, rfl, _, rfl, ite2 (fun e4 => ?_) (fun e4 => ?_)⟩
        · have e5 : t % 2 = 1 := by
            have e6 : (((t % 2 : Nat) : Int) != 0) = true := e4
            have e7 : ((t % 2 : Nat) : Int) ≠ 0 := by simpa using e6
            omega
          refine ⟨_, rfl, _, rfl, _, _, rfl, rfl, wide_mul bf bu (by decide) (by decide) (by decide), ?_⟩
          refine ⟨_, rfl, _, rfl, _, _, rfl, rfl, wide_mul bu bu (by decide) (by decide) (by decide), ?_⟩
          refine ⟨_, rfl, t, rfl, rfl, ⟨rfl, t / 2, 2 * u, f + u, ?_, ?_⟩, ?_⟩
          · show [some (V.int (x ^ u * x ^ u)), some (V.int ((t / 2 : Nat) : Int)), some (V.int (x ^ f * x ^ u))] = [some (V.int (x ^ (2 * u))), some (V.int ((t / 2 : Nat) : Int)), some (V.int (x ^ (f + u)))]
            rw [sq, ← Int.pow_add]
          · exact hstep (f + u) (by rw [e5, Nat.mul_one])
          · show (((t / 2 : Nat) : Int)).toNat < ((t : Nat) : Int).toNat
            omega
        · have e5 : t % 2 = 0 := by
            have e6 : ¬ (((t % 2 : Nat) : Int) != 0) = true := e4
            have e7 : ((t % 2 : Nat) : Int) = 0 := by simpa using e6
            omega
          refine ⟨_, rfl, _, rfl, _, _, rfl, rfl, wide_mul bu bu (by decide) (by decide) (by decide), ?_⟩
          refine ⟨_, rfl, t, rfl, rfl, ⟨rfl, t / 2, 2 * u, f, ?_, ?_⟩, ?_⟩
          · show [some (V.int (x ^ u * x ^ u)), some (V.int ((t / 2 : Nat) : Int)), some (V.int (x ^ f))] = [some (V.int (x ^ (2 * u))), some (V.int ((t / 2 : Nat) : Int)), some (V.int (x ^ f))]
            rw [sq]
          · exact hstep f (by rw [e5, Nat.mul_zero, Nat.add_zero])
          · show (((t / 2 : Nat) : Int)).toNat < ((t : Nat) : Int).toNat
            omega
      · have ht : t = 0 := by
          by_cases h : t = 0
          · exact h
          · exact absurd (decide_eq_true (show (0 : Int) < (t : Int) by omega)) e
        subst ht
        have ef : f = n := by omega
        subst ef
        exact ⟨_, rfl, q⟩
    · intro σ H Q Q' hq h
      obtain ⟨v, e, a, b, c, d, k, z, r⟩ := h
      exact ⟨v, e, a, b, c, d, k, z, hq _ _ r⟩
/-- the sum of four integers at a power from 0 on -/
def sum0 (a b c d : Int) (p : Nat) : Int := a ^ p + d ^ p - b ^ p - c ^ p
/-- .. at any power, in whole numbers -/
def wsum (a b c d p : Int) : Int := if p < 0 then sum0 (b * c * d) (a * c * d) (a * b * d) (a * b * c) (-p).toNat else sum0 a b c d p.toNat
def Sm (x : Int) : Prop := x.natAbs < 2 ^ 64
def spSum0 : Sp := fun vs H Q _ => ∃ (a b c d : Int) (p : Nat), vs = [.int a, .int b, .int c, .int d, .int (p : Int)] ∧ (Sm a ∧ Sm b ∧ Sm c ∧ Sm d) ∧ p ≤ 100 ∧ Q (.int (sum0 a b c d p)) H
theorem ok_sum0 (T : Txt K mg) : FnOk P w K mg base CX0 2 T.f_whole_sum.a T.f_whole_sum.fd ["a", "b", "c", "d", "power"] spSum0 := by
  have G_raised := ok_raised (P := P) (w := w) (base := base) T
  refine T.f_whole_sum.F.ok sc_whole_sum (fun vs H Q E h => ?_) (fun cdv A outer s H vs Q E hr h => ?_)
  · obtain ⟨a, b, c, d, p, rfl, _⟩ := h
    rfl
  · obtain ⟨a, b, c, d, p, rfl, ⟨ha, hb, hc, hd⟩, hp, q⟩ := h
    refine ⟨_, (pss_cons (ps_if (pt_cmpR op_lt (pv 4) pe_int (nomark _)) (pss_one ps_never) pss_nil) (pss_one (ps_ret (pe_op op_sub (pe_op op_sub (pe_op op_add (pe_call G_raised (hr.mono (by decide)) (by rfl) T.f_raised.g T.f_raised.F.kp T.f_raised.b .nil pass0 (pa_cons (pv 0) (pa_cons (pv 4) pa_nil))) (pe_call G_raised (hr.mono (by decide)) (by rfl) T.f_raised.g T.f_raised.F.kp T.f_raised.b .nil pass0 (pa_cons (pv 3) (pa_cons (pv 4) pa_nil)))) (pe_call G_raised (hr.mono (by decide)) (by rfl) T.f_raised.g T.f_raised.F.kp T.f_raised.b .nil pass0 (pa_cons (pv 1) (pa_cons (pv 4) pa_nil)))) (pe_call G_raised (hr.mono (by decide)) (by rfl) T.f_raised.g T.f_raised.F.kp T.f_raised.b .nil pass0 (pa_cons (pv 2) (pa_cons (pv 4) pa_nil))))))), ?_⟩
    refine ⟨_, rfl, _, _, rfl, rfl, _, rfl, ?_⟩
    rw [decide_eq_false (show ¬ ((p : Int) < 0) by omega)]
    refine iteF ?_
    exact ⟨_, rfl, _, rfl, a, p, rfl, ha, hp, _, rfl, _, rfl, d, p, rfl, hd, hp, _, _, rfl, rfl, _, rfl, _, rfl, b, p, rfl, hb, hp, _, _, rfl, rfl, _, rfl, _, rfl, c, p, rfl, hc, hp, _, _, rfl, rfl, q⟩
/-- four integers from 1 to a million, a power from -80 to 80 -/
structure Fine (a b c d p : Int) : Prop where
  a : 1 ≤ a ∧ a ≤ 1000000
  b : 1 ≤ b ∧ b ≤ 1000000
  c : 1 ≤ c ∧ c ≤ 1000000
  d : 1 ≤ d ∧ d ≤ 1000000
  p : -80 ≤ p ∧ p ≤ 80
theorem two_fine {a b : Int} (ha : 1 ≤ a ∧ a ≤ 1000000) (hb : 1 ≤ b ∧ b ≤ 1000000) : 1 ≤ a * b ∧ a * b ≤ 1000000000000 := by
  constructor
  · have : 0 < a * b := Int.mul_pos (by omega) (by omega)
    omega
  · have h1 : a * b ≤ 1000000 * b := Int.mul_le_mul_of_nonneg_right ha.2 (by omega)
    omega
theorem three_fine {a b c : Int} (ha : 1 ≤ a ∧ a ≤ 1000000) (hb : 1 ≤ b ∧ b ≤ 1000000) (hc : 1 ≤ c ∧ c ≤ 1000000) : 1 ≤ a * b * c ∧ a * b * c ≤ 1000000000000000000 := by
  have h := two_fine ha hb
  constructor
  · have : 0 < a * b * c := Int.mul_pos (by omega) (by omega)
    omega
  · have h1 : a * b * c ≤ 1000000000000 * c := Int.mul_le_mul_of_nonneg_right h.2 (by omega)
    omega
theorem sm_of {x : Int} (h : 1 ≤ x ∧ x ≤ 1000000000000000000) : Sm x := by
  unfold Sm
  omega
theorem lim {x : Int} (h : 1 ≤ x ∧ x ≤ 1000000000000) : -(2 ^ 64) < x ∧ x < 2 ^ 64 := by omega
def spSum : Sp := fun vs H Q _ => ∃ a b c d p : Int, vs = [.int a, .int b, .int c, .int d, .int p] ∧ Fine a b c d p ∧ Q (.int (wsum a b c d p)) H
theorem ok_whole_sum (T : Txt K mg) : FnOk P w K mg base CX0 3 T.f_whole_sum.a T.f_whole_sum.fd ["a", "b", "c", "d", "power"] spSum := by
  have G_raised := ok_raised (P := P) (w := w) (base := base) T
  have G_sum0 := ok_sum0 (P := P) (w := w) (base := base) T
  refine T.f_whole_sum.F.ok sc_whole_sum (fun vs H Q E h => ?_) (fun cdv A outer s H vs Q E hr h => ?_)
  · obtain ⟨a, b, c, d, p, rfl, _⟩ := h
    rfl
  · obtain ⟨a, b, c, d, p, rfl, F, q⟩ := h
    refine ⟨_, (pss_cons (ps_if (pt_cmpR op_lt (pv 4) pe_int (nomark _)) (pss_one (ps_ret (pe_call G_sum0 (hr.mono (by decide)) (by rfl) T.f_whole_sum.g T.f_whole_sum.F.kp T.f_whole_sum.b .nil pass0 (pa_cons (pe_op op_mul (pe_op op_mul (pv 1) (pv 2)) (pv 3)) (pa_cons (pe_op op_mul (pe_op op_mul (pv 0) (pv 2)) (pv 3)) (pa_cons (pe_op op_mul (pe_op op_mul (pv 0) (pv 1)) (pv 3)) (pa_cons (pe_op op_mul (pe_op op_mul (pv 0) (pv 1)) (pv 2)) (pa_cons (pe_un un_neg (pv 4)) pa_nil)))))))) pss_nil) (pss_one (ps_ret (pe_op op_sub (pe_op op_sub (pe_op op_add (pe_call G_raised (hr.mono (by decide)) (by rfl) T.f_raised.g T.f_raised.F.kp T.f_raised.b .nil pass0 (pa_cons (pv 0) (pa_cons (pv 4) pa_nil))) (pe_call G_raised (hr.mono (by decide)) (by rfl) T.f_raised.g T.f_raised.F.kp T.f_raised.b .nil pass0 (pa_cons (pv 3) (pa_cons (pv 4) pa_nil)))) (pe_call G_raised (hr.mono (by decide)) (by rfl) T.f_raised.g T.f_raised.F.kp T.f_raised.b .nil pass0 (pa_cons (pv 1) (pa_cons (pv 4) pa_nil)))) (pe_call G_raised (hr.mono (by decide)) (by rfl) T.f_raised.g T.f_raised.F.kp T.f_raised.b .nil pass0 (pa_cons (pv 2) (pa_cons (pv 4) pa_nil))))))), ?_⟩
    refine ⟨_, rfl, _, _, rfl, rfl, _, rfl, ite2 (fun e => ?_) (fun e => ?_)⟩
    · have hp : p < 0 := of_decide_eq_true e
      have m1 := fun {x y : Int} (hx : 1 ≤ x ∧ x ≤ 1000000) => (.inl (lim ⟨hx.1, by omega⟩) : CMul x y)
      have m2 := fun {x y z : Int} (hx : 1 ≤ x ∧ x ≤ 1000000) (hy : 1 ≤ y ∧ y ≤ 1000000) => (.inl (lim (two_fine hx hy)) : CMul (x * y) z)
      refine ⟨_, rfl, _, rfl, _, _, rfl, rfl, m1 F.b, _, rfl, _, _, rfl, rfl, m2 F.b F.c, ?_⟩
      refine ⟨_, rfl, _, rfl, _, _, rfl, rfl, m1 F.a, _, rfl, _, _, rfl, rfl, m2 F.a F.c, ?_⟩
      refine ⟨_, rfl, _, rfl, _, _, rfl, rfl, m1 F.a, _, rfl, _, _, rfl, rfl, m2 F.a F.b, ?_⟩
      refine ⟨_, rfl, _, rfl, _, _, rfl, rfl, m1 F.a, _, rfl, _, _, rfl, rfl, m2 F.a F.b, ?_⟩
      have hq := F.p
      refine ⟨_, rfl, p, rfl, _, _, _, _, (-p).toNat, ?_, ⟨sm_of (three_fine F.b F.c F.d), sm_of (three_fine F.a F.c F.d), sm_of (three_fine F.a F.b F.d), sm_of (three_fine F.a F.b F.c)⟩, by omega, ?_⟩
      · have : (((-p).toNat : Nat) : Int) = -p := by omega
        rw [this]
        rfl
      · unfold wsum at q
        rw [if_pos hp] at q
        exact q
    · have hp : ¬ p < 0 := fun h => e (decide_eq_true h)
      have hq := F.p
      have ep : V.int p = .int ((p.toNat : Nat) : Int) := by
        congr 1
        omega
      have sm := fun {x : Int} (hx : 1 ≤ x ∧ x ≤ 1000000) => (sm_of ⟨hx.1, by omega⟩ : Sm x)
      have q2 : Q (.int (sum0 a b c d p.toNat)) H := by
        unfold wsum at q
        rw [if_neg hp] at q
        exact q
      refine ⟨_, rfl, _, rfl, a, p.toNat, by rw [← ep]; rfl, sm F.a, by omega, ?_⟩
      refine ⟨_, rfl, _, rfl, d, p.toNat, by rw [← ep]; rfl, sm F.d, by omega, _, _, rfl, rfl, ?_⟩
      refine ⟨_, rfl, _, rfl, b, p.toNat, by rw [← ep]; rfl, sm F.b, by omega, _, _, rfl, rfl, ?_⟩
      exact ⟨_, rfl, _, rfl, c, p.toNat, by rw [← ep]; rfl, sm F.c, by omega, _, _, rfl, rfl, q2⟩
/-- whether they are a proportion by the power -/
def isby (a b c d p : Int) : Bool := if p = 0 then decide (a * d = b * c) else decide (wsum a b c d p = 0)
def spIsByPower : Sp := fun vs H Q _ => ∃ a b c d p : Int, vs = [.int a, .int b, .int c, .int d, .int p] ∧ Fine a b c d p ∧ Q (.bl (isby a b c d p)) H
theorem dec_int (x y : Int) : decide (V.int x = V.int y) = decide (x = y) := by
  by_cases h : x = y
  · rw [decide_eq_true h, decide_eq_true (congrArg V.int h)]
  · rw [decide_eq_false h, decide_eq_false (fun z => h (V.int.inj z))]
theorem ok_is_by_power (T : Txt K mg) : FnOk P w K mg base CX0 4 T.f_is_by_power.a T.f_is_by_power.fd ["a", "b", "c", "d", "power"] spIsByPower := by
  have G_whole_sum := ok_whole_sum (P := P) (w := w) (base := base) T
  refine T.f_is_by_power.F.ok sc_is_by_power (fun vs H Q E h => ?_) (fun cdv A outer s H vs Q E hr h => ?_)
  · obtain ⟨a, b, c, d, p, rfl, _⟩ := h
    rfl
  · obtain ⟨a, b, c, d, p, rfl, F, q⟩ := h
    refine ⟨_, (pss_cons (ps_if (pt_cmpR op_eq (pv 4) pe_int (nomark _)) (pss_one (ps_ret (pe_cmpR op_eq (pe_op op_mul (pv 0) (pv 3)) (pe_op op_mul (pv 1) (pv 2)) (nomark _)))) pss_nil) (pss_one (ps_ret (pe_cmpR op_eq (pe_call G_whole_sum (hr.mono (by decide)) (by rfl) T.f_whole_sum.g T.f_whole_sum.F.kp T.f_whole_sum.b .nil pass0 (pa_cons (pv 0) (pa_cons (pv 1) (pa_cons (pv 2) (pa_cons (pv 3) (pa_cons (pv 4) pa_nil)))))) pe_int (nomark _))))), ?_⟩
    refine ⟨_, rfl, rfl, _, rfl, ite2 (fun e => ?_) (fun e => ?_)⟩
    · have hp : p = 0 := V.int.inj (of_decide_eq_true e)
      unfold isby at q
      rw [if_pos hp, ← dec_int] at q
      have l1 := fun {x y : Int} (hx : 1 ≤ x ∧ x ≤ 1000000) => (.inl (lim ⟨hx.1, by omega⟩) : CMul x y)
      exact ⟨_, rfl, _, rfl, _, _, rfl, rfl, l1 F.a, _, rfl, _, rfl, _, _, rfl, rfl, l1 F.b, rfl, q⟩
    · have hp : ¬ p = 0 := fun h => e (decide_eq_true (congrArg V.int h))
      unfold isby at q
      rw [if_neg hp, ← dec_int] at q
      exact ⟨_, rfl, _, rfl, _, rfl, _, rfl, _, rfl, a, b, c, d, p, rfl, F, rfl, q⟩
end
end Q

namespace Q
open PySem PySem.Spec PyProof.Rows L2
section
variable {P : Program} {w : World} {K : PySem.W.Frag} {mg : Str → Option Value} {base : Heap}
/-! ### heaps -/
theorem same_upd {H : Hp} {p : Addr} {o : HO} (h : H p = none) : Same H (upd H p o) := fun b x e => by
  rw [upd_ne (ne_of_none e h)]
  exact e
theorem Same.seqT {K : PySem.W.Frag} {H H' : Hp} {a : Addr} {xs : List V} (e : Same H H') (h : SqT K H a xs) : SqT K H' a xs := by
  rcases h with (h | ⟨o, h⟩) | h
  · exact .inl (.inl (e _ _ h))
  · exact .inl (.inr ⟨o, e _ _ h⟩)
  · exact .inr h
theorem sz2 {a b : V} : [a, b].length ≤ sizeLine := by show 2 ≤ sizeLine; decide
theorem sz3 {a b c : V} : [a, b, c].length ≤ sizeLine := by show 3 ≤ sizeLine; decide
theorem sz4 {a b c d : V} : [a, b, c, d].length ≤ sizeLine := by show 4 ≤ sizeLine; decide
theorem sz5 {a b c d e : V} : [a, b, c, d, e].length ≤ sizeLine := by show 5 ≤ sizeLine; decide
theorem q1 : (0 : Int) < 2147483587 := by decide
theorem q2 : (0 : Int) < 2147483647 := by decide
theorem q3 : (0 : Int) < 2147483549 := by decide
/-! ### the program's answers -/
theorem named4 {K : PySem.W.Frag} {H : Hp} {t1 t2 t3 t4 l : Addr} {p1 p2 p3 p4 : Str} {a b c d m : Int} (h1 : H t1 = none) (h2 : upd H t1 (.tup [.str p1, .int a]) t2 = none)
    (h3 : upd (upd H t1 (.tup [.str p1, .int a])) t2 (.tup [.str p2, .int b]) t3 = none) (h4 : upd (upd (upd H t1 (.tup [.str p1, .int a])) t2 (.tup [.str p2, .int b])) t3 (.tup [.str p3, .int c]) t4 = none)
    (h5 : upd (upd (upd (upd H t1 (.tup [.str p1, .int a])) t2 (.tup [.str p2, .int b])) t3 (.tup [.str p3, .int c])) t4 (.tup [.str p4, .int d]) l = none)
    (ha : 1 ≤ a ∧ a ≤ m) (hb : 1 ≤ b ∧ b ≤ m) (hc : 1 ≤ c ∧ c ≤ m) (hd : 1 ≤ d ∧ d ≤ m) {o : HO} :
    Same H (upd (upd (upd (upd (upd H t1 (.tup [.str p1, .int a])) t2 (.tup [.str p2, .int b])) t3 (.tup [.str p3, .int c])) t4 (.tup [.str p4, .int d])) l o) ∧
    ∀ x ∈ [V.ref t1, .ref t2, .ref t3, .ref t4], Named K (upd (upd (upd (upd (upd H t1 (.tup [.str p1, .int a])) t2 (.tup [.str p2, .int b])) t3 (.tup [.str p3, .int c])) t4 (.tup [.str p4, .int d])) l o) m x := by
  have s1 := same_upd (o := .tup [.str p1, .int a]) h1
  have s2 := same_upd (o := .tup [.str p2, .int b]) h2
  have s3 := same_upd (o := .tup [.str p3, .int c]) h3
  have s4 := same_upd (o := .tup [.str p4, .int d]) h4
  have s5 := same_upd (o := o) h5
  refine ⟨s1.trans (s2.trans (s3.trans (s4.trans s5))), fun x hx => ?_⟩
  simp only [List.mem_cons, List.not_mem_nil, or_false] at hx
  rcases hx with rfl | rfl | rfl | rfl
  · exact ⟨_, _, _, rfl, .of (s5 _ _ (s4 _ _ (s3 _ _ (s2 _ _ upd_same)))), ha⟩
  · exact ⟨_, _, _, rfl, .of (s5 _ _ (s4 _ _ (s3 _ _ upd_same))), hb⟩
  · exact ⟨_, _, _, rfl, .of (s5 _ _ (s4 _ _ upd_same)), hc⟩
  · exact ⟨_, _, _, rfl, .of (s5 _ _ upd_same), hd⟩
def spIsBy : Sp := fun vs H Q _ => ∃ a b c d p : Int, vs = [.int a, .int b, .int c, .int d, .int p] ∧ Fine a b c d p ∧ ∀ H', Same H H' → Q (.bl (isby a b c d p)) H'
theorem ok_is_by (T : Txt K mg) : FnOk P w K mg base CX0 5 T.f_is_by.a T.f_is_by.fd ["a", "b", "c", "d", "power"] spIsBy := by
  have G_need_numbers := ok_need_numbers (P := P) (w := w) (base := base) T
  have G_need_power := ok_need_power (P := P) (w := w) (base := base) T
  have G_is_by_power := ok_is_by_power (P := P) (w := w) (base := base) T
  refine T.f_is_by.F.ok sc_is_by (fun vs H Q E h => ?_) (fun cdv A outer s H vs Q E hr h => ?_)
  · obtain ⟨a, b, c, d, p, rfl, _⟩ := h
    rfl
  · obtain ⟨a, b, c, d, p, rfl, F, q⟩ := h
    refine ⟨_, (pss_cons (ps_expr (pe_call G_need_numbers (hr.mono (by decide)) (by rfl) T.f_need_numbers.g T.f_need_numbers.F.kp T.f_need_numbers.b .nil pass0 (pa_cons (pe_lst (pa_cons (pe_tup (pa_cons pe_str (pa_cons (pv 0) pa_nil))) (pa_cons (pe_tup (pa_cons pe_str (pa_cons (pv 1) pa_nil))) (pa_cons (pe_tup (pa_cons pe_str (pa_cons (pv 2) pa_nil))) (pa_cons (pe_tup (pa_cons pe_str (pa_cons (pv 3) pa_nil))) pa_nil))))) (pa_cons (pe_glob (v := .int (1000000)) rfl T.c_MOST_NUMBER ⟨_, rfl⟩) pa_nil)))) (pss_cons (ps_expr (pe_call G_need_power (hr.mono (by decide)) (by rfl) T.f_need_power.g T.f_need_power.F.kp T.f_need_power.b .nil pass0 (pa_cons (pv 4) pa_nil))) (pss_one (ps_ret (pe_call G_is_by_power (hr.mono (by decide)) (by rfl) T.f_is_by_power.g T.f_is_by_power.F.kp T.f_is_by_power.b .nil pass0 (pa_cons (pv 0) (pa_cons (pv 1) (pa_cons (pv 2) (pa_cons (pv 3) (pa_cons (pv 4) pa_nil)))))))))), ?_⟩
    refine ⟨_, rfl, sz2, fun t1 h1 => ⟨_, rfl, sz2, fun t2 h2 => ⟨_, rfl, sz2, fun t3 h3 => ⟨_, rfl, sz2, fun t4 h4 => ⟨sz4, fun l h5 => ?_⟩⟩⟩⟩⟩
    obtain ⟨sm, nm⟩ := named4 (K := K) h1 h2 h3 h4 h5 F.a F.b F.c F.d (o := .lst [.ref t1, .ref t2, .ref t3, .ref t4])
    refine ⟨l, _, _, rfl, .of upd_same, nm, ?_⟩
    refine ⟨_, rfl, p, rfl, F.p.1, F.p.2, ?_⟩
    exact ⟨_, rfl, _, rfl, _, rfl, _, rfl, _, rfl, a, b, c, d, p, rfl, F, q _ sm⟩
/-- the sign of a whole number -/
def sgn (x : Int) : Int := if x = 0 then 0 else if 0 < x then 1 else -1
/-! ### the law's hat: the numbers from which all is drawn -/
def hatL (c : Addr) (t : Nat) (g : Int) : List V := [.ref c, .int (t : Int), .int g]
structure HatAt (H : Hp) (a c : Addr) (ns : List Int) (t : Nat) (g : Int) : Prop where
  h : H a = some (.lst (hatL c t g))
  c : H c = some (.lst (ns.map V.int))
  l : ns.length ≤ 60
def Hat (H : Hp) (a c : Addr) (n : Nat) : Prop := ∃ (ns : List Int) (t : Nat) (g : Int), HatAt H a c ns t g ∧ t ≤ n
theorem HatAt.ne {H : Hp} {a c : Addr} {ns : List Int} {t : Nat} {g : Int} (h : HatAt H a c ns t g) : c ≠ a := ne_of h.c h.h (fun z => by
  have z2 : ns.map V.int = hatL c t g := HO.lst.inj z
  cases ns with
  | nil => cases z2
  | cons x r =>
    have z3 : V.int x = V.ref c := (List.cons.inj z2).1
    cases z3)
/-- all stands as it stood, but what is at a -/
def But (a : Addr) (H H' : Hp) : Prop := ∀ b o, H b = some o → b ≠ a → H' b = some o
theorem But.refl (a : Addr) (H : Hp) : But a H H := fun _ _ e _ => e
theorem But.trans {a : Addr} {H H1 H2 : Hp} (x : But a H H1) (y : But a H1 H2) : But a H H2 := fun b o e n => y b o (x b o e n) n
theorem But.of {a : Addr} {H H' : Hp} (x : Same H H') : But a H H' := fun b o e _ => x b o e
theorem But.free {a c : Addr} {H H' : Hp} {n : Nat} (x : But a H H') (y : Hat H' a c n) {l : Addr} (h : H' l = none) : H l = none := by
  cases q : H l with
  | none => rfl
  | some o =>
    by_cases e : l = a
    · obtain ⟨ns, t, g, z, _⟩ := y
      rw [e, z.h] at h
      cases h
    · rw [x l o q e] at h
      cases h
theorem Hat.same {H H' : Hp} {a c : Addr} {n : Nat} (h : Hat H a c n) (s : Same H H') : Hat H' a c n := by
  obtain ⟨ns, t, g, ⟨h1, h2, h3⟩, z⟩ := h
  exact ⟨ns, t, g, ⟨s _ _ h1, s _ _ h2, h3⟩, z⟩
theorem Hat.mono {H : Hp} {a c : Addr} {n m : Nat} (h : Hat H a c n) (l : n ≤ m) : Hat H a c m := by
  obtain ⟨ns, t, g, x, z⟩ := h
  exact ⟨ns, t, g, x, by omega⟩
theorem HatAt.put {H : Hp} {a c : Addr} {ns : List Int} {t : Nat} {g : Int} (h : HatAt H a c ns t g) (t' : Nat) (g' : Int) : HatAt (upd H a (.lst (hatL c t' g'))) a c ns t' g' ∧ But a H (upd H a (.lst (hatL c t' g'))) :=
  ⟨⟨upd_same, by rw [upd_ne h.ne]; exact h.c, h.l⟩, fun b o e n => by rw [upd_ne n]; exact e⟩
theorem HatAt.new {H : Hp} {a c p : Addr} {ns : List Int} {t : Nat} {g : Int} {o : HO} (h : HatAt H a c ns t g) (hp : H p = none) : HatAt (upd H p o) a c ns t g :=
  ⟨same_upd hp _ _ h.h, same_upd hp _ _ h.c, h.l⟩
def spLot : Sp := fun vs H Q _ => ∃ (a c : Addr) (n : Nat) (m : Int), vs = [.ref a, .int m] ∧ Hat H a c n ∧ n ≤ 1000000 ∧ 0 < m ∧ m < 1073741824 ∧ ∀ (d : Int) (H' : Hp), 0 ≤ d → d < m → Hat H' a c (n + 1) → But a H H' → Q (.int d) H'
theorem at_map {ns : List Int} {k : Nat} (h : k < ns.length) : atI (ns.map V.int) (k : Int) = some (.int ns[k]) := atI_nat (by rw [List.getElem?_map, List.getElem?_eq_getElem h]; rfl)
theorem dpall (K : PySem.W.Frag) (H : Hp) : ∀ ns : List Int, DpAll K H (ns.map V.int) (ns.map PyData.int)
  | [] => .nil
  | _ :: r => .cons (.int _) (dpall K H r)
theorem ok__law_lot (T : Txt K mg) : FnOk P w K mg base CX0 1 T.f__law_lot.a T.f__law_lot.fd ["_law_hat_here", "_law_many"] spLot := by
  refine T.f__law_lot.F.ok sc__law_lot (fun vs H Q E h => ?_) (fun cdv A outer s H vs Q E hr h => ?_)
  · obtain ⟨a, c, n, m, rfl, _⟩ := h
    rfl
  · obtain ⟨a, c, n, m, rfl, ⟨ns, t, g, hh, ht⟩, hn, h0, h1, q⟩ := h
    refine ⟨_, (pss_cons (ps_if (pt_cmpR op_gt (pe_ix ix_list (pv 0) pe_int (fun _ _ => rfl)) pe_int (nomark _)) (pss_cons (ps_set (i := 2) sc__law_lot.nd rfl (Or.inl rfl) (pe_op op_mod (pe_callTy call_int1 (by rfl) T.n_int (by decide +kernel) (pa_cons (pe_ix ix_list (pv 0) pe_int (fun _ _ => rfl)) pa_nil)) (pv 1))) (pss_cons (ps_asg (pe_op op_fdiv (pe_callTy call_int1 (by rfl) T.n_int (by decide +kernel) (pa_cons (pe_ix ix_list (pv 0) pe_int (fun _ _ => rfl)) pa_nil)) (pv 1)) (pg_sub (pv 0) pe_int set_list (fun _ => rfl))) (pss_one (ps_ret (pv 2))))) pss_nil) (pss_cons (ps_set (i := 3) sc__law_lot.nd rfl (Or.inl rfl) (pe_ix ix_list (pv 0) pe_int (fun _ _ => rfl))) (pss_cons (ps_asg (pe_op op_add (pv 3) pe_int) (pg_sub (pv 0) pe_int set_list (fun _ => rfl))) (pss_cons (ps_set (i := 4) sc__law_lot.nd rfl (Or.inl rfl) (pe_op op_add (pe_op op_mul pe_int (pv 3)) pe_int)) (pss_cons (ps_if (pt_cmpR (op_neD hr.units) (pe_ix ix_list (pv 0) pe_int (fun _ _ => rfl)) (pe_lst pa_nil) (nomark _)) (pss_one (ps_set (i := 4) sc__law_lot.nd rfl (Or.inl rfl) (pe_ix ix_list (pe_ix ix_list (pv 0) pe_int (fun _ _ => rfl)) (pe_op op_mod (pe_callTy call_int1 (by rfl) T.n_int (by decide +kernel) (pa_cons (pv 3) pa_nil)) (pe_callB call_len_seq (by rfl) T.n_len (by decide +kernel) (pa_cons (pe_ix ix_list (pv 0) pe_int (fun _ _ => rfl)) pa_nil))) (fun _ _ => rfl)))) pss_nil) (pss_cons (ps_if (PW.pt (pw_and (pt_cmpR op_lt (pv 3) (pe_callB call_len_seq (by rfl) T.n_len (by decide +kernel) (pa_cons (pe_ix ix_list (pv 0) pe_int (fun _ _ => rfl)) pa_nil)) (nomark _)) (pw_and1 (pt_cmpR op_ge (pe_callB call_abs (by rfl) T.n_abs (by decide +kernel) (pa_cons (pv 4) pa_nil)) (pe_op op_pow pe_int pe_int) (nomark _))))) (pss_cons (ps_set (i := 5) sc__law_lot.nd rfl (Or.inl rfl) (pe_op op_add (pe_op op_mul pe_int (pe_op op_sub (pe_callB call_abs (by rfl) T.n_abs (by decide +kernel) (pa_cons (pv 4) pa_nil)) (pe_op op_pow pe_int pe_int))) (pe_callTy call_int1 (by rfl) T.n_int (by decide +kernel) (pa_cons (pe_cmpR op_lt (pv 4) pe_int (nomark _)) pa_nil)))) (pss_cons (ps_asg (pe_op op_fdiv (pe_callTy call_int1 (by rfl) T.n_int (by decide +kernel) (pa_cons (pv 5) pa_nil)) (pv 1)) (pg_sub (pv 0) pe_int set_list (fun _ => rfl))) (pss_one (ps_ret (pe_op op_mod (pe_callTy call_int1 (by rfl) T.n_int (by decide +kernel) (pa_cons (pv 5) pa_nil)) (pv 1)))))) pss_nil) (pss_cons (ps_set (i := 6) sc__law_lot.nd rfl (Or.inl rfl) (pe_op op_mod (pe_callTy call_int1 (by rfl) T.n_int (by decide +kernel) (pa_cons (pe_op op_pow (pe_op op_add (pe_op op_add (pe_op op_mod (pe_callTy call_int1 (by rfl) T.n_int (by decide +kernel) (pa_cons (pv 4) pa_nil)) pe_int) (pe_op op_mul pe_int (pv 3))) pe_int) pe_int) pa_nil)) pe_int)) (pss_cons (ps_set (i := 6) sc__law_lot.nd rfl (Or.inl rfl) (pe_op op_mod (pe_callTy call_int1 (by rfl) T.n_int (by decide +kernel) (pa_cons (pe_op op_pow (pe_op op_add (pe_op op_add (pe_op op_mul (pv 6) (pe_op op_add (pe_op op_mul pe_int (pv 3)) pe_int)) (pe_op op_mul (pe_op op_mul pe_int (pv 3)) (pv 3))) pe_int) pe_int) pa_nil)) pe_int)) (pss_one (ps_ret (pe_op op_mod (pe_callTy call_int1 (by rfl) T.n_int (by decide +kernel) (pa_cons (pe_op op_fdiv (pv 6) pe_int) pa_nil)) (pv 1)))))))))))), ?_⟩
    -- if hat[2] > 0
    refine ⟨_, rfl, a, _, 2, _, rfl, rfl, SqL.of hh.h, atI_nat (j := 2) rfl, _, _, rfl, rfl, _, rfl, ite2 (fun e => ?_) (fun e => ?_)⟩
    · refine ⟨_, rfl, a, _, 2, _, rfl, rfl, SqL.of hh.h, atI_nat (j := 2) rfl, .inl ⟨_, rfl, _, rfl, _, _, rfl, rfl, h0, ?_⟩⟩
      refine ⟨_, rfl, a, _, 2, _, rfl, rfl, SqL.of hh.h, atI_nat (j := 2) rfl, .inl ⟨_, rfl, _, rfl, _, _, rfl, rfl, ⟨h0, h1⟩, ?_⟩⟩
      refine ⟨_, rfl, a, _, 2, 2, rfl, rfl, hh.h, rfl, ?_⟩
      refine ⟨_, rfl, ?_⟩
      obtain ⟨z1, z2⟩ := hh.put t (g / m)
      exact q _ _ (Int.emod_nonneg _ (by omega)) (Int.emod_lt_of_pos _ h0) ⟨ns, t, _, z1, by omega⟩ z2
    · -- at = hat[1]; hat[1] = at + 1; cell = ..
      refine ⟨_, rfl, a, _, 1, _, rfl, rfl, SqL.of hh.h, atI_nat (j := 1) rfl, ?_⟩
      refine ⟨_, rfl, _, _, rfl, rfl, _, rfl, a, _, 1, 1, rfl, rfl, hh.h, rfl, ?_⟩
      refine ⟨_, rfl, _, _, rfl, rfl, .inl ⟨by decide, by decide⟩, _, _, rfl, rfl, ?_⟩
      obtain ⟨z1, z2⟩ := hh.put (t + 1) g
      -- if hat[0] != []
      refine ⟨_, rfl, a, _, 0, _, rfl, rfl, SqL.of z1.h, atI_nat (j := 0) rfl, Nat.zero_le _, fun p hp => ?_⟩
      have z3 := z1.new (o := .lst []) hp
      have z4 : But a H (upd (upd H a (.lst (hatL c (t + 1) g))) p (.lst [])) := z2.trans (.of (same_upd hp))
      generalize hH2 : upd (upd H a (.lst (hatL c (t + 1) g))) p (.lst []) = H2 at z3 z4
      have hH2' : upd (upd H a (HO.lst (List.set (hatL c t g) 1 (V.int ((t : Int) + 1))))) p (HO.lst []) = H2 := hH2
      rw [hH2']
      have hp2 : H2 p = some (.lst []) := by
        rw [← hH2]
        exact upd_same
      refine ⟨.list (ns.map PyData.int), .list [], .lst (SqL.of z3.c) (dpall K H2 ns), .lst (SqL.of hp2) .nil, PySem.W.ke_shaped_ints ns, by decide +kernel, _, rfl, ?_⟩
      have hb1 : ∀ x : Int, (x % 2147483587 + 78007 * (t : Int) + 9817).natAbs < 2 ^ 64 := fun x => by
        have a1 := Int.emod_nonneg x (show (2147483587 : Int) ≠ 0 by decide)
        have a2 := Int.emod_lt_of_pos x (show (0 : Int) < 2147483587 by decide)
        omega
      have hm : ∀ x : Int, -(2 ^ 64) < x % 2147483647 ∧ x % 2147483647 < 2 ^ 64 := fun x => by
        have a1 := Int.emod_nonneg x (show (2147483647 : Int) ≠ 0 by decide)
        have a2 := Int.emod_lt_of_pos x (show (0 : Int) < 2147483647 by decide)
        omega
      have htl : -(2 ^ 64) < (t : Int) ∧ (t : Int) < 2 ^ 64 := by omega
      have hb2 : ∀ x : Int, (x % 2147483647 * (2 * (t : Int) + 1993) + 71011 * (t : Int) * (t : Int) + 78031).natAbs < 2 ^ 64 := fun x => by
        have a1 := Int.emod_nonneg x (show (2147483647 : Int) ≠ 0 by decide)
        have a2 := Int.emod_lt_of_pos x (show (0 : Int) < 2147483647 by decide)
        generalize x % 2147483647 = y at a1 a2
        have b1 : y * (2 * (t : Int) + 1993) ≤ 2147483647 * (2 * (t : Int) + 1993) := Int.mul_le_mul_of_nonneg_right (by omega) (by omega)
        have b2 : 0 ≤ y * (2 * (t : Int) + 1993) := Int.mul_nonneg a1 (by omega)
        have b3 : 71011 * (t : Int) * (t : Int) ≤ 71011 * 1000000 * (t : Int) := Int.mul_le_mul_of_nonneg_right (by omega) (by omega)
        have b4 : 0 ≤ 71011 * (t : Int) * (t : Int) := Int.mul_nonneg (by omega) (by omega)
        generalize y * (2 * (t : Int) + 1993) = z at b1 b2
        generalize 71011 * (t : Int) * (t : Int) = u at b3 b4
        omega
      have fin : ∀ (d : Int) (t' : Nat) (g' : Int) (H3 : Hp), 0 ≤ d → d < m → HatAt H3 a c ns t' g' → t' ≤ t + 1 → But a H H3 → Q (.int d) H3 := fun d t' g' H3 d0 d1 z ht' bb => q d H3 d0 d1 ⟨ns, t', g', z, by omega⟩ bb
      have md : ∀ x : Int, 0 ≤ x % m ∧ x % m < m := fun x => ⟨Int.emod_nonneg _ (by omega), Int.emod_lt_of_pos _ h0⟩
      refine ite2 (fun e1 => ?_) (fun e1 => ?_)
      · have hl : 0 < ns.length := by
          cases ns with
          | nil => exact absurd e1 (by decide)
          | cons x r => exact Nat.succ_pos _
        have hk : t % ns.length < ns.length := Nat.mod_lt _ hl
        have ek : ((t % ns.length : Nat) : Int) = (t : Int) % (ns.length : Int) := Int.natCast_emod t ns.length
        have hat : atI (ns.map V.int) ((t : Int) % (ns.length : Int)) = some (.int ns[t % ns.length]) := by
          rw [← ek]
          exact at_map hk
        have hlm : ((ns.map V.int).length : Int) = (ns.length : Int) := by rw [List.length_map]
        have hpos : (0 : Int) < ((ns.map V.int).length : Int) := by
          rw [hlm]
          omega
        have hat2 : atI (ns.map V.int) ((t : Int) % ((ns.map V.int).length : Int)) = some (.int ns[t % ns.length]) := by
          rw [hlm]
          exact hat
        -- cell = hat[0][int(at) % len(hat[0])]
        refine ⟨_, rfl, a, _, 0, _, rfl, rfl, SqL.of z3.h, atI_nat (j := 0) rfl, _, rfl, .inl ⟨_, rfl, _, rfl, a, _, 0, _, rfl, rfl, SqL.of z3.h, atI_nat (j := 0) rfl, c, _, rfl, .inl (SqL.of z3.c), _, _, rfl, rfl, hpos, c, _, _, _, rfl, rfl, SqL.of z3.c, hat2, ?_⟩⟩
        generalize ns[t % ns.length] = cell
        -- if at < len(hat[0]) and abs(cell) >= 10 ** 18
        refine ⟨_, rfl, _, rfl, a, _, 0, _, rfl, rfl, SqL.of z3.h, atI_nat (j := 0) rfl, c, _, rfl, .inl (SqL.of z3.c), _, _, rfl, rfl, _, rfl, ite2 (fun e2 => ?_) (fun e2 => ?_)⟩
        · refine ⟨_, rfl, _, rfl, _, _, rfl, rfl, ⟨by decide, by decide, by decide⟩, _, _, rfl, rfl, _, rfl, ite2 (fun e3 => ?_) (fun e3 => ?_)⟩
          · -- great
            refine ⟨_, rfl, _, rfl, _, _, rfl, rfl, ⟨by decide, by decide, by decide⟩, _, _, rfl, rfl, _, _, rfl, rfl, .inl ⟨by decide, by decide⟩, _, rfl, _, _, rfl, rfl, .inr ⟨_, rfl, _, _, rfl, rfl, ?_⟩⟩
            refine ⟨_, rfl, .inl ⟨_, rfl, _, rfl, _, _, rfl, rfl, ⟨h0, h1⟩, ?_⟩⟩
            refine ⟨_, rfl, a, _, 2, 2, rfl, rfl, z3.h, rfl, ?_⟩
            refine ⟨_, rfl, .inl ⟨_, rfl, _, rfl, _, _, rfl, rfl, h0, ?_⟩⟩
            obtain ⟨y1, y2⟩ := z3.put (t + 1) _
            exact fin _ (t + 1) _ _ (md _).1 (md _).2 y1 (Nat.le_refl _) (z4.trans y2)
          · refine ⟨_, rfl, .inl ⟨_, rfl, _, _, rfl, rfl, q1, _, rfl, _, _, rfl, rfl, .inl ⟨by decide, by decide⟩, _, _, rfl, rfl, _, _, rfl, rfl, _, _, rfl, rfl, ⟨by decide, by decide, hb1 _⟩, .inl ⟨_, rfl, _, _, rfl, rfl, q2, ?_⟩⟩⟩
            refine ⟨_, rfl, _, rfl, _, _, rfl, rfl, .inl ⟨by decide, by decide⟩, _, _, rfl, rfl, _, _, rfl, rfl, .inl (hm _), _, rfl, _, _, rfl, rfl, .inl ⟨by decide, by decide⟩, _, rfl, _, _, rfl, rfl, .inr htl, _, _, rfl, rfl, _, _, rfl, rfl, _, _, rfl, rfl, ⟨by decide, by decide, hb2 _⟩, .inl ⟨_, rfl, _, _, rfl, rfl, q3, ?_⟩⟩
            refine ⟨_, rfl, _, _, rfl, rfl, ⟨by decide, by decide⟩, .inl ⟨_, rfl, _, rfl, _, _, rfl, rfl, h0, ?_⟩⟩
            exact fin _ (t + 1) g _ (md _).1 (md _).2 z3 (Nat.le_refl _) z4
        · refine iteF ?_
          refine ⟨_, rfl, .inl ⟨_, rfl, _, _, rfl, rfl, q1, _, rfl, _, _, rfl, rfl, .inl ⟨by decide, by decide⟩, _, _, rfl, rfl, _, _, rfl, rfl, _, _, rfl, rfl, ⟨by decide, by decide, hb1 _⟩, .inl ⟨_, rfl, _, _, rfl, rfl, q2, ?_⟩⟩⟩
          refine ⟨_, rfl, _, rfl, _, _, rfl, rfl, .inl ⟨by decide, by decide⟩, _, _, rfl, rfl, _, _, rfl, rfl, .inl (hm _), _, rfl, _, _, rfl, rfl, .inl ⟨by decide, by decide⟩, _, rfl, _, _, rfl, rfl, .inr htl, _, _, rfl, rfl, _, _, rfl, rfl, _, _, rfl, rfl, ⟨by decide, by decide, hb2 _⟩, .inl ⟨_, rfl, _, _, rfl, rfl, q3, ?_⟩⟩
          refine ⟨_, rfl, _, _, rfl, rfl, ⟨by decide, by decide⟩, .inl ⟨_, rfl, _, rfl, _, _, rfl, rfl, h0, ?_⟩⟩
          exact fin _ (t + 1) g _ (md _).1 (md _).2 z3 (Nat.le_refl _) z4
      · generalize 71011 * (t : Int) + 9817 = cell
        -- if at < len(hat[0]) and abs(cell) >= 10 ** 18
        refine ⟨_, rfl, _, rfl, a, _, 0, _, rfl, rfl, SqL.of z3.h, atI_nat (j := 0) rfl, c, _, rfl, .inl (SqL.of z3.c), _, _, rfl, rfl, _, rfl, ite2 (fun e2 => ?_) (fun e2 => ?_)⟩
        · refine ⟨_, rfl, _, rfl, _, _, rfl, rfl, ⟨by decide, by decide, by decide⟩, _, _, rfl, rfl, _, rfl, ite2 (fun e3 => ?_) (fun e3 => ?_)⟩
          · -- great
            refine ⟨_, rfl, _, rfl, _, _, rfl, rfl, ⟨by decide, by decide, by decide⟩, _, _, rfl, rfl, _, _, rfl, rfl, .inl ⟨by decide, by decide⟩, _, rfl, _, _, rfl, rfl, .inr ⟨_, rfl, _, _, rfl, rfl, ?_⟩⟩
            refine ⟨_, rfl, .inl ⟨_, rfl, _, rfl, _, _, rfl, rfl, ⟨h0, h1⟩, ?_⟩⟩
            refine ⟨_, rfl, a, _, 2, 2, rfl, rfl, z3.h, rfl, ?_⟩
            refine ⟨_, rfl, .inl ⟨_, rfl, _, rfl, _, _, rfl, rfl, h0, ?_⟩⟩
            obtain ⟨y1, y2⟩ := z3.put (t + 1) _
            exact fin _ (t + 1) _ _ (md _).1 (md _).2 y1 (Nat.le_refl _) (z4.trans y2)
          · refine ⟨_, rfl, .inl ⟨_, rfl, _, _, rfl, rfl, q1, _, rfl, _, _, rfl, rfl, .inl ⟨by decide, by decide⟩, _, _, rfl, rfl, _, _, rfl, rfl, _, _, rfl, rfl, ⟨by decide, by decide, hb1 _⟩, .inl ⟨_, rfl, _, _, rfl, rfl, q2, ?_⟩⟩⟩
            refine ⟨_, rfl, _, rfl, _, _, rfl, rfl, .inl ⟨by decide, by decide⟩, _, _, rfl, rfl, _, _, rfl, rfl, .inl (hm _), _, rfl, _, _, rfl, rfl, .inl ⟨by decide, by decide⟩, _, rfl, _, _, rfl, rfl, .inr htl, _, _, rfl, rfl, _, _, rfl, rfl, _, _, rfl, rfl, ⟨by decide, by decide, hb2 _⟩, .inl ⟨_, rfl, _, _, rfl, rfl, q3, ?_⟩⟩
            refine ⟨_, rfl, _, _, rfl, rfl, ⟨by decide, by decide⟩, .inl ⟨_, rfl, _, rfl, _, _, rfl, rfl, h0, ?_⟩⟩
            exact fin _ (t + 1) g _ (md _).1 (md _).2 z3 (Nat.le_refl _) z4
        · refine iteF ?_
          refine ⟨_, rfl, .inl ⟨_, rfl, _, _, rfl, rfl, q1, _, rfl, _, _, rfl, rfl, .inl ⟨by decide, by decide⟩, _, _, rfl, rfl, _, _, rfl, rfl, _, _, rfl, rfl, ⟨by decide, by decide, hb1 _⟩, .inl ⟨_, rfl, _, _, rfl, rfl, q2, ?_⟩⟩⟩
          refine ⟨_, rfl, _, rfl, _, _, rfl, rfl, .inl ⟨by decide, by decide⟩, _, _, rfl, rfl, _, _, rfl, rfl, .inl (hm _), _, rfl, _, _, rfl, rfl, .inl ⟨by decide, by decide⟩, _, rfl, _, _, rfl, rfl, .inr htl, _, _, rfl, rfl, _, _, rfl, rfl, _, _, rfl, rfl, ⟨by decide, by decide, hb2 _⟩, .inl ⟨_, rfl, _, _, rfl, rfl, q3, ?_⟩⟩
          refine ⟨_, rfl, _, _, rfl, rfl, ⟨by decide, by decide⟩, .inl ⟨_, rfl, _, rfl, _, _, rfl, rfl, h0, ?_⟩⟩
          exact fin _ (t + 1) g _ (md _).1 (md _).2 z3 (Nat.le_refl _) z4
end
end Q

namespace Q
open PySem PySem.Spec PyProof.Rows L2
section
variable {P : Program} {w : World} {K : PySem.W.Frag} {mg : Str → Option Value} {base : Heap}
theorem But.seq {K : PySem.W.Frag} {H H' : Hp} {a l : Addr} {xs : List V} (e : But a H H') (n : l ≠ a) (h : SqL K H l xs) : SqL K H' l xs := by
  rcases h with (h | ⟨o, h⟩) | h
  · exact .inl (.inl (e _ _ h n))
  · exact .inl (.inr ⟨o, e _ _ h n⟩)
  · exact .inr h
theorem Hat.is_a {H : Hp} {a c : Addr} {n : Nat} (h : Hat H a c n) : ∃ o, H a = some o := by
  obtain ⟨ns, t, g, z, _⟩ := h
  exact ⟨_, z.h⟩
theorem Hat.is_c {H : Hp} {a c : Addr} {n : Nat} (h : Hat H a c n) : ∃ o, H c = some o := by
  obtain ⟨ns, t, g, z, _⟩ := h
  exact ⟨_, z.c⟩
theorem Hat.neA {H : Hp} {a c l : Addr} {n : Nat} (h : Hat H a c n) (f : H l = none) : l ≠ a := fun e => by
  obtain ⟨o, z⟩ := h.is_a
  rw [e, z] at f
  cases f
theorem Hat.neC {H : Hp} {a c l : Addr} {n : Nat} (h : Hat H a c n) (f : H l = none) : l ≠ c := fun e => by
  obtain ⟨o, z⟩ := h.is_c
  rw [e, z] at f
  cases f
theorem Hat.upd {H : Hp} {a c l : Addr} {n : Nat} {o : HO} (h : Hat H a c n) (n1 : l ≠ a) (n2 : l ≠ c) : Hat (upd H l o) a c n := by
  obtain ⟨ns, t, g, ⟨h1, h2, h3⟩, z⟩ := h
  exact ⟨ns, t, g, ⟨by rw [upd_ne n1.symm]; exact h1, by rw [upd_ne n2.symm]; exact h2, h3⟩, z⟩
theorem cut60 (xs : List V) : cutV xs none (some 60) = xs.take 60 := by
  unfold cutV
  rw [show HT.sIx xs.length xs.length (some 60) = min 60 xs.length from HT.sIx_nat xs.length xs.length 60, HT.sIx_none]
  show List.take (min 60 xs.length - 0) xs = xs.take 60
  rw [Nat.sub_zero]
  by_cases h : 60 ≤ xs.length
  · rw [Nat.min_eq_left h]
  · rw [Nat.min_eq_right (by omega), List.take_length, List.take_of_length_le (by omega)]
def spHat (K : PySem.W.Frag) : Sp := fun vs H Q _ => ∃ (a : Addr) (ns : List Int), vs = [.ref a] ∧ SqL K H a (ns.map V.int) ∧ ns.length ≤ 63 ∧ ∀ (h c : Addr) (H' : Hp), Hat H' h c 0 → Same H H' → Q (.ref h) H'
theorem ok__law_hat (T : Txt K mg) : FnOk P w K mg base CX0 1 T.f__law_hat.a T.f__law_hat.fd ["_law_script"] (spHat K) := by
  refine T.f__law_hat.F.ok sc__law_hat (fun vs H Q E h => ?_) (fun cdv A outer s H vs Q E hr h => ?_)
  · obtain ⟨a, ns, rfl, _⟩ := h
    rfl
  · obtain ⟨a, ns, rfl, hS, hl, q⟩ := h
    refine ⟨_, (pss_one (ps_ret (pe_lst (pa_cons (pe_lc (own := [("_law_cell", 1)]) (by rfl) sc__law_hat.nd (pi_list (pe_slice sl_list (pv 0) po_none (po_some pe_int))) (blkOk_by (N := n__law_hat) (sc := defScope s__law_hat) (by decide +kernel)) (fun _ _ _ _ _ => (pg_name (i := 1) sc__law_hat.nd rfl (Or.inl rfl))) (fun _ _ _ _ _ => pts_nil) (fun _ _ _ _ _ => (pe_callTy call_int1 (by rfl) T.n_int (by decide +kernel) (pa_cons (pv 1) pa_nil)))) (pa_cons pe_int (pa_cons pe_int pa_nil)))))), ?_⟩
    refine ⟨_, rfl, 60, rfl, a, _, rfl, hS, fun p hp => ?_⟩
    have s1 := same_upd (o := .lst (cutV (ns.map V.int) none (some 60))) hp
    refine ⟨p, rfl, ⟨_, .of upd_same⟩, fun D hD => ?_⟩
    have ec : cutV (ns.map V.int) none (some 60) = (ns.take 60).map V.int := by rw [cut60, List.map_take]
    have hl60 : (ns.take 60).length ≤ 60 := by
      rw [List.length_take]
      exact Nat.min_le_left _ _
    generalize hm : ns.take 60 = ms at ec hl60
    rw [ec] at s1 hD ⊢
    have s2 := s1.trans (same_upd (o := .lst []) hD)
    refine lc_list (K := K) (a := p) (xs := ms.map V.int) (fun i H' => H' = upd (upd H p (.lst (ms.map V.int))) D (.lst ((ms.take i).map V.int))) rfl (fun i H' _ e => ?_) (fun i x H' hi e => ?_) (fun H' e => ?_)
    · subst e
      refine .of ?_
      rw [upd_ne (ne_of_none upd_same hD)]
      exact upd_same
    · subst e
      obtain ⟨z, hz, rfl⟩ : ∃ z, ms[i]? = some z ∧ x = V.int z := by
        rw [List.getElem?_map] at hi
        cases e : ms[i]? with
        | none =>
          rw [e] at hi
          cases hi
        | some z =>
          rw [e] at hi
          exact ⟨z, rfl, (Option.some.inj hi).symm⟩
      refine ⟨rfl, ?_⟩
      refine ⟨_, rfl, .inl ⟨_, rfl, _, upd_same, ?_, ?_⟩⟩
      · rw [List.length_map, List.length_take]
        exact Nat.lt_of_le_of_lt (Nat.min_le_right _ _) (small1000 (by omega))
      · rw [upd_upd, List.take_add_one, hz, List.map_append]
        rfl
    · subst e
      rw [List.length_map, List.take_length]
      refine ⟨sz3, fun l hl' => ?_⟩
      have s3 := same_upd (o := .lst [.ref D, .int 0, .int 0]) hl'
      have s4 := s1.trans ((same_upd (o := .lst (ms.map V.int)) hD).trans s3)
      exact q l D _ ⟨ms, 0, 0, ⟨upd_same, s3 _ _ upd_same, hl60⟩, Nat.le_refl _⟩ s4
def spOne (K : PySem.W.Frag) : Sp := fun vs H Q _ => ∃ (a c : Addr) (n : Nat) (l : Addr) (xs : List V), vs = [.ref a, .ref l] ∧ Hat H a c n ∧ n ≤ 1000000 ∧ SqL K H l xs ∧ l ≠ a ∧ 0 < xs.length ∧ xs.length ≤ 1000 ∧
  ∀ (v : V) (H' : Hp), v ∈ xs → Hat H' a c (n + 1) → But a H H' → Q v H'
theorem at_any {xs : List V} {d : Int} (h0 : 0 ≤ d) (h1 : d < (xs.length : Int)) : ∃ v, v ∈ xs ∧ atI xs d = some v := by
  obtain ⟨k, rfl⟩ : ∃ k : Nat, d = (k : Int) := ⟨d.toNat, by omega⟩
  have hk : k < xs.length := by omega
  exact ⟨xs[k], List.getElem_mem hk, atI_nat (List.getElem?_eq_getElem hk)⟩
theorem ok__law_one (T : Txt K mg) : FnOk P w K mg base CX0 2 T.f__law_one.a T.f__law_one.fd ["_law_hat_here", "_law_some"] (spOne K) := by
  have G__law_lot := ok__law_lot (P := P) (w := w) (base := base) T
  refine T.f__law_one.F.ok sc__law_one (fun vs H Q E h => ?_) (fun cdv A outer s H vs Q E hr h => ?_)
  · obtain ⟨a, c, n, l, xs, rfl, _⟩ := h
    rfl
  · obtain ⟨a, c, n, l, xs, rfl, hh, hn, hL, hne, hx0, hx1, q⟩ := h
    refine ⟨_, (pss_one (ps_ret (pe_ix ix_list (pv 1) (pe_call G__law_lot (hr.mono (by decide)) (by rfl) T.f__law_lot.g T.f__law_lot.F.kp T.f__law_lot.b .nil pass0 (pa_cons (pv 0) (pa_cons (pe_callB call_len_seq (by rfl) T.n_len (by decide +kernel) (pa_cons (pv 1) pa_nil)) pa_nil))) (fun _ _ => rfl)))), ?_⟩
    refine ⟨_, rfl, _, rfl, _, rfl, l, _, rfl, .inl hL, a, c, n, _, rfl, hh, hn, by omega, by omega, fun d H' d0 d1 hh' bb => ?_⟩
    obtain ⟨v, hv, ev⟩ := at_any d0 d1
    exact ⟨l, xs, d, v, rfl, rfl, bb.seq hne hL, ev, q v H' hv hh' bb⟩
end
end Q

namespace Q
open PySem PySem.Spec PyProof.Rows L2
section
variable {P : Program} {w : World} {K : PySem.W.Frag} {mg : Str → Option Value} {base : Heap}
theorem ipow_pos {x : Int} (h : 0 < x) : ∀ n : Nat, 0 < x ^ n
  | 0 => by rw [Int.pow_zero]; decide
  | n + 1 => by rw [Int.pow_succ]; exact Int.mul_pos (ipow_pos h n) h
theorem ipow_le {x y : Int} (h0 : 0 ≤ x) (h : x ≤ y) : ∀ n : Nat, x ^ n ≤ y ^ n
  | 0 => by rw [Int.pow_zero, Int.pow_zero]; exact Int.le_refl _
  | n + 1 => by
    rw [Int.pow_succ, Int.pow_succ]
    exact Int.mul_le_mul (ipow_le h0 h n) h h0 (Int.pow_nonneg (by omega))
theorem ipow_lt {x y : Int} (h0 : 0 ≤ x) (h : x < y) : ∀ n : Nat, x ^ (n + 1) < y ^ (n + 1)
  | 0 => by rw [Int.pow_succ, Int.pow_succ, Int.pow_zero, Int.pow_zero]; omega
  | n + 1 => by
    rw [Int.pow_succ x (n + 1), Int.pow_succ y (n + 1)]
    have h1 := ipow_lt h0 h n
    have h2 := ipow_pos (show 0 < y by omega) (n + 1)
    have e1 : x ^ (n + 1) * x ≤ y ^ (n + 1) * x := Int.mul_le_mul_of_nonneg_right (by omega) h0
    have e2 : y ^ (n + 1) * x < y ^ (n + 1) * y := Int.mul_lt_mul_of_pos_left h h2
    omega
/-- times, top, bottom of a fourth by a power -/
structure QOk (t : Nat) (top bot : Int) : Prop where
  t1 : 1 ≤ t
  t2 : t ≤ 80
  p : 0 < top
  b : 0 < bot
  bw : bot.natAbs < 2 ^ 2000
  lim : top ≤ 1000000 ^ t
def side (t : Nat) (top bot n : Int) : Int := n ^ t * bot - top
theorem side_zero {t : Nat} {top bot : Int} (h : QOk t top bot) : side t top bot 0 ≤ 0 := by
  obtain ⟨n, rfl⟩ : ∃ n, t = n + 1 := ⟨t - 1, by have := h.t1; omega⟩
  have := h.p
  unfold side
  rw [Int.pow_succ, Int.mul_zero, Int.zero_mul]
  omega
theorem side_lt {t : Nat} {top bot x y : Int} (h : QOk t top bot) (hx : 0 ≤ x) (xy : x < y) : side t top bot x < side t top bot y := by
  obtain ⟨n, rfl⟩ : ∃ n, t = n + 1 := ⟨t - 1, by have := h.t1; omega⟩
  have := Int.mul_lt_mul_of_pos_right (ipow_lt hx xy n) h.b
  unfold side
  omega
theorem side_far {t : Nat} {top bot x : Int} (h : QOk t top bot) (hx : 1000000 < x) : 0 < side t top bot x := by
  obtain ⟨n, e⟩ : ∃ n, t = n + 1 := ⟨t - 1, by have := h.t1; omega⟩
  have h1 : (1000000 : Int) ^ t < x ^ t := by rw [e]; exact ipow_lt (by decide) hx n
  have h2 := h.lim
  have h3 : x ^ t * 1 ≤ x ^ t * bot := Int.mul_le_mul_of_nonneg_left (by have := h.b; omega) (Int.pow_nonneg (by omega))
  unfold side
  omega
def spSide : Sp := fun vs H Q _ => ∃ (n : Int) (q : Addr) (t : Nat) (top bot : Int), vs = [.int n, .ref q] ∧ H q = some (.tup [.int (t : Int), .int top, .int bot]) ∧ t ≤ 80 ∧ bot.natAbs < 2 ^ 2000 ∧ n.natAbs < 2 ^ 64 ∧ Q (.int (side t top bot n)) H
theorem ok_side_of (T : Txt K mg) : FnOk P w K mg base CX0 2 T.f_side_of.a T.f_side_of.fd ["number", "quotient"] spSide := by
  have G_raised := ok_raised (P := P) (w := w) (base := base) T
  refine T.f_side_of.F.ok sc_side_of (fun vs H Q E h => ?_) (fun cdv A outer s H vs Q E hr h => ?_)
  · obtain ⟨n, q, t, top, bot, rfl, _⟩ := h
    rfl
  · obtain ⟨n, p, t, top, bot, rfl, hp, ht, hb, hn, q⟩ := h
    refine ⟨_, (pss_cons (ps_asg (pv 1) (pg_tup rfl (pgs_cons (pg_name (i := 2) sc_side_of.nd rfl (Or.inl rfl)) (pgs_cons (pg_name (i := 3) sc_side_of.nd rfl (Or.inl rfl)) (pgs_cons (pg_name (i := 4) sc_side_of.nd rfl (Or.inl rfl)) pgs_nil))))) (pss_one (ps_ret (pe_op op_sub (pe_op op_mulW (pe_call G_raised (hr.mono (by decide)) (by rfl) T.f_raised.g T.f_raised.F.kp T.f_raised.b .nil pass0 (pa_cons (pv 0) (pa_cons (pv 2) pa_nil))) (pv 4)) (pv 3))))), ?_⟩
    refine ⟨_, rfl, p, _, rfl, .of hp, rfl, _, _, rfl, _, _, rfl, _, _, rfl, rfl, ?_⟩
    refine ⟨_, rfl, _, rfl, n, t, rfl, hn, by omega, ?_⟩
    have b1 : (n ^ t).natAbs < 2 ^ (64 * 100 + 1) := Nat.lt_of_lt_of_le (pow_lt (e := t) hn) (Nat.pow_le_pow_right (by decide) (by omega))
    exact ⟨_, rfl, _, _, rfl, rfl, wide_mul b1 hb (by decide) (by decide) (by decide), _, rfl, _, _, rfl, rfl, q⟩
def spBelow : Sp := fun vs H Q _ => ∃ (q : Addr) (t : Nat) (top bot : Int), vs = [.ref q] ∧ H q = some (.tup [.int (t : Int), .int top, .int bot]) ∧ QOk t top bot ∧
  ∀ n : Int, 0 ≤ n → n ≤ 1000000 → side t top bot n ≤ 0 → 0 < side t top bot (n + 1) → Q (.int n) H
theorem ok_whole_below (T : Txt K mg) : FnOk P w K mg base CX0 3 T.f_whole_below.a T.f_whole_below.fd ["quotient"] spBelow := by
  have G_side_of := ok_side_of (P := P) (w := w) (base := base) T
  refine T.f_whole_below.F.ok sc_whole_below (fun vs H Q E h => ?_) (fun cdv A outer s H vs Q E hr h => ?_)
  · obtain ⟨q, t, top, bot, rfl, _⟩ := h
    rfl
  · obtain ⟨p, t, top, bot, rfl, hp, ok, q⟩ := h
    refine ⟨_, (pss_cons (ps_set (i := 1) sc_whole_below.nd rfl (Or.inl rfl) pe_int) (pss_cons (ps_while PassesOwn.never (pt_cmpR op_le (pe_call G_side_of (hr.mono (by decide)) (by rfl) T.f_side_of.g T.f_side_of.F.kp T.f_side_of.b .nil pass0 (pa_cons (pv 1) (pa_cons (pv 0) pa_nil))) pe_int (nomark _)) (pss_one (ps_set (i := 1) sc_whole_below.nd rfl (Or.inl rfl) (pe_op op_mul (pv 1) pe_int)))) (pss_cons (ps_set (i := 2) sc_whole_below.nd rfl (Or.inl rfl) (pe_op op_fdiv (pv 1) pe_int)) (pss_cons (ps_while PassesOwn.never (pt_cmpR op_gt (pe_op op_sub (pv 1) (pv 2)) pe_int (nomark _)) (pss_cons (ps_set (i := 3) sc_whole_below.nd rfl (Or.inl rfl) (pe_op op_fdiv (pe_op op_add (pv 2) (pv 1)) pe_int)) (pss_one (ps_if (pt_cmpR op_le (pe_call G_side_of (hr.mono (by decide)) (by rfl) T.f_side_of.g T.f_side_of.F.kp T.f_side_of.b .nil pass0 (pa_cons (pv 3) (pa_cons (pv 0) pa_nil))) pe_int (nomark _)) (pss_one (ps_set (i := 2) sc_whole_below.nd rfl (Or.inl rfl) (pv 3))) (pss_one (ps_set (i := 1) sc_whole_below.nd rfl (Or.inl rfl) (pv 3))))))) (pss_one (ps_ret (pv 2))))))), ?_⟩
    have S := fun n : Int => side t top bot n
    refine while_by (fun σ H' => H' = H ∧ ∃ h : Int, σ = [some (.ref p), some (.int h), none, none] ∧ 1 ≤ h ∧ h ≤ 2000000 ∧ (h = 1 ∨ ∃ g, h = 2 * g ∧ 1 ≤ g ∧ side t top bot g ≤ 0))
      (fun σ _ => match σ with
        | [_, some (.int h), _, _] => (4000000 - h).toNat
        | _ => 0) ⟨rfl, 1, rfl, by decide, by decide, .inl rfl⟩ ?_ ?_
    · rintro σ H' ⟨rfl, h, rfl, h1, h2, hg⟩
      refine ⟨_, rfl, _, rfl, h, p, t, top, bot, rfl, hp, ok.t2, ok.bw, by omega, _, _, rfl, rfl, _, rfl, ite2 (fun e => ?_) (fun e => ?_)⟩
      · have e1 : side t top bot h ≤ 0 := of_decide_eq_true e
        have h3 : h ≤ 1000000 := by
          by_cases z : h ≤ 1000000
          · exact z
          · have := side_far ok (show 1000000 < h by omega)
            omega
        refine ⟨_, rfl, _, _, rfl, rfl, .inl ⟨by omega, by omega⟩, ?_⟩
        refine ⟨⟨rfl, h * 2, rfl, by omega, by omega, .inr ⟨h, by omega, h1, e1⟩⟩, ?_⟩
        show (4000000 - h * 2).toNat < (4000000 - h).toNat
        omega
      · have e1 : 0 < side t top bot h := by
          have : ¬ side t top bot h ≤ 0 := fun z => e (decide_eq_true z)
          omega
        refine ⟨_, rfl, _, _, rfl, rfl, ⟨by decide, by decide⟩, ?_⟩
        have hl : 0 ≤ h / 2 ∧ h / 2 < h ∧ side t top bot (h / 2) ≤ 0 := by
          refine ⟨by omega, by omega, ?_⟩
          rcases hg with rfl | ⟨g, rfl, g1, gs⟩
          · exact side_zero ok
          · rw [show 2 * g / 2 = g by omega]
            exact gs
        refine while_by (fun σ H2 => H2 = H' ∧ ∃ (h l : Int) (y : Option V), σ = [some (.ref p), some (.int h), some (.int l), y] ∧ 0 ≤ l ∧ l < h ∧ h ≤ 2000000 ∧ side t top bot l ≤ 0 ∧ 0 < side t top bot h)
          (fun σ _ => match σ with
            | [_, some (.int h), some (.int l), _] => (h - l).toNat
            | _ => 0) ⟨rfl, h, h / 2, none, rfl, hl.1, hl.2.1, h2, hl.2.2, e1⟩ ?_ ?_
        · rintro σ H2 ⟨rfl, h, l, y, rfl, l0, lh, h2, sl, sh⟩
          refine ⟨_, rfl, _, rfl, _, _, rfl, rfl, _, _, rfl, rfl, _, rfl, ite2 (fun e => ?_) (fun e => ?_)⟩
          · have e2 : 1 < h - l := of_decide_eq_true e
            refine ⟨_, rfl, _, rfl, _, _, rfl, rfl, _, _, rfl, rfl, ⟨by decide, by decide⟩, ?_⟩
            refine ⟨_, rfl, _, rfl, (l + h) / 2, p, t, top, bot, rfl, hp, ok.t2, ok.bw, by omega, _, _, rfl, rfl, _, rfl, ite2 (fun e3 => ?_) (fun e3 => ?_)⟩
            · have e4 : side t top bot ((l + h) / 2) ≤ 0 := of_decide_eq_true e3
              refine ⟨_, rfl, ⟨rfl, h, (l + h) / 2, some (.int ((l + h) / 2)), rfl, by omega, by omega, h2, e4, sh⟩, ?_⟩
              show (h - (l + h) / 2).toNat < (h - l).toNat
              omega
            · have e4 : 0 < side t top bot ((l + h) / 2) := by
                have : ¬ side t top bot ((l + h) / 2) ≤ 0 := fun z => e3 (decide_eq_true z)
                omega
              refine ⟨_, rfl, ⟨rfl, (l + h) / 2, l, some (.int ((l + h) / 2)), rfl, by omega, by omega, by omega, sl, e4⟩, ?_⟩
              show ((l + h) / 2 - l).toNat < (h - l).toNat
              omega
          · have e2 : ¬ 1 < h - l := fun z => e (decide_eq_true z)
            have hl1 : h = l + 1 := by omega
            refine ⟨_, rfl, q l l0 ?_ sl (hl1 ▸ sh)⟩
            by_cases z : l ≤ 1000000
            · exact z
            · have := side_far ok (show 1000000 < l by omega)
              omega
        · intro σ H Q Q' hq h
          obtain ⟨v, e, v2, e2, i, j, a1, a2, i', j', a3, a4, k, z, r⟩ := h
          exact ⟨v, e, v2, e2, i, j, a1, a2, i', j', a3, a4, k, z, hq _ _ r⟩
    · intro σ H Q Q' hq h
      obtain ⟨v, e, v2, e2, n, q', t', top', bot', a1, a2, a3, a4, a5, i, j, z1, z2, k, z3, r⟩ := h
      exact ⟨v, e, v2, e2, n, q', t', top', bot', a1, a2, a3, a4, a5, i, j, z1, z2, k, z3, hq _ _ r⟩
def qT (p : Int) : Nat := if p = 0 then 1 else p.natAbs
def qTop (a b c p : Int) : Int := if p = 0 then b * c else if 0 < p then b ^ p.toNat + c ^ p.toNat - a ^ p.toNat else (a * b * c) ^ (-p).toNat
def qBot (a b c p : Int) : Int := if p = 0 then a else if 0 < p then 1 else (a * c) ^ (-p).toNat + (a * b) ^ (-p).toNat - (b * c) ^ (-p).toNat
theorem pow_sum {x y : Int} (hx : 0 ≤ x) (hy : 0 ≤ y) : ∀ n : Nat, x ^ (n + 1) + y ^ (n + 1) ≤ (x + y) ^ (n + 1)
  | 0 => by rw [Int.pow_succ, Int.pow_succ, Int.pow_succ, Int.pow_zero, Int.pow_zero, Int.pow_zero]; omega
  | n + 1 => by
    have ih := pow_sum hx hy n
    rw [Int.pow_succ x (n + 1), Int.pow_succ y (n + 1), Int.pow_succ (x + y) (n + 1)]
    have h1 : (x ^ (n + 1) + y ^ (n + 1)) * (x + y) ≤ (x + y) ^ (n + 1) * (x + y) := Int.mul_le_mul_of_nonneg_right ih (by omega)
    have h2 : 0 ≤ x ^ (n + 1) * y := Int.mul_nonneg (Int.pow_nonneg hx) hy
    have h3 : 0 ≤ y ^ (n + 1) * x := Int.mul_nonneg (Int.pow_nonneg hy) hx
    have e : (x ^ (n + 1) + y ^ (n + 1)) * (x + y) = x ^ (n + 1) * x + x ^ (n + 1) * y + (y ^ (n + 1) * x + y ^ (n + 1) * y) := by
      rw [Int.add_mul, Int.mul_add, Int.mul_add]
    omega
structure Th (a b c p : Int) : Prop where
  a : 1 ≤ a ∧ a ≤ 99
  b : 1 ≤ b ∧ b ≤ 99
  c : 1 ≤ c ∧ c ≤ 99
  p : -80 ≤ p ∧ p ≤ 80
theorem qOk {a b c p : Int} (h : Th a b c p) (h1 : 0 < qTop a b c p) (h2 : 0 < qBot a b c p) : QOk (qT p) (qTop a b c p) (qBot a b c p) := by
  obtain ⟨⟨a1, a2⟩, ⟨b1, b2⟩, ⟨c1, c2⟩, p1, p2⟩ := h
  have two : ∀ {x y : Int}, 1 ≤ x → x ≤ 99 → 1 ≤ y → y ≤ 99 → 1 ≤ x * y ∧ x * y ≤ 9801 := fun {x y} h1 h2 h3 h4 => ⟨by have := Int.mul_pos (show 0 < x by omega) (show 0 < y by omega); omega, by
    have : x * y ≤ 99 * 99 := Int.mul_le_mul h2 h4 (by omega) (by decide)
    omega⟩
  refine ⟨?_, ?_, h1, h2, ?_, ?_⟩
  · unfold qT
    split <;> omega
  · unfold qT
    split <;> omega
  · unfold qBot at h2 ⊢
    by_cases e : p = 0
    · rw [if_pos e]
      exact Nat.lt_of_lt_of_le (show a.natAbs < 2 ^ 7 by omega) (Nat.pow_le_pow_right (by decide) (by decide))
    · rw [if_neg e] at h2 ⊢
      by_cases e1 : 0 < p
      · rw [if_pos e1]
        decide
      · rw [if_neg e1] at h2 ⊢
        obtain ⟨n, en⟩ : ∃ n : Nat, (-p).toNat = n + 1 := ⟨(-p).toNat - 1, by omega⟩
        rw [en] at h2 ⊢
        have s := pow_sum (x := a * c) (y := a * b) (by have := two a1 a2 c1 c2; omega) (by have := two a1 a2 b1 b2; omega) n
        have s2 : (a * c + a * b) ^ (n + 1) ≤ (2 ^ 16) ^ (n + 1) := ipow_le (by have := two a1 a2 c1 c2; have := two a1 a2 b1 b2; omega) (by have := two a1 a2 c1 c2; have := two a1 a2 b1 b2; omega) _
        have s3 : (0 : Int) < (b * c) ^ (n + 1) := ipow_pos (by have := two b1 b2 c1 c2; omega) _
        have s4 : ((2 : Int) ^ 16) ^ (n + 1) ≤ (2 ^ 16) ^ 80 := by
          have : ((2 : Nat) ^ 16) ^ (n + 1) ≤ (2 ^ 16) ^ 80 := Nat.pow_le_pow_right (by decide) (by omega)
          exact_mod_cast this
        have s5 : ((2 : Int) ^ 16) ^ 80 < 2 ^ 2000 := by decide +kernel
        have s6 : ((2 : Int) ^ 2000) = (((2 : Nat) ^ 2000 : Nat) : Int) := by decide +kernel
        generalize (2 : Nat) ^ 2000 = B at s6 ⊢
        rw [s6] at s5
        omega
  · unfold qTop qT at *
    by_cases e : p = 0
    · rw [if_pos e, if_pos e]
      have := two b1 b2 c1 c2
      rw [Int.pow_succ, Int.pow_zero]
      omega
    · rw [if_neg e, if_neg e]
      obtain ⟨n, en⟩ : ∃ n : Nat, p.natAbs = n + 1 := ⟨p.natAbs - 1, by omega⟩
      rw [en]
      by_cases e1 : 0 < p
      · rw [if_pos e1, show p.toNat = n + 1 by omega]
        have s := pow_sum (x := b) (y := c) (by omega) (by omega) n
        have s2 : (b + c) ^ (n + 1) ≤ 1000000 ^ (n + 1) := ipow_le (by omega) (by omega) _
        have s3 : (0 : Int) < a ^ (n + 1) := ipow_pos (by omega) _
        omega
      · rw [if_neg e1, show (-p).toNat = n + 1 by omega]
        have x1 := two a1 a2 b1 b2
        refine ipow_le (Int.le_of_lt (Int.mul_pos (by omega) (by omega))) ?_ _
        have : a * b * c ≤ 9801 * 99 := Int.mul_le_mul x1.2 c2 (by omega) (by decide)
        omega
def spQuot : Sp := fun vs H Q _ => ∃ a b c p : Int, vs = [.int a, .int b, .int c, .int p] ∧ Th a b c p ∧
  (∀ (q : Addr) (H' : Hp), 0 < qTop a b c p → 0 < qBot a b c p → H q = none → H' q = some (.tup [.int (qT p : Int), .int (qTop a b c p), .int (qBot a b c p)]) → Same H H' → Q (.ref q) H') ∧
  (∀ H', ¬ (0 < qTop a b c p ∧ 0 < qBot a b c p) → Same H H' → Q .non H')
theorem ok_fourth_quotient (T : Txt K mg) : FnOk P w K mg base CX0 2 T.f_fourth_quotient.a T.f_fourth_quotient.fd ["a", "b", "c", "power"] spQuot := by
  have G_raised := ok_raised (P := P) (w := w) (base := base) T
  refine T.f_fourth_quotient.F.ok sc_fourth_quotient (fun vs H Q E h => ?_) (fun cdv A outer s H vs Q E hr h => ?_)
  · obtain ⟨a, b, c, p, rfl, _⟩ := h
    rfl
  · obtain ⟨a, b, c, p, rfl, th, q, qn⟩ := h
    refine ⟨_, (pss_cons (ps_if (pt_cmpR op_eq (pv 3) pe_int (nomark _)) (pss_one (ps_ret (pe_tup (pa_cons pe_int (pa_cons (pe_op op_mul (pv 1) (pv 2)) (pa_cons (pv 0) pa_nil)))))) pss_nil) (pss_cons (ps_if (pt_cmpR op_gt (pv 3) pe_int (nomark _)) (pss_one (ps_par3 (i := 4) (j := 5) (l := 6) rfl sc_fourth_quotient.nd rfl rfl rfl (by decide) (by decide) (by decide) rfl rfl rfl (pa_cons (pv 3) (pa_cons (pe_op op_sub (pe_op op_add (pe_call G_raised (hr.mono (by decide)) (by rfl) T.f_raised.g T.f_raised.F.kp T.f_raised.b .nil pass0 (pa_cons (pv 1) (pa_cons (pv 3) pa_nil))) (pe_call G_raised (hr.mono (by decide)) (by rfl) T.f_raised.g T.f_raised.F.kp T.f_raised.b .nil pass0 (pa_cons (pv 2) (pa_cons (pv 3) pa_nil)))) (pe_call G_raised (hr.mono (by decide)) (by rfl) T.f_raised.g T.f_raised.F.kp T.f_raised.b .nil pass0 (pa_cons (pv 0) (pa_cons (pv 3) pa_nil)))) (pa_cons pe_int pa_nil))) rfl)) (pss_cons (ps_par (i := 4) (j := 5) rfl sc_fourth_quotient.nd rfl rfl (by decide) rfl rfl (pa_cons (pe_un un_neg (pv 3)) (pa_cons (pe_call G_raised (hr.mono (by decide)) (by rfl) T.f_raised.g T.f_raised.F.kp T.f_raised.b .nil pass0 (pa_cons (pe_op op_mul (pe_op op_mul (pv 0) (pv 1)) (pv 2)) (pa_cons (pe_un un_neg (pv 3)) pa_nil))) pa_nil)) rfl) (pss_one (ps_set (i := 6) sc_fourth_quotient.nd rfl (Or.inl rfl) (pe_op op_sub (pe_op op_add (pe_call G_raised (hr.mono (by decide)) (by rfl) T.f_raised.g T.f_raised.F.kp T.f_raised.b .nil pass0 (pa_cons (pe_op op_mul (pv 0) (pv 2)) (pa_cons (pv 4) pa_nil))) (pe_call G_raised (hr.mono (by decide)) (by rfl) T.f_raised.g T.f_raised.F.kp T.f_raised.b .nil pass0 (pa_cons (pe_op op_mul (pv 0) (pv 1)) (pa_cons (pv 4) pa_nil)))) (pe_call G_raised (hr.mono (by decide)) (by rfl) T.f_raised.g T.f_raised.F.kp T.f_raised.b .nil pass0 (pa_cons (pe_op op_mul (pv 1) (pv 2)) (pa_cons (pv 4) pa_nil)))))))) (pss_one (ps_ret (pe_ifExp (PW.pt (pw_and (pt_cmpR op_gt (pv 5) pe_int (nomark _)) (pw_and1 (pt_cmpR op_gt (pv 6) pe_int (nomark _))))) (pe_tup (pa_cons (pv 4) (pa_cons (pv 5) (pa_cons (pv 6) pa_nil)))) pe_non))))), ?_⟩
    obtain ⟨⟨a1, a2⟩, ⟨b1, b2⟩, ⟨c1, c2⟩, p1, p2⟩ := id th
    have l1 := fun {x y : Int} (hx : 1 ≤ x ∧ x ≤ 99) => (.inl ⟨by omega, by omega⟩ : CMul x y)
    have two : ∀ {x y : Int}, 1 ≤ x ∧ x ≤ 99 → 1 ≤ y ∧ y ≤ 99 → 1 ≤ x * y ∧ x * y ≤ 9801 := fun {x y} h1 h2 => ⟨by have := Int.mul_pos (show 0 < x by omega) (show 0 < y by omega); omega, by
      have : x * y ≤ 99 * 99 := Int.mul_le_mul h1.2 h2.2 (by omega) (by decide)
      omega⟩
    refine ⟨_, rfl, rfl, _, rfl, ite2 (fun e => ?_) (fun e => ?_)⟩
    · have e0 : p = 0 := V.int.inj (of_decide_eq_true e)
      subst e0
      refine ⟨_, rfl, _, rfl, _, _, rfl, rfl, l1 th.b, _, rfl, sz3, fun q' hq' => ?_⟩
      have := two th.b th.c
      exact q q' _ (show 0 < b * c by omega) (show 0 < a by omega) hq' upd_same (same_upd hq')
    have e0 : ¬ p = 0 := fun z => e (decide_eq_true (congrArg V.int z))
    have fin : ∀ (x : Int), (t : Nat) → x = (t : Int) → t = qT p → ∀ H0, H0 = H → tRet (tIf (tAnd (tTest (tOp (rI0 fun i j => V.bl (decide (j < i))) (tVar 5) (tC (V.int 0)))) (tTest (tOp (rI0 fun i j => V.bl (decide (j < i))) (tVar 6) (tC (V.int 0))))) (tTup (tCons (tVar 4) (tCons (tVar 5) (tCons (tVar 6) tNil)))) (tC V.non))
        { nx := fun x H' => Q V.non H', rt := Q } [some (.int a), some (.int b), some (.int c), some (.int p), some (.int x), some (.int (qTop a b c p)), some (.int (qBot a b c p))] H0 := by
      intro x t ex et H0 eH
      subst ex
      subst et
      subst eH
      refine ⟨_, rfl, _, _, rfl, rfl, _, rfl, ite2 (fun e1 => ?_) (fun e1 => ?_)⟩
      · refine ⟨_, rfl, _, _, rfl, rfl, _, rfl, ite2 (fun e2 => ?_) (fun e2 => ?_)⟩
        · exact ⟨_, rfl, _, rfl, _, rfl, sz3, fun q' hq' => q q' _ (of_decide_eq_true e1) (of_decide_eq_true e2) hq' upd_same (same_upd hq')⟩
        · exact qn H0 (fun z => e2 (decide_eq_true z.2)) (Same.refl _)
      · exact iteF (qn H0 (fun z => e1 (decide_eq_true z.1)) (Same.refl _))
    refine ⟨_, rfl, _, _, rfl, rfl, _, rfl, ite2 (fun e1 => ?_) (fun e1 => ?_)⟩
    · have p0 : 0 < p := of_decide_eq_true e1
      obtain ⟨n, rfl⟩ : ∃ n : Nat, p = (n : Int) := ⟨p.toNat, by omega⟩
      have r1 : ∀ {x : Int}, 1 ≤ x ∧ x ≤ 99 → x.natAbs < 2 ^ 64 := fun h => by omega
      refine ⟨_, rfl, _, rfl, _, rfl, b, n, rfl, r1 th.b, by omega, _, rfl, _, rfl, c, n, rfl, r1 th.c, by omega, _, _, rfl, rfl, _, rfl, _, rfl, a, n, rfl, r1 th.a, by omega, _, _, rfl, rfl, ?_⟩
      have f := fin (n : Int) n rfl (by unfold qT; rw [if_neg e0]; rfl) H rfl
      unfold qTop qBot at f
      rw [if_neg e0, if_pos p0, if_neg e0, if_pos p0, show ((n : Int)).toNat = n from rfl] at f
      exact ⟨_, _, _, rfl, f⟩
    · have p0 : p < 0 := by
        have : ¬ 0 < p := fun z => e1 (decide_eq_true z)
        omega
      obtain ⟨n, rfl⟩ : ∃ n : Nat, p = -(n : Int) := ⟨(-p).toNat, by omega⟩
      have en : - -(n : Int) = (n : Int) := by omega
      have r2 : ∀ {x y : Int}, 1 ≤ x ∧ x ≤ 99 → 1 ≤ y ∧ y ≤ 99 → (x * y).natAbs < 2 ^ 64 := fun h1 h2 => by have := two h1 h2; omega
      have r3 : (a * b * c).natAbs < 2 ^ 64 := by
        have x1 := two th.a th.b
        have x2 : a * b * c ≤ 9801 * 99 := Int.mul_le_mul x1.2 c2 (by omega) (by decide)
        have x3 : 0 < a * b * c := Int.mul_pos (by omega) (by omega)
        omega
      have l2 : CMul (a * b) c := .inl (by have := two th.a th.b; exact ⟨by omega, by omega⟩)
      refine ⟨_, rfl, _, rfl, _, rfl, _, rfl, _, _, rfl, rfl, l1 th.a, _, rfl, _, _, rfl, rfl, l2, _, rfl, _, rfl, a * b * c, n, congrArg (fun z => [V.int (a * b * c), V.int z]) en, r3, by omega, _, _, rfl, ?_⟩
      refine ⟨_, rfl, _, rfl, _, _, rfl, rfl, l1 th.a, _, rfl, a * c, n, congrArg (fun z => [V.int (a * c), V.int z]) en, r2 th.a th.c, by omega, ?_⟩
      refine ⟨_, rfl, _, rfl, _, _, rfl, rfl, l1 th.a, _, rfl, a * b, n, congrArg (fun z => [V.int (a * b), V.int z]) en, r2 th.a th.b, by omega, _, _, rfl, rfl, ?_⟩
      refine ⟨_, rfl, _, rfl, _, _, rfl, rfl, l1 th.b, _, rfl, b * c, n, congrArg (fun z => [V.int (b * c), V.int z]) en, r2 th.b th.c, by omega, _, _, rfl, rfl, ?_⟩
      have f := fin (- -(n : Int)) n en (by unfold qT; rw [if_neg e0]; omega) H rfl
      unfold qTop qBot at f
      rw [if_neg e0, if_neg (by omega), if_neg e0, if_neg (by omega), show (- -(n : Int)).toNat = n by omega] at f
      exact f
end
end Q

namespace Q
open PySem PySem.Spec PyProof.Rows L2
section
variable {P : Program} {w : World} {K : PySem.W.Frag} {mg : Str → Option Value} {base : Heap}
/-! ### fixed: a list or tuple becomes a tuple, all else stays -/
def isInt : V → Bool
  | .int _ => true
  | _ => false
theorem kit_int {K : PySem.W.Frag} : PySem.W.kitAny K (.type "int") [.type "list", .type "tuple"] = some false :=
  kitAny_cons (kit_ty (r := false) (by decide +kernel)) (fun _ => kitAny_cons (kit_ty (r := false) (by decide +kernel)) (fun _ => rfl) (fun z => nomatch z)) (fun z => nomatch z)
theorem kit_tup {K : PySem.W.Frag} : PySem.W.kitAny K (.type "tuple") [.type "list", .type "tuple"] = some true :=
  kitAny_cons (kit_ty (r := false) (by decide +kernel)) (fun _ => kitAny_cons (kit_ty (r := true) (by decide +kernel)) (fun z => nomatch z) (fun _ => rfl)) (fun z => nomatch z)
def spFix0 : Sp := fun vs H Q _ => ∃ i : Int, vs = [.int i] ∧ ∀ H', Same H H' → Q (.int i) H'
theorem ok_fixed0 (T : Txt K mg) : FnOk P w K mg base CX0 1 T.f_fixed.a T.f_fixed.fd ["value"] spFix0 := by
  refine T.f_fixed.F.ok sc_fixed (fun vs H Q E h => ?_) (fun cdv A outer s H vs Q E hr h => ?_)
  · obtain ⟨i, rfl, _⟩ := h
    rfl
  · obtain ⟨i, rfl, q⟩ := h
    refine ⟨_, (pss_cons (ps_if (pt_val (pe_callB call_isiT (by rfl) T.n_isinstance (by decide +kernel) (pa_cons (pv 0) (pa_cons (pe_tup (pa_cons (pe_bltn (v := .ty "list") (by rfl) T.n_list (by decide +kernel) rfl) (pa_cons (pe_bltn (v := .ty "tuple") (by rfl) T.n_tuple (by decide +kernel) rfl) pa_nil))) pa_nil)))) (pss_one ps_never) pss_nil) (pss_one (ps_ret (pv 0)))), ?_⟩
    refine ⟨_, rfl, sz2, fun t ht => ?_⟩
    refine ⟨_, t, _, .type "int", [.type "list", .type "tuple"], false, rfl, upd_same, .cons (.ty _) (.cons (.ty _) .nil), .base (.int _), kit_int, false, rfl, iteF ?_⟩
    exact ⟨_, rfl, q _ (same_upd ht)⟩
/-! ### what may stand in a paper here -/
inductive Kd
  | int (i : Int)
  | non
  | bl (b : Bool)
  | str (s : Str)
  | tup (i : Int)
def Val (H : Hp) (v : V) : Kd → Prop
  | .int i => v = .int i
  | .non => v = .non
  | .bl b => v = .bl b
  | .str s => v = .str s
  | .tup i => ∃ t, v = .ref t ∧ H t = some (.tup [.int i])
def Inp (H : Hp) (v : V) : Kd → Prop
  | .int i => v = .int i
  | .non => v = .non
  | .bl b => v = .bl b
  | .str s => v = .str s
  | .tup i => ∃ t, v = .ref t ∧ H t = some (.lst [.int i])
theorem Inp.same {H H' : Hp} {v : V} {k : Kd} (h : Inp H v k) (s : Same H H') : Inp H' v k := by
  cases k with
  | tup i => obtain ⟨t, e, f⟩ := h; exact ⟨t, e, s _ _ f⟩
  | _ => exact h
theorem Val.same {H H' : Hp} {v : V} {k : Kd} (h : Val H v k) (s : Same H H') : Val H' v k := by
  cases k with
  | tup i => obtain ⟨t, e, f⟩ := h; exact ⟨t, e, s _ _ f⟩
  | _ => exact h
theorem kit_non {K : PySem.W.Frag} : PySem.W.kitAny K (.type "NoneType") [.type "list", .type "tuple"] = some false :=
  kitAny_cons (kit_ty (r := false) (by decide +kernel)) (fun _ => kitAny_cons (kit_ty (r := false) (by decide +kernel)) (fun _ => rfl) (fun z => nomatch z)) (fun z => nomatch z)
theorem kit_bl {K : PySem.W.Frag} : PySem.W.kitAny K (.type "bool") [.type "list", .type "tuple"] = some false :=
  kitAny_cons (kit_ty (r := false) (by decide +kernel)) (fun _ => kitAny_cons (kit_ty (r := false) (by decide +kernel)) (fun _ => rfl) (fun z => nomatch z)) (fun z => nomatch z)
theorem kit_str {K : PySem.W.Frag} : PySem.W.kitAny K (.type "str") [.type "list", .type "tuple"] = some false :=
  kitAny_cons (kit_ty (r := false) (by decide +kernel)) (fun _ => kitAny_cons (kit_ty (r := false) (by decide +kernel)) (fun _ => rfl) (fun z => nomatch z)) (fun z => nomatch z)
theorem kit_lst {K : PySem.W.Frag} : PySem.W.kitAny K (.type "list") [.type "list", .type "tuple"] = some true :=
  kitAny_cons (kit_ty (r := true) (by decide +kernel)) (fun z => nomatch z) (fun _ => rfl)
def spFixV : Sp := fun vs H Q _ => ∃ (v : V) (k : Kd), vs = [v] ∧ Inp H v k ∧ ∀ (v' : V) (H' : Hp), Val H' v' k → Same H H' → Q v' H'
theorem ok_fixedV (T : Txt K mg) : FnOk P w K mg base CX0 2 T.f_fixed.a T.f_fixed.fd ["value"] spFixV := by
  have G_fixedIn := ok_fixed0 (P := P) (w := w) (base := base) T
  refine T.f_fixed.F.ok sc_fixed (fun vs H Q E h => ?_) (fun cdv A outer s H vs Q E hr h => ?_)
  · obtain ⟨v, k, rfl, _⟩ := h
    rfl
  · obtain ⟨v, k, rfl, hv, q⟩ := h
    refine ⟨_, (pss_cons (ps_if (pt_val (pe_callB call_isiT (by rfl) T.n_isinstance (by decide +kernel) (pa_cons (pv 0) (pa_cons (pe_tup (pa_cons (pe_bltn (v := .ty "list") (by rfl) T.n_list (by decide +kernel) rfl) (pa_cons (pe_bltn (v := .ty "tuple") (by rfl) T.n_tuple (by decide +kernel) rfl) pa_nil))) pa_nil)))) (pss_one (ps_ret (pe_callTy call_tuple_of (by rfl) T.n_tuple (by decide +kernel) (pa_cons (pe_lc (own := [("one", 1)]) (by rfl) sc_fixed.nd (Ru.pi_seq (pv 0)) (blkOk_by (N := n_fixed) (sc := defScope s_fixed) (by decide +kernel)) (fun _ _ _ _ _ => (pg_name (i := 1) sc_fixed.nd rfl (Or.inl rfl))) (fun _ _ _ _ _ => pts_nil) (fun _ _ _ _ _ => (pe_call G_fixedIn (hr.mono (by decide)) (by rfl) T.f_fixed.g T.f_fixed.F.kp T.f_fixed.b .nil pass0 (pa_cons (pv 1) pa_nil)))) pa_nil)))) pss_nil) (pss_one (ps_ret (pv 0)))), ?_⟩
    refine ⟨_, rfl, sz2, fun t ht => ?_⟩
    have s1 := same_upd (o := .tup [.ty "list", .ty "tuple"]) ht
    cases k with
    | int i =>
      obtain rfl : v = .int i := hv
      refine ⟨_, t, _, .type "int", [.type "list", .type "tuple"], false, rfl, upd_same, .cons (.ty _) (.cons (.ty _) .nil), .base (.int _), kit_int, false, rfl, iteF ?_⟩
      exact ⟨_, rfl, q _ _ rfl s1⟩
    | non =>
      obtain rfl : v = .non := hv
      refine ⟨_, t, _, .type "NoneType", [.type "list", .type "tuple"], false, rfl, upd_same, .cons (.ty _) (.cons (.ty _) .nil), .base .non, kit_non, false, rfl, iteF ?_⟩
      exact ⟨_, rfl, q _ _ rfl s1⟩
    | bl b =>
      obtain rfl : v = .bl b := hv
      refine ⟨_, t, _, .type "bool", [.type "list", .type "tuple"], false, rfl, upd_same, .cons (.ty _) (.cons (.ty _) .nil), .base (.bl _), kit_bl, false, rfl, iteF ?_⟩
      exact ⟨_, rfl, q _ _ rfl s1⟩
    | str x =>
      obtain rfl : v = .str x := hv
      refine ⟨_, t, _, .type "str", [.type "list", .type "tuple"], false, rfl, upd_same, .cons (.ty _) (.cons (.ty _) .nil), .base (.str _), kit_str, false, rfl, iteF ?_⟩
      exact ⟨_, rfl, q _ _ rfl s1⟩
    | tup i =>
      obtain ⟨l, rfl, hl⟩ := hv
      refine ⟨_, t, _, .type "list", [.type "list", .type "tuple"], true, rfl, upd_same, .cons (.ty _) (.cons (.ty _) .nil), .base (.lst (s1 _ _ hl)), kit_lst, true, rfl, iteT ?_⟩
      refine .inr ⟨_, rfl, l, rfl, ⟨_, .of (s1 _ _ hl)⟩, fun D hD => ?_⟩
      generalize hH1 : upd H t (.tup [.ty "list", .ty "tuple"]) = H1 at s1 hD
      have s2 := same_upd (o := .lst []) hD
      refine lc_list (K := K) (a := l) (xs := [.int i]) (fun j H' => Same H1 H' ∧ H' D = some (.lst (([i].take j).map V.int))) ⟨s2, upd_same⟩ (fun j H' _ e => .of (e.1 _ _ (s1 _ _ hl))) (fun j x H' hj e => ?_) (fun H' e => ?_)
      · match j, hj with
        | 0, hj =>
          cases hj
          obtain ⟨e1, e2⟩ := e
          refine ⟨rfl, ?_⟩
          refine ⟨_, rfl, i, rfl, fun H3 s3 => ⟨_, s3 _ _ e2, small1000 (by show 0 ≤ 1000; decide), fun b o hb => ?_, upd_same⟩⟩
          rw [upd_ne (ne_of_none hb hD)]
          exact s3 _ _ (e1 _ _ hb)
        | n + 1, hj => cases hj
      · obtain ⟨e1, e2⟩ := e
        refine ⟨D, _, rfl, .inl ⟨.of e2, fun u hu => ?_⟩⟩
        have s4 := (s1.trans e1).trans (same_upd (o := .tup [.int i]) hu)
        exact q (.ref u) _ ⟨u, rfl, upd_same⟩ s4
def spFixP : Sp := fun vs H Q _ => ∃ (p : Addr) (v : V) (k : Kd), vs = [.ref p] ∧ H p = some (.tup [v]) ∧ Inp H v k ∧ ∀ (q : Addr) (v' : V) (H' : Hp), H q = none → H' q = some (.tup [v']) → Val H' v' k → Same H H' → Q (.ref q) H'
theorem ok_fixed (T : Txt K mg) : FnOk P w K mg base CX0 3 T.f_fixed.a T.f_fixed.fd ["value"] spFixP := by
  have G_fixedIn := ok_fixedV (P := P) (w := w) (base := base) T
  refine T.f_fixed.F.ok sc_fixed (fun vs H Q E h => ?_) (fun cdv A outer s H vs Q E hr h => ?_)
  · obtain ⟨p, v, k, rfl, _⟩ := h
    rfl
  · obtain ⟨p, v, k, rfl, hp, hv, q⟩ := h
    refine ⟨_, (pss_cons (ps_if (pt_val (pe_callB call_isiT (by rfl) T.n_isinstance (by decide +kernel) (pa_cons (pv 0) (pa_cons (pe_tup (pa_cons (pe_bltn (v := .ty "list") (by rfl) T.n_list (by decide +kernel) rfl) (pa_cons (pe_bltn (v := .ty "tuple") (by rfl) T.n_tuple (by decide +kernel) rfl) pa_nil))) pa_nil)))) (pss_one (ps_ret (pe_callTy call_tuple_of (by rfl) T.n_tuple (by decide +kernel) (pa_cons (pe_lc (own := [("one", 1)]) (by rfl) sc_fixed.nd (Ru.pi_seq (pv 0)) (blkOk_by (N := n_fixed) (sc := defScope s_fixed) (by decide +kernel)) (fun _ _ _ _ _ => (pg_name (i := 1) sc_fixed.nd rfl (Or.inl rfl))) (fun _ _ _ _ _ => pts_nil) (fun _ _ _ _ _ => (pe_call G_fixedIn (hr.mono (by decide)) (by rfl) T.f_fixed.g T.f_fixed.F.kp T.f_fixed.b .nil pass0 (pa_cons (pv 1) pa_nil)))) pa_nil)))) pss_nil) (pss_one (ps_ret (pv 0)))), ?_⟩
    refine ⟨_, rfl, sz2, fun t ht => ?_⟩
    have s1 := same_upd (o := .tup [.ty "list", .ty "tuple"]) ht
    refine ⟨_, t, _, .type "tuple", [.type "list", .type "tuple"], true, rfl, upd_same, .cons (.ty _) (.cons (.ty _) .nil), .base (.tup (s1 _ _ hp)), kit_tup, true, rfl, iteT ?_⟩
    refine .inl ⟨_, rfl, p, rfl, ⟨_, .of (s1 _ _ hp)⟩, fun D hD => ?_⟩
    generalize hH1 : upd H t (.tup [.ty "list", .ty "tuple"]) = H1 at s1 hD
    have s2 := same_upd (o := .lst []) hD
    refine lc_tup (K := K) (a := p) (xs := [v]) (fun i H' => Same H1 H' ∧ (i = 0 ∧ H' D = some (.lst []) ∨ i = 1 ∧ ∃ v', Val H' v' k ∧ H' D = some (.lst [v']))) ⟨s2, .inl ⟨rfl, upd_same⟩⟩ (fun i H' _ e => .of (e.1 _ _ (s1 _ _ hp))) (fun i x H' hi e => ?_) (fun H' e => ?_)
    · match i, hi with
      | 0, hi =>
        cases hi
        obtain ⟨e1, ⟨_, e2⟩ | ⟨z, _⟩⟩ := e
        case inr => exact absurd z (by decide)
        refine ⟨rfl, ?_⟩
        refine ⟨_, rfl, v, k, rfl, (hv.same s1).same e1, fun v' H3 hv' s3 => ⟨_, s3 _ _ e2, small1000 (by show 0 ≤ 1000; decide), fun b o hb => ?_, .inr ⟨rfl, v', ?_, upd_same⟩⟩⟩
        · rw [upd_ne (ne_of_none hb hD)]
          exact s3 _ _ (e1 _ _ hb)
        · cases k with
          | tup i =>
            obtain ⟨u, e, f⟩ := hv'
            have nu : u ≠ D := ne_of f (s3 _ _ e2) (fun z => nomatch z)
            exact ⟨u, e, by rw [upd_ne nu]; exact f⟩
          | _ => exact hv'
      | n + 1, hi => cases hi
    · obtain ⟨e1, ⟨z, _⟩ | ⟨_, v', hv', e2⟩⟩ := e
      · exact absurd z (by show ¬ (1 = 0); decide)
      refine ⟨D, _, rfl, .inl ⟨.of e2, fun l hl' => ?_⟩⟩
      have s4 := (s1.trans e1).trans (same_upd (o := .tup [v']) hl')
      exact q l v' _ ((s1.trans e1).free hl') upd_same (hv'.same (same_upd hl')) s4
/-! ### papers: their words and parts -/
def pF (wd : Str) (q : Addr) : List (Str × V) := putF "parts" (.ref q) (putF "word" (.str wd) [])
theorem pF_len (wd : Str) (q : Addr) : (pF wd q).length = 2 := by
  unfold pF
  show (if ("word" : Str) = "parts" then _ else (("word" : Str), V.str wd) :: putF "parts" (.ref q) []).length = 2
  rw [if_neg (by decide +kernel)]
  rfl
theorem pF_parts (wd : Str) (q : Addr) : (pF wd q).lookup ("parts" : Str) = some (.ref q) := by
  unfold pF
  rw [lookup_putF, if_pos rfl]
/-- what a class of papers must have -/
structure PapC (K : PySem.W.Frag) (C : Addr) : Prop where
  cl : Cls K C
  nw : NoAttr K C "word"
  np : NoAttr K C "parts"
end
end Q

namespace Q
open PySem PySem.Spec PyProof.Rows L2
section
variable {P : Program} {w : World} {K : PySem.W.Frag} {mg : Str → Option Value} {base : Heap}
def spPaperI (K : PySem.W.Frag) : Sp := fun vs H Q _ => ∃ (x C dx p : Addr) (wd : Str) (v : V) (k : Kd), vs = [.ref x, .str wd, .ref p] ∧ PapC K C ∧ H x = some (.ins C dx []) ∧ H p = some (.tup [v]) ∧ Inp H v k ∧
  ∀ (q : Addr) (v' : V) (H' : Hp), H' x = some (.ins C dx (pF wd q)) → H q = none → H' q = some (.tup [v']) → Val H' v' k → (∀ b o, H b = some o → b ≠ x → H' b = some o) → Q .non H'
def spStarI (K : PySem.W.Frag) : Sp := fun vs H Q _ => ∃ (x C dx : Addr) (wd : Str) (v : V) (k : Kd), vs = [V.ref x, V.str wd, v] ∧ PapC K C ∧ H x = some (.ins C dx []) ∧ Inp H v k ∧
  ∀ (q : Addr) (v' : V) (H' : Hp), H' x = some (.ins C dx (pF wd q)) → H q = none → H' q = some (.tup [v']) → Val H' v' k → (∀ b o, H b = some o → b ≠ x → H' b = some o) → Q .non H'
theorem Inp.put {H : Hp} {v : V} {k : Kd} {x : Addr} {C dx : Addr} {fs : List (Str × V)} {o : HO} (h : Inp H v k) (hx : H x = some (.ins C dx fs)) : Inp (upd H x o) v k := by
  cases k with
  | tup i =>
    obtain ⟨t, e, f⟩ := h
    have nt : t ≠ x := ne_of f hx (fun z => nomatch z)
    exact ⟨t, e, by rw [upd_ne nt]; exact f⟩
  | _ => exact h
theorem Val.put {H : Hp} {v : V} {k : Kd} {x : Addr} {C dx : Addr} {fs : List (Str × V)} {o : HO} (h : Val H v k) (hx : H x = some (.ins C dx fs)) : Val (upd H x o) v k := by
  cases k with
  | tup i =>
    obtain ⟨t, e, f⟩ := h
    have nt : t ≠ x := ne_of f hx (fun z => nomatch z)
    exact ⟨t, e, by rw [upd_ne nt]; exact f⟩
  | _ => exact h
theorem ok_Paper__init__ (T : Txt K mg) : FnR P w K mg base CX0 4 T.f_Paper__init__.a (spStarI K) := by
  have G_fixed := ok_fixed (P := P) (w := w) (base := base) T
  obtain ⟨oc, od, kV, doc, pm, an, cdv, ct, osl, e, lk, hcd⟩ := T.f_Paper__init__.F.ex
  rw [e] at lk
  refine (StX.fn_star (ps := ["self", "word"]) (pv := "parts") (sp := spPaperI K) lk hcd sc_Paper__init__ StX.cxUp_none (StX.bind_star2 (B := fun us => bindArgs (PySem.W.fnOf "__init__" "Paper.__init__" (defArgs s_Paper__init__) (defBody s_Paper__init__) (defScope s_Paper__init__) .none kV doc pm an cdv ct) ⟨us, []⟩) (fun _ _ => rfl) (fun _ _ _ _ => rfl)) (fun A outer s H vs Q E hr h => ?_)).imp ?_
  · obtain ⟨x, C, dx, p, wd, v, k, rfl, pc, hx, hp, hv, q⟩ := h
    refine ⟨_, (pss_cons (ps_fld (pv 0) (pv 1) rfl) (pss_one (ps_fld (pv 0) (pe_call G_fixed (hr.mono (by decide)) (by rfl) T.f_fixed.g T.f_fixed.F.kp T.f_fixed.b .nil pass0 (pa_cons (pv 2) pa_nil)) rfl))), ?_⟩
    have npx : p ≠ x := ne_of hp hx (fun z => nomatch z)
    refine ⟨_, rfl, _, rfl, x, C, dx, _, rfl, hx, pc.cl, pc.nw, (by show 0 < 1000; decide), ?_⟩
    refine ⟨_, rfl, p, v, k, rfl, (by rw [upd_ne npx]; exact hp), hv.put hx, fun q' v' H' f' e' hv' s' => ?_⟩
    have nqx : q' ≠ x := fun z => by
      rw [z, upd_same] at f'
      cases f'
    have hq0 : H q' = none := by
      rw [upd_ne nqx] at f'
      exact f'
    have hx' := s' _ _ upd_same
    refine ⟨_, rfl, x, C, dx, _, rfl, hx', pc.cl, pc.np, (by show 1 < 1000; decide), ?_⟩
    refine q q' v' _ upd_same hq0 (by rw [upd_ne nqx]; exact e') (hv'.put hx') fun b o hb nb => ?_
    rw [upd_ne nb]
    exact s' _ _ (by rw [upd_ne nb]; exact hb)
  · intro vs H Q E h
    obtain ⟨x, C, dx, wd, v, k, rfl, pc, hx, hv, q⟩ := h
    refine ⟨[.ref x, .str wd], [v], rfl, rfl, ?_, fun p hp => ?_⟩
    · exact Nat.le_of_lt (small1000 (by show 1 ≤ 1000; decide))
    · have nxp : x ≠ p := ne_of_none hx hp
      refine ⟨x, C, dx, p, wd, v, k, rfl, pc, (by rw [upd_ne nxp]; exact hx), upd_same, hv.same (same_upd hp), fun q' v' H' h1 h2 h3 hv' h4 => q q' v' H' h1 ?_ h3 hv' fun b o hb nb => h4 b o (same_upd hp _ _ hb) nb⟩
      have nqp : q' ≠ p := fun z => by
        rw [z, upd_same] at h2
        cases h2
      rw [upd_ne nqp] at h2
      exact h2
theorem ok_Denial__init__ (T : Txt K mg) : FnR P w K mg base CX0 4 T.f_Denial__init__.a (spStarI K) := by
  have G_fixed := ok_fixed (P := P) (w := w) (base := base) T
  obtain ⟨oc, od, kV, doc, pm, an, cdv, ct, osl, e, lk, hcd⟩ := T.f_Denial__init__.F.ex
  rw [e] at lk
  refine (StX.fn_star (ps := ["self", "word"]) (pv := "parts") (sp := spPaperI K) lk hcd sc_Denial__init__ StX.cxUp_none (StX.bind_star2 (B := fun us => bindArgs (PySem.W.fnOf "__init__" "Denial.__init__" (defArgs s_Denial__init__) (defBody s_Denial__init__) (defScope s_Denial__init__) .none kV doc pm an cdv ct) ⟨us, []⟩) (fun _ _ => rfl) (fun _ _ _ _ => rfl)) (fun A outer s H vs Q E hr h => ?_)).imp ?_
  · obtain ⟨x, C, dx, p, wd, v, k, rfl, pc, hx, hp, hv, q⟩ := h
    refine ⟨_, (pss_cons (ps_fld (pv 0) (pv 1) rfl) (pss_one (ps_fld (pv 0) (pe_call G_fixed (hr.mono (by decide)) (by rfl) T.f_fixed.g T.f_fixed.F.kp T.f_fixed.b .nil pass0 (pa_cons (pv 2) pa_nil)) rfl))), ?_⟩
    have npx : p ≠ x := ne_of hp hx (fun z => nomatch z)
    refine ⟨_, rfl, _, rfl, x, C, dx, _, rfl, hx, pc.cl, pc.nw, (by show 0 < 1000; decide), ?_⟩
    refine ⟨_, rfl, p, v, k, rfl, (by rw [upd_ne npx]; exact hp), hv.put hx, fun q' v' H' f' e' hv' s' => ?_⟩
    have nqx : q' ≠ x := fun z => by
      rw [z, upd_same] at f'
      cases f'
    have hq0 : H q' = none := by
      rw [upd_ne nqx] at f'
      exact f'
    have hx' := s' _ _ upd_same
    refine ⟨_, rfl, x, C, dx, _, rfl, hx', pc.cl, pc.np, (by show 1 < 1000; decide), ?_⟩
    refine q q' v' _ upd_same hq0 (by rw [upd_ne nqx]; exact e') (hv'.put hx') fun b o hb nb => ?_
    rw [upd_ne nb]
    exact s' _ _ (by rw [upd_ne nb]; exact hb)
  · intro vs H Q E h
    obtain ⟨x, C, dx, wd, v, k, rfl, pc, hx, hv, q⟩ := h
    refine ⟨[.ref x, .str wd], [v], rfl, rfl, ?_, fun p hp => ?_⟩
    · exact Nat.le_of_lt (small1000 (by show 1 ≤ 1000; decide))
    · have nxp : x ≠ p := ne_of_none hx hp
      refine ⟨x, C, dx, p, wd, v, k, rfl, pc, (by rw [upd_ne nxp]; exact hx), upd_same, hv.same (same_upd hp), fun q' v' H' h1 h2 h3 hv' h4 => q q' v' H' h1 ?_ h3 hv' fun b o hb nb => h4 b o (same_upd hp _ _ hb) nb⟩
      have nqp : q' ≠ p := fun z => by
        rw [z, upd_same] at h2
        cases h2
      rw [upd_ne nqp] at h2
      exact h2
/-- a paper of class C, with one field -/
structure BPat (C : Addr) (at_ : Str) (H : Hp) (x : Addr) (wd : Str) (k : Kd) : Prop where
  h : ∃ dx q v, H x = some (.ins C dx (putF at_ v (pF wd q))) ∧ H q = some (.tup [v]) ∧ Val H v k
theorem bp_len {at_ wd : Str} {n : V} {q : Addr} (h1 : ¬ ("word" : Str) = at_) (h2 : ¬ ("parts" : Str) = at_) : (putF at_ (n) (pF wd q)).length = 3 := by
  have e : pF wd q = [(("word" : Str), V.str wd), (("parts" : Str), V.ref q)] := by
    unfold pF
    show (if ("word" : Str) = "parts" then _ else (("word" : Str), V.str wd) :: putF "parts" (.ref q) []) = _
    rw [if_neg (by decide +kernel)]
    rfl
  rw [e]
  show (if ("word" : Str) = at_ then _ else (("word" : Str), V.str wd) :: (if ("parts" : Str) = at_ then _ else (("parts" : Str), V.ref q) :: putF at_ (n) [])).length = 3
  rw [if_neg h1, if_neg h2]
  rfl
theorem bp_parts {at_ wd : Str} {n : V} {q : Addr} (h2 : ¬ ("parts" : Str) = at_) : (putF at_ (n) (pF wd q)).lookup ("parts" : Str) = some (.ref q) := by
  rw [lookup_putF, if_neg h2]
  exact pF_parts wd q
theorem bp_word {at_ wd : Str} {n : V} {q : Addr} (h1 : ¬ ("word" : Str) = at_) : (putF at_ (n) (pF wd q)).lookup ("word" : Str) = some (.str wd) := by
  rw [lookup_putF, if_neg h1]
  unfold pF
  rw [lookup_putF, if_neg (by decide +kernel), lookup_putF, if_pos rfl]
theorem bp_at {at_ wd : Str} {n : V} {q : Addr} : (putF at_ (n) (pF wd q)).lookup at_ = some (n) := by
  rw [lookup_putF, if_pos rfl]
def spPapI (C : Addr) (at_ wd : Str) : Sp := fun vs H Q _ => ∃ (x dx : Addr) (v : V) (k : Kd), vs = [.ref x, v] ∧ H x = some (.ins C dx []) ∧ Inp H v k ∧
  ∀ H', BPat C at_ H' x wd k → (∀ b o, H b = some o → b ≠ x → H' b = some o) → Q .non H'
theorem ok_ByPower__init__ (T : Txt K mg) : FnOk P w K mg base CX0 6 T.f_ByPower__init__.a T.f_ByPower__init__.fd ["self", "power"] (spPapI T.k_ByPower.a "power" "bypower") := by
  have G_Paper__init__ := ok_Paper__init__ (P := P) (w := w) (base := base) T
  refine T.f_ByPower__init__.F.ok sc_ByPower__init__ (fun vs H Q E h => ?_) (fun cdv A outer s H vs Q E hr h => ?_)
  · obtain ⟨x, dx, v, k, rfl, _⟩ := h
    rfl
  · obtain ⟨x, dx, v, k, rfl, hx, hv, q⟩ := h
    refine ⟨_, (pss_cons (ps_expr (Ru.pe_cfn (pe_glob (v := .ref T.k_Paper.a) rfl T.k_Paper.g rfl) T.cr_Paper T.cv_Paper__init__ T.f_Paper__init__.F.kp G_Paper__init__ (hr.mono (by decide)) pass0 (pa_cons (pv 0) (pa_cons pe_str (pa_cons (pv 1) pa_nil))))) (pss_one (ps_fld (pv 0) (pe_ix ix_tup (pe_fld (pv 0) rfl) pe_int (fun _ _ => rfl)) rfl))), ?_⟩
    refine ⟨rfl, _, rfl, _, rfl, x, T.k_ByPower.a, dx, "bypower", v, k, rfl, ⟨T.k_ByPower.cl, T.na_ByPower_word, T.na_ByPower_parts⟩, hx, hv, fun q' v' H' h1 h2 h3 hv' h4 => ?_⟩
    have nqx : q' ≠ x := ne_of h3 h1 (fun z => nomatch z)
    refine ⟨_, rfl, x, T.k_ByPower.a, dx, _, _, rfl, h1, T.k_ByPower.cl, T.na_ByPower_parts, pF_parts _ _, q', _, 0, _, rfl, rfl, .of h3, atI_nat (j := 0) rfl, ?_⟩
    refine ⟨_, rfl, x, T.k_ByPower.a, dx, _, rfl, h1, T.k_ByPower.cl, T.na_ByPower_power, (by rw [pF_len]; decide), ?_⟩
    exact q _ ⟨dx, q', v', upd_same, by rw [upd_ne nqx]; exact h3, hv'.put h1⟩ fun b o hb nb => by
      rw [upd_ne nb]
      exact h4 b o hb nb
theorem ok_Between__init__ (T : Txt K mg) : FnOk P w K mg base CX0 6 T.f_Between__init__.a T.f_Between__init__.fd ["self", "low"] (spPapI T.k_Between.a "low" "between") := by
  have G_Denial__init__ := ok_Denial__init__ (P := P) (w := w) (base := base) T
  refine T.f_Between__init__.F.ok sc_Between__init__ (fun vs H Q E h => ?_) (fun cdv A outer s H vs Q E hr h => ?_)
  · obtain ⟨x, dx, v, k, rfl, _⟩ := h
    rfl
  · obtain ⟨x, dx, v, k, rfl, hx, hv, q⟩ := h
    refine ⟨_, (pss_cons (ps_expr (Ru.pe_cfn (pe_glob (v := .ref T.k_Denial.a) rfl T.k_Denial.g rfl) T.cr_Denial T.cv_Denial__init__ T.f_Denial__init__.F.kp G_Denial__init__ (hr.mono (by decide)) pass0 (pa_cons (pv 0) (pa_cons pe_str (pa_cons (pv 1) pa_nil))))) (pss_one (ps_fld (pv 0) (pe_ix ix_tup (pe_fld (pv 0) rfl) pe_int (fun _ _ => rfl)) rfl))), ?_⟩
    refine ⟨rfl, _, rfl, _, rfl, x, T.k_Between.a, dx, "between", v, k, rfl, ⟨T.k_Between.cl, T.na_Between_word, T.na_Between_parts⟩, hx, hv, fun q' v' H' h1 h2 h3 hv' h4 => ?_⟩
    have nqx : q' ≠ x := ne_of h3 h1 (fun z => nomatch z)
    refine ⟨_, rfl, x, T.k_Between.a, dx, _, _, rfl, h1, T.k_Between.cl, T.na_Between_parts, pF_parts _ _, q', _, 0, _, rfl, rfl, .of h3, atI_nat (j := 0) rfl, ?_⟩
    refine ⟨_, rfl, x, T.k_Between.a, dx, _, rfl, h1, T.k_Between.cl, T.na_Between_low, (by rw [pF_len]; decide), ?_⟩
    exact q _ ⟨dx, q', v', upd_same, by rw [upd_ne nqx]; exact h3, hv'.put h1⟩ fun b o hb nb => by
      rw [upd_ne nb]
      exact h4 b o hb nb
theorem ok_Whole__init__ (T : Txt K mg) : FnOk P w K mg base CX0 6 T.f_Whole__init__.a T.f_Whole__init__.fd ["self", "number"] (spPapI T.k_Whole.a "number" "whole") := by
  have G_Paper__init__ := ok_Paper__init__ (P := P) (w := w) (base := base) T
  refine T.f_Whole__init__.F.ok sc_Whole__init__ (fun vs H Q E h => ?_) (fun cdv A outer s H vs Q E hr h => ?_)
  · obtain ⟨x, dx, v, k, rfl, _⟩ := h
    rfl
  · obtain ⟨x, dx, v, k, rfl, hx, hv, q⟩ := h
    refine ⟨_, (pss_cons (ps_expr (Ru.pe_cfn (pe_glob (v := .ref T.k_Paper.a) rfl T.k_Paper.g rfl) T.cr_Paper T.cv_Paper__init__ T.f_Paper__init__.F.kp G_Paper__init__ (hr.mono (by decide)) pass0 (pa_cons (pv 0) (pa_cons pe_str (pa_cons (pv 1) pa_nil))))) (pss_one (ps_fld (pv 0) (pe_ix ix_tup (pe_fld (pv 0) rfl) pe_int (fun _ _ => rfl)) rfl))), ?_⟩
    refine ⟨rfl, _, rfl, _, rfl, x, T.k_Whole.a, dx, "whole", v, k, rfl, ⟨T.k_Whole.cl, T.na_Whole_word, T.na_Whole_parts⟩, hx, hv, fun q' v' H' h1 h2 h3 hv' h4 => ?_⟩
    have nqx : q' ≠ x := ne_of h3 h1 (fun z => nomatch z)
    refine ⟨_, rfl, x, T.k_Whole.a, dx, _, _, rfl, h1, T.k_Whole.cl, T.na_Whole_parts, pF_parts _ _, q', _, 0, _, rfl, rfl, .of h3, atI_nat (j := 0) rfl, ?_⟩
    refine ⟨_, rfl, x, T.k_Whole.a, dx, _, rfl, h1, T.k_Whole.cl, T.na_Whole_number, (by rw [pF_len]; decide), ?_⟩
    exact q _ ⟨dx, q', v', upd_same, by rw [upd_ne nqx]; exact h3, hv'.put h1⟩ fun b o hb nb => by
      rw [upd_ne nb]
      exact h4 b o hb nb
theorem ok_NoWhole__init__ (T : Txt K mg) : FnOk P w K mg base CX0 6 T.f_NoWhole__init__.a T.f_NoWhole__init__.fd ["self", "low"] (spPapI T.k_NoWhole.a "low" "nowhole") := by
  have G_Denial__init__ := ok_Denial__init__ (P := P) (w := w) (base := base) T
  refine T.f_NoWhole__init__.F.ok sc_NoWhole__init__ (fun vs H Q E h => ?_) (fun cdv A outer s H vs Q E hr h => ?_)
  · obtain ⟨x, dx, v, k, rfl, _⟩ := h
    rfl
  · obtain ⟨x, dx, v, k, rfl, hx, hv, q⟩ := h
    refine ⟨_, (pss_cons (ps_expr (Ru.pe_cfn (pe_glob (v := .ref T.k_Denial.a) rfl T.k_Denial.g rfl) T.cr_Denial T.cv_Denial__init__ T.f_Denial__init__.F.kp G_Denial__init__ (hr.mono (by decide)) pass0 (pa_cons (pv 0) (pa_cons pe_str (pa_cons (pv 1) pa_nil))))) (pss_one (ps_fld (pv 0) (pe_ix ix_tup (pe_fld (pv 0) rfl) pe_int (fun _ _ => rfl)) rfl))), ?_⟩
    refine ⟨rfl, _, rfl, _, rfl, x, T.k_NoWhole.a, dx, "nowhole", v, k, rfl, ⟨T.k_NoWhole.cl, T.na_NoWhole_word, T.na_NoWhole_parts⟩, hx, hv, fun q' v' H' h1 h2 h3 hv' h4 => ?_⟩
    have nqx : q' ≠ x := ne_of h3 h1 (fun z => nomatch z)
    refine ⟨_, rfl, x, T.k_NoWhole.a, dx, _, _, rfl, h1, T.k_NoWhole.cl, T.na_NoWhole_parts, pF_parts _ _, q', _, 0, _, rfl, rfl, .of h3, atI_nat (j := 0) rfl, ?_⟩
    refine ⟨_, rfl, x, T.k_NoWhole.a, dx, _, rfl, h1, T.k_NoWhole.cl, T.na_NoWhole_low, (by rw [pF_len]; decide), ?_⟩
    exact q _ ⟨dx, q', v', upd_same, by rw [upd_ne nqx]; exact h3, hv'.put h1⟩ fun b o hb nb => by
      rw [upd_ne nb]
      exact h4 b o hb nb
end
end Q

namespace Q
open PySem PySem.Spec PyProof.Rows L2
section
variable {P : Program} {w : World} {K : PySem.W.Frag} {mg : Str → Option Value} {base : Heap}
def isI : Kd → Bool
  | .int _ => true
  | _ => false
def inW (k : Kd) (l m : Int) : Bool := match k with
  | .int i => decide (l ≤ i ∧ i ≤ m)
  | _ => false
def spIsIntV : Sp := fun vs H Q _ => ∃ (v : V) (k : Kd), vs = [v] ∧ Val H v k ∧ Q (.bl (isI k)) H
theorem ok_is_integerV (T : Txt K mg) : FnOk P w K mg base CX0 1 T.f_is_integer.a T.f_is_integer.fd ["value"] spIsIntV := by
  refine T.f_is_integer.F.ok sc_is_integer (fun vs H Q E h => ?_) (fun cdv A outer s H vs Q E hr h => ?_)
  · obtain ⟨v, k, rfl, _⟩ := h
    rfl
  · obtain ⟨v, k, rfl, hv, q⟩ := h
    refine ⟨_, (pss_one (ps_ret (pe_and (pe_callB call_isi (by rfl) T.n_isinstance (by decide +kernel) (pa_cons (pv 0) (pa_cons (pe_bltn (v := .ty "int") (by rfl) T.n_int (by decide +kernel) rfl) pa_nil))) (pe_one (pe_not (pe_callB call_isi (by rfl) T.n_isinstance (by decide +kernel) (pa_cons (pv 0) (pa_cons (pe_bltn (v := .ty "bool") (by rfl) T.n_bool (by decide +kernel) rfl) pa_nil)))))))), ?_⟩
    cases k with
    | int i =>
      obtain rfl : v = .int i := hv
      refine ⟨_, rfl, _, _, _, _, true, rfl, .ty _, .base (.int _), kit_ty (by decide +kernel), true, rfl, iteT ?_⟩
      exact ⟨_, rfl, _, _, _, _, false, rfl, .ty _, .base (.int _), kit_ty (by decide +kernel), false, rfl, q⟩
    | non =>
      obtain rfl : v = .non := hv
      exact ⟨_, rfl, _, _, _, _, false, rfl, .ty _, .base .non, kit_ty (by decide +kernel), false, rfl, iteF q⟩
    | bl x =>
      obtain rfl : v = .bl x := hv
      refine ⟨_, rfl, _, _, _, _, true, rfl, .ty _, .base (.bl _), kit_ty (by decide +kernel), true, rfl, iteT ?_⟩
      exact ⟨_, rfl, _, _, _, _, true, rfl, .ty _, .base (.bl _), kit_ty (by decide +kernel), true, rfl, q⟩
    | str x =>
      obtain rfl : v = .str x := hv
      exact ⟨_, rfl, _, _, _, _, false, rfl, .ty _, .base (.str _), kit_ty (by decide +kernel), false, rfl, iteF q⟩
    | tup i =>
      obtain ⟨t, rfl, ht⟩ := hv
      exact ⟨_, rfl, _, _, _, _, false, rfl, .ty _, .base (.tup ht), kit_ty (by decide +kernel), false, rfl, iteF q⟩
def spWithinV : Sp := fun vs H Q _ => ∃ (v : V) (k : Kd) (l m : Int), vs = [v, .int l, .int m] ∧ Val H v k ∧ Q (.bl (inW k l m)) H
theorem ok_is_withinV (T : Txt K mg) : FnOk P w K mg base CX0 2 T.f_is_within.a T.f_is_within.fd ["value", "least", "most"] spWithinV := by
  have G_is_integer := ok_is_integerV (P := P) (w := w) (base := base) T
  have W := ok_is_within (P := P) (w := w) (base := base) T
  refine T.f_is_within.F.ok sc_is_within (fun vs H Q E h => ?_) (fun cdv A outer s H vs Q E hr h => ?_)
  · obtain ⟨v, k, l, m, rfl, _⟩ := h
    rfl
  · obtain ⟨v, k, l, m, rfl, hv, q⟩ := h
    refine ⟨_, (pss_cons (ps_if (pt_not (pt_val (pe_call G_is_integer (hr.mono (by decide)) (by rfl) T.f_is_integer.g T.f_is_integer.F.kp T.f_is_integer.b .nil pass0 (pa_cons (pv 0) pa_nil)))) (pss_one (ps_ret pe_bl)) pss_nil) (pss_one (ps_ret (pe_and (pe_or (pe_cmpR op_isN (pv 1) pe_non (nomark _)) (pe_one (pe_cmpR op_ge (pv 0) (pv 1) (nomark _)))) (pe_one (pe_or (pe_cmpR op_isN (pv 2) pe_non (nomark _)) (pe_one (pe_cmpR op_le (pv 0) (pv 2) (nomark _))))))))), ?_⟩
    have no : isI k = false → Q (.bl false) H := fun z => by cases k <;> first | exact q | cases z
    refine ⟨_, rfl, v, k, rfl, hv, isI k, rfl, ?_⟩
    cases k with
    | int i =>
      obtain rfl : v = .int i := hv
      refine iteF ⟨_, rfl, rfl, false, rfl, iteF ⟨_, rfl, _, rfl, _, _, rfl, rfl, _, rfl, ?_⟩⟩
      refine ite2 (fun e => ?_) (fun e => ?_)
      · refine ⟨_, rfl, rfl, false, rfl, iteF ⟨_, rfl, _, rfl, _, _, rfl, rfl, ?_⟩⟩
        have e1 : l ≤ i := of_decide_eq_true e
        have e2 : inW (.int i) l m = decide (i ≤ m) := by
          show decide (l ≤ i ∧ i ≤ m) = decide (i ≤ m)
          by_cases h : i ≤ m
          · rw [decide_eq_true h, decide_eq_true ⟨e1, h⟩]
          · rw [decide_eq_false h, decide_eq_false (fun z => h z.2)]
        rw [e2] at q
        exact q
      · have e2 : inW (.int i) l m = false := decide_eq_false (fun z => e (decide_eq_true z.1))
        rw [e2] at q
        exact q
    | non => exact iteT q
    | bl x => exact iteT q
    | str x => exact iteT q
    | tup x => exact iteT q
/-! ### the fourth by a power -/
theorem side_neg {t : Nat} {top bot : Int} (h : QOk t top bot) : side t top bot 0 < 0 := by
  obtain ⟨n, rfl⟩ : ∃ n, t = n + 1 := ⟨t - 1, by have := h.t1; omega⟩
  have := h.p
  unfold side
  rw [Int.pow_succ, Int.mul_zero, Int.zero_mul]
  omega
def Qd (a b c p : Int) : Prop := 0 < qTop a b c p ∧ 0 < qBot a b c p
instance {a b c p : Int} : Decidable (Qd a b c p) := inferInstanceAs (Decidable (_ ∧ _))
def rightB (w : Bool) (k : Kd) (a b c p : Int) : Bool := match w, k with
  | true, .int n => decide (1 ≤ n ∧ n ≤ 1000000) && decide (side (qT p) (qTop a b c p) (qBot a b c p) n = 0)
  | false, .int n => decide (Qd a b c p) && (decide (0 ≤ n ∧ n ≤ 1000000) && (decide (side (qT p) (qTop a b c p) (qBot a b c p) n < 0) && decide (0 < side (qT p) (qTop a b c p) (qBot a b c p) (n + 1))))
  | false, .non => !decide (Qd a b c p)
  | _, _ => false
def Pap (T : Txt K mg) (H : Hp) (x : Addr) (w : Bool) (k : Kd) : Prop := (w = true ∧ BPat T.k_Whole.a "number" H x "whole" k) ∨ (w = false ∧ BPat T.k_NoWhole.a "low" H x "nowhole" k)
theorem named3 {K : PySem.W.Frag} {H : Hp} {t1 t2 t3 l : Addr} {p1 p2 p3 : Str} {a b c m : Int} (h1 : H t1 = none) (h2 : upd H t1 (.tup [.str p1, .int a]) t2 = none)
    (h3 : upd (upd H t1 (.tup [.str p1, .int a])) t2 (.tup [.str p2, .int b]) t3 = none)
    (h5 : upd (upd (upd H t1 (.tup [.str p1, .int a])) t2 (.tup [.str p2, .int b])) t3 (.tup [.str p3, .int c]) l = none)
    (ha : 1 ≤ a ∧ a ≤ m) (hb : 1 ≤ b ∧ b ≤ m) (hc : 1 ≤ c ∧ c ≤ m) {o : HO} :
    Same H (upd (upd (upd (upd H t1 (.tup [.str p1, .int a])) t2 (.tup [.str p2, .int b])) t3 (.tup [.str p3, .int c])) l o) ∧
    ∀ x ∈ [V.ref t1, .ref t2, .ref t3], Named K (upd (upd (upd (upd H t1 (.tup [.str p1, .int a])) t2 (.tup [.str p2, .int b])) t3 (.tup [.str p3, .int c])) l o) m x := by
  have s1 := same_upd (o := .tup [.str p1, .int a]) h1
  have s2 := same_upd (o := .tup [.str p2, .int b]) h2
  have s3 := same_upd (o := .tup [.str p3, .int c]) h3
  have s5 := same_upd (o := o) h5
  refine ⟨s1.trans (s2.trans (s3.trans s5)), fun x hx => ?_⟩
  simp only [List.mem_cons, List.not_mem_nil, or_false] at hx
  rcases hx with rfl | rfl | rfl
  · exact ⟨_, _, _, rfl, .of (s5 _ _ (s3 _ _ (s2 _ _ upd_same))), ha⟩
  · exact ⟨_, _, _, rfl, .of (s5 _ _ (s3 _ _ upd_same)), hb⟩
  · exact ⟨_, _, _, rfl, .of (s5 _ _ upd_same), hc⟩
theorem made_same {H H' : Hp} {x dx : Addr} {o : HO} (hx : H x = none) (hdx : H dx = none) (kp : ∀ b u, upd (upd H dx (.own x)) x o b = some u → b ≠ x → H' b = some u) : Same H H' := fun b u h => by
  have n1 : b ≠ x := ne_of_none h hx
  have n2 : b ≠ dx := ne_of_none h hdx
  exact kp b u (by rw [upd_ne n1, upd_ne n2]; exact h) n1
def spFourth (T : Txt K mg) : Sp := fun vs H Q _ => ∃ a b c p : Int, vs = [.int a, .int b, .int c, .int p] ∧ Th a b c p ∧
  ∀ (x : Addr) (H' : Hp) (w : Bool) (k : Kd), rightB w k a b c p = true → Pap T H' x w k → H x = none → Same H H' → Q (.ref x) H'
theorem ok_fourth_by (T : Txt K mg) : FnOk P w K mg base CX0 8 T.f_fourth_by.a T.f_fourth_by.fd ["a", "b", "c", "power"] (spFourth T) := by
  have G_need_numbers := ok_need_numbers (P := P) (w := w) (base := base) T
  have G_need_power := ok_need_power (P := P) (w := w) (base := base) T
  have G_fourth_quotient := ok_fourth_quotient (P := P) (w := w) (base := base) T
  have G_whole_below := ok_whole_below (P := P) (w := w) (base := base) T
  have G_NoWhole__init__ := ok_NoWhole__init__ (P := P) (w := w) (base := base) T
  have G_Whole__init__ := ok_Whole__init__ (P := P) (w := w) (base := base) T
  have G_side_of := ok_side_of (P := P) (w := w) (base := base) T
  refine T.f_fourth_by.F.ok sc_fourth_by (fun vs H Q E h => ?_) (fun cdv A outer s H vs Q E hr h => ?_)
  · obtain ⟨a, b, c, p, rfl, _⟩ := h
    rfl
  · obtain ⟨a, b, c, p, rfl, th, q⟩ := h
    have mkW : ∀ (n : Int) (H0 : Hp), Same H H0 → rightB true (.int n) a b c p = true → ∀ x dx, H0 x = none → H0 dx = none → dx ≠ x →
        spPapI T.k_Whole.a "number" "whole" ([V.ref x, .int n]) (upd (upd H0 dx (.own x)) x (.ins T.k_Whole.a dx [])) (fun v H2 => v = .non ∧ Q (.ref x) H2) E0 := fun n H0 s0 r x dx hx hdx ne =>
      ⟨x, dx, .int n, .int n, rfl, upd_same, rfl, fun H' bp kp => ⟨rfl, q x H' true _ r (.inl ⟨rfl, bp⟩) (s0.free hx) (s0.trans (made_same hx hdx kp))⟩⟩
    have mkN : ∀ (v : V) (k : Kd) (H0 : Hp), Same H H0 → (∀ H, Inp H v k) → rightB false k a b c p = true → ∀ x dx, H0 x = none → H0 dx = none → dx ≠ x →
        spPapI T.k_NoWhole.a "low" "nowhole" ([V.ref x, v]) (upd (upd H0 dx (.own x)) x (.ins T.k_NoWhole.a dx [])) (fun v H2 => v = .non ∧ Q (.ref x) H2) E0 := fun v k H0 s0 iv r x dx hx hdx ne =>
      ⟨x, dx, v, k, rfl, upd_same, iv _, fun H' bp kp => ⟨rfl, q x H' false _ r (.inr ⟨rfl, bp⟩) (s0.free hx) (s0.trans (made_same hx hdx kp))⟩⟩
    refine ⟨_, (pss_cons (ps_expr (pe_call G_need_numbers (hr.mono (by decide)) (by rfl) T.f_need_numbers.g T.f_need_numbers.F.kp T.f_need_numbers.b .nil pass0 (pa_cons (pe_lst (pa_cons (pe_tup (pa_cons pe_str (pa_cons (pv 0) pa_nil))) (pa_cons (pe_tup (pa_cons pe_str (pa_cons (pv 1) pa_nil))) (pa_cons (pe_tup (pa_cons pe_str (pa_cons (pv 2) pa_nil))) pa_nil)))) (pa_cons (pe_glob (v := .int (99)) rfl T.c_MOST_SMALL ⟨_, rfl⟩) pa_nil)))) (pss_cons (ps_expr (pe_call G_need_power (hr.mono (by decide)) (by rfl) T.f_need_power.g T.f_need_power.F.kp T.f_need_power.b .nil pass0 (pa_cons (pv 3) pa_nil))) (pss_cons (ps_set (i := 4) sc_fourth_by.nd rfl (Or.inl rfl) (pe_call G_fourth_quotient (hr.mono (by decide)) (by rfl) T.f_fourth_quotient.g T.f_fourth_quotient.F.kp T.f_fourth_quotient.b .nil pass0 (pa_cons (pv 0) (pa_cons (pv 1) (pa_cons (pv 2) (pa_cons (pv 3) pa_nil)))))) (pss_cons (ps_if (pt_cmpR op_isN (pv 4) pe_non (nomark _)) (pss_one (ps_ret (pe_make T.mk_NoWhole G_NoWhole__init__ (hr.mono (by decide)) (by rfl) T.k_NoWhole.g T.f_NoWhole__init__.b .nil pass0 (pa_cons pe_non pa_nil)))) pss_nil) (pss_cons (ps_set (i := 5) sc_fourth_by.nd rfl (Or.inl rfl) (pe_call G_whole_below (hr.mono (by decide)) (by rfl) T.f_whole_below.g T.f_whole_below.F.kp T.f_whole_below.b .nil pass0 (pa_cons (pv 4) pa_nil))) (pss_one (ps_ret (pe_ifExp (pt_cmpR op_eq (pe_call G_side_of (hr.mono (by decide)) (by rfl) T.f_side_of.g T.f_side_of.F.kp T.f_side_of.b .nil pass0 (pa_cons (pv 5) (pa_cons (pv 4) pa_nil))) pe_int (nomark _)) (pe_make T.mk_Whole G_Whole__init__ (hr.mono (by decide)) (by rfl) T.k_Whole.g T.f_Whole__init__.b .nil pass0 (pa_cons (pv 5) pa_nil)) (pe_make T.mk_NoWhole G_NoWhole__init__ (hr.mono (by decide)) (by rfl) T.k_NoWhole.g T.f_NoWhole__init__.b .nil pass0 (pa_cons (pv 5) pa_nil)))))))))), ?_⟩
    refine ⟨_, rfl, sz2, fun t1 h1 => ⟨_, rfl, sz2, fun t2 h2 => ⟨_, rfl, sz2, fun t3 h3 => ⟨sz3, fun l h5 => ?_⟩⟩⟩⟩
    obtain ⟨sm, nm⟩ := named3 (K := K) h1 h2 h3 h5 th.a th.b th.c (o := .lst [.ref t1, .ref t2, .ref t3])
    refine ⟨l, _, _, rfl, .of upd_same, nm, ?_⟩
    refine ⟨_, rfl, p, rfl, th.p.1, th.p.2, ?_⟩
    refine ⟨_, rfl, _, rfl, _, rfl, _, rfl, a, b, c, p, rfl, th, fun u H1 d1 d2 fu hu s1 => ?_, fun H1 nq s1 => ?_⟩
    · have ok := qOk th d1 d2
      have s01 := sm.trans s1
      refine ⟨_, rfl, rfl, false, congrArg V.bl (decide_eq_false (fun z => nomatch z)), iteF ?_⟩
      refine ⟨_, rfl, u, _, _, _, rfl, hu, ok, fun n n0 n1 sl sh => ?_⟩
      refine ⟨_, rfl, _, rfl, n, u, _, _, _, rfl, hu, ok.t2, ok.bw, by omega, rfl, _, rfl, ite2 (fun e => ?_) (fun e => ?_)⟩
      · have e0 : side (qT p) (qTop a b c p) (qBot a b c p) n = 0 := V.int.inj (of_decide_eq_true e)
        have n2 : n ≠ 0 := fun z => by
          rw [z] at e0
          have := side_neg ok
          omega
        exact ⟨_, rfl, mkW n H1 s01 (by
          show (decide _ && decide _) = true
          rw [decide_eq_true (show 1 ≤ n ∧ n ≤ 1000000 by omega), decide_eq_true e0]
          rfl)⟩
      · have e0 : ¬ side (qT p) (qTop a b c p) (qBot a b c p) n = 0 := fun z => e (decide_eq_true (congrArg V.int z))
        exact ⟨_, rfl, mkN _ (.int n) H1 s01 (fun _ => rfl) (by
          show (decide _ && (decide _ && (decide _ && decide _))) = true
          rw [decide_eq_true (show Qd a b c p from ⟨d1, d2⟩), decide_eq_true (show 0 ≤ n ∧ n ≤ 1000000 by omega), decide_eq_true (show side (qT p) (qTop a b c p) (qBot a b c p) n < 0 by omega), decide_eq_true sh]
          rfl)⟩
    · refine ⟨_, rfl, rfl, true, congrArg V.bl (decide_eq_true rfl), iteT ?_⟩
      exact mkN .non .non H1 (sm.trans s1) (fun _ => rfl) (by
        show (!decide (Qd a b c p)) = true
        rw [decide_eq_false (show ¬ Qd a b c p from nq)]
        rfl)
end
end Q

namespace Q
open PySem PySem.Spec PyProof.Rows L2
section
variable {P : Program} {w : World} {K : PySem.W.Frag} {mg : Str → Option Value} {base : Heap}
theorem ne_cls (T : Txt K mg) : T.k_NoWhole.a ≠ T.k_Whole.a := fun e => by
  have := T.is_NoWhole_Whole
  rw [e, T.is_Whole_Whole] at this
  cases this
theorem whole_qd {a b c p n : Int} (th : Th a b c p) (n1 : 1 ≤ n) (h : side (qT p) (qTop a b c p) (qBot a b c p) n = 0) : Qd a b c p := by
  obtain ⟨⟨a1, a2⟩, ⟨b1, b2⟩, ⟨c1, c2⟩, p1, p2⟩ := th
  have np : 0 < n ^ qT p := ipow_pos (by omega) _
  unfold side at h
  unfold Qd
  unfold qTop qBot at *
  by_cases e : p = 0
  · simp only [if_pos e] at *
    exact ⟨Int.mul_pos (by omega) (by omega), by omega⟩
  · by_cases e1 : 0 < p
    · simp only [if_neg e, if_pos e1] at *
      exact ⟨by omega, by decide⟩
    · simp only [if_neg e, if_neg e1] at *
      have t1 : 0 < (a * b * c) ^ (-p).toNat := ipow_pos (Int.mul_pos (Int.mul_pos (by omega) (by omega)) (by omega)) _
      refine ⟨t1, ?_⟩
      exact Int.pos_of_mul_pos_right (a := n ^ qT p) (by omega) (by omega)
/-- what is no Whole and no NoWhole -/
def Odd (T : Txt K mg) (H : Hp) (v : V) : Prop := v = .non ∨ (∃ i, v = .int i) ∨ (∃ s, v = .str s) ∨ (∃ t xs, v = .ref t ∧ H t = some (.tup xs)) ∨
  ∃ x C dx fs, v = .ref x ∧ H x = some (.ins C dx fs) ∧ PySem.W.makesIn K C = true ∧ C ≠ T.k_Whole.a ∧ C ≠ T.k_NoWhole.a
theorem Odd.same {T : Txt K mg} {H H' : Hp} {v : V} (h : Odd T H v) (s : Same H H') : Odd T H' v := by
  rcases h with h | h | h | ⟨t, xs, e, f⟩ | ⟨x, C, dx, fs, e, f, g⟩
  · exact .inl h
  · exact .inr (.inl h)
  · exact .inr (.inr (.inl h))
  · exact .inr (.inr (.inr (.inl ⟨t, xs, e, s _ _ f⟩)))
  · exact .inr (.inr (.inr (.inr ⟨x, C, dx, fs, e, s _ _ f, g⟩)))
theorem BPat.same {C : Addr} {at_ : Str} {H H' : Hp} {x : Addr} {wd : Str} {k : Kd} (h : BPat C at_ H x wd k) (s : Same H H') : BPat C at_ H' x wd k := by
  obtain ⟨dx, q, v, h1, h2, h3⟩ := h
  exact ⟨dx, q, v, s _ _ h1, s _ _ h2, h3.same s⟩
theorem Pap.same {T : Txt K mg} {H H' : Hp} {x : Addr} {w : Bool} {k : Kd} (h : Pap T H x w k) (s : Same H H') : Pap T H' x w k := h.imp (fun h => ⟨h.1, h.2.same s⟩) fun h => ⟨h.1, h.2.same s⟩
def spShows (T : Txt K mg) : Sp := fun vs H Q _ => ∃ (a b c p : Int) (v : V) (r : Bool), vs = [.int a, .int b, .int c, .int p, v] ∧ Th a b c p ∧
  ((r = false ∧ Odd T H v) ∨ ∃ (x : Addr) (w : Bool) (k : Kd), v = .ref x ∧ Pap T H x w k ∧ r = rightB w k a b c p) ∧ ∀ H', Same H H' → Q (.bl r) H'
theorem ok_shows_fourth_by (T : Txt K mg) : FnOk P w K mg base CX0 5 T.f_shows_fourth_by.a T.f_shows_fourth_by.fd ["a", "b", "c", "power", "value"] (spShows T) := by
  have G_is_withinV := ok_is_withinV (P := P) (w := w) (base := base) T
  have G_need_numbers := ok_need_numbers (P := P) (w := w) (base := base) T
  have G_need_power := ok_need_power (P := P) (w := w) (base := base) T
  have G_fourth_quotient := ok_fourth_quotient (P := P) (w := w) (base := base) T
  have G_side_of := ok_side_of (P := P) (w := w) (base := base) T
  have G_is_within := ok_is_within (P := P) (w := w) (base := base) T
  refine T.f_shows_fourth_by.F.ok sc_shows_fourth_by (fun vs H Q E h => ?_) (fun cdv A outer s H vs Q E hr h => ?_)
  · obtain ⟨a, b, c, p, v, r, rfl, _⟩ := h
    rfl
  · obtain ⟨a, b, c, p, v, r, rfl, th, hv, q⟩ := h
    refine ⟨_, (pss_cons (ps_expr (pe_call G_need_numbers (hr.mono (by decide)) (by rfl) T.f_need_numbers.g T.f_need_numbers.F.kp T.f_need_numbers.b .nil pass0 (pa_cons (pe_lst (pa_cons (pe_tup (pa_cons pe_str (pa_cons (pv 0) pa_nil))) (pa_cons (pe_tup (pa_cons pe_str (pa_cons (pv 1) pa_nil))) (pa_cons (pe_tup (pa_cons pe_str (pa_cons (pv 2) pa_nil))) pa_nil)))) (pa_cons (pe_glob (v := .int (99)) rfl T.c_MOST_SMALL ⟨_, rfl⟩) pa_nil)))) (pss_cons (ps_expr (pe_call G_need_power (hr.mono (by decide)) (by rfl) T.f_need_power.g T.f_need_power.F.kp T.f_need_power.b .nil pass0 (pa_cons (pv 3) pa_nil))) (pss_cons (ps_set (i := 5) sc_shows_fourth_by.nd rfl (Or.inl rfl) (pe_call G_fourth_quotient (hr.mono (by decide)) (by rfl) T.f_fourth_quotient.g T.f_fourth_quotient.F.kp T.f_fourth_quotient.b .nil pass0 (pa_cons (pv 0) (pa_cons (pv 1) (pa_cons (pv 2) (pa_cons (pv 3) pa_nil)))))) (pss_cons (ps_if (pt_cmpR (Ru.OpR.or op_is_cls Ru.op_isTR) (pe_callTy (Ru.CallR.or cr_type call_type1) (by rfl) T.n_type (by decide +kernel) (pa_cons (pv 4) pa_nil)) (pe_glob (v := .ref T.k_Whole.a) rfl T.k_Whole.g rfl) (nomark _)) (pss_cons (ps_if (PW.pt (pw_or (pt_cmpR op_isN (pv 5) pe_non (nomark _)) (pw_or1 (pt_not (pt_val (pe_call G_is_withinV (hr.mono (by decide)) (by rfl) T.f_is_within.g T.f_is_within.F.kp T.f_is_within.b .nil pass0 (pa_cons (pe_fld (pv 4) rfl) (pa_cons pe_int (pa_cons (pe_glob (v := .int (1000000)) rfl T.c_MOST_NUMBER ⟨_, rfl⟩) pa_nil))))))))) (pss_one (ps_ret pe_bl)) pss_nil) (pss_one (ps_ret (pe_cmpR op_eq (pe_call G_side_of (hr.mono (by decide)) (by rfl) T.f_side_of.g T.f_side_of.F.kp T.f_side_of.b .nil pass0 (pa_cons (pe_fld (pv 4) rfl) (pa_cons (pv 5) pa_nil))) pe_int (nomark _))))) pss_nil) (pss_cons (ps_if (pt_cmpR (Ru.OpR.or op_isnot_cls Ru.op_isnotTR) (pe_callTy (Ru.CallR.or cr_type call_type1) (by rfl) T.n_type (by decide +kernel) (pa_cons (pv 4) pa_nil)) (pe_glob (v := .ref T.k_NoWhole.a) rfl T.k_NoWhole.g rfl) (nomark _)) (pss_one (ps_ret pe_bl)) pss_nil) (pss_cons (ps_if (PW.pt (pw_or (pt_cmpR op_isN (pv 5) pe_non (nomark _)) (pw_or1 (pt_not (pt_val (pe_call G_is_withinV (hr.mono (by decide)) (by rfl) T.f_is_within.g T.f_is_within.F.kp T.f_is_within.b .nil pass0 (pa_cons (pe_fld (pv 4) rfl) (pa_cons pe_int (pa_cons (pe_glob (v := .int (1000000)) rfl T.c_MOST_NUMBER ⟨_, rfl⟩) pa_nil))))))))) (pss_one (ps_ret (pe_and (pe_cmpR op_isN (pv 5) pe_non (nomark _)) (pe_one (pe_cmpR op_isN (pe_fld (pv 4) rfl) pe_non (nomark _)))))) pss_nil) (pss_one (ps_ret (Ru.pe_chainN (pe_call G_side_of (hr.mono (by decide)) (by rfl) T.f_side_of.g T.f_side_of.F.kp T.f_side_of.b .nil pass0 (pa_cons (pe_fld (pv 4) rfl) (pa_cons (pv 5) pa_nil))) (Ru.pec_link op_lt pe_int (Ru.pec_last op_lt (pe_call G_side_of (hr.mono (by decide)) (by rfl) T.f_side_of.g T.f_side_of.F.kp T.f_side_of.b .nil pass0 (pa_cons (pe_op op_add (pe_fld (pv 4) rfl) pe_int) (pa_cons (pv 5) pa_nil)))))))))))))), ?_⟩
    refine ⟨_, rfl, sz2, fun t1 h1 => ⟨_, rfl, sz2, fun t2 h2 => ⟨_, rfl, sz2, fun t3 h3 => ⟨sz3, fun l h5 => ?_⟩⟩⟩⟩
    obtain ⟨sm, nm⟩ := named3 (K := K) h1 h2 h3 h5 th.a th.b th.c (o := .lst [.ref t1, .ref t2, .ref t3])
    refine ⟨l, _, _, rfl, .of upd_same, nm, ?_⟩
    refine ⟨_, rfl, p, rfl, th.p.1, th.p.2, ?_⟩
    refine ⟨_, rfl, _, rfl, _, rfl, _, rfl, a, b, c, p, rfl, th, fun u H1 d1 d2 fu hu s1 => ?_, fun H1 nq s1 => ?_⟩
    · have ok := qOk th d1 d2
      have s01 := sm.trans s1
      have qd : Qd a b c p := ⟨d1, d2⟩
      rcases hv with ⟨rfl, od⟩ | ⟨x, w, k, rfl, pp, rfl⟩
      · rcases od.same s01 with rfl | ⟨i, rfl⟩ | ⟨s, rfl⟩ | ⟨t, xs, rfl, f⟩ | ⟨x, C, dx, fs, rfl, f, mk, n1, n2⟩
        · refine ⟨_, rfl, .inr ⟨_, "NoneType", rfl, .non, .inr ⟨"NoneType", _, rfl, rfl, false, rfl, iteF ?_⟩⟩⟩
          refine ⟨_, rfl, .inr ⟨_, "NoneType", rfl, .non, .inr ⟨"NoneType", _, rfl, rfl, true, rfl, iteT ?_⟩⟩⟩
          exact q _ s01
        · refine ⟨_, rfl, .inr ⟨_, "int", rfl, .int _, .inr ⟨"int", _, rfl, rfl, false, rfl, iteF ?_⟩⟩⟩
          refine ⟨_, rfl, .inr ⟨_, "int", rfl, .int _, .inr ⟨"int", _, rfl, rfl, true, rfl, iteT ?_⟩⟩⟩
          exact q _ s01
        · refine ⟨_, rfl, .inr ⟨_, "str", rfl, .str _, .inr ⟨"str", _, rfl, rfl, false, rfl, iteF ?_⟩⟩⟩
          refine ⟨_, rfl, .inr ⟨_, "str", rfl, .str _, .inr ⟨"str", _, rfl, rfl, true, rfl, iteT ?_⟩⟩⟩
          exact q _ s01
        · refine ⟨_, rfl, .inr ⟨_, "tuple", rfl, .tup (.of f), .inr ⟨"tuple", _, rfl, rfl, false, rfl, iteF ?_⟩⟩⟩
          refine ⟨_, rfl, .inr ⟨_, "tuple", rfl, .tup (.of f), .inr ⟨"tuple", _, rfl, rfl, true, rfl, iteT ?_⟩⟩⟩
          exact q _ s01
        · refine ⟨_, rfl, .inl ⟨x, C, dx, fs, rfl, f, .inl ⟨_, _, rfl, rfl, .inr ⟨mk, T.mk_Whole.makes⟩, false, congrArg V.bl (decide_eq_false n1), iteF ?_⟩⟩⟩
          refine ⟨_, rfl, .inl ⟨x, C, dx, fs, rfl, f, .inl ⟨_, _, rfl, rfl, .inr ⟨mk, T.mk_NoWhole.makes⟩, true, congrArg V.bl (by rw [decide_eq_false n2]; rfl), iteT ?_⟩⟩⟩
          exact q _ s01
      · rcases pp.same s01 with ⟨rfl, ⟨dx, pq, v, hx, hpq, hv⟩⟩ | ⟨rfl, ⟨dx, pq, v, hx, hpq, hv⟩⟩
        · refine ⟨_, rfl, .inl ⟨x, _, dx, _, rfl, hx, .inl ⟨_, _, rfl, rfl, .inl rfl, true, congrArg V.bl (decide_eq_true rfl), iteT ?_⟩⟩⟩
          refine ⟨_, rfl, rfl, false, congrArg V.bl (decide_eq_false (fun z => nomatch z)), iteF ⟨_, rfl, x, _, dx, _, _, rfl, hx, T.k_Whole.cl, T.na_Whole_number, bp_at, v, k, 1, 1000000, rfl, hv, inW k 1 1000000, rfl, ?_⟩⟩
          cases e : inW k 1 1000000 with
          | false =>
            have z : rightB true k a b c p = false := by
              cases k with
              | int n => show (decide _ && _) = false; rw [show decide (1 ≤ n ∧ n ≤ 1000000) = false from e]; rfl
              | _ => rfl
            exact iteT (z ▸ q _ s01)
          | true =>
            refine iteF ?_
            cases k with
            | int n =>
              obtain rfl : v = .int n := hv
              have e1 : 1 ≤ n ∧ n ≤ 1000000 := of_decide_eq_true e
              refine ⟨_, rfl, x, _, dx, _, _, rfl, hx, T.k_Whole.cl, T.na_Whole_number, bp_at, _, rfl, n, u, _, _, _, rfl, hu, ok.t2, ok.bw, by omega, rfl, ?_⟩
              have q2 := q _ s01
              have z : rightB true (.int n) a b c p = decide (V.int (side (qT p) (qTop a b c p) (qBot a b c p) n) = V.int 0) := by
                show (decide _ && decide _) = _
                rw [decide_eq_true e1, dec_int]
                rfl
              rw [z] at q2
              exact q2
            | _ => cases e
        · refine ⟨_, rfl, .inl ⟨x, _, dx, _, rfl, hx, .inl ⟨_, _, rfl, rfl, .inr ⟨T.mk_NoWhole.makes, T.mk_Whole.makes⟩, false, congrArg V.bl (decide_eq_false (ne_cls T)), iteF ?_⟩⟩⟩
          refine ⟨_, rfl, .inl ⟨x, _, dx, _, rfl, hx, .inl ⟨_, _, rfl, rfl, .inl rfl, false, congrArg V.bl (by rw [decide_eq_true rfl]; rfl), iteF ?_⟩⟩⟩
          refine ⟨_, rfl, rfl, false, congrArg V.bl (decide_eq_false (fun z => nomatch z)), iteF ⟨_, rfl, x, _, dx, _, _, rfl, hx, T.k_NoWhole.cl, T.na_NoWhole_low, bp_at, v, k, 0, 1000000, rfl, hv, inW k 0 1000000, rfl, ?_⟩⟩
          cases e : inW k 0 1000000 with
          | false =>
            have z : rightB false k a b c p = false := by
              cases k with
              | int n => show (decide _ && (decide _ && _)) = false; rw [show decide (0 ≤ n ∧ n ≤ 1000000) = false from e, Bool.false_and, Bool.and_false]
              | non => show (!decide _) = false; rw [decide_eq_true qd]; rfl
              | _ => rfl
            exact iteT ⟨_, rfl, rfl, false, congrArg V.bl (decide_eq_false (fun z => nomatch z)), iteF (z ▸ q _ s01)⟩
          | true =>
            refine iteF ?_
            cases k with
            | int n =>
              obtain rfl : v = .int n := hv
              have e1 : 0 ≤ n ∧ n ≤ 1000000 := of_decide_eq_true e
              have q2 := q _ s01
              refine ⟨_, rfl, x, _, dx, _, _, rfl, hx, T.k_NoWhole.cl, T.na_NoWhole_low, bp_at, _, rfl, n, u, _, _, _, rfl, hu, ok.t2, ok.bw, by omega, _, _, rfl, rfl, _, rfl, ite2 (fun e2 => ?_) (fun e2 => ?_)⟩
              · refine ⟨_, rfl, x, _, dx, _, _, rfl, hx, T.k_NoWhole.cl, T.na_NoWhole_low, bp_at, _, _, rfl, rfl, _, rfl, n + 1, u, _, _, _, rfl, hu, ok.t2, ok.bw, by omega, _, _, rfl, rfl, ?_⟩
                have z : rightB false (.int n) a b c p = decide (0 < side (qT p) (qTop a b c p) (qBot a b c p) (n + 1)) := by
                  show (decide _ && (decide _ && (decide _ && decide _))) = _
                  rw [decide_eq_true qd, decide_eq_true e1, show decide (side (qT p) (qTop a b c p) (qBot a b c p) n < 0) = true from e2]
                  rfl
                rw [z] at q2
                exact q2
              · have z : rightB false (.int n) a b c p = false := by
                  show (decide _ && (decide _ && (decide _ && decide _))) = _
                  rw [show decide (side (qT p) (qTop a b c p) (qBot a b c p) n < 0) = false from Bool.eq_false_iff.mpr e2, Bool.false_and, Bool.and_false, Bool.and_false]
                rw [z] at q2
                exact q2
            | _ => cases e
    · have s01 := sm.trans s1
      rcases hv with ⟨rfl, od⟩ | ⟨x, w, k, rfl, pp, rfl⟩
      · rcases od.same s01 with rfl | ⟨i, rfl⟩ | ⟨s, rfl⟩ | ⟨t, xs, rfl, f⟩ | ⟨x, C, dx, fs, rfl, f, mk, n1, n2⟩
        · refine ⟨_, rfl, .inr ⟨_, "NoneType", rfl, .non, .inr ⟨"NoneType", _, rfl, rfl, false, rfl, iteF ?_⟩⟩⟩
          refine ⟨_, rfl, .inr ⟨_, "NoneType", rfl, .non, .inr ⟨"NoneType", _, rfl, rfl, true, rfl, iteT ?_⟩⟩⟩
          exact q _ s01
        · refine ⟨_, rfl, .inr ⟨_, "int", rfl, .int _, .inr ⟨"int", _, rfl, rfl, false, rfl, iteF ?_⟩⟩⟩
          refine ⟨_, rfl, .inr ⟨_, "int", rfl, .int _, .inr ⟨"int", _, rfl, rfl, true, rfl, iteT ?_⟩⟩⟩
          exact q _ s01
        · refine ⟨_, rfl, .inr ⟨_, "str", rfl, .str _, .inr ⟨"str", _, rfl, rfl, false, rfl, iteF ?_⟩⟩⟩
          refine ⟨_, rfl, .inr ⟨_, "str", rfl, .str _, .inr ⟨"str", _, rfl, rfl, true, rfl, iteT ?_⟩⟩⟩
          exact q _ s01
        · refine ⟨_, rfl, .inr ⟨_, "tuple", rfl, .tup (.of f), .inr ⟨"tuple", _, rfl, rfl, false, rfl, iteF ?_⟩⟩⟩
          refine ⟨_, rfl, .inr ⟨_, "tuple", rfl, .tup (.of f), .inr ⟨"tuple", _, rfl, rfl, true, rfl, iteT ?_⟩⟩⟩
          exact q _ s01
        · refine ⟨_, rfl, .inl ⟨x, C, dx, fs, rfl, f, .inl ⟨_, _, rfl, rfl, .inr ⟨mk, T.mk_Whole.makes⟩, false, congrArg V.bl (decide_eq_false n1), iteF ?_⟩⟩⟩
          refine ⟨_, rfl, .inl ⟨x, C, dx, fs, rfl, f, .inl ⟨_, _, rfl, rfl, .inr ⟨mk, T.mk_NoWhole.makes⟩, true, congrArg V.bl (by rw [decide_eq_false n2]; rfl), iteT ?_⟩⟩⟩
          exact q _ s01
      · rcases pp.same s01 with ⟨rfl, ⟨dx, pq, v, hx, hpq, hv⟩⟩ | ⟨rfl, ⟨dx, pq, v, hx, hpq, hv⟩⟩
        · refine ⟨_, rfl, .inl ⟨x, _, dx, _, rfl, hx, .inl ⟨_, _, rfl, rfl, .inl rfl, true, congrArg V.bl (decide_eq_true rfl), iteT ?_⟩⟩⟩
          have z : rightB true k a b c p = false := by
            cases k with
            | int n =>
              refine Bool.eq_false_iff.mpr fun h => nq ?_
              have h' : (decide (1 ≤ n ∧ n ≤ 1000000) && decide (side (qT p) (qTop a b c p) (qBot a b c p) n = 0)) = true := h
              rw [Bool.and_eq_true, decide_eq_true_eq, decide_eq_true_eq] at h'
              exact whole_qd th h'.1.1 h'.2
            | _ => rfl
          exact ⟨_, rfl, rfl, true, congrArg V.bl (decide_eq_true rfl), iteT (iteT (z ▸ q _ s01))⟩
        · refine ⟨_, rfl, .inl ⟨x, _, dx, _, rfl, hx, .inl ⟨_, _, rfl, rfl, .inr ⟨T.mk_NoWhole.makes, T.mk_Whole.makes⟩, false, congrArg V.bl (decide_eq_false (ne_cls T)), iteF ?_⟩⟩⟩
          refine ⟨_, rfl, .inl ⟨x, _, dx, _, rfl, hx, .inl ⟨_, _, rfl, rfl, .inl rfl, false, congrArg V.bl (by rw [decide_eq_true rfl]; rfl), iteF ?_⟩⟩⟩
          refine ⟨_, rfl, rfl, true, congrArg V.bl (decide_eq_true rfl), iteT (iteT ⟨_, rfl, rfl, true, congrArg V.bl (decide_eq_true rfl), iteT ⟨_, rfl, x, _, dx, _, _, rfl, hx, T.k_NoWhole.cl, T.na_NoWhole_low, bp_at, rfl, ?_⟩⟩)⟩
          have nq' : ¬ Qd a b c p := nq
          have z : rightB false k a b c p = decide (v = .non) := by
            cases k with
            | int n =>
              obtain rfl : v = .int n := hv
              show (decide (Qd a b c p) && _) = _
              rw [decide_eq_false nq', decide_eq_false (show ¬ V.int n = V.non from fun z => nomatch z)]
              rfl
            | non =>
              obtain rfl : v = .non := hv
              show (!decide _) = _
              rw [decide_eq_false nq', decide_eq_true rfl]
              rfl
            | bl x =>
              obtain rfl : v = .bl x := hv
              exact (decide_eq_false (fun z => nomatch z)).symm
            | str x =>
              obtain rfl : v = .str x := hv
              exact (decide_eq_false (fun z => nomatch z)).symm
            | tup x =>
              obtain ⟨t, rfl, _⟩ := hv
              exact (decide_eq_false (fun z => nomatch z)).symm
          have q2 := q _ s01
          rw [z] at q2
          exact q2
def spTru (x : Bool) : Sp := fun vs H Q _ => ∃ a : Addr, vs = [.ref a] ∧ Q (.bl x) H
theorem ok_Paper__bool__ (T : Txt K mg) : FnOk P w K mg base CX0 1 T.f_Paper__bool__.a T.f_Paper__bool__.fd ["self"] (spTru true) := by
  refine T.f_Paper__bool__.F.ok sc_Paper__bool__ (fun vs H Q E h => ?_) (fun cdv A outer s H vs Q E hr h => ?_)
  · obtain ⟨a, rfl, _⟩ := h
    rfl
  · obtain ⟨a, rfl, q⟩ := h
    refine ⟨_, (pss_one (ps_ret pe_bl)), ?_⟩
    exact q
theorem ok_Denial__bool__ (T : Txt K mg) : FnOk P w K mg base CX0 1 T.f_Denial__bool__.a T.f_Denial__bool__.fd ["self"] (spTru false) := by
  refine T.f_Denial__bool__.F.ok sc_Denial__bool__ (fun vs H Q E h => ?_) (fun cdv A outer s H vs Q E hr h => ?_)
  · obtain ⟨a, rfl, _⟩ := h
    rfl
  · obtain ⟨a, rfl, q⟩ := h
    refine ⟨_, (pss_one (ps_ret pe_bl)), ?_⟩
    exact q
theorem raw_bP (T : Txt K mg) : FnR P w K mg base CX0 1 T.f_Paper__bool__.a (spTru true) :=
  ((ok_Paper__bool__ (P := P) (w := w) (base := base) T).raw T.f_Paper__bool__.b .nil).imp fun vs H Q E h => by
    rw [List.append_nil]
    exact h
theorem raw_bD (T : Txt K mg) : FnR P w K mg base CX0 1 T.f_Denial__bool__.a (spTru false) :=
  ((ok_Denial__bool__ (P := P) (w := w) (base := base) T).raw T.f_Denial__bool__.b .nil).imp fun vs H Q E h => by
    rw [List.append_nil]
    exact h
/-- two papers of one class with the same value, of those that a right paper may hold -/
def flatK : Kd → Bool
  | .int _ => true
  | .non => true
  | _ => false
def spEqB (C : Addr) (at_ : Str) : Sp := fun vs H Q _ => ∃ (x y : Addr) (wd : Str) (k : Kd), vs = [.ref x, .ref y] ∧ BPat C at_ H x wd k ∧ BPat C at_ H y wd k ∧ flatK k = true ∧ Q (.bl true) H
theorem flat_data {K : PySem.W.Frag} {H : Hp} {v u : V} {k : Kd} (f : flatK k = true) (h : Val H v k) (h' : Val H u k) : ∃ d, DpAll K H [v] [d] ∧ DpAll K H [u] [d] ∧ SeqAt.shaped (.tuple [d]) = true ∧ PyData.eqv (.tuple [d]) (.tuple [d]) = true := by
  cases k with
  | int i =>
    obtain rfl : v = .int i := h
    obtain rfl : u = .int i := h'
    exact ⟨.int i, .cons (.int _) .nil, .cons (.int _) .nil, rfl, by simp [PyData.eqv, PyData.eqvAll]⟩
  | non =>
    obtain rfl : v = .non := h
    obtain rfl : u = .non := h'
    exact ⟨.none, .cons .non .nil, .cons .non .nil, rfl, by simp [PyData.eqv, PyData.eqvAll]⟩
  | _ => cases f
theorem ok_Paper__eq__ (T : Txt K mg) : FnOk P w K mg base CX0 1 T.f_Paper__eq__.a T.f_Paper__eq__.fd ["self", "other"] (spEqB T.k_Whole.a "number") := by
  refine T.f_Paper__eq__.F.ok sc_Paper__eq__ (fun vs H Q E h => ?_) (fun cdv A outer s H vs Q E hr h => ?_)
  · obtain ⟨x, y, wd, n, rfl, _⟩ := h
    rfl
  · obtain ⟨x, y, wd, k, rfl, ⟨dx, p, v, hx, hp, hv⟩, ⟨dy, r, u, hy, hr', hu⟩, fk, q⟩ := h
    refine ⟨_, (pss_one (ps_ret (pe_and (pe_cmpR op_is_cls (pe_callTy cr_type (by rfl) T.n_type (by decide +kernel) (pa_cons (pv 0) pa_nil)) (pe_callTy cr_type (by rfl) T.n_type (by decide +kernel) (pa_cons (pv 1) pa_nil)) (nomark _)) (pe_and (pe_cmpR op_eq (pe_fld (pv 0) rfl) (pe_fld (pv 1) rfl) (nomark _)) (pe_one (pe_cmpR (op_eqD hr.units) (pe_fld (pv 0) rfl) (pe_fld (pv 1) rfl) (nomark _))))))), ?_⟩
    have k1 : ¬ ("word" : Str) = "number" := by decide +kernel
    have k2 : ¬ ("parts" : Str) = "number" := by decide +kernel
    obtain ⟨d, d1, d2, d3, d4⟩ := flat_data (K := K) fk hv hu
    refine ⟨_, rfl, x, _, dx, _, rfl, hx, _, rfl, y, _, dy, _, rfl, hy, _, _, rfl, rfl, .inl rfl, true, congrArg V.bl (decide_eq_true rfl), iteT ?_⟩
    refine ⟨_, rfl, x, _, dx, _, _, rfl, hx, T.k_Whole.cl, T.na_Whole_word, bp_word k1, _, rfl, y, _, dy, _, _, rfl, hy, T.k_Whole.cl, T.na_Whole_word, bp_word k1, rfl, true, congrArg V.bl (decide_eq_true rfl), iteT ?_⟩
    refine ⟨_, rfl, x, _, dx, _, _, rfl, hx, T.k_Whole.cl, T.na_Whole_parts, bp_parts k2, _, rfl, y, _, dy, _, _, rfl, hy, T.k_Whole.cl, T.na_Whole_parts, bp_parts k2, ?_⟩
    refine ⟨.tuple [d], .tuple [d], .tup (.of hp) d1, .tup (.of hr') d2, d3, d3, ?_⟩
    rw [d4]
    exact q
theorem ok_Denial__eq__ (T : Txt K mg) : FnOk P w K mg base CX0 1 T.f_Denial__eq__.a T.f_Denial__eq__.fd ["self", "other"] (spEqB T.k_NoWhole.a "low") := by
  refine T.f_Denial__eq__.F.ok sc_Denial__eq__ (fun vs H Q E h => ?_) (fun cdv A outer s H vs Q E hr h => ?_)
  · obtain ⟨x, y, wd, n, rfl, _⟩ := h
    rfl
  · obtain ⟨x, y, wd, k, rfl, ⟨dx, p, v, hx, hp, hv⟩, ⟨dy, r, u, hy, hr', hu⟩, fk, q⟩ := h
    refine ⟨_, (pss_one (ps_ret (pe_and (pe_cmpR op_is_cls (pe_callTy cr_type (by rfl) T.n_type (by decide +kernel) (pa_cons (pv 0) pa_nil)) (pe_callTy cr_type (by rfl) T.n_type (by decide +kernel) (pa_cons (pv 1) pa_nil)) (nomark _)) (pe_and (pe_cmpR op_eq (pe_fld (pv 0) rfl) (pe_fld (pv 1) rfl) (nomark _)) (pe_one (pe_cmpR (op_eqD hr.units) (pe_fld (pv 0) rfl) (pe_fld (pv 1) rfl) (nomark _))))))), ?_⟩
    have k1 : ¬ ("word" : Str) = "low" := by decide +kernel
    have k2 : ¬ ("parts" : Str) = "low" := by decide +kernel
    obtain ⟨d, d1, d2, d3, d4⟩ := flat_data (K := K) fk hv hu
    refine ⟨_, rfl, x, _, dx, _, rfl, hx, _, rfl, y, _, dy, _, rfl, hy, _, _, rfl, rfl, .inl rfl, true, congrArg V.bl (decide_eq_true rfl), iteT ?_⟩
    refine ⟨_, rfl, x, _, dx, _, _, rfl, hx, T.k_NoWhole.cl, T.na_NoWhole_word, bp_word k1, _, rfl, y, _, dy, _, _, rfl, hy, T.k_NoWhole.cl, T.na_NoWhole_word, bp_word k1, rfl, true, congrArg V.bl (decide_eq_true rfl), iteT ?_⟩
    refine ⟨_, rfl, x, _, dx, _, _, rfl, hx, T.k_NoWhole.cl, T.na_NoWhole_parts, bp_parts k2, _, rfl, y, _, dy, _, _, rfl, hy, T.k_NoWhole.cl, T.na_NoWhole_parts, bp_parts k2, ?_⟩
    refine ⟨.tuple [d], .tuple [d], .tup (.of hp) d1, .tup (.of hr') d2, d3, d3, ?_⟩
    rw [d4]
    exact q
theorem raw_eqP (T : Txt K mg) : FnR P w K mg base CX0 1 T.f_Paper__eq__.a (spEqB T.k_Whole.a "number") :=
  ((ok_Paper__eq__ (P := P) (w := w) (base := base) T).raw T.f_Paper__eq__.b .nil).imp fun vs H Q E h => by
    rw [List.append_nil]
    exact h
theorem raw_eqD (T : Txt K mg) : FnR P w K mg base CX0 1 T.f_Denial__eq__.a (spEqB T.k_NoWhole.a "low") :=
  ((ok_Denial__eq__ (P := P) (w := w) (base := base) T).raw T.f_Denial__eq__.b .nil).imp fun vs H Q E h => by
    rw [List.append_nil]
    exact h
/-- x != y (or x == y) of two right papers of one class and value -/
def rPapEq (T : Txt K mg) (eq : Bool) : R2 := fun x y H Q => ∃ (a b : Addr) (w : Bool) (k : Kd), x = .ref a ∧ y = .ref b ∧ Pap T H a w k ∧ Pap T H b w k ∧ flatK k = true ∧ Q (.bl eq) H
theorem op_papNe {X : Cx} (T : Txt X.K X.mg) (G1 : FnR X.prog X.w X.K X.mg X.base CX0 1 T.f_Paper__eq__.a (spEqB T.k_Whole.a "number")) (G2 : FnR X.prog X.w X.K X.mg X.base CX0 1 T.f_Denial__eq__.a (spEqB T.k_NoWhole.a "low")) (hr : Room 2 X.A) :
    OpR X (compareOp .NotEq) (rPapEq T false) := by
  intro pins s σ H x y v u Q I rx ry h
  obtain ⟨a, b, w, k, rfl, rfl, ⟨e, ha⟩ | ⟨e, ha⟩, hb, fk, q⟩ := h
  · rcases hb with ⟨_, hb⟩ | ⟨z, _⟩
    · obtain ⟨dx, p, v1, h1, h2⟩ := id ha
      obtain ⟨dy, p', v2, h3, h4⟩ := id hb
      exact Ru.op_neI T.eq_Whole G1 hr pass0 pins s σ H _ _ v u Q I rx ry ⟨a, b, dx, dy, _, _, rfl, rfl, h1, h3, a, b, _, k, rfl, ha, hb, fk, true, rfl, q⟩
    · rw [e] at z
      cases z
  · rcases hb with ⟨z, _⟩ | ⟨_, hb⟩
    · rw [e] at z
      cases z
    · obtain ⟨dx, p, v1, h1, h2⟩ := id ha
      obtain ⟨dy, p', v2, h3, h4⟩ := id hb
      exact Ru.op_neI T.eq_NoWhole G2 hr pass0 pins s σ H _ _ v u Q I rx ry ⟨a, b, dx, dy, _, _, rfl, rfl, h1, h3, a, b, _, k, rfl, ha, hb, fk, true, rfl, q⟩
end
end Q

namespace Q
open PySem PySem.Spec PyProof.Rows L2
section
variable {P : Program} {w : World} {K : PySem.W.Frag} {mg : Str → Option Value} {base : Heap}
def In (m x : Int) : Prop := 1 ≤ x ∧ x ≤ m
def L4 (x1 x2 x3 x4 : Int) : List V := [.int x1, .int x2, .int x3, .int x4]
/-- i numbers from 1 to m are drawn into the list at D -/
def Draws (H0 H : Hp) (a c D : Addr) (n i : Nat) (m : Int) : Prop := ∃ xs : List Int, H D = some (.lst (xs.map V.int)) ∧ xs.length = i ∧ (∀ x ∈ xs, In m x) ∧ Hat H a c (n + 2 * i) ∧ But a H0 H
theorem Draws.start {H : Hp} {a c D : Addr} {n : Nat} {m : Int} (hh : Hat H a c n) (hD : H D = none) : Draws H (upd H D (.lst [])) a c D n 0 m :=
  ⟨[], upd_same, rfl, fun _ h => absurd h (by simp), hh.upd (hh.neA hD) (hh.neC hD), .of (same_upd hD)⟩
theorem Draws.next {H0 H H1 : Hp} {a c D : Addr} {n i : Nat} {m y : Int} (h : Draws H0 H a c D n i m) (hh0 : Hat H0 a c n) (hD : H0 D = none) (hi : i < 100) (hh1 : Hat H1 a c (n + 2 * i + 2)) (b : But a H H1) (hy : In m y) :
    ∃ acc, H1 D = some (.lst acc) ∧ acc.length < sizeLine ∧ Draws H0 (upd H1 D (.lst (acc ++ [.int y]))) a c D n (i + 1) m := by
  obtain ⟨xs, e, el, hx, _, bb⟩ := h
  have nA := hh0.neA hD
  have nC := hh0.neC hD
  refine ⟨_, b _ _ e nA, ?_, xs ++ [y], ?_, ?_, ?_, ?_, ?_⟩
  · rw [List.length_map, el]
    exact small1000 (by omega)
  · rw [upd_same, List.map_append]
    rfl
  · rw [List.length_append, el]
    rfl
  · intro x hx'
    rcases List.mem_append.mp hx' with z | z
    · exact hx x z
    · rw [List.mem_singleton.mp z]
      exact hy
  · have := hh1.upd (o := .lst (xs.map V.int ++ [.int y])) nA nC
    exact this.mono (by omega)
  · intro p o hp np
    have npD : p ≠ D := ne_of_none hp hD
    rw [upd_ne npD]
    exact b _ _ (bb _ _ hp np) np
theorem Draws.four {H0 H : Hp} {a c D : Addr} {n : Nat} {m : Int} (h : Draws H0 H a c D n 4 m) : ∃ x1 x2 x3 x4, H D = some (.lst (L4 x1 x2 x3 x4)) ∧ (In m x1 ∧ In m x2 ∧ In m x3 ∧ In m x4) ∧ Hat H a c (n + 8) ∧ But a H0 H := by
  obtain ⟨xs, e, el, hx, hh, bb⟩ := h
  match xs, el with
  | [x1, x2, x3, x4], _ => exact ⟨x1, x2, x3, x4, e, ⟨hx _ (by simp), hx _ (by simp), hx _ (by simp), hx _ (by simp)⟩, hh, bb⟩
theorem ok__law_raised (T : Txt K mg) : FnOk P w K mg base CX0 1 T.f__law_raised.a T.f__law_raised.fd ["_law_number", "_law_many"] spRaised := by
  refine T.f__law_raised.F.ok sc__law_raised (fun vs H Q E h => ?_) (fun cdv A outer s H vs Q E hr h => ?_)
  · obtain ⟨x, n, rfl, _⟩ := h
    rfl
  · obtain ⟨x, n, rfl, hx, hn, q⟩ := h
    refine ⟨_, (pss_cons (ps_set (i := 2) sc__law_raised.nd rfl (Or.inl rfl) pe_int) (pss_cons (ps_for PassesOwn.never rfl (pi_range1 rfl T.n_range (pa_cons (pv 1) pa_nil)) (pg_name (i := 3) sc__law_raised.nd rfl (Or.inl rfl)) (pss_one (ps_set (i := 2) sc__law_raised.nd rfl (Or.inl rfl) (pe_op op_mulW (pv 2) (pv 0))))) (pss_one (ps_ret (pv 2))))), ?_⟩
    refine ⟨_, rfl, (n : Int), rfl, by omega, by omega, for_range (lo := 0) (n := n) (fun i σ H' => H' = H ∧ ∃ y, σ = [some (.int x), some (.int (n : Int)), some (.int (x ^ i)), y]) ⟨rfl, none, by rw [Int.pow_zero]; rfl⟩ ?_ ?_⟩
    · rintro i σ H' hi ⟨rfl, y, rfl⟩
      have b1 : (x ^ i).natAbs < 2 ^ (64 * 100 + 1) := Nat.lt_of_lt_of_le (pow_lt (e := i) hx) (Nat.pow_le_pow_right (by decide) (by omega))
      refine ⟨_, rfl, _, rfl, _, _, rfl, rfl, wide_mul b1 hx (by decide) (by decide) (by decide), rfl, some (.int (0 + (i : Int))), ?_⟩
      show [some (V.int x), some (V.int (n : Int)), some (V.int (x ^ i * x)), some (V.int (0 + (i : Int)))] = [some (V.int x), some (V.int (n : Int)), some (V.int (x ^ (i + 1))), some (.int (0 + (i : Int)))]
      rw [Int.pow_succ]
    · rintro σ H' ⟨rfl, y, rfl⟩
      exact ⟨_, rfl, q⟩
theorem Draws.three {H0 H : Hp} {a c D : Addr} {n : Nat} {m : Int} (h : Draws H0 H a c D n 3 m) : ∃ x1 x2 x3, H D = some (.lst [.int x1, .int x2, .int x3]) ∧ (In m x1 ∧ In m x2 ∧ In m x3) ∧ Hat H a c (n + 6) ∧ But a H0 H := by
  obtain ⟨xs, e, el, hx, hh, bb⟩ := h
  match xs, el with
  | [x1, x2, x3], _ => exact ⟨x1, x2, x3, e, ⟨hx _ (by simp), hx _ (by simp), hx _ (by simp)⟩, hh, bb⟩
def spWanted : Sp := fun vs H Q _ => ∃ a b c p : Int, vs = [.int a, .int b, .int c, .int p] ∧ Th a b c p ∧ ∀ (q : Addr) (H' : Hp), H q = none → H' q = some (.tup [.int (qTop a b c p), .int (qBot a b c p), .int (qT p : Int)]) → Same H H' → Q (.ref q) H'
theorem ok__law_wanted (T : Txt K mg) : FnOk P w K mg base CX0 2 T.f__law_wanted.a T.f__law_wanted.fd ["_law_a", "_law_b", "_law_c", "_law_power"] spWanted := by
  have G__law_raised := ok__law_raised (P := P) (w := w) (base := base) T
  refine T.f__law_wanted.F.ok sc__law_wanted (fun vs H Q E h => ?_) (fun cdv A outer s H vs Q E hr h => ?_)
  · obtain ⟨a, b, c, p, rfl, _⟩ := h
    rfl
  · obtain ⟨a, b, c, p, rfl, th, q⟩ := h
    obtain ⟨⟨a1, a2⟩, ⟨b1, b2⟩, ⟨c1, c2⟩, p1, p2⟩ := id th
    have l1 := fun {x y : Int} (hx : 1 ≤ x ∧ x ≤ 99) => (.inl ⟨by omega, by omega⟩ : CMul x y)
    have two : ∀ {x y : Int}, 1 ≤ x ∧ x ≤ 99 → 1 ≤ y ∧ y ≤ 99 → 1 ≤ x * y ∧ x * y ≤ 9801 := fun {x y} h1 h2 => ⟨by have := Int.mul_pos (show 0 < x by omega) (show 0 < y by omega); omega, by
      have : x * y ≤ 99 * 99 := Int.mul_le_mul h1.2 h2.2 (by omega) (by decide)
      omega⟩
    refine ⟨_, (pss_cons (ps_if (pt_cmpR op_eq (pv 3) pe_int (nomark _)) (pss_one (ps_ret (pe_tup (pa_cons (pe_op op_mul (pv 1) (pv 2)) (pa_cons (pv 0) (pa_cons pe_int pa_nil)))))) pss_nil) (pss_cons (ps_set (i := 4) sc__law_wanted.nd rfl (Or.inl rfl) (pe_callB call_abs (by rfl) T.n_abs (by decide +kernel) (pa_cons (pv 3) pa_nil))) (pss_cons (ps_if (pt_cmpR op_gt (pv 3) pe_int (nomark _)) (pss_one (ps_ret (pe_tup (pa_cons (pe_op op_sub (pe_op op_add (pe_call G__law_raised (hr.mono (by decide)) (by rfl) T.f__law_raised.g T.f__law_raised.F.kp T.f__law_raised.b .nil pass0 (pa_cons (pv 1) (pa_cons (pv 4) pa_nil))) (pe_call G__law_raised (hr.mono (by decide)) (by rfl) T.f__law_raised.g T.f__law_raised.F.kp T.f__law_raised.b .nil pass0 (pa_cons (pv 2) (pa_cons (pv 4) pa_nil)))) (pe_call G__law_raised (hr.mono (by decide)) (by rfl) T.f__law_raised.g T.f__law_raised.F.kp T.f__law_raised.b .nil pass0 (pa_cons (pv 0) (pa_cons (pv 4) pa_nil)))) (pa_cons pe_int (pa_cons (pv 4) pa_nil)))))) pss_nil) (pss_one (ps_ret (pe_tup (pa_cons (pe_call G__law_raised (hr.mono (by decide)) (by rfl) T.f__law_raised.g T.f__law_raised.F.kp T.f__law_raised.b .nil pass0 (pa_cons (pe_op op_mul (pe_op op_mul (pv 0) (pv 1)) (pv 2)) (pa_cons (pv 4) pa_nil))) (pa_cons (pe_op op_sub (pe_op op_add (pe_call G__law_raised (hr.mono (by decide)) (by rfl) T.f__law_raised.g T.f__law_raised.F.kp T.f__law_raised.b .nil pass0 (pa_cons (pe_op op_mul (pv 0) (pv 2)) (pa_cons (pv 4) pa_nil))) (pe_call G__law_raised (hr.mono (by decide)) (by rfl) T.f__law_raised.g T.f__law_raised.F.kp T.f__law_raised.b .nil pass0 (pa_cons (pe_op op_mul (pv 0) (pv 1)) (pa_cons (pv 4) pa_nil)))) (pe_call G__law_raised (hr.mono (by decide)) (by rfl) T.f__law_raised.g T.f__law_raised.F.kp T.f__law_raised.b .nil pass0 (pa_cons (pe_op op_mul (pv 1) (pv 2)) (pa_cons (pv 4) pa_nil)))) (pa_cons (pv 4) pa_nil))))))))), ?_⟩
    refine ⟨_, rfl, rfl, _, rfl, ite2 (fun e => ?_) (fun e => ?_)⟩
    · have e0 : p = 0 := V.int.inj (of_decide_eq_true e)
      subst e0
      exact ⟨_, rfl, _, rfl, _, _, rfl, rfl, l1 th.b, _, rfl, sz3, fun q' hq' => q q' _ hq' upd_same (same_upd hq')⟩
    have e0 : ¬ p = 0 := fun z => e (decide_eq_true (congrArg V.int z))
    have ab : (if p < 0 then -p else p) = ((qT p : Nat) : Int) := by
      unfold qT
      rw [if_neg e0]
      split <;> omega
    have qt : qT p ≤ 100 := by
      unfold qT
      rw [if_neg e0]
      omega
    have r1 : ∀ {x : Int}, 1 ≤ x ∧ x ≤ 99 → x.natAbs < 2 ^ 64 := fun h => by omega
    have r2 : ∀ {x y : Int}, 1 ≤ x ∧ x ≤ 99 → 1 ≤ y ∧ y ≤ 99 → (x * y).natAbs < 2 ^ 64 := fun h1 h2 => by have := two h1 h2; omega
    have r3 : (a * b * c).natAbs < 2 ^ 64 := by
      have x1 := two th.a th.b
      have x2 : a * b * c ≤ 9801 * 99 := Int.mul_le_mul x1.2 c2 (by omega) (by decide)
      have x3 : 0 < a * b * c := Int.mul_pos (by omega) (by omega)
      omega
    have l2 : CMul (a * b) c := .inl (by have := two th.a th.b; exact ⟨by omega, by omega⟩)
    have ar : ∀ x : Int, [V.int x, .int (if p < 0 then -p else p)] = [V.int x, .int ((qT p : Nat) : Int)] := fun x => by rw [ab]
    refine ⟨_, rfl, _, rfl, ?_⟩
    refine ⟨_, rfl, _, _, rfl, rfl, _, rfl, ite2 (fun e1 => ?_) (fun e1 => ?_)⟩
    · have p0 : 0 < p := of_decide_eq_true e1
      refine ⟨_, rfl, _, rfl, b, qT p, ar b, r1 th.b, qt, _, rfl, _, rfl, c, qT p, ar c, r1 th.c, qt, _, _, rfl, rfl, _, rfl, _, rfl, a, qT p, ar a, r1 th.a, qt, _, _, rfl, rfl, _, rfl, sz3, fun q' hq' => ?_⟩
      have z1 : qTop a b c p = b ^ qT p + c ^ qT p - a ^ qT p := by
        unfold qTop qT
        rw [if_neg e0, if_pos p0, if_neg e0, show p.toNat = p.natAbs by omega]
      have z2 : qBot a b c p = 1 := by
        unfold qBot
        rw [if_neg e0, if_pos p0]
      refine q q' _ hq' ?_ (same_upd hq')
      rw [z1, z2, ← ab]
      exact upd_same
    · have p0 : ¬ 0 < p := fun z => e1 (decide_eq_true z)
      refine ⟨_, rfl, _, rfl, _, _, rfl, rfl, l1 th.a, _, rfl, _, _, rfl, rfl, l2, _, rfl, a * b * c, qT p, ar _, r3, qt, ?_⟩
      refine ⟨_, rfl, _, rfl, _, _, rfl, rfl, l1 th.a, _, rfl, a * c, qT p, ar _, r2 th.a th.c, qt, ?_⟩
      refine ⟨_, rfl, _, rfl, _, _, rfl, rfl, l1 th.a, _, rfl, a * b, qT p, ar _, r2 th.a th.b, qt, _, _, rfl, rfl, ?_⟩
      refine ⟨_, rfl, _, rfl, _, _, rfl, rfl, l1 th.b, _, rfl, b * c, qT p, ar _, r2 th.b th.c, qt, _, _, rfl, rfl, _, rfl, sz3, fun q' hq' => ?_⟩
      have z1 : qTop a b c p = (a * b * c) ^ qT p := by
        unfold qTop qT
        rw [if_neg e0, if_neg p0, if_neg e0, show (-p).toNat = p.natAbs by omega]
      have z2 : qBot a b c p = (a * c) ^ qT p + (a * b) ^ qT p - (b * c) ^ qT p := by
        unfold qBot qT
        rw [if_neg e0, if_neg p0, if_neg e0, show (-p).toNat = p.natAbs by omega]
      refine q q' _ hq' ?_ (same_upd hq')
      rw [z1, z2, ← ab]
      exact upd_same
end
end Q

namespace Ru
open PySem PySem.Spec PyProof.Rows L2
open Sem (wp)
theorem meets_bool_any {prog : Program} {w : World} (x : Value) : MeetsIn prog w (Builtin.«bool.__new__» ⟨[.type "bool", x], []⟩) (fun A R s => wpAny (model prog w) A.in1 (truthy x) (fun b s1 => R (.ok (.ret (.bool b))) s1) (fun e s1 => R (.error e) s1) s) :=
  .of_wp fun A R s h => by
    have f1 := F.conv_sub_bool
    unfold Builtin.«bool.__new__»
    repeat (any_goals (first | (with_reducible refine wpAny_bind (m := truthy _) (wpAny_mono h (fun b s1 hb => ?_) fun _ _ z => z)) | assumption | wp_step))
    all_goals first | exact ⟨_, rfl, hb⟩ | skip
theorem call_bool_any {prog : Program} {w : World} {A : Around} {E : Value → Shared → Prop} {s : Shared} {x : Value} {Q : Value → Shared → Prop} (h : wpAny (model prog w) A.in1.in1 (truthy x) (fun b s1 => Q (.bool b) s1) E s) :
    wpAny (model prog w) A (call (.type "bool") [x]) Q E s := by
  refine callType_newIn F.called_bool F.newNe_bool (F.typeCall_bool_1 x) (F.newCall_bool_1 x) (fun obj => F.args_object_init_2 obj x) F.entry_bool_new (meets_bool_any x) ?_
  show wpAny (model prog w) A.in1.in1 (truthy x) _ _ s
  exact wpAny_mono h (fun b s1 hb => ⟨rfl, hb⟩) fun _ _ z => z
def rBoolIns (C : Addr) (sp : Sp) (E : XK) : List V → Hp → VK → Prop := fun xs H Q => ∃ x, xs = [x] ∧ rInsTru C sp E x H (fun b H' => Q (.bl b) H')
theorem call_boolOwn {X : Cx} {CX : CXT} {k : Nat} {C f : Addr} {sp : Sp} {E : XK} (c : BoolC X.K C f) (F : FnR X.prog X.w X.K X.mg X.base CX k f sp) (hr : Room (k + 2) X.A) (hx : Passes CX X E) : CallR X (.type "bool") (rBoolIns C sp E) := by
  intro pins s σ H xs us Q I rx h
  obtain ⟨x, rfl, a, dx, fs, rfl, ha, q⟩ := h
  obtain rfl := Vals.ref1 rx
  obtain ⟨mA, J, _⟩ := ins_get I.hok ha
  obtain ⟨od, J, _⟩ := J.look
  obtain ⟨m, hF⟩ := I.fr
  refine call_bool_any (PySem.W.truthy_K hF I.ok.mod.kin J c.bo c.fn ?_)
  have e0 : Env0 X.prog X.w X.K X.mg X.base X.A.in1.in1 X.stack s H := I.env0.in1.in1
  refine wpAny_call (codeAny_mono (F X.A.in1.in1 X.stack s H [.ref a] [.ref a] _ E hr.in1.in1 e0 (.cons rfl .nil) q) fun r s' hq => ?_)
  cases r with
  | error e => exact hx pins σ H s e s' I hq
  | ok fl =>
    cases fl with
    | ret w =>
      obtain ⟨z, H', I', rz, c', ez, q'⟩ := I.after hq
      subst ez
      cases rz
      exact ⟨.bl c', H', I', rfl, q'⟩
    | next => exact False.elim hq
    | brk => exact False.elim hq
    | cont => exact False.elim hq
end Ru

namespace Q
open PySem PySem.Spec PyProof.Rows L2
section
variable {P : Program} {w : World} {K : PySem.W.Frag} {mg : Str → Option Value} {base : Heap}
def spPlant : Sp := fun vs H Q _ => ∃ (a c : Addr) (n : Nat), vs = [.ref a] ∧ Hat H a c n ∧ n ≤ 999000 ∧
  ∀ (l : Addr) (x y z p : Int) (H' : Hp), H' l = some (.tup (L4 x y z p)) → -80 ≤ p → p ≤ 80 → H l = none → Hat H' a c (n + 20) → But a H H' → Q (.ref l) H'
theorem ok__law_planted (T : Txt K mg) : FnOk P w K mg base CX0 3 T.f__law_planted.a T.f__law_planted.fd ["_law_hat_here"] spPlant := by
  have G__law_lot := ok__law_lot (P := P) (w := w) (base := base) T
  have G__law_one := ok__law_one (P := P) (w := w) (base := base) T
  refine T.f__law_planted.F.ok sc__law_planted (fun vs H Q E h => ?_) (fun cdv A outer s H vs Q E hr h => ?_)
  · obtain ⟨a, c, n, rfl, _⟩ := h
    rfl
  · obtain ⟨a, c, n, rfl, hh, hn, q⟩ := h
    refine ⟨_, (pss_cons (ps_asg (pe_tup (pa_cons (pe_call G__law_lot (hr.mono (by decide)) (by rfl) T.f__law_lot.g T.f__law_lot.F.kp T.f__law_lot.b .nil pass0 (pa_cons (pv 0) (pa_cons pe_int pa_nil))) (pa_cons (pe_op op_add pe_int (pe_call G__law_lot (hr.mono (by decide)) (by rfl) T.f__law_lot.g T.f__law_lot.F.kp T.f__law_lot.b .nil pass0 (pa_cons (pv 0) (pa_cons pe_int pa_nil)))) (pa_cons (pe_op op_add pe_int (pe_call G__law_lot (hr.mono (by decide)) (by rfl) T.f__law_lot.g T.f__law_lot.F.kp T.f__law_lot.b .nil pass0 (pa_cons (pv 0) (pa_cons pe_int pa_nil)))) (pa_cons (pe_call G__law_lot (hr.mono (by decide)) (by rfl) T.f__law_lot.g T.f__law_lot.F.kp T.f__law_lot.b .nil pass0 (pa_cons (pv 0) (pa_cons pe_int pa_nil))) pa_nil))))) (pg_tup rfl (pgs_cons (pg_name (i := 1) sc__law_planted.nd rfl (Or.inl rfl)) (pgs_cons (pg_name (i := 2) sc__law_planted.nd rfl (Or.inl rfl)) (pgs_cons (pg_name (i := 3) sc__law_planted.nd rfl (Or.inl rfl)) (pgs_cons (pg_name (i := 4) sc__law_planted.nd rfl (Or.inl rfl)) pgs_nil)))))) (pss_cons (ps_if (pt_cmpR op_eq (pv 1) pe_int (nomark _)) (pss_one (ps_ret (pe_tup (pa_cons (pv 2) (pa_cons (pe_op op_add (pv 2) (pv 4)) (pa_cons (pv 3) (pa_cons pe_int pa_nil))))))) pss_nil) (pss_cons (ps_if (pt_cmpR op_eq (pv 1) pe_int (nomark _)) (pss_cons (ps_par3 (i := 5) (j := 6) (l := 7) rfl sc__law_planted.nd rfl rfl rfl (by decide) (by decide) (by decide) rfl rfl rfl (pa_cons (pe_op op_add pe_int (pe_call G__law_lot (hr.mono (by decide)) (by rfl) T.f__law_lot.g T.f__law_lot.F.kp T.f__law_lot.b .nil pass0 (pa_cons (pv 0) (pa_cons pe_int pa_nil)))) (pa_cons (pe_op op_add pe_int (pe_call G__law_lot (hr.mono (by decide)) (by rfl) T.f__law_lot.g T.f__law_lot.F.kp T.f__law_lot.b .nil pass0 (pa_cons (pv 0) (pa_cons pe_int pa_nil)))) (pa_cons (pe_op op_add pe_int (pe_call G__law_lot (hr.mono (by decide)) (by rfl) T.f__law_lot.g T.f__law_lot.F.kp T.f__law_lot.b .nil pass0 (pa_cons (pv 0) (pa_cons pe_int pa_nil)))) pa_nil))) rfl) (pss_one (ps_ret (pe_tup (pa_cons (pe_op op_mul (pv 5) (pv 7)) (pa_cons (pe_op op_mul (pv 5) (pv 6)) (pa_cons (pe_op op_mul (pv 7) (pe_op op_add pe_int (pe_call G__law_lot (hr.mono (by decide)) (by rfl) T.f__law_lot.g T.f__law_lot.F.kp T.f__law_lot.b .nil pass0 (pa_cons (pv 0) (pa_cons pe_int pa_nil))))) (pa_cons pe_int pa_nil)))))))) pss_nil) (pss_cons (ps_if (pt_cmpR op_eq (pv 1) pe_int (nomark _)) (pss_cons (ps_asg (pe_lc (own := [("_law_turn", 16)]) (by rfl) sc__law_planted.nd (pi_range1 rfl T.n_range (pa_cons pe_int pa_nil)) (blkOk_by (N := n__law_planted) (sc := defScope s__law_planted) (by decide +kernel)) (fun _ _ _ _ _ => (pg_name (i := 16) sc__law_planted.nd rfl (Or.inl rfl))) (fun _ _ _ _ _ => pts_nil) (fun _ _ _ _ _ => (pe_op op_add pe_int (pe_call G__law_lot (hr.mono (by decide)) (by rfl) T.f__law_lot.g T.f__law_lot.F.kp T.f__law_lot.b .nil pass0 (pa_cons (pv 0) (pa_cons pe_int pa_nil)))))) (pg_lst rfl (pgs_cons (pg_name (i := 5) sc__law_planted.nd rfl (Or.inl rfl)) (pgs_cons (pg_name (i := 6) sc__law_planted.nd rfl (Or.inl rfl)) (pgs_cons (pg_name (i := 7) sc__law_planted.nd rfl (Or.inl rfl)) (pgs_cons (pg_name (i := 8) sc__law_planted.nd rfl (Or.inl rfl)) pgs_nil)))))) (pss_cons (ps_par (i := 9) (j := 10) rfl sc__law_planted.nd rfl rfl (by decide) rfl rfl (pa_cons (pe_callB call_abs (by rfl) T.n_abs (by decide +kernel) (pa_cons (pe_op op_sub (pe_op op_mul (pv 5) (pv 6)) (pe_op op_mul (pv 7) (pv 8))) pa_nil)) (pa_cons (pe_callB call_abs (by rfl) T.n_abs (by decide +kernel) (pa_cons (pe_op op_sub (pe_op op_mul (pv 5) (pv 8)) (pe_op op_mul (pv 6) (pv 7))) pa_nil)) pa_nil)) rfl) (pss_one (ps_ret (pe_tup (pa_cons (pe_callB (call_max2 rfl) (by rfl) T.n_max (by decide +kernel) (pa_cons pe_int (pa_cons (pv 9) pa_nil))) (pa_cons (pe_op op_add (pe_op op_mul (pv 5) (pv 6)) (pe_op op_mul (pv 7) (pv 8))) (pa_cons (pe_callB (call_max2 rfl) (by rfl) T.n_max (by decide +kernel) (pa_cons pe_int (pa_cons (pv 10) pa_nil))) (pa_cons pe_int pa_nil))))))))) pss_nil) (pss_cons (ps_if (pt_cmpR op_eq (pv 1) pe_int (nomark _)) (pss_cons (ps_asg (pe_lc (own := [("_law_turn", 16)]) (by rfl) sc__law_planted.nd (pi_range1 rfl T.n_range (pa_cons pe_int pa_nil)) (blkOk_by (N := n__law_planted) (sc := defScope s__law_planted) (by decide +kernel)) (fun _ _ _ _ _ => (pg_name (i := 16) sc__law_planted.nd rfl (Or.inl rfl))) (fun _ _ _ _ _ => pts_nil) (fun _ _ _ _ _ => (pe_op op_add pe_int (pe_call G__law_lot (hr.mono (by decide)) (by rfl) T.f__law_lot.g T.f__law_lot.F.kp T.f__law_lot.b .nil pass0 (pa_cons (pv 0) (pa_cons pe_int pa_nil)))))) (pg_lst rfl (pgs_cons (pg_name (i := 11) sc__law_planted.nd rfl (Or.inl rfl)) (pgs_cons (pg_name (i := 12) sc__law_planted.nd rfl (Or.inl rfl)) (pgs_cons (pg_name (i := 13) sc__law_planted.nd rfl (Or.inl rfl)) pgs_nil))))) (pss_cons (ps_set (i := 14) sc__law_planted.nd rfl (Or.inl rfl) (pe_call G__law_one (hr.mono (by decide)) (by rfl) T.f__law_one.g T.f__law_one.F.kp T.f__law_one.b .nil pass0 (pa_cons (pv 0) (pa_cons (pe_lst (pa_cons pe_int (pa_cons pe_int (pa_cons pe_int (pa_cons pe_int (pa_cons pe_int (pa_cons pe_int pa_nil))))))) pa_nil)))) (pss_one (ps_ret (pe_tup (pa_cons (pe_op op_fdiv (pv 14) (pe_op op_add (pv 11) (pv 12))) (pa_cons (pe_op op_fdiv (pv 14) (pv 11)) (pa_cons (pe_op op_fdiv (pv 14) (pe_op op_add (pv 13) (pv 12))) (pa_cons (pe_un un_neg pe_int) pa_nil))))))))) pss_nil) (pss_cons (ps_set (i := 15) sc__law_planted.nd rfl (Or.inl rfl) (pe_op op_sub (pe_call G__law_lot (hr.mono (by decide)) (by rfl) T.f__law_lot.g T.f__law_lot.F.kp T.f__law_lot.b .nil pass0 (pa_cons (pv 0) (pa_cons pe_int pa_nil))) pe_int)) (pss_cons (ps_if (pt_cmpR op_eq (pv 1) pe_int (nomark _)) (pss_one (ps_ret (pe_tup (pa_cons (pv 2) (pa_cons (pv 2) (pa_cons (pv 3) (pa_cons (pv 15) pa_nil))))))) pss_nil) (pss_cons (ps_if (pt_cmpR op_eq (pv 1) pe_int (nomark _)) (pss_one (ps_ret (pe_tup (pa_cons (pv 2) (pa_cons (pv 3) (pa_cons (pv 2) (pa_cons (pv 15) pa_nil))))))) pss_nil) (pss_one (ps_ret (pe_tup (pa_cons (pe_op op_sub pe_int (pv 4)) (pa_cons (pe_op op_add pe_int (pe_op op_fdiv (pv 4) pe_int)) (pa_cons (pv 3) (pa_cons (pv 15) pa_nil))))))))))))))), ?_⟩
    refine ⟨_, rfl, a, c, n, 7, rfl, hh, by omega, by omega, by omega, fun d1 H1 p1 p1' hh1 b1 => ?_⟩
    refine ⟨_, rfl, a, c, n + 1, 49, rfl, hh1, by omega, by omega, by omega, fun d2 H2 p2 p2' hh2 b2 => ?_⟩
    refine ⟨_, _, rfl, rfl, ?_⟩
    refine ⟨_, rfl, a, c, n + 1 + 1, 49, rfl, hh2, by omega, by omega, by omega, fun d3 H3 p3 p3' hh3 b3 => ?_⟩
    refine ⟨_, _, rfl, rfl, ?_⟩
    refine ⟨_, rfl, a, c, n + 1 + 1 + 1, 50, rfl, hh3, by omega, by omega, by omega, fun d4 H4 p4 p4' hh4 b4 => ⟨sz4, fun p hp => ⟨p, _, rfl, .of upd_same, rfl, _, _, rfl, _, _, rfl, _, _, rfl, _, _, rfl, rfl, ?_⟩⟩⟩
    have hh5 := hh4.upd (o := .tup [.int d1, .int (1 + d2), .int (1 + d3), .int d4]) (hh4.neA hp) (hh4.neC hp)
    have b5 := ((((b1.trans b2).trans b3).trans b4).trans (.of (same_upd (o := .tup [.int d1, .int (1 + d2), .int (1 + d3), .int d4]) hp)) : But a H _)
    have fin : ∀ (H' : Hp) (l : Addr) (x y z p : Int), Hat H' a c (n + 19) → But a H H' → -80 ≤ p → p ≤ 80 → H' l = none → Q (.ref l) (upd H' l (.tup (L4 x y z p))) := fun H' l x y z p hh b q1 q2 hl =>
      q l x y z p _ upd_same q1 q2 (b.free hh hl) ((hh.upd (hh.neA hl) (hh.neC hl)).mono (by omega)) (b.trans (.of (same_upd hl)))
    have cm : ∀ {x y : Int}, -1000 ≤ x → x ≤ 1000 → CMul x y := fun h1 h2 => .inl ⟨by omega, by omega⟩
    refine ⟨_, rfl, rfl, _, rfl, ite2 (fun e => ?_) (fun e => ?_)⟩
    · refine ⟨_, rfl, _, rfl, _, rfl, _, _, rfl, rfl, _, rfl, sz4, fun l hl => ?_⟩
      exact fin _ l _ _ _ 1 (hh5.mono (by omega)) b5 (by decide) (by decide) hl
    refine ⟨_, rfl, rfl, _, rfl, ite2 (fun e => ?_) (fun e => ?_)⟩
    · refine ⟨_, rfl, a, c, n + 4, 9, rfl, hh5.mono (by omega), by omega, by decide, by decide, fun k1 H6 r1 r1' hh6 b6 => ?_⟩
      refine ⟨_, _, rfl, rfl, _, rfl, a, c, n + 5, 11, rfl, hh6.mono (by omega), by omega, by decide, by decide, fun k2 H7 r2 r2' hh7 b7 => ?_⟩
      refine ⟨_, _, rfl, rfl, _, rfl, a, c, n + 6, 9, rfl, hh7.mono (by omega), by omega, by decide, by decide, fun k3 H8 r3 r3' hh8 b8 => ?_⟩
      refine ⟨_, _, rfl, rfl, _, _, _, rfl, ?_⟩
      refine ⟨_, rfl, _, rfl, _, _, rfl, rfl, cm (by omega) (by omega), _, rfl, _, rfl, _, _, rfl, rfl, cm (by omega) (by omega), _, rfl, _, rfl, a, c, n + 7, 11, rfl, hh8.mono (by omega), by omega, by decide, by decide, fun k4 H9 r4 r4' hh9 b9 => ?_⟩
      refine ⟨_, _, rfl, rfl, _, _, rfl, rfl, cm (by omega) (by omega), sz4, fun l hl => ?_⟩
      exact fin _ l _ _ _ 0 (hh9.mono (by omega)) ((((b5.trans b6).trans b7).trans b8).trans b9) (by decide) (by decide) hl
    refine ⟨_, rfl, rfl, _, rfl, ite2 (fun e => ?_) (fun e => ?_)⟩
    · refine ⟨4, rfl, by decide, by decide, fun D hD => lc_range (lo := 0) (n := 4) (fun i H' => Draws _ H' a c D (n + 4) i 7) (Draws.start (hh5.mono (by omega)) hD) (fun i H' hi p => ?_) (fun H' p => ?_)⟩
      · obtain ⟨_, _, _, _, hh7, _⟩ := id p
        refine ⟨rfl, ?_⟩
        refine ⟨_, rfl, a, c, _, 7, rfl, hh7, by omega, by decide, by decide, fun d' H8 d0' d1' hh8 b8 => ?_⟩
        exact ⟨_, _, rfl, rfl, p.next (hh5.mono (by omega)) hD (by omega) (hh8.mono (by omega)) b8 ⟨by omega, by omega⟩⟩
      · obtain ⟨u1, u2, u3, u4, eF, ⟨⟨i1, j1⟩, ⟨i2, j2⟩, ⟨i3, j3⟩, ⟨i4, j4⟩⟩, hh7, b7⟩ := p.four
        refine ⟨D, _, rfl, .of eF, rfl, _, _, rfl, _, _, rfl, _, _, rfl, _, _, rfl, rfl, ?_⟩
        have k1 : ∀ {y : Int}, CMul u1 y := cm (by omega) (by omega)
        have k2 : ∀ {y : Int}, CMul u2 y := cm (by omega) (by omega)
        have k3 : ∀ {y : Int}, CMul u3 y := cm (by omega) (by omega)
        refine ⟨_, rfl, _, rfl, _, _, rfl, rfl, k1, _, rfl, _, rfl, _, _, rfl, rfl, k3, _, _, rfl, rfl, _, rfl, ?_⟩
        refine ⟨_, rfl, _, rfl, _, _, rfl, rfl, k1, _, rfl, _, rfl, _, _, rfl, rfl, k2, _, _, rfl, rfl, _, rfl, _, _, rfl, ?_⟩
        refine ⟨_, rfl, _, _, rfl, ?_⟩
        refine ⟨_, rfl, _, rfl, _, _, rfl, rfl, k1, _, rfl, _, rfl, _, _, rfl, rfl, k3, _, _, rfl, rfl, ?_⟩
        refine ⟨_, rfl, _, _, rfl, sz4, fun l hl => ?_⟩
        exact fin _ l _ _ _ 2 (hh7.mono (by omega)) (b5.trans b7) (by decide) (by decide) hl
    refine ⟨_, rfl, rfl, _, rfl, ite2 (fun e => ?_) (fun e => ?_)⟩
    · refine ⟨3, rfl, by decide, by decide, fun D hD => lc_range (lo := 0) (n := 3) (fun i H' => Draws _ H' a c D (n + 4) i 6) (Draws.start (hh5.mono (by omega)) hD) (fun i H' hi p => ?_) (fun H' p => ?_)⟩
      · obtain ⟨_, _, _, _, hh7, _⟩ := id p
        refine ⟨rfl, ?_⟩
        refine ⟨_, rfl, a, c, _, 6, rfl, hh7, by omega, by decide, by decide, fun d' H8 d0' d1' hh8 b8 => ?_⟩
        exact ⟨_, _, rfl, rfl, p.next (hh5.mono (by omega)) hD (by omega) (hh8.mono (by omega)) b8 ⟨by omega, by omega⟩⟩
      · obtain ⟨u1, u2, u3, eF, ⟨⟨i1, j1⟩, ⟨i2, j2⟩, ⟨i3, j3⟩⟩, hh7, b7⟩ := p.three
        refine ⟨D, _, rfl, .of eF, rfl, _, _, rfl, _, _, rfl, _, _, rfl, rfl, ?_⟩
        refine ⟨_, rfl, Nat.le_of_lt (small1000 (by show 6 ≤ 1000; decide)), fun l0 hl0 => ?_⟩
        have y0 := hh7.upd (o := .lst [.int 60, .int 72, .int 84, .int 90, .int 96, .int 48]) (hh7.neA hl0) (hh7.neC hl0)
        refine ⟨a, c, n + 10, l0, _, rfl, y0.mono (by omega), by omega, .of upd_same, hh7.neA hl0, (by show 0 < 6; decide), (by show 6 ≤ 1000; decide), fun v H6 hv hh6 b6 => ?_⟩
        obtain ⟨wv, rfl⟩ : ∃ wv : Int, v = .int wv := by
          have hv' : v ∈ [V.int 60, .int 72, .int 84, .int 90, .int 96, .int 48] := hv
          simp only [List.mem_cons, List.not_mem_nil, or_false] at hv'
          rcases hv' with rfl | rfl | rfl | rfl | rfl | rfl <;> exact ⟨_, rfl⟩
        refine ⟨_, rfl, _, rfl, _, rfl, _, _, rfl, rfl, _, _, rfl, rfl, ⟨by omega, by omega⟩, ?_⟩
        refine ⟨_, rfl, _, rfl, _, _, rfl, rfl, ⟨by omega, by omega⟩, ?_⟩
        refine ⟨_, rfl, _, rfl, _, rfl, _, _, rfl, rfl, _, _, rfl, rfl, ⟨by omega, by omega⟩, ?_⟩
        refine ⟨_, rfl, sz4, fun l hl => ?_⟩
        exact fin _ l _ _ _ (-1) (hh6.mono (by omega)) (((b5.trans b7).trans (.of (same_upd (o := .lst [.int 60, .int 72, .int 84, .int 90, .int 96, .int 48]) hl0))).trans b6) (by decide) (by decide) hl
    refine ⟨_, rfl, a, c, n + 4, 161, rfl, hh5.mono (by omega), by omega, by decide, by decide, fun k1 H6 r1 r1' hh6 b6 => ?_⟩
    refine ⟨_, _, rfl, rfl, ?_⟩
    refine ⟨_, rfl, rfl, _, rfl, ite2 (fun e => ?_) (fun e => ?_)⟩
    · refine ⟨_, rfl, _, rfl, _, rfl, _, rfl, sz4, fun l hl => ?_⟩
      exact fin _ l _ _ _ (k1 - 80) (hh6.mono (by omega)) (b5.trans b6) (by omega) (by omega) hl
    refine ⟨_, rfl, rfl, _, rfl, ite2 (fun e => ?_) (fun e => ?_)⟩
    · refine ⟨_, rfl, _, rfl, _, rfl, _, rfl, sz4, fun l hl => ?_⟩
      exact fin _ l _ _ _ (k1 - 80) (hh6.mono (by omega)) (b5.trans b6) (by omega) (by omega) hl
    · refine ⟨_, rfl, _, _, rfl, rfl, _, rfl, _, _, rfl, rfl, ⟨by decide, by decide⟩, _, _, rfl, rfl, _, rfl, _, rfl, sz4, fun l hl => ?_⟩
      exact fin _ l _ _ _ (k1 - 80) (hh6.mono (by omega)) (b5.trans b6) (by omega) (by omega) hl
def spDrawn : Sp := fun vs H Q _ => ∃ (a c : Addr) (n : Nat), vs = [.ref a] ∧ Hat H a c n ∧ n ≤ 990000 ∧
  ∀ (l : Addr) (x y z p : Int) (H' : Hp), H' l = some (.lst (L4 x y z p)) → Th x y z p → H l = none → Hat H' a c (n + 30) → But a H H' → Q (.ref l) H'
theorem ok__law_drawn (T : Txt K mg) : FnOk P w K mg base CX0 4 T.f__law_drawn.a T.f__law_drawn.fd ["_law_hat_here"] spDrawn := by
  have G__law_lot := ok__law_lot (P := P) (w := w) (base := base) T
  have G__law_one := ok__law_one (P := P) (w := w) (base := base) T
  have G__law_planted := ok__law_planted (P := P) (w := w) (base := base) T
  refine T.f__law_drawn.F.ok sc__law_drawn (fun vs H Q E h => ?_) (fun cdv A outer s H vs Q E hr h => ?_)
  · obtain ⟨a, c, n, rfl, _⟩ := h
    rfl
  · obtain ⟨a, c, n, rfl, hh, hn, q⟩ := h
    refine ⟨_, (pss_cons (ps_if (pt_cmpR op_eq (pe_call G__law_lot (hr.mono (by decide)) (by rfl) T.f__law_lot.g T.f__law_lot.F.kp T.f__law_lot.b .nil pass0 (pa_cons (pv 0) (pa_cons pe_int pa_nil))) pe_int (nomark _)) (pss_cons (ps_set (i := 1) sc__law_drawn.nd rfl (Or.inl rfl) (pe_call G__law_one (hr.mono (by decide)) (by rfl) T.f__law_one.g T.f__law_one.F.kp T.f__law_one.b .nil pass0 (pa_cons (pv 0) (pa_cons (pe_lst (pa_cons (pe_op op_sub (pe_call G__law_lot (hr.mono (by decide)) (by rfl) T.f__law_lot.g T.f__law_lot.F.kp T.f__law_lot.b .nil pass0 (pa_cons (pv 0) (pa_cons pe_int pa_nil))) pe_int) (pa_cons (pe_op op_sub (pe_call G__law_lot (hr.mono (by decide)) (by rfl) T.f__law_lot.g T.f__law_lot.F.kp T.f__law_lot.b .nil pass0 (pa_cons (pv 0) (pa_cons pe_int pa_nil))) pe_int) (pa_cons pe_int (pa_cons (pe_un un_neg pe_int) pa_nil))))) pa_nil)))) (pss_one (ps_ret (pe_op op_cat (pe_lc (own := [("_law_turn", 3)]) (by rfl) sc__law_drawn.nd (pi_range1 rfl T.n_range (pa_cons pe_int pa_nil)) (blkOk_by (N := n__law_drawn) (sc := defScope s__law_drawn) (by decide +kernel)) (fun _ _ _ _ _ => (pg_name (i := 3) sc__law_drawn.nd rfl (Or.inl rfl))) (fun _ _ _ _ _ => pts_nil) (fun _ _ _ _ _ => (pe_op op_add pe_int (pe_call G__law_lot (hr.mono (by decide)) (by rfl) T.f__law_lot.g T.f__law_lot.F.kp T.f__law_lot.b .nil pass0 (pa_cons (pv 0) (pa_cons pe_int pa_nil)))))) (pe_lst (pa_cons (pv 1) pa_nil)))))) pss_nil) (pss_cons (ps_set (i := 2) sc__law_drawn.nd rfl (Or.inl rfl) (pe_callTy call_list_of (by rfl) T.n_list (by decide +kernel) (pa_cons (pe_call G__law_planted (hr.mono (by decide)) (by rfl) T.f__law_planted.g T.f__law_planted.F.kp T.f__law_planted.b .nil pass0 (pa_cons (pv 0) pa_nil)) pa_nil))) (pss_one (ps_ret (pe_ifExp (PW.pt (pw_and (pt_cmpR op_lt pe_int (pe_callB (cr_min rfl) (by rfl) T.n_min (by decide +kernel) (pa_cons (pe_slice sl_list (pv 2) po_none (po_some pe_int)) pa_nil)) (nomark _)) (pw_and1 (pt_cmpR op_lt (pe_callB (cr_max rfl) (by rfl) T.n_max (by decide +kernel) (pa_cons (pe_slice sl_list (pv 2) po_none (po_some pe_int)) pa_nil)) pe_int (nomark _))))) (pv 2) (pe_lst (pa_cons pe_int (pa_cons pe_int (pa_cons pe_int (pa_cons (pe_ix ix_list (pv 2) pe_int (fun _ _ => rfl)) pa_nil)))))))))), ?_⟩
    refine ⟨_, rfl, a, c, n, 3, rfl, hh, by omega, by omega, by omega, fun d1 H1 p1 p1' hh1 b1 => ?_⟩
    refine ⟨rfl, _, rfl, ite2 (fun e => ?_) (fun e => ?_)⟩
    · refine ⟨_, rfl, _, rfl, a, c, n + 1, 9, rfl, hh1, by omega, by omega, by omega, fun d2 H2 p2 p2' hh2 b2 => ?_⟩
      refine ⟨_, _, rfl, rfl, _, rfl, a, c, n + 2, 161, rfl, hh2.mono (by omega), by omega, by omega, by omega, fun d3 H3 p3 p3' hh3 b3 => ?_⟩
      refine ⟨_, _, rfl, rfl, _, rfl, sz4, fun l0 hl0 => ?_⟩
      have y0 := hh3.upd (o := .lst [.int (d2 - 4), .int (d3 - 80), .int 80, .int (-80)]) (hh3.neA hl0) (hh3.neC hl0)
      refine ⟨a, c, n + 3, l0, _, rfl, y0.mono (by omega), by omega, .of upd_same, hh3.neA hl0, (by show 0 < 4; decide), (by show 4 ≤ 1000; decide), fun v H6 hv hh6 b6 => ?_⟩
      obtain ⟨wv, rfl, w1, w2⟩ : ∃ wv : Int, v = .int wv ∧ -80 ≤ wv ∧ wv ≤ 80 := by
        have hv' : v ∈ [V.int (d2 - 4), .int (d3 - 80), .int 80, .int (-80)] := hv
        simp only [List.mem_cons, List.not_mem_nil, or_false] at hv'
        rcases hv' with rfl | rfl | rfl | rfl
        · exact ⟨_, rfl, by omega, by omega⟩
        · exact ⟨_, rfl, by omega, by omega⟩
        · exact ⟨_, rfl, by omega, by omega⟩
        · exact ⟨_, rfl, by omega, by omega⟩
      have b16 := (((b1.trans b2).trans b3).trans (.of (same_upd (o := .lst [.int (d2 - 4), .int (d3 - 80), .int 80, .int (-80)]) hl0))).trans b6
      refine ⟨3, rfl, by decide, by decide, fun D hD => lc_range (lo := 0) (n := 3) (fun i H' => Draws H6 H' a c D (n + 4) i 99) (Draws.start (hh6.mono (by omega)) hD) (fun i H' hi p => ?_) (fun H' p => ?_)⟩
      · obtain ⟨_, _, _, _, hh7, _⟩ := id p
        refine ⟨rfl, ?_⟩
        refine ⟨_, rfl, a, c, _, 99, rfl, hh7, by omega, by decide, by decide, fun d' H8 d0' d1' hh8 b8 => ?_⟩
        exact ⟨_, _, rfl, rfl, p.next (hh6.mono (by omega)) hD (by omega) (hh8.mono (by omega)) b8 ⟨by omega, by omega⟩⟩
      · obtain ⟨u1, u2, u3, eF, ⟨i1, i2, i3⟩, hh7, b7⟩ := p.three
        refine ⟨_, rfl, Nat.le_of_lt (small1000 (by show 1 ≤ 1000; decide)), fun l1 hl1 => ?_⟩
        refine ⟨D, l1, _, _, rfl, rfl, same_upd hl1 _ _ eF, upd_same, sz4 (a := .int u1) (b := .int u2) (c := .int u3) (d := .int wv), fun l hl => ?_⟩
        have z := hh7.upd (o := .lst [.int wv]) (hh7.neA hl1) (hh7.neC hl1)
        have b17 := (b16.trans b7).trans (.of (same_upd (o := .lst [.int wv]) hl1))
        exact q l u1 u2 u3 wv _ upd_same ⟨i1, i2, i3, w1, w2⟩ (b17.free z hl) ((z.upd (z.neA hl) (z.neC hl)).mono (by omega)) (b17.trans (.of (same_upd hl)))
    · refine ⟨_, rfl, a, c, n + 1, rfl, hh1, by omega, fun l x y z p H2 el w1 w2 fl hh2 b2 => ?_⟩
      have b12 := b1.trans b2
      refine ⟨l, _, rfl, .inr (.of el), fun u hu => ?_⟩
      have su := same_upd (o := .lst (L4 x y z p)) hu
      have fu := (upd_same : upd H2 u (.lst (L4 x y z p)) u = some (.lst (L4 x y z p)))
      have y2 := hh2.upd (o := .lst (L4 x y z p)) (hh2.neA hu) (hh2.neC hu)
      have els : ∀ H3, Same (upd H2 u (.lst (L4 x y z p))) H3 → tLst (tCons (tC (V.int 1)) (tCons (tC (V.int 2)) (tCons (tC (V.int 3)) (tCons (tOp (rIxL K) (tVar 2) (tC (V.int 3))) tNil)))) [some (.ref a), none, some (.ref u)] H3 (fun v H' => Q v H') := fun H3 s3 => by
        refine ⟨_, rfl, u, _, 3, _, rfl, rfl, .of (s3 _ _ fu), atI_nat (j := 3) rfl, sz4, fun l hl => ?_⟩
        have y3 := y2.same s3
        have b3 := (b12.trans (.of su)).trans (.of s3)
        exact q l 1 2 3 p _ upd_same ⟨by decide, by decide, by decide, w1, w2⟩ (b3.free y3 hl) ((y3.upd (y3.neA hl) (y3.neC hl)).mono (by omega)) (b3.trans (.of (same_upd hl)))
      refine ⟨_, rfl, _, rfl, u, _, rfl, .of fu, fun r1 hr1 => ⟨r1, [x, y, z], rfl, .of upd_same, (by show 0 < 3; decide), fun m hm hm2 => ⟨_, _, rfl, rfl, _, rfl, ite2 (fun e1 => ?_) (fun e1 => iteF (els _ (same_upd hr1)))⟩⟩⟩
      have s1 := same_upd (o := .lst (cutV (L4 x y z p) none (some 3))) hr1
      refine ⟨_, rfl, _, rfl, u, _, rfl, .of (s1 _ _ fu), fun r2 hr2 => ⟨r2, [x, y, z], rfl, .of upd_same, (by show 0 < 3; decide), fun m' hm' hm2' => ⟨_, _, rfl, rfl, _, rfl, ite2 (fun e2 => ?_) (fun e2 => els _ (s1.trans (same_upd hr2)))⟩⟩⟩
      have s2 := s1.trans (same_upd (o := .lst (cutV (L4 x y z p) none (some 3))) hr2)
      have m0 : 0 < m := of_decide_eq_true e1
      have m9 : m' < 100 := of_decide_eq_true e2
      have x0 := hm2 x (by simp)
      have y0 := hm2 y (by simp)
      have z0 := hm2 z (by simp)
      have x9 := hm2' x (by simp)
      have y9 := hm2' y (by simp)
      have z9 := hm2' z (by simp)
      exact ⟨_, rfl, q u x y z p _ (s2 _ _ fu) ⟨⟨by omega, by omega⟩, ⟨by omega, by omega⟩, ⟨by omega, by omega⟩, w1, w2⟩ (b12.free hh2 hu) ((y2.same s2).mono (by omega)) ((b12.trans (.of su)).trans (.of s2))⟩
end
end Q

namespace Q
open PySem PySem.Spec PyProof.Rows L2
section
variable {P : Program} {w : World} {K : PySem.W.Frag} {mg : Str → Option Value} {base : Heap}
def spIsWhole : Sp := fun vs H Q _ => ∃ (v : V) (k : Kd) (l : Int), vs = [v, .int l] ∧ Val H v k ∧ Q (.bl (inW k l 1000000)) H
theorem ok__law_is_whole (T : Txt K mg) : FnOk P w K mg base CX0 1 T.f__law_is_whole.a T.f__law_is_whole.fd ["_law_value", "_law_least"] spIsWhole := by
  refine T.f__law_is_whole.F.ok sc__law_is_whole (fun vs H Q E h => ?_) (fun cdv A outer s H vs Q E hr h => ?_)
  · obtain ⟨v, k, l, rfl, _⟩ := h
    rfl
  · obtain ⟨v, k, l, rfl, hv, q⟩ := h
    refine ⟨_, (pss_one (ps_ret (pe_and (pe_callB call_isi (by rfl) T.n_isinstance (by decide +kernel) (pa_cons (pv 0) (pa_cons (pe_bltn (v := .ty "int") (by rfl) T.n_int (by decide +kernel) rfl) pa_nil))) (pe_and (pe_not (pe_callB call_isi (by rfl) T.n_isinstance (by decide +kernel) (pa_cons (pv 0) (pa_cons (pe_bltn (v := .ty "bool") (by rfl) T.n_bool (by decide +kernel) rfl) pa_nil)))) (pe_one (Ru.pe_chainN (pv 1) (Ru.pec_link op_le (pv 0) (Ru.pec_last op_le pe_int)))))))), ?_⟩
    cases k with
    | int i =>
      obtain rfl : v = .int i := hv
      refine ⟨_, rfl, _, _, _, _, true, rfl, .ty _, .base (.int _), kit_ty (by decide +kernel), true, rfl, iteT ?_⟩
      refine ⟨_, rfl, _, _, _, _, false, rfl, .ty _, .base (.int _), kit_ty (by decide +kernel), false, rfl, true, rfl, iteT ?_⟩
      refine ⟨_, rfl, _, rfl, _, _, rfl, rfl, _, rfl, ite2 (fun e => ?_) (fun e => ?_)⟩
      · refine ⟨_, _, rfl, rfl, ?_⟩
        have e1 : l ≤ i := of_decide_eq_true e
        have e2 : inW (.int i) l 1000000 = decide (i ≤ 1000000) := by
          show decide (l ≤ i ∧ i ≤ 1000000) = decide (i ≤ 1000000)
          by_cases h : i ≤ 1000000
          · rw [decide_eq_true h, decide_eq_true ⟨e1, h⟩]
          · rw [decide_eq_false h, decide_eq_false (fun z => h z.2)]
        rw [e2] at q
        exact q
      · have e2 : inW (.int i) l 1000000 = false := decide_eq_false (fun z => e (decide_eq_true z.1))
        rw [e2] at q
        exact q
    | non =>
      obtain rfl : v = .non := hv
      exact ⟨_, rfl, _, _, _, _, false, rfl, .ty _, .base .non, kit_ty (by decide +kernel), false, rfl, iteF q⟩
    | bl x =>
      obtain rfl : v = .bl x := hv
      refine ⟨_, rfl, _, _, _, _, true, rfl, .ty _, .base (.bl _), kit_ty (by decide +kernel), true, rfl, iteT ?_⟩
      exact ⟨_, rfl, _, _, _, _, true, rfl, .ty _, .base (.bl _), kit_ty (by decide +kernel), true, rfl, false, rfl, iteF q⟩
    | str x =>
      obtain rfl : v = .str x := hv
      exact ⟨_, rfl, _, _, _, _, false, rfl, .ty _, .base (.str _), kit_ty (by decide +kernel), false, rfl, iteF q⟩
    | tup i =>
      obtain ⟨t, rfl, ht⟩ := hv
      exact ⟨_, rfl, _, _, _, _, false, rfl, .ty _, .base (.tup ht), kit_ty (by decide +kernel), false, rfl, iteF q⟩
theorem isW {T : Txt K mg} {H : Hp} {x : Addr} {k : Kd} (h : BPat T.k_Whole.a "number" H x "whole" k) : TyX K H (.ref x) (.ref T.k_Whole.a) := by
  obtain ⟨dx, q, v, h1, _⟩ := h
  exact .base (.ins h1 T.k_Whole.cl T.k_Whole.ha T.k_Whole.hn T.k_Whole.ht T.k_Whole.hm)
theorem isN {T : Txt K mg} {H : Hp} {x : Addr} {k : Kd} (h : BPat T.k_NoWhole.a "low" H x "nowhole" k) : TyX K H (.ref x) (.ref T.k_NoWhole.a) := by
  obtain ⟨dx, q, v, h1, _⟩ := h
  exact .base (.ins h1 T.k_NoWhole.cl T.k_NoWhole.ha T.k_NoWhole.hn T.k_NoWhole.ht T.k_NoWhole.hm)
theorem bot_wide {a b c p : Int} (th : Th a b c p) : (qBot a b c p).natAbs < 2 ^ 2000 := by
  obtain ⟨⟨a1, a2⟩, ⟨b1, b2⟩, ⟨c1, c2⟩, p1, p2⟩ := th
  have big : ∀ {x y : Int}, 1 ≤ x → x ≤ 99 → 1 ≤ y → y ≤ 99 → 0 ≤ (x * y) ^ (-p).toNat ∧ (x * y) ^ (-p).toNat ≤ (2 ^ 14) ^ 80 := fun {x y} h1 h2 h3 h4 => by
    have m : x * y ≤ 99 * 99 := Int.mul_le_mul h2 h4 (by omega) (by decide)
    have m0 : 0 ≤ x * y := Int.mul_nonneg (by omega) (by omega)
    refine ⟨Int.pow_nonneg m0, ?_⟩
    have s2 : (x * y) ^ (-p).toNat ≤ (2 ^ 14) ^ (-p).toNat := ipow_le m0 (by omega) _
    have s4 : ((2 : Int) ^ 14) ^ (-p).toNat ≤ (2 ^ 14) ^ 80 := by
      have : ((2 : Nat) ^ 14) ^ (-p).toNat ≤ (2 ^ 14) ^ 80 := Nat.pow_le_pow_right (by decide) (by omega)
      exact_mod_cast this
    omega
  unfold qBot
  split
  · exact Nat.lt_of_lt_of_le (show a.natAbs < 2 ^ 7 by omega) (Nat.pow_le_pow_right (by decide) (by decide))
  · split
    · decide
    · have k1 := big a1 a2 c1 c2
      have k2 := big a1 a2 b1 b2
      have k3 := big b1 b2 c1 c2
      have s5 : (2 : Int) * (2 ^ 14) ^ 80 < 2 ^ 2000 := by decide +kernel
      have s6 : ((2 : Int) ^ 2000) = (((2 : Nat) ^ 2000 : Nat) : Int) := by decide +kernel
      generalize (2 : Nat) ^ 2000 = B at s6 ⊢
      rw [s6] at s5
      generalize ((2 : Int) ^ 14) ^ 80 = C at *
      omega
theorem right_no {a b c p : Int} {H : Hp} {v : V} {k : Kd} (hv : Val H v k) (nq' : ¬ Qd a b c p) : rightB false k a b c p = decide (v = .non) := by
  cases k with
  | int n =>
    obtain rfl : v = .int n := hv
    show (decide (Qd a b c p) && _) = _
    rw [decide_eq_false nq', decide_eq_false (show ¬ V.int n = V.non from fun z => nomatch z)]
    rfl
  | non =>
    obtain rfl : v = .non := hv
    show (!decide _) = _
    rw [decide_eq_false nq', decide_eq_true rfl]
    rfl
  | bl x =>
    obtain rfl : v = .bl x := hv
    exact (decide_eq_false (fun z => nomatch z)).symm
  | str x =>
    obtain rfl : v = .str x := hv
    exact (decide_eq_false (fun z => nomatch z)).symm
  | tup x =>
    obtain ⟨t, rfl, _⟩ := hv
    exact (decide_eq_false (fun z => nomatch z)).symm
def spRight (T : Txt K mg) : Sp := fun vs H Q _ => ∃ (a b c p : Int) (x : Addr) (w : Bool) (k : Kd), vs = [.ref x, .int (qTop a b c p), .int (qBot a b c p), .int (qT p : Int)] ∧ Th a b c p ∧ Pap T H x w k ∧ Q (.bl (rightB w k a b c p)) H
theorem ok__law_is_right (T : Txt K mg) : FnOk P w K mg base CX0 2 T.f__law_is_right.a T.f__law_is_right.fd ["_law_paper", "_law_rest", "_law_part", "_law_many"] (spRight T) := by
  have G__law_is_whole := ok__law_is_whole (P := P) (w := w) (base := base) T
  have G__law_raised := ok__law_raised (P := P) (w := w) (base := base) T
  refine T.f__law_is_right.F.ok sc__law_is_right (fun vs H Q E h => ?_) (fun cdv A outer s H vs Q E hr h => ?_)
  · obtain ⟨a, b, c, p, x, w, k, rfl, _⟩ := h
    rfl
  · obtain ⟨a, b, c, p, x, w, k, rfl, th, pp, q⟩ := h
    have qt : qT p ≤ 100 := by
      have := th.p
      unfold qT
      split <;> omega
    have bw := bot_wide th
    have wm : ∀ n : Int, n.natAbs < 2 ^ 64 → CMulW (qBot a b c p) (n ^ qT p) := fun n hn =>
      wide_mul bw (Nat.lt_of_lt_of_le (pow_lt (e := qT p) hn) (Nat.pow_le_pow_right (by decide) (show 64 * qT p + 1 ≤ 64 * 100 + 1 by omega))) (by decide) (by decide) (by decide)
    refine ⟨_, (pss_cons (ps_if (pt_val (pe_callB call_isi (by rfl) T.n_isinstance (by decide +kernel) (pa_cons (pv 0) (pa_cons (pe_glob (v := .ref T.k_Whole.a) rfl T.k_Whole.g rfl) pa_nil)))) (pss_one (ps_ret (pe_and (pe_call G__law_is_whole (hr.mono (by decide)) (by rfl) T.f__law_is_whole.g T.f__law_is_whole.F.kp T.f__law_is_whole.b .nil pass0 (pa_cons (pe_fld (pv 0) rfl) (pa_cons pe_int pa_nil))) (pe_one (pe_cmpR op_eq (pe_op op_mulW (pv 2) (pe_call G__law_raised (hr.mono (by decide)) (by rfl) T.f__law_raised.g T.f__law_raised.F.kp T.f__law_raised.b .nil pass0 (pa_cons (pe_fld (pv 0) rfl) (pa_cons (pv 3) pa_nil)))) (pv 1) (nomark _)))))) pss_nil) (pss_cons (ps_if (PW.pt (pw_or (pt_cmpR op_le (pv 1) pe_int (nomark _)) (pw_or1 (pt_cmpR op_le (pv 2) pe_int (nomark _))))) (pss_one (ps_ret (pe_cmpR op_isN (pe_fld (pv 0) rfl) pe_non (nomark _)))) pss_nil) (pss_cons (ps_set (i := 4) sc__law_is_right.nd rfl (Or.inl rfl) (pe_fld (pv 0) rfl)) (pss_one (ps_ret (pe_and (pe_call G__law_is_whole (hr.mono (by decide)) (by rfl) T.f__law_is_whole.g T.f__law_is_whole.F.kp T.f__law_is_whole.b .nil pass0 (pa_cons (pv 4) (pa_cons pe_int pa_nil))) (pe_one (Ru.pe_chainN (pe_op op_mulW (pv 2) (pe_call G__law_raised (hr.mono (by decide)) (by rfl) T.f__law_raised.g T.f__law_raised.F.kp T.f__law_raised.b .nil pass0 (pa_cons (pv 4) (pa_cons (pv 3) pa_nil)))) (Ru.pec_link op_lt (pv 1) (Ru.pec_last op_lt (pe_op op_mulW (pv 2) (pe_call G__law_raised (hr.mono (by decide)) (by rfl) T.f__law_raised.g T.f__law_raised.F.kp T.f__law_raised.b .nil pass0 (pa_cons (pe_op op_add (pv 4) pe_int) (pa_cons (pv 3) pa_nil)))))))))))))), ?_⟩
    rcases pp with ⟨rfl, bp⟩ | ⟨rfl, bp⟩
    · obtain ⟨dx, pq, v, hx, hpq, hv⟩ := id bp
      refine ⟨_, rfl, _, _, _, _, true, rfl, .own _, isW bp, T.is_Whole_Whole, true, rfl, iteT ?_⟩
      refine ⟨_, rfl, x, _, dx, _, _, rfl, hx, T.k_Whole.cl, T.na_Whole_number, bp_at, v, k, 1, rfl, hv, inW k 1 1000000, rfl, ?_⟩
      cases e : inW k 1 1000000 with
      | false =>
        have z : rightB true k a b c p = false := by
          cases k with
          | int n => show (decide _ && _) = false; rw [show decide (1 ≤ n ∧ n ≤ 1000000) = false from e]; rfl
          | _ => rfl
        exact iteF (z ▸ q)
      | true =>
        refine iteT ?_
        cases k with
        | int n =>
          obtain rfl : v = .int n := hv
          have e1 : 1 ≤ n ∧ n ≤ 1000000 := of_decide_eq_true e
          refine ⟨_, rfl, _, rfl, x, _, dx, _, _, rfl, hx, T.k_Whole.cl, T.na_Whole_number, bp_at, _, rfl, n, qT p, rfl, by omega, qt, _, _, rfl, rfl, wm n (by omega), _, rfl, rfl, ?_⟩
          have z : rightB true (.int n) a b c p = decide (V.int (qBot a b c p * n ^ qT p) = V.int (qTop a b c p)) := by
            show (decide _ && decide _) = _
            rw [decide_eq_true e1, Bool.true_and, Bool.eq_iff_iff, decide_eq_true_eq, decide_eq_true_eq]
            unfold side
            rw [Int.mul_comm]
            exact ⟨fun h => congrArg V.int (by omega), fun h => by have := V.int.inj h; omega⟩
          rw [z] at q
          exact q
        | _ => cases e
    · obtain ⟨dx, pq, v, hx, hpq, hv⟩ := id bp
      refine ⟨_, rfl, _, _, _, _, false, rfl, .own _, isN bp, T.is_NoWhole_Whole, false, rfl, iteF ?_⟩
      have no : ¬ Qd a b c p → Q (.bl (decide (v = .non))) H := fun h => right_no hv h ▸ q
      refine ⟨_, rfl, _, _, rfl, rfl, _, rfl, ite2 (fun e => iteT ?_) (fun e => ?_)⟩
      · exact ⟨_, rfl, x, _, dx, _, _, rfl, hx, T.k_NoWhole.cl, T.na_NoWhole_low, bp_at, rfl, no fun z => by have : qTop a b c p ≤ 0 := of_decide_eq_true e; have := z.1; omega⟩
      refine ⟨_, rfl, _, _, rfl, rfl, _, rfl, ite2 (fun e2 => ?_) (fun e2 => ?_)⟩
      · exact ⟨_, rfl, x, _, dx, _, _, rfl, hx, T.k_NoWhole.cl, T.na_NoWhole_low, bp_at, rfl, no fun z => by have : qBot a b c p ≤ 0 := of_decide_eq_true e2; have := z.2; omega⟩
      have qd : Qd a b c p := by
        have h1 : ¬ qTop a b c p ≤ 0 := fun z => e (decide_eq_true z)
        have h2 : ¬ qBot a b c p ≤ 0 := fun z => e2 (decide_eq_true z)
        exact ⟨by omega, by omega⟩
      refine ⟨_, rfl, x, _, dx, _, _, rfl, hx, T.k_NoWhole.cl, T.na_NoWhole_low, bp_at, ?_⟩
      refine ⟨_, rfl, v, k, 0, rfl, hv, inW k 0 1000000, rfl, ?_⟩
      cases e : inW k 0 1000000 with
      | false =>
        have z : rightB false k a b c p = false := by
          cases k with
          | int n => show (decide _ && (decide _ && _)) = false; rw [show decide (0 ≤ n ∧ n ≤ 1000000) = false from e, Bool.false_and, Bool.and_false]
          | non => show (!decide _) = false; rw [decide_eq_true qd]; rfl
          | _ => rfl
        exact iteF (z ▸ q)
      | true =>
        refine iteT ?_
        cases k with
        | int n =>
          obtain rfl : v = .int n := hv
          have e1 : 0 ≤ n ∧ n ≤ 1000000 := of_decide_eq_true e
          have sd : ∀ m : Int, side (qT p) (qTop a b c p) (qBot a b c p) m = qBot a b c p * m ^ qT p - qTop a b c p := fun m => by
            unfold side
            rw [Int.mul_comm]
          refine ⟨_, rfl, _, rfl, _, rfl, n, qT p, rfl, by omega, qt, _, _, rfl, rfl, wm n (by omega), _, rfl, _, _, rfl, rfl, _, rfl, ite2 (fun e2 => ?_) (fun e2 => ?_)⟩
          · refine ⟨_, rfl, _, rfl, _, _, rfl, rfl, _, rfl, n + 1, qT p, rfl, by omega, qt, _, _, rfl, rfl, wm (n + 1) (by omega), _, _, rfl, rfl, ?_⟩
            have z : rightB false (.int n) a b c p = decide (qTop a b c p < qBot a b c p * (n + 1) ^ qT p) := by
              show (decide _ && (decide _ && (decide _ && decide _))) = _
              have e3 : qBot a b c p * n ^ qT p < qTop a b c p := of_decide_eq_true e2
              rw [decide_eq_true qd, decide_eq_true e1, decide_eq_true (show side (qT p) (qTop a b c p) (qBot a b c p) n < 0 by rw [sd]; omega), sd, Bool.true_and, Bool.true_and, Bool.true_and, Bool.eq_iff_iff, decide_eq_true_eq, decide_eq_true_eq]
              omega
            rw [z] at q
            exact q
          · have z : rightB false (.int n) a b c p = false := by
              show (decide _ && (decide _ && (decide _ && decide _))) = _
              have e3 : ¬ qBot a b c p * n ^ qT p < qTop a b c p := fun z => e2 (decide_eq_true z)
              rw [decide_eq_false (show ¬ side (qT p) (qTop a b c p) (qBot a b c p) n < 0 by rw [sd]; omega), Bool.false_and, Bool.and_false, Bool.and_false]
            rw [z] at q
            exact q
        | _ => cases e
def keyB {α : Type} (us ws : List α) : List α := us ++ ws
theorem kb_Whole (T : Txt K mg) : KBn K T.f_Whole__init__.fd ["self", "number"] 1 ["number"] keyB keyB := by
  obtain ⟨oc, od, kV, doc, pm, an, cdv, ct, osl, e, lk, hcd⟩ := T.f_Whole__init__.F.ex
  refine ⟨fun s us ws X l1 l2 => ?_, fun {vs us zs ws} h1 h2 => Vals.append h1 h2⟩
  match us, ws, l1, l2 with
  | [u], [w1], _, _ =>
    rw [e]
    exact .of_eq rfl
theorem kb_NoWhole (T : Txt K mg) : KBn K T.f_NoWhole__init__.fd ["self", "low"] 1 ["low"] keyB keyB := by
  obtain ⟨oc, od, kV, doc, pm, an, cdv, ct, osl, e, lk, hcd⟩ := T.f_NoWhole__init__.F.ex
  refine ⟨fun s us ws X l1 l2 => ?_, fun {vs us zs ws} h1 h2 => Vals.append h1 h2⟩
  match us, ws, l1, l2 with
  | [u], [w1], _, _ =>
    rw [e]
    exact .of_eq rfl
def spBent (T : Txt K mg) : Sp := fun vs H Q _ => ∃ (a c : Addr) (n : Nat) (at_ : Int), vs = [.ref a, .int at_] ∧ Hat H a c n ∧ n ≤ 990000 ∧ 0 ≤ at_ ∧ at_ ≤ 1000000 ∧
  ∀ (x : Addr) (w : Bool) (k : Kd) (H' : Hp), Pap T H' x w k → H x = none → Hat H' a c (n + 5) → But a H H' → Q (.ref x) H'
theorem ok__law_bent (T : Txt K mg) : FnOk P w K mg base CX0 8 T.f__law_bent.a T.f__law_bent.fd ["_law_hat_here", "_law_at"] (spBent T) := by
  have G__law_one := ok__law_one (P := P) (w := w) (base := base) T
  have G__law_lot := ok__law_lot (P := P) (w := w) (base := base) T
  have G_Whole__init__ := ok_Whole__init__ (P := P) (w := w) (base := base) T
  have G_NoWhole__init__ := ok_NoWhole__init__ (P := P) (w := w) (base := base) T
  refine T.f__law_bent.F.ok sc__law_bent (fun vs H Q E h => ?_) (fun cdv A outer s H vs Q E hr h => ?_)
  · obtain ⟨a, c, n, at_, rfl, _⟩ := h
    rfl
  · obtain ⟨a, c, n, at_, rfl, hh, hn, t0, t1, q⟩ := h
    have lg : at_.natAbs.log2 < 1920 := Nat.lt_trans (PySem.Flt.log2_lt_of (show 0 < 64 by decide) (show at_.natAbs < 2 ^ 64 by omega)) (by decide)
    refine ⟨_, (pss_cons (ps_set (i := 2) sc__law_bent.nd rfl (Or.inl rfl) (pe_lst (pa_cons (pv 1) (pa_cons (pe_op op_add (pv 1) pe_int) (pa_cons (pe_op op_sub (pv 1) pe_int) (pa_cons pe_int (pa_cons pe_int (pa_cons pe_non (pa_cons pe_bl (pa_cons (pe_callTy call_str_int (by rfl) T.n_str (by decide +kernel) (pa_cons (pv 1) pa_nil)) (pa_cons (pe_lst (pa_cons (pv 1) pa_nil)) (pa_cons (pe_un un_neg (pv 1)) (pa_cons (pe_op op_pow pe_int pe_int) (pa_cons pe_int (pa_cons (pe_call G__law_lot (hr.mono (by decide)) (by rfl) T.f__law_lot.g T.f__law_lot.F.kp T.f__law_lot.b .nil pass0 (pa_cons (pv 0) (pa_cons pe_int pa_nil))) pa_nil))))))))))))))) (pss_cons (ps_set (i := 3) sc__law_bent.nd rfl (Or.inl rfl) (pe_call G__law_one (hr.mono (by decide)) (by rfl) T.f__law_one.g T.f__law_one.F.kp T.f__law_one.b .nil pass0 (pa_cons (pv 0) (pa_cons (pv 2) pa_nil)))) (pss_one (ps_ret (pe_ifExp (pt_cmpR op_eq (pe_call G__law_lot (hr.mono (by decide)) (by rfl) T.f__law_lot.g T.f__law_lot.F.kp T.f__law_lot.b .nil pass0 (pa_cons (pv 0) (pa_cons pe_int pa_nil))) pe_int (nomark _)) (pe_makeK0 T.mk_Whole G_Whole__init__ (hr.mono (by decide)) (by rfl) T.k_Whole.g (kb_Whole T) pass0 (pk_cons (pv 3) pk_nil)) (pe_makeK0 T.mk_NoWhole G_NoWhole__init__ (hr.mono (by decide)) (by rfl) T.k_NoWhole.g (kb_NoWhole T) pass0 (pk_cons (pv 3) pk_nil))))))), ?_⟩
    refine ⟨_, rfl, _, rfl, _, _, rfl, rfl, _, rfl, _, _, rfl, rfl, _, rfl, _, rfl, lg, _, rfl, Nat.le_of_lt (small1000 (by show 1 ≤ 1000; decide)), fun l1 hl1 => ?_⟩
    have y1 := hh.upd (o := .lst [.int at_]) (hh.neA hl1) (hh.neC hl1)
    have n1a := hh.neA hl1
    have b0 := (.of (same_upd (o := .lst [.int at_]) hl1) : But a H _)
    refine ⟨_, rfl, _, rfl, _, _, rfl, rfl, ⟨by decide, by decide, by decide⟩, _, rfl, a, c, n, 200, rfl, y1, by omega, by decide, by decide, fun d1 H1 q1 q1' hh1 b1 => ?_⟩
    refine ⟨Nat.le_of_lt (small1000 (by show 13 ≤ 1000; decide)), fun l2 hl2 => ?_⟩
    have e1 := b1 _ _ (upd_same : upd H l1 (.lst [V.int at_]) l1 = _) n1a
    have s2 := same_upd (o := .lst [.int at_, .int (at_ + 1), .int (at_ - 1), .int 0, .int 1, .non, .bl true, .str (toString at_), .ref l1, .int (-at_), .int (10 ^ 30), .int 1000001, .int d1]) hl2
    have y2 := hh1.upd (o := .lst [.int at_, .int (at_ + 1), .int (at_ - 1), .int 0, .int 1, .non, .bl true, .str (toString at_), .ref l1, .int (-at_), .int (10 ^ 30), .int 1000001, .int d1]) (hh1.neA hl2) (hh1.neC hl2)
    refine ⟨_, rfl, _, rfl, a, c, n + 1, l2, _, rfl, y2.mono (by omega), by omega, .of upd_same, hh1.neA hl2, (by show 0 < 13; decide), (by show 13 ≤ 1000; decide), fun v H2 hv hh2 b2 => ?_⟩
    refine ⟨_, rfl, a, c, n + 2, 2, rfl, hh2.mono (by omega), by omega, by decide, by decide, fun d2 H3 q2 q2' hh3 b3 => ?_⟩
    have e3 := (b2.trans b3) _ _ (s2 _ _ e1) n1a
    have bb := (((b0.trans b1).trans (.of s2)).trans b2).trans b3
    obtain ⟨k, iv⟩ : ∃ k, Inp H3 v k := by
      have hv' : v ∈ [V.int at_, .int (at_ + 1), .int (at_ - 1), .int 0, .int 1, .non, .bl true, .str (toString at_), .ref l1, .int (-at_), .int (10 ^ 30), .int 1000001, .int d1] := hv
      simp only [List.mem_cons, List.not_mem_nil, or_false] at hv'
      rcases hv' with rfl | rfl | rfl | rfl | rfl | rfl | rfl | rfl | rfl | rfl | rfl | rfl | rfl
      · exact ⟨.int _, rfl⟩
      · exact ⟨.int _, rfl⟩
      · exact ⟨.int _, rfl⟩
      · exact ⟨.int _, rfl⟩
      · exact ⟨.int _, rfl⟩
      · exact ⟨.non, rfl⟩
      · exact ⟨.bl _, rfl⟩
      · exact ⟨.str _, rfl⟩
      · exact ⟨.tup at_, l1, rfl, e3⟩
      · exact ⟨.int _, rfl⟩
      · exact ⟨.int _, rfl⟩
      · exact ⟨.int _, rfl⟩
      · exact ⟨.int _, rfl⟩
    have ivx : ∀ {x dx C : Addr}, H3 x = none → H3 dx = none → dx ≠ x → Inp (upd (upd H3 dx (.own x)) x (.ins C dx [])) v k := fun {x dx C} hx hdx ne => (iv.same (same_upd hdx)).same (same_upd (by rw [upd_ne ne.symm]; exact hx))
    refine ⟨rfl, _, rfl, ite2 (fun e => ?_) (fun e => ?_)⟩
    · refine ⟨_, rfl, rfl, rfl, fun x dx hx hdx ne => ⟨x, dx, v, k, rfl, upd_same, ivx hx hdx ne, fun H' bp kp => ⟨rfl, ?_⟩⟩⟩
      have sm := made_same hx hdx kp
      exact q x true k H' (.inl ⟨rfl, bp⟩) (bb.free hh3 hx) ((hh3.same sm).mono (by omega)) (bb.trans (.of sm))
    · refine ⟨_, rfl, rfl, rfl, fun x dx hx hdx ne => ⟨x, dx, v, k, rfl, upd_same, ivx hx hdx ne, fun H' bp kp => ⟨rfl, ?_⟩⟩⟩
      have sm := made_same hx hdx kp
      exact q x false k H' (.inr ⟨rfl, bp⟩) (bb.free hh3 hx) ((hh3.same sm).mono (by omega)) (bb.trans (.of sm))
end
end Q

namespace Q
open PySem PySem.Spec PyProof.Rows L2
theorem right_flat {w : Bool} {k : Kd} {a b c p : Int} (h : rightB w k a b c p = true) : flatK k = true := by
  cases w <;> cases k <;> first | rfl | cases h
theorem right_whole {k : Kd} {a b c p : Int} (h : rightB true k a b c p = true) : ∃ n, k = .int n ∧ 1 ≤ n ∧ n ≤ 1000000 ∧ side (qT p) (qTop a b c p) (qBot a b c p) n = 0 := by
  cases k with
  | int n =>
    have h' : (decide (1 ≤ n ∧ n ≤ 1000000) && decide (side (qT p) (qTop a b c p) (qBot a b c p) n = 0)) = true := h
    rw [Bool.and_eq_true, decide_eq_true_eq, decide_eq_true_eq] at h'
    exact ⟨n, rfl, h'.1.1, h'.1.2, h'.2⟩
  | _ => cases h
theorem right_no_whole {k : Kd} {a b c p : Int} (h : rightB false k a b c p = true) : (k = .non ∧ ¬ Qd a b c p) ∨ ∃ n, k = .int n ∧ Qd a b c p ∧ 0 ≤ n ∧ n ≤ 1000000 ∧ side (qT p) (qTop a b c p) (qBot a b c p) n < 0 ∧ 0 < side (qT p) (qTop a b c p) (qBot a b c p) (n + 1) := by
  cases k with
  | int n =>
    have h' : (decide (Qd a b c p) && (decide (0 ≤ n ∧ n ≤ 1000000) && (decide (side (qT p) (qTop a b c p) (qBot a b c p) n < 0) && decide (0 < side (qT p) (qTop a b c p) (qBot a b c p) (n + 1))))) = true := h
    rw [Bool.and_eq_true, Bool.and_eq_true, Bool.and_eq_true, decide_eq_true_eq, decide_eq_true_eq, decide_eq_true_eq, decide_eq_true_eq] at h'
    exact .inr ⟨n, rfl, h'.1, h'.2.1.1, h'.2.1.2, h'.2.2.1, h'.2.2.2⟩
  | non =>
    have h' : (!decide (Qd a b c p)) = true := h
    refine .inl ⟨rfl, fun z => ?_⟩
    rw [decide_eq_true z] at h'
    cases h'
  | _ => cases h
theorem right_swap (w : Bool) (k : Kd) (a b c p : Int) : rightB w k a c b p = rightB w k a b c p := by
  have e1 : qTop a c b p = qTop a b c p := by
    unfold qTop
    rw [Int.mul_comm c b, Int.add_comm (c ^ p.toNat), Int.mul_right_comm a c b]
  have e2 : qBot a c b p = qBot a b c p := by
    unfold qBot
    rw [Int.mul_comm c b, Int.add_comm ((a * b) ^ (-p).toNat)]
  have e3 : decide (Qd a c b p) = decide (Qd a b c p) := decide_eq_decide.mpr (by unfold Qd; rw [e1, e2])
  cases w with
  | true =>
    cases k with
    | int n => show (decide _ && decide (side _ (qTop a c b p) (qBot a c b p) n = 0)) = _; rw [e1, e2]; rfl
    | _ => rfl
  | false =>
    cases k with
    | int n => show (decide (Qd a c b p) && (decide _ && (decide (side _ (qTop a c b p) (qBot a c b p) n < 0) && decide (0 < side _ (qTop a c b p) (qBot a c b p) (n + 1))))) = _; rw [e1, e2, e3]; rfl
    | non => show (!decide (Qd a c b p)) = _; rw [e3]; rfl
    | _ => rfl
theorem right_uniq {w w' : Bool} {k k' : Kd} {a b c p : Int} (th : Th a b c p) (h : rightB w k a b c p = true) (h' : rightB w' k' a b c p = true) : w = w' ∧ k = k' := by
  have mono : ∀ {x y : Int}, Qd a b c p → 0 ≤ x → x < y → side (qT p) (qTop a b c p) (qBot a b c p) x < side (qT p) (qTop a b c p) (qBot a b c p) y := fun qd hx xy => side_lt (qOk th qd.1 qd.2) hx xy
  cases w with
  | true =>
    obtain ⟨n, rfl, n1, _, n2⟩ := right_whole h
    have qd := whole_qd th n1 n2
    cases w' with
    | true =>
      obtain ⟨m, rfl, m1, _, m2⟩ := right_whole h'
      refine ⟨rfl, congrArg Kd.int ?_⟩
      rcases Int.lt_trichotomy n m with z | z | z
      · have := mono qd (by omega) z; omega
      · exact z
      · have := mono qd (by omega) z; omega
    | false =>
      rcases right_no_whole h' with ⟨_, z⟩ | ⟨m, rfl, _, m1, _, m2, m3⟩
      · exact absurd qd z
      · exfalso
        rcases Int.lt_trichotomy n m with z | z | z
        · have := mono qd (by omega) z; omega
        · subst z; omega
        · by_cases z2 : n = m + 1
          · subst z2; omega
          · have := mono qd (by omega) (show m + 1 < n by omega); omega
  | false =>
    cases w' with
    | true =>
      obtain ⟨n, rfl, n1, _, n2⟩ := right_whole h'
      have qd := whole_qd th n1 n2
      rcases right_no_whole h with ⟨_, z⟩ | ⟨m, rfl, _, m1, _, m2, m3⟩
      · exact absurd qd z
      · exfalso
        rcases Int.lt_trichotomy n m with z | z | z
        · have := mono qd (by omega) z; omega
        · subst z; omega
        · by_cases z2 : n = m + 1
          · subst z2; omega
          · have := mono qd (by omega) (show m + 1 < n by omega); omega
    | false =>
      refine ⟨rfl, ?_⟩
      rcases right_no_whole h with ⟨rfl, z⟩ | ⟨n, rfl, qd, n1, _, n2, n3⟩
      · rcases right_no_whole h' with ⟨rfl, z'⟩ | ⟨m, rfl, qd, _⟩
        · rfl
        · exact absurd qd z
      · rcases right_no_whole h' with ⟨rfl, z'⟩ | ⟨m, rfl, _, m1, _, m2, m3⟩
        · exact absurd qd z'
        · refine congrArg Kd.int ?_
          rcases Int.lt_trichotomy n m with z | z | z
          · exfalso
            by_cases z2 : m = n + 1
            · subst z2; omega
            · have := mono qd (by omega) (show n + 1 < m by omega); omega
          · exact z
          · exfalso
            by_cases z2 : n = m + 1
            · subst z2; omega
            · have := mono qd (by omega) (show m + 1 < n by omega); omega
theorem right_same {a c p : Int} (th : Th a a c p) : rightB true (.int c) a a c p = true := by
  have e : side (qT p) (qTop a a c p) (qBot a a c p) c = 0 := by
    unfold side qTop qBot qT
    by_cases e : p = 0
    · simp only [if_pos e, Int.pow_succ, Int.pow_zero, Int.one_mul]
      rw [Int.mul_comm]
      omega
    · by_cases e1 : 0 < p
      · simp only [if_neg e, if_pos e1]
        rw [show p.natAbs = p.toNat by omega]
        omega
      · simp only [if_neg e, if_neg e1]
        rw [show p.natAbs = (-p).toNat by omega]
        simp only [Int.mul_pow]
        generalize a ^ (-p).toNat = A
        generalize c ^ (-p).toNat = C
        grind
  show (decide _ && decide _) = true
  rw [decide_eq_true (show 1 ≤ c ∧ c ≤ 1000000 by have := th.c; omega), decide_eq_true e]
  rfl
theorem right_isby {a b c p n : Int} (h : side (qT p) (qTop a b c p) (qBot a b c p) n = 0) : isby a b c n p = true := by
  unfold side qTop qBot qT at h
  unfold isby wsum
  by_cases e : p = 0
  · simp only [if_pos e, Int.pow_succ, Int.pow_zero, Int.one_mul] at h ⊢
    refine decide_eq_true ?_
    rw [Int.mul_comm a n]
    omega
  · by_cases e1 : 0 < p
    · simp only [if_neg e, if_pos e1] at h ⊢
      rw [if_neg (show ¬ p < 0 by omega)]
      rw [show p.natAbs = p.toNat by omega] at h
      refine decide_eq_true ?_
      unfold sum0
      omega
    · simp only [if_neg e, if_neg e1] at h ⊢
      rw [if_pos (show p < 0 by omega)]
      rw [show p.natAbs = (-p).toNat by omega] at h
      refine decide_eq_true ?_
      unfold sum0
      simp only [Int.mul_pow] at h ⊢
      generalize a ^ (-p).toNat = A at *
      generalize b ^ (-p).toNat = B at *
      generalize c ^ (-p).toNat = C at *
      generalize n ^ (-p).toNat = N at *
      grind
section
variable {K : PySem.W.Frag} {mg : Str → Option Value}
/-- x == y and found != Whole(z), as a test that is False -/
theorem eq_skip {T : Txt K mg} {σ : L2.St} {H : Hp} {Q : Bool → Hp → Prop} {i j m : Nat} {xi xj xm : Int} {x : Addr} (hi : σ[i]? = some (some (.int xi))) (hj : σ[j]? = some (some (.int xj))) (hm : σ[m]? = some (some (.int xm))) (h10 : σ[10]? = some (some (.ref x)))
    (pp : xi = xj → Pap T H x true (.int xm)) (hq : ∀ H', Same H H' → Q false H') :
    tAnd (tTest (tOp rEq (tVar i) (tVar j))) (tTest (tOp (rPapEq T false) (tVar 10) (tMake T.k_Whole.a (spPapI T.k_Whole.a "number" "whole") [] E0 (tCons (tVar m) tNil)))) σ H Q := by
  refine ⟨_, hi, _, hj, rfl, _, rfl, ite2 (fun e => ?_) (fun e => hq _ (Same.refl _))⟩
  have e0 := V.int.inj (of_decide_eq_true e)
  refine ⟨_, h10, _, hm, fun y dy hy hdy ne => ⟨y, dy, .int xm, .int xm, rfl, upd_same, rfl, fun H' bp kp => ⟨rfl, ?_⟩⟩⟩
  have sm := made_same hy hdy kp
  exact ⟨x, y, true, .int xm, rfl, rfl, (pp e0).same sm, .inl ⟨rfl, bp⟩, rfl, false, rfl, hq _ sm⟩
end
end Q

namespace Q
open PySem PySem.Spec PyProof.Rows L2
section
variable {P : Program} {w : World} {K : PySem.W.Frag} {mg : Str → Option Value} {base : Heap}
def gFb {α : Type} (us ws : List α) : List α := match us, ws with
  | [], [p, a, c, b] => [a, b, c, p]
  | _, _ => []
theorem kb_fourth_by (T : Txt K mg) : KBinds K T.f_fourth_by.fd ["a", "b", "c", "power"] ["power", "a", "c", "b"] gFb gFb := by
  obtain ⟨oc, od, kV, doc, pm, an, cdv, ct, osl, e, lk, hcd⟩ := T.f_fourth_by.F.ex
  refine ⟨fun s us ws X hl => ?_, fun {vs us zs ws} h1 h2 => ?_⟩
  · match us, ws, hl with
    | [], [w1, w2, w3, w4], _ =>
      rw [e]
      exact .of_eq rfl
    | [], [], hl => cases hl
    | [], [_], hl => cases hl
    | [], [_, _], hl => cases hl
    | [], [_, _, _], hl => cases hl
    | [], _ :: _ :: _ :: _ :: _ :: _, hl => cases hl
    | _ :: _, _, hl => cases hl
  · match vs, us, zs, ws, h1, h2 with
    | [], [], [_, _, _, _], [_, _, _, _], _, .cons r1 (.cons r2 (.cons r3 (.cons r4 .nil))) => exact .cons r2 (.cons r4 (.cons r3 (.cons r1 .nil)))
    | [], [], [], [], _, _ => exact .nil
    | [], [], [_], [_], _, _ => exact .nil
    | [], [], [_, _], [_, _], _, _ => exact .nil
    | [], [], [_, _, _], [_, _, _], _, _ => exact .nil
    | [], [], _ :: _ :: _ :: _ :: _ :: _, _ :: _ :: _ :: _ :: _ :: _, _, _ => exact .nil
    | _ :: _, _ :: _, _, _, _, _ => exact .nil
def gSf {α : Type} (us ws : List α) : List α := match us, ws with
  | [], [v, p, c, b, a] => [a, b, c, p, v]
  | _, _ => []
theorem kb_shows_fourth_by (T : Txt K mg) : KBinds K T.f_shows_fourth_by.fd ["a", "b", "c", "power", "value"] ["value", "power", "c", "b", "a"] gSf gSf := by
  obtain ⟨oc, od, kV, doc, pm, an, cdv, ct, osl, e, lk, hcd⟩ := T.f_shows_fourth_by.F.ex
  refine ⟨fun s us ws X hl => ?_, fun {vs us zs ws} h1 h2 => ?_⟩
  · match us, ws, hl with
    | [], [w1, w2, w3, w4, w5], _ =>
      rw [e]
      exact .of_eq rfl
    | [], [], hl => cases hl
    | [], [_], hl => cases hl
    | [], [_, _], hl => cases hl
    | [], [_, _, _], hl => cases hl
    | [], [_, _, _, _], hl => cases hl
    | [], _ :: _ :: _ :: _ :: _ :: _ :: _, hl => cases hl
    | _ :: _, _, hl => cases hl
  · match vs, us, zs, ws, h1, h2 with
    | [], [], [_, _, _, _, _], [_, _, _, _, _], _, .cons r1 (.cons r2 (.cons r3 (.cons r4 (.cons r5 .nil)))) => exact .cons r5 (.cons r4 (.cons r3 (.cons r2 (.cons r1 .nil))))
    | [], [], [], [], _, _ => exact .nil
    | [], [], [_], [_], _, _ => exact .nil
    | [], [], [_, _], [_, _], _, _ => exact .nil
    | [], [], [_, _, _], [_, _, _], _, _ => exact .nil
    | [], [], [_, _, _, _], [_, _, _, _], _, _ => exact .nil
    | [], [], _ :: _ :: _ :: _ :: _ :: _ :: _, _ :: _ :: _ :: _ :: _ :: _ :: _, _, _ => exact .nil
    | _ :: _, _ :: _, _, _, _, _ => exact .nil
theorem ne_kit {K : PySem.W.Frag} {C W : Addr} (h : PySem.W.kitOne K (.ref C) (.ref W) = some false) (h2 : PySem.W.kitOne K (.ref W) (.ref W) = some true) : C ≠ W := fun e => by
  rw [e, h2] at h
  cases h
def spLaw (K : PySem.W.Frag) : Sp := fun vs H Q _ => ∃ (a : Addr) (ns : List Int), vs = [.ref a] ∧ SqL K H a (ns.map V.int) ∧ ns.length ≤ 63 ∧ ∀ H', Q (.bl true) H'
theorem ok_law (T : Txt K mg) : FnOk P w K mg base CX0 9 T.f_law.a T.f_law.fd ["_law_script"] (spLaw K) := by
  have G_ByPower__init__ := ok_ByPower__init__ (P := P) (w := w) (base := base) T
  have G__law_hat := ok__law_hat (P := P) (w := w) (base := base) T
  have G__law_drawn := ok__law_drawn (P := P) (w := w) (base := base) T
  have G__law_wanted := ok__law_wanted (P := P) (w := w) (base := base) T
  have G_fourth_by := ok_fourth_by (P := P) (w := w) (base := base) T
  have G__law_bent := ok__law_bent (P := P) (w := w) (base := base) T
  have G_ByPower__init__ := ok_ByPower__init__ (P := P) (w := w) (base := base) T
  have G_Between__init__ := ok_Between__init__ (P := P) (w := w) (base := base) T
  have G_Paper__init__ := ok_Paper__init__ (P := P) (w := w) (base := base) T
  have G_Denial__init__ := ok_Denial__init__ (P := P) (w := w) (base := base) T
  have G_shows_fourth_by := ok_shows_fourth_by (P := P) (w := w) (base := base) T
  have G__law_is_right := ok__law_is_right (P := P) (w := w) (base := base) T
  have G__law_one := ok__law_one (P := P) (w := w) (base := base) T
  have G_is_by := ok_is_by (P := P) (w := w) (base := base) T
  have G_Whole__init__ := ok_Whole__init__ (P := P) (w := w) (base := base) T
  refine T.f_law.F.ok sc_law (fun vs H Q E h => ?_) (fun cdv A outer s H vs Q E hr h => ?_)
  · obtain ⟨a, ns, rfl, _⟩ := h
    rfl
  · obtain ⟨a, ns, rfl, hl, hn, q⟩ := h
    refine ⟨_, (pss_cons (ps_set (i := 1) sc_law.nd rfl (Or.inl rfl) (pe_call G__law_hat (hr.mono (by decide)) (by rfl) T.f__law_hat.g T.f__law_hat.F.kp T.f__law_hat.b .nil pass0 (pa_cons (pv 0) pa_nil))) (pss_cons (ps_for PassesOwn.never rfl (pi_range1 rfl T.n_range (pa_cons pe_int pa_nil)) (pg_name (i := 2) sc_law.nd rfl (Or.inl rfl)) (pss_cons (ps_asg (pe_call G__law_drawn (hr.mono (by decide)) (by rfl) T.f__law_drawn.g T.f__law_drawn.F.kp T.f__law_drawn.b .nil pass0 (pa_cons (pv 1) pa_nil)) (pg_lst rfl (pgs_cons (pg_name (i := 3) sc_law.nd rfl (Or.inl rfl)) (pgs_cons (pg_name (i := 4) sc_law.nd rfl (Or.inl rfl)) (pgs_cons (pg_name (i := 5) sc_law.nd rfl (Or.inl rfl)) (pgs_cons (pg_name (i := 6) sc_law.nd rfl (Or.inl rfl)) pgs_nil)))))) (pss_cons (ps_asg (pe_call G__law_wanted (hr.mono (by decide)) (by rfl) T.f__law_wanted.g T.f__law_wanted.F.kp T.f__law_wanted.b .nil pass0 (pa_cons (pv 3) (pa_cons (pv 4) (pa_cons (pv 5) (pa_cons (pv 6) pa_nil))))) (pg_tup rfl (pgs_cons (pg_name (i := 7) sc_law.nd rfl (Or.inl rfl)) (pgs_cons (pg_name (i := 8) sc_law.nd rfl (Or.inl rfl)) (pgs_cons (pg_name (i := 9) sc_law.nd rfl (Or.inl rfl)) pgs_nil))))) (pss_cons (ps_set (i := 10) sc_law.nd rfl (Or.inl rfl) (pe_call G_fourth_by (hr.mono (by decide)) (by rfl) T.f_fourth_by.g T.f_fourth_by.F.kp T.f_fourth_by.b .nil pass0 (pa_cons (pv 3) (pa_cons (pv 4) (pa_cons (pv 5) (pa_cons (pv 6) pa_nil)))))) (pss_cons (ps_if (PW.pt (pw_or (pt_not (pt_val (pe_callB call_isiT (by rfl) T.n_isinstance (by decide +kernel) (pa_cons (pv 10) (pa_cons (pe_tup (pa_cons (pe_glob (v := .ref T.k_Whole.a) rfl T.k_Whole.g rfl) (pa_cons (pe_glob (v := .ref T.k_NoWhole.a) rfl T.k_NoWhole.g rfl) pa_nil))) pa_nil))))) (pw_or1 (pt_not (pt_val (pe_call G__law_is_right (hr.mono (by decide)) (by rfl) T.f__law_is_right.g T.f__law_is_right.F.kp T.f__law_is_right.b .nil pass0 (pa_cons (pv 10) (pa_cons (pv 7) (pa_cons (pv 8) (pa_cons (pv 9) pa_nil)))))))))) (pss_one (ps_ret pe_bl)) pss_nil) (pss_cons (ps_if (PW.pt (pw_or (pt_cmpR op_ne (pe_callTy (Ru.CallR.or (Ru.call_boolOwn T.bo_Whole (raw_bP T) (hr.mono (by decide)) pass0) (Ru.call_boolOwn T.bo_NoWhole (raw_bD T) (hr.mono (by decide)) pass0)) (by rfl) T.n_bool (by decide +kernel) (pa_cons (pv 10) pa_nil)) (pe_callB call_isi (by rfl) T.n_isinstance (by decide +kernel) (pa_cons (pv 10) (pa_cons (pe_glob (v := .ref T.k_Whole.a) rfl T.k_Whole.g rfl) pa_nil))) (nomark _)) (pw_or (pt_cmpR op_ne (pe_fld (pv 10) rfl) (pe_ifExp (pt_truthR (pv 10) (Ru.TruR.or (Ru.tru_own T.bo_Whole (raw_bP T) (hr.mono (by decide)) pass0) (Ru.tru_own T.bo_NoWhole (raw_bD T) (hr.mono (by decide)) pass0)) (by intro _; rfl)) pe_str pe_str) (nomark _)) (pw_or1 (pt_cmpR op_ne (pe_callB call_len_seq (by rfl) T.n_len (by decide +kernel) (pa_cons (pe_fld (pv 10) rfl) pa_nil)) pe_int (nomark _)))))) (pss_one (ps_ret pe_bl)) pss_nil) (pss_cons (ps_if (PW.pt (pw_or (PW.pt (pw_and (pt_truthR (pv 10) (Ru.TruR.or (Ru.tru_own T.bo_Whole (raw_bP T) (hr.mono (by decide)) pass0) (Ru.tru_own T.bo_NoWhole (raw_bD T) (hr.mono (by decide)) pass0)) (by intro _; rfl)) (pw_and1 (pt_not (pt_val (pe_call G_is_by (hr.mono (by decide)) (by rfl) T.f_is_by.g T.f_is_by.F.kp T.f_is_by.b .nil pass0 (pa_cons (pv 3) (pa_cons (pv 4) (pa_cons (pv 5) (pa_cons (pe_fld (pv 10) rfl) (pa_cons (pv 6) pa_nil))))))))))) (pw_or (PW.pt (pw_and (pt_cmpR op_eq (pv 3) (pv 4) (nomark _)) (pw_and1 (pt_cmpR (op_papNe T (raw_eqP T) (raw_eqD T) (hr.mono (by decide))) (pv 10) (pe_make T.mk_Whole G_Whole__init__ (hr.mono (by decide)) (by rfl) T.k_Whole.g T.f_Whole__init__.b .nil pass0 (pa_cons (pv 5) pa_nil)) (nomark _))))) (pw_or1 (PW.pt (pw_and (pt_cmpR op_eq (pv 3) (pv 5) (nomark _)) (pw_and1 (pt_cmpR (op_papNe T (raw_eqP T) (raw_eqD T) (hr.mono (by decide))) (pv 10) (pe_make T.mk_Whole G_Whole__init__ (hr.mono (by decide)) (by rfl) T.k_Whole.g T.f_Whole__init__.b .nil pass0 (pa_cons (pv 4) pa_nil)) (nomark _))))))))) (pss_one (ps_ret pe_bl)) pss_nil) (pss_cons (ps_if (PW.pt (pw_or (pt_cmpR (op_papNe T (raw_eqP T) (raw_eqD T) (hr.mono (by decide))) (Ru.pe_callK0 G_fourth_by (hr.mono (by decide)) (by rfl) T.f_fourth_by.g T.f_fourth_by.F.kp (kb_fourth_by T) pass0 (pk_cons (pv 6) (pk_cons (pv 3) (pk_cons (pv 4) (pk_cons (pv 5) pk_nil))))) (pv 10) (nomark _)) (pw_or1 (pt_cmpR op_notBl (pe_call G_shows_fourth_by (hr.mono (by decide)) (by rfl) T.f_shows_fourth_by.g T.f_shows_fourth_by.F.kp T.f_shows_fourth_by.b .nil pass0 (pa_cons (pv 3) (pa_cons (pv 4) (pa_cons (pv 5) (pa_cons (pv 6) (pa_cons (pv 10) pa_nil)))))) pe_bl (nomark _))))) (pss_one (ps_ret pe_bl)) pss_nil) (pss_cons (ps_set (i := 11) sc_law.nd rfl (Or.inl rfl) (pe_ifExp (pt_cmpR op_notN (pe_ix ix_tup (pe_fld (pv 10) rfl) pe_int (fun _ _ => rfl)) pe_non (nomark _)) (pe_ix ix_tup (pe_fld (pv 10) rfl) pe_int (fun _ _ => rfl)) pe_int)) (pss_cons (ps_for PassesOwn.never rfl (pi_range1 rfl T.n_range (pa_cons pe_int pa_nil)) (pg_name (i := 12) sc_law.nd rfl (Or.inl rfl)) (pss_cons (ps_set (i := 13) sc_law.nd rfl (Or.inl rfl) (pe_call G__law_bent (hr.mono (by decide)) (by rfl) T.f__law_bent.g T.f__law_bent.F.kp T.f__law_bent.b .nil pass0 (pa_cons (pv 1) (pa_cons (pv 11) pa_nil)))) (pss_one (ps_if (pt_cmpR op_ne (Ru.pe_callK0 G_shows_fourth_by (hr.mono (by decide)) (by rfl) T.f_shows_fourth_by.g T.f_shows_fourth_by.F.kp (kb_shows_fourth_by T) pass0 (pk_cons (pv 13) (pk_cons (pv 6) (pk_cons (pv 5) (pk_cons (pv 4) (pk_cons (pv 3) pk_nil)))))) (pe_call G__law_is_right (hr.mono (by decide)) (by rfl) T.f__law_is_right.g T.f__law_is_right.F.kp T.f__law_is_right.b .nil pass0 (pa_cons (pv 13) (pa_cons (pv 7) (pa_cons (pv 8) (pa_cons (pv 9) pa_nil))))) (nomark _)) (pss_one (ps_ret pe_bl)) pss_nil)))) (pss_cons (ps_set (i := 14) sc_law.nd rfl (Or.inl rfl) (pe_lst (pa_cons pe_non (pa_cons (pv 11) (pa_cons (pe_tup (pa_cons (pv 11) pa_nil)) (pa_cons pe_str (pa_cons (pe_make T.mk_ByPower G_ByPower__init__ (hr.mono (by decide)) (by rfl) T.k_ByPower.g T.f_ByPower__init__.b .nil pass0 (pa_cons (pv 11) pa_nil)) (pa_cons (pe_make T.mk_Between G_Between__init__ (hr.mono (by decide)) (by rfl) T.k_Between.g T.f_Between__init__.b .nil pass0 (pa_cons (pv 11) pa_nil)) (pa_cons (StX.pe_makeR T.mk_Paper G_Paper__init__ (hr.mono (by decide)) (by rfl) T.k_Paper.g pass0 (pa_cons pe_str (pa_cons (pv 11) pa_nil))) (pa_cons (StX.pe_makeR T.mk_Denial G_Denial__init__ (hr.mono (by decide)) (by rfl) T.k_Denial.g pass0 (pa_cons pe_str (pa_cons (pv 11) pa_nil))) (pa_cons (pe_fld (pv 10) rfl) pa_nil))))))))))) (pss_one (ps_if (pt_cmpR op_notBl (pe_call G_shows_fourth_by (hr.mono (by decide)) (by rfl) T.f_shows_fourth_by.g T.f_shows_fourth_by.F.kp T.f_shows_fourth_by.b .nil pass0 (pa_cons (pv 3) (pa_cons (pv 4) (pa_cons (pv 5) (pa_cons (pv 6) (pa_cons (pe_call G__law_one (hr.mono (by decide)) (by rfl) T.f__law_one.g T.f__law_one.F.kp T.f__law_one.b .nil pass0 (pa_cons (pv 1) (pa_cons (pv 14) pa_nil))) pa_nil)))))) pe_bl (nomark _)) (pss_one (ps_ret pe_bl)) pss_nil))))))))))))) (pss_one (ps_ret pe_bl)))), ?_⟩
    refine ⟨_, rfl, a, ns, rfl, hl, hn, fun h c H1 hh s1 => ?_⟩
    refine ⟨4, rfl, by decide, by decide, for_range (lo := 0) (n := 4) (fun i σ H' => Hat H' h c (200 * i) ∧ ∃ y2 y3 y4 y5 y6 y7 y8 y9 y10 y11 y12 y13 y14, σ = [some (.ref a), some (.ref h), y2, y3, y4, y5, y6, y7, y8, y9, y10, y11, y12, y13, y14])
      ⟨hh, none, none, none, none, none, none, none, none, none, none, none, none, none, rfl⟩ ?_ (fun σ H' _ => q H')⟩
    rintro i σ H' hi ⟨hhi, y2, y3, y4, y5, y6, y7, y8, y9, y10, y11, y12, y13, y14, rfl⟩
    refine ⟨_, rfl, h, c, _, rfl, hhi, by omega, fun l x1 x2 x3 p H2 e2 th f2 hh2 b2 => ⟨l, _, rfl, .of e2, rfl, _, _, rfl, _, _, rfl, _, _, rfl, _, _, rfl, rfl, ?_⟩⟩
    refine ⟨_, rfl, _, rfl, _, rfl, _, rfl, x1, x2, x3, p, rfl, th, fun u H3 fu eu s3 => ⟨u, _, rfl, .of eu, rfl, _, _, rfl, _, _, rfl, _, _, rfl, rfl, ?_⟩⟩
    refine ⟨_, rfl, _, rfl, _, rfl, _, rfl, x1, x2, x3, p, rfl, th, fun x H4 w k R pp fx s4 => ?_⟩
    have hh4 := (hh2.same s3).same s4
    have tb := th.b
    have tc := th.c
    have ta := th.a
    have tp := th.p
    have eqb : x1 = x2 → rightB true (.int x3) x1 x2 x3 p = true := fun e0 => by subst e0; exact right_same th
    have eqc : x1 = x3 → rightB true (.int x2) x1 x2 x3 p = true := fun e0 => by
      subst e0
      exact (right_swap true (.int x2) x1 x1 x2 p).trans (right_same ⟨ta, ta, tb, tp⟩)
    rcases pp with ⟨rfl, bp⟩ | ⟨rfl, bp⟩
    · obtain ⟨n, rfl, n0, n1, n2⟩ := right_whole R
      have k1 : ¬ ("word" : Str) = "number" := by decide +kernel
      have k2 : ¬ ("parts" : Str) = "number" := by decide +kernel
      refine ⟨_, rfl, sz2, fun t ht => ?_⟩
      have s5 := same_upd (o := .tup [.ref T.k_Whole.a, .ref T.k_NoWhole.a]) ht
      have bp5 := bp.same s5
      have pp5 : Pap T _ x true (.int n) := .inl ⟨rfl, bp5⟩
      obtain ⟨dx, pq, v, hx5, hpq5, hv⟩ := id bp5
      obtain rfl : v = .int n := hv
      refine ⟨_, t, _, _, _, true, rfl, upd_same, .cons (.own _) (.cons (.own _) .nil), isW bp5, kitAny_cons T.is_Whole_Whole (fun z => nomatch z) (fun _ => rfl), true, rfl, iteF ?_⟩
      refine ⟨_, rfl, _, rfl, _, rfl, _, rfl, x1, x2, x3, p, x, true, .int n, rfl, th, pp5, true, congrArg V.bl R, iteF ?_⟩
      refine ⟨_, rfl, .inl ⟨_, rfl, x, dx, _, rfl, hx5, x, rfl, true, rfl, ?_⟩⟩
      refine ⟨_, rfl, _, _, _, _, true, rfl, .own _, isW bp5, T.is_Whole_Whole, rfl, false, congrArg V.bl (by rw [decide_eq_true rfl]; rfl), iteF ?_⟩
      refine ⟨_, rfl, x, _, dx, _, _, rfl, hx5, T.k_Whole.cl, T.na_Whole_word, bp_word k1, _, rfl, .inl ⟨x, dx, _, rfl, hx5, x, rfl, true, rfl, iteT ⟨rfl, false, congrArg V.bl (by rw [decide_eq_true rfl]; rfl), iteF ?_⟩⟩⟩
      refine ⟨_, rfl, x, _, dx, _, _, rfl, hx5, T.k_Whole.cl, T.na_Whole_parts, bp_parts k2, pq, _, rfl, .inr (.of hpq5), rfl, false, congrArg V.bl (show (!decide (V.int 1 = V.int 1)) = false by rw [decide_eq_true rfl]; rfl), iteF ?_⟩
      refine ⟨_, rfl, .inl ⟨x, dx, _, rfl, hx5, x, rfl, true, rfl, iteT ?_⟩⟩
      refine ⟨_, rfl, _, rfl, _, rfl, _, rfl, x, _, dx, _, _, rfl, hx5, T.k_Whole.cl, T.na_Whole_number, bp_at, _, rfl, x1, x2, x3, n, p, rfl, ⟨⟨by omega, by omega⟩, ⟨by omega, by omega⟩, ⟨by omega, by omega⟩, ⟨by omega, by omega⟩, tp.1, tp.2⟩, fun H6 s6 => ⟨true, congrArg V.bl (right_isby n2), iteF ?_⟩⟩
      have same_as : ∀ {m : Int} {Hx : Hp}, rightB true (.int m) x1 x2 x3 p = true → Same _ Hx → Pap T Hx x true (.int m) := fun {m Hx} h sx => by
        obtain ⟨ew, ek⟩ := right_uniq th R h
        have pp7 := pp5.same sx
        rw [ek] at pp7
        exact pp7
      refine eq_skip (T := T) rfl rfl rfl rfl (fun e0 => same_as (eqb e0) s6) (fun H7 s7 => iteF ?_)
      refine eq_skip (T := T) rfl rfl rfl rfl (fun e0 => same_as (eqc e0) (s6.trans s7)) (fun H7b s7b => iteF ?_)
      have s57 := (s6.trans s7).trans s7b
      have pp7 := pp5.same s57
      refine ⟨_, rfl, _, rfl, _, rfl, _, rfl, x1, x3, x2, p, rfl, ⟨ta, tc, tb, tp⟩, fun x9 H8 w9 k9 R9 pp9 fx9 s8 => ?_⟩
      obtain ⟨rfl, rfl⟩ := right_uniq th ((right_swap w9 k9 x1 x2 x3 p).symm.trans R9) R
      refine ⟨_, rfl, x9, x, _, _, rfl, rfl, pp9, pp7.same s8, right_flat R, _, rfl, iteF ?_⟩
      refine ⟨_, rfl, _, rfl, _, rfl, _, rfl, _, rfl, x1, x2, x3, p, .ref x, true, rfl, th, .inr ⟨x, _, _, rfl, pp7.same s8, R.symm⟩, fun H9 s9 => ⟨_, _, rfl, rfl, false, rfl, iteF ?_⟩⟩
      have s59 := (s57.trans s8).trans s9
      have s49 := s5.trans s59
      have hx9 := s59 _ _ hx5
      have hpq9 := s59 _ _ hpq5
      have hh9 := hh4.same s49
      refine ⟨_, rfl, x, _, dx, _, _, rfl, hx9, T.k_Whole.cl, T.na_Whole_parts, bp_parts k2, pq, _, 0, _, rfl, rfl, .of hpq9, atI_nat (j := 0) rfl, rfl, true, congrArg V.bl (by rw [decide_eq_false (show ¬ V.int n = V.non from fun z => nomatch z)]; rfl), iteT ⟨_, rfl, x, _, dx, _, _, rfl, hx9, T.k_Whole.cl, T.na_Whole_parts, bp_parts k2, pq, _, 0, _, rfl, rfl, .of hpq9, atI_nat (j := 0) rfl, ?_⟩⟩
      refine ⟨4, rfl, by decide, by decide, for_range (lo := 0) (n := 4) (fun j σ H' => Hat H' h c (200 * i + 31 + 10 * j) ∧ But h H9 H' ∧ ∃ z12 z13, σ = [some (.ref a), some (.ref h), some (.int (0 + (i : Int))), some (.int x1), some (.int x2), some (.int x3), some (.int p), some (.int (qTop x1 x2 x3 p)), some (.int (qBot x1 x2 x3 p)), some (.int (qT p : Int)), some (.ref x), some (.int (n)), z12, z13, y14])
        ⟨hh9.mono (by omega), But.refl _ _, y12, y13, rfl⟩ ?_ ?_⟩
      · rintro j σ H' hj ⟨hhj, bj, z12, z13, rfl⟩
        refine ⟨_, rfl, _, rfl, h, c, _, n, rfl, hhj, by omega, by omega, by omega, fun xb wb kb Hb ppb fxb hhb bb => ?_⟩
        refine ⟨_, rfl, _, rfl, _, rfl, _, rfl, _, rfl, x1, x2, x3, p, .ref xb, _, rfl, th, .inr ⟨xb, wb, kb, rfl, ppb, rfl⟩, fun Hc sc => ?_⟩
        refine ⟨_, rfl, _, rfl, _, rfl, _, rfl, x1, x2, x3, p, xb, wb, kb, rfl, th, ppb.same sc, rfl, false, congrArg V.bl (by rw [decide_eq_true rfl]; rfl), iteF ?_⟩
        exact ⟨(hhb.same sc).mono (by omega), (bj.trans bb).trans (.of sc), some (.int (0 + (j : Int))), some (.ref xb), rfl⟩
      · rintro σ H' ⟨hhz, bz, z12, z13, rfl⟩
        have nxh : x ≠ h := (hh2.same s3).neA fx
        have nqh : pq ≠ h := by
          obtain ⟨_, _, _, ha, _⟩ := id hh9
          exact ne_of hpq9 ha.h (fun z => nomatch z)
        have hxz := bz _ _ hx9 nxh
        have hpqz := bz _ _ hpq9 nqh
        refine ⟨_, rfl, _, rfl, Nat.le_of_lt (small1000 (by show 1 ≤ 1000; decide)), fun t1 ht1 => ?_⟩
        have u1 := same_upd (o := .tup [.int (n)]) ht1
        have f1 := (upd_same : upd H' t1 (.tup [V.int (n)]) t1 = _)
        refine ⟨_, rfl, fun xa dxa hxa hdxa nea => ⟨xa, dxa, .int (n), .int (n), rfl, upd_same, rfl, fun Ha bpa kpa => ⟨rfl, ?_⟩⟩⟩
        have sa := made_same hxa hdxa kpa
        have na : xa ≠ h := (hhz.same u1).neA hxa
        obtain ⟨_, _, _, ga, _⟩ := bpa
        refine ⟨_, rfl, fun xb dxb hxb hdxb neb => ⟨xb, dxb, .int (n), .int (n), rfl, upd_same, rfl, fun Hb bpb kpb => ⟨rfl, ?_⟩⟩⟩
        have sb := made_same hxb hdxb kpb
        have nb : xb ≠ h := ((hhz.same u1).same sa).neA hxb
        obtain ⟨_, _, _, gb, _⟩ := bpb
        refine ⟨_, rfl, fun xc dxc hxc hdxc nec => ⟨xc, T.k_Paper.a, dxc, "whole", .int (n), .int (n), rfl, ⟨T.k_Paper.cl, T.na_Paper_word, T.na_Paper_parts⟩, upd_same, rfl, fun qc vc Hc gc hc2 hc3 hvc kpc => ⟨rfl, ?_⟩⟩⟩
        have sc := made_same hxc hdxc kpc
        have nc : xc ≠ h := (((hhz.same u1).same sa).same sb).neA hxc
        refine ⟨_, rfl, fun xd dxd hxd hdxd ned => ⟨xd, T.k_Denial.a, dxd, "nowhole", .int (n), .int (n), rfl, ⟨T.k_Denial.cl, T.na_Denial_word, T.na_Denial_parts⟩, upd_same, rfl, fun qd vd Hd gd hd2 hd3 hvd kpd => ⟨rfl, ?_⟩⟩⟩
        have sd := made_same hxd hdxd kpd
        have nd : xd ≠ h := ((((hhz.same u1).same sa).same sb).same sc).neA hxd
        have U := u1.trans (sa.trans (sb.trans (sc.trans sd)))
        have hhd := hhz.same U
        refine ⟨_, rfl, x, _, dx, _, _, rfl, (U _ _ hxz), T.k_Whole.cl, T.na_Whole_parts, bp_parts k2, Nat.le_of_lt (small1000 (by show 9 ≤ 1000; decide)), fun lo hlo => ?_⟩
        have so := same_upd (o := .lst [.non, .int (n), .ref t1, .str "whole", .ref xa, .ref xb, .ref xc, .ref xd, .ref pq]) hlo
        have y := hhd.upd (o := .lst [.non, .int (n), .ref t1, .str "whole", .ref xa, .ref xb, .ref xc, .ref xd, .ref pq]) (hhd.neA hlo) (hhd.neC hlo)
        refine ⟨_, rfl, _, rfl, _, rfl, _, rfl, _, rfl, _, rfl, h, c, _, lo, _, rfl, y, by omega, .of upd_same, hhd.neA hlo, (by show 0 < 9; decide), (by show 9 ≤ 1000; decide), fun v9 Hv hv9 hhv bv => ?_⟩
        have lift : ∀ b o, Hd b = some o → b ≠ h → Hv b = some o := fun b o e ne => bv _ _ (so _ _ e) ne
        have odd : Odd T Hv v9 := by
          have hv' : v9 ∈ [V.non, .int (n), .ref t1, .str "whole", .ref xa, .ref xb, .ref xc, .ref xd, .ref pq] := hv9
          simp only [List.mem_cons, List.not_mem_nil, or_false] at hv'
          rcases hv' with rfl | rfl | rfl | rfl | rfl | rfl | rfl | rfl | rfl
          · exact .inl rfl
          · exact .inr (.inl ⟨_, rfl⟩)
          · exact .inr (.inr (.inr (.inl ⟨t1, _, rfl, lift _ _ ((sa.trans (sb.trans (sc.trans sd))) _ _ f1) (hhz.neA ht1)⟩)))
          · exact .inr (.inr (.inl ⟨_, rfl⟩))
          · exact .inr (.inr (.inr (.inr ⟨xa, _, _, _, rfl, lift _ _ ((sb.trans (sc.trans sd)) _ _ ga) na, T.mk_ByPower.makes, ne_kit T.is_ByPower_Whole T.is_Whole_Whole, ne_kit T.is_ByPower_NoWhole T.is_NoWhole_NoWhole⟩)))
          · exact .inr (.inr (.inr (.inr ⟨xb, _, _, _, rfl, lift _ _ ((sc.trans sd) _ _ gb) nb, T.mk_Between.makes, ne_kit T.is_Between_Whole T.is_Whole_Whole, ne_kit T.is_Between_NoWhole T.is_NoWhole_NoWhole⟩)))
          · exact .inr (.inr (.inr (.inr ⟨xc, _, _, _, rfl, lift _ _ (sd _ _ gc) nc, T.mk_Paper.makes, ne_kit T.is_Paper_Whole T.is_Whole_Whole, ne_kit T.is_Paper_NoWhole T.is_NoWhole_NoWhole⟩)))
          · exact .inr (.inr (.inr (.inr ⟨xd, _, _, _, rfl, lift _ _ (gd) nd, T.mk_Denial.makes, ne_kit T.is_Denial_Whole T.is_Whole_Whole, ne_kit T.is_Denial_NoWhole T.is_NoWhole_NoWhole⟩)))
          · exact .inr (.inr (.inr (.inl ⟨pq, _, rfl, lift _ _ (U _ _ hpqz) nqh⟩)))
        refine ⟨x1, x2, x3, p, v9, false, rfl, th, .inl ⟨rfl, odd⟩, fun He se => ⟨_, _, rfl, rfl, false, rfl, iteF ?_⟩⟩
        exact ⟨(hhv.same se).mono (by omega), some (.int (0 + (i : Int))), some (.int x1), some (.int x2), some (.int x3), some (.int p), some (.int (qTop x1 x2 x3 p)), some (.int (qBot x1 x2 x3 p)), some (.int (qT p : Int)), some (.ref x), some (.int (n)), z12, z13, some (.ref lo), rfl⟩
    · rcases right_no_whole R with ⟨rfl, nq⟩ | ⟨n, rfl, qd, n0, n1, n2, n3⟩
      · have k1 : ¬ ("word" : Str) = "low" := by decide +kernel
        have k2 : ¬ ("parts" : Str) = "low" := by decide +kernel
        refine ⟨_, rfl, sz2, fun t ht => ?_⟩
        have s5 := same_upd (o := .tup [.ref T.k_Whole.a, .ref T.k_NoWhole.a]) ht
        have bp5 := bp.same s5
        have pp5 : Pap T _ x false (.non) := .inr ⟨rfl, bp5⟩
        obtain ⟨dx, pq, v, hx5, hpq5, hv⟩ := id bp5
        obtain rfl : v = .non := hv
        refine ⟨_, t, _, _, _, true, rfl, upd_same, .cons (.own _) (.cons (.own _) .nil), isN bp5, kitAny_cons T.is_NoWhole_Whole (fun _ => kitAny_cons T.is_NoWhole_NoWhole (fun z => nomatch z) (fun _ => rfl)) (fun z => nomatch z), true, rfl, iteF ?_⟩
        refine ⟨_, rfl, _, rfl, _, rfl, _, rfl, x1, x2, x3, p, x, false, .non, rfl, th, pp5, true, congrArg V.bl R, iteF ?_⟩
        refine ⟨_, rfl, .inr ⟨_, rfl, x, dx, _, rfl, hx5, x, rfl, false, rfl, ?_⟩⟩
        refine ⟨_, rfl, _, _, _, _, false, rfl, .own _, isN bp5, T.is_NoWhole_Whole, rfl, false, congrArg V.bl (by rw [decide_eq_true rfl]; rfl), iteF ?_⟩
        refine ⟨_, rfl, x, _, dx, _, _, rfl, hx5, T.k_NoWhole.cl, T.na_NoWhole_word, bp_word k1, _, rfl, .inr ⟨x, dx, _, rfl, hx5, x, rfl, false, rfl, iteF ⟨rfl, false, congrArg V.bl (by rw [decide_eq_true rfl]; rfl), iteF ?_⟩⟩⟩
        refine ⟨_, rfl, x, _, dx, _, _, rfl, hx5, T.k_NoWhole.cl, T.na_NoWhole_parts, bp_parts k2, pq, _, rfl, .inr (.of hpq5), rfl, false, congrArg V.bl (show (!decide (V.int 1 = V.int 1)) = false by rw [decide_eq_true rfl]; rfl), iteF ?_⟩
        refine ⟨_, rfl, .inr ⟨x, dx, _, rfl, hx5, x, rfl, false, rfl, iteF (iteF ?_)⟩⟩
        have s6 := Same.refl (upd H4 t (.tup [.ref T.k_Whole.a, .ref T.k_NoWhole.a]))
        have same_as : ∀ {m : Int} {Hx : Hp}, rightB true (.int m) x1 x2 x3 p = true → Same _ Hx → Pap T Hx x true (.int m) := fun {m Hx} h sx => by
          obtain ⟨ew, ek⟩ := right_uniq th R h
          have pp7 := pp5.same sx
          cases ew
        refine eq_skip (T := T) rfl rfl rfl rfl (fun e0 => same_as (eqb e0) s6) (fun H7 s7 => iteF ?_)
        refine eq_skip (T := T) rfl rfl rfl rfl (fun e0 => same_as (eqc e0) (s6.trans s7)) (fun H7b s7b => iteF ?_)
        have s57 := (s6.trans s7).trans s7b
        have pp7 := pp5.same s57
        refine ⟨_, rfl, _, rfl, _, rfl, _, rfl, x1, x3, x2, p, rfl, ⟨ta, tc, tb, tp⟩, fun x9 H8 w9 k9 R9 pp9 fx9 s8 => ?_⟩
        obtain ⟨rfl, rfl⟩ := right_uniq th ((right_swap w9 k9 x1 x2 x3 p).symm.trans R9) R
        refine ⟨_, rfl, x9, x, _, _, rfl, rfl, pp9, pp7.same s8, right_flat R, _, rfl, iteF ?_⟩
        refine ⟨_, rfl, _, rfl, _, rfl, _, rfl, _, rfl, x1, x2, x3, p, .ref x, true, rfl, th, .inr ⟨x, _, _, rfl, pp7.same s8, R.symm⟩, fun H9 s9 => ⟨_, _, rfl, rfl, false, rfl, iteF ?_⟩⟩
        have s59 := (s57.trans s8).trans s9
        have s49 := s5.trans s59
        have hx9 := s59 _ _ hx5
        have hpq9 := s59 _ _ hpq5
        have hh9 := hh4.same s49
        refine ⟨_, rfl, x, _, dx, _, _, rfl, hx9, T.k_NoWhole.cl, T.na_NoWhole_parts, bp_parts k2, pq, _, 0, _, rfl, rfl, .of hpq9, atI_nat (j := 0) rfl, rfl, false, congrArg V.bl (by rw [decide_eq_true rfl]; rfl), iteF ?_⟩
        refine ⟨4, rfl, by decide, by decide, for_range (lo := 0) (n := 4) (fun j σ H' => Hat H' h c (200 * i + 31 + 10 * j) ∧ But h H9 H' ∧ ∃ z12 z13, σ = [some (.ref a), some (.ref h), some (.int (0 + (i : Int))), some (.int x1), some (.int x2), some (.int x3), some (.int p), some (.int (qTop x1 x2 x3 p)), some (.int (qBot x1 x2 x3 p)), some (.int (qT p : Int)), some (.ref x), some (.int (0)), z12, z13, y14])
          ⟨hh9.mono (by omega), But.refl _ _, y12, y13, rfl⟩ ?_ ?_⟩
        · rintro j σ H' hj ⟨hhj, bj, z12, z13, rfl⟩
          refine ⟨_, rfl, _, rfl, h, c, _, 0, rfl, hhj, by omega, by omega, by omega, fun xb wb kb Hb ppb fxb hhb bb => ?_⟩
          refine ⟨_, rfl, _, rfl, _, rfl, _, rfl, _, rfl, x1, x2, x3, p, .ref xb, _, rfl, th, .inr ⟨xb, wb, kb, rfl, ppb, rfl⟩, fun Hc sc => ?_⟩
          refine ⟨_, rfl, _, rfl, _, rfl, _, rfl, x1, x2, x3, p, xb, wb, kb, rfl, th, ppb.same sc, rfl, false, congrArg V.bl (by rw [decide_eq_true rfl]; rfl), iteF ?_⟩
          exact ⟨(hhb.same sc).mono (by omega), (bj.trans bb).trans (.of sc), some (.int (0 + (j : Int))), some (.ref xb), rfl⟩
        · rintro σ H' ⟨hhz, bz, z12, z13, rfl⟩
          have nxh : x ≠ h := (hh2.same s3).neA fx
          have nqh : pq ≠ h := by
            obtain ⟨_, _, _, ha, _⟩ := id hh9
            exact ne_of hpq9 ha.h (fun z => nomatch z)
          have hxz := bz _ _ hx9 nxh
          have hpqz := bz _ _ hpq9 nqh
          refine ⟨_, rfl, _, rfl, Nat.le_of_lt (small1000 (by show 1 ≤ 1000; decide)), fun t1 ht1 => ?_⟩
          have u1 := same_upd (o := .tup [.int (0)]) ht1
          have f1 := (upd_same : upd H' t1 (.tup [V.int (0)]) t1 = _)
          refine ⟨_, rfl, fun xa dxa hxa hdxa nea => ⟨xa, dxa, .int (0), .int (0), rfl, upd_same, rfl, fun Ha bpa kpa => ⟨rfl, ?_⟩⟩⟩
          have sa := made_same hxa hdxa kpa
          have na : xa ≠ h := (hhz.same u1).neA hxa
          obtain ⟨_, _, _, ga, _⟩ := bpa
          refine ⟨_, rfl, fun xb dxb hxb hdxb neb => ⟨xb, dxb, .int (0), .int (0), rfl, upd_same, rfl, fun Hb bpb kpb => ⟨rfl, ?_⟩⟩⟩
          have sb := made_same hxb hdxb kpb
          have nb : xb ≠ h := ((hhz.same u1).same sa).neA hxb
          obtain ⟨_, _, _, gb, _⟩ := bpb
          refine ⟨_, rfl, fun xc dxc hxc hdxc nec => ⟨xc, T.k_Paper.a, dxc, "whole", .int (0), .int (0), rfl, ⟨T.k_Paper.cl, T.na_Paper_word, T.na_Paper_parts⟩, upd_same, rfl, fun qc vc Hc gc hc2 hc3 hvc kpc => ⟨rfl, ?_⟩⟩⟩
          have sc := made_same hxc hdxc kpc
          have nc : xc ≠ h := (((hhz.same u1).same sa).same sb).neA hxc
          refine ⟨_, rfl, fun xd dxd hxd hdxd ned => ⟨xd, T.k_Denial.a, dxd, "nowhole", .int (0), .int (0), rfl, ⟨T.k_Denial.cl, T.na_Denial_word, T.na_Denial_parts⟩, upd_same, rfl, fun qd vd Hd gd hd2 hd3 hvd kpd => ⟨rfl, ?_⟩⟩⟩
          have sd := made_same hxd hdxd kpd
          have nd : xd ≠ h := ((((hhz.same u1).same sa).same sb).same sc).neA hxd
          have U := u1.trans (sa.trans (sb.trans (sc.trans sd)))
          have hhd := hhz.same U
          refine ⟨_, rfl, x, _, dx, _, _, rfl, (U _ _ hxz), T.k_NoWhole.cl, T.na_NoWhole_parts, bp_parts k2, Nat.le_of_lt (small1000 (by show 9 ≤ 1000; decide)), fun lo hlo => ?_⟩
          have so := same_upd (o := .lst [.non, .int (0), .ref t1, .str "whole", .ref xa, .ref xb, .ref xc, .ref xd, .ref pq]) hlo
          have y := hhd.upd (o := .lst [.non, .int (0), .ref t1, .str "whole", .ref xa, .ref xb, .ref xc, .ref xd, .ref pq]) (hhd.neA hlo) (hhd.neC hlo)
          refine ⟨_, rfl, _, rfl, _, rfl, _, rfl, _, rfl, _, rfl, h, c, _, lo, _, rfl, y, by omega, .of upd_same, hhd.neA hlo, (by show 0 < 9; decide), (by show 9 ≤ 1000; decide), fun v9 Hv hv9 hhv bv => ?_⟩
          have lift : ∀ b o, Hd b = some o → b ≠ h → Hv b = some o := fun b o e ne => bv _ _ (so _ _ e) ne
          have odd : Odd T Hv v9 := by
            have hv' : v9 ∈ [V.non, .int (0), .ref t1, .str "whole", .ref xa, .ref xb, .ref xc, .ref xd, .ref pq] := hv9
            simp only [List.mem_cons, List.not_mem_nil, or_false] at hv'
            rcases hv' with rfl | rfl | rfl | rfl | rfl | rfl | rfl | rfl | rfl
            · exact .inl rfl
            · exact .inr (.inl ⟨_, rfl⟩)
            · exact .inr (.inr (.inr (.inl ⟨t1, _, rfl, lift _ _ ((sa.trans (sb.trans (sc.trans sd))) _ _ f1) (hhz.neA ht1)⟩)))
            · exact .inr (.inr (.inl ⟨_, rfl⟩))
            · exact .inr (.inr (.inr (.inr ⟨xa, _, _, _, rfl, lift _ _ ((sb.trans (sc.trans sd)) _ _ ga) na, T.mk_ByPower.makes, ne_kit T.is_ByPower_Whole T.is_Whole_Whole, ne_kit T.is_ByPower_NoWhole T.is_NoWhole_NoWhole⟩)))
            · exact .inr (.inr (.inr (.inr ⟨xb, _, _, _, rfl, lift _ _ ((sc.trans sd) _ _ gb) nb, T.mk_Between.makes, ne_kit T.is_Between_Whole T.is_Whole_Whole, ne_kit T.is_Between_NoWhole T.is_NoWhole_NoWhole⟩)))
            · exact .inr (.inr (.inr (.inr ⟨xc, _, _, _, rfl, lift _ _ (sd _ _ gc) nc, T.mk_Paper.makes, ne_kit T.is_Paper_Whole T.is_Whole_Whole, ne_kit T.is_Paper_NoWhole T.is_NoWhole_NoWhole⟩)))
            · exact .inr (.inr (.inr (.inr ⟨xd, _, _, _, rfl, lift _ _ (gd) nd, T.mk_Denial.makes, ne_kit T.is_Denial_Whole T.is_Whole_Whole, ne_kit T.is_Denial_NoWhole T.is_NoWhole_NoWhole⟩)))
            · exact .inr (.inr (.inr (.inl ⟨pq, _, rfl, lift _ _ (U _ _ hpqz) nqh⟩)))
          refine ⟨x1, x2, x3, p, v9, false, rfl, th, .inl ⟨rfl, odd⟩, fun He se => ⟨_, _, rfl, rfl, false, rfl, iteF ?_⟩⟩
          exact ⟨(hhv.same se).mono (by omega), some (.int (0 + (i : Int))), some (.int x1), some (.int x2), some (.int x3), some (.int p), some (.int (qTop x1 x2 x3 p)), some (.int (qBot x1 x2 x3 p)), some (.int (qT p : Int)), some (.ref x), some (.int (0)), z12, z13, some (.ref lo), rfl⟩
      · have k1 : ¬ ("word" : Str) = "low" := by decide +kernel
        have k2 : ¬ ("parts" : Str) = "low" := by decide +kernel
        refine ⟨_, rfl, sz2, fun t ht => ?_⟩
        have s5 := same_upd (o := .tup [.ref T.k_Whole.a, .ref T.k_NoWhole.a]) ht
        have bp5 := bp.same s5
        have pp5 : Pap T _ x false (.int n) := .inr ⟨rfl, bp5⟩
        obtain ⟨dx, pq, v, hx5, hpq5, hv⟩ := id bp5
        obtain rfl : v = .int n := hv
        refine ⟨_, t, _, _, _, true, rfl, upd_same, .cons (.own _) (.cons (.own _) .nil), isN bp5, kitAny_cons T.is_NoWhole_Whole (fun _ => kitAny_cons T.is_NoWhole_NoWhole (fun z => nomatch z) (fun _ => rfl)) (fun z => nomatch z), true, rfl, iteF ?_⟩
        refine ⟨_, rfl, _, rfl, _, rfl, _, rfl, x1, x2, x3, p, x, false, .int n, rfl, th, pp5, true, congrArg V.bl R, iteF ?_⟩
        refine ⟨_, rfl, .inr ⟨_, rfl, x, dx, _, rfl, hx5, x, rfl, false, rfl, ?_⟩⟩
        refine ⟨_, rfl, _, _, _, _, false, rfl, .own _, isN bp5, T.is_NoWhole_Whole, rfl, false, congrArg V.bl (by rw [decide_eq_true rfl]; rfl), iteF ?_⟩
        refine ⟨_, rfl, x, _, dx, _, _, rfl, hx5, T.k_NoWhole.cl, T.na_NoWhole_word, bp_word k1, _, rfl, .inr ⟨x, dx, _, rfl, hx5, x, rfl, false, rfl, iteF ⟨rfl, false, congrArg V.bl (by rw [decide_eq_true rfl]; rfl), iteF ?_⟩⟩⟩
        refine ⟨_, rfl, x, _, dx, _, _, rfl, hx5, T.k_NoWhole.cl, T.na_NoWhole_parts, bp_parts k2, pq, _, rfl, .inr (.of hpq5), rfl, false, congrArg V.bl (show (!decide (V.int 1 = V.int 1)) = false by rw [decide_eq_true rfl]; rfl), iteF ?_⟩
        refine ⟨_, rfl, .inr ⟨x, dx, _, rfl, hx5, x, rfl, false, rfl, iteF (iteF ?_)⟩⟩
        have s6 := Same.refl (upd H4 t (.tup [.ref T.k_Whole.a, .ref T.k_NoWhole.a]))
        have same_as : ∀ {m : Int} {Hx : Hp}, rightB true (.int m) x1 x2 x3 p = true → Same _ Hx → Pap T Hx x true (.int m) := fun {m Hx} h sx => by
          obtain ⟨ew, ek⟩ := right_uniq th R h
          have pp7 := pp5.same sx
          cases ew
        refine eq_skip (T := T) rfl rfl rfl rfl (fun e0 => same_as (eqb e0) s6) (fun H7 s7 => iteF ?_)
        refine eq_skip (T := T) rfl rfl rfl rfl (fun e0 => same_as (eqc e0) (s6.trans s7)) (fun H7b s7b => iteF ?_)
        have s57 := (s6.trans s7).trans s7b
        have pp7 := pp5.same s57
        refine ⟨_, rfl, _, rfl, _, rfl, _, rfl, x1, x3, x2, p, rfl, ⟨ta, tc, tb, tp⟩, fun x9 H8 w9 k9 R9 pp9 fx9 s8 => ?_⟩
        obtain ⟨rfl, rfl⟩ := right_uniq th ((right_swap w9 k9 x1 x2 x3 p).symm.trans R9) R
        refine ⟨_, rfl, x9, x, _, _, rfl, rfl, pp9, pp7.same s8, right_flat R, _, rfl, iteF ?_⟩
        refine ⟨_, rfl, _, rfl, _, rfl, _, rfl, _, rfl, x1, x2, x3, p, .ref x, true, rfl, th, .inr ⟨x, _, _, rfl, pp7.same s8, R.symm⟩, fun H9 s9 => ⟨_, _, rfl, rfl, false, rfl, iteF ?_⟩⟩
        have s59 := (s57.trans s8).trans s9
        have s49 := s5.trans s59
        have hx9 := s59 _ _ hx5
        have hpq9 := s59 _ _ hpq5
        have hh9 := hh4.same s49
        refine ⟨_, rfl, x, _, dx, _, _, rfl, hx9, T.k_NoWhole.cl, T.na_NoWhole_parts, bp_parts k2, pq, _, 0, _, rfl, rfl, .of hpq9, atI_nat (j := 0) rfl, rfl, true, congrArg V.bl (by rw [decide_eq_false (show ¬ V.int n = V.non from fun z => nomatch z)]; rfl), iteT ⟨_, rfl, x, _, dx, _, _, rfl, hx9, T.k_NoWhole.cl, T.na_NoWhole_parts, bp_parts k2, pq, _, 0, _, rfl, rfl, .of hpq9, atI_nat (j := 0) rfl, ?_⟩⟩
        refine ⟨4, rfl, by decide, by decide, for_range (lo := 0) (n := 4) (fun j σ H' => Hat H' h c (200 * i + 31 + 10 * j) ∧ But h H9 H' ∧ ∃ z12 z13, σ = [some (.ref a), some (.ref h), some (.int (0 + (i : Int))), some (.int x1), some (.int x2), some (.int x3), some (.int p), some (.int (qTop x1 x2 x3 p)), some (.int (qBot x1 x2 x3 p)), some (.int (qT p : Int)), some (.ref x), some (.int (n)), z12, z13, y14])
          ⟨hh9.mono (by omega), But.refl _ _, y12, y13, rfl⟩ ?_ ?_⟩
        · rintro j σ H' hj ⟨hhj, bj, z12, z13, rfl⟩
          refine ⟨_, rfl, _, rfl, h, c, _, n, rfl, hhj, by omega, by omega, by omega, fun xb wb kb Hb ppb fxb hhb bb => ?_⟩
          refine ⟨_, rfl, _, rfl, _, rfl, _, rfl, _, rfl, x1, x2, x3, p, .ref xb, _, rfl, th, .inr ⟨xb, wb, kb, rfl, ppb, rfl⟩, fun Hc sc => ?_⟩
          refine ⟨_, rfl, _, rfl, _, rfl, _, rfl, x1, x2, x3, p, xb, wb, kb, rfl, th, ppb.same sc, rfl, false, congrArg V.bl (by rw [decide_eq_true rfl]; rfl), iteF ?_⟩
          exact ⟨(hhb.same sc).mono (by omega), (bj.trans bb).trans (.of sc), some (.int (0 + (j : Int))), some (.ref xb), rfl⟩
        · rintro σ H' ⟨hhz, bz, z12, z13, rfl⟩
          have nxh : x ≠ h := (hh2.same s3).neA fx
          have nqh : pq ≠ h := by
            obtain ⟨_, _, _, ha, _⟩ := id hh9
            exact ne_of hpq9 ha.h (fun z => nomatch z)
          have hxz := bz _ _ hx9 nxh
          have hpqz := bz _ _ hpq9 nqh
          refine ⟨_, rfl, _, rfl, Nat.le_of_lt (small1000 (by show 1 ≤ 1000; decide)), fun t1 ht1 => ?_⟩
          have u1 := same_upd (o := .tup [.int (n)]) ht1
          have f1 := (upd_same : upd H' t1 (.tup [V.int (n)]) t1 = _)
          refine ⟨_, rfl, fun xa dxa hxa hdxa nea => ⟨xa, dxa, .int (n), .int (n), rfl, upd_same, rfl, fun Ha bpa kpa => ⟨rfl, ?_⟩⟩⟩
          have sa := made_same hxa hdxa kpa
          have na : xa ≠ h := (hhz.same u1).neA hxa
          obtain ⟨_, _, _, ga, _⟩ := bpa
          refine ⟨_, rfl, fun xb dxb hxb hdxb neb => ⟨xb, dxb, .int (n), .int (n), rfl, upd_same, rfl, fun Hb bpb kpb => ⟨rfl, ?_⟩⟩⟩
          have sb := made_same hxb hdxb kpb
          have nb : xb ≠ h := ((hhz.same u1).same sa).neA hxb
          obtain ⟨_, _, _, gb, _⟩ := bpb
          refine ⟨_, rfl, fun xc dxc hxc hdxc nec => ⟨xc, T.k_Paper.a, dxc, "whole", .int (n), .int (n), rfl, ⟨T.k_Paper.cl, T.na_Paper_word, T.na_Paper_parts⟩, upd_same, rfl, fun qc vc Hc gc hc2 hc3 hvc kpc => ⟨rfl, ?_⟩⟩⟩
          have sc := made_same hxc hdxc kpc
          have nc : xc ≠ h := (((hhz.same u1).same sa).same sb).neA hxc
          refine ⟨_, rfl, fun xd dxd hxd hdxd ned => ⟨xd, T.k_Denial.a, dxd, "nowhole", .int (n), .int (n), rfl, ⟨T.k_Denial.cl, T.na_Denial_word, T.na_Denial_parts⟩, upd_same, rfl, fun qd vd Hd gd hd2 hd3 hvd kpd => ⟨rfl, ?_⟩⟩⟩
          have sd := made_same hxd hdxd kpd
          have nd : xd ≠ h := ((((hhz.same u1).same sa).same sb).same sc).neA hxd
          have U := u1.trans (sa.trans (sb.trans (sc.trans sd)))
          have hhd := hhz.same U
          refine ⟨_, rfl, x, _, dx, _, _, rfl, (U _ _ hxz), T.k_NoWhole.cl, T.na_NoWhole_parts, bp_parts k2, Nat.le_of_lt (small1000 (by show 9 ≤ 1000; decide)), fun lo hlo => ?_⟩
          have so := same_upd (o := .lst [.non, .int (n), .ref t1, .str "whole", .ref xa, .ref xb, .ref xc, .ref xd, .ref pq]) hlo
          have y := hhd.upd (o := .lst [.non, .int (n), .ref t1, .str "whole", .ref xa, .ref xb, .ref xc, .ref xd, .ref pq]) (hhd.neA hlo) (hhd.neC hlo)
          refine ⟨_, rfl, _, rfl, _, rfl, _, rfl, _, rfl, _, rfl, h, c, _, lo, _, rfl, y, by omega, .of upd_same, hhd.neA hlo, (by show 0 < 9; decide), (by show 9 ≤ 1000; decide), fun v9 Hv hv9 hhv bv => ?_⟩
          have lift : ∀ b o, Hd b = some o → b ≠ h → Hv b = some o := fun b o e ne => bv _ _ (so _ _ e) ne
          have odd : Odd T Hv v9 := by
            have hv' : v9 ∈ [V.non, .int (n), .ref t1, .str "whole", .ref xa, .ref xb, .ref xc, .ref xd, .ref pq] := hv9
            simp only [List.mem_cons, List.not_mem_nil, or_false] at hv'
            rcases hv' with rfl | rfl | rfl | rfl | rfl | rfl | rfl | rfl | rfl
            · exact .inl rfl
            · exact .inr (.inl ⟨_, rfl⟩)
            · exact .inr (.inr (.inr (.inl ⟨t1, _, rfl, lift _ _ ((sa.trans (sb.trans (sc.trans sd))) _ _ f1) (hhz.neA ht1)⟩)))
            · exact .inr (.inr (.inl ⟨_, rfl⟩))
            · exact .inr (.inr (.inr (.inr ⟨xa, _, _, _, rfl, lift _ _ ((sb.trans (sc.trans sd)) _ _ ga) na, T.mk_ByPower.makes, ne_kit T.is_ByPower_Whole T.is_Whole_Whole, ne_kit T.is_ByPower_NoWhole T.is_NoWhole_NoWhole⟩)))
            · exact .inr (.inr (.inr (.inr ⟨xb, _, _, _, rfl, lift _ _ ((sc.trans sd) _ _ gb) nb, T.mk_Between.makes, ne_kit T.is_Between_Whole T.is_Whole_Whole, ne_kit T.is_Between_NoWhole T.is_NoWhole_NoWhole⟩)))
            · exact .inr (.inr (.inr (.inr ⟨xc, _, _, _, rfl, lift _ _ (sd _ _ gc) nc, T.mk_Paper.makes, ne_kit T.is_Paper_Whole T.is_Whole_Whole, ne_kit T.is_Paper_NoWhole T.is_NoWhole_NoWhole⟩)))
            · exact .inr (.inr (.inr (.inr ⟨xd, _, _, _, rfl, lift _ _ (gd) nd, T.mk_Denial.makes, ne_kit T.is_Denial_Whole T.is_Whole_Whole, ne_kit T.is_Denial_NoWhole T.is_NoWhole_NoWhole⟩)))
            · exact .inr (.inr (.inr (.inl ⟨pq, _, rfl, lift _ _ (U _ _ hpqz) nqh⟩)))
          refine ⟨x1, x2, x3, p, v9, false, rfl, th, .inl ⟨rfl, odd⟩, fun He se => ⟨_, _, rfl, rfl, false, rfl, iteF ?_⟩⟩
          exact ⟨(hhv.same se).mono (by omega), some (.int (0 + (i : Int))), some (.int x1), some (.int x2), some (.int x3), some (.int p), some (.int (qTop x1 x2 x3 p)), some (.int (qBot x1 x2 x3 p)), some (.int (qT p : Int)), some (.ref x), some (.int (n)), z12, z13, some (.ref lo), rfl⟩
end
end Q

namespace Q
open PySem PySem.Spec PyProof.Rows L2
def mk_txt {K : PySem.W.Frag} {h : Heap} {mg : Str → Option Value} (X : K.In h) (G : h.Ns mainGlobals mg)
    {a_Paper__init__ : Addr} {od_Paper__init__ an_Paper__init__ : Option Addr} {sl_Paper__init__ : Array (Option Value)} {oc_Paper__init__ kV_Paper__init__ dc_Paper__init__ pm_Paper__init__ cd_Paper__init__ ct_Paper__init__ : Value}
    {a_Paper__eq__ : Addr} {od_Paper__eq__ an_Paper__eq__ : Option Addr} {sl_Paper__eq__ : Array (Option Value)} {oc_Paper__eq__ kV_Paper__eq__ dc_Paper__eq__ pm_Paper__eq__ cd_Paper__eq__ ct_Paper__eq__ : Value}
    {a_Paper__bool__ : Addr} {od_Paper__bool__ an_Paper__bool__ : Option Addr} {sl_Paper__bool__ : Array (Option Value)} {oc_Paper__bool__ kV_Paper__bool__ dc_Paper__bool__ pm_Paper__bool__ cd_Paper__bool__ ct_Paper__bool__ : Value}
    {a_Denial__init__ : Addr} {od_Denial__init__ an_Denial__init__ : Option Addr} {sl_Denial__init__ : Array (Option Value)} {oc_Denial__init__ kV_Denial__init__ dc_Denial__init__ pm_Denial__init__ cd_Denial__init__ ct_Denial__init__ : Value}
    {a_Denial__eq__ : Addr} {od_Denial__eq__ an_Denial__eq__ : Option Addr} {sl_Denial__eq__ : Array (Option Value)} {oc_Denial__eq__ kV_Denial__eq__ dc_Denial__eq__ pm_Denial__eq__ cd_Denial__eq__ ct_Denial__eq__ : Value}
    {a_Denial__bool__ : Addr} {od_Denial__bool__ an_Denial__bool__ : Option Addr} {sl_Denial__bool__ : Array (Option Value)} {oc_Denial__bool__ kV_Denial__bool__ dc_Denial__bool__ pm_Denial__bool__ cd_Denial__bool__ ct_Denial__bool__ : Value}
    {a_Whole__init__ : Addr} {od_Whole__init__ an_Whole__init__ : Option Addr} {sl_Whole__init__ : Array (Option Value)} {oc_Whole__init__ kV_Whole__init__ dc_Whole__init__ pm_Whole__init__ cd_Whole__init__ ct_Whole__init__ : Value}
    {a_NoWhole__init__ : Addr} {od_NoWhole__init__ an_NoWhole__init__ : Option Addr} {sl_NoWhole__init__ : Array (Option Value)} {oc_NoWhole__init__ kV_NoWhole__init__ dc_NoWhole__init__ pm_NoWhole__init__ cd_NoWhole__init__ ct_NoWhole__init__ : Value}
    {a_ByPower__init__ : Addr} {od_ByPower__init__ an_ByPower__init__ : Option Addr} {sl_ByPower__init__ : Array (Option Value)} {oc_ByPower__init__ kV_ByPower__init__ dc_ByPower__init__ pm_ByPower__init__ cd_ByPower__init__ ct_ByPower__init__ : Value}
    {a_Between__init__ : Addr} {od_Between__init__ an_Between__init__ : Option Addr} {sl_Between__init__ : Array (Option Value)} {oc_Between__init__ kV_Between__init__ dc_Between__init__ pm_Between__init__ cd_Between__init__ ct_Between__init__ : Value}
    {a_Paper : Addr} (h1_Paper : PySem.W.nsIn K mainGlobals "Paper" = some (some (.ref a_Paper)))
    (h1_Paper__init__ : PySem.W.findIn K (.ref a_Paper) "__init__" = some (some (.ref a_Paper__init__)))
    (h1_Paper__eq__ : PySem.W.findIn K (.ref a_Paper) "__eq__" = some (some (.ref a_Paper__eq__)))
    (h1_Paper__bool__ : PySem.W.findIn K (.ref a_Paper) "__bool__" = some (some (.ref a_Paper__bool__)))
    {a_Denial : Addr} (h1_Denial : PySem.W.nsIn K mainGlobals "Denial" = some (some (.ref a_Denial)))
    (h1_Denial__init__ : PySem.W.findIn K (.ref a_Denial) "__init__" = some (some (.ref a_Denial__init__)))
    (h1_Denial__eq__ : PySem.W.findIn K (.ref a_Denial) "__eq__" = some (some (.ref a_Denial__eq__)))
    (h1_Denial__bool__ : PySem.W.findIn K (.ref a_Denial) "__bool__" = some (some (.ref a_Denial__bool__)))
    {a_ByPower : Addr} (h1_ByPower : PySem.W.nsIn K mainGlobals "ByPower" = some (some (.ref a_ByPower)))
    (h1_ByPower__init__ : PySem.W.findIn K (.ref a_ByPower) "__init__" = some (some (.ref a_ByPower__init__)))
    {a_Between : Addr} (h1_Between : PySem.W.nsIn K mainGlobals "Between" = some (some (.ref a_Between)))
    (h1_Between__init__ : PySem.W.findIn K (.ref a_Between) "__init__" = some (some (.ref a_Between__init__)))
    {a_Whole : Addr} (h1_Whole : PySem.W.nsIn K mainGlobals "Whole" = some (some (.ref a_Whole)))
    (h1_Whole__init__ : PySem.W.findIn K (.ref a_Whole) "__init__" = some (some (.ref a_Whole__init__)))
    {a_NoWhole : Addr} (h1_NoWhole : PySem.W.nsIn K mainGlobals "NoWhole" = some (some (.ref a_NoWhole)))
    (h1_NoWhole__init__ : PySem.W.findIn K (.ref a_NoWhole) "__init__" = some (some (.ref a_NoWhole__init__)))
    (h0_Paper__init__ : PySem.W.isFn K (.ref a_Paper__init__) = true)
    (h2_Paper__init__ : K.lookup a_Paper__init__ = some ⟨oc_Paper__init__, od_Paper__init__, .func (PySem.W.fnOf "__init__" "Paper.__init__" (defArgs s_Paper__init__) (defBody s_Paper__init__) (defScope s_Paper__init__) .none kV_Paper__init__ dc_Paper__init__ pm_Paper__init__ an_Paper__init__ cd_Paper__init__ ct_Paper__init__), sl_Paper__init__⟩)
    (h3_Paper__init__ : PySem.W.codeIn K cd_Paper__init__ "Paper.__init__" = true)
    (h4_Paper__init__ : PySem.W.keepIn K (.ref a_Paper__init__) = true)
    (h0_Paper__eq__ : PySem.W.isFn K (.ref a_Paper__eq__) = true)
    (h2_Paper__eq__ : K.lookup a_Paper__eq__ = some ⟨oc_Paper__eq__, od_Paper__eq__, .func (PySem.W.fnOf "__eq__" "Paper.__eq__" (defArgs s_Paper__eq__) (defBody s_Paper__eq__) (defScope s_Paper__eq__) .none kV_Paper__eq__ dc_Paper__eq__ pm_Paper__eq__ an_Paper__eq__ cd_Paper__eq__ ct_Paper__eq__), sl_Paper__eq__⟩)
    (h3_Paper__eq__ : PySem.W.codeIn K cd_Paper__eq__ "Paper.__eq__" = true)
    (h4_Paper__eq__ : PySem.W.keepIn K (.ref a_Paper__eq__) = true)
    (h0_Paper__bool__ : PySem.W.isFn K (.ref a_Paper__bool__) = true)
    (h2_Paper__bool__ : K.lookup a_Paper__bool__ = some ⟨oc_Paper__bool__, od_Paper__bool__, .func (PySem.W.fnOf "__bool__" "Paper.__bool__" (defArgs s_Paper__bool__) (defBody s_Paper__bool__) (defScope s_Paper__bool__) .none kV_Paper__bool__ dc_Paper__bool__ pm_Paper__bool__ an_Paper__bool__ cd_Paper__bool__ ct_Paper__bool__), sl_Paper__bool__⟩)
    (h3_Paper__bool__ : PySem.W.codeIn K cd_Paper__bool__ "Paper.__bool__" = true)
    (h4_Paper__bool__ : PySem.W.keepIn K (.ref a_Paper__bool__) = true)
    (h0_Denial__init__ : PySem.W.isFn K (.ref a_Denial__init__) = true)
    (h2_Denial__init__ : K.lookup a_Denial__init__ = some ⟨oc_Denial__init__, od_Denial__init__, .func (PySem.W.fnOf "__init__" "Denial.__init__" (defArgs s_Denial__init__) (defBody s_Denial__init__) (defScope s_Denial__init__) .none kV_Denial__init__ dc_Denial__init__ pm_Denial__init__ an_Denial__init__ cd_Denial__init__ ct_Denial__init__), sl_Denial__init__⟩)
    (h3_Denial__init__ : PySem.W.codeIn K cd_Denial__init__ "Denial.__init__" = true)
    (h4_Denial__init__ : PySem.W.keepIn K (.ref a_Denial__init__) = true)
    (h0_Denial__eq__ : PySem.W.isFn K (.ref a_Denial__eq__) = true)
    (h2_Denial__eq__ : K.lookup a_Denial__eq__ = some ⟨oc_Denial__eq__, od_Denial__eq__, .func (PySem.W.fnOf "__eq__" "Denial.__eq__" (defArgs s_Denial__eq__) (defBody s_Denial__eq__) (defScope s_Denial__eq__) .none kV_Denial__eq__ dc_Denial__eq__ pm_Denial__eq__ an_Denial__eq__ cd_Denial__eq__ ct_Denial__eq__), sl_Denial__eq__⟩)
    (h3_Denial__eq__ : PySem.W.codeIn K cd_Denial__eq__ "Denial.__eq__" = true)
    (h4_Denial__eq__ : PySem.W.keepIn K (.ref a_Denial__eq__) = true)
    (h0_Denial__bool__ : PySem.W.isFn K (.ref a_Denial__bool__) = true)
    (h2_Denial__bool__ : K.lookup a_Denial__bool__ = some ⟨oc_Denial__bool__, od_Denial__bool__, .func (PySem.W.fnOf "__bool__" "Denial.__bool__" (defArgs s_Denial__bool__) (defBody s_Denial__bool__) (defScope s_Denial__bool__) .none kV_Denial__bool__ dc_Denial__bool__ pm_Denial__bool__ an_Denial__bool__ cd_Denial__bool__ ct_Denial__bool__), sl_Denial__bool__⟩)
    (h3_Denial__bool__ : PySem.W.codeIn K cd_Denial__bool__ "Denial.__bool__" = true)
    (h4_Denial__bool__ : PySem.W.keepIn K (.ref a_Denial__bool__) = true)
    (h0_Whole__init__ : PySem.W.isFn K (.ref a_Whole__init__) = true)
    (h2_Whole__init__ : K.lookup a_Whole__init__ = some ⟨oc_Whole__init__, od_Whole__init__, .func (PySem.W.fnOf "__init__" "Whole.__init__" (defArgs s_Whole__init__) (defBody s_Whole__init__) (defScope s_Whole__init__) .none kV_Whole__init__ dc_Whole__init__ pm_Whole__init__ an_Whole__init__ cd_Whole__init__ ct_Whole__init__), sl_Whole__init__⟩)
    (h3_Whole__init__ : PySem.W.codeIn K cd_Whole__init__ "Whole.__init__" = true)
    (h4_Whole__init__ : PySem.W.keepIn K (.ref a_Whole__init__) = true)
    (h0_NoWhole__init__ : PySem.W.isFn K (.ref a_NoWhole__init__) = true)
    (h2_NoWhole__init__ : K.lookup a_NoWhole__init__ = some ⟨oc_NoWhole__init__, od_NoWhole__init__, .func (PySem.W.fnOf "__init__" "NoWhole.__init__" (defArgs s_NoWhole__init__) (defBody s_NoWhole__init__) (defScope s_NoWhole__init__) .none kV_NoWhole__init__ dc_NoWhole__init__ pm_NoWhole__init__ an_NoWhole__init__ cd_NoWhole__init__ ct_NoWhole__init__), sl_NoWhole__init__⟩)
    (h3_NoWhole__init__ : PySem.W.codeIn K cd_NoWhole__init__ "NoWhole.__init__" = true)
    (h4_NoWhole__init__ : PySem.W.keepIn K (.ref a_NoWhole__init__) = true)
    (h0_ByPower__init__ : PySem.W.isFn K (.ref a_ByPower__init__) = true)
    (h2_ByPower__init__ : K.lookup a_ByPower__init__ = some ⟨oc_ByPower__init__, od_ByPower__init__, .func (PySem.W.fnOf "__init__" "ByPower.__init__" (defArgs s_ByPower__init__) (defBody s_ByPower__init__) (defScope s_ByPower__init__) .none kV_ByPower__init__ dc_ByPower__init__ pm_ByPower__init__ an_ByPower__init__ cd_ByPower__init__ ct_ByPower__init__), sl_ByPower__init__⟩)
    (h3_ByPower__init__ : PySem.W.codeIn K cd_ByPower__init__ "ByPower.__init__" = true)
    (h4_ByPower__init__ : PySem.W.keepIn K (.ref a_ByPower__init__) = true)
    (h0_Between__init__ : PySem.W.isFn K (.ref a_Between__init__) = true)
    (h2_Between__init__ : K.lookup a_Between__init__ = some ⟨oc_Between__init__, od_Between__init__, .func (PySem.W.fnOf "__init__" "Between.__init__" (defArgs s_Between__init__) (defBody s_Between__init__) (defScope s_Between__init__) .none kV_Between__init__ dc_Between__init__ pm_Between__init__ an_Between__init__ cd_Between__init__ ct_Between__init__), sl_Between__init__⟩)
    (h3_Between__init__ : PySem.W.codeIn K cd_Between__init__ "Between.__init__" = true)
    (h4_Between__init__ : PySem.W.keepIn K (.ref a_Between__init__) = true)
    (pg_Paper : PySem.W.plainGet K a_Paper Str.empty = true)
    (hd_Paper : PySem.W.hasDictIn K a_Paper = true)
    (po_Paper : PySem.W.plainOver K a_Paper = true)
    (sa_Paper : PySem.W.findIn K (.ref a_Paper) "__setattr__" = some (some (.builtin "object.__setattr__")))
    (mk_Paper : PySem.W.makesIn K a_Paper = true)
    (kc_Paper : PySem.W.keepIn K (.ref a_Paper) = true)
    (ha_Paper : PySem.W.findIn K (.ref a_Paper) "__class__" = some (some (.builtin "object.__class__")))
    (hm_Paper : PySem.W.mroIn K a_Paper (.type "object") = some true)
    (na_Paper_word : PySem.W.findIn K (.ref a_Paper) "word" = some none)
    (na_Paper_parts : PySem.W.findIn K (.ref a_Paper) "parts" = some none)
    (qe_Paper : PySem.W.findIn K (.ref a_Paper) "__eq__" = some (some (.ref a_Paper__eq__)))
    (qn_Paper : PySem.W.findIn K (.ref a_Paper) "__ne__" = some (some (.builtin "object.__ne__")))
    (r1_Paper : PySem.W.readsIn K a_Paper (.type "type") = true)
    (r2_Paper : PySem.W.specialIn K (.ref a_Paper) "__getattribute__" = some (some (.builtin "type.__getattribute__")))
    (r3_Paper__init__ : PySem.W.findCls K (.ref a_Paper) (.type "type") "__init__" = some (.val (.ref a_Paper__init__)))
    (is_Paper_Whole : PySem.W.kitOne K (.ref a_Paper) (.ref a_Whole) = some false)
    (is_Paper_NoWhole : PySem.W.kitOne K (.ref a_Paper) (.ref a_NoWhole) = some false)
    (pg_Denial : PySem.W.plainGet K a_Denial Str.empty = true)
    (hd_Denial : PySem.W.hasDictIn K a_Denial = true)
    (po_Denial : PySem.W.plainOver K a_Denial = true)
    (sa_Denial : PySem.W.findIn K (.ref a_Denial) "__setattr__" = some (some (.builtin "object.__setattr__")))
    (mk_Denial : PySem.W.makesIn K a_Denial = true)
    (kc_Denial : PySem.W.keepIn K (.ref a_Denial) = true)
    (ha_Denial : PySem.W.findIn K (.ref a_Denial) "__class__" = some (some (.builtin "object.__class__")))
    (hm_Denial : PySem.W.mroIn K a_Denial (.type "object") = some true)
    (na_Denial_word : PySem.W.findIn K (.ref a_Denial) "word" = some none)
    (na_Denial_parts : PySem.W.findIn K (.ref a_Denial) "parts" = some none)
    (qe_Denial : PySem.W.findIn K (.ref a_Denial) "__eq__" = some (some (.ref a_Denial__eq__)))
    (qn_Denial : PySem.W.findIn K (.ref a_Denial) "__ne__" = some (some (.builtin "object.__ne__")))
    (r1_Denial : PySem.W.readsIn K a_Denial (.type "type") = true)
    (r2_Denial : PySem.W.specialIn K (.ref a_Denial) "__getattribute__" = some (some (.builtin "type.__getattribute__")))
    (r3_Denial__init__ : PySem.W.findCls K (.ref a_Denial) (.type "type") "__init__" = some (.val (.ref a_Denial__init__)))
    (is_Denial_Whole : PySem.W.kitOne K (.ref a_Denial) (.ref a_Whole) = some false)
    (is_Denial_NoWhole : PySem.W.kitOne K (.ref a_Denial) (.ref a_NoWhole) = some false)
    (pg_ByPower : PySem.W.plainGet K a_ByPower Str.empty = true)
    (hd_ByPower : PySem.W.hasDictIn K a_ByPower = true)
    (po_ByPower : PySem.W.plainOver K a_ByPower = true)
    (sa_ByPower : PySem.W.findIn K (.ref a_ByPower) "__setattr__" = some (some (.builtin "object.__setattr__")))
    (mk_ByPower : PySem.W.makesIn K a_ByPower = true)
    (kc_ByPower : PySem.W.keepIn K (.ref a_ByPower) = true)
    (ha_ByPower : PySem.W.findIn K (.ref a_ByPower) "__class__" = some (some (.builtin "object.__class__")))
    (hm_ByPower : PySem.W.mroIn K a_ByPower (.type "object") = some true)
    (na_ByPower_word : PySem.W.findIn K (.ref a_ByPower) "word" = some none)
    (na_ByPower_parts : PySem.W.findIn K (.ref a_ByPower) "parts" = some none)
    (na_ByPower_power : PySem.W.findIn K (.ref a_ByPower) "power" = some none)
    (qe_ByPower : PySem.W.findIn K (.ref a_ByPower) "__eq__" = some (some (.ref a_Paper__eq__)))
    (qn_ByPower : PySem.W.findIn K (.ref a_ByPower) "__ne__" = some (some (.builtin "object.__ne__")))
    (qb_ByPower : PySem.W.findIn K (.ref a_ByPower) "__bool__" = some (some (.ref a_Paper__bool__)))
    (is_ByPower_Whole : PySem.W.kitOne K (.ref a_ByPower) (.ref a_Whole) = some false)
    (is_ByPower_NoWhole : PySem.W.kitOne K (.ref a_ByPower) (.ref a_NoWhole) = some false)
    (pg_Between : PySem.W.plainGet K a_Between Str.empty = true)
    (hd_Between : PySem.W.hasDictIn K a_Between = true)
    (po_Between : PySem.W.plainOver K a_Between = true)
    (sa_Between : PySem.W.findIn K (.ref a_Between) "__setattr__" = some (some (.builtin "object.__setattr__")))
    (mk_Between : PySem.W.makesIn K a_Between = true)
    (kc_Between : PySem.W.keepIn K (.ref a_Between) = true)
    (ha_Between : PySem.W.findIn K (.ref a_Between) "__class__" = some (some (.builtin "object.__class__")))
    (hm_Between : PySem.W.mroIn K a_Between (.type "object") = some true)
    (na_Between_word : PySem.W.findIn K (.ref a_Between) "word" = some none)
    (na_Between_parts : PySem.W.findIn K (.ref a_Between) "parts" = some none)
    (na_Between_low : PySem.W.findIn K (.ref a_Between) "low" = some none)
    (qe_Between : PySem.W.findIn K (.ref a_Between) "__eq__" = some (some (.ref a_Denial__eq__)))
    (qn_Between : PySem.W.findIn K (.ref a_Between) "__ne__" = some (some (.builtin "object.__ne__")))
    (qb_Between : PySem.W.findIn K (.ref a_Between) "__bool__" = some (some (.ref a_Denial__bool__)))
    (is_Between_Whole : PySem.W.kitOne K (.ref a_Between) (.ref a_Whole) = some false)
    (is_Between_NoWhole : PySem.W.kitOne K (.ref a_Between) (.ref a_NoWhole) = some false)
    (pg_Whole : PySem.W.plainGet K a_Whole Str.empty = true)
    (hd_Whole : PySem.W.hasDictIn K a_Whole = true)
    (po_Whole : PySem.W.plainOver K a_Whole = true)
    (sa_Whole : PySem.W.findIn K (.ref a_Whole) "__setattr__" = some (some (.builtin "object.__setattr__")))
    (mk_Whole : PySem.W.makesIn K a_Whole = true)
    (kc_Whole : PySem.W.keepIn K (.ref a_Whole) = true)
    (ha_Whole : PySem.W.findIn K (.ref a_Whole) "__class__" = some (some (.builtin "object.__class__")))
    (hm_Whole : PySem.W.mroIn K a_Whole (.type "object") = some true)
    (na_Whole_word : PySem.W.findIn K (.ref a_Whole) "word" = some none)
    (na_Whole_parts : PySem.W.findIn K (.ref a_Whole) "parts" = some none)
    (na_Whole_number : PySem.W.findIn K (.ref a_Whole) "number" = some none)
    (qe_Whole : PySem.W.findIn K (.ref a_Whole) "__eq__" = some (some (.ref a_Paper__eq__)))
    (qn_Whole : PySem.W.findIn K (.ref a_Whole) "__ne__" = some (some (.builtin "object.__ne__")))
    (is_Whole_Whole : PySem.W.kitOne K (.ref a_Whole) (.ref a_Whole) = some true)
    (is_Whole_NoWhole : PySem.W.kitOne K (.ref a_Whole) (.ref a_NoWhole) = some false)
    (qb_Whole : PySem.W.findIn K (.ref a_Whole) "__bool__" = some (some (.ref a_Paper__bool__)))
    (pg_NoWhole : PySem.W.plainGet K a_NoWhole Str.empty = true)
    (hd_NoWhole : PySem.W.hasDictIn K a_NoWhole = true)
    (po_NoWhole : PySem.W.plainOver K a_NoWhole = true)
    (sa_NoWhole : PySem.W.findIn K (.ref a_NoWhole) "__setattr__" = some (some (.builtin "object.__setattr__")))
    (mk_NoWhole : PySem.W.makesIn K a_NoWhole = true)
    (kc_NoWhole : PySem.W.keepIn K (.ref a_NoWhole) = true)
    (ha_NoWhole : PySem.W.findIn K (.ref a_NoWhole) "__class__" = some (some (.builtin "object.__class__")))
    (hm_NoWhole : PySem.W.mroIn K a_NoWhole (.type "object") = some true)
    (na_NoWhole_word : PySem.W.findIn K (.ref a_NoWhole) "word" = some none)
    (na_NoWhole_parts : PySem.W.findIn K (.ref a_NoWhole) "parts" = some none)
    (na_NoWhole_low : PySem.W.findIn K (.ref a_NoWhole) "low" = some none)
    (qe_NoWhole : PySem.W.findIn K (.ref a_NoWhole) "__eq__" = some (some (.ref a_Denial__eq__)))
    (qn_NoWhole : PySem.W.findIn K (.ref a_NoWhole) "__ne__" = some (some (.builtin "object.__ne__")))
    (is_NoWhole_NoWhole : PySem.W.kitOne K (.ref a_NoWhole) (.ref a_NoWhole) = some true)
    (is_NoWhole_Whole : PySem.W.kitOne K (.ref a_NoWhole) (.ref a_Whole) = some false)
    (qb_NoWhole : PySem.W.findIn K (.ref a_NoWhole) "__bool__" = some (some (.ref a_Denial__bool__)))
    (hn_ : PySem.W.specialIn K (.builtin "object.__class__") "__get__" = some (some (.builtin "getset_descriptor.__get__")))
    (ht_ : PySem.W.takesIn K (.builtin "object.__class__") = some true)
    {a_is_integer : Addr} {od_is_integer an_is_integer : Option Addr} {sl_is_integer : Array (Option Value)} {oc_is_integer kV_is_integer dc_is_integer pm_is_integer cd_is_integer ct_is_integer : Value}
    (h1_is_integer : PySem.W.nsIn K mainGlobals "is_integer" = some (some (.ref a_is_integer)))
    (h2_is_integer : K.lookup a_is_integer = some ⟨oc_is_integer, od_is_integer, .func (PySem.W.fnOf "is_integer" "is_integer" (defArgs s_is_integer) (defBody s_is_integer) (defScope s_is_integer) .none kV_is_integer dc_is_integer pm_is_integer an_is_integer cd_is_integer ct_is_integer), sl_is_integer⟩)
    (h3_is_integer : PySem.W.codeIn K cd_is_integer "is_integer" = true)
    (h4_is_integer : PySem.W.keepIn K (.ref a_is_integer) = true)
    {a_is_within : Addr} {od_is_within an_is_within : Option Addr} {sl_is_within : Array (Option Value)} {oc_is_within kV_is_within dc_is_within pm_is_within cd_is_within ct_is_within : Value}
    (h1_is_within : PySem.W.nsIn K mainGlobals "is_within" = some (some (.ref a_is_within)))
    (h2_is_within : K.lookup a_is_within = some ⟨oc_is_within, od_is_within, .func (PySem.W.fnOf "is_within" "is_within" (defArgs s_is_within) (defBody s_is_within) (defScope s_is_within) .none kV_is_within dc_is_within pm_is_within an_is_within cd_is_within ct_is_within), sl_is_within⟩)
    (h3_is_within : PySem.W.codeIn K cd_is_within "is_within" = true)
    (h4_is_within : PySem.W.keepIn K (.ref a_is_within) = true)
    {a_need_within : Addr} {od_need_within an_need_within : Option Addr} {sl_need_within : Array (Option Value)} {oc_need_within kV_need_within dc_need_within pm_need_within cd_need_within ct_need_within : Value}
    (h1_need_within : PySem.W.nsIn K mainGlobals "need_within" = some (some (.ref a_need_within)))
    (h2_need_within : K.lookup a_need_within = some ⟨oc_need_within, od_need_within, .func (PySem.W.fnOf "need_within" "need_within" (defArgs s_need_within) (defBody s_need_within) (defScope s_need_within) .none kV_need_within dc_need_within pm_need_within an_need_within cd_need_within ct_need_within), sl_need_within⟩)
    (h3_need_within : PySem.W.codeIn K cd_need_within "need_within" = true)
    (h4_need_within : PySem.W.keepIn K (.ref a_need_within) = true)
    {a_need_numbers : Addr} {od_need_numbers an_need_numbers : Option Addr} {sl_need_numbers : Array (Option Value)} {oc_need_numbers kV_need_numbers dc_need_numbers pm_need_numbers cd_need_numbers ct_need_numbers : Value}
    (h1_need_numbers : PySem.W.nsIn K mainGlobals "need_numbers" = some (some (.ref a_need_numbers)))
    (h2_need_numbers : K.lookup a_need_numbers = some ⟨oc_need_numbers, od_need_numbers, .func (PySem.W.fnOf "need_numbers" "need_numbers" (defArgs s_need_numbers) (defBody s_need_numbers) (defScope s_need_numbers) .none kV_need_numbers dc_need_numbers pm_need_numbers an_need_numbers cd_need_numbers ct_need_numbers), sl_need_numbers⟩)
    (h3_need_numbers : PySem.W.codeIn K cd_need_numbers "need_numbers" = true)
    (h4_need_numbers : PySem.W.keepIn K (.ref a_need_numbers) = true)
    {a_need_power : Addr} {od_need_power an_need_power : Option Addr} {sl_need_power : Array (Option Value)} {oc_need_power kV_need_power dc_need_power pm_need_power cd_need_power ct_need_power : Value}
    (h1_need_power : PySem.W.nsIn K mainGlobals "need_power" = some (some (.ref a_need_power)))
    (h2_need_power : K.lookup a_need_power = some ⟨oc_need_power, od_need_power, .func (PySem.W.fnOf "need_power" "need_power" (defArgs s_need_power) (defBody s_need_power) (defScope s_need_power) .none kV_need_power dc_need_power pm_need_power an_need_power cd_need_power ct_need_power), sl_need_power⟩)
    (h3_need_power : PySem.W.codeIn K cd_need_power "need_power" = true)
    (h4_need_power : PySem.W.keepIn K (.ref a_need_power) = true)
    {a_fixed : Addr} {od_fixed an_fixed : Option Addr} {sl_fixed : Array (Option Value)} {oc_fixed kV_fixed dc_fixed pm_fixed cd_fixed ct_fixed : Value}
    (h1_fixed : PySem.W.nsIn K mainGlobals "fixed" = some (some (.ref a_fixed)))
    (h2_fixed : K.lookup a_fixed = some ⟨oc_fixed, od_fixed, .func (PySem.W.fnOf "fixed" "fixed" (defArgs s_fixed) (defBody s_fixed) (defScope s_fixed) .none kV_fixed dc_fixed pm_fixed an_fixed cd_fixed ct_fixed), sl_fixed⟩)
    (h3_fixed : PySem.W.codeIn K cd_fixed "fixed" = true)
    (h4_fixed : PySem.W.keepIn K (.ref a_fixed) = true)
    {a_raised : Addr} {od_raised an_raised : Option Addr} {sl_raised : Array (Option Value)} {oc_raised kV_raised dc_raised pm_raised cd_raised ct_raised : Value}
    (h1_raised : PySem.W.nsIn K mainGlobals "raised" = some (some (.ref a_raised)))
    (h2_raised : K.lookup a_raised = some ⟨oc_raised, od_raised, .func (PySem.W.fnOf "raised" "raised" (defArgs s_raised) (defBody s_raised) (defScope s_raised) .none kV_raised dc_raised pm_raised an_raised cd_raised ct_raised), sl_raised⟩)
    (h3_raised : PySem.W.codeIn K cd_raised "raised" = true)
    (h4_raised : PySem.W.keepIn K (.ref a_raised) = true)
    {a_whole_sum : Addr} {od_whole_sum an_whole_sum : Option Addr} {sl_whole_sum : Array (Option Value)} {oc_whole_sum kV_whole_sum dc_whole_sum pm_whole_sum cd_whole_sum ct_whole_sum : Value}
    (h1_whole_sum : PySem.W.nsIn K mainGlobals "whole_sum" = some (some (.ref a_whole_sum)))
    (h2_whole_sum : K.lookup a_whole_sum = some ⟨oc_whole_sum, od_whole_sum, .func (PySem.W.fnOf "whole_sum" "whole_sum" (defArgs s_whole_sum) (defBody s_whole_sum) (defScope s_whole_sum) .none kV_whole_sum dc_whole_sum pm_whole_sum an_whole_sum cd_whole_sum ct_whole_sum), sl_whole_sum⟩)
    (h3_whole_sum : PySem.W.codeIn K cd_whole_sum "whole_sum" = true)
    (h4_whole_sum : PySem.W.keepIn K (.ref a_whole_sum) = true)
    {a_is_by_power : Addr} {od_is_by_power an_is_by_power : Option Addr} {sl_is_by_power : Array (Option Value)} {oc_is_by_power kV_is_by_power dc_is_by_power pm_is_by_power cd_is_by_power ct_is_by_power : Value}
    (h1_is_by_power : PySem.W.nsIn K mainGlobals "is_by_power" = some (some (.ref a_is_by_power)))
    (h2_is_by_power : K.lookup a_is_by_power = some ⟨oc_is_by_power, od_is_by_power, .func (PySem.W.fnOf "is_by_power" "is_by_power" (defArgs s_is_by_power) (defBody s_is_by_power) (defScope s_is_by_power) .none kV_is_by_power dc_is_by_power pm_is_by_power an_is_by_power cd_is_by_power ct_is_by_power), sl_is_by_power⟩)
    (h3_is_by_power : PySem.W.codeIn K cd_is_by_power "is_by_power" = true)
    (h4_is_by_power : PySem.W.keepIn K (.ref a_is_by_power) = true)
    {a_fourth_quotient : Addr} {od_fourth_quotient an_fourth_quotient : Option Addr} {sl_fourth_quotient : Array (Option Value)} {oc_fourth_quotient kV_fourth_quotient dc_fourth_quotient pm_fourth_quotient cd_fourth_quotient ct_fourth_quotient : Value}
    (h1_fourth_quotient : PySem.W.nsIn K mainGlobals "fourth_quotient" = some (some (.ref a_fourth_quotient)))
    (h2_fourth_quotient : K.lookup a_fourth_quotient = some ⟨oc_fourth_quotient, od_fourth_quotient, .func (PySem.W.fnOf "fourth_quotient" "fourth_quotient" (defArgs s_fourth_quotient) (defBody s_fourth_quotient) (defScope s_fourth_quotient) .none kV_fourth_quotient dc_fourth_quotient pm_fourth_quotient an_fourth_quotient cd_fourth_quotient ct_fourth_quotient), sl_fourth_quotient⟩)
    (h3_fourth_quotient : PySem.W.codeIn K cd_fourth_quotient "fourth_quotient" = true)
    (h4_fourth_quotient : PySem.W.keepIn K (.ref a_fourth_quotient) = true)
    {a_side_of : Addr} {od_side_of an_side_of : Option Addr} {sl_side_of : Array (Option Value)} {oc_side_of kV_side_of dc_side_of pm_side_of cd_side_of ct_side_of : Value}
    (h1_side_of : PySem.W.nsIn K mainGlobals "side_of" = some (some (.ref a_side_of)))
    (h2_side_of : K.lookup a_side_of = some ⟨oc_side_of, od_side_of, .func (PySem.W.fnOf "side_of" "side_of" (defArgs s_side_of) (defBody s_side_of) (defScope s_side_of) .none kV_side_of dc_side_of pm_side_of an_side_of cd_side_of ct_side_of), sl_side_of⟩)
    (h3_side_of : PySem.W.codeIn K cd_side_of "side_of" = true)
    (h4_side_of : PySem.W.keepIn K (.ref a_side_of) = true)
    {a_whole_below : Addr} {od_whole_below an_whole_below : Option Addr} {sl_whole_below : Array (Option Value)} {oc_whole_below kV_whole_below dc_whole_below pm_whole_below cd_whole_below ct_whole_below : Value}
    (h1_whole_below : PySem.W.nsIn K mainGlobals "whole_below" = some (some (.ref a_whole_below)))
    (h2_whole_below : K.lookup a_whole_below = some ⟨oc_whole_below, od_whole_below, .func (PySem.W.fnOf "whole_below" "whole_below" (defArgs s_whole_below) (defBody s_whole_below) (defScope s_whole_below) .none kV_whole_below dc_whole_below pm_whole_below an_whole_below cd_whole_below ct_whole_below), sl_whole_below⟩)
    (h3_whole_below : PySem.W.codeIn K cd_whole_below "whole_below" = true)
    (h4_whole_below : PySem.W.keepIn K (.ref a_whole_below) = true)
    {a_is_by : Addr} {od_is_by an_is_by : Option Addr} {sl_is_by : Array (Option Value)} {oc_is_by kV_is_by dc_is_by pm_is_by cd_is_by ct_is_by : Value}
    (h1_is_by : PySem.W.nsIn K mainGlobals "is_by" = some (some (.ref a_is_by)))
    (h2_is_by : K.lookup a_is_by = some ⟨oc_is_by, od_is_by, .func (PySem.W.fnOf "is_by" "is_by" (defArgs s_is_by) (defBody s_is_by) (defScope s_is_by) .none kV_is_by dc_is_by pm_is_by an_is_by cd_is_by ct_is_by), sl_is_by⟩)
    (h3_is_by : PySem.W.codeIn K cd_is_by "is_by" = true)
    (h4_is_by : PySem.W.keepIn K (.ref a_is_by) = true)
    {a_fourth_by : Addr} {od_fourth_by an_fourth_by : Option Addr} {sl_fourth_by : Array (Option Value)} {oc_fourth_by kV_fourth_by dc_fourth_by pm_fourth_by cd_fourth_by ct_fourth_by : Value}
    (h1_fourth_by : PySem.W.nsIn K mainGlobals "fourth_by" = some (some (.ref a_fourth_by)))
    (h2_fourth_by : K.lookup a_fourth_by = some ⟨oc_fourth_by, od_fourth_by, .func (PySem.W.fnOf "fourth_by" "fourth_by" (defArgs s_fourth_by) (defBody s_fourth_by) (defScope s_fourth_by) .none kV_fourth_by dc_fourth_by pm_fourth_by an_fourth_by cd_fourth_by ct_fourth_by), sl_fourth_by⟩)
    (h3_fourth_by : PySem.W.codeIn K cd_fourth_by "fourth_by" = true)
    (h4_fourth_by : PySem.W.keepIn K (.ref a_fourth_by) = true)
    {a_shows_fourth_by : Addr} {od_shows_fourth_by an_shows_fourth_by : Option Addr} {sl_shows_fourth_by : Array (Option Value)} {oc_shows_fourth_by kV_shows_fourth_by dc_shows_fourth_by pm_shows_fourth_by cd_shows_fourth_by ct_shows_fourth_by : Value}
    (h1_shows_fourth_by : PySem.W.nsIn K mainGlobals "shows_fourth_by" = some (some (.ref a_shows_fourth_by)))
    (h2_shows_fourth_by : K.lookup a_shows_fourth_by = some ⟨oc_shows_fourth_by, od_shows_fourth_by, .func (PySem.W.fnOf "shows_fourth_by" "shows_fourth_by" (defArgs s_shows_fourth_by) (defBody s_shows_fourth_by) (defScope s_shows_fourth_by) .none kV_shows_fourth_by dc_shows_fourth_by pm_shows_fourth_by an_shows_fourth_by cd_shows_fourth_by ct_shows_fourth_by), sl_shows_fourth_by⟩)
    (h3_shows_fourth_by : PySem.W.codeIn K cd_shows_fourth_by "shows_fourth_by" = true)
    (h4_shows_fourth_by : PySem.W.keepIn K (.ref a_shows_fourth_by) = true)
    {a__law_hat : Addr} {od__law_hat an__law_hat : Option Addr} {sl__law_hat : Array (Option Value)} {oc__law_hat kV__law_hat dc__law_hat pm__law_hat cd__law_hat ct__law_hat : Value}
    (h1__law_hat : PySem.W.nsIn K mainGlobals "_law_hat" = some (some (.ref a__law_hat)))
    (h2__law_hat : K.lookup a__law_hat = some ⟨oc__law_hat, od__law_hat, .func (PySem.W.fnOf "_law_hat" "_law_hat" (defArgs s__law_hat) (defBody s__law_hat) (defScope s__law_hat) .none kV__law_hat dc__law_hat pm__law_hat an__law_hat cd__law_hat ct__law_hat), sl__law_hat⟩)
    (h3__law_hat : PySem.W.codeIn K cd__law_hat "_law_hat" = true)
    (h4__law_hat : PySem.W.keepIn K (.ref a__law_hat) = true)
    {a__law_lot : Addr} {od__law_lot an__law_lot : Option Addr} {sl__law_lot : Array (Option Value)} {oc__law_lot kV__law_lot dc__law_lot pm__law_lot cd__law_lot ct__law_lot : Value}
    (h1__law_lot : PySem.W.nsIn K mainGlobals "_law_lot" = some (some (.ref a__law_lot)))
    (h2__law_lot : K.lookup a__law_lot = some ⟨oc__law_lot, od__law_lot, .func (PySem.W.fnOf "_law_lot" "_law_lot" (defArgs s__law_lot) (defBody s__law_lot) (defScope s__law_lot) .none kV__law_lot dc__law_lot pm__law_lot an__law_lot cd__law_lot ct__law_lot), sl__law_lot⟩)
    (h3__law_lot : PySem.W.codeIn K cd__law_lot "_law_lot" = true)
    (h4__law_lot : PySem.W.keepIn K (.ref a__law_lot) = true)
    {a__law_one : Addr} {od__law_one an__law_one : Option Addr} {sl__law_one : Array (Option Value)} {oc__law_one kV__law_one dc__law_one pm__law_one cd__law_one ct__law_one : Value}
    (h1__law_one : PySem.W.nsIn K mainGlobals "_law_one" = some (some (.ref a__law_one)))
    (h2__law_one : K.lookup a__law_one = some ⟨oc__law_one, od__law_one, .func (PySem.W.fnOf "_law_one" "_law_one" (defArgs s__law_one) (defBody s__law_one) (defScope s__law_one) .none kV__law_one dc__law_one pm__law_one an__law_one cd__law_one ct__law_one), sl__law_one⟩)
    (h3__law_one : PySem.W.codeIn K cd__law_one "_law_one" = true)
    (h4__law_one : PySem.W.keepIn K (.ref a__law_one) = true)
    {a__law_raised : Addr} {od__law_raised an__law_raised : Option Addr} {sl__law_raised : Array (Option Value)} {oc__law_raised kV__law_raised dc__law_raised pm__law_raised cd__law_raised ct__law_raised : Value}
    (h1__law_raised : PySem.W.nsIn K mainGlobals "_law_raised" = some (some (.ref a__law_raised)))
    (h2__law_raised : K.lookup a__law_raised = some ⟨oc__law_raised, od__law_raised, .func (PySem.W.fnOf "_law_raised" "_law_raised" (defArgs s__law_raised) (defBody s__law_raised) (defScope s__law_raised) .none kV__law_raised dc__law_raised pm__law_raised an__law_raised cd__law_raised ct__law_raised), sl__law_raised⟩)
    (h3__law_raised : PySem.W.codeIn K cd__law_raised "_law_raised" = true)
    (h4__law_raised : PySem.W.keepIn K (.ref a__law_raised) = true)
    {a__law_wanted : Addr} {od__law_wanted an__law_wanted : Option Addr} {sl__law_wanted : Array (Option Value)} {oc__law_wanted kV__law_wanted dc__law_wanted pm__law_wanted cd__law_wanted ct__law_wanted : Value}
    (h1__law_wanted : PySem.W.nsIn K mainGlobals "_law_wanted" = some (some (.ref a__law_wanted)))
    (h2__law_wanted : K.lookup a__law_wanted = some ⟨oc__law_wanted, od__law_wanted, .func (PySem.W.fnOf "_law_wanted" "_law_wanted" (defArgs s__law_wanted) (defBody s__law_wanted) (defScope s__law_wanted) .none kV__law_wanted dc__law_wanted pm__law_wanted an__law_wanted cd__law_wanted ct__law_wanted), sl__law_wanted⟩)
    (h3__law_wanted : PySem.W.codeIn K cd__law_wanted "_law_wanted" = true)
    (h4__law_wanted : PySem.W.keepIn K (.ref a__law_wanted) = true)
    {a__law_planted : Addr} {od__law_planted an__law_planted : Option Addr} {sl__law_planted : Array (Option Value)} {oc__law_planted kV__law_planted dc__law_planted pm__law_planted cd__law_planted ct__law_planted : Value}
    (h1__law_planted : PySem.W.nsIn K mainGlobals "_law_planted" = some (some (.ref a__law_planted)))
    (h2__law_planted : K.lookup a__law_planted = some ⟨oc__law_planted, od__law_planted, .func (PySem.W.fnOf "_law_planted" "_law_planted" (defArgs s__law_planted) (defBody s__law_planted) (defScope s__law_planted) .none kV__law_planted dc__law_planted pm__law_planted an__law_planted cd__law_planted ct__law_planted), sl__law_planted⟩)
    (h3__law_planted : PySem.W.codeIn K cd__law_planted "_law_planted" = true)
    (h4__law_planted : PySem.W.keepIn K (.ref a__law_planted) = true)
    {a__law_drawn : Addr} {od__law_drawn an__law_drawn : Option Addr} {sl__law_drawn : Array (Option Value)} {oc__law_drawn kV__law_drawn dc__law_drawn pm__law_drawn cd__law_drawn ct__law_drawn : Value}
    (h1__law_drawn : PySem.W.nsIn K mainGlobals "_law_drawn" = some (some (.ref a__law_drawn)))
    (h2__law_drawn : K.lookup a__law_drawn = some ⟨oc__law_drawn, od__law_drawn, .func (PySem.W.fnOf "_law_drawn" "_law_drawn" (defArgs s__law_drawn) (defBody s__law_drawn) (defScope s__law_drawn) .none kV__law_drawn dc__law_drawn pm__law_drawn an__law_drawn cd__law_drawn ct__law_drawn), sl__law_drawn⟩)
    (h3__law_drawn : PySem.W.codeIn K cd__law_drawn "_law_drawn" = true)
    (h4__law_drawn : PySem.W.keepIn K (.ref a__law_drawn) = true)
    {a__law_is_whole : Addr} {od__law_is_whole an__law_is_whole : Option Addr} {sl__law_is_whole : Array (Option Value)} {oc__law_is_whole kV__law_is_whole dc__law_is_whole pm__law_is_whole cd__law_is_whole ct__law_is_whole : Value}
    (h1__law_is_whole : PySem.W.nsIn K mainGlobals "_law_is_whole" = some (some (.ref a__law_is_whole)))
    (h2__law_is_whole : K.lookup a__law_is_whole = some ⟨oc__law_is_whole, od__law_is_whole, .func (PySem.W.fnOf "_law_is_whole" "_law_is_whole" (defArgs s__law_is_whole) (defBody s__law_is_whole) (defScope s__law_is_whole) .none kV__law_is_whole dc__law_is_whole pm__law_is_whole an__law_is_whole cd__law_is_whole ct__law_is_whole), sl__law_is_whole⟩)
    (h3__law_is_whole : PySem.W.codeIn K cd__law_is_whole "_law_is_whole" = true)
    (h4__law_is_whole : PySem.W.keepIn K (.ref a__law_is_whole) = true)
    {a__law_is_right : Addr} {od__law_is_right an__law_is_right : Option Addr} {sl__law_is_right : Array (Option Value)} {oc__law_is_right kV__law_is_right dc__law_is_right pm__law_is_right cd__law_is_right ct__law_is_right : Value}
    (h1__law_is_right : PySem.W.nsIn K mainGlobals "_law_is_right" = some (some (.ref a__law_is_right)))
    (h2__law_is_right : K.lookup a__law_is_right = some ⟨oc__law_is_right, od__law_is_right, .func (PySem.W.fnOf "_law_is_right" "_law_is_right" (defArgs s__law_is_right) (defBody s__law_is_right) (defScope s__law_is_right) .none kV__law_is_right dc__law_is_right pm__law_is_right an__law_is_right cd__law_is_right ct__law_is_right), sl__law_is_right⟩)
    (h3__law_is_right : PySem.W.codeIn K cd__law_is_right "_law_is_right" = true)
    (h4__law_is_right : PySem.W.keepIn K (.ref a__law_is_right) = true)
    {a__law_bent : Addr} {od__law_bent an__law_bent : Option Addr} {sl__law_bent : Array (Option Value)} {oc__law_bent kV__law_bent dc__law_bent pm__law_bent cd__law_bent ct__law_bent : Value}
    (h1__law_bent : PySem.W.nsIn K mainGlobals "_law_bent" = some (some (.ref a__law_bent)))
    (h2__law_bent : K.lookup a__law_bent = some ⟨oc__law_bent, od__law_bent, .func (PySem.W.fnOf "_law_bent" "_law_bent" (defArgs s__law_bent) (defBody s__law_bent) (defScope s__law_bent) .none kV__law_bent dc__law_bent pm__law_bent an__law_bent cd__law_bent ct__law_bent), sl__law_bent⟩)
    (h3__law_bent : PySem.W.codeIn K cd__law_bent "_law_bent" = true)
    (h4__law_bent : PySem.W.keepIn K (.ref a__law_bent) = true)
    {a_law : Addr} {od_law an_law : Option Addr} {sl_law : Array (Option Value)} {oc_law kV_law dc_law pm_law cd_law ct_law : Value}
    (h1_law : PySem.W.nsIn K mainGlobals "law" = some (some (.ref a_law)))
    (h2_law : K.lookup a_law = some ⟨oc_law, od_law, .func (PySem.W.fnOf "law" "law" (defArgs s_law) (defBody s_law) (defScope s_law) .none kV_law dc_law pm_law an_law cd_law ct_law), sl_law⟩)
    (h3_law : PySem.W.codeIn K cd_law "law" = true)
    (h4_law : PySem.W.keepIn K (.ref a_law) = true)
    {t_LEAST_POWER : Tok} (z_LEAST_POWER : PySem.W.nsIn K mainGlobals "LEAST_POWER" = some (some (.int (-80) t_LEAST_POWER)))
    {t_MOST_POWER : Tok} (z_MOST_POWER : PySem.W.nsIn K mainGlobals "MOST_POWER" = some (some (.int (80) t_MOST_POWER)))
    {t_MOST_NUMBER : Tok} (z_MOST_NUMBER : PySem.W.nsIn K mainGlobals "MOST_NUMBER" = some (some (.int (1000000) t_MOST_NUMBER)))
    {t_MOST_SMALL : Tok} (z_MOST_SMALL : PySem.W.nsIn K mainGlobals "MOST_SMALL" = some (some (.int (99) t_MOST_SMALL)))
    (z_abs : PySem.W.nsIn K mainGlobals "abs" = some none)
    (z_bool : PySem.W.nsIn K mainGlobals "bool" = some none)
    (z_int : PySem.W.nsIn K mainGlobals "int" = some none)
    (z_isinstance : PySem.W.nsIn K mainGlobals "isinstance" = some none)
    (z_len : PySem.W.nsIn K mainGlobals "len" = some none)
    (z_list : PySem.W.nsIn K mainGlobals "list" = some none)
    (z_max : PySem.W.nsIn K mainGlobals "max" = some none)
    (z_min : PySem.W.nsIn K mainGlobals "min" = some none)
    (z_range : PySem.W.nsIn K mainGlobals "range" = some none)
    (z_str : PySem.W.nsIn K mainGlobals "str" = some none)
    (z_tuple : PySem.W.nsIn K mainGlobals "tuple" = some none)
    (z_type : PySem.W.nsIn K mainGlobals "type" = some none) : Txt K mg where
  f_Paper__init__ := ⟨a_Paper__init__, _, fun_mk (st := s_Paper__init__) h2_Paper__init__ h3_Paper__init__ h4_Paper__init__, h0_Paper__init__⟩
  f_Paper__eq__ := ⟨a_Paper__eq__, _, fun_mk (st := s_Paper__eq__) h2_Paper__eq__ h3_Paper__eq__ h4_Paper__eq__, h0_Paper__eq__, (fun_mk (st := s_Paper__eq__) h2_Paper__eq__ h3_Paper__eq__ h4_Paper__eq__).binds fun _ _ _ _ _ _ us hl => match us, hl with | [_, _], _ => rfl⟩
  f_Paper__bool__ := ⟨a_Paper__bool__, _, fun_mk (st := s_Paper__bool__) h2_Paper__bool__ h3_Paper__bool__ h4_Paper__bool__, h0_Paper__bool__, (fun_mk (st := s_Paper__bool__) h2_Paper__bool__ h3_Paper__bool__ h4_Paper__bool__).binds fun _ _ _ _ _ _ us hl => match us, hl with | [_], _ => rfl⟩
  f_Denial__init__ := ⟨a_Denial__init__, _, fun_mk (st := s_Denial__init__) h2_Denial__init__ h3_Denial__init__ h4_Denial__init__, h0_Denial__init__⟩
  f_Denial__eq__ := ⟨a_Denial__eq__, _, fun_mk (st := s_Denial__eq__) h2_Denial__eq__ h3_Denial__eq__ h4_Denial__eq__, h0_Denial__eq__, (fun_mk (st := s_Denial__eq__) h2_Denial__eq__ h3_Denial__eq__ h4_Denial__eq__).binds fun _ _ _ _ _ _ us hl => match us, hl with | [_, _], _ => rfl⟩
  f_Denial__bool__ := ⟨a_Denial__bool__, _, fun_mk (st := s_Denial__bool__) h2_Denial__bool__ h3_Denial__bool__ h4_Denial__bool__, h0_Denial__bool__, (fun_mk (st := s_Denial__bool__) h2_Denial__bool__ h3_Denial__bool__ h4_Denial__bool__).binds fun _ _ _ _ _ _ us hl => match us, hl with | [_], _ => rfl⟩
  f_Whole__init__ := ⟨a_Whole__init__, _, fun_mk (st := s_Whole__init__) h2_Whole__init__ h3_Whole__init__ h4_Whole__init__, h0_Whole__init__, (fun_mk (st := s_Whole__init__) h2_Whole__init__ h3_Whole__init__ h4_Whole__init__).binds fun _ _ _ _ _ _ us hl => match us, hl with | [_, _], _ => rfl⟩
  f_NoWhole__init__ := ⟨a_NoWhole__init__, _, fun_mk (st := s_NoWhole__init__) h2_NoWhole__init__ h3_NoWhole__init__ h4_NoWhole__init__, h0_NoWhole__init__, (fun_mk (st := s_NoWhole__init__) h2_NoWhole__init__ h3_NoWhole__init__ h4_NoWhole__init__).binds fun _ _ _ _ _ _ us hl => match us, hl with | [_, _], _ => rfl⟩
  f_ByPower__init__ := ⟨a_ByPower__init__, _, fun_mk (st := s_ByPower__init__) h2_ByPower__init__ h3_ByPower__init__ h4_ByPower__init__, h0_ByPower__init__, (fun_mk (st := s_ByPower__init__) h2_ByPower__init__ h3_ByPower__init__ h4_ByPower__init__).binds fun _ _ _ _ _ _ us hl => match us, hl with | [_, _], _ => rfl⟩
  f_Between__init__ := ⟨a_Between__init__, _, fun_mk (st := s_Between__init__) h2_Between__init__ h3_Between__init__ h4_Between__init__, h0_Between__init__, (fun_mk (st := s_Between__init__) h2_Between__init__ h3_Between__init__ h4_Between__init__).binds fun _ _ _ _ _ _ us hl => match us, hl with | [_, _], _ => rfl⟩
  k_Paper := ⟨a_Paper, PySem.W.mg_of X G h1_Paper, ⟨pg_Paper, hd_Paper, po_Paper, sa_Paper⟩, kc_Paper, ha_Paper, hn_, ht_, hm_Paper, mk_Paper⟩
  na_Paper_word := na_Paper_word
  na_Paper_parts := na_Paper_parts
  at_Paper__init__ := h1_Paper__init__
  at_Paper__eq__ := h1_Paper__eq__
  at_Paper__bool__ := h1_Paper__bool__
  mk_Paper := ⟨mk_Paper, h1_Paper__init__, h0_Paper__init__, kc_Paper⟩
  eq_Paper := ⟨qe_Paper, h0_Paper__eq__, qn_Paper, hm_Paper⟩
  mc_Paper := .type "type"
  cr_Paper := ⟨r1_Paper, r2_Paper⟩
  cv_Paper__init__ := ⟨r3_Paper__init__, rfl⟩
  is_Paper_Whole := is_Paper_Whole
  is_Paper_NoWhole := is_Paper_NoWhole
  k_Denial := ⟨a_Denial, PySem.W.mg_of X G h1_Denial, ⟨pg_Denial, hd_Denial, po_Denial, sa_Denial⟩, kc_Denial, ha_Denial, hn_, ht_, hm_Denial, mk_Denial⟩
  na_Denial_word := na_Denial_word
  na_Denial_parts := na_Denial_parts
  at_Denial__init__ := h1_Denial__init__
  at_Denial__eq__ := h1_Denial__eq__
  at_Denial__bool__ := h1_Denial__bool__
  mk_Denial := ⟨mk_Denial, h1_Denial__init__, h0_Denial__init__, kc_Denial⟩
  eq_Denial := ⟨qe_Denial, h0_Denial__eq__, qn_Denial, hm_Denial⟩
  mc_Denial := .type "type"
  cr_Denial := ⟨r1_Denial, r2_Denial⟩
  cv_Denial__init__ := ⟨r3_Denial__init__, rfl⟩
  is_Denial_Whole := is_Denial_Whole
  is_Denial_NoWhole := is_Denial_NoWhole
  k_ByPower := ⟨a_ByPower, PySem.W.mg_of X G h1_ByPower, ⟨pg_ByPower, hd_ByPower, po_ByPower, sa_ByPower⟩, kc_ByPower, ha_ByPower, hn_, ht_, hm_ByPower, mk_ByPower⟩
  na_ByPower_word := na_ByPower_word
  na_ByPower_parts := na_ByPower_parts
  na_ByPower_power := na_ByPower_power
  at_ByPower__init__ := h1_ByPower__init__
  mk_ByPower := ⟨mk_ByPower, h1_ByPower__init__, h0_ByPower__init__, kc_ByPower⟩
  eq_ByPower := ⟨qe_ByPower, h0_Paper__eq__, qn_ByPower, hm_ByPower⟩
  bo_ByPower := ⟨qb_ByPower, h0_Paper__bool__⟩
  is_ByPower_Whole := is_ByPower_Whole
  is_ByPower_NoWhole := is_ByPower_NoWhole
  k_Between := ⟨a_Between, PySem.W.mg_of X G h1_Between, ⟨pg_Between, hd_Between, po_Between, sa_Between⟩, kc_Between, ha_Between, hn_, ht_, hm_Between, mk_Between⟩
  na_Between_word := na_Between_word
  na_Between_parts := na_Between_parts
  na_Between_low := na_Between_low
  at_Between__init__ := h1_Between__init__
  mk_Between := ⟨mk_Between, h1_Between__init__, h0_Between__init__, kc_Between⟩
  eq_Between := ⟨qe_Between, h0_Denial__eq__, qn_Between, hm_Between⟩
  bo_Between := ⟨qb_Between, h0_Denial__bool__⟩
  is_Between_Whole := is_Between_Whole
  is_Between_NoWhole := is_Between_NoWhole
  k_Whole := ⟨a_Whole, PySem.W.mg_of X G h1_Whole, ⟨pg_Whole, hd_Whole, po_Whole, sa_Whole⟩, kc_Whole, ha_Whole, hn_, ht_, hm_Whole, mk_Whole⟩
  na_Whole_word := na_Whole_word
  na_Whole_parts := na_Whole_parts
  na_Whole_number := na_Whole_number
  at_Whole__init__ := h1_Whole__init__
  mk_Whole := ⟨mk_Whole, h1_Whole__init__, h0_Whole__init__, kc_Whole⟩
  eq_Whole := ⟨qe_Whole, h0_Paper__eq__, qn_Whole, hm_Whole⟩
  is_Whole_Whole := is_Whole_Whole
  is_Whole_NoWhole := is_Whole_NoWhole
  bo_Whole := ⟨qb_Whole, h0_Paper__bool__⟩
  k_NoWhole := ⟨a_NoWhole, PySem.W.mg_of X G h1_NoWhole, ⟨pg_NoWhole, hd_NoWhole, po_NoWhole, sa_NoWhole⟩, kc_NoWhole, ha_NoWhole, hn_, ht_, hm_NoWhole, mk_NoWhole⟩
  na_NoWhole_word := na_NoWhole_word
  na_NoWhole_parts := na_NoWhole_parts
  na_NoWhole_low := na_NoWhole_low
  at_NoWhole__init__ := h1_NoWhole__init__
  mk_NoWhole := ⟨mk_NoWhole, h1_NoWhole__init__, h0_NoWhole__init__, kc_NoWhole⟩
  eq_NoWhole := ⟨qe_NoWhole, h0_Denial__eq__, qn_NoWhole, hm_NoWhole⟩
  is_NoWhole_NoWhole := is_NoWhole_NoWhole
  is_NoWhole_Whole := is_NoWhole_Whole
  bo_NoWhole := ⟨qb_NoWhole, h0_Denial__bool__⟩
  f_is_integer := ⟨a_is_integer, _, fun_mk (st := s_is_integer) h2_is_integer h3_is_integer h4_is_integer, PySem.W.mg_of X G h1_is_integer, (fun_mk (st := s_is_integer) h2_is_integer h3_is_integer h4_is_integer).binds fun _ _ _ _ _ _ us hl => match us, hl with | [_], _ => rfl⟩
  f_is_within := ⟨a_is_within, _, fun_mk (st := s_is_within) h2_is_within h3_is_within h4_is_within, PySem.W.mg_of X G h1_is_within, (fun_mk (st := s_is_within) h2_is_within h3_is_within h4_is_within).binds fun _ _ _ _ _ _ us hl => match us, hl with | [_, _, _], _ => rfl⟩
  f_need_within := ⟨a_need_within, _, fun_mk (st := s_need_within) h2_need_within h3_need_within h4_need_within, PySem.W.mg_of X G h1_need_within, (fun_mk (st := s_need_within) h2_need_within h3_need_within h4_need_within).binds fun _ _ _ _ _ _ us hl => match us, hl with | [_, _, _, _], _ => rfl⟩
  f_need_numbers := ⟨a_need_numbers, _, fun_mk (st := s_need_numbers) h2_need_numbers h3_need_numbers h4_need_numbers, PySem.W.mg_of X G h1_need_numbers, (fun_mk (st := s_need_numbers) h2_need_numbers h3_need_numbers h4_need_numbers).binds fun _ _ _ _ _ _ us hl => match us, hl with | [_, _], _ => rfl⟩
  f_need_power := ⟨a_need_power, _, fun_mk (st := s_need_power) h2_need_power h3_need_power h4_need_power, PySem.W.mg_of X G h1_need_power, (fun_mk (st := s_need_power) h2_need_power h3_need_power h4_need_power).binds fun _ _ _ _ _ _ us hl => match us, hl with | [_], _ => rfl⟩
  f_fixed := ⟨a_fixed, _, fun_mk (st := s_fixed) h2_fixed h3_fixed h4_fixed, PySem.W.mg_of X G h1_fixed, (fun_mk (st := s_fixed) h2_fixed h3_fixed h4_fixed).binds fun _ _ _ _ _ _ us hl => match us, hl with | [_], _ => rfl⟩
  f_raised := ⟨a_raised, _, fun_mk (st := s_raised) h2_raised h3_raised h4_raised, PySem.W.mg_of X G h1_raised, (fun_mk (st := s_raised) h2_raised h3_raised h4_raised).binds fun _ _ _ _ _ _ us hl => match us, hl with | [_, _], _ => rfl⟩
  f_whole_sum := ⟨a_whole_sum, _, fun_mk (st := s_whole_sum) h2_whole_sum h3_whole_sum h4_whole_sum, PySem.W.mg_of X G h1_whole_sum, (fun_mk (st := s_whole_sum) h2_whole_sum h3_whole_sum h4_whole_sum).binds fun _ _ _ _ _ _ us hl => match us, hl with | [_, _, _, _, _], _ => rfl⟩
  f_is_by_power := ⟨a_is_by_power, _, fun_mk (st := s_is_by_power) h2_is_by_power h3_is_by_power h4_is_by_power, PySem.W.mg_of X G h1_is_by_power, (fun_mk (st := s_is_by_power) h2_is_by_power h3_is_by_power h4_is_by_power).binds fun _ _ _ _ _ _ us hl => match us, hl with | [_, _, _, _, _], _ => rfl⟩
  f_fourth_quotient := ⟨a_fourth_quotient, _, fun_mk (st := s_fourth_quotient) h2_fourth_quotient h3_fourth_quotient h4_fourth_quotient, PySem.W.mg_of X G h1_fourth_quotient, (fun_mk (st := s_fourth_quotient) h2_fourth_quotient h3_fourth_quotient h4_fourth_quotient).binds fun _ _ _ _ _ _ us hl => match us, hl with | [_, _, _, _], _ => rfl⟩
  f_side_of := ⟨a_side_of, _, fun_mk (st := s_side_of) h2_side_of h3_side_of h4_side_of, PySem.W.mg_of X G h1_side_of, (fun_mk (st := s_side_of) h2_side_of h3_side_of h4_side_of).binds fun _ _ _ _ _ _ us hl => match us, hl with | [_, _], _ => rfl⟩
  f_whole_below := ⟨a_whole_below, _, fun_mk (st := s_whole_below) h2_whole_below h3_whole_below h4_whole_below, PySem.W.mg_of X G h1_whole_below, (fun_mk (st := s_whole_below) h2_whole_below h3_whole_below h4_whole_below).binds fun _ _ _ _ _ _ us hl => match us, hl with | [_], _ => rfl⟩
  f_is_by := ⟨a_is_by, _, fun_mk (st := s_is_by) h2_is_by h3_is_by h4_is_by, PySem.W.mg_of X G h1_is_by, (fun_mk (st := s_is_by) h2_is_by h3_is_by h4_is_by).binds fun _ _ _ _ _ _ us hl => match us, hl with | [_, _, _, _, _], _ => rfl⟩
  f_fourth_by := ⟨a_fourth_by, _, fun_mk (st := s_fourth_by) h2_fourth_by h3_fourth_by h4_fourth_by, PySem.W.mg_of X G h1_fourth_by, (fun_mk (st := s_fourth_by) h2_fourth_by h3_fourth_by h4_fourth_by).binds fun _ _ _ _ _ _ us hl => match us, hl with | [_, _, _, _], _ => rfl⟩
  f_shows_fourth_by := ⟨a_shows_fourth_by, _, fun_mk (st := s_shows_fourth_by) h2_shows_fourth_by h3_shows_fourth_by h4_shows_fourth_by, PySem.W.mg_of X G h1_shows_fourth_by, (fun_mk (st := s_shows_fourth_by) h2_shows_fourth_by h3_shows_fourth_by h4_shows_fourth_by).binds fun _ _ _ _ _ _ us hl => match us, hl with | [_, _, _, _, _], _ => rfl⟩
  f__law_hat := ⟨a__law_hat, _, fun_mk (st := s__law_hat) h2__law_hat h3__law_hat h4__law_hat, PySem.W.mg_of X G h1__law_hat, (fun_mk (st := s__law_hat) h2__law_hat h3__law_hat h4__law_hat).binds fun _ _ _ _ _ _ us hl => match us, hl with | [_], _ => rfl⟩
  f__law_lot := ⟨a__law_lot, _, fun_mk (st := s__law_lot) h2__law_lot h3__law_lot h4__law_lot, PySem.W.mg_of X G h1__law_lot, (fun_mk (st := s__law_lot) h2__law_lot h3__law_lot h4__law_lot).binds fun _ _ _ _ _ _ us hl => match us, hl with | [_, _], _ => rfl⟩
  f__law_one := ⟨a__law_one, _, fun_mk (st := s__law_one) h2__law_one h3__law_one h4__law_one, PySem.W.mg_of X G h1__law_one, (fun_mk (st := s__law_one) h2__law_one h3__law_one h4__law_one).binds fun _ _ _ _ _ _ us hl => match us, hl with | [_, _], _ => rfl⟩
  f__law_raised := ⟨a__law_raised, _, fun_mk (st := s__law_raised) h2__law_raised h3__law_raised h4__law_raised, PySem.W.mg_of X G h1__law_raised, (fun_mk (st := s__law_raised) h2__law_raised h3__law_raised h4__law_raised).binds fun _ _ _ _ _ _ us hl => match us, hl with | [_, _], _ => rfl⟩
  f__law_wanted := ⟨a__law_wanted, _, fun_mk (st := s__law_wanted) h2__law_wanted h3__law_wanted h4__law_wanted, PySem.W.mg_of X G h1__law_wanted, (fun_mk (st := s__law_wanted) h2__law_wanted h3__law_wanted h4__law_wanted).binds fun _ _ _ _ _ _ us hl => match us, hl with | [_, _, _, _], _ => rfl⟩
  f__law_planted := ⟨a__law_planted, _, fun_mk (st := s__law_planted) h2__law_planted h3__law_planted h4__law_planted, PySem.W.mg_of X G h1__law_planted, (fun_mk (st := s__law_planted) h2__law_planted h3__law_planted h4__law_planted).binds fun _ _ _ _ _ _ us hl => match us, hl with | [_], _ => rfl⟩
  f__law_drawn := ⟨a__law_drawn, _, fun_mk (st := s__law_drawn) h2__law_drawn h3__law_drawn h4__law_drawn, PySem.W.mg_of X G h1__law_drawn, (fun_mk (st := s__law_drawn) h2__law_drawn h3__law_drawn h4__law_drawn).binds fun _ _ _ _ _ _ us hl => match us, hl with | [_], _ => rfl⟩
  f__law_is_whole := ⟨a__law_is_whole, _, fun_mk (st := s__law_is_whole) h2__law_is_whole h3__law_is_whole h4__law_is_whole, PySem.W.mg_of X G h1__law_is_whole, (fun_mk (st := s__law_is_whole) h2__law_is_whole h3__law_is_whole h4__law_is_whole).binds fun _ _ _ _ _ _ us hl => match us, hl with | [_, _], _ => rfl⟩
  f__law_is_right := ⟨a__law_is_right, _, fun_mk (st := s__law_is_right) h2__law_is_right h3__law_is_right h4__law_is_right, PySem.W.mg_of X G h1__law_is_right, (fun_mk (st := s__law_is_right) h2__law_is_right h3__law_is_right h4__law_is_right).binds fun _ _ _ _ _ _ us hl => match us, hl with | [_, _, _, _], _ => rfl⟩
  f__law_bent := ⟨a__law_bent, _, fun_mk (st := s__law_bent) h2__law_bent h3__law_bent h4__law_bent, PySem.W.mg_of X G h1__law_bent, (fun_mk (st := s__law_bent) h2__law_bent h3__law_bent h4__law_bent).binds fun _ _ _ _ _ _ us hl => match us, hl with | [_, _], _ => rfl⟩
  f_law := ⟨a_law, _, fun_mk (st := s_law) h2_law h3_law h4_law, PySem.W.mg_of X G h1_law, (fun_mk (st := s_law) h2_law h3_law h4_law).binds fun _ _ _ _ _ _ us hl => match us, hl with | [_], _ => rfl⟩
  t_LEAST_POWER := t_LEAST_POWER
  c_LEAST_POWER := PySem.W.mg_of X G z_LEAST_POWER
  t_MOST_POWER := t_MOST_POWER
  c_MOST_POWER := PySem.W.mg_of X G z_MOST_POWER
  t_MOST_NUMBER := t_MOST_NUMBER
  c_MOST_NUMBER := PySem.W.mg_of X G z_MOST_NUMBER
  t_MOST_SMALL := t_MOST_SMALL
  c_MOST_SMALL := PySem.W.mg_of X G z_MOST_SMALL
  n_abs := PySem.W.mg_none_of X G z_abs
  n_bool := PySem.W.mg_none_of X G z_bool
  n_int := PySem.W.mg_none_of X G z_int
  n_isinstance := PySem.W.mg_none_of X G z_isinstance
  n_len := PySem.W.mg_none_of X G z_len
  n_list := PySem.W.mg_none_of X G z_list
  n_max := PySem.W.mg_none_of X G z_max
  n_min := PySem.W.mg_none_of X G z_min
  n_range := PySem.W.mg_none_of X G z_range
  n_str := PySem.W.mg_none_of X G z_str
  n_tuple := PySem.W.mg_none_of X G z_tuple
  n_type := PySem.W.mg_none_of X G z_type
theorem all_mk {l : PySem.W.OpenLaw} {w : World} {K : PySem.W.Frag} {mg : Str → Option Value} {fa : Addr} (T : Txt K mg) (hfa : mg "law" = some (.ref fa)) :
    ∃ fd : FuncData, (∀ (s : Shared) (v : Value), BindsTo s fd ⟨[v], []⟩ [("_law_script", v)]) ∧ ∀ base : Heap, K.In base → base.Ns mainGlobals mg → FnOk l.prog w K mg base CX0 9 fa fd ["_law_script"] (spLaw K) := by
  have e := hfa.symm.trans T.f_law.g
  cases e
  refine ⟨T.f_law.fd, fun s v => ?_, fun base _ _ => ok_law T⟩
  obtain ⟨oc, od, kV, doc, pm, an, cdv, ct, osl, e, lk, hcd⟩ := T.f_law.F.ex
  rw [e]
  exact .of_eq rfl
end Q
open PySem PySem.W PyProof.Rows
set_option maxHeartbeats 0 in
theorem PySem.Challenge.cw_fourthlike_k22_fourths_by_a_power_or_non_holds : PySem.Challenge.rw_fourthlike_k22_fourths_by_a_power_or_non.Holds := by
  w_on; o_law; k_head; (case hw => w_witness2)
  k_fill
  refine L2.walk_of (l := PySem.Challenge.rw_fourthlike_k22_fourths_by_a_power_or_non) (n := 63) (k := 9) (x := "_law_script") (CX := fun _ => L2.CX0) (sp := fun w => Q.spLaw _) rfl (by decide) rfl ⟨rfl, by decide, by decide⟩ (fun w h Y => PySem.W.kIn_of Y) ?F (fun _ _ a ns hl _ hS => ⟨a, ns, rfl, hS, hl, fun _ => rfl⟩) (fun _ _ _ _ _ h => h)
  case F =>
    intro w mg fa h KX G hmg
    refine Q.all_mk ?T hmg
    case T =>
      refine' Q.mk_txt KX G ?h1_Paper ?h1_Paper__init__ ?h1_Paper__eq__ ?h1_Paper__bool__ ?h1_Denial ?h1_Denial__init__ ?h1_Denial__eq__ ?h1_Denial__bool__ ?h1_ByPower ?h1_ByPower__init__ ?h1_Between ?h1_Between__init__ ?h1_Whole ?h1_Whole__init__ ?h1_NoWhole ?h1_NoWhole__init__ ?h0_Paper__init__ ?h2_Paper__init__ ?h3_Paper__init__ ?h4_Paper__init__ ?h0_Paper__eq__ ?h2_Paper__eq__ ?h3_Paper__eq__ ?h4_Paper__eq__ ?h0_Paper__bool__ ?h2_Paper__bool__ ?h3_Paper__bool__ ?h4_Paper__bool__ ?h0_Denial__init__ ?h2_Denial__init__ ?h3_Denial__init__ ?h4_Denial__init__ ?h0_Denial__eq__ ?h2_Denial__eq__ ?h3_Denial__eq__ ?h4_Denial__eq__ ?h0_Denial__bool__ ?h2_Denial__bool__ ?h3_Denial__bool__ ?h4_Denial__bool__ ?h0_Whole__init__ ?h2_Whole__init__ ?h3_Whole__init__ ?h4_Whole__init__ ?h0_NoWhole__init__ ?h2_NoWhole__init__ ?h3_NoWhole__init__ ?h4_NoWhole__init__ ?h0_ByPower__init__ ?h2_ByPower__init__ ?h3_ByPower__init__ ?h4_ByPower__init__ ?h0_Between__init__ ?h2_Between__init__ ?h3_Between__init__ ?h4_Between__init__ ?pg_Paper ?hd_Paper ?po_Paper ?sa_Paper ?mk_Paper ?kc_Paper ?ha_Paper ?hm_Paper ?na_Paper_word ?na_Paper_parts ?qe_Paper ?qn_Paper ?r1_Paper ?r2_Paper ?r3_Paper__init__ ?is_Paper_Whole ?is_Paper_NoWhole ?pg_Denial ?hd_Denial ?po_Denial ?sa_Denial ?mk_Denial ?kc_Denial ?ha_Denial ?hm_Denial ?na_Denial_word ?na_Denial_parts ?qe_Denial ?qn_Denial ?r1_Denial ?r2_Denial ?r3_Denial__init__ ?is_Denial_Whole ?is_Denial_NoWhole ?pg_ByPower ?hd_ByPower ?po_ByPower ?sa_ByPower ?mk_ByPower ?kc_ByPower ?ha_ByPower ?hm_ByPower ?na_ByPower_word ?na_ByPower_parts ?na_ByPower_power ?qe_ByPower ?qn_ByPower ?qb_ByPower ?is_ByPower_Whole ?is_ByPower_NoWhole ?pg_Between ?hd_Between ?po_Between ?sa_Between ?mk_Between ?kc_Between ?ha_Between ?hm_Between ?na_Between_word ?na_Between_parts ?na_Between_low ?qe_Between ?qn_Between ?qb_Between ?is_Between_Whole ?is_Between_NoWhole ?pg_Whole ?hd_Whole ?po_Whole ?sa_Whole ?mk_Whole ?kc_Whole ?ha_Whole ?hm_Whole ?na_Whole_word ?na_Whole_parts ?na_Whole_number ?qe_Whole ?qn_Whole ?is_Whole_Whole ?is_Whole_NoWhole ?qb_Whole ?pg_NoWhole ?hd_NoWhole ?po_NoWhole ?sa_NoWhole ?mk_NoWhole ?kc_NoWhole ?ha_NoWhole ?hm_NoWhole ?na_NoWhole_word ?na_NoWhole_parts ?na_NoWhole_low ?qe_NoWhole ?qn_NoWhole ?is_NoWhole_NoWhole ?is_NoWhole_Whole ?qb_NoWhole ?hn_ ?ht_ ?h1_is_integer ?h2_is_integer ?h3_is_integer ?h4_is_integer ?h1_is_within ?h2_is_within ?h3_is_within ?h4_is_within ?h1_need_within ?h2_need_within ?h3_need_within ?h4_need_within ?h1_need_numbers ?h2_need_numbers ?h3_need_numbers ?h4_need_numbers ?h1_need_power ?h2_need_power ?h3_need_power ?h4_need_power ?h1_fixed ?h2_fixed ?h3_fixed ?h4_fixed ?h1_raised ?h2_raised ?h3_raised ?h4_raised ?h1_whole_sum ?h2_whole_sum ?h3_whole_sum ?h4_whole_sum ?h1_is_by_power ?h2_is_by_power ?h3_is_by_power ?h4_is_by_power ?h1_fourth_quotient ?h2_fourth_quotient ?h3_fourth_quotient ?h4_fourth_quotient ?h1_side_of ?h2_side_of ?h3_side_of ?h4_side_of ?h1_whole_below ?h2_whole_below ?h3_whole_below ?h4_whole_below ?h1_is_by ?h2_is_by ?h3_is_by ?h4_is_by ?h1_fourth_by ?h2_fourth_by ?h3_fourth_by ?h4_fourth_by ?h1_shows_fourth_by ?h2_shows_fourth_by ?h3_shows_fourth_by ?h4_shows_fourth_by ?h1__law_hat ?h2__law_hat ?h3__law_hat ?h4__law_hat ?h1__law_lot ?h2__law_lot ?h3__law_lot ?h4__law_lot ?h1__law_one ?h2__law_one ?h3__law_one ?h4__law_one ?h1__law_raised ?h2__law_raised ?h3__law_raised ?h4__law_raised ?h1__law_wanted ?h2__law_wanted ?h3__law_wanted ?h4__law_wanted ?h1__law_planted ?h2__law_planted ?h3__law_planted ?h4__law_planted ?h1__law_drawn ?h2__law_drawn ?h3__law_drawn ?h4__law_drawn ?h1__law_is_whole ?h2__law_is_whole ?h3__law_is_whole ?h4__law_is_whole ?h1__law_is_right ?h2__law_is_right ?h3__law_is_right ?h4__law_is_right ?h1__law_bent ?h2__law_bent ?h3__law_bent ?h4__law_bent ?h1_law ?h2_law ?h3_law ?h4_law ?z_LEAST_POWER ?z_MOST_POWER ?z_MOST_NUMBER ?z_MOST_SMALL ?z_abs ?z_bool ?z_int ?z_isinstance ?z_len ?z_list ?z_max ?z_min ?z_range ?z_str ?z_tuple ?z_type
      (case h1_Paper => k_is)
      (case h1_Paper__init__ => k_is)
      (case h1_Paper__eq__ => k_is)
      (case h1_Paper__bool__ => k_is)
      (case h1_Denial => k_is)
      (case h1_Denial__init__ => k_is)
      (case h1_Denial__eq__ => k_is)
      (case h1_Denial__bool__ => k_is)
      (case h1_ByPower => k_is)
      (case h1_ByPower__init__ => k_is)
      (case h1_Between => k_is)
      (case h1_Between__init__ => k_is)
      (case h1_Whole => k_is)
      (case h1_Whole__init__ => k_is)
      (case h1_NoWhole => k_is)
      (case h1_NoWhole__init__ => k_is)
      (case h0_Paper__init__ => k_is)
      (case h2_Paper__init__ => k_is)
      (case h3_Paper__init__ => k_is)
      (case h4_Paper__init__ => k_is)
      (case h0_Paper__eq__ => k_is)
      (case h2_Paper__eq__ => k_is)
      (case h3_Paper__eq__ => k_is)
      (case h4_Paper__eq__ => k_is)
      (case h0_Paper__bool__ => k_is)
      (case h2_Paper__bool__ => k_is)
      (case h3_Paper__bool__ => k_is)
      (case h4_Paper__bool__ => k_is)
      (case h0_Denial__init__ => k_is)
      (case h2_Denial__init__ => k_is)
      (case h3_Denial__init__ => k_is)
      (case h4_Denial__init__ => k_is)
      (case h0_Denial__eq__ => k_is)
      (case h2_Denial__eq__ => k_is)
      (case h3_Denial__eq__ => k_is)
      (case h4_Denial__eq__ => k_is)
      (case h0_Denial__bool__ => k_is)
      (case h2_Denial__bool__ => k_is)
      (case h3_Denial__bool__ => k_is)
      (case h4_Denial__bool__ => k_is)
      (case h0_Whole__init__ => k_is)
      (case h2_Whole__init__ => k_is)
      (case h3_Whole__init__ => k_is)
      (case h4_Whole__init__ => k_is)
      (case h0_NoWhole__init__ => k_is)
      (case h2_NoWhole__init__ => k_is)
      (case h3_NoWhole__init__ => k_is)
      (case h4_NoWhole__init__ => k_is)
      (case h0_ByPower__init__ => k_is)
      (case h2_ByPower__init__ => k_is)
      (case h3_ByPower__init__ => k_is)
      (case h4_ByPower__init__ => k_is)
      (case h0_Between__init__ => k_is)
      (case h2_Between__init__ => k_is)
      (case h3_Between__init__ => k_is)
      (case h4_Between__init__ => k_is)
      (case pg_Paper => k_is)
      (case hd_Paper => k_is)
      (case po_Paper => k_is)
      (case sa_Paper => k_is)
      (case mk_Paper => k_is)
      (case kc_Paper => k_is)
      (case ha_Paper => k_is)
      (case hm_Paper => k_is)
      (case na_Paper_word => k_is)
      (case na_Paper_parts => k_is)
      (case qe_Paper => k_is)
      (case qn_Paper => k_is)
      (case r1_Paper => k_is)
      (case r2_Paper => k_is)
      (case r3_Paper__init__ => k_is)
      (case is_Paper_Whole => kit_is)
      (case is_Paper_NoWhole => kit_is)
      (case pg_Denial => k_is)
      (case hd_Denial => k_is)
      (case po_Denial => k_is)
      (case sa_Denial => k_is)
      (case mk_Denial => k_is)
      (case kc_Denial => k_is)
      (case ha_Denial => k_is)
      (case hm_Denial => k_is)
      (case na_Denial_word => k_is)
      (case na_Denial_parts => k_is)
      (case qe_Denial => k_is)
      (case qn_Denial => k_is)
      (case r1_Denial => k_is)
      (case r2_Denial => k_is)
      (case r3_Denial__init__ => k_is)
      (case is_Denial_Whole => kit_is)
      (case is_Denial_NoWhole => kit_is)
      (case pg_ByPower => k_is)
      (case hd_ByPower => k_is)
      (case po_ByPower => k_is)
      (case sa_ByPower => k_is)
      (case mk_ByPower => k_is)
      (case kc_ByPower => k_is)
      (case ha_ByPower => k_is)
      (case hm_ByPower => k_is)
      (case na_ByPower_word => k_is)
      (case na_ByPower_parts => k_is)
      (case na_ByPower_power => k_is)
      (case qe_ByPower => k_is)
      (case qn_ByPower => k_is)
      (case qb_ByPower => k_is)
      (case is_ByPower_Whole => kit_is)
      (case is_ByPower_NoWhole => kit_is)
      (case pg_Between => k_is)
      (case hd_Between => k_is)
      (case po_Between => k_is)
      (case sa_Between => k_is)
      (case mk_Between => k_is)
      (case kc_Between => k_is)
      (case ha_Between => k_is)
      (case hm_Between => k_is)
      (case na_Between_word => k_is)
      (case na_Between_parts => k_is)
      (case na_Between_low => k_is)
      (case qe_Between => k_is)
      (case qn_Between => k_is)
      (case qb_Between => k_is)
      (case is_Between_Whole => kit_is)
      (case is_Between_NoWhole => kit_is)
      (case pg_Whole => k_is)
      (case hd_Whole => k_is)
      (case po_Whole => k_is)
      (case sa_Whole => k_is)
      (case mk_Whole => k_is)
      (case kc_Whole => k_is)
      (case ha_Whole => k_is)
      (case hm_Whole => k_is)
      (case na_Whole_word => k_is)
      (case na_Whole_parts => k_is)
      (case na_Whole_number => k_is)
      (case qe_Whole => k_is)
      (case qn_Whole => k_is)
      (case is_Whole_Whole => kit_is)
      (case is_Whole_NoWhole => kit_is)
      (case qb_Whole => k_is)
      (case pg_NoWhole => k_is)
      (case hd_NoWhole => k_is)
      (case po_NoWhole => k_is)
      (case sa_NoWhole => k_is)
      (case mk_NoWhole => k_is)
      (case kc_NoWhole => k_is)
      (case ha_NoWhole => k_is)
      (case hm_NoWhole => k_is)
      (case na_NoWhole_word => k_is)
      (case na_NoWhole_parts => k_is)
      (case na_NoWhole_low => k_is)
      (case qe_NoWhole => k_is)
      (case qn_NoWhole => k_is)
      (case is_NoWhole_NoWhole => kit_is)
      (case is_NoWhole_Whole => kit_is)
      (case qb_NoWhole => k_is)
      (case hn_ => k_is)
      (case ht_ => k_is)
      (case h1_is_integer => k_is)
      (case h2_is_integer => k_is)
      (case h3_is_integer => k_is)
      (case h4_is_integer => k_is)
      (case h1_is_within => k_is)
      (case h2_is_within => k_is)
      (case h3_is_within => k_is)
      (case h4_is_within => k_is)
      (case h1_need_within => k_is)
      (case h2_need_within => k_is)
      (case h3_need_within => k_is)
      (case h4_need_within => k_is)
      (case h1_need_numbers => k_is)
      (case h2_need_numbers => k_is)
      (case h3_need_numbers => k_is)
      (case h4_need_numbers => k_is)
      (case h1_need_power => k_is)
      (case h2_need_power => k_is)
      (case h3_need_power => k_is)
      (case h4_need_power => k_is)
      (case h1_fixed => k_is)
      (case h2_fixed => k_is)
      (case h3_fixed => k_is)
      (case h4_fixed => k_is)
      (case h1_raised => k_is)
      (case h2_raised => k_is)
      (case h3_raised => k_is)
      (case h4_raised => k_is)
      (case h1_whole_sum => k_is)
      (case h2_whole_sum => k_is)
      (case h3_whole_sum => k_is)
      (case h4_whole_sum => k_is)
      (case h1_is_by_power => k_is)
      (case h2_is_by_power => k_is)
      (case h3_is_by_power => k_is)
      (case h4_is_by_power => k_is)
      (case h1_fourth_quotient => k_is)
      (case h2_fourth_quotient => k_is)
      (case h3_fourth_quotient => k_is)
      (case h4_fourth_quotient => k_is)
      (case h1_side_of => k_is)
      (case h2_side_of => k_is)
      (case h3_side_of => k_is)
      (case h4_side_of => k_is)
      (case h1_whole_below => k_is)
      (case h2_whole_below => k_is)
      (case h3_whole_below => k_is)
      (case h4_whole_below => k_is)
      (case h1_is_by => k_is)
      (case h2_is_by => k_is)
      (case h3_is_by => k_is)
      (case h4_is_by => k_is)
      (case h1_fourth_by => k_is)
      (case h2_fourth_by => k_is)
      (case h3_fourth_by => k_is)
      (case h4_fourth_by => k_is)
      (case h1_shows_fourth_by => k_is)
      (case h2_shows_fourth_by => k_is)
      (case h3_shows_fourth_by => k_is)
      (case h4_shows_fourth_by => k_is)
      (case h1__law_hat => k_is)
      (case h2__law_hat => k_is)
      (case h3__law_hat => k_is)
      (case h4__law_hat => k_is)
      (case h1__law_lot => k_is)
      (case h2__law_lot => k_is)
      (case h3__law_lot => k_is)
      (case h4__law_lot => k_is)
      (case h1__law_one => k_is)
      (case h2__law_one => k_is)
      (case h3__law_one => k_is)
      (case h4__law_one => k_is)
      (case h1__law_raised => k_is)
      (case h2__law_raised => k_is)
      (case h3__law_raised => k_is)
      (case h4__law_raised => k_is)
      (case h1__law_wanted => k_is)
      (case h2__law_wanted => k_is)
      (case h3__law_wanted => k_is)
      (case h4__law_wanted => k_is)
      (case h1__law_planted => k_is)
      (case h2__law_planted => k_is)
      (case h3__law_planted => k_is)
      (case h4__law_planted => k_is)
      (case h1__law_drawn => k_is)
      (case h2__law_drawn => k_is)
      (case h3__law_drawn => k_is)
      (case h4__law_drawn => k_is)
      (case h1__law_is_whole => k_is)
      (case h2__law_is_whole => k_is)
      (case h3__law_is_whole => k_is)
      (case h4__law_is_whole => k_is)
      (case h1__law_is_right => k_is)
      (case h2__law_is_right => k_is)
      (case h3__law_is_right => k_is)
      (case h4__law_is_right => k_is)
      (case h1__law_bent => k_is)
      (case h2__law_bent => k_is)
      (case h3__law_bent => k_is)
      (case h4__law_bent => k_is)
      (case h1_law => k_is)
      (case h2_law => k_is)
      (case h3_law => k_is)
      (case h4_law => k_is)
      (case z_LEAST_POWER => k_is)
      (case z_MOST_POWER => k_is)
      (case z_MOST_NUMBER => k_is)
      (case z_MOST_SMALL => k_is)
      (case z_abs => k_is)
      (case z_bool => k_is)
      (case z_int => k_is)
      (case z_isinstance => k_is)
      (case z_len => k_is)
      (case z_list => k_is)
      (case z_max => k_is)
      (case z_min => k_is)
      (case z_range => k_is)
      (case z_str => k_is)
      (case z_tuple => k_is)
      (case z_type => k_is)

