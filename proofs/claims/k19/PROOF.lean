import PyProof.Rows.All
import Wide.All
import OpenK.AllK
import Wide.FinOn
import HandS.ForMost
import HandS.IsInst
import HandS.Wide
import HandS.WideBits
import HandS.Style
import HandS.TryOnly
import HandS.More
import HandS.ClsMeth
import HandS.Star
import HandS.OwnEq
import HandS.SortInts
import KE.KEqSeq
import KE.RegKIsAll
import PyProof.InstNe
import HandS.RaiseMore
import HandS.SetFor
import HandS.Records
import PySem.Challenge.RW_fourthlike_k19_whole_growing_fours_have
set_option Elab.async false
set_option linter.all false
set_option maxRecDepth 100000
set_option maxHeartbeats 4000000
namespace Ru
open PySem PySem.Spec PyProof.Rows L2
/-! ### C.m(..): a def of a class, read off the class and called with all its arguments -/
section
variable {X : Cx} {pins : List (Addr × Obj)} {σ : L2.St} {H : Hp} {s : Shared} {C g : Addr} {mc : Value} {m : Str} {A : Around} {E0 : Value → Shared → Prop}
theorem getcf_ok {pl : Sem Bool} {Q : Value × List Value → Shared → Prop} (I : Inv X pins σ H s) (r : ClX.CRead X.K C mc) (k : ClX.CVal X.K C mc m (.ref g) (.ref g)) (h : ∀ s', Inv X pins σ H s' → Q (.ref g, []) s') :
    wpAny (model X.prog X.w) A (getMethod (.ref C) m pl) Q E0 s := PySem.W.method_cls I.kIn r.ga (ClX.getcval_ok I r k h)
end
def tCFn (C : Addr) (sp : Sp) (E : XK) (ta : TE) (t : TA) : TE := fun σ H Q => ta σ H fun x H1 => x = .ref C ∧ t σ H1 fun vs H2 => sp vs H2 Q E
theorem pe_cfn {X : Cx} {CX : CXT} {k : Nat} {C g : Addr} {mc : Value} {sp : Sp} {E : XK} {o e : Expr} {es : List Expr} {m : Str} {pos apos : Pos} {ta : TE} {t : TA} {pl : Sem Bool}
    (he : PE X o ta) (r : ClX.CRead X.K C mc) (c : ClX.CVal X.K C mc m (.ref g) (.ref g)) (hk : PySem.W.keepIn X.K (.ref g) = true) (F : FnR X.prog X.w X.K X.mg X.base CX k g sp) (hr : Room k X.A) (hx : Passes CX X E) (ha : PA X (e :: es) t)
    (hst : starEach (e :: es) X.env = (false, eval e X.env) :: starEach es X.env := by rfl) (hpl : (backTo pos (starEach es X.env)).any (·.1) = false := by rfl)
    (ht : eval (.Call (.Attribute o m apos) (e :: es) [] pos) X.env = (do
      let ov ← eval o X.env
      standAt apos.atName
      let (f, first) ← holding [ov] (getMethod ov m pl)
      callWith pos f first (backTo pos (starEach (e :: es) X.env)) (backToKw pos (keywordEach [] X.env))) := by rfl) :
    PE X (.Call (.Attribute o m apos) (e :: es) [] pos) (tCFn C sp E ta t) := by
  refine ⟨fun pins s σ H Q I h => ?_⟩
  refine PySem.W.methodCall_KW (pl := pl) (thn (he.run pins s σ H _ I h) fun u s1 ⟨x, H1, I1, rx, ex, q⟩ => ?_) ht
  subst ex
  obtain rfl : u = Value.ref C := rx
  refine getcf_ok I1 r c fun s2 I2 => ?_
  refine PySem.W.callWith_K (first := []) (h₀ := X.base) I.ok.mod.kin hk (thn (ha.run pos pins s2 σ H1 _ I2 q) fun us s3 ⟨vs, H2, I3, rv, q2⟩ => ⟨I3.kIn, ?_⟩) hst hpl
  exact wpAny_call (run_fnR F hr hx I3 rv q2)
/-! ### x == y, x != y of two instances of one class by an __eq__ of the text's own -/
section
variable {prog : Program} {w : World} {A : Around} {E : Value → Shared → Prop} {s : Shared} {K : PySem.W.Frag} {x C f : Addr} {ox : Obj} {od : Option Obj} {b tb : Value}
theorem ifBound_objNe {M : Model} {args : List Value} {Q : Option Value → Shared → Prop} (X : K.In s.heap) (I : PySem.W.InstAt s.heap x ox C od) (hs : PySem.W.findIn K (.ref C) "__ne__" = some (some (.builtin "object.__ne__")))
    (h : wpAny M A (call (.builtin "object.__ne__") (.ref x :: args)) (fun v => Q (some v)) E s) : wpAny M A (callSpecialIfBound? (.ref x) "__ne__" args) Q E s := by
  simp only [callSpecialIfBound?, bindSpecialIfBound?]
  refine wpAny_holding (wpAny_bind (wpAny_bind (wpAny_bind (I.type.here ((PySem.W.looks_findIn X hs).here ?_)))))
  refine wpAny_bind (wpAny_askSetting (wpAny_ite ?_))
  have fin : wpAny M A (call (.builtin "object.__ne__") ([.ref x] ++ args) >>= fun v => pure (some v)) Q E s := wpAny_bind (wpAny_mono h (fun v s' h' => wpAny_pure h') fun _ _ h' => h')
  split
  · exact wpAny_bind (wpAny_of_eq (F.cmp_object.ne.bind _) (wpAny_pure (by exact fin)))
  · exact wpAny_tryCatch (wpAny_bind (wpAny_of_eq (F.cmp_object.ne.bind _) (wpAny_pure (by exact fin))))
open Builtin in
theorem objNe_entry {Q : Fin → Shared → Prop} (X : K.In s.heap) (I : PySem.W.InstAt s.heap x ox C od) (hs : PySem.W.findIn K (.ref C) "__eq__" = some (some (.ref f))) (hf : PySem.W.isFn K (.ref f) = true) (hu : A.units < cLine)
    (hcall : wpAny (model prog w) A (call (.ref f) [.ref x, b]) (fun v s' => ∃ r, v = .bool r ∧ Q (.done (.ret (.bool (!r)))) s') E s) :
    wpAny (model prog w) A (Builtin.«object.__ne__» ⟨[.ref x, b], []⟩) Q E s := by
  unfold Builtin.«object.__ne__»
  repeat (first
    | with_reducible refine wpAny_cRoomFor hu ?_
    | (refine wpAny_bind (m := callSpecialIfBound? (.ref x) (Str.ofString "__eq__") [b])
        (PySem.W.ifBound_K X I hs hf (wpAny_mono hcall (fun r s' hr => by
          obtain ⟨c, rfl, hq⟩ := hr
          repeat (first | exact hq | exact wpAny_pure hq | exact wpAny_truthy_bool hq | (refine wpAny_bind (m := truthy (.bool _)) (wpAny_truthy_bool ?_)) | wp_step)) fun _ _ e => e)))
    | wp_step)
theorem try_ne {Q : Option Value → Shared → Prop} (X : K.In s.heap) (I : PySem.W.InstAt s.heap x ox C od) (hm : PySem.W.mroIn K C (.type "object") = some true) (hn : PySem.W.findIn K (.ref C) "__ne__" = some (some (.builtin "object.__ne__")))
    (hs : PySem.W.findIn K (.ref C) "__eq__" = some (some (.ref f))) (hf : PySem.W.isFn K (.ref f) = true) (hu : A.units + 1 < cLine)
    (hcall : wpAny (model prog w) A.in1 (call (.ref f) [.ref x, b]) (fun v s' => ∃ r, v = .bool r ∧ Q (some (.bool (!r))) s') E s) :
    wpAny (model prog w) A (tryCompare (.ref x) "__ne__" b) Q E s := by
  unfold tryCompare
  refine wpAny_bind (ifBound_objNe X I hn (wpAny_call (codeAny_call_builtin F.cmp_object.ne.plain F.cmpEntry_ne (PySem.W.check_slot F.cmpKind_ne F.cmpSplit_ne (I.type.andThen (PySem.W.looks_mroIn X hm)) (F.cmpArgs_ne _ _)
    (objNe_entry X I hs hf hu (wpAny_mono hcall (fun v s' hv => ?_) fun _ _ e => e))))))
  obtain ⟨r, rfl, hq⟩ := hv
  first | exact ⟨r, rfl, wpAny_pure hq⟩ | exact ⟨r, rfl, wpAny_pure (wpAny_pure hq)⟩ | exact ⟨r, rfl, hq⟩
theorem rich_ne {L : Addr} {h₀ : Heap} {m : Str → Option Value} {Q : Value → Shared → Prop} (hu : A.units + 1 < cLine) (F : Fr h₀ L s.heap m) (X₀ : K.In h₀) (I : PySem.W.InstAt s.heap x ox C od) (hb : PySem.W.Looks (model prog w) s.heap (typeOf b) tb)
    (hnf : PySem.W.notFirst K C tb = true) (hm : PySem.W.mroIn K C (.type "object") = some true) (hn : PySem.W.findIn K (.ref C) "__ne__" = some (some (.builtin "object.__ne__")))
    (hs : PySem.W.findIn K (.ref C) "__eq__" = some (some (.ref f))) (hf : PySem.W.isFn K (.ref f) = true)
    (hcall : wpAny (model prog w) A.in1 (call (.ref f) [.ref x, b]) (fun v s' => ∃ r, v = .bool r ∧ Q (.bool (!r)) s') E s) : wpAny (model prog w) A (richCompare .NotEq (.ref x) b) Q E s := by
  have X := X₀.keeps F.keep
  have one : wpAny (model prog w) A (tryCompare (.ref x) (cmpInfo .NotEq).2.1 b) (fun r s' => ∃ v, r = some v ∧ Q v s') E s :=
    try_ne X I hm hn hs hf hu (wpAny_mono hcall (fun v s' ⟨r, e, q⟩ => ⟨r, e, _, rfl, q⟩) fun _ _ e => e)
  unfold richCompare
  simp only [oneThing_ref]
  refine wpAny_holding (wpAny_bind (wpAny_cRoomFor (Nat.lt_of_succ_lt hu) ?_))
  refine wpAny_bind (I.type.here (wpAny_bind (hb.here ?_)))
  split
  · rename_i q
    have e : PySem.W.subIn K tb (.ref C) = some false := by
      rcases Bool.or_eq_true_iff.mp hnf with e | e
      · rw [beq_iff_eq.mp e] at q; simp at q
      · exact beq_iff_eq.mp e
    refine wpAny_bind ((PySem.W.looks_subIn X e).here ?_)
    simp only [Bool.false_eq_true, if_false]
    refine wpAny_bind (wpAny_mono one (fun r s' z => ?_) fun _ _ e => e)
    obtain ⟨v, rfl, hq⟩ := z
    exact wpAny_pure hq
  · refine wpAny_bind (wpAny_pure ?_)
    simp only [Bool.false_eq_true, if_false]
    refine wpAny_bind (wpAny_mono one (fun r s' z => ?_) fun _ _ e => e)
    obtain ⟨v, rfl, hq⟩ := z
    exact wpAny_pure hq
end
/-- what the text's class must have: its own ==, and no != -/
structure EqC (K : PySem.W.Frag) (C f : Addr) : Prop where
  eq : PySem.W.findIn K (.ref C) "__eq__" = some (some (.ref f))
  fn : PySem.W.isFn K (.ref f) = true
  ne : PySem.W.findIn K (.ref C) "__ne__" = some (some (.builtin "object.__ne__"))
  ob : PySem.W.mroIn K C (.type "object") = some true
def rInsEq (C : Addr) (sp : Sp) (E : XK) (neg : Bool) : R2 := fun x y H Q => ∃ a b dx dy fs gs, x = .ref a ∧ y = .ref b ∧ H a = some (.ins C dx fs) ∧ H b = some (.ins C dy gs) ∧ sp [x, y] H (fun v H' => ∃ r, v = .bl r ∧ Q (.bl (if neg then !r else r)) H') E
section
variable {X : Cx} {CX : CXT} {k : Nat} {C f : Addr} {sp : Sp} {E : XK}
theorem op_eqI (c : EqC X.K C f) (F : FnR X.prog X.w X.K X.mg X.base CX k f sp) (hr : Room k X.A) (hx : Passes CX X E) : OpR X (compareOp .Eq) (rInsEq C sp E false) := by
  intro pins s σ H x y v u Q I rx ry h
  obtain ⟨a, b, dx, dy, fs, gs, rfl, rfl, ha, hb, q⟩ := h
  cases rx
  cases ry
  show wpAny (model X.prog X.w) X.A (richCompare .Eq (.ref a) (.ref b)) (EP X pins σ Q) X.xe s
  obtain ⟨mA, J, _⟩ := ins_get I.hok ha
  obtain ⟨mB, J', _⟩ := ins_get I.hok hb
  obtain ⟨od, J, _⟩ := J.look
  obtain ⟨od', J', _⟩ := J'.look
  obtain ⟨m, hF⟩ := I.fr
  refine PySem.W.cmp_K (op := .Eq) (tb := .ref C) hr.units0 hF I.ok.mod.kin J J'.type (by simp [PySem.W.notFirst]) c.eq c.fn ?_
  refine thn (wpAny_call (run_fnR (us := [.ref a, .ref b]) (vs := [.ref a, .ref b]) F hr hx I (.cons rfl (.cons rfl .nil)) q)) fun w s' ⟨z, H', I', rz, r, ez, q'⟩ => ?_
  subst ez
  cases rz
  exact ⟨.bl r, H', I', rfl, q'⟩
theorem op_neI (c : EqC X.K C f) (F : FnR X.prog X.w X.K X.mg X.base CX k f sp) (hr : Room (k + 1) X.A) (hx : Passes CX X E) : OpR X (compareOp .NotEq) (rInsEq C sp E true) := by
  intro pins s σ H x y v u Q I rx ry h
  obtain ⟨a, b, dx, dy, fs, gs, rfl, rfl, ha, hb, q⟩ := h
  cases rx
  cases ry
  show wpAny (model X.prog X.w) X.A (richCompare .NotEq (.ref a) (.ref b)) (EP X pins σ Q) X.xe s
  obtain ⟨mA, J, _⟩ := ins_get I.hok ha
  obtain ⟨mB, J', _⟩ := ins_get I.hok hb
  obtain ⟨od, J, _⟩ := J.look
  obtain ⟨od', J', _⟩ := J'.look
  obtain ⟨m, hF⟩ := I.fr
  refine rich_ne (tb := .ref C) (Nat.lt_of_le_of_lt (Nat.add_le_add_left (by decide : 1 ≤ 64) _) hr.units) hF I.ok.mod.kin J J'.type (by simp [PySem.W.notFirst]) c.ob c.ne c.eq c.fn ?_
  have e0 : Env0 X.prog X.w X.K X.mg X.base X.A.in1 X.stack s H := I.env0.in1
  refine wpAny_call (codeAny_mono (F X.A.in1 X.stack s H [.ref a, .ref b] [.ref a, .ref b] _ E hr.in1 e0 (.cons rfl (.cons rfl .nil)) q) fun r s' hq => ?_)
  cases r with
  | error e => exact hx pins σ H s e s' I hq
  | ok fl =>
    cases fl with
    | ret w =>
      obtain ⟨z, H', I', rz, c', ez, q'⟩ := I.after hq
      subst ez
      cases rz
      exact ⟨c', rfl, .bl (!c'), H', I', rfl, q'⟩
    | next => exact False.elim hq
    | brk => exact False.elim hq
    | cont => exact False.elim hq
end
end Ru

namespace Ru
open PySem PySem.Spec PyProof.Rows L2
/-! ### a op b op c op d .. of any length, as a test and as a value -/
structure PTC (X : Cx) (ops : List CmpOp) (es : List Expr) (t : V → TT) : Prop where
  run : ∀ (pos : Pos) (pins : List (Addr × Obj)) (s : Shared) (σ : L2.St) (H : Hp) (x : V) (v : Value) (Q : Bool → Hp → Prop), Inv X pins σ H s → RelV x v → t x σ H Q → wpAny (model X.prog X.w) X.A (testChain pos v ops (evalEach es X.env)) (TP X pins σ Q) X.xe s
structure PEC (X : Cx) (ops : List CmpOp) (es : List Expr) (t : V → TE) : Prop where
  run : ∀ (pos : Pos) (pins : List (Addr × Obj)) (s : Shared) (σ : L2.St) (H : Hp) (x : V) (v : Value) (Q : VK), Inv X pins σ H s → RelV x v → t x σ H Q → wpAny (model X.prog X.w) X.A (compareChain pos v ops (evalEach es X.env)) (EP X pins σ Q) X.xe s
section
variable {X : Cx} {op op' op1 op2 : CmpOp} {ops : List CmpOp} {r : R2} {a b e e1 e2 : Expr} {es : List Expr} {ta tb : TE} {t : V → TT} {u : V → TE} {pos : Pos}
def cLast (r : R2) (tb : TE) : V → TT := fun x σ H Q => tb σ H fun y H1 => r x y H1 fun z H2 => ∃ k, z = .bl k ∧ Q k H2
def cLink (r : R2) (tb : TE) (t : V → TT) : V → TT := fun x σ H Q => tb σ H fun y H1 => r x y H1 fun z H2 => ∃ k, z = .bl k ∧ if k = true then t y σ H2 Q else Q false H2
def vLast (r : R2) (tb : TE) : V → TE := fun x σ H Q => tb σ H fun y H1 => r x y H1 Q
def vLink (r : R2) (tb : TE) (t : V → TE) : V → TE := fun x σ H Q => tb σ H fun y H1 => r x y H1 fun z H2 => ∃ k, z = .bl k ∧ if k = true then t y σ H2 Q else Q (.bl false) H2
theorem ptc_last (ho : OpR X (compareOp op) r) (hb : PE X b tb) : PTC X [op] [b] (cLast r tb) := by
  refine ⟨fun pos pins s σ H x v Q I rx h => ?_⟩
  show wpAny _ _ (testChain pos v [op] [eval b X.env]) _ _ s
  refine test_last (thn (hb.run pins s σ H _ I h) fun u s1 ⟨y, H1, I1, r1, q1⟩ => thn (ho pins s1 σ H1 x y v u _ I1 rx r1 q1) fun c s2 ⟨z, H2, I2, r2, k, e, q⟩ => ?_)
  subst e
  cases r2
  exact wpAny_truthy_bool ⟨H2, I2, q⟩
theorem ptc_link (ho : OpR X (compareOp op) r) (hb : PE X b tb) (hr : PTC X (op' :: ops) (e :: es) t) : PTC X (op :: op' :: ops) (b :: e :: es) (cLink r tb t) := by
  refine ⟨fun pos pins s σ H x v Q I rx h => ?_⟩
  show wpAny _ _ (testChain pos v (op :: op' :: ops) (eval b X.env :: eval e X.env :: evalEach es X.env)) _ _ s
  refine test_link (thn (hb.run pins s σ H _ I h) fun u s1 ⟨y, H1, I1, r1, q1⟩ => thn (ho pins s1 σ H1 x y v u _ I1 rx r1 q1) fun c s2 ⟨z, H2, I2, r2, k, e, q⟩ => ?_)
  subst e
  cases r2
  refine wpAny_truthy_bool ?_
  cases k with
  | false => exact ite_ff ⟨H2, I2, q⟩
  | true => exact ite_tt (hr.run pos pins s2 σ H2 y u Q I2 r1 q)
theorem pec_last (ho : OpR X (compareOp op) r) (hb : PE X b tb) : PEC X [op] [b] (vLast r tb) := by
  refine ⟨fun pos pins s σ H x v Q I rx h => ?_⟩
  show wpAny _ _ (compareChain pos v [op] [eval b X.env]) _ _ s
  exact chain_last (thn (hb.run pins s σ H _ I h) fun u s1 ⟨y, H1, I1, r1, q1⟩ => ho pins s1 σ H1 x y v u _ I1 rx r1 q1)
theorem pec_link (ho : OpR X (compareOp op) r) (hb : PE X b tb) (hr : PEC X (op' :: ops) (e :: es) u) : PEC X (op :: op' :: ops) (b :: e :: es) (vLink r tb u) := by
  refine ⟨fun pos pins s σ H x v Q I rx h => ?_⟩
  show wpAny _ _ (compareChain pos v (op :: op' :: ops) (eval b X.env :: eval e X.env :: evalEach es X.env)) _ _ s
  refine chain_link (thn (hb.run pins s σ H _ I h) fun u s1 ⟨y, H1, I1, r1, q1⟩ => thn (ho pins s1 σ H1 x y v u _ I1 rx r1 q1) fun c s2 ⟨z, H2, I2, r2, k, e, q⟩ => ?_)
  subst e
  cases r2
  refine wpAny_truthy_bool ?_
  cases k with
  | false => exact ite_ff ⟨.bl false, H2, I2, rfl, q⟩
  | true => exact ite_tt (hr.run pos pins s2 σ H2 y u Q I2 r1 q)
theorem pt_chainN (ha : PE X a ta) (hc : PTC X (op1 :: op2 :: ops) (e1 :: e2 :: es) t) (hm : lastMarks (op1 :: op2 :: ops) (e1 :: e2 :: es) = false := by with_unfolding_all rfl) :
    PT X (.Compare a (op1 :: op2 :: ops) (e1 :: e2 :: es) pos) (fun σ H Q => ta σ H fun x H1 => t x σ H1 Q) :=
  ⟨fun pins s σ H Q I h => isTrue_chain (thn (ha.run pins s σ H _ I h) fun v s1 ⟨x, H1, I1, r1, q1⟩ => hc.run pos pins s1 σ H1 x v Q I1 r1 q1) hm⟩
theorem pe_chainN (ha : PE X a ta) (hc : PEC X (op1 :: op2 :: ops) (e1 :: e2 :: es) u) (hm : lastMarks (op1 :: op2 :: ops) (e1 :: e2 :: es) = false := by with_unfolding_all rfl) :
    PE X (.Compare a (op1 :: op2 :: ops) (e1 :: e2 :: es) pos) (fun σ H Q => ta σ H fun x H1 => u x σ H1 Q) :=
  ⟨fun pins s σ H Q I h => Compare_chain (thn (ha.run pins s σ H _ I h) fun v s1 ⟨x, H1, I1, r1, q1⟩ => hc.run pos pins s1 σ H1 x v Q I1 r1 q1) hm⟩
end
/-! ### the truth of an instance by an own __bool__ -/
structure BoolC (K : PySem.W.Frag) (C f : Addr) : Prop where
  bo : PySem.W.findIn K (.ref C) "__bool__" = some (some (.ref f))
  fn : PySem.W.isFn K (.ref f) = true
def rInsTru (C : Addr) (sp : Sp) (E : XK) : V → Hp → (Bool → Hp → Prop) → Prop := fun x H Q => ∃ a dx fs, x = .ref a ∧ H a = some (.ins C dx fs) ∧ sp [x] H (fun v H' => ∃ r, v = .bl r ∧ Q r H') E
theorem tru_own {X : Cx} {CX : CXT} {k : Nat} {C f : Addr} {sp : Sp} {E : XK} (c : BoolC X.K C f) (F : FnR X.prog X.w X.K X.mg X.base CX k f sp) (hr : Room k X.A) (hx : Passes CX X E) : TruR X (rInsTru C sp E) := by
  intro pins s σ H x v Q I rx h
  obtain ⟨a, dx, fs, rfl, ha, q⟩ := h
  cases rx
  obtain ⟨mA, J, _⟩ := ins_get I.hok ha
  obtain ⟨od, J, _⟩ := J.look
  obtain ⟨m, hF⟩ := I.fr
  refine PySem.W.truthy_K hF I.ok.mod.kin J c.bo c.fn ?_
  refine thn (wpAny_call (run_fnR (us := [.ref a]) (vs := [.ref a]) F hr hx I (.cons rfl .nil) q)) fun w s' ⟨z, H', I', rz, r, ez, q'⟩ => ?_
  subst ez
  cases rz
  exact ⟨H', I', q'⟩
theorem TruR.or {X : Cx} {r r' : V → Hp → (Bool → Hp → Prop) → Prop} (h : TruR X r) (h' : TruR X r') : TruR X (fun x H Q => r x H Q ∨ r' x H Q) := by
  intro pins s σ H x v Q I rx q
  rcases q with q | q
  · exact h pins s σ H x v Q I rx q
  · exact h' pins s σ H x v Q I rx q
/-- f(k = v, ..) without positional arguments -/
theorem pe_callK0 {X : Cx} {CX : CXT} {k : Nat} {f : Addr} {fd : FuncData} {ps ks : List Str} {sp : Sp} {E : XK} {x : Str} {p pos : Pos} {kws : List Keyword} {tk : TA} {g : List Value → List Value → List Value} {gV : List V → List V → List V}
    (F : FnOk X.prog X.w X.K X.mg X.base CX k f fd ps sp) (hr : Room k X.A) (hg : Gl X x) (hm : X.mg x = some (.ref f)) (hk : PySem.W.keepIn X.K (.ref f) = true) (hb : KBinds X.K fd ps ks g gV) (hx : Passes CX X E)
    (hkw : PK X kws tk) (hall : (backToKw pos (keywordEach kws X.env)).all (·.1.isSome) = true := by rfl) (hks : (backToKw pos (keywordEach kws X.env)).filterMap (·.1) = ks := by rfl)
    (hdb : (x == ("__debug__" : Str)) = false := by decide)
    (hpl : ((backTo pos (starEach [] X.env)).any (·.1) || (backToKw pos (keywordEach kws X.env)).any (·.1.isNone)) = false := by rfl) :
    PE X (.Call (.Name x p) [] kws pos) (tCallK sp gV E tNil tk) := by
  refine ⟨fun pins s σ H Q I h => ?_⟩
  refine wpAny_Call_Name_kw (ld_glob I hg hm ?_ hdb)
  refine PySem.W.callWith_KW0 I.kIn hk hall (thn (hkw.run pos pins s σ H _ I h) fun ws s2 ⟨zs, H2, I2, rz, q2⟩ => ?_) hpl
  rw [hks]
  exact ⟨I2.kIn, run_fnk F hr hb hx I2 .nil rz q2⟩
end Ru

namespace Q
open PySem PySem.Spec PyProof.Rows L2
def top (i : Nat) : Stmt := PySem.Challenge.pw_fourthlike_k19_whole_growing_fours_have.main.body.getD i (.Pass ⟨0, 0, 0, 0⟩)
abbrev s_is_integer : Stmt := top 1
abbrev n_is_integer : List Str := ["value"]
theorem sc_is_integer : FnScope ["value"] ["value"] (defScope s_is_integer) := ⟨rfl, rfl, rfl, by decide +kernel, rfl, by decide +kernel, by decide +kernel⟩
abbrev s_is_within : Stmt := top 2
abbrev n_is_within : List Str := ["value", "least", "most"]
theorem sc_is_within : FnScope ["value", "least", "most"] ["value", "least", "most"] (defScope s_is_within) := ⟨rfl, rfl, rfl, by decide +kernel, rfl, by decide +kernel, by decide +kernel⟩
abbrev s_need_within : Stmt := top 11
abbrev n_need_within : List Str := ["part", "value", "least", "most"]
theorem sc_need_within : FnScope ["part", "value", "least", "most"] ["part", "value", "least", "most"] (defScope s_need_within) := ⟨rfl, rfl, rfl, by decide +kernel, rfl, by decide +kernel, by decide +kernel⟩
abbrev s_need_numbers : Stmt := top 12
abbrev n_need_numbers : List Str := ["named", "most", "part", "value"]
theorem sc_need_numbers : FnScope ["named", "most", "part", "value"] ["named", "most"] (defScope s_need_numbers) := ⟨rfl, rfl, rfl, by decide +kernel, rfl, by decide +kernel, by decide +kernel⟩
abbrev s_need_power : Stmt := top 13
abbrev n_need_power : List Str := ["power"]
theorem sc_need_power : FnScope ["power"] ["power"] (defScope s_need_power) := ⟨rfl, rfl, rfl, by decide +kernel, rfl, by decide +kernel, by decide +kernel⟩
abbrev s_need_growing : Stmt := top 14
abbrev n_need_growing : List Str := ["a", "b", "c", "d"]
theorem sc_need_growing : FnScope ["a", "b", "c", "d"] ["a", "b", "c", "d"] (defScope s_need_growing) := ⟨rfl, rfl, rfl, by decide +kernel, rfl, by decide +kernel, by decide +kernel⟩
abbrev s_fixed : Stmt := top 16
abbrev n_fixed : List Str := ["value", "one"]
theorem sc_fixed : FnScope ["value", "one"] ["value"] (defScope s_fixed) := ⟨rfl, rfl, rfl, by decide +kernel, rfl, by decide +kernel, by decide +kernel⟩
abbrev s_Paper__init__ : Stmt := inClass (top 17) 0
abbrev n_Paper__init__ : List Str := ["self", "word", "parts"]
theorem sc_Paper__init__ : FnScope ["self", "word", "parts"] ["self", "word", "parts"] (defScope s_Paper__init__) := ⟨rfl, rfl, rfl, by decide +kernel, rfl, by decide +kernel, by decide +kernel⟩
abbrev s_Paper__eq__ : Stmt := inClass (top 17) 1
abbrev n_Paper__eq__ : List Str := ["self", "other"]
theorem sc_Paper__eq__ : FnScope ["self", "other"] ["self", "other"] (defScope s_Paper__eq__) := ⟨rfl, rfl, rfl, by decide +kernel, rfl, by decide +kernel, by decide +kernel⟩
abbrev s_Paper__bool__ : Stmt := inClass (top 17) 2
abbrev n_Paper__bool__ : List Str := ["self"]
theorem sc_Paper__bool__ : FnScope ["self"] ["self"] (defScope s_Paper__bool__) := ⟨rfl, rfl, rfl, by decide +kernel, rfl, by decide +kernel, by decide +kernel⟩
abbrev s_Denial__init__ : Stmt := inClass (top 18) 0
abbrev n_Denial__init__ : List Str := ["self", "word", "parts"]
theorem sc_Denial__init__ : FnScope ["self", "word", "parts"] ["self", "word", "parts"] (defScope s_Denial__init__) := ⟨rfl, rfl, rfl, by decide +kernel, rfl, by decide +kernel, by decide +kernel⟩
abbrev s_Denial__eq__ : Stmt := inClass (top 18) 1
abbrev n_Denial__eq__ : List Str := ["self", "other"]
theorem sc_Denial__eq__ : FnScope ["self", "other"] ["self", "other"] (defScope s_Denial__eq__) := ⟨rfl, rfl, rfl, by decide +kernel, rfl, by decide +kernel, by decide +kernel⟩
abbrev s_Denial__bool__ : Stmt := inClass (top 18) 2
abbrev n_Denial__bool__ : List Str := ["self"]
theorem sc_Denial__bool__ : FnScope ["self"] ["self"] (defScope s_Denial__bool__) := ⟨rfl, rfl, rfl, by decide +kernel, rfl, by decide +kernel, by decide +kernel⟩
abbrev s_raised : Stmt := top 20
abbrev n_raised : List Str := ["number", "times", "found"]
theorem sc_raised : FnScope ["number", "times", "found"] ["number", "times"] (defScope s_raised) := ⟨rfl, rfl, rfl, by decide +kernel, rfl, by decide +kernel, by decide +kernel⟩
abbrev s_whole_sum : Stmt := top 21
abbrev n_whole_sum : List Str := ["a", "b", "c", "d", "power"]
theorem sc_whole_sum : FnScope ["a", "b", "c", "d", "power"] ["a", "b", "c", "d", "power"] (defScope s_whole_sum) := ⟨rfl, rfl, rfl, by decide +kernel, rfl, by decide +kernel, by decide +kernel⟩
abbrev s_is_by_power : Stmt := top 22
abbrev n_is_by_power : List Str := ["a", "b", "c", "d", "power"]
theorem sc_is_by_power : FnScope ["a", "b", "c", "d", "power"] ["a", "b", "c", "d", "power"] (defScope s_is_by_power) := ⟨rfl, rfl, rfl, by decide +kernel, rfl, by decide +kernel, by decide +kernel⟩
abbrev s_ByPower__init__ : Stmt := inClass (top 24) 0
abbrev n_ByPower__init__ : List Str := ["self", "power"]
theorem sc_ByPower__init__ : FnScope ["self", "power"] ["self", "power"] (defScope s_ByPower__init__) := ⟨rfl, rfl, rfl, by decide +kernel, rfl, by decide +kernel, by decide +kernel⟩
abbrev s_Between__init__ : Stmt := inClass (top 25) 0
abbrev n_Between__init__ : List Str := ["self", "low"]
theorem sc_Between__init__ : FnScope ["self", "low"] ["self", "low"] (defScope s_Between__init__) := ⟨rfl, rfl, rfl, by decide +kernel, rfl, by decide +kernel, by decide +kernel⟩
abbrev s_power_of : Stmt := top 26
abbrev n_power_of : List Str := ["a", "b", "c", "d", "way", "power", "found"]
theorem sc_power_of : FnScope ["a", "b", "c", "d", "way", "power", "found"] ["a", "b", "c", "d"] (defScope s_power_of) := ⟨rfl, rfl, rfl, by decide +kernel, rfl, by decide +kernel, by decide +kernel⟩
abbrev s_sign_at : Stmt := top 28
abbrev n_sign_at : List Str := ["a", "b", "c", "d", "power", "found"]
theorem sc_sign_at : FnScope ["a", "b", "c", "d", "power", "found"] ["a", "b", "c", "d", "power"] (defScope s_sign_at) := ⟨rfl, rfl, rfl, by decide +kernel, rfl, by decide +kernel, by decide +kernel⟩
abbrev s_is_by : Stmt := top 29
abbrev n_is_by : List Str := ["a", "b", "c", "d", "power"]
theorem sc_is_by : FnScope ["a", "b", "c", "d", "power"] ["a", "b", "c", "d", "power"] (defScope s_is_by) := ⟨rfl, rfl, rfl, by decide +kernel, rfl, by decide +kernel, by decide +kernel⟩
abbrev s_is_between : Stmt := top 31
abbrev n_is_between : List Str := ["a", "b", "c", "d", "low", "near", "far"]
theorem sc_is_between : FnScope ["a", "b", "c", "d", "low", "near", "far"] ["a", "b", "c", "d", "low"] (defScope s_is_between) := ⟨rfl, rfl, rfl, by decide +kernel, rfl, by decide +kernel, by decide +kernel⟩
abbrev s_shows_power : Stmt := top 32
abbrev n_shows_power : List Str := ["a", "b", "c", "d", "value"]
theorem sc_shows_power : FnScope ["a", "b", "c", "d", "value"] ["a", "b", "c", "d", "value"] (defScope s_shows_power) := ⟨rfl, rfl, rfl, by decide +kernel, rfl, by decide +kernel, by decide +kernel⟩
abbrev s__law_hat : Stmt := top 34
abbrev n__law_hat : List Str := ["_law_script", "_law_cell"]
theorem sc__law_hat : FnScope ["_law_script", "_law_cell"] ["_law_script"] (defScope s__law_hat) := ⟨rfl, rfl, rfl, by decide +kernel, rfl, by decide +kernel, by decide +kernel⟩
abbrev s__law_lot : Stmt := top 35
abbrev n__law_lot : List Str := ["_law_hat_here", "_law_many", "_law_digit", "_law_at", "_law_cell", "_law_great", "_law_mixed"]
theorem sc__law_lot : FnScope ["_law_hat_here", "_law_many", "_law_digit", "_law_at", "_law_cell", "_law_great", "_law_mixed"] ["_law_hat_here", "_law_many"] (defScope s__law_lot) := ⟨rfl, rfl, rfl, by decide +kernel, rfl, by decide +kernel, by decide +kernel⟩
abbrev s__law_one : Stmt := top 36
abbrev n__law_one : List Str := ["_law_hat_here", "_law_some"]
theorem sc__law_one : FnScope ["_law_hat_here", "_law_some"] ["_law_hat_here", "_law_some"] (defScope s__law_one) := ⟨rfl, rfl, rfl, by decide +kernel, rfl, by decide +kernel, by decide +kernel⟩
abbrev s__law_any : Stmt := top 37
abbrev n__law_any : List Str := ["_law_hat_here", "_law_a", "_law_b", "_law_c"]
theorem sc__law_any : FnScope ["_law_hat_here", "_law_a", "_law_b", "_law_c"] ["_law_hat_here"] (defScope s__law_any) := ⟨rfl, rfl, rfl, by decide +kernel, rfl, by decide +kernel, by decide +kernel⟩
abbrev s__law_grows : Stmt := top 38
abbrev n__law_grows : List Str := ["_law_four_here", "_law_a", "_law_b", "_law_c", "_law_d"]
theorem sc__law_grows : FnScope ["_law_four_here", "_law_a", "_law_b", "_law_c", "_law_d"] ["_law_four_here"] (defScope s__law_grows) := ⟨rfl, rfl, rfl, by decide +kernel, rfl, by decide +kernel, by decide +kernel⟩
abbrev s__law_planted : Stmt := top 39
abbrev n__law_planted : List Str := ["_law_hat_here", "_law_way", "_law_low", "_law_step", "_law_more", "_law_k", "_law_m", "_law_n", "_law_o", "_law_some", "_law_whole", "_law_least", "_law_steps", "_law_turn", "_law_part"]
theorem sc__law_planted : FnScope ["_law_hat_here", "_law_way", "_law_low", "_law_step", "_law_more", "_law_k", "_law_m", "_law_n", "_law_o", "_law_some", "_law_whole", "_law_least", "_law_steps", "_law_turn", "_law_part"] ["_law_hat_here"] (defScope s__law_planted) := ⟨rfl, rfl, rfl, by decide +kernel, rfl, by decide +kernel, by decide +kernel⟩
abbrev s__law_four : Stmt := top 40
abbrev n__law_four : List Str := ["_law_hat_here", "_law_some"]
theorem sc__law_four : FnScope ["_law_hat_here", "_law_some"] ["_law_hat_here"] (defScope s__law_four) := ⟨rfl, rfl, rfl, by decide +kernel, rfl, by decide +kernel, by decide +kernel⟩
abbrev s__law_signs : Stmt := top 41
abbrev n__law_signs : List Str := ["_law_a", "_law_b", "_law_c", "_law_d", "_law_one_here", "_law_two", "_law_three", "_law_four_here", "_law_found", "_law_power", "_law_total"]
theorem sc__law_signs : FnScope ["_law_a", "_law_b", "_law_c", "_law_d", "_law_one_here", "_law_two", "_law_three", "_law_four_here", "_law_found", "_law_power", "_law_total"] ["_law_a", "_law_b", "_law_c", "_law_d"] (defScope s__law_signs) := ⟨rfl, rfl, rfl, by decide +kernel, rfl, by decide +kernel, by decide +kernel⟩
abbrev s__law_both : Stmt := top 42
abbrev n__law_both : List Str := ["_law_a", "_law_b", "_law_c", "_law_d"]
theorem sc__law_both : FnScope ["_law_a", "_law_b", "_law_c", "_law_d"] ["_law_a", "_law_b", "_law_c", "_law_d"] (defScope s__law_both) := ⟨rfl, rfl, rfl, by decide +kernel, rfl, by decide +kernel, by decide +kernel⟩
abbrev s__law_is_pattern : Stmt := top 43
abbrev n__law_is_pattern : List Str := ["_law_signs_here", "_law_below", "_law_rest"]
theorem sc__law_is_pattern : FnScope ["_law_signs_here", "_law_below", "_law_rest"] ["_law_signs_here"] (defScope s__law_is_pattern) := ⟨rfl, rfl, rfl, by decide +kernel, rfl, by decide +kernel, by decide +kernel⟩
abbrev s__law_due : Stmt := top 44
abbrev n__law_due : List Str := ["_law_a", "_law_b", "_law_c", "_law_d", "_law_above", "_law_beneath", "_law_signs_here", "_law_others", "_law_steps"]
theorem sc__law_due : FnScope ["_law_a", "_law_b", "_law_c", "_law_d", "_law_above", "_law_beneath", "_law_signs_here", "_law_others", "_law_steps"] ["_law_a", "_law_b", "_law_c", "_law_d", "_law_above", "_law_beneath"] (defScope s__law_due) := ⟨rfl, rfl, rfl, by decide +kernel, rfl, by decide +kernel, by decide +kernel⟩
abbrev s__law_told_right : Stmt := top 45
abbrev n__law_told_right : List Str := ["_law_four_here", "_law_due_here", "_law_a", "_law_b", "_law_c", "_law_d", "_law_found"]
theorem sc__law_told_right : FnScope ["_law_four_here", "_law_due_here", "_law_a", "_law_b", "_law_c", "_law_d", "_law_found"] ["_law_four_here", "_law_due_here"] (defScope s__law_told_right) := ⟨rfl, rfl, rfl, by decide +kernel, rfl, by decide +kernel, by decide +kernel⟩
abbrev s_law : Stmt := top 46
abbrev n_law : List Str := ["_law_script", "_law_hat_here", "_law_lap", "_law_four_here", "_law_a", "_law_b", "_law_c", "_law_d", "_law_above", "_law_beneath", "_law_due_here", "_law_at", "_law_power", "_law_sign"]
theorem sc_law : FnScope ["_law_script", "_law_hat_here", "_law_lap", "_law_four_here", "_law_a", "_law_b", "_law_c", "_law_d", "_law_above", "_law_beneath", "_law_due_here", "_law_at", "_law_power", "_law_sign"] ["_law_script"] (defScope s_law) := ⟨rfl, rfl, rfl, by decide +kernel, rfl, by decide +kernel, by decide +kernel⟩
structure ClsT (K : PySem.W.Frag) (mg : Str → Option Value) (nm : Str) where
  a : Addr
  g : mg nm = some (.ref a)
  cl : Cls K a
  kp : PySem.W.keepIn K (.ref a) = true
  ha : PySem.W.findIn K (.ref a) "__class__" = some (some (.builtin "object.__class__"))
  hn : PySem.W.specialIn K (.builtin "object.__class__") "__get__" = some (some (.builtin "getset_descriptor.__get__"))
  ht : PySem.W.takesIn K (.builtin "object.__class__") = some true
  hm : PySem.W.mroIn K a (.type "object") = some true
  ml : PySem.W.makesIn K a = true
structure MetT (K : PySem.W.Frag) (nm qual : Str) (st : Stmt) (ps : List Str) where
  a : Addr
  fd : FuncData
  F : Fun K nm qual st a fd
  fn : PySem.W.isFn K (.ref a) = true
  b : Binds K fd ps []
structure MetS (K : PySem.W.Frag) (nm qual : Str) (st : Stmt) where
  a : Addr
  fd : FuncData
  F : Fun K nm qual st a fd
  fn : PySem.W.isFn K (.ref a) = true
structure FnT (K : PySem.W.Frag) (mg : Str → Option Value) (nm : Str) (st : Stmt) (ps : List Str) where
  a : Addr
  fd : FuncData
  F : Fun K nm nm st a fd
  g : mg nm = some (.ref a)
  b : Binds K fd ps []
structure Txt (K : PySem.W.Frag) (mg : Str → Option Value) where
  f_is_integer : FnT K mg "is_integer" s_is_integer ["value"]
  f_is_within : FnT K mg "is_within" s_is_within ["value", "least", "most"]
  f_need_within : FnT K mg "need_within" s_need_within ["part", "value", "least", "most"]
  f_need_numbers : FnT K mg "need_numbers" s_need_numbers ["named", "most"]
  f_need_power : FnT K mg "need_power" s_need_power ["power"]
  f_need_growing : FnT K mg "need_growing" s_need_growing ["a", "b", "c", "d"]
  f_fixed : FnT K mg "fixed" s_fixed ["value"]
  f_Paper__init__ : MetS K "__init__" "Paper.__init__" s_Paper__init__
  f_Paper__eq__ : MetT K "__eq__" "Paper.__eq__" s_Paper__eq__ ["self", "other"]
  f_Paper__bool__ : MetT K "__bool__" "Paper.__bool__" s_Paper__bool__ ["self"]
  f_Denial__init__ : MetS K "__init__" "Denial.__init__" s_Denial__init__
  f_Denial__eq__ : MetT K "__eq__" "Denial.__eq__" s_Denial__eq__ ["self", "other"]
  f_Denial__bool__ : MetT K "__bool__" "Denial.__bool__" s_Denial__bool__ ["self"]
  f_raised : FnT K mg "raised" s_raised ["number", "times"]
  f_whole_sum : FnT K mg "whole_sum" s_whole_sum ["a", "b", "c", "d", "power"]
  f_is_by_power : FnT K mg "is_by_power" s_is_by_power ["a", "b", "c", "d", "power"]
  f_ByPower__init__ : MetT K "__init__" "ByPower.__init__" s_ByPower__init__ ["self", "power"]
  f_Between__init__ : MetT K "__init__" "Between.__init__" s_Between__init__ ["self", "low"]
  f_power_of : FnT K mg "power_of" s_power_of ["a", "b", "c", "d"]
  f_sign_at : FnT K mg "sign_at" s_sign_at ["a", "b", "c", "d", "power"]
  f_is_by : FnT K mg "is_by" s_is_by ["a", "b", "c", "d", "power"]
  f_is_between : FnT K mg "is_between" s_is_between ["a", "b", "c", "d", "low"]
  f_shows_power : FnT K mg "shows_power" s_shows_power ["a", "b", "c", "d", "value"]
  f__law_hat : FnT K mg "_law_hat" s__law_hat ["_law_script"]
  f__law_lot : FnT K mg "_law_lot" s__law_lot ["_law_hat_here", "_law_many"]
  f__law_one : FnT K mg "_law_one" s__law_one ["_law_hat_here", "_law_some"]
  f__law_any : FnT K mg "_law_any" s__law_any ["_law_hat_here"]
  f__law_grows : FnT K mg "_law_grows" s__law_grows ["_law_four_here"]
  f__law_planted : FnT K mg "_law_planted" s__law_planted ["_law_hat_here"]
  f__law_four : FnT K mg "_law_four" s__law_four ["_law_hat_here"]
  f__law_signs : FnT K mg "_law_signs" s__law_signs ["_law_a", "_law_b", "_law_c", "_law_d"]
  f__law_both : FnT K mg "_law_both" s__law_both ["_law_a", "_law_b", "_law_c", "_law_d"]
  f__law_is_pattern : FnT K mg "_law_is_pattern" s__law_is_pattern ["_law_signs_here"]
  f__law_due : FnT K mg "_law_due" s__law_due ["_law_a", "_law_b", "_law_c", "_law_d", "_law_above", "_law_beneath"]
  f__law_told_right : FnT K mg "_law_told_right" s__law_told_right ["_law_four_here", "_law_due_here"]
  f_law : FnT K mg "law" s_law ["_law_script"]
  k_Paper : ClsT K mg "Paper"
  k_Denial : ClsT K mg "Denial"
  k_ByPower : ClsT K mg "ByPower"
  k_Between : ClsT K mg "Between"
  na_Paper_word : NoAttr K k_Paper.a "word"
  na_Paper_parts : NoAttr K k_Paper.a "parts"
  at_Paper__init__ : PySem.W.findIn K (.ref k_Paper.a) "__init__" = some (some (.ref f_Paper__init__.a))
  at_Paper__eq__ : PySem.W.findIn K (.ref k_Paper.a) "__eq__" = some (some (.ref f_Paper__eq__.a))
  at_Paper__bool__ : PySem.W.findIn K (.ref k_Paper.a) "__bool__" = some (some (.ref f_Paper__bool__.a))
  mk_Paper : Mk K k_Paper.a f_Paper__init__.a
  eq_Paper : Ru.EqC K k_Paper.a f_Paper__eq__.a
  mc_Paper : Value
  cr_Paper : ClX.CRead K k_Paper.a mc_Paper
  cv_Paper__init__ : ClX.CVal K k_Paper.a mc_Paper "__init__" (.ref f_Paper__init__.a) (.ref f_Paper__init__.a)
  na_Denial_word : NoAttr K k_Denial.a "word"
  na_Denial_parts : NoAttr K k_Denial.a "parts"
  at_Denial__init__ : PySem.W.findIn K (.ref k_Denial.a) "__init__" = some (some (.ref f_Denial__init__.a))
  at_Denial__eq__ : PySem.W.findIn K (.ref k_Denial.a) "__eq__" = some (some (.ref f_Denial__eq__.a))
  at_Denial__bool__ : PySem.W.findIn K (.ref k_Denial.a) "__bool__" = some (some (.ref f_Denial__bool__.a))
  mk_Denial : Mk K k_Denial.a f_Denial__init__.a
  eq_Denial : Ru.EqC K k_Denial.a f_Denial__eq__.a
  mc_Denial : Value
  cr_Denial : ClX.CRead K k_Denial.a mc_Denial
  cv_Denial__init__ : ClX.CVal K k_Denial.a mc_Denial "__init__" (.ref f_Denial__init__.a) (.ref f_Denial__init__.a)
  na_ByPower_word : NoAttr K k_ByPower.a "word"
  na_ByPower_parts : NoAttr K k_ByPower.a "parts"
  na_ByPower_power : NoAttr K k_ByPower.a "power"
  at_ByPower__init__ : PySem.W.findIn K (.ref k_ByPower.a) "__init__" = some (some (.ref f_ByPower__init__.a))
  mk_ByPower : Mk K k_ByPower.a f_ByPower__init__.a
  eq_ByPower : Ru.EqC K k_ByPower.a f_Paper__eq__.a
  is_ByPower_ByPower : PySem.W.kitOne K (.ref k_ByPower.a) (.ref k_ByPower.a) = some true
  is_ByPower_Between : PySem.W.kitOne K (.ref k_ByPower.a) (.ref k_Between.a) = some false
  bo_ByPower : Ru.BoolC K k_ByPower.a f_Paper__bool__.a
  na_Between_word : NoAttr K k_Between.a "word"
  na_Between_parts : NoAttr K k_Between.a "parts"
  na_Between_low : NoAttr K k_Between.a "low"
  at_Between__init__ : PySem.W.findIn K (.ref k_Between.a) "__init__" = some (some (.ref f_Between__init__.a))
  mk_Between : Mk K k_Between.a f_Between__init__.a
  eq_Between : Ru.EqC K k_Between.a f_Denial__eq__.a
  is_Between_Between : PySem.W.kitOne K (.ref k_Between.a) (.ref k_Between.a) = some true
  is_Between_ByPower : PySem.W.kitOne K (.ref k_Between.a) (.ref k_ByPower.a) = some false
  bo_Between : Ru.BoolC K k_Between.a f_Denial__bool__.a
  t_LEAST_POWER : Tok
  c_LEAST_POWER : mg "LEAST_POWER" = some (.int (-80) t_LEAST_POWER)
  t_MOST_POWER : Tok
  c_MOST_POWER : mg "MOST_POWER" = some (.int (80) t_MOST_POWER)
  t_MOST_NUMBER : Tok
  c_MOST_NUMBER : mg "MOST_NUMBER" = some (.int (1000000) t_MOST_NUMBER)
  t_MOST_SMALL : Tok
  c_MOST_SMALL : mg "MOST_SMALL" = some (.int (99) t_MOST_SMALL)
  n_abs : mg "abs" = none
  n_bool : mg "bool" = none
  n_int : mg "int" = none
  n_isinstance : mg "isinstance" = none
  n_len : mg "len" = none
  n_list : mg "list" = none
  n_range : mg "range" = none
  n_repr : mg "repr" = none
  n_sorted : mg "sorted" = none
  n_tuple : mg "tuple" = none
  n_type : mg "type" = none
section
variable {P : Program} {w : World} {K : PySem.W.Frag} {mg : Str → Option Value} {base : Heap}
/-! ### the program's defs -/
def spIsInt : Sp := fun vs H Q _ => ∃ i, vs = [.int i] ∧ Q (.bl true) H
theorem ok_is_integer (T : Txt K mg) : FnOk P w K mg base CX0 1 T.f_is_integer.a T.f_is_integer.fd ["value"] spIsInt := by
  refine T.f_is_integer.F.ok sc_is_integer (fun vs H Q E h => ?_) (fun cdv A outer s H vs Q E hr h => ?_)
  · obtain ⟨i, rfl, _⟩ := h
    rfl
  · obtain ⟨i, rfl, q⟩ := h
    refine ⟨_, (pss_one (ps_ret (pe_and (pe_callB call_isi (by rfl) T.n_isinstance (by decide +kernel) (pa_cons (pv 0) (pa_cons (pe_bltn (v := .ty "int") (by rfl) T.n_int (by decide +kernel) rfl) pa_nil))) (pe_one (pe_not (pe_callB call_isi (by rfl) T.n_isinstance (by decide +kernel) (pa_cons (pv 0) (pa_cons (pe_bltn (v := .ty "bool") (by rfl) T.n_bool (by decide +kernel) rfl) pa_nil)))))))), ?_⟩
    refine ⟨_, rfl, _, _, _, _, true, rfl, .ty _, .base (.int _), kit_ty (by decide +kernel), true, rfl, iteT ?_⟩
    exact ⟨_, rfl, _, _, _, _, false, rfl, .ty _, .base (.int _), kit_ty (by decide +kernel), false, rfl, q⟩
def spWithin : Sp := fun vs H Q _ => ∃ i l m : Int, vs = [.int i, .int l, .int m] ∧ Q (.bl (decide (l ≤ i ∧ i ≤ m))) H
theorem ok_is_within (T : Txt K mg) : FnOk P w K mg base CX0 2 T.f_is_within.a T.f_is_within.fd ["value", "least", "most"] spWithin := by
  have G_is_integer := ok_is_integer (P := P) (w := w) (base := base) T
  refine T.f_is_within.F.ok sc_is_within (fun vs H Q E h => ?_) (fun cdv A outer s H vs Q E hr h => ?_)
  · obtain ⟨i, l, m, rfl, _⟩ := h
    rfl
  · obtain ⟨i, l, m, rfl, q⟩ := h
    refine ⟨_, (pss_cons (ps_if (pt_not (pt_val (pe_call G_is_integer (hr.mono (by decide)) (by rfl) T.f_is_integer.g T.f_is_integer.F.kp T.f_is_integer.b .nil pass0 (pa_cons (pv 0) pa_nil)))) (pss_one (ps_ret pe_bl)) pss_nil) (pss_one (ps_ret (pe_and (pe_or (pe_cmpR op_isN (pv 1) pe_non (nomark _)) (pe_one (pe_cmpR op_ge (pv 0) (pv 1) (nomark _)))) (pe_one (pe_or (pe_cmpR op_isN (pv 2) pe_non (nomark _)) (pe_one (pe_cmpR op_le (pv 0) (pv 2) (nomark _))))))))), ?_⟩
    refine ⟨_, rfl, i, rfl, true, rfl, iteF ?_⟩
    refine ⟨_, rfl, rfl, false, rfl, iteF ⟨_, rfl, _, rfl, _, _, rfl, rfl, _, rfl, ?_⟩⟩
    refine ite2 (fun e => ?_) (fun e => ?_)
    · refine ⟨_, rfl, rfl, false, rfl, iteF ⟨_, rfl, _, rfl, _, _, rfl, rfl, ?_⟩⟩
      have e1 : l ≤ i := of_decide_eq_true e
      have e2 : decide (l ≤ i ∧ i ≤ m) = decide (i ≤ m) := by
        by_cases h : i ≤ m
        · rw [decide_eq_true h, decide_eq_true ⟨e1, h⟩]
        · rw [decide_eq_false h, decide_eq_false (fun z => h z.2)]
      rw [e2] at q
      exact q
    · have e2 : decide (l ≤ i ∧ i ≤ m) = false := decide_eq_false (fun z => e (decide_eq_true z.1))
      rw [e2] at q
      exact q
def spNeedWithin : Sp := fun vs H Q _ => ∃ (p : Str) (i l m : Int), vs = [.str p, .int i, .int l, .int m] ∧ l ≤ i ∧ i ≤ m ∧ Q .non H
theorem ok_need_within (T : Txt K mg) : FnOk P w K mg base CX0 3 T.f_need_within.a T.f_need_within.fd ["part", "value", "least", "most"] spNeedWithin := by
  have G_is_within := ok_is_within (P := P) (w := w) (base := base) T
  refine T.f_need_within.F.ok sc_need_within (fun vs H Q E h => ?_) (fun cdv A outer s H vs Q E hr h => ?_)
  · obtain ⟨p, i, l, m, rfl, _⟩ := h
    rfl
  · obtain ⟨p, i, l, m, rfl, h1, h2, q⟩ := h
    refine ⟨_, (pss_one (ps_if (pt_not (pt_val (pe_call G_is_within (hr.mono (by decide)) (by rfl) T.f_is_within.g T.f_is_within.F.kp T.f_is_within.b .nil pass0 (pa_cons (pv 1) (pa_cons (pv 2) (pa_cons (pv 3) pa_nil)))))) (pss_one ps_never) pss_nil)), ?_⟩
    exact ⟨_, rfl, _, rfl, _, rfl, i, l, m, rfl, true, decide_eq_true (⟨h1, h2⟩ : l ≤ i ∧ i ≤ m) ▸ rfl, iteF q⟩
/-- pairs of a text and an integer from 1 to m -/
def Named (K : PySem.W.Frag) (H : Hp) (m : Int) (v : V) : Prop := ∃ (t : Addr) (p : Str) (n : Int), v = .ref t ∧ SqT K H t [.str p, .int n] ∧ 1 ≤ n ∧ n ≤ m
def spNeedNumbers (K : PySem.W.Frag) : Sp := fun vs H Q _ => ∃ (l : Addr) (xs : List V) (m : Int), vs = [.ref l, .int m] ∧ SqL K H l xs ∧ (∀ x ∈ xs, Named K H m x) ∧ Q .non H
theorem ok_need_numbers (T : Txt K mg) : FnOk P w K mg base CX0 4 T.f_need_numbers.a T.f_need_numbers.fd ["named", "most"] (spNeedNumbers K) := by
  have G_need_within := ok_need_within (P := P) (w := w) (base := base) T
  refine T.f_need_numbers.F.ok sc_need_numbers (fun vs H Q E h => ?_) (fun cdv A outer s H vs Q E hr h => ?_)
  · obtain ⟨l, xs, m, rfl, _⟩ := h
    rfl
  · obtain ⟨l, xs, m, rfl, hL, hx, q⟩ := h
    refine ⟨_, (pss_one (ps_for PassesOwn.never rfl (pi_list (pv 0)) (pg_tup rfl (pgs_cons (pg_name (i := 2) sc_need_numbers.nd rfl (Or.inl rfl)) (pgs_cons (pg_name (i := 3) sc_need_numbers.nd rfl (Or.inl rfl)) pgs_nil))) (pss_one (ps_expr (pe_call G_need_within (hr.mono (by decide)) (by rfl) T.f_need_within.g T.f_need_within.F.kp T.f_need_within.b .nil pass0 (pa_cons (pv 2) (pa_cons (pv 3) (pa_cons pe_int (pa_cons (pv 1) pa_nil))))))))), ?_⟩
    refine ⟨_, rfl, l, rfl, ⟨_, hL⟩, for_list (K := K) (a := l) (xs := xs) (fun i σ H' => H' = H ∧ ∃ x y, σ = [some (.ref l), some (.int m), x, y]) ⟨rfl, none, none, rfl⟩ (fun i σ H' _ h => h.1 ▸ hL) ?_ ?_⟩
    · rintro i x σ H' hi ⟨rfl, y, z, rfl⟩
      obtain ⟨t, p, n, rfl, hT, h1, h2⟩ := hx x (List.mem_of_getElem? hi)
      refine ⟨t, _, rfl, hT, rfl, _, _, rfl, _, _, rfl, rfl, ?_⟩
      exact ⟨_, rfl, _, rfl, _, rfl, p, n, 1, m, rfl, h1, h2, rfl, _, _, rfl⟩
    · rintro σ H' ⟨rfl, _⟩
      exact q
def spNeedPower : Sp := fun vs H Q _ => ∃ p : Int, vs = [.int p] ∧ -80 ≤ p ∧ p ≤ 80 ∧ Q .non H
theorem ok_need_power (T : Txt K mg) : FnOk P w K mg base CX0 4 T.f_need_power.a T.f_need_power.fd ["power"] spNeedPower := by
  have G_need_within := ok_need_within (P := P) (w := w) (base := base) T
  refine T.f_need_power.F.ok sc_need_power (fun vs H Q E h => ?_) (fun cdv A outer s H vs Q E hr h => ?_)
  · obtain ⟨p, rfl, _⟩ := h
    rfl
  · obtain ⟨p, rfl, h1, h2, q⟩ := h
    refine ⟨_, (pss_one (ps_expr (pe_call G_need_within (hr.mono (by decide)) (by rfl) T.f_need_within.g T.f_need_within.F.kp T.f_need_within.b .nil pass0 (pa_cons pe_str (pa_cons (pv 0) (pa_cons (pe_glob (v := .int (-80)) rfl T.c_LEAST_POWER ⟨_, rfl⟩) (pa_cons (pe_glob (v := .int (80)) rfl T.c_MOST_POWER ⟨_, rfl⟩) pa_nil))))))), ?_⟩
    exact ⟨_, rfl, _, p, -80, 80, rfl, h1, h2, q⟩
/-! ### powers -/
theorem pow_lt {x : Int} {b e : Nat} (h : x.natAbs < 2 ^ b) : (x ^ e).natAbs < 2 ^ (b * e + 1) := by
  have h1 : (x ^ e).natAbs = x.natAbs ^ e := Int.natAbs_pow x e
  rw [h1]
  have h2 : x.natAbs ^ e ≤ (2 ^ b) ^ e := Nat.pow_le_pow_left (Nat.le_of_lt h) e
  rw [← Nat.pow_mul] at h2
  have h3 : 2 ^ (b * e) < 2 ^ (b * e + 1) := Nat.pow_lt_pow_right (by decide) (by omega)
  omega
def spRaised : Sp := fun vs H Q _ => ∃ (x : Int) (n : Nat), vs = [.int x, .int (n : Int)] ∧ x.natAbs < 2 ^ 64 ∧ n ≤ 100 ∧ Q (.int (x ^ n)) H
theorem ok_raised (T : Txt K mg) : FnOk P w K mg base CX0 1 T.f_raised.a T.f_raised.fd ["number", "times"] spRaised := by
  refine T.f_raised.F.ok sc_raised (fun vs H Q E h => ?_) (fun cdv A outer s H vs Q E hr h => ?_)
  · obtain ⟨x, n, rfl, _⟩ := h
    rfl
  · obtain ⟨x, n, rfl, hx, hn, q⟩ := h
    refine ⟨_, (pss_cons (ps_set (i := 2) sc_raised.nd rfl (Or.inl rfl) pe_int) (pss_cons (ps_while PassesOwn.never (pt_cmpR op_gt (pv 1) pe_int (nomark _)) (pss_cons (ps_if (pt_truth (pe_op op_odd (pv 1) pe_int) (by intro _; rfl)) (pss_one (ps_set (i := 2) sc_raised.nd rfl (Or.inl rfl) (pe_op op_mulW (pv 2) (pv 0)))) pss_nil) (pss_cons (ps_set (i := 0) sc_raised.nd rfl (Or.inl rfl) (pe_op op_mulW (pv 0) (pv 0))) (pss_one (ps_set (i := 1) sc_raised.nd rfl (Or.inl rfl) (pe_op op_halfN (pv 1) pe_int)))))) (pss_one (ps_ret (pv 2))))), ?_⟩
    -- j turns are done: number = x ^ (2 ^ j), times = n / 2 ^ j, found = x ^ (n % 2 ^ j)
    refine while_by (fun σ H' => H' = H ∧ ∃ (t u : Nat) (f : Nat), σ = [some (.int (x ^ u)), some (.int (t : Int)), some (.int (x ^ f))] ∧ f + u * t = n ∧ f ≤ n ∧ (u ≤ n ∨ u = 1 ∨ (t = 0 ∧ u ≤ 2 * n)))
      (fun σ _ => match σ with
        | [_, some (.int t), _] => t.toNat
        | _ => 0) ⟨rfl, n, 1, 0, by rw [Int.pow_one, Int.pow_zero]; rfl, by omega, by omega, by omega⟩ ?_ ?_
    · rintro σ H' ⟨rfl, t, u, f, rfl, e1, e2, e3⟩
      refine ⟨_, rfl, _, _, rfl, rfl, _, rfl, ite2 (fun e => ?_) (fun e => ?_)⟩
      · have ht : 0 < t := by
          have := of_decide_eq_true e
          omega
        have hu : u ≤ 100 := by
          have : u ≤ u * t := Nat.le_mul_of_pos_right u ht
          omega
        have bu : (x ^ u).natAbs < 2 ^ (64 * 100 + 1) := Nat.lt_of_lt_of_le (pow_lt (e := u) hx) (Nat.pow_le_pow_right (by decide) (by omega))
        have bf : (x ^ f).natAbs < 2 ^ (64 * 100 + 1) := Nat.lt_of_lt_of_le (pow_lt (e := f) hx) (Nat.pow_le_pow_right (by decide) (by omega))
        have sq : x ^ u * x ^ u = x ^ (2 * u) := by
          rw [← Int.pow_add, Nat.two_mul]
        have hd : t = t % 2 + 2 * (t / 2) := by omega
        have hm : u * t = u * (t % 2) + 2 * u * (t / 2) := by
          have z : u * t = u * (t % 2 + 2 * (t / 2)) := congrArg (fun z => u * z) hd
          rw [z, Nat.mul_add, ← Nat.mul_assoc, Nat.mul_comm u 2]
        have hstep : ∀ f' : Nat, f' = f + u * (t % 2) → f' + 2 * u * (t / 2) = n ∧ f' ≤ n ∧ (2 * u ≤ n ∨ 2 * u = 1 ∨ (t / 2 = 0 ∧ 2 * u ≤ 2 * n)) := by
          intro f' ef
          refine ⟨by omega, ?_, ?_⟩
          · have := Nat.zero_le (2 * u * (t / 2))
            omega
          · by_cases h0 : t / 2 = 0
            · refine .inr (.inr ⟨h0, ?_⟩)
              have : u ≤ u * t := Nat.le_mul_of_pos_right u ht
              omega
            · refine .inl ?_
              have : 2 * u ≤ 2 * u * (t / 2) := Nat.le_mul_of_pos_right (2 * u) (by omega)
              omega
        refine ⟨_, rfl, t, rfl, rfl, _, rfl, ite2 (fun e4 => ?_) (fun e4 => ?_)⟩
        · have e5 : t % 2 = 1 := by
            have e6 : (((t % 2 : Nat) : Int) != 0) = true := e4
            have e7 : ((t % 2 : Nat) : Int) ≠ 0 := by simpa using e6
            omega
          refine ⟨_, rfl, _, rfl, _, _, rfl, rfl, wide_mul bf bu (by decide) (by decide) (by decide), ?_⟩
          refine ⟨_, rfl, _, rfl, _, _, rfl, rfl, wide_mul bu bu (by decide) (by decide) (by decide), ?_⟩
          refine ⟨_, rfl, t, rfl, rfl, ⟨rfl, t / 2, 2 * u, f + u, ?_, ?_⟩, ?_⟩
          · show [some (V.int (x ^ u * x ^ u)), some (V.int ((t / 2 : Nat) : Int)), some (V.int (x ^ f * x ^ u))] = [some (V.int (x ^ (2 * u))), some (V.int ((t / 2 : Nat) : Int)), some (V.int (x ^ (f + u)))]
            rw [sq, ← Int.pow_add]
          · exact hstep (f + u) (by rw [e5, Nat.mul_one])
          · show (((t / 2 : Nat) : Int)).toNat < ((t : Nat) : Int).toNat
            omega
        · have e5 : t % 2 = 0 := by
            have e6 : ¬ (((t % 2 : Nat) : Int) != 0) = true := e4
            have e7 : ((t % 2 : Nat) : Int) = 0 := by simpa using e6
            omega
          refine ⟨_, rfl, _, rfl, _, _, rfl, rfl, wide_mul bu bu (by decide) (by decide) (by decide), ?_⟩
          refine ⟨_, rfl, t, rfl, rfl, ⟨rfl, t / 2, 2 * u, f, ?_, ?_⟩, ?_⟩
          · show [some (V.int (x ^ u * x ^ u)), some (V.int ((t / 2 : Nat) : Int)), some (V.int (x ^ f))] = [some (V.int (x ^ (2 * u))), some (V.int ((t / 2 : Nat) : Int)), some (V.int (x ^ f))]
            rw [sq]
          · exact hstep f (by rw [e5, Nat.mul_zero, Nat.add_zero])
          · show (((t / 2 : Nat) : Int)).toNat < ((t : Nat) : Int).toNat
            omega
      · have ht : t = 0 := by
          by_cases h : t = 0
          · exact h
          · exact absurd (decide_eq_true (show (0 : Int) < (t : Int) by omega)) e
        subst ht
        have ef : f = n := by omega
        subst ef
        exact ⟨_, rfl, q⟩
    · intro σ H Q Q' hq h
      obtain ⟨v, e, a, b, c, d, k, z, r⟩ := h
      exact ⟨v, e, a, b, c, d, k, z, hq _ _ r⟩
/-- the sum of four integers at a power from 0 on -/
def sum0 (a b c d : Int) (p : Nat) : Int := a ^ p + d ^ p - b ^ p - c ^ p
/-- .. at any power, in whole numbers -/
def wsum (a b c d p : Int) : Int := if p < 0 then sum0 (b * c * d) (a * c * d) (a * b * d) (a * b * c) (-p).toNat else sum0 a b c d p.toNat
def Sm (x : Int) : Prop := x.natAbs < 2 ^ 64
def spSum0 : Sp := fun vs H Q _ => ∃ (a b c d : Int) (p : Nat), vs = [.int a, .int b, .int c, .int d, .int (p : Int)] ∧ (Sm a ∧ Sm b ∧ Sm c ∧ Sm d) ∧ p ≤ 100 ∧ Q (.int (sum0 a b c d p)) H
theorem ok_sum0 (T : Txt K mg) : FnOk P w K mg base CX0 2 T.f_whole_sum.a T.f_whole_sum.fd ["a", "b", "c", "d", "power"] spSum0 := by
  have G_raised := ok_raised (P := P) (w := w) (base := base) T
  refine T.f_whole_sum.F.ok sc_whole_sum (fun vs H Q E h => ?_) (fun cdv A outer s H vs Q E hr h => ?_)
  · obtain ⟨a, b, c, d, p, rfl, _⟩ := h
    rfl
  · obtain ⟨a, b, c, d, p, rfl, ⟨ha, hb, hc, hd⟩, hp, q⟩ := h
    refine ⟨_, (pss_cons (ps_if (pt_cmpR op_lt (pv 4) pe_int (nomark _)) (pss_one ps_never) pss_nil) (pss_one (ps_ret (pe_op op_sub (pe_op op_sub (pe_op op_add (pe_call G_raised (hr.mono (by decide)) (by rfl) T.f_raised.g T.f_raised.F.kp T.f_raised.b .nil pass0 (pa_cons (pv 0) (pa_cons (pv 4) pa_nil))) (pe_call G_raised (hr.mono (by decide)) (by rfl) T.f_raised.g T.f_raised.F.kp T.f_raised.b .nil pass0 (pa_cons (pv 3) (pa_cons (pv 4) pa_nil)))) (pe_call G_raised (hr.mono (by decide)) (by rfl) T.f_raised.g T.f_raised.F.kp T.f_raised.b .nil pass0 (pa_cons (pv 1) (pa_cons (pv 4) pa_nil)))) (pe_call G_raised (hr.mono (by decide)) (by rfl) T.f_raised.g T.f_raised.F.kp T.f_raised.b .nil pass0 (pa_cons (pv 2) (pa_cons (pv 4) pa_nil))))))), ?_⟩
    refine ⟨_, rfl, _, _, rfl, rfl, _, rfl, ?_⟩
    rw [decide_eq_false (show ¬ ((p : Int) < 0) by omega)]
    refine iteF ?_
    exact ⟨_, rfl, _, rfl, a, p, rfl, ha, hp, _, rfl, _, rfl, d, p, rfl, hd, hp, _, _, rfl, rfl, _, rfl, _, rfl, b, p, rfl, hb, hp, _, _, rfl, rfl, _, rfl, _, rfl, c, p, rfl, hc, hp, _, _, rfl, rfl, q⟩
/-- four integers from 1 to a million, a power from -80 to 80 -/
structure Fine (a b c d p : Int) : Prop where
  a : 1 ≤ a ∧ a ≤ 1000000
  b : 1 ≤ b ∧ b ≤ 1000000
  c : 1 ≤ c ∧ c ≤ 1000000
  d : 1 ≤ d ∧ d ≤ 1000000
  p : -80 ≤ p ∧ p ≤ 80
theorem two_fine {a b : Int} (ha : 1 ≤ a ∧ a ≤ 1000000) (hb : 1 ≤ b ∧ b ≤ 1000000) : 1 ≤ a * b ∧ a * b ≤ 1000000000000 := by
  constructor
  · have : 0 < a * b := Int.mul_pos (by omega) (by omega)
    omega
  · have h1 : a * b ≤ 1000000 * b := Int.mul_le_mul_of_nonneg_right ha.2 (by omega)
    omega
theorem three_fine {a b c : Int} (ha : 1 ≤ a ∧ a ≤ 1000000) (hb : 1 ≤ b ∧ b ≤ 1000000) (hc : 1 ≤ c ∧ c ≤ 1000000) : 1 ≤ a * b * c ∧ a * b * c ≤ 1000000000000000000 := by
  have h := two_fine ha hb
  constructor
  · have : 0 < a * b * c := Int.mul_pos (by omega) (by omega)
    omega
  · have h1 : a * b * c ≤ 1000000000000 * c := Int.mul_le_mul_of_nonneg_right h.2 (by omega)
    omega
theorem sm_of {x : Int} (h : 1 ≤ x ∧ x ≤ 1000000000000000000) : Sm x := by
  unfold Sm
  omega
theorem lim {x : Int} (h : 1 ≤ x ∧ x ≤ 1000000000000) : -(2 ^ 64) < x ∧ x < 2 ^ 64 := by omega
def spSum : Sp := fun vs H Q _ => ∃ a b c d p : Int, vs = [.int a, .int b, .int c, .int d, .int p] ∧ Fine a b c d p ∧ Q (.int (wsum a b c d p)) H
theorem ok_whole_sum (T : Txt K mg) : FnOk P w K mg base CX0 3 T.f_whole_sum.a T.f_whole_sum.fd ["a", "b", "c", "d", "power"] spSum := by
  have G_raised := ok_raised (P := P) (w := w) (base := base) T
  have G_sum0 := ok_sum0 (P := P) (w := w) (base := base) T
  refine T.f_whole_sum.F.ok sc_whole_sum (fun vs H Q E h => ?_) (fun cdv A outer s H vs Q E hr h => ?_)
  · obtain ⟨a, b, c, d, p, rfl, _⟩ := h
    rfl
  · obtain ⟨a, b, c, d, p, rfl, F, q⟩ := h
    refine ⟨_, (pss_cons (ps_if (pt_cmpR op_lt (pv 4) pe_int (nomark _)) (pss_one (ps_ret (pe_call G_sum0 (hr.mono (by decide)) (by rfl) T.f_whole_sum.g T.f_whole_sum.F.kp T.f_whole_sum.b .nil pass0 (pa_cons (pe_op op_mul (pe_op op_mul (pv 1) (pv 2)) (pv 3)) (pa_cons (pe_op op_mul (pe_op op_mul (pv 0) (pv 2)) (pv 3)) (pa_cons (pe_op op_mul (pe_op op_mul (pv 0) (pv 1)) (pv 3)) (pa_cons (pe_op op_mul (pe_op op_mul (pv 0) (pv 1)) (pv 2)) (pa_cons (pe_un un_neg (pv 4)) pa_nil)))))))) pss_nil) (pss_one (ps_ret (pe_op op_sub (pe_op op_sub (pe_op op_add (pe_call G_raised (hr.mono (by decide)) (by rfl) T.f_raised.g T.f_raised.F.kp T.f_raised.b .nil pass0 (pa_cons (pv 0) (pa_cons (pv 4) pa_nil))) (pe_call G_raised (hr.mono (by decide)) (by rfl) T.f_raised.g T.f_raised.F.kp T.f_raised.b .nil pass0 (pa_cons (pv 3) (pa_cons (pv 4) pa_nil)))) (pe_call G_raised (hr.mono (by decide)) (by rfl) T.f_raised.g T.f_raised.F.kp T.f_raised.b .nil pass0 (pa_cons (pv 1) (pa_cons (pv 4) pa_nil)))) (pe_call G_raised (hr.mono (by decide)) (by rfl) T.f_raised.g T.f_raised.F.kp T.f_raised.b .nil pass0 (pa_cons (pv 2) (pa_cons (pv 4) pa_nil))))))), ?_⟩
    refine ⟨_, rfl, _, _, rfl, rfl, _, rfl, ite2 (fun e => ?_) (fun e => ?_)⟩
    · have hp : p < 0 := of_decide_eq_true e
      have m1 := fun {x y : Int} (hx : 1 ≤ x ∧ x ≤ 1000000) => (.inl (lim ⟨hx.1, by omega⟩) : CMul x y)
      have m2 := fun {x y z : Int} (hx : 1 ≤ x ∧ x ≤ 1000000) (hy : 1 ≤ y ∧ y ≤ 1000000) => (.inl (lim (two_fine hx hy)) : CMul (x * y) z)
      refine ⟨_, rfl, _, rfl, _, _, rfl, rfl, m1 F.b, _, rfl, _, _, rfl, rfl, m2 F.b F.c, ?_⟩
      refine ⟨_, rfl, _, rfl, _, _, rfl, rfl, m1 F.a, _, rfl, _, _, rfl, rfl, m2 F.a F.c, ?_⟩
      refine ⟨_, rfl, _, rfl, _, _, rfl, rfl, m1 F.a, _, rfl, _, _, rfl, rfl, m2 F.a F.b, ?_⟩
      refine ⟨_, rfl, _, rfl, _, _, rfl, rfl, m1 F.a, _, rfl, _, _, rfl, rfl, m2 F.a F.b, ?_⟩
      have hq := F.p
      refine ⟨_, rfl, p, rfl, _, _, _, _, (-p).toNat, ?_, ⟨sm_of (three_fine F.b F.c F.d), sm_of (three_fine F.a F.c F.d), sm_of (three_fine F.a F.b F.d), sm_of (three_fine F.a F.b F.c)⟩, by omega, ?_⟩
      · have : (((-p).toNat : Nat) : Int) = -p := by omega
        rw [this]
        rfl
      · unfold wsum at q
        rw [if_pos hp] at q
        exact q
    · have hp : ¬ p < 0 := fun h => e (decide_eq_true h)
      have hq := F.p
      have ep : V.int p = .int ((p.toNat : Nat) : Int) := by
        congr 1
        omega
      have sm := fun {x : Int} (hx : 1 ≤ x ∧ x ≤ 1000000) => (sm_of ⟨hx.1, by omega⟩ : Sm x)
      have q2 : Q (.int (sum0 a b c d p.toNat)) H := by
        unfold wsum at q
        rw [if_neg hp] at q
        exact q
      refine ⟨_, rfl, _, rfl, a, p.toNat, by rw [← ep]; rfl, sm F.a, by omega, ?_⟩
      refine ⟨_, rfl, _, rfl, d, p.toNat, by rw [← ep]; rfl, sm F.d, by omega, _, _, rfl, rfl, ?_⟩
      refine ⟨_, rfl, _, rfl, b, p.toNat, by rw [← ep]; rfl, sm F.b, by omega, _, _, rfl, rfl, ?_⟩
      exact ⟨_, rfl, _, rfl, c, p.toNat, by rw [← ep]; rfl, sm F.c, by omega, _, _, rfl, rfl, q2⟩
/-- whether they are a proportion by the power -/
def isby (a b c d p : Int) : Bool := if p = 0 then decide (a * d = b * c) else decide (wsum a b c d p = 0)
def spIsByPower : Sp := fun vs H Q _ => ∃ a b c d p : Int, vs = [.int a, .int b, .int c, .int d, .int p] ∧ Fine a b c d p ∧ Q (.bl (isby a b c d p)) H
theorem dec_int (x y : Int) : decide (V.int x = V.int y) = decide (x = y) := by
  by_cases h : x = y
  · rw [decide_eq_true h, decide_eq_true (congrArg V.int h)]
  · rw [decide_eq_false h, decide_eq_false (fun z => h (V.int.inj z))]
theorem ok_is_by_power (T : Txt K mg) : FnOk P w K mg base CX0 4 T.f_is_by_power.a T.f_is_by_power.fd ["a", "b", "c", "d", "power"] spIsByPower := by
  have G_whole_sum := ok_whole_sum (P := P) (w := w) (base := base) T
  refine T.f_is_by_power.F.ok sc_is_by_power (fun vs H Q E h => ?_) (fun cdv A outer s H vs Q E hr h => ?_)
  · obtain ⟨a, b, c, d, p, rfl, _⟩ := h
    rfl
  · obtain ⟨a, b, c, d, p, rfl, F, q⟩ := h
    refine ⟨_, (pss_cons (ps_if (pt_cmpR op_eq (pv 4) pe_int (nomark _)) (pss_one (ps_ret (pe_cmpR op_eq (pe_op op_mul (pv 0) (pv 3)) (pe_op op_mul (pv 1) (pv 2)) (nomark _)))) pss_nil) (pss_one (ps_ret (pe_cmpR op_eq (pe_call G_whole_sum (hr.mono (by decide)) (by rfl) T.f_whole_sum.g T.f_whole_sum.F.kp T.f_whole_sum.b .nil pass0 (pa_cons (pv 0) (pa_cons (pv 1) (pa_cons (pv 2) (pa_cons (pv 3) (pa_cons (pv 4) pa_nil)))))) pe_int (nomark _))))), ?_⟩
    refine ⟨_, rfl, rfl, _, rfl, ite2 (fun e => ?_) (fun e => ?_)⟩
    · have hp : p = 0 := V.int.inj (of_decide_eq_true e)
      unfold isby at q
      rw [if_pos hp, ← dec_int] at q
      have l1 := fun {x y : Int} (hx : 1 ≤ x ∧ x ≤ 1000000) => (.inl (lim ⟨hx.1, by omega⟩) : CMul x y)
      exact ⟨_, rfl, _, rfl, _, _, rfl, rfl, l1 F.a, _, rfl, _, rfl, _, _, rfl, rfl, l1 F.b, rfl, q⟩
    · have hp : ¬ p = 0 := fun h => e (decide_eq_true (congrArg V.int h))
      unfold isby at q
      rw [if_neg hp, ← dec_int] at q
      exact ⟨_, rfl, _, rfl, _, rfl, _, rfl, _, rfl, a, b, c, d, p, rfl, F, rfl, q⟩
end
end Q

namespace Q
open PySem PySem.Spec PyProof.Rows L2
section
variable {P : Program} {w : World} {K : PySem.W.Frag} {mg : Str → Option Value} {base : Heap}
/-! ### heaps -/
theorem same_upd {H : Hp} {p : Addr} {o : HO} (h : H p = none) : Same H (upd H p o) := fun b x e => by
  rw [upd_ne (ne_of_none e h)]
  exact e
theorem Same.seqT {K : PySem.W.Frag} {H H' : Hp} {a : Addr} {xs : List V} (e : Same H H') (h : SqT K H a xs) : SqT K H' a xs := by
  rcases h with (h | ⟨o, h⟩) | h
  · exact .inl (.inl (e _ _ h))
  · exact .inl (.inr ⟨o, e _ _ h⟩)
  · exact .inr h
theorem sz2 {a b : V} : [a, b].length ≤ sizeLine := by show 2 ≤ sizeLine; decide
theorem sz3 {a b c : V} : [a, b, c].length ≤ sizeLine := by show 3 ≤ sizeLine; decide
theorem sz4 {a b c d : V} : [a, b, c, d].length ≤ sizeLine := by show 4 ≤ sizeLine; decide
theorem sz5 {a b c d e : V} : [a, b, c, d, e].length ≤ sizeLine := by show 5 ≤ sizeLine; decide
theorem q1 : (0 : Int) < 2147483549 := by decide
theorem q2 : (0 : Int) < 2147483587 := by decide
theorem q3 : (0 : Int) < 2147483629 := by decide
/-! ### the program's answers -/
theorem named4 {K : PySem.W.Frag} {H : Hp} {t1 t2 t3 t4 l : Addr} {p1 p2 p3 p4 : Str} {a b c d m : Int} (h1 : H t1 = none) (h2 : upd H t1 (.tup [.str p1, .int a]) t2 = none)
    (h3 : upd (upd H t1 (.tup [.str p1, .int a])) t2 (.tup [.str p2, .int b]) t3 = none) (h4 : upd (upd (upd H t1 (.tup [.str p1, .int a])) t2 (.tup [.str p2, .int b])) t3 (.tup [.str p3, .int c]) t4 = none)
    (h5 : upd (upd (upd (upd H t1 (.tup [.str p1, .int a])) t2 (.tup [.str p2, .int b])) t3 (.tup [.str p3, .int c])) t4 (.tup [.str p4, .int d]) l = none)
    (ha : 1 ≤ a ∧ a ≤ m) (hb : 1 ≤ b ∧ b ≤ m) (hc : 1 ≤ c ∧ c ≤ m) (hd : 1 ≤ d ∧ d ≤ m) {o : HO} :
    Same H (upd (upd (upd (upd (upd H t1 (.tup [.str p1, .int a])) t2 (.tup [.str p2, .int b])) t3 (.tup [.str p3, .int c])) t4 (.tup [.str p4, .int d])) l o) ∧
    ∀ x ∈ [V.ref t1, .ref t2, .ref t3, .ref t4], Named K (upd (upd (upd (upd (upd H t1 (.tup [.str p1, .int a])) t2 (.tup [.str p2, .int b])) t3 (.tup [.str p3, .int c])) t4 (.tup [.str p4, .int d])) l o) m x := by
  have s1 := same_upd (o := .tup [.str p1, .int a]) h1
  have s2 := same_upd (o := .tup [.str p2, .int b]) h2
  have s3 := same_upd (o := .tup [.str p3, .int c]) h3
  have s4 := same_upd (o := .tup [.str p4, .int d]) h4
  have s5 := same_upd (o := o) h5
  refine ⟨s1.trans (s2.trans (s3.trans (s4.trans s5))), fun x hx => ?_⟩
  simp only [List.mem_cons, List.not_mem_nil, or_false] at hx
  rcases hx with rfl | rfl | rfl | rfl
  · exact ⟨_, _, _, rfl, .of (s5 _ _ (s4 _ _ (s3 _ _ (s2 _ _ upd_same)))), ha⟩
  · exact ⟨_, _, _, rfl, .of (s5 _ _ (s4 _ _ (s3 _ _ upd_same))), hb⟩
  · exact ⟨_, _, _, rfl, .of (s5 _ _ (s4 _ _ upd_same)), hc⟩
  · exact ⟨_, _, _, rfl, .of (s5 _ _ upd_same), hd⟩
def spIsBy : Sp := fun vs H Q _ => ∃ a b c d p : Int, vs = [.int a, .int b, .int c, .int d, .int p] ∧ Fine a b c d p ∧ ∀ H', Same H H' → Q (.bl (isby a b c d p)) H'
theorem ok_is_by (T : Txt K mg) : FnOk P w K mg base CX0 5 T.f_is_by.a T.f_is_by.fd ["a", "b", "c", "d", "power"] spIsBy := by
  have G_need_numbers := ok_need_numbers (P := P) (w := w) (base := base) T
  have G_need_power := ok_need_power (P := P) (w := w) (base := base) T
  have G_is_by_power := ok_is_by_power (P := P) (w := w) (base := base) T
  refine T.f_is_by.F.ok sc_is_by (fun vs H Q E h => ?_) (fun cdv A outer s H vs Q E hr h => ?_)
  · obtain ⟨a, b, c, d, p, rfl, _⟩ := h
    rfl
  · obtain ⟨a, b, c, d, p, rfl, F, q⟩ := h
    refine ⟨_, (pss_cons (ps_expr (pe_call G_need_numbers (hr.mono (by decide)) (by rfl) T.f_need_numbers.g T.f_need_numbers.F.kp T.f_need_numbers.b .nil pass0 (pa_cons (pe_lst (pa_cons (pe_tup (pa_cons pe_str (pa_cons (pv 0) pa_nil))) (pa_cons (pe_tup (pa_cons pe_str (pa_cons (pv 1) pa_nil))) (pa_cons (pe_tup (pa_cons pe_str (pa_cons (pv 2) pa_nil))) (pa_cons (pe_tup (pa_cons pe_str (pa_cons (pv 3) pa_nil))) pa_nil))))) (pa_cons (pe_glob (v := .int (1000000)) rfl T.c_MOST_NUMBER ⟨_, rfl⟩) pa_nil)))) (pss_cons (ps_expr (pe_call G_need_power (hr.mono (by decide)) (by rfl) T.f_need_power.g T.f_need_power.F.kp T.f_need_power.b .nil pass0 (pa_cons (pv 4) pa_nil))) (pss_one (ps_ret (pe_call G_is_by_power (hr.mono (by decide)) (by rfl) T.f_is_by_power.g T.f_is_by_power.F.kp T.f_is_by_power.b .nil pass0 (pa_cons (pv 0) (pa_cons (pv 1) (pa_cons (pv 2) (pa_cons (pv 3) (pa_cons (pv 4) pa_nil)))))))))), ?_⟩
    refine ⟨_, rfl, sz2, fun t1 h1 => ⟨_, rfl, sz2, fun t2 h2 => ⟨_, rfl, sz2, fun t3 h3 => ⟨_, rfl, sz2, fun t4 h4 => ⟨sz4, fun l h5 => ?_⟩⟩⟩⟩⟩
    obtain ⟨sm, nm⟩ := named4 (K := K) h1 h2 h3 h4 h5 F.a F.b F.c F.d (o := .lst [.ref t1, .ref t2, .ref t3, .ref t4])
    refine ⟨l, _, _, rfl, .of upd_same, nm, ?_⟩
    refine ⟨_, rfl, p, rfl, F.p.1, F.p.2, ?_⟩
    exact ⟨_, rfl, _, rfl, _, rfl, _, rfl, _, rfl, a, b, c, d, p, rfl, F, q _ sm⟩
/-- the sign of a whole number -/
def sgn (x : Int) : Int := if x = 0 then 0 else if 0 < x then 1 else -1
def spSignAt : Sp := fun vs H Q _ => ∃ a b c d p : Int, vs = [.int a, .int b, .int c, .int d, .int p] ∧ Fine a b c d p ∧ ∀ H', Same H H' → Q (.int (sgn (wsum a b c d p))) H'
theorem ok_sign_at (T : Txt K mg) : FnOk P w K mg base CX0 5 T.f_sign_at.a T.f_sign_at.fd ["a", "b", "c", "d", "power"] spSignAt := by
  have G_need_numbers := ok_need_numbers (P := P) (w := w) (base := base) T
  have G_need_power := ok_need_power (P := P) (w := w) (base := base) T
  have G_whole_sum := ok_whole_sum (P := P) (w := w) (base := base) T
  refine T.f_sign_at.F.ok sc_sign_at (fun vs H Q E h => ?_) (fun cdv A outer s H vs Q E hr h => ?_)
  · obtain ⟨a, b, c, d, p, rfl, _⟩ := h
    rfl
  · obtain ⟨a, b, c, d, p, rfl, F, q⟩ := h
    refine ⟨_, (pss_cons (ps_expr (pe_call G_need_numbers (hr.mono (by decide)) (by rfl) T.f_need_numbers.g T.f_need_numbers.F.kp T.f_need_numbers.b .nil pass0 (pa_cons (pe_lst (pa_cons (pe_tup (pa_cons pe_str (pa_cons (pv 0) pa_nil))) (pa_cons (pe_tup (pa_cons pe_str (pa_cons (pv 1) pa_nil))) (pa_cons (pe_tup (pa_cons pe_str (pa_cons (pv 2) pa_nil))) (pa_cons (pe_tup (pa_cons pe_str (pa_cons (pv 3) pa_nil))) pa_nil))))) (pa_cons (pe_glob (v := .int (1000000)) rfl T.c_MOST_NUMBER ⟨_, rfl⟩) pa_nil)))) (pss_cons (ps_expr (pe_call G_need_power (hr.mono (by decide)) (by rfl) T.f_need_power.g T.f_need_power.F.kp T.f_need_power.b .nil pass0 (pa_cons (pv 4) pa_nil))) (pss_cons (ps_set (i := 5) sc_sign_at.nd rfl (Or.inl rfl) (pe_call G_whole_sum (hr.mono (by decide)) (by rfl) T.f_whole_sum.g T.f_whole_sum.F.kp T.f_whole_sum.b .nil pass0 (pa_cons (pv 0) (pa_cons (pv 1) (pa_cons (pv 2) (pa_cons (pv 3) (pa_cons (pv 4) pa_nil))))))) (pss_cons (ps_if (pt_cmpR op_eq (pv 5) pe_int (nomark _)) (pss_one (ps_ret pe_int)) pss_nil) (pss_one (ps_ret (pe_ifExp (pt_cmpR op_gt (pv 5) pe_int (nomark _)) pe_int (pe_un un_neg pe_int)))))))), ?_⟩
    refine ⟨_, rfl, sz2, fun t1 h1 => ⟨_, rfl, sz2, fun t2 h2 => ⟨_, rfl, sz2, fun t3 h3 => ⟨_, rfl, sz2, fun t4 h4 => ⟨sz4, fun l h5 => ?_⟩⟩⟩⟩⟩
    obtain ⟨sm, nm⟩ := named4 (K := K) h1 h2 h3 h4 h5 F.a F.b F.c F.d (o := .lst [.ref t1, .ref t2, .ref t3, .ref t4])
    refine ⟨l, _, _, rfl, .of upd_same, nm, ?_⟩
    refine ⟨_, rfl, p, rfl, F.p.1, F.p.2, ?_⟩
    refine ⟨_, rfl, _, rfl, _, rfl, _, rfl, _, rfl, a, b, c, d, p, rfl, F, ?_⟩
    have q2 := q _ sm
    unfold sgn at q2
    refine ⟨_, rfl, rfl, _, rfl, ite2 (fun e => ?_) (fun e => ?_)⟩
    · rw [if_pos (V.int.inj (of_decide_eq_true e))] at q2
      exact q2
    · have e0 : ¬ wsum a b c d p = 0 := fun z => e (decide_eq_true (congrArg V.int z))
      rw [if_neg e0] at q2
      refine ⟨_, rfl, _, _, rfl, rfl, _, rfl, ite2 (fun e2 => ?_) (fun e2 => ?_)⟩
      · rw [if_pos (of_decide_eq_true e2)] at q2
        exact q2
      · rw [if_neg (fun z => e2 (decide_eq_true z))] at q2
        exact ⟨_, rfl, q2⟩
/-! ### the law's hat: the numbers from which all is drawn -/
def hatL (c : Addr) (t : Nat) (g : Int) : List V := [.ref c, .int (t : Int), .int g]
structure HatAt (H : Hp) (a c : Addr) (ns : List Int) (t : Nat) (g : Int) : Prop where
  h : H a = some (.lst (hatL c t g))
  c : H c = some (.lst (ns.map V.int))
  l : ns.length ≤ 60
def Hat (H : Hp) (a c : Addr) (n : Nat) : Prop := ∃ (ns : List Int) (t : Nat) (g : Int), HatAt H a c ns t g ∧ t ≤ n
theorem HatAt.ne {H : Hp} {a c : Addr} {ns : List Int} {t : Nat} {g : Int} (h : HatAt H a c ns t g) : c ≠ a := ne_of h.c h.h (fun z => by
  have z2 : ns.map V.int = hatL c t g := HO.lst.inj z
  cases ns with
  | nil => cases z2
  | cons x r =>
    have z3 : V.int x = V.ref c := (List.cons.inj z2).1
    cases z3)
/-- all stands as it stood, but what is at a -/
def But (a : Addr) (H H' : Hp) : Prop := ∀ b o, H b = some o → b ≠ a → H' b = some o
theorem But.refl (a : Addr) (H : Hp) : But a H H := fun _ _ e _ => e
theorem But.trans {a : Addr} {H H1 H2 : Hp} (x : But a H H1) (y : But a H1 H2) : But a H H2 := fun b o e n => y b o (x b o e n) n
theorem But.of {a : Addr} {H H' : Hp} (x : Same H H') : But a H H' := fun b o e _ => x b o e
theorem But.free {a c : Addr} {H H' : Hp} {n : Nat} (x : But a H H') (y : Hat H' a c n) {l : Addr} (h : H' l = none) : H l = none := by
  cases q : H l with
  | none => rfl
  | some o =>
    by_cases e : l = a
    · obtain ⟨ns, t, g, z, _⟩ := y
      rw [e, z.h] at h
      cases h
    · rw [x l o q e] at h
      cases h
theorem Hat.same {H H' : Hp} {a c : Addr} {n : Nat} (h : Hat H a c n) (s : Same H H') : Hat H' a c n := by
  obtain ⟨ns, t, g, ⟨h1, h2, h3⟩, z⟩ := h
  exact ⟨ns, t, g, ⟨s _ _ h1, s _ _ h2, h3⟩, z⟩
theorem Hat.mono {H : Hp} {a c : Addr} {n m : Nat} (h : Hat H a c n) (l : n ≤ m) : Hat H a c m := by
  obtain ⟨ns, t, g, x, z⟩ := h
  exact ⟨ns, t, g, x, by omega⟩
theorem HatAt.put {H : Hp} {a c : Addr} {ns : List Int} {t : Nat} {g : Int} (h : HatAt H a c ns t g) (t' : Nat) (g' : Int) : HatAt (upd H a (.lst (hatL c t' g'))) a c ns t' g' ∧ But a H (upd H a (.lst (hatL c t' g'))) :=
  ⟨⟨upd_same, by rw [upd_ne h.ne]; exact h.c, h.l⟩, fun b o e n => by rw [upd_ne n]; exact e⟩
theorem HatAt.new {H : Hp} {a c p : Addr} {ns : List Int} {t : Nat} {g : Int} {o : HO} (h : HatAt H a c ns t g) (hp : H p = none) : HatAt (upd H p o) a c ns t g :=
  ⟨same_upd hp _ _ h.h, same_upd hp _ _ h.c, h.l⟩
def spLot : Sp := fun vs H Q _ => ∃ (a c : Addr) (n : Nat) (m : Int), vs = [.ref a, .int m] ∧ Hat H a c n ∧ n ≤ 1000000 ∧ 0 < m ∧ m < 1073741824 ∧ ∀ (d : Int) (H' : Hp), 0 ≤ d → d < m → Hat H' a c (n + 1) → But a H H' → Q (.int d) H'
theorem at_map {ns : List Int} {k : Nat} (h : k < ns.length) : atI (ns.map V.int) (k : Int) = some (.int ns[k]) := atI_nat (by rw [List.getElem?_map, List.getElem?_eq_getElem h]; rfl)
theorem dpall (K : PySem.W.Frag) (H : Hp) : ∀ ns : List Int, DpAll K H (ns.map V.int) (ns.map PyData.int)
  | [] => .nil
  | _ :: r => .cons (.int _) (dpall K H r)
theorem ok__law_lot (T : Txt K mg) : FnOk P w K mg base CX0 1 T.f__law_lot.a T.f__law_lot.fd ["_law_hat_here", "_law_many"] spLot := by
  refine T.f__law_lot.F.ok sc__law_lot (fun vs H Q E h => ?_) (fun cdv A outer s H vs Q E hr h => ?_)
  · obtain ⟨a, c, n, m, rfl, _⟩ := h
    rfl
  · obtain ⟨a, c, n, m, rfl, ⟨ns, t, g, hh, ht⟩, hn, h0, h1, q⟩ := h
    refine ⟨_, (pss_cons (ps_if (pt_cmpR op_gt (pe_ix ix_list (pv 0) pe_int (fun _ _ => rfl)) pe_int (nomark _)) (pss_cons (ps_set (i := 2) sc__law_lot.nd rfl (Or.inl rfl) (pe_op op_mod (pe_callTy call_int1 (by rfl) T.n_int (by decide +kernel) (pa_cons (pe_ix ix_list (pv 0) pe_int (fun _ _ => rfl)) pa_nil)) (pv 1))) (pss_cons (ps_asg (pe_op op_fdiv (pe_callTy call_int1 (by rfl) T.n_int (by decide +kernel) (pa_cons (pe_ix ix_list (pv 0) pe_int (fun _ _ => rfl)) pa_nil)) (pv 1)) (pg_sub (pv 0) pe_int set_list (fun _ => rfl))) (pss_one (ps_ret (pv 2))))) pss_nil) (pss_cons (ps_set (i := 3) sc__law_lot.nd rfl (Or.inl rfl) (pe_ix ix_list (pv 0) pe_int (fun _ _ => rfl))) (pss_cons (ps_asg (pe_op op_add (pv 3) pe_int) (pg_sub (pv 0) pe_int set_list (fun _ => rfl))) (pss_cons (ps_set (i := 4) sc__law_lot.nd rfl (Or.inl rfl) (pe_op op_add (pe_op op_mul pe_int (pv 3)) pe_int)) (pss_cons (ps_if (pt_cmpR (op_neD hr.units) (pe_ix ix_list (pv 0) pe_int (fun _ _ => rfl)) (pe_lst pa_nil) (nomark _)) (pss_one (ps_set (i := 4) sc__law_lot.nd rfl (Or.inl rfl) (pe_ix ix_list (pe_ix ix_list (pv 0) pe_int (fun _ _ => rfl)) (pe_op op_mod (pe_callTy call_int1 (by rfl) T.n_int (by decide +kernel) (pa_cons (pv 3) pa_nil)) (pe_callB call_len_seq (by rfl) T.n_len (by decide +kernel) (pa_cons (pe_ix ix_list (pv 0) pe_int (fun _ _ => rfl)) pa_nil))) (fun _ _ => rfl)))) pss_nil) (pss_cons (ps_if (PW.pt (pw_and (pt_cmpR op_lt (pv 3) (pe_callB call_len_seq (by rfl) T.n_len (by decide +kernel) (pa_cons (pe_ix ix_list (pv 0) pe_int (fun _ _ => rfl)) pa_nil)) (nomark _)) (pw_and1 (pt_cmpR op_ge (pe_callB call_abs (by rfl) T.n_abs (by decide +kernel) (pa_cons (pv 4) pa_nil)) (pe_op op_pow pe_int pe_int) (nomark _))))) (pss_cons (ps_set (i := 5) sc__law_lot.nd rfl (Or.inl rfl) (pe_op op_add (pe_op op_mul pe_int (pe_op op_sub (pe_callB call_abs (by rfl) T.n_abs (by decide +kernel) (pa_cons (pv 4) pa_nil)) (pe_op op_pow pe_int pe_int))) (pe_callTy call_int1 (by rfl) T.n_int (by decide +kernel) (pa_cons (pe_cmpR op_lt (pv 4) pe_int (nomark _)) pa_nil)))) (pss_cons (ps_asg (pe_op op_fdiv (pe_callTy call_int1 (by rfl) T.n_int (by decide +kernel) (pa_cons (pv 5) pa_nil)) (pv 1)) (pg_sub (pv 0) pe_int set_list (fun _ => rfl))) (pss_one (ps_ret (pe_op op_mod (pe_callTy call_int1 (by rfl) T.n_int (by decide +kernel) (pa_cons (pv 5) pa_nil)) (pv 1)))))) pss_nil) (pss_cons (ps_set (i := 6) sc__law_lot.nd rfl (Or.inl rfl) (pe_op op_mod (pe_callTy call_int1 (by rfl) T.n_int (by decide +kernel) (pa_cons (pe_op op_pow (pe_op op_add (pe_op op_add (pe_op op_mod (pe_callTy call_int1 (by rfl) T.n_int (by decide +kernel) (pa_cons (pv 4) pa_nil)) pe_int) (pe_op op_mul pe_int (pv 3))) pe_int) pe_int) pa_nil)) pe_int)) (pss_cons (ps_set (i := 6) sc__law_lot.nd rfl (Or.inl rfl) (pe_op op_mod (pe_callTy call_int1 (by rfl) T.n_int (by decide +kernel) (pa_cons (pe_op op_pow (pe_op op_add (pe_op op_add (pe_op op_mul (pv 6) (pe_op op_add (pe_op op_mul pe_int (pv 3)) pe_int)) (pe_op op_mul (pe_op op_mul pe_int (pv 3)) (pv 3))) pe_int) pe_int) pa_nil)) pe_int)) (pss_one (ps_ret (pe_op op_mod (pe_callTy call_int1 (by rfl) T.n_int (by decide +kernel) (pa_cons (pe_op op_fdiv (pv 6) pe_int) pa_nil)) (pv 1)))))))))))), ?_⟩
    -- if hat[2] > 0
    refine ⟨_, rfl, a, _, 2, _, rfl, rfl, SqL.of hh.h, atI_nat (j := 2) rfl, _, _, rfl, rfl, _, rfl, ite2 (fun e => ?_) (fun e => ?_)⟩
    · refine ⟨_, rfl, a, _, 2, _, rfl, rfl, SqL.of hh.h, atI_nat (j := 2) rfl, .inl ⟨_, rfl, _, rfl, _, _, rfl, rfl, h0, ?_⟩⟩
      refine ⟨_, rfl, a, _, 2, _, rfl, rfl, SqL.of hh.h, atI_nat (j := 2) rfl, .inl ⟨_, rfl, _, rfl, _, _, rfl, rfl, ⟨h0, h1⟩, ?_⟩⟩
      refine ⟨_, rfl, a, _, 2, 2, rfl, rfl, hh.h, rfl, ?_⟩
      refine ⟨_, rfl, ?_⟩
      obtain ⟨z1, z2⟩ := hh.put t (g / m)
      exact q _ _ (Int.emod_nonneg _ (by omega)) (Int.emod_lt_of_pos _ h0) ⟨ns, t, _, z1, by omega⟩ z2
    · -- at = hat[1]; hat[1] = at + 1; cell = ..
      refine ⟨_, rfl, a, _, 1, _, rfl, rfl, SqL.of hh.h, atI_nat (j := 1) rfl, ?_⟩
      refine ⟨_, rfl, _, _, rfl, rfl, _, rfl, a, _, 1, 1, rfl, rfl, hh.h, rfl, ?_⟩
      refine ⟨_, rfl, _, _, rfl, rfl, .inl ⟨by decide, by decide⟩, _, _, rfl, rfl, ?_⟩
      obtain ⟨z1, z2⟩ := hh.put (t + 1) g
      -- if hat[0] != []
      refine ⟨_, rfl, a, _, 0, _, rfl, rfl, SqL.of z1.h, atI_nat (j := 0) rfl, Nat.zero_le _, fun p hp => ?_⟩
      have z3 := z1.new (o := .lst []) hp
      have z4 : But a H (upd (upd H a (.lst (hatL c (t + 1) g))) p (.lst [])) := z2.trans (.of (same_upd hp))
      generalize hH2 : upd (upd H a (.lst (hatL c (t + 1) g))) p (.lst []) = H2 at z3 z4
      have hH2' : upd (upd H a (HO.lst (List.set (hatL c t g) 1 (V.int ((t : Int) + 1))))) p (HO.lst []) = H2 := hH2
      rw [hH2']
      have hp2 : H2 p = some (.lst []) := by
        rw [← hH2]
        exact upd_same
      refine ⟨.list (ns.map PyData.int), .list [], .lst (SqL.of z3.c) (dpall K H2 ns), .lst (SqL.of hp2) .nil, PySem.W.ke_shaped_ints ns, by decide +kernel, _, rfl, ?_⟩
      have hb1 : ∀ x : Int, (x % 2147483549 + 75011 * (t : Int) + 9781).natAbs < 2 ^ 64 := fun x => by
        have a1 := Int.emod_nonneg x (show (2147483549 : Int) ≠ 0 by decide)
        have a2 := Int.emod_lt_of_pos x (show (0 : Int) < 2147483549 by decide)
        omega
      have hm : ∀ x : Int, -(2 ^ 64) < x % 2147483587 ∧ x % 2147483587 < 2 ^ 64 := fun x => by
        have a1 := Int.emod_nonneg x (show (2147483587 : Int) ≠ 0 by decide)
        have a2 := Int.emod_lt_of_pos x (show (0 : Int) < 2147483587 by decide)
        omega
      have htl : -(2 ^ 64) < (t : Int) ∧ (t : Int) < 2 ^ 64 := by omega
      have hb2 : ∀ x : Int, (x % 2147483587 * (2 * (t : Int) + 1949) + 68041 * (t : Int) * (t : Int) + 75037).natAbs < 2 ^ 64 := fun x => by
        have a1 := Int.emod_nonneg x (show (2147483587 : Int) ≠ 0 by decide)
        have a2 := Int.emod_lt_of_pos x (show (0 : Int) < 2147483587 by decide)
        generalize x % 2147483587 = y at a1 a2
        have b1 : y * (2 * (t : Int) + 1949) ≤ 2147483587 * (2 * (t : Int) + 1949) := Int.mul_le_mul_of_nonneg_right (by omega) (by omega)
        have b2 : 0 ≤ y * (2 * (t : Int) + 1949) := Int.mul_nonneg a1 (by omega)
        have b3 : 68041 * (t : Int) * (t : Int) ≤ 68041 * 1000000 * (t : Int) := Int.mul_le_mul_of_nonneg_right (by omega) (by omega)
        have b4 : 0 ≤ 68041 * (t : Int) * (t : Int) := Int.mul_nonneg (by omega) (by omega)
        generalize y * (2 * (t : Int) + 1949) = z at b1 b2
        generalize 68041 * (t : Int) * (t : Int) = u at b3 b4
        omega
      have fin : ∀ (d : Int) (t' : Nat) (g' : Int) (H3 : Hp), 0 ≤ d → d < m → HatAt H3 a c ns t' g' → t' ≤ t + 1 → But a H H3 → Q (.int d) H3 := fun d t' g' H3 d0 d1 z ht' bb => q d H3 d0 d1 ⟨ns, t', g', z, by omega⟩ bb
      have md : ∀ x : Int, 0 ≤ x % m ∧ x % m < m := fun x => ⟨Int.emod_nonneg _ (by omega), Int.emod_lt_of_pos _ h0⟩
      refine ite2 (fun e1 => ?_) (fun e1 => ?_)
      · have hl : 0 < ns.length := by
          cases ns with
          | nil => exact absurd e1 (by decide)
          | cons x r => exact Nat.succ_pos _
        have hk : t % ns.length < ns.length := Nat.mod_lt _ hl
        have ek : ((t % ns.length : Nat) : Int) = (t : Int) % (ns.length : Int) := Int.natCast_emod t ns.length
        have hat : atI (ns.map V.int) ((t : Int) % (ns.length : Int)) = some (.int ns[t % ns.length]) := by
          rw [← ek]
          exact at_map hk
        have hlm : ((ns.map V.int).length : Int) = (ns.length : Int) := by rw [List.length_map]
        have hpos : (0 : Int) < ((ns.map V.int).length : Int) := by
          rw [hlm]
          omega
        have hat2 : atI (ns.map V.int) ((t : Int) % ((ns.map V.int).length : Int)) = some (.int ns[t % ns.length]) := by
          rw [hlm]
          exact hat
        -- cell = hat[0][int(at) % len(hat[0])]
        refine ⟨_, rfl, a, _, 0, _, rfl, rfl, SqL.of z3.h, atI_nat (j := 0) rfl, _, rfl, .inl ⟨_, rfl, _, rfl, a, _, 0, _, rfl, rfl, SqL.of z3.h, atI_nat (j := 0) rfl, c, _, rfl, .inl (SqL.of z3.c), _, _, rfl, rfl, hpos, c, _, _, _, rfl, rfl, SqL.of z3.c, hat2, ?_⟩⟩
        generalize ns[t % ns.length] = cell
        -- if at < len(hat[0]) and abs(cell) >= 10 ** 18
        refine ⟨_, rfl, _, rfl, a, _, 0, _, rfl, rfl, SqL.of z3.h, atI_nat (j := 0) rfl, c, _, rfl, .inl (SqL.of z3.c), _, _, rfl, rfl, _, rfl, ite2 (fun e2 => ?_) (fun e2 => ?_)⟩
        · refine ⟨_, rfl, _, rfl, _, _, rfl, rfl, ⟨by decide, by decide, by decide⟩, _, _, rfl, rfl, _, rfl, ite2 (fun e3 => ?_) (fun e3 => ?_)⟩
          · -- great
            refine ⟨_, rfl, _, rfl, _, _, rfl, rfl, ⟨by decide, by decide, by decide⟩, _, _, rfl, rfl, _, _, rfl, rfl, .inl ⟨by decide, by decide⟩, _, rfl, _, _, rfl, rfl, .inr ⟨_, rfl, _, _, rfl, rfl, ?_⟩⟩
            refine ⟨_, rfl, .inl ⟨_, rfl, _, rfl, _, _, rfl, rfl, ⟨h0, h1⟩, ?_⟩⟩
            refine ⟨_, rfl, a, _, 2, 2, rfl, rfl, z3.h, rfl, ?_⟩
            refine ⟨_, rfl, .inl ⟨_, rfl, _, rfl, _, _, rfl, rfl, h0, ?_⟩⟩
            obtain ⟨y1, y2⟩ := z3.put (t + 1) _
            exact fin _ (t + 1) _ _ (md _).1 (md _).2 y1 (Nat.le_refl _) (z4.trans y2)
          · refine ⟨_, rfl, .inl ⟨_, rfl, _, _, rfl, rfl, q1, _, rfl, _, _, rfl, rfl, .inl ⟨by decide, by decide⟩, _, _, rfl, rfl, _, _, rfl, rfl, _, _, rfl, rfl, ⟨by decide, by decide, hb1 _⟩, .inl ⟨_, rfl, _, _, rfl, rfl, q2, ?_⟩⟩⟩
            refine ⟨_, rfl, _, rfl, _, _, rfl, rfl, .inl ⟨by decide, by decide⟩, _, _, rfl, rfl, _, _, rfl, rfl, .inl (hm _), _, rfl, _, _, rfl, rfl, .inl ⟨by decide, by decide⟩, _, rfl, _, _, rfl, rfl, .inr htl, _, _, rfl, rfl, _, _, rfl, rfl, _, _, rfl, rfl, ⟨by decide, by decide, hb2 _⟩, .inl ⟨_, rfl, _, _, rfl, rfl, q3, ?_⟩⟩
            refine ⟨_, rfl, _, _, rfl, rfl, ⟨by decide, by decide⟩, .inl ⟨_, rfl, _, rfl, _, _, rfl, rfl, h0, ?_⟩⟩
            exact fin _ (t + 1) g _ (md _).1 (md _).2 z3 (Nat.le_refl _) z4
        · refine iteF ?_
          refine ⟨_, rfl, .inl ⟨_, rfl, _, _, rfl, rfl, q1, _, rfl, _, _, rfl, rfl, .inl ⟨by decide, by decide⟩, _, _, rfl, rfl, _, _, rfl, rfl, _, _, rfl, rfl, ⟨by decide, by decide, hb1 _⟩, .inl ⟨_, rfl, _, _, rfl, rfl, q2, ?_⟩⟩⟩
          refine ⟨_, rfl, _, rfl, _, _, rfl, rfl, .inl ⟨by decide, by decide⟩, _, _, rfl, rfl, _, _, rfl, rfl, .inl (hm _), _, rfl, _, _, rfl, rfl, .inl ⟨by decide, by decide⟩, _, rfl, _, _, rfl, rfl, .inr htl, _, _, rfl, rfl, _, _, rfl, rfl, _, _, rfl, rfl, ⟨by decide, by decide, hb2 _⟩, .inl ⟨_, rfl, _, _, rfl, rfl, q3, ?_⟩⟩
          refine ⟨_, rfl, _, _, rfl, rfl, ⟨by decide, by decide⟩, .inl ⟨_, rfl, _, rfl, _, _, rfl, rfl, h0, ?_⟩⟩
          exact fin _ (t + 1) g _ (md _).1 (md _).2 z3 (Nat.le_refl _) z4
      · generalize 68041 * (t : Int) + 9781 = cell
        -- if at < len(hat[0]) and abs(cell) >= 10 ** 18
        refine ⟨_, rfl, _, rfl, a, _, 0, _, rfl, rfl, SqL.of z3.h, atI_nat (j := 0) rfl, c, _, rfl, .inl (SqL.of z3.c), _, _, rfl, rfl, _, rfl, ite2 (fun e2 => ?_) (fun e2 => ?_)⟩
        · refine ⟨_, rfl, _, rfl, _, _, rfl, rfl, ⟨by decide, by decide, by decide⟩, _, _, rfl, rfl, _, rfl, ite2 (fun e3 => ?_) (fun e3 => ?_)⟩
          · -- great
            refine ⟨_, rfl, _, rfl, _, _, rfl, rfl, ⟨by decide, by decide, by decide⟩, _, _, rfl, rfl, _, _, rfl, rfl, .inl ⟨by decide, by decide⟩, _, rfl, _, _, rfl, rfl, .inr ⟨_, rfl, _, _, rfl, rfl, ?_⟩⟩
            refine ⟨_, rfl, .inl ⟨_, rfl, _, rfl, _, _, rfl, rfl, ⟨h0, h1⟩, ?_⟩⟩
            refine ⟨_, rfl, a, _, 2, 2, rfl, rfl, z3.h, rfl, ?_⟩
            refine ⟨_, rfl, .inl ⟨_, rfl, _, rfl, _, _, rfl, rfl, h0, ?_⟩⟩
            obtain ⟨y1, y2⟩ := z3.put (t + 1) _
            exact fin _ (t + 1) _ _ (md _).1 (md _).2 y1 (Nat.le_refl _) (z4.trans y2)
          · refine ⟨_, rfl, .inl ⟨_, rfl, _, _, rfl, rfl, q1, _, rfl, _, _, rfl, rfl, .inl ⟨by decide, by decide⟩, _, _, rfl, rfl, _, _, rfl, rfl, _, _, rfl, rfl, ⟨by decide, by decide, hb1 _⟩, .inl ⟨_, rfl, _, _, rfl, rfl, q2, ?_⟩⟩⟩
            refine ⟨_, rfl, _, rfl, _, _, rfl, rfl, .inl ⟨by decide, by decide⟩, _, _, rfl, rfl, _, _, rfl, rfl, .inl (hm _), _, rfl, _, _, rfl, rfl, .inl ⟨by decide, by decide⟩, _, rfl, _, _, rfl, rfl, .inr htl, _, _, rfl, rfl, _, _, rfl, rfl, _, _, rfl, rfl, ⟨by decide, by decide, hb2 _⟩, .inl ⟨_, rfl, _, _, rfl, rfl, q3, ?_⟩⟩
            refine ⟨_, rfl, _, _, rfl, rfl, ⟨by decide, by decide⟩, .inl ⟨_, rfl, _, rfl, _, _, rfl, rfl, h0, ?_⟩⟩
            exact fin _ (t + 1) g _ (md _).1 (md _).2 z3 (Nat.le_refl _) z4
        · refine iteF ?_
          refine ⟨_, rfl, .inl ⟨_, rfl, _, _, rfl, rfl, q1, _, rfl, _, _, rfl, rfl, .inl ⟨by decide, by decide⟩, _, _, rfl, rfl, _, _, rfl, rfl, _, _, rfl, rfl, ⟨by decide, by decide, hb1 _⟩, .inl ⟨_, rfl, _, _, rfl, rfl, q2, ?_⟩⟩⟩
          refine ⟨_, rfl, _, rfl, _, _, rfl, rfl, .inl ⟨by decide, by decide⟩, _, _, rfl, rfl, _, _, rfl, rfl, .inl (hm _), _, rfl, _, _, rfl, rfl, .inl ⟨by decide, by decide⟩, _, rfl, _, _, rfl, rfl, .inr htl, _, _, rfl, rfl, _, _, rfl, rfl, _, _, rfl, rfl, ⟨by decide, by decide, hb2 _⟩, .inl ⟨_, rfl, _, _, rfl, rfl, q3, ?_⟩⟩
          refine ⟨_, rfl, _, _, rfl, rfl, ⟨by decide, by decide⟩, .inl ⟨_, rfl, _, rfl, _, _, rfl, rfl, h0, ?_⟩⟩
          exact fin _ (t + 1) g _ (md _).1 (md _).2 z3 (Nat.le_refl _) z4
end
end Q

namespace Q
open PySem PySem.Spec PyProof.Rows L2
section
variable {P : Program} {w : World} {K : PySem.W.Frag} {mg : Str → Option Value} {base : Heap}
theorem But.seq {K : PySem.W.Frag} {H H' : Hp} {a l : Addr} {xs : List V} (e : But a H H') (n : l ≠ a) (h : SqL K H l xs) : SqL K H' l xs := by
  rcases h with (h | ⟨o, h⟩) | h
  · exact .inl (.inl (e _ _ h n))
  · exact .inl (.inr ⟨o, e _ _ h n⟩)
  · exact .inr h
theorem Hat.is_a {H : Hp} {a c : Addr} {n : Nat} (h : Hat H a c n) : ∃ o, H a = some o := by
  obtain ⟨ns, t, g, z, _⟩ := h
  exact ⟨_, z.h⟩
theorem Hat.is_c {H : Hp} {a c : Addr} {n : Nat} (h : Hat H a c n) : ∃ o, H c = some o := by
  obtain ⟨ns, t, g, z, _⟩ := h
  exact ⟨_, z.c⟩
theorem Hat.neA {H : Hp} {a c l : Addr} {n : Nat} (h : Hat H a c n) (f : H l = none) : l ≠ a := fun e => by
  obtain ⟨o, z⟩ := h.is_a
  rw [e, z] at f
  cases f
theorem Hat.neC {H : Hp} {a c l : Addr} {n : Nat} (h : Hat H a c n) (f : H l = none) : l ≠ c := fun e => by
  obtain ⟨o, z⟩ := h.is_c
  rw [e, z] at f
  cases f
theorem Hat.upd {H : Hp} {a c l : Addr} {n : Nat} {o : HO} (h : Hat H a c n) (n1 : l ≠ a) (n2 : l ≠ c) : Hat (upd H l o) a c n := by
  obtain ⟨ns, t, g, ⟨h1, h2, h3⟩, z⟩ := h
  exact ⟨ns, t, g, ⟨by rw [upd_ne n1.symm]; exact h1, by rw [upd_ne n2.symm]; exact h2, h3⟩, z⟩
theorem cut60 (xs : List V) : cutV xs none (some 60) = xs.take 60 := by
  unfold cutV
  rw [show HT.sIx xs.length xs.length (some 60) = min 60 xs.length from HT.sIx_nat xs.length xs.length 60, HT.sIx_none]
  show List.take (min 60 xs.length - 0) xs = xs.take 60
  rw [Nat.sub_zero]
  by_cases h : 60 ≤ xs.length
  · rw [Nat.min_eq_left h]
  · rw [Nat.min_eq_right (by omega), List.take_length, List.take_of_length_le (by omega)]
def spHat (K : PySem.W.Frag) : Sp := fun vs H Q _ => ∃ (a : Addr) (ns : List Int), vs = [.ref a] ∧ SqL K H a (ns.map V.int) ∧ ns.length ≤ 63 ∧ ∀ (h c : Addr) (H' : Hp), Hat H' h c 0 → Same H H' → Q (.ref h) H'
theorem ok__law_hat (T : Txt K mg) : FnOk P w K mg base CX0 1 T.f__law_hat.a T.f__law_hat.fd ["_law_script"] (spHat K) := by
  refine T.f__law_hat.F.ok sc__law_hat (fun vs H Q E h => ?_) (fun cdv A outer s H vs Q E hr h => ?_)
  · obtain ⟨a, ns, rfl, _⟩ := h
    rfl
  · obtain ⟨a, ns, rfl, hS, hl, q⟩ := h
    refine ⟨_, (pss_one (ps_ret (pe_lst (pa_cons (pe_lc (own := [("_law_cell", 1)]) (by rfl) sc__law_hat.nd (pi_list (pe_slice sl_list (pv 0) po_none (po_some pe_int))) (blkOk_by (N := n__law_hat) (sc := defScope s__law_hat) (by decide +kernel)) (fun _ _ _ _ _ => (pg_name (i := 1) sc__law_hat.nd rfl (Or.inl rfl))) (fun _ _ _ _ _ => pts_nil) (fun _ _ _ _ _ => (pe_callTy call_int1 (by rfl) T.n_int (by decide +kernel) (pa_cons (pv 1) pa_nil)))) (pa_cons pe_int (pa_cons pe_int pa_nil)))))), ?_⟩
    refine ⟨_, rfl, 60, rfl, a, _, rfl, hS, fun p hp => ?_⟩
    have s1 := same_upd (o := .lst (cutV (ns.map V.int) none (some 60))) hp
    refine ⟨p, rfl, ⟨_, .of upd_same⟩, fun D hD => ?_⟩
    have ec : cutV (ns.map V.int) none (some 60) = (ns.take 60).map V.int := by rw [cut60, List.map_take]
    have hl60 : (ns.take 60).length ≤ 60 := by
      rw [List.length_take]
      exact Nat.min_le_left _ _
    generalize hm : ns.take 60 = ms at ec hl60
    rw [ec] at s1 hD ⊢
    have s2 := s1.trans (same_upd (o := .lst []) hD)
    refine lc_list (K := K) (a := p) (xs := ms.map V.int) (fun i H' => H' = upd (upd H p (.lst (ms.map V.int))) D (.lst ((ms.take i).map V.int))) rfl (fun i H' _ e => ?_) (fun i x H' hi e => ?_) (fun H' e => ?_)
    · subst e
      refine .of ?_
      rw [upd_ne (ne_of_none upd_same hD)]
      exact upd_same
    · subst e
      obtain ⟨z, hz, rfl⟩ : ∃ z, ms[i]? = some z ∧ x = V.int z := by
        rw [List.getElem?_map] at hi
        cases e : ms[i]? with
        | none =>
          rw [e] at hi
          cases hi
        | some z =>
          rw [e] at hi
          exact ⟨z, rfl, (Option.some.inj hi).symm⟩
      refine ⟨rfl, ?_⟩
      refine ⟨_, rfl, .inl ⟨_, rfl, _, upd_same, ?_, ?_⟩⟩
      · rw [List.length_map, List.length_take]
        exact Nat.lt_of_le_of_lt (Nat.min_le_right _ _) (small1000 (by omega))
      · rw [upd_upd, List.take_add_one, hz, List.map_append]
        rfl
    · subst e
      rw [List.length_map, List.take_length]
      refine ⟨sz3, fun l hl' => ?_⟩
      have s3 := same_upd (o := .lst [.ref D, .int 0, .int 0]) hl'
      have s4 := s1.trans ((same_upd (o := .lst (ms.map V.int)) hD).trans s3)
      exact q l D _ ⟨ms, 0, 0, ⟨upd_same, s3 _ _ upd_same, hl60⟩, Nat.le_refl _⟩ s4
def spOne (K : PySem.W.Frag) : Sp := fun vs H Q _ => ∃ (a c : Addr) (n : Nat) (l : Addr) (xs : List V), vs = [.ref a, .ref l] ∧ Hat H a c n ∧ n ≤ 1000000 ∧ SqL K H l xs ∧ l ≠ a ∧ 0 < xs.length ∧ xs.length ≤ 1000 ∧
  ∀ (v : V) (H' : Hp), v ∈ xs → Hat H' a c (n + 1) → But a H H' → Q v H'
theorem at_any {xs : List V} {d : Int} (h0 : 0 ≤ d) (h1 : d < (xs.length : Int)) : ∃ v, v ∈ xs ∧ atI xs d = some v := by
  obtain ⟨k, rfl⟩ : ∃ k : Nat, d = (k : Int) := ⟨d.toNat, by omega⟩
  have hk : k < xs.length := by omega
  exact ⟨xs[k], List.getElem_mem hk, atI_nat (List.getElem?_eq_getElem hk)⟩
theorem ok__law_one (T : Txt K mg) : FnOk P w K mg base CX0 2 T.f__law_one.a T.f__law_one.fd ["_law_hat_here", "_law_some"] (spOne K) := by
  have G__law_lot := ok__law_lot (P := P) (w := w) (base := base) T
  refine T.f__law_one.F.ok sc__law_one (fun vs H Q E h => ?_) (fun cdv A outer s H vs Q E hr h => ?_)
  · obtain ⟨a, c, n, l, xs, rfl, _⟩ := h
    rfl
  · obtain ⟨a, c, n, l, xs, rfl, hh, hn, hL, hne, hx0, hx1, q⟩ := h
    refine ⟨_, (pss_one (ps_ret (pe_ix ix_list (pv 1) (pe_call G__law_lot (hr.mono (by decide)) (by rfl) T.f__law_lot.g T.f__law_lot.F.kp T.f__law_lot.b .nil pass0 (pa_cons (pv 0) (pa_cons (pe_callB call_len_seq (by rfl) T.n_len (by decide +kernel) (pa_cons (pv 1) pa_nil)) pa_nil))) (fun _ _ => rfl)))), ?_⟩
    refine ⟨_, rfl, _, rfl, _, rfl, l, _, rfl, .inl hL, a, c, n, _, rfl, hh, hn, by omega, by omega, fun d H' d0 d1 hh' bb => ?_⟩
    obtain ⟨v, hv, ev⟩ := at_any d0 d1
    exact ⟨l, xs, d, v, rfl, rfl, bb.seq hne hL, ev, q v H' hv hh' bb⟩
end
end Q

namespace Q
open PySem PySem.Spec PyProof.Rows L2
section
variable {P : Program} {w : World} {K : PySem.W.Frag} {mg : Str → Option Value} {base : Heap}
/-! ### fixed: a list or tuple becomes a tuple, all else stays -/
def isInt : V → Bool
  | .int _ => true
  | _ => false
theorem kit_int {K : PySem.W.Frag} : PySem.W.kitAny K (.type "int") [.type "list", .type "tuple"] = some false :=
  kitAny_cons (kit_ty (r := false) (by decide +kernel)) (fun _ => kitAny_cons (kit_ty (r := false) (by decide +kernel)) (fun _ => rfl) (fun z => nomatch z)) (fun z => nomatch z)
theorem kit_tup {K : PySem.W.Frag} : PySem.W.kitAny K (.type "tuple") [.type "list", .type "tuple"] = some true :=
  kitAny_cons (kit_ty (r := false) (by decide +kernel)) (fun _ => kitAny_cons (kit_ty (r := true) (by decide +kernel)) (fun z => nomatch z) (fun _ => rfl)) (fun z => nomatch z)
def spFix0 : Sp := fun vs H Q _ => ∃ i : Int, vs = [.int i] ∧ ∀ H', Same H H' → Q (.int i) H'
theorem ok_fixed0 (T : Txt K mg) : FnOk P w K mg base CX0 1 T.f_fixed.a T.f_fixed.fd ["value"] spFix0 := by
  refine T.f_fixed.F.ok sc_fixed (fun vs H Q E h => ?_) (fun cdv A outer s H vs Q E hr h => ?_)
  · obtain ⟨i, rfl, _⟩ := h
    rfl
  · obtain ⟨i, rfl, q⟩ := h
    refine ⟨_, (pss_cons (ps_if (pt_val (pe_callB call_isiT (by rfl) T.n_isinstance (by decide +kernel) (pa_cons (pv 0) (pa_cons (pe_tup (pa_cons (pe_bltn (v := .ty "list") (by rfl) T.n_list (by decide +kernel) rfl) (pa_cons (pe_bltn (v := .ty "tuple") (by rfl) T.n_tuple (by decide +kernel) rfl) pa_nil))) pa_nil)))) (pss_one ps_never) pss_nil) (pss_one (ps_ret (pv 0)))), ?_⟩
    refine ⟨_, rfl, sz2, fun t ht => ?_⟩
    refine ⟨_, t, _, .type "int", [.type "list", .type "tuple"], false, rfl, upd_same, .cons (.ty _) (.cons (.ty _) .nil), .base (.int _), kit_int, false, rfl, iteF ?_⟩
    exact ⟨_, rfl, q _ (same_upd ht)⟩
def spFix1 (K : PySem.W.Frag) : Sp := fun vs H Q _ => ∃ (p : Addr) (ns : List Int), vs = [.ref p] ∧ H p = some (.tup (ns.map V.int)) ∧ ns.length ≤ 60 ∧ ∀ (q : Addr) (H' : Hp), H q = none → H' q = some (.tup (ns.map V.int)) → Same H H' → Q (.ref q) H'
theorem ok_fixed (T : Txt K mg) : FnOk P w K mg base CX0 2 T.f_fixed.a T.f_fixed.fd ["value"] (spFix1 K) := by
  have G_fixedIn := ok_fixed0 (P := P) (w := w) (base := base) T
  refine T.f_fixed.F.ok sc_fixed (fun vs H Q E h => ?_) (fun cdv A outer s H vs Q E hr h => ?_)
  · obtain ⟨p, ns, rfl, _⟩ := h
    rfl
  · obtain ⟨p, ns, rfl, hp, hl, q⟩ := h
    refine ⟨_, (pss_cons (ps_if (pt_val (pe_callB call_isiT (by rfl) T.n_isinstance (by decide +kernel) (pa_cons (pv 0) (pa_cons (pe_tup (pa_cons (pe_bltn (v := .ty "list") (by rfl) T.n_list (by decide +kernel) rfl) (pa_cons (pe_bltn (v := .ty "tuple") (by rfl) T.n_tuple (by decide +kernel) rfl) pa_nil))) pa_nil)))) (pss_one (ps_ret (pe_callTy call_tuple_of (by rfl) T.n_tuple (by decide +kernel) (pa_cons (pe_lc (own := [("one", 1)]) (by rfl) sc_fixed.nd (pi_tup (pv 0)) (blkOk_by (N := n_fixed) (sc := defScope s_fixed) (by decide +kernel)) (fun _ _ _ _ _ => (pg_name (i := 1) sc_fixed.nd rfl (Or.inl rfl))) (fun _ _ _ _ _ => pts_nil) (fun _ _ _ _ _ => (pe_call G_fixedIn (hr.mono (by decide)) (by rfl) T.f_fixed.g T.f_fixed.F.kp T.f_fixed.b .nil pass0 (pa_cons (pv 1) pa_nil)))) pa_nil)))) pss_nil) (pss_one (ps_ret (pv 0)))), ?_⟩
    refine ⟨_, rfl, sz2, fun t ht => ?_⟩
    have s1 := same_upd (o := .tup [.ty "list", .ty "tuple"]) ht
    refine ⟨_, t, _, .type "tuple", [.type "list", .type "tuple"], true, rfl, upd_same, .cons (.ty _) (.cons (.ty _) .nil), .base (.tup (s1 _ _ hp)), kit_tup, true, rfl, iteT ?_⟩
    refine ⟨_, rfl, p, rfl, ⟨_, .of (s1 _ _ hp)⟩, fun D hD => ?_⟩
    generalize hH1 : upd H t (.tup [.ty "list", .ty "tuple"]) = H1 at s1 hD
    have s2 := same_upd (o := .lst []) hD
    refine lc_tup (K := K) (a := p) (xs := ns.map V.int) (fun i H' => Same H1 H' ∧ H' D = some (.lst ((ns.take i).map V.int))) ⟨s2, upd_same⟩ (fun i H' _ e => .of (e.1 _ _ (s1 _ _ hp))) (fun i x H' hi e => ?_) (fun H' e => ?_)
    · obtain ⟨z, hz, rfl⟩ : ∃ z, ns[i]? = some z ∧ x = V.int z := by
        rw [List.getElem?_map] at hi
        cases e : ns[i]? with
        | none =>
          rw [e] at hi
          cases hi
        | some z =>
          rw [e] at hi
          exact ⟨z, rfl, (Option.some.inj hi).symm⟩
      refine ⟨rfl, ?_⟩
      refine ⟨_, rfl, z, rfl, fun H3 s3 => ⟨_, s3 _ _ e.2, ?_, ?_, ?_⟩⟩
      · rw [List.length_map, List.length_take]
        exact Nat.lt_of_le_of_lt (Nat.min_le_right _ _) (small1000 (by omega))
      · intro b o hb
        rw [upd_ne (ne_of_none hb hD)]
        exact s3 _ _ (e.1 _ _ hb)
      · rw [upd_same, List.take_add_one, hz, List.map_append]
        rfl
    · obtain ⟨e1, e2⟩ := e
      rw [List.length_map, List.take_length] at e2
      refine ⟨D, _, rfl, .inl ⟨.of e2, fun l hl' => ?_⟩⟩
      have s4 := (s1.trans e1).trans (same_upd (o := .tup (ns.map V.int)) hl')
      exact q l _ ((s1.trans e1).free hl') upd_same s4
/-! ### papers: their words and parts -/
def pF (wd : Str) (q : Addr) : List (Str × V) := putF "parts" (.ref q) (putF "word" (.str wd) [])
theorem pF_len (wd : Str) (q : Addr) : (pF wd q).length = 2 := by
  unfold pF
  show (if ("word" : Str) = "parts" then _ else (("word" : Str), V.str wd) :: putF "parts" (.ref q) []).length = 2
  rw [if_neg (by decide +kernel)]
  rfl
theorem pF_parts (wd : Str) (q : Addr) : (pF wd q).lookup ("parts" : Str) = some (.ref q) := by
  unfold pF
  rw [lookup_putF, if_pos rfl]
/-- what a class of papers must have -/
structure PapC (K : PySem.W.Frag) (C : Addr) : Prop where
  cl : Cls K C
  nw : NoAttr K C "word"
  np : NoAttr K C "parts"
def spPaperI (K : PySem.W.Frag) : Sp := fun vs H Q _ => ∃ (x C dx p : Addr) (wd : Str) (ns : List Int), vs = [.ref x, .str wd, .ref p] ∧ PapC K C ∧ H x = some (.ins C dx []) ∧ H p = some (.tup (ns.map V.int)) ∧ ns.length ≤ 60 ∧
  ∀ (q : Addr) (H' : Hp), H' x = some (.ins C dx (pF wd q)) → H q = none → H' q = some (.tup (ns.map V.int)) → (∀ b o, H b = some o → b ≠ x → H' b = some o) → Q .non H'
def spStarI (K : PySem.W.Frag) : Sp := fun vs H Q _ => ∃ (x C dx : Addr) (wd : Str) (ns : List Int), vs = V.ref x :: V.str wd :: ns.map V.int ∧ PapC K C ∧ H x = some (.ins C dx []) ∧ ns.length ≤ 60 ∧
  ∀ (q : Addr) (H' : Hp), H' x = some (.ins C dx (pF wd q)) → H q = none → H' q = some (.tup (ns.map V.int)) → (∀ b o, H b = some o → b ≠ x → H' b = some o) → Q .non H'
theorem ok_Paper__init__ (T : Txt K mg) : FnR P w K mg base CX0 3 T.f_Paper__init__.a (spStarI K) := by
  have G_fixed := ok_fixed (P := P) (w := w) (base := base) T
  obtain ⟨oc, od, kV, doc, pm, an, cdv, ct, osl, e, lk, hcd⟩ := T.f_Paper__init__.F.ex
  rw [e] at lk
  refine (StX.fn_star (ps := ["self", "word"]) (pv := "parts") (sp := spPaperI K) lk hcd sc_Paper__init__ StX.cxUp_none (StX.bind_star2 (B := fun us => bindArgs (PySem.W.fnOf "__init__" "Paper.__init__" (defArgs s_Paper__init__) (defBody s_Paper__init__) (defScope s_Paper__init__) .none kV doc pm an cdv ct) ⟨us, []⟩) (fun _ _ => rfl) (fun _ _ _ _ => rfl)) (fun A outer s H vs Q E hr h => ?_)).imp ?_
  · obtain ⟨x, C, dx, p, wd, ns, rfl, pc, hx, hp, hl, q⟩ := h
    refine ⟨_, (pss_cons (ps_fld (pv 0) (pv 1) rfl) (pss_one (ps_fld (pv 0) (pe_call G_fixed (hr.mono (by decide)) (by rfl) T.f_fixed.g T.f_fixed.F.kp T.f_fixed.b .nil pass0 (pa_cons (pv 2) pa_nil)) rfl))), ?_⟩
    have npx : p ≠ x := ne_of hp hx (fun z => nomatch z)
    refine ⟨_, rfl, _, rfl, x, C, dx, _, rfl, hx, pc.cl, pc.nw, (by show 0 < 1000; decide), ?_⟩
    refine ⟨_, rfl, p, ns, rfl, (by rw [upd_ne npx]; exact hp), hl, fun q' H' f' e' s' => ?_⟩
    have nqx : q' ≠ x := fun z => by
      rw [z, upd_same] at f'
      cases f'
    have hq0 : H q' = none := by
      rw [upd_ne nqx] at f'
      exact f'
    refine ⟨_, rfl, x, C, dx, _, rfl, s' _ _ upd_same, pc.cl, pc.np, (by show 1 < 1000; decide), ?_⟩
    refine q q' _ upd_same hq0 (by rw [upd_ne nqx]; exact e') fun b o hb nb => ?_
    rw [upd_ne nb]
    exact s' _ _ (by rw [upd_ne nb]; exact hb)
  · intro vs H Q E h
    obtain ⟨x, C, dx, wd, ns, rfl, pc, hx, hl, q⟩ := h
    refine ⟨[.ref x, .str wd], ns.map V.int, rfl, rfl, ?_, fun p hp => ?_⟩
    · rw [List.length_map]
      exact Nat.le_of_lt (small1000 (by omega))
    · have nxp : x ≠ p := ne_of_none hx hp
      refine ⟨x, C, dx, p, wd, ns, rfl, pc, (by rw [upd_ne nxp]; exact hx), upd_same, hl, fun q' H' h1 h2 h3 h4 => q q' H' h1 ?_ h3 fun b o hb nb => h4 b o (same_upd hp _ _ hb) nb⟩
      have nqp : q' ≠ p := fun z => by
        rw [z, upd_same] at h2
        cases h2
      rw [upd_ne nqp] at h2
      exact h2
theorem ok_Denial__init__ (T : Txt K mg) : FnR P w K mg base CX0 3 T.f_Denial__init__.a (spStarI K) := by
  have G_fixed := ok_fixed (P := P) (w := w) (base := base) T
  obtain ⟨oc, od, kV, doc, pm, an, cdv, ct, osl, e, lk, hcd⟩ := T.f_Denial__init__.F.ex
  rw [e] at lk
  refine (StX.fn_star (ps := ["self", "word"]) (pv := "parts") (sp := spPaperI K) lk hcd sc_Denial__init__ StX.cxUp_none (StX.bind_star2 (B := fun us => bindArgs (PySem.W.fnOf "__init__" "Denial.__init__" (defArgs s_Denial__init__) (defBody s_Denial__init__) (defScope s_Denial__init__) .none kV doc pm an cdv ct) ⟨us, []⟩) (fun _ _ => rfl) (fun _ _ _ _ => rfl)) (fun A outer s H vs Q E hr h => ?_)).imp ?_
  · obtain ⟨x, C, dx, p, wd, ns, rfl, pc, hx, hp, hl, q⟩ := h
    refine ⟨_, (pss_cons (ps_fld (pv 0) (pv 1) rfl) (pss_one (ps_fld (pv 0) (pe_call G_fixed (hr.mono (by decide)) (by rfl) T.f_fixed.g T.f_fixed.F.kp T.f_fixed.b .nil pass0 (pa_cons (pv 2) pa_nil)) rfl))), ?_⟩
    have npx : p ≠ x := ne_of hp hx (fun z => nomatch z)
    refine ⟨_, rfl, _, rfl, x, C, dx, _, rfl, hx, pc.cl, pc.nw, (by show 0 < 1000; decide), ?_⟩
    refine ⟨_, rfl, p, ns, rfl, (by rw [upd_ne npx]; exact hp), hl, fun q' H' f' e' s' => ?_⟩
    have nqx : q' ≠ x := fun z => by
      rw [z, upd_same] at f'
      cases f'
    have hq0 : H q' = none := by
      rw [upd_ne nqx] at f'
      exact f'
    refine ⟨_, rfl, x, C, dx, _, rfl, s' _ _ upd_same, pc.cl, pc.np, (by show 1 < 1000; decide), ?_⟩
    refine q q' _ upd_same hq0 (by rw [upd_ne nqx]; exact e') fun b o hb nb => ?_
    rw [upd_ne nb]
    exact s' _ _ (by rw [upd_ne nb]; exact hb)
  · intro vs H Q E h
    obtain ⟨x, C, dx, wd, ns, rfl, pc, hx, hl, q⟩ := h
    refine ⟨[.ref x, .str wd], ns.map V.int, rfl, rfl, ?_, fun p hp => ?_⟩
    · rw [List.length_map]
      exact Nat.le_of_lt (small1000 (by omega))
    · have nxp : x ≠ p := ne_of_none hx hp
      refine ⟨x, C, dx, p, wd, ns, rfl, pc, (by rw [upd_ne nxp]; exact hx), upd_same, hl, fun q' H' h1 h2 h3 h4 => q q' H' h1 ?_ h3 fun b o hb nb => h4 b o (same_upd hp _ _ hb) nb⟩
      have nqp : q' ≠ p := fun z => by
        rw [z, upd_same] at h2
        cases h2
      rw [upd_ne nqp] at h2
      exact h2
/-! ### ByPower, Between -/
structure BPat (C : Addr) (at_ : Str) (H : Hp) (x : Addr) (wd : Str) (n : Int) : Prop where
  h : ∃ dx q, H x = some (.ins C dx (putF at_ (.int n) (pF wd q))) ∧ H q = some (.tup [.int n])
theorem bp_len {at_ wd : Str} {n : Int} {q : Addr} (h1 : ¬ ("word" : Str) = at_) (h2 : ¬ ("parts" : Str) = at_) : (putF at_ (.int n) (pF wd q)).length = 3 := by
  have e : pF wd q = [(("word" : Str), V.str wd), (("parts" : Str), V.ref q)] := by
    unfold pF
    show (if ("word" : Str) = "parts" then _ else (("word" : Str), V.str wd) :: putF "parts" (.ref q) []) = _
    rw [if_neg (by decide +kernel)]
    rfl
  rw [e]
  show (if ("word" : Str) = at_ then _ else (("word" : Str), V.str wd) :: (if ("parts" : Str) = at_ then _ else (("parts" : Str), V.ref q) :: putF at_ (.int n) [])).length = 3
  rw [if_neg h1, if_neg h2]
  rfl
theorem bp_parts {at_ wd : Str} {n : Int} {q : Addr} (h2 : ¬ ("parts" : Str) = at_) : (putF at_ (.int n) (pF wd q)).lookup ("parts" : Str) = some (.ref q) := by
  rw [lookup_putF, if_neg h2]
  exact pF_parts wd q
theorem bp_word {at_ wd : Str} {n : Int} {q : Addr} (h1 : ¬ ("word" : Str) = at_) : (putF at_ (.int n) (pF wd q)).lookup ("word" : Str) = some (.str wd) := by
  rw [lookup_putF, if_neg h1]
  unfold pF
  rw [lookup_putF, if_neg (by decide +kernel), lookup_putF, if_pos rfl]
theorem bp_at {at_ wd : Str} {n : Int} {q : Addr} : (putF at_ (.int n) (pF wd q)).lookup at_ = some (.int n) := by
  rw [lookup_putF, if_pos rfl]
def spPapI (C : Addr) (at_ wd : Str) : Sp := fun vs H Q _ => ∃ (x dx : Addr) (n : Int), vs = [.ref x, .int n] ∧ H x = some (.ins C dx []) ∧
  ∀ H', BPat C at_ H' x wd n → (∀ b o, H b = some o → b ≠ x → H' b = some o) → Q .non H'
theorem paps (T : Txt K mg) : PapC K T.k_ByPower.a ∧ PapC K T.k_Between.a := ⟨⟨T.k_ByPower.cl, T.na_ByPower_word, T.na_ByPower_parts⟩, ⟨T.k_Between.cl, T.na_Between_word, T.na_Between_parts⟩⟩
theorem ok_ByPower__init__ (T : Txt K mg) : FnOk P w K mg base CX0 5 T.f_ByPower__init__.a T.f_ByPower__init__.fd ["self", "power"] (spPapI T.k_ByPower.a "power" "bypower") := by
  have G_Paper__init__ := ok_Paper__init__ (P := P) (w := w) (base := base) T
  refine T.f_ByPower__init__.F.ok sc_ByPower__init__ (fun vs H Q E h => ?_) (fun cdv A outer s H vs Q E hr h => ?_)
  · obtain ⟨x, dx, n, rfl, _⟩ := h
    rfl
  · obtain ⟨x, dx, n, rfl, hx, q⟩ := h
    refine ⟨_, (pss_cons (ps_expr (Ru.pe_cfn (pe_glob (v := .ref T.k_Paper.a) rfl T.k_Paper.g rfl) T.cr_Paper T.cv_Paper__init__ T.f_Paper__init__.F.kp G_Paper__init__ (hr.mono (by decide)) pass0 (pa_cons (pv 0) (pa_cons pe_str (pa_cons (pv 1) pa_nil))))) (pss_one (ps_fld (pv 0) (pe_ix ix_tup (pe_fld (pv 0) rfl) pe_int (fun _ _ => rfl)) rfl))), ?_⟩
    refine ⟨rfl, _, rfl, _, rfl, x, T.k_ByPower.a, dx, "bypower", [n], rfl, (paps T).1, hx, (by show 1 ≤ 60; decide), fun q' H' h1 h2 h3 h4 => ?_⟩
    have h3' : H' q' = some (.tup [.int n]) := h3
    have nqx : q' ≠ x := ne_of h3' h1 (fun z => nomatch z)
    refine ⟨_, rfl, x, T.k_ByPower.a, dx, _, _, rfl, h1, T.k_ByPower.cl, T.na_ByPower_parts, pF_parts _ _, q', _, 0, _, rfl, rfl, .of h3', atI_nat (j := 0) rfl, ?_⟩
    refine ⟨_, rfl, x, T.k_ByPower.a, dx, _, rfl, h1, T.k_ByPower.cl, T.na_ByPower_power, (by rw [pF_len]; decide), ?_⟩
    exact q _ ⟨dx, q', upd_same, by rw [upd_ne nqx]; exact h3'⟩ fun b o hb nb => by
      rw [upd_ne nb]
      exact h4 b o hb nb
theorem ok_Between__init__ (T : Txt K mg) : FnOk P w K mg base CX0 5 T.f_Between__init__.a T.f_Between__init__.fd ["self", "low"] (spPapI T.k_Between.a "low" "between") := by
  have G_Denial__init__ := ok_Denial__init__ (P := P) (w := w) (base := base) T
  refine T.f_Between__init__.F.ok sc_Between__init__ (fun vs H Q E h => ?_) (fun cdv A outer s H vs Q E hr h => ?_)
  · obtain ⟨x, dx, n, rfl, _⟩ := h
    rfl
  · obtain ⟨x, dx, n, rfl, hx, q⟩ := h
    refine ⟨_, (pss_cons (ps_expr (Ru.pe_cfn (pe_glob (v := .ref T.k_Denial.a) rfl T.k_Denial.g rfl) T.cr_Denial T.cv_Denial__init__ T.f_Denial__init__.F.kp G_Denial__init__ (hr.mono (by decide)) pass0 (pa_cons (pv 0) (pa_cons pe_str (pa_cons (pv 1) pa_nil))))) (pss_one (ps_fld (pv 0) (pe_ix ix_tup (pe_fld (pv 0) rfl) pe_int (fun _ _ => rfl)) rfl))), ?_⟩
    refine ⟨rfl, _, rfl, _, rfl, x, T.k_Between.a, dx, "between", [n], rfl, (paps T).2, hx, (by show 1 ≤ 60; decide), fun q' H' h1 h2 h3 h4 => ?_⟩
    have h3' : H' q' = some (.tup [.int n]) := h3
    have nqx : q' ≠ x := ne_of h3' h1 (fun z => nomatch z)
    refine ⟨_, rfl, x, T.k_Between.a, dx, _, _, rfl, h1, T.k_Between.cl, T.na_Between_parts, pF_parts _ _, q', _, 0, _, rfl, rfl, .of h3', atI_nat (j := 0) rfl, ?_⟩
    refine ⟨_, rfl, x, T.k_Between.a, dx, _, rfl, h1, T.k_Between.cl, T.na_Between_low, (by rw [pF_len]; decide), ?_⟩
    exact q _ ⟨dx, q', upd_same, by rw [upd_ne nqx]; exact h3'⟩ fun b o hb nb => by
      rw [upd_ne nb]
      exact h4 b o hb nb
def spEqB (C : Addr) (at_ : Str) : Sp := fun vs H Q _ => ∃ (x y : Addr) (wd : Str) (n : Int), vs = [.ref x, .ref y] ∧ BPat C at_ H x wd n ∧ BPat C at_ H y wd n ∧ Q (.bl true) H
theorem ok_Paper__eq__ (T : Txt K mg) : FnOk P w K mg base CX0 1 T.f_Paper__eq__.a T.f_Paper__eq__.fd ["self", "other"] (spEqB T.k_ByPower.a "power") := by
  refine T.f_Paper__eq__.F.ok sc_Paper__eq__ (fun vs H Q E h => ?_) (fun cdv A outer s H vs Q E hr h => ?_)
  · obtain ⟨x, y, wd, n, rfl, _⟩ := h
    rfl
  · obtain ⟨x, y, wd, n, rfl, ⟨dx, p, hx, hp⟩, ⟨dy, r, hy, hr'⟩, q⟩ := h
    refine ⟨_, (pss_one (ps_ret (pe_and (pe_cmpR op_is_cls (pe_callTy cr_type (by rfl) T.n_type (by decide +kernel) (pa_cons (pv 0) pa_nil)) (pe_callTy cr_type (by rfl) T.n_type (by decide +kernel) (pa_cons (pv 1) pa_nil)) (nomark _)) (pe_and (pe_cmpR op_eq (pe_fld (pv 0) rfl) (pe_fld (pv 1) rfl) (nomark _)) (pe_one (pe_cmpR (op_eqD hr.units) (pe_fld (pv 0) rfl) (pe_fld (pv 1) rfl) (nomark _))))))), ?_⟩
    have k1 : ¬ ("word" : Str) = "power" := by decide +kernel
    have k2 : ¬ ("parts" : Str) = "power" := by decide +kernel
    refine ⟨_, rfl, x, _, dx, _, rfl, hx, _, rfl, y, _, dy, _, rfl, hy, _, _, rfl, rfl, .inl rfl, true, congrArg V.bl (decide_eq_true rfl), iteT ?_⟩
    refine ⟨_, rfl, x, _, dx, _, _, rfl, hx, T.k_ByPower.cl, T.na_ByPower_word, bp_word k1, _, rfl, y, _, dy, _, _, rfl, hy, T.k_ByPower.cl, T.na_ByPower_word, bp_word k1, rfl, true, congrArg V.bl (decide_eq_true rfl), iteT ?_⟩
    refine ⟨_, rfl, x, _, dx, _, _, rfl, hx, T.k_ByPower.cl, T.na_ByPower_parts, bp_parts k2, _, rfl, y, _, dy, _, _, rfl, hy, T.k_ByPower.cl, T.na_ByPower_parts, bp_parts k2, ?_⟩
    refine ⟨.tuple [.int n], .tuple [.int n], .tup (.of hp) (.cons (.int _) .nil), .tup (.of hr') (.cons (.int _) .nil), rfl, rfl, ?_⟩
    have e : PyData.eqv (.tuple [.int n]) (.tuple [.int n]) = true := by
      simp [PyData.eqv, PyData.eqvAll]
    rw [e]
    exact q
theorem ok_Denial__eq__ (T : Txt K mg) : FnOk P w K mg base CX0 1 T.f_Denial__eq__.a T.f_Denial__eq__.fd ["self", "other"] (spEqB T.k_Between.a "low") := by
  refine T.f_Denial__eq__.F.ok sc_Denial__eq__ (fun vs H Q E h => ?_) (fun cdv A outer s H vs Q E hr h => ?_)
  · obtain ⟨x, y, wd, n, rfl, _⟩ := h
    rfl
  · obtain ⟨x, y, wd, n, rfl, ⟨dx, p, hx, hp⟩, ⟨dy, r, hy, hr'⟩, q⟩ := h
    refine ⟨_, (pss_one (ps_ret (pe_and (pe_cmpR op_is_cls (pe_callTy cr_type (by rfl) T.n_type (by decide +kernel) (pa_cons (pv 0) pa_nil)) (pe_callTy cr_type (by rfl) T.n_type (by decide +kernel) (pa_cons (pv 1) pa_nil)) (nomark _)) (pe_and (pe_cmpR op_eq (pe_fld (pv 0) rfl) (pe_fld (pv 1) rfl) (nomark _)) (pe_one (pe_cmpR (op_eqD hr.units) (pe_fld (pv 0) rfl) (pe_fld (pv 1) rfl) (nomark _))))))), ?_⟩
    have k1 : ¬ ("word" : Str) = "low" := by decide +kernel
    have k2 : ¬ ("parts" : Str) = "low" := by decide +kernel
    refine ⟨_, rfl, x, _, dx, _, rfl, hx, _, rfl, y, _, dy, _, rfl, hy, _, _, rfl, rfl, .inl rfl, true, congrArg V.bl (decide_eq_true rfl), iteT ?_⟩
    refine ⟨_, rfl, x, _, dx, _, _, rfl, hx, T.k_Between.cl, T.na_Between_word, bp_word k1, _, rfl, y, _, dy, _, _, rfl, hy, T.k_Between.cl, T.na_Between_word, bp_word k1, rfl, true, congrArg V.bl (decide_eq_true rfl), iteT ?_⟩
    refine ⟨_, rfl, x, _, dx, _, _, rfl, hx, T.k_Between.cl, T.na_Between_parts, bp_parts k2, _, rfl, y, _, dy, _, _, rfl, hy, T.k_Between.cl, T.na_Between_parts, bp_parts k2, ?_⟩
    refine ⟨.tuple [.int n], .tuple [.int n], .tup (.of hp) (.cons (.int _) .nil), .tup (.of hr') (.cons (.int _) .nil), rfl, rfl, ?_⟩
    have e : PyData.eqv (.tuple [.int n]) (.tuple [.int n]) = true := by
      simp [PyData.eqv, PyData.eqvAll]
    rw [e]
    exact q
end
end Q

namespace Q
/-! ### powers of whole numbers -/
theorem ipow_pos {x : Int} (h : 0 < x) : ∀ n : Nat, 0 < x ^ n
  | 0 => by rw [Int.pow_zero]; decide
  | n + 1 => by rw [Int.pow_succ]; exact Int.mul_pos (ipow_pos h n) h
theorem ipow_le {x y : Int} (h0 : 0 < x) (h : x ≤ y) : ∀ n : Nat, x ^ n ≤ y ^ n
  | 0 => by rw [Int.pow_zero, Int.pow_zero]; decide
  | n + 1 => by
    rw [Int.pow_succ, Int.pow_succ]
    exact Int.mul_le_mul (ipow_le h0 h n) h (by omega) (Int.le_of_lt (ipow_pos (by omega) n))
theorem diff_hi {x y : Int} (h0 : 0 < x) (h : x ≤ y) : ∀ n : Nat, y ^ (n + 1) - x ^ (n + 1) ≤ ((n : Int) + 1) * ((y - x) * y ^ n)
  | 0 => by
    rw [Int.pow_succ, Int.pow_succ, Int.pow_zero, Int.pow_zero]
    omega
  | n + 1 => by
    have ih := diff_hi h0 h n
    have e : y ^ (n + 1 + 1) - x ^ (n + 1 + 1) = (y ^ (n + 1) - x ^ (n + 1)) * y + (y - x) * x ^ (n + 1) := by
      rw [Int.pow_succ y (n + 1), Int.pow_succ x (n + 1), Int.sub_mul, Int.sub_mul, Int.mul_comm x (x ^ (n + 1))]
      rw [Int.mul_comm (x ^ (n + 1)) y]
      omega
    have h1 : (y ^ (n + 1) - x ^ (n + 1)) * y ≤ ((n : Int) + 1) * ((y - x) * y ^ n) * y := Int.mul_le_mul_of_nonneg_right ih (by omega)
    have h2 : (y - x) * x ^ (n + 1) ≤ (y - x) * y ^ (n + 1) := Int.mul_le_mul_of_nonneg_left (ipow_le h0 h _) (by omega)
    have e2 : ((n : Int) + 1) * ((y - x) * y ^ n) * y = ((n : Int) + 1) * ((y - x) * y ^ (n + 1)) := by
      rw [Int.pow_succ, Int.mul_assoc, Int.mul_assoc]
    have e3 : (((n + 1 : Nat) : Int) + 1) * ((y - x) * y ^ (n + 1)) = ((n : Int) + 1) * ((y - x) * y ^ (n + 1)) + (y - x) * y ^ (n + 1) := by
      rw [show (((n + 1 : Nat) : Int) + 1) = ((n : Int) + 1) + 1 by omega, Int.add_mul, Int.one_mul]
    omega
theorem diff_lo {x y : Int} (h0 : 0 < x) (h : x ≤ y) : ∀ n : Nat, ((n : Int) + 1) * ((y - x) * x ^ n) ≤ y ^ (n + 1) - x ^ (n + 1)
  | 0 => by
    rw [Int.pow_succ, Int.pow_succ, Int.pow_zero, Int.pow_zero]
    omega
  | n + 1 => by
    have ih := diff_lo h0 h n
    have e : y ^ (n + 1 + 1) - x ^ (n + 1 + 1) = (y ^ (n + 1) - x ^ (n + 1)) * x + (y - x) * y ^ (n + 1) := by
      rw [Int.pow_succ y (n + 1), Int.pow_succ x (n + 1), Int.sub_mul, Int.sub_mul, Int.mul_comm y (y ^ (n + 1))]
      rw [Int.mul_comm (y ^ (n + 1)) x]
      omega
    have h1 : ((n : Int) + 1) * ((y - x) * x ^ n) * x ≤ (y ^ (n + 1) - x ^ (n + 1)) * x := Int.mul_le_mul_of_nonneg_right ih (by omega)
    have h2 : (y - x) * x ^ (n + 1) ≤ (y - x) * y ^ (n + 1) := Int.mul_le_mul_of_nonneg_left (ipow_le h0 h _) (by omega)
    have e2 : ((n : Int) + 1) * ((y - x) * x ^ n) * x = ((n : Int) + 1) * ((y - x) * x ^ (n + 1)) := by
      rw [Int.pow_succ, Int.mul_assoc, Int.mul_assoc]
    have e3 : (((n + 1 : Nat) : Int) + 1) * ((y - x) * x ^ (n + 1)) = ((n : Int) + 1) * ((y - x) * x ^ (n + 1)) + (y - x) * x ^ (n + 1) := by
      rw [show (((n + 1 : Nat) : Int) + 1) = ((n : Int) + 1) + 1 by omega, Int.add_mul, Int.one_mul]
    omega
/-- four growing numbers -/
structure Gr (a b c d : Int) : Prop where
  ga : 0 < a
  gb : a < b
  gc : b ≤ c
  gd : c < d
theorem sum_step {a b c d : Int} (g : Gr a b c d) (n : Nat) (h : 0 ≤ sum0 a b c d (n + 1)) : 0 < sum0 a b c d (n + 1 + 1) := by
  have ga := g.ga
  have gb := g.gb
  have gc := g.gc
  have gd := g.gd
  unfold sum0 at h ⊢
  have hi := diff_hi (x := c) (y := d) (by omega) (by omega) n
  have lo := diff_lo (x := a) (y := b) ga (by omega) n
  have pa := ipow_pos ga n
  have pd := ipow_pos (show 0 < d by omega) n
  have ba : a ^ (n + 1) < b ^ (n + 1) := by
    have : 0 < ((n : Int) + 1) * ((b - a) * a ^ n) := Int.mul_pos (by omega) (Int.mul_pos (by omega) pa)
    omega
  have ed : d ^ (n + 1 + 1) - c ^ (n + 1 + 1) = (d ^ (n + 1) - c ^ (n + 1)) * c + (d - c) * d ^ (n + 1) := by
    rw [Int.pow_succ d (n + 1), Int.pow_succ c (n + 1), Int.sub_mul, Int.sub_mul, Int.mul_comm d (d ^ (n + 1))]
    rw [Int.mul_comm (d ^ (n + 1)) c]
    omega
  have eb : b ^ (n + 1 + 1) - a ^ (n + 1 + 1) = (b ^ (n + 1) - a ^ (n + 1)) * b + (b - a) * a ^ (n + 1) := by
    rw [Int.pow_succ b (n + 1), Int.pow_succ a (n + 1), Int.sub_mul, Int.sub_mul, Int.mul_comm a (a ^ (n + 1))]
    rw [Int.mul_comm (a ^ (n + 1)) b]
    omega
  have k1 : (b ^ (n + 1) - a ^ (n + 1)) * b ≤ (d ^ (n + 1) - c ^ (n + 1)) * c := Int.mul_le_mul (by omega) gc (by omega) (by omega)
  have k2 : (b - a) * a ^ n ≤ (d - c) * d ^ n := by
    have h3 : ((n : Int) + 1) * ((b - a) * a ^ n) ≤ ((n : Int) + 1) * ((d - c) * d ^ n) := by omega
    exact Int.le_of_mul_le_mul_left h3 (by omega)
  have pba : 0 < (b - a) * a ^ n := Int.mul_pos (by omega) pa
  have k3 : (b - a) * a ^ (n + 1) < (d - c) * d ^ (n + 1) := by
    rw [Int.pow_succ, Int.pow_succ, ← Int.mul_assoc, ← Int.mul_assoc]
    have t1 : (b - a) * a ^ n * a < (b - a) * a ^ n * d := Int.mul_lt_mul_of_pos_left (by omega) pba
    have t2 : (b - a) * a ^ n * d ≤ (d - c) * d ^ n * d := Int.mul_le_mul_of_nonneg_right k2 (by omega)
    omega
  omega
theorem two_more : ∀ k : Fin 99, 2 * ((k.val : Int)) ^ 69 ≤ ((k.val : Int) + 1) ^ 69 := by decide +kernel
theorem twice {x y : Int} (h0 : 0 < x) (h : x < y) (h9 : y ≤ 99) : 2 * x ^ 69 ≤ y ^ 69 := by
  have e := two_more ⟨x.toNat, by omega⟩
  have ex : ((x.toNat : Nat) : Int) = x := by omega
  simp only [ex] at e
  have := ipow_le (x := x + 1) (y := y) (by omega) (by omega) 69
  omega
theorem far_up {a b c d : Int} (g : Gr a b c d) (h9 : d ≤ 99) : 0 < sum0 a b c d 69 := by
  have ga := g.ga
  have gb := g.gb
  have gc := g.gc
  have gd := g.gd
  unfold sum0
  have h1 := twice (x := c) (y := d) (by omega) gd h9
  have h2 := ipow_le (x := b) (y := c) (by omega) gc 69
  have h3 := ipow_pos ga 69
  omega
/-- the four whose powers are those below 0 -/
theorem Gr.low {a b c d : Int} (g : Gr a b c d) : Gr (a * b * c) (a * b * d) (a * c * d) (b * c * d) := by
  have ga := g.ga
  have gb := g.gb
  have gc := g.gc
  have gd := g.gd
  have ab : 0 < a * b := Int.mul_pos ga (by omega)
  have cd : 0 < c * d := Int.mul_pos (by omega) (by omega)
  have ad : 0 < a * d := Int.mul_pos ga (by omega)
  refine ⟨Int.mul_pos ab (by omega), Int.mul_lt_mul_of_pos_left gd ab, ?_, ?_⟩
  · rw [show a * b * d = b * (a * d) by ac_rfl, show a * c * d = c * (a * d) by ac_rfl]
    exact Int.mul_le_mul_of_nonneg_right gc (by omega)
  · rw [Int.mul_assoc, Int.mul_assoc]
    exact Int.mul_lt_mul_of_pos_right gb cd
theorem wsum_up (a b c d : Int) (n : Nat) : wsum a b c d (n : Int) = sum0 a b c d n := by
  unfold wsum
  rw [if_neg (by omega)]
  rfl
theorem wsum_down (a b c d : Int) (n : Nat) (h : 1 ≤ n) : wsum a b c d (-(n : Int)) = sum0 (a * b * c) (a * b * d) (a * c * d) (b * c * d) n := by
  unfold wsum
  rw [if_pos (by omega), show (- -(n : Int)).toNat = n by omega]
  unfold sum0
  omega
theorem far_down {a b c d : Int} (g : Gr a b c d) (h9 : d ≤ 99) : 0 < sum0 (a * b * c) (a * b * d) (a * c * d) (b * c * d) 69 := by
  have ga := g.ga
  have gb := g.gb
  have gc := g.gc
  have gd := g.gd
  have gl := g.low
  unfold sum0
  have h1 := twice (x := a) (y := b) ga gb (by omega)
  have cd : 0 < (c * d) ^ 69 := ipow_pos (Int.mul_pos (by omega) (by omega)) 69
  have h2 : 2 * a ^ 69 * (c * d) ^ 69 ≤ b ^ 69 * (c * d) ^ 69 := Int.mul_le_mul_of_nonneg_right h1 (by omega)
  rw [Int.mul_assoc, ← Int.mul_pow, ← Int.mul_pow, ← Int.mul_assoc, ← Int.mul_assoc] at h2
  have h3 := ipow_le (x := a * b * d) (y := a * c * d) (by have := gl.ga; have := gl.gb; omega) gl.gc 69
  have h4 := ipow_pos gl.ga 69
  omega
/-! ### the first power at which a sum is not below 0 -/
structure First (F : Nat → Int) (m : Nat) : Prop where
  one : 1 ≤ m
  le : m ≤ 69
  low : ∀ j, 1 ≤ j → j < m → F j < 0
  hi : 0 ≤ F m
theorem First.uniq {F : Nat → Int} {m m' : Nat} (x : First F m) (y : First F m') : m = m' := by
  rcases Nat.lt_trichotomy m m' with h | h | h
  · have := y.low m x.one h
    have := x.hi
    omega
  · exact h
  · have := x.low m' y.one h
    have := y.hi
    omega
def ResW (F : Nat → Int) (up : Bool) (k : Bool) (n : Int) : Prop := ∃ m, First F m ∧ ((F m = 0 ∧ k = true ∧ n = (if up = true then (m : Int) else -(m : Int))) ∨ (0 < F m ∧ k = false ∧ n = (if up = true then (m : Int) - 1 else -(m : Int))))
theorem ResW.uniq {F : Nat → Int} {up k k' : Bool} {n n' : Int} (x : ResW F up k n) (y : ResW F up k' n') : k = k' ∧ n = n' := by
  obtain ⟨m, f, x⟩ := x
  obtain ⟨m', f', y⟩ := y
  have e := f.uniq f'
  subst e
  rcases x with ⟨h1, h2, h3⟩ | ⟨h1, h2, h3⟩
  · rcases y with ⟨g1, g2, g3⟩ | ⟨g1, g2, g3⟩
    · exact ⟨h2.trans g2.symm, h3.trans g3.symm⟩
    · omega
  · rcases y with ⟨g1, g2, g3⟩ | ⟨g1, g2, g3⟩
    · omega
    · exact ⟨h2.trans g2.symm, h3.trans g3.symm⟩
theorem sgn_lt {x y : Int} (h : sgn x = sgn y) : (x < 0 ↔ y < 0) ∧ (x = 0 ↔ y = 0) ∧ (0 < x ↔ 0 < y) := by
  unfold sgn at h
  split at h <;> split at h <;> (try split at h) <;> (try split at h) <;> omega
theorem First.congr {F G : Nat → Int} {m : Nat} (h : ∀ j, 1 ≤ j → j ≤ 69 → sgn (G j) = sgn (F j)) (x : First F m) : First G m := by
  refine ⟨x.one, x.le, fun j h1 h2 => ?_, ?_⟩
  · exact (sgn_lt (h j h1 (by have := x.le; omega))).1.mpr (x.low j h1 h2)
  · have e := sgn_lt (h m x.one x.le)
    have := x.hi
    omega
theorem ResW.congr {F G : Nat → Int} {up k : Bool} {n : Int} (h : ∀ j, 1 ≤ j → j ≤ 69 → sgn (G j) = sgn (F j)) (x : ResW F up k n) : ResW G up k n := by
  obtain ⟨m, f, x⟩ := x
  have e := sgn_lt (h m f.one f.le)
  refine ⟨m, f.congr h, ?_⟩
  rcases x with ⟨h1, h2, h3⟩ | ⟨h1, h2, h3⟩
  · exact .inl ⟨e.2.1.mpr h1, h2, h3⟩
  · exact .inr ⟨e.2.2.mpr h1, h2, h3⟩
/-- what is found, turned about -/
theorem ResW.flip {F : Nat → Int} {up k : Bool} {n : Int} (x : ResW F up k n) : ResW F (!up) k (if k = true then -n else -n - 1) := by
  obtain ⟨m, f, x⟩ := x
  refine ⟨m, f, ?_⟩
  rcases x with ⟨h1, h2, h3⟩ | ⟨h1, h2, h3⟩
  · refine .inl ⟨h1, h2, ?_⟩
    rw [h2, h3]
    cases up <;> simp
  · refine .inr ⟨h1, h2, ?_⟩
    rw [h2, h3]
    cases up <;> simp <;> omega
theorem First.after {F : Nat → Int} {m : Nat} (st : ∀ n, 0 ≤ F (n + 1) → 0 < F (n + 1 + 1)) (x : First F m) : ∀ i, m < i → 0 < F i := by
  intro i hi
  induction i with
  | zero => omega
  | succ i ih =>
    have h1 := x.one
    obtain ⟨j, rfl⟩ : ∃ j, i = j + 1 := ⟨i - 1, by omega⟩
    by_cases h : m = j + 1
    · exact st j (h ▸ x.hi)
    · exact st j (Int.le_of_lt (ih (by omega)))
theorem ResW.power {F : Nat → Int} {up k : Bool} {n : Int} {t : Nat} (ht : 2 ≤ t) (st : ∀ n, 0 ≤ F (n + 1) → 0 < F (n + 1 + 1)) (x : ResW F up k n) : ResW (fun j => F (t * j)) up (k && decide (n % (t : Int) = 0)) (n / (t : Int)) := by
  obtain ⟨m, f, x⟩ := x
  have h1 := f.one
  have h2 := f.le
  -- c: the least number of times t that is not below m
  obtain ⟨c, r, hc, hr⟩ : ∃ c r : Nat, t * c = m + r ∧ r < t := by
    refine ⟨(m + t - 1) / t, t * ((m + t - 1) / t) - m, ?_, ?_⟩
    · have := Nat.div_add_mod (m + t - 1) t
      have := Nat.mod_lt (m + t - 1) (show 0 < t by omega)
      omega
    · have := Nat.div_add_mod (m + t - 1) t
      have := Nat.mod_lt (m + t - 1) (show 0 < t by omega)
      omega
  have c1 : 1 ≤ c := by
    cases c with
    | zero => omega
    | succ c => omega
  have c2 : c ≤ m := by
    have : 2 * c ≤ t * c := Nat.mul_le_mul_right c ht
    by_cases h : c ≤ m
    · exact h
    · exfalso
      have h5 : t * (m + 1) ≤ t * c := Nat.mul_le_mul_left t (by omega)
      rw [Nat.mul_succ] at h5
      have h6 : 2 * m ≤ t * m := Nat.mul_le_mul_right m ht
      omega
  have fg : First (fun j => F (t * j)) c := by
    refine ⟨c1, by omega, fun j j1 j2 => ?_, ?_⟩
    · have h5 : t * (j + 1) ≤ t * c := Nat.mul_le_mul_left t (by omega)
      rw [Nat.mul_succ] at h5
      have h6 : t * 1 ≤ t * j := Nat.mul_le_mul_left t j1
      exact f.low _ (by omega) (by omega)
    · show 0 ≤ F (t * c)
      by_cases h : r = 0
      · rw [hc, h, Nat.add_zero]
        exact f.hi
      · exact Int.le_of_lt (f.after st _ (by omega))
  have hcI : (t : Int) * (c : Int) = (m : Int) + (r : Int) := by exact_mod_cast hc
  have hrI : (r : Int) < (t : Int) := by exact_mod_cast hr
  have tp : (0 : Int) < (t : Int) := by omega
  have q1 : ((m : Int) - 1) / (t : Int) = (c : Int) - 1 := by
    refine (Int.ediv_eq_iff_of_pos tp).mpr ⟨?_, ?_⟩
    · rw [Int.sub_mul, Int.mul_comm, hcI]; omega
    · rw [Int.sub_mul, Int.mul_comm, hcI]; omega
  have q2 : (-(m : Int)) / (t : Int) = -(c : Int) := by
    refine (Int.ediv_eq_iff_of_pos tp).mpr ⟨?_, ?_⟩
    · rw [Int.neg_mul, Int.mul_comm, hcI]; omega
    · rw [Int.neg_mul, Int.mul_comm, hcI]; omega
  refine ⟨c, fg, ?_⟩
  by_cases hr0 : r = 0
  · -- t divides m
    have em : (m : Int) = (t : Int) * (c : Int) := by omega
    have ec : F (t * c) = F m := by rw [hc, hr0, Nat.add_zero]
    rcases x with ⟨g1, g2, g3⟩ | ⟨g1, g2, g3⟩
    · left
      refine ⟨by show F (t * c) = 0; rw [ec]; exact g1, ?_, ?_⟩
      · rw [g2, g3]
        cases up
        · simp only [Bool.false_eq_true, if_false, Bool.true_and]
          exact decide_eq_true (by rw [em, ← Int.mul_neg]; exact Int.mul_emod_right _ _)
        · simp only [if_true, Bool.true_and]
          exact decide_eq_true (by rw [em]; exact Int.mul_emod_right _ _)
      · rw [g3]
        cases up
        · simp only [Bool.false_eq_true, if_false]
          exact q2
        · simp only [if_true]
          rw [em]
          exact Int.mul_ediv_cancel_left _ (by omega)
    · right
      refine ⟨by show 0 < F (t * c); rw [ec]; exact g1, by rw [g2]; rfl, ?_⟩
      rw [g3]
      cases up
      · simp only [Bool.false_eq_true, if_false]
        exact q2
      · simp only [if_true]
        exact q1
  · right
    refine ⟨f.after st _ (by omega), ?_, ?_⟩
    · rcases x with ⟨g1, g2, g3⟩ | ⟨g1, g2, g3⟩
      · rw [g2, g3, Bool.true_and]
        apply decide_eq_false
        intro z
        cases up
        · simp only [Bool.false_eq_true, if_false] at z
          have := Int.mul_ediv_add_emod (-(m : Int)) (t : Int)
          rw [z, q2, Int.mul_neg, hcI] at this
          omega
        · simp only [if_true] at z
          have d := Int.dvd_of_emod_eq_zero z
          have d2 : (t : Int) ∣ -(m : Int) := Int.dvd_neg.mpr d
          have z2 := Int.emod_eq_zero_of_dvd d2
          have := Int.mul_ediv_add_emod (-(m : Int)) (t : Int)
          rw [z2, q2, Int.mul_neg, hcI] at this
          omega
      · rw [g2]
        rfl
    · rcases x with ⟨g1, g2, g3⟩ | ⟨g1, g2, g3⟩
      · rw [g3]
        cases up
        · simp only [Bool.false_eq_true, if_false]
          exact q2
        · simp only [if_true]
          refine (Int.ediv_eq_iff_of_pos tp).mpr ⟨?_, ?_⟩
          · rw [Int.sub_mul, Int.mul_comm, hcI]; omega
          · rw [Int.sub_mul, Int.mul_comm, hcI]; omega
      · rw [g3]
        cases up
        · simp only [Bool.false_eq_true, if_false]
          exact q2
        · simp only [if_true]
          exact q1
end Q

namespace Q
open PySem PySem.Spec PyProof.Rows L2
section
variable {P : Program} {w : World} {K : PySem.W.Frag} {mg : Str → Option Value} {base : Heap}
/-! ### papers on powers -/
def Pap (T : Txt K mg) (H : Hp) (x : Addr) (k : Bool) (n : Int) : Prop := (k = true ∧ BPat T.k_ByPower.a "power" H x "bypower" n) ∨ (k = false ∧ BPat T.k_Between.a "low" H x "between" n)
theorem BPat.same {C : Addr} {at_ : Str} {H H' : Hp} {x : Addr} {wd : Str} {n : Int} (h : BPat C at_ H x wd n) (s : Same H H') : BPat C at_ H' x wd n := by
  obtain ⟨dx, q, h1, h2⟩ := h
  exact ⟨dx, q, s _ _ h1, s _ _ h2⟩
theorem Pap.same {T : Txt K mg} {H H' : Hp} {x : Addr} {k : Bool} {n : Int} (h : Pap T H x k n) (s : Same H H') : Pap T H' x k n := by
  rcases h with ⟨e, h⟩ | ⟨e, h⟩
  · exact .inl ⟨e, h.same s⟩
  · exact .inr ⟨e, h.same s⟩
def rPapEq {K : PySem.W.Frag} {mg : Str → Option Value} (T : Txt K mg) (r : Bool) : R2 := fun x y H Q => ∃ a b k n, x = .ref a ∧ y = .ref b ∧ Pap T H a k n ∧ Pap T H b k n ∧ Q (.bl r) H
theorem op_papNe {X : Cx} (T : Txt X.K X.mg) (G1 : FnR X.prog X.w X.K X.mg X.base CX0 1 T.f_Paper__eq__.a (spEqB T.k_ByPower.a "power")) (G2 : FnR X.prog X.w X.K X.mg X.base CX0 1 T.f_Denial__eq__.a (spEqB T.k_Between.a "low")) (hr : Room 2 X.A) :
    OpR X (compareOp .NotEq) (rPapEq T false) := by
  intro pins s σ H x y v u Q I rx ry h
  obtain ⟨a, b, k, n, rfl, rfl, ⟨e, ha⟩ | ⟨e, ha⟩, hb, q⟩ := h
  · rcases hb with ⟨_, hb⟩ | ⟨z, _⟩
    · obtain ⟨dx, p, h1, h2⟩ := id ha
      obtain ⟨dy, p', h3, h4⟩ := id hb
      exact Ru.op_neI T.eq_ByPower G1 hr pass0 pins s σ H _ _ v u Q I rx ry ⟨a, b, dx, dy, _, _, rfl, rfl, h1, h3, a, b, _, n, rfl, ha, hb, true, rfl, q⟩
    · rw [e] at z
      cases z
  · rcases hb with ⟨z, _⟩ | ⟨_, hb⟩
    · rw [e] at z
      cases z
    · obtain ⟨dx, p, h1, h2⟩ := id ha
      obtain ⟨dy, p', h3, h4⟩ := id hb
      exact Ru.op_neI T.eq_Between G2 hr pass0 pins s σ H _ _ v u Q I rx ry ⟨a, b, dx, dy, _, _, rfl, rfl, h1, h3, a, b, _, n, rfl, ha, hb, true, rfl, q⟩
theorem op_papEq {X : Cx} (T : Txt X.K X.mg) (G1 : FnR X.prog X.w X.K X.mg X.base CX0 1 T.f_Paper__eq__.a (spEqB T.k_ByPower.a "power")) (G2 : FnR X.prog X.w X.K X.mg X.base CX0 1 T.f_Denial__eq__.a (spEqB T.k_Between.a "low")) (hr : Room 1 X.A) :
    OpR X (compareOp .Eq) (rPapEq T true) := by
  intro pins s σ H x y v u Q I rx ry h
  obtain ⟨a, b, k, n, rfl, rfl, ⟨e, ha⟩ | ⟨e, ha⟩, hb, q⟩ := h
  · rcases hb with ⟨_, hb⟩ | ⟨z, _⟩
    · obtain ⟨dx, p, h1, h2⟩ := id ha
      obtain ⟨dy, p', h3, h4⟩ := id hb
      exact Ru.op_eqI T.eq_ByPower G1 hr pass0 pins s σ H _ _ v u Q I rx ry ⟨a, b, dx, dy, _, _, rfl, rfl, h1, h3, a, b, _, n, rfl, ha, hb, true, rfl, q⟩
    · rw [e] at z
      cases z
  · rcases hb with ⟨z, _⟩ | ⟨_, hb⟩
    · rw [e] at z
      cases z
    · obtain ⟨dx, p, h1, h2⟩ := id ha
      obtain ⟨dy, p', h3, h4⟩ := id hb
      exact Ru.op_eqI T.eq_Between G2 hr pass0 pins s σ H _ _ v u Q I rx ry ⟨a, b, dx, dy, _, _, rfl, rfl, h1, h3, a, b, _, n, rfl, ha, hb, true, rfl, q⟩
theorem raw_eqP (T : Txt K mg) : FnR P w K mg base CX0 1 T.f_Paper__eq__.a (spEqB T.k_ByPower.a "power") :=
  ((ok_Paper__eq__ (P := P) (w := w) (base := base) T).raw T.f_Paper__eq__.b .nil).imp fun vs H Q E h => by
    rw [List.append_nil]
    exact h
theorem raw_eqD (T : Txt K mg) : FnR P w K mg base CX0 1 T.f_Denial__eq__.a (spEqB T.k_Between.a "low") :=
  ((ok_Denial__eq__ (P := P) (w := w) (base := base) T).raw T.f_Denial__eq__.b .nil).imp fun vs H Q E h => by
    rw [List.append_nil]
    exact h
theorem made_same {H H' : Hp} {x dx : Addr} {o : HO} (hx : H x = none) (hdx : H dx = none) (kp : ∀ b u, upd (upd H dx (.own x)) x o b = some u → b ≠ x → H' b = some u) : Same H H' := fun b u h => by
  have n1 : b ≠ x := ne_of_none h hx
  have n2 : b ≠ dx := ne_of_none h hdx
  exact kp b u (by rw [upd_ne n1, upd_ne n2]; exact h) n1
def spGrowing : Sp := fun vs H Q _ => ∃ a b c d : Int, vs = [.int a, .int b, .int c, .int d] ∧ Gr a b c d ∧ d ≤ 99 ∧ Q .non H
theorem ok_need_growing (T : Txt K mg) : FnOk P w K mg base CX0 4 T.f_need_growing.a T.f_need_growing.fd ["a", "b", "c", "d"] spGrowing := by
  have G_need_within := ok_need_within (P := P) (w := w) (base := base) T
  refine T.f_need_growing.F.ok sc_need_growing (fun vs H Q E h => ?_) (fun cdv A outer s H vs Q E hr h => ?_)
  · obtain ⟨a, b, c, d, rfl, _⟩ := h
    rfl
  · obtain ⟨a, b, c, d, rfl, g, h9, q⟩ := h
    have ga := g.ga
    have gb := g.gb
    have gc := g.gc
    have gd := g.gd
    refine ⟨_, (pss_cons (ps_expr (pe_call G_need_within (hr.mono (by decide)) (by rfl) T.f_need_within.g T.f_need_within.F.kp T.f_need_within.b .nil pass0 (pa_cons pe_str (pa_cons (pv 0) (pa_cons pe_int (pa_cons (pe_glob (v := .int (99)) rfl T.c_MOST_SMALL ⟨_, rfl⟩) pa_nil)))))) (pss_cons (ps_expr (pe_call G_need_within (hr.mono (by decide)) (by rfl) T.f_need_within.g T.f_need_within.F.kp T.f_need_within.b .nil pass0 (pa_cons pe_str (pa_cons (pv 1) (pa_cons (pe_op op_add (pv 0) pe_int) (pa_cons (pe_glob (v := .int (99)) rfl T.c_MOST_SMALL ⟨_, rfl⟩) pa_nil)))))) (pss_cons (ps_expr (pe_call G_need_within (hr.mono (by decide)) (by rfl) T.f_need_within.g T.f_need_within.F.kp T.f_need_within.b .nil pass0 (pa_cons pe_str (pa_cons (pv 2) (pa_cons (pv 1) (pa_cons (pe_glob (v := .int (99)) rfl T.c_MOST_SMALL ⟨_, rfl⟩) pa_nil)))))) (pss_one (ps_expr (pe_call G_need_within (hr.mono (by decide)) (by rfl) T.f_need_within.g T.f_need_within.F.kp T.f_need_within.b .nil pass0 (pa_cons pe_str (pa_cons (pv 3) (pa_cons (pe_op op_add (pv 2) pe_int) (pa_cons (pe_glob (v := .int (99)) rfl T.c_MOST_SMALL ⟨_, rfl⟩) pa_nil)))))))))), ?_⟩
    refine ⟨_, rfl, _, a, 1, 99, rfl, by omega, by omega, ?_⟩
    refine ⟨_, rfl, _, rfl, _, _, rfl, rfl, _, b, a + 1, 99, rfl, by omega, by omega, ?_⟩
    refine ⟨_, rfl, _, rfl, _, c, b, 99, rfl, by omega, by omega, ?_⟩
    exact ⟨_, rfl, _, rfl, _, _, rfl, rfl, _, d, c + 1, 99, rfl, by omega, by omega, q⟩
def Res (a b c d : Int) (k : Bool) (n : Int) : Prop := (a * d = b * c ∧ k = true ∧ n = 0) ∨ (a * d < b * c ∧ ResW (fun j => wsum a b c d (j : Int)) true k n) ∨ (b * c < a * d ∧ ResW (fun j => wsum a b c d (-(j : Int))) false k n)
theorem Res.uniq {a b c d : Int} {k k' : Bool} {n n' : Int} (x : Res a b c d k n) (y : Res a b c d k' n') : k = k' ∧ n = n' := by
  rcases x with ⟨h1, h2, h3⟩ | ⟨h1, h2⟩ | ⟨h1, h2⟩
  · rcases y with ⟨g1, g2, g3⟩ | ⟨g1, g2⟩ | ⟨g1, g2⟩
    · exact ⟨h2.trans g2.symm, h3.trans g3.symm⟩
    · omega
    · omega
  · rcases y with ⟨g1, g2, g3⟩ | ⟨g1, g2⟩ | ⟨g1, g2⟩
    · omega
    · exact h2.uniq g2
    · omega
  · rcases y with ⟨g1, g2, g3⟩ | ⟨g1, g2⟩ | ⟨g1, g2⟩
    · omega
    · omega
    · exact h2.uniq g2
def spPower (T : Txt K mg) : Sp := fun vs H Q _ => ∃ a b c d : Int, vs = [.int a, .int b, .int c, .int d] ∧ Gr a b c d ∧ d ≤ 99 ∧
  ∀ (x : Addr) (H' : Hp) (k : Bool) (n : Int), Res a b c d k n → Pap T H' x k n → H x = none → Same H H' → Q (.ref x) H'
theorem ok_power_of (T : Txt K mg) : FnOk P w K mg base CX0 7 T.f_power_of.a T.f_power_of.fd ["a", "b", "c", "d"] (spPower T) := by
  have G_need_growing := ok_need_growing (P := P) (w := w) (base := base) T
  have G_whole_sum := ok_whole_sum (P := P) (w := w) (base := base) T
  have G_Between__init__ := ok_Between__init__ (P := P) (w := w) (base := base) T
  have G_ByPower__init__ := ok_ByPower__init__ (P := P) (w := w) (base := base) T
  refine T.f_power_of.F.ok sc_power_of (fun vs H Q E h => ?_) (fun cdv A outer s H vs Q E hr h => ?_)
  · obtain ⟨a, b, c, d, rfl, _⟩ := h
    rfl
  · obtain ⟨a, b, c, d, rfl, g, h9, q⟩ := h
    have ga := g.ga
    have gb := g.gb
    have gc := g.gc
    have gd := g.gd
    have l1 := fun {x y : Int} (hx : 1 ≤ x ∧ x ≤ 99) => (.inl ⟨by omega, by omega⟩ : CMul x y)
    have fine : ∀ p : Int, -80 ≤ p → p ≤ 80 → Fine a b c d p := fun p h1 h2 => ⟨⟨by omega, by omega⟩, ⟨by omega, by omega⟩, ⟨by omega, by omega⟩, ⟨by omega, by omega⟩, h1, h2⟩
    have mkP : ∀ (n : Int) (H0 : Hp), Same H H0 → Res a b c d true n → ∀ x dx, H0 x = none → H0 dx = none → dx ≠ x →
        spPapI T.k_ByPower.a "power" "bypower" ([V.ref x, .int n]) (upd (upd H0 dx (.own x)) x (.ins T.k_ByPower.a dx [])) (fun v H2 => v = .non ∧ Q (.ref x) H2) E0 := fun n H0 s0 r x dx hx hdx ne =>
      ⟨x, dx, n, rfl, upd_same, fun H' bp kp => ⟨rfl, q x H' true n r (.inl ⟨rfl, bp⟩) (s0.free hx) (s0.trans (made_same hx hdx kp))⟩⟩
    have mkB : ∀ (n : Int) (H0 : Hp), Same H H0 → Res a b c d false n → ∀ x dx, H0 x = none → H0 dx = none → dx ≠ x →
        spPapI T.k_Between.a "low" "between" ([V.ref x, .int n]) (upd (upd H0 dx (.own x)) x (.ins T.k_Between.a dx [])) (fun v H2 => v = .non ∧ Q (.ref x) H2) E0 := fun n H0 s0 r x dx hx hdx ne =>
      ⟨x, dx, n, rfl, upd_same, fun H' bp kp => ⟨rfl, q x H' false n r (.inr ⟨rfl, bp⟩) (s0.free hx) (s0.trans (made_same hx hdx kp))⟩⟩
    refine ⟨_, (pss_cons (ps_expr (pe_call G_need_growing (hr.mono (by decide)) (by rfl) T.f_need_growing.g T.f_need_growing.F.kp T.f_need_growing.b .nil pass0 (pa_cons (pv 0) (pa_cons (pv 1) (pa_cons (pv 2) (pa_cons (pv 3) pa_nil)))))) (pss_cons (ps_if (pt_cmpR op_eq (pe_op op_mul (pv 0) (pv 3)) (pe_op op_mul (pv 1) (pv 2)) (nomark _)) (pss_one (ps_ret (pe_make T.mk_ByPower G_ByPower__init__ (hr.mono (by decide)) (by rfl) T.k_ByPower.g T.f_ByPower__init__.b .nil pass0 (pa_cons pe_int pa_nil)))) pss_nil) (pss_cons (ps_set (i := 4) sc_power_of.nd rfl (Or.inl rfl) (pe_ifExp (pt_cmpR op_lt (pe_op op_mul (pv 0) (pv 3)) (pe_op op_mul (pv 1) (pv 2)) (nomark _)) pe_int (pe_un un_neg pe_int))) (pss_cons (ps_set (i := 5) sc_power_of.nd rfl (Or.inl rfl) (pv 4)) (pss_cons (ps_set (i := 6) sc_power_of.nd rfl (Or.inl rfl) (pe_call G_whole_sum (hr.mono (by decide)) (by rfl) T.f_whole_sum.g T.f_whole_sum.F.kp T.f_whole_sum.b .nil pass0 (pa_cons (pv 0) (pa_cons (pv 1) (pa_cons (pv 2) (pa_cons (pv 3) (pa_cons (pv 5) pa_nil))))))) (pss_cons (ps_while PassesOwn.never (pt_cmpR op_lt (pv 6) pe_int (nomark _)) (pss_cons (ps_set (i := 5) sc_power_of.nd rfl (Or.inl rfl) (pe_op op_add (pv 5) (pv 4))) (pss_one (ps_set (i := 6) sc_power_of.nd rfl (Or.inl rfl) (pe_call G_whole_sum (hr.mono (by decide)) (by rfl) T.f_whole_sum.g T.f_whole_sum.F.kp T.f_whole_sum.b .nil pass0 (pa_cons (pv 0) (pa_cons (pv 1) (pa_cons (pv 2) (pa_cons (pv 3) (pa_cons (pv 5) pa_nil)))))))))) (pss_cons (ps_if (pt_cmpR op_eq (pv 6) pe_int (nomark _)) (pss_one (ps_ret (pe_make T.mk_ByPower G_ByPower__init__ (hr.mono (by decide)) (by rfl) T.k_ByPower.g T.f_ByPower__init__.b .nil pass0 (pa_cons (pv 5) pa_nil)))) pss_nil) (pss_one (ps_ret (pe_make T.mk_Between G_Between__init__ (hr.mono (by decide)) (by rfl) T.k_Between.g T.f_Between__init__.b .nil pass0 (pa_cons (pe_ifExp (pt_cmpR op_eq (pv 4) pe_int (nomark _)) (pe_op op_sub (pv 5) pe_int) (pv 5)) pa_nil))))))))))), ?_⟩
    refine ⟨_, rfl, _, rfl, _, rfl, _, rfl, a, b, c, d, rfl, g, h9, ?_⟩
    refine ⟨_, rfl, _, rfl, _, _, rfl, rfl, l1 ⟨by omega, by omega⟩, _, rfl, _, rfl, _, _, rfl, rfl, l1 ⟨by omega, by omega⟩, rfl, _, rfl, ite2 (fun e => ?_) (fun e => ?_)⟩
    · have e0 : a * d = b * c := V.int.inj (of_decide_eq_true e)
      exact mkP 0 H (Same.refl H) (.inl ⟨e0, rfl, rfl⟩)
    have e0 : ¬ a * d = b * c := fun z => e (decide_eq_true (congrArg V.int z))
    refine ⟨_, rfl, _, rfl, _, _, rfl, rfl, l1 ⟨by omega, by omega⟩, _, rfl, _, rfl, _, _, rfl, rfl, l1 ⟨by omega, by omega⟩, _, _, rfl, rfl, _, rfl, ite2 (fun e1 => ?_) (fun e1 => ?_)⟩
    · have e2 : a * d < b * c := of_decide_eq_true e1
      have far : 0 < wsum a b c d ((69 : Nat) : Int) := by
        rw [wsum_up]
        exact far_up g h9
      refine ⟨_, rfl, ?_⟩
      refine ⟨_, rfl, _, rfl, _, rfl, _, rfl, _, rfl, a, b, c, d, 1, rfl, fine _ (by decide) (by decide), ?_⟩
      refine while_by (fun σ H' => H' = H ∧ ∃ m : Nat, σ = [some (.int a), some (.int b), some (.int c), some (.int d), some (.int 1), some (.int ((m : Int))), some (.int (wsum a b c d ((m : Int))))] ∧ 1 ≤ m ∧ m ≤ 69 ∧ ∀ j : Nat, 1 ≤ j → j < m → wsum a b c d ((j : Int)) < 0)
        (fun σ _ => match σ with
          | [_, _, _, _, _, some (.int p), _] => 100 - p.natAbs
          | _ => 0) ⟨rfl, 1, rfl, by decide, by decide, fun j h1 h2 => by omega⟩ ?_ ?_
      · rintro σ H' ⟨rfl, m, rfl, m1, m2, lo⟩
        refine ⟨_, rfl, _, _, rfl, rfl, _, rfl, ite2 (fun e3 => ?_) (fun e3 => ?_)⟩
        · have e4 : wsum a b c d ((m : Int)) < 0 := of_decide_eq_true e3
          have m3 : m ≠ 69 := fun z => by
            rw [z] at e4
            omega
          have ep : ((m : Int)) + 1 = (((m + 1 : Nat) : Int)) := by omega
          refine ⟨_, rfl, _, rfl, _, _, rfl, rfl, ?_⟩
          refine ⟨_, rfl, _, rfl, _, rfl, _, rfl, _, rfl, a, b, c, d, ((m : Int)) + 1, rfl, fine _ (by omega) (by omega), ?_⟩
          rw [ep]
          refine ⟨⟨rfl, m + 1, ?_, by omega, by omega, fun j h1 h2 => ?_⟩, ?_⟩
          · show [some (V.int a), some (.int b), some (.int c), some (.int d), some (.int 1), some (.int (((m : Int)) + 1)), some (.int (wsum a b c d (((m + 1 : Nat) : Int))))] = _
            rw [ep]
          · by_cases h : j = m
            · rw [h]
              exact e4
            · exact lo j h1 (by omega)
          · show 100 - (((m : Int)) + 1).natAbs < 100 - ((m : Int)).natAbs
            omega
        · have e4 : 0 ≤ wsum a b c d ((m : Int)) := by
            have : ¬ wsum a b c d ((m : Int)) < 0 := fun z => e3 (decide_eq_true z)
            omega
          have fi : First (fun j => wsum a b c d ((j : Int))) m := ⟨m1, m2, lo, e4⟩
          refine ⟨_, rfl, rfl, _, rfl, ite2 (fun e5 => ?_) (fun e5 => ?_)⟩
          · have e6 : wsum a b c d ((m : Int)) = 0 := V.int.inj (of_decide_eq_true e5)
            exact ⟨_, rfl, mkP ((m : Int)) H' (Same.refl _) (.inr (.inl ⟨e2, ⟨m, fi, .inl ⟨e6, rfl, rfl⟩⟩⟩))⟩
          · have e6 : 0 < wsum a b c d ((m : Int)) := by
              have : ¬ wsum a b c d ((m : Int)) = 0 := fun z => e5 (decide_eq_true (congrArg V.int z))
              omega
            refine ⟨_, rfl, rfl, _, rfl, ite2 (fun e7 => ?_) (fun e7 => absurd (decide_eq_true rfl) e7)⟩
            exact ⟨_, rfl, _, _, rfl, rfl, mkB ((m : Int) - 1) H' (Same.refl _) (.inr (.inl ⟨e2, m, fi, .inr ⟨e6, rfl, rfl⟩⟩))⟩
      · intro σ H Q Q' hq h
        obtain ⟨v, e, a, b, c, d, k, z, r⟩ := h
        exact ⟨v, e, a, b, c, d, k, z, hq _ _ r⟩
    · have e2 : b * c < a * d := by
        have : ¬ a * d < b * c := fun z => e1 (decide_eq_true z)
        omega
      have far : 0 < wsum a b c d (-((69 : Nat) : Int)) := by
        rw [wsum_down _ _ _ _ _ (by decide)]
        exact far_down g h9
      refine ⟨_, rfl, ?_⟩
      refine ⟨_, rfl, ?_⟩
      refine ⟨_, rfl, _, rfl, _, rfl, _, rfl, _, rfl, a, b, c, d, (-1), rfl, fine _ (by decide) (by decide), ?_⟩
      refine while_by (fun σ H' => H' = H ∧ ∃ m : Nat, σ = [some (.int a), some (.int b), some (.int c), some (.int d), some (.int (-1)), some (.int (-(m : Int))), some (.int (wsum a b c d (-(m : Int))))] ∧ 1 ≤ m ∧ m ≤ 69 ∧ ∀ j : Nat, 1 ≤ j → j < m → wsum a b c d (-(j : Int)) < 0)
        (fun σ _ => match σ with
          | [_, _, _, _, _, some (.int p), _] => 100 - p.natAbs
          | _ => 0) ⟨rfl, 1, rfl, by decide, by decide, fun j h1 h2 => by omega⟩ ?_ ?_
      · rintro σ H' ⟨rfl, m, rfl, m1, m2, lo⟩
        refine ⟨_, rfl, _, _, rfl, rfl, _, rfl, ite2 (fun e3 => ?_) (fun e3 => ?_)⟩
        · have e4 : wsum a b c d (-(m : Int)) < 0 := of_decide_eq_true e3
          have m3 : m ≠ 69 := fun z => by
            rw [z] at e4
            omega
          have ep : (-(m : Int)) + (-1) = (-((m + 1 : Nat) : Int)) := by omega
          refine ⟨_, rfl, _, rfl, _, _, rfl, rfl, ?_⟩
          refine ⟨_, rfl, _, rfl, _, rfl, _, rfl, _, rfl, a, b, c, d, (-(m : Int)) + (-1), rfl, fine _ (by omega) (by omega), ?_⟩
          rw [ep]
          refine ⟨⟨rfl, m + 1, ?_, by omega, by omega, fun j h1 h2 => ?_⟩, ?_⟩
          · show [some (V.int a), some (.int b), some (.int c), some (.int d), some (.int (-1)), some (.int ((-(m : Int)) + (-1))), some (.int (wsum a b c d (-((m + 1 : Nat) : Int))))] = _
            rw [ep]
          · by_cases h : j = m
            · rw [h]
              exact e4
            · exact lo j h1 (by omega)
          · show 100 - ((-(m : Int)) + (-1)).natAbs < 100 - (-(m : Int)).natAbs
            omega
        · have e4 : 0 ≤ wsum a b c d (-(m : Int)) := by
            have : ¬ wsum a b c d (-(m : Int)) < 0 := fun z => e3 (decide_eq_true z)
            omega
          have fi : First (fun j => wsum a b c d (-(j : Int))) m := ⟨m1, m2, lo, e4⟩
          refine ⟨_, rfl, rfl, _, rfl, ite2 (fun e5 => ?_) (fun e5 => ?_)⟩
          · have e6 : wsum a b c d (-(m : Int)) = 0 := V.int.inj (of_decide_eq_true e5)
            exact ⟨_, rfl, mkP (-(m : Int)) H' (Same.refl _) (.inr (.inr ⟨e2, ⟨m, fi, .inl ⟨e6, rfl, rfl⟩⟩⟩))⟩
          · have e6 : 0 < wsum a b c d (-(m : Int)) := by
              have : ¬ wsum a b c d (-(m : Int)) = 0 := fun z => e5 (decide_eq_true (congrArg V.int z))
              omega
            refine ⟨_, rfl, rfl, _, rfl, ite2 (fun e7 => absurd (of_decide_eq_true e7) (by decide)) (fun e7 => ?_)⟩
            exact ⟨_, rfl, mkB (-(m : Int)) H' (Same.refl _) (.inr (.inr ⟨e2, m, fi, .inr ⟨e6, rfl, rfl⟩⟩))⟩
      · intro σ H Q Q' hq h
        obtain ⟨v, e, a, b, c, d, k, z, r⟩ := h
        exact ⟨v, e, a, b, c, d, k, z, hq _ _ r⟩
end
end Q

namespace Q
open PySem PySem.Spec PyProof.Rows L2
section
variable {P : Program} {w : World} {K : PySem.W.Frag} {mg : Str → Option Value} {base : Heap}
def In (m x : Int) : Prop := 1 ≤ x ∧ x ≤ m
def L4 (x1 x2 x3 x4 : Int) : List V := [.int x1, .int x2, .int x3, .int x4]
/-- i numbers from 1 to m are drawn into the list at D -/
def Draws (H0 H : Hp) (a c D : Addr) (n i : Nat) (m : Int) : Prop := ∃ xs : List Int, H D = some (.lst (xs.map V.int)) ∧ xs.length = i ∧ (∀ x ∈ xs, In m x) ∧ Hat H a c (n + 2 * i) ∧ But a H0 H
theorem Draws.start {H : Hp} {a c D : Addr} {n : Nat} {m : Int} (hh : Hat H a c n) (hD : H D = none) : Draws H (upd H D (.lst [])) a c D n 0 m :=
  ⟨[], upd_same, rfl, fun _ h => absurd h (by simp), hh.upd (hh.neA hD) (hh.neC hD), .of (same_upd hD)⟩
theorem Draws.next {H0 H H1 : Hp} {a c D : Addr} {n i : Nat} {m y : Int} (h : Draws H0 H a c D n i m) (hh0 : Hat H0 a c n) (hD : H0 D = none) (hi : i < 100) (hh1 : Hat H1 a c (n + 2 * i + 2)) (b : But a H H1) (hy : In m y) :
    ∃ acc, H1 D = some (.lst acc) ∧ acc.length < sizeLine ∧ Draws H0 (upd H1 D (.lst (acc ++ [.int y]))) a c D n (i + 1) m := by
  obtain ⟨xs, e, el, hx, _, bb⟩ := h
  have nA := hh0.neA hD
  have nC := hh0.neC hD
  refine ⟨_, b _ _ e nA, ?_, xs ++ [y], ?_, ?_, ?_, ?_, ?_⟩
  · rw [List.length_map, el]
    exact small1000 (by omega)
  · rw [upd_same, List.map_append]
    rfl
  · rw [List.length_append, el]
    rfl
  · intro x hx'
    rcases List.mem_append.mp hx' with z | z
    · exact hx x z
    · rw [List.mem_singleton.mp z]
      exact hy
  · have := hh1.upd (o := .lst (xs.map V.int ++ [.int y])) nA nC
    exact this.mono (by omega)
  · intro p o hp np
    have npD : p ≠ D := ne_of_none hp hD
    rw [upd_ne npD]
    exact b _ _ (bb _ _ hp np) np
theorem Draws.four {H0 H : Hp} {a c D : Addr} {n : Nat} {m : Int} (h : Draws H0 H a c D n 4 m) : ∃ x1 x2 x3 x4, H D = some (.lst (L4 x1 x2 x3 x4)) ∧ (In m x1 ∧ In m x2 ∧ In m x3 ∧ In m x4) ∧ Hat H a c (n + 8) ∧ But a H0 H := by
  obtain ⟨xs, e, el, hx, hh, bb⟩ := h
  match xs, el with
  | [x1, x2, x3, x4], _ => exact ⟨x1, x2, x3, x4, e, ⟨hx _ (by simp), hx _ (by simp), hx _ (by simp), hx _ (by simp)⟩, hh, bb⟩
def Ok4 (x1 x2 x3 x4 : Int) : Prop := In 1000000 x1 ∧ In 1000000 x2 ∧ In 1000000 x3 ∧ In 1000000 x4
theorem prod_in {x y p q : Int} (hx : 1 ≤ x ∧ x ≤ p) (hy : 1 ≤ y ∧ y ≤ q) : 1 ≤ x * y ∧ x * y ≤ p * q := by
  constructor
  · have : 0 < x * y := Int.mul_pos (by omega) (by omega)
    omega
  · exact Int.mul_le_mul hx.2 hy.2 (by omega) (by omega)

end
end Q

namespace Q
open PySem PySem.Spec PyProof.Rows L2
theorem ipow_lt {x y : Int} (h0 : 0 < x) (h : x < y) : ∀ n : Nat, x ^ (n + 1) < y ^ (n + 1)
  | 0 => by rw [Int.pow_succ, Int.pow_succ, Int.pow_zero, Int.pow_zero]; omega
  | n + 1 => by
    rw [Int.pow_succ x (n + 1), Int.pow_succ y (n + 1)]
    have h1 := ipow_lt h0 h n
    have h2 := ipow_pos (show 0 < y by omega) (n + 1)
    have h3 := ipow_pos h0 (n + 1)
    have e1 : x ^ (n + 1) * x ≤ y ^ (n + 1) * x := Int.mul_le_mul_of_nonneg_right (by omega) (by omega)
    have e2 : y ^ (n + 1) * x < y ^ (n + 1) * y := Int.mul_lt_mul_of_pos_left h h2
    omega
theorem id1 (A B C D P : Int) : A*B*C + B*C*D - A*B*D - A*C*D = (B-P)*(C*A + (C-A)*D) + (C-P)*(P*A+(P-A)*D) + P*(P*D+P*A-2*A*D) := by grind
theorem lem64 {A B C D P N : Int} (hA : 0 < A) (hAP : A < P) (hB : P ≤ B) (hC : P ≤ C) (hD : D ≤ N) (hD0 : 0 < D) (k : 2*A*N < N*P + A*P) : 0 < A*B*C + B*C*D - A*B*D - A*C*D := by
  rw [id1 A B C D P]
  have h1 : 0 ≤ (B-P)*(C*A + (C-A)*D) := Int.mul_nonneg (by omega) (Int.add_nonneg (Int.mul_nonneg (by omega) (by omega)) (Int.mul_nonneg (by omega) (by omega)))
  have h2 : 0 ≤ (C-P)*(P*A+(P-A)*D) := Int.mul_nonneg (by omega) (Int.add_nonneg (Int.mul_nonneg (by omega) (by omega)) (Int.mul_nonneg (by omega) (by omega)))
  have h4 : 0 < P*A := Int.mul_pos (by omega) hA
  have e1 : P*D+P*A-2*A*D = P*A + (P-2*A)*D := by grind
  have h3 : 0 < P*(P*D+P*A-2*A*D) := by
    refine Int.mul_pos (by omega) ?_
    rw [e1]
    by_cases h : 2*A ≤ P
    · have : 0 ≤ (P-2*A)*D := Int.mul_nonneg (by omega) (by omega)
      omega
    · have h5 : 0 ≤ (2*A-P)*(N-D) := Int.mul_nonneg (by omega) (by omega)
      have e2 : P*A + (P-2*A)*D = (2*A-P)*(N-D) + (N*P+A*P-2*A*N) := by grind
      omega
  omega
theorem near99 : ∀ k : Fin 98, 2 * ((k.val : Int)) ^ 64 * 99 ^ 64 < 99 ^ 64 * ((k.val : Int) + 1) ^ 64 + (k.val : Int) ^ 64 * ((k.val : Int) + 1) ^ 64 := by decide +kernel
theorem far64 {a b c d : Int} (g : Gr a b c d) (h9 : d ≤ 99) : 0 < sum0 (a * b * c) (a * b * d) (a * c * d) (b * c * d) 64 := by
  have ga := g.ga
  have gb := g.gb
  have gc := g.gc
  have gd := g.gd
  unfold sum0
  have e := near99 ⟨a.toNat, by omega⟩
  have ex : ((a.toNat : Nat) : Int) = a := by omega
  simp only [ex] at e
  simp only [Int.mul_pow]
  exact lem64 (P := (a + 1) ^ 64) (N := 99 ^ 64) (ipow_pos ga 64) (ipow_lt ga (by omega) 63) (ipow_le (by omega) (by omega) 64) (ipow_le (by omega) (by omega) 64) (ipow_le (by omega) (by omega) 64) (ipow_pos (by omega) 64) e
theorem one_down {a b c d : Int} (g : Gr a b c d) (h : a * d ≤ b * c) : 0 < sum0 (a * b * c) (a * b * d) (a * c * d) (b * c * d) 1 := by
  have ga := g.ga
  have gb := g.gb
  have gc := g.gc
  have gd := g.gd
  unfold sum0
  simp only [Int.pow_succ, Int.pow_zero, Int.one_mul]
  have e : a * b * c + b * c * d - a * b * d - a * c * d = (b*c-a*d)*a + ((b-a)*(c-a))*d := by grind
  have h1 : 0 ≤ (b*c-a*d)*a := Int.mul_nonneg (by omega) (by omega)
  have h2 : 0 < ((b-a)*(c-a))*d := Int.mul_pos (Int.mul_pos (by omega) (by omega)) (by omega)
  omega
theorem one_up {a b c d : Int} (g : Gr a b c d) (h : b * c ≤ a * d) : 0 < sum0 a b c d 1 := by
  have ga := g.ga
  have gb := g.gb
  have gc := g.gc
  have gd := g.gd
  unfold sum0
  simp only [Int.pow_succ, Int.pow_zero, Int.one_mul]
  have e : d * (a + d - b - c) = (a*d-b*c) + (d-b)*(d-c) := by grind
  have h2 : 0 < (d-b)*(d-c) := Int.mul_pos (by omega) (by omega)
  exact Int.pos_of_mul_pos_right (a := d) (by omega) (by omega)
/-! ### the signs at the powers from 1 to 80 -/
def sigs (F : Nat → Int) : List Int := (List.range 80).map fun i => sgn (F (i + 1))
def pat (m : Nat) (s : Int) : List Int := List.replicate (m - 1) (-1) ++ (s :: List.replicate (80 - m) 1)
theorem sigs_len (F : Nat → Int) : (sigs F).length = 80 := by simp [sigs]
theorem sigs_pat {F : Nat → Int} {m : Nat} (x : First F m) (aft : ∀ i, m < i → 0 < F i) : sigs F = pat m (sgn (F m)) := by
  have h1 := x.one
  have h2 := x.le
  refine List.ext_getElem ?_ fun i p q => ?_
  · simp only [sigs_len, pat, List.length_append, List.length_replicate, List.length_cons]
    omega
  · simp only [sigs, List.getElem_map, List.getElem_range, pat, List.getElem_append, List.length_replicate]
    split
    · rename_i h
      have := x.low (i + 1) (by omega) (by omega)
      rw [List.getElem_replicate]
      unfold sgn
      rw [if_neg (by omega), if_neg (by omega)]
    · rename_i h
      by_cases e : i = m - 1
      · subst e
        simp only [Nat.sub_self, List.getElem_cons_zero]
        rw [show m - 1 + 1 = m by omega]
      · obtain ⟨j, ej⟩ : ∃ j, i - (m - 1) = j + 1 := ⟨i - (m - 1) - 1, by omega⟩
        simp only [ej, List.getElem_cons_succ, List.getElem_replicate]
        have := aft (i + 1) (by omega)
        unfold sgn
        rw [if_neg (by omega), if_pos this]
theorem sgn01 {x : Int} (h : 0 ≤ x) : (x = 0 ∧ sgn x = 0) ∨ (0 < x ∧ sgn x = 1) := by
  unfold sgn
  by_cases e : x = 0
  · exact .inl ⟨e, if_pos e⟩
  · exact .inr ⟨by omega, by rw [if_neg e, if_pos (by omega)]⟩
theorem pat_len {m : Nat} {s : Int} (h1 : 1 ≤ m) (h2 : m ≤ 69) : (pat m s).length = 80 := by
  simp only [pat, List.length_append, List.length_replicate, List.length_cons]
  omega
theorem pat_count {m : Nat} {s : Int} (h : s = 0 ∨ s = 1) : (pat m s).count (-1) = m - 1 := by
  unfold pat
  rw [List.count_append, List.count_replicate_self, List.count_cons_of_ne (by rcases h with rfl | rfl <;> decide), List.count_replicate]
  rfl
theorem pat_take {m : Nat} {s : Int} : (pat m s).take (m - 1) = List.replicate (m - 1) (-1) := by
  unfold pat
  rw [List.take_append_of_le_length (by simp), List.take_of_length_le (by simp)]
theorem pat_drop {m : Nat} {s : Int} : (pat m s).drop (m - 1) = s :: List.replicate (80 - m) 1 := by
  unfold pat
  rw [List.drop_append_of_le_length (by simp), List.drop_of_length_le (by simp)]
  rfl
theorem pat_at {m : Nat} {s : Int} : (pat m s)[m - 1]? = some s := by
  unfold pat
  rw [List.getElem?_append_right (by simp)]
  simp
theorem pat_zero {m : Nat} {s : Int} (h : m = 1) : (pat m s)[0]? = some s := by
  subst h
  rfl
theorem sigs_at (F : Nat → Int) {p : Nat} (h1 : 1 ≤ p) (h2 : p ≤ 80) : (sigs F)[p - 1]? = some (sgn (F p)) := by
  unfold sigs
  rw [List.getElem?_map, List.getElem?_range (by omega)]
  show some (sgn (F (p - 1 + 1))) = _
  rw [show p - 1 + 1 = p by omega]
theorem dpInts {K : PySem.W.Frag} {H : Hp} : ∀ xs : List Int, DpAll K H (xs.map V.int) (xs.map PyData.int)
  | [] => .nil
  | x :: xs => .cons (.int x) (dpInts xs)
theorem eqInts : ∀ xs : List Int, PyData.eqvAll (xs.map PyData.int) (xs.map PyData.int) = true
  | [] => rfl
  | x :: xs => by
    rw [List.map_cons, PyData.eqvAll, eqInts xs]
    simp [PyData.eqv]
/-- where the up and the down sums first are not below 0 -/
structure Both (a b c d : Int) (m n : Nat) : Prop where
  up : First (fun j => sum0 a b c d j) m
  dn : First (fun j => sum0 (a * b * c) (a * b * d) (a * c * d) (b * c * d) j) n
theorem first_ex (F : Nat → Int) : ∀ k j : Nat, 1 ≤ j → j + k = 69 → 0 ≤ F 69 → (∀ i, 1 ≤ i → i < j → F i < 0) → ∃ m, First F m
  | 0, j, h1, h2, h3, h4 => ⟨j, h1, by omega, h4, by rw [show j = 69 by omega]; exact h3⟩
  | k + 1, j, h1, h2, h3, h4 => by
    by_cases h : 0 ≤ F j
    · exact ⟨j, h1, by omega, h4, h⟩
    · refine first_ex F k (j + 1) (by omega) (by omega) h3 fun i i1 i2 => ?_
      by_cases e : i = j
      · rw [e]
        omega
      · exact h4 i i1 (by omega)
theorem Gr.up1 {a b c d : Int} (g : Gr a b c d) (h9 : d ≤ 99) : ∃ m, First (fun j => sum0 a b c d j) m := first_ex _ 68 1 (by omega) rfl (Int.le_of_lt (far_up g h9)) fun i h1 h2 => by omega
theorem Gr.dn1 {a b c d : Int} (g : Gr a b c d) (h9 : d ≤ 99) : ∃ m, First (fun j => sum0 (a * b * c) (a * b * d) (a * c * d) (b * c * d) j) m := first_ex _ 68 1 (by omega) rfl (Int.le_of_lt (far_down g h9)) fun i h1 h2 => by omega
theorem first_one {F : Nat → Int} {m : Nat} (x : First F m) (h : 0 < F 1) : m = 1 := by
  have := x.one
  by_cases e : m = 1
  · exact e
  · have := x.low 1 (by omega) (by omega)
    omega
/-- the sums that a law reckons: those of (b c d, a c d, a b d, a b c) -/
theorem sum0_turn (x y z u : Int) (n : Nat) : sum0 x y z u n = sum0 u z y x n := by
  unfold sum0
  omega
end Q

namespace Q
open PySem PySem.Spec PyProof.Rows L2
section
variable {P : Program} {w : World} {K : PySem.W.Frag} {mg : Str → Option Value} {base : Heap}
def spTru (x : Bool) : Sp := fun vs H Q _ => ∃ a : Addr, vs = [.ref a] ∧ Q (.bl x) H
theorem ok_Paper__bool__ (T : Txt K mg) : FnOk P w K mg base CX0 1 T.f_Paper__bool__.a T.f_Paper__bool__.fd ["self"] (spTru true) := by
  refine T.f_Paper__bool__.F.ok sc_Paper__bool__ (fun vs H Q E h => ?_) (fun cdv A outer s H vs Q E hr h => ?_)
  · obtain ⟨a, rfl, _⟩ := h
    rfl
  · obtain ⟨a, rfl, q⟩ := h
    refine ⟨_, (pss_one (ps_ret pe_bl)), ?_⟩
    exact q
theorem ok_Denial__bool__ (T : Txt K mg) : FnOk P w K mg base CX0 1 T.f_Denial__bool__.a T.f_Denial__bool__.fd ["self"] (spTru false) := by
  refine T.f_Denial__bool__.F.ok sc_Denial__bool__ (fun vs H Q E h => ?_) (fun cdv A outer s H vs Q E hr h => ?_)
  · obtain ⟨a, rfl, _⟩ := h
    rfl
  · obtain ⟨a, rfl, q⟩ := h
    refine ⟨_, (pss_one (ps_ret pe_bl)), ?_⟩
    exact q
theorem raw_bP (T : Txt K mg) : FnR P w K mg base CX0 1 T.f_Paper__bool__.a (spTru true) :=
  ((ok_Paper__bool__ (P := P) (w := w) (base := base) T).raw T.f_Paper__bool__.b .nil).imp fun vs H Q E h => by
    rw [List.append_nil]
    exact h
theorem raw_bD (T : Txt K mg) : FnR P w K mg base CX0 1 T.f_Denial__bool__.a (spTru false) :=
  ((ok_Denial__bool__ (P := P) (w := w) (base := base) T).raw T.f_Denial__bool__.b .nil).imp fun vs H Q E h => by
    rw [List.append_nil]
    exact h
/-- Res with k = false: what is_between tells -/
theorem ne_cls (T : Txt K mg) : T.k_Between.a ≠ T.k_ByPower.a := fun e => by
  have := T.is_ByPower_Between
  rw [e, T.is_ByPower_ByPower] at this
  cases this
/-- the powers near and far, as is_between takes them -/
theorem res_near {a b c d n : Int} (R : Res a b c d false n) : (a * d < b * c ∧ 0 ≤ n ∧ n ≤ 68 ∧ (n = 0 ∨ wsum a b c d n < 0) ∧ 0 < wsum a b c d (n + 1)) ∨
    (b * c < a * d ∧ n < 0 ∧ -69 ≤ n ∧ (n + 1 = 0 ∨ wsum a b c d (n + 1) < 0) ∧ 0 < wsum a b c d n) := by
  rcases R with ⟨_, h, _⟩ | ⟨h, m, f, R⟩ | ⟨h, m, f, R⟩
  · cases h
  · rcases R with ⟨_, h2, _⟩ | ⟨h1, _, h3⟩
    · cases h2
    · have e : n = (m : Int) - 1 := h3
      have f1 := f.one
      have f2 := f.le
      refine .inl ⟨h, by omega, by omega, ?_, ?_⟩
      · by_cases z : m = 1
        · exact .inl (by omega)
        · have := f.low (m - 1) (by omega) (by omega)
          rw [show (((m - 1 : Nat) : Int)) = n by omega] at this
          exact .inr this
      · rw [show n + 1 = (m : Int) by omega]
        exact h1
  · rcases R with ⟨_, h2, _⟩ | ⟨h1, _, h3⟩
    · cases h2
    · have e : n = -(m : Int) := h3
      have f1 := f.one
      have f2 := f.le
      refine .inr ⟨h, by omega, by omega, ?_, ?_⟩
      · by_cases z : m = 1
        · exact .inl (by omega)
        · have := f.low (m - 1) (by omega) (by omega)
          rw [show -(((m - 1 : Nat) : Int)) = n + 1 by omega] at this
          exact .inr this
      · rw [e]
        exact h1
def spBetw : Sp := fun vs H Q _ => ∃ a b c d n : Int, vs = [.int a, .int b, .int c, .int d, .int n] ∧ Gr a b c d ∧ d ≤ 99 ∧ Res a b c d false n ∧ ∀ H', Same H H' → Q (.bl true) H'
theorem ok_is_between (T : Txt K mg) : FnOk P w K mg base CX0 4 T.f_is_between.a T.f_is_between.fd ["a", "b", "c", "d", "low"] spBetw := by
  have G_whole_sum := ok_whole_sum (P := P) (w := w) (base := base) T
  refine T.f_is_between.F.ok sc_is_between (fun vs H Q E h => ?_) (fun cdv A outer s H vs Q E hr h => ?_)
  · obtain ⟨a, b, c, d, n, rfl, _⟩ := h
    rfl
  · obtain ⟨a, b, c, d, n, rfl, g, h9, R, q⟩ := h
    have ga := g.ga
    have gb := g.gb
    have gc := g.gc
    have gd := g.gd
    have l1 := fun {x y : Int} (hx : 1 ≤ x ∧ x ≤ 99) => (.inl ⟨by omega, by omega⟩ : CMul x y)
    have fine : ∀ p : Int, -80 ≤ p → p ≤ 80 → Fine a b c d p := fun p h1 h2 => ⟨⟨by omega, by omega⟩, ⟨by omega, by omega⟩, ⟨by omega, by omega⟩, ⟨by omega, by omega⟩, h1, h2⟩
    refine ⟨_, (pss_cons (ps_if (PW.pt (pw_or (pt_cmpR op_eq (pe_op op_mul (pv 0) (pv 3)) (pe_op op_mul (pv 1) (pv 2)) (nomark _)) (pw_or1 (pt_cmpR op_ne (pe_cmpR op_lt (pe_op op_mul (pv 0) (pv 3)) (pe_op op_mul (pv 1) (pv 2)) (nomark _)) (pe_cmpR op_ge (pv 4) pe_int (nomark _)) (nomark _))))) (pss_one (ps_ret pe_bl)) pss_nil) (pss_cons (ps_asg (pe_ifExp (pt_cmpR op_ge (pv 4) pe_int (nomark _)) (pe_tup (pa_cons (pv 4) (pa_cons (pe_op op_add (pv 4) pe_int) pa_nil))) (pe_tup (pa_cons (pe_op op_add (pv 4) pe_int) (pa_cons (pv 4) pa_nil)))) (pg_tup rfl (pgs_cons (pg_name (i := 5) sc_is_between.nd rfl (Or.inl rfl)) (pgs_cons (pg_name (i := 6) sc_is_between.nd rfl (Or.inl rfl)) pgs_nil)))) (pss_one (ps_ret (pe_and (pe_or (pe_cmpR op_eq (pv 5) pe_int (nomark _)) (pe_one (pe_cmpR op_lt (pe_call G_whole_sum (hr.mono (by decide)) (by rfl) T.f_whole_sum.g T.f_whole_sum.F.kp T.f_whole_sum.b .nil pass0 (pa_cons (pv 0) (pa_cons (pv 1) (pa_cons (pv 2) (pa_cons (pv 3) (pa_cons (pv 5) pa_nil)))))) pe_int (nomark _)))) (pe_one (pe_cmpR op_gt (pe_call G_whole_sum (hr.mono (by decide)) (by rfl) T.f_whole_sum.g T.f_whole_sum.F.kp T.f_whole_sum.b .nil pass0 (pa_cons (pv 0) (pa_cons (pv 1) (pa_cons (pv 2) (pa_cons (pv 3) (pa_cons (pv 6) pa_nil)))))) pe_int (nomark _)))))))), ?_⟩
    refine ⟨_, rfl, _, rfl, _, _, rfl, rfl, l1 ⟨by omega, by omega⟩, _, rfl, _, rfl, _, _, rfl, rfl, l1 ⟨by omega, by omega⟩, rfl, ?_⟩
    rcases res_near R with ⟨e, n0, n1, hn, hf⟩ | ⟨e, n0, n1, hn, hf⟩
    · refine ⟨false, congrArg V.bl (decide_eq_false fun z => by have := V.int.inj z; omega), iteF ?_⟩
      refine ⟨_, rfl, _, rfl, _, _, rfl, rfl, l1 ⟨by omega, by omega⟩, _, rfl, _, rfl, _, _, rfl, rfl, l1 ⟨by omega, by omega⟩, _, _, rfl, rfl, ?_⟩
      refine ⟨_, rfl, _, _, rfl, rfl, rfl, false, congrArg V.bl ?_, iteF ?_⟩
      · show (!decide (V.bl (decide (a * d < b * c)) = V.bl (decide (0 ≤ n)))) = false
        rw [decide_eq_true e, decide_eq_true n0]
        rfl
      refine ⟨_, rfl, _, _, rfl, rfl, true, congrArg V.bl (decide_eq_true n0), iteT ?_⟩
      refine ⟨_, rfl, _, rfl, _, _, rfl, rfl, sz2, fun p hp => ⟨p, _, rfl, .of upd_same, rfl, _, _, rfl, _, _, rfl, rfl, ?_⟩⟩
      have sm := same_upd (o := .tup [.int (n), .int (n + 1)]) hp
      have fin : tOp (rI0 fun i j => V.bl (decide (j < i))) (tCall spSum [] E0 (tCons (tVar 0) (tCons (tVar 1) (tCons (tVar 2) (tCons (tVar 3) (tCons (tVar 6) tNil)))))) (tC (V.int 0)) [some (.int a), some (.int b), some (.int c), some (.int d), some (.int n), some (.int (n)), some (.int (n + 1))] (upd H p (.tup [.int (n), .int (n + 1)])) (fun v H' => Q v H') :=
        ⟨_, rfl, _, rfl, _, rfl, _, rfl, _, rfl, a, b, c, d, n + 1, rfl, fine _ (by omega) (by omega), _, _, rfl, rfl, (by show Q (V.bl (decide (0 < wsum a b c d (n + 1)))) _; rw [decide_eq_true hf]; exact q _ sm)⟩
      refine ⟨_, rfl, rfl, ?_⟩
      by_cases z : n = 0
      · exact ⟨true, congrArg V.bl (decide_eq_true (congrArg V.int z)), iteT ⟨true, rfl, iteT fin⟩⟩
      · refine ⟨false, congrArg V.bl (decide_eq_false fun y => z (V.int.inj y)), iteF ?_⟩
        have hn' := hn.resolve_left z
        refine ⟨_, rfl, _, rfl, _, rfl, _, rfl, _, rfl, a, b, c, d, n, rfl, fine _ (by omega) (by omega), _, _, rfl, rfl, true, congrArg V.bl (decide_eq_true hn'), iteT fin⟩
    · refine ⟨false, congrArg V.bl (decide_eq_false fun z => by have := V.int.inj z; omega), iteF ?_⟩
      refine ⟨_, rfl, _, rfl, _, _, rfl, rfl, l1 ⟨by omega, by omega⟩, _, rfl, _, rfl, _, _, rfl, rfl, l1 ⟨by omega, by omega⟩, _, _, rfl, rfl, ?_⟩
      refine ⟨_, rfl, _, _, rfl, rfl, rfl, false, congrArg V.bl ?_, iteF ?_⟩
      · show (!decide (V.bl (decide (a * d < b * c)) = V.bl (decide (0 ≤ n)))) = false
        rw [decide_eq_false (show ¬ a * d < b * c by omega), decide_eq_false (show ¬ 0 ≤ n by omega)]
        rfl
      refine ⟨_, rfl, _, _, rfl, rfl, false, congrArg V.bl (decide_eq_false (show ¬ 0 ≤ n by omega)), iteF ?_⟩
      refine ⟨_, rfl, _, _, rfl, rfl, _, rfl, sz2, fun p hp => ⟨p, _, rfl, .of upd_same, rfl, _, _, rfl, _, _, rfl, rfl, ?_⟩⟩
      have sm := same_upd (o := .tup [.int (n + 1), .int (n)]) hp
      have fin : tOp (rI0 fun i j => V.bl (decide (j < i))) (tCall spSum [] E0 (tCons (tVar 0) (tCons (tVar 1) (tCons (tVar 2) (tCons (tVar 3) (tCons (tVar 6) tNil)))))) (tC (V.int 0)) [some (.int a), some (.int b), some (.int c), some (.int d), some (.int n), some (.int (n + 1)), some (.int (n))] (upd H p (.tup [.int (n + 1), .int (n)])) (fun v H' => Q v H') :=
        ⟨_, rfl, _, rfl, _, rfl, _, rfl, _, rfl, a, b, c, d, n, rfl, fine _ (by omega) (by omega), _, _, rfl, rfl, (by show Q (V.bl (decide (0 < wsum a b c d (n)))) _; rw [decide_eq_true hf]; exact q _ sm)⟩
      refine ⟨_, rfl, rfl, ?_⟩
      by_cases z : n + 1 = 0
      · exact ⟨true, congrArg V.bl (decide_eq_true (congrArg V.int z)), iteT ⟨true, rfl, iteT fin⟩⟩
      · refine ⟨false, congrArg V.bl (decide_eq_false fun y => z (V.int.inj y)), iteF ?_⟩
        have hn' := hn.resolve_left z
        refine ⟨_, rfl, _, rfl, _, rfl, _, rfl, _, rfl, a, b, c, d, n + 1, rfl, fine _ (by omega) (by omega), _, _, rfl, rfl, true, congrArg V.bl (decide_eq_true hn'), iteT fin⟩
def spShows (T : Txt K mg) : Sp := fun vs H Q _ => ∃ (a b c d n : Int) (x : Addr), vs = [.int a, .int b, .int c, .int d, .ref x] ∧ Gr a b c d ∧ d ≤ 99 ∧ Res a b c d false n ∧ Pap T H x false n ∧ ∀ H', Same H H' → Q (.bl true) H'
theorem ok_shows_power (T : Txt K mg) : FnOk P w K mg base CX0 5 T.f_shows_power.a T.f_shows_power.fd ["a", "b", "c", "d", "value"] (spShows T) := by
  have G_need_growing := ok_need_growing (P := P) (w := w) (base := base) T
  have G_is_between := ok_is_between (P := P) (w := w) (base := base) T
  have G_is_within := ok_is_within (P := P) (w := w) (base := base) T
  have G_is_by_power := ok_is_by_power (P := P) (w := w) (base := base) T
  refine T.f_shows_power.F.ok sc_shows_power (fun vs H Q E h => ?_) (fun cdv A outer s H vs Q E hr h => ?_)
  · obtain ⟨a, b, c, d, n, x, rfl, _⟩ := h
    rfl
  · obtain ⟨a, b, c, d, n, x, rfl, g, h9, R, hp, q⟩ := h
    refine ⟨_, (pss_cons (ps_expr (pe_call G_need_growing (hr.mono (by decide)) (by rfl) T.f_need_growing.g T.f_need_growing.F.kp T.f_need_growing.b .nil pass0 (pa_cons (pv 0) (pa_cons (pv 1) (pa_cons (pv 2) (pa_cons (pv 3) pa_nil)))))) (pss_cons (ps_if (pt_cmpR op_is_cls (pe_callTy cr_type (by rfl) T.n_type (by decide +kernel) (pa_cons (pv 4) pa_nil)) (pe_glob (v := .ref T.k_ByPower.a) rfl T.k_ByPower.g rfl) (nomark _)) (pss_one (ps_ret (pe_and (pe_call G_is_within (hr.mono (by decide)) (by rfl) T.f_is_within.g T.f_is_within.F.kp T.f_is_within.b .nil pass0 (pa_cons (pe_fld (pv 4) rfl) (pa_cons (pe_glob (v := .int (-80)) rfl T.c_LEAST_POWER ⟨_, rfl⟩) (pa_cons (pe_glob (v := .int (80)) rfl T.c_MOST_POWER ⟨_, rfl⟩) pa_nil)))) (pe_one (pe_call G_is_by_power (hr.mono (by decide)) (by rfl) T.f_is_by_power.g T.f_is_by_power.F.kp T.f_is_by_power.b .nil pass0 (pa_cons (pv 0) (pa_cons (pv 1) (pa_cons (pv 2) (pa_cons (pv 3) (pa_cons (pe_fld (pv 4) rfl) pa_nil)))))))))) pss_nil) (pss_cons (ps_if (PW.pt (pw_or (pt_cmpR op_isnot_cls (pe_callTy cr_type (by rfl) T.n_type (by decide +kernel) (pa_cons (pv 4) pa_nil)) (pe_glob (v := .ref T.k_Between.a) rfl T.k_Between.g rfl) (nomark _)) (pw_or1 (pt_not (pt_val (pe_call G_is_within (hr.mono (by decide)) (by rfl) T.f_is_within.g T.f_is_within.F.kp T.f_is_within.b .nil pass0 (pa_cons (pe_fld (pv 4) rfl) (pa_cons (pe_glob (v := .int (-80)) rfl T.c_LEAST_POWER ⟨_, rfl⟩) (pa_cons (pe_op op_sub (pe_glob (v := .int (80)) rfl T.c_MOST_POWER ⟨_, rfl⟩) pe_int) pa_nil))))))))) (pss_one (ps_ret pe_bl)) pss_nil) (pss_one (ps_ret (pe_call G_is_between (hr.mono (by decide)) (by rfl) T.f_is_between.g T.f_is_between.F.kp T.f_is_between.b .nil pass0 (pa_cons (pv 0) (pa_cons (pv 1) (pa_cons (pv 2) (pa_cons (pv 3) (pa_cons (pe_fld (pv 4) rfl) pa_nil))))))))))), ?_⟩
    obtain ⟨z, _⟩ | ⟨_, bp⟩ := id hp
    · cases z
    obtain ⟨dx, p, hx, htp⟩ := id bp
    have rn : -80 ≤ n ∧ n ≤ 79 := by
      rcases res_near R with ⟨_, h1, h2, _⟩ | ⟨_, h1, h2, _⟩ <;> omega
    refine ⟨_, rfl, _, rfl, _, rfl, _, rfl, a, b, c, d, rfl, g, h9, ?_⟩
    refine ⟨_, rfl, x, _, dx, _, rfl, hx, _, _, rfl, rfl, .inr ⟨T.mk_Between.makes, T.mk_ByPower.makes⟩, false, congrArg V.bl (decide_eq_false (ne_cls T)), iteF ?_⟩
    refine ⟨_, rfl, x, _, dx, _, rfl, hx, _, _, rfl, rfl, .inl rfl, false, congrArg V.bl (by rw [decide_eq_true rfl]; rfl), iteF ?_⟩
    refine ⟨_, rfl, x, _, dx, _, _, rfl, hx, T.k_Between.cl, T.na_Between_low, bp_at, _, _, rfl, rfl, n, -80, 79, rfl, true, congrArg V.bl (decide_eq_true rn), iteF ?_⟩
    exact ⟨_, rfl, _, rfl, _, rfl, _, rfl, _, rfl, x, _, dx, _, _, rfl, hx, T.k_Between.cl, T.na_Between_low, bp_at, a, b, c, d, n, rfl, g, h9, R, q⟩
def spAny : Sp := fun vs H Q _ => ∃ (a c : Addr) (n : Nat), vs = [.ref a] ∧ Hat H a c n ∧ n ≤ 999000 ∧
  ∀ (l : Addr) (x1 x2 x3 x4 : Int) (H' : Hp), Gr x1 x2 x3 x4 → x4 ≤ 99 → H' l = some (.lst (L4 x1 x2 x3 x4)) → H l = none → Hat H' a c (n + 4) → But a H H' → Q (.ref l) H'
theorem ok__law_any (T : Txt K mg) : FnOk P w K mg base CX0 2 T.f__law_any.a T.f__law_any.fd ["_law_hat_here"] spAny := by
  have G__law_lot := ok__law_lot (P := P) (w := w) (base := base) T
  refine T.f__law_any.F.ok sc__law_any (fun vs H Q E h => ?_) (fun cdv A outer s H vs Q E hr h => ?_)
  · obtain ⟨a, c, n, rfl, _⟩ := h
    rfl
  · obtain ⟨a, c, n, rfl, hh, hn, q⟩ := h
    refine ⟨_, (pss_cons (ps_set (i := 1) sc__law_any.nd rfl (Or.inl rfl) (pe_op op_add pe_int (pe_call G__law_lot (hr.mono (by decide)) (by rfl) T.f__law_lot.g T.f__law_lot.F.kp T.f__law_lot.b .nil pass0 (pa_cons (pv 0) (pa_cons pe_int pa_nil))))) (pss_cons (ps_set (i := 2) sc__law_any.nd rfl (Or.inl rfl) (pe_op op_add (pe_op op_add (pv 1) pe_int) (pe_call G__law_lot (hr.mono (by decide)) (by rfl) T.f__law_lot.g T.f__law_lot.F.kp T.f__law_lot.b .nil pass0 (pa_cons (pv 0) (pa_cons (pe_op op_sub pe_int (pv 1)) pa_nil))))) (pss_cons (ps_set (i := 3) sc__law_any.nd rfl (Or.inl rfl) (pe_op op_add (pv 2) (pe_call G__law_lot (hr.mono (by decide)) (by rfl) T.f__law_lot.g T.f__law_lot.F.kp T.f__law_lot.b .nil pass0 (pa_cons (pv 0) (pa_cons (pe_op op_sub pe_int (pv 2)) pa_nil))))) (pss_one (ps_ret (pe_lst (pa_cons (pv 1) (pa_cons (pv 2) (pa_cons (pv 3) (pa_cons (pe_op op_add (pe_op op_add (pv 3) pe_int) (pe_call G__law_lot (hr.mono (by decide)) (by rfl) T.f__law_lot.g T.f__law_lot.F.kp T.f__law_lot.b .nil pass0 (pa_cons (pv 0) (pa_cons (pe_op op_sub pe_int (pv 3)) pa_nil)))) pa_nil)))))))))), ?_⟩
    refine ⟨_, rfl, a, c, n, 96, rfl, hh, by omega, by omega, by omega, fun d1 H1 p1 p1' hh1 b1 => ?_⟩
    refine ⟨_, _, rfl, rfl, ?_⟩
    refine ⟨_, rfl, _, _, rfl, rfl, _, rfl, _, rfl, _, _, rfl, rfl, a, c, n + 1, 98 - (1 + d1), rfl, hh1, by omega, by omega, by omega, fun d2 H2 p2 p2' hh2 b2 => ?_⟩
    refine ⟨_, _, rfl, rfl, ?_⟩
    refine ⟨_, rfl, _, rfl, _, rfl, _, _, rfl, rfl, a, c, n + 2, 99 - (1 + d1 + 1 + d2), rfl, hh2, by omega, by omega, by omega, fun d3 H3 p3 p3' hh3 b3 => ?_⟩
    refine ⟨_, _, rfl, rfl, ?_⟩
    refine ⟨_, rfl, _, rfl, _, rfl, _, rfl, _, _, rfl, rfl, _, rfl, _, rfl, _, _, rfl, rfl, a, c, n + 3, 99 - (1 + d1 + 1 + d2 + d3), rfl, hh3, by omega, by omega, by omega, fun d4 H4 p4 p4' hh4 b4 => ?_⟩
    refine ⟨_, _, rfl, rfl, sz4, fun l hl => ?_⟩
    have bb := ((b1.trans b2).trans b3).trans b4
    exact q l (1 + d1) (1 + d1 + 1 + d2) (1 + d1 + 1 + d2 + d3) (1 + d1 + 1 + d2 + d3 + 1 + d4) _ ⟨by omega, by omega, by omega, by omega⟩ (by omega) upd_same (bb.free hh4 hl) (hh4.upd (hh4.neA hl) (hh4.neC hl)) (bb.trans (.of (same_upd hl)))
def grows (a b c d : Int) : Bool := decide (0 < a) && decide (a < b) && decide (b ≤ c) && decide (c < d) && decide (d < 100)
theorem grows_gr {a b c d : Int} (h : grows a b c d = true) : Gr a b c d ∧ d ≤ 99 := by
  simp only [grows, Bool.and_eq_true, decide_eq_true_eq] at h
  exact ⟨⟨h.1.1.1.1, h.1.1.1.2, h.1.1.2, h.1.2⟩, by omega⟩
def spGrows (K : PySem.W.Frag) : Sp := fun vs H Q _ => ∃ (l : Addr) (a b c d : Int), vs = [.ref l] ∧ SqL K H l (L4 a b c d) ∧ Q (.bl (grows a b c d)) H
theorem ok__law_grows (T : Txt K mg) : FnOk P w K mg base CX0 1 T.f__law_grows.a T.f__law_grows.fd ["_law_four_here"] (spGrows K) := by
  refine T.f__law_grows.F.ok sc__law_grows (fun vs H Q E h => ?_) (fun cdv A outer s H vs Q E hr h => ?_)
  · obtain ⟨l, a, b, c, d, rfl, _⟩ := h
    rfl
  · obtain ⟨l, a, b, c, d, rfl, hl, q⟩ := h
    refine ⟨_, (pss_cons (ps_asg (pv 0) (pg_lst rfl (pgs_cons (pg_name (i := 1) sc__law_grows.nd rfl (Or.inl rfl)) (pgs_cons (pg_name (i := 2) sc__law_grows.nd rfl (Or.inl rfl)) (pgs_cons (pg_name (i := 3) sc__law_grows.nd rfl (Or.inl rfl)) (pgs_cons (pg_name (i := 4) sc__law_grows.nd rfl (Or.inl rfl)) pgs_nil)))))) (pss_one (ps_ret (Ru.pe_chainN pe_int (Ru.pec_link op_lt (pv 1) (Ru.pec_link op_lt (pv 2) (Ru.pec_link op_le (pv 3) (Ru.pec_link op_lt (pv 4) (Ru.pec_last op_lt pe_int))))))))), ?_⟩
    refine ⟨_, rfl, l, _, rfl, hl, rfl, _, _, rfl, _, _, rfl, _, _, rfl, _, _, rfl, rfl, ?_⟩
    have no : ∀ {p : Prop} [Decidable p], ¬ decide p = true → (Gr a b c d → d ≤ 99 → p) → Q (.bl false) H := fun e h => by
      have z : grows a b c d = false := Bool.eq_false_iff.mpr fun h2 => e (decide_eq_true (h (grows_gr h2).1 (grows_gr h2).2))
      rw [z] at q
      exact q
    refine ⟨_, rfl, _, _, rfl, rfl, _, rfl, ite2 (fun e1 => ?_) (fun e1 => no e1 fun g _ => g.ga)⟩
    refine ⟨_, rfl, _, _, rfl, rfl, _, rfl, ite2 (fun e2 => ?_) (fun e2 => no e2 fun g _ => g.gb)⟩
    refine ⟨_, rfl, _, _, rfl, rfl, _, rfl, ite2 (fun e3 => ?_) (fun e3 => no e3 fun g _ => g.gc)⟩
    refine ⟨_, rfl, _, _, rfl, rfl, _, rfl, ite2 (fun e4 => ?_) (fun e4 => no e4 fun g _ => g.gd)⟩
    refine ⟨_, _, rfl, rfl, ?_⟩
    have z : grows a b c d = decide (d < 100) := by
      unfold grows
      rw [show decide (0 < a) = true from e1, show decide (a < b) = true from e2, show decide (b ≤ c) = true from e3, show decide (c < d) = true from e4]
      rfl
    rw [z] at q
    exact q
end
end Q

namespace Q
open PySem PySem.Spec PyProof.Rows L2
section
variable {P : Program} {w : World} {K : PySem.W.Frag} {mg : Str → Option Value} {base : Heap}
def spSigns : Sp := fun vs H Q _ => ∃ x y z u : Int, vs = [.int x, .int y, .int z, .int u] ∧ (Sm x ∧ Sm y ∧ Sm z ∧ Sm u) ∧ ∀ (l : Addr) (H' : Hp), H l = none → H' l = some (.lst ((sigs fun j => sum0 x y z u j).map V.int)) → Same H H' → Q (.ref l) H'
theorem ok__law_signs (T : Txt K mg) : FnOk P w K mg base CX0 1 T.f__law_signs.a T.f__law_signs.fd ["_law_a", "_law_b", "_law_c", "_law_d"] spSigns := by
  refine T.f__law_signs.F.ok sc__law_signs (fun vs H Q E h => ?_) (fun cdv A outer s H vs Q E hr h => ?_)
  · obtain ⟨x, y, z, u, rfl, _⟩ := h
    rfl
  · obtain ⟨x, y, z, u, rfl, ⟨hx, hy, hz, hu⟩, q⟩ := h
    refine ⟨_, (pss_cons (ps_asg (pe_tup (pa_cons pe_int (pa_cons pe_int (pa_cons pe_int (pa_cons pe_int (pa_cons (pe_lst pa_nil) pa_nil)))))) (pg_tup rfl (pgs_cons (pg_name (i := 4) sc__law_signs.nd rfl (Or.inl rfl)) (pgs_cons (pg_name (i := 5) sc__law_signs.nd rfl (Or.inl rfl)) (pgs_cons (pg_name (i := 6) sc__law_signs.nd rfl (Or.inl rfl)) (pgs_cons (pg_name (i := 7) sc__law_signs.nd rfl (Or.inl rfl)) (pgs_cons (pg_name (i := 8) sc__law_signs.nd rfl (Or.inl rfl)) pgs_nil))))))) (pss_cons (ps_for PassesOwn.never rfl (pi_range1 rfl T.n_range (pa_cons pe_int pa_nil)) (pg_name (i := 9) sc__law_signs.nd rfl (Or.inl rfl)) (pss_cons (ps_asg (pe_tup (pa_cons (pe_op op_mulW (pv 4) (pv 0)) (pa_cons (pe_op op_mulW (pv 5) (pv 1)) (pa_cons (pe_op op_mulW (pv 6) (pv 2)) (pa_cons (pe_op op_mulW (pv 7) (pv 3)) pa_nil))))) (pg_tup rfl (pgs_cons (pg_name (i := 4) sc__law_signs.nd rfl (Or.inl rfl)) (pgs_cons (pg_name (i := 5) sc__law_signs.nd rfl (Or.inl rfl)) (pgs_cons (pg_name (i := 6) sc__law_signs.nd rfl (Or.inl rfl)) (pgs_cons (pg_name (i := 7) sc__law_signs.nd rfl (Or.inl rfl)) pgs_nil)))))) (pss_cons (ps_set (i := 10) sc__law_signs.nd rfl (Or.inl rfl) (pe_op op_sub (pe_op op_sub (pe_op op_add (pv 4) (pv 7)) (pv 5)) (pv 6))) (pss_one (ps_expr (pe_bm PySem.F.plainAttrs_list PySem.F.slot_list_append PySem.F.type_list_append mt_append (pv 8) (pa_cons (pe_op op_sub (pe_callTy call_int1 (by rfl) T.n_int (by decide +kernel) (pa_cons (pe_cmpR op_gt (pv 10) pe_int (nomark _)) pa_nil)) (pe_callTy call_int1 (by rfl) T.n_int (by decide +kernel) (pa_cons (pe_cmpR op_lt (pv 10) pe_int (nomark _)) pa_nil))) pa_nil))))))) (pss_one (ps_ret (pv 8))))), ?_⟩
    have sgx : ∀ v : Int, (if decide (0 < v) = true then (1 : Int) else 0) - (if decide (v < 0) = true then 1 else 0) = sgn v := fun v => by
      unfold sgn
      by_cases h1 : v = 0
      · subst h1
        rfl
      · by_cases h2 : 0 < v
        · rw [decide_eq_true h2, decide_eq_false (show ¬ v < 0 by omega), if_neg h1, if_pos h2]
          rfl
        · rw [decide_eq_false h2, decide_eq_true (show v < 0 by omega), if_neg h1, if_neg h2]
          rfl
    have wm : ∀ {v : Int} (i : Nat), Sm v → i < 80 → CMulW (v ^ i) v := fun {v} i hv hi =>
      wide_mul (Nat.lt_of_lt_of_le (pow_lt (e := i) hv) (Nat.pow_le_pow_right (by decide) (show 64 * i + 1 ≤ 64 * 100 + 1 by omega))) hv (by decide) (by decide) (by decide)
    refine ⟨Nat.zero_le _, fun l hl => ⟨sz5, fun p hp => ⟨p, _, rfl, .of upd_same, rfl, _, _, rfl, _, _, rfl, _, _, rfl, _, _, rfl, _, _, rfl, rfl, ?_⟩⟩⟩
    have npl : l ≠ p := fun z => by rw [z, upd_same] at hp; cases hp
    refine ⟨80, rfl, by decide, by decide, for_range (lo := 0) (n := 80) (fun i σ H' => Same H H' ∧ H' l = some (.lst (((sigs fun j => sum0 x y z u j).take i).map V.int)) ∧ ∃ y1 y2, σ = [some (.int x), some (.int y), some (.int z), some (.int u), some (.int (x ^ i)), some (.int (y ^ i)), some (.int (z ^ i)), some (.int (u ^ i)), some (.ref l), y1, y2])
      ⟨(same_upd hl).trans (same_upd hp), by rw [upd_ne npl, upd_same]; rfl, none, none, by simp only [Int.pow_zero]; rfl⟩ ?_ ?_⟩
    · rintro i σ H' hi ⟨s1, e1, y1, y2, rfl⟩
      refine ⟨_, rfl, _, rfl, _, _, rfl, rfl, wm i hx hi, _, rfl, _, rfl, _, _, rfl, rfl, wm i hy hi, _, rfl, _, rfl, _, _, rfl, rfl, wm i hz hi, _, rfl, _, rfl, _, _, rfl, rfl, wm i hu hi, sz4, fun p2 hp2 => ⟨p2, _, rfl, .of upd_same, rfl, _, _, rfl, _, _, rfl, _, _, rfl, _, _, rfl, rfl, ?_⟩⟩
      refine ⟨_, rfl, _, rfl, _, _, rfl, rfl, _, rfl, _, _, rfl, rfl, _, rfl, _, _, rfl, rfl, ?_⟩
      have npl2 : l ≠ p2 := fun z => by rw [z] at e1; rw [e1] at hp2; cases hp2
      have el : upd H' p2 (.tup [.int (x ^ i * x), .int (y ^ i * y), .int (z ^ i * z), .int (u ^ i * u)]) l = some (.lst (((sigs fun j => sum0 x y z u j).take i).map V.int)) := by rw [upd_ne npl2]; exact e1
      have ln := sigs_len fun j => sum0 x y z u j
      refine ⟨_, rfl, .inl ⟨rfl, _, .of el⟩, _, rfl, _, _, rfl, rfl, .inr ⟨_, rfl, _, rfl, _, _, rfl, rfl, .inr ⟨_, rfl, _, _, rfl, rfl, l, _, _, rfl, rfl, el, ?_, ?_⟩⟩⟩
      · rw [List.length_map, List.length_take, ln]
        exact small1000 (by omega)
      have s2 : Same H (upd H' p2 (.tup [.int (x ^ i * x), .int (y ^ i * y), .int (z ^ i * z), .int (u ^ i * u)])) := s1.trans (same_upd hp2)
      refine ⟨fun b o hb => ?_, ?_, some (.int (0 + (i : Int))), some (.int (x ^ i * x + u ^ i * u - y ^ i * y - z ^ i * z)), ?_⟩
      · rw [upd_ne (ne_of_none hb hl)]
        exact s2 b o hb
      · rw [upd_same, List.take_add_one, List.map_append]
        have g := sigs_at (fun j => sum0 x y z u j) (p := i + 1) (by omega) (by omega)
        rw [show i + 1 - 1 = i from rfl] at g
        rw [g]
        refine congrArg (fun q => some (HO.lst (_ ++ [q]))) ?_
        refine congrArg V.int ?_
        refine (sgx _).trans (congrArg sgn ?_)
        unfold sum0
        rw [Int.pow_succ, Int.pow_succ, Int.pow_succ, Int.pow_succ]
      · simp only [Int.pow_succ]
        rfl
    · rintro σ H' ⟨s1, e1, y1, y2, rfl⟩
      have ln := sigs_len fun j => sum0 x y z u j
      rw [List.take_of_length_le (by omega)] at e1
      exact ⟨_, rfl, q l H' hl e1 s1⟩
def spBoth : Sp := fun vs H Q _ => ∃ a b c d : Int, vs = [.int a, .int b, .int c, .int d] ∧ Gr a b c d ∧ d ≤ 99 ∧ ∀ (l l' p : Addr) (H' : Hp),
  H' l = some (.lst ((sigs fun j => sum0 a b c d j).map V.int)) → H' l' = some (.lst ((sigs fun j => sum0 (a * b * c) (a * b * d) (a * c * d) (b * c * d) j).map V.int)) → H' p = some (.tup [.ref l, .ref l']) → H l = none → H l' = none → Same H H' → Q (.ref p) H'
theorem ok__law_both (T : Txt K mg) : FnOk P w K mg base CX0 2 T.f__law_both.a T.f__law_both.fd ["_law_a", "_law_b", "_law_c", "_law_d"] spBoth := by
  have G__law_signs := ok__law_signs (P := P) (w := w) (base := base) T
  refine T.f__law_both.F.ok sc__law_both (fun vs H Q E h => ?_) (fun cdv A outer s H vs Q E hr h => ?_)
  · obtain ⟨a, b, c, d, rfl, _⟩ := h
    rfl
  · obtain ⟨a, b, c, d, rfl, g, h9, q⟩ := h
    refine ⟨_, (pss_one (ps_ret (pe_tup (pa_cons (pe_call G__law_signs (hr.mono (by decide)) (by rfl) T.f__law_signs.g T.f__law_signs.F.kp T.f__law_signs.b .nil pass0 (pa_cons (pv 0) (pa_cons (pv 1) (pa_cons (pv 2) (pa_cons (pv 3) pa_nil))))) (pa_cons (pe_call G__law_signs (hr.mono (by decide)) (by rfl) T.f__law_signs.g T.f__law_signs.F.kp T.f__law_signs.b .nil pass0 (pa_cons (pe_op op_mul (pe_op op_mul (pv 1) (pv 2)) (pv 3)) (pa_cons (pe_op op_mul (pe_op op_mul (pv 0) (pv 2)) (pv 3)) (pa_cons (pe_op op_mul (pe_op op_mul (pv 0) (pv 1)) (pv 3)) (pa_cons (pe_op op_mul (pe_op op_mul (pv 0) (pv 1)) (pv 2)) pa_nil))))) pa_nil))))), ?_⟩
    have ga := g.ga
    have gb := g.gb
    have gc := g.gc
    have gd := g.gd
    have s9 : ∀ {v : Int}, 1 ≤ v ∧ v ≤ 99 → Sm v := fun {v} h => (show v.natAbs < 2 ^ 64 by omega)
    have l1 := fun {x y : Int} (hx : 1 ≤ x ∧ x ≤ 99) => (.inl ⟨by omega, by omega⟩ : CMul x y)
    have p2 : ∀ {x y : Int}, 1 ≤ x ∧ x ≤ 99 → 1 ≤ y ∧ y ≤ 99 → 1 ≤ x * y ∧ x * y ≤ 99 * 99 := prod_in
    have p3 : ∀ {x y z : Int}, 1 ≤ x ∧ x ≤ 99 → 1 ≤ y ∧ y ≤ 99 → 1 ≤ z ∧ z ≤ 99 → 1 ≤ x * y * z ∧ x * y * z ≤ 99 * 99 * 99 := fun h1 h2 h3 => prod_in (p2 h1 h2) h3
    have l2 := fun {x y z : Int} (hx : 1 ≤ x ∧ x ≤ 99) (hy : 1 ≤ y ∧ y ≤ 99) => (.inl (by have := p2 hx hy; exact ⟨by omega, by omega⟩) : CMul (x * y) z)
    have s3 : ∀ {x y z : Int}, 1 ≤ x ∧ x ≤ 99 → 1 ≤ y ∧ y ≤ 99 → 1 ≤ z ∧ z ≤ 99 → Sm (x * y * z) := fun {x y z} h1 h2 h3 => by
      have := p3 h1 h2 h3
      show (x * y * z).natAbs < 2 ^ 64
      omega
    have A : 1 ≤ a ∧ a ≤ 99 := ⟨by omega, by omega⟩
    have B : 1 ≤ b ∧ b ≤ 99 := ⟨by omega, by omega⟩
    have C : 1 ≤ c ∧ c ≤ 99 := ⟨by omega, by omega⟩
    have D : 1 ≤ d ∧ d ≤ 99 := ⟨by omega, by omega⟩
    refine ⟨_, rfl, _, rfl, _, rfl, _, rfl, a, b, c, d, rfl, ⟨s9 A, s9 B, s9 C, s9 D⟩, fun l H1 hl e1 s1 => ?_⟩
    refine ⟨_, rfl, _, rfl, _, _, rfl, rfl, l1 B, _, rfl, _, _, rfl, rfl, l2 B C, ?_⟩
    refine ⟨_, rfl, _, rfl, _, _, rfl, rfl, l1 A, _, rfl, _, _, rfl, rfl, l2 A C, ?_⟩
    refine ⟨_, rfl, _, rfl, _, _, rfl, rfl, l1 A, _, rfl, _, _, rfl, rfl, l2 A B, ?_⟩
    refine ⟨_, rfl, _, rfl, _, _, rfl, rfl, l1 A, _, rfl, _, _, rfl, rfl, l2 A B, ?_⟩
    refine ⟨b * c * d, a * c * d, a * b * d, a * b * c, rfl, ⟨s3 B C D, s3 A C D, s3 A B D, s3 A B C⟩, fun l' H2 hl' e2 s2 => ⟨sz2, fun p hp => ?_⟩⟩
    have sm := same_upd (o := .tup [.ref l, .ref l']) hp
    have e3 : (sigs fun j => sum0 (b * c * d) (a * c * d) (a * b * d) (a * b * c) j) = sigs fun j => sum0 (a * b * c) (a * b * d) (a * c * d) (b * c * d) j := congrArg sigs (funext fun j => sum0_turn _ _ _ _ j)
    rw [e3] at e2
    exact q l l' p _ (sm _ _ (s2 _ _ e1)) (sm _ _ e2) upd_same hl (s1.free hl') ((s1.trans s2).trans sm)
theorem sqlS {K : PySem.W.Frag} {H H' : Hp} {a : Addr} {xs : List V} (h : SqL K H a xs) (s : Same H H') : SqL K H' a xs := by
  rcases h with (h | ⟨o, h⟩) | h
  · exact .inl (.inl (s _ _ h))
  · exact .inl (.inr ⟨o, s _ _ h⟩)
  · exact .inr h
theorem cut_from (xs : List V) (k : Nat) : cutV xs (some (k : Int)) none = xs.drop k := by
  unfold cutV
  rw [HT.sIx_nat, HT.sIx_none, List.take_of_length_le (by rw [List.length_drop]; omega)]
  by_cases h : k ≤ xs.length
  · rw [Nat.min_eq_left h]
  · rw [Nat.min_eq_right (by omega), List.drop_length, List.drop_of_length_le (by omega)]
theorem cut_to (xs : List V) (k : Nat) : cutV xs none (some (k : Int)) = xs.take k := by
  unfold cutV
  rw [HT.sIx_nat, HT.sIx_none, List.drop_zero, Nat.sub_zero]
  by_cases h : k ≤ xs.length
  · rw [Nat.min_eq_left h]
  · rw [Nat.min_eq_right (by omega), List.take_length, List.take_of_length_le (by omega)]
theorem rep_one (n : Nat) (x : Int) : (List.replicate n [V.int x]).flatten = (List.replicate n x).map V.int := by
  induction n with
  | zero => rfl
  | succ n ih => rw [List.replicate_succ, List.flatten_cons, ih, List.replicate_succ]; rfl
theorem eqv_ints (xs : List Int) : PyData.eqv (.list (xs.map PyData.int)) (.list (xs.map PyData.int)) = true := by
  rw [PyData.eqv]
  exact eqInts xs
theorem updAt {H : Hp} {p : Addr} (o : HO) (_ : H p = none) : upd H p o p = some o := upd_same
def spPat (K : PySem.W.Frag) : Sp := fun vs H Q _ => ∃ (l : Addr) (m : Nat) (s : Int), vs = [.ref l] ∧ 1 ≤ m ∧ m ≤ 69 ∧ (s = 0 ∨ s = 1) ∧ SqL K H l ((pat m s).map V.int) ∧ ∀ H', Same H H' → Q (.bl true) H'
theorem ok__law_is_pattern (T : Txt K mg) : FnOk P w K mg base CX0 1 T.f__law_is_pattern.a T.f__law_is_pattern.fd ["_law_signs_here"] (spPat K) := by
  refine T.f__law_is_pattern.F.ok sc__law_is_pattern (fun vs H Q E h => ?_) (fun cdv A outer s H vs Q E hr h => ?_)
  · obtain ⟨l, m, s, rfl, _⟩ := h
    rfl
  · obtain ⟨l, m, s, rfl, m1, m2, hs, hl, q⟩ := h
    refine ⟨_, (pss_cons (ps_set (i := 1) sc__law_is_pattern.nd rfl (Or.inl rfl) (pe_bm PySem.F.plainAttrs_list PySem.F.slot_list_count PySem.F.type_list_count mt_lcount (pv 0) (pa_cons (pe_un un_neg pe_int) pa_nil))) (pss_cons (ps_set (i := 2) sc__law_is_pattern.nd rfl (Or.inl rfl) (pe_slice sl_list (pv 0) (po_some (pv 1)) po_none)) (pss_cons (ps_if (PW.pt (pw_or (pt_cmpR (op_neD hr.units) (pe_slice sl_list (pv 0) po_none (po_some (pv 1))) (pe_op op_rep (pe_lst (pa_cons (pe_un un_neg pe_int) pa_nil)) (pv 1)) (nomark _)) (pw_or1 (pt_cmpR (op_eqD hr.units) (pv 2) (pe_lst pa_nil) (nomark _))))) (pss_one (ps_ret pe_bl)) pss_nil) (pss_one (ps_ret (pe_and (pe_cmpR (op_eqD hr.units) (pe_slice sl_list (pv 2) (po_some pe_int) po_none) (pe_op op_rep (pe_lst (pa_cons pe_int pa_nil)) (pe_op op_sub (pe_callB call_len_seq (by rfl) T.n_len (by decide +kernel) (pa_cons (pv 2) pa_nil)) pe_int)) (nomark _)) (pe_one (pe_or (pe_cmpR op_eq (pe_ix ix_list (pv 2) pe_int (fun _ _ => rfl)) pe_int (nomark _)) (pe_one (pe_and (pe_cmpR op_eq (pe_ix ix_list (pv 2) pe_int (fun _ _ => rfl)) pe_int (nomark _)) (pe_one (pe_cmpR op_lt (pe_op op_add (pv 1) pe_int) (pe_callB call_len_seq (by rfl) T.n_len (by decide +kernel) (pa_cons (pv 0) pa_nil)) (nomark _))))))))))))), ?_⟩
    refine ⟨_, rfl, .inl ⟨rfl, _, hl⟩, _, rfl, l, pat m s, -1, rfl, rfl, hl, ?_⟩
    rw [pat_count hs]
    refine ⟨_, rfl, _, rfl, _, rfl, l, _, rfl, hl, fun p1 hp1 => ?_⟩
    rw [cut_from, ← List.map_drop, pat_drop]
    have s1 := same_upd (o := .lst ((s :: List.replicate (80 - m) 1).map V.int)) hp1
    have f1 : upd H p1 (.lst ((s :: List.replicate (80 - m) 1).map V.int)) p1 = some (.lst ((s :: List.replicate (80 - m) 1).map V.int)) := upd_same
    generalize upd H p1 (.lst ((s :: List.replicate (80 - m) 1).map V.int)) = H1 at s1 f1
    refine ⟨_, rfl, _, rfl, _, rfl, l, _, rfl, sqlS hl s1, fun p2 hp2 => ?_⟩
    rw [cut_to, ← List.map_take, pat_take]
    have s2 := same_upd (o := .lst ((List.replicate (m - 1) (-1)).map V.int)) hp2
    have f2 : upd H1 p2 (.lst ((List.replicate (m - 1) (-1)).map V.int)) p2 = some (.lst ((List.replicate (m - 1) (-1)).map V.int)) := upd_same
    generalize upd H1 p2 (.lst ((List.replicate (m - 1) (-1)).map V.int)) = H2 at s2 f2
    refine ⟨_, rfl, Nat.le_of_lt (small1000 (by show 1 ≤ 1000; decide)), fun p3 hp3 => ⟨_, rfl, p3, ((m - 1 : Nat) : Int), _, rfl, rfl, upd_same, by omega, by omega, ?_, fun p4 hp4 => ?_⟩⟩
    · show 1 * ((m - 1 : Nat) : Int).toNat ≤ sizeLine
      exact Nat.le_of_lt (small1000 (by omega))
    have s3 := (same_upd (o := .lst [V.int (-1)]) hp3).trans (same_upd (o := .lst (List.replicate (m - 1) [V.int (-1)]).flatten) hp4)
    have f3 := (updAt (.lst (List.replicate (m - 1) [V.int (-1)]).flatten) hp4).trans (congrArg (fun q => some (HO.lst q)) (rep_one (m - 1) (-1)))
    refine ⟨_, _, .lst (.of (s3 _ _ f2)) (dpInts _), .lst (.of f3) (dpInts _), PySem.W.ke_shaped_ints _, PySem.W.ke_shaped_ints _, false, congrArg V.bl (by rw [eqv_ints]; rfl), iteF ?_⟩
    have s13 := s2.trans s3
    have f4 := s13 _ _ f1
    have s4 := s1.trans s13
    have en : PyData.eqv (.list ((s :: List.replicate (80 - m) 1).map PyData.int)) (.list []) = false := by rw [List.map_cons, PyData.eqv, PyData.eqvAll]
    refine ⟨_, rfl, Nat.zero_le _, fun p5 hp5 => ⟨_, .list [], .lst (.of (same_upd hp5 _ _ f4)) (dpInts _), .lst (.of upd_same) .nil, PySem.W.ke_shaped_ints _, rfl, false, congrArg V.bl en, iteF ?_⟩⟩
    have f5 := same_upd (o := .lst []) hp5 _ _ f4
    have s5 := s4.trans (same_upd (o := .lst []) hp5)
    have f5' : SqL K _ p1 ((s :: List.replicate (80 - m) 1).map V.int) := .of f5
    refine ⟨_, rfl, _, rfl, p1, _, rfl, f5', fun p6 hp6 => ?_⟩
    have ec : cutV ((s :: List.replicate (80 - m) 1).map V.int) (some 1) none = (List.replicate (80 - m) 1).map V.int := cut_from _ 1
    rw [ec]
    have s6 := same_upd (o := .lst ((List.replicate (80 - m) 1).map V.int)) hp6
    have f6 := updAt (.lst ((List.replicate (80 - m) 1).map V.int)) hp6
    refine ⟨Nat.le_of_lt (small1000 (by show 1 ≤ 1000; decide)), fun p7 hp7 => ⟨_, rfl, p1, _, rfl, .inl (sqlS f5' (s6.trans (same_upd hp7))), _, _, rfl, rfl, ?_⟩⟩
    have elen : (((s :: List.replicate (80 - m) 1).map V.int).length : Int) - 1 = ((80 - m : Nat) : Int) := by
      rw [List.length_map, List.length_cons, List.length_replicate]
      omega
    refine ⟨p7, ((80 - m : Nat) : Int), _, rfl, congrArg V.int elen, upd_same, by omega, by omega, ?_, fun p8 hp8 => ?_⟩
    · show 1 * ((80 - m : Nat) : Int).toNat ≤ sizeLine
      exact Nat.le_of_lt (small1000 (by omega))
    have s7 := (same_upd (o := .lst [V.int 1]) hp7).trans (same_upd (o := .lst (List.replicate (80 - m) [V.int 1]).flatten) hp8)
    have f7 := (updAt (.lst (List.replicate (80 - m) [V.int 1]).flatten) hp8).trans (congrArg (fun q => some (HO.lst q)) (rep_one (80 - m) 1))
    refine ⟨_, _, .lst (.of (s7 _ _ f6)) (dpInts _), .lst (.of f7) (dpInts _), PySem.W.ke_shaped_ints _, PySem.W.ke_shaped_ints _, true, congrArg V.bl (eqv_ints _), iteT ?_⟩
    have f8 := sqlS f5' (s6.trans s7)
    have s8 := s5.trans (s6.trans s7)
    have a0 : atI ((s :: List.replicate (80 - m) 1).map V.int) 0 = some (.int s) := atI_nat (j := 0) rfl
    refine ⟨_, rfl, p1, _, _, _, rfl, rfl, f8, a0, rfl, ?_⟩
    rcases hs with rfl | rfl
    · refine ⟨false, rfl, iteF ⟨_, rfl, p1, _, _, _, rfl, rfl, f8, a0, rfl, true, rfl, iteT ⟨_, rfl, _, _, rfl, rfl, _, rfl, l, _, rfl, .inl (sqlS hl s8), _, _, rfl, rfl, ?_⟩⟩⟩
      have e : decide (((m - 1 : Nat) : Int) + 1 < ((((pat m 0).map V.int).length : Nat) : Int)) = true := decide_eq_true (by
        rw [List.length_map, pat_len m1 m2]
        omega)
      have q8 := q _ s8
      rw [← e] at q8
      exact q8
    · exact ⟨true, rfl, iteT (q _ s8)⟩
theorem wsU (a b c d : Int) : (fun j : Nat => wsum a b c d (j : Int)) = fun j => sum0 a b c d j := funext fun j => wsum_up a b c d j
theorem wsD (a b c d : Int) : (fun j : Nat => wsum a b c d (-(j : Int))) = fun j => sum0 (a * b * c) (a * b * d) (a * c * d) (b * c * d) j := funext fun j => by
  cases j with
  | zero => simp [wsum, sum0]
  | succ j => exact wsum_down a b c d (j + 1) (by omega)
theorem sameFree {H H' : Hp} {p : Addr} (s : Same H H') (h : H' p = none) : H p = none := by
  cases e : H p with
  | none => rfl
  | some o => rw [s _ _ e] at h; cases h
def Due (H : Hp) (p : Addr) (k : Bool) (n : Int) : Prop := H p = some (.tup (if k = true then [.int n, .non] else [.non, .int n]))
def spDue (K : PySem.W.Frag) : Sp := fun vs H Q _ => ∃ (a b c d : Int) (l l' : Addr), vs = [.int a, .int b, .int c, .int d, .ref l, .ref l'] ∧ Gr a b c d ∧ d ≤ 99 ∧ SqL K H l ((sigs fun j => sum0 a b c d j).map V.int) ∧
  SqL K H l' ((sigs fun j => sum0 (a * b * c) (a * b * d) (a * c * d) (b * c * d) j).map V.int) ∧ ∀ (p : Addr) (H' : Hp) (k : Bool) (n : Int), Res a b c d k n → Due H' p k n → H p = none → Same H H' → Q (.ref p) H'
theorem ok__law_due (T : Txt K mg) : FnOk P w K mg base CX0 2 T.f__law_due.a T.f__law_due.fd ["_law_a", "_law_b", "_law_c", "_law_d", "_law_above", "_law_beneath"] (spDue K) := by
  have G__law_is_pattern := ok__law_is_pattern (P := P) (w := w) (base := base) T
  refine T.f__law_due.F.ok sc__law_due (fun vs H Q E h => ?_) (fun cdv A outer s H vs Q E hr h => ?_)
  · obtain ⟨a, b, c, d, l, l', rfl, _⟩ := h
    rfl
  · obtain ⟨a, b, c, d, l, l', rfl, g, h9, hl, hl', q⟩ := h
    refine ⟨_, (pss_cons (ps_if (PW.pt (pw_or (pt_not (pt_val (pe_call G__law_is_pattern (hr.mono (by decide)) (by rfl) T.f__law_is_pattern.g T.f__law_is_pattern.F.kp T.f__law_is_pattern.b .nil pass0 (pa_cons (pv 4) pa_nil)))) (pw_or1 (pt_not (pt_val (pe_call G__law_is_pattern (hr.mono (by decide)) (by rfl) T.f__law_is_pattern.g T.f__law_is_pattern.F.kp T.f__law_is_pattern.b .nil pass0 (pa_cons (pv 5) pa_nil))))))) (pss_one (ps_ret (pe_tup pa_nil))) pss_nil) (pss_cons (ps_if (pt_cmpR op_eq (pe_op op_mul (pv 0) (pv 3)) (pe_op op_mul (pv 1) (pv 2)) (nomark _)) (pss_one (ps_ret (pe_ifExp (PW.pt (pw_and (pt_cmpR op_eq (pe_ix ix_list (pv 4) pe_int (fun _ _ => rfl)) pe_int (nomark _)) (pw_and1 (pt_cmpR op_eq (pe_ix ix_list (pv 5) pe_int (fun _ _ => rfl)) pe_int (nomark _))))) (pe_tup (pa_cons pe_int (pa_cons pe_non pa_nil))) (pe_tup pa_nil)))) pss_nil) (pss_cons (ps_asg (pe_ifExp (pt_cmpR op_lt (pe_op op_mul (pv 0) (pv 3)) (pe_op op_mul (pv 1) (pv 2)) (nomark _)) (pe_tup (pa_cons (pv 4) (pa_cons (pv 5) pa_nil))) (pe_tup (pa_cons (pv 5) (pa_cons (pv 4) pa_nil)))) (pg_tup rfl (pgs_cons (pg_name (i := 6) sc__law_due.nd rfl (Or.inl rfl)) (pgs_cons (pg_name (i := 7) sc__law_due.nd rfl (Or.inl rfl)) pgs_nil)))) (pss_cons (ps_set (i := 8) sc__law_due.nd rfl (Or.inl rfl) (pe_bm PySem.F.plainAttrs_list PySem.F.slot_list_count PySem.F.type_list_count mt_lcount (pv 6) (pa_cons (pe_un un_neg pe_int) pa_nil))) (pss_cons (ps_if (pt_cmpR op_ne (pe_ix ix_list (pv 7) pe_int (fun _ _ => rfl)) pe_int (nomark _)) (pss_one (ps_ret (pe_tup pa_nil))) pss_nil) (pss_cons (ps_if (pt_cmpR op_eq (pe_ix ix_list (pv 6) (pv 8) (fun _ _ => rfl)) pe_int (nomark _)) (pss_one (ps_ret (pe_tup (pa_cons (pe_ifExp (pt_cmpR op_lt (pe_op op_mul (pv 0) (pv 3)) (pe_op op_mul (pv 1) (pv 2)) (nomark _)) (pe_op op_add (pv 8) pe_int) (pe_op op_sub (pe_un un_neg (pv 8)) pe_int)) (pa_cons pe_non pa_nil))))) pss_nil) (pss_one (ps_ret (pe_tup (pa_cons pe_non (pa_cons (pe_ifExp (pt_cmpR op_lt (pe_op op_mul (pv 0) (pv 3)) (pe_op op_mul (pv 1) (pv 2)) (nomark _)) (pv 8) (pe_op op_sub (pe_un un_neg (pv 8)) pe_int)) pa_nil))))))))))), ?_⟩
    have ga := g.ga
    have gb := g.gb
    have gc := g.gc
    have gd := g.gd
    have l1 := fun {x y : Int} (hx : 1 ≤ x ∧ x ≤ 99) => (.inl ⟨by omega, by omega⟩ : CMul x y)
    have A : 1 ≤ a ∧ a ≤ 99 := ⟨by omega, by omega⟩
    have B : 1 ≤ b ∧ b ≤ 99 := ⟨by omega, by omega⟩
    obtain ⟨m, fu⟩ := g.up1 h9
    obtain ⟨n, fd⟩ := g.dn1 h9
    rw [sigs_pat fu (fu.after fun i h => sum_step g i h)] at hl
    rw [sigs_pat fd (fd.after fun i h => sum_step g.low i h)] at hl'
    have m1 := fu.one
    have n1 := fd.one
    have su : sgn (sum0 a b c d m) = 0 ∨ sgn (sum0 a b c d m) = 1 := (sgn01 fu.hi).imp (fun h => h.2) fun h => h.2
    have sd : sgn (sum0 (a * b * c) (a * b * d) (a * c * d) (b * c * d) n) = 0 ∨ sgn (sum0 (a * b * c) (a * b * d) (a * c * d) (b * c * d) n) = 1 := (sgn01 fd.hi).imp (fun h => h.2) fun h => h.2
    have at0 : ∀ {m : Nat} {s : Int}, m = 1 → atI ((pat m s).map V.int) 0 = some (.int s) := fun {m s} h => atI_nat (j := 0) (by rw [List.getElem?_map, pat_zero h]; rfl)
    have atm : ∀ {m : Nat} {s : Int}, atI ((pat m s).map V.int) ((m - 1 : Nat) : Int) = some (.int s) := fun {m s} => atI_nat (by rw [List.getElem?_map, pat_at]; rfl)
    have sg1 : ∀ {x : Int}, 0 < x → sgn x = 1 := fun {x} h => by
      unfold sgn
      rw [if_neg (by omega), if_pos h]
    refine ⟨_, rfl, l, m, _, rfl, fu.one, fu.le, su, hl, fun H1 s1 => ⟨true, rfl, iteF ?_⟩⟩
    refine ⟨_, rfl, l', n, _, rfl, fd.one, fd.le, sd, sqlS hl' s1, fun H2 s2 => ⟨true, rfl, iteF ?_⟩⟩
    have s12 := s1.trans s2
    refine ⟨_, rfl, _, rfl, _, _, rfl, rfl, l1 A, _, rfl, _, rfl, _, _, rfl, rfl, l1 B, rfl, _, rfl, ite2 (fun e => ?_) (fun e => ?_)⟩
    · have e0 : a * d = b * c := V.int.inj (of_decide_eq_true e)
      have eu := first_one fu (one_up g (by omega))
      have ed := first_one fd (one_down g (by omega))
      subst eu
      subst ed
      rw [sg1 (one_up g (by omega))] at hl
      rw [sg1 (one_down g (by omega))] at hl'
      refine ⟨_, rfl, l, _, _, _, rfl, rfl, sqlS hl s12, at0 rfl, rfl, true, congrArg V.bl (decide_eq_true rfl), iteT ?_⟩
      refine ⟨_, rfl, l', _, _, _, rfl, rfl, sqlS hl' s12, at0 rfl, rfl, true, congrArg V.bl (decide_eq_true rfl), iteT ⟨sz2, fun p hp => ?_⟩⟩
      exact q p _ true 0 (.inl ⟨e0, rfl, rfl⟩) upd_same (sameFree s12 hp) (s12.trans (same_upd hp))
    have e0 : ¬ a * d = b * c := fun z => e (decide_eq_true (congrArg V.int z))
    by_cases e2 : a * d < b * c
    · have eo := first_one fd (one_down g (Int.le_of_lt e2))
      subst eo
      rw [sg1 (one_down g (Int.le_of_lt e2))] at hl'
      refine ⟨_, rfl, _, rfl, _, _, rfl, rfl, l1 A, _, rfl, _, rfl, _, _, rfl, rfl, l1 B, _, _, rfl, rfl, true, congrArg V.bl (decide_eq_true e2), iteT ?_⟩
      refine ⟨_, rfl, _, rfl, sz2, fun p1 hp1 => ⟨p1, _, rfl, .of upd_same, rfl, _, _, rfl, _, _, rfl, rfl, ?_⟩⟩
      have t1 := s12.trans (same_upd (o := .tup [.ref l, .ref l']) hp1)
      have hlS := sqlS hl t1
      have hoS := sqlS hl' t1
      refine ⟨_, rfl, .inl ⟨rfl, _, hlS⟩, _, rfl, l, _, -1, rfl, rfl, hlS, ?_⟩
      rw [pat_count (su)]
      refine ⟨_, rfl, l', _, _, _, rfl, rfl, hoS, at0 rfl, rfl, false, congrArg V.bl (by rw [decide_eq_true rfl]; rfl), iteF ?_⟩
      rcases sgn01 fu.hi with ⟨z, z1⟩ | ⟨z, z1⟩
      · rw [z1] at hlS
        refine ⟨_, rfl, _, rfl, l, _, _, _, rfl, rfl, hlS, atm, rfl, true, congrArg V.bl (decide_eq_true rfl), iteT ?_⟩
        refine ⟨_, rfl, _, rfl, _, _, rfl, rfl, l1 A, _, rfl, _, rfl, _, _, rfl, rfl, l1 B, _, _, rfl, rfl, true, congrArg V.bl (decide_eq_true e2), iteT ⟨_, rfl, _, _, rfl, rfl, sz2, fun p hp => ?_⟩⟩
        exact q p _ true (((m - 1 : Nat) : Int) + 1) (.inr (.inl ⟨e2, by rw [wsU]; exact ⟨m, fu, .inl ⟨z, rfl, by show ((m - 1 : Nat) : Int) + 1 = (m : Int); omega⟩⟩⟩)) upd_same (sameFree t1 hp) (t1.trans (same_upd hp))
      · rw [z1] at hlS
        refine ⟨_, rfl, _, rfl, l, _, _, _, rfl, rfl, hlS, atm, rfl, false, congrArg V.bl (decide_eq_false (by decide)), iteF ?_⟩
        refine ⟨_, rfl, _, rfl, _, _, rfl, rfl, l1 A, _, rfl, _, rfl, _, _, rfl, rfl, l1 B, _, _, rfl, rfl, true, congrArg V.bl (decide_eq_true e2), iteT ⟨_, rfl, sz2, fun p hp => ?_⟩⟩
        exact q p _ false (((m - 1 : Nat) : Int)) (.inr (.inl ⟨e2, by rw [wsU]; exact ⟨m, fu, .inr ⟨z, rfl, by show ((m - 1 : Nat) : Int) = (m : Int) - 1; omega⟩⟩⟩)) upd_same (sameFree t1 hp) (t1.trans (same_upd hp))
    · replace e2 : b * c < a * d := by omega
      have eo := first_one fu (one_up g (Int.le_of_lt e2))
      subst eo
      rw [sg1 (one_up g (Int.le_of_lt e2))] at hl
      refine ⟨_, rfl, _, rfl, _, _, rfl, rfl, l1 A, _, rfl, _, rfl, _, _, rfl, rfl, l1 B, _, _, rfl, rfl, false, congrArg V.bl (decide_eq_false (show ¬ a * d < b * c by omega)), iteF ?_⟩
      refine ⟨_, rfl, _, rfl, sz2, fun p1 hp1 => ⟨p1, _, rfl, .of upd_same, rfl, _, _, rfl, _, _, rfl, rfl, ?_⟩⟩
      have t1 := s12.trans (same_upd (o := .tup [.ref l', .ref l]) hp1)
      have hlS := sqlS hl' t1
      have hoS := sqlS hl t1
      refine ⟨_, rfl, .inl ⟨rfl, _, hlS⟩, _, rfl, l', _, -1, rfl, rfl, hlS, ?_⟩
      rw [pat_count (sd)]
      refine ⟨_, rfl, l, _, _, _, rfl, rfl, hoS, at0 rfl, rfl, false, congrArg V.bl (by rw [decide_eq_true rfl]; rfl), iteF ?_⟩
      rcases sgn01 fd.hi with ⟨z, z1⟩ | ⟨z, z1⟩
      · rw [z1] at hlS
        refine ⟨_, rfl, _, rfl, l', _, _, _, rfl, rfl, hlS, atm, rfl, true, congrArg V.bl (decide_eq_true rfl), iteT ?_⟩
        refine ⟨_, rfl, _, rfl, _, _, rfl, rfl, l1 A, _, rfl, _, rfl, _, _, rfl, rfl, l1 B, _, _, rfl, rfl, false, congrArg V.bl (decide_eq_false (show ¬ a * d < b * c by omega)), iteF ⟨_, rfl, _, rfl, _, _, rfl, rfl, sz2, fun p hp => ?_⟩⟩
        exact q p _ true (-((n - 1 : Nat) : Int) - 1) (.inr (.inr ⟨e2, by rw [wsD]; exact ⟨n, fd, .inl ⟨z, rfl, by show -((n - 1 : Nat) : Int) - 1 = -(n : Int); omega⟩⟩⟩)) upd_same (sameFree t1 hp) (t1.trans (same_upd hp))
      · rw [z1] at hlS
        refine ⟨_, rfl, _, rfl, l', _, _, _, rfl, rfl, hlS, atm, rfl, false, congrArg V.bl (decide_eq_false (by decide)), iteF ?_⟩
        refine ⟨_, rfl, _, rfl, _, _, rfl, rfl, l1 A, _, rfl, _, rfl, _, _, rfl, rfl, l1 B, _, _, rfl, rfl, false, congrArg V.bl (decide_eq_false (show ¬ a * d < b * c by omega)), iteF ⟨_, rfl, _, rfl, _, _, rfl, rfl, sz2, fun p hp => ?_⟩⟩
        exact q p _ false (-((n - 1 : Nat) : Int) - 1) (.inr (.inr ⟨e2, by rw [wsD]; exact ⟨n, fd, .inr ⟨z, rfl, by show -((n - 1 : Nat) : Int) - 1 = -(n : Int); omega⟩⟩⟩)) upd_same (sameFree t1 hp) (t1.trans (same_upd hp))
end
end Q

namespace Q
open PySem PySem.Spec PyProof.Rows L2
section
variable {P : Program} {w : World} {K : PySem.W.Frag} {mg : Str → Option Value} {base : Heap}
def spPlant : Sp := fun vs H Q _ => ∃ (a c : Addr) (n : Nat), vs = [.ref a] ∧ Hat H a c n ∧ n ≤ 999000 ∧
  ∀ (l : Addr) (xs : List Int) (H' : Hp), H' l = some (.lst (xs.map V.int)) → H l = none → Hat H' a c (n + 20) → But a H H' → Q (.ref l) H'
theorem ok__law_planted (T : Txt K mg) : FnOk P w K mg base CX0 3 T.f__law_planted.a T.f__law_planted.fd ["_law_hat_here"] spPlant := by
  have G__law_lot := ok__law_lot (P := P) (w := w) (base := base) T
  have G__law_one := ok__law_one (P := P) (w := w) (base := base) T
  refine T.f__law_planted.F.ok sc__law_planted (fun vs H Q E h => ?_) (fun cdv A outer s H vs Q E hr h => ?_)
  · obtain ⟨a, c, n, rfl, _⟩ := h
    rfl
  · obtain ⟨a, c, n, rfl, hh, hn, q⟩ := h
    refine ⟨_, (pss_cons (ps_asg (pe_tup (pa_cons (pe_call G__law_lot (hr.mono (by decide)) (by rfl) T.f__law_lot.g T.f__law_lot.F.kp T.f__law_lot.b .nil pass0 (pa_cons (pv 0) (pa_cons pe_int pa_nil))) (pa_cons (pe_op op_add pe_int (pe_call G__law_lot (hr.mono (by decide)) (by rfl) T.f__law_lot.g T.f__law_lot.F.kp T.f__law_lot.b .nil pass0 (pa_cons (pv 0) (pa_cons pe_int pa_nil)))) (pa_cons (pe_op op_add pe_int (pe_call G__law_lot (hr.mono (by decide)) (by rfl) T.f__law_lot.g T.f__law_lot.F.kp T.f__law_lot.b .nil pass0 (pa_cons (pv 0) (pa_cons pe_int pa_nil)))) (pa_cons (pe_call G__law_lot (hr.mono (by decide)) (by rfl) T.f__law_lot.g T.f__law_lot.F.kp T.f__law_lot.b .nil pass0 (pa_cons (pv 0) (pa_cons pe_int pa_nil))) pa_nil))))) (pg_tup rfl (pgs_cons (pg_name (i := 1) sc__law_planted.nd rfl (Or.inl rfl)) (pgs_cons (pg_name (i := 2) sc__law_planted.nd rfl (Or.inl rfl)) (pgs_cons (pg_name (i := 3) sc__law_planted.nd rfl (Or.inl rfl)) (pgs_cons (pg_name (i := 4) sc__law_planted.nd rfl (Or.inl rfl)) pgs_nil)))))) (pss_cons (ps_if (pt_cmpR op_eq (pv 1) pe_int (nomark _)) (pss_one (ps_ret (pe_lst (pa_cons (pv 2) (pa_cons (pe_op op_add (pv 2) (pv 3)) (pa_cons (pe_op op_add (pe_op op_add (pv 2) (pv 3)) (pv 4)) (pa_cons (pe_op op_add (pe_op op_add (pv 2) (pe_op op_mul pe_int (pv 3))) (pv 4)) pa_nil))))))) pss_nil) (pss_cons (ps_if (pt_cmpR op_eq (pv 1) pe_int (nomark _)) (pss_cons (ps_asg (pe_lc (own := [("_law_turn", 13)]) (by rfl) sc__law_planted.nd (pi_range1 rfl T.n_range (pa_cons pe_int pa_nil)) (blkOk_by (N := n__law_planted) (sc := defScope s__law_planted) (by decide +kernel)) (fun _ _ _ _ _ => (pg_name (i := 13) sc__law_planted.nd rfl (Or.inl rfl))) (fun _ _ _ _ _ => pts_nil) (fun _ _ _ _ _ => (pe_op op_add pe_int (pe_call G__law_lot (hr.mono (by decide)) (by rfl) T.f__law_lot.g T.f__law_lot.F.kp T.f__law_lot.b .nil pass0 (pa_cons (pv 0) (pa_cons pe_int pa_nil)))))) (pg_lst rfl (pgs_cons (pg_name (i := 5) sc__law_planted.nd rfl (Or.inl rfl)) (pgs_cons (pg_name (i := 6) sc__law_planted.nd rfl (Or.inl rfl)) (pgs_cons (pg_name (i := 7) sc__law_planted.nd rfl (Or.inl rfl)) (pgs_cons (pg_name (i := 8) sc__law_planted.nd rfl (Or.inl rfl)) pgs_nil)))))) (pss_cons (ps_set (i := 9) sc__law_planted.nd rfl (Or.inl rfl) (pe_callB cr_sortedI (by rfl) T.n_sorted (by decide +kernel) (pa_cons (pe_lst (pa_cons (pe_op op_mul (pv 5) (pv 7)) (pa_cons (pe_op op_mul (pe_op op_add (pv 5) (pv 6)) (pv 7)) (pa_cons (pe_op op_mul (pv 5) (pe_op op_add (pv 7) (pv 8))) (pa_cons (pe_op op_mul (pe_op op_add (pv 5) (pv 6)) (pe_op op_add (pv 7) (pv 8))) pa_nil))))) pa_nil))) (pss_one (ps_ret (pv 9))))) pss_nil) (pss_cons (ps_if (pt_cmpR op_eq (pv 1) pe_int (nomark _)) (pss_cons (ps_asg (pe_lc (own := [("_law_turn", 13)]) (by rfl) sc__law_planted.nd (pi_range1 rfl T.n_range (pa_cons pe_int pa_nil)) (blkOk_by (N := n__law_planted) (sc := defScope s__law_planted) (by decide +kernel)) (fun _ _ _ _ _ => (pg_name (i := 13) sc__law_planted.nd rfl (Or.inl rfl))) (fun _ _ _ _ _ => pts_nil) (fun _ _ _ _ _ => (pe_op op_add pe_int (pe_call G__law_lot (hr.mono (by decide)) (by rfl) T.f__law_lot.g T.f__law_lot.F.kp T.f__law_lot.b .nil pass0 (pa_cons (pv 0) (pa_cons pe_int pa_nil)))))) (pg_lst rfl (pgs_cons (pg_name (i := 5) sc__law_planted.nd rfl (Or.inl rfl)) (pgs_cons (pg_name (i := 6) sc__law_planted.nd rfl (Or.inl rfl)) (pgs_cons (pg_name (i := 7) sc__law_planted.nd rfl (Or.inl rfl)) (pgs_cons (pg_name (i := 8) sc__law_planted.nd rfl (Or.inl rfl)) pgs_nil)))))) (pss_one (ps_ret (pe_callB cr_sortedI (by rfl) T.n_sorted (by decide +kernel) (pa_cons (pe_lst (pa_cons (pe_callB call_abs (by rfl) T.n_abs (by decide +kernel) (pa_cons (pe_op op_sub (pe_op op_mul (pv 5) (pv 6)) (pe_op op_mul (pv 7) (pv 8))) pa_nil)) (pa_cons (pe_callB call_abs (by rfl) T.n_abs (by decide +kernel) (pa_cons (pe_op op_sub (pe_op op_mul (pv 5) (pv 8)) (pe_op op_mul (pv 6) (pv 7))) pa_nil)) (pa_cons (pe_op op_add (pe_op op_mul (pv 5) (pv 6)) (pe_op op_mul (pv 7) (pv 8))) (pa_cons (pe_op op_add (pe_op op_mul (pv 5) (pv 8)) (pe_op op_mul (pv 6) (pv 7))) pa_nil))))) pa_nil))))) pss_nil) (pss_cons (ps_if (pt_cmpR op_eq (pv 1) pe_int (nomark _)) (pss_cons (ps_asg (pe_tup (pa_cons (pe_call G__law_one (hr.mono (by decide)) (by rfl) T.f__law_one.g T.f__law_one.F.kp T.f__law_one.b .nil pass0 (pa_cons (pv 0) (pa_cons (pe_lst (pa_cons pe_int (pa_cons pe_int (pa_cons pe_int (pa_cons pe_int (pa_cons pe_int (pa_cons pe_int pa_nil))))))) pa_nil))) (pa_cons (pe_op op_add pe_int (pe_call G__law_lot (hr.mono (by decide)) (by rfl) T.f__law_lot.g T.f__law_lot.F.kp T.f__law_lot.b .nil pass0 (pa_cons (pv 0) (pa_cons pe_int pa_nil)))) (pa_cons (pe_op op_add pe_int (pe_call G__law_lot (hr.mono (by decide)) (by rfl) T.f__law_lot.g T.f__law_lot.F.kp T.f__law_lot.b .nil pass0 (pa_cons (pv 0) (pa_cons pe_int pa_nil)))) pa_nil)))) (pg_tup rfl (pgs_cons (pg_name (i := 10) sc__law_planted.nd rfl (Or.inr rfl)) (pgs_cons (pg_name (i := 11) sc__law_planted.nd rfl (Or.inl rfl)) (pgs_cons (pg_name (i := 12) sc__law_planted.nd rfl (Or.inl rfl)) pgs_nil))))) (pss_cons (ps_set (i := 9) sc__law_planted.nd rfl (Or.inl rfl) (pe_lst (pa_cons (pv 11) (pa_cons (pe_op op_add (pv 11) (pv 12)) (pa_cons (pe_op op_add (pe_op op_add (pv 11) (pv 12)) (pe_op op_mul (pe_call G__law_lot (hr.mono (by decide)) (by rfl) T.f__law_lot.g T.f__law_lot.F.kp T.f__law_lot.b .nil pass0 (pa_cons (pv 0) (pa_cons pe_int pa_nil))) (pv 12))) (pa_cons (pe_op op_add (pv 11) (pe_op op_mul pe_int (pv 12))) pa_nil)))))) (pss_cons (ps_asg (pe_op op_sub (pe_op op_add (pe_ix ix_list (pv 9) pe_int (fun _ _ => rfl)) (pe_ix ix_list (pv 9) pe_int (fun _ _ => rfl))) (pe_ix ix_list (pv 9) pe_int (fun _ _ => rfl))) (pg_sub (pv 9) pe_int set_list (fun _ => rfl))) (pss_one (ps_ret (pe_lc (own := [("_law_part", 14)]) (by rfl) sc__law_planted.nd (pi_list (pe_revL (pv 9))) (blkOk_by (N := n__law_planted) (sc := defScope s__law_planted) (by decide +kernel)) (fun _ _ _ _ _ => (pg_name (i := 14) sc__law_planted.nd rfl (Or.inl rfl))) (fun _ _ _ _ _ => pts_one (pt_cmpR op_eq (pe_op op_mod (pe_callTy call_int1 (by rfl) T.n_int (by decide +kernel) (pa_cons (pv 10) pa_nil)) (pv 14)) pe_int (nomark _))) (fun _ _ _ _ _ => (pe_op op_fdiv (pv 10) (pv 14))))))))) pss_nil) (pss_cons (ps_if (pt_cmpR op_eq (pv 1) pe_int (nomark _)) (pss_one (ps_ret (pe_lst (pa_cons pe_int (pa_cons (pe_op op_sub pe_int (pv 2)) (pa_cons (pe_op op_add (pe_op op_sub pe_int (pv 2)) (pe_op op_fdiv (pv 4) pe_int)) (pa_cons (pe_op op_add (pe_op op_add (pe_op op_sub pe_int (pv 2)) (pe_op op_fdiv (pv 4) pe_int)) (pe_op op_fdiv (pv 3) pe_int)) pa_nil))))))) pss_nil) (pss_one (ps_ret (pe_lst (pa_cons (pe_op op_sub pe_int (pv 2)) (pa_cons (pe_op op_sub pe_int (pv 2)) (pa_cons (pe_op op_add (pe_op op_sub pe_int (pv 2)) (pe_op op_fdiv (pv 4) pe_int)) (pa_cons (pe_op op_sub pe_int (pe_op op_fdiv (pv 3) pe_int)) pa_nil))))))))))))), ?_⟩
    refine ⟨_, rfl, a, c, n, 6, rfl, hh, by omega, by omega, by omega, fun d1 H1 p1 p1' hh1 b1 => ?_⟩
    refine ⟨_, rfl, a, c, n + 1, 30, rfl, hh1, by omega, by omega, by omega, fun d2 H2 p2 p2' hh2 b2 => ?_⟩
    refine ⟨_, _, rfl, rfl, ?_⟩
    refine ⟨_, rfl, a, c, n + 1 + 1, 30, rfl, hh2, by omega, by omega, by omega, fun d3 H3 p3 p3' hh3 b3 => ?_⟩
    refine ⟨_, _, rfl, rfl, ?_⟩
    refine ⟨_, rfl, a, c, n + 1 + 1 + 1, 30, rfl, hh3, by omega, by omega, by omega, fun d4 H4 p4 p4' hh4 b4 => ⟨sz4, fun p hp => ⟨p, _, rfl, .of upd_same, rfl, _, _, rfl, _, _, rfl, _, _, rfl, _, _, rfl, rfl, ?_⟩⟩⟩
    have hh5 := hh4.upd (o := .tup [.int d1, .int (1 + d2), .int (1 + d3), .int d4]) (hh4.neA hp) (hh4.neC hp)
    have b5 := ((((b1.trans b2).trans b3).trans b4).trans (.of (same_upd (o := .tup [.int d1, .int (1 + d2), .int (1 + d3), .int d4]) hp)) : But a H _)
    have fin : ∀ (H' : Hp) (l : Addr) (xs : List Int), Hat H' a c (n + 19) → But a H H' → H' l = none → Q (.ref l) (upd H' l (.lst (xs.map V.int))) := fun H' l xs hh b hl =>
      q l xs _ upd_same (b.free hh hl) ((hh.upd (hh.neA hl) (hh.neC hl)).mono (by omega)) (b.trans (.of (same_upd hl)))
    have cm : ∀ {x y : Int}, -1000 ≤ x → x ≤ 1000 → CMul x y := fun h1 h2 => .inl ⟨by omega, by omega⟩
    refine ⟨_, rfl, rfl, _, rfl, ite2 (fun e => ?_) (fun e => ?_)⟩
    · refine ⟨_, rfl, _, rfl, _, rfl, _, _, rfl, rfl, _, rfl, _, rfl, _, _, rfl, rfl, _, rfl, _, _, rfl, rfl, _, rfl, _, rfl, _, _, rfl, rfl, cm (by decide) (by decide), _, _, rfl, rfl, _, rfl, _, _, rfl, rfl, sz4, fun l hl => ?_⟩
      exact fin _ l [_, _, _, _] (hh5.mono (by omega)) b5 hl
    refine ⟨_, rfl, rfl, _, rfl, ite2 (fun e => ?_) (fun e => ?_)⟩
    · refine ⟨4, rfl, by decide, by decide, fun D hD => lc_range (lo := 0) (n := 4) (fun i H' => Draws _ H' a c D (n + 4) i 9) (Draws.start (hh5.mono (by omega)) hD) (fun i H' hi p => ?_) (fun H' p => ?_)⟩
      · obtain ⟨_, _, _, _, hh7, _⟩ := id p
        refine ⟨rfl, ?_⟩
        refine ⟨_, rfl, a, c, _, 9, rfl, hh7, by omega, by decide, by decide, fun d' H8 d0' d1' hh8 b8 => ?_⟩
        exact ⟨_, _, rfl, rfl, p.next (hh5.mono (by omega)) hD (by omega) (hh8.mono (by omega)) b8 ⟨by omega, by omega⟩⟩
      · obtain ⟨u1, u2, u3, u4, eF, ⟨⟨i1, j1⟩, ⟨i2, j2⟩, ⟨i3, j3⟩, ⟨i4, j4⟩⟩, hh7, b7⟩ := p.four
        refine ⟨D, _, rfl, .of eF, rfl, _, _, rfl, _, _, rfl, _, _, rfl, _, _, rfl, rfl, ?_⟩
        refine ⟨_, rfl, _, rfl, _, _, rfl, rfl, cm (by omega) (by omega), _, rfl, _, rfl, _, _, rfl, rfl, _, rfl, _, _, rfl, rfl, cm (by omega) (by omega), _, rfl, _, rfl, _, rfl, _, _, rfl, rfl, _, _, rfl, rfl, cm (by omega) (by omega), _, rfl, _, rfl, _, _, rfl, rfl, _, rfl, _, rfl, _, _, rfl, rfl, _, _, rfl, rfl, cm (by omega) (by omega), sz4, fun l hl => ?_⟩
        refine ⟨l, [_, _, _, _], rfl, .of upd_same, fun ns' l2 _ _ hl2 => ⟨_, rfl, ?_⟩⟩
        exact fin _ l2 ns' ((hh7.upd (hh7.neA hl) (hh7.neC hl)).mono (by omega)) ((b5.trans b7).trans (.of (same_upd hl))) hl2
    refine ⟨_, rfl, rfl, _, rfl, ite2 (fun e => ?_) (fun e => ?_)⟩
    · refine ⟨4, rfl, by decide, by decide, fun D hD => lc_range (lo := 0) (n := 4) (fun i H' => Draws _ H' a c D (n + 4) i 7) (Draws.start (hh5.mono (by omega)) hD) (fun i H' hi p => ?_) (fun H' p => ?_)⟩
      · obtain ⟨_, _, _, _, hh7, _⟩ := id p
        refine ⟨rfl, ?_⟩
        refine ⟨_, rfl, a, c, _, 7, rfl, hh7, by omega, by decide, by decide, fun d' H8 d0' d1' hh8 b8 => ?_⟩
        exact ⟨_, _, rfl, rfl, p.next (hh5.mono (by omega)) hD (by omega) (hh8.mono (by omega)) b8 ⟨by omega, by omega⟩⟩
      · obtain ⟨u1, u2, u3, u4, eF, ⟨⟨i1, j1⟩, ⟨i2, j2⟩, ⟨i3, j3⟩, ⟨i4, j4⟩⟩, hh7, b7⟩ := p.four
        refine ⟨D, _, rfl, .of eF, rfl, _, _, rfl, _, _, rfl, _, _, rfl, _, _, rfl, rfl, ?_⟩
        have k1 : ∀ {y : Int}, CMul u1 y := cm (by omega) (by omega)
        have k2 : ∀ {y : Int}, CMul u2 y := cm (by omega) (by omega)
        have k3 : ∀ {y : Int}, CMul u3 y := cm (by omega) (by omega)
        refine ⟨_, rfl, _, rfl, _, _, rfl, rfl, k1, _, rfl, _, rfl, _, _, rfl, rfl, k3, _, _, rfl, rfl, _, rfl, ?_⟩
        refine ⟨_, rfl, _, rfl, _, _, rfl, rfl, k1, _, rfl, _, rfl, _, _, rfl, rfl, k2, _, _, rfl, rfl, _, rfl, ?_⟩
        refine ⟨_, rfl, _, rfl, _, _, rfl, rfl, k1, _, rfl, _, rfl, _, _, rfl, rfl, k3, _, _, rfl, rfl, ?_⟩
        refine ⟨_, rfl, _, rfl, _, _, rfl, rfl, k1, _, rfl, _, rfl, _, _, rfl, rfl, k2, _, _, rfl, rfl, sz4, fun l hl => ?_⟩
        refine ⟨l, [_, _, _, _], rfl, .of upd_same, fun ns' l2 _ _ hl2 => ?_⟩
        exact fin _ l2 ns' ((hh7.upd (hh7.neA hl) (hh7.neC hl)).mono (by omega)) ((b5.trans b7).trans (.of (same_upd hl))) hl2
    refine ⟨_, rfl, rfl, _, rfl, ite2 (fun e => ?_) (fun e => ?_)⟩
    · refine ⟨_, rfl, Nat.le_of_lt (small1000 (by show 6 ≤ 1000; decide)), fun l0 hl0 => ?_⟩
      have y0 := hh5.upd (o := .lst [.int 60, .int 72, .int 84, .int 90, .int 96, .int 48]) (hh5.neA hl0) (hh5.neC hl0)
      refine ⟨a, c, n + 4, l0, _, rfl, y0.mono (by omega), by omega, .of upd_same, hh5.neA hl0, (by show 0 < 6; decide), (by show 6 ≤ 1000; decide), fun v H6 hv hh6 b6 => ?_⟩
      obtain ⟨wv, rfl⟩ : ∃ wv : Int, v = .int wv := by
        have hv' : v ∈ [V.int 60, .int 72, .int 84, .int 90, .int 96, .int 48] := hv
        simp only [List.mem_cons, List.not_mem_nil, or_false] at hv'
        rcases hv' with rfl | rfl | rfl | rfl | rfl | rfl <;> exact ⟨_, rfl⟩
      refine ⟨_, rfl, a, c, n + 5, 5, rfl, hh6.mono (by omega), by omega, by omega, by omega, fun d7 H7 p7 p7' hh7 b7 => ?_⟩
      refine ⟨_, _, rfl, rfl, ?_⟩
      refine ⟨_, rfl, a, c, n + 6, 5, rfl, hh7.mono (by omega), by omega, by omega, by omega, fun d8 H8 p8 p8' hh8 b8 => ?_⟩
      refine ⟨_, _, rfl, rfl, sz3, fun p2 hp2 => ⟨p2, _, rfl, .of upd_same, rfl, _, _, rfl, _, _, rfl, _, _, rfl, rfl, ?_⟩⟩
      have hh8' := hh8.upd (o := .tup [.int wv, .int (1 + d7), .int (1 + d8)]) (hh8.neA hp2) (hh8.neC hp2)
      have b58 := ((((b5.trans (.of (same_upd (o := .lst [.int 60, .int 72, .int 84, .int 90, .int 96, .int 48]) hl0))).trans b6).trans b7).trans b8).trans (.of (same_upd (o := .tup [.int wv, .int (1 + d7), .int (1 + d8)]) hp2))
      refine ⟨_, rfl, _, rfl, _, rfl, _, _, rfl, rfl, _, rfl, _, rfl, _, _, rfl, rfl, _, rfl, a, c, n + 7, 2, rfl, hh8'.mono (by omega), by omega, by omega, by omega, fun d9 H9 p9 p9' hh9 b9 => ?_⟩
      refine ⟨_, rfl, _, _, rfl, rfl, cm (by omega) (by omega), _, _, rfl, rfl, _, rfl, _, rfl, _, _, rfl, rfl, cm (by decide) (by decide), _, _, rfl, rfl, sz4, fun ls hls => ?_⟩
      have b59 := b58.trans b9
      have hm : d9 * (1 + d8) = 0 ∨ d9 * (1 + d8) = 1 + d8 := by
        rcases (show d9 = 0 ∨ d9 = 1 by omega) with rfl | rfl
        · exact .inl (Int.zero_mul _)
        · exact .inr (Int.one_mul _)
      refine ⟨_, rfl, ls, _, 1, _, rfl, rfl, .of upd_same, atI_nat (j := 1) rfl, _, rfl, ls, _, 2, _, rfl, rfl, .of upd_same, atI_nat (j := 2) rfl, _, _, rfl, rfl, _, rfl, ls, _, 0, _, rfl, rfl, .of upd_same, atI_nat (j := 0) rfl, _, _, rfl, rfl, _, rfl, ls, _, 3, 3, rfl, rfl, upd_same, rfl, ?_⟩
      refine ⟨_, rfl, ls, _, rfl, .of upd_same, fun lr hlr => ⟨lr, rfl, ⟨_, .of upd_same⟩, fun D hD => ?_⟩⟩
      have na := hh9.neA hls
      have nc := hh9.neC hls
      have ya := ((hh9.upd na nc).upd na nc).neA hlr
      have yc := ((hh9.upd na nc).upd na nc).neC hlr
      have nDr := ne_of_none upd_same hD
      refine lc_list (K := K) (a := lr) (xs := [.int (1 + d7 + (1 + d8) + (1 + d7 + (1 + d8) + d9 * (1 + d8)) - (1 + d7)), .int (1 + d7 + (1 + d8) + d9 * (1 + d8)), .int (1 + d7 + (1 + d8)), .int (1 + d7)])
        (fun i H' => ∃ ys : List Int, ys.length ≤ i ∧ H' = upd _ D (.lst (ys.map V.int))) ⟨[], Nat.le_refl _, rfl⟩ (fun i H' _ p => ?_) (fun i x H' hi p => ?_) (fun H' p => ?_)
      · obtain ⟨ys, hy, rfl⟩ := p
        exact .of (by rw [upd_ne nDr]; exact upd_same)
      · obtain ⟨ys, hy, rfl⟩ := p
        obtain ⟨v, rfl, v1, v2, i4⟩ : ∃ v : Int, x = .int v ∧ 1 ≤ v ∧ v ≤ 1000 ∧ i < 4 := by
          match i, hi with
          | 0, hi => cases hi; exact ⟨_, rfl, by omega, by omega, by omega⟩
          | 1, hi => cases hi; exact ⟨_, rfl, by omega, by omega, by omega⟩
          | 2, hi => cases hi; exact ⟨_, rfl, by omega, by omega, by omega⟩
          | 3, hi => cases hi; exact ⟨_, rfl, by omega, by omega, by omega⟩
          | n + 4, hi => cases hi
        refine ⟨rfl, _, rfl, .inl ⟨_, rfl, _, rfl, _, _, rfl, rfl, (by show 0 < v; omega), rfl, _, rfl, ite2 (fun _ => ?_) (fun _ => ⟨ys, by omega, rfl⟩)⟩⟩
        exact ⟨_, rfl, _, rfl, _, _, rfl, rfl, ⟨by omega, by omega⟩, ys.map V.int, upd_same, small1000 (by rw [List.length_map]; omega), ys ++ [_], by simp only [List.length_append, List.length_singleton]; omega, by rw [upd_upd, List.map_append]; rfl⟩
      · obtain ⟨ys, hy, rfl⟩ := p
        refine fin _ D ys ((((hh9.upd na nc).upd na nc).upd ya yc).mono (by omega)) (fun u o hu nu => ?_) hD
        have h9 := b59 u o hu nu
        have n1 := ne_of_none h9 hls
        have n2 : u ≠ lr := fun z => by
          rw [← z, upd_ne n1, upd_ne n1, h9] at hlr
          cases hlr
        rw [upd_ne n2, upd_ne n1, upd_ne n1]
        exact h9
    refine ⟨_, rfl, rfl, _, rfl, ite2 (fun e => ?_) (fun e => ?_)⟩
    · refine ⟨_, rfl, _, _, rfl, rfl, _, rfl, _, _, rfl, rfl, _, rfl, _, _, rfl, rfl, ⟨by decide, by decide⟩, _, _, rfl, rfl, _, rfl, _, _, rfl, rfl, _, rfl, _, _, rfl, rfl, ⟨by decide, by decide⟩, _, _, rfl, rfl, _, rfl, _, _, rfl, rfl, ⟨by decide, by decide⟩, _, _, rfl, rfl, sz4, fun l hl => ?_⟩
      exact fin _ l [_, _, _, _] (hh5.mono (by omega)) b5 hl
    · refine ⟨_, rfl, _, _, rfl, rfl, _, rfl, _, _, rfl, rfl, _, rfl, _, _, rfl, rfl, _, rfl, _, _, rfl, rfl, ⟨by decide, by decide⟩, _, _, rfl, rfl, _, rfl, _, _, rfl, rfl, ⟨by decide, by decide⟩, _, _, rfl, rfl, sz4, fun l hl => ?_⟩
      exact fin _ l [_, _, _, _] (hh5.mono (by omega)) b5 hl
def spFour : Sp := fun vs H Q _ => ∃ (a c : Addr) (n : Nat), vs = [.ref a] ∧ Hat H a c n ∧ n ≤ 990000 ∧
  ∀ (l : Addr) (x1 x2 x3 x4 : Int) (H' : Hp), Gr x1 x2 x3 x4 → x4 ≤ 99 → H' l = some (.lst (L4 x1 x2 x3 x4)) → H l = none → Hat H' a c (n + 30) → But a H H' → Q (.ref l) H'
theorem ok__law_four (T : Txt K mg) : FnOk P w K mg base CX0 4 T.f__law_four.a T.f__law_four.fd ["_law_hat_here"] spFour := by
  have G__law_planted := ok__law_planted (P := P) (w := w) (base := base) T
  have G__law_lot := ok__law_lot (P := P) (w := w) (base := base) T
  have G__law_any := ok__law_any (P := P) (w := w) (base := base) T
  have G__law_grows := ok__law_grows (P := P) (w := w) (base := base) T
  refine T.f__law_four.F.ok sc__law_four (fun vs H Q E h => ?_) (fun cdv A outer s H vs Q E hr h => ?_)
  · obtain ⟨a, c, n, rfl, _⟩ := h
    rfl
  · obtain ⟨a, c, n, rfl, hh, hn, q⟩ := h
    refine ⟨_, (pss_cons (ps_if (pt_cmpR op_eq (pe_call G__law_lot (hr.mono (by decide)) (by rfl) T.f__law_lot.g T.f__law_lot.F.kp T.f__law_lot.b .nil pass0 (pa_cons (pv 0) (pa_cons pe_int pa_nil))) pe_int (nomark _)) (pss_one (ps_ret (pe_call G__law_any (hr.mono (by decide)) (by rfl) T.f__law_any.g T.f__law_any.F.kp T.f__law_any.b .nil pass0 (pa_cons (pv 0) pa_nil)))) pss_nil) (pss_cons (ps_set (i := 1) sc__law_four.nd rfl (Or.inl rfl) (pe_call G__law_planted (hr.mono (by decide)) (by rfl) T.f__law_planted.g T.f__law_planted.F.kp T.f__law_planted.b .nil pass0 (pa_cons (pv 0) pa_nil))) (pss_one (ps_ret (pe_ifExp (PW.pt (pw_and (pt_cmpR op_eq (pe_callB call_len_seq (by rfl) T.n_len (by decide +kernel) (pa_cons (pv 1) pa_nil)) pe_int (nomark _)) (pw_and1 (pt_val (pe_call G__law_grows (hr.mono (by decide)) (by rfl) T.f__law_grows.g T.f__law_grows.F.kp T.f__law_grows.b .nil pass0 (pa_cons (pv 1) pa_nil)))))) (pv 1) (pe_call G__law_any (hr.mono (by decide)) (by rfl) T.f__law_any.g T.f__law_any.F.kp T.f__law_any.b .nil pass0 (pa_cons (pv 0) pa_nil))))))), ?_⟩
    refine ⟨_, rfl, a, c, n, 4, rfl, hh, by omega, by omega, by omega, fun d1 H1 p1 p1' hh1 b1 => ?_⟩
    refine ⟨rfl, _, rfl, ite2 (fun e => ?_) (fun e => ?_)⟩
    · exact ⟨_, rfl, a, c, n + 1, rfl, hh1, by omega, fun l x1 x2 x3 x4 H' g h9 e f hh' b => q l x1 x2 x3 x4 H' g h9 e (b1.free hh1 f) (hh'.mono (by omega)) (b1.trans b)⟩
    refine ⟨_, rfl, a, c, n + 1, rfl, hh1, by omega, fun l xs H2 el fl hh2 b2 => ?_⟩
    have b12 := b1.trans b2
    have no : tCall spAny [] E0 (tCons (tVar 0) tNil) [some (.ref a), some (.ref l)] H2 (fun v H' => Q v H') :=
      ⟨_, rfl, a, c, n + 21, rfl, hh2.mono (by omega), by omega, fun l x1 x2 x3 x4 H' g h9 e f hh' b => q l x1 x2 x3 x4 H' g h9 e (b12.free hh2 f) (hh'.mono (by omega)) (b12.trans b)⟩
    refine ⟨_, rfl, l, _, rfl, .inl (.of el), rfl, _, rfl, ite2 (fun e4 => ?_) (fun e4 => iteF no)⟩
    have l4 : ((xs.map V.int).length : Int) = 4 := V.int.inj (of_decide_eq_true e4)
    rw [List.length_map] at l4
    obtain ⟨x1, x2, x3, x4, rfl⟩ : ∃ x1 x2 x3 x4, xs = [x1, x2, x3, x4] := by
      match xs, l4 with
      | [x1, x2, x3, x4], _ => exact ⟨_, _, _, _, rfl⟩
      | [], h => simp only [List.length_cons, List.length_nil] at h; omega
      | [_], h => simp only [List.length_cons, List.length_nil] at h; omega
      | [_, _], h => simp only [List.length_cons, List.length_nil] at h; omega
      | [_, _, _], h => simp only [List.length_cons, List.length_nil] at h; omega
      | _ :: _ :: _ :: _ :: _ :: r, h => simp only [List.length_cons] at h; omega
    refine ⟨_, rfl, l, x1, x2, x3, x4, rfl, .of el, _, rfl, ite2 (fun eg => ?_) (fun eg => no)⟩
    exact ⟨_, rfl, q l x1 x2 x3 x4 H2 (grows_gr eg).1 (grows_gr eg).2 el (b1.free hh1 fl) (hh2.mono (by omega)) b12⟩
end
end Q

namespace Q
open PySem PySem.Spec PyProof.Rows L2
section
variable {P : Program} {w : World} {K : PySem.W.Frag} {mg : Str → Option Value} {base : Heap}
def keyOnly {α : Type} (us ws : List α) : List α := match us with
  | [] => ws
  | _ => []
theorem kb_power_of (T : Txt K mg) : KBinds K T.f_power_of.fd ["a", "b", "c", "d"] ["a", "b", "c", "d"] keyOnly keyOnly := by
  obtain ⟨oc, od, kV, doc, pm, an, cdv, ct, osl, e, lk, hcd⟩ := T.f_power_of.F.ex
  refine ⟨fun s us ws X hl => ?_, fun {vs us zs ws} h1 h2 => ?_⟩
  · match us, ws, hl with
    | [], [w1, w2, w3, w4], _ =>
      rw [e]
      exact .of_eq rfl
    | [], [], hl => cases hl
    | [], [_], hl => cases hl
    | [], [_, _], hl => cases hl
    | [], [_, _, _], hl => cases hl
    | [], _ :: _ :: _ :: _ :: _ :: _, hl => cases hl
    | _ :: _, _, hl => cases hl
  · cases h1 with
    | nil => exact h2
    | cons _ _ => exact .nil
theorem isPap {T : Txt K mg} {H : Hp} {x : Addr} {n : Int} (h : BPat T.k_ByPower.a "power" H x "bypower" n) : TyX K H (.ref x) (.ref T.k_ByPower.a) := by
  obtain ⟨dx, q, h1, _⟩ := h
  exact .base (.ins h1 T.k_ByPower.cl T.k_ByPower.ha T.k_ByPower.hn T.k_ByPower.ht T.k_ByPower.hm)
theorem isBet {T : Txt K mg} {H : Hp} {x : Addr} {n : Int} (h : BPat T.k_Between.a "low" H x "between" n) : TyX K H (.ref x) (.ref T.k_Between.a) := by
  obtain ⟨dx, q, h1, _⟩ := h
  exact .base (.ins h1 T.k_Between.cl T.k_Between.ha T.k_Between.hn T.k_Between.ht T.k_Between.hm)
theorem res_power {a b c d n : Int} (g : Gr a b c d) (h9 : d ≤ 99) (R : Res a b c d true n) : isby a b c d n = true ∧ -64 < n ∧ n < 69 := by
  rcases R with ⟨h, _, h3⟩ | ⟨h, m, f, R⟩ | ⟨h, m, f, R⟩
  · subst h3
    refine ⟨?_, by decide, by decide⟩
    unfold isby
    rw [if_pos rfl]
    exact decide_eq_true h
  · rcases R with ⟨h1, _, h3⟩ | ⟨_, h2, _⟩
    · have e : n = (m : Int) := h3
      have f1 := f.one
      have f2 := f.le
      have h1' : wsum a b c d (m : Int) = 0 := h1
      have m69 : m ≠ 69 := fun z => by
        have := far_up g h9
        rw [z, wsum_up] at h1'
        omega
      refine ⟨?_, by omega, by omega⟩
      unfold isby
      rw [if_neg (by omega), e]
      exact decide_eq_true h1'
    · cases h2
  · rcases R with ⟨h1, _, h3⟩ | ⟨_, h2, _⟩
    · have e : n = -(m : Int) := h3
      have f1 := f.one
      have f2 := f.le
      have h1' : wsum a b c d (-(m : Int)) = 0 := h1
      have w64 : 0 < wsum a b c d (-((64 : Nat) : Int)) := by
        rw [wsum_down _ _ _ _ _ (by decide)]
        exact far64 g h9
      have m64 : m ≠ 64 := fun z => by
        rw [z] at h1'
        omega
      have m65 : m < 64 ∨ m = 64 := by
        by_cases z : m ≤ 64
        · omega
        · have : wsum a b c d (-((64 : Nat) : Int)) < 0 := f.low 64 (by decide) (by omega)
          omega
      refine ⟨?_, by omega, by omega⟩
      unfold isby
      rw [if_neg (by omega), e]
      exact decide_eq_true h1'
    · cases h2
theorem res_low {a b c d n : Int} (g : Gr a b c d) (h9 : d ≤ 99) (R : Res a b c d false n) : -64 ≤ n ∧ n < 69 := by
  rcases R with ⟨h, h2, h3⟩ | ⟨h, m, f, R⟩ | ⟨h, m, f, R⟩
  · cases h2
  · rcases R with ⟨_, h2, _⟩ | ⟨h1, _, h3⟩
    · cases h2
    · have e : n = (m : Int) - 1 := h3
      have f1 := f.one
      have f2 := f.le
      exact ⟨by omega, by omega⟩
  · rcases R with ⟨_, h2, _⟩ | ⟨h1, _, h3⟩
    · cases h2
    · have e : n = -(m : Int) := h3
      have f1 := f.one
      have w64 : 0 < wsum a b c d (-((64 : Nat) : Int)) := by
        rw [wsum_down _ _ _ _ _ (by decide)]
        exact far64 g h9
      have m65 : m ≤ 64 := by
        by_cases z : m ≤ 64
        · exact z
        · have : wsum a b c d (-((64 : Nat) : Int)) < 0 := f.low 64 (by decide) (by omega)
          omega
      exact ⟨by omega, by omega⟩
theorem Due.data {K : PySem.W.Frag} {H : Hp} {p : Addr} {k : Bool} {n : Int} (h : Due H p k n) : ∃ d, Dp K H (.ref p) d ∧ SeqAt.shaped d = true ∧ PyData.eqv d (.tuple []) = false := by
  cases k with
  | true => exact ⟨.tuple [.int n, .none], .tup (.of h) (.cons (.int n) (.cons .non .nil)), rfl, by rw [PyData.eqv, PyData.eqvAll]⟩
  | false => exact ⟨.tuple [.none, .int n], .tup (.of h) (.cons .non (.cons (.int n) .nil)), rfl, by rw [PyData.eqv, PyData.eqvAll]⟩
theorem Due.at {K : PySem.W.Frag} {σ : L2.St} {H : Hp} {p : Addr} {k : Bool} {n : Int} {Q : VK} (h : Due H p k n) (hs : σ[10]? = some (some (.ref p))) (q : Q (.int n) H) :
    tIf (tTest (tOp (fun x y H Q => y = V.non ∧ Q (V.bl (decide (x = V.non))) H) (tOp (rIxT K) (tVar 10) (tC (V.int 1))) (tC V.non))) (tOp (rIxT K) (tVar 10) (tC (V.int 0))) (tOp (rIxT K) (tVar 10) (tC (V.int 1))) σ H Q := by
  cases k with
  | true => exact ⟨_, hs, p, _, 1, _, rfl, rfl, .of h, atI_nat (j := 1) rfl, rfl, true, congrArg V.bl (decide_eq_true rfl), iteT ⟨_, hs, p, _, 0, _, rfl, rfl, .of h, atI_nat (j := 0) rfl, q⟩⟩
  | false => exact ⟨_, hs, p, _, 1, _, rfl, rfl, .of h, atI_nat (j := 1) rfl, rfl, false, congrArg V.bl (decide_eq_false (by intro h; cases h)), iteF ⟨_, hs, p, _, 1, _, rfl, rfl, .of h, atI_nat (j := 1) rfl, q⟩⟩
def spTold (T : Txt K mg) : Sp := fun vs H Q _ => ∃ (l p : Addr) (a b c d n : Int) (k : Bool), vs = [.ref l, .ref p] ∧ SqL K H l (L4 a b c d) ∧ Gr a b c d ∧ d ≤ 99 ∧ Res a b c d k n ∧ Due H p k n ∧ ∀ H', Same H H' → Q (.bl true) H'
theorem ok__law_told_right (T : Txt K mg) : FnOk P w K mg base CX0 8 T.f__law_told_right.a T.f__law_told_right.fd ["_law_four_here", "_law_due_here"] (spTold T) := by
  have G_power_of := ok_power_of (P := P) (w := w) (base := base) T
  have G_is_by := ok_is_by (P := P) (w := w) (base := base) T
  have G_shows_power := ok_shows_power (P := P) (w := w) (base := base) T
  refine T.f__law_told_right.F.ok sc__law_told_right (fun vs H Q E h => ?_) (fun cdv A outer s H vs Q E hr h => ?_)
  · obtain ⟨l, p, a, b, c, d, n, k, rfl, _⟩ := h
    rfl
  · obtain ⟨l, p, a, b, c, d, n, k, rfl, hl, g, h9, R, du, q⟩ := h
    refine ⟨_, (pss_cons (ps_asg (pv 0) (pg_lst rfl (pgs_cons (pg_name (i := 2) sc__law_told_right.nd rfl (Or.inl rfl)) (pgs_cons (pg_name (i := 3) sc__law_told_right.nd rfl (Or.inl rfl)) (pgs_cons (pg_name (i := 4) sc__law_told_right.nd rfl (Or.inl rfl)) (pgs_cons (pg_name (i := 5) sc__law_told_right.nd rfl (Or.inl rfl)) pgs_nil)))))) (pss_cons (ps_set (i := 6) sc__law_told_right.nd rfl (Or.inl rfl) (pe_call G_power_of (hr.mono (by decide)) (by rfl) T.f_power_of.g T.f_power_of.F.kp T.f_power_of.b .nil pass0 (pa_cons (pv 2) (pa_cons (pv 3) (pa_cons (pv 4) (pa_cons (pv 5) pa_nil)))))) (pss_cons (ps_if (pt_cmpR op_isN (pe_ix ix_tup (pv 1) pe_int (fun _ _ => rfl)) pe_non (nomark _)) (pss_cons (ps_if (PW.pt (pw_or (pt_not (pt_val (pe_callB call_isi (by rfl) T.n_isinstance (by decide +kernel) (pa_cons (pv 6) (pa_cons (pe_glob (v := .ref T.k_ByPower.a) rfl T.k_ByPower.g rfl) pa_nil))))) (pw_or (pt_not (pt_truthR (pv 6) (Ru.TruR.or (Ru.tru_own T.bo_ByPower (raw_bP T) (hr.mono (by decide)) pass0) (Ru.tru_own T.bo_Between (raw_bD T) (hr.mono (by decide)) pass0)) (by intro _; rfl))) (pw_or (pt_cmpR op_ne (pe_fld (pv 6) rfl) pe_str (nomark _)) (pw_or1 (pt_cmpR (op_neD hr.units) (pe_fld (pv 6) rfl) (pe_tup (pa_cons (pe_fld (pv 6) rfl) pa_nil)) (nomark _))))))) (pss_one (ps_ret pe_bl)) pss_nil) (pss_one (ps_ret (pe_and (pe_cmpR op_eq (pe_callB SkE.call_repr_int (by rfl) T.n_repr (by decide +kernel) (pa_cons (pe_fld (pv 6) rfl) pa_nil)) (pe_callB SkE.call_repr_int (by rfl) T.n_repr (by decide +kernel) (pa_cons (pe_ix ix_tup (pv 1) pe_int (fun _ _ => rfl)) pa_nil)) (nomark _)) (pe_and (Ru.pe_chainN (pe_un un_neg pe_int) (Ru.pec_link op_lt (pe_fld (pv 6) rfl) (Ru.pec_last op_lt pe_int))) (pe_one (pe_call G_is_by (hr.mono (by decide)) (by rfl) T.f_is_by.g T.f_is_by.F.kp T.f_is_by.b .nil pass0 (pa_cons (pv 2) (pa_cons (pv 3) (pa_cons (pv 4) (pa_cons (pv 5) (pa_cons (pe_fld (pv 6) rfl) pa_nil)))))))))))) pss_nil) (pss_cons (ps_if (PW.pt (pw_or (pt_not (pt_val (pe_callB call_isi (by rfl) T.n_isinstance (by decide +kernel) (pa_cons (pv 6) (pa_cons (pe_glob (v := .ref T.k_Between.a) rfl T.k_Between.g rfl) pa_nil))))) (pw_or (pt_truthR (pv 6) (Ru.TruR.or (Ru.tru_own T.bo_ByPower (raw_bP T) (hr.mono (by decide)) pass0) (Ru.tru_own T.bo_Between (raw_bD T) (hr.mono (by decide)) pass0)) (by intro _; rfl)) (pw_or (pt_cmpR op_ne (pe_fld (pv 6) rfl) pe_str (nomark _)) (pw_or1 (pt_cmpR (op_neD hr.units) (pe_fld (pv 6) rfl) (pe_tup (pa_cons (pe_fld (pv 6) rfl) pa_nil)) (nomark _))))))) (pss_one (ps_ret pe_bl)) pss_nil) (pss_one (ps_ret (pe_and (pe_cmpR op_eq (pe_callB SkE.call_repr_int (by rfl) T.n_repr (by decide +kernel) (pa_cons (pe_fld (pv 6) rfl) pa_nil)) (pe_callB SkE.call_repr_int (by rfl) T.n_repr (by decide +kernel) (pa_cons (pe_ix ix_tup (pv 1) pe_int (fun _ _ => rfl)) pa_nil)) (nomark _)) (pe_and (Ru.pe_chainN (pe_un un_neg pe_int) (Ru.pec_link op_le (pe_fld (pv 6) rfl) (Ru.pec_last op_lt pe_int))) (pe_one (pe_cmpR op_isBl (pe_call G_shows_power (hr.mono (by decide)) (by rfl) T.f_shows_power.g T.f_shows_power.F.kp T.f_shows_power.b .nil pass0 (pa_cons (pv 2) (pa_cons (pv 3) (pa_cons (pv 4) (pa_cons (pv 5) (pa_cons (pv 6) pa_nil)))))) pe_bl (nomark _))))))))))), ?_⟩
    refine ⟨_, rfl, l, _, rfl, hl, rfl, _, _, rfl, _, _, rfl, _, _, rfl, _, _, rfl, rfl, ?_⟩
    refine ⟨_, rfl, _, rfl, _, rfl, _, rfl, a, b, c, d, rfl, g, h9, fun x H1 k' n' R' pp fx s1 => ?_⟩
    obtain ⟨rfl, rfl⟩ := R.uniq R'
    cases k with
    | true =>
      have du1 : H1 p = some (.tup [.int n, .non]) := s1 _ _ du
      refine ⟨_, rfl, p, _, 1, _, rfl, rfl, .of du1, atI_nat (j := 1) rfl, rfl, true, congrArg V.bl (decide_eq_true rfl), iteT ?_⟩
      obtain ⟨ei, n1, n2⟩ := res_power g h9 R
      obtain ⟨_, bp⟩ | ⟨z, _⟩ := id pp
      case inr => cases z
      have fine : Fine a b c d n := ⟨⟨by have := g.ga; omega, by have := g.gb; have := g.gc; have := g.gd; omega⟩, ⟨by have := g.ga; have := g.gb; omega, by have := g.gc; have := g.gd; omega⟩, ⟨by have := g.ga; have := g.gb; have := g.gc; omega, by have := g.gd; omega⟩, ⟨by have := g.ga; have := g.gb; have := g.gc; have := g.gd; omega, by omega⟩, by omega, by omega⟩
      obtain ⟨dx, pq, hx, hpq⟩ := id bp
      have k1 : ¬ ("word" : Str) = "power" := by decide +kernel
      have k2 : ¬ ("parts" : Str) = "power" := by decide +kernel
      have lg : n.natAbs.log2 < 1920 := Nat.lt_of_le_of_lt (Nat.log2_le_self _) (by omega)
      refine ⟨_, rfl, _, _, _, _, true, rfl, .own _, isPap bp, T.is_ByPower_ByPower, true, rfl, iteF ?_⟩
      refine ⟨_, rfl, .inl ⟨x, dx, _, rfl, hx, x, rfl, true, rfl, iteF ?_⟩⟩
      refine ⟨_, rfl, x, _, dx, _, _, rfl, hx, T.k_ByPower.cl, T.na_ByPower_word, bp_word k1, rfl, false, congrArg V.bl (by rw [decide_eq_true rfl]; rfl), iteF ?_⟩
      refine ⟨_, rfl, x, _, dx, _, _, rfl, hx, T.k_ByPower.cl, T.na_ByPower_parts, bp_parts k2, _, rfl, x, _, dx, _, _, rfl, hx, T.k_ByPower.cl, T.na_ByPower_power, bp_at, Nat.le_of_lt (small1000 (by show 1 ≤ 1000; decide)), fun pt hpt => ?_⟩
      have s2 := same_upd (o := .tup [.int n]) hpt
      have ev : PyData.eqv (.tuple [.int n]) (.tuple [.int n]) = true := by simp [PyData.eqv, PyData.eqvAll]
      refine ⟨.tuple [.int n], .tuple [.int n], .tup (.of (s2 _ _ hpq)) (.cons (.int _) .nil), .tup (.of upd_same) (.cons (.int _) .nil), rfl, rfl, false, congrArg V.bl (by rw [ev]; rfl), iteF ?_⟩
      have hx2 := s2 _ _ hx
      have du2 := s2 _ _ du1
      refine ⟨_, rfl, x, _, dx, _, _, rfl, hx2, T.k_ByPower.cl, T.na_ByPower_power, bp_at, n, rfl, lg, _, rfl, p, _, 0, _, rfl, rfl, .of du2, atI_nat (j := 0) rfl, n, rfl, lg, rfl, true, congrArg V.bl (decide_eq_true rfl), iteT ?_⟩
      refine ⟨_, rfl, _, rfl, x, _, dx, _, _, rfl, hx2, T.k_ByPower.cl, T.na_ByPower_power, bp_at, _, _, rfl, rfl, true, congrArg V.bl (decide_eq_true n1), iteT ⟨_, _, rfl, rfl, true, congrArg V.bl (decide_eq_true n2), iteT ?_⟩⟩
      refine ⟨_, rfl, _, rfl, _, rfl, _, rfl, _, rfl, x, _, dx, _, _, rfl, hx2, T.k_ByPower.cl, T.na_ByPower_power, bp_at, a, b, c, d, n, rfl, fine, fun H3 s3 => ?_⟩
      rw [ei]
      exact q H3 ((s1.trans s2).trans s3)
    | false =>
      have du1 : H1 p = some (.tup [.non, .int n]) := s1 _ _ du
      refine ⟨_, rfl, p, _, 1, _, rfl, rfl, .of du1, atI_nat (j := 1) rfl, rfl, false, congrArg V.bl (decide_eq_false (by intro h; cases h)), iteF ?_⟩
      obtain ⟨n1, n2⟩ := res_low g h9 R
      obtain ⟨z, _⟩ | ⟨_, bp⟩ := id pp
      case inl => cases z
      obtain ⟨dx, pq, hx, hpq⟩ := id bp
      have k1 : ¬ ("word" : Str) = "low" := by decide +kernel
      have k2 : ¬ ("parts" : Str) = "low" := by decide +kernel
      have lg : n.natAbs.log2 < 1920 := Nat.lt_of_le_of_lt (Nat.log2_le_self _) (by omega)
      refine ⟨_, rfl, _, _, _, _, true, rfl, .own _, isBet bp, T.is_Between_Between, true, rfl, iteF ?_⟩
      refine ⟨_, rfl, .inr ⟨x, dx, _, rfl, hx, x, rfl, false, rfl, iteF ?_⟩⟩
      refine ⟨_, rfl, x, _, dx, _, _, rfl, hx, T.k_Between.cl, T.na_Between_word, bp_word k1, rfl, false, congrArg V.bl (by rw [decide_eq_true rfl]; rfl), iteF ?_⟩
      refine ⟨_, rfl, x, _, dx, _, _, rfl, hx, T.k_Between.cl, T.na_Between_parts, bp_parts k2, _, rfl, x, _, dx, _, _, rfl, hx, T.k_Between.cl, T.na_Between_low, bp_at, Nat.le_of_lt (small1000 (by show 1 ≤ 1000; decide)), fun pt hpt => ?_⟩
      have s2 := same_upd (o := .tup [.int n]) hpt
      have ev : PyData.eqv (.tuple [.int n]) (.tuple [.int n]) = true := by simp [PyData.eqv, PyData.eqvAll]
      refine ⟨.tuple [.int n], .tuple [.int n], .tup (.of (s2 _ _ hpq)) (.cons (.int _) .nil), .tup (.of upd_same) (.cons (.int _) .nil), rfl, rfl, false, congrArg V.bl (by rw [ev]; rfl), iteF ?_⟩
      have hx2 := s2 _ _ hx
      have du2 := s2 _ _ du1
      refine ⟨_, rfl, x, _, dx, _, _, rfl, hx2, T.k_Between.cl, T.na_Between_low, bp_at, n, rfl, lg, _, rfl, p, _, 1, _, rfl, rfl, .of du2, atI_nat (j := 1) rfl, n, rfl, lg, rfl, true, congrArg V.bl (decide_eq_true rfl), iteT ?_⟩
      refine ⟨_, rfl, _, rfl, x, _, dx, _, _, rfl, hx2, T.k_Between.cl, T.na_Between_low, bp_at, _, _, rfl, rfl, true, congrArg V.bl (decide_eq_true n1), iteT ⟨_, _, rfl, rfl, true, congrArg V.bl (decide_eq_true n2), iteT ?_⟩⟩
      refine ⟨_, rfl, _, rfl, _, rfl, _, rfl, _, rfl, a, b, c, d, n, x, rfl, g, h9, R, pp.same s2, fun H3 s3 => ⟨_, _, rfl, rfl, q H3 ((s1.trans s2).trans s3)⟩⟩
theorem sgnAt {K : PySem.W.Frag} {σ : L2.St} {H : Hp} {la lb : Addr} {a b c d p : Int} {Q : VK} (h1 : -80 ≤ p) (h2 : p ≤ 80) (hs : σ[12]? = some (some (.int p))) (h8 : σ[8]? = some (some (.ref la))) (h9 : σ[9]? = some (some (.ref lb)))
    (ea : SqL K H la ((sigs fun j => sum0 a b c d j).map V.int)) (eb : SqL K H lb ((sigs fun j => sum0 (a * b * c) (a * b * d) (a * c * d) (b * c * d) j).map V.int)) (q : Q (.int (sgn (wsum a b c d p))) H) :
    tIf (tTest (tOp rEq (tVar 12) (tC (V.int 0)))) (tC (V.int 0)) (tIf (tTest (tOp (rI0 fun i j => V.bl (decide (j < i))) (tVar 12) (tC (V.int 0)))) (tOp (rIxL K) (tVar 8) (tOp (rI0 fun i j => V.int (i - j)) (tVar 12) (tC (V.int 1))))
      (tOp (rIxL K) (tVar 9) (tOp (rI0 fun i j => V.int (i - j)) (tUn (rU fun i => V.int (-i)) (tVar 12)) (tC (V.int 1))))) σ H Q := by
  refine ⟨_, hs, rfl, _, rfl, ite2 (fun e => ?_) (fun e => ?_)⟩
  · have e0 : p = 0 := V.int.inj (of_decide_eq_true e)
    subst e0
    have z : sgn (wsum a b c d 0) = 0 := by simp [wsum, sum0, sgn]
    rw [z] at q
    exact q
  have e0 : ¬ p = 0 := fun z => e (decide_eq_true (congrArg V.int z))
  refine ⟨_, hs, _, _, rfl, rfl, _, rfl, ite2 (fun e1 => ?_) (fun e1 => ?_)⟩
  · have p0 : 0 < p := of_decide_eq_true e1
    obtain ⟨n, rfl⟩ : ∃ n : Nat, p = (n : Int) := ⟨p.toNat, by omega⟩
    have e2 : (n : Int) - 1 = ((n - 1 : Nat) : Int) := by omega
    rw [wsum_up] at q
    refine ⟨_, h8, _, hs, _, _, rfl, rfl, la, _, _, _, rfl, rfl, ea, ?_, q⟩
    show atI _ ((n : Int) - 1) = _
    rw [e2]
    refine atI_nat ?_
    rw [List.getElem?_map, sigs_at (fun j => sum0 a b c d j) (by omega) (by omega)]
    rfl
  · have p0 : ¬ 0 < p := fun z => e1 (decide_eq_true z)
    obtain ⟨n, rfl⟩ : ∃ n : Nat, p = -(n : Int) := ⟨(-p).toNat, by omega⟩
    have e2 : - -(n : Int) - 1 = ((n - 1 : Nat) : Int) := by omega
    rw [wsum_down _ _ _ _ _ (by omega)] at q
    refine ⟨_, h9, _, hs, _, rfl, _, _, rfl, rfl, lb, _, _, _, rfl, rfl, eb, ?_, q⟩
    show atI _ (- -(n : Int) - 1) = _
    rw [e2]
    refine atI_nat ?_
    rw [List.getElem?_map, sigs_at (fun j => sum0 (a * b * c) (a * b * d) (a * c * d) (b * c * d) j) (by omega) (by omega)]
    rfl
def spLaw (K : PySem.W.Frag) : Sp := fun vs H Q _ => ∃ (a : Addr) (ns : List Int), vs = [.ref a] ∧ SqL K H a (ns.map V.int) ∧ ns.length ≤ 63 ∧ ∀ H', Q (.bl true) H'
theorem ok_law (T : Txt K mg) : FnOk P w K mg base CX0 9 T.f_law.a T.f_law.fd ["_law_script"] (spLaw K) := by
  have G__law_hat := ok__law_hat (P := P) (w := w) (base := base) T
  have G__law_four := ok__law_four (P := P) (w := w) (base := base) T
  have G__law_both := ok__law_both (P := P) (w := w) (base := base) T
  have G__law_due := ok__law_due (P := P) (w := w) (base := base) T
  have G_power_of := ok_power_of (P := P) (w := w) (base := base) T
  have G__law_told_right := ok__law_told_right (P := P) (w := w) (base := base) T
  have G__law_lot := ok__law_lot (P := P) (w := w) (base := base) T
  have G_sign_at := ok_sign_at (P := P) (w := w) (base := base) T
  have G_is_by := ok_is_by (P := P) (w := w) (base := base) T
  refine T.f_law.F.ok sc_law (fun vs H Q E h => ?_) (fun cdv A outer s H vs Q E hr h => ?_)
  · obtain ⟨a, ns, rfl, _⟩ := h
    rfl
  · obtain ⟨a, ns, rfl, hl, hn, q⟩ := h
    refine ⟨_, (pss_cons (ps_set (i := 1) sc_law.nd rfl (Or.inl rfl) (pe_call G__law_hat (hr.mono (by decide)) (by rfl) T.f__law_hat.g T.f__law_hat.F.kp T.f__law_hat.b .nil pass0 (pa_cons (pv 0) pa_nil))) (pss_cons (ps_for PassesOwn.never rfl (pi_range1 rfl T.n_range (pa_cons pe_int pa_nil)) (pg_name (i := 2) sc_law.nd rfl (Or.inl rfl)) (pss_cons (ps_set (i := 3) sc_law.nd rfl (Or.inl rfl) (pe_call G__law_four (hr.mono (by decide)) (by rfl) T.f__law_four.g T.f__law_four.F.kp T.f__law_four.b .nil pass0 (pa_cons (pv 1) pa_nil))) (pss_cons (ps_asg (pv 3) (pg_lst rfl (pgs_cons (pg_name (i := 4) sc_law.nd rfl (Or.inl rfl)) (pgs_cons (pg_name (i := 5) sc_law.nd rfl (Or.inl rfl)) (pgs_cons (pg_name (i := 6) sc_law.nd rfl (Or.inl rfl)) (pgs_cons (pg_name (i := 7) sc_law.nd rfl (Or.inl rfl)) pgs_nil)))))) (pss_cons (ps_asg (pe_call G__law_both (hr.mono (by decide)) (by rfl) T.f__law_both.g T.f__law_both.F.kp T.f__law_both.b .nil pass0 (pa_cons (pv 4) (pa_cons (pv 5) (pa_cons (pv 6) (pa_cons (pv 7) pa_nil))))) (pg_tup rfl (pgs_cons (pg_name (i := 8) sc_law.nd rfl (Or.inl rfl)) (pgs_cons (pg_name (i := 9) sc_law.nd rfl (Or.inl rfl)) pgs_nil)))) (pss_cons (ps_set (i := 10) sc_law.nd rfl (Or.inl rfl) (pe_call G__law_due (hr.mono (by decide)) (by rfl) T.f__law_due.g T.f__law_due.F.kp T.f__law_due.b .nil pass0 (pa_cons (pv 4) (pa_cons (pv 5) (pa_cons (pv 6) (pa_cons (pv 7) (pa_cons (pv 8) (pa_cons (pv 9) pa_nil)))))))) (pss_cons (ps_if (PW.pt (pw_or (pt_cmpR (op_eqD hr.units) (pv 10) (pe_tup pa_nil) (nomark _)) (pw_or1 (pt_not (pt_val (pe_call G__law_told_right (hr.mono (by decide)) (by rfl) T.f__law_told_right.g T.f__law_told_right.F.kp T.f__law_told_right.b .nil pass0 (pa_cons (pv 3) (pa_cons (pv 10) pa_nil)))))))) (pss_one (ps_ret pe_bl)) pss_nil) (pss_cons (ps_set (i := 11) sc_law.nd rfl (Or.inl rfl) (pe_ifExp (pt_cmpR op_isN (pe_ix ix_tup (pv 10) pe_int (fun _ _ => rfl)) pe_non (nomark _)) (pe_ix ix_tup (pv 10) pe_int (fun _ _ => rfl)) (pe_ix ix_tup (pv 10) pe_int (fun _ _ => rfl)))) (pss_cons (ps_for PassesOwn.never rfl (pi_tup (pe_tup (pa_cons (pe_op op_sub (pv 11) pe_int) (pa_cons (pv 11) (pa_cons (pe_op op_add (pv 11) pe_int) (pa_cons (pe_op op_add (pv 11) pe_int) (pa_cons (pe_op op_sub (pe_call G__law_lot (hr.mono (by decide)) (by rfl) T.f__law_lot.g T.f__law_lot.F.kp T.f__law_lot.b .nil pass0 (pa_cons (pv 1) (pa_cons pe_int pa_nil))) pe_int) (pa_cons (pe_op op_sub (pe_call G__law_lot (hr.mono (by decide)) (by rfl) T.f__law_lot.g T.f__law_lot.F.kp T.f__law_lot.b .nil pass0 (pa_cons (pv 1) (pa_cons pe_int pa_nil))) pe_int) (pa_cons pe_int (pa_cons (pe_un un_neg pe_int) pa_nil)))))))))) (pg_name (i := 12) sc_law.nd rfl (Or.inl rfl)) (pss_cons (ps_set (i := 13) sc_law.nd rfl (Or.inl rfl) (pe_ifExp (pt_cmpR op_eq (pv 12) pe_int (nomark _)) pe_int (pe_ifExp (pt_cmpR op_gt (pv 12) pe_int (nomark _)) (pe_ix ix_list (pv 8) (pe_op op_sub (pv 12) pe_int) (fun _ _ => rfl)) (pe_ix ix_list (pv 9) (pe_op op_sub (pe_un un_neg (pv 12)) pe_int) (fun _ _ => rfl))))) (pss_one (ps_if (PW.pt (pw_or (pt_cmpR op_ne (pe_call G_sign_at (hr.mono (by decide)) (by rfl) T.f_sign_at.g T.f_sign_at.F.kp T.f_sign_at.b .nil pass0 (pa_cons (pv 4) (pa_cons (pv 5) (pa_cons (pv 6) (pa_cons (pv 7) (pa_cons (pv 12) pa_nil)))))) (pv 13) (nomark _)) (pw_or1 (pt_cmpR op_ne (pe_call G_is_by (hr.mono (by decide)) (by rfl) T.f_is_by.g T.f_is_by.F.kp T.f_is_by.b .nil pass0 (pa_cons (pv 4) (pa_cons (pv 5) (pa_cons (pv 6) (pa_cons (pv 7) (pa_cons (pv 12) pa_nil)))))) (pe_ifExp (pt_cmpR op_eq (pv 12) pe_int (nomark _)) (pe_cmpR op_eq (pe_op op_mul (pv 4) (pv 7)) (pe_op op_mul (pv 5) (pv 6)) (nomark _)) (pe_cmpR op_eq (pv 13) pe_int (nomark _))) (nomark _))))) (pss_one (ps_ret pe_bl)) pss_nil)))) (pss_one (ps_if (pt_cmpR (op_papNe T (raw_eqP T) (raw_eqD T) (hr.mono (by decide))) (Ru.pe_callK0 G_power_of (hr.mono (by decide)) (by rfl) T.f_power_of.g T.f_power_of.F.kp (kb_power_of T) pass0 (pk_cons (pv 4) (pk_cons (pv 5) (pk_cons (pv 6) (pk_cons (pv 7) pk_nil))))) (pe_call G_power_of (hr.mono (by decide)) (by rfl) T.f_power_of.g T.f_power_of.F.kp T.f_power_of.b .nil pass0 (pa_cons (pv 4) (pa_cons (pv 5) (pa_cons (pv 6) (pa_cons (pv 7) pa_nil))))) (nomark _)) (pss_one (ps_ret pe_bl)) pss_nil)))))))))) (pss_one (ps_ret pe_bl)))), ?_⟩
    refine ⟨_, rfl, a, ns, rfl, hl, hn, fun h c H1 hh s1 => ?_⟩
    refine ⟨2, rfl, by decide, by decide, for_range (lo := 0) (n := 2) (fun i σ H' => Hat H' h c (100 * i) ∧ ∃ y2 y3 y4 y5 y6 y7 y8 y9 y10 y11 y12 y13, σ = [some (.ref a), some (.ref h), y2, y3, y4, y5, y6, y7, y8, y9, y10, y11, y12, y13])
      ⟨hh, none, none, none, none, none, none, none, none, none, none, none, none, rfl⟩ ?_ (fun σ H' _ => q H')⟩
    rintro i σ H' hi ⟨hhi, y2, y3, y4, y5, y6, y7, y8, y9, y10, y11, y12, y13, rfl⟩
    refine ⟨_, rfl, h, c, _, rfl, hhi, by omega, fun l x1 x2 x3 x4 H2 g h9 e2 f2 hh2 b2 => ?_⟩
    have ga := g.ga
    have gb := g.gb
    have gc := g.gc
    have gd := g.gd
    have nlh : l ≠ h := hhi.neA f2
    refine ⟨_, rfl, l, _, rfl, .of e2, rfl, _, _, rfl, _, _, rfl, _, _, rfl, _, _, rfl, rfl, ?_⟩
    refine ⟨_, rfl, _, rfl, _, rfl, _, rfl, x1, x2, x3, x4, rfl, g, h9, fun la lb pb H3 ea eb ep fa fb s3 => ⟨pb, _, rfl, .of ep, rfl, _, _, rfl, _, _, rfl, rfl, ?_⟩⟩
    refine ⟨_, rfl, _, rfl, _, rfl, _, rfl, _, rfl, _, rfl, x1, x2, x3, x4, la, lb, rfl, g, h9, .of ea, .of eb, fun pd H4 k n R du fd s4 => ?_⟩
    refine ⟨_, rfl, Nat.zero_le _, fun pt hpt => ?_⟩
    have s5 := same_upd (o := .tup []) hpt
    have du5 : Due _ pd k n := s5 _ _ du
    obtain ⟨dd, dd1, dd2, dd3⟩ := Due.data (K := K) du5
    refine ⟨dd, .tuple [], dd1, .tup (.of upd_same) .nil, dd2, rfl, false, congrArg V.bl dd3, iteF ?_⟩
    refine ⟨_, rfl, _, rfl, l, pd, x1, x2, x3, x4, n, k, rfl, .of (s5 _ _ (s4 _ _ (s3 _ _ e2))), g, h9, R, du5, fun H6 s6 => ⟨true, rfl, iteF ?_⟩⟩
    have du6 : Due H6 pd k n := s6 _ _ du5
    refine Due.at (K := K) du6 rfl ?_
    have nb : -64 ≤ n ∧ n ≤ 68 := by
      cases k with
      | true =>
        have := (res_power g h9 R).2
        omega
      | false =>
        have := res_low g h9 R
        omega
    have hh6 := (((hh2.same s3).same s4).same s5).same s6
    refine ⟨_, rfl, _, _, rfl, rfl, _, rfl, _, rfl, _, _, rfl, rfl, _, rfl, _, _, rfl, rfl, _, rfl, h, c, _, 161, rfl, hh6, by omega, by decide, by decide, fun d1 H7 d10 d11 hh7 b7 => ?_⟩
    refine ⟨_, _, rfl, rfl, _, rfl, h, c, _, 21, rfl, hh7, by omega, by decide, by decide, fun d2 H8 d20 d21 hh8 b8 => ?_⟩
    refine ⟨_, _, rfl, rfl, _, rfl, Nat.le_of_lt (small1000 (by show 8 ≤ 1000; decide)), fun pt2 hpt2 => ⟨pt2, rfl, ⟨_, .of upd_same⟩, ?_⟩⟩
    have ea8 := (b7.trans b8) _ _ (s6 _ _ (s5 _ _ (s4 _ _ ea))) (hh2.neA fa)
    have eb8 := (b7.trans b8) _ _ (s6 _ _ (s5 _ _ (s4 _ _ eb))) (hh2.neA fb)
    have s9 := same_upd (o := .tup [.int (n - 1), .int n, .int (n + 1), .int (n + 2), .int (d1 - 80), .int (d2 - 10), .int 80, .int (-80)]) hpt2
    have f9 := updAt (.tup [.int (n - 1), .int n, .int (n + 1), .int (n + 2), .int (d1 - 80), .int (d2 - 10), .int 80, .int (-80)]) hpt2
    have fine : ∀ p : Int, -80 ≤ p → p ≤ 80 → Fine x1 x2 x3 x4 p := fun p h1 h2 => ⟨⟨by omega, by omega⟩, ⟨by omega, by omega⟩, ⟨by omega, by omega⟩, ⟨by omega, by omega⟩, h1, h2⟩
    have l1 := fun {x y : Int} (hx : 1 ≤ x ∧ x ≤ 99) => (.inl ⟨by omega, by omega⟩ : CMul x y)
    have hh9 := hh8.same s9
    have ea9 := s9 _ _ ea8
    have eb9 := s9 _ _ eb8
    refine for_tup (K := K) (a := pt2) (xs := [.int (n - 1), .int n, .int (n + 1), .int (n + 2), .int (d1 - 80), .int (d2 - 10), .int 80, .int (-80)])
      (fun j σ H' => Same (upd H8 pt2 (.tup [.int (n - 1), .int n, .int (n + 1), .int (n + 2), .int (d1 - 80), .int (d2 - 10), .int 80, .int (-80)])) H' ∧ ∃ z12 z13, σ = [some (.ref a), some (.ref h), some (.int (0 + (i : Int))), some (.ref l), some (.int x1), some (.int x2), some (.int x3), some (.int x4), some (.ref la), some (.ref lb), some (.ref pd), some (.int n), z12, z13])
      ⟨Same.refl _, y12, y13, rfl⟩ (fun j σ H' _ p => .of (p.1 _ _ f9)) (fun j x σ H' hj p => ?_) (fun σ H' p => ?_)
    · obtain ⟨sm, z12, z13, rfl⟩ := p
      obtain ⟨pw, rfl, pw1, pw2⟩ : ∃ pw : Int, x = .int pw ∧ -80 ≤ pw ∧ pw ≤ 80 := by
        match j, hj with
        | 0, hj => cases hj; exact ⟨_, rfl, by omega, by omega⟩
        | 1, hj => cases hj; exact ⟨_, rfl, by omega, by omega⟩
        | 2, hj => cases hj; exact ⟨_, rfl, by omega, by omega⟩
        | 3, hj => cases hj; exact ⟨_, rfl, by omega, by omega⟩
        | 4, hj => cases hj; exact ⟨_, rfl, by omega, by omega⟩
        | 5, hj => cases hj; exact ⟨_, rfl, by omega, by omega⟩
        | 6, hj => cases hj; exact ⟨_, rfl, by omega, by omega⟩
        | 7, hj => cases hj; exact ⟨_, rfl, by omega, by omega⟩
        | n + 8, hj => cases hj
      refine sgnAt (K := K) (a := x1) (b := x2) (c := x3) (d := x4) pw1 pw2 rfl rfl rfl (.of (sm _ _ ea9)) (.of (sm _ _ eb9)) ?_
      refine ⟨_, rfl, _, rfl, _, rfl, _, rfl, _, rfl, x1, x2, x3, x4, pw, rfl, fine pw pw1 pw2, fun Ha sa => ?_⟩
      refine ⟨_, rfl, rfl, false, congrArg V.bl (by rw [decide_eq_true rfl]; rfl), iteF ?_⟩
      refine ⟨_, rfl, _, rfl, _, rfl, _, rfl, _, rfl, x1, x2, x3, x4, pw, rfl, fine pw pw1 pw2, fun Hb sb => ?_⟩
      have nxt : Same (upd H8 pt2 (.tup [.int (n - 1), .int n, .int (n + 1), .int (n + 2), .int (d1 - 80), .int (d2 - 10), .int 80, .int (-80)])) Hb := (sm.trans sa).trans sb
      refine ⟨_, rfl, rfl, _, rfl, ite2 (fun e => ?_) (fun e => ?_)⟩
      · have e0 : pw = 0 := V.int.inj (of_decide_eq_true e)
        refine ⟨_, rfl, _, rfl, _, _, rfl, rfl, l1 ⟨by omega, by omega⟩, _, rfl, _, rfl, _, _, rfl, rfl, l1 ⟨by omega, by omega⟩, rfl, rfl, false, congrArg V.bl ?_, iteF ⟨nxt, some (.int pw), some (.int (sgn (wsum x1 x2 x3 x4 pw))), rfl⟩⟩
        have ei : isby x1 x2 x3 x4 pw = decide (V.int (x1 * x4) = V.int (x2 * x3)) := by
          unfold isby
          rw [if_pos e0, dec_int]
        rw [ei]
        show (!decide (V.bl _ = V.bl _)) = false
        rw [decide_eq_true rfl]
        rfl
      · have e0 : ¬ pw = 0 := fun z => e (decide_eq_true (congrArg V.int z))
        refine ⟨_, rfl, rfl, rfl, false, congrArg V.bl ?_, iteF ⟨nxt, some (.int pw), some (.int (sgn (wsum x1 x2 x3 x4 pw))), rfl⟩⟩
        have ei : isby x1 x2 x3 x4 pw = decide (V.int (sgn (wsum x1 x2 x3 x4 pw)) = V.int 0) := by
          unfold isby
          rw [if_neg e0, dec_int, Bool.eq_iff_iff]
          unfold sgn
          split
          · simp [*]
          · split <;> simp [*]
        rw [ei]
        show (!decide (V.bl _ = V.bl _)) = false
        rw [decide_eq_true rfl]
        rfl
    · obtain ⟨sm, z12, z13, rfl⟩ := p
      refine ⟨_, rfl, _, rfl, _, rfl, _, rfl, x1, x2, x3, x4, rfl, g, h9, fun u Hc k1 n1 r1 pap1 f1 sc => ?_⟩
      refine ⟨_, rfl, _, rfl, _, rfl, _, rfl, x1, x2, x3, x4, rfl, g, h9, fun u' Hd k2 n2 r2 pap2 f2' sd => ?_⟩
      obtain ⟨rfl, rfl⟩ := r1.uniq r2
      refine ⟨u, u', k1, n1, rfl, rfl, pap1.same sd, pap2, _, rfl, iteF ?_⟩
      exact ⟨((((hh9.same sm).same sc).same sd).mono (by omega)), some (.int (0 + (i : Int))), some (.ref l), some (.int x1), some (.int x2), some (.int x3), some (.int x4), some (.ref la), some (.ref lb), some (.ref pd), some (.int n), z12, z13, rfl⟩
end
end Q

namespace Q
open PySem PySem.Spec PyProof.Rows L2
def mk_txt {K : PySem.W.Frag} {h : Heap} {mg : Str → Option Value} (X : K.In h) (G : h.Ns mainGlobals mg)
    {a_Paper__init__ : Addr} {od_Paper__init__ an_Paper__init__ : Option Addr} {sl_Paper__init__ : Array (Option Value)} {oc_Paper__init__ kV_Paper__init__ dc_Paper__init__ pm_Paper__init__ cd_Paper__init__ ct_Paper__init__ : Value}
    {a_Paper__eq__ : Addr} {od_Paper__eq__ an_Paper__eq__ : Option Addr} {sl_Paper__eq__ : Array (Option Value)} {oc_Paper__eq__ kV_Paper__eq__ dc_Paper__eq__ pm_Paper__eq__ cd_Paper__eq__ ct_Paper__eq__ : Value}
    {a_Paper__bool__ : Addr} {od_Paper__bool__ an_Paper__bool__ : Option Addr} {sl_Paper__bool__ : Array (Option Value)} {oc_Paper__bool__ kV_Paper__bool__ dc_Paper__bool__ pm_Paper__bool__ cd_Paper__bool__ ct_Paper__bool__ : Value}
    {a_Denial__init__ : Addr} {od_Denial__init__ an_Denial__init__ : Option Addr} {sl_Denial__init__ : Array (Option Value)} {oc_Denial__init__ kV_Denial__init__ dc_Denial__init__ pm_Denial__init__ cd_Denial__init__ ct_Denial__init__ : Value}
    {a_Denial__eq__ : Addr} {od_Denial__eq__ an_Denial__eq__ : Option Addr} {sl_Denial__eq__ : Array (Option Value)} {oc_Denial__eq__ kV_Denial__eq__ dc_Denial__eq__ pm_Denial__eq__ cd_Denial__eq__ ct_Denial__eq__ : Value}
    {a_Denial__bool__ : Addr} {od_Denial__bool__ an_Denial__bool__ : Option Addr} {sl_Denial__bool__ : Array (Option Value)} {oc_Denial__bool__ kV_Denial__bool__ dc_Denial__bool__ pm_Denial__bool__ cd_Denial__bool__ ct_Denial__bool__ : Value}
    {a_ByPower__init__ : Addr} {od_ByPower__init__ an_ByPower__init__ : Option Addr} {sl_ByPower__init__ : Array (Option Value)} {oc_ByPower__init__ kV_ByPower__init__ dc_ByPower__init__ pm_ByPower__init__ cd_ByPower__init__ ct_ByPower__init__ : Value}
    {a_Between__init__ : Addr} {od_Between__init__ an_Between__init__ : Option Addr} {sl_Between__init__ : Array (Option Value)} {oc_Between__init__ kV_Between__init__ dc_Between__init__ pm_Between__init__ cd_Between__init__ ct_Between__init__ : Value}
    {a_Paper : Addr} (h1_Paper : PySem.W.nsIn K mainGlobals "Paper" = some (some (.ref a_Paper)))
    (h1_Paper__init__ : PySem.W.findIn K (.ref a_Paper) "__init__" = some (some (.ref a_Paper__init__)))
    (h1_Paper__eq__ : PySem.W.findIn K (.ref a_Paper) "__eq__" = some (some (.ref a_Paper__eq__)))
    (h1_Paper__bool__ : PySem.W.findIn K (.ref a_Paper) "__bool__" = some (some (.ref a_Paper__bool__)))
    {a_Denial : Addr} (h1_Denial : PySem.W.nsIn K mainGlobals "Denial" = some (some (.ref a_Denial)))
    (h1_Denial__init__ : PySem.W.findIn K (.ref a_Denial) "__init__" = some (some (.ref a_Denial__init__)))
    (h1_Denial__eq__ : PySem.W.findIn K (.ref a_Denial) "__eq__" = some (some (.ref a_Denial__eq__)))
    (h1_Denial__bool__ : PySem.W.findIn K (.ref a_Denial) "__bool__" = some (some (.ref a_Denial__bool__)))
    {a_ByPower : Addr} (h1_ByPower : PySem.W.nsIn K mainGlobals "ByPower" = some (some (.ref a_ByPower)))
    (h1_ByPower__init__ : PySem.W.findIn K (.ref a_ByPower) "__init__" = some (some (.ref a_ByPower__init__)))
    {a_Between : Addr} (h1_Between : PySem.W.nsIn K mainGlobals "Between" = some (some (.ref a_Between)))
    (h1_Between__init__ : PySem.W.findIn K (.ref a_Between) "__init__" = some (some (.ref a_Between__init__)))
    (h0_Paper__init__ : PySem.W.isFn K (.ref a_Paper__init__) = true)
    (h2_Paper__init__ : K.lookup a_Paper__init__ = some ⟨oc_Paper__init__, od_Paper__init__, .func (PySem.W.fnOf "__init__" "Paper.__init__" (defArgs s_Paper__init__) (defBody s_Paper__init__) (defScope s_Paper__init__) .none kV_Paper__init__ dc_Paper__init__ pm_Paper__init__ an_Paper__init__ cd_Paper__init__ ct_Paper__init__), sl_Paper__init__⟩)
    (h3_Paper__init__ : PySem.W.codeIn K cd_Paper__init__ "Paper.__init__" = true)
    (h4_Paper__init__ : PySem.W.keepIn K (.ref a_Paper__init__) = true)
    (h0_Paper__eq__ : PySem.W.isFn K (.ref a_Paper__eq__) = true)
    (h2_Paper__eq__ : K.lookup a_Paper__eq__ = some ⟨oc_Paper__eq__, od_Paper__eq__, .func (PySem.W.fnOf "__eq__" "Paper.__eq__" (defArgs s_Paper__eq__) (defBody s_Paper__eq__) (defScope s_Paper__eq__) .none kV_Paper__eq__ dc_Paper__eq__ pm_Paper__eq__ an_Paper__eq__ cd_Paper__eq__ ct_Paper__eq__), sl_Paper__eq__⟩)
    (h3_Paper__eq__ : PySem.W.codeIn K cd_Paper__eq__ "Paper.__eq__" = true)
    (h4_Paper__eq__ : PySem.W.keepIn K (.ref a_Paper__eq__) = true)
    (h0_Paper__bool__ : PySem.W.isFn K (.ref a_Paper__bool__) = true)
    (h2_Paper__bool__ : K.lookup a_Paper__bool__ = some ⟨oc_Paper__bool__, od_Paper__bool__, .func (PySem.W.fnOf "__bool__" "Paper.__bool__" (defArgs s_Paper__bool__) (defBody s_Paper__bool__) (defScope s_Paper__bool__) .none kV_Paper__bool__ dc_Paper__bool__ pm_Paper__bool__ an_Paper__bool__ cd_Paper__bool__ ct_Paper__bool__), sl_Paper__bool__⟩)
    (h3_Paper__bool__ : PySem.W.codeIn K cd_Paper__bool__ "Paper.__bool__" = true)
    (h4_Paper__bool__ : PySem.W.keepIn K (.ref a_Paper__bool__) = true)
    (h0_Denial__init__ : PySem.W.isFn K (.ref a_Denial__init__) = true)
    (h2_Denial__init__ : K.lookup a_Denial__init__ = some ⟨oc_Denial__init__, od_Denial__init__, .func (PySem.W.fnOf "__init__" "Denial.__init__" (defArgs s_Denial__init__) (defBody s_Denial__init__) (defScope s_Denial__init__) .none kV_Denial__init__ dc_Denial__init__ pm_Denial__init__ an_Denial__init__ cd_Denial__init__ ct_Denial__init__), sl_Denial__init__⟩)
    (h3_Denial__init__ : PySem.W.codeIn K cd_Denial__init__ "Denial.__init__" = true)
    (h4_Denial__init__ : PySem.W.keepIn K (.ref a_Denial__init__) = true)
    (h0_Denial__eq__ : PySem.W.isFn K (.ref a_Denial__eq__) = true)
    (h2_Denial__eq__ : K.lookup a_Denial__eq__ = some ⟨oc_Denial__eq__, od_Denial__eq__, .func (PySem.W.fnOf "__eq__" "Denial.__eq__" (defArgs s_Denial__eq__) (defBody s_Denial__eq__) (defScope s_Denial__eq__) .none kV_Denial__eq__ dc_Denial__eq__ pm_Denial__eq__ an_Denial__eq__ cd_Denial__eq__ ct_Denial__eq__), sl_Denial__eq__⟩)
    (h3_Denial__eq__ : PySem.W.codeIn K cd_Denial__eq__ "Denial.__eq__" = true)
    (h4_Denial__eq__ : PySem.W.keepIn K (.ref a_Denial__eq__) = true)
    (h0_Denial__bool__ : PySem.W.isFn K (.ref a_Denial__bool__) = true)
    (h2_Denial__bool__ : K.lookup a_Denial__bool__ = some ⟨oc_Denial__bool__, od_Denial__bool__, .func (PySem.W.fnOf "__bool__" "Denial.__bool__" (defArgs s_Denial__bool__) (defBody s_Denial__bool__) (defScope s_Denial__bool__) .none kV_Denial__bool__ dc_Denial__bool__ pm_Denial__bool__ an_Denial__bool__ cd_Denial__bool__ ct_Denial__bool__), sl_Denial__bool__⟩)
    (h3_Denial__bool__ : PySem.W.codeIn K cd_Denial__bool__ "Denial.__bool__" = true)
    (h4_Denial__bool__ : PySem.W.keepIn K (.ref a_Denial__bool__) = true)
    (h0_ByPower__init__ : PySem.W.isFn K (.ref a_ByPower__init__) = true)
    (h2_ByPower__init__ : K.lookup a_ByPower__init__ = some ⟨oc_ByPower__init__, od_ByPower__init__, .func (PySem.W.fnOf "__init__" "ByPower.__init__" (defArgs s_ByPower__init__) (defBody s_ByPower__init__) (defScope s_ByPower__init__) .none kV_ByPower__init__ dc_ByPower__init__ pm_ByPower__init__ an_ByPower__init__ cd_ByPower__init__ ct_ByPower__init__), sl_ByPower__init__⟩)
    (h3_ByPower__init__ : PySem.W.codeIn K cd_ByPower__init__ "ByPower.__init__" = true)
    (h4_ByPower__init__ : PySem.W.keepIn K (.ref a_ByPower__init__) = true)
    (h0_Between__init__ : PySem.W.isFn K (.ref a_Between__init__) = true)
    (h2_Between__init__ : K.lookup a_Between__init__ = some ⟨oc_Between__init__, od_Between__init__, .func (PySem.W.fnOf "__init__" "Between.__init__" (defArgs s_Between__init__) (defBody s_Between__init__) (defScope s_Between__init__) .none kV_Between__init__ dc_Between__init__ pm_Between__init__ an_Between__init__ cd_Between__init__ ct_Between__init__), sl_Between__init__⟩)
    (h3_Between__init__ : PySem.W.codeIn K cd_Between__init__ "Between.__init__" = true)
    (h4_Between__init__ : PySem.W.keepIn K (.ref a_Between__init__) = true)
    (pg_Paper : PySem.W.plainGet K a_Paper Str.empty = true)
    (hd_Paper : PySem.W.hasDictIn K a_Paper = true)
    (po_Paper : PySem.W.plainOver K a_Paper = true)
    (sa_Paper : PySem.W.findIn K (.ref a_Paper) "__setattr__" = some (some (.builtin "object.__setattr__")))
    (mk_Paper : PySem.W.makesIn K a_Paper = true)
    (kc_Paper : PySem.W.keepIn K (.ref a_Paper) = true)
    (ha_Paper : PySem.W.findIn K (.ref a_Paper) "__class__" = some (some (.builtin "object.__class__")))
    (hm_Paper : PySem.W.mroIn K a_Paper (.type "object") = some true)
    (na_Paper_word : PySem.W.findIn K (.ref a_Paper) "word" = some none)
    (na_Paper_parts : PySem.W.findIn K (.ref a_Paper) "parts" = some none)
    (qe_Paper : PySem.W.findIn K (.ref a_Paper) "__eq__" = some (some (.ref a_Paper__eq__)))
    (qn_Paper : PySem.W.findIn K (.ref a_Paper) "__ne__" = some (some (.builtin "object.__ne__")))
    (r1_Paper : PySem.W.readsIn K a_Paper (.type "type") = true)
    (r2_Paper : PySem.W.specialIn K (.ref a_Paper) "__getattribute__" = some (some (.builtin "type.__getattribute__")))
    (r3_Paper__init__ : PySem.W.findCls K (.ref a_Paper) (.type "type") "__init__" = some (.val (.ref a_Paper__init__)))
    (pg_Denial : PySem.W.plainGet K a_Denial Str.empty = true)
    (hd_Denial : PySem.W.hasDictIn K a_Denial = true)
    (po_Denial : PySem.W.plainOver K a_Denial = true)
    (sa_Denial : PySem.W.findIn K (.ref a_Denial) "__setattr__" = some (some (.builtin "object.__setattr__")))
    (mk_Denial : PySem.W.makesIn K a_Denial = true)
    (kc_Denial : PySem.W.keepIn K (.ref a_Denial) = true)
    (ha_Denial : PySem.W.findIn K (.ref a_Denial) "__class__" = some (some (.builtin "object.__class__")))
    (hm_Denial : PySem.W.mroIn K a_Denial (.type "object") = some true)
    (na_Denial_word : PySem.W.findIn K (.ref a_Denial) "word" = some none)
    (na_Denial_parts : PySem.W.findIn K (.ref a_Denial) "parts" = some none)
    (qe_Denial : PySem.W.findIn K (.ref a_Denial) "__eq__" = some (some (.ref a_Denial__eq__)))
    (qn_Denial : PySem.W.findIn K (.ref a_Denial) "__ne__" = some (some (.builtin "object.__ne__")))
    (r1_Denial : PySem.W.readsIn K a_Denial (.type "type") = true)
    (r2_Denial : PySem.W.specialIn K (.ref a_Denial) "__getattribute__" = some (some (.builtin "type.__getattribute__")))
    (r3_Denial__init__ : PySem.W.findCls K (.ref a_Denial) (.type "type") "__init__" = some (.val (.ref a_Denial__init__)))
    (pg_ByPower : PySem.W.plainGet K a_ByPower Str.empty = true)
    (hd_ByPower : PySem.W.hasDictIn K a_ByPower = true)
    (po_ByPower : PySem.W.plainOver K a_ByPower = true)
    (sa_ByPower : PySem.W.findIn K (.ref a_ByPower) "__setattr__" = some (some (.builtin "object.__setattr__")))
    (mk_ByPower : PySem.W.makesIn K a_ByPower = true)
    (kc_ByPower : PySem.W.keepIn K (.ref a_ByPower) = true)
    (ha_ByPower : PySem.W.findIn K (.ref a_ByPower) "__class__" = some (some (.builtin "object.__class__")))
    (hm_ByPower : PySem.W.mroIn K a_ByPower (.type "object") = some true)
    (na_ByPower_word : PySem.W.findIn K (.ref a_ByPower) "word" = some none)
    (na_ByPower_parts : PySem.W.findIn K (.ref a_ByPower) "parts" = some none)
    (na_ByPower_power : PySem.W.findIn K (.ref a_ByPower) "power" = some none)
    (qe_ByPower : PySem.W.findIn K (.ref a_ByPower) "__eq__" = some (some (.ref a_Paper__eq__)))
    (qn_ByPower : PySem.W.findIn K (.ref a_ByPower) "__ne__" = some (some (.builtin "object.__ne__")))
    (is_ByPower_ByPower : PySem.W.kitOne K (.ref a_ByPower) (.ref a_ByPower) = some true)
    (is_ByPower_Between : PySem.W.kitOne K (.ref a_ByPower) (.ref a_Between) = some false)
    (qb_ByPower : PySem.W.findIn K (.ref a_ByPower) "__bool__" = some (some (.ref a_Paper__bool__)))
    (pg_Between : PySem.W.plainGet K a_Between Str.empty = true)
    (hd_Between : PySem.W.hasDictIn K a_Between = true)
    (po_Between : PySem.W.plainOver K a_Between = true)
    (sa_Between : PySem.W.findIn K (.ref a_Between) "__setattr__" = some (some (.builtin "object.__setattr__")))
    (mk_Between : PySem.W.makesIn K a_Between = true)
    (kc_Between : PySem.W.keepIn K (.ref a_Between) = true)
    (ha_Between : PySem.W.findIn K (.ref a_Between) "__class__" = some (some (.builtin "object.__class__")))
    (hm_Between : PySem.W.mroIn K a_Between (.type "object") = some true)
    (na_Between_word : PySem.W.findIn K (.ref a_Between) "word" = some none)
    (na_Between_parts : PySem.W.findIn K (.ref a_Between) "parts" = some none)
    (na_Between_low : PySem.W.findIn K (.ref a_Between) "low" = some none)
    (qe_Between : PySem.W.findIn K (.ref a_Between) "__eq__" = some (some (.ref a_Denial__eq__)))
    (qn_Between : PySem.W.findIn K (.ref a_Between) "__ne__" = some (some (.builtin "object.__ne__")))
    (is_Between_Between : PySem.W.kitOne K (.ref a_Between) (.ref a_Between) = some true)
    (is_Between_ByPower : PySem.W.kitOne K (.ref a_Between) (.ref a_ByPower) = some false)
    (qb_Between : PySem.W.findIn K (.ref a_Between) "__bool__" = some (some (.ref a_Denial__bool__)))
    (hn_ : PySem.W.specialIn K (.builtin "object.__class__") "__get__" = some (some (.builtin "getset_descriptor.__get__")))
    (ht_ : PySem.W.takesIn K (.builtin "object.__class__") = some true)
    {a_is_integer : Addr} {od_is_integer an_is_integer : Option Addr} {sl_is_integer : Array (Option Value)} {oc_is_integer kV_is_integer dc_is_integer pm_is_integer cd_is_integer ct_is_integer : Value}
    (h1_is_integer : PySem.W.nsIn K mainGlobals "is_integer" = some (some (.ref a_is_integer)))
    (h2_is_integer : K.lookup a_is_integer = some ⟨oc_is_integer, od_is_integer, .func (PySem.W.fnOf "is_integer" "is_integer" (defArgs s_is_integer) (defBody s_is_integer) (defScope s_is_integer) .none kV_is_integer dc_is_integer pm_is_integer an_is_integer cd_is_integer ct_is_integer), sl_is_integer⟩)
    (h3_is_integer : PySem.W.codeIn K cd_is_integer "is_integer" = true)
    (h4_is_integer : PySem.W.keepIn K (.ref a_is_integer) = true)
    {a_is_within : Addr} {od_is_within an_is_within : Option Addr} {sl_is_within : Array (Option Value)} {oc_is_within kV_is_within dc_is_within pm_is_within cd_is_within ct_is_within : Value}
    (h1_is_within : PySem.W.nsIn K mainGlobals "is_within" = some (some (.ref a_is_within)))
    (h2_is_within : K.lookup a_is_within = some ⟨oc_is_within, od_is_within, .func (PySem.W.fnOf "is_within" "is_within" (defArgs s_is_within) (defBody s_is_within) (defScope s_is_within) .none kV_is_within dc_is_within pm_is_within an_is_within cd_is_within ct_is_within), sl_is_within⟩)
    (h3_is_within : PySem.W.codeIn K cd_is_within "is_within" = true)
    (h4_is_within : PySem.W.keepIn K (.ref a_is_within) = true)
    {a_need_within : Addr} {od_need_within an_need_within : Option Addr} {sl_need_within : Array (Option Value)} {oc_need_within kV_need_within dc_need_within pm_need_within cd_need_within ct_need_within : Value}
    (h1_need_within : PySem.W.nsIn K mainGlobals "need_within" = some (some (.ref a_need_within)))
    (h2_need_within : K.lookup a_need_within = some ⟨oc_need_within, od_need_within, .func (PySem.W.fnOf "need_within" "need_within" (defArgs s_need_within) (defBody s_need_within) (defScope s_need_within) .none kV_need_within dc_need_within pm_need_within an_need_within cd_need_within ct_need_within), sl_need_within⟩)
    (h3_need_within : PySem.W.codeIn K cd_need_within "need_within" = true)
    (h4_need_within : PySem.W.keepIn K (.ref a_need_within) = true)
    {a_need_numbers : Addr} {od_need_numbers an_need_numbers : Option Addr} {sl_need_numbers : Array (Option Value)} {oc_need_numbers kV_need_numbers dc_need_numbers pm_need_numbers cd_need_numbers ct_need_numbers : Value}
    (h1_need_numbers : PySem.W.nsIn K mainGlobals "need_numbers" = some (some (.ref a_need_numbers)))
    (h2_need_numbers : K.lookup a_need_numbers = some ⟨oc_need_numbers, od_need_numbers, .func (PySem.W.fnOf "need_numbers" "need_numbers" (defArgs s_need_numbers) (defBody s_need_numbers) (defScope s_need_numbers) .none kV_need_numbers dc_need_numbers pm_need_numbers an_need_numbers cd_need_numbers ct_need_numbers), sl_need_numbers⟩)
    (h3_need_numbers : PySem.W.codeIn K cd_need_numbers "need_numbers" = true)
    (h4_need_numbers : PySem.W.keepIn K (.ref a_need_numbers) = true)
    {a_need_power : Addr} {od_need_power an_need_power : Option Addr} {sl_need_power : Array (Option Value)} {oc_need_power kV_need_power dc_need_power pm_need_power cd_need_power ct_need_power : Value}
    (h1_need_power : PySem.W.nsIn K mainGlobals "need_power" = some (some (.ref a_need_power)))
    (h2_need_power : K.lookup a_need_power = some ⟨oc_need_power, od_need_power, .func (PySem.W.fnOf "need_power" "need_power" (defArgs s_need_power) (defBody s_need_power) (defScope s_need_power) .none kV_need_power dc_need_power pm_need_power an_need_power cd_need_power ct_need_power), sl_need_power⟩)
    (h3_need_power : PySem.W.codeIn K cd_need_power "need_power" = true)
    (h4_need_power : PySem.W.keepIn K (.ref a_need_power) = true)
    {a_need_growing : Addr} {od_need_growing an_need_growing : Option Addr} {sl_need_growing : Array (Option Value)} {oc_need_growing kV_need_growing dc_need_growing pm_need_growing cd_need_growing ct_need_growing : Value}
    (h1_need_growing : PySem.W.nsIn K mainGlobals "need_growing" = some (some (.ref a_need_growing)))
    (h2_need_growing : K.lookup a_need_growing = some ⟨oc_need_growing, od_need_growing, .func (PySem.W.fnOf "need_growing" "need_growing" (defArgs s_need_growing) (defBody s_need_growing) (defScope s_need_growing) .none kV_need_growing dc_need_growing pm_need_growing an_need_growing cd_need_growing ct_need_growing), sl_need_growing⟩)
    (h3_need_growing : PySem.W.codeIn K cd_need_growing "need_growing" = true)
    (h4_need_growing : PySem.W.keepIn K (.ref a_need_growing) = true)
    {a_fixed : Addr} {od_fixed an_fixed : Option Addr} {sl_fixed : Array (Option Value)} {oc_fixed kV_fixed dc_fixed pm_fixed cd_fixed ct_fixed : Value}
    (h1_fixed : PySem.W.nsIn K mainGlobals "fixed" = some (some (.ref a_fixed)))
    (h2_fixed : K.lookup a_fixed = some ⟨oc_fixed, od_fixed, .func (PySem.W.fnOf "fixed" "fixed" (defArgs s_fixed) (defBody s_fixed) (defScope s_fixed) .none kV_fixed dc_fixed pm_fixed an_fixed cd_fixed ct_fixed), sl_fixed⟩)
    (h3_fixed : PySem.W.codeIn K cd_fixed "fixed" = true)
    (h4_fixed : PySem.W.keepIn K (.ref a_fixed) = true)
    {a_raised : Addr} {od_raised an_raised : Option Addr} {sl_raised : Array (Option Value)} {oc_raised kV_raised dc_raised pm_raised cd_raised ct_raised : Value}
    (h1_raised : PySem.W.nsIn K mainGlobals "raised" = some (some (.ref a_raised)))
    (h2_raised : K.lookup a_raised = some ⟨oc_raised, od_raised, .func (PySem.W.fnOf "raised" "raised" (defArgs s_raised) (defBody s_raised) (defScope s_raised) .none kV_raised dc_raised pm_raised an_raised cd_raised ct_raised), sl_raised⟩)
    (h3_raised : PySem.W.codeIn K cd_raised "raised" = true)
    (h4_raised : PySem.W.keepIn K (.ref a_raised) = true)
    {a_whole_sum : Addr} {od_whole_sum an_whole_sum : Option Addr} {sl_whole_sum : Array (Option Value)} {oc_whole_sum kV_whole_sum dc_whole_sum pm_whole_sum cd_whole_sum ct_whole_sum : Value}
    (h1_whole_sum : PySem.W.nsIn K mainGlobals "whole_sum" = some (some (.ref a_whole_sum)))
    (h2_whole_sum : K.lookup a_whole_sum = some ⟨oc_whole_sum, od_whole_sum, .func (PySem.W.fnOf "whole_sum" "whole_sum" (defArgs s_whole_sum) (defBody s_whole_sum) (defScope s_whole_sum) .none kV_whole_sum dc_whole_sum pm_whole_sum an_whole_sum cd_whole_sum ct_whole_sum), sl_whole_sum⟩)
    (h3_whole_sum : PySem.W.codeIn K cd_whole_sum "whole_sum" = true)
    (h4_whole_sum : PySem.W.keepIn K (.ref a_whole_sum) = true)
    {a_is_by_power : Addr} {od_is_by_power an_is_by_power : Option Addr} {sl_is_by_power : Array (Option Value)} {oc_is_by_power kV_is_by_power dc_is_by_power pm_is_by_power cd_is_by_power ct_is_by_power : Value}
    (h1_is_by_power : PySem.W.nsIn K mainGlobals "is_by_power" = some (some (.ref a_is_by_power)))
    (h2_is_by_power : K.lookup a_is_by_power = some ⟨oc_is_by_power, od_is_by_power, .func (PySem.W.fnOf "is_by_power" "is_by_power" (defArgs s_is_by_power) (defBody s_is_by_power) (defScope s_is_by_power) .none kV_is_by_power dc_is_by_power pm_is_by_power an_is_by_power cd_is_by_power ct_is_by_power), sl_is_by_power⟩)
    (h3_is_by_power : PySem.W.codeIn K cd_is_by_power "is_by_power" = true)
    (h4_is_by_power : PySem.W.keepIn K (.ref a_is_by_power) = true)
    {a_power_of : Addr} {od_power_of an_power_of : Option Addr} {sl_power_of : Array (Option Value)} {oc_power_of kV_power_of dc_power_of pm_power_of cd_power_of ct_power_of : Value}
    (h1_power_of : PySem.W.nsIn K mainGlobals "power_of" = some (some (.ref a_power_of)))
    (h2_power_of : K.lookup a_power_of = some ⟨oc_power_of, od_power_of, .func (PySem.W.fnOf "power_of" "power_of" (defArgs s_power_of) (defBody s_power_of) (defScope s_power_of) .none kV_power_of dc_power_of pm_power_of an_power_of cd_power_of ct_power_of), sl_power_of⟩)
    (h3_power_of : PySem.W.codeIn K cd_power_of "power_of" = true)
    (h4_power_of : PySem.W.keepIn K (.ref a_power_of) = true)
    {a_sign_at : Addr} {od_sign_at an_sign_at : Option Addr} {sl_sign_at : Array (Option Value)} {oc_sign_at kV_sign_at dc_sign_at pm_sign_at cd_sign_at ct_sign_at : Value}
    (h1_sign_at : PySem.W.nsIn K mainGlobals "sign_at" = some (some (.ref a_sign_at)))
    (h2_sign_at : K.lookup a_sign_at = some ⟨oc_sign_at, od_sign_at, .func (PySem.W.fnOf "sign_at" "sign_at" (defArgs s_sign_at) (defBody s_sign_at) (defScope s_sign_at) .none kV_sign_at dc_sign_at pm_sign_at an_sign_at cd_sign_at ct_sign_at), sl_sign_at⟩)
    (h3_sign_at : PySem.W.codeIn K cd_sign_at "sign_at" = true)
    (h4_sign_at : PySem.W.keepIn K (.ref a_sign_at) = true)
    {a_is_by : Addr} {od_is_by an_is_by : Option Addr} {sl_is_by : Array (Option Value)} {oc_is_by kV_is_by dc_is_by pm_is_by cd_is_by ct_is_by : Value}
    (h1_is_by : PySem.W.nsIn K mainGlobals "is_by" = some (some (.ref a_is_by)))
    (h2_is_by : K.lookup a_is_by = some ⟨oc_is_by, od_is_by, .func (PySem.W.fnOf "is_by" "is_by" (defArgs s_is_by) (defBody s_is_by) (defScope s_is_by) .none kV_is_by dc_is_by pm_is_by an_is_by cd_is_by ct_is_by), sl_is_by⟩)
    (h3_is_by : PySem.W.codeIn K cd_is_by "is_by" = true)
    (h4_is_by : PySem.W.keepIn K (.ref a_is_by) = true)
    {a_is_between : Addr} {od_is_between an_is_between : Option Addr} {sl_is_between : Array (Option Value)} {oc_is_between kV_is_between dc_is_between pm_is_between cd_is_between ct_is_between : Value}
    (h1_is_between : PySem.W.nsIn K mainGlobals "is_between" = some (some (.ref a_is_between)))
    (h2_is_between : K.lookup a_is_between = some ⟨oc_is_between, od_is_between, .func (PySem.W.fnOf "is_between" "is_between" (defArgs s_is_between) (defBody s_is_between) (defScope s_is_between) .none kV_is_between dc_is_between pm_is_between an_is_between cd_is_between ct_is_between), sl_is_between⟩)
    (h3_is_between : PySem.W.codeIn K cd_is_between "is_between" = true)
    (h4_is_between : PySem.W.keepIn K (.ref a_is_between) = true)
    {a_shows_power : Addr} {od_shows_power an_shows_power : Option Addr} {sl_shows_power : Array (Option Value)} {oc_shows_power kV_shows_power dc_shows_power pm_shows_power cd_shows_power ct_shows_power : Value}
    (h1_shows_power : PySem.W.nsIn K mainGlobals "shows_power" = some (some (.ref a_shows_power)))
    (h2_shows_power : K.lookup a_shows_power = some ⟨oc_shows_power, od_shows_power, .func (PySem.W.fnOf "shows_power" "shows_power" (defArgs s_shows_power) (defBody s_shows_power) (defScope s_shows_power) .none kV_shows_power dc_shows_power pm_shows_power an_shows_power cd_shows_power ct_shows_power), sl_shows_power⟩)
    (h3_shows_power : PySem.W.codeIn K cd_shows_power "shows_power" = true)
    (h4_shows_power : PySem.W.keepIn K (.ref a_shows_power) = true)
    {a__law_hat : Addr} {od__law_hat an__law_hat : Option Addr} {sl__law_hat : Array (Option Value)} {oc__law_hat kV__law_hat dc__law_hat pm__law_hat cd__law_hat ct__law_hat : Value}
    (h1__law_hat : PySem.W.nsIn K mainGlobals "_law_hat" = some (some (.ref a__law_hat)))
    (h2__law_hat : K.lookup a__law_hat = some ⟨oc__law_hat, od__law_hat, .func (PySem.W.fnOf "_law_hat" "_law_hat" (defArgs s__law_hat) (defBody s__law_hat) (defScope s__law_hat) .none kV__law_hat dc__law_hat pm__law_hat an__law_hat cd__law_hat ct__law_hat), sl__law_hat⟩)
    (h3__law_hat : PySem.W.codeIn K cd__law_hat "_law_hat" = true)
    (h4__law_hat : PySem.W.keepIn K (.ref a__law_hat) = true)
    {a__law_lot : Addr} {od__law_lot an__law_lot : Option Addr} {sl__law_lot : Array (Option Value)} {oc__law_lot kV__law_lot dc__law_lot pm__law_lot cd__law_lot ct__law_lot : Value}
    (h1__law_lot : PySem.W.nsIn K mainGlobals "_law_lot" = some (some (.ref a__law_lot)))
    (h2__law_lot : K.lookup a__law_lot = some ⟨oc__law_lot, od__law_lot, .func (PySem.W.fnOf "_law_lot" "_law_lot" (defArgs s__law_lot) (defBody s__law_lot) (defScope s__law_lot) .none kV__law_lot dc__law_lot pm__law_lot an__law_lot cd__law_lot ct__law_lot), sl__law_lot⟩)
    (h3__law_lot : PySem.W.codeIn K cd__law_lot "_law_lot" = true)
    (h4__law_lot : PySem.W.keepIn K (.ref a__law_lot) = true)
    {a__law_one : Addr} {od__law_one an__law_one : Option Addr} {sl__law_one : Array (Option Value)} {oc__law_one kV__law_one dc__law_one pm__law_one cd__law_one ct__law_one : Value}
    (h1__law_one : PySem.W.nsIn K mainGlobals "_law_one" = some (some (.ref a__law_one)))
    (h2__law_one : K.lookup a__law_one = some ⟨oc__law_one, od__law_one, .func (PySem.W.fnOf "_law_one" "_law_one" (defArgs s__law_one) (defBody s__law_one) (defScope s__law_one) .none kV__law_one dc__law_one pm__law_one an__law_one cd__law_one ct__law_one), sl__law_one⟩)
    (h3__law_one : PySem.W.codeIn K cd__law_one "_law_one" = true)
    (h4__law_one : PySem.W.keepIn K (.ref a__law_one) = true)
    {a__law_any : Addr} {od__law_any an__law_any : Option Addr} {sl__law_any : Array (Option Value)} {oc__law_any kV__law_any dc__law_any pm__law_any cd__law_any ct__law_any : Value}
    (h1__law_any : PySem.W.nsIn K mainGlobals "_law_any" = some (some (.ref a__law_any)))
    (h2__law_any : K.lookup a__law_any = some ⟨oc__law_any, od__law_any, .func (PySem.W.fnOf "_law_any" "_law_any" (defArgs s__law_any) (defBody s__law_any) (defScope s__law_any) .none kV__law_any dc__law_any pm__law_any an__law_any cd__law_any ct__law_any), sl__law_any⟩)
    (h3__law_any : PySem.W.codeIn K cd__law_any "_law_any" = true)
    (h4__law_any : PySem.W.keepIn K (.ref a__law_any) = true)
    {a__law_grows : Addr} {od__law_grows an__law_grows : Option Addr} {sl__law_grows : Array (Option Value)} {oc__law_grows kV__law_grows dc__law_grows pm__law_grows cd__law_grows ct__law_grows : Value}
    (h1__law_grows : PySem.W.nsIn K mainGlobals "_law_grows" = some (some (.ref a__law_grows)))
    (h2__law_grows : K.lookup a__law_grows = some ⟨oc__law_grows, od__law_grows, .func (PySem.W.fnOf "_law_grows" "_law_grows" (defArgs s__law_grows) (defBody s__law_grows) (defScope s__law_grows) .none kV__law_grows dc__law_grows pm__law_grows an__law_grows cd__law_grows ct__law_grows), sl__law_grows⟩)
    (h3__law_grows : PySem.W.codeIn K cd__law_grows "_law_grows" = true)
    (h4__law_grows : PySem.W.keepIn K (.ref a__law_grows) = true)
    {a__law_planted : Addr} {od__law_planted an__law_planted : Option Addr} {sl__law_planted : Array (Option Value)} {oc__law_planted kV__law_planted dc__law_planted pm__law_planted cd__law_planted ct__law_planted : Value}
    (h1__law_planted : PySem.W.nsIn K mainGlobals "_law_planted" = some (some (.ref a__law_planted)))
    (h2__law_planted : K.lookup a__law_planted = some ⟨oc__law_planted, od__law_planted, .func (PySem.W.fnOf "_law_planted" "_law_planted" (defArgs s__law_planted) (defBody s__law_planted) (defScope s__law_planted) .none kV__law_planted dc__law_planted pm__law_planted an__law_planted cd__law_planted ct__law_planted), sl__law_planted⟩)
    (h3__law_planted : PySem.W.codeIn K cd__law_planted "_law_planted" = true)
    (h4__law_planted : PySem.W.keepIn K (.ref a__law_planted) = true)
    {a__law_four : Addr} {od__law_four an__law_four : Option Addr} {sl__law_four : Array (Option Value)} {oc__law_four kV__law_four dc__law_four pm__law_four cd__law_four ct__law_four : Value}
    (h1__law_four : PySem.W.nsIn K mainGlobals "_law_four" = some (some (.ref a__law_four)))
    (h2__law_four : K.lookup a__law_four = some ⟨oc__law_four, od__law_four, .func (PySem.W.fnOf "_law_four" "_law_four" (defArgs s__law_four) (defBody s__law_four) (defScope s__law_four) .none kV__law_four dc__law_four pm__law_four an__law_four cd__law_four ct__law_four), sl__law_four⟩)
    (h3__law_four : PySem.W.codeIn K cd__law_four "_law_four" = true)
    (h4__law_four : PySem.W.keepIn K (.ref a__law_four) = true)
    {a__law_signs : Addr} {od__law_signs an__law_signs : Option Addr} {sl__law_signs : Array (Option Value)} {oc__law_signs kV__law_signs dc__law_signs pm__law_signs cd__law_signs ct__law_signs : Value}
    (h1__law_signs : PySem.W.nsIn K mainGlobals "_law_signs" = some (some (.ref a__law_signs)))
    (h2__law_signs : K.lookup a__law_signs = some ⟨oc__law_signs, od__law_signs, .func (PySem.W.fnOf "_law_signs" "_law_signs" (defArgs s__law_signs) (defBody s__law_signs) (defScope s__law_signs) .none kV__law_signs dc__law_signs pm__law_signs an__law_signs cd__law_signs ct__law_signs), sl__law_signs⟩)
    (h3__law_signs : PySem.W.codeIn K cd__law_signs "_law_signs" = true)
    (h4__law_signs : PySem.W.keepIn K (.ref a__law_signs) = true)
    {a__law_both : Addr} {od__law_both an__law_both : Option Addr} {sl__law_both : Array (Option Value)} {oc__law_both kV__law_both dc__law_both pm__law_both cd__law_both ct__law_both : Value}
    (h1__law_both : PySem.W.nsIn K mainGlobals "_law_both" = some (some (.ref a__law_both)))
    (h2__law_both : K.lookup a__law_both = some ⟨oc__law_both, od__law_both, .func (PySem.W.fnOf "_law_both" "_law_both" (defArgs s__law_both) (defBody s__law_both) (defScope s__law_both) .none kV__law_both dc__law_both pm__law_both an__law_both cd__law_both ct__law_both), sl__law_both⟩)
    (h3__law_both : PySem.W.codeIn K cd__law_both "_law_both" = true)
    (h4__law_both : PySem.W.keepIn K (.ref a__law_both) = true)
    {a__law_is_pattern : Addr} {od__law_is_pattern an__law_is_pattern : Option Addr} {sl__law_is_pattern : Array (Option Value)} {oc__law_is_pattern kV__law_is_pattern dc__law_is_pattern pm__law_is_pattern cd__law_is_pattern ct__law_is_pattern : Value}
    (h1__law_is_pattern : PySem.W.nsIn K mainGlobals "_law_is_pattern" = some (some (.ref a__law_is_pattern)))
    (h2__law_is_pattern : K.lookup a__law_is_pattern = some ⟨oc__law_is_pattern, od__law_is_pattern, .func (PySem.W.fnOf "_law_is_pattern" "_law_is_pattern" (defArgs s__law_is_pattern) (defBody s__law_is_pattern) (defScope s__law_is_pattern) .none kV__law_is_pattern dc__law_is_pattern pm__law_is_pattern an__law_is_pattern cd__law_is_pattern ct__law_is_pattern), sl__law_is_pattern⟩)
    (h3__law_is_pattern : PySem.W.codeIn K cd__law_is_pattern "_law_is_pattern" = true)
    (h4__law_is_pattern : PySem.W.keepIn K (.ref a__law_is_pattern) = true)
    {a__law_due : Addr} {od__law_due an__law_due : Option Addr} {sl__law_due : Array (Option Value)} {oc__law_due kV__law_due dc__law_due pm__law_due cd__law_due ct__law_due : Value}
    (h1__law_due : PySem.W.nsIn K mainGlobals "_law_due" = some (some (.ref a__law_due)))
    (h2__law_due : K.lookup a__law_due = some ⟨oc__law_due, od__law_due, .func (PySem.W.fnOf "_law_due" "_law_due" (defArgs s__law_due) (defBody s__law_due) (defScope s__law_due) .none kV__law_due dc__law_due pm__law_due an__law_due cd__law_due ct__law_due), sl__law_due⟩)
    (h3__law_due : PySem.W.codeIn K cd__law_due "_law_due" = true)
    (h4__law_due : PySem.W.keepIn K (.ref a__law_due) = true)
    {a__law_told_right : Addr} {od__law_told_right an__law_told_right : Option Addr} {sl__law_told_right : Array (Option Value)} {oc__law_told_right kV__law_told_right dc__law_told_right pm__law_told_right cd__law_told_right ct__law_told_right : Value}
    (h1__law_told_right : PySem.W.nsIn K mainGlobals "_law_told_right" = some (some (.ref a__law_told_right)))
    (h2__law_told_right : K.lookup a__law_told_right = some ⟨oc__law_told_right, od__law_told_right, .func (PySem.W.fnOf "_law_told_right" "_law_told_right" (defArgs s__law_told_right) (defBody s__law_told_right) (defScope s__law_told_right) .none kV__law_told_right dc__law_told_right pm__law_told_right an__law_told_right cd__law_told_right ct__law_told_right), sl__law_told_right⟩)
    (h3__law_told_right : PySem.W.codeIn K cd__law_told_right "_law_told_right" = true)
    (h4__law_told_right : PySem.W.keepIn K (.ref a__law_told_right) = true)
    {a_law : Addr} {od_law an_law : Option Addr} {sl_law : Array (Option Value)} {oc_law kV_law dc_law pm_law cd_law ct_law : Value}
    (h1_law : PySem.W.nsIn K mainGlobals "law" = some (some (.ref a_law)))
    (h2_law : K.lookup a_law = some ⟨oc_law, od_law, .func (PySem.W.fnOf "law" "law" (defArgs s_law) (defBody s_law) (defScope s_law) .none kV_law dc_law pm_law an_law cd_law ct_law), sl_law⟩)
    (h3_law : PySem.W.codeIn K cd_law "law" = true)
    (h4_law : PySem.W.keepIn K (.ref a_law) = true)
    {t_LEAST_POWER : Tok} (z_LEAST_POWER : PySem.W.nsIn K mainGlobals "LEAST_POWER" = some (some (.int (-80) t_LEAST_POWER)))
    {t_MOST_POWER : Tok} (z_MOST_POWER : PySem.W.nsIn K mainGlobals "MOST_POWER" = some (some (.int (80) t_MOST_POWER)))
    {t_MOST_NUMBER : Tok} (z_MOST_NUMBER : PySem.W.nsIn K mainGlobals "MOST_NUMBER" = some (some (.int (1000000) t_MOST_NUMBER)))
    {t_MOST_SMALL : Tok} (z_MOST_SMALL : PySem.W.nsIn K mainGlobals "MOST_SMALL" = some (some (.int (99) t_MOST_SMALL)))
    (z_abs : PySem.W.nsIn K mainGlobals "abs" = some none)
    (z_bool : PySem.W.nsIn K mainGlobals "bool" = some none)
    (z_int : PySem.W.nsIn K mainGlobals "int" = some none)
    (z_isinstance : PySem.W.nsIn K mainGlobals "isinstance" = some none)
    (z_len : PySem.W.nsIn K mainGlobals "len" = some none)
    (z_list : PySem.W.nsIn K mainGlobals "list" = some none)
    (z_range : PySem.W.nsIn K mainGlobals "range" = some none)
    (z_repr : PySem.W.nsIn K mainGlobals "repr" = some none)
    (z_sorted : PySem.W.nsIn K mainGlobals "sorted" = some none)
    (z_tuple : PySem.W.nsIn K mainGlobals "tuple" = some none)
    (z_type : PySem.W.nsIn K mainGlobals "type" = some none) : Txt K mg where
  f_Paper__init__ := ⟨a_Paper__init__, _, fun_mk (st := s_Paper__init__) h2_Paper__init__ h3_Paper__init__ h4_Paper__init__, h0_Paper__init__⟩
  f_Paper__eq__ := ⟨a_Paper__eq__, _, fun_mk (st := s_Paper__eq__) h2_Paper__eq__ h3_Paper__eq__ h4_Paper__eq__, h0_Paper__eq__, (fun_mk (st := s_Paper__eq__) h2_Paper__eq__ h3_Paper__eq__ h4_Paper__eq__).binds fun _ _ _ _ _ _ us hl => match us, hl with | [_, _], _ => rfl⟩
  f_Paper__bool__ := ⟨a_Paper__bool__, _, fun_mk (st := s_Paper__bool__) h2_Paper__bool__ h3_Paper__bool__ h4_Paper__bool__, h0_Paper__bool__, (fun_mk (st := s_Paper__bool__) h2_Paper__bool__ h3_Paper__bool__ h4_Paper__bool__).binds fun _ _ _ _ _ _ us hl => match us, hl with | [_], _ => rfl⟩
  f_Denial__init__ := ⟨a_Denial__init__, _, fun_mk (st := s_Denial__init__) h2_Denial__init__ h3_Denial__init__ h4_Denial__init__, h0_Denial__init__⟩
  f_Denial__eq__ := ⟨a_Denial__eq__, _, fun_mk (st := s_Denial__eq__) h2_Denial__eq__ h3_Denial__eq__ h4_Denial__eq__, h0_Denial__eq__, (fun_mk (st := s_Denial__eq__) h2_Denial__eq__ h3_Denial__eq__ h4_Denial__eq__).binds fun _ _ _ _ _ _ us hl => match us, hl with | [_, _], _ => rfl⟩
  f_Denial__bool__ := ⟨a_Denial__bool__, _, fun_mk (st := s_Denial__bool__) h2_Denial__bool__ h3_Denial__bool__ h4_Denial__bool__, h0_Denial__bool__, (fun_mk (st := s_Denial__bool__) h2_Denial__bool__ h3_Denial__bool__ h4_Denial__bool__).binds fun _ _ _ _ _ _ us hl => match us, hl with | [_], _ => rfl⟩
  f_ByPower__init__ := ⟨a_ByPower__init__, _, fun_mk (st := s_ByPower__init__) h2_ByPower__init__ h3_ByPower__init__ h4_ByPower__init__, h0_ByPower__init__, (fun_mk (st := s_ByPower__init__) h2_ByPower__init__ h3_ByPower__init__ h4_ByPower__init__).binds fun _ _ _ _ _ _ us hl => match us, hl with | [_, _], _ => rfl⟩
  f_Between__init__ := ⟨a_Between__init__, _, fun_mk (st := s_Between__init__) h2_Between__init__ h3_Between__init__ h4_Between__init__, h0_Between__init__, (fun_mk (st := s_Between__init__) h2_Between__init__ h3_Between__init__ h4_Between__init__).binds fun _ _ _ _ _ _ us hl => match us, hl with | [_, _], _ => rfl⟩
  k_Paper := ⟨a_Paper, PySem.W.mg_of X G h1_Paper, ⟨pg_Paper, hd_Paper, po_Paper, sa_Paper⟩, kc_Paper, ha_Paper, hn_, ht_, hm_Paper, mk_Paper⟩
  na_Paper_word := na_Paper_word
  na_Paper_parts := na_Paper_parts
  at_Paper__init__ := h1_Paper__init__
  at_Paper__eq__ := h1_Paper__eq__
  at_Paper__bool__ := h1_Paper__bool__
  mk_Paper := ⟨mk_Paper, h1_Paper__init__, h0_Paper__init__, kc_Paper⟩
  eq_Paper := ⟨qe_Paper, h0_Paper__eq__, qn_Paper, hm_Paper⟩
  mc_Paper := .type "type"
  cr_Paper := ⟨r1_Paper, r2_Paper⟩
  cv_Paper__init__ := ⟨r3_Paper__init__, rfl⟩
  k_Denial := ⟨a_Denial, PySem.W.mg_of X G h1_Denial, ⟨pg_Denial, hd_Denial, po_Denial, sa_Denial⟩, kc_Denial, ha_Denial, hn_, ht_, hm_Denial, mk_Denial⟩
  na_Denial_word := na_Denial_word
  na_Denial_parts := na_Denial_parts
  at_Denial__init__ := h1_Denial__init__
  at_Denial__eq__ := h1_Denial__eq__
  at_Denial__bool__ := h1_Denial__bool__
  mk_Denial := ⟨mk_Denial, h1_Denial__init__, h0_Denial__init__, kc_Denial⟩
  eq_Denial := ⟨qe_Denial, h0_Denial__eq__, qn_Denial, hm_Denial⟩
  mc_Denial := .type "type"
  cr_Denial := ⟨r1_Denial, r2_Denial⟩
  cv_Denial__init__ := ⟨r3_Denial__init__, rfl⟩
  k_ByPower := ⟨a_ByPower, PySem.W.mg_of X G h1_ByPower, ⟨pg_ByPower, hd_ByPower, po_ByPower, sa_ByPower⟩, kc_ByPower, ha_ByPower, hn_, ht_, hm_ByPower, mk_ByPower⟩
  na_ByPower_word := na_ByPower_word
  na_ByPower_parts := na_ByPower_parts
  na_ByPower_power := na_ByPower_power
  at_ByPower__init__ := h1_ByPower__init__
  mk_ByPower := ⟨mk_ByPower, h1_ByPower__init__, h0_ByPower__init__, kc_ByPower⟩
  eq_ByPower := ⟨qe_ByPower, h0_Paper__eq__, qn_ByPower, hm_ByPower⟩
  is_ByPower_ByPower := is_ByPower_ByPower
  is_ByPower_Between := is_ByPower_Between
  bo_ByPower := ⟨qb_ByPower, h0_Paper__bool__⟩
  k_Between := ⟨a_Between, PySem.W.mg_of X G h1_Between, ⟨pg_Between, hd_Between, po_Between, sa_Between⟩, kc_Between, ha_Between, hn_, ht_, hm_Between, mk_Between⟩
  na_Between_word := na_Between_word
  na_Between_parts := na_Between_parts
  na_Between_low := na_Between_low
  at_Between__init__ := h1_Between__init__
  mk_Between := ⟨mk_Between, h1_Between__init__, h0_Between__init__, kc_Between⟩
  eq_Between := ⟨qe_Between, h0_Denial__eq__, qn_Between, hm_Between⟩
  is_Between_Between := is_Between_Between
  is_Between_ByPower := is_Between_ByPower
  bo_Between := ⟨qb_Between, h0_Denial__bool__⟩
  f_is_integer := ⟨a_is_integer, _, fun_mk (st := s_is_integer) h2_is_integer h3_is_integer h4_is_integer, PySem.W.mg_of X G h1_is_integer, (fun_mk (st := s_is_integer) h2_is_integer h3_is_integer h4_is_integer).binds fun _ _ _ _ _ _ us hl => match us, hl with | [_], _ => rfl⟩
  f_is_within := ⟨a_is_within, _, fun_mk (st := s_is_within) h2_is_within h3_is_within h4_is_within, PySem.W.mg_of X G h1_is_within, (fun_mk (st := s_is_within) h2_is_within h3_is_within h4_is_within).binds fun _ _ _ _ _ _ us hl => match us, hl with | [_, _, _], _ => rfl⟩
  f_need_within := ⟨a_need_within, _, fun_mk (st := s_need_within) h2_need_within h3_need_within h4_need_within, PySem.W.mg_of X G h1_need_within, (fun_mk (st := s_need_within) h2_need_within h3_need_within h4_need_within).binds fun _ _ _ _ _ _ us hl => match us, hl with | [_, _, _, _], _ => rfl⟩
  f_need_numbers := ⟨a_need_numbers, _, fun_mk (st := s_need_numbers) h2_need_numbers h3_need_numbers h4_need_numbers, PySem.W.mg_of X G h1_need_numbers, (fun_mk (st := s_need_numbers) h2_need_numbers h3_need_numbers h4_need_numbers).binds fun _ _ _ _ _ _ us hl => match us, hl with | [_, _], _ => rfl⟩
  f_need_power := ⟨a_need_power, _, fun_mk (st := s_need_power) h2_need_power h3_need_power h4_need_power, PySem.W.mg_of X G h1_need_power, (fun_mk (st := s_need_power) h2_need_power h3_need_power h4_need_power).binds fun _ _ _ _ _ _ us hl => match us, hl with | [_], _ => rfl⟩
  f_need_growing := ⟨a_need_growing, _, fun_mk (st := s_need_growing) h2_need_growing h3_need_growing h4_need_growing, PySem.W.mg_of X G h1_need_growing, (fun_mk (st := s_need_growing) h2_need_growing h3_need_growing h4_need_growing).binds fun _ _ _ _ _ _ us hl => match us, hl with | [_, _, _, _], _ => rfl⟩
  f_fixed := ⟨a_fixed, _, fun_mk (st := s_fixed) h2_fixed h3_fixed h4_fixed, PySem.W.mg_of X G h1_fixed, (fun_mk (st := s_fixed) h2_fixed h3_fixed h4_fixed).binds fun _ _ _ _ _ _ us hl => match us, hl with | [_], _ => rfl⟩
  f_raised := ⟨a_raised, _, fun_mk (st := s_raised) h2_raised h3_raised h4_raised, PySem.W.mg_of X G h1_raised, (fun_mk (st := s_raised) h2_raised h3_raised h4_raised).binds fun _ _ _ _ _ _ us hl => match us, hl with | [_, _], _ => rfl⟩
  f_whole_sum := ⟨a_whole_sum, _, fun_mk (st := s_whole_sum) h2_whole_sum h3_whole_sum h4_whole_sum, PySem.W.mg_of X G h1_whole_sum, (fun_mk (st := s_whole_sum) h2_whole_sum h3_whole_sum h4_whole_sum).binds fun _ _ _ _ _ _ us hl => match us, hl with | [_, _, _, _, _], _ => rfl⟩
  f_is_by_power := ⟨a_is_by_power, _, fun_mk (st := s_is_by_power) h2_is_by_power h3_is_by_power h4_is_by_power, PySem.W.mg_of X G h1_is_by_power, (fun_mk (st := s_is_by_power) h2_is_by_power h3_is_by_power h4_is_by_power).binds fun _ _ _ _ _ _ us hl => match us, hl with | [_, _, _, _, _], _ => rfl⟩
  f_power_of := ⟨a_power_of, _, fun_mk (st := s_power_of) h2_power_of h3_power_of h4_power_of, PySem.W.mg_of X G h1_power_of, (fun_mk (st := s_power_of) h2_power_of h3_power_of h4_power_of).binds fun _ _ _ _ _ _ us hl => match us, hl with | [_, _, _, _], _ => rfl⟩
  f_sign_at := ⟨a_sign_at, _, fun_mk (st := s_sign_at) h2_sign_at h3_sign_at h4_sign_at, PySem.W.mg_of X G h1_sign_at, (fun_mk (st := s_sign_at) h2_sign_at h3_sign_at h4_sign_at).binds fun _ _ _ _ _ _ us hl => match us, hl with | [_, _, _, _, _], _ => rfl⟩
  f_is_by := ⟨a_is_by, _, fun_mk (st := s_is_by) h2_is_by h3_is_by h4_is_by, PySem.W.mg_of X G h1_is_by, (fun_mk (st := s_is_by) h2_is_by h3_is_by h4_is_by).binds fun _ _ _ _ _ _ us hl => match us, hl with | [_, _, _, _, _], _ => rfl⟩
  f_is_between := ⟨a_is_between, _, fun_mk (st := s_is_between) h2_is_between h3_is_between h4_is_between, PySem.W.mg_of X G h1_is_between, (fun_mk (st := s_is_between) h2_is_between h3_is_between h4_is_between).binds fun _ _ _ _ _ _ us hl => match us, hl with | [_, _, _, _, _], _ => rfl⟩
  f_shows_power := ⟨a_shows_power, _, fun_mk (st := s_shows_power) h2_shows_power h3_shows_power h4_shows_power, PySem.W.mg_of X G h1_shows_power, (fun_mk (st := s_shows_power) h2_shows_power h3_shows_power h4_shows_power).binds fun _ _ _ _ _ _ us hl => match us, hl with | [_, _, _, _, _], _ => rfl⟩
  f__law_hat := ⟨a__law_hat, _, fun_mk (st := s__law_hat) h2__law_hat h3__law_hat h4__law_hat, PySem.W.mg_of X G h1__law_hat, (fun_mk (st := s__law_hat) h2__law_hat h3__law_hat h4__law_hat).binds fun _ _ _ _ _ _ us hl => match us, hl with | [_], _ => rfl⟩
  f__law_lot := ⟨a__law_lot, _, fun_mk (st := s__law_lot) h2__law_lot h3__law_lot h4__law_lot, PySem.W.mg_of X G h1__law_lot, (fun_mk (st := s__law_lot) h2__law_lot h3__law_lot h4__law_lot).binds fun _ _ _ _ _ _ us hl => match us, hl with | [_, _], _ => rfl⟩
  f__law_one := ⟨a__law_one, _, fun_mk (st := s__law_one) h2__law_one h3__law_one h4__law_one, PySem.W.mg_of X G h1__law_one, (fun_mk (st := s__law_one) h2__law_one h3__law_one h4__law_one).binds fun _ _ _ _ _ _ us hl => match us, hl with | [_, _], _ => rfl⟩
  f__law_any := ⟨a__law_any, _, fun_mk (st := s__law_any) h2__law_any h3__law_any h4__law_any, PySem.W.mg_of X G h1__law_any, (fun_mk (st := s__law_any) h2__law_any h3__law_any h4__law_any).binds fun _ _ _ _ _ _ us hl => match us, hl with | [_], _ => rfl⟩
  f__law_grows := ⟨a__law_grows, _, fun_mk (st := s__law_grows) h2__law_grows h3__law_grows h4__law_grows, PySem.W.mg_of X G h1__law_grows, (fun_mk (st := s__law_grows) h2__law_grows h3__law_grows h4__law_grows).binds fun _ _ _ _ _ _ us hl => match us, hl with | [_], _ => rfl⟩
  f__law_planted := ⟨a__law_planted, _, fun_mk (st := s__law_planted) h2__law_planted h3__law_planted h4__law_planted, PySem.W.mg_of X G h1__law_planted, (fun_mk (st := s__law_planted) h2__law_planted h3__law_planted h4__law_planted).binds fun _ _ _ _ _ _ us hl => match us, hl with | [_], _ => rfl⟩
  f__law_four := ⟨a__law_four, _, fun_mk (st := s__law_four) h2__law_four h3__law_four h4__law_four, PySem.W.mg_of X G h1__law_four, (fun_mk (st := s__law_four) h2__law_four h3__law_four h4__law_four).binds fun _ _ _ _ _ _ us hl => match us, hl with | [_], _ => rfl⟩
  f__law_signs := ⟨a__law_signs, _, fun_mk (st := s__law_signs) h2__law_signs h3__law_signs h4__law_signs, PySem.W.mg_of X G h1__law_signs, (fun_mk (st := s__law_signs) h2__law_signs h3__law_signs h4__law_signs).binds fun _ _ _ _ _ _ us hl => match us, hl with | [_, _, _, _], _ => rfl⟩
  f__law_both := ⟨a__law_both, _, fun_mk (st := s__law_both) h2__law_both h3__law_both h4__law_both, PySem.W.mg_of X G h1__law_both, (fun_mk (st := s__law_both) h2__law_both h3__law_both h4__law_both).binds fun _ _ _ _ _ _ us hl => match us, hl with | [_, _, _, _], _ => rfl⟩
  f__law_is_pattern := ⟨a__law_is_pattern, _, fun_mk (st := s__law_is_pattern) h2__law_is_pattern h3__law_is_pattern h4__law_is_pattern, PySem.W.mg_of X G h1__law_is_pattern, (fun_mk (st := s__law_is_pattern) h2__law_is_pattern h3__law_is_pattern h4__law_is_pattern).binds fun _ _ _ _ _ _ us hl => match us, hl with | [_], _ => rfl⟩
  f__law_due := ⟨a__law_due, _, fun_mk (st := s__law_due) h2__law_due h3__law_due h4__law_due, PySem.W.mg_of X G h1__law_due, (fun_mk (st := s__law_due) h2__law_due h3__law_due h4__law_due).binds fun _ _ _ _ _ _ us hl => match us, hl with | [_, _, _, _, _, _], _ => rfl⟩
  f__law_told_right := ⟨a__law_told_right, _, fun_mk (st := s__law_told_right) h2__law_told_right h3__law_told_right h4__law_told_right, PySem.W.mg_of X G h1__law_told_right, (fun_mk (st := s__law_told_right) h2__law_told_right h3__law_told_right h4__law_told_right).binds fun _ _ _ _ _ _ us hl => match us, hl with | [_, _], _ => rfl⟩
  f_law := ⟨a_law, _, fun_mk (st := s_law) h2_law h3_law h4_law, PySem.W.mg_of X G h1_law, (fun_mk (st := s_law) h2_law h3_law h4_law).binds fun _ _ _ _ _ _ us hl => match us, hl with | [_], _ => rfl⟩
  t_LEAST_POWER := t_LEAST_POWER
  c_LEAST_POWER := PySem.W.mg_of X G z_LEAST_POWER
  t_MOST_POWER := t_MOST_POWER
  c_MOST_POWER := PySem.W.mg_of X G z_MOST_POWER
  t_MOST_NUMBER := t_MOST_NUMBER
  c_MOST_NUMBER := PySem.W.mg_of X G z_MOST_NUMBER
  t_MOST_SMALL := t_MOST_SMALL
  c_MOST_SMALL := PySem.W.mg_of X G z_MOST_SMALL
  n_abs := PySem.W.mg_none_of X G z_abs
  n_bool := PySem.W.mg_none_of X G z_bool
  n_int := PySem.W.mg_none_of X G z_int
  n_isinstance := PySem.W.mg_none_of X G z_isinstance
  n_len := PySem.W.mg_none_of X G z_len
  n_list := PySem.W.mg_none_of X G z_list
  n_range := PySem.W.mg_none_of X G z_range
  n_repr := PySem.W.mg_none_of X G z_repr
  n_sorted := PySem.W.mg_none_of X G z_sorted
  n_tuple := PySem.W.mg_none_of X G z_tuple
  n_type := PySem.W.mg_none_of X G z_type
theorem all_mk {l : PySem.W.OpenLaw} {w : World} {K : PySem.W.Frag} {mg : Str → Option Value} {fa : Addr} (T : Txt K mg) (hfa : mg "law" = some (.ref fa)) :
    ∃ fd : FuncData, (∀ (s : Shared) (v : Value), BindsTo s fd ⟨[v], []⟩ [("_law_script", v)]) ∧ ∀ base : Heap, K.In base → base.Ns mainGlobals mg → FnOk l.prog w K mg base CX0 9 fa fd ["_law_script"] (spLaw K) := by
  have e := hfa.symm.trans T.f_law.g
  cases e
  refine ⟨T.f_law.fd, fun s v => ?_, fun base _ _ => ok_law T⟩
  obtain ⟨oc, od, kV, doc, pm, an, cdv, ct, osl, e, lk, hcd⟩ := T.f_law.F.ex
  rw [e]
  exact .of_eq rfl
end Q
open PySem PySem.W PyProof.Rows
set_option maxHeartbeats 0 in
theorem PySem.Challenge.cw_fourthlike_k19_whole_growing_fours_have_holds : PySem.Challenge.rw_fourthlike_k19_whole_growing_fours_have.Holds := by
  w_on; o_law; k_head; (case hw => w_witness2)
  k_fill
  refine L2.walk_of (l := PySem.Challenge.rw_fourthlike_k19_whole_growing_fours_have) (n := 63) (k := 9) (x := "_law_script") (CX := fun _ => L2.CX0) (sp := fun w => Q.spLaw _) rfl (by decide) rfl ⟨rfl, by decide, by decide⟩ (fun w h Y => PySem.W.kIn_of Y) ?F (fun _ _ a ns hl _ hS => ⟨a, ns, rfl, hS, hl, fun _ => rfl⟩) (fun _ _ _ _ _ h => h)
  case F =>
    intro w mg fa h KX G hmg
    refine Q.all_mk ?T hmg
    case T =>
      refine' Q.mk_txt KX G ?h1_Paper ?h1_Paper__init__ ?h1_Paper__eq__ ?h1_Paper__bool__ ?h1_Denial ?h1_Denial__init__ ?h1_Denial__eq__ ?h1_Denial__bool__ ?h1_ByPower ?h1_ByPower__init__ ?h1_Between ?h1_Between__init__ ?h0_Paper__init__ ?h2_Paper__init__ ?h3_Paper__init__ ?h4_Paper__init__ ?h0_Paper__eq__ ?h2_Paper__eq__ ?h3_Paper__eq__ ?h4_Paper__eq__ ?h0_Paper__bool__ ?h2_Paper__bool__ ?h3_Paper__bool__ ?h4_Paper__bool__ ?h0_Denial__init__ ?h2_Denial__init__ ?h3_Denial__init__ ?h4_Denial__init__ ?h0_Denial__eq__ ?h2_Denial__eq__ ?h3_Denial__eq__ ?h4_Denial__eq__ ?h0_Denial__bool__ ?h2_Denial__bool__ ?h3_Denial__bool__ ?h4_Denial__bool__ ?h0_ByPower__init__ ?h2_ByPower__init__ ?h3_ByPower__init__ ?h4_ByPower__init__ ?h0_Between__init__ ?h2_Between__init__ ?h3_Between__init__ ?h4_Between__init__ ?pg_Paper ?hd_Paper ?po_Paper ?sa_Paper ?mk_Paper ?kc_Paper ?ha_Paper ?hm_Paper ?na_Paper_word ?na_Paper_parts ?qe_Paper ?qn_Paper ?r1_Paper ?r2_Paper ?r3_Paper__init__ ?pg_Denial ?hd_Denial ?po_Denial ?sa_Denial ?mk_Denial ?kc_Denial ?ha_Denial ?hm_Denial ?na_Denial_word ?na_Denial_parts ?qe_Denial ?qn_Denial ?r1_Denial ?r2_Denial ?r3_Denial__init__ ?pg_ByPower ?hd_ByPower ?po_ByPower ?sa_ByPower ?mk_ByPower ?kc_ByPower ?ha_ByPower ?hm_ByPower ?na_ByPower_word ?na_ByPower_parts ?na_ByPower_power ?qe_ByPower ?qn_ByPower ?is_ByPower_ByPower ?is_ByPower_Between ?qb_ByPower ?pg_Between ?hd_Between ?po_Between ?sa_Between ?mk_Between ?kc_Between ?ha_Between ?hm_Between ?na_Between_word ?na_Between_parts ?na_Between_low ?qe_Between ?qn_Between ?is_Between_Between ?is_Between_ByPower ?qb_Between ?hn_ ?ht_ ?h1_is_integer ?h2_is_integer ?h3_is_integer ?h4_is_integer ?h1_is_within ?h2_is_within ?h3_is_within ?h4_is_within ?h1_need_within ?h2_need_within ?h3_need_within ?h4_need_within ?h1_need_numbers ?h2_need_numbers ?h3_need_numbers ?h4_need_numbers ?h1_need_power ?h2_need_power ?h3_need_power ?h4_need_power ?h1_need_growing ?h2_need_growing ?h3_need_growing ?h4_need_growing ?h1_fixed ?h2_fixed ?h3_fixed ?h4_fixed ?h1_raised ?h2_raised ?h3_raised ?h4_raised ?h1_whole_sum ?h2_whole_sum ?h3_whole_sum ?h4_whole_sum ?h1_is_by_power ?h2_is_by_power ?h3_is_by_power ?h4_is_by_power ?h1_power_of ?h2_power_of ?h3_power_of ?h4_power_of ?h1_sign_at ?h2_sign_at ?h3_sign_at ?h4_sign_at ?h1_is_by ?h2_is_by ?h3_is_by ?h4_is_by ?h1_is_between ?h2_is_between ?h3_is_between ?h4_is_between ?h1_shows_power ?h2_shows_power ?h3_shows_power ?h4_shows_power ?h1__law_hat ?h2__law_hat ?h3__law_hat ?h4__law_hat ?h1__law_lot ?h2__law_lot ?h3__law_lot ?h4__law_lot ?h1__law_one ?h2__law_one ?h3__law_one ?h4__law_one ?h1__law_any ?h2__law_any ?h3__law_any ?h4__law_any ?h1__law_grows ?h2__law_grows ?h3__law_grows ?h4__law_grows ?h1__law_planted ?h2__law_planted ?h3__law_planted ?h4__law_planted ?h1__law_four ?h2__law_four ?h3__law_four ?h4__law_four ?h1__law_signs ?h2__law_signs ?h3__law_signs ?h4__law_signs ?h1__law_both ?h2__law_both ?h3__law_both ?h4__law_both ?h1__law_is_pattern ?h2__law_is_pattern ?h3__law_is_pattern ?h4__law_is_pattern ?h1__law_due ?h2__law_due ?h3__law_due ?h4__law_due ?h1__law_told_right ?h2__law_told_right ?h3__law_told_right ?h4__law_told_right ?h1_law ?h2_law ?h3_law ?h4_law ?z_LEAST_POWER ?z_MOST_POWER ?z_MOST_NUMBER ?z_MOST_SMALL ?z_abs ?z_bool ?z_int ?z_isinstance ?z_len ?z_list ?z_range ?z_repr ?z_sorted ?z_tuple ?z_type
      (case h1_Paper => k_is)
      (case h1_Paper__init__ => k_is)
      (case h1_Paper__eq__ => k_is)
      (case h1_Paper__bool__ => k_is)
      (case h1_Denial => k_is)
      (case h1_Denial__init__ => k_is)
      (case h1_Denial__eq__ => k_is)
      (case h1_Denial__bool__ => k_is)
      (case h1_ByPower => k_is)
      (case h1_ByPower__init__ => k_is)
      (case h1_Between => k_is)
      (case h1_Between__init__ => k_is)
      (case h0_Paper__init__ => k_is)
      (case h2_Paper__init__ => k_is)
      (case h3_Paper__init__ => k_is)
      (case h4_Paper__init__ => k_is)
      (case h0_Paper__eq__ => k_is)
      (case h2_Paper__eq__ => k_is)
      (case h3_Paper__eq__ => k_is)
      (case h4_Paper__eq__ => k_is)
      (case h0_Paper__bool__ => k_is)
      (case h2_Paper__bool__ => k_is)
      (case h3_Paper__bool__ => k_is)
      (case h4_Paper__bool__ => k_is)
      (case h0_Denial__init__ => k_is)
      (case h2_Denial__init__ => k_is)
      (case h3_Denial__init__ => k_is)
      (case h4_Denial__init__ => k_is)
      (case h0_Denial__eq__ => k_is)
      (case h2_Denial__eq__ => k_is)
      (case h3_Denial__eq__ => k_is)
      (case h4_Denial__eq__ => k_is)
      (case h0_Denial__bool__ => k_is)
      (case h2_Denial__bool__ => k_is)
      (case h3_Denial__bool__ => k_is)
      (case h4_Denial__bool__ => k_is)
      (case h0_ByPower__init__ => k_is)
      (case h2_ByPower__init__ => k_is)
      (case h3_ByPower__init__ => k_is)
      (case h4_ByPower__init__ => k_is)
      (case h0_Between__init__ => k_is)
      (case h2_Between__init__ => k_is)
      (case h3_Between__init__ => k_is)
      (case h4_Between__init__ => k_is)
      (case pg_Paper => k_is)
      (case hd_Paper => k_is)
      (case po_Paper => k_is)
      (case sa_Paper => k_is)
      (case mk_Paper => k_is)
      (case kc_Paper => k_is)
      (case ha_Paper => k_is)
      (case hm_Paper => k_is)
      (case na_Paper_word => k_is)
      (case na_Paper_parts => k_is)
      (case qe_Paper => k_is)
      (case qn_Paper => k_is)
      (case r1_Paper => k_is)
      (case r2_Paper => k_is)
      (case r3_Paper__init__ => k_is)
      (case pg_Denial => k_is)
      (case hd_Denial => k_is)
      (case po_Denial => k_is)
      (case sa_Denial => k_is)
      (case mk_Denial => k_is)
      (case kc_Denial => k_is)
      (case ha_Denial => k_is)
      (case hm_Denial => k_is)
      (case na_Denial_word => k_is)
      (case na_Denial_parts => k_is)
      (case qe_Denial => k_is)
      (case qn_Denial => k_is)
      (case r1_Denial => k_is)
      (case r2_Denial => k_is)
      (case r3_Denial__init__ => k_is)
      (case pg_ByPower => k_is)
      (case hd_ByPower => k_is)
      (case po_ByPower => k_is)
      (case sa_ByPower => k_is)
      (case mk_ByPower => k_is)
      (case kc_ByPower => k_is)
      (case ha_ByPower => k_is)
      (case hm_ByPower => k_is)
      (case na_ByPower_word => k_is)
      (case na_ByPower_parts => k_is)
      (case na_ByPower_power => k_is)
      (case qe_ByPower => k_is)
      (case qn_ByPower => k_is)
      (case is_ByPower_ByPower => kit_is)
      (case is_ByPower_Between => kit_is)
      (case qb_ByPower => k_is)
      (case pg_Between => k_is)
      (case hd_Between => k_is)
      (case po_Between => k_is)
      (case sa_Between => k_is)
      (case mk_Between => k_is)
      (case kc_Between => k_is)
      (case ha_Between => k_is)
      (case hm_Between => k_is)
      (case na_Between_word => k_is)
      (case na_Between_parts => k_is)
      (case na_Between_low => k_is)
      (case qe_Between => k_is)
      (case qn_Between => k_is)
      (case is_Between_Between => kit_is)
      (case is_Between_ByPower => kit_is)
      (case qb_Between => k_is)
      (case hn_ => k_is)
      (case ht_ => k_is)
      (case h1_is_integer => k_is)
      (case h2_is_integer => k_is)
      (case h3_is_integer => k_is)
      (case h4_is_integer => k_is)
      (case h1_is_within => k_is)
      (case h2_is_within => k_is)
      (case h3_is_within => k_is)
      (case h4_is_within => k_is)
      (case h1_need_within => k_is)
      (case h2_need_within => k_is)
      (case h3_need_within => k_is)
      (case h4_need_within => k_is)
      (case h1_need_numbers => k_is)
      (case h2_need_numbers => k_is)
      (case h3_need_numbers => k_is)
      (case h4_need_numbers => k_is)
      (case h1_need_power => k_is)
      (case h2_need_power => k_is)
      (case h3_need_power => k_is)
      (case h4_need_power => k_is)
      (case h1_need_growing => k_is)
      (case h2_need_growing => k_is)
      (case h3_need_growing => k_is)
      (case h4_need_growing => k_is)
      (case h1_fixed => k_is)
      (case h2_fixed => k_is)
      (case h3_fixed => k_is)
      (case h4_fixed => k_is)
      (case h1_raised => k_is)
      (case h2_raised => k_is)
      (case h3_raised => k_is)
      (case h4_raised => k_is)
      (case h1_whole_sum => k_is)
      (case h2_whole_sum => k_is)
      (case h3_whole_sum => k_is)
      (case h4_whole_sum => k_is)
      (case h1_is_by_power => k_is)
      (case h2_is_by_power => k_is)
      (case h3_is_by_power => k_is)
      (case h4_is_by_power => k_is)
      (case h1_power_of => k_is)
      (case h2_power_of => k_is)
      (case h3_power_of => k_is)
      (case h4_power_of => k_is)
      (case h1_sign_at => k_is)
      (case h2_sign_at => k_is)
      (case h3_sign_at => k_is)
      (case h4_sign_at => k_is)
      (case h1_is_by => k_is)
      (case h2_is_by => k_is)
      (case h3_is_by => k_is)
      (case h4_is_by => k_is)
      (case h1_is_between => k_is)
      (case h2_is_between => k_is)
      (case h3_is_between => k_is)
      (case h4_is_between => k_is)
      (case h1_shows_power => k_is)
      (case h2_shows_power => k_is)
      (case h3_shows_power => k_is)
      (case h4_shows_power => k_is)
      (case h1__law_hat => k_is)
      (case h2__law_hat => k_is)
      (case h3__law_hat => k_is)
      (case h4__law_hat => k_is)
      (case h1__law_lot => k_is)
      (case h2__law_lot => k_is)
      (case h3__law_lot => k_is)
      (case h4__law_lot => k_is)
      (case h1__law_one => k_is)
      (case h2__law_one => k_is)
      (case h3__law_one => k_is)
      (case h4__law_one => k_is)
      (case h1__law_any => k_is)
      (case h2__law_any => k_is)
      (case h3__law_any => k_is)
      (case h4__law_any => k_is)
      (case h1__law_grows => k_is)
      (case h2__law_grows => k_is)
      (case h3__law_grows => k_is)
      (case h4__law_grows => k_is)
      (case h1__law_planted => k_is)
      (case h2__law_planted => k_is)
      (case h3__law_planted => k_is)
      (case h4__law_planted => k_is)
      (case h1__law_four => k_is)
      (case h2__law_four => k_is)
      (case h3__law_four => k_is)
      (case h4__law_four => k_is)
      (case h1__law_signs => k_is)
      (case h2__law_signs => k_is)
      (case h3__law_signs => k_is)
      (case h4__law_signs => k_is)
      (case h1__law_both => k_is)
      (case h2__law_both => k_is)
      (case h3__law_both => k_is)
      (case h4__law_both => k_is)
      (case h1__law_is_pattern => k_is)
      (case h2__law_is_pattern => k_is)
      (case h3__law_is_pattern => k_is)
      (case h4__law_is_pattern => k_is)
      (case h1__law_due => k_is)
      (case h2__law_due => k_is)
      (case h3__law_due => k_is)
      (case h4__law_due => k_is)
      (case h1__law_told_right => k_is)
      (case h2__law_told_right => k_is)
      (case h3__law_told_right => k_is)
      (case h4__law_told_right => k_is)
      (case h1_law => k_is)
      (case h2_law => k_is)
      (case h3_law => k_is)
      (case h4_law => k_is)
      (case z_LEAST_POWER => k_is)
      (case z_MOST_POWER => k_is)
      (case z_MOST_NUMBER => k_is)
      (case z_MOST_SMALL => k_is)
      (case z_abs => k_is)
      (case z_bool => k_is)
      (case z_int => k_is)
      (case z_isinstance => k_is)
      (case z_len => k_is)
      (case z_list => k_is)
      (case z_range => k_is)
      (case z_repr => k_is)
      (case z_sorted => k_is)
      (case z_tuple => k_is)
      (case z_type => k_is)

