import PyProof.Rows.All
import Wide.All
import OpenK.AllK
import Wide.FinOn
import HandS.ForMost
import HandS.IsInst
import HandS.Wide
import HandS.WideBits
import HandS.Style
import HandS.TryOnly
import PySem.Challenge.RW_fourthlike_k18_numbers_by_steps_and_by_t
import KE.KEqSeq
set_option Elab.async false
set_option linter.all false
set_option maxRecDepth 100000
set_option maxHeartbeats 4000000
namespace Q
open PySem PySem.Spec PyProof.Rows L2
def top (i : Nat) : Stmt := PySem.Challenge.pw_fourthlike_k18_numbers_by_steps_and_by_t.main.body.getD i (.Pass ⟨0, 0, 0, 0⟩)
abbrev s_is_integer : Stmt := top 1
abbrev n_is_integer : List Str := ["value"]
theorem sc_is_integer : FnScope ["value"] ["value"] (defScope s_is_integer) := ⟨rfl, rfl, rfl, by decide +kernel, rfl, by decide +kernel, by decide +kernel⟩
abbrev s_is_within : Stmt := top 2
abbrev n_is_within : List Str := ["value", "least", "most"]
theorem sc_is_within : FnScope ["value", "least", "most"] ["value", "least", "most"] (defScope s_is_within) := ⟨rfl, rfl, rfl, by decide +kernel, rfl, by decide +kernel, by decide +kernel⟩
abbrev s_need_within : Stmt := top 10
abbrev n_need_within : List Str := ["part", "value", "least", "most"]
theorem sc_need_within : FnScope ["part", "value", "least", "most"] ["part", "value", "least", "most"] (defScope s_need_within) := ⟨rfl, rfl, rfl, by decide +kernel, rfl, by decide +kernel, by decide +kernel⟩
abbrev s_need_numbers : Stmt := top 11
abbrev n_need_numbers : List Str := ["named", "most", "part", "value"]
theorem sc_need_numbers : FnScope ["named", "most", "part", "value"] ["named", "most"] (defScope s_need_numbers) := ⟨rfl, rfl, rfl, by decide +kernel, rfl, by decide +kernel, by decide +kernel⟩
abbrev s_need_power : Stmt := top 12
abbrev n_need_power : List Str := ["power"]
theorem sc_need_power : FnScope ["power"] ["power"] (defScope s_need_power) := ⟨rfl, rfl, rfl, by decide +kernel, rfl, by decide +kernel, by decide +kernel⟩
abbrev s_raised : Stmt := top 14
abbrev n_raised : List Str := ["number", "times", "found"]
theorem sc_raised : FnScope ["number", "times", "found"] ["number", "times"] (defScope s_raised) := ⟨rfl, rfl, rfl, by decide +kernel, rfl, by decide +kernel, by decide +kernel⟩
abbrev s_whole_sum : Stmt := top 15
abbrev n_whole_sum : List Str := ["a", "b", "c", "d", "power"]
theorem sc_whole_sum : FnScope ["a", "b", "c", "d", "power"] ["a", "b", "c", "d", "power"] (defScope s_whole_sum) := ⟨rfl, rfl, rfl, by decide +kernel, rfl, by decide +kernel, by decide +kernel⟩
abbrev s_is_by_power : Stmt := top 16
abbrev n_is_by_power : List Str := ["a", "b", "c", "d", "power"]
theorem sc_is_by_power : FnScope ["a", "b", "c", "d", "power"] ["a", "b", "c", "d", "power"] (defScope s_is_by_power) := ⟨rfl, rfl, rfl, by decide +kernel, rfl, by decide +kernel, by decide +kernel⟩
abbrev s_sign_at : Stmt := top 18
abbrev n_sign_at : List Str := ["a", "b", "c", "d", "power", "found"]
theorem sc_sign_at : FnScope ["a", "b", "c", "d", "power", "found"] ["a", "b", "c", "d", "power"] (defScope s_sign_at) := ⟨rfl, rfl, rfl, by decide +kernel, rfl, by decide +kernel, by decide +kernel⟩
abbrev s_is_by : Stmt := top 19
abbrev n_is_by : List Str := ["a", "b", "c", "d", "power"]
theorem sc_is_by : FnScope ["a", "b", "c", "d", "power"] ["a", "b", "c", "d", "power"] (defScope s_is_by) := ⟨rfl, rfl, rfl, by decide +kernel, rfl, by decide +kernel, by decide +kernel⟩
abbrev s__law_hat : Stmt := top 21
abbrev n__law_hat : List Str := ["_law_script", "_law_cell"]
theorem sc__law_hat : FnScope ["_law_script", "_law_cell"] ["_law_script"] (defScope s__law_hat) := ⟨rfl, rfl, rfl, by decide +kernel, rfl, by decide +kernel, by decide +kernel⟩
abbrev s__law_lot : Stmt := top 22
abbrev n__law_lot : List Str := ["_law_hat_here", "_law_many", "_law_digit", "_law_at", "_law_cell", "_law_great", "_law_mixed"]
theorem sc__law_lot : FnScope ["_law_hat_here", "_law_many", "_law_digit", "_law_at", "_law_cell", "_law_great", "_law_mixed"] ["_law_hat_here", "_law_many"] (defScope s__law_lot) := ⟨rfl, rfl, rfl, by decide +kernel, rfl, by decide +kernel, by decide +kernel⟩
abbrev s__law_one : Stmt := top 23
abbrev n__law_one : List Str := ["_law_hat_here", "_law_some"]
theorem sc__law_one : FnScope ["_law_hat_here", "_law_some"] ["_law_hat_here", "_law_some"] (defScope s__law_one) := ⟨rfl, rfl, rfl, by decide +kernel, rfl, by decide +kernel, by decide +kernel⟩
abbrev s__law_raised : Stmt := top 24
abbrev n__law_raised : List Str := ["_law_number", "_law_many", "_law_found", "_law_turn"]
theorem sc__law_raised : FnScope ["_law_number", "_law_many", "_law_found", "_law_turn"] ["_law_number", "_law_many"] (defScope s__law_raised) := ⟨rfl, rfl, rfl, by decide +kernel, rfl, by decide +kernel, by decide +kernel⟩
abbrev s__law_sum : Stmt := top 25
abbrev n__law_sum : List Str := ["_law_a", "_law_b", "_law_c", "_law_d", "_law_power", "_law_many"]
theorem sc__law_sum : FnScope ["_law_a", "_law_b", "_law_c", "_law_d", "_law_power", "_law_many"] ["_law_a", "_law_b", "_law_c", "_law_d", "_law_power"] (defScope s__law_sum) := ⟨rfl, rfl, rfl, by decide +kernel, rfl, by decide +kernel, by decide +kernel⟩
abbrev s__law_sign : Stmt := top 26
abbrev n__law_sign : List Str := ["_law_number"]
theorem sc__law_sign : FnScope ["_law_number"] ["_law_number"] (defScope s__law_sign) := ⟨rfl, rfl, rfl, by decide +kernel, rfl, by decide +kernel, by decide +kernel⟩
abbrev s__law_is_by : Stmt := top 27
abbrev n__law_is_by : List Str := ["_law_a", "_law_b", "_law_c", "_law_d", "_law_power"]
theorem sc__law_is_by : FnScope ["_law_a", "_law_b", "_law_c", "_law_d", "_law_power"] ["_law_a", "_law_b", "_law_c", "_law_d", "_law_power"] (defScope s__law_is_by) := ⟨rfl, rfl, rfl, by decide +kernel, rfl, by decide +kernel, by decide +kernel⟩
abbrev s__law_steps : Stmt := top 28
abbrev n__law_steps : List Str := ["_law_hat_here", "_law_most", "_law_one_here", "_law_other", "_law_step"]
theorem sc__law_steps : FnScope ["_law_hat_here", "_law_most", "_law_one_here", "_law_other", "_law_step"] ["_law_hat_here", "_law_most"] (defScope s__law_steps) := ⟨rfl, rfl, rfl, by decide +kernel, rfl, by decide +kernel, by decide +kernel⟩
abbrev s__law_squares : Stmt := top 29
abbrev n__law_squares : List Str := ["_law_hat_here", "_law_k", "_law_m", "_law_n", "_law_o", "_law_a", "_law_b", "_law_c", "_law_d", "_law_turn"]
theorem sc__law_squares : FnScope ["_law_hat_here", "_law_k", "_law_m", "_law_n", "_law_o", "_law_a", "_law_b", "_law_c", "_law_d", "_law_turn"] ["_law_hat_here"] (defScope s__law_squares) := ⟨rfl, rfl, rfl, by decide +kernel, rfl, by decide +kernel, by decide +kernel⟩
abbrev s__law_four : Stmt := top 30
abbrev n__law_four : List Str := ["_law_hat_here", "_law_way", "_law_k", "_law_m", "_law_n", "_law_o", "_law_some", "_law_whole", "_law_one_here", "_law_other", "_law_turn", "_law_number"]
theorem sc__law_four : FnScope ["_law_hat_here", "_law_way", "_law_k", "_law_m", "_law_n", "_law_o", "_law_some", "_law_whole", "_law_one_here", "_law_other", "_law_turn", "_law_number"] ["_law_hat_here"] (defScope s__law_four) := ⟨rfl, rfl, rfl, by decide +kernel, rfl, by decide +kernel, by decide +kernel⟩
abbrev s__law_turned_right : Stmt := top 31
abbrev n__law_turned_right : List Str := ["_law_a", "_law_b", "_law_c", "_law_d", "_law_power", "_law_told", "_law_one_here", "_law_two", "_law_three", "_law_four_here"]
theorem sc__law_turned_right : FnScope ["_law_a", "_law_b", "_law_c", "_law_d", "_law_power", "_law_told", "_law_one_here", "_law_two", "_law_three", "_law_four_here"] ["_law_a", "_law_b", "_law_c", "_law_d", "_law_power", "_law_told"] (defScope s__law_turned_right) := ⟨rfl, rfl, rfl, by decide +kernel, rfl, by decide +kernel, by decide +kernel⟩
abbrev s__law_chained_right : Stmt := top 32
abbrev n__law_chained_right : List Str := ["_law_hat_here", "_law_a", "_law_b", "_law_c", "_law_d", "_law_power", "_law_e", "_law_f"]
theorem sc__law_chained_right : FnScope ["_law_hat_here", "_law_a", "_law_b", "_law_c", "_law_d", "_law_power", "_law_e", "_law_f"] ["_law_hat_here", "_law_a", "_law_b", "_law_c", "_law_d"] (defScope s__law_chained_right) := ⟨rfl, rfl, rfl, by decide +kernel, rfl, by decide +kernel, by decide +kernel⟩
abbrev s_law : Stmt := top 33
abbrev n_law : List Str := ["_law_script", "_law_hat_here", "_law_lap", "_law_a", "_law_b", "_law_c", "_law_d", "_law_wide", "_law_power", "_law_due", "_law_sign_here", "_law_told"]
theorem sc_law : FnScope ["_law_script", "_law_hat_here", "_law_lap", "_law_a", "_law_b", "_law_c", "_law_d", "_law_wide", "_law_power", "_law_due", "_law_sign_here", "_law_told"] ["_law_script"] (defScope s_law) := ⟨rfl, rfl, rfl, by decide +kernel, rfl, by decide +kernel, by decide +kernel⟩
structure FnT (K : PySem.W.Frag) (mg : Str → Option Value) (nm : Str) (st : Stmt) (ps : List Str) where
  a : Addr
  fd : FuncData
  F : Fun K nm nm st a fd
  g : mg nm = some (.ref a)
  b : Binds K fd ps []
structure Txt (K : PySem.W.Frag) (mg : Str → Option Value) where
  f_is_integer : FnT K mg "is_integer" s_is_integer ["value"]
  f_is_within : FnT K mg "is_within" s_is_within ["value", "least", "most"]
  f_need_within : FnT K mg "need_within" s_need_within ["part", "value", "least", "most"]
  f_need_numbers : FnT K mg "need_numbers" s_need_numbers ["named", "most"]
  f_need_power : FnT K mg "need_power" s_need_power ["power"]
  f_raised : FnT K mg "raised" s_raised ["number", "times"]
  f_whole_sum : FnT K mg "whole_sum" s_whole_sum ["a", "b", "c", "d", "power"]
  f_is_by_power : FnT K mg "is_by_power" s_is_by_power ["a", "b", "c", "d", "power"]
  f_sign_at : FnT K mg "sign_at" s_sign_at ["a", "b", "c", "d", "power"]
  f_is_by : FnT K mg "is_by" s_is_by ["a", "b", "c", "d", "power"]
  f__law_hat : FnT K mg "_law_hat" s__law_hat ["_law_script"]
  f__law_lot : FnT K mg "_law_lot" s__law_lot ["_law_hat_here", "_law_many"]
  f__law_one : FnT K mg "_law_one" s__law_one ["_law_hat_here", "_law_some"]
  f__law_raised : FnT K mg "_law_raised" s__law_raised ["_law_number", "_law_many"]
  f__law_sum : FnT K mg "_law_sum" s__law_sum ["_law_a", "_law_b", "_law_c", "_law_d", "_law_power"]
  f__law_sign : FnT K mg "_law_sign" s__law_sign ["_law_number"]
  f__law_is_by : FnT K mg "_law_is_by" s__law_is_by ["_law_a", "_law_b", "_law_c", "_law_d", "_law_power"]
  f__law_steps : FnT K mg "_law_steps" s__law_steps ["_law_hat_here", "_law_most"]
  f__law_squares : FnT K mg "_law_squares" s__law_squares ["_law_hat_here"]
  f__law_four : FnT K mg "_law_four" s__law_four ["_law_hat_here"]
  f__law_turned_right : FnT K mg "_law_turned_right" s__law_turned_right ["_law_a", "_law_b", "_law_c", "_law_d", "_law_power", "_law_told"]
  f__law_chained_right : FnT K mg "_law_chained_right" s__law_chained_right ["_law_hat_here", "_law_a", "_law_b", "_law_c", "_law_d"]
  f_law : FnT K mg "law" s_law ["_law_script"]
  t_LEAST_POWER : Tok
  c_LEAST_POWER : mg "LEAST_POWER" = some (.int (-80) t_LEAST_POWER)
  t_MOST_POWER : Tok
  c_MOST_POWER : mg "MOST_POWER" = some (.int (80) t_MOST_POWER)
  t_MOST_NUMBER : Tok
  c_MOST_NUMBER : mg "MOST_NUMBER" = some (.int (1000000) t_MOST_NUMBER)
  n_abs : mg "abs" = none
  n_bool : mg "bool" = none
  n_int : mg "int" = none
  n_isinstance : mg "isinstance" = none
  n_len : mg "len" = none
  n_max : mg "max" = none
  n_range : mg "range" = none
section
variable {P : Program} {w : World} {K : PySem.W.Frag} {mg : Str → Option Value} {base : Heap}
/-! ### the program's defs -/
def spIsInt : Sp := fun vs H Q _ => ∃ i, vs = [.int i] ∧ Q (.bl true) H
theorem ok_is_integer (T : Txt K mg) : FnOk P w K mg base CX0 1 T.f_is_integer.a T.f_is_integer.fd ["value"] spIsInt := by
  refine T.f_is_integer.F.ok sc_is_integer (fun vs H Q E h => ?_) (fun cdv A outer s H vs Q E hr h => ?_)
  · obtain ⟨i, rfl, _⟩ := h
    rfl
  · obtain ⟨i, rfl, q⟩ := h
    refine ⟨_, (pss_one (ps_ret (pe_and (pe_callB call_isi (by rfl) T.n_isinstance (by decide +kernel) (pa_cons (pv 0) (pa_cons (pe_bltn (v := .ty "int") (by rfl) T.n_int (by decide +kernel) rfl) pa_nil))) (pe_one (pe_not (pe_callB call_isi (by rfl) T.n_isinstance (by decide +kernel) (pa_cons (pv 0) (pa_cons (pe_bltn (v := .ty "bool") (by rfl) T.n_bool (by decide +kernel) rfl) pa_nil)))))))), ?_⟩
    refine ⟨_, rfl, _, _, _, _, true, rfl, .ty _, .base (.int _), kit_ty (by decide +kernel), true, rfl, iteT ?_⟩
    exact ⟨_, rfl, _, _, _, _, false, rfl, .ty _, .base (.int _), kit_ty (by decide +kernel), false, rfl, q⟩
def spWithin : Sp := fun vs H Q _ => ∃ i l m : Int, vs = [.int i, .int l, .int m] ∧ Q (.bl (decide (l ≤ i ∧ i ≤ m))) H
theorem ok_is_within (T : Txt K mg) : FnOk P w K mg base CX0 2 T.f_is_within.a T.f_is_within.fd ["value", "least", "most"] spWithin := by
  have G_is_integer := ok_is_integer (P := P) (w := w) (base := base) T
  refine T.f_is_within.F.ok sc_is_within (fun vs H Q E h => ?_) (fun cdv A outer s H vs Q E hr h => ?_)
  · obtain ⟨i, l, m, rfl, _⟩ := h
    rfl
  · obtain ⟨i, l, m, rfl, q⟩ := h
    refine ⟨_, (pss_cons (ps_if (pt_not (pt_val (pe_call G_is_integer (hr.mono (by decide)) (by rfl) T.f_is_integer.g T.f_is_integer.F.kp T.f_is_integer.b .nil pass0 (pa_cons (pv 0) pa_nil)))) (pss_one (ps_ret pe_bl)) pss_nil) (pss_one (ps_ret (pe_and (pe_or (pe_cmpR op_isN (pv 1) pe_non (nomark _)) (pe_one (pe_cmpR op_ge (pv 0) (pv 1) (nomark _)))) (pe_one (pe_or (pe_cmpR op_isN (pv 2) pe_non (nomark _)) (pe_one (pe_cmpR op_le (pv 0) (pv 2) (nomark _))))))))), ?_⟩
    refine ⟨_, rfl, i, rfl, true, rfl, iteF ?_⟩
    refine ⟨_, rfl, rfl, false, rfl, iteF ⟨_, rfl, _, rfl, _, _, rfl, rfl, _, rfl, ?_⟩⟩
    refine ite2 (fun e => ?_) (fun e => ?_)
    · refine ⟨_, rfl, rfl, false, rfl, iteF ⟨_, rfl, _, rfl, _, _, rfl, rfl, ?_⟩⟩
      have e1 : l ≤ i := of_decide_eq_true e
      have e2 : decide (l ≤ i ∧ i ≤ m) = decide (i ≤ m) := by
        by_cases h : i ≤ m
        · rw [decide_eq_true h, decide_eq_true ⟨e1, h⟩]
        · rw [decide_eq_false h, decide_eq_false (fun z => h z.2)]
      rw [e2] at q
      exact q
    · have e2 : decide (l ≤ i ∧ i ≤ m) = false := decide_eq_false (fun z => e (decide_eq_true z.1))
      rw [e2] at q
      exact q
def spNeedWithin : Sp := fun vs H Q _ => ∃ (p : Str) (i l m : Int), vs = [.str p, .int i, .int l, .int m] ∧ l ≤ i ∧ i ≤ m ∧ Q .non H
theorem ok_need_within (T : Txt K mg) : FnOk P w K mg base CX0 3 T.f_need_within.a T.f_need_within.fd ["part", "value", "least", "most"] spNeedWithin := by
  have G_is_within := ok_is_within (P := P) (w := w) (base := base) T
  refine T.f_need_within.F.ok sc_need_within (fun vs H Q E h => ?_) (fun cdv A outer s H vs Q E hr h => ?_)
  · obtain ⟨p, i, l, m, rfl, _⟩ := h
    rfl
  · obtain ⟨p, i, l, m, rfl, h1, h2, q⟩ := h
    refine ⟨_, (pss_one (ps_if (pt_not (pt_val (pe_call G_is_within (hr.mono (by decide)) (by rfl) T.f_is_within.g T.f_is_within.F.kp T.f_is_within.b .nil pass0 (pa_cons (pv 1) (pa_cons (pv 2) (pa_cons (pv 3) pa_nil)))))) (pss_one ps_never) pss_nil)), ?_⟩
    exact ⟨_, rfl, _, rfl, _, rfl, i, l, m, rfl, true, decide_eq_true (⟨h1, h2⟩ : l ≤ i ∧ i ≤ m) ▸ rfl, iteF q⟩
/-- pairs of a text and an integer from 1 to m -/
def Named (K : PySem.W.Frag) (H : Hp) (m : Int) (v : V) : Prop := ∃ (t : Addr) (p : Str) (n : Int), v = .ref t ∧ SqT K H t [.str p, .int n] ∧ 1 ≤ n ∧ n ≤ m
def spNeedNumbers (K : PySem.W.Frag) : Sp := fun vs H Q _ => ∃ (l : Addr) (xs : List V) (m : Int), vs = [.ref l, .int m] ∧ SqL K H l xs ∧ (∀ x ∈ xs, Named K H m x) ∧ Q .non H
theorem ok_need_numbers (T : Txt K mg) : FnOk P w K mg base CX0 4 T.f_need_numbers.a T.f_need_numbers.fd ["named", "most"] (spNeedNumbers K) := by
  have G_need_within := ok_need_within (P := P) (w := w) (base := base) T
  refine T.f_need_numbers.F.ok sc_need_numbers (fun vs H Q E h => ?_) (fun cdv A outer s H vs Q E hr h => ?_)
  · obtain ⟨l, xs, m, rfl, _⟩ := h
    rfl
  · obtain ⟨l, xs, m, rfl, hL, hx, q⟩ := h
    refine ⟨_, (pss_one (ps_for PassesOwn.never rfl (pi_list (pv 0)) (pg_tup rfl (pgs_cons (pg_name (i := 2) sc_need_numbers.nd rfl (Or.inl rfl)) (pgs_cons (pg_name (i := 3) sc_need_numbers.nd rfl (Or.inl rfl)) pgs_nil))) (pss_one (ps_expr (pe_call G_need_within (hr.mono (by decide)) (by rfl) T.f_need_within.g T.f_need_within.F.kp T.f_need_within.b .nil pass0 (pa_cons (pv 2) (pa_cons (pv 3) (pa_cons pe_int (pa_cons (pv 1) pa_nil))))))))), ?_⟩
    refine ⟨_, rfl, l, rfl, ⟨_, hL⟩, for_list (K := K) (a := l) (xs := xs) (fun i σ H' => H' = H ∧ ∃ x y, σ = [some (.ref l), some (.int m), x, y]) ⟨rfl, none, none, rfl⟩ (fun i σ H' _ h => h.1 ▸ hL) ?_ ?_⟩
    · rintro i x σ H' hi ⟨rfl, y, z, rfl⟩
      obtain ⟨t, p, n, rfl, hT, h1, h2⟩ := hx x (List.mem_of_getElem? hi)
      refine ⟨t, _, rfl, hT, rfl, _, _, rfl, _, _, rfl, rfl, ?_⟩
      exact ⟨_, rfl, _, rfl, _, rfl, p, n, 1, m, rfl, h1, h2, rfl, _, _, rfl⟩
    · rintro σ H' ⟨rfl, _⟩
      exact q
def spNeedPower : Sp := fun vs H Q _ => ∃ p : Int, vs = [.int p] ∧ -80 ≤ p ∧ p ≤ 80 ∧ Q .non H
theorem ok_need_power (T : Txt K mg) : FnOk P w K mg base CX0 4 T.f_need_power.a T.f_need_power.fd ["power"] spNeedPower := by
  have G_need_within := ok_need_within (P := P) (w := w) (base := base) T
  refine T.f_need_power.F.ok sc_need_power (fun vs H Q E h => ?_) (fun cdv A outer s H vs Q E hr h => ?_)
  · obtain ⟨p, rfl, _⟩ := h
    rfl
  · obtain ⟨p, rfl, h1, h2, q⟩ := h
    refine ⟨_, (pss_one (ps_expr (pe_call G_need_within (hr.mono (by decide)) (by rfl) T.f_need_within.g T.f_need_within.F.kp T.f_need_within.b .nil pass0 (pa_cons pe_str (pa_cons (pv 0) (pa_cons (pe_glob (v := .int (-80)) rfl T.c_LEAST_POWER ⟨_, rfl⟩) (pa_cons (pe_glob (v := .int (80)) rfl T.c_MOST_POWER ⟨_, rfl⟩) pa_nil))))))), ?_⟩
    exact ⟨_, rfl, _, p, -80, 80, rfl, h1, h2, q⟩
/-! ### powers -/
theorem pow_lt {x : Int} {b e : Nat} (h : x.natAbs < 2 ^ b) : (x ^ e).natAbs < 2 ^ (b * e + 1) := by
  have h1 : (x ^ e).natAbs = x.natAbs ^ e := Int.natAbs_pow x e
  rw [h1]
  have h2 : x.natAbs ^ e ≤ (2 ^ b) ^ e := Nat.pow_le_pow_left (Nat.le_of_lt h) e
  rw [← Nat.pow_mul] at h2
  have h3 : 2 ^ (b * e) < 2 ^ (b * e + 1) := Nat.pow_lt_pow_right (by decide) (by omega)
  omega
def spRaised : Sp := fun vs H Q _ => ∃ (x : Int) (n : Nat), vs = [.int x, .int (n : Int)] ∧ x.natAbs < 2 ^ 64 ∧ n ≤ 100 ∧ Q (.int (x ^ n)) H
theorem ok_raised (T : Txt K mg) : FnOk P w K mg base CX0 1 T.f_raised.a T.f_raised.fd ["number", "times"] spRaised := by
  refine T.f_raised.F.ok sc_raised (fun vs H Q E h => ?_) (fun cdv A outer s H vs Q E hr h => ?_)
  · obtain ⟨x, n, rfl, _⟩ := h
    rfl
  · obtain ⟨x, n, rfl, hx, hn, q⟩ := h
    refine ⟨_, (pss_cons (ps_set (i := 2) sc_raised.nd rfl (Or.inl rfl) pe_int) (pss_cons (ps_while PassesOwn.never (pt_cmpR op_gt (pv 1) pe_int (nomark _)) (pss_cons (ps_if (pt_truth (pe_op op_odd (pv 1) pe_int) (by intro _; rfl)) (pss_one (ps_set (i := 2) sc_raised.nd rfl (Or.inl rfl) (pe_op op_mulW (pv 2) (pv 0)))) pss_nil) (pss_cons (ps_set (i := 0) sc_raised.nd rfl (Or.inl rfl) (pe_op op_mulW (pv 0) (pv 0))) (pss_one (ps_set (i := 1) sc_raised.nd rfl (Or.inl rfl) (pe_op op_halfN (pv 1) pe_int)))))) (pss_one (ps_ret (pv 2))))), ?_⟩
    -- j turns are done: number = x ^ (2 ^ j), times = n / 2 ^ j, found = x ^ (n % 2 ^ j)
    refine while_by (fun σ H' => H' = H ∧ ∃ (t u : Nat) (f : Nat), σ = [some (.int (x ^ u)), some (.int (t : Int)), some (.int (x ^ f))] ∧ f + u * t = n ∧ f ≤ n ∧ (u ≤ n ∨ u = 1 ∨ (t = 0 ∧ u ≤ 2 * n)))
      (fun σ _ => match σ with
        | [_, some (.int t), _] => t.toNat
        | _ => 0) ⟨rfl, n, 1, 0, by rw [Int.pow_one, Int.pow_zero]; rfl, by omega, by omega, by omega⟩ ?_ ?_
    · rintro σ H' ⟨rfl, t, u, f, rfl, e1, e2, e3⟩
      refine ⟨_, rfl, _, _, rfl, rfl, _, rfl, ite2 (fun e => ?_) (fun e => ?_)⟩
      · have ht : 0 < t := by
          have := of_decide_eq_true e
          omega
        have hu : u ≤ 100 := by
          have : u ≤ u * t := Nat.le_mul_of_pos_right u ht
          omega
        have bu : (x ^ u).natAbs < 2 ^ (64 * 100 + 1) := Nat.lt_of_lt_of_le (pow_lt (e := u) hx) (Nat.pow_le_pow_right (by decide) (by omega))
        have bf : (x ^ f).natAbs < 2 ^ (64 * 100 + 1) := Nat.lt_of_lt_of_le (pow_lt (e := f) hx) (Nat.pow_le_pow_right (by decide) (by omega))
        have sq : x ^ u * x ^ u = x ^ (2 * u) := by
          rw [← Int.pow_add, Nat.two_mul]
        have hd : t = t % 2 + 2 * (t / 2) := by omega
        have hm : u * t = u * (t % 2) + 2 * u * (t / 2) := by
          have z : u * t = u * (t % 2 + 2 * (t / 2)) := congrArg (fun z => u * z) hd
          rw [z, Nat.mul_add, ← Nat.mul_assoc, Nat.mul_comm u 2]
        have hstep : ∀ f' : Nat, f' = f + u * (t % 2) → f' + 2 * u * (t / 2) = n ∧ f' ≤ n ∧ (2 * u ≤ n ∨ 2 * u = 1 ∨ (t / 2 = 0 ∧ 2 * u ≤ 2 * n)) := by
          intro f' ef
          refine ⟨by omega, ?_, ?_⟩
          · have := Nat.zero_le (2 * u * (t / 2))
            omega
          · by_cases h0 : t / 2 = 0
            · refine .inr (.inr ⟨h0, ?_⟩)
              have : u ≤ u * t := Nat.le_mul_of_pos_right u ht
              omega
            · refine .inl ?_
              have : 2 * u ≤ 2 * u * (t / 2) := Nat.le_mul_of_pos_right (2 * u) (by omega)
              omega
        refine ⟨_, rfl, t, rfl, rfl, _, rfl, ite2 (fun e4 => ?_) (fun e4 => ?_)⟩
        · have e5 : t % 2 = 1 := by
            have e6 : (((t % 2 : Nat) : Int) != 0) = true := e4
            have e7 : ((t % 2 : Nat) : Int) ≠ 0 := by simpa using e6
            omega
          refine ⟨_, rfl, _, rfl, _, _, rfl, rfl, wide_mul bf bu (by decide) (by decide) (by decide), ?_⟩
          refine ⟨_, rfl, _, rfl, _, _, rfl, rfl, wide_mul bu bu (by decide) (by decide) (by decide), ?_⟩
          refine ⟨_, rfl, t, rfl, rfl, ⟨rfl, t / 2, 2 * u, f + u, ?_, ?_⟩, ?_⟩
          · show [some (V.int (x ^ u * x ^ u)), some (V.int ((t / 2 : Nat) : Int)), some (V.int (x ^ f * x ^ u))] = [some (V.int (x ^ (2 * u))), some (V.int ((t / 2 : Nat) : Int)), some (V.int (x ^ (f + u)))]
            rw [sq, ← Int.pow_add]
          · exact hstep (f + u) (by rw [e5, Nat.mul_one])
          · show (((t / 2 : Nat) : Int)).toNat < ((t : Nat) : Int).toNat
            omega
        · have e5 : t % 2 = 0 := by
            have e6 : ¬ (((t % 2 : Nat) : Int) != 0) = true := e4
            have e7 : ((t % 2 : Nat) : Int) = 0 := by simpa using e6
            omega
          refine ⟨_, rfl, _, rfl, _, _, rfl, rfl, wide_mul bu bu (by decide) (by decide) (by decide), ?_⟩
          refine ⟨_, rfl, t, rfl, rfl, ⟨rfl, t / 2, 2 * u, f, ?_, ?_⟩, ?_⟩
          · show [some (V.int (x ^ u * x ^ u)), some (V.int ((t / 2 : Nat) : Int)), some (V.int (x ^ f))] = [some (V.int (x ^ (2 * u))), some (V.int ((t / 2 : Nat) : Int)), some (V.int (x ^ f))]
            rw [sq]
          · exact hstep f (by rw [e5, Nat.mul_zero, Nat.add_zero])
          · show (((t / 2 : Nat) : Int)).toNat < ((t : Nat) : Int).toNat
            omega
      · have ht : t = 0 := by
          by_cases h : t = 0
          · exact h
          · exact absurd (decide_eq_true (show (0 : Int) < (t : Int) by omega)) e
        subst ht
        have ef : f = n := by omega
        subst ef
        exact ⟨_, rfl, q⟩
    · intro σ H Q Q' hq h
      obtain ⟨v, e, a, b, c, d, k, z, r⟩ := h
      exact ⟨v, e, a, b, c, d, k, z, hq _ _ r⟩
/-- the sum of four integers at a power from 0 on -/
def sum0 (a b c d : Int) (p : Nat) : Int := a ^ p + d ^ p - b ^ p - c ^ p
/-- .. at any power, in whole numbers -/
def wsum (a b c d p : Int) : Int := if p < 0 then sum0 (b * c * d) (a * c * d) (a * b * d) (a * b * c) (-p).toNat else sum0 a b c d p.toNat
def Sm (x : Int) : Prop := x.natAbs < 2 ^ 64
def spSum0 : Sp := fun vs H Q _ => ∃ (a b c d : Int) (p : Nat), vs = [.int a, .int b, .int c, .int d, .int (p : Int)] ∧ (Sm a ∧ Sm b ∧ Sm c ∧ Sm d) ∧ p ≤ 100 ∧ Q (.int (sum0 a b c d p)) H
theorem ok_sum0 (T : Txt K mg) : FnOk P w K mg base CX0 2 T.f_whole_sum.a T.f_whole_sum.fd ["a", "b", "c", "d", "power"] spSum0 := by
  have G_raised := ok_raised (P := P) (w := w) (base := base) T
  refine T.f_whole_sum.F.ok sc_whole_sum (fun vs H Q E h => ?_) (fun cdv A outer s H vs Q E hr h => ?_)
  · obtain ⟨a, b, c, d, p, rfl, _⟩ := h
    rfl
  · obtain ⟨a, b, c, d, p, rfl, ⟨ha, hb, hc, hd⟩, hp, q⟩ := h
    refine ⟨_, (pss_cons (ps_if (pt_cmpR op_lt (pv 4) pe_int (nomark _)) (pss_one ps_never) pss_nil) (pss_one (ps_ret (pe_op op_sub (pe_op op_sub (pe_op op_add (pe_call G_raised (hr.mono (by decide)) (by rfl) T.f_raised.g T.f_raised.F.kp T.f_raised.b .nil pass0 (pa_cons (pv 0) (pa_cons (pv 4) pa_nil))) (pe_call G_raised (hr.mono (by decide)) (by rfl) T.f_raised.g T.f_raised.F.kp T.f_raised.b .nil pass0 (pa_cons (pv 3) (pa_cons (pv 4) pa_nil)))) (pe_call G_raised (hr.mono (by decide)) (by rfl) T.f_raised.g T.f_raised.F.kp T.f_raised.b .nil pass0 (pa_cons (pv 1) (pa_cons (pv 4) pa_nil)))) (pe_call G_raised (hr.mono (by decide)) (by rfl) T.f_raised.g T.f_raised.F.kp T.f_raised.b .nil pass0 (pa_cons (pv 2) (pa_cons (pv 4) pa_nil))))))), ?_⟩
    refine ⟨_, rfl, _, _, rfl, rfl, _, rfl, ?_⟩
    rw [decide_eq_false (show ¬ ((p : Int) < 0) by omega)]
    refine iteF ?_
    exact ⟨_, rfl, _, rfl, a, p, rfl, ha, hp, _, rfl, _, rfl, d, p, rfl, hd, hp, _, _, rfl, rfl, _, rfl, _, rfl, b, p, rfl, hb, hp, _, _, rfl, rfl, _, rfl, _, rfl, c, p, rfl, hc, hp, _, _, rfl, rfl, q⟩
/-- four integers from 1 to a million, a power from -80 to 80 -/
structure Fine (a b c d p : Int) : Prop where
  a : 1 ≤ a ∧ a ≤ 1000000
  b : 1 ≤ b ∧ b ≤ 1000000
  c : 1 ≤ c ∧ c ≤ 1000000
  d : 1 ≤ d ∧ d ≤ 1000000
  p : -80 ≤ p ∧ p ≤ 80
theorem two_fine {a b : Int} (ha : 1 ≤ a ∧ a ≤ 1000000) (hb : 1 ≤ b ∧ b ≤ 1000000) : 1 ≤ a * b ∧ a * b ≤ 1000000000000 := by
  constructor
  · have : 0 < a * b := Int.mul_pos (by omega) (by omega)
    omega
  · have h1 : a * b ≤ 1000000 * b := Int.mul_le_mul_of_nonneg_right ha.2 (by omega)
    omega
theorem three_fine {a b c : Int} (ha : 1 ≤ a ∧ a ≤ 1000000) (hb : 1 ≤ b ∧ b ≤ 1000000) (hc : 1 ≤ c ∧ c ≤ 1000000) : 1 ≤ a * b * c ∧ a * b * c ≤ 1000000000000000000 := by
  have h := two_fine ha hb
  constructor
  · have : 0 < a * b * c := Int.mul_pos (by omega) (by omega)
    omega
  · have h1 : a * b * c ≤ 1000000000000 * c := Int.mul_le_mul_of_nonneg_right h.2 (by omega)
    omega
theorem sm_of {x : Int} (h : 1 ≤ x ∧ x ≤ 1000000000000000000) : Sm x := by
  unfold Sm
  omega
theorem lim {x : Int} (h : 1 ≤ x ∧ x ≤ 1000000000000) : -(2 ^ 64) < x ∧ x < 2 ^ 64 := by omega
def spSum : Sp := fun vs H Q _ => ∃ a b c d p : Int, vs = [.int a, .int b, .int c, .int d, .int p] ∧ Fine a b c d p ∧ Q (.int (wsum a b c d p)) H
theorem ok_whole_sum (T : Txt K mg) : FnOk P w K mg base CX0 3 T.f_whole_sum.a T.f_whole_sum.fd ["a", "b", "c", "d", "power"] spSum := by
  have G_raised := ok_raised (P := P) (w := w) (base := base) T
  have G_sum0 := ok_sum0 (P := P) (w := w) (base := base) T
  refine T.f_whole_sum.F.ok sc_whole_sum (fun vs H Q E h => ?_) (fun cdv A outer s H vs Q E hr h => ?_)
  · obtain ⟨a, b, c, d, p, rfl, _⟩ := h
    rfl
  · obtain ⟨a, b, c, d, p, rfl, F, q⟩ := h
    refine ⟨_, (pss_cons (ps_if (pt_cmpR op_lt (pv 4) pe_int (nomark _)) (pss_one (ps_ret (pe_call G_sum0 (hr.mono (by decide)) (by rfl) T.f_whole_sum.g T.f_whole_sum.F.kp T.f_whole_sum.b .nil pass0 (pa_cons (pe_op op_mul (pe_op op_mul (pv 1) (pv 2)) (pv 3)) (pa_cons (pe_op op_mul (pe_op op_mul (pv 0) (pv 2)) (pv 3)) (pa_cons (pe_op op_mul (pe_op op_mul (pv 0) (pv 1)) (pv 3)) (pa_cons (pe_op op_mul (pe_op op_mul (pv 0) (pv 1)) (pv 2)) (pa_cons (pe_un un_neg (pv 4)) pa_nil)))))))) pss_nil) (pss_one (ps_ret (pe_op op_sub (pe_op op_sub (pe_op op_add (pe_call G_raised (hr.mono (by decide)) (by rfl) T.f_raised.g T.f_raised.F.kp T.f_raised.b .nil pass0 (pa_cons (pv 0) (pa_cons (pv 4) pa_nil))) (pe_call G_raised (hr.mono (by decide)) (by rfl) T.f_raised.g T.f_raised.F.kp T.f_raised.b .nil pass0 (pa_cons (pv 3) (pa_cons (pv 4) pa_nil)))) (pe_call G_raised (hr.mono (by decide)) (by rfl) T.f_raised.g T.f_raised.F.kp T.f_raised.b .nil pass0 (pa_cons (pv 1) (pa_cons (pv 4) pa_nil)))) (pe_call G_raised (hr.mono (by decide)) (by rfl) T.f_raised.g T.f_raised.F.kp T.f_raised.b .nil pass0 (pa_cons (pv 2) (pa_cons (pv 4) pa_nil))))))), ?_⟩
    refine ⟨_, rfl, _, _, rfl, rfl, _, rfl, ite2 (fun e => ?_) (fun e => ?_)⟩
    · have hp : p < 0 := of_decide_eq_true e
      have m1 := fun {x y : Int} (hx : 1 ≤ x ∧ x ≤ 1000000) => (.inl (lim ⟨hx.1, by omega⟩) : CMul x y)
      have m2 := fun {x y z : Int} (hx : 1 ≤ x ∧ x ≤ 1000000) (hy : 1 ≤ y ∧ y ≤ 1000000) => (.inl (lim (two_fine hx hy)) : CMul (x * y) z)
      refine ⟨_, rfl, _, rfl, _, _, rfl, rfl, m1 F.b, _, rfl, _, _, rfl, rfl, m2 F.b F.c, ?_⟩
      refine ⟨_, rfl, _, rfl, _, _, rfl, rfl, m1 F.a, _, rfl, _, _, rfl, rfl, m2 F.a F.c, ?_⟩
      refine ⟨_, rfl, _, rfl, _, _, rfl, rfl, m1 F.a, _, rfl, _, _, rfl, rfl, m2 F.a F.b, ?_⟩
      refine ⟨_, rfl, _, rfl, _, _, rfl, rfl, m1 F.a, _, rfl, _, _, rfl, rfl, m2 F.a F.b, ?_⟩
      have hq := F.p
      refine ⟨_, rfl, p, rfl, _, _, _, _, (-p).toNat, ?_, ⟨sm_of (three_fine F.b F.c F.d), sm_of (three_fine F.a F.c F.d), sm_of (three_fine F.a F.b F.d), sm_of (three_fine F.a F.b F.c)⟩, by omega, ?_⟩
      · have : (((-p).toNat : Nat) : Int) = -p := by omega
        rw [this]
        rfl
      · unfold wsum at q
        rw [if_pos hp] at q
        exact q
    · have hp : ¬ p < 0 := fun h => e (decide_eq_true h)
      have hq := F.p
      have ep : V.int p = .int ((p.toNat : Nat) : Int) := by
        congr 1
        omega
      have sm := fun {x : Int} (hx : 1 ≤ x ∧ x ≤ 1000000) => (sm_of ⟨hx.1, by omega⟩ : Sm x)
      have q2 : Q (.int (sum0 a b c d p.toNat)) H := by
        unfold wsum at q
        rw [if_neg hp] at q
        exact q
      refine ⟨_, rfl, _, rfl, a, p.toNat, by rw [← ep]; rfl, sm F.a, by omega, ?_⟩
      refine ⟨_, rfl, _, rfl, d, p.toNat, by rw [← ep]; rfl, sm F.d, by omega, _, _, rfl, rfl, ?_⟩
      refine ⟨_, rfl, _, rfl, b, p.toNat, by rw [← ep]; rfl, sm F.b, by omega, _, _, rfl, rfl, ?_⟩
      exact ⟨_, rfl, _, rfl, c, p.toNat, by rw [← ep]; rfl, sm F.c, by omega, _, _, rfl, rfl, q2⟩
/-- whether they are a proportion by the power -/
def isby (a b c d p : Int) : Bool := if p = 0 then decide (a * d = b * c) else decide (wsum a b c d p = 0)
def spIsByPower : Sp := fun vs H Q _ => ∃ a b c d p : Int, vs = [.int a, .int b, .int c, .int d, .int p] ∧ Fine a b c d p ∧ Q (.bl (isby a b c d p)) H
theorem dec_int (x y : Int) : decide (V.int x = V.int y) = decide (x = y) := by
  by_cases h : x = y
  · rw [decide_eq_true h, decide_eq_true (congrArg V.int h)]
  · rw [decide_eq_false h, decide_eq_false (fun z => h (V.int.inj z))]
theorem ok_is_by_power (T : Txt K mg) : FnOk P w K mg base CX0 4 T.f_is_by_power.a T.f_is_by_power.fd ["a", "b", "c", "d", "power"] spIsByPower := by
  have G_whole_sum := ok_whole_sum (P := P) (w := w) (base := base) T
  refine T.f_is_by_power.F.ok sc_is_by_power (fun vs H Q E h => ?_) (fun cdv A outer s H vs Q E hr h => ?_)
  · obtain ⟨a, b, c, d, p, rfl, _⟩ := h
    rfl
  · obtain ⟨a, b, c, d, p, rfl, F, q⟩ := h
    refine ⟨_, (pss_cons (ps_if (pt_cmpR op_eq (pv 4) pe_int (nomark _)) (pss_one (ps_ret (pe_cmpR op_eq (pe_op op_mul (pv 0) (pv 3)) (pe_op op_mul (pv 1) (pv 2)) (nomark _)))) pss_nil) (pss_one (ps_ret (pe_cmpR op_eq (pe_call G_whole_sum (hr.mono (by decide)) (by rfl) T.f_whole_sum.g T.f_whole_sum.F.kp T.f_whole_sum.b .nil pass0 (pa_cons (pv 0) (pa_cons (pv 1) (pa_cons (pv 2) (pa_cons (pv 3) (pa_cons (pv 4) pa_nil)))))) pe_int (nomark _))))), ?_⟩
    refine ⟨_, rfl, rfl, _, rfl, ite2 (fun e => ?_) (fun e => ?_)⟩
    · have hp : p = 0 := V.int.inj (of_decide_eq_true e)
      unfold isby at q
      rw [if_pos hp, ← dec_int] at q
      have l1 := fun {x y : Int} (hx : 1 ≤ x ∧ x ≤ 1000000) => (.inl (lim ⟨hx.1, by omega⟩) : CMul x y)
      exact ⟨_, rfl, _, rfl, _, _, rfl, rfl, l1 F.a, _, rfl, _, rfl, _, _, rfl, rfl, l1 F.b, rfl, q⟩
    · have hp : ¬ p = 0 := fun h => e (decide_eq_true (congrArg V.int h))
      unfold isby at q
      rw [if_neg hp, ← dec_int] at q
      exact ⟨_, rfl, _, rfl, _, rfl, _, rfl, _, rfl, a, b, c, d, p, rfl, F, rfl, q⟩
end
end Q

namespace Q
open PySem PySem.Spec PyProof.Rows L2
section
variable {P : Program} {w : World} {K : PySem.W.Frag} {mg : Str → Option Value} {base : Heap}
/-! ### heaps -/
theorem same_upd {H : Hp} {p : Addr} {o : HO} (h : H p = none) : Same H (upd H p o) := fun b x e => by
  rw [upd_ne (ne_of_none e h)]
  exact e
theorem Same.seqT {K : PySem.W.Frag} {H H' : Hp} {a : Addr} {xs : List V} (e : Same H H') (h : SqT K H a xs) : SqT K H' a xs := by
  rcases h with (h | ⟨o, h⟩) | h
  · exact .inl (.inl (e _ _ h))
  · exact .inl (.inr ⟨o, e _ _ h⟩)
  · exact .inr h
theorem sz2 {a b : V} : [a, b].length ≤ sizeLine := by show 2 ≤ sizeLine; decide
theorem sz3 {a b c : V} : [a, b, c].length ≤ sizeLine := by show 3 ≤ sizeLine; decide
theorem sz4 {a b c d : V} : [a, b, c, d].length ≤ sizeLine := by show 4 ≤ sizeLine; decide
theorem sz5 {a b c d e : V} : [a, b, c, d, e].length ≤ sizeLine := by show 5 ≤ sizeLine; decide
theorem q1 : (0 : Int) < 2147483563 := by decide
theorem q2 : (0 : Int) < 2147483647 := by decide
theorem q3 : (0 : Int) < 2147483587 := by decide
/-! ### the program's answers -/
theorem named4 {K : PySem.W.Frag} {H : Hp} {t1 t2 t3 t4 l : Addr} {p1 p2 p3 p4 : Str} {a b c d m : Int} (h1 : H t1 = none) (h2 : upd H t1 (.tup [.str p1, .int a]) t2 = none)
    (h3 : upd (upd H t1 (.tup [.str p1, .int a])) t2 (.tup [.str p2, .int b]) t3 = none) (h4 : upd (upd (upd H t1 (.tup [.str p1, .int a])) t2 (.tup [.str p2, .int b])) t3 (.tup [.str p3, .int c]) t4 = none)
    (h5 : upd (upd (upd (upd H t1 (.tup [.str p1, .int a])) t2 (.tup [.str p2, .int b])) t3 (.tup [.str p3, .int c])) t4 (.tup [.str p4, .int d]) l = none)
    (ha : 1 ≤ a ∧ a ≤ m) (hb : 1 ≤ b ∧ b ≤ m) (hc : 1 ≤ c ∧ c ≤ m) (hd : 1 ≤ d ∧ d ≤ m) {o : HO} :
    Same H (upd (upd (upd (upd (upd H t1 (.tup [.str p1, .int a])) t2 (.tup [.str p2, .int b])) t3 (.tup [.str p3, .int c])) t4 (.tup [.str p4, .int d])) l o) ∧
    ∀ x ∈ [V.ref t1, .ref t2, .ref t3, .ref t4], Named K (upd (upd (upd (upd (upd H t1 (.tup [.str p1, .int a])) t2 (.tup [.str p2, .int b])) t3 (.tup [.str p3, .int c])) t4 (.tup [.str p4, .int d])) l o) m x := by
  have s1 := same_upd (o := .tup [.str p1, .int a]) h1
  have s2 := same_upd (o := .tup [.str p2, .int b]) h2
  have s3 := same_upd (o := .tup [.str p3, .int c]) h3
  have s4 := same_upd (o := .tup [.str p4, .int d]) h4
  have s5 := same_upd (o := o) h5
  refine ⟨s1.trans (s2.trans (s3.trans (s4.trans s5))), fun x hx => ?_⟩
  simp only [List.mem_cons, List.not_mem_nil, or_false] at hx
  rcases hx with rfl | rfl | rfl | rfl
  · exact ⟨_, _, _, rfl, .of (s5 _ _ (s4 _ _ (s3 _ _ (s2 _ _ upd_same)))), ha⟩
  · exact ⟨_, _, _, rfl, .of (s5 _ _ (s4 _ _ (s3 _ _ upd_same))), hb⟩
  · exact ⟨_, _, _, rfl, .of (s5 _ _ (s4 _ _ upd_same)), hc⟩
  · exact ⟨_, _, _, rfl, .of (s5 _ _ upd_same), hd⟩
def spIsBy : Sp := fun vs H Q _ => ∃ a b c d p : Int, vs = [.int a, .int b, .int c, .int d, .int p] ∧ Fine a b c d p ∧ ∀ H', Same H H' → Q (.bl (isby a b c d p)) H'
theorem ok_is_by (T : Txt K mg) : FnOk P w K mg base CX0 5 T.f_is_by.a T.f_is_by.fd ["a", "b", "c", "d", "power"] spIsBy := by
  have G_need_numbers := ok_need_numbers (P := P) (w := w) (base := base) T
  have G_need_power := ok_need_power (P := P) (w := w) (base := base) T
  have G_is_by_power := ok_is_by_power (P := P) (w := w) (base := base) T
  refine T.f_is_by.F.ok sc_is_by (fun vs H Q E h => ?_) (fun cdv A outer s H vs Q E hr h => ?_)
  · obtain ⟨a, b, c, d, p, rfl, _⟩ := h
    rfl
  · obtain ⟨a, b, c, d, p, rfl, F, q⟩ := h
    refine ⟨_, (pss_cons (ps_expr (pe_call G_need_numbers (hr.mono (by decide)) (by rfl) T.f_need_numbers.g T.f_need_numbers.F.kp T.f_need_numbers.b .nil pass0 (pa_cons (pe_lst (pa_cons (pe_tup (pa_cons pe_str (pa_cons (pv 0) pa_nil))) (pa_cons (pe_tup (pa_cons pe_str (pa_cons (pv 1) pa_nil))) (pa_cons (pe_tup (pa_cons pe_str (pa_cons (pv 2) pa_nil))) (pa_cons (pe_tup (pa_cons pe_str (pa_cons (pv 3) pa_nil))) pa_nil))))) (pa_cons (pe_glob (v := .int (1000000)) rfl T.c_MOST_NUMBER ⟨_, rfl⟩) pa_nil)))) (pss_cons (ps_expr (pe_call G_need_power (hr.mono (by decide)) (by rfl) T.f_need_power.g T.f_need_power.F.kp T.f_need_power.b .nil pass0 (pa_cons (pv 4) pa_nil))) (pss_one (ps_ret (pe_call G_is_by_power (hr.mono (by decide)) (by rfl) T.f_is_by_power.g T.f_is_by_power.F.kp T.f_is_by_power.b .nil pass0 (pa_cons (pv 0) (pa_cons (pv 1) (pa_cons (pv 2) (pa_cons (pv 3) (pa_cons (pv 4) pa_nil)))))))))), ?_⟩
    refine ⟨_, rfl, sz2, fun t1 h1 => ⟨_, rfl, sz2, fun t2 h2 => ⟨_, rfl, sz2, fun t3 h3 => ⟨_, rfl, sz2, fun t4 h4 => ⟨sz4, fun l h5 => ?_⟩⟩⟩⟩⟩
    obtain ⟨sm, nm⟩ := named4 (K := K) h1 h2 h3 h4 h5 F.a F.b F.c F.d (o := .lst [.ref t1, .ref t2, .ref t3, .ref t4])
    refine ⟨l, _, _, rfl, .of upd_same, nm, ?_⟩
    refine ⟨_, rfl, p, rfl, F.p.1, F.p.2, ?_⟩
    exact ⟨_, rfl, _, rfl, _, rfl, _, rfl, _, rfl, a, b, c, d, p, rfl, F, q _ sm⟩
/-- the sign of a whole number -/
def sgn (x : Int) : Int := if x = 0 then 0 else if 0 < x then 1 else -1
def spSignAt : Sp := fun vs H Q _ => ∃ a b c d p : Int, vs = [.int a, .int b, .int c, .int d, .int p] ∧ Fine a b c d p ∧ ∀ H', Same H H' → Q (.int (sgn (wsum a b c d p))) H'
theorem ok_sign_at (T : Txt K mg) : FnOk P w K mg base CX0 5 T.f_sign_at.a T.f_sign_at.fd ["a", "b", "c", "d", "power"] spSignAt := by
  have G_need_numbers := ok_need_numbers (P := P) (w := w) (base := base) T
  have G_need_power := ok_need_power (P := P) (w := w) (base := base) T
  have G_whole_sum := ok_whole_sum (P := P) (w := w) (base := base) T
  refine T.f_sign_at.F.ok sc_sign_at (fun vs H Q E h => ?_) (fun cdv A outer s H vs Q E hr h => ?_)
  · obtain ⟨a, b, c, d, p, rfl, _⟩ := h
    rfl
  · obtain ⟨a, b, c, d, p, rfl, F, q⟩ := h
    refine ⟨_, (pss_cons (ps_expr (pe_call G_need_numbers (hr.mono (by decide)) (by rfl) T.f_need_numbers.g T.f_need_numbers.F.kp T.f_need_numbers.b .nil pass0 (pa_cons (pe_lst (pa_cons (pe_tup (pa_cons pe_str (pa_cons (pv 0) pa_nil))) (pa_cons (pe_tup (pa_cons pe_str (pa_cons (pv 1) pa_nil))) (pa_cons (pe_tup (pa_cons pe_str (pa_cons (pv 2) pa_nil))) (pa_cons (pe_tup (pa_cons pe_str (pa_cons (pv 3) pa_nil))) pa_nil))))) (pa_cons (pe_glob (v := .int (1000000)) rfl T.c_MOST_NUMBER ⟨_, rfl⟩) pa_nil)))) (pss_cons (ps_expr (pe_call G_need_power (hr.mono (by decide)) (by rfl) T.f_need_power.g T.f_need_power.F.kp T.f_need_power.b .nil pass0 (pa_cons (pv 4) pa_nil))) (pss_cons (ps_set (i := 5) sc_sign_at.nd rfl (Or.inl rfl) (pe_call G_whole_sum (hr.mono (by decide)) (by rfl) T.f_whole_sum.g T.f_whole_sum.F.kp T.f_whole_sum.b .nil pass0 (pa_cons (pv 0) (pa_cons (pv 1) (pa_cons (pv 2) (pa_cons (pv 3) (pa_cons (pv 4) pa_nil))))))) (pss_cons (ps_if (pt_cmpR op_eq (pv 5) pe_int (nomark _)) (pss_one (ps_ret pe_int)) pss_nil) (pss_one (ps_ret (pe_ifExp (pt_cmpR op_gt (pv 5) pe_int (nomark _)) pe_int (pe_un un_neg pe_int)))))))), ?_⟩
    refine ⟨_, rfl, sz2, fun t1 h1 => ⟨_, rfl, sz2, fun t2 h2 => ⟨_, rfl, sz2, fun t3 h3 => ⟨_, rfl, sz2, fun t4 h4 => ⟨sz4, fun l h5 => ?_⟩⟩⟩⟩⟩
    obtain ⟨sm, nm⟩ := named4 (K := K) h1 h2 h3 h4 h5 F.a F.b F.c F.d (o := .lst [.ref t1, .ref t2, .ref t3, .ref t4])
    refine ⟨l, _, _, rfl, .of upd_same, nm, ?_⟩
    refine ⟨_, rfl, p, rfl, F.p.1, F.p.2, ?_⟩
    refine ⟨_, rfl, _, rfl, _, rfl, _, rfl, _, rfl, a, b, c, d, p, rfl, F, ?_⟩
    have q2 := q _ sm
    unfold sgn at q2
    refine ⟨_, rfl, rfl, _, rfl, ite2 (fun e => ?_) (fun e => ?_)⟩
    · rw [if_pos (V.int.inj (of_decide_eq_true e))] at q2
      exact q2
    · have e0 : ¬ wsum a b c d p = 0 := fun z => e (decide_eq_true (congrArg V.int z))
      rw [if_neg e0] at q2
      refine ⟨_, rfl, _, _, rfl, rfl, _, rfl, ite2 (fun e2 => ?_) (fun e2 => ?_)⟩
      · rw [if_pos (of_decide_eq_true e2)] at q2
        exact q2
      · rw [if_neg (fun z => e2 (decide_eq_true z))] at q2
        exact ⟨_, rfl, q2⟩
/-! ### the law's hat: the numbers from which all is drawn -/
def hatL (c : Addr) (t : Nat) (g : Int) : List V := [.ref c, .int (t : Int), .int g]
structure HatAt (H : Hp) (a c : Addr) (ns : List Int) (t : Nat) (g : Int) : Prop where
  h : H a = some (.lst (hatL c t g))
  c : H c = some (.lst (ns.map V.int))
  l : ns.length ≤ 60
def Hat (H : Hp) (a c : Addr) (n : Nat) : Prop := ∃ (ns : List Int) (t : Nat) (g : Int), HatAt H a c ns t g ∧ t ≤ n
theorem HatAt.ne {H : Hp} {a c : Addr} {ns : List Int} {t : Nat} {g : Int} (h : HatAt H a c ns t g) : c ≠ a := ne_of h.c h.h (fun z => by
  have z2 : ns.map V.int = hatL c t g := HO.lst.inj z
  cases ns with
  | nil => cases z2
  | cons x r =>
    have z3 : V.int x = V.ref c := (List.cons.inj z2).1
    cases z3)
/-- all stands as it stood, but what is at a -/
def But (a : Addr) (H H' : Hp) : Prop := ∀ b o, H b = some o → b ≠ a → H' b = some o
theorem But.refl (a : Addr) (H : Hp) : But a H H := fun _ _ e _ => e
theorem But.trans {a : Addr} {H H1 H2 : Hp} (x : But a H H1) (y : But a H1 H2) : But a H H2 := fun b o e n => y b o (x b o e n) n
theorem But.of {a : Addr} {H H' : Hp} (x : Same H H') : But a H H' := fun b o e _ => x b o e
theorem But.free {a c : Addr} {H H' : Hp} {n : Nat} (x : But a H H') (y : Hat H' a c n) {l : Addr} (h : H' l = none) : H l = none := by
  cases q : H l with
  | none => rfl
  | some o =>
    by_cases e : l = a
    · obtain ⟨ns, t, g, z, _⟩ := y
      rw [e, z.h] at h
      cases h
    · rw [x l o q e] at h
      cases h
theorem Hat.same {H H' : Hp} {a c : Addr} {n : Nat} (h : Hat H a c n) (s : Same H H') : Hat H' a c n := by
  obtain ⟨ns, t, g, ⟨h1, h2, h3⟩, z⟩ := h
  exact ⟨ns, t, g, ⟨s _ _ h1, s _ _ h2, h3⟩, z⟩
theorem Hat.mono {H : Hp} {a c : Addr} {n m : Nat} (h : Hat H a c n) (l : n ≤ m) : Hat H a c m := by
  obtain ⟨ns, t, g, x, z⟩ := h
  exact ⟨ns, t, g, x, by omega⟩
theorem HatAt.put {H : Hp} {a c : Addr} {ns : List Int} {t : Nat} {g : Int} (h : HatAt H a c ns t g) (t' : Nat) (g' : Int) : HatAt (upd H a (.lst (hatL c t' g'))) a c ns t' g' ∧ But a H (upd H a (.lst (hatL c t' g'))) :=
  ⟨⟨upd_same, by rw [upd_ne h.ne]; exact h.c, h.l⟩, fun b o e n => by rw [upd_ne n]; exact e⟩
theorem HatAt.new {H : Hp} {a c p : Addr} {ns : List Int} {t : Nat} {g : Int} {o : HO} (h : HatAt H a c ns t g) (hp : H p = none) : HatAt (upd H p o) a c ns t g :=
  ⟨same_upd hp _ _ h.h, same_upd hp _ _ h.c, h.l⟩
def spLot : Sp := fun vs H Q _ => ∃ (a c : Addr) (n : Nat) (m : Int), vs = [.ref a, .int m] ∧ Hat H a c n ∧ n ≤ 1000000 ∧ 0 < m ∧ m < 1073741824 ∧ ∀ (d : Int) (H' : Hp), 0 ≤ d → d < m → Hat H' a c (n + 1) → But a H H' → Q (.int d) H'
theorem at_map {ns : List Int} {k : Nat} (h : k < ns.length) : atI (ns.map V.int) (k : Int) = some (.int ns[k]) := atI_nat (by rw [List.getElem?_map, List.getElem?_eq_getElem h]; rfl)
theorem dpall (K : PySem.W.Frag) (H : Hp) : ∀ ns : List Int, DpAll K H (ns.map V.int) (ns.map PyData.int)
  | [] => .nil
  | _ :: r => .cons (.int _) (dpall K H r)
theorem ok__law_lot (T : Txt K mg) : FnOk P w K mg base CX0 1 T.f__law_lot.a T.f__law_lot.fd ["_law_hat_here", "_law_many"] spLot := by
  refine T.f__law_lot.F.ok sc__law_lot (fun vs H Q E h => ?_) (fun cdv A outer s H vs Q E hr h => ?_)
  · obtain ⟨a, c, n, m, rfl, _⟩ := h
    rfl
  · obtain ⟨a, c, n, m, rfl, ⟨ns, t, g, hh, ht⟩, hn, h0, h1, q⟩ := h
    refine ⟨_, (pss_cons (ps_if (pt_cmpR op_gt (pe_ix ix_list (pv 0) pe_int (fun _ _ => rfl)) pe_int (nomark _)) (pss_cons (ps_set (i := 2) sc__law_lot.nd rfl (Or.inl rfl) (pe_op op_mod (pe_callTy call_int1 (by rfl) T.n_int (by decide +kernel) (pa_cons (pe_ix ix_list (pv 0) pe_int (fun _ _ => rfl)) pa_nil)) (pv 1))) (pss_cons (ps_asg (pe_op op_fdiv (pe_callTy call_int1 (by rfl) T.n_int (by decide +kernel) (pa_cons (pe_ix ix_list (pv 0) pe_int (fun _ _ => rfl)) pa_nil)) (pv 1)) (pg_sub (pv 0) pe_int set_list (fun _ => rfl))) (pss_one (ps_ret (pv 2))))) pss_nil) (pss_cons (ps_set (i := 3) sc__law_lot.nd rfl (Or.inl rfl) (pe_ix ix_list (pv 0) pe_int (fun _ _ => rfl))) (pss_cons (ps_asg (pe_op op_add (pv 3) pe_int) (pg_sub (pv 0) pe_int set_list (fun _ => rfl))) (pss_cons (ps_set (i := 4) sc__law_lot.nd rfl (Or.inl rfl) (pe_op op_add (pe_op op_mul pe_int (pv 3)) pe_int)) (pss_cons (ps_if (pt_cmpR (op_neD hr.units) (pe_ix ix_list (pv 0) pe_int (fun _ _ => rfl)) (pe_lst pa_nil) (nomark _)) (pss_one (ps_set (i := 4) sc__law_lot.nd rfl (Or.inl rfl) (pe_ix ix_list (pe_ix ix_list (pv 0) pe_int (fun _ _ => rfl)) (pe_op op_mod (pe_callTy call_int1 (by rfl) T.n_int (by decide +kernel) (pa_cons (pv 3) pa_nil)) (pe_callB call_len_seq (by rfl) T.n_len (by decide +kernel) (pa_cons (pe_ix ix_list (pv 0) pe_int (fun _ _ => rfl)) pa_nil))) (fun _ _ => rfl)))) pss_nil) (pss_cons (ps_if (PW.pt (pw_and (pt_cmpR op_lt (pv 3) (pe_callB call_len_seq (by rfl) T.n_len (by decide +kernel) (pa_cons (pe_ix ix_list (pv 0) pe_int (fun _ _ => rfl)) pa_nil)) (nomark _)) (pw_and1 (pt_cmpR op_ge (pe_callB call_abs (by rfl) T.n_abs (by decide +kernel) (pa_cons (pv 4) pa_nil)) (pe_op op_pow pe_int pe_int) (nomark _))))) (pss_cons (ps_set (i := 5) sc__law_lot.nd rfl (Or.inl rfl) (pe_op op_add (pe_op op_mul pe_int (pe_op op_sub (pe_callB call_abs (by rfl) T.n_abs (by decide +kernel) (pa_cons (pv 4) pa_nil)) (pe_op op_pow pe_int pe_int))) (pe_callTy call_int1 (by rfl) T.n_int (by decide +kernel) (pa_cons (pe_cmpR op_lt (pv 4) pe_int (nomark _)) pa_nil)))) (pss_cons (ps_asg (pe_op op_fdiv (pe_callTy call_int1 (by rfl) T.n_int (by decide +kernel) (pa_cons (pv 5) pa_nil)) (pv 1)) (pg_sub (pv 0) pe_int set_list (fun _ => rfl))) (pss_one (ps_ret (pe_op op_mod (pe_callTy call_int1 (by rfl) T.n_int (by decide +kernel) (pa_cons (pv 5) pa_nil)) (pv 1)))))) pss_nil) (pss_cons (ps_set (i := 6) sc__law_lot.nd rfl (Or.inl rfl) (pe_op op_mod (pe_callTy call_int1 (by rfl) T.n_int (by decide +kernel) (pa_cons (pe_op op_pow (pe_op op_add (pe_op op_add (pe_op op_mod (pe_callTy call_int1 (by rfl) T.n_int (by decide +kernel) (pa_cons (pv 4) pa_nil)) pe_int) (pe_op op_mul pe_int (pv 3))) pe_int) pe_int) pa_nil)) pe_int)) (pss_cons (ps_set (i := 6) sc__law_lot.nd rfl (Or.inl rfl) (pe_op op_mod (pe_callTy call_int1 (by rfl) T.n_int (by decide +kernel) (pa_cons (pe_op op_pow (pe_op op_add (pe_op op_add (pe_op op_mul (pv 6) (pe_op op_add (pe_op op_mul pe_int (pv 3)) pe_int)) (pe_op op_mul (pe_op op_mul pe_int (pv 3)) (pv 3))) pe_int) pe_int) pa_nil)) pe_int)) (pss_one (ps_ret (pe_op op_mod (pe_callTy call_int1 (by rfl) T.n_int (by decide +kernel) (pa_cons (pe_op op_fdiv (pv 6) pe_int) pa_nil)) (pv 1)))))))))))), ?_⟩
    -- if hat[2] > 0
    refine ⟨_, rfl, a, _, 2, _, rfl, rfl, SqL.of hh.h, atI_nat (j := 2) rfl, _, _, rfl, rfl, _, rfl, ite2 (fun e => ?_) (fun e => ?_)⟩
    · refine ⟨_, rfl, a, _, 2, _, rfl, rfl, SqL.of hh.h, atI_nat (j := 2) rfl, .inl ⟨_, rfl, _, rfl, _, _, rfl, rfl, h0, ?_⟩⟩
      refine ⟨_, rfl, a, _, 2, _, rfl, rfl, SqL.of hh.h, atI_nat (j := 2) rfl, .inl ⟨_, rfl, _, rfl, _, _, rfl, rfl, ⟨h0, h1⟩, ?_⟩⟩
      refine ⟨_, rfl, a, _, 2, 2, rfl, rfl, hh.h, rfl, ?_⟩
      refine ⟨_, rfl, ?_⟩
      obtain ⟨z1, z2⟩ := hh.put t (g / m)
      exact q _ _ (Int.emod_nonneg _ (by omega)) (Int.emod_lt_of_pos _ h0) ⟨ns, t, _, z1, by omega⟩ z2
    · -- at = hat[1]; hat[1] = at + 1; cell = ..
      refine ⟨_, rfl, a, _, 1, _, rfl, rfl, SqL.of hh.h, atI_nat (j := 1) rfl, ?_⟩
      refine ⟨_, rfl, _, _, rfl, rfl, _, rfl, a, _, 1, 1, rfl, rfl, hh.h, rfl, ?_⟩
      refine ⟨_, rfl, _, _, rfl, rfl, .inl ⟨by decide, by decide⟩, _, _, rfl, rfl, ?_⟩
      obtain ⟨z1, z2⟩ := hh.put (t + 1) g
      -- if hat[0] != []
      refine ⟨_, rfl, a, _, 0, _, rfl, rfl, SqL.of z1.h, atI_nat (j := 0) rfl, Nat.zero_le _, fun p hp => ?_⟩
      have z3 := z1.new (o := .lst []) hp
      have z4 : But a H (upd (upd H a (.lst (hatL c (t + 1) g))) p (.lst [])) := z2.trans (.of (same_upd hp))
      generalize hH2 : upd (upd H a (.lst (hatL c (t + 1) g))) p (.lst []) = H2 at z3 z4
      have hH2' : upd (upd H a (HO.lst (List.set (hatL c t g) 1 (V.int ((t : Int) + 1))))) p (HO.lst []) = H2 := hH2
      rw [hH2']
      have hp2 : H2 p = some (.lst []) := by
        rw [← hH2]
        exact upd_same
      refine ⟨.list (ns.map PyData.int), .list [], .lst (SqL.of z3.c) (dpall K H2 ns), .lst (SqL.of hp2) .nil, PySem.W.ke_shaped_ints ns, by decide +kernel, _, rfl, ?_⟩
      have hb1 : ∀ x : Int, (x % 2147483563 + 74027 * (t : Int) + 9767).natAbs < 2 ^ 64 := fun x => by
        have a1 := Int.emod_nonneg x (show (2147483563 : Int) ≠ 0 by decide)
        have a2 := Int.emod_lt_of_pos x (show (0 : Int) < 2147483563 by decide)
        omega
      have hm : ∀ x : Int, -(2 ^ 64) < x % 2147483647 ∧ x % 2147483647 < 2 ^ 64 := fun x => by
        have a1 := Int.emod_nonneg x (show (2147483647 : Int) ≠ 0 by decide)
        have a2 := Int.emod_lt_of_pos x (show (0 : Int) < 2147483647 by decide)
        omega
      have htl : -(2 ^ 64) < (t : Int) ∧ (t : Int) < 2 ^ 64 := by omega
      have hb2 : ∀ x : Int, (x % 2147483647 * (2 * (t : Int) + 1933) + 67057 * (t : Int) * (t : Int) + 74051).natAbs < 2 ^ 64 := fun x => by
        have a1 := Int.emod_nonneg x (show (2147483647 : Int) ≠ 0 by decide)
        have a2 := Int.emod_lt_of_pos x (show (0 : Int) < 2147483647 by decide)
        generalize x % 2147483647 = y at a1 a2
        have b1 : y * (2 * (t : Int) + 1933) ≤ 2147483647 * (2 * (t : Int) + 1933) := Int.mul_le_mul_of_nonneg_right (by omega) (by omega)
        have b2 : 0 ≤ y * (2 * (t : Int) + 1933) := Int.mul_nonneg a1 (by omega)
        have b3 : 67057 * (t : Int) * (t : Int) ≤ 67057 * 1000000 * (t : Int) := Int.mul_le_mul_of_nonneg_right (by omega) (by omega)
        have b4 : 0 ≤ 67057 * (t : Int) * (t : Int) := Int.mul_nonneg (by omega) (by omega)
        generalize y * (2 * (t : Int) + 1933) = z at b1 b2
        generalize 67057 * (t : Int) * (t : Int) = u at b3 b4
        omega
      have fin : ∀ (d : Int) (t' : Nat) (g' : Int) (H3 : Hp), 0 ≤ d → d < m → HatAt H3 a c ns t' g' → t' ≤ t + 1 → But a H H3 → Q (.int d) H3 := fun d t' g' H3 d0 d1 z ht' bb => q d H3 d0 d1 ⟨ns, t', g', z, by omega⟩ bb
      have md : ∀ x : Int, 0 ≤ x % m ∧ x % m < m := fun x => ⟨Int.emod_nonneg _ (by omega), Int.emod_lt_of_pos _ h0⟩
      refine ite2 (fun e1 => ?_) (fun e1 => ?_)
      · have hl : 0 < ns.length := by
          cases ns with
          | nil => exact absurd e1 (by decide)
          | cons x r => exact Nat.succ_pos _
        have hk : t % ns.length < ns.length := Nat.mod_lt _ hl
        have ek : ((t % ns.length : Nat) : Int) = (t : Int) % (ns.length : Int) := Int.natCast_emod t ns.length
        have hat : atI (ns.map V.int) ((t : Int) % (ns.length : Int)) = some (.int ns[t % ns.length]) := by
          rw [← ek]
          exact at_map hk
        have hlm : ((ns.map V.int).length : Int) = (ns.length : Int) := by rw [List.length_map]
        have hpos : (0 : Int) < ((ns.map V.int).length : Int) := by
          rw [hlm]
          omega
        have hat2 : atI (ns.map V.int) ((t : Int) % ((ns.map V.int).length : Int)) = some (.int ns[t % ns.length]) := by
          rw [hlm]
          exact hat
        -- cell = hat[0][int(at) % len(hat[0])]
        refine ⟨_, rfl, a, _, 0, _, rfl, rfl, SqL.of z3.h, atI_nat (j := 0) rfl, _, rfl, .inl ⟨_, rfl, _, rfl, a, _, 0, _, rfl, rfl, SqL.of z3.h, atI_nat (j := 0) rfl, c, _, rfl, .inl (SqL.of z3.c), _, _, rfl, rfl, hpos, c, _, _, _, rfl, rfl, SqL.of z3.c, hat2, ?_⟩⟩
        generalize ns[t % ns.length] = cell
        -- if at < len(hat[0]) and abs(cell) >= 10 ** 18
        refine ⟨_, rfl, _, rfl, a, _, 0, _, rfl, rfl, SqL.of z3.h, atI_nat (j := 0) rfl, c, _, rfl, .inl (SqL.of z3.c), _, _, rfl, rfl, _, rfl, ite2 (fun e2 => ?_) (fun e2 => ?_)⟩
        · refine ⟨_, rfl, _, rfl, _, _, rfl, rfl, ⟨by decide, by decide, by decide⟩, _, _, rfl, rfl, _, rfl, ite2 (fun e3 => ?_) (fun e3 => ?_)⟩
          · -- great
            refine ⟨_, rfl, _, rfl, _, _, rfl, rfl, ⟨by decide, by decide, by decide⟩, _, _, rfl, rfl, _, _, rfl, rfl, .inl ⟨by decide, by decide⟩, _, rfl, _, _, rfl, rfl, .inr ⟨_, rfl, _, _, rfl, rfl, ?_⟩⟩
            refine ⟨_, rfl, .inl ⟨_, rfl, _, rfl, _, _, rfl, rfl, ⟨h0, h1⟩, ?_⟩⟩
            refine ⟨_, rfl, a, _, 2, 2, rfl, rfl, z3.h, rfl, ?_⟩
            refine ⟨_, rfl, .inl ⟨_, rfl, _, rfl, _, _, rfl, rfl, h0, ?_⟩⟩
            obtain ⟨y1, y2⟩ := z3.put (t + 1) _
            exact fin _ (t + 1) _ _ (md _).1 (md _).2 y1 (Nat.le_refl _) (z4.trans y2)
          · refine ⟨_, rfl, .inl ⟨_, rfl, _, _, rfl, rfl, q1, _, rfl, _, _, rfl, rfl, .inl ⟨by decide, by decide⟩, _, _, rfl, rfl, _, _, rfl, rfl, _, _, rfl, rfl, ⟨by decide, by decide, hb1 _⟩, .inl ⟨_, rfl, _, _, rfl, rfl, q2, ?_⟩⟩⟩
            refine ⟨_, rfl, _, rfl, _, _, rfl, rfl, .inl ⟨by decide, by decide⟩, _, _, rfl, rfl, _, _, rfl, rfl, .inl (hm _), _, rfl, _, _, rfl, rfl, .inl ⟨by decide, by decide⟩, _, rfl, _, _, rfl, rfl, .inr htl, _, _, rfl, rfl, _, _, rfl, rfl, _, _, rfl, rfl, ⟨by decide, by decide, hb2 _⟩, .inl ⟨_, rfl, _, _, rfl, rfl, q3, ?_⟩⟩
            refine ⟨_, rfl, _, _, rfl, rfl, ⟨by decide, by decide⟩, .inl ⟨_, rfl, _, rfl, _, _, rfl, rfl, h0, ?_⟩⟩
            exact fin _ (t + 1) g _ (md _).1 (md _).2 z3 (Nat.le_refl _) z4
        · refine iteF ?_
          refine ⟨_, rfl, .inl ⟨_, rfl, _, _, rfl, rfl, q1, _, rfl, _, _, rfl, rfl, .inl ⟨by decide, by decide⟩, _, _, rfl, rfl, _, _, rfl, rfl, _, _, rfl, rfl, ⟨by decide, by decide, hb1 _⟩, .inl ⟨_, rfl, _, _, rfl, rfl, q2, ?_⟩⟩⟩
          refine ⟨_, rfl, _, rfl, _, _, rfl, rfl, .inl ⟨by decide, by decide⟩, _, _, rfl, rfl, _, _, rfl, rfl, .inl (hm _), _, rfl, _, _, rfl, rfl, .inl ⟨by decide, by decide⟩, _, rfl, _, _, rfl, rfl, .inr htl, _, _, rfl, rfl, _, _, rfl, rfl, _, _, rfl, rfl, ⟨by decide, by decide, hb2 _⟩, .inl ⟨_, rfl, _, _, rfl, rfl, q3, ?_⟩⟩
          refine ⟨_, rfl, _, _, rfl, rfl, ⟨by decide, by decide⟩, .inl ⟨_, rfl, _, rfl, _, _, rfl, rfl, h0, ?_⟩⟩
          exact fin _ (t + 1) g _ (md _).1 (md _).2 z3 (Nat.le_refl _) z4
      · generalize 67057 * (t : Int) + 9767 = cell
        -- if at < len(hat[0]) and abs(cell) >= 10 ** 18
        refine ⟨_, rfl, _, rfl, a, _, 0, _, rfl, rfl, SqL.of z3.h, atI_nat (j := 0) rfl, c, _, rfl, .inl (SqL.of z3.c), _, _, rfl, rfl, _, rfl, ite2 (fun e2 => ?_) (fun e2 => ?_)⟩
        · refine ⟨_, rfl, _, rfl, _, _, rfl, rfl, ⟨by decide, by decide, by decide⟩, _, _, rfl, rfl, _, rfl, ite2 (fun e3 => ?_) (fun e3 => ?_)⟩
          · -- great
            refine ⟨_, rfl, _, rfl, _, _, rfl, rfl, ⟨by decide, by decide, by decide⟩, _, _, rfl, rfl, _, _, rfl, rfl, .inl ⟨by decide, by decide⟩, _, rfl, _, _, rfl, rfl, .inr ⟨_, rfl, _, _, rfl, rfl, ?_⟩⟩
            refine ⟨_, rfl, .inl ⟨_, rfl, _, rfl, _, _, rfl, rfl, ⟨h0, h1⟩, ?_⟩⟩
            refine ⟨_, rfl, a, _, 2, 2, rfl, rfl, z3.h, rfl, ?_⟩
            refine ⟨_, rfl, .inl ⟨_, rfl, _, rfl, _, _, rfl, rfl, h0, ?_⟩⟩
            obtain ⟨y1, y2⟩ := z3.put (t + 1) _
            exact fin _ (t + 1) _ _ (md _).1 (md _).2 y1 (Nat.le_refl _) (z4.trans y2)
          · refine ⟨_, rfl, .inl ⟨_, rfl, _, _, rfl, rfl, q1, _, rfl, _, _, rfl, rfl, .inl ⟨by decide, by decide⟩, _, _, rfl, rfl, _, _, rfl, rfl, _, _, rfl, rfl, ⟨by decide, by decide, hb1 _⟩, .inl ⟨_, rfl, _, _, rfl, rfl, q2, ?_⟩⟩⟩
            refine ⟨_, rfl, _, rfl, _, _, rfl, rfl, .inl ⟨by decide, by decide⟩, _, _, rfl, rfl, _, _, rfl, rfl, .inl (hm _), _, rfl, _, _, rfl, rfl, .inl ⟨by decide, by decide⟩, _, rfl, _, _, rfl, rfl, .inr htl, _, _, rfl, rfl, _, _, rfl, rfl, _, _, rfl, rfl, ⟨by decide, by decide, hb2 _⟩, .inl ⟨_, rfl, _, _, rfl, rfl, q3, ?_⟩⟩
            refine ⟨_, rfl, _, _, rfl, rfl, ⟨by decide, by decide⟩, .inl ⟨_, rfl, _, rfl, _, _, rfl, rfl, h0, ?_⟩⟩
            exact fin _ (t + 1) g _ (md _).1 (md _).2 z3 (Nat.le_refl _) z4
        · refine iteF ?_
          refine ⟨_, rfl, .inl ⟨_, rfl, _, _, rfl, rfl, q1, _, rfl, _, _, rfl, rfl, .inl ⟨by decide, by decide⟩, _, _, rfl, rfl, _, _, rfl, rfl, _, _, rfl, rfl, ⟨by decide, by decide, hb1 _⟩, .inl ⟨_, rfl, _, _, rfl, rfl, q2, ?_⟩⟩⟩
          refine ⟨_, rfl, _, rfl, _, _, rfl, rfl, .inl ⟨by decide, by decide⟩, _, _, rfl, rfl, _, _, rfl, rfl, .inl (hm _), _, rfl, _, _, rfl, rfl, .inl ⟨by decide, by decide⟩, _, rfl, _, _, rfl, rfl, .inr htl, _, _, rfl, rfl, _, _, rfl, rfl, _, _, rfl, rfl, ⟨by decide, by decide, hb2 _⟩, .inl ⟨_, rfl, _, _, rfl, rfl, q3, ?_⟩⟩
          refine ⟨_, rfl, _, _, rfl, rfl, ⟨by decide, by decide⟩, .inl ⟨_, rfl, _, rfl, _, _, rfl, rfl, h0, ?_⟩⟩
          exact fin _ (t + 1) g _ (md _).1 (md _).2 z3 (Nat.le_refl _) z4
end
end Q

namespace Q
open PySem PySem.Spec PyProof.Rows L2
section
variable {P : Program} {w : World} {K : PySem.W.Frag} {mg : Str → Option Value} {base : Heap}
theorem But.seq {K : PySem.W.Frag} {H H' : Hp} {a l : Addr} {xs : List V} (e : But a H H') (n : l ≠ a) (h : SqL K H l xs) : SqL K H' l xs := by
  rcases h with (h | ⟨o, h⟩) | h
  · exact .inl (.inl (e _ _ h n))
  · exact .inl (.inr ⟨o, e _ _ h n⟩)
  · exact .inr h
theorem Hat.is_a {H : Hp} {a c : Addr} {n : Nat} (h : Hat H a c n) : ∃ o, H a = some o := by
  obtain ⟨ns, t, g, z, _⟩ := h
  exact ⟨_, z.h⟩
theorem Hat.is_c {H : Hp} {a c : Addr} {n : Nat} (h : Hat H a c n) : ∃ o, H c = some o := by
  obtain ⟨ns, t, g, z, _⟩ := h
  exact ⟨_, z.c⟩
theorem Hat.neA {H : Hp} {a c l : Addr} {n : Nat} (h : Hat H a c n) (f : H l = none) : l ≠ a := fun e => by
  obtain ⟨o, z⟩ := h.is_a
  rw [e, z] at f
  cases f
theorem Hat.neC {H : Hp} {a c l : Addr} {n : Nat} (h : Hat H a c n) (f : H l = none) : l ≠ c := fun e => by
  obtain ⟨o, z⟩ := h.is_c
  rw [e, z] at f
  cases f
theorem Hat.upd {H : Hp} {a c l : Addr} {n : Nat} {o : HO} (h : Hat H a c n) (n1 : l ≠ a) (n2 : l ≠ c) : Hat (upd H l o) a c n := by
  obtain ⟨ns, t, g, ⟨h1, h2, h3⟩, z⟩ := h
  exact ⟨ns, t, g, ⟨by rw [upd_ne n1.symm]; exact h1, by rw [upd_ne n2.symm]; exact h2, h3⟩, z⟩
theorem cut60 (xs : List V) : cutV xs none (some 60) = xs.take 60 := by
  unfold cutV
  rw [show HT.sIx xs.length xs.length (some 60) = min 60 xs.length from HT.sIx_nat xs.length xs.length 60, HT.sIx_none]
  show List.take (min 60 xs.length - 0) xs = xs.take 60
  rw [Nat.sub_zero]
  by_cases h : 60 ≤ xs.length
  · rw [Nat.min_eq_left h]
  · rw [Nat.min_eq_right (by omega), List.take_length, List.take_of_length_le (by omega)]
def spHat (K : PySem.W.Frag) : Sp := fun vs H Q _ => ∃ (a : Addr) (ns : List Int), vs = [.ref a] ∧ SqL K H a (ns.map V.int) ∧ ns.length ≤ 63 ∧ ∀ (h c : Addr) (H' : Hp), Hat H' h c 0 → Same H H' → Q (.ref h) H'
theorem ok__law_hat (T : Txt K mg) : FnOk P w K mg base CX0 1 T.f__law_hat.a T.f__law_hat.fd ["_law_script"] (spHat K) := by
  refine T.f__law_hat.F.ok sc__law_hat (fun vs H Q E h => ?_) (fun cdv A outer s H vs Q E hr h => ?_)
  · obtain ⟨a, ns, rfl, _⟩ := h
    rfl
  · obtain ⟨a, ns, rfl, hS, hl, q⟩ := h
    refine ⟨_, (pss_one (ps_ret (pe_lst (pa_cons (pe_lc (own := [("_law_cell", 1)]) (by rfl) sc__law_hat.nd (pi_list (pe_slice sl_list (pv 0) po_none (po_some pe_int))) (blkOk_by (N := n__law_hat) (sc := defScope s__law_hat) (by decide +kernel)) (fun _ _ _ _ _ => (pg_name (i := 1) sc__law_hat.nd rfl (Or.inl rfl))) (fun _ _ _ _ _ => pts_nil) (fun _ _ _ _ _ => (pe_callTy call_int1 (by rfl) T.n_int (by decide +kernel) (pa_cons (pv 1) pa_nil)))) (pa_cons pe_int (pa_cons pe_int pa_nil)))))), ?_⟩
    refine ⟨_, rfl, 60, rfl, a, _, rfl, hS, fun p hp => ?_⟩
    have s1 := same_upd (o := .lst (cutV (ns.map V.int) none (some 60))) hp
    refine ⟨p, rfl, ⟨_, .of upd_same⟩, fun D hD => ?_⟩
    have ec : cutV (ns.map V.int) none (some 60) = (ns.take 60).map V.int := by rw [cut60, List.map_take]
    have hl60 : (ns.take 60).length ≤ 60 := by
      rw [List.length_take]
      exact Nat.min_le_left _ _
    generalize hm : ns.take 60 = ms at ec hl60
    rw [ec] at s1 hD ⊢
    have s2 := s1.trans (same_upd (o := .lst []) hD)
    refine lc_list (K := K) (a := p) (xs := ms.map V.int) (fun i H' => H' = upd (upd H p (.lst (ms.map V.int))) D (.lst ((ms.take i).map V.int))) rfl (fun i H' _ e => ?_) (fun i x H' hi e => ?_) (fun H' e => ?_)
    · subst e
      refine .of ?_
      rw [upd_ne (ne_of_none upd_same hD)]
      exact upd_same
    · subst e
      obtain ⟨z, hz, rfl⟩ : ∃ z, ms[i]? = some z ∧ x = V.int z := by
        rw [List.getElem?_map] at hi
        cases e : ms[i]? with
        | none =>
          rw [e] at hi
          cases hi
        | some z =>
          rw [e] at hi
          exact ⟨z, rfl, (Option.some.inj hi).symm⟩
      refine ⟨rfl, ?_⟩
      refine ⟨_, rfl, .inl ⟨_, rfl, _, upd_same, ?_, ?_⟩⟩
      · rw [List.length_map, List.length_take]
        exact Nat.lt_of_le_of_lt (Nat.min_le_right _ _) (small1000 (by omega))
      · rw [upd_upd, List.take_add_one, hz, List.map_append]
        rfl
    · subst e
      rw [List.length_map, List.take_length]
      refine ⟨sz3, fun l hl' => ?_⟩
      have s3 := same_upd (o := .lst [.ref D, .int 0, .int 0]) hl'
      have s4 := s1.trans ((same_upd (o := .lst (ms.map V.int)) hD).trans s3)
      exact q l D _ ⟨ms, 0, 0, ⟨upd_same, s3 _ _ upd_same, hl60⟩, Nat.le_refl _⟩ s4
def spOne (K : PySem.W.Frag) : Sp := fun vs H Q _ => ∃ (a c : Addr) (n : Nat) (l : Addr) (xs : List V), vs = [.ref a, .ref l] ∧ Hat H a c n ∧ n ≤ 1000000 ∧ SqL K H l xs ∧ l ≠ a ∧ 0 < xs.length ∧ xs.length ≤ 1000 ∧
  ∀ (v : V) (H' : Hp), v ∈ xs → Hat H' a c (n + 1) → But a H H' → Q v H'
theorem at_any {xs : List V} {d : Int} (h0 : 0 ≤ d) (h1 : d < (xs.length : Int)) : ∃ v, v ∈ xs ∧ atI xs d = some v := by
  obtain ⟨k, rfl⟩ : ∃ k : Nat, d = (k : Int) := ⟨d.toNat, by omega⟩
  have hk : k < xs.length := by omega
  exact ⟨xs[k], List.getElem_mem hk, atI_nat (List.getElem?_eq_getElem hk)⟩
theorem ok__law_one (T : Txt K mg) : FnOk P w K mg base CX0 2 T.f__law_one.a T.f__law_one.fd ["_law_hat_here", "_law_some"] (spOne K) := by
  have G__law_lot := ok__law_lot (P := P) (w := w) (base := base) T
  refine T.f__law_one.F.ok sc__law_one (fun vs H Q E h => ?_) (fun cdv A outer s H vs Q E hr h => ?_)
  · obtain ⟨a, c, n, l, xs, rfl, _⟩ := h
    rfl
  · obtain ⟨a, c, n, l, xs, rfl, hh, hn, hL, hne, hx0, hx1, q⟩ := h
    refine ⟨_, (pss_one (ps_ret (pe_ix ix_list (pv 1) (pe_call G__law_lot (hr.mono (by decide)) (by rfl) T.f__law_lot.g T.f__law_lot.F.kp T.f__law_lot.b .nil pass0 (pa_cons (pv 0) (pa_cons (pe_callB call_len_seq (by rfl) T.n_len (by decide +kernel) (pa_cons (pv 1) pa_nil)) pa_nil))) (fun _ _ => rfl)))), ?_⟩
    refine ⟨_, rfl, _, rfl, _, rfl, l, _, rfl, .inl hL, a, c, n, _, rfl, hh, hn, by omega, by omega, fun d H' d0 d1 hh' bb => ?_⟩
    obtain ⟨v, hv, ev⟩ := at_any d0 d1
    exact ⟨l, xs, d, v, rfl, rfl, bb.seq hne hL, ev, q v H' hv hh' bb⟩
theorem ok__law_raised (T : Txt K mg) : FnOk P w K mg base CX0 1 T.f__law_raised.a T.f__law_raised.fd ["_law_number", "_law_many"] spRaised := by
  refine T.f__law_raised.F.ok sc__law_raised (fun vs H Q E h => ?_) (fun cdv A outer s H vs Q E hr h => ?_)
  · obtain ⟨x, n, rfl, _⟩ := h
    rfl
  · obtain ⟨x, n, rfl, hx, hn, q⟩ := h
    refine ⟨_, (pss_cons (ps_set (i := 2) sc__law_raised.nd rfl (Or.inl rfl) pe_int) (pss_cons (ps_for PassesOwn.never rfl (pi_range1 rfl T.n_range (pa_cons (pv 1) pa_nil)) (pg_name (i := 3) sc__law_raised.nd rfl (Or.inl rfl)) (pss_one (ps_set (i := 2) sc__law_raised.nd rfl (Or.inl rfl) (pe_op op_mulW (pv 2) (pv 0))))) (pss_one (ps_ret (pv 2))))), ?_⟩
    refine ⟨_, rfl, (n : Int), rfl, by omega, by omega, for_range (lo := 0) (n := n) (fun i σ H' => H' = H ∧ ∃ y, σ = [some (.int x), some (.int (n : Int)), some (.int (x ^ i)), y]) ⟨rfl, none, by rw [Int.pow_zero]; rfl⟩ ?_ ?_⟩
    · rintro i σ H' hi ⟨rfl, y, rfl⟩
      have b1 : (x ^ i).natAbs < 2 ^ (64 * 100 + 1) := Nat.lt_of_lt_of_le (pow_lt (e := i) hx) (Nat.pow_le_pow_right (by decide) (by omega))
      refine ⟨_, rfl, _, rfl, _, _, rfl, rfl, wide_mul b1 hx (by decide) (by decide) (by decide), rfl, some (.int (0 + (i : Int))), ?_⟩
      show [some (V.int x), some (V.int (n : Int)), some (V.int (x ^ i * x)), some (V.int (0 + (i : Int)))] = [some (V.int x), some (V.int (n : Int)), some (V.int (x ^ (i + 1))), some (.int (0 + (i : Int)))]
      rw [Int.pow_succ]
    · rintro σ H' ⟨rfl, y, rfl⟩
      exact ⟨_, rfl, q⟩
def spSumL : Sp := fun vs H Q _ => ∃ a b c d p : Int, vs = [.int a, .int b, .int c, .int d, .int p] ∧ Fine a b c d p ∧ ∀ H', Same H H' → Q (.int (wsum a b c d p)) H'
theorem ok__law_sum (T : Txt K mg) : FnOk P w K mg base CX0 2 T.f__law_sum.a T.f__law_sum.fd ["_law_a", "_law_b", "_law_c", "_law_d", "_law_power"] spSumL := by
  have G__law_raised := ok__law_raised (P := P) (w := w) (base := base) T
  refine T.f__law_sum.F.ok sc__law_sum (fun vs H Q E h => ?_) (fun cdv A outer s H vs Q E hr h => ?_)
  · obtain ⟨a, b, c, d, p, rfl, _⟩ := h
    rfl
  · obtain ⟨a, b, c, d, p, rfl, F, q⟩ := h
    refine ⟨_, (pss_cons (ps_if (pt_cmpR op_lt (pv 4) pe_int (nomark _)) (pss_one (ps_asg (pe_tup (pa_cons (pe_op op_mul (pe_op op_mul (pv 1) (pv 2)) (pv 3)) (pa_cons (pe_op op_mul (pe_op op_mul (pv 0) (pv 2)) (pv 3)) (pa_cons (pe_op op_mul (pe_op op_mul (pv 0) (pv 1)) (pv 3)) (pa_cons (pe_op op_mul (pe_op op_mul (pv 0) (pv 1)) (pv 2)) pa_nil))))) (pg_tup rfl (pgs_cons (pg_name (i := 0) sc__law_sum.nd rfl (Or.inl rfl)) (pgs_cons (pg_name (i := 1) sc__law_sum.nd rfl (Or.inl rfl)) (pgs_cons (pg_name (i := 2) sc__law_sum.nd rfl (Or.inl rfl)) (pgs_cons (pg_name (i := 3) sc__law_sum.nd rfl (Or.inl rfl)) pgs_nil))))))) pss_nil) (pss_cons (ps_set (i := 5) sc__law_sum.nd rfl (Or.inl rfl) (pe_callB call_abs (by rfl) T.n_abs (by decide +kernel) (pa_cons (pv 4) pa_nil))) (pss_one (ps_ret (pe_op op_sub (pe_op op_sub (pe_op op_add (pe_call G__law_raised (hr.mono (by decide)) (by rfl) T.f__law_raised.g T.f__law_raised.F.kp T.f__law_raised.b .nil pass0 (pa_cons (pv 0) (pa_cons (pv 5) pa_nil))) (pe_call G__law_raised (hr.mono (by decide)) (by rfl) T.f__law_raised.g T.f__law_raised.F.kp T.f__law_raised.b .nil pass0 (pa_cons (pv 3) (pa_cons (pv 5) pa_nil)))) (pe_call G__law_raised (hr.mono (by decide)) (by rfl) T.f__law_raised.g T.f__law_raised.F.kp T.f__law_raised.b .nil pass0 (pa_cons (pv 1) (pa_cons (pv 5) pa_nil)))) (pe_call G__law_raised (hr.mono (by decide)) (by rfl) T.f__law_raised.g T.f__law_raised.F.kp T.f__law_raised.b .nil pass0 (pa_cons (pv 2) (pa_cons (pv 5) pa_nil)))))))), ?_⟩
    have hq := F.p
    refine ⟨_, rfl, _, _, rfl, rfl, _, rfl, ite2 (fun e => ?_) (fun e => ?_)⟩
    · have hp : p < 0 := of_decide_eq_true e
      have m1 := fun {x y : Int} (hx : 1 ≤ x ∧ x ≤ 1000000) => (.inl (lim ⟨hx.1, by omega⟩) : CMul x y)
      have m2 := fun {x y z : Int} (hx : 1 ≤ x ∧ x ≤ 1000000) (hy : 1 ≤ y ∧ y ≤ 1000000) => (.inl (lim (two_fine hx hy)) : CMul (x * y) z)
      refine ⟨_, rfl, _, rfl, _, _, rfl, rfl, m1 F.b, _, rfl, _, _, rfl, rfl, m2 F.b F.c, ?_⟩
      refine ⟨_, rfl, _, rfl, _, _, rfl, rfl, m1 F.a, _, rfl, _, _, rfl, rfl, m2 F.a F.c, ?_⟩
      refine ⟨_, rfl, _, rfl, _, _, rfl, rfl, m1 F.a, _, rfl, _, _, rfl, rfl, m2 F.a F.b, ?_⟩
      refine ⟨_, rfl, _, rfl, _, _, rfl, rfl, m1 F.a, _, rfl, _, _, rfl, rfl, m2 F.a F.b, ?_⟩
      refine ⟨sz4, fun t ht => ?_⟩
      have s1 := same_upd (o := .tup [.int (b * c * d), .int (a * c * d), .int (a * b * d), .int (a * b * c)]) ht
      refine ⟨t, _, rfl, .of upd_same, rfl, _, _, rfl, _, _, rfl, _, _, rfl, _, _, rfl, rfl, ?_⟩
      have ep : (if p < 0 then -p else p) = (((-p).toNat : Nat) : Int) := by
        rw [if_pos hp]
        omega
      refine ⟨_, rfl, _, rfl, ?_⟩
      have q2 := q _ s1
      unfold wsum at q2
      rw [if_pos hp] at q2
      refine ⟨_, rfl, _, rfl, b * c * d, (-p).toNat, by rw [← ep]; rfl, sm_of (three_fine F.b F.c F.d), by omega, ?_⟩
      refine ⟨_, rfl, _, rfl, a * b * c, (-p).toNat, by rw [← ep]; rfl, sm_of (three_fine F.a F.b F.c), by omega, _, _, rfl, rfl, ?_⟩
      refine ⟨_, rfl, _, rfl, a * c * d, (-p).toNat, by rw [← ep]; rfl, sm_of (three_fine F.a F.c F.d), by omega, _, _, rfl, rfl, ?_⟩
      exact ⟨_, rfl, _, rfl, a * b * d, (-p).toNat, by rw [← ep]; rfl, sm_of (three_fine F.a F.b F.d), by omega, _, _, rfl, rfl, q2⟩
    · have hp : ¬ p < 0 := fun h => e (decide_eq_true h)
      have ep : (if p < 0 then -p else p) = ((p.toNat : Nat) : Int) := by
        rw [if_neg hp]
        omega
      have sm := fun {x : Int} (hx : 1 ≤ x ∧ x ≤ 1000000) => (sm_of ⟨hx.1, by omega⟩ : Sm x)
      have q2 := q _ (Same.refl H)
      unfold wsum at q2
      rw [if_neg hp] at q2
      refine ⟨_, rfl, _, rfl, ?_⟩
      refine ⟨_, rfl, _, rfl, a, p.toNat, by rw [← ep]; rfl, sm F.a, by omega, ?_⟩
      refine ⟨_, rfl, _, rfl, d, p.toNat, by rw [← ep]; rfl, sm F.d, by omega, _, _, rfl, rfl, ?_⟩
      refine ⟨_, rfl, _, rfl, b, p.toNat, by rw [← ep]; rfl, sm F.b, by omega, _, _, rfl, rfl, ?_⟩
      exact ⟨_, rfl, _, rfl, c, p.toNat, by rw [← ep]; rfl, sm F.c, by omega, _, _, rfl, rfl, q2⟩
def spSign : Sp := fun vs H Q _ => ∃ x : Int, vs = [.int x] ∧ Q (.int (sgn x)) H
theorem ok__law_sign (T : Txt K mg) : FnOk P w K mg base CX0 1 T.f__law_sign.a T.f__law_sign.fd ["_law_number"] spSign := by
  refine T.f__law_sign.F.ok sc__law_sign (fun vs H Q E h => ?_) (fun cdv A outer s H vs Q E hr h => ?_)
  · obtain ⟨x, rfl, _⟩ := h
    rfl
  · obtain ⟨x, rfl, q⟩ := h
    refine ⟨_, (pss_one (ps_ret (pe_op op_sub (pe_callTy call_int1 (by rfl) T.n_int (by decide +kernel) (pa_cons (pe_cmpR op_gt (pv 0) pe_int (nomark _)) pa_nil)) (pe_callTy call_int1 (by rfl) T.n_int (by decide +kernel) (pa_cons (pe_cmpR op_lt (pv 0) pe_int (nomark _)) pa_nil))))), ?_⟩
    refine ⟨_, rfl, _, _, rfl, rfl, .inr ⟨_, rfl, _, rfl, _, _, rfl, rfl, .inr ⟨_, rfl, _, _, rfl, rfl, ?_⟩⟩⟩
    have e : ((if decide (0 < x) = true then 1 else 0 : Int) - (if decide (x < 0) = true then 1 else 0)) = sgn x := by
      unfold sgn
      by_cases h1 : x = 0
      · subst h1
        decide
      · by_cases h2 : 0 < x
        · rw [if_neg h1, if_pos h2, decide_eq_true h2, decide_eq_false (show ¬ x < 0 by omega)]
          decide
        · rw [if_neg h1, if_neg h2, decide_eq_false h2, decide_eq_true (show x < 0 by omega)]
          decide
    rw [← e] at q
    exact q
theorem ok__law_is_by (T : Txt K mg) : FnOk P w K mg base CX0 3 T.f__law_is_by.a T.f__law_is_by.fd ["_law_a", "_law_b", "_law_c", "_law_d", "_law_power"] spIsBy := by
  have G__law_sum := ok__law_sum (P := P) (w := w) (base := base) T
  refine T.f__law_is_by.F.ok sc__law_is_by (fun vs H Q E h => ?_) (fun cdv A outer s H vs Q E hr h => ?_)
  · obtain ⟨a, b, c, d, p, rfl, _⟩ := h
    rfl
  · obtain ⟨a, b, c, d, p, rfl, F, q⟩ := h
    refine ⟨_, (pss_one (ps_ret (pe_ifExp (pt_cmpR op_eq (pv 4) pe_int (nomark _)) (pe_cmpR op_eq (pe_op op_mul (pv 0) (pv 3)) (pe_op op_mul (pv 1) (pv 2)) (nomark _)) (pe_cmpR op_eq (pe_call G__law_sum (hr.mono (by decide)) (by rfl) T.f__law_sum.g T.f__law_sum.F.kp T.f__law_sum.b .nil pass0 (pa_cons (pv 0) (pa_cons (pv 1) (pa_cons (pv 2) (pa_cons (pv 3) (pa_cons (pv 4) pa_nil)))))) pe_int (nomark _))))), ?_⟩
    refine ⟨_, rfl, rfl, _, rfl, ite2 (fun e => ?_) (fun e => ?_)⟩
    · have hp : p = 0 := V.int.inj (of_decide_eq_true e)
      have q2 := q _ (Same.refl H)
      unfold isby at q2
      rw [if_pos hp, ← dec_int] at q2
      have l1 := fun {x y : Int} (hx : 1 ≤ x ∧ x ≤ 1000000) => (.inl (lim ⟨hx.1, by omega⟩) : CMul x y)
      exact ⟨_, rfl, _, rfl, _, _, rfl, rfl, l1 F.a, _, rfl, _, rfl, _, _, rfl, rfl, l1 F.b, rfl, q2⟩
    · have hp : ¬ p = 0 := fun h => e (decide_eq_true (congrArg V.int h))
      refine ⟨_, rfl, _, rfl, _, rfl, _, rfl, _, rfl, a, b, c, d, p, rfl, F, fun H' s' => ?_⟩
      have q2 := q _ s'
      unfold isby at q2
      rw [if_neg hp, ← dec_int] at q2
      exact ⟨rfl, q2⟩
end
end Q

namespace Q
open PySem PySem.Spec PyProof.Rows L2
section
variable {P : Program} {w : World} {K : PySem.W.Frag} {mg : Str → Option Value} {base : Heap}
def In (m x : Int) : Prop := 1 ≤ x ∧ x ≤ m
def L4 (x1 x2 x3 x4 : Int) : List V := [.int x1, .int x2, .int x3, .int x4]
def spSteps : Sp := fun vs H Q _ => ∃ (a c : Addr) (n : Nat) (m : Int), vs = [.ref a, .int m] ∧ Hat H a c n ∧ n ≤ 999000 ∧ 1 ≤ m ∧ m ≤ 300000 ∧
  ∀ (l : Addr) (x1 x2 x3 x4 : Int) (H' : Hp), (In (2 * m) x1 ∧ In (2 * m) x2 ∧ In (2 * m) x3 ∧ In (2 * m) x4) → H' l = some (.lst (L4 x1 x2 x3 x4)) → H l = none → Hat H' a c (n + 4) → But a H H' → Q (.ref l) H'
theorem ok__law_steps (T : Txt K mg) : FnOk P w K mg base CX0 2 T.f__law_steps.a T.f__law_steps.fd ["_law_hat_here", "_law_most"] spSteps := by
  have G__law_lot := ok__law_lot (P := P) (w := w) (base := base) T
  refine T.f__law_steps.F.ok sc__law_steps (fun vs H Q E h => ?_) (fun cdv A outer s H vs Q E hr h => ?_)
  · obtain ⟨a, c, n, m, rfl, _⟩ := h
    rfl
  · obtain ⟨a, c, n, m, rfl, hh, hn, m0, m1, q⟩ := h
    refine ⟨_, (pss_cons (ps_par3 (i := 2) (j := 3) (l := 4) rfl sc__law_steps.nd rfl rfl rfl (by decide) (by decide) (by decide) rfl rfl rfl (pa_cons (pe_op op_add pe_int (pe_call G__law_lot (hr.mono (by decide)) (by rfl) T.f__law_lot.g T.f__law_lot.F.kp T.f__law_lot.b .nil pass0 (pa_cons (pv 0) (pa_cons (pv 1) pa_nil)))) (pa_cons (pe_op op_add pe_int (pe_call G__law_lot (hr.mono (by decide)) (by rfl) T.f__law_lot.g T.f__law_lot.F.kp T.f__law_lot.b .nil pass0 (pa_cons (pv 0) (pa_cons (pv 1) pa_nil)))) (pa_cons (pe_call G__law_lot (hr.mono (by decide)) (by rfl) T.f__law_lot.g T.f__law_lot.F.kp T.f__law_lot.b .nil pass0 (pa_cons (pv 0) (pa_cons (pv 1) pa_nil))) pa_nil))) rfl) (pss_one (ps_ret (pe_ifExp (pt_cmpR op_eq (pe_call G__law_lot (hr.mono (by decide)) (by rfl) T.f__law_lot.g T.f__law_lot.F.kp T.f__law_lot.b .nil pass0 (pa_cons (pv 0) (pa_cons pe_int pa_nil))) pe_int (nomark _)) (pe_lst (pa_cons (pv 2) (pa_cons (pe_op op_add (pv 2) (pv 4)) (pa_cons (pv 3) (pa_cons (pe_op op_add (pv 3) (pv 4)) pa_nil))))) (pe_lst (pa_cons (pe_op op_add (pv 2) (pv 4)) (pa_cons (pv 2) (pa_cons (pe_op op_add (pv 3) (pv 4)) (pa_cons (pv 3) pa_nil))))))))), ?_⟩
    refine ⟨_, rfl, _, rfl, a, c, n, m, rfl, hh, by omega, by omega, by omega, fun d1 H1 p1 p1' hh1 b1 => ?_⟩
    refine ⟨_, _, rfl, rfl, _, rfl, _, rfl, a, c, n + 1, m, rfl, hh1, by omega, by omega, by omega, fun d2 H2 p2 p2' hh2 b2 => ?_⟩
    refine ⟨_, _, rfl, rfl, _, rfl, _, rfl, a, c, n + 2, m, rfl, hh2, by omega, by omega, by omega, fun d3 H3 p3 p3' hh3 b3 => ?_⟩
    refine ⟨_, _, _, rfl, ?_⟩
    refine ⟨_, rfl, a, c, n + 3, 2, rfl, hh3, by omega, by decide, by decide, fun d4 H4 p4 p4' hh4 b4 => ?_⟩
    have bb := ((b1.trans b2).trans b3).trans b4
    refine ⟨rfl, _, rfl, ite2 (fun e => ?_) (fun e => ?_)⟩
    · refine ⟨_, rfl, _, rfl, _, rfl, _, _, rfl, rfl, _, rfl, _, rfl, _, rfl, _, _, rfl, rfl, sz4, fun l hl => ?_⟩
      exact q l (1 + d1) (1 + d1 + d3) (1 + d2) (1 + d2 + d3) _ ⟨⟨by omega, by omega⟩, ⟨by omega, by omega⟩, ⟨by omega, by omega⟩, ⟨by omega, by omega⟩⟩ upd_same (bb.free hh4 hl) (hh4.upd (hh4.neA hl) (hh4.neC hl)) (bb.trans (.of (same_upd hl)))
    · refine ⟨_, rfl, _, rfl, _, _, rfl, rfl, _, rfl, _, rfl, _, rfl, _, _, rfl, rfl, _, rfl, sz4, fun l hl => ?_⟩
      exact q l (1 + d1 + d3) (1 + d1) (1 + d2 + d3) (1 + d2) _ ⟨⟨by omega, by omega⟩, ⟨by omega, by omega⟩, ⟨by omega, by omega⟩, ⟨by omega, by omega⟩⟩ upd_same (bb.free hh4 hl) (hh4.upd (hh4.neA hl) (hh4.neC hl)) (bb.trans (.of (same_upd hl)))
/-- i numbers from 1 to m are drawn into the list at D -/
def Draws (H0 H : Hp) (a c D : Addr) (n i : Nat) (m : Int) : Prop := ∃ xs : List Int, H D = some (.lst (xs.map V.int)) ∧ xs.length = i ∧ (∀ x ∈ xs, In m x) ∧ Hat H a c (n + 2 * i) ∧ But a H0 H
theorem Draws.start {H : Hp} {a c D : Addr} {n : Nat} {m : Int} (hh : Hat H a c n) (hD : H D = none) : Draws H (upd H D (.lst [])) a c D n 0 m :=
  ⟨[], upd_same, rfl, fun _ h => absurd h (by simp), hh.upd (hh.neA hD) (hh.neC hD), .of (same_upd hD)⟩
theorem Draws.next {H0 H H1 : Hp} {a c D : Addr} {n i : Nat} {m y : Int} (h : Draws H0 H a c D n i m) (hh0 : Hat H0 a c n) (hD : H0 D = none) (hi : i < 100) (hh1 : Hat H1 a c (n + 2 * i + 2)) (b : But a H H1) (hy : In m y) :
    ∃ acc, H1 D = some (.lst acc) ∧ acc.length < sizeLine ∧ Draws H0 (upd H1 D (.lst (acc ++ [.int y]))) a c D n (i + 1) m := by
  obtain ⟨xs, e, el, hx, _, bb⟩ := h
  have nA := hh0.neA hD
  have nC := hh0.neC hD
  refine ⟨_, b _ _ e nA, ?_, xs ++ [y], ?_, ?_, ?_, ?_, ?_⟩
  · rw [List.length_map, el]
    exact small1000 (by omega)
  · rw [upd_same, List.map_append]
    rfl
  · rw [List.length_append, el]
    rfl
  · intro x hx'
    rcases List.mem_append.mp hx' with z | z
    · exact hx x z
    · rw [List.mem_singleton.mp z]
      exact hy
  · have := hh1.upd (o := .lst (xs.map V.int ++ [.int y])) nA nC
    exact this.mono (by omega)
  · intro p o hp np
    have npD : p ≠ D := ne_of_none hp hD
    rw [upd_ne npD]
    exact b _ _ (bb _ _ hp np) np
theorem Draws.four {H0 H : Hp} {a c D : Addr} {n : Nat} {m : Int} (h : Draws H0 H a c D n 4 m) : ∃ x1 x2 x3 x4, H D = some (.lst (L4 x1 x2 x3 x4)) ∧ (In m x1 ∧ In m x2 ∧ In m x3 ∧ In m x4) ∧ Hat H a c (n + 8) ∧ But a H0 H := by
  obtain ⟨xs, e, el, hx, hh, bb⟩ := h
  match xs, el with
  | [x1, x2, x3, x4], _ => exact ⟨x1, x2, x3, x4, e, ⟨hx _ (by simp), hx _ (by simp), hx _ (by simp), hx _ (by simp)⟩, hh, bb⟩
def Ok4 (x1 x2 x3 x4 : Int) : Prop := In 1000000 x1 ∧ In 1000000 x2 ∧ In 1000000 x3 ∧ In 1000000 x4
def spSquares : Sp := fun vs H Q _ => ∃ (a c : Addr) (n : Nat), vs = [.ref a] ∧ Hat H a c n ∧ n ≤ 999000 ∧
  ∀ (l : Addr) (x1 x2 x3 x4 : Int) (H' : Hp), Ok4 x1 x2 x3 x4 → H' l = some (.lst (L4 x1 x2 x3 x4)) → l ≠ a → Hat H' a c (n + 8) → But a H H' → Q (.ref l) H'
theorem prod_in {x y p q : Int} (hx : 1 ≤ x ∧ x ≤ p) (hy : 1 ≤ y ∧ y ≤ q) : 1 ≤ x * y ∧ x * y ≤ p * q := by
  constructor
  · have : 0 < x * y := Int.mul_pos (by omega) (by omega)
    omega
  · exact Int.mul_le_mul hx.2 hy.2 (by omega) (by omega)
theorem ok__law_squares (T : Txt K mg) : FnOk P w K mg base CX0 2 T.f__law_squares.a T.f__law_squares.fd ["_law_hat_here"] spSquares := by
  have G__law_lot := ok__law_lot (P := P) (w := w) (base := base) T
  refine T.f__law_squares.F.ok sc__law_squares (fun vs H Q E h => ?_) (fun cdv A outer s H vs Q E hr h => ?_)
  · obtain ⟨a, c, n, rfl, _⟩ := h
    rfl
  · obtain ⟨a, c, n, rfl, hh, hn, q⟩ := h
    refine ⟨_, (pss_cons (ps_asg (pe_lc (own := [("_law_turn", 9)]) (by rfl) sc__law_squares.nd (pi_range1 rfl T.n_range (pa_cons pe_int pa_nil)) (blkOk_by (N := n__law_squares) (sc := defScope s__law_squares) (by decide +kernel)) (fun _ _ _ _ _ => (pg_name (i := 9) sc__law_squares.nd rfl (Or.inl rfl))) (fun _ _ _ _ _ => pts_nil) (fun _ _ _ _ _ => (pe_op op_add pe_int (pe_call G__law_lot (hr.mono (by decide)) (by rfl) T.f__law_lot.g T.f__law_lot.F.kp T.f__law_lot.b .nil pass0 (pa_cons (pv 0) (pa_cons pe_int pa_nil)))))) (pg_lst rfl (pgs_cons (pg_name (i := 1) sc__law_squares.nd rfl (Or.inl rfl)) (pgs_cons (pg_name (i := 2) sc__law_squares.nd rfl (Or.inl rfl)) (pgs_cons (pg_name (i := 3) sc__law_squares.nd rfl (Or.inl rfl)) (pgs_cons (pg_name (i := 4) sc__law_squares.nd rfl (Or.inl rfl)) pgs_nil)))))) (pss_cons (ps_asg (pe_tup (pa_cons (pe_callB call_abs (by rfl) T.n_abs (by decide +kernel) (pa_cons (pe_op op_sub (pe_op op_mul (pv 1) (pv 2)) (pe_op op_mul (pv 3) (pv 4))) pa_nil)) (pa_cons (pe_callB call_abs (by rfl) T.n_abs (by decide +kernel) (pa_cons (pe_op op_sub (pe_op op_mul (pv 1) (pv 4)) (pe_op op_mul (pv 2) (pv 3))) pa_nil)) (pa_cons (pe_op op_add (pe_op op_mul (pv 1) (pv 2)) (pe_op op_mul (pv 3) (pv 4))) (pa_cons (pe_op op_add (pe_op op_mul (pv 1) (pv 4)) (pe_op op_mul (pv 2) (pv 3))) pa_nil))))) (pg_tup rfl (pgs_cons (pg_name (i := 5) sc__law_squares.nd rfl (Or.inl rfl)) (pgs_cons (pg_name (i := 6) sc__law_squares.nd rfl (Or.inl rfl)) (pgs_cons (pg_name (i := 7) sc__law_squares.nd rfl (Or.inl rfl)) (pgs_cons (pg_name (i := 8) sc__law_squares.nd rfl (Or.inl rfl)) pgs_nil)))))) (pss_one (ps_ret (pe_ifExp (PW.pt (pw_and (pt_cmpR op_gt (pv 5) pe_int (nomark _)) (pw_and1 (pt_cmpR op_gt (pv 6) pe_int (nomark _))))) (pe_lst (pa_cons (pv 5) (pa_cons (pv 6) (pa_cons (pv 7) (pa_cons (pv 8) pa_nil))))) (pe_lst (pa_cons (pv 1) (pa_cons (pv 1) (pa_cons (pv 2) (pa_cons (pv 2) pa_nil)))))))))), ?_⟩
    refine ⟨4, rfl, by decide, by decide, fun D hD => lc_range (lo := 0) (n := 4) (fun i H' => Draws H H' a c D n i 400) (Draws.start hh hD) (fun i H' hi p => ?_) (fun H' p => ?_)⟩
    · obtain ⟨_, _, _, _, hh1, _⟩ := id p
      refine ⟨rfl, ?_⟩
      refine ⟨_, rfl, a, c, _, 400, rfl, hh1, by omega, by decide, by decide, fun d H1 d0 d1 hh2 b => ?_⟩
      exact ⟨_, _, rfl, rfl, p.next hh hD (by omega) (hh2.mono (by omega)) b ⟨by omega, by omega⟩⟩
    · obtain ⟨k, m, u, v, e, ⟨i1, i2, i3, i4⟩, hh1, bb⟩ := p.four
      refine ⟨D, _, rfl, .of e, rfl, _, _, rfl, _, _, rfl, _, _, rfl, _, _, rfl, rfl, ?_⟩
      have l1 := fun {x y : Int} (hx : In 400 x) => (.inl ⟨by have := hx.1; omega, by have := hx.2; omega⟩ : CMul x y)
      refine ⟨_, rfl, _, rfl, _, _, rfl, rfl, l1 i1, _, rfl, _, rfl, _, _, rfl, rfl, l1 i3, _, _, rfl, rfl, _, rfl, ?_⟩
      refine ⟨_, rfl, _, rfl, _, _, rfl, rfl, l1 i1, _, rfl, _, rfl, _, _, rfl, rfl, l1 i2, _, _, rfl, rfl, _, rfl, ?_⟩
      refine ⟨_, rfl, _, rfl, _, _, rfl, rfl, l1 i1, _, rfl, _, rfl, _, _, rfl, rfl, l1 i3, _, _, rfl, rfl, ?_⟩
      refine ⟨_, rfl, _, rfl, _, _, rfl, rfl, l1 i1, _, rfl, _, rfl, _, _, rfl, rfl, l1 i2, _, _, rfl, rfl, ?_⟩
      refine ⟨sz4, fun t ht => ?_⟩
      have km := prod_in i1 i2
      have uv := prod_in i3 i4
      have kv := prod_in i1 i4
      have mu := prod_in i2 i3
      generalize k * m = km' at *
      generalize u * v = uv' at *
      generalize k * v = kv' at *
      generalize m * u = mu' at *
      refine ⟨t, _, rfl, .of upd_same, rfl, _, _, rfl, _, _, rfl, _, _, rfl, _, _, rfl, rfl, ?_⟩
      have hh2 := hh1.upd (o := .tup [.int (if km' - uv' < 0 then -(km' - uv') else km' - uv'), .int (if kv' - mu' < 0 then -(kv' - mu') else kv' - mu'), .int (km' + uv'), .int (kv' + mu')]) (hh1.neA ht) (hh1.neC ht)
      have bb2 := bb.trans (.of (same_upd (o := .tup [.int (if km' - uv' < 0 then -(km' - uv') else km' - uv'), .int (if kv' - mu' < 0 then -(kv' - mu') else kv' - mu'), .int (km' + uv'), .int (kv' + mu')]) ht))
      refine ⟨_, rfl, _, _, rfl, rfl, _, rfl, ite2 (fun e1 => ?_) (fun e1 => ?_)⟩
      · refine ⟨_, rfl, _, _, rfl, rfl, _, rfl, ite2 (fun e2 => ?_) (fun e2 => ?_)⟩
        · have g1 := of_decide_eq_true e1
          have g2 := of_decide_eq_true e2
          refine ⟨_, rfl, _, rfl, _, rfl, _, rfl, sz4, fun l hl => ?_⟩
          refine q l _ _ _ _ _ ⟨⟨?_, ?_⟩, ⟨?_, ?_⟩, ⟨by omega, by omega⟩, ⟨by omega, by omega⟩⟩ upd_same (hh2.neA hl) (hh2.upd (hh2.neA hl) (hh2.neC hl)) (bb2.trans (.of (same_upd hl)))
          · omega
          · split <;> omega
          · omega
          · split <;> omega
        · refine ⟨_, rfl, _, rfl, _, rfl, _, rfl, sz4, fun l hl => ?_⟩
          exact q l k k m m _ ⟨⟨i1.1, by have := i1.2; omega⟩, ⟨i1.1, by have := i1.2; omega⟩, ⟨i2.1, by have := i2.2; omega⟩, ⟨i2.1, by have := i2.2; omega⟩⟩ upd_same (hh2.neA hl) (hh2.upd (hh2.neA hl) (hh2.neC hl)) (bb2.trans (.of (same_upd hl)))
      · refine iteF ?_
        refine ⟨_, rfl, _, rfl, _, rfl, _, rfl, sz4, fun l hl => ?_⟩
        exact q l k k m m _ ⟨⟨i1.1, by have := i1.2; omega⟩, ⟨i1.1, by have := i1.2; omega⟩, ⟨i2.1, by have := i2.2; omega⟩, ⟨i2.1, by have := i2.2; omega⟩⟩ upd_same (hh2.neA hl) (hh2.upd (hh2.neA hl) (hh2.neC hl)) (bb2.trans (.of (same_upd hl)))
def spFour : Sp := fun vs H Q _ => ∃ (a c : Addr) (n : Nat), vs = [.ref a] ∧ Hat H a c n ∧ n ≤ 990000 ∧
  ∀ (l : Addr) (x1 x2 x3 x4 : Int) (H' : Hp), Ok4 x1 x2 x3 x4 → H' l = some (.lst (L4 x1 x2 x3 x4)) → l ≠ a → Hat H' a c (n + 12) → But a H H' → Q (.ref l) H'
theorem quot_in {x y : Int} (hx : 1 ≤ x) (h : 1 ≤ y) : 1 ≤ (y * x) / x ∧ (y * x) / x ≤ y := by
  rw [Int.mul_ediv_cancel _ (by omega)]
  exact ⟨h, Int.le_refl _⟩
theorem ok__law_four (T : Txt K mg) : FnOk P w K mg base CX0 3 T.f__law_four.a T.f__law_four.fd ["_law_hat_here"] spFour := by
  have G__law_lot := ok__law_lot (P := P) (w := w) (base := base) T
  have G__law_steps := ok__law_steps (P := P) (w := w) (base := base) T
  have G__law_squares := ok__law_squares (P := P) (w := w) (base := base) T
  have G__law_one := ok__law_one (P := P) (w := w) (base := base) T
  refine T.f__law_four.F.ok sc__law_four (fun vs H Q E h => ?_) (fun cdv A outer s H vs Q E hr h => ?_)
  · obtain ⟨a, c, n, rfl, _⟩ := h
    rfl
  · obtain ⟨a, c, n, rfl, hh, hn, q⟩ := h
    refine ⟨_, (pss_cons (ps_set (i := 1) sc__law_four.nd rfl (Or.inl rfl) (pe_call G__law_lot (hr.mono (by decide)) (by rfl) T.f__law_lot.g T.f__law_lot.F.kp T.f__law_lot.b .nil pass0 (pa_cons (pv 0) (pa_cons pe_int pa_nil)))) (pss_cons (ps_if (pt_cmpR op_eq (pv 1) pe_int (nomark _)) (pss_one (ps_ret (pe_call G__law_steps (hr.mono (by decide)) (by rfl) T.f__law_steps.g T.f__law_steps.F.kp T.f__law_steps.b .nil pass0 (pa_cons (pv 0) (pa_cons (pe_call G__law_one (hr.mono (by decide)) (by rfl) T.f__law_one.g T.f__law_one.F.kp T.f__law_one.b .nil pass0 (pa_cons (pv 0) (pa_cons (pe_lst (pa_cons pe_int (pa_cons pe_int (pa_cons pe_int pa_nil)))) pa_nil))) pa_nil))))) pss_nil) (pss_cons (ps_if (pt_cmpR op_eq (pv 1) pe_int (nomark _)) (pss_cons (ps_asg (pe_lc (own := [("_law_turn", 10)]) (by rfl) sc__law_four.nd (pi_range1 rfl T.n_range (pa_cons pe_int pa_nil)) (blkOk_by (N := n__law_four) (sc := defScope s__law_four) (by decide +kernel)) (fun _ _ _ _ _ => (pg_name (i := 10) sc__law_four.nd rfl (Or.inl rfl))) (fun _ _ _ _ _ => pts_nil) (fun _ _ _ _ _ => (pe_op op_add pe_int (pe_call G__law_lot (hr.mono (by decide)) (by rfl) T.f__law_lot.g T.f__law_lot.F.kp T.f__law_lot.b .nil pass0 (pa_cons (pv 0) (pa_cons pe_int pa_nil)))))) (pg_lst rfl (pgs_cons (pg_name (i := 2) sc__law_four.nd rfl (Or.inl rfl)) (pgs_cons (pg_name (i := 3) sc__law_four.nd rfl (Or.inl rfl)) (pgs_cons (pg_name (i := 4) sc__law_four.nd rfl (Or.inl rfl)) (pgs_cons (pg_name (i := 5) sc__law_four.nd rfl (Or.inl rfl)) pgs_nil)))))) (pss_one (ps_ret (pe_lst (pa_cons (pe_op op_mul (pv 2) (pv 3)) (pa_cons (pe_op op_mul (pv 2) (pv 4)) (pa_cons (pe_op op_mul (pv 5) (pv 3)) (pa_cons (pe_op op_mul (pv 5) (pv 4)) pa_nil)))))))) pss_nil) (pss_cons (ps_if (pt_cmpR op_eq (pv 1) pe_int (nomark _)) (pss_one (ps_ret (pe_call G__law_squares (hr.mono (by decide)) (by rfl) T.f__law_squares.g T.f__law_squares.F.kp T.f__law_squares.b .nil pass0 (pa_cons (pv 0) pa_nil)))) pss_nil) (pss_cons (ps_if (pt_cmpR op_eq (pv 1) pe_int (nomark _)) (pss_cons (ps_set (i := 6) sc__law_four.nd rfl (Or.inl rfl) (pe_call G__law_steps (hr.mono (by decide)) (by rfl) T.f__law_steps.g T.f__law_steps.F.kp T.f__law_steps.b .nil pass0 (pa_cons (pv 0) (pa_cons pe_int pa_nil)))) (pss_cons (ps_set (i := 7) sc__law_four.nd rfl (Or.inr rfl) (pe_op op_mul (pe_op op_mul (pe_op op_mul (pe_ix ix_list (pv 6) pe_int (fun _ _ => rfl)) (pe_ix ix_list (pv 6) pe_int (fun _ _ => rfl))) (pe_ix ix_list (pv 6) pe_int (fun _ _ => rfl))) (pe_ix ix_list (pv 6) pe_int (fun _ _ => rfl)))) (pss_one (ps_ret (pe_lc (own := [("_law_number", 11)]) (by rfl) sc__law_four.nd (pi_list (pv 6)) (blkOk_by (N := n__law_four) (sc := defScope s__law_four) (by decide +kernel)) (fun _ _ _ _ _ => (pg_name (i := 11) sc__law_four.nd rfl (Or.inl rfl))) (fun _ _ _ _ _ => pts_nil) (fun _ _ _ _ _ => (pe_op op_fdiv (pv 7) (pv 11)))))))) pss_nil) (pss_cons (ps_if (pt_cmpR op_eq (pv 1) pe_int (nomark _)) (pss_cons (ps_par (i := 8) (j := 9) rfl sc__law_four.nd rfl rfl (by decide) rfl rfl (pa_cons (pe_op op_add pe_int (pe_call G__law_lot (hr.mono (by decide)) (by rfl) T.f__law_lot.g T.f__law_lot.F.kp T.f__law_lot.b .nil pass0 (pa_cons (pv 0) (pa_cons pe_int pa_nil)))) (pa_cons (pe_op op_add pe_int (pe_call G__law_lot (hr.mono (by decide)) (by rfl) T.f__law_lot.g T.f__law_lot.F.kp T.f__law_lot.b .nil pass0 (pa_cons (pv 0) (pa_cons pe_int pa_nil)))) pa_nil)) rfl) (pss_one (ps_ret (pe_call G__law_one (hr.mono (by decide)) (by rfl) T.f__law_one.g T.f__law_one.F.kp T.f__law_one.b .nil pass0 (pa_cons (pv 0) (pa_cons (pe_lst (pa_cons (pe_lst (pa_cons (pv 8) (pa_cons (pv 8) (pa_cons (pv 9) (pa_cons (pv 9) pa_nil))))) (pa_cons (pe_lst (pa_cons (pv 8) (pa_cons (pv 9) (pa_cons (pv 8) (pa_cons (pv 9) pa_nil))))) (pa_cons (pe_lst (pa_cons (pv 8) (pa_cons (pv 8) (pa_cons (pv 8) (pa_cons (pv 8) pa_nil))))) pa_nil)))) pa_nil)))))) pss_nil) (pss_one (ps_ret (pe_lc (own := [("_law_turn", 10)]) (by rfl) sc__law_four.nd (pi_range1 rfl T.n_range (pa_cons pe_int pa_nil)) (blkOk_by (N := n__law_four) (sc := defScope s__law_four) (by decide +kernel)) (fun _ _ _ _ _ => (pg_name (i := 10) sc__law_four.nd rfl (Or.inl rfl))) (fun _ _ _ _ _ => pts_nil) (fun _ _ _ _ _ => (pe_op op_add pe_int (pe_call G__law_lot (hr.mono (by decide)) (by rfl) T.f__law_lot.g T.f__law_lot.F.kp T.f__law_lot.b .nil pass0 (pa_cons (pv 0) (pa_cons (pe_call G__law_one (hr.mono (by decide)) (by rfl) T.f__law_one.g T.f__law_one.F.kp T.f__law_one.b .nil pass0 (pa_cons (pv 0) (pa_cons (pe_lst (pa_cons pe_int (pa_cons pe_int (pa_cons pe_int pa_nil)))) pa_nil))) pa_nil)))))))))))))), ?_⟩
    refine ⟨_, rfl, a, c, n, 7, rfl, hh, by omega, by decide, by decide, fun way H1 _ _ hh1 b1 => ?_⟩
    refine ⟨_, rfl, rfl, _, rfl, ite2 (fun _ => ?_) (fun _ => ?_)⟩
    · -- equal steps
      refine ⟨_, rfl, _, rfl, sz3, fun l hl => ?_⟩
      have hh2 := hh1.upd (o := .lst [.int 300000, .int 99, .int 9]) (hh1.neA hl) (hh1.neC hl)
      have b2 := b1.trans (.of (same_upd (o := .lst [.int 300000, .int 99, .int 9]) hl))
      refine ⟨a, c, n + 1, l, _, rfl, hh2, by omega, .of upd_same, hh1.neA hl, by decide, by decide, fun v H3 hv hh3 b3 => ?_⟩
      obtain ⟨m, rfl, m0, m1⟩ : ∃ m : Int, v = .int m ∧ 1 ≤ m ∧ m ≤ 300000 := by
        simp only [List.mem_cons, List.not_mem_nil, or_false] at hv
        rcases hv with rfl | rfl | rfl
        · exact ⟨_, rfl, by decide, by decide⟩
        · exact ⟨_, rfl, by decide, by decide⟩
        · exact ⟨_, rfl, by decide, by decide⟩
      refine ⟨a, c, n + 1 + 1, m, rfl, hh3, by omega, m0, m1, fun l' x1 x2 x3 x4 H4 ⟨i1, i2, i3, i4⟩ e4 f4 hh4 b4 => ?_⟩
      have up := fun {x : Int} (i : In (2 * m) x) => (⟨i.1, by have := i.2; omega⟩ : In 1000000 x)
      exact q l' x1 x2 x3 x4 H4 ⟨up i1, up i2, up i3, up i4⟩ e4 (hh3.neA f4) (hh4.mono (by omega)) ((b2.trans b3).trans b4)
    refine ⟨_, rfl, rfl, _, rfl, ite2 (fun _ => ?_) (fun _ => ?_)⟩
    · -- equal times
      refine ⟨4, rfl, by decide, by decide, fun D hD => lc_range (lo := 0) (n := 4) (fun i H' => Draws H1 H' a c D (n + 1) i 1000) (Draws.start hh1 hD) (fun i H' hi p => ?_) (fun H' p => ?_)⟩
      · obtain ⟨_, _, _, _, hh2, _⟩ := id p
        refine ⟨rfl, ?_⟩
        refine ⟨_, rfl, a, c, _, 1000, rfl, hh2, by omega, by decide, by decide, fun d H2 d0 d1 hh3 b => ?_⟩
        exact ⟨_, _, rfl, rfl, p.next hh1 hD (by omega) (hh3.mono (by omega)) b ⟨by omega, by omega⟩⟩
      · obtain ⟨k, m, u, v, e, ⟨i1, i2, i3, i4⟩, hh2, bb⟩ := p.four
        refine ⟨D, _, rfl, .of e, rfl, _, _, rfl, _, _, rfl, _, _, rfl, _, _, rfl, rfl, ?_⟩
        have l1 := fun {x y : Int} (hx : In 1000 x) => (.inl ⟨by have := hx.1; omega, by have := hx.2; omega⟩ : CMul x y)
        refine ⟨_, rfl, _, rfl, _, _, rfl, rfl, l1 i1, _, rfl, _, rfl, _, _, rfl, rfl, l1 i1, _, rfl, _, rfl, _, _, rfl, rfl, l1 i4, _, rfl, _, rfl, _, _, rfl, rfl, l1 i4, sz4, fun l hl => ?_⟩
        exact q l _ _ _ _ _ ⟨prod_in i1 i2, prod_in i1 i3, prod_in i4 i2, prod_in i4 i3⟩ upd_same (hh2.neA hl) ((hh2.upd (hh2.neA hl) (hh2.neC hl)).mono (by omega)) ((b1.trans bb).trans (.of (same_upd hl)))
    refine ⟨_, rfl, rfl, _, rfl, ite2 (fun _ => ?_) (fun _ => ?_)⟩
    · -- two sums of two squares
      refine ⟨_, rfl, a, c, n + 1, rfl, hh1, by omega, fun l x1 x2 x3 x4 H2 ok e2 n2 hh2 b2 => ?_⟩
      exact q l x1 x2 x3 x4 H2 ok e2 n2 (hh2.mono (by omega)) (b1.trans b2)
    refine ⟨_, rfl, rfl, _, rfl, ite2 (fun _ => ?_) (fun _ => ?_)⟩
    · -- one integer divided by four with equal steps
      refine ⟨_, rfl, a, c, n + 1, 15, rfl, hh1, by omega, by decide, by decide, fun l x1 x2 x3 x4 H2 ⟨i1, i2, i3, i4⟩ e2 f2 hh2 b2 => ?_⟩
      have j1 : 1 ≤ x1 ∧ x1 ≤ 30 := i1
      have j2 : 1 ≤ x2 ∧ x2 ≤ 30 := i2
      have j3 : 1 ≤ x3 ∧ x3 ≤ 30 := i3
      have j4 : 1 ≤ x4 ∧ x4 ≤ 30 := i4
      have p2 := prod_in j1 j2
      have p3 := prod_in p2 j3
      have p4 := prod_in p3 j4
      refine ⟨_, rfl, l, _, 0, _, rfl, rfl, .of e2, atI_nat (j := 0) rfl, _, rfl, l, _, 1, _, rfl, rfl, .of e2, atI_nat (j := 1) rfl, _, _, rfl, rfl, .inl ⟨by omega, by omega⟩, ?_⟩
      refine ⟨_, rfl, l, _, 2, _, rfl, rfl, .of e2, atI_nat (j := 2) rfl, _, _, rfl, rfl, .inl ⟨by omega, by omega⟩, ?_⟩
      refine ⟨_, rfl, l, _, 3, _, rfl, rfl, .of e2, atI_nat (j := 3) rfl, _, _, rfl, rfl, .inl ⟨by omega, by omega⟩, ?_⟩
      have w1 : x1 * x2 * x3 * x4 = x2 * x3 * x4 * x1 := by simp only [Int.mul_comm, Int.mul_left_comm]
      have w2 : x1 * x2 * x3 * x4 = x1 * x3 * x4 * x2 := by simp only [Int.mul_comm, Int.mul_left_comm]
      have w3 : x1 * x2 * x3 * x4 = x1 * x2 * x4 * x3 := by simp only [Int.mul_comm, Int.mul_left_comm]
      have r1 := prod_in (prod_in j2 j3) j4
      have r2 := prod_in (prod_in j1 j3) j4
      have r3 := prod_in (prod_in j1 j2) j4
      have t1 : In 1000000 (x1 * x2 * x3 * x4 / x1) := by
        rw [w1]
        have := quot_in j1.1 r1.1
        exact ⟨this.1, by omega⟩
      have t2 : In 1000000 (x1 * x2 * x3 * x4 / x2) := by
        rw [w2]
        have := quot_in j2.1 r2.1
        exact ⟨this.1, by omega⟩
      have t3 : In 1000000 (x1 * x2 * x3 * x4 / x3) := by
        rw [w3]
        have := quot_in j3.1 r3.1
        exact ⟨this.1, by omega⟩
      have t4 : In 1000000 (x1 * x2 * x3 * x4 / x4) := by
        have := quot_in j4.1 p3.1
        exact ⟨this.1, by omega⟩
      have hW : ∃ W, W = x1 * x2 * x3 * x4 := ⟨_, rfl⟩
      obtain ⟨W, hW⟩ := hW
      rw [← hW] at t1 t2 t3 t4
      refine ⟨_, rfl, l, rfl, ⟨_, .of e2⟩, fun D hD => lc_list (K := K) (a := l) (xs := L4 x1 x2 x3 x4) (fun i H' => H' = upd H2 D (.lst (([W / x1, W / x2, W / x3, W / x4].take i).map V.int))) rfl (fun i H' _ e => ?_) (fun i x H' hi e => ?_) (fun H' e => ?_)⟩
      · subst e
        refine .of ?_
        rw [upd_ne (ne_of_none e2 hD)]
        exact e2
      · subst e
        have cd := fun {x : Int} (h : 1 ≤ x ∧ x ≤ 30) => (⟨by omega, by omega⟩ : CDiv (x1 * x2 * x3 * x4) x)
        match i, hi with
        | 0, hi =>
          cases hi
          exact ⟨rfl, _, rfl, _, rfl, _, _, rfl, rfl, cd j1, _, upd_same, small1000 (by show 0 ≤ 1000; decide), by rw [upd_upd, hW]; rfl⟩
        | 1, hi =>
          cases hi
          exact ⟨rfl, _, rfl, _, rfl, _, _, rfl, rfl, cd j2, _, upd_same, small1000 (by show 1 ≤ 1000; decide), by rw [upd_upd, hW]; rfl⟩
        | 2, hi =>
          cases hi
          exact ⟨rfl, _, rfl, _, rfl, _, _, rfl, rfl, cd j3, _, upd_same, small1000 (by show 2 ≤ 1000; decide), by rw [upd_upd, hW]; rfl⟩
        | 3, hi =>
          cases hi
          exact ⟨rfl, _, rfl, _, rfl, _, _, rfl, rfl, cd j4, _, upd_same, small1000 (by show 3 ≤ 1000; decide), by rw [upd_upd, hW]; rfl⟩
        | n + 4, hi => cases hi
      · subst e
        exact q D _ _ _ _ _ ⟨t1, t2, t3, t4⟩ upd_same (hh2.neA hD) ((hh2.upd (hh2.neA hD) (hh2.neC hD)).mono (by omega)) ((b1.trans b2).trans (.of (same_upd hD)))
    refine ⟨_, rfl, rfl, _, rfl, ite2 (fun _ => ?_) (fun _ => ?_)⟩
    · -- equal pairs
      refine ⟨_, rfl, a, c, n + 1, 1000000, rfl, hh1, by omega, by decide, by decide, fun d1 H2 p1 p1' hh2 b2 => ?_⟩
      refine ⟨_, _, rfl, rfl, _, rfl, a, c, n + 2, 1000000, rfl, hh2, by omega, by decide, by decide, fun d2 H3 p2 p2' hh3 b3 => ?_⟩
      refine ⟨_, _, rfl, rfl, _, _, rfl, ?_⟩
      have k1 : In 1000000 (1 + d1) := ⟨by omega, by omega⟩
      have k2 : In 1000000 (1 + d2) := ⟨by omega, by omega⟩
      refine ⟨_, rfl, _, rfl, _, rfl, _, rfl, _, rfl, sz4, fun l1 f1 => ?_⟩
      refine ⟨_, rfl, _, rfl, _, rfl, _, rfl, sz4, fun l2 f2 => ?_⟩
      refine ⟨_, rfl, _, rfl, _, rfl, _, rfl, sz4, fun l3 f3 => ?_⟩
      refine ⟨sz3, fun l4 f4 => ?_⟩
      have y1 := hh3.upd (o := .lst (L4 (1 + d1) (1 + d1) (1 + d2) (1 + d2))) (hh3.neA f1) (hh3.neC f1)
      have y2 := y1.upd (o := .lst (L4 (1 + d1) (1 + d2) (1 + d1) (1 + d2))) (y1.neA f2) (y1.neC f2)
      have y3 := y2.upd (o := .lst (L4 (1 + d1) (1 + d1) (1 + d1) (1 + d1))) (y2.neA f3) (y2.neC f3)
      have y4 := y3.upd (o := .lst [.ref l1, .ref l2, .ref l3]) (y3.neA f4) (y3.neC f4)
      have s1 := same_upd (o := .lst (L4 (1 + d1) (1 + d1) (1 + d2) (1 + d2))) f1
      have s2 := same_upd (o := .lst (L4 (1 + d1) (1 + d2) (1 + d1) (1 + d2))) f2
      have s3 := same_upd (o := .lst (L4 (1 + d1) (1 + d1) (1 + d1) (1 + d1))) f3
      have s4 := same_upd (o := .lst [.ref l1, .ref l2, .ref l3]) f4
      refine ⟨a, c, n + 3, l4, _, rfl, y4, by omega, .of upd_same, y3.neA f4, (by show 0 < 3; decide), (by show 3 ≤ 1000; decide), fun z H5 hz hh5 b5 => ?_⟩
      have bb := ((b1.trans b2).trans b3).trans ((But.of (s1.trans (s2.trans (s3.trans s4)))).trans b5)
      simp only [List.mem_cons, List.not_mem_nil, or_false] at hz
      rcases hz with rfl | rfl | rfl
      · exact q l1 (1 + d1) (1 + d1) (1 + d2) (1 + d2) H5 ⟨k1, k1, k2, k2⟩ (b5 _ _ (s4 _ _ (s3 _ _ (s2 _ _ upd_same))) (hh3.neA f1)) (hh3.neA f1) (hh5.mono (by omega)) bb
      · exact q l2 (1 + d1) (1 + d2) (1 + d1) (1 + d2) H5 ⟨k1, k2, k1, k2⟩ (b5 _ _ (s4 _ _ (s3 _ _ upd_same)) (y1.neA f2)) (y1.neA f2) (hh5.mono (by omega)) bb
      · exact q l3 (1 + d1) (1 + d1) (1 + d1) (1 + d1) H5 ⟨k1, k1, k1, k1⟩ (b5 _ _ (s4 _ _ upd_same) (y2.neA f3)) (y2.neA f3) (hh5.mono (by omega)) bb
    · -- any
      refine ⟨4, rfl, by decide, by decide, fun D hD => lc_range (lo := 0) (n := 4) (fun i H' => Draws H1 H' a c D (n + 1) i 1000000) (Draws.start hh1 hD) (fun i H' hi p => ?_) (fun H' p => ?_)⟩
      · obtain ⟨_, _, _, _, hh2, _⟩ := id p
        refine ⟨rfl, ?_⟩
        refine ⟨_, rfl, _, rfl, sz3, fun l hl => ?_⟩
        have hh3 := hh2.upd (o := .lst [.int 9, .int 99, .int 1000000]) (hh2.neA hl) (hh2.neC hl)
        have b2 := But.of (a := a) (same_upd (o := .lst [.int 9, .int 99, .int 1000000]) hl)
        refine ⟨a, c, n + 1 + 2 * i, l, _, rfl, hh3, by omega, .of upd_same, hh2.neA hl, by decide, by decide, fun v H3 hv hh4 b3 => ?_⟩
        obtain ⟨m, rfl, m0, m1⟩ : ∃ m : Int, v = .int m ∧ 1 ≤ m ∧ m ≤ 1000000 := by
          simp only [List.mem_cons, List.not_mem_nil, or_false] at hv
          rcases hv with rfl | rfl | rfl
          · exact ⟨_, rfl, by decide, by decide⟩
          · exact ⟨_, rfl, by decide, by decide⟩
          · exact ⟨_, rfl, by decide, by decide⟩
        refine ⟨a, c, _, m, rfl, hh4, by omega, by omega, by omega, fun d H4 d0 d1 hh5 b4 => ?_⟩
        exact ⟨_, _, rfl, rfl, p.next hh1 hD (by omega) (hh5.mono (by omega)) ((b2.trans b3).trans b4) ⟨by omega, by omega⟩⟩
      · obtain ⟨k, m, u, v, e, ⟨i1, i2, i3, i4⟩, hh2, bb⟩ := p.four
        exact q D k m u v H' ⟨i1, i2, i3, i4⟩ e (hh1.neA hD) (hh2.mono (by omega)) (b1.trans bb)
end
end Q

namespace Q
open PySem PySem.Spec PyProof.Rows L2
section
variable {P : Program} {w : World} {K : PySem.W.Frag} {mg : Str → Option Value} {base : Heap}
/-! ### the mathematics of proportions by a power -/
theorem isby_swap (a b c d p : Int) : isby b a d c p = isby a b c d p := by
  unfold isby wsum sum0
  by_cases h0 : p = 0
  · rw [if_pos h0, if_pos h0]
    exact decide_eq_decide.mpr ⟨Eq.symm, Eq.symm⟩
  · rw [if_neg h0, if_neg h0]
    apply decide_eq_decide.mpr
    by_cases h1 : p < 0
    · rw [if_pos h1, if_pos h1, show a * d * c = a * c * d by ac_rfl, show b * d * c = b * c * d by ac_rfl, show b * a * c = a * b * c by ac_rfl, show b * a * d = a * b * d by ac_rfl]
      omega
    · rw [if_neg h1, if_neg h1]
      omega
theorem isby_turn (a b c d p : Int) : isby c d a b p = isby a b c d p := by
  unfold isby wsum sum0
  by_cases h0 : p = 0
  · rw [if_pos h0, if_pos h0, show c * b = b * c by ac_rfl, show d * a = a * d by ac_rfl]
    exact decide_eq_decide.mpr ⟨Eq.symm, Eq.symm⟩
  · rw [if_neg h0, if_neg h0]
    apply decide_eq_decide.mpr
    by_cases h1 : p < 0
    · rw [if_pos h1, if_pos h1, show d * a * b = a * b * d by ac_rfl, show c * a * b = a * b * c by ac_rfl, show c * d * b = b * c * d by ac_rfl, show c * d * a = a * c * d by ac_rfl]
      omega
    · rw [if_neg h1, if_neg h1]
      omega
theorem isby_mid (a b c d p : Int) : isby a c b d p = isby a b c d p := by
  unfold isby wsum sum0
  by_cases h0 : p = 0
  · rw [if_pos h0, if_pos h0, show c * b = b * c by ac_rfl]
  · rw [if_neg h0, if_neg h0]
    apply decide_eq_decide.mpr
    by_cases h1 : p < 0
    · rw [if_pos h1, if_pos h1, show c * b * d = b * c * d by ac_rfl, show a * c * b = a * b * c by ac_rfl]
      omega
    · rw [if_neg h1, if_neg h1]
      omega
theorem isby_one (a b c d : Int) : isby a b c d 1 = decide (a + d = b + c) := by
  unfold isby wsum sum0
  rw [if_neg (by decide), if_neg (by decide)]
  apply decide_eq_decide.mpr
  show a ^ 1 + d ^ 1 - b ^ 1 - c ^ 1 = 0 ↔ _
  rw [Int.pow_succ, Int.pow_succ, Int.pow_succ, Int.pow_succ, Int.pow_zero, Int.pow_zero, Int.pow_zero, Int.pow_zero]
  omega
theorem isby_zero (a b c d : Int) : isby a b c d 0 = decide (a * d = b * c) := by
  unfold isby
  rw [if_pos rfl]
theorem isby_self (a b p : Int) : isby a b a b p = true := by
  unfold isby wsum sum0
  by_cases h0 : p = 0
  · rw [if_pos h0]
    exact decide_eq_true (by ac_rfl)
  · rw [if_neg h0]
    apply decide_eq_true
    by_cases h1 : p < 0
    · rw [if_pos h1, show b * a * b = a * b * b by ac_rfl, show a * a * b = a * b * a by ac_rfl]
      omega
    · rw [if_neg h1]
      omega
theorem sgn_zero (a b c d : Int) : sgn (wsum a b c d 0) = 0 := by
  unfold wsum sum0
  rw [if_neg (by decide)]
  show sgn (a ^ 0 + d ^ 0 - b ^ 0 - c ^ 0) = 0
  rw [Int.pow_zero, Int.pow_zero, Int.pow_zero, Int.pow_zero]
  decide
theorem Fine.of {x1 x2 x3 x4 p : Int} (h : Ok4 x1 x2 x3 x4) (hp : -80 ≤ p ∧ p ≤ 80) : Fine x1 x2 x3 x4 p := ⟨h.1, h.2.1, h.2.2.1, h.2.2.2, hp⟩
theorem Fine.ok {x1 x2 x3 x4 p : Int} (h : Fine x1 x2 x3 x4 p) : Ok4 x1 x2 x3 x4 := ⟨h.a, h.b, h.c, h.d⟩
def spTurned : Sp := fun vs H Q _ => ∃ (a b c d p : Int) (t : Bool), vs = [.int a, .int b, .int c, .int d, .int p, .bl t] ∧ Fine a b c d p ∧ isby a b c d p = t ∧ ∀ H', Same H H' → Q (.bl true) H'
def Turn (K : PySem.W.Frag) (H : Hp) (p : Int) (t : Bool) (v : V) : Prop := ∃ (l : Addr) (a b c d : Int), v = .ref l ∧ SqT K H l (L4 a b c d) ∧ Fine a b c d p ∧ isby a b c d p = t
theorem ok__law_turned_right (T : Txt K mg) : FnOk P w K mg base CX0 6 T.f__law_turned_right.a T.f__law_turned_right.fd ["_law_a", "_law_b", "_law_c", "_law_d", "_law_power", "_law_told"] spTurned := by
  have G_is_by := ok_is_by (P := P) (w := w) (base := base) T
  refine T.f__law_turned_right.F.ok sc__law_turned_right (fun vs H Q E h => ?_) (fun cdv A outer s H vs Q E hr h => ?_)
  · obtain ⟨a, b, c, d, p, t, rfl, _⟩ := h
    rfl
  · obtain ⟨a, b, c, d, p, t, rfl, F, ht, q⟩ := h
    refine ⟨_, (pss_cons (ps_for PassesOwn.never rfl (pi_tup (pe_tup (pa_cons (pe_tup (pa_cons (pv 0) (pa_cons (pv 1) (pa_cons (pv 2) (pa_cons (pv 3) pa_nil))))) (pa_cons (pe_tup (pa_cons (pv 1) (pa_cons (pv 0) (pa_cons (pv 3) (pa_cons (pv 2) pa_nil))))) (pa_cons (pe_tup (pa_cons (pv 2) (pa_cons (pv 3) (pa_cons (pv 0) (pa_cons (pv 1) pa_nil))))) (pa_cons (pe_tup (pa_cons (pv 3) (pa_cons (pv 2) (pa_cons (pv 1) (pa_cons (pv 0) pa_nil))))) pa_nil)))))) (pg_tup rfl (pgs_cons (pg_name (i := 6) sc__law_turned_right.nd rfl (Or.inl rfl)) (pgs_cons (pg_name (i := 7) sc__law_turned_right.nd rfl (Or.inl rfl)) (pgs_cons (pg_name (i := 8) sc__law_turned_right.nd rfl (Or.inl rfl)) (pgs_cons (pg_name (i := 9) sc__law_turned_right.nd rfl (Or.inl rfl)) pgs_nil))))) (pss_one (ps_if (PW.pt (pw_or (pt_cmpR op_ne (pe_call G_is_by (hr.mono (by decide)) (by rfl) T.f_is_by.g T.f_is_by.F.kp T.f_is_by.b .nil pass0 (pa_cons (pv 6) (pa_cons (pv 7) (pa_cons (pv 8) (pa_cons (pv 9) (pa_cons (pv 4) pa_nil)))))) (pv 5) (nomark _)) (pw_or1 (pt_cmpR op_ne (pe_call G_is_by (hr.mono (by decide)) (by rfl) T.f_is_by.g T.f_is_by.F.kp T.f_is_by.b .nil pass0 (pa_cons (pv 6) (pa_cons (pv 8) (pa_cons (pv 7) (pa_cons (pv 9) (pa_cons (pv 4) pa_nil)))))) (pv 5) (nomark _))))) (pss_one (ps_ret pe_bl)) pss_nil))) (pss_one (ps_ret pe_bl))), ?_⟩
    refine ⟨_, rfl, _, rfl, _, rfl, _, rfl, sz4, fun t1 h1 => ⟨_, rfl, _, rfl, _, rfl, _, rfl, sz4, fun t2 h2 => ⟨_, rfl, _, rfl, _, rfl, _, rfl, sz4, fun t3 h3 => ⟨_, rfl, _, rfl, _, rfl, _, rfl, sz4, fun t4 h4 => ⟨sz4, fun l h5 => ?_⟩⟩⟩⟩⟩
    have s1 := same_upd (o := .tup (L4 a b c d)) h1
    have s2 := same_upd (o := .tup (L4 b a d c)) h2
    have s3 := same_upd (o := .tup (L4 c d a b)) h3
    have s4 := same_upd (o := .tup (L4 d c b a)) h4
    have s5 := same_upd (o := .tup [.ref t1, .ref t2, .ref t3, .ref t4]) h5
    have sm := s1.trans (s2.trans (s3.trans (s4.trans s5)))
    have hx : ∀ x ∈ [V.ref t1, .ref t2, .ref t3, .ref t4], Turn K _ p t x := fun x hx => by
      simp only [List.mem_cons, List.not_mem_nil, or_false] at hx
      rcases hx with rfl | rfl | rfl | rfl
      · exact ⟨_, _, _, _, _, rfl, .of (s5 _ _ (s4 _ _ (s3 _ _ (s2 _ _ upd_same)))), F, ht⟩
      · exact ⟨_, _, _, _, _, rfl, .of (s5 _ _ (s4 _ _ (s3 _ _ upd_same))), ⟨F.b, F.a, F.d, F.c, F.p⟩, (isby_swap a b c d p).trans ht⟩
      · exact ⟨_, _, _, _, _, rfl, .of (s5 _ _ (s4 _ _ upd_same)), ⟨F.c, F.d, F.a, F.b, F.p⟩, (isby_turn a b c d p).trans ht⟩
      · exact ⟨_, _, _, _, _, rfl, .of (s5 _ _ upd_same), ⟨F.d, F.c, F.b, F.a, F.p⟩, ((isby_swap c d a b p).trans (isby_turn a b c d p)).trans ht⟩
    have hT : SqT K (upd (upd (upd (upd (upd H t1 (.tup (L4 a b c d))) t2 (.tup (L4 b a d c))) t3 (.tup (L4 c d a b))) t4 (.tup (L4 d c b a))) l (.tup [.ref t1, .ref t2, .ref t3, .ref t4])) l [.ref t1, .ref t2, .ref t3, .ref t4] := .of upd_same
    refine ⟨l, rfl, ⟨_, hT⟩, for_tup (K := K) (a := l) (xs := [.ref t1, .ref t2, .ref t3, .ref t4]) (fun i σ H' => Same (upd (upd (upd (upd (upd H t1 (.tup (L4 a b c d))) t2 (.tup (L4 b a d c))) t3 (.tup (L4 c d a b))) t4 (.tup (L4 d c b a))) l (.tup [.ref t1, .ref t2, .ref t3, .ref t4])) H' ∧
      ∃ y1 y2 y3 y4, σ = [some (.int a), some (.int b), some (.int c), some (.int d), some (.int p), some (.bl t), y1, y2, y3, y4]) ⟨Same.refl _, none, none, none, none, rfl⟩ (fun i σ H' _ z => Same.seqT z.1 hT) ?_ ?_⟩
    · rintro i x σ H' hi ⟨sx, y1, y2, y3, y4, rfl⟩
      obtain ⟨u, a', b', c', d', rfl, hu, F', ht'⟩ := hx x (List.mem_of_getElem? hi)
      refine ⟨u, _, rfl, Same.seqT sx hu, rfl, _, _, rfl, _, _, rfl, _, _, rfl, _, _, rfl, rfl, ?_⟩
      refine ⟨_, rfl, _, rfl, _, rfl, _, rfl, _, rfl, a', b', c', d', p, rfl, F', fun H2 z2 => ?_⟩
      refine ⟨_, rfl, rfl, _, rfl, iteNS (congrArg V.bl ht') ?_⟩
      refine ⟨_, rfl, _, rfl, _, rfl, _, rfl, _, rfl, a', c', b', d', p, rfl, ⟨F'.a, F'.c, F'.b, F'.d, F'.p⟩, fun H3 z3 => ?_⟩
      refine ⟨_, rfl, rfl, _, rfl, iteNS (congrArg V.bl ((isby_mid a' b' c' d' p).trans ht')) ?_⟩
      exact ⟨sx.trans (z2.trans z3), _, _, _, _, rfl⟩
    · rintro σ H' ⟨sx, _⟩
      exact q H' (sm.trans sx)
/-- a pair that goes on: e to f as a to b by the power p -/
structure Goes (a b c d p e f : Int) : Prop where
  hp : -80 ≤ p ∧ p ≤ 80
  he : 1 ≤ e
  hf : 1 ≤ f
  one : isby a b e f p = true
  two : isby e f a b p = true
  same : isby c d e f p = isby a b c d p
theorem goes_one {a b c d : Int} (h : Ok4 a b c d) : Goes a b c d 1 (a + d) (b + d) := by
  obtain ⟨h1, h2, h3, h4⟩ := h
  unfold In at *
  refine ⟨by decide, by omega, by omega, ?_, ?_, ?_⟩
  · rw [isby_one]
    exact decide_eq_true (by omega)
  · rw [isby_one]
    exact decide_eq_true (by omega)
  · rw [isby_one, isby_one]
    exact decide_eq_decide.mpr (by omega)
theorem goes_zero {a b c d : Int} (h : Ok4 a b c d) : Goes a b c d 0 (a * (1 + c / 7)) (b * (1 + c / 7)) := by
  obtain ⟨h1, h2, h3, h4⟩ := h
  unfold In at *
  have ht : 1 ≤ 1 + c / 7 := by omega
  generalize 1 + c / 7 = t at ht
  refine ⟨by decide, ?_, ?_, ?_, ?_, ?_⟩
  · have : 0 < a * t := Int.mul_pos (by omega) (by omega)
    omega
  · have : 0 < b * t := Int.mul_pos (by omega) (by omega)
    omega
  · rw [isby_zero]
    exact decide_eq_true (by ac_rfl)
  · rw [isby_zero]
    exact decide_eq_true (by ac_rfl)
  · rw [isby_zero, isby_zero, show c * (b * t) = b * c * t by ac_rfl, show d * (a * t) = a * d * t by ac_rfl]
    refine decide_eq_decide.mpr ⟨fun z => (Int.eq_of_mul_eq_mul_right (by omega) z).symm, fun z => by rw [z]⟩
theorem max_lim {e f : Int} (h : ¬ 1000000 < (if f > e then f else e)) : e ≤ 1000000 ∧ f ≤ 1000000 := by
  split at h <;> omega
def spChained : Sp := fun vs H Q _ => ∃ (h c : Addr) (n : Nat) (x1 x2 x3 x4 : Int), vs = [.ref h, .int x1, .int x2, .int x3, .int x4] ∧ Hat H h c n ∧ n ≤ 1000000 ∧ Ok4 x1 x2 x3 x4 ∧ ∀ H', Hat H' h c (n + 1) → Q (.bl true) H'
theorem ok__law_chained_right (T : Txt K mg) : FnOk P w K mg base CX0 6 T.f__law_chained_right.a T.f__law_chained_right.fd ["_law_hat_here", "_law_a", "_law_b", "_law_c", "_law_d"] spChained := by
  have G__law_lot := ok__law_lot (P := P) (w := w) (base := base) T
  have G_is_by := ok_is_by (P := P) (w := w) (base := base) T
  refine T.f__law_chained_right.F.ok sc__law_chained_right (fun vs H Q E h => ?_) (fun cdv A outer s H vs Q E hr h => ?_)
  · obtain ⟨h, c, n, a, b, c', d, rfl, _⟩ := h
    rfl
  · obtain ⟨h, cc, n, a, b, c, d, rfl, hh, hn, ok, q⟩ := h
    have okk := ok
    obtain ⟨i1, i2, i3, i4⟩ := id ok
    refine ⟨_, (pss_cons (ps_par3 (i := 5) (j := 6) (l := 7) rfl sc__law_chained_right.nd rfl rfl rfl (by decide) (by decide) (by decide) rfl rfl rfl (pa_cons pe_int (pa_cons (pe_op op_add (pv 1) (pv 4)) (pa_cons (pe_op op_add (pv 2) (pv 4)) pa_nil))) rfl) (pss_cons (ps_if (pt_cmpR op_eq (pe_call G__law_lot (hr.mono (by decide)) (by rfl) T.f__law_lot.g T.f__law_lot.F.kp T.f__law_lot.b .nil pass0 (pa_cons (pv 0) (pa_cons pe_int pa_nil))) pe_int (nomark _)) (pss_one (ps_par3 (i := 5) (j := 6) (l := 7) rfl sc__law_chained_right.nd rfl rfl rfl (by decide) (by decide) (by decide) rfl rfl rfl (pa_cons pe_int (pa_cons (pe_op op_mul (pv 1) (pe_op op_add pe_int (pe_op op_fdiv (pv 3) pe_int))) (pa_cons (pe_op op_mul (pv 2) (pe_op op_add pe_int (pe_op op_fdiv (pv 3) pe_int))) pa_nil))) rfl)) pss_nil) (pss_cons (ps_if (pt_cmpR op_gt (pe_callB (call_max2 rfl) (by rfl) T.n_max (by decide +kernel) (pa_cons (pv 6) (pa_cons (pv 7) pa_nil))) pe_int (nomark _)) (pss_one (ps_ret pe_bl)) pss_nil) (pss_cons (ps_if (PW.pt (pw_or (pt_not (pt_val (pe_call G_is_by (hr.mono (by decide)) (by rfl) T.f_is_by.g T.f_is_by.F.kp T.f_is_by.b .nil pass0 (pa_cons (pv 1) (pa_cons (pv 2) (pa_cons (pv 6) (pa_cons (pv 7) (pa_cons (pv 5) pa_nil)))))))) (pw_or1 (pt_not (pt_val (pe_call G_is_by (hr.mono (by decide)) (by rfl) T.f_is_by.g T.f_is_by.F.kp T.f_is_by.b .nil pass0 (pa_cons (pv 6) (pa_cons (pv 7) (pa_cons (pv 1) (pa_cons (pv 2) (pa_cons (pv 5) pa_nil))))))))))) (pss_one (ps_ret pe_bl)) pss_nil) (pss_one (ps_ret (pe_cmpR op_eq (pe_call G_is_by (hr.mono (by decide)) (by rfl) T.f_is_by.g T.f_is_by.F.kp T.f_is_by.b .nil pass0 (pa_cons (pv 3) (pa_cons (pv 4) (pa_cons (pv 6) (pa_cons (pv 7) (pa_cons (pv 5) pa_nil)))))) (pe_call G_is_by (hr.mono (by decide)) (by rfl) T.f_is_by.g T.f_is_by.F.kp T.f_is_by.b .nil pass0 (pa_cons (pv 1) (pa_cons (pv 2) (pa_cons (pv 3) (pa_cons (pv 4) (pa_cons (pv 5) pa_nil)))))) (nomark _)))))))), ?_⟩
    refine ⟨_, rfl, _, rfl, _, _, rfl, rfl, _, rfl, _, rfl, _, _, rfl, rfl, _, _, _, rfl, ?_⟩
    refine ⟨_, rfl, h, cc, n, 2, rfl, hh, hn, by decide, by decide, fun d0 H1 _ _ hh1 b1 => ?_⟩
    have c7 : CDiv c 7 := ⟨by decide, by decide⟩
    have l1 := fun {x y : Int} (hx : In 1000000 x) => (.inl ⟨by have := hx.1; omega, by have := hx.2; omega⟩ : CMul x y)
    refine ⟨rfl, _, rfl, ite2 (fun _ => ?_) (fun _ => ?_)⟩
    · have G := goes_zero ok
      refine ⟨_, rfl, _, rfl, _, _, rfl, rfl, c7, _, _, rfl, rfl, _, _, rfl, rfl, l1 i1, ?_⟩
      refine ⟨_, rfl, _, rfl, _, _, rfl, rfl, c7, _, _, rfl, rfl, _, _, rfl, rfl, l1 i2, _, _, _, rfl, ?_⟩
      refine ⟨_, rfl, _, rfl, _, _, rfl, _, _, rfl, rfl, _, rfl, ite2 (fun e1 => ?_) (fun e1 => ?_)⟩
      · exact q _ hh1
      have e2 := fun z => e1 (decide_eq_true z)
      have lims := max_lim e2
      have F1 : Fine a b (a * (1 + c / 7)) (b * (1 + c / 7)) 0 := ⟨i1, i2, ⟨G.he, lims.1⟩, ⟨G.hf, lims.2⟩, G.hp⟩
      have F2 : Fine (a * (1 + c / 7)) (b * (1 + c / 7)) a b 0 := ⟨⟨G.he, lims.1⟩, ⟨G.hf, lims.2⟩, i1, i2, G.hp⟩
      have F3 : Fine c d (a * (1 + c / 7)) (b * (1 + c / 7)) 0 := ⟨i3, i4, ⟨G.he, lims.1⟩, ⟨G.hf, lims.2⟩, G.hp⟩
      refine ⟨_, rfl, _, rfl, _, rfl, _, rfl, _, rfl, a, b, _, _, _, rfl, F1, fun H2 s2 => ?_⟩
      refine ⟨true, congrArg V.bl G.one, iteF ?_⟩
      refine ⟨_, rfl, _, rfl, _, rfl, _, rfl, _, rfl, _, _, a, b, _, rfl, F2, fun H3 s3 => ?_⟩
      refine ⟨true, congrArg V.bl G.two, iteF ?_⟩
      refine ⟨_, rfl, _, rfl, _, rfl, _, rfl, _, rfl, c, d, _, _, _, rfl, F3, fun H4 s4 => ?_⟩
      refine ⟨_, rfl, _, rfl, _, rfl, _, rfl, _, rfl, a, b, c, d, _, rfl, Fine.of ok G.hp, fun H5 s5 => ?_⟩
      refine ⟨rfl, ?_⟩
      have e5 : decide (V.bl (isby c d (a * (1 + c / 7)) (b * (1 + c / 7)) 0) = V.bl (isby a b c d 0)) = true := decide_eq_true (congrArg V.bl G.same)
      have q5 := q H5 (hh1.same (s2.trans (s3.trans (s4.trans s5))))
      rw [← e5] at q5
      exact q5
    · have G := goes_one ok
      refine ⟨_, rfl, _, rfl, _, _, rfl, _, _, rfl, rfl, _, rfl, ite2 (fun e1 => ?_) (fun e1 => ?_)⟩
      · exact q _ hh1
      have e2 := fun z => e1 (decide_eq_true z)
      have lims := max_lim e2
      have F1 : Fine a b (a + d) (b + d) 1 := ⟨i1, i2, ⟨G.he, lims.1⟩, ⟨G.hf, lims.2⟩, G.hp⟩
      have F2 : Fine (a + d) (b + d) a b 1 := ⟨⟨G.he, lims.1⟩, ⟨G.hf, lims.2⟩, i1, i2, G.hp⟩
      have F3 : Fine c d (a + d) (b + d) 1 := ⟨i3, i4, ⟨G.he, lims.1⟩, ⟨G.hf, lims.2⟩, G.hp⟩
      refine ⟨_, rfl, _, rfl, _, rfl, _, rfl, _, rfl, a, b, _, _, _, rfl, F1, fun H2 s2 => ?_⟩
      refine ⟨true, congrArg V.bl G.one, iteF ?_⟩
      refine ⟨_, rfl, _, rfl, _, rfl, _, rfl, _, rfl, _, _, a, b, _, rfl, F2, fun H3 s3 => ?_⟩
      refine ⟨true, congrArg V.bl G.two, iteF ?_⟩
      refine ⟨_, rfl, _, rfl, _, rfl, _, rfl, _, rfl, c, d, _, _, _, rfl, F3, fun H4 s4 => ?_⟩
      refine ⟨_, rfl, _, rfl, _, rfl, _, rfl, _, rfl, a, b, c, d, _, rfl, Fine.of ok G.hp, fun H5 s5 => ?_⟩
      refine ⟨rfl, ?_⟩
      have e5 : decide (V.bl (isby c d (a + d) (b + d) 1) = V.bl (isby a b c d 1)) = true := decide_eq_true (congrArg V.bl G.same)
      have q5 := q H5 (hh1.same (s2.trans (s3.trans (s4.trans s5))))
      rw [← e5] at q5
      exact q5
/-! ### the law -/
def spLaw (K : PySem.W.Frag) : Sp := fun vs H Q _ => ∃ (a : Addr) (ns : List Int), vs = [.ref a] ∧ SqL K H a (ns.map V.int) ∧ ns.length ≤ 63 ∧ ∀ H', Q (.bl true) H'
theorem ok_law (T : Txt K mg) : FnOk P w K mg base CX0 7 T.f_law.a T.f_law.fd ["_law_script"] (spLaw K) := by
  have G__law_hat := ok__law_hat (P := P) (w := w) (base := base) T
  have G__law_four := ok__law_four (P := P) (w := w) (base := base) T
  have G__law_is_by := ok__law_is_by (P := P) (w := w) (base := base) T
  have G_is_by := ok_is_by (P := P) (w := w) (base := base) T
  have G__law_chained_right := ok__law_chained_right (P := P) (w := w) (base := base) T
  have G__law_lot := ok__law_lot (P := P) (w := w) (base := base) T
  have G__law_sign := ok__law_sign (P := P) (w := w) (base := base) T
  have G__law_turned_right := ok__law_turned_right (P := P) (w := w) (base := base) T
  have G__law_sum := ok__law_sum (P := P) (w := w) (base := base) T
  have G_sign_at := ok_sign_at (P := P) (w := w) (base := base) T
  refine T.f_law.F.ok sc_law (fun vs H Q E h => ?_) (fun cdv A outer s H vs Q E hr h => ?_)
  · obtain ⟨a, ns, rfl, _⟩ := h
    rfl
  · obtain ⟨a, ns, rfl, hS, hlen, q⟩ := h
    refine ⟨_, (pss_cons (ps_set (i := 1) sc_law.nd rfl (Or.inl rfl) (pe_call G__law_hat (hr.mono (by decide)) (by rfl) T.f__law_hat.g T.f__law_hat.F.kp T.f__law_hat.b .nil pass0 (pa_cons (pv 0) pa_nil))) (pss_cons (ps_for PassesOwn.never rfl (pi_range1 rfl T.n_range (pa_cons pe_int pa_nil)) (pg_name (i := 2) sc_law.nd rfl (Or.inl rfl)) (pss_cons (ps_asg (pe_call G__law_four (hr.mono (by decide)) (by rfl) T.f__law_four.g T.f__law_four.F.kp T.f__law_four.b .nil pass0 (pa_cons (pv 1) pa_nil)) (pg_lst rfl (pgs_cons (pg_name (i := 3) sc_law.nd rfl (Or.inl rfl)) (pgs_cons (pg_name (i := 4) sc_law.nd rfl (Or.inl rfl)) (pgs_cons (pg_name (i := 5) sc_law.nd rfl (Or.inl rfl)) (pgs_cons (pg_name (i := 6) sc_law.nd rfl (Or.inl rfl)) pgs_nil)))))) (pss_cons (ps_set (i := 7) sc_law.nd rfl (Or.inl rfl) (pe_ifExp (pt_cmpR op_eq (pe_call G__law_lot (hr.mono (by decide)) (by rfl) T.f__law_lot.g T.f__law_lot.F.kp T.f__law_lot.b .nil pass0 (pa_cons (pv 1) (pa_cons pe_int pa_nil))) pe_int (nomark _)) pe_int pe_int)) (pss_cons (ps_for PassesOwn.never rfl (pi_tup (pe_tup (pa_cons pe_int (pa_cons pe_int (pa_cons pe_int (pa_cons (pe_un un_neg pe_int) (pa_cons (pe_op op_sub (pe_call G__law_lot (hr.mono (by decide)) (by rfl) T.f__law_lot.g T.f__law_lot.F.kp T.f__law_lot.b .nil pass0 (pa_cons (pv 1) (pa_cons (pe_op op_add (pe_op op_mul pe_int (pv 7)) pe_int) pa_nil))) (pv 7)) pa_nil))))))) (pg_name (i := 8) sc_law.nd rfl (Or.inl rfl)) (pss_cons (ps_set (i := 9) sc_law.nd rfl (Or.inl rfl) (pe_call G__law_is_by (hr.mono (by decide)) (by rfl) T.f__law_is_by.g T.f__law_is_by.F.kp T.f__law_is_by.b .nil pass0 (pa_cons (pv 3) (pa_cons (pv 4) (pa_cons (pv 5) (pa_cons (pv 6) (pa_cons (pv 8) pa_nil))))))) (pss_cons (ps_set (i := 10) sc_law.nd rfl (Or.inl rfl) (pe_ifExp (pt_cmpR op_eq (pv 8) pe_int (nomark _)) pe_int (pe_call G__law_sign (hr.mono (by decide)) (by rfl) T.f__law_sign.g T.f__law_sign.F.kp T.f__law_sign.b .nil pass0 (pa_cons (pe_call G__law_sum (hr.mono (by decide)) (by rfl) T.f__law_sum.g T.f__law_sum.F.kp T.f__law_sum.b .nil pass0 (pa_cons (pv 3) (pa_cons (pv 4) (pa_cons (pv 5) (pa_cons (pv 6) (pa_cons (pv 8) pa_nil)))))) pa_nil)))) (pss_cons (ps_set (i := 11) sc_law.nd rfl (Or.inl rfl) (pe_call G_is_by (hr.mono (by decide)) (by rfl) T.f_is_by.g T.f_is_by.F.kp T.f_is_by.b .nil pass0 (pa_cons (pv 3) (pa_cons (pv 4) (pa_cons (pv 5) (pa_cons (pv 6) (pa_cons (pv 8) pa_nil))))))) (pss_cons (ps_if (PW.pt (pw_or (pt_not (pt_val (pe_callB call_isi (by rfl) T.n_isinstance (by decide +kernel) (pa_cons (pv 11) (pa_cons (pe_bltn (v := .ty "bool") (by rfl) T.n_bool (by decide +kernel) rfl) pa_nil))))) (pw_or (pt_cmpR op_ne (pv 11) (pv 9) (nomark _)) (pw_or1 (pt_cmpR op_ne (pe_call G_sign_at (hr.mono (by decide)) (by rfl) T.f_sign_at.g T.f_sign_at.F.kp T.f_sign_at.b .nil pass0 (pa_cons (pv 3) (pa_cons (pv 4) (pa_cons (pv 5) (pa_cons (pv 6) (pa_cons (pv 8) pa_nil)))))) (pv 10) (nomark _)))))) (pss_one (ps_ret pe_bl)) pss_nil) (pss_one (ps_if (pt_not (pt_val (pe_call G__law_turned_right (hr.mono (by decide)) (by rfl) T.f__law_turned_right.g T.f__law_turned_right.F.kp T.f__law_turned_right.b .nil pass0 (pa_cons (pv 3) (pa_cons (pv 4) (pa_cons (pv 5) (pa_cons (pv 6) (pa_cons (pv 8) (pa_cons (pv 9) pa_nil))))))))) (pss_one (ps_ret pe_bl)) pss_nil))))))) (pss_cons (ps_if (PW.pt (pw_or (pt_cmpR op_ne (pe_call G_is_by (hr.mono (by decide)) (by rfl) T.f_is_by.g T.f_is_by.F.kp T.f_is_by.b .nil pass0 (pa_cons (pv 3) (pa_cons (pv 4) (pa_cons (pv 5) (pa_cons (pv 6) (pa_cons pe_int pa_nil)))))) (pe_cmpR op_eq (pe_op op_sub (pv 4) (pv 3)) (pe_op op_sub (pv 6) (pv 5)) (nomark _)) (nomark _)) (pw_or1 (pt_not (pt_val (pe_call G_is_by (hr.mono (by decide)) (by rfl) T.f_is_by.g T.f_is_by.F.kp T.f_is_by.b .nil pass0 (pa_cons (pv 3) (pa_cons (pv 4) (pa_cons (pv 3) (pa_cons (pv 4) (pa_cons (pe_op op_sub (pe_call G__law_lot (hr.mono (by decide)) (by rfl) T.f__law_lot.g T.f__law_lot.F.kp T.f__law_lot.b .nil pass0 (pa_cons (pv 1) (pa_cons pe_int pa_nil))) pe_int) pa_nil))))))))))) (pss_one (ps_ret pe_bl)) pss_nil) (pss_one (ps_if (pt_not (pt_val (pe_call G__law_chained_right (hr.mono (by decide)) (by rfl) T.f__law_chained_right.g T.f__law_chained_right.F.kp T.f__law_chained_right.b .nil pass0 (pa_cons (pv 1) (pa_cons (pv 3) (pa_cons (pv 4) (pa_cons (pv 5) (pa_cons (pv 6) pa_nil)))))))) (pss_one (ps_ret pe_bl)) pss_nil))))))) (pss_one (ps_ret pe_bl)))), ?_⟩
    refine ⟨_, rfl, a, ns, rfl, hS, hlen, fun h c H1 hh s1 => ?_⟩
    refine ⟨4, rfl, by decide, by decide, for_range (lo := 0) (n := 4) (fun i σ H' => Hat H' h c (40 * i) ∧ ∃ y2 y3 y4 y5 y6 y7 y8 y9 y10 y11, σ = [some (.ref a), some (.ref h), y2, y3, y4, y5, y6, y7, y8, y9, y10, y11]) ⟨hh, none, none, none, none, none, none, none, none, none, none, rfl⟩ ?_ ?_⟩
    · rintro i σ H2 hi ⟨hh2, y2, y3, y4, y5, y6, y7, y8, y9, y10, y11, rfl⟩
      refine ⟨_, rfl, h, c, _, rfl, hh2, by omega, fun l x1 x2 x3 x4 H3 ok e3 n3 hh3 b3 => ?_⟩
      refine ⟨l, _, rfl, .of e3, rfl, _, _, rfl, _, _, rfl, _, _, rfl, _, _, rfl, rfl, ?_⟩
      refine ⟨_, rfl, h, c, _, 4, rfl, hh3, by omega, by decide, by decide, fun d4 H4 _ _ hh4 b4 => ?_⟩
      refine ⟨rfl, _, rfl, ite2 (fun _ => ?_) (fun _ => ?_)⟩
      · have hw : (0 : Int) ≤ 80 ∧ (80 : Int) ≤ 80 := by decide
        refine ⟨_, rfl, _, rfl, _, rfl, _, _, rfl, rfl, .inl ⟨by decide, by decide⟩, _, _, rfl, rfl, h, c, _, _, rfl, hh4, by omega, by decide, by decide, fun d5 H5 p5 p5' hh5 b5 => ?_⟩
        refine ⟨_, rfl, _, _, rfl, rfl, sz5, fun t ht => ?_⟩
        have pw : -80 ≤ d5 - 80 ∧ d5 - 80 ≤ 80 := by
          have e : (2 : Int) * 80 + 1 = 161 := by decide
          have p6 : d5 < 161 := p5'
          omega
        have hT : SqT K (upd H5 t (.tup [.int 1, .int 0, .int 2, .int (-1), .int (d5 - 80)])) t [.int 1, .int 0, .int 2, .int (-1), .int (d5 - 80)] := .of upd_same
        have hh6 := hh5.upd (o := .tup [.int 1, .int 0, .int 2, .int (-1), .int (d5 - 80)]) (hh5.neA ht) (hh5.neC ht)
        refine ⟨t, rfl, ⟨_, hT⟩, for_tup (K := K) (a := t) (xs := [.int 1, .int 0, .int 2, .int (-1), .int (d5 - 80)]) (fun j σ H' => Same (upd H5 t (.tup [.int 1, .int 0, .int 2, .int (-1), .int (d5 - 80)])) H' ∧ ∃ z8 z9 z10 z11, σ = [some (.ref a), some (.ref h), some (.int (0 + (i : Int))), some (.int x1), some (.int x2), some (.int x3), some (.int x4), some (.int 80), z8, z9, z10, z11]) ⟨Same.refl _, _, _, _, _, rfl⟩ (fun j σ H' _ z => Same.seqT z.1 hT) ?_ ?_⟩
        · rintro j x σ H6 hj ⟨s6, z8, z9, z10, z11, rfl⟩
          obtain ⟨p, rfl, hp⟩ : ∃ p : Int, x = .int p ∧ -80 ≤ p ∧ p ≤ 80 := by
            have hx := List.mem_of_getElem? hj
            simp only [List.mem_cons, List.not_mem_nil, or_false] at hx
            rcases hx with rfl | rfl | rfl | rfl | rfl
            · exact ⟨_, rfl, by decide⟩
            · exact ⟨_, rfl, by decide⟩
            · exact ⟨_, rfl, by decide⟩
            · exact ⟨_, rfl, by decide⟩
            · exact ⟨_, rfl, pw⟩
          have F : Fine x1 x2 x3 x4 p := Fine.of ok hp
          refine ⟨_, rfl, _, rfl, _, rfl, _, rfl, _, rfl, x1, x2, x3, x4, p, rfl, F, fun H7 s7 => ?_⟩
          refine ⟨_, rfl, rfl, _, rfl, ite2 (fun e0 => ?_) (fun e0 => ?_)⟩
          · have hsv : sgn (wsum x1 x2 x3 x4 p) = 0 := by
              have hp0 : p = 0 := V.int.inj (of_decide_eq_true e0)
              rw [hp0]
              exact sgn_zero _ _ _ _
            have s8 := Same.refl H7
            refine ⟨_, rfl, _, rfl, _, rfl, _, rfl, _, rfl, x1, x2, x3, x4, p, rfl, F, fun H9 s9 => ?_⟩
            refine ⟨_, rfl, _, _, _, _, true, rfl, .ty _, .base (.bl _), kit_ty (by decide +kernel), true, rfl, iteF ?_⟩
            refine ⟨_, rfl, _, rfl, rfl, _, rfl, iteNS rfl ?_⟩
            refine ⟨_, rfl, _, rfl, _, rfl, _, rfl, _, rfl, x1, x2, x3, x4, p, rfl, F, fun H10 s10 => ?_⟩
            refine ⟨_, rfl, rfl, _, rfl, iteNS (congrArg V.int hsv) ?_⟩
            refine ⟨_, rfl, _, rfl, _, rfl, _, rfl, _, rfl, _, rfl, x1, x2, x3, x4, p, _, rfl, F, rfl, fun H11 s11 => ?_⟩
            exact ⟨true, rfl, iteF ⟨s6.trans (s7.trans (s8.trans (s9.trans (s10.trans s11)))), _, _, _, _, rfl⟩⟩
          · refine ⟨_, rfl, _, rfl, _, rfl, _, rfl, _, rfl, x1, x2, x3, x4, p, rfl, F, fun H8 s8 => ?_⟩
            refine ⟨_, rfl, ?_⟩
            have hsv : sgn (wsum x1 x2 x3 x4 p) = sgn (wsum x1 x2 x3 x4 p) := rfl
            refine ⟨_, rfl, _, rfl, _, rfl, _, rfl, _, rfl, x1, x2, x3, x4, p, rfl, F, fun H9 s9 => ?_⟩
            refine ⟨_, rfl, _, _, _, _, true, rfl, .ty _, .base (.bl _), kit_ty (by decide +kernel), true, rfl, iteF ?_⟩
            refine ⟨_, rfl, _, rfl, rfl, _, rfl, iteNS rfl ?_⟩
            refine ⟨_, rfl, _, rfl, _, rfl, _, rfl, _, rfl, x1, x2, x3, x4, p, rfl, F, fun H10 s10 => ?_⟩
            refine ⟨_, rfl, rfl, _, rfl, iteNS (congrArg V.int hsv) ?_⟩
            refine ⟨_, rfl, _, rfl, _, rfl, _, rfl, _, rfl, _, rfl, x1, x2, x3, x4, p, _, rfl, F, rfl, fun H11 s11 => ?_⟩
            exact ⟨true, rfl, iteF ⟨s6.trans (s7.trans (s8.trans (s9.trans (s10.trans s11)))), _, _, _, _, rfl⟩⟩
        · rintro σ H6 ⟨s6, z8, z9, z10, z11, rfl⟩
          have hh7 := hh6.same s6
          refine ⟨_, rfl, _, rfl, _, rfl, _, rfl, x1, x2, x3, x4, 1, rfl, Fine.of ok (by decide), fun H7 s7 => ?_⟩
          refine ⟨_, rfl, _, rfl, _, _, rfl, rfl, _, rfl, _, rfl, _, _, rfl, rfl, rfl, rfl, _, rfl, iteNS ?_ ?_⟩
          · rw [isby_one, dec_int]
            exact congrArg V.bl (decide_eq_decide.mpr (by omega))
          have hh8 := hh7.same s7
          refine ⟨_, rfl, _, rfl, _, rfl, _, rfl, _, rfl, h, c, _, 161, rfl, hh8, by omega, by decide, by decide, fun d9 H9 p9 p9' hh9 b9 => ?_⟩
          refine ⟨_, _, rfl, rfl, x1, x2, x1, x2, _, rfl, ⟨ok.1, ok.2.1, ok.1, ok.2.1, by omega, by omega⟩, fun H10 s10 => ?_⟩
          refine ⟨true, congrArg V.bl (isby_self _ _ _), iteF ?_⟩
          refine ⟨_, rfl, _, rfl, _, rfl, _, rfl, _, rfl, h, c, _, x1, x2, x3, x4, rfl, hh9.same s10, by omega, ok, fun H11 hh11 => ?_⟩
          exact ⟨true, rfl, iteF ⟨hh11.mono (by omega), _, _, _, _, _, _, _, _, _, _, rfl⟩⟩
      · have hw : (0 : Int) ≤ 9 ∧ (9 : Int) ≤ 80 := by decide
        refine ⟨_, rfl, _, rfl, _, rfl, _, _, rfl, rfl, .inl ⟨by decide, by decide⟩, _, _, rfl, rfl, h, c, _, _, rfl, hh4, by omega, by decide, by decide, fun d5 H5 p5 p5' hh5 b5 => ?_⟩
        refine ⟨_, rfl, _, _, rfl, rfl, sz5, fun t ht => ?_⟩
        have pw : -80 ≤ d5 - 9 ∧ d5 - 9 ≤ 80 := by
          have e : (2 : Int) * 9 + 1 = 19 := by decide
          have p6 : d5 < 19 := p5'
          omega
        have hT : SqT K (upd H5 t (.tup [.int 1, .int 0, .int 2, .int (-1), .int (d5 - 9)])) t [.int 1, .int 0, .int 2, .int (-1), .int (d5 - 9)] := .of upd_same
        have hh6 := hh5.upd (o := .tup [.int 1, .int 0, .int 2, .int (-1), .int (d5 - 9)]) (hh5.neA ht) (hh5.neC ht)
        refine ⟨t, rfl, ⟨_, hT⟩, for_tup (K := K) (a := t) (xs := [.int 1, .int 0, .int 2, .int (-1), .int (d5 - 9)]) (fun j σ H' => Same (upd H5 t (.tup [.int 1, .int 0, .int 2, .int (-1), .int (d5 - 9)])) H' ∧ ∃ z8 z9 z10 z11, σ = [some (.ref a), some (.ref h), some (.int (0 + (i : Int))), some (.int x1), some (.int x2), some (.int x3), some (.int x4), some (.int 9), z8, z9, z10, z11]) ⟨Same.refl _, _, _, _, _, rfl⟩ (fun j σ H' _ z => Same.seqT z.1 hT) ?_ ?_⟩
        · rintro j x σ H6 hj ⟨s6, z8, z9, z10, z11, rfl⟩
          obtain ⟨p, rfl, hp⟩ : ∃ p : Int, x = .int p ∧ -80 ≤ p ∧ p ≤ 80 := by
            have hx := List.mem_of_getElem? hj
            simp only [List.mem_cons, List.not_mem_nil, or_false] at hx
            rcases hx with rfl | rfl | rfl | rfl | rfl
            · exact ⟨_, rfl, by decide⟩
            · exact ⟨_, rfl, by decide⟩
            · exact ⟨_, rfl, by decide⟩
            · exact ⟨_, rfl, by decide⟩
            · exact ⟨_, rfl, pw⟩
          have F : Fine x1 x2 x3 x4 p := Fine.of ok hp
          refine ⟨_, rfl, _, rfl, _, rfl, _, rfl, _, rfl, x1, x2, x3, x4, p, rfl, F, fun H7 s7 => ?_⟩
          refine ⟨_, rfl, rfl, _, rfl, ite2 (fun e0 => ?_) (fun e0 => ?_)⟩
          · have hsv : sgn (wsum x1 x2 x3 x4 p) = 0 := by
              have hp0 : p = 0 := V.int.inj (of_decide_eq_true e0)
              rw [hp0]
              exact sgn_zero _ _ _ _
            have s8 := Same.refl H7
            refine ⟨_, rfl, _, rfl, _, rfl, _, rfl, _, rfl, x1, x2, x3, x4, p, rfl, F, fun H9 s9 => ?_⟩
            refine ⟨_, rfl, _, _, _, _, true, rfl, .ty _, .base (.bl _), kit_ty (by decide +kernel), true, rfl, iteF ?_⟩
            refine ⟨_, rfl, _, rfl, rfl, _, rfl, iteNS rfl ?_⟩
            refine ⟨_, rfl, _, rfl, _, rfl, _, rfl, _, rfl, x1, x2, x3, x4, p, rfl, F, fun H10 s10 => ?_⟩
            refine ⟨_, rfl, rfl, _, rfl, iteNS (congrArg V.int hsv) ?_⟩
            refine ⟨_, rfl, _, rfl, _, rfl, _, rfl, _, rfl, _, rfl, x1, x2, x3, x4, p, _, rfl, F, rfl, fun H11 s11 => ?_⟩
            exact ⟨true, rfl, iteF ⟨s6.trans (s7.trans (s8.trans (s9.trans (s10.trans s11)))), _, _, _, _, rfl⟩⟩
          · refine ⟨_, rfl, _, rfl, _, rfl, _, rfl, _, rfl, x1, x2, x3, x4, p, rfl, F, fun H8 s8 => ?_⟩
            refine ⟨_, rfl, ?_⟩
            have hsv : sgn (wsum x1 x2 x3 x4 p) = sgn (wsum x1 x2 x3 x4 p) := rfl
            refine ⟨_, rfl, _, rfl, _, rfl, _, rfl, _, rfl, x1, x2, x3, x4, p, rfl, F, fun H9 s9 => ?_⟩
            refine ⟨_, rfl, _, _, _, _, true, rfl, .ty _, .base (.bl _), kit_ty (by decide +kernel), true, rfl, iteF ?_⟩
            refine ⟨_, rfl, _, rfl, rfl, _, rfl, iteNS rfl ?_⟩
            refine ⟨_, rfl, _, rfl, _, rfl, _, rfl, _, rfl, x1, x2, x3, x4, p, rfl, F, fun H10 s10 => ?_⟩
            refine ⟨_, rfl, rfl, _, rfl, iteNS (congrArg V.int hsv) ?_⟩
            refine ⟨_, rfl, _, rfl, _, rfl, _, rfl, _, rfl, _, rfl, x1, x2, x3, x4, p, _, rfl, F, rfl, fun H11 s11 => ?_⟩
            exact ⟨true, rfl, iteF ⟨s6.trans (s7.trans (s8.trans (s9.trans (s10.trans s11)))), _, _, _, _, rfl⟩⟩
        · rintro σ H6 ⟨s6, z8, z9, z10, z11, rfl⟩
          have hh7 := hh6.same s6
          refine ⟨_, rfl, _, rfl, _, rfl, _, rfl, x1, x2, x3, x4, 1, rfl, Fine.of ok (by decide), fun H7 s7 => ?_⟩
          refine ⟨_, rfl, _, rfl, _, _, rfl, rfl, _, rfl, _, rfl, _, _, rfl, rfl, rfl, rfl, _, rfl, iteNS ?_ ?_⟩
          · rw [isby_one, dec_int]
            exact congrArg V.bl (decide_eq_decide.mpr (by omega))
          have hh8 := hh7.same s7
          refine ⟨_, rfl, _, rfl, _, rfl, _, rfl, _, rfl, h, c, _, 161, rfl, hh8, by omega, by decide, by decide, fun d9 H9 p9 p9' hh9 b9 => ?_⟩
          refine ⟨_, _, rfl, rfl, x1, x2, x1, x2, _, rfl, ⟨ok.1, ok.2.1, ok.1, ok.2.1, by omega, by omega⟩, fun H10 s10 => ?_⟩
          refine ⟨true, congrArg V.bl (isby_self _ _ _), iteF ?_⟩
          refine ⟨_, rfl, _, rfl, _, rfl, _, rfl, _, rfl, h, c, _, x1, x2, x3, x4, rfl, hh9.same s10, by omega, ok, fun H11 hh11 => ?_⟩
          exact ⟨true, rfl, iteF ⟨hh11.mono (by omega), _, _, _, _, _, _, _, _, _, _, rfl⟩⟩
    · rintro σ H2 _
      exact q H2
end
end Q

namespace Q
open PySem PySem.Spec PyProof.Rows L2
def mk_txt {K : PySem.W.Frag} {h : Heap} {mg : Str → Option Value} (X : K.In h) (G : h.Ns mainGlobals mg)
    {a_is_integer : Addr} {od_is_integer an_is_integer : Option Addr} {sl_is_integer : Array (Option Value)} {oc_is_integer kV_is_integer dc_is_integer pm_is_integer cd_is_integer ct_is_integer : Value}
    (h1_is_integer : PySem.W.nsIn K mainGlobals "is_integer" = some (some (.ref a_is_integer)))
    (h2_is_integer : K.lookup a_is_integer = some ⟨oc_is_integer, od_is_integer, .func (PySem.W.fnOf "is_integer" "is_integer" (defArgs s_is_integer) (defBody s_is_integer) (defScope s_is_integer) .none kV_is_integer dc_is_integer pm_is_integer an_is_integer cd_is_integer ct_is_integer), sl_is_integer⟩)
    (h3_is_integer : PySem.W.codeIn K cd_is_integer "is_integer" = true)
    (h4_is_integer : PySem.W.keepIn K (.ref a_is_integer) = true)
    {a_is_within : Addr} {od_is_within an_is_within : Option Addr} {sl_is_within : Array (Option Value)} {oc_is_within kV_is_within dc_is_within pm_is_within cd_is_within ct_is_within : Value}
    (h1_is_within : PySem.W.nsIn K mainGlobals "is_within" = some (some (.ref a_is_within)))
    (h2_is_within : K.lookup a_is_within = some ⟨oc_is_within, od_is_within, .func (PySem.W.fnOf "is_within" "is_within" (defArgs s_is_within) (defBody s_is_within) (defScope s_is_within) .none kV_is_within dc_is_within pm_is_within an_is_within cd_is_within ct_is_within), sl_is_within⟩)
    (h3_is_within : PySem.W.codeIn K cd_is_within "is_within" = true)
    (h4_is_within : PySem.W.keepIn K (.ref a_is_within) = true)
    {a_need_within : Addr} {od_need_within an_need_within : Option Addr} {sl_need_within : Array (Option Value)} {oc_need_within kV_need_within dc_need_within pm_need_within cd_need_within ct_need_within : Value}
    (h1_need_within : PySem.W.nsIn K mainGlobals "need_within" = some (some (.ref a_need_within)))
    (h2_need_within : K.lookup a_need_within = some ⟨oc_need_within, od_need_within, .func (PySem.W.fnOf "need_within" "need_within" (defArgs s_need_within) (defBody s_need_within) (defScope s_need_within) .none kV_need_within dc_need_within pm_need_within an_need_within cd_need_within ct_need_within), sl_need_within⟩)
    (h3_need_within : PySem.W.codeIn K cd_need_within "need_within" = true)
    (h4_need_within : PySem.W.keepIn K (.ref a_need_within) = true)
    {a_need_numbers : Addr} {od_need_numbers an_need_numbers : Option Addr} {sl_need_numbers : Array (Option Value)} {oc_need_numbers kV_need_numbers dc_need_numbers pm_need_numbers cd_need_numbers ct_need_numbers : Value}
    (h1_need_numbers : PySem.W.nsIn K mainGlobals "need_numbers" = some (some (.ref a_need_numbers)))
    (h2_need_numbers : K.lookup a_need_numbers = some ⟨oc_need_numbers, od_need_numbers, .func (PySem.W.fnOf "need_numbers" "need_numbers" (defArgs s_need_numbers) (defBody s_need_numbers) (defScope s_need_numbers) .none kV_need_numbers dc_need_numbers pm_need_numbers an_need_numbers cd_need_numbers ct_need_numbers), sl_need_numbers⟩)
    (h3_need_numbers : PySem.W.codeIn K cd_need_numbers "need_numbers" = true)
    (h4_need_numbers : PySem.W.keepIn K (.ref a_need_numbers) = true)
    {a_need_power : Addr} {od_need_power an_need_power : Option Addr} {sl_need_power : Array (Option Value)} {oc_need_power kV_need_power dc_need_power pm_need_power cd_need_power ct_need_power : Value}
    (h1_need_power : PySem.W.nsIn K mainGlobals "need_power" = some (some (.ref a_need_power)))
    (h2_need_power : K.lookup a_need_power = some ⟨oc_need_power, od_need_power, .func (PySem.W.fnOf "need_power" "need_power" (defArgs s_need_power) (defBody s_need_power) (defScope s_need_power) .none kV_need_power dc_need_power pm_need_power an_need_power cd_need_power ct_need_power), sl_need_power⟩)
    (h3_need_power : PySem.W.codeIn K cd_need_power "need_power" = true)
    (h4_need_power : PySem.W.keepIn K (.ref a_need_power) = true)
    {a_raised : Addr} {od_raised an_raised : Option Addr} {sl_raised : Array (Option Value)} {oc_raised kV_raised dc_raised pm_raised cd_raised ct_raised : Value}
    (h1_raised : PySem.W.nsIn K mainGlobals "raised" = some (some (.ref a_raised)))
    (h2_raised : K.lookup a_raised = some ⟨oc_raised, od_raised, .func (PySem.W.fnOf "raised" "raised" (defArgs s_raised) (defBody s_raised) (defScope s_raised) .none kV_raised dc_raised pm_raised an_raised cd_raised ct_raised), sl_raised⟩)
    (h3_raised : PySem.W.codeIn K cd_raised "raised" = true)
    (h4_raised : PySem.W.keepIn K (.ref a_raised) = true)
    {a_whole_sum : Addr} {od_whole_sum an_whole_sum : Option Addr} {sl_whole_sum : Array (Option Value)} {oc_whole_sum kV_whole_sum dc_whole_sum pm_whole_sum cd_whole_sum ct_whole_sum : Value}
    (h1_whole_sum : PySem.W.nsIn K mainGlobals "whole_sum" = some (some (.ref a_whole_sum)))
    (h2_whole_sum : K.lookup a_whole_sum = some ⟨oc_whole_sum, od_whole_sum, .func (PySem.W.fnOf "whole_sum" "whole_sum" (defArgs s_whole_sum) (defBody s_whole_sum) (defScope s_whole_sum) .none kV_whole_sum dc_whole_sum pm_whole_sum an_whole_sum cd_whole_sum ct_whole_sum), sl_whole_sum⟩)
    (h3_whole_sum : PySem.W.codeIn K cd_whole_sum "whole_sum" = true)
    (h4_whole_sum : PySem.W.keepIn K (.ref a_whole_sum) = true)
    {a_is_by_power : Addr} {od_is_by_power an_is_by_power : Option Addr} {sl_is_by_power : Array (Option Value)} {oc_is_by_power kV_is_by_power dc_is_by_power pm_is_by_power cd_is_by_power ct_is_by_power : Value}
    (h1_is_by_power : PySem.W.nsIn K mainGlobals "is_by_power" = some (some (.ref a_is_by_power)))
    (h2_is_by_power : K.lookup a_is_by_power = some ⟨oc_is_by_power, od_is_by_power, .func (PySem.W.fnOf "is_by_power" "is_by_power" (defArgs s_is_by_power) (defBody s_is_by_power) (defScope s_is_by_power) .none kV_is_by_power dc_is_by_power pm_is_by_power an_is_by_power cd_is_by_power ct_is_by_power), sl_is_by_power⟩)
    (h3_is_by_power : PySem.W.codeIn K cd_is_by_power "is_by_power" = true)
    (h4_is_by_power : PySem.W.keepIn K (.ref a_is_by_power) = true)
    {a_sign_at : Addr} {od_sign_at an_sign_at : Option Addr} {sl_sign_at : Array (Option Value)} {oc_sign_at kV_sign_at dc_sign_at pm_sign_at cd_sign_at ct_sign_at : Value}
    (h1_sign_at : PySem.W.nsIn K mainGlobals "sign_at" = some (some (.ref a_sign_at)))
    (h2_sign_at : K.lookup a_sign_at = some ⟨oc_sign_at, od_sign_at, .func (PySem.W.fnOf "sign_at" "sign_at" (defArgs s_sign_at) (defBody s_sign_at) (defScope s_sign_at) .none kV_sign_at dc_sign_at pm_sign_at an_sign_at cd_sign_at ct_sign_at), sl_sign_at⟩)
    (h3_sign_at : PySem.W.codeIn K cd_sign_at "sign_at" = true)
    (h4_sign_at : PySem.W.keepIn K (.ref a_sign_at) = true)
    {a_is_by : Addr} {od_is_by an_is_by : Option Addr} {sl_is_by : Array (Option Value)} {oc_is_by kV_is_by dc_is_by pm_is_by cd_is_by ct_is_by : Value}
    (h1_is_by : PySem.W.nsIn K mainGlobals "is_by" = some (some (.ref a_is_by)))
    (h2_is_by : K.lookup a_is_by = some ⟨oc_is_by, od_is_by, .func (PySem.W.fnOf "is_by" "is_by" (defArgs s_is_by) (defBody s_is_by) (defScope s_is_by) .none kV_is_by dc_is_by pm_is_by an_is_by cd_is_by ct_is_by), sl_is_by⟩)
    (h3_is_by : PySem.W.codeIn K cd_is_by "is_by" = true)
    (h4_is_by : PySem.W.keepIn K (.ref a_is_by) = true)
    {a__law_hat : Addr} {od__law_hat an__law_hat : Option Addr} {sl__law_hat : Array (Option Value)} {oc__law_hat kV__law_hat dc__law_hat pm__law_hat cd__law_hat ct__law_hat : Value}
    (h1__law_hat : PySem.W.nsIn K mainGlobals "_law_hat" = some (some (.ref a__law_hat)))
    (h2__law_hat : K.lookup a__law_hat = some ⟨oc__law_hat, od__law_hat, .func (PySem.W.fnOf "_law_hat" "_law_hat" (defArgs s__law_hat) (defBody s__law_hat) (defScope s__law_hat) .none kV__law_hat dc__law_hat pm__law_hat an__law_hat cd__law_hat ct__law_hat), sl__law_hat⟩)
    (h3__law_hat : PySem.W.codeIn K cd__law_hat "_law_hat" = true)
    (h4__law_hat : PySem.W.keepIn K (.ref a__law_hat) = true)
    {a__law_lot : Addr} {od__law_lot an__law_lot : Option Addr} {sl__law_lot : Array (Option Value)} {oc__law_lot kV__law_lot dc__law_lot pm__law_lot cd__law_lot ct__law_lot : Value}
    (h1__law_lot : PySem.W.nsIn K mainGlobals "_law_lot" = some (some (.ref a__law_lot)))
    (h2__law_lot : K.lookup a__law_lot = some ⟨oc__law_lot, od__law_lot, .func (PySem.W.fnOf "_law_lot" "_law_lot" (defArgs s__law_lot) (defBody s__law_lot) (defScope s__law_lot) .none kV__law_lot dc__law_lot pm__law_lot an__law_lot cd__law_lot ct__law_lot), sl__law_lot⟩)
    (h3__law_lot : PySem.W.codeIn K cd__law_lot "_law_lot" = true)
    (h4__law_lot : PySem.W.keepIn K (.ref a__law_lot) = true)
    {a__law_one : Addr} {od__law_one an__law_one : Option Addr} {sl__law_one : Array (Option Value)} {oc__law_one kV__law_one dc__law_one pm__law_one cd__law_one ct__law_one : Value}
    (h1__law_one : PySem.W.nsIn K mainGlobals "_law_one" = some (some (.ref a__law_one)))
    (h2__law_one : K.lookup a__law_one = some ⟨oc__law_one, od__law_one, .func (PySem.W.fnOf "_law_one" "_law_one" (defArgs s__law_one) (defBody s__law_one) (defScope s__law_one) .none kV__law_one dc__law_one pm__law_one an__law_one cd__law_one ct__law_one), sl__law_one⟩)
    (h3__law_one : PySem.W.codeIn K cd__law_one "_law_one" = true)
    (h4__law_one : PySem.W.keepIn K (.ref a__law_one) = true)
    {a__law_raised : Addr} {od__law_raised an__law_raised : Option Addr} {sl__law_raised : Array (Option Value)} {oc__law_raised kV__law_raised dc__law_raised pm__law_raised cd__law_raised ct__law_raised : Value}
    (h1__law_raised : PySem.W.nsIn K mainGlobals "_law_raised" = some (some (.ref a__law_raised)))
    (h2__law_raised : K.lookup a__law_raised = some ⟨oc__law_raised, od__law_raised, .func (PySem.W.fnOf "_law_raised" "_law_raised" (defArgs s__law_raised) (defBody s__law_raised) (defScope s__law_raised) .none kV__law_raised dc__law_raised pm__law_raised an__law_raised cd__law_raised ct__law_raised), sl__law_raised⟩)
    (h3__law_raised : PySem.W.codeIn K cd__law_raised "_law_raised" = true)
    (h4__law_raised : PySem.W.keepIn K (.ref a__law_raised) = true)
    {a__law_sum : Addr} {od__law_sum an__law_sum : Option Addr} {sl__law_sum : Array (Option Value)} {oc__law_sum kV__law_sum dc__law_sum pm__law_sum cd__law_sum ct__law_sum : Value}
    (h1__law_sum : PySem.W.nsIn K mainGlobals "_law_sum" = some (some (.ref a__law_sum)))
    (h2__law_sum : K.lookup a__law_sum = some ⟨oc__law_sum, od__law_sum, .func (PySem.W.fnOf "_law_sum" "_law_sum" (defArgs s__law_sum) (defBody s__law_sum) (defScope s__law_sum) .none kV__law_sum dc__law_sum pm__law_sum an__law_sum cd__law_sum ct__law_sum), sl__law_sum⟩)
    (h3__law_sum : PySem.W.codeIn K cd__law_sum "_law_sum" = true)
    (h4__law_sum : PySem.W.keepIn K (.ref a__law_sum) = true)
    {a__law_sign : Addr} {od__law_sign an__law_sign : Option Addr} {sl__law_sign : Array (Option Value)} {oc__law_sign kV__law_sign dc__law_sign pm__law_sign cd__law_sign ct__law_sign : Value}
    (h1__law_sign : PySem.W.nsIn K mainGlobals "_law_sign" = some (some (.ref a__law_sign)))
    (h2__law_sign : K.lookup a__law_sign = some ⟨oc__law_sign, od__law_sign, .func (PySem.W.fnOf "_law_sign" "_law_sign" (defArgs s__law_sign) (defBody s__law_sign) (defScope s__law_sign) .none kV__law_sign dc__law_sign pm__law_sign an__law_sign cd__law_sign ct__law_sign), sl__law_sign⟩)
    (h3__law_sign : PySem.W.codeIn K cd__law_sign "_law_sign" = true)
    (h4__law_sign : PySem.W.keepIn K (.ref a__law_sign) = true)
    {a__law_is_by : Addr} {od__law_is_by an__law_is_by : Option Addr} {sl__law_is_by : Array (Option Value)} {oc__law_is_by kV__law_is_by dc__law_is_by pm__law_is_by cd__law_is_by ct__law_is_by : Value}
    (h1__law_is_by : PySem.W.nsIn K mainGlobals "_law_is_by" = some (some (.ref a__law_is_by)))
    (h2__law_is_by : K.lookup a__law_is_by = some ⟨oc__law_is_by, od__law_is_by, .func (PySem.W.fnOf "_law_is_by" "_law_is_by" (defArgs s__law_is_by) (defBody s__law_is_by) (defScope s__law_is_by) .none kV__law_is_by dc__law_is_by pm__law_is_by an__law_is_by cd__law_is_by ct__law_is_by), sl__law_is_by⟩)
    (h3__law_is_by : PySem.W.codeIn K cd__law_is_by "_law_is_by" = true)
    (h4__law_is_by : PySem.W.keepIn K (.ref a__law_is_by) = true)
    {a__law_steps : Addr} {od__law_steps an__law_steps : Option Addr} {sl__law_steps : Array (Option Value)} {oc__law_steps kV__law_steps dc__law_steps pm__law_steps cd__law_steps ct__law_steps : Value}
    (h1__law_steps : PySem.W.nsIn K mainGlobals "_law_steps" = some (some (.ref a__law_steps)))
    (h2__law_steps : K.lookup a__law_steps = some ⟨oc__law_steps, od__law_steps, .func (PySem.W.fnOf "_law_steps" "_law_steps" (defArgs s__law_steps) (defBody s__law_steps) (defScope s__law_steps) .none kV__law_steps dc__law_steps pm__law_steps an__law_steps cd__law_steps ct__law_steps), sl__law_steps⟩)
    (h3__law_steps : PySem.W.codeIn K cd__law_steps "_law_steps" = true)
    (h4__law_steps : PySem.W.keepIn K (.ref a__law_steps) = true)
    {a__law_squares : Addr} {od__law_squares an__law_squares : Option Addr} {sl__law_squares : Array (Option Value)} {oc__law_squares kV__law_squares dc__law_squares pm__law_squares cd__law_squares ct__law_squares : Value}
    (h1__law_squares : PySem.W.nsIn K mainGlobals "_law_squares" = some (some (.ref a__law_squares)))
    (h2__law_squares : K.lookup a__law_squares = some ⟨oc__law_squares, od__law_squares, .func (PySem.W.fnOf "_law_squares" "_law_squares" (defArgs s__law_squares) (defBody s__law_squares) (defScope s__law_squares) .none kV__law_squares dc__law_squares pm__law_squares an__law_squares cd__law_squares ct__law_squares), sl__law_squares⟩)
    (h3__law_squares : PySem.W.codeIn K cd__law_squares "_law_squares" = true)
    (h4__law_squares : PySem.W.keepIn K (.ref a__law_squares) = true)
    {a__law_four : Addr} {od__law_four an__law_four : Option Addr} {sl__law_four : Array (Option Value)} {oc__law_four kV__law_four dc__law_four pm__law_four cd__law_four ct__law_four : Value}
    (h1__law_four : PySem.W.nsIn K mainGlobals "_law_four" = some (some (.ref a__law_four)))
    (h2__law_four : K.lookup a__law_four = some ⟨oc__law_four, od__law_four, .func (PySem.W.fnOf "_law_four" "_law_four" (defArgs s__law_four) (defBody s__law_four) (defScope s__law_four) .none kV__law_four dc__law_four pm__law_four an__law_four cd__law_four ct__law_four), sl__law_four⟩)
    (h3__law_four : PySem.W.codeIn K cd__law_four "_law_four" = true)
    (h4__law_four : PySem.W.keepIn K (.ref a__law_four) = true)
    {a__law_turned_right : Addr} {od__law_turned_right an__law_turned_right : Option Addr} {sl__law_turned_right : Array (Option Value)} {oc__law_turned_right kV__law_turned_right dc__law_turned_right pm__law_turned_right cd__law_turned_right ct__law_turned_right : Value}
    (h1__law_turned_right : PySem.W.nsIn K mainGlobals "_law_turned_right" = some (some (.ref a__law_turned_right)))
    (h2__law_turned_right : K.lookup a__law_turned_right = some ⟨oc__law_turned_right, od__law_turned_right, .func (PySem.W.fnOf "_law_turned_right" "_law_turned_right" (defArgs s__law_turned_right) (defBody s__law_turned_right) (defScope s__law_turned_right) .none kV__law_turned_right dc__law_turned_right pm__law_turned_right an__law_turned_right cd__law_turned_right ct__law_turned_right), sl__law_turned_right⟩)
    (h3__law_turned_right : PySem.W.codeIn K cd__law_turned_right "_law_turned_right" = true)
    (h4__law_turned_right : PySem.W.keepIn K (.ref a__law_turned_right) = true)
    {a__law_chained_right : Addr} {od__law_chained_right an__law_chained_right : Option Addr} {sl__law_chained_right : Array (Option Value)} {oc__law_chained_right kV__law_chained_right dc__law_chained_right pm__law_chained_right cd__law_chained_right ct__law_chained_right : Value}
    (h1__law_chained_right : PySem.W.nsIn K mainGlobals "_law_chained_right" = some (some (.ref a__law_chained_right)))
    (h2__law_chained_right : K.lookup a__law_chained_right = some ⟨oc__law_chained_right, od__law_chained_right, .func (PySem.W.fnOf "_law_chained_right" "_law_chained_right" (defArgs s__law_chained_right) (defBody s__law_chained_right) (defScope s__law_chained_right) .none kV__law_chained_right dc__law_chained_right pm__law_chained_right an__law_chained_right cd__law_chained_right ct__law_chained_right), sl__law_chained_right⟩)
    (h3__law_chained_right : PySem.W.codeIn K cd__law_chained_right "_law_chained_right" = true)
    (h4__law_chained_right : PySem.W.keepIn K (.ref a__law_chained_right) = true)
    {a_law : Addr} {od_law an_law : Option Addr} {sl_law : Array (Option Value)} {oc_law kV_law dc_law pm_law cd_law ct_law : Value}
    (h1_law : PySem.W.nsIn K mainGlobals "law" = some (some (.ref a_law)))
    (h2_law : K.lookup a_law = some ⟨oc_law, od_law, .func (PySem.W.fnOf "law" "law" (defArgs s_law) (defBody s_law) (defScope s_law) .none kV_law dc_law pm_law an_law cd_law ct_law), sl_law⟩)
    (h3_law : PySem.W.codeIn K cd_law "law" = true)
    (h4_law : PySem.W.keepIn K (.ref a_law) = true)
    {t_LEAST_POWER : Tok} (z_LEAST_POWER : PySem.W.nsIn K mainGlobals "LEAST_POWER" = some (some (.int (-80) t_LEAST_POWER)))
    {t_MOST_POWER : Tok} (z_MOST_POWER : PySem.W.nsIn K mainGlobals "MOST_POWER" = some (some (.int (80) t_MOST_POWER)))
    {t_MOST_NUMBER : Tok} (z_MOST_NUMBER : PySem.W.nsIn K mainGlobals "MOST_NUMBER" = some (some (.int (1000000) t_MOST_NUMBER)))
    (z_abs : PySem.W.nsIn K mainGlobals "abs" = some none)
    (z_bool : PySem.W.nsIn K mainGlobals "bool" = some none)
    (z_int : PySem.W.nsIn K mainGlobals "int" = some none)
    (z_isinstance : PySem.W.nsIn K mainGlobals "isinstance" = some none)
    (z_len : PySem.W.nsIn K mainGlobals "len" = some none)
    (z_max : PySem.W.nsIn K mainGlobals "max" = some none)
    (z_range : PySem.W.nsIn K mainGlobals "range" = some none) : Txt K mg where
  f_is_integer := ⟨a_is_integer, _, fun_mk (st := s_is_integer) h2_is_integer h3_is_integer h4_is_integer, PySem.W.mg_of X G h1_is_integer, (fun_mk (st := s_is_integer) h2_is_integer h3_is_integer h4_is_integer).binds fun _ _ _ _ _ _ us hl => match us, hl with | [_], _ => rfl⟩
  f_is_within := ⟨a_is_within, _, fun_mk (st := s_is_within) h2_is_within h3_is_within h4_is_within, PySem.W.mg_of X G h1_is_within, (fun_mk (st := s_is_within) h2_is_within h3_is_within h4_is_within).binds fun _ _ _ _ _ _ us hl => match us, hl with | [_, _, _], _ => rfl⟩
  f_need_within := ⟨a_need_within, _, fun_mk (st := s_need_within) h2_need_within h3_need_within h4_need_within, PySem.W.mg_of X G h1_need_within, (fun_mk (st := s_need_within) h2_need_within h3_need_within h4_need_within).binds fun _ _ _ _ _ _ us hl => match us, hl with | [_, _, _, _], _ => rfl⟩
  f_need_numbers := ⟨a_need_numbers, _, fun_mk (st := s_need_numbers) h2_need_numbers h3_need_numbers h4_need_numbers, PySem.W.mg_of X G h1_need_numbers, (fun_mk (st := s_need_numbers) h2_need_numbers h3_need_numbers h4_need_numbers).binds fun _ _ _ _ _ _ us hl => match us, hl with | [_, _], _ => rfl⟩
  f_need_power := ⟨a_need_power, _, fun_mk (st := s_need_power) h2_need_power h3_need_power h4_need_power, PySem.W.mg_of X G h1_need_power, (fun_mk (st := s_need_power) h2_need_power h3_need_power h4_need_power).binds fun _ _ _ _ _ _ us hl => match us, hl with | [_], _ => rfl⟩
  f_raised := ⟨a_raised, _, fun_mk (st := s_raised) h2_raised h3_raised h4_raised, PySem.W.mg_of X G h1_raised, (fun_mk (st := s_raised) h2_raised h3_raised h4_raised).binds fun _ _ _ _ _ _ us hl => match us, hl with | [_, _], _ => rfl⟩
  f_whole_sum := ⟨a_whole_sum, _, fun_mk (st := s_whole_sum) h2_whole_sum h3_whole_sum h4_whole_sum, PySem.W.mg_of X G h1_whole_sum, (fun_mk (st := s_whole_sum) h2_whole_sum h3_whole_sum h4_whole_sum).binds fun _ _ _ _ _ _ us hl => match us, hl with | [_, _, _, _, _], _ => rfl⟩
  f_is_by_power := ⟨a_is_by_power, _, fun_mk (st := s_is_by_power) h2_is_by_power h3_is_by_power h4_is_by_power, PySem.W.mg_of X G h1_is_by_power, (fun_mk (st := s_is_by_power) h2_is_by_power h3_is_by_power h4_is_by_power).binds fun _ _ _ _ _ _ us hl => match us, hl with | [_, _, _, _, _], _ => rfl⟩
  f_sign_at := ⟨a_sign_at, _, fun_mk (st := s_sign_at) h2_sign_at h3_sign_at h4_sign_at, PySem.W.mg_of X G h1_sign_at, (fun_mk (st := s_sign_at) h2_sign_at h3_sign_at h4_sign_at).binds fun _ _ _ _ _ _ us hl => match us, hl with | [_, _, _, _, _], _ => rfl⟩
  f_is_by := ⟨a_is_by, _, fun_mk (st := s_is_by) h2_is_by h3_is_by h4_is_by, PySem.W.mg_of X G h1_is_by, (fun_mk (st := s_is_by) h2_is_by h3_is_by h4_is_by).binds fun _ _ _ _ _ _ us hl => match us, hl with | [_, _, _, _, _], _ => rfl⟩
  f__law_hat := ⟨a__law_hat, _, fun_mk (st := s__law_hat) h2__law_hat h3__law_hat h4__law_hat, PySem.W.mg_of X G h1__law_hat, (fun_mk (st := s__law_hat) h2__law_hat h3__law_hat h4__law_hat).binds fun _ _ _ _ _ _ us hl => match us, hl with | [_], _ => rfl⟩
  f__law_lot := ⟨a__law_lot, _, fun_mk (st := s__law_lot) h2__law_lot h3__law_lot h4__law_lot, PySem.W.mg_of X G h1__law_lot, (fun_mk (st := s__law_lot) h2__law_lot h3__law_lot h4__law_lot).binds fun _ _ _ _ _ _ us hl => match us, hl with | [_, _], _ => rfl⟩
  f__law_one := ⟨a__law_one, _, fun_mk (st := s__law_one) h2__law_one h3__law_one h4__law_one, PySem.W.mg_of X G h1__law_one, (fun_mk (st := s__law_one) h2__law_one h3__law_one h4__law_one).binds fun _ _ _ _ _ _ us hl => match us, hl with | [_, _], _ => rfl⟩
  f__law_raised := ⟨a__law_raised, _, fun_mk (st := s__law_raised) h2__law_raised h3__law_raised h4__law_raised, PySem.W.mg_of X G h1__law_raised, (fun_mk (st := s__law_raised) h2__law_raised h3__law_raised h4__law_raised).binds fun _ _ _ _ _ _ us hl => match us, hl with | [_, _], _ => rfl⟩
  f__law_sum := ⟨a__law_sum, _, fun_mk (st := s__law_sum) h2__law_sum h3__law_sum h4__law_sum, PySem.W.mg_of X G h1__law_sum, (fun_mk (st := s__law_sum) h2__law_sum h3__law_sum h4__law_sum).binds fun _ _ _ _ _ _ us hl => match us, hl with | [_, _, _, _, _], _ => rfl⟩
  f__law_sign := ⟨a__law_sign, _, fun_mk (st := s__law_sign) h2__law_sign h3__law_sign h4__law_sign, PySem.W.mg_of X G h1__law_sign, (fun_mk (st := s__law_sign) h2__law_sign h3__law_sign h4__law_sign).binds fun _ _ _ _ _ _ us hl => match us, hl with | [_], _ => rfl⟩
  f__law_is_by := ⟨a__law_is_by, _, fun_mk (st := s__law_is_by) h2__law_is_by h3__law_is_by h4__law_is_by, PySem.W.mg_of X G h1__law_is_by, (fun_mk (st := s__law_is_by) h2__law_is_by h3__law_is_by h4__law_is_by).binds fun _ _ _ _ _ _ us hl => match us, hl with | [_, _, _, _, _], _ => rfl⟩
  f__law_steps := ⟨a__law_steps, _, fun_mk (st := s__law_steps) h2__law_steps h3__law_steps h4__law_steps, PySem.W.mg_of X G h1__law_steps, (fun_mk (st := s__law_steps) h2__law_steps h3__law_steps h4__law_steps).binds fun _ _ _ _ _ _ us hl => match us, hl with | [_, _], _ => rfl⟩
  f__law_squares := ⟨a__law_squares, _, fun_mk (st := s__law_squares) h2__law_squares h3__law_squares h4__law_squares, PySem.W.mg_of X G h1__law_squares, (fun_mk (st := s__law_squares) h2__law_squares h3__law_squares h4__law_squares).binds fun _ _ _ _ _ _ us hl => match us, hl with | [_], _ => rfl⟩
  f__law_four := ⟨a__law_four, _, fun_mk (st := s__law_four) h2__law_four h3__law_four h4__law_four, PySem.W.mg_of X G h1__law_four, (fun_mk (st := s__law_four) h2__law_four h3__law_four h4__law_four).binds fun _ _ _ _ _ _ us hl => match us, hl with | [_], _ => rfl⟩
  f__law_turned_right := ⟨a__law_turned_right, _, fun_mk (st := s__law_turned_right) h2__law_turned_right h3__law_turned_right h4__law_turned_right, PySem.W.mg_of X G h1__law_turned_right, (fun_mk (st := s__law_turned_right) h2__law_turned_right h3__law_turned_right h4__law_turned_right).binds fun _ _ _ _ _ _ us hl => match us, hl with | [_, _, _, _, _, _], _ => rfl⟩
  f__law_chained_right := ⟨a__law_chained_right, _, fun_mk (st := s__law_chained_right) h2__law_chained_right h3__law_chained_right h4__law_chained_right, PySem.W.mg_of X G h1__law_chained_right, (fun_mk (st := s__law_chained_right) h2__law_chained_right h3__law_chained_right h4__law_chained_right).binds fun _ _ _ _ _ _ us hl => match us, hl with | [_, _, _, _, _], _ => rfl⟩
  f_law := ⟨a_law, _, fun_mk (st := s_law) h2_law h3_law h4_law, PySem.W.mg_of X G h1_law, (fun_mk (st := s_law) h2_law h3_law h4_law).binds fun _ _ _ _ _ _ us hl => match us, hl with | [_], _ => rfl⟩
  t_LEAST_POWER := t_LEAST_POWER
  c_LEAST_POWER := PySem.W.mg_of X G z_LEAST_POWER
  t_MOST_POWER := t_MOST_POWER
  c_MOST_POWER := PySem.W.mg_of X G z_MOST_POWER
  t_MOST_NUMBER := t_MOST_NUMBER
  c_MOST_NUMBER := PySem.W.mg_of X G z_MOST_NUMBER
  n_abs := PySem.W.mg_none_of X G z_abs
  n_bool := PySem.W.mg_none_of X G z_bool
  n_int := PySem.W.mg_none_of X G z_int
  n_isinstance := PySem.W.mg_none_of X G z_isinstance
  n_len := PySem.W.mg_none_of X G z_len
  n_max := PySem.W.mg_none_of X G z_max
  n_range := PySem.W.mg_none_of X G z_range
theorem all_mk {l : PySem.W.OpenLaw} {w : World} {K : PySem.W.Frag} {mg : Str → Option Value} {fa : Addr} (T : Txt K mg) (hfa : mg "law" = some (.ref fa)) :
    ∃ fd : FuncData, (∀ (s : Shared) (v : Value), BindsTo s fd ⟨[v], []⟩ [("_law_script", v)]) ∧ ∀ base : Heap, K.In base → base.Ns mainGlobals mg → FnOk l.prog w K mg base CX0 7 fa fd ["_law_script"] (spLaw K) := by
  have e := hfa.symm.trans T.f_law.g
  cases e
  refine ⟨T.f_law.fd, fun s v => ?_, fun base _ _ => ok_law T⟩
  obtain ⟨oc, od, kV, doc, pm, an, cdv, ct, osl, e, lk, hcd⟩ := T.f_law.F.ex
  rw [e]
  exact .of_eq rfl
end Q
open PySem PySem.W PyProof.Rows
set_option maxHeartbeats 0 in
theorem PySem.Challenge.cw_fourthlike_k18_numbers_by_steps_and_by_t_holds : PySem.Challenge.rw_fourthlike_k18_numbers_by_steps_and_by_t.Holds := by
  w_on; o_law; k_head; (case hw => w_witness2)
  k_fill
  refine L2.walk_of (l := PySem.Challenge.rw_fourthlike_k18_numbers_by_steps_and_by_t) (n := 63) (k := 7) (x := "_law_script") (CX := fun _ => L2.CX0) (sp := fun w => Q.spLaw _) rfl (by decide) rfl ⟨rfl, by decide, by decide⟩ (fun w h Y => PySem.W.kIn_of Y) ?F (fun _ _ a ns hl _ hS => ⟨a, ns, rfl, hS, hl, fun _ => rfl⟩) (fun _ _ _ _ _ h => h)
  case F =>
    intro w mg fa h KX G hmg
    refine Q.all_mk ?T hmg
    case T =>
      refine' Q.mk_txt KX G ?h1_is_integer ?h2_is_integer ?h3_is_integer ?h4_is_integer ?h1_is_within ?h2_is_within ?h3_is_within ?h4_is_within ?h1_need_within ?h2_need_within ?h3_need_within ?h4_need_within ?h1_need_numbers ?h2_need_numbers ?h3_need_numbers ?h4_need_numbers ?h1_need_power ?h2_need_power ?h3_need_power ?h4_need_power ?h1_raised ?h2_raised ?h3_raised ?h4_raised ?h1_whole_sum ?h2_whole_sum ?h3_whole_sum ?h4_whole_sum ?h1_is_by_power ?h2_is_by_power ?h3_is_by_power ?h4_is_by_power ?h1_sign_at ?h2_sign_at ?h3_sign_at ?h4_sign_at ?h1_is_by ?h2_is_by ?h3_is_by ?h4_is_by ?h1__law_hat ?h2__law_hat ?h3__law_hat ?h4__law_hat ?h1__law_lot ?h2__law_lot ?h3__law_lot ?h4__law_lot ?h1__law_one ?h2__law_one ?h3__law_one ?h4__law_one ?h1__law_raised ?h2__law_raised ?h3__law_raised ?h4__law_raised ?h1__law_sum ?h2__law_sum ?h3__law_sum ?h4__law_sum ?h1__law_sign ?h2__law_sign ?h3__law_sign ?h4__law_sign ?h1__law_is_by ?h2__law_is_by ?h3__law_is_by ?h4__law_is_by ?h1__law_steps ?h2__law_steps ?h3__law_steps ?h4__law_steps ?h1__law_squares ?h2__law_squares ?h3__law_squares ?h4__law_squares ?h1__law_four ?h2__law_four ?h3__law_four ?h4__law_four ?h1__law_turned_right ?h2__law_turned_right ?h3__law_turned_right ?h4__law_turned_right ?h1__law_chained_right ?h2__law_chained_right ?h3__law_chained_right ?h4__law_chained_right ?h1_law ?h2_law ?h3_law ?h4_law ?z_LEAST_POWER ?z_MOST_POWER ?z_MOST_NUMBER ?z_abs ?z_bool ?z_int ?z_isinstance ?z_len ?z_max ?z_range
      (case h1_is_integer => k_is)
      (case h2_is_integer => k_is)
      (case h3_is_integer => k_is)
      (case h4_is_integer => k_is)
      (case h1_is_within => k_is)
      (case h2_is_within => k_is)
      (case h3_is_within => k_is)
      (case h4_is_within => k_is)
      (case h1_need_within => k_is)
      (case h2_need_within => k_is)
      (case h3_need_within => k_is)
      (case h4_need_within => k_is)
      (case h1_need_numbers => k_is)
      (case h2_need_numbers => k_is)
      (case h3_need_numbers => k_is)
      (case h4_need_numbers => k_is)
      (case h1_need_power => k_is)
      (case h2_need_power => k_is)
      (case h3_need_power => k_is)
      (case h4_need_power => k_is)
      (case h1_raised => k_is)
      (case h2_raised => k_is)
      (case h3_raised => k_is)
      (case h4_raised => k_is)
      (case h1_whole_sum => k_is)
      (case h2_whole_sum => k_is)
      (case h3_whole_sum => k_is)
      (case h4_whole_sum => k_is)
      (case h1_is_by_power => k_is)
      (case h2_is_by_power => k_is)
      (case h3_is_by_power => k_is)
      (case h4_is_by_power => k_is)
      (case h1_sign_at => k_is)
      (case h2_sign_at => k_is)
      (case h3_sign_at => k_is)
      (case h4_sign_at => k_is)
      (case h1_is_by => k_is)
      (case h2_is_by => k_is)
      (case h3_is_by => k_is)
      (case h4_is_by => k_is)
      (case h1__law_hat => k_is)
      (case h2__law_hat => k_is)
      (case h3__law_hat => k_is)
      (case h4__law_hat => k_is)
      (case h1__law_lot => k_is)
      (case h2__law_lot => k_is)
      (case h3__law_lot => k_is)
      (case h4__law_lot => k_is)
      (case h1__law_one => k_is)
      (case h2__law_one => k_is)
      (case h3__law_one => k_is)
      (case h4__law_one => k_is)
      (case h1__law_raised => k_is)
      (case h2__law_raised => k_is)
      (case h3__law_raised => k_is)
      (case h4__law_raised => k_is)
      (case h1__law_sum => k_is)
      (case h2__law_sum => k_is)
      (case h3__law_sum => k_is)
      (case h4__law_sum => k_is)
      (case h1__law_sign => k_is)
      (case h2__law_sign => k_is)
      (case h3__law_sign => k_is)
      (case h4__law_sign => k_is)
      (case h1__law_is_by => k_is)
      (case h2__law_is_by => k_is)
      (case h3__law_is_by => k_is)
      (case h4__law_is_by => k_is)
      (case h1__law_steps => k_is)
      (case h2__law_steps => k_is)
      (case h3__law_steps => k_is)
      (case h4__law_steps => k_is)
      (case h1__law_squares => k_is)
      (case h2__law_squares => k_is)
      (case h3__law_squares => k_is)
      (case h4__law_squares => k_is)
      (case h1__law_four => k_is)
      (case h2__law_four => k_is)
      (case h3__law_four => k_is)
      (case h4__law_four => k_is)
      (case h1__law_turned_right => k_is)
      (case h2__law_turned_right => k_is)
      (case h3__law_turned_right => k_is)
      (case h4__law_turned_right => k_is)
      (case h1__law_chained_right => k_is)
      (case h2__law_chained_right => k_is)
      (case h3__law_chained_right => k_is)
      (case h4__law_chained_right => k_is)
      (case h1_law => k_is)
      (case h2_law => k_is)
      (case h3_law => k_is)
      (case h4_law => k_is)
      (case z_LEAST_POWER => k_is)
      (case z_MOST_POWER => k_is)
      (case z_MOST_NUMBER => k_is)
      (case z_abs => k_is)
      (case z_bool => k_is)
      (case z_int => k_is)
      (case z_isinstance => k_is)
      (case z_len => k_is)
      (case z_max => k_is)
      (case z_range => k_is)

