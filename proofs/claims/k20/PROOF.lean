import PyProof.Rows.All
import Wide.All
import OpenK.AllK
import Wide.FinOn
import HandS.TupSets
import HandS.SortInts
import KE.KTupTabMore
import HandS.ForMost
import HandS.IsInst
import HandS.Wide
import HandS.WideBits
import HandS.Style
import HandS.TryOnly
import HandS.More
import HandS.ClsMeth
import HandS.Star
import HandS.OwnEq
import KE.KEqSeq
import KE.RegKIsAll
import PyProof.InstNe
import HandS.RaiseMore
import HandS.SetFor
import HandS.Records
import HandS.MakeKwOnly
import PySem.Challenge.RW_fourthlike_k20_papers_on_powers_bent
set_option Elab.async false
set_option linter.all false
set_option maxRecDepth 100000
set_option maxHeartbeats 4000000
/-! a set of tuples that all are alike: one element -/
namespace So
open PySem PySem.Spec PyProof.Rows L2
abbrev IsL (P : Program) (w : World) (h : Heap) (k : List Leaf) (a : Addr) : Prop := IsTupleKey (leafKind P w) h k a
abbrev lh (P : Program) (w : World) (k : List Leaf) : Int := tupleKeyHash (leafKind P w) k
abbrev freshO (w : World) : Obj := { cls := .type "set", dict := none, data := .set #[] 0 (.fresh 0 0 (!w.params.followText "set-order")) }
def numK (x y : Int) : List Leaf := [.num x, .num y]
theorem num_shape {P : Program} {w : World} {i : Int} {v : Value} (h : (leafKind P w).is (.num i) v = true) : (∃ t, v = .int i t) ∨ ∃ c, v = .bool c := by
  cases v <;> first
    | exact absurd h Bool.false_ne_true
    | exact .inr ⟨_, rfl⟩
    | (rename_i j t
       have e : j = i := by
         have h' : decide _ = true := h
         simpa using h'
       exact .inl ⟨t, by rw [e]⟩)
theorem items_num {P : Program} {w : World} {x y : Int} {vs : List Value} (h : ItemsAre (leafKind P w) (numK x y) vs) : ∀ v ∈ vs, (∃ i t, v = Value.int i t) ∨ ∃ c, v = .bool c := by
  cases h with
  | cons h1 h2 =>
    cases h2 with
    | cons h2 h3 =>
      cases h3
      intro v hv
      rcases List.mem_cons.mp hv with e | hv
      · rw [e]; exact (num_shape h1).imp (fun ⟨t, z⟩ => ⟨_, t, z⟩) id
      · rw [List.mem_singleton.mp hv]; exact (num_shape h2).imp (fun ⟨t, z⟩ => ⟨_, t, z⟩) id
section
variable {P : Program} {w : World} {A : Around} {E : Value → Shared → Prop} {s : Shared} {x y : Int}
theorem ofAClass_leaf (n : Nat) {v : Value} (h : (∃ i t, v = Value.int i t) ∨ ∃ c, v = .bool c) : ofAClassStatement n v = pure false := by
  rcases h with ⟨i, t, rfl⟩ | ⟨c, rfl⟩ <;> cases n <;> rfl
theorem hashBy_leaf (n : Nat) {v : Value} (h : (∃ i t, v = Value.int i t) ∨ ∃ c, v = .bool c) : hashByValue n v = pure true := by
  rcases h with ⟨i, t, rfl⟩ | ⟨c, rfl⟩ <;> cases n <;> rfl
theorem ofAClass_l {b : Addr} {Q : Bool → Shared → Prop} (hk : IsL P w s.heap (numK x y) b) (h : Q false s) : wpAny (model P w) A (ofAClassStatement 8 (.ref b)) Q E s := by
  have hT := hk.typeIs
  obtain ⟨o, items, n, ho, _, hd, hi⟩ := hk
  unfold ofAClassStatement
  refine wpAny_bind (wpAny_typeOf hT ?_)
  dsimp only
  have e : (("tuple" : String) == "tuple") = true := by decide
  simp only [e, if_true, Bool.not_true, Bool.false_eq_true, if_false]
  try refine wpAny_bind (wpAny_pure ?_)
  try simp only [Bool.not_true, Bool.false_eq_true, if_false]
  show wpAny _ _ (seqItems? (.ref b) >>= _) _ _ s
  refine wpAny_bind (wpAny_seqItems ho hd ?_)
  dsimp only
  refine wpAny_bind ?_
  show wpAny _ _ (forIn items _ _) _ _ s
  rw [← Array.forIn_toList]
  refine wpAny_forIn_list _ (fun rest r s' => r.1 = none ∧ s' = s ∧ ∀ v ∈ rest, (∃ i t, v = Value.int i t) ∨ ∃ c, v = .bool c) _ ?_ ?_ _ _ ⟨rfl, rfl, items_num hi⟩
  · rintro v rest r s' ⟨hr, rfl, hall⟩
    rw [ofAClass_leaf _ (hall v List.mem_cons_self)]
    refine wpAny_bind (wpAny_pure ?_)
    simp only [Bool.false_eq_true, if_false]
    exact wpAny_pure ⟨rfl, rfl, fun u hu' => hall u (List.mem_cons_of_mem _ hu')⟩
  · rintro ⟨r1, r2⟩ s' ⟨hr, rfl, _⟩
    simp only at hr
    subst hr
    exact wpAny_pure h
theorem hashBy_l {b : Addr} {Q : Bool → Shared → Prop} (hk : IsL P w s.heap (numK x y) b) (h : Q true s) : wpAny (model P w) A (hashByValue 8 (.ref b)) Q E s := by
  have hT := hk.typeIs
  obtain ⟨o, items, n, ho, _, hd, hi⟩ := hk
  unfold hashByValue
  refine wpAny_bind (wpAny_specialOf hT F.slot_tuple_hash.lookup ?_)
  show wpAny _ _ (seqItems? (.ref b) >>= _) _ _ s
  refine wpAny_bind (wpAny_seqItems ho hd ?_)
  refine wpAny_bind ?_
  show wpAny _ _ (forIn items _ _) _ _ s
  rw [← Array.forIn_toList]
  refine wpAny_forIn_list _ (fun rest r s' => r.1 = none ∧ s' = s ∧ ∀ v ∈ rest, (∃ i t, v = Value.int i t) ∨ ∃ c, v = .bool c) _ ?_ ?_ _ _ ⟨rfl, rfl, items_num hi⟩
  · rintro v rest r s' ⟨hr, rfl, hall⟩
    rw [hashBy_leaf _ (hall v List.mem_cons_self)]
    refine wpAny_bind (wpAny_pure ?_)
    simp only [Bool.not_true, Bool.false_eq_true, if_false]
    exact wpAny_pure ⟨rfl, rfl, fun u hu' => hall u (List.mem_cons_of_mem _ hu')⟩
  · rintro ⟨r1, r2⟩ s' ⟨hr, rfl, _⟩
    simp only at hr
    subst hr
    exact wpAny_pure h
theorem seen_l {b c : Addr} {Q : Bool → Shared → Prop} (hk : IsL P w s.heap (numK x y) b) (hc : IsL P w s.heap (numK x y) c) {ys : List Value} (hy : ∀ v ∈ ys, v = Value.ref c) (h : Q false s) :
    wpAny (model P w) A (searchCouldBeSeen (.ref b) ys) Q E s := by
  unfold searchCouldBeSeen
  refine wpAny_bind ?_
  refine wpAny_forIn_list _ (fun rest r s' => r.1 = none ∧ s' = s ∧ ∀ v ∈ rest, v = Value.ref c) _ ?_ ?_ _ _ ⟨rfl, rfl, hy⟩
  · rintro v rest r s' ⟨hr, rfl, hall⟩
    have hv0 := hall v List.mem_cons_self
    subst hv0
    have rest' : ∀ v ∈ rest, v = Value.ref c := fun u hu' => hall u (List.mem_cons_of_mem _ hu')
    dsimp only
    by_cases hv : (b == c || (carriedByValue (.ref b) && carriedByValue (.ref c))) = true
    · refine wp_if_pos hv ?_
      exact wpAny_pure ⟨rfl, rfl, rest'⟩
    · refine wp_if_neg hv ?_
      refine wpAny_bind (wpAny_eqIsQuiet_tuple hk ?_)
      simp only [Bool.not_true, Bool.false_eq_true, if_false]
      refine wpAny_bind (wpAny_eqIsQuiet_tuple hc ?_)
      simp only [Bool.not_true, Bool.false_eq_true, if_false]
      refine wpAny_bind (ofAClass_l hk ?_)
      simp only [Bool.false_eq_true, if_false]
      refine wpAny_bind (ofAClass_l hc ?_)
      simp only [Bool.false_eq_true, if_false]
      exact wpAny_pure ⟨rfl, rfl, rest'⟩
  · rintro ⟨r1, r2⟩ s' ⟨hr, rfl, _⟩
    simp only at hr
    subst hr
    exact wpAny_pure h
structure SetO1 (P : Program) (w : World) (h : Heap) (a : Addr) (u : Addr) (k : List Leaf) (es : Array (Int × Value)) (ep : Nat) (t : SetTable) : Prop where
  ob : ∃ o, h.get? a = some o ∧ o.ExactSet ∧ o.data = .set es ep t
  row : es = #[(lh P w k, .ref u)]
  tab : TabOk t [lh P w k]
  led : w.params.followText "set-order" = true ∨ t.led = true
  mk7 : t.mask = 7
variable {a u u2 : Addr} {es : Array (Int × Value)} {ep : Nat} {t : SetTable}
theorem SetO1.fits {h : Heap} {k : List Leaf} (R : SetO1 P w h a u k es ep t) : t.fits es.size = true := by
  have h1 : t.place.size = 1 := R.tab.sz
  have h2 := R.mk7
  rw [R.row]
  unfold SetTable.fits SetTable.fill
  rw [R.tab.dm, Bool.and_eq_true, beq_iff_eq, decide_eq_true_eq]
  show t.place.size = 1 ∧ t.place.size + 0 ≤ t.mask
  omega
theorem SetO1.gw {h : Heap} {k : List Leaf} (R : SetO1 P w h a u k es ep t) : ¬ t.gaveWay = true := by
  unfold SetTable.gaveWay
  rw [mask_odd R.tab.mok]
  decide
end
end So

namespace So
open PySem PySem.Spec PyProof.Rows L2
/-- what a probe of a table with one entry of this hash meets -/
theorem probe_one {t : SetTable} {hv : Int} (T : TabOk t [hv]) (hm : t.mask = 7) {f : Nat → Int} (hf : f 0 = hv) : ∃ j nx, t.probe f hv (t.probeStart hv) = some (.candidate j 0 nx) := by
  obtain ⟨K, hKf, hK, hKb⟩ := T.first (by rw [hm]; exact (by decide : (1 : Nat) ≤ 7)) hv
  have hl : t.place.toList.length = 1 := by rw [Array.length_toList, T.sz]; rfl
  have spec := go_spec t T.ris T.dm f hv (10 * SetTable.turns t.mask) K (runAt t.mask (SetTable.bits hv % (t.mask + 1)) (SetTable.bits hv)) rfl hKf hKb hK
  rcases spec with ⟨q, i, hq, hi, hh, hno, hpr⟩ | ⟨hno, hpr⟩
  · have i0 : i = 0 := by
      have := (List.getElem?_eq_some_iff.mp hi).1
      omega
    subst i0
    exact ⟨_, _, hpr⟩
  · exfalso
    obtain ⟨j, hj⟩ : ∃ j, t.place.toList[0]? = some j := ⟨_, List.getElem?_eq_getElem (by omega)⟩
    obtain ⟨c, hc, e⟩ := T.before hK (i := 0) rfl hj
    exact hno c 0 hc (by rw [hj, ← e]) hf
section
variable {P : Program} {w : World} {A : Around} {E : Value → Shared → Prop} {s : Shared} {x y : Int}
variable {a u u2 : Addr} {es : Array (Int × Value)} {ep : Nat} {t : SetTable}
theorem search_same {hv : Int} {o : Obj} (ho : s.heap.get? a = some o) (hd : o.data = .set es ep t) (hfit : t.fits es.size = true) (hgw : ¬ t.gaveWay = true) (hr : es = #[(hv, .ref u)]) (T : TabOk t [hv]) (hm : t.mask = 7)
    (ht : IsL P w s.heap (numK x y) u) (hx : IsL P w s.heap (numK x y) u2) (hu : A.units < cLine) {Q : SetFound → Shared → Prop} (hQ : Q (.there none) s) :
    wpAny (model P w) A (setSearch a (.ref u2) hv true) Q E s := by
  have h0 : es[0]? = some (hv, Value.ref u) := by rw [hr]; rfl
  obtain ⟨j, nx, hpr⟩ := probe_one T hm (f := fun i => (es[i]?.map (·.1)).getD 0) (by
    show (es[0]?.map (·.1)).getD 0 = _
    rw [h0] <;> rfl)
  unfold setSearch
  suffices key : ∀ f : Nat, 0 < f → wpAny (model P w) A (setSearchFrom a (.ref u2) hv true f none) Q E s from key 100000 (by omega)
  intro f hf
  obtain ⟨f, rfl⟩ : ∃ g, f = g + 1 := ⟨f - 1, by omega⟩
  rw [setSearchFrom_succ]
  refine wpAny_bind (wpAny_setState_of ho hd hfit ?_)
  dsimp only
  refine wp_if_neg hgw ?_
  try refine wpAny_bind (wpAny_pure ?_)
  rw [show (none : Option SetTable.Probe).getD (t.probeStart hv) = t.probeStart hv from rfl, hpr]
  dsimp only
  have rest : wpAny (model P w) A (searchRest a (.ref u2) hv true f es t j 0 nx) Q E s := by
    unfold searchRest
    rw [h0]
    dsimp only
    refine wpAny_bind (wpAny_holding (wpAny_eqBool_tuple hu ht hx ?_))
    refine wpAny_bind (wpAny_setState_of ho hd hfit ?_)
    dsimp only
    refine wp_if_pos (by simp) ?_
    exact wpAny_pure hQ
  by_cases hl : t.led = true
  · refine wp_if_neg (by simp [hl]) ?_
    try refine wpAny_bind (wpAny_pure ?_)
    exact rest
  · refine wp_if_pos (by simp [hl]) ?_
    refine wpAny_bind (seen_l hx ht (fun v hy => ?_) ?_)
    · obtain ⟨e, he, ee⟩ := List.mem_map.mp hy
      rw [hr] at he
      have he4 : e = (hv, Value.ref u) := by simpa using he
      rw [← ee, he4]
    · refine wp_if_neg (by decide) ?_
      try refine wpAny_bind (wpAny_pure ?_)
      exact rest
end
end So

namespace So
open PySem PySem.Spec PyProof.Rows L2
section
variable {P : Program} {w : World} {A : Around} {E : Value → Shared → Prop} {s : Shared} {x y : Int}
variable {a u u2 : Addr} {es : Array (Int × Value)} {ep : Nat} {t : SetTable}
/-- one that is like it is added: nothing -/
theorem add_same (R : SetO1 P w s.heap a u (numK x y) es ep t) (ht : IsL P w s.heap (numK x y) u) (hx : IsL P w s.heap (numK x y) u2) (hu : A.units < cLine) {Q : Bool → Shared → Prop} (hQ : Q false s) :
    wpAny (model P w) A (setAddHashed a (.ref u2) (lh P w (numK x y))) Q E s := by
  obtain ⟨o, ho, hex, hd⟩ := R.ob
  unfold setAddHashed
  refine wpAny_holding ?_
  rw [show (100000 : Nat) = 99999 + 1 from rfl, setAddHashedIn_succ]
  refine wpAny_bind (wpAny_setState_of ho hd R.fits ?_)
  dsimp only
  refine wp_if_neg (by simp [byScan, Value.scannable]) ?_
  try refine wpAny_bind (wpAny_pure ?_)
  refine wpAny_bind (search_same ho hd R.fits R.gw R.row R.tab R.mk7 ht hx hu ?_)
  dsimp only
  exact wpAny_pure hQ
theorem isL_same {h h' : Heap} {k : List Leaf} {a b : Addr} {o : Obj} {es : Array (Int × Value)} {ep : Nat} {t : SetTable} (hb : IsL P w h k b) (ho : h.get? a = some o) (hd : o.data = .set es ep t) (hs : Heap.SameBut a h h') : IsL P w h' k b := by
  obtain ⟨o', items, n, ho', hc, hd', hi⟩ := hb
  have hne : b ≠ a := by
    rintro rfl
    obtain rfl : o' = o := Option.some.inj (ho'.symm.trans ho)
    rw [hd] at hd'
    exact nomatch hd'
  exact ⟨o', items, n, (hs.2 b hne).trans ho', hc, hd', hi⟩
/-- the first one -/
theorem add_first (ho : s.heap.get? a = some (freshO w)) (hx : IsL P w s.heap (numK x y) u) {Q : Bool → Shared → Prop}
    (hQ : ∀ h' es ep t, Heap.SameBut a s.heap h' → SetO1 P w h' a u (numK x y) es ep t → Q true { s with heap := h' }) : wpAny (model P w) A (setAddHashed a (.ref u) (lh P w (numK x y))) Q E s := by
  have R := setTR_fresh (P := P) (w := w) ho
  generalize hw : lh P w (numK x y) = hv
  obtain ⟨K, hKf, hK, hKb⟩ := R.tab.first (by show 0 ≤ 7; decide) hv
  have K0 : K = 0 := by
    cases K with
    | zero => rfl
    | succ K => exact absurd (hKb 0 (Nat.succ_pos _)) (by intro z; cases z)
  subst K0
  have hfit : (SetTable.fresh 0 0 (!w.params.followText "set-order")).fits (#[] : Array (Int × Value)).size = true := R.fits
  have hgw := R.gw
  obtain ⟨q1, q2, q3, q4, q5, q6, q7, q8, q9⟩ := R.tab.put hK hKb
  have hled := R.led
  generalize ht0 : SetTable.fresh 0 0 (!w.params.followText "set-order") = t0 at *
  have hd : (freshO w).data = .set #[] 0 t0 := by rw [← ht0]
  have spec := go_spec t0 R.tab.ris R.tab.dm (fun i => ((#[] : Array (Int × Value))[i]?.map (·.1)).getD 0) hv (10 * SetTable.turns t0.mask) 0 (runAt t0.mask (SetTable.bits hv % (t0.mask + 1)) (SetTable.bits hv)) rfl hKf hKb hK
  have hpr : t0.probe (fun i => ((#[] : Array (Int × Value))[i]?.map (·.1)).getD 0) hv ((none : Option SetTable.Probe).getD (t0.probeStart hv)) = some (.empty (way t0.mask hv 0) none) := by
    rcases spec with ⟨q, i, hq, _⟩ | ⟨_, hpr⟩
    · exact absurd hq (Nat.not_lt_zero _)
    · exact hpr
  unfold setAddHashed
  refine wpAny_holding ?_
  rw [show (100000 : Nat) = 99999 + 1 from rfl, setAddHashedIn_succ]
  refine wpAny_bind (wpAny_setState_of ho hd hfit ?_)
  dsimp only
  refine wp_if_neg (by simp [byScan, Value.scannable]) ?_
  try refine wpAny_bind (wpAny_pure ?_)
  have srch : ∀ Q2 : SetFound → Shared → Prop, Q2 (.free (way t0.mask hv 0) false) s → wpAny (model P w) A (setSearch a (.ref u) hv true) Q2 E s := by
    intro Q2 hQ2
    unfold setSearch
    suffices key : ∀ f : Nat, 0 < f → wpAny (model P w) A (setSearchFrom a (.ref u) hv true f none) Q2 E s from key 100000 (by omega)
    intro f hf
    obtain ⟨f, rfl⟩ : ∃ g, f = g + 1 := ⟨f - 1, by omega⟩
    rw [setSearchFrom_succ]
    refine wpAny_bind (wpAny_setState_of ho hd hfit ?_)
    dsimp only
    refine wp_if_neg hgw ?_
    try refine wpAny_bind (wpAny_pure ?_)
    rw [hpr]
    dsimp only
    exact wpAny_pure hQ2
  refine wpAny_bind (srch _ ?_)
  dsimp only
  refine wpAny_bind (wpAny_setState_of ho hd hfit ?_)
  dsimp only
  have hp1 : (t0.put (way t0.mask hv 0)).1.plain = true := by rw [q6]; exact R.plain
  generalize hpt : t0.put (way t0.mask hv 0) = pt at q1 q3 q4 q5 q6 q7 q8 q9 hp1 ⊢
  obtain ⟨t1, p⟩ := pt
  dsimp only at q1 q3 q4 q5 q6 q7 q8 q9 hp1 ⊢
  subst q1
  first
    | (refine wpAny_bind ?_; refine wp_if_pos hp1 ?_; refine hashBy_l hx ?_)
    | refine wp_if_pos hp1 (wpAny_bind (hashBy_l hx ?_))
  simp only [if_true]
  have hp0 : SetTable.below t0.place (way t0.mask hv 0) = 0 := Nat.le_zero.mp q2
  rw [hp0] at q3 ⊢
  have hes : SetTable.insertAt (#[] : Array (Int × Value)) 0 (hv, Value.ref u) = #[(hv, .ref u)] := rfl
  rw [hes]
  refine wpAny_bind (wpAny_storeSet_of ho hd ?_ (by show 1 ≤ _; rw [sizeLine_eq]; decide))
  have sb : Heap.SameBut a s.heap (s.heap.update a (Obj.putSet #[(hv, .ref u)] t1)) := Heap.SameBut.update ..
  have ho1 := L2.store_at (es' := #[(hv, .ref u)]) (t' := t1) ho hd
  generalize s.heap.update a (Obj.putSet #[(hv, .ref u)] t1) = h1 at sb ho1 ⊢
  have hm7 : t1.mask = 7 := by rw [q4, ← ht0]; rfl
  have hf : t1.tooFull = false := by
    unfold SetTable.tooFull
    rw [q9, hm7]
    rfl
  first
    | refine wp_if_neg (by simp [hf]) ?_
    | (refine wpAny_bind ?_; refine wp_if_neg (by simp [hf]) ?_; refine wpAny_pure ?_)
  have ex := R.ob
  obtain ⟨o', ho', hex, _⟩ := ex
  have eo : o' = freshO w := Option.some.inj (ho'.symm.trans ho)
  rw [eo] at hex
  refine wpAny_pure (hQ h1 _ _ t1 sb ⟨⟨_, ho1, ⟨hex.1, hex.2.1, hex.2.2⟩, rfl⟩, by rw [hw], by rw [hw]; exact q3, by rw [q5]; exact hled, hm7⟩)
end
end So

namespace So
open PySem PySem.Spec PyProof.Rows L2
section
variable {P : Program} {w : World} {A : Around} {E : Value → Shared → Prop} {s : Shared} {x y : Int}
theorem isL_keep {h h' : Heap} {k : List Leaf} {b : Addr} (z : IsL P w h k b) (hk : ∀ c o, h.get? c = some o → h'.get? c = some o) : IsL P w h' k b := by
  obtain ⟨o, items, n, ho, hc, hd, hi⟩ := z
  exact ⟨o, items, n, hk b o ho, hc, hd, hi⟩
theorem SetO1.keep {h h' : Heap} {a u : Addr} {k : List Leaf} {es : Array (Int × Value)} {ep : Nat} {t : SetTable} (R : SetO1 P w h a u k es ep t) (ha : ∀ o, h.get? a = some o → h'.get? a = some o) : SetO1 P w h' a u k es ep t := by
  obtain ⟨o, ho, r⟩ := R.ob
  exact ⟨⟨o, ha o ho, r⟩, R.row, R.tab, R.led, R.mk7⟩
def Sofar (P : Program) (w : World) (h : Heap) (S : Addr) (x y : Int) (ks : List Addr) (i : Nat) : Prop := (i = 0 ∧ h.get? S = some (freshO w)) ∨ ∃ u es ep t, u ∈ ks ∧ SetO1 P w h S u (numK x y) es ep t
theorem Sofar.keep {h h' : Heap} {S : Addr} {ks : List Addr} {i : Nat} (z : Sofar P w h S x y ks i) (ha : ∀ o, h.get? S = some o → h'.get? S = some o) : Sofar P w h' S x y ks i := by
  rcases z with ⟨e, z⟩ | ⟨u, es, ep, t, hu, z⟩
  · exact .inl ⟨e, ha _ z⟩
  · exact .inr ⟨u, es, ep, t, hu, z.keep ha⟩
theorem loop1 {I : Addr} {fp wr : List Addr} {G : Array GenState → Array GenState → Prop} {n : Nat} {Pv : Nat → Value → Prop} {St : Nat → Shared → Prop} {R : Result → Shared → Prop}
    (W : WalksS P w A.in1 I fp wr G n Pv St) (S : Addr) (hSf : S ∉ fp) (ks : List Addr) (hn : n = ks.length) (hval : ∀ i v, Pv i v → ∃ p, ks[i]? = some p ∧ v = .ref p)
    (h0 : Heap) (hk : ∀ p ∈ ks, IsL P w h0 (numK x y) p) (hS0 : h0.get? S = none) (hw0 : ∀ b ∈ wr, h0.get? b = none) (hu : A.in1.units < cLine) :
    ∀ (k i : Nat) (s : Shared), n - i = k → i ≤ n → St i s → (∀ b o, h0.get? b = some o → s.heap.get? b = some o) → Sofar P w s.heap S x y ks i →
      (∀ s', Moved (S :: wr) G s s' → Sofar P w s'.heap S x y ks n → (∀ b o, h0.get? b = some o → s'.heap.get? b = some o) → R (.ok (.ret .none)) s') →
      codeAny (model P w) A (.builtin "set.update.loop" ⟨[.ref S, .ref I], []⟩) R s := by
  have hSw : S ∉ wr := fun h => hSf (W.sub _ h)
  have hsub : ∀ b ∈ wr, b ∈ S :: wr := fun b hb => List.mem_cons_of_mem _ hb
  have keepM : ∀ {s s' : Shared}, Moved wr G s s' → (∀ b o, h0.get? b = some o → s.heap.get? b = some o) → ∀ b o, h0.get? b = some o → s'.heap.get? b = some o := fun hm hkp b o e =>
    hm.heap b o (fun hb => by rw [hw0 b hb] at e; cases e) (hkp b o e)
  intro k
  induction k with
  | zero =>
    intro i s hk' hi hst hkp hS hR
    have hin : i = n := by omega
    subst hin
    refine codeAny_builtin F.entry_set_update_loop ?_
    rw [Around.under_plainId F.plain_set_update_loop _]
    show wpAny _ A.in1 (pyNext (.ref I) >>= _) _ _ s
    refine wpAny_bind (W.done s _ _ hst fun s' hm => ?_)
    show wpAny _ A.in1 (ret Value.none) _ _ s'
    exact wpAny_pure (hR s' (hm.mono hsub) (hS.keep fun o e => hm.heap S o hSw e) (keepM hm hkp))
  | succ k ih =>
    intro i s hk' hi hst hkp hS hR
    have hlt : i < n := by omega
    refine codeAny_builtin F.entry_set_update_loop ?_
    rw [Around.under_plainId F.plain_set_update_loop _]
    show wpAny _ A.in1 (pyNext (.ref I) >>= _) _ _ s
    refine wpAny_bind (W.item i s _ _ hlt hst fun v s' hP hst' hm => ?_)
    obtain ⟨p, hp, rfl⟩ := hval i v hP
    have hkp' := keepM hm hkp
    have hpm : p ∈ ks := List.mem_of_getElem? hp
    have hx : IsL P w s'.heap (numK x y) p := isL_keep (hk p hpm) hkp'
    have hS' := hS.keep fun o e => hm.heap S o hSw e
    show wpAny _ A.in1 (holding [Value.ref p] (setAdd S (.ref p)) >>= _) _ _ s'
    refine wpAny_bind (wpAny_holding ?_)
    unfold setAdd
    refine wpAny_holding ?_
    refine wpAny_bind (wpAny_pyHash_tuple hu hx ?_)
    have fin : ∀ h' : Heap, Heap.SameBut S s'.heap h' → Sofar P w h' S x y ks (i + 1) → codeAny (model P w) A (.builtin "set.update.loop" ⟨[.ref S, .ref I], []⟩) R { s' with heap := h', toks := s'.toks + ((numK x y).length + 1) } := fun h' hsb hSo => by
      have hkp2 : ∀ b o, h0.get? b = some o → h'.get? b = some o := fun b o e => (hsb.2 b (fun z => by rw [z, hS0] at e; cases e)).trans (hkp' b o e)
      refine ih (i + 1) _ (by omega) hlt (W.frame _ s' _ _ hst' (Nat.le_add_right _ _) fun b hb o e => ?_) hkp2 hSo fun s'' hm'' hS'' hkp'' => ?_
      · rw [hsb.2 b (fun h : b = S => hSf (by rw [← h]; exact hb))]; exact e
      · refine hR s'' (Moved.trans W.gtrans ((hm.mono hsub).then_heap (Nat.le_add_right _ _) fun b o hb e => ?_) hm'') hS'' hkp''
        rw [hsb.2 b (fun h : b = S => hb (by rw [h]; exact List.mem_cons_self))]; exact e
    rcases hS' with ⟨_, hf⟩ | ⟨u, es, ep, t, hum, R1⟩
    · refine add_first (s := { s' with toks := s'.toks + ((numK x y).length + 1) }) hf hx fun h' es ep t hsb R1 => ?_
      exact wpAny_pure ⟨plainId_quiet F.plain_set_update_loop _, fin h' hsb (.inr ⟨p, es, ep, t, hpm, R1⟩)⟩
    · refine add_same (s := { s' with toks := s'.toks + ((numK x y).length + 1) }) R1 (isL_keep (hk u hum) hkp') hx hu ?_
      exact wpAny_pure ⟨plainId_quiet F.plain_set_update_loop _, fin s'.heap (Heap.SameBut.refl _ _) (.inr ⟨u, es, ep, t, hum, R1⟩)⟩
end
end So

namespace So
open PySem PySem.Spec PyProof.Rows L2
section
variable {P : Program} {w : World} {A : Around} {E : Value → Shared → Prop} {s : Shared} {x y : Int}
theorem call_set1 {l : Addr} {items : Array Value} (ks : List Addr) {Q : Value → Shared → Prop} (hh : A.handled = none) (hl : s.heap.IsList l items) (hit : items.toList = ks.map Value.ref) (hne : 0 < ks.length)
    (hk : ∀ p ∈ ks, IsL P w s.heap (numK x y) p) (hu : A.units + 3 < cLine)
    (h : ∀ (h' : Heap) (tk : Nat) u es ep t, u ∈ ks → SetO1 P w h' s.heap.objs.size u (numK x y) es ep t → (∀ b o, s.heap.get? b = some o → h'.get? b = some o) → Q (.ref s.heap.objs.size) { s with heap := h', toks := tk }) :
    wpAny (model P w) A (call (.type "set") [.ref l]) Q E s := by
  have hisz : items.size = ks.length := by
    have q := congrArg List.length hit
    rw [Array.length_toList, List.length_map] at q
    exact q
  obtain ⟨c, tl, hmro⟩ := F.called_set.mro
  have hmade := F.called_set.made
  have hsub := F.called_set.sub
  refine wpAny_call (codeAny_of_tree ?_)
  show wpAny _ _ (callAny (.type "set") _) _ _ _
  refine wpAny_pure ⟨Code.quiet_builtin _ (by decide +kernel), codeAny_builtin F.entry_type_call ?_⟩
  rw [Around.under_plain (weight_type_call_type "set" [.ref l] []) rfl]
  have h1 := F.called_set.notType
  have h2 := F.called_set.canCreate
  have hct := F.typeCall_set_1 (.ref l)
  repeat (any_goals (first | assumption | wp_step))
  refine codeAny_mono (code_set_led1 (.ref l) (E := E) (Q₁ := fun obj s₁ => obj = .ref s.heap.objs.size ∧ s₁ = { s with heap := s.heap.push (freshO w) }) ⟨rfl, rfl⟩) fun r s₁ hr => ?_
  cases r with
  | error e => exact hr
  | ok fl =>
    cases fl with
    | ret obj =>
      obtain ⟨rfl, rfl⟩ := hr
      have hS : (s.heap.push (freshO w)).get? s.heap.objs.size = some (freshO w) := Heap.get?_push_size _ rfl
      have hT : Shared.TypeIs { s with heap := s.heap.push (freshO w) } (.ref s.heap.objs.size) "set" := ⟨_, hS, rfl⟩
      have hli := F.called_set.init.lookup
      have hbi := F.called_set.init.bind (.ref s.heap.objs.size)
      repeat (any_goals (first | assumption | wp_step))
      refine codeAny_mono (codeAny_call_builtin (R := wants (fun r s₂ => r = .none ∧ ∃ h' tk u es ep t, s₂ = { s with heap := h', toks := tk } ∧ u ∈ ks ∧ SetO1 P w h' s.heap.objs.size u (numK x y) es ep t ∧
          (∀ b o, s.heap.get? b = some o → h'.get? b = some o)) E) F.called_set.init.plain F.entry_set_init (check_set_init_1 hT ?_)) fun r₂ s₂ hr₂ => ?_
      · obtain ⟨ol, hol, hcl, nl, hdl⟩ := hl
        obtain ⟨ocls, odict, odata, oslots⟩ := ol
        simp only at hcl hdl
        subst hcl; subst hdl
        have hol' : (s.heap.push (freshO w)).get? l = some { cls := .type "list", dict := odict, data := .seq items nl, slots := oslots } := Heap.get?_push_of_some _ hol
        have hsls := F.sub_list_set
        have hslf := F.sub_list_frozenset
        have hne' : (Value.type "list" == Value.type "dict") = false := by decide
        have hl1 : (s.heap.push (freshO w)).IsList l items := ⟨_, hol', rfl, nl, rfl⟩
        unfold Builtin.«set.__init__» noKeywords Builtin.Frozenset.updateFrom
        generalize hPI : pyIter = PI
        wp_walk
        subst hPI
        refine wpAny_pyIter_list hl1 ?_
        refine wpAny_bind (wpAny_runValue ?_)
        have hlS : l < s.heap.objs.size := Heap.lt_size hol
        have hh3 : A.in1.in1.in1.handled = none := by simp [hh]
        have hneI : l ≠ (s.heap.push (freshO w)).objs.size := by
          rw [Heap.size_push]; exact Nat.ne_of_lt (Nat.lt_succ_of_lt hlS)
        have hSf : s.heap.objs.size ∉ [(s.heap.push (freshO w)).objs.size, l] := by
          rw [Heap.size_push]; simp only [List.mem_cons, List.mem_singleton, List.not_mem_nil, or_false, not_or]
          exact ⟨Nat.ne_of_lt (Nat.lt_succ_self _), Nat.ne_of_gt hlS⟩
        have hval : ∀ (i : Nat) (v : Value), items[i]? = some v → ∃ p, ks[i]? = some p ∧ v = .ref p := fun i v hv => by
          have q : items.toList[i]? = some v := by rw [Array.getElem?_toList]; exact hv
          rw [hit, List.getElem?_map] at q
          cases hq : ks[i]? with
          | none => rw [hq] at q; cases q
          | some p =>
            rw [hq] at q
            exact ⟨p, rfl, (Option.some.inj q).symm⟩
        have none_of : ∀ b, s.heap.objs.size ≤ b → s.heap.get? b = none := fun b hb => by
          cases q : s.heap.get? b with
          | none => rfl
          | some o => exact absurd (Nat.lt_of_lt_of_le (Heap.lt_size q) hb) (Nat.lt_irrefl _)
        refine loop1 ((Walks.list hh3 _ l hneI items).toS) s.heap.objs.size
          hSf ks hisz hval s.heap hk (none_of _ (Nat.le_refl _)) (fun b hb => none_of b (by
            rw [List.mem_singleton.mp hb, Heap.size_push]
            exact Nat.le_succ _)) hu (items.size - 0) 0 _ (by omega) (Nat.zero_le _)
          ⟨⟨_, Heap.get?_push_size _ rfl, rfl, rfl⟩, (hl1.push _)⟩ (fun b o e => Heap.get?_push_of_some _ (Heap.get?_push_of_some _ e)) (.inl ⟨rfl, Heap.get?_push_of_some _ hS⟩) ?hR
        case hR =>
          intro s' hm hSo hkp
          obtain ⟨h', g2, d', tk', os'⟩ := s'
          have eg : g2 = s.gens := hm.gens
          have ed : d' = s.drawn := hm.drawn
          have eo : os' = s.os := hm.os
          subst eg; subst ed; subst eo
          show wpAny _ _ _ _ _ _
          refine wpAny_pure ?_
          show wpAny _ _ (ret Value.none) _ _ _
          rcases hSo with ⟨z, _⟩ | ⟨u, es, ep, t, hum, R1⟩
          · omega
          · exact wpAny_pure ⟨rfl, h', tk', u, es, ep, t, rfl, hum, R1, hkp⟩
      · cases r₂ with
        | error e => exact hr₂
        | ok fl₂ =>
          cases fl₂ with
          | ret r =>
            obtain ⟨rfl, h', tk, u, es, ep, t, rfl, hum, R1, hk'⟩ := hr₂
            repeat (any_goals (first | assumption | wp_step))
            exact h _ _ _ _ _ _ hum R1 hk'
          | _ => exact hr₂.elim
    | _ => exact hr.elim
theorem sorted1 {a u : Addr} {k : List Leaf} {es : Array (Int × Value)} {ep : Nat} {t : SetTable} {Q : Value → Shared → Prop} (R : SetO1 P w s.heap a u k es ep t) (hh : A.handled = none)
    (hQ : ∀ s' p (c : Nat), (∀ b o, s.heap.get? b = some o → s'.heap.get? b = some o) → s'.gens = s.gens → s'.os = s.os → s.heap.objs.size ≤ p →
      s'.heap.get? p = some (seqObj "list" #[.ref u] c) → Q (.ref p) s') :
    wpAny (model P w) A (call (.builtin "sorted") [.ref a]) Q E s := by
  obtain ⟨o, ho, hex, hd⟩ := R.ob
  have hes : es.toList.map (·.2) = [Value.ref u] := by rw [R.row]; rfl
  have hs1 : es.size = 1 := by rw [R.row]; rfl
  refine Calls.call_function_entry kind_sorted plain_sorted entry_sorted (args_sorted1 _) ?_
  unfold Builtin.«sorted»
  refine wpAny_bind (m := checkCount "sorted" 1 1 _) (wpAny_pure ?_)
  refine wpAny_bind (collect_set (A := A.in1) hh ⟨o, ho, hex.1, hd⟩ R.fits (by rw [hs1]; unfold scanBound; omega) R.tab.ris R.led fun s1 vs k1 hz g1 o1 pm => ?_)
  rw [hes] at pm
  have hvs : vs = [Value.ref u] := List.perm_singleton.mp pm
  subst hvs
  refine wpAny_bind (wpAny_newList ?_ (by rw [sizeLine_eq]; exact (by decide : (1 : Nat) ≤ 16777216)))
  have hoL : (s1.heap.push (seqObj "list" [Value.ref u].toArray 0)).get? s1.heap.objs.size = some (seqObj "list" [Value.ref u].toArray 0) := Heap.get?_push_size _ rfl
  refine wpAny_bind (wpAny_holding (wpAny_call_entry slot_list_sort ⟨_, hoL, rfl⟩ entry_list_sort (SrtO.list_sort_ord SrtO.swo_int hoL (by rw [sizeLine_eq]; exact (by decide : (1 : Nat) ≤ 16777216)) (fun z => absurd (show 2 ≤ 1 from z) (by decide)) fun out a1 a2 => ⟨_, rfl, ?_⟩) (args_list_sort _)))
  obtain ⟨c, hc⟩ := sortedHeap_at (vs := [Value.ref u]) (out := out.toArray) hoL
  have hout : out = [Value.ref u] := List.perm_singleton.mp a2.perm
  subst hout
  refine wpAny_pure ⟨_, rfl, hQ _ s1.heap.objs.size c (fun b v e => ?_) g1 o1 hz hc⟩
  have q := k1 b v e
  have hlt := Heap.lt_size q
  show (sortedHeap (s1.heap.push (seqObj "list" [Value.ref u].toArray 0)) s1.heap.objs.size [Value.ref u] _).get? b = some v
  rw [sortedHeap_old (Nat.ne_of_lt hlt) (by rw [size_push']; exact Nat.lt_succ_of_lt hlt)]
  exact Heap.get?_push_of_some _ q
end
end So

namespace So
open PySem PySem.Spec PyProof.Rows L2
def SetE (P : Program) (w : World) (a u : Addr) (k : List Leaf) : HO := .ext fun h => ∃ es ep t, SetO1 P w h a u k es ep t
theorem setE_new {P : Program} {w : World} {H : Hp} {h : Heap} {a u : Addr} {k : List Leaf} (R : ∃ es ep t, SetO1 P w h a u k es ep t) : ObjOk P w H h a (SetE P w a u k) := by
  obtain ⟨es, ep, t, R1⟩ := id R
  obtain ⟨o, ho, r⟩ := R1.ob
  refine ⟨R, ⟨o, ho⟩, fun h1 h2 p kp => ?_⟩
  obtain ⟨es', ep', t', q⟩ := (p : ∃ es ep t, SetO1 P w h1 a u k es ep t)
  exact ⟨es', ep', t', q.keep fun o e => kp o e⟩
def b2 (b : Bool) : Int := if b = true then 1 else 0
section
variable {X : Cx}
theorem Inv.isL {pins : List (Addr × Obj)} {σ : L2.St} {H : Hp} {s : Shared} {p : Addr} {c : Bool} {n : Int} (I : Inv X pins σ H s) (h : SqT X.K H p [.bl c, .int n]) : IsL X.prog X.w s.heap (numK (b2 c) n) p := by
  obtain ⟨its, r, ⟨o, ho, hc, m, hd⟩, _⟩ := I.tuple h
  refine ⟨o, its.toArray, m, ho, hc, hd, ?_⟩
  cases r with
  | cons r1 r =>
    cases r with
    | cons r2 r =>
      cases r
      cases r1
      obtain ⟨tk, rfl⟩ := r2
      show PySem.ItemsAre (leafKind _ _) [_, _] [_, _]
      exact .cons (by cases c <;> rfl) (.cons (leaf_int n tk) .nil)
/-- set(xs), xs a list of tuples (c, n) that all are alike -/
def rSet1 (K : PySem.W.Frag) (P : Program) (w : World) : List V → Hp → VK → Prop := fun xs H Q => ∃ (l : Addr) (ks : List Addr) (c : Bool) (n : Int), xs = [V.ref l] ∧ SqL K H l (ks.map V.ref) ∧ 0 < ks.length ∧ (∀ p ∈ ks, SqT K H p [.bl c, .int n]) ∧
  ∀ a u, H a = none → u ∈ ks → Q (.ref a) (upd H a (SetE P w a u (numK (b2 c) n)))
theorem vals_refs : ∀ {ks : List Addr} {us : List Value}, Vals (ks.map V.ref) us → us = ks.map Value.ref
  | [], _, .nil => rfl
  | p :: ks, _, .cons r t => by
    cases r
    rw [vals_refs t] <;> rfl
theorem cr_set1 (hc : X.calm = true) (hu : X.A.units + 64 < cLine) : CallR X (.type "set") (rSet1 X.K X.prog X.w) := by
  intro pins s σ H xs us Q I r h
  obtain ⟨l, ks, c, n, rfl, hl, hne, hk, q⟩ := h
  rw [Vals.ref1 r]
  obtain ⟨its, rv, pl, hz⟩ := I.list hl
  have hn : H s.heap.objs.size = none := I.hok.fresh (Nat.le_refl _)
  refine call_set1 (P := X.prog) (w := X.w) (x := b2 c) (y := n) ks (I.ok.hd hc) pl.isList (by simpa using vals_refs rv) hne (fun p hp => Inv.isL I (hk p hp)) (by omega) fun h' tk u es ep t hum R k => ?_
  exact ⟨.ref s.heap.objs.size, upd H s.heap.objs.size (SetE X.prog X.w s.heap.objs.size u _), I.laid (t' := tk) k (Nat.le_refl _) (setE_new ⟨es, ep, t, R⟩), rfl, q _ u hn hum⟩
/-- sorted(set) -/
def rSorted1 (P : Program) (w : World) : List V → Hp → VK → Prop := fun vs H Q => ∃ (a u : Addr) (k : List Leaf), vs = [V.ref a] ∧ H a = some (SetE P w a u k) ∧ ∀ p, H p = none → Q (.ref p) (upd H p (.lst [V.ref u]))
theorem cr_sorted1 (hc : X.calm = true) : CallR X (.builtin "sorted") (rSorted1 X.prog X.w) := by
  intro pins s σ H vs us Q I r h
  obtain ⟨a, u, k, rfl, ha, q⟩ := h
  obtain ⟨es, ep, t, R⟩ : ∃ es ep t, SetO1 X.prog X.w s.heap a u k es ep t := (I.hok a _ ha).1
  rw [Vals.ref1 r]
  refine sorted1 R (I.ok.hd hc) fun s' p c k g o hp hg => ?_
  have hlen : [V.ref u].length ≤ sizeLine := by rw [sizeLine_eq]; exact (by decide : (1 : Nat) ≤ 16777216)
  have hn : H p = none := I.hok.fresh hp
  have hv : Vals [V.ref u] [Value.ref u] := .cons rfl .nil
  have J : Inv X pins σ (upd H p (.lst [V.ref u])) { s with heap := s'.heap, gens := s'.gens, drawn := s'.drawn, toks := s'.toks } :=
    I.call (ch := []) (Un.laid k hp hn) (I.hok.laid k hp ⟨hlen, [Value.ref u], c, hv, hg⟩) (by rw [g]; exact I.bare) (fun _ z => nomatch z)
  have e : s' = { s with heap := s'.heap, gens := s'.gens, drawn := s'.drawn, toks := s'.toks } := by
    cases s'
    cases s
    cases o
    rfl
  rw [e]
  exact ⟨.ref p, _, J, rfl, q p hn⟩
end
end So

namespace Ru
open PySem PySem.Spec PyProof.Rows L2
/-! ### C.m(..): a def of a class, read off the class and called with all its arguments -/
section
variable {X : Cx} {pins : List (Addr × Obj)} {σ : L2.St} {H : Hp} {s : Shared} {C g : Addr} {mc : Value} {m : Str} {A : Around} {E0 : Value → Shared → Prop}
theorem getcf_ok {pl : Sem Bool} {Q : Value × List Value → Shared → Prop} (I : Inv X pins σ H s) (r : ClX.CRead X.K C mc) (k : ClX.CVal X.K C mc m (.ref g) (.ref g)) (h : ∀ s', Inv X pins σ H s' → Q (.ref g, []) s') :
    wpAny (model X.prog X.w) A (getMethod (.ref C) m pl) Q E0 s := PySem.W.method_cls I.kIn r.ga (ClX.getcval_ok I r k h)
end
def tCFn (C : Addr) (sp : Sp) (E : XK) (ta : TE) (t : TA) : TE := fun σ H Q => ta σ H fun x H1 => x = .ref C ∧ t σ H1 fun vs H2 => sp vs H2 Q E
theorem pe_cfn {X : Cx} {CX : CXT} {k : Nat} {C g : Addr} {mc : Value} {sp : Sp} {E : XK} {o e : Expr} {es : List Expr} {m : Str} {pos apos : Pos} {ta : TE} {t : TA} {pl : Sem Bool}
    (he : PE X o ta) (r : ClX.CRead X.K C mc) (c : ClX.CVal X.K C mc m (.ref g) (.ref g)) (hk : PySem.W.keepIn X.K (.ref g) = true) (F : FnR X.prog X.w X.K X.mg X.base CX k g sp) (hr : Room k X.A) (hx : Passes CX X E) (ha : PA X (e :: es) t)
    (hst : starEach (e :: es) X.env = (false, eval e X.env) :: starEach es X.env := by rfl) (hpl : (backTo pos (starEach es X.env)).any (·.1) = false := by rfl)
    (ht : eval (.Call (.Attribute o m apos) (e :: es) [] pos) X.env = (do
      let ov ← eval o X.env
      standAt apos.atName
      let (f, first) ← holding [ov] (getMethod ov m pl)
      callWith pos f first (backTo pos (starEach (e :: es) X.env)) (backToKw pos (keywordEach [] X.env))) := by rfl) :
    PE X (.Call (.Attribute o m apos) (e :: es) [] pos) (tCFn C sp E ta t) := by
  refine ⟨fun pins s σ H Q I h => ?_⟩
  refine PySem.W.methodCall_KW (pl := pl) (thn (he.run pins s σ H _ I h) fun u s1 ⟨x, H1, I1, rx, ex, q⟩ => ?_) ht
  subst ex
  obtain rfl : u = Value.ref C := rx
  refine getcf_ok I1 r c fun s2 I2 => ?_
  refine PySem.W.callWith_K (first := []) (h₀ := X.base) I.ok.mod.kin hk (thn (ha.run pos pins s2 σ H1 _ I2 q) fun us s3 ⟨vs, H2, I3, rv, q2⟩ => ⟨I3.kIn, ?_⟩) hst hpl
  exact wpAny_call (run_fnR F hr hx I3 rv q2)
/-! ### x == y, x != y of two instances of one class by an __eq__ of the text's own -/
section
variable {prog : Program} {w : World} {A : Around} {E : Value → Shared → Prop} {s : Shared} {K : PySem.W.Frag} {x C f : Addr} {ox : Obj} {od : Option Obj} {b tb : Value}
theorem ifBound_objNe {M : Model} {args : List Value} {Q : Option Value → Shared → Prop} (X : K.In s.heap) (I : PySem.W.InstAt s.heap x ox C od) (hs : PySem.W.findIn K (.ref C) "__ne__" = some (some (.builtin "object.__ne__")))
    (h : wpAny M A (call (.builtin "object.__ne__") (.ref x :: args)) (fun v => Q (some v)) E s) : wpAny M A (callSpecialIfBound? (.ref x) "__ne__" args) Q E s := by
  simp only [callSpecialIfBound?, bindSpecialIfBound?]
  refine wpAny_holding (wpAny_bind (wpAny_bind (wpAny_bind (I.type.here ((PySem.W.looks_findIn X hs).here ?_)))))
  refine wpAny_bind (wpAny_askSetting (wpAny_ite ?_))
  have fin : wpAny M A (call (.builtin "object.__ne__") ([.ref x] ++ args) >>= fun v => pure (some v)) Q E s := wpAny_bind (wpAny_mono h (fun v s' h' => wpAny_pure h') fun _ _ h' => h')
  split
  · exact wpAny_bind (wpAny_of_eq (F.cmp_object.ne.bind _) (wpAny_pure (by exact fin)))
  · exact wpAny_tryCatch (wpAny_bind (wpAny_of_eq (F.cmp_object.ne.bind _) (wpAny_pure (by exact fin))))
open Builtin in
theorem objNe_entry {Q : Fin → Shared → Prop} (X : K.In s.heap) (I : PySem.W.InstAt s.heap x ox C od) (hs : PySem.W.findIn K (.ref C) "__eq__" = some (some (.ref f))) (hf : PySem.W.isFn K (.ref f) = true) (hu : A.units < cLine)
    (hcall : wpAny (model prog w) A (call (.ref f) [.ref x, b]) (fun v s' => ∃ r, v = .bool r ∧ Q (.done (.ret (.bool (!r)))) s') E s) :
    wpAny (model prog w) A (Builtin.«object.__ne__» ⟨[.ref x, b], []⟩) Q E s := by
  unfold Builtin.«object.__ne__»
  repeat (first
    | with_reducible refine wpAny_cRoomFor hu ?_
    | (refine wpAny_bind (m := callSpecialIfBound? (.ref x) (Str.ofString "__eq__") [b])
        (PySem.W.ifBound_K X I hs hf (wpAny_mono hcall (fun r s' hr => by
          obtain ⟨c, rfl, hq⟩ := hr
          repeat (first | exact hq | exact wpAny_pure hq | exact wpAny_truthy_bool hq | (refine wpAny_bind (m := truthy (.bool _)) (wpAny_truthy_bool ?_)) | wp_step)) fun _ _ e => e)))
    | wp_step)
theorem try_ne {Q : Option Value → Shared → Prop} (X : K.In s.heap) (I : PySem.W.InstAt s.heap x ox C od) (hm : PySem.W.mroIn K C (.type "object") = some true) (hn : PySem.W.findIn K (.ref C) "__ne__" = some (some (.builtin "object.__ne__")))
    (hs : PySem.W.findIn K (.ref C) "__eq__" = some (some (.ref f))) (hf : PySem.W.isFn K (.ref f) = true) (hu : A.units + 1 < cLine)
    (hcall : wpAny (model prog w) A.in1 (call (.ref f) [.ref x, b]) (fun v s' => ∃ r, v = .bool r ∧ Q (some (.bool (!r))) s') E s) :
    wpAny (model prog w) A (tryCompare (.ref x) "__ne__" b) Q E s := by
  unfold tryCompare
  refine wpAny_bind (ifBound_objNe X I hn (wpAny_call (codeAny_call_builtin F.cmp_object.ne.plain F.cmpEntry_ne (PySem.W.check_slot F.cmpKind_ne F.cmpSplit_ne (I.type.andThen (PySem.W.looks_mroIn X hm)) (F.cmpArgs_ne _ _)
    (objNe_entry X I hs hf hu (wpAny_mono hcall (fun v s' hv => ?_) fun _ _ e => e))))))
  obtain ⟨r, rfl, hq⟩ := hv
  first | exact ⟨r, rfl, wpAny_pure hq⟩ | exact ⟨r, rfl, wpAny_pure (wpAny_pure hq)⟩ | exact ⟨r, rfl, hq⟩
theorem rich_ne {L : Addr} {h₀ : Heap} {m : Str → Option Value} {Q : Value → Shared → Prop} (hu : A.units + 1 < cLine) (F : Fr h₀ L s.heap m) (X₀ : K.In h₀) (I : PySem.W.InstAt s.heap x ox C od) (hb : PySem.W.Looks (model prog w) s.heap (typeOf b) tb)
    (hnf : PySem.W.notFirst K C tb = true) (hm : PySem.W.mroIn K C (.type "object") = some true) (hn : PySem.W.findIn K (.ref C) "__ne__" = some (some (.builtin "object.__ne__")))
    (hs : PySem.W.findIn K (.ref C) "__eq__" = some (some (.ref f))) (hf : PySem.W.isFn K (.ref f) = true)
    (hcall : wpAny (model prog w) A.in1 (call (.ref f) [.ref x, b]) (fun v s' => ∃ r, v = .bool r ∧ Q (.bool (!r)) s') E s) : wpAny (model prog w) A (richCompare .NotEq (.ref x) b) Q E s := by
  have X := X₀.keeps F.keep
  have one : wpAny (model prog w) A (tryCompare (.ref x) (cmpInfo .NotEq).2.1 b) (fun r s' => ∃ v, r = some v ∧ Q v s') E s :=
    try_ne X I hm hn hs hf hu (wpAny_mono hcall (fun v s' ⟨r, e, q⟩ => ⟨r, e, _, rfl, q⟩) fun _ _ e => e)
  unfold richCompare
  simp only [oneThing_ref]
  refine wpAny_holding (wpAny_bind (wpAny_cRoomFor (Nat.lt_of_succ_lt hu) ?_))
  refine wpAny_bind (I.type.here (wpAny_bind (hb.here ?_)))
  split
  · rename_i q
    have e : PySem.W.subIn K tb (.ref C) = some false := by
      rcases Bool.or_eq_true_iff.mp hnf with e | e
      · rw [beq_iff_eq.mp e] at q; simp at q
      · exact beq_iff_eq.mp e
    refine wpAny_bind ((PySem.W.looks_subIn X e).here ?_)
    simp only [Bool.false_eq_true, if_false]
    refine wpAny_bind (wpAny_mono one (fun r s' z => ?_) fun _ _ e => e)
    obtain ⟨v, rfl, hq⟩ := z
    exact wpAny_pure hq
  · refine wpAny_bind (wpAny_pure ?_)
    simp only [Bool.false_eq_true, if_false]
    refine wpAny_bind (wpAny_mono one (fun r s' z => ?_) fun _ _ e => e)
    obtain ⟨v, rfl, hq⟩ := z
    exact wpAny_pure hq
end
/-- what the text's class must have: its own ==, and no != -/
structure EqC (K : PySem.W.Frag) (C f : Addr) : Prop where
  eq : PySem.W.findIn K (.ref C) "__eq__" = some (some (.ref f))
  fn : PySem.W.isFn K (.ref f) = true
  ne : PySem.W.findIn K (.ref C) "__ne__" = some (some (.builtin "object.__ne__"))
  ob : PySem.W.mroIn K C (.type "object") = some true
def rInsEq (C : Addr) (sp : Sp) (E : XK) (neg : Bool) : R2 := fun x y H Q => ∃ a b dx dy fs gs, x = .ref a ∧ y = .ref b ∧ H a = some (.ins C dx fs) ∧ H b = some (.ins C dy gs) ∧ sp [x, y] H (fun v H' => ∃ r, v = .bl r ∧ Q (.bl (if neg then !r else r)) H') E
section
variable {X : Cx} {CX : CXT} {k : Nat} {C f : Addr} {sp : Sp} {E : XK}
theorem op_eqI (c : EqC X.K C f) (F : FnR X.prog X.w X.K X.mg X.base CX k f sp) (hr : Room k X.A) (hx : Passes CX X E) : OpR X (compareOp .Eq) (rInsEq C sp E false) := by
  intro pins s σ H x y v u Q I rx ry h
  obtain ⟨a, b, dx, dy, fs, gs, rfl, rfl, ha, hb, q⟩ := h
  cases rx
  cases ry
  show wpAny (model X.prog X.w) X.A (richCompare .Eq (.ref a) (.ref b)) (EP X pins σ Q) X.xe s
  obtain ⟨mA, J, _⟩ := ins_get I.hok ha
  obtain ⟨mB, J', _⟩ := ins_get I.hok hb
  obtain ⟨od, J, _⟩ := J.look
  obtain ⟨od', J', _⟩ := J'.look
  obtain ⟨m, hF⟩ := I.fr
  refine PySem.W.cmp_K (op := .Eq) (tb := .ref C) hr.units0 hF I.ok.mod.kin J J'.type (by simp [PySem.W.notFirst]) c.eq c.fn ?_
  refine thn (wpAny_call (run_fnR (us := [.ref a, .ref b]) (vs := [.ref a, .ref b]) F hr hx I (.cons rfl (.cons rfl .nil)) q)) fun w s' ⟨z, H', I', rz, r, ez, q'⟩ => ?_
  subst ez
  cases rz
  exact ⟨.bl r, H', I', rfl, q'⟩
theorem op_neI (c : EqC X.K C f) (F : FnR X.prog X.w X.K X.mg X.base CX k f sp) (hr : Room (k + 1) X.A) (hx : Passes CX X E) : OpR X (compareOp .NotEq) (rInsEq C sp E true) := by
  intro pins s σ H x y v u Q I rx ry h
  obtain ⟨a, b, dx, dy, fs, gs, rfl, rfl, ha, hb, q⟩ := h
  cases rx
  cases ry
  show wpAny (model X.prog X.w) X.A (richCompare .NotEq (.ref a) (.ref b)) (EP X pins σ Q) X.xe s
  obtain ⟨mA, J, _⟩ := ins_get I.hok ha
  obtain ⟨mB, J', _⟩ := ins_get I.hok hb
  obtain ⟨od, J, _⟩ := J.look
  obtain ⟨od', J', _⟩ := J'.look
  obtain ⟨m, hF⟩ := I.fr
  refine rich_ne (tb := .ref C) (Nat.lt_of_le_of_lt (Nat.add_le_add_left (by decide : 1 ≤ 64) _) hr.units) hF I.ok.mod.kin J J'.type (by simp [PySem.W.notFirst]) c.ob c.ne c.eq c.fn ?_
  have e0 : Env0 X.prog X.w X.K X.mg X.base X.A.in1 X.stack s H := I.env0.in1
  refine wpAny_call (codeAny_mono (F X.A.in1 X.stack s H [.ref a, .ref b] [.ref a, .ref b] _ E hr.in1 e0 (.cons rfl (.cons rfl .nil)) q) fun r s' hq => ?_)
  cases r with
  | error e => exact hx pins σ H s e s' I hq
  | ok fl =>
    cases fl with
    | ret w =>
      obtain ⟨z, H', I', rz, c', ez, q'⟩ := I.after hq
      subst ez
      cases rz
      exact ⟨c', rfl, .bl (!c'), H', I', rfl, q'⟩
    | next => exact False.elim hq
    | brk => exact False.elim hq
    | cont => exact False.elim hq
end
end Ru

namespace Ru
open PySem PySem.Spec PyProof.Rows L2
/-! ### a op b op c op d .. of any length, as a test and as a value -/
structure PTC (X : Cx) (ops : List CmpOp) (es : List Expr) (t : V → TT) : Prop where
  run : ∀ (pos : Pos) (pins : List (Addr × Obj)) (s : Shared) (σ : L2.St) (H : Hp) (x : V) (v : Value) (Q : Bool → Hp → Prop), Inv X pins σ H s → RelV x v → t x σ H Q → wpAny (model X.prog X.w) X.A (testChain pos v ops (evalEach es X.env)) (TP X pins σ Q) X.xe s
structure PEC (X : Cx) (ops : List CmpOp) (es : List Expr) (t : V → TE) : Prop where
  run : ∀ (pos : Pos) (pins : List (Addr × Obj)) (s : Shared) (σ : L2.St) (H : Hp) (x : V) (v : Value) (Q : VK), Inv X pins σ H s → RelV x v → t x σ H Q → wpAny (model X.prog X.w) X.A (compareChain pos v ops (evalEach es X.env)) (EP X pins σ Q) X.xe s
section
variable {X : Cx} {op op' op1 op2 : CmpOp} {ops : List CmpOp} {r : R2} {a b e e1 e2 : Expr} {es : List Expr} {ta tb : TE} {t : V → TT} {u : V → TE} {pos : Pos}
def cLast (r : R2) (tb : TE) : V → TT := fun x σ H Q => tb σ H fun y H1 => r x y H1 fun z H2 => ∃ k, z = .bl k ∧ Q k H2
def cLink (r : R2) (tb : TE) (t : V → TT) : V → TT := fun x σ H Q => tb σ H fun y H1 => r x y H1 fun z H2 => ∃ k, z = .bl k ∧ if k = true then t y σ H2 Q else Q false H2
def vLast (r : R2) (tb : TE) : V → TE := fun x σ H Q => tb σ H fun y H1 => r x y H1 Q
def vLink (r : R2) (tb : TE) (t : V → TE) : V → TE := fun x σ H Q => tb σ H fun y H1 => r x y H1 fun z H2 => ∃ k, z = .bl k ∧ if k = true then t y σ H2 Q else Q (.bl false) H2
theorem ptc_last (ho : OpR X (compareOp op) r) (hb : PE X b tb) : PTC X [op] [b] (cLast r tb) := by
  refine ⟨fun pos pins s σ H x v Q I rx h => ?_⟩
  show wpAny _ _ (testChain pos v [op] [eval b X.env]) _ _ s
  refine test_last (thn (hb.run pins s σ H _ I h) fun u s1 ⟨y, H1, I1, r1, q1⟩ => thn (ho pins s1 σ H1 x y v u _ I1 rx r1 q1) fun c s2 ⟨z, H2, I2, r2, k, e, q⟩ => ?_)
  subst e
  cases r2
  exact wpAny_truthy_bool ⟨H2, I2, q⟩
theorem ptc_link (ho : OpR X (compareOp op) r) (hb : PE X b tb) (hr : PTC X (op' :: ops) (e :: es) t) : PTC X (op :: op' :: ops) (b :: e :: es) (cLink r tb t) := by
  refine ⟨fun pos pins s σ H x v Q I rx h => ?_⟩
  show wpAny _ _ (testChain pos v (op :: op' :: ops) (eval b X.env :: eval e X.env :: evalEach es X.env)) _ _ s
  refine test_link (thn (hb.run pins s σ H _ I h) fun u s1 ⟨y, H1, I1, r1, q1⟩ => thn (ho pins s1 σ H1 x y v u _ I1 rx r1 q1) fun c s2 ⟨z, H2, I2, r2, k, e, q⟩ => ?_)
  subst e
  cases r2
  refine wpAny_truthy_bool ?_
  cases k with
  | false => exact ite_ff ⟨H2, I2, q⟩
  | true => exact ite_tt (hr.run pos pins s2 σ H2 y u Q I2 r1 q)
theorem pec_last (ho : OpR X (compareOp op) r) (hb : PE X b tb) : PEC X [op] [b] (vLast r tb) := by
  refine ⟨fun pos pins s σ H x v Q I rx h => ?_⟩
  show wpAny _ _ (compareChain pos v [op] [eval b X.env]) _ _ s
  exact chain_last (thn (hb.run pins s σ H _ I h) fun u s1 ⟨y, H1, I1, r1, q1⟩ => ho pins s1 σ H1 x y v u _ I1 rx r1 q1)
theorem pec_link (ho : OpR X (compareOp op) r) (hb : PE X b tb) (hr : PEC X (op' :: ops) (e :: es) u) : PEC X (op :: op' :: ops) (b :: e :: es) (vLink r tb u) := by
  refine ⟨fun pos pins s σ H x v Q I rx h => ?_⟩
  show wpAny _ _ (compareChain pos v (op :: op' :: ops) (eval b X.env :: eval e X.env :: evalEach es X.env)) _ _ s
  refine chain_link (thn (hb.run pins s σ H _ I h) fun u s1 ⟨y, H1, I1, r1, q1⟩ => thn (ho pins s1 σ H1 x y v u _ I1 rx r1 q1) fun c s2 ⟨z, H2, I2, r2, k, e, q⟩ => ?_)
  subst e
  cases r2
  refine wpAny_truthy_bool ?_
  cases k with
  | false => exact ite_ff ⟨.bl false, H2, I2, rfl, q⟩
  | true => exact ite_tt (hr.run pos pins s2 σ H2 y u Q I2 r1 q)
theorem pt_chainN (ha : PE X a ta) (hc : PTC X (op1 :: op2 :: ops) (e1 :: e2 :: es) t) (hm : lastMarks (op1 :: op2 :: ops) (e1 :: e2 :: es) = false := by with_unfolding_all rfl) :
    PT X (.Compare a (op1 :: op2 :: ops) (e1 :: e2 :: es) pos) (fun σ H Q => ta σ H fun x H1 => t x σ H1 Q) :=
  ⟨fun pins s σ H Q I h => isTrue_chain (thn (ha.run pins s σ H _ I h) fun v s1 ⟨x, H1, I1, r1, q1⟩ => hc.run pos pins s1 σ H1 x v Q I1 r1 q1) hm⟩
theorem pe_chainN (ha : PE X a ta) (hc : PEC X (op1 :: op2 :: ops) (e1 :: e2 :: es) u) (hm : lastMarks (op1 :: op2 :: ops) (e1 :: e2 :: es) = false := by with_unfolding_all rfl) :
    PE X (.Compare a (op1 :: op2 :: ops) (e1 :: e2 :: es) pos) (fun σ H Q => ta σ H fun x H1 => u x σ H1 Q) :=
  ⟨fun pins s σ H Q I h => Compare_chain (thn (ha.run pins s σ H _ I h) fun v s1 ⟨x, H1, I1, r1, q1⟩ => hc.run pos pins s1 σ H1 x v Q I1 r1 q1) hm⟩
end
/-! ### the truth of an instance by an own __bool__ -/
structure BoolC (K : PySem.W.Frag) (C f : Addr) : Prop where
  bo : PySem.W.findIn K (.ref C) "__bool__" = some (some (.ref f))
  fn : PySem.W.isFn K (.ref f) = true
def rInsTru (C : Addr) (sp : Sp) (E : XK) : V → Hp → (Bool → Hp → Prop) → Prop := fun x H Q => ∃ a dx fs, x = .ref a ∧ H a = some (.ins C dx fs) ∧ sp [x] H (fun v H' => ∃ r, v = .bl r ∧ Q r H') E
theorem tru_own {X : Cx} {CX : CXT} {k : Nat} {C f : Addr} {sp : Sp} {E : XK} (c : BoolC X.K C f) (F : FnR X.prog X.w X.K X.mg X.base CX k f sp) (hr : Room k X.A) (hx : Passes CX X E) : TruR X (rInsTru C sp E) := by
  intro pins s σ H x v Q I rx h
  obtain ⟨a, dx, fs, rfl, ha, q⟩ := h
  cases rx
  obtain ⟨mA, J, _⟩ := ins_get I.hok ha
  obtain ⟨od, J, _⟩ := J.look
  obtain ⟨m, hF⟩ := I.fr
  refine PySem.W.truthy_K hF I.ok.mod.kin J c.bo c.fn ?_
  refine thn (wpAny_call (run_fnR (us := [.ref a]) (vs := [.ref a]) F hr hx I (.cons rfl .nil) q)) fun w s' ⟨z, H', I', rz, r, ez, q'⟩ => ?_
  subst ez
  cases rz
  exact ⟨H', I', q'⟩
theorem TruR.or {X : Cx} {r r' : V → Hp → (Bool → Hp → Prop) → Prop} (h : TruR X r) (h' : TruR X r') : TruR X (fun x H Q => r x H Q ∨ r' x H Q) := by
  intro pins s σ H x v Q I rx q
  rcases q with q | q
  · exact h pins s σ H x v Q I rx q
  · exact h' pins s σ H x v Q I rx q
theorem OpR.or {X : Cx} {f : Value → Value → Sem Value} {r r' : R2} (h : OpR X f r) (h' : OpR X f r') : OpR X f (fun x y H Q => r x y H Q ∨ r' x y H Q) := by
  intro pins s σ H x y v u Q I rx ry q
  rcases q with q | q
  · exact h pins s σ H x y v u Q I rx ry q
  · exact h' pins s σ H x y v u Q I rx ry q
theorem CallR.or {X : Cx} {f : Value} {r r' : List V → Hp → VK → Prop} (h : CallR X f r) (h' : CallR X f r') : CallR X f (fun xs H Q => r xs H Q ∨ r' xs H Q) := by
  intro pins s σ H xs us Q I rx q
  rcases q with q | q
  · exact h pins s σ H xs us Q I rx q
  · exact h' pins s σ H xs us Q I rx q
/-- a built-in type is no class of the text -/
theorem op_isTR {X : Cx} : OpR X (compareOp .Is) (fun x y H Q => ∃ m a, x = .ty m ∧ y = .ref a ∧ Q (.bl false) H) := by
  intro pins s σ H x y v u Q I rx ry h
  obtain ⟨m, a, rfl, rfl, q⟩ := h
  cases (show v = Value.type m from rx)
  cases (show u = Value.ref a from ry)
  exact wpAny_is_other rfl (fun z => nomatch z) ⟨.bl false, H, I, rfl, q⟩
theorem op_isnotTR {X : Cx} : OpR X (compareOp .IsNot) (fun x y H Q => ∃ m a, x = .ty m ∧ y = .ref a ∧ Q (.bl true) H) := by
  intro pins s σ H x y v u Q I rx ry h
  obtain ⟨m, a, rfl, rfl, q⟩ := h
  cases (show v = Value.type m from rx)
  cases (show u = Value.ref a from ry)
  exact wpAny_isNot_other rfl (fun z => nomatch z) ⟨.bl true, H, I, rfl, q⟩
theorem pi_seq {X : Cx} {tg l : Expr} {tl : TE} (hl : PE X l tl) : PI X tg l (fun σ H R => iTup X.K tl σ H R ∨ iList X.K tl σ H R) :=
  ⟨fun pins s σ H R I h => h.elim (fun h => (pi_tup hl).run pins s σ H R I h) fun h => (pi_list hl).run pins s σ H R I h⟩
/-- f(k = v, ..) without positional arguments -/
theorem pe_callK0 {X : Cx} {CX : CXT} {k : Nat} {f : Addr} {fd : FuncData} {ps ks : List Str} {sp : Sp} {E : XK} {x : Str} {p pos : Pos} {kws : List Keyword} {tk : TA} {g : List Value → List Value → List Value} {gV : List V → List V → List V}
    (F : FnOk X.prog X.w X.K X.mg X.base CX k f fd ps sp) (hr : Room k X.A) (hg : Gl X x) (hm : X.mg x = some (.ref f)) (hk : PySem.W.keepIn X.K (.ref f) = true) (hb : KBinds X.K fd ps ks g gV) (hx : Passes CX X E)
    (hkw : PK X kws tk) (hall : (backToKw pos (keywordEach kws X.env)).all (·.1.isSome) = true := by rfl) (hks : (backToKw pos (keywordEach kws X.env)).filterMap (·.1) = ks := by rfl)
    (hdb : (x == ("__debug__" : Str)) = false := by decide)
    (hpl : ((backTo pos (starEach [] X.env)).any (·.1) || (backToKw pos (keywordEach kws X.env)).any (·.1.isNone)) = false := by rfl) :
    PE X (.Call (.Name x p) [] kws pos) (tCallK sp gV E tNil tk) := by
  refine ⟨fun pins s σ H Q I h => ?_⟩
  refine wpAny_Call_Name_kw (ld_glob I hg hm ?_ hdb)
  refine PySem.W.callWith_KW0 I.kIn hk hall (thn (hkw.run pos pins s σ H _ I h) fun ws s2 ⟨zs, H2, I2, rz, q2⟩ => ?_) hpl
  rw [hks]
  exact ⟨I2.kIn, run_fnk F hr hb hx I2 .nil rz q2⟩
end Ru

namespace Q
open PySem PySem.Spec PyProof.Rows L2
def top (i : Nat) : Stmt := PySem.Challenge.pw_fourthlike_k20_papers_on_powers_bent.main.body.getD i (.Pass ⟨0, 0, 0, 0⟩)
abbrev s_is_integer : Stmt := top 1
abbrev n_is_integer : List Str := ["value"]
theorem sc_is_integer : FnScope ["value"] ["value"] (defScope s_is_integer) := ⟨rfl, rfl, rfl, by decide +kernel, rfl, by decide +kernel, by decide +kernel⟩
abbrev s_is_within : Stmt := top 2
abbrev n_is_within : List Str := ["value", "least", "most"]
theorem sc_is_within : FnScope ["value", "least", "most"] ["value", "least", "most"] (defScope s_is_within) := ⟨rfl, rfl, rfl, by decide +kernel, rfl, by decide +kernel, by decide +kernel⟩
abbrev s_need_within : Stmt := top 10
abbrev n_need_within : List Str := ["part", "value", "least", "most"]
theorem sc_need_within : FnScope ["part", "value", "least", "most"] ["part", "value", "least", "most"] (defScope s_need_within) := ⟨rfl, rfl, rfl, by decide +kernel, rfl, by decide +kernel, by decide +kernel⟩
abbrev s_need_growing : Stmt := top 11
abbrev n_need_growing : List Str := ["a", "b", "c", "d"]
theorem sc_need_growing : FnScope ["a", "b", "c", "d"] ["a", "b", "c", "d"] (defScope s_need_growing) := ⟨rfl, rfl, rfl, by decide +kernel, rfl, by decide +kernel, by decide +kernel⟩
abbrev s_fixed : Stmt := top 13
abbrev n_fixed : List Str := ["value", "one"]
theorem sc_fixed : FnScope ["value", "one"] ["value"] (defScope s_fixed) := ⟨rfl, rfl, rfl, by decide +kernel, rfl, by decide +kernel, by decide +kernel⟩
abbrev s_Paper__init__ : Stmt := inClass (top 14) 0
abbrev n_Paper__init__ : List Str := ["self", "word", "parts"]
theorem sc_Paper__init__ : FnScope ["self", "word", "parts"] ["self", "word", "parts"] (defScope s_Paper__init__) := ⟨rfl, rfl, rfl, by decide +kernel, rfl, by decide +kernel, by decide +kernel⟩
abbrev s_Denial__init__ : Stmt := inClass (top 15) 0
abbrev n_Denial__init__ : List Str := ["self", "word", "parts"]
theorem sc_Denial__init__ : FnScope ["self", "word", "parts"] ["self", "word", "parts"] (defScope s_Denial__init__) := ⟨rfl, rfl, rfl, by decide +kernel, rfl, by decide +kernel, by decide +kernel⟩
abbrev s_raised : Stmt := top 17
abbrev n_raised : List Str := ["number", "times", "found"]
theorem sc_raised : FnScope ["number", "times", "found"] ["number", "times"] (defScope s_raised) := ⟨rfl, rfl, rfl, by decide +kernel, rfl, by decide +kernel, by decide +kernel⟩
abbrev s_whole_sum : Stmt := top 18
abbrev n_whole_sum : List Str := ["a", "b", "c", "d", "power"]
theorem sc_whole_sum : FnScope ["a", "b", "c", "d", "power"] ["a", "b", "c", "d", "power"] (defScope s_whole_sum) := ⟨rfl, rfl, rfl, by decide +kernel, rfl, by decide +kernel, by decide +kernel⟩
abbrev s_is_by_power : Stmt := top 19
abbrev n_is_by_power : List Str := ["a", "b", "c", "d", "power"]
theorem sc_is_by_power : FnScope ["a", "b", "c", "d", "power"] ["a", "b", "c", "d", "power"] (defScope s_is_by_power) := ⟨rfl, rfl, rfl, by decide +kernel, rfl, by decide +kernel, by decide +kernel⟩
abbrev s_ByPower__init__ : Stmt := inClass (top 21) 0
abbrev n_ByPower__init__ : List Str := ["self", "power"]
theorem sc_ByPower__init__ : FnScope ["self", "power"] ["self", "power"] (defScope s_ByPower__init__) := ⟨rfl, rfl, rfl, by decide +kernel, rfl, by decide +kernel, by decide +kernel⟩
abbrev s_Between__init__ : Stmt := inClass (top 22) 0
abbrev n_Between__init__ : List Str := ["self", "low"]
theorem sc_Between__init__ : FnScope ["self", "low"] ["self", "low"] (defScope s_Between__init__) := ⟨rfl, rfl, rfl, by decide +kernel, rfl, by decide +kernel, by decide +kernel⟩
abbrev s_power_of : Stmt := top 23
abbrev n_power_of : List Str := ["a", "b", "c", "d", "way", "power", "found"]
theorem sc_power_of : FnScope ["a", "b", "c", "d", "way", "power", "found"] ["a", "b", "c", "d"] (defScope s_power_of) := ⟨rfl, rfl, rfl, by decide +kernel, rfl, by decide +kernel, by decide +kernel⟩
abbrev s_Uneven__init__ : Stmt := inClass (top 25) 0
abbrev n_Uneven__init__ : List Str := ["self", "step"]
theorem sc_Uneven__init__ : FnScope ["self", "step"] ["self", "step"] (defScope s_Uneven__init__) := ⟨rfl, rfl, rfl, by decide +kernel, rfl, by decide +kernel, by decide +kernel⟩
abbrev s_Whole__init__ : Stmt := inClass (top 27) 0
abbrev n_Whole__init__ : List Str := ["self", "number"]
theorem sc_Whole__init__ : FnScope ["self", "number"] ["self", "number"] (defScope s_Whole__init__) := ⟨rfl, rfl, rfl, by decide +kernel, rfl, by decide +kernel, by decide +kernel⟩
abbrev s_NoWhole__init__ : Stmt := inClass (top 28) 0
abbrev n_NoWhole__init__ : List Str := ["self", "low"]
theorem sc_NoWhole__init__ : FnScope ["self", "low"] ["self", "low"] (defScope s_NoWhole__init__) := ⟨rfl, rfl, rfl, by decide +kernel, rfl, by decide +kernel, by decide +kernel⟩
abbrev s_is_between : Stmt := top 30
abbrev n_is_between : List Str := ["a", "b", "c", "d", "low", "near", "far"]
theorem sc_is_between : FnScope ["a", "b", "c", "d", "low", "near", "far"] ["a", "b", "c", "d", "low"] (defScope s_is_between) := ⟨rfl, rfl, rfl, by decide +kernel, rfl, by decide +kernel, by decide +kernel⟩
abbrev s_shows_power : Stmt := top 31
abbrev n_shows_power : List Str := ["a", "b", "c", "d", "value"]
theorem sc_shows_power : FnScope ["a", "b", "c", "d", "value"] ["a", "b", "c", "d", "value"] (defScope s_shows_power) := ⟨rfl, rfl, rfl, by decide +kernel, rfl, by decide +kernel, by decide +kernel⟩
abbrev s__law_hat : Stmt := top 33
abbrev n__law_hat : List Str := ["_law_script", "_law_cell"]
theorem sc__law_hat : FnScope ["_law_script", "_law_cell"] ["_law_script"] (defScope s__law_hat) := ⟨rfl, rfl, rfl, by decide +kernel, rfl, by decide +kernel, by decide +kernel⟩
abbrev s__law_lot : Stmt := top 34
abbrev n__law_lot : List Str := ["_law_hat_here", "_law_many", "_law_digit", "_law_at", "_law_cell", "_law_great", "_law_mixed"]
theorem sc__law_lot : FnScope ["_law_hat_here", "_law_many", "_law_digit", "_law_at", "_law_cell", "_law_great", "_law_mixed"] ["_law_hat_here", "_law_many"] (defScope s__law_lot) := ⟨rfl, rfl, rfl, by decide +kernel, rfl, by decide +kernel, by decide +kernel⟩
abbrev s__law_one : Stmt := top 35
abbrev n__law_one : List Str := ["_law_hat_here", "_law_some"]
theorem sc__law_one : FnScope ["_law_hat_here", "_law_some"] ["_law_hat_here", "_law_some"] (defScope s__law_one) := ⟨rfl, rfl, rfl, by decide +kernel, rfl, by decide +kernel, by decide +kernel⟩
abbrev s__law_any : Stmt := top 36
abbrev n__law_any : List Str := ["_law_hat_here", "_law_a", "_law_b", "_law_c"]
theorem sc__law_any : FnScope ["_law_hat_here", "_law_a", "_law_b", "_law_c"] ["_law_hat_here"] (defScope s__law_any) := ⟨rfl, rfl, rfl, by decide +kernel, rfl, by decide +kernel, by decide +kernel⟩
abbrev s__law_grows : Stmt := top 37
abbrev n__law_grows : List Str := ["_law_four_here", "_law_a", "_law_b", "_law_c", "_law_d"]
theorem sc__law_grows : FnScope ["_law_four_here", "_law_a", "_law_b", "_law_c", "_law_d"] ["_law_four_here"] (defScope s__law_grows) := ⟨rfl, rfl, rfl, by decide +kernel, rfl, by decide +kernel, by decide +kernel⟩
abbrev s__law_planted : Stmt := top 38
abbrev n__law_planted : List Str := ["_law_hat_here", "_law_way", "_law_low", "_law_step", "_law_more", "_law_k", "_law_m", "_law_n", "_law_o", "_law_some", "_law_whole", "_law_least", "_law_steps", "_law_turn", "_law_part"]
theorem sc__law_planted : FnScope ["_law_hat_here", "_law_way", "_law_low", "_law_step", "_law_more", "_law_k", "_law_m", "_law_n", "_law_o", "_law_some", "_law_whole", "_law_least", "_law_steps", "_law_turn", "_law_part"] ["_law_hat_here"] (defScope s__law_planted) := ⟨rfl, rfl, rfl, by decide +kernel, rfl, by decide +kernel, by decide +kernel⟩
abbrev s__law_four : Stmt := top 39
abbrev n__law_four : List Str := ["_law_hat_here", "_law_some"]
theorem sc__law_four : FnScope ["_law_hat_here", "_law_some"] ["_law_hat_here"] (defScope s__law_four) := ⟨rfl, rfl, rfl, by decide +kernel, rfl, by decide +kernel, by decide +kernel⟩
abbrev s__law_raised : Stmt := top 40
abbrev n__law_raised : List Str := ["_law_number", "_law_many", "_law_found", "_law_turn"]
theorem sc__law_raised : FnScope ["_law_number", "_law_many", "_law_found", "_law_turn"] ["_law_number", "_law_many"] (defScope s__law_raised) := ⟨rfl, rfl, rfl, by decide +kernel, rfl, by decide +kernel, by decide +kernel⟩
abbrev s__law_sum : Stmt := top 41
abbrev n__law_sum : List Str := ["_law_a", "_law_b", "_law_c", "_law_d", "_law_power", "_law_many"]
theorem sc__law_sum : FnScope ["_law_a", "_law_b", "_law_c", "_law_d", "_law_power", "_law_many"] ["_law_a", "_law_b", "_law_c", "_law_d", "_law_power"] (defScope s__law_sum) := ⟨rfl, rfl, rfl, by decide +kernel, rfl, by decide +kernel, by decide +kernel⟩
abbrev s__law_is_by : Stmt := top 42
abbrev n__law_is_by : List Str := ["_law_a", "_law_b", "_law_c", "_law_d", "_law_power"]
theorem sc__law_is_by : FnScope ["_law_a", "_law_b", "_law_c", "_law_d", "_law_power"] ["_law_a", "_law_b", "_law_c", "_law_d", "_law_power"] (defScope s__law_is_by) := ⟨rfl, rfl, rfl, by decide +kernel, rfl, by decide +kernel, by decide +kernel⟩
abbrev s__law_is_whole : Stmt := top 43
abbrev n__law_is_whole : List Str := ["_law_value", "_law_least", "_law_most"]
theorem sc__law_is_whole : FnScope ["_law_value", "_law_least", "_law_most"] ["_law_value", "_law_least", "_law_most"] (defScope s__law_is_whole) := ⟨rfl, rfl, rfl, by decide +kernel, rfl, by decide +kernel, by decide +kernel⟩
abbrev s__law_lies_between : Stmt := top 44
abbrev n__law_lies_between : List Str := ["_law_a", "_law_b", "_law_c", "_law_d", "_law_low", "_law_near", "_law_far"]
theorem sc__law_lies_between : FnScope ["_law_a", "_law_b", "_law_c", "_law_d", "_law_low", "_law_near", "_law_far"] ["_law_a", "_law_b", "_law_c", "_law_d", "_law_low"] (defScope s__law_lies_between) := ⟨rfl, rfl, rfl, by decide +kernel, rfl, by decide +kernel, by decide +kernel⟩
abbrev s__law_is_power : Stmt := top 45
abbrev n__law_is_power : List Str := ["_law_a", "_law_b", "_law_c", "_law_d", "_law_power"]
theorem sc__law_is_power : FnScope ["_law_a", "_law_b", "_law_c", "_law_d", "_law_power"] ["_law_a", "_law_b", "_law_c", "_law_d", "_law_power"] (defScope s__law_is_power) := ⟨rfl, rfl, rfl, by decide +kernel, rfl, by decide +kernel, by decide +kernel⟩
abbrev s__law_values : Stmt := top 46
abbrev n__law_values : List Str := ["_law_hat_here", "_law_at", "_law_some"]
theorem sc__law_values : FnScope ["_law_hat_here", "_law_at", "_law_some"] ["_law_hat_here", "_law_at"] (defScope s__law_values) := ⟨rfl, rfl, rfl, by decide +kernel, rfl, by decide +kernel, by decide +kernel⟩
abbrev s_law : Stmt := top 47
abbrev n_law : List Str := ["_law_script", "_law_hat_here", "_law_lap", "_law_a", "_law_b", "_law_c", "_law_d", "_law_found", "_law_at", "_law_values_here", "_law_right", "_law_turn", "_law_value", "_law_is_low", "_law_is_power_here", "_law_odd"]
theorem sc_law : FnScope ["_law_script", "_law_hat_here", "_law_lap", "_law_a", "_law_b", "_law_c", "_law_d", "_law_found", "_law_at", "_law_values_here", "_law_right", "_law_turn", "_law_value", "_law_is_low", "_law_is_power_here", "_law_odd"] ["_law_script"] (defScope s_law) := ⟨rfl, rfl, rfl, by decide +kernel, rfl, by decide +kernel, by decide +kernel⟩
structure ClsT (K : PySem.W.Frag) (mg : Str → Option Value) (nm : Str) where
  a : Addr
  g : mg nm = some (.ref a)
  cl : Cls K a
  kp : PySem.W.keepIn K (.ref a) = true
  ha : PySem.W.findIn K (.ref a) "__class__" = some (some (.builtin "object.__class__"))
  hn : PySem.W.specialIn K (.builtin "object.__class__") "__get__" = some (some (.builtin "getset_descriptor.__get__"))
  ht : PySem.W.takesIn K (.builtin "object.__class__") = some true
  hm : PySem.W.mroIn K a (.type "object") = some true
  ml : PySem.W.makesIn K a = true
structure MetT (K : PySem.W.Frag) (nm qual : Str) (st : Stmt) (ps : List Str) where
  a : Addr
  fd : FuncData
  F : Fun K nm qual st a fd
  fn : PySem.W.isFn K (.ref a) = true
  b : Binds K fd ps []
structure MetS (K : PySem.W.Frag) (nm qual : Str) (st : Stmt) where
  a : Addr
  fd : FuncData
  F : Fun K nm qual st a fd
  fn : PySem.W.isFn K (.ref a) = true
structure FnT (K : PySem.W.Frag) (mg : Str → Option Value) (nm : Str) (st : Stmt) (ps : List Str) where
  a : Addr
  fd : FuncData
  F : Fun K nm nm st a fd
  g : mg nm = some (.ref a)
  b : Binds K fd ps []
structure Txt (K : PySem.W.Frag) (mg : Str → Option Value) where
  f_is_integer : FnT K mg "is_integer" s_is_integer ["value"]
  f_is_within : FnT K mg "is_within" s_is_within ["value", "least", "most"]
  f_need_within : FnT K mg "need_within" s_need_within ["part", "value", "least", "most"]
  f_need_growing : FnT K mg "need_growing" s_need_growing ["a", "b", "c", "d"]
  f_fixed : FnT K mg "fixed" s_fixed ["value"]
  f_Paper__init__ : MetS K "__init__" "Paper.__init__" s_Paper__init__
  f_Denial__init__ : MetS K "__init__" "Denial.__init__" s_Denial__init__
  f_raised : FnT K mg "raised" s_raised ["number", "times"]
  f_whole_sum : FnT K mg "whole_sum" s_whole_sum ["a", "b", "c", "d", "power"]
  f_is_by_power : FnT K mg "is_by_power" s_is_by_power ["a", "b", "c", "d", "power"]
  f_ByPower__init__ : MetT K "__init__" "ByPower.__init__" s_ByPower__init__ ["self", "power"]
  f_Between__init__ : MetT K "__init__" "Between.__init__" s_Between__init__ ["self", "low"]
  f_power_of : FnT K mg "power_of" s_power_of ["a", "b", "c", "d"]
  f_Uneven__init__ : MetT K "__init__" "Uneven.__init__" s_Uneven__init__ ["self", "step"]
  f_Whole__init__ : MetT K "__init__" "Whole.__init__" s_Whole__init__ ["self", "number"]
  f_NoWhole__init__ : MetT K "__init__" "NoWhole.__init__" s_NoWhole__init__ ["self", "low"]
  f_is_between : FnT K mg "is_between" s_is_between ["a", "b", "c", "d", "low"]
  f_shows_power : FnT K mg "shows_power" s_shows_power ["a", "b", "c", "d", "value"]
  f__law_hat : FnT K mg "_law_hat" s__law_hat ["_law_script"]
  f__law_lot : FnT K mg "_law_lot" s__law_lot ["_law_hat_here", "_law_many"]
  f__law_one : FnT K mg "_law_one" s__law_one ["_law_hat_here", "_law_some"]
  f__law_any : FnT K mg "_law_any" s__law_any ["_law_hat_here"]
  f__law_grows : FnT K mg "_law_grows" s__law_grows ["_law_four_here"]
  f__law_planted : FnT K mg "_law_planted" s__law_planted ["_law_hat_here"]
  f__law_four : FnT K mg "_law_four" s__law_four ["_law_hat_here"]
  f__law_raised : FnT K mg "_law_raised" s__law_raised ["_law_number", "_law_many"]
  f__law_sum : FnT K mg "_law_sum" s__law_sum ["_law_a", "_law_b", "_law_c", "_law_d", "_law_power"]
  f__law_is_by : FnT K mg "_law_is_by" s__law_is_by ["_law_a", "_law_b", "_law_c", "_law_d", "_law_power"]
  f__law_is_whole : FnT K mg "_law_is_whole" s__law_is_whole ["_law_value", "_law_least", "_law_most"]
  f__law_lies_between : FnT K mg "_law_lies_between" s__law_lies_between ["_law_a", "_law_b", "_law_c", "_law_d", "_law_low"]
  f__law_is_power : FnT K mg "_law_is_power" s__law_is_power ["_law_a", "_law_b", "_law_c", "_law_d", "_law_power"]
  f__law_values : FnT K mg "_law_values" s__law_values ["_law_hat_here", "_law_at"]
  f_law : FnT K mg "law" s_law ["_law_script"]
  k_Paper : ClsT K mg "Paper"
  k_Denial : ClsT K mg "Denial"
  k_ByPower : ClsT K mg "ByPower"
  k_Between : ClsT K mg "Between"
  k_Uneven : ClsT K mg "Uneven"
  k_Whole : ClsT K mg "Whole"
  k_NoWhole : ClsT K mg "NoWhole"
  na_Paper_word : NoAttr K k_Paper.a "word"
  na_Paper_parts : NoAttr K k_Paper.a "parts"
  at_Paper__init__ : PySem.W.findIn K (.ref k_Paper.a) "__init__" = some (some (.ref f_Paper__init__.a))
  mk_Paper : Mk K k_Paper.a f_Paper__init__.a
  mc_Paper : Value
  cr_Paper : ClX.CRead K k_Paper.a mc_Paper
  cv_Paper__init__ : ClX.CVal K k_Paper.a mc_Paper "__init__" (.ref f_Paper__init__.a) (.ref f_Paper__init__.a)
  is_Paper_ByPower : PySem.W.kitOne K (.ref k_Paper.a) (.ref k_ByPower.a) = some false
  is_Paper_Between : PySem.W.kitOne K (.ref k_Paper.a) (.ref k_Between.a) = some false
  na_Denial_word : NoAttr K k_Denial.a "word"
  na_Denial_parts : NoAttr K k_Denial.a "parts"
  at_Denial__init__ : PySem.W.findIn K (.ref k_Denial.a) "__init__" = some (some (.ref f_Denial__init__.a))
  mk_Denial : Mk K k_Denial.a f_Denial__init__.a
  mc_Denial : Value
  cr_Denial : ClX.CRead K k_Denial.a mc_Denial
  cv_Denial__init__ : ClX.CVal K k_Denial.a mc_Denial "__init__" (.ref f_Denial__init__.a) (.ref f_Denial__init__.a)
  is_Denial_ByPower : PySem.W.kitOne K (.ref k_Denial.a) (.ref k_ByPower.a) = some false
  is_Denial_Between : PySem.W.kitOne K (.ref k_Denial.a) (.ref k_Between.a) = some false
  na_ByPower_word : NoAttr K k_ByPower.a "word"
  na_ByPower_parts : NoAttr K k_ByPower.a "parts"
  na_ByPower_power : NoAttr K k_ByPower.a "power"
  at_ByPower__init__ : PySem.W.findIn K (.ref k_ByPower.a) "__init__" = some (some (.ref f_ByPower__init__.a))
  mk_ByPower : Mk K k_ByPower.a f_ByPower__init__.a
  is_ByPower_ByPower : PySem.W.kitOne K (.ref k_ByPower.a) (.ref k_ByPower.a) = some true
  is_ByPower_Between : PySem.W.kitOne K (.ref k_ByPower.a) (.ref k_Between.a) = some false
  na_Between_word : NoAttr K k_Between.a "word"
  na_Between_parts : NoAttr K k_Between.a "parts"
  na_Between_low : NoAttr K k_Between.a "low"
  at_Between__init__ : PySem.W.findIn K (.ref k_Between.a) "__init__" = some (some (.ref f_Between__init__.a))
  mk_Between : Mk K k_Between.a f_Between__init__.a
  is_Between_Between : PySem.W.kitOne K (.ref k_Between.a) (.ref k_Between.a) = some true
  is_Between_ByPower : PySem.W.kitOne K (.ref k_Between.a) (.ref k_ByPower.a) = some false
  na_Uneven_word : NoAttr K k_Uneven.a "word"
  na_Uneven_parts : NoAttr K k_Uneven.a "parts"
  na_Uneven_step : NoAttr K k_Uneven.a "step"
  at_Uneven__init__ : PySem.W.findIn K (.ref k_Uneven.a) "__init__" = some (some (.ref f_Uneven__init__.a))
  mk_Uneven : Mk K k_Uneven.a f_Uneven__init__.a
  is_Uneven_ByPower : PySem.W.kitOne K (.ref k_Uneven.a) (.ref k_ByPower.a) = some false
  is_Uneven_Between : PySem.W.kitOne K (.ref k_Uneven.a) (.ref k_Between.a) = some false
  na_Whole_word : NoAttr K k_Whole.a "word"
  na_Whole_parts : NoAttr K k_Whole.a "parts"
  na_Whole_number : NoAttr K k_Whole.a "number"
  at_Whole__init__ : PySem.W.findIn K (.ref k_Whole.a) "__init__" = some (some (.ref f_Whole__init__.a))
  mk_Whole : Mk K k_Whole.a f_Whole__init__.a
  is_Whole_ByPower : PySem.W.kitOne K (.ref k_Whole.a) (.ref k_ByPower.a) = some false
  is_Whole_Between : PySem.W.kitOne K (.ref k_Whole.a) (.ref k_Between.a) = some false
  na_NoWhole_word : NoAttr K k_NoWhole.a "word"
  na_NoWhole_parts : NoAttr K k_NoWhole.a "parts"
  na_NoWhole_low : NoAttr K k_NoWhole.a "low"
  at_NoWhole__init__ : PySem.W.findIn K (.ref k_NoWhole.a) "__init__" = some (some (.ref f_NoWhole__init__.a))
  mk_NoWhole : Mk K k_NoWhole.a f_NoWhole__init__.a
  is_NoWhole_ByPower : PySem.W.kitOne K (.ref k_NoWhole.a) (.ref k_ByPower.a) = some false
  is_NoWhole_Between : PySem.W.kitOne K (.ref k_NoWhole.a) (.ref k_Between.a) = some false
  t_LEAST_POWER : Tok
  c_LEAST_POWER : mg "LEAST_POWER" = some (.int (-80) t_LEAST_POWER)
  t_MOST_POWER : Tok
  c_MOST_POWER : mg "MOST_POWER" = some (.int (80) t_MOST_POWER)
  t_MOST_SMALL : Tok
  c_MOST_SMALL : mg "MOST_SMALL" = some (.int (99) t_MOST_SMALL)
  n_abs : mg "abs" = none
  n_bool : mg "bool" = none
  n_int : mg "int" = none
  n_isinstance : mg "isinstance" = none
  n_len : mg "len" = none
  n_list : mg "list" = none
  n_range : mg "range" = none
  n_set : mg "set" = none
  n_sorted : mg "sorted" = none
  n_str : mg "str" = none
  n_tuple : mg "tuple" = none
  n_type : mg "type" = none
section
variable {P : Program} {w : World} {K : PySem.W.Frag} {mg : Str → Option Value} {base : Heap}
/-! ### the program's defs -/
def spIsInt : Sp := fun vs H Q _ => ∃ i, vs = [.int i] ∧ Q (.bl true) H
theorem ok_is_integer (T : Txt K mg) : FnOk P w K mg base CX0 1 T.f_is_integer.a T.f_is_integer.fd ["value"] spIsInt := by
  refine T.f_is_integer.F.ok sc_is_integer (fun vs H Q E h => ?_) (fun cdv A outer s H vs Q E hr h => ?_)
  · obtain ⟨i, rfl, _⟩ := h
    rfl
  · obtain ⟨i, rfl, q⟩ := h
    refine ⟨_, (pss_one (ps_ret (pe_and (pe_callB call_isi (by rfl) T.n_isinstance (by decide +kernel) (pa_cons (pv 0) (pa_cons (pe_bltn (v := .ty "int") (by rfl) T.n_int (by decide +kernel) rfl) pa_nil))) (pe_one (pe_not (pe_callB call_isi (by rfl) T.n_isinstance (by decide +kernel) (pa_cons (pv 0) (pa_cons (pe_bltn (v := .ty "bool") (by rfl) T.n_bool (by decide +kernel) rfl) pa_nil)))))))), ?_⟩
    refine ⟨_, rfl, _, _, _, _, true, rfl, .ty _, .base (.int _), kit_ty (by decide +kernel), true, rfl, iteT ?_⟩
    exact ⟨_, rfl, _, _, _, _, false, rfl, .ty _, .base (.int _), kit_ty (by decide +kernel), false, rfl, q⟩
def spWithin : Sp := fun vs H Q _ => ∃ i l m : Int, vs = [.int i, .int l, .int m] ∧ Q (.bl (decide (l ≤ i ∧ i ≤ m))) H
theorem ok_is_within (T : Txt K mg) : FnOk P w K mg base CX0 2 T.f_is_within.a T.f_is_within.fd ["value", "least", "most"] spWithin := by
  have G_is_integer := ok_is_integer (P := P) (w := w) (base := base) T
  refine T.f_is_within.F.ok sc_is_within (fun vs H Q E h => ?_) (fun cdv A outer s H vs Q E hr h => ?_)
  · obtain ⟨i, l, m, rfl, _⟩ := h
    rfl
  · obtain ⟨i, l, m, rfl, q⟩ := h
    refine ⟨_, (pss_cons (ps_if (pt_not (pt_val (pe_call G_is_integer (hr.mono (by decide)) (by rfl) T.f_is_integer.g T.f_is_integer.F.kp T.f_is_integer.b .nil pass0 (pa_cons (pv 0) pa_nil)))) (pss_one (ps_ret pe_bl)) pss_nil) (pss_one (ps_ret (pe_and (pe_or (pe_cmpR op_isN (pv 1) pe_non (nomark _)) (pe_one (pe_cmpR op_ge (pv 0) (pv 1) (nomark _)))) (pe_one (pe_or (pe_cmpR op_isN (pv 2) pe_non (nomark _)) (pe_one (pe_cmpR op_le (pv 0) (pv 2) (nomark _))))))))), ?_⟩
    refine ⟨_, rfl, i, rfl, true, rfl, iteF ?_⟩
    refine ⟨_, rfl, rfl, false, rfl, iteF ⟨_, rfl, _, rfl, _, _, rfl, rfl, _, rfl, ?_⟩⟩
    refine ite2 (fun e => ?_) (fun e => ?_)
    · refine ⟨_, rfl, rfl, false, rfl, iteF ⟨_, rfl, _, rfl, _, _, rfl, rfl, ?_⟩⟩
      have e1 : l ≤ i := of_decide_eq_true e
      have e2 : decide (l ≤ i ∧ i ≤ m) = decide (i ≤ m) := by
        by_cases h : i ≤ m
        · rw [decide_eq_true h, decide_eq_true ⟨e1, h⟩]
        · rw [decide_eq_false h, decide_eq_false (fun z => h z.2)]
      rw [e2] at q
      exact q
    · have e2 : decide (l ≤ i ∧ i ≤ m) = false := decide_eq_false (fun z => e (decide_eq_true z.1))
      rw [e2] at q
      exact q
def spNeedWithin : Sp := fun vs H Q _ => ∃ (p : Str) (i l m : Int), vs = [.str p, .int i, .int l, .int m] ∧ l ≤ i ∧ i ≤ m ∧ Q .non H
theorem ok_need_within (T : Txt K mg) : FnOk P w K mg base CX0 3 T.f_need_within.a T.f_need_within.fd ["part", "value", "least", "most"] spNeedWithin := by
  have G_is_within := ok_is_within (P := P) (w := w) (base := base) T
  refine T.f_need_within.F.ok sc_need_within (fun vs H Q E h => ?_) (fun cdv A outer s H vs Q E hr h => ?_)
  · obtain ⟨p, i, l, m, rfl, _⟩ := h
    rfl
  · obtain ⟨p, i, l, m, rfl, h1, h2, q⟩ := h
    refine ⟨_, (pss_one (ps_if (pt_not (pt_val (pe_call G_is_within (hr.mono (by decide)) (by rfl) T.f_is_within.g T.f_is_within.F.kp T.f_is_within.b .nil pass0 (pa_cons (pv 1) (pa_cons (pv 2) (pa_cons (pv 3) pa_nil)))))) (pss_one ps_never) pss_nil)), ?_⟩
    exact ⟨_, rfl, _, rfl, _, rfl, i, l, m, rfl, true, decide_eq_true (⟨h1, h2⟩ : l ≤ i ∧ i ≤ m) ▸ rfl, iteF q⟩
/-! ### powers -/
theorem pow_lt {x : Int} {b e : Nat} (h : x.natAbs < 2 ^ b) : (x ^ e).natAbs < 2 ^ (b * e + 1) := by
  have h1 : (x ^ e).natAbs = x.natAbs ^ e := Int.natAbs_pow x e
  rw [h1]
  have h2 : x.natAbs ^ e ≤ (2 ^ b) ^ e := Nat.pow_le_pow_left (Nat.le_of_lt h) e
  rw [← Nat.pow_mul] at h2
  have h3 : 2 ^ (b * e) < 2 ^ (b * e + 1) := Nat.pow_lt_pow_right (by decide) (by omega)
  omega
def spRaised : Sp := fun vs H Q _ => ∃ (x : Int) (n : Nat), vs = [.int x, .int (n : Int)] ∧ x.natAbs < 2 ^ 64 ∧ n ≤ 100 ∧ Q (.int (x ^ n)) H
theorem ok_raised (T : Txt K mg) : FnOk P w K mg base CX0 1 T.f_raised.a T.f_raised.fd ["number", "times"] spRaised := by
  refine T.f_raised.F.ok sc_raised (fun vs H Q E h => ?_) (fun cdv A outer s H vs Q E hr h => ?_)
  · obtain ⟨x, n, rfl, _⟩ := h
    rfl
  · obtain ⟨x, n, rfl, hx, hn, q⟩ := h
    refine ⟨_, (pss_cons (ps_set (i := 2) sc_raised.nd rfl (Or.inl rfl) pe_int) (pss_cons (ps_while PassesOwn.never (pt_cmpR op_gt (pv 1) pe_int (nomark _)) (pss_cons (ps_if (pt_truth (pe_op op_odd (pv 1) pe_int) (by intro _; rfl)) (pss_one (ps_set (i := 2) sc_raised.nd rfl (Or.inl rfl) (pe_op op_mulW (pv 2) (pv 0)))) pss_nil) (pss_cons (ps_set (i := 0) sc_raised.nd rfl (Or.inl rfl) (pe_op op_mulW (pv 0) (pv 0))) (pss_one (ps_set (i := 1) sc_raised.nd rfl (Or.inl rfl) (pe_op op_halfN (pv 1) pe_int)))))) (pss_one (ps_ret (pv 2))))), ?_⟩
    -- j turns are done: number = x ^ (2 ^ j), times = n / 2 ^ j, found = x ^ (n % 2 ^ j)
    refine while_by (fun σ H' => H' = H ∧ ∃ (t u : Nat) (f : Nat), σ = [some (.int (x ^ u)), some (.int (t : Int)), some (.int (x ^ f))] ∧ f + u * t = n ∧ f ≤ n ∧ (u ≤ n ∨ u = 1 ∨ (t = 0 ∧ u ≤ 2 * n)))
      (fun σ _ => match σ with
        | [_, some (.int t), _] => t.toNat
        | _ => 0) ⟨rfl, n, 1, 0, by rw [Int.pow_one, Int.pow_zero]; rfl, by omega, by omega, by omega⟩ ?_ ?_
    · rintro σ H' ⟨rfl, t, u, f, rfl, e1, e2, e3⟩
      refine ⟨_, rfl, _, _, rfl, rfl, _, rfl, ite2 (fun e => ?_) (fun e => ?_)⟩
      · have ht : 0 < t := by
          have := of_decide_eq_true e
          omega
        have hu : u ≤ 100 := by
          have : u ≤ u * t := Nat.le_mul_of_pos_right u ht
          omega
        have bu : (x ^ u).natAbs < 2 ^ (64 * 100 + 1) := Nat.lt_of_lt_of_le (pow_lt (e := u) hx) (Nat.pow_le_pow_right (by decide) (by omega))
        have bf : (x ^ f).natAbs < 2 ^ (64 * 100 + 1) := Nat.lt_of_lt_of_le (pow_lt (e := f) hx) (Nat.pow_le_pow_right (by decide) (by omega))
        have sq : x ^ u * x ^ u = x ^ (2 * u) := by
          rw [← Int.pow_add, Nat.two_mul]
        have hd : t = t % 2 + 2 * (t / 2) := by omega
        have hm : u * t = u * (t % 2) + 2 * u * (t / 2) := by
          have z : u * t = u * (t % 2 + 2 * (t / 2)) := congrArg (fun z => u * z) hd
          rw [z, Nat.mul_add, ← Nat.mul_assoc, Nat.mul_comm u 2]
        have hstep : ∀ f' : Nat, f' = f + u * (t % 2) → f' + 2 * u * (t / 2) = n ∧ f' ≤ n ∧ (2 * u ≤ n ∨ 2 * u = 1 ∨ (t / 2 = 0 ∧ 2 * u ≤ 2 * n)) := by
          intro f' ef
          refine ⟨by omega, ?_, ?_⟩
          · have := Nat.zero_le (2 * u * (t / 2))
            omega
          · by_cases h0 : t / 2 = 0
            · refine .inr (.inr ⟨h0, ?_⟩)
              have : u ≤ u * t := Nat.le_mul_of_pos_right u ht
              omega
            · refine .inl ?_
              have : 2 * u ≤ 2 * u * (t / 2) := Nat.le_mul_of_pos_right (2 * u) (by omega)
              omega
        refine ⟨_, rfl, t, rfl, rfl, _, rfl, ite2 (fun e4 => ?_) (fun e4 => ?_)⟩
        · have e5 : t % 2 = 1 := by
            have e6 : (((t % 2 : Nat) : Int) != 0) = true := e4
            have e7 : ((t % 2 : Nat) : Int) ≠ 0 := by simpa using e6
            omega
          refine ⟨_, rfl, _, rfl, _, _, rfl, rfl, wide_mul bf bu (by decide) (by decide) (by decide), ?_⟩
          refine ⟨_, rfl, _, rfl, _, _, rfl, rfl, wide_mul bu bu (by decide) (by decide) (by decide), ?_⟩
          refine ⟨_, rfl, t, rfl, rfl, ⟨rfl, t / 2, 2 * u, f + u, ?_, ?_⟩, ?_⟩
          · show [some (V.int (x ^ u * x ^ u)), some (V.int ((t / 2 : Nat) : Int)), some (V.int (x ^ f * x ^ u))] = [some (V.int (x ^ (2 * u))), some (V.int ((t / 2 : Nat) : Int)), some (V.int (x ^ (f + u)))]
            rw [sq, ← Int.pow_add]
          · exact hstep (f + u) (by rw [e5, Nat.mul_one])
          · show (((t / 2 : Nat) : Int)).toNat < ((t : Nat) : Int).toNat
            omega
        · have e5 : t % 2 = 0 := by
            have e6 : ¬ (((t % 2 : Nat) : Int) != 0) = true := e4
            have e7 : ((t % 2 : Nat) : Int) = 0 := by simpa using e6
            omega
          refine ⟨_, rfl, _, rfl, _, _, rfl, rfl, wide_mul bu bu (by decide) (by decide) (by decide), ?_⟩
          refine ⟨_, rfl, t, rfl, rfl, ⟨rfl, t / 2, 2 * u, f, ?_, ?_⟩, ?_⟩
          · show [some (V.int (x ^ u * x ^ u)), some (V.int ((t / 2 : Nat) : Int)), some (V.int (x ^ f))] = [some (V.int (x ^ (2 * u))), some (V.int ((t / 2 : Nat) : Int)), some (V.int (x ^ f))]
            rw [sq]
          · exact hstep f (by rw [e5, Nat.mul_zero, Nat.add_zero])
          · show (((t / 2 : Nat) : Int)).toNat < ((t : Nat) : Int).toNat
            omega
      · have ht : t = 0 := by
          by_cases h : t = 0
          · exact h
          · exact absurd (decide_eq_true (show (0 : Int) < (t : Int) by omega)) e
        subst ht
        have ef : f = n := by omega
        subst ef
        exact ⟨_, rfl, q⟩
    · intro σ H Q Q' hq h
      obtain ⟨v, e, a, b, c, d, k, z, r⟩ := h
      exact ⟨v, e, a, b, c, d, k, z, hq _ _ r⟩
/-- the sum of four integers at a power from 0 on -/
def sum0 (a b c d : Int) (p : Nat) : Int := a ^ p + d ^ p - b ^ p - c ^ p
/-- .. at any power, in whole numbers -/
def wsum (a b c d p : Int) : Int := if p < 0 then sum0 (b * c * d) (a * c * d) (a * b * d) (a * b * c) (-p).toNat else sum0 a b c d p.toNat
def Sm (x : Int) : Prop := x.natAbs < 2 ^ 64
def spSum0 : Sp := fun vs H Q _ => ∃ (a b c d : Int) (p : Nat), vs = [.int a, .int b, .int c, .int d, .int (p : Int)] ∧ (Sm a ∧ Sm b ∧ Sm c ∧ Sm d) ∧ p ≤ 100 ∧ Q (.int (sum0 a b c d p)) H
theorem ok_sum0 (T : Txt K mg) : FnOk P w K mg base CX0 2 T.f_whole_sum.a T.f_whole_sum.fd ["a", "b", "c", "d", "power"] spSum0 := by
  have G_raised := ok_raised (P := P) (w := w) (base := base) T
  refine T.f_whole_sum.F.ok sc_whole_sum (fun vs H Q E h => ?_) (fun cdv A outer s H vs Q E hr h => ?_)
  · obtain ⟨a, b, c, d, p, rfl, _⟩ := h
    rfl
  · obtain ⟨a, b, c, d, p, rfl, ⟨ha, hb, hc, hd⟩, hp, q⟩ := h
    refine ⟨_, (pss_cons (ps_if (pt_cmpR op_lt (pv 4) pe_int (nomark _)) (pss_one ps_never) pss_nil) (pss_one (ps_ret (pe_op op_sub (pe_op op_sub (pe_op op_add (pe_call G_raised (hr.mono (by decide)) (by rfl) T.f_raised.g T.f_raised.F.kp T.f_raised.b .nil pass0 (pa_cons (pv 0) (pa_cons (pv 4) pa_nil))) (pe_call G_raised (hr.mono (by decide)) (by rfl) T.f_raised.g T.f_raised.F.kp T.f_raised.b .nil pass0 (pa_cons (pv 3) (pa_cons (pv 4) pa_nil)))) (pe_call G_raised (hr.mono (by decide)) (by rfl) T.f_raised.g T.f_raised.F.kp T.f_raised.b .nil pass0 (pa_cons (pv 1) (pa_cons (pv 4) pa_nil)))) (pe_call G_raised (hr.mono (by decide)) (by rfl) T.f_raised.g T.f_raised.F.kp T.f_raised.b .nil pass0 (pa_cons (pv 2) (pa_cons (pv 4) pa_nil))))))), ?_⟩
    refine ⟨_, rfl, _, _, rfl, rfl, _, rfl, ?_⟩
    rw [decide_eq_false (show ¬ ((p : Int) < 0) by omega)]
    refine iteF ?_
    exact ⟨_, rfl, _, rfl, a, p, rfl, ha, hp, _, rfl, _, rfl, d, p, rfl, hd, hp, _, _, rfl, rfl, _, rfl, _, rfl, b, p, rfl, hb, hp, _, _, rfl, rfl, _, rfl, _, rfl, c, p, rfl, hc, hp, _, _, rfl, rfl, q⟩
/-- four integers from 1 to a million, a power from -80 to 80 -/
structure Fine (a b c d p : Int) : Prop where
  a : 1 ≤ a ∧ a ≤ 1000000
  b : 1 ≤ b ∧ b ≤ 1000000
  c : 1 ≤ c ∧ c ≤ 1000000
  d : 1 ≤ d ∧ d ≤ 1000000
  p : -80 ≤ p ∧ p ≤ 80
theorem two_fine {a b : Int} (ha : 1 ≤ a ∧ a ≤ 1000000) (hb : 1 ≤ b ∧ b ≤ 1000000) : 1 ≤ a * b ∧ a * b ≤ 1000000000000 := by
  constructor
  · have : 0 < a * b := Int.mul_pos (by omega) (by omega)
    omega
  · have h1 : a * b ≤ 1000000 * b := Int.mul_le_mul_of_nonneg_right ha.2 (by omega)
    omega
theorem three_fine {a b c : Int} (ha : 1 ≤ a ∧ a ≤ 1000000) (hb : 1 ≤ b ∧ b ≤ 1000000) (hc : 1 ≤ c ∧ c ≤ 1000000) : 1 ≤ a * b * c ∧ a * b * c ≤ 1000000000000000000 := by
  have h := two_fine ha hb
  constructor
  · have : 0 < a * b * c := Int.mul_pos (by omega) (by omega)
    omega
  · have h1 : a * b * c ≤ 1000000000000 * c := Int.mul_le_mul_of_nonneg_right h.2 (by omega)
    omega
theorem sm_of {x : Int} (h : 1 ≤ x ∧ x ≤ 1000000000000000000) : Sm x := by
  unfold Sm
  omega
theorem lim {x : Int} (h : 1 ≤ x ∧ x ≤ 1000000000000) : -(2 ^ 64) < x ∧ x < 2 ^ 64 := by omega
def spSum : Sp := fun vs H Q _ => ∃ a b c d p : Int, vs = [.int a, .int b, .int c, .int d, .int p] ∧ Fine a b c d p ∧ Q (.int (wsum a b c d p)) H
theorem ok_whole_sum (T : Txt K mg) : FnOk P w K mg base CX0 3 T.f_whole_sum.a T.f_whole_sum.fd ["a", "b", "c", "d", "power"] spSum := by
  have G_raised := ok_raised (P := P) (w := w) (base := base) T
  have G_sum0 := ok_sum0 (P := P) (w := w) (base := base) T
  refine T.f_whole_sum.F.ok sc_whole_sum (fun vs H Q E h => ?_) (fun cdv A outer s H vs Q E hr h => ?_)
  · obtain ⟨a, b, c, d, p, rfl, _⟩ := h
    rfl
  · obtain ⟨a, b, c, d, p, rfl, F, q⟩ := h
    refine ⟨_, (pss_cons (ps_if (pt_cmpR op_lt (pv 4) pe_int (nomark _)) (pss_one (ps_ret (pe_call G_sum0 (hr.mono (by decide)) (by rfl) T.f_whole_sum.g T.f_whole_sum.F.kp T.f_whole_sum.b .nil pass0 (pa_cons (pe_op op_mul (pe_op op_mul (pv 1) (pv 2)) (pv 3)) (pa_cons (pe_op op_mul (pe_op op_mul (pv 0) (pv 2)) (pv 3)) (pa_cons (pe_op op_mul (pe_op op_mul (pv 0) (pv 1)) (pv 3)) (pa_cons (pe_op op_mul (pe_op op_mul (pv 0) (pv 1)) (pv 2)) (pa_cons (pe_un un_neg (pv 4)) pa_nil)))))))) pss_nil) (pss_one (ps_ret (pe_op op_sub (pe_op op_sub (pe_op op_add (pe_call G_raised (hr.mono (by decide)) (by rfl) T.f_raised.g T.f_raised.F.kp T.f_raised.b .nil pass0 (pa_cons (pv 0) (pa_cons (pv 4) pa_nil))) (pe_call G_raised (hr.mono (by decide)) (by rfl) T.f_raised.g T.f_raised.F.kp T.f_raised.b .nil pass0 (pa_cons (pv 3) (pa_cons (pv 4) pa_nil)))) (pe_call G_raised (hr.mono (by decide)) (by rfl) T.f_raised.g T.f_raised.F.kp T.f_raised.b .nil pass0 (pa_cons (pv 1) (pa_cons (pv 4) pa_nil)))) (pe_call G_raised (hr.mono (by decide)) (by rfl) T.f_raised.g T.f_raised.F.kp T.f_raised.b .nil pass0 (pa_cons (pv 2) (pa_cons (pv 4) pa_nil))))))), ?_⟩
    refine ⟨_, rfl, _, _, rfl, rfl, _, rfl, ite2 (fun e => ?_) (fun e => ?_)⟩
    · have hp : p < 0 := of_decide_eq_true e
      have m1 := fun {x y : Int} (hx : 1 ≤ x ∧ x ≤ 1000000) => (.inl (lim ⟨hx.1, by omega⟩) : CMul x y)
      have m2 := fun {x y z : Int} (hx : 1 ≤ x ∧ x ≤ 1000000) (hy : 1 ≤ y ∧ y ≤ 1000000) => (.inl (lim (two_fine hx hy)) : CMul (x * y) z)
      refine ⟨_, rfl, _, rfl, _, _, rfl, rfl, m1 F.b, _, rfl, _, _, rfl, rfl, m2 F.b F.c, ?_⟩
      refine ⟨_, rfl, _, rfl, _, _, rfl, rfl, m1 F.a, _, rfl, _, _, rfl, rfl, m2 F.a F.c, ?_⟩
      refine ⟨_, rfl, _, rfl, _, _, rfl, rfl, m1 F.a, _, rfl, _, _, rfl, rfl, m2 F.a F.b, ?_⟩
      refine ⟨_, rfl, _, rfl, _, _, rfl, rfl, m1 F.a, _, rfl, _, _, rfl, rfl, m2 F.a F.b, ?_⟩
      have hq := F.p
      refine ⟨_, rfl, p, rfl, _, _, _, _, (-p).toNat, ?_, ⟨sm_of (three_fine F.b F.c F.d), sm_of (three_fine F.a F.c F.d), sm_of (three_fine F.a F.b F.d), sm_of (three_fine F.a F.b F.c)⟩, by omega, ?_⟩
      · have : (((-p).toNat : Nat) : Int) = -p := by omega
        rw [this]
        rfl
      · unfold wsum at q
        rw [if_pos hp] at q
        exact q
    · have hp : ¬ p < 0 := fun h => e (decide_eq_true h)
      have hq := F.p
      have ep : V.int p = .int ((p.toNat : Nat) : Int) := by
        congr 1
        omega
      have sm := fun {x : Int} (hx : 1 ≤ x ∧ x ≤ 1000000) => (sm_of ⟨hx.1, by omega⟩ : Sm x)
      have q2 : Q (.int (sum0 a b c d p.toNat)) H := by
        unfold wsum at q
        rw [if_neg hp] at q
        exact q
      refine ⟨_, rfl, _, rfl, a, p.toNat, by rw [← ep]; rfl, sm F.a, by omega, ?_⟩
      refine ⟨_, rfl, _, rfl, d, p.toNat, by rw [← ep]; rfl, sm F.d, by omega, _, _, rfl, rfl, ?_⟩
      refine ⟨_, rfl, _, rfl, b, p.toNat, by rw [← ep]; rfl, sm F.b, by omega, _, _, rfl, rfl, ?_⟩
      exact ⟨_, rfl, _, rfl, c, p.toNat, by rw [← ep]; rfl, sm F.c, by omega, _, _, rfl, rfl, q2⟩
/-- whether they are a proportion by the power -/
def isby (a b c d p : Int) : Bool := if p = 0 then decide (a * d = b * c) else decide (wsum a b c d p = 0)
def spIsByPower : Sp := fun vs H Q _ => ∃ a b c d p : Int, vs = [.int a, .int b, .int c, .int d, .int p] ∧ Fine a b c d p ∧ Q (.bl (isby a b c d p)) H
theorem dec_int (x y : Int) : decide (V.int x = V.int y) = decide (x = y) := by
  by_cases h : x = y
  · rw [decide_eq_true h, decide_eq_true (congrArg V.int h)]
  · rw [decide_eq_false h, decide_eq_false (fun z => h (V.int.inj z))]
theorem ok_is_by_power (T : Txt K mg) : FnOk P w K mg base CX0 4 T.f_is_by_power.a T.f_is_by_power.fd ["a", "b", "c", "d", "power"] spIsByPower := by
  have G_whole_sum := ok_whole_sum (P := P) (w := w) (base := base) T
  refine T.f_is_by_power.F.ok sc_is_by_power (fun vs H Q E h => ?_) (fun cdv A outer s H vs Q E hr h => ?_)
  · obtain ⟨a, b, c, d, p, rfl, _⟩ := h
    rfl
  · obtain ⟨a, b, c, d, p, rfl, F, q⟩ := h
    refine ⟨_, (pss_cons (ps_if (pt_cmpR op_eq (pv 4) pe_int (nomark _)) (pss_one (ps_ret (pe_cmpR op_eq (pe_op op_mul (pv 0) (pv 3)) (pe_op op_mul (pv 1) (pv 2)) (nomark _)))) pss_nil) (pss_one (ps_ret (pe_cmpR op_eq (pe_call G_whole_sum (hr.mono (by decide)) (by rfl) T.f_whole_sum.g T.f_whole_sum.F.kp T.f_whole_sum.b .nil pass0 (pa_cons (pv 0) (pa_cons (pv 1) (pa_cons (pv 2) (pa_cons (pv 3) (pa_cons (pv 4) pa_nil)))))) pe_int (nomark _))))), ?_⟩
    refine ⟨_, rfl, rfl, _, rfl, ite2 (fun e => ?_) (fun e => ?_)⟩
    · have hp : p = 0 := V.int.inj (of_decide_eq_true e)
      unfold isby at q
      rw [if_pos hp, ← dec_int] at q
      have l1 := fun {x y : Int} (hx : 1 ≤ x ∧ x ≤ 1000000) => (.inl (lim ⟨hx.1, by omega⟩) : CMul x y)
      exact ⟨_, rfl, _, rfl, _, _, rfl, rfl, l1 F.a, _, rfl, _, rfl, _, _, rfl, rfl, l1 F.b, rfl, q⟩
    · have hp : ¬ p = 0 := fun h => e (decide_eq_true (congrArg V.int h))
      unfold isby at q
      rw [if_neg hp, ← dec_int] at q
      exact ⟨_, rfl, _, rfl, _, rfl, _, rfl, _, rfl, a, b, c, d, p, rfl, F, rfl, q⟩
end
end Q

namespace Q
open PySem PySem.Spec PyProof.Rows L2
section
variable {P : Program} {w : World} {K : PySem.W.Frag} {mg : Str → Option Value} {base : Heap}
/-! ### heaps -/
theorem same_upd {H : Hp} {p : Addr} {o : HO} (h : H p = none) : Same H (upd H p o) := fun b x e => by
  rw [upd_ne (ne_of_none e h)]
  exact e
theorem Same.seqT {K : PySem.W.Frag} {H H' : Hp} {a : Addr} {xs : List V} (e : Same H H') (h : SqT K H a xs) : SqT K H' a xs := by
  rcases h with (h | ⟨o, h⟩) | h
  · exact .inl (.inl (e _ _ h))
  · exact .inl (.inr ⟨o, e _ _ h⟩)
  · exact .inr h
theorem sz2 {a b : V} : [a, b].length ≤ sizeLine := by show 2 ≤ sizeLine; decide
theorem sz3 {a b c : V} : [a, b, c].length ≤ sizeLine := by show 3 ≤ sizeLine; decide
theorem sz4 {a b c d : V} : [a, b, c, d].length ≤ sizeLine := by show 4 ≤ sizeLine; decide
theorem sz5 {a b c d e : V} : [a, b, c, d, e].length ≤ sizeLine := by show 5 ≤ sizeLine; decide
theorem q1 : (0 : Int) < 2147483543 := by decide
theorem q2 : (0 : Int) < 2147483647 := by decide
theorem q3 : (0 : Int) < 2147483563 := by decide
/-! ### the program's answers -/
/-- the sign of a whole number -/
def sgn (x : Int) : Int := if x = 0 then 0 else if 0 < x then 1 else -1
/-! ### the law's hat: the numbers from which all is drawn -/
def hatL (c : Addr) (t : Nat) (g : Int) : List V := [.ref c, .int (t : Int), .int g]
structure HatAt (H : Hp) (a c : Addr) (ns : List Int) (t : Nat) (g : Int) : Prop where
  h : H a = some (.lst (hatL c t g))
  c : H c = some (.lst (ns.map V.int))
  l : ns.length ≤ 60
def Hat (H : Hp) (a c : Addr) (n : Nat) : Prop := ∃ (ns : List Int) (t : Nat) (g : Int), HatAt H a c ns t g ∧ t ≤ n
theorem HatAt.ne {H : Hp} {a c : Addr} {ns : List Int} {t : Nat} {g : Int} (h : HatAt H a c ns t g) : c ≠ a := ne_of h.c h.h (fun z => by
  have z2 : ns.map V.int = hatL c t g := HO.lst.inj z
  cases ns with
  | nil => cases z2
  | cons x r =>
    have z3 : V.int x = V.ref c := (List.cons.inj z2).1
    cases z3)
/-- all stands as it stood, but what is at a -/
def But (a : Addr) (H H' : Hp) : Prop := ∀ b o, H b = some o → b ≠ a → H' b = some o
theorem But.refl (a : Addr) (H : Hp) : But a H H := fun _ _ e _ => e
theorem But.trans {a : Addr} {H H1 H2 : Hp} (x : But a H H1) (y : But a H1 H2) : But a H H2 := fun b o e n => y b o (x b o e n) n
theorem But.of {a : Addr} {H H' : Hp} (x : Same H H') : But a H H' := fun b o e _ => x b o e
theorem But.free {a c : Addr} {H H' : Hp} {n : Nat} (x : But a H H') (y : Hat H' a c n) {l : Addr} (h : H' l = none) : H l = none := by
  cases q : H l with
  | none => rfl
  | some o =>
    by_cases e : l = a
    · obtain ⟨ns, t, g, z, _⟩ := y
      rw [e, z.h] at h
      cases h
    · rw [x l o q e] at h
      cases h
theorem Hat.same {H H' : Hp} {a c : Addr} {n : Nat} (h : Hat H a c n) (s : Same H H') : Hat H' a c n := by
  obtain ⟨ns, t, g, ⟨h1, h2, h3⟩, z⟩ := h
  exact ⟨ns, t, g, ⟨s _ _ h1, s _ _ h2, h3⟩, z⟩
theorem Hat.mono {H : Hp} {a c : Addr} {n m : Nat} (h : Hat H a c n) (l : n ≤ m) : Hat H a c m := by
  obtain ⟨ns, t, g, x, z⟩ := h
  exact ⟨ns, t, g, x, by omega⟩
theorem HatAt.put {H : Hp} {a c : Addr} {ns : List Int} {t : Nat} {g : Int} (h : HatAt H a c ns t g) (t' : Nat) (g' : Int) : HatAt (upd H a (.lst (hatL c t' g'))) a c ns t' g' ∧ But a H (upd H a (.lst (hatL c t' g'))) :=
  ⟨⟨upd_same, by rw [upd_ne h.ne]; exact h.c, h.l⟩, fun b o e n => by rw [upd_ne n]; exact e⟩
theorem HatAt.new {H : Hp} {a c p : Addr} {ns : List Int} {t : Nat} {g : Int} {o : HO} (h : HatAt H a c ns t g) (hp : H p = none) : HatAt (upd H p o) a c ns t g :=
  ⟨same_upd hp _ _ h.h, same_upd hp _ _ h.c, h.l⟩
def spLot : Sp := fun vs H Q _ => ∃ (a c : Addr) (n : Nat) (m : Int), vs = [.ref a, .int m] ∧ Hat H a c n ∧ n ≤ 1000000 ∧ 0 < m ∧ m < 1073741824 ∧ ∀ (d : Int) (H' : Hp), 0 ≤ d → d < m → Hat H' a c (n + 1) → But a H H' → Q (.int d) H'
theorem at_map {ns : List Int} {k : Nat} (h : k < ns.length) : atI (ns.map V.int) (k : Int) = some (.int ns[k]) := atI_nat (by rw [List.getElem?_map, List.getElem?_eq_getElem h]; rfl)
theorem dpall (K : PySem.W.Frag) (H : Hp) : ∀ ns : List Int, DpAll K H (ns.map V.int) (ns.map PyData.int)
  | [] => .nil
  | _ :: r => .cons (.int _) (dpall K H r)
theorem ok__law_lot (T : Txt K mg) : FnOk P w K mg base CX0 1 T.f__law_lot.a T.f__law_lot.fd ["_law_hat_here", "_law_many"] spLot := by
  refine T.f__law_lot.F.ok sc__law_lot (fun vs H Q E h => ?_) (fun cdv A outer s H vs Q E hr h => ?_)
  · obtain ⟨a, c, n, m, rfl, _⟩ := h
    rfl
  · obtain ⟨a, c, n, m, rfl, ⟨ns, t, g, hh, ht⟩, hn, h0, h1, q⟩ := h
    refine ⟨_, (pss_cons (ps_if (pt_cmpR op_gt (pe_ix ix_list (pv 0) pe_int (fun _ _ => rfl)) pe_int (nomark _)) (pss_cons (ps_set (i := 2) sc__law_lot.nd rfl (Or.inl rfl) (pe_op op_mod (pe_callTy call_int1 (by rfl) T.n_int (by decide +kernel) (pa_cons (pe_ix ix_list (pv 0) pe_int (fun _ _ => rfl)) pa_nil)) (pv 1))) (pss_cons (ps_asg (pe_op op_fdiv (pe_callTy call_int1 (by rfl) T.n_int (by decide +kernel) (pa_cons (pe_ix ix_list (pv 0) pe_int (fun _ _ => rfl)) pa_nil)) (pv 1)) (pg_sub (pv 0) pe_int set_list (fun _ => rfl))) (pss_one (ps_ret (pv 2))))) pss_nil) (pss_cons (ps_set (i := 3) sc__law_lot.nd rfl (Or.inl rfl) (pe_ix ix_list (pv 0) pe_int (fun _ _ => rfl))) (pss_cons (ps_asg (pe_op op_add (pv 3) pe_int) (pg_sub (pv 0) pe_int set_list (fun _ => rfl))) (pss_cons (ps_set (i := 4) sc__law_lot.nd rfl (Or.inl rfl) (pe_op op_add (pe_op op_mul pe_int (pv 3)) pe_int)) (pss_cons (ps_if (pt_cmpR (op_neD hr.units) (pe_ix ix_list (pv 0) pe_int (fun _ _ => rfl)) (pe_lst pa_nil) (nomark _)) (pss_one (ps_set (i := 4) sc__law_lot.nd rfl (Or.inl rfl) (pe_ix ix_list (pe_ix ix_list (pv 0) pe_int (fun _ _ => rfl)) (pe_op op_mod (pe_callTy call_int1 (by rfl) T.n_int (by decide +kernel) (pa_cons (pv 3) pa_nil)) (pe_callB call_len_seq (by rfl) T.n_len (by decide +kernel) (pa_cons (pe_ix ix_list (pv 0) pe_int (fun _ _ => rfl)) pa_nil))) (fun _ _ => rfl)))) pss_nil) (pss_cons (ps_if (PW.pt (pw_and (pt_cmpR op_lt (pv 3) (pe_callB call_len_seq (by rfl) T.n_len (by decide +kernel) (pa_cons (pe_ix ix_list (pv 0) pe_int (fun _ _ => rfl)) pa_nil)) (nomark _)) (pw_and1 (pt_cmpR op_ge (pe_callB call_abs (by rfl) T.n_abs (by decide +kernel) (pa_cons (pv 4) pa_nil)) (pe_op op_pow pe_int pe_int) (nomark _))))) (pss_cons (ps_set (i := 5) sc__law_lot.nd rfl (Or.inl rfl) (pe_op op_add (pe_op op_mul pe_int (pe_op op_sub (pe_callB call_abs (by rfl) T.n_abs (by decide +kernel) (pa_cons (pv 4) pa_nil)) (pe_op op_pow pe_int pe_int))) (pe_callTy call_int1 (by rfl) T.n_int (by decide +kernel) (pa_cons (pe_cmpR op_lt (pv 4) pe_int (nomark _)) pa_nil)))) (pss_cons (ps_asg (pe_op op_fdiv (pe_callTy call_int1 (by rfl) T.n_int (by decide +kernel) (pa_cons (pv 5) pa_nil)) (pv 1)) (pg_sub (pv 0) pe_int set_list (fun _ => rfl))) (pss_one (ps_ret (pe_op op_mod (pe_callTy call_int1 (by rfl) T.n_int (by decide +kernel) (pa_cons (pv 5) pa_nil)) (pv 1)))))) pss_nil) (pss_cons (ps_set (i := 6) sc__law_lot.nd rfl (Or.inl rfl) (pe_op op_mod (pe_callTy call_int1 (by rfl) T.n_int (by decide +kernel) (pa_cons (pe_op op_pow (pe_op op_add (pe_op op_add (pe_op op_mod (pe_callTy call_int1 (by rfl) T.n_int (by decide +kernel) (pa_cons (pv 4) pa_nil)) pe_int) (pe_op op_mul pe_int (pv 3))) pe_int) pe_int) pa_nil)) pe_int)) (pss_cons (ps_set (i := 6) sc__law_lot.nd rfl (Or.inl rfl) (pe_op op_mod (pe_callTy call_int1 (by rfl) T.n_int (by decide +kernel) (pa_cons (pe_op op_pow (pe_op op_add (pe_op op_add (pe_op op_mul (pv 6) (pe_op op_add (pe_op op_mul pe_int (pv 3)) pe_int)) (pe_op op_mul (pe_op op_mul pe_int (pv 3)) (pv 3))) pe_int) pe_int) pa_nil)) pe_int)) (pss_one (ps_ret (pe_op op_mod (pe_callTy call_int1 (by rfl) T.n_int (by decide +kernel) (pa_cons (pe_op op_fdiv (pv 6) pe_int) pa_nil)) (pv 1)))))))))))), ?_⟩
    -- if hat[2] > 0
    refine ⟨_, rfl, a, _, 2, _, rfl, rfl, SqL.of hh.h, atI_nat (j := 2) rfl, _, _, rfl, rfl, _, rfl, ite2 (fun e => ?_) (fun e => ?_)⟩
    · refine ⟨_, rfl, a, _, 2, _, rfl, rfl, SqL.of hh.h, atI_nat (j := 2) rfl, .inl ⟨_, rfl, _, rfl, _, _, rfl, rfl, h0, ?_⟩⟩
      refine ⟨_, rfl, a, _, 2, _, rfl, rfl, SqL.of hh.h, atI_nat (j := 2) rfl, .inl ⟨_, rfl, _, rfl, _, _, rfl, rfl, ⟨h0, h1⟩, ?_⟩⟩
      refine ⟨_, rfl, a, _, 2, 2, rfl, rfl, hh.h, rfl, ?_⟩
      refine ⟨_, rfl, ?_⟩
      obtain ⟨z1, z2⟩ := hh.put t (g / m)
      exact q _ _ (Int.emod_nonneg _ (by omega)) (Int.emod_lt_of_pos _ h0) ⟨ns, t, _, z1, by omega⟩ z2
    · -- at = hat[1]; hat[1] = at + 1; cell = ..
      refine ⟨_, rfl, a, _, 1, _, rfl, rfl, SqL.of hh.h, atI_nat (j := 1) rfl, ?_⟩
      refine ⟨_, rfl, _, _, rfl, rfl, _, rfl, a, _, 1, 1, rfl, rfl, hh.h, rfl, ?_⟩
      refine ⟨_, rfl, _, _, rfl, rfl, .inl ⟨by decide, by decide⟩, _, _, rfl, rfl, ?_⟩
      obtain ⟨z1, z2⟩ := hh.put (t + 1) g
      -- if hat[0] != []
      refine ⟨_, rfl, a, _, 0, _, rfl, rfl, SqL.of z1.h, atI_nat (j := 0) rfl, Nat.zero_le _, fun p hp => ?_⟩
      have z3 := z1.new (o := .lst []) hp
      have z4 : But a H (upd (upd H a (.lst (hatL c (t + 1) g))) p (.lst [])) := z2.trans (.of (same_upd hp))
      generalize hH2 : upd (upd H a (.lst (hatL c (t + 1) g))) p (.lst []) = H2 at z3 z4
      have hH2' : upd (upd H a (HO.lst (List.set (hatL c t g) 1 (V.int ((t : Int) + 1))))) p (HO.lst []) = H2 := hH2
      rw [hH2']
      have hp2 : H2 p = some (.lst []) := by
        rw [← hH2]
        exact upd_same
      refine ⟨.list (ns.map PyData.int), .list [], .lst (SqL.of z3.c) (dpall K H2 ns), .lst (SqL.of hp2) .nil, PySem.W.ke_shaped_ints ns, by decide +kernel, _, rfl, ?_⟩
      have hb1 : ∀ x : Int, (x % 2147483543 + 76003 * (t : Int) + 9803).natAbs < 2 ^ 64 := fun x => by
        have a1 := Int.emod_nonneg x (show (2147483543 : Int) ≠ 0 by decide)
        have a2 := Int.emod_lt_of_pos x (show (0 : Int) < 2147483543 by decide)
        omega
      have hm : ∀ x : Int, -(2 ^ 64) < x % 2147483647 ∧ x % 2147483647 < 2 ^ 64 := fun x => by
        have a1 := Int.emod_nonneg x (show (2147483647 : Int) ≠ 0 by decide)
        have a2 := Int.emod_lt_of_pos x (show (0 : Int) < 2147483647 by decide)
        omega
      have htl : -(2 ^ 64) < (t : Int) ∧ (t : Int) < 2 ^ 64 := by omega
      have hb2 : ∀ x : Int, (x % 2147483647 * (2 * (t : Int) + 1973) + 69031 * (t : Int) * (t : Int) + 76039).natAbs < 2 ^ 64 := fun x => by
        have a1 := Int.emod_nonneg x (show (2147483647 : Int) ≠ 0 by decide)
        have a2 := Int.emod_lt_of_pos x (show (0 : Int) < 2147483647 by decide)
        generalize x % 2147483647 = y at a1 a2
        have b1 : y * (2 * (t : Int) + 1973) ≤ 2147483647 * (2 * (t : Int) + 1973) := Int.mul_le_mul_of_nonneg_right (by omega) (by omega)
        have b2 : 0 ≤ y * (2 * (t : Int) + 1973) := Int.mul_nonneg a1 (by omega)
        have b3 : 69031 * (t : Int) * (t : Int) ≤ 69031 * 1000000 * (t : Int) := Int.mul_le_mul_of_nonneg_right (by omega) (by omega)
        have b4 : 0 ≤ 69031 * (t : Int) * (t : Int) := Int.mul_nonneg (by omega) (by omega)
        generalize y * (2 * (t : Int) + 1973) = z at b1 b2
        generalize 69031 * (t : Int) * (t : Int) = u at b3 b4
        omega
      have fin : ∀ (d : Int) (t' : Nat) (g' : Int) (H3 : Hp), 0 ≤ d → d < m → HatAt H3 a c ns t' g' → t' ≤ t + 1 → But a H H3 → Q (.int d) H3 := fun d t' g' H3 d0 d1 z ht' bb => q d H3 d0 d1 ⟨ns, t', g', z, by omega⟩ bb
      have md : ∀ x : Int, 0 ≤ x % m ∧ x % m < m := fun x => ⟨Int.emod_nonneg _ (by omega), Int.emod_lt_of_pos _ h0⟩
      refine ite2 (fun e1 => ?_) (fun e1 => ?_)
      · have hl : 0 < ns.length := by
          cases ns with
          | nil => exact absurd e1 (by decide)
          | cons x r => exact Nat.succ_pos _
        have hk : t % ns.length < ns.length := Nat.mod_lt _ hl
        have ek : ((t % ns.length : Nat) : Int) = (t : Int) % (ns.length : Int) := Int.natCast_emod t ns.length
        have hat : atI (ns.map V.int) ((t : Int) % (ns.length : Int)) = some (.int ns[t % ns.length]) := by
          rw [← ek]
          exact at_map hk
        have hlm : ((ns.map V.int).length : Int) = (ns.length : Int) := by rw [List.length_map]
        have hpos : (0 : Int) < ((ns.map V.int).length : Int) := by
          rw [hlm]
          omega
        have hat2 : atI (ns.map V.int) ((t : Int) % ((ns.map V.int).length : Int)) = some (.int ns[t % ns.length]) := by
          rw [hlm]
          exact hat
        -- cell = hat[0][int(at) % len(hat[0])]
        refine ⟨_, rfl, a, _, 0, _, rfl, rfl, SqL.of z3.h, atI_nat (j := 0) rfl, _, rfl, .inl ⟨_, rfl, _, rfl, a, _, 0, _, rfl, rfl, SqL.of z3.h, atI_nat (j := 0) rfl, c, _, rfl, .inl (SqL.of z3.c), _, _, rfl, rfl, hpos, c, _, _, _, rfl, rfl, SqL.of z3.c, hat2, ?_⟩⟩
        generalize ns[t % ns.length] = cell
        -- if at < len(hat[0]) and abs(cell) >= 10 ** 18
        refine ⟨_, rfl, _, rfl, a, _, 0, _, rfl, rfl, SqL.of z3.h, atI_nat (j := 0) rfl, c, _, rfl, .inl (SqL.of z3.c), _, _, rfl, rfl, _, rfl, ite2 (fun e2 => ?_) (fun e2 => ?_)⟩
        · refine ⟨_, rfl, _, rfl, _, _, rfl, rfl, ⟨by decide, by decide, by decide⟩, _, _, rfl, rfl, _, rfl, ite2 (fun e3 => ?_) (fun e3 => ?_)⟩
          · -- great
            refine ⟨_, rfl, _, rfl, _, _, rfl, rfl, ⟨by decide, by decide, by decide⟩, _, _, rfl, rfl, _, _, rfl, rfl, .inl ⟨by decide, by decide⟩, _, rfl, _, _, rfl, rfl, .inr ⟨_, rfl, _, _, rfl, rfl, ?_⟩⟩
            refine ⟨_, rfl, .inl ⟨_, rfl, _, rfl, _, _, rfl, rfl, ⟨h0, h1⟩, ?_⟩⟩
            refine ⟨_, rfl, a, _, 2, 2, rfl, rfl, z3.h, rfl, ?_⟩
            refine ⟨_, rfl, .inl ⟨_, rfl, _, rfl, _, _, rfl, rfl, h0, ?_⟩⟩
            obtain ⟨y1, y2⟩ := z3.put (t + 1) _
            exact fin _ (t + 1) _ _ (md _).1 (md _).2 y1 (Nat.le_refl _) (z4.trans y2)
          · refine ⟨_, rfl, .inl ⟨_, rfl, _, _, rfl, rfl, q1, _, rfl, _, _, rfl, rfl, .inl ⟨by decide, by decide⟩, _, _, rfl, rfl, _, _, rfl, rfl, _, _, rfl, rfl, ⟨by decide, by decide, hb1 _⟩, .inl ⟨_, rfl, _, _, rfl, rfl, q2, ?_⟩⟩⟩
            refine ⟨_, rfl, _, rfl, _, _, rfl, rfl, .inl ⟨by decide, by decide⟩, _, _, rfl, rfl, _, _, rfl, rfl, .inl (hm _), _, rfl, _, _, rfl, rfl, .inl ⟨by decide, by decide⟩, _, rfl, _, _, rfl, rfl, .inr htl, _, _, rfl, rfl, _, _, rfl, rfl, _, _, rfl, rfl, ⟨by decide, by decide, hb2 _⟩, .inl ⟨_, rfl, _, _, rfl, rfl, q3, ?_⟩⟩
            refine ⟨_, rfl, _, _, rfl, rfl, ⟨by decide, by decide⟩, .inl ⟨_, rfl, _, rfl, _, _, rfl, rfl, h0, ?_⟩⟩
            exact fin _ (t + 1) g _ (md _).1 (md _).2 z3 (Nat.le_refl _) z4
        · refine iteF ?_
          refine ⟨_, rfl, .inl ⟨_, rfl, _, _, rfl, rfl, q1, _, rfl, _, _, rfl, rfl, .inl ⟨by decide, by decide⟩, _, _, rfl, rfl, _, _, rfl, rfl, _, _, rfl, rfl, ⟨by decide, by decide, hb1 _⟩, .inl ⟨_, rfl, _, _, rfl, rfl, q2, ?_⟩⟩⟩
          refine ⟨_, rfl, _, rfl, _, _, rfl, rfl, .inl ⟨by decide, by decide⟩, _, _, rfl, rfl, _, _, rfl, rfl, .inl (hm _), _, rfl, _, _, rfl, rfl, .inl ⟨by decide, by decide⟩, _, rfl, _, _, rfl, rfl, .inr htl, _, _, rfl, rfl, _, _, rfl, rfl, _, _, rfl, rfl, ⟨by decide, by decide, hb2 _⟩, .inl ⟨_, rfl, _, _, rfl, rfl, q3, ?_⟩⟩
          refine ⟨_, rfl, _, _, rfl, rfl, ⟨by decide, by decide⟩, .inl ⟨_, rfl, _, rfl, _, _, rfl, rfl, h0, ?_⟩⟩
          exact fin _ (t + 1) g _ (md _).1 (md _).2 z3 (Nat.le_refl _) z4
      · generalize 69031 * (t : Int) + 9803 = cell
        -- if at < len(hat[0]) and abs(cell) >= 10 ** 18
        refine ⟨_, rfl, _, rfl, a, _, 0, _, rfl, rfl, SqL.of z3.h, atI_nat (j := 0) rfl, c, _, rfl, .inl (SqL.of z3.c), _, _, rfl, rfl, _, rfl, ite2 (fun e2 => ?_) (fun e2 => ?_)⟩
        · refine ⟨_, rfl, _, rfl, _, _, rfl, rfl, ⟨by decide, by decide, by decide⟩, _, _, rfl, rfl, _, rfl, ite2 (fun e3 => ?_) (fun e3 => ?_)⟩
          · -- great
            refine ⟨_, rfl, _, rfl, _, _, rfl, rfl, ⟨by decide, by decide, by decide⟩, _, _, rfl, rfl, _, _, rfl, rfl, .inl ⟨by decide, by decide⟩, _, rfl, _, _, rfl, rfl, .inr ⟨_, rfl, _, _, rfl, rfl, ?_⟩⟩
            refine ⟨_, rfl, .inl ⟨_, rfl, _, rfl, _, _, rfl, rfl, ⟨h0, h1⟩, ?_⟩⟩
            refine ⟨_, rfl, a, _, 2, 2, rfl, rfl, z3.h, rfl, ?_⟩
            refine ⟨_, rfl, .inl ⟨_, rfl, _, rfl, _, _, rfl, rfl, h0, ?_⟩⟩
            obtain ⟨y1, y2⟩ := z3.put (t + 1) _
            exact fin _ (t + 1) _ _ (md _).1 (md _).2 y1 (Nat.le_refl _) (z4.trans y2)
          · refine ⟨_, rfl, .inl ⟨_, rfl, _, _, rfl, rfl, q1, _, rfl, _, _, rfl, rfl, .inl ⟨by decide, by decide⟩, _, _, rfl, rfl, _, _, rfl, rfl, _, _, rfl, rfl, ⟨by decide, by decide, hb1 _⟩, .inl ⟨_, rfl, _, _, rfl, rfl, q2, ?_⟩⟩⟩
            refine ⟨_, rfl, _, rfl, _, _, rfl, rfl, .inl ⟨by decide, by decide⟩, _, _, rfl, rfl, _, _, rfl, rfl, .inl (hm _), _, rfl, _, _, rfl, rfl, .inl ⟨by decide, by decide⟩, _, rfl, _, _, rfl, rfl, .inr htl, _, _, rfl, rfl, _, _, rfl, rfl, _, _, rfl, rfl, ⟨by decide, by decide, hb2 _⟩, .inl ⟨_, rfl, _, _, rfl, rfl, q3, ?_⟩⟩
            refine ⟨_, rfl, _, _, rfl, rfl, ⟨by decide, by decide⟩, .inl ⟨_, rfl, _, rfl, _, _, rfl, rfl, h0, ?_⟩⟩
            exact fin _ (t + 1) g _ (md _).1 (md _).2 z3 (Nat.le_refl _) z4
        · refine iteF ?_
          refine ⟨_, rfl, .inl ⟨_, rfl, _, _, rfl, rfl, q1, _, rfl, _, _, rfl, rfl, .inl ⟨by decide, by decide⟩, _, _, rfl, rfl, _, _, rfl, rfl, _, _, rfl, rfl, ⟨by decide, by decide, hb1 _⟩, .inl ⟨_, rfl, _, _, rfl, rfl, q2, ?_⟩⟩⟩
          refine ⟨_, rfl, _, rfl, _, _, rfl, rfl, .inl ⟨by decide, by decide⟩, _, _, rfl, rfl, _, _, rfl, rfl, .inl (hm _), _, rfl, _, _, rfl, rfl, .inl ⟨by decide, by decide⟩, _, rfl, _, _, rfl, rfl, .inr htl, _, _, rfl, rfl, _, _, rfl, rfl, _, _, rfl, rfl, ⟨by decide, by decide, hb2 _⟩, .inl ⟨_, rfl, _, _, rfl, rfl, q3, ?_⟩⟩
          refine ⟨_, rfl, _, _, rfl, rfl, ⟨by decide, by decide⟩, .inl ⟨_, rfl, _, rfl, _, _, rfl, rfl, h0, ?_⟩⟩
          exact fin _ (t + 1) g _ (md _).1 (md _).2 z3 (Nat.le_refl _) z4
end
end Q

namespace Q
open PySem PySem.Spec PyProof.Rows L2
section
variable {P : Program} {w : World} {K : PySem.W.Frag} {mg : Str → Option Value} {base : Heap}
theorem But.seq {K : PySem.W.Frag} {H H' : Hp} {a l : Addr} {xs : List V} (e : But a H H') (n : l ≠ a) (h : SqL K H l xs) : SqL K H' l xs := by
  rcases h with (h | ⟨o, h⟩) | h
  · exact .inl (.inl (e _ _ h n))
  · exact .inl (.inr ⟨o, e _ _ h n⟩)
  · exact .inr h
theorem Hat.is_a {H : Hp} {a c : Addr} {n : Nat} (h : Hat H a c n) : ∃ o, H a = some o := by
  obtain ⟨ns, t, g, z, _⟩ := h
  exact ⟨_, z.h⟩
theorem Hat.is_c {H : Hp} {a c : Addr} {n : Nat} (h : Hat H a c n) : ∃ o, H c = some o := by
  obtain ⟨ns, t, g, z, _⟩ := h
  exact ⟨_, z.c⟩
theorem Hat.neA {H : Hp} {a c l : Addr} {n : Nat} (h : Hat H a c n) (f : H l = none) : l ≠ a := fun e => by
  obtain ⟨o, z⟩ := h.is_a
  rw [e, z] at f
  cases f
theorem Hat.neC {H : Hp} {a c l : Addr} {n : Nat} (h : Hat H a c n) (f : H l = none) : l ≠ c := fun e => by
  obtain ⟨o, z⟩ := h.is_c
  rw [e, z] at f
  cases f
theorem Hat.upd {H : Hp} {a c l : Addr} {n : Nat} {o : HO} (h : Hat H a c n) (n1 : l ≠ a) (n2 : l ≠ c) : Hat (upd H l o) a c n := by
  obtain ⟨ns, t, g, ⟨h1, h2, h3⟩, z⟩ := h
  exact ⟨ns, t, g, ⟨by rw [upd_ne n1.symm]; exact h1, by rw [upd_ne n2.symm]; exact h2, h3⟩, z⟩
theorem cut60 (xs : List V) : cutV xs none (some 60) = xs.take 60 := by
  unfold cutV
  rw [show HT.sIx xs.length xs.length (some 60) = min 60 xs.length from HT.sIx_nat xs.length xs.length 60, HT.sIx_none]
  show List.take (min 60 xs.length - 0) xs = xs.take 60
  rw [Nat.sub_zero]
  by_cases h : 60 ≤ xs.length
  · rw [Nat.min_eq_left h]
  · rw [Nat.min_eq_right (by omega), List.take_length, List.take_of_length_le (by omega)]
def spHat (K : PySem.W.Frag) : Sp := fun vs H Q _ => ∃ (a : Addr) (ns : List Int), vs = [.ref a] ∧ SqL K H a (ns.map V.int) ∧ ns.length ≤ 63 ∧ ∀ (h c : Addr) (H' : Hp), Hat H' h c 0 → Same H H' → Q (.ref h) H'
theorem ok__law_hat (T : Txt K mg) : FnOk P w K mg base CX0 1 T.f__law_hat.a T.f__law_hat.fd ["_law_script"] (spHat K) := by
  refine T.f__law_hat.F.ok sc__law_hat (fun vs H Q E h => ?_) (fun cdv A outer s H vs Q E hr h => ?_)
  · obtain ⟨a, ns, rfl, _⟩ := h
    rfl
  · obtain ⟨a, ns, rfl, hS, hl, q⟩ := h
    refine ⟨_, (pss_one (ps_ret (pe_lst (pa_cons (pe_lc (own := [("_law_cell", 1)]) (by rfl) sc__law_hat.nd (pi_list (pe_slice sl_list (pv 0) po_none (po_some pe_int))) (blkOk_by (N := n__law_hat) (sc := defScope s__law_hat) (by decide +kernel)) (fun _ _ _ _ _ => (pg_name (i := 1) sc__law_hat.nd rfl (Or.inl rfl))) (fun _ _ _ _ _ => pts_nil) (fun _ _ _ _ _ => (pe_callTy call_int1 (by rfl) T.n_int (by decide +kernel) (pa_cons (pv 1) pa_nil)))) (pa_cons pe_int (pa_cons pe_int pa_nil)))))), ?_⟩
    refine ⟨_, rfl, 60, rfl, a, _, rfl, hS, fun p hp => ?_⟩
    have s1 := same_upd (o := .lst (cutV (ns.map V.int) none (some 60))) hp
    refine ⟨p, rfl, ⟨_, .of upd_same⟩, fun D hD => ?_⟩
    have ec : cutV (ns.map V.int) none (some 60) = (ns.take 60).map V.int := by rw [cut60, List.map_take]
    have hl60 : (ns.take 60).length ≤ 60 := by
      rw [List.length_take]
      exact Nat.min_le_left _ _
    generalize hm : ns.take 60 = ms at ec hl60
    rw [ec] at s1 hD ⊢
    have s2 := s1.trans (same_upd (o := .lst []) hD)
    refine lc_list (K := K) (a := p) (xs := ms.map V.int) (fun i H' => H' = upd (upd H p (.lst (ms.map V.int))) D (.lst ((ms.take i).map V.int))) rfl (fun i H' _ e => ?_) (fun i x H' hi e => ?_) (fun H' e => ?_)
    · subst e
      refine .of ?_
      rw [upd_ne (ne_of_none upd_same hD)]
      exact upd_same
    · subst e
      obtain ⟨z, hz, rfl⟩ : ∃ z, ms[i]? = some z ∧ x = V.int z := by
        rw [List.getElem?_map] at hi
        cases e : ms[i]? with
        | none =>
          rw [e] at hi
          cases hi
        | some z =>
          rw [e] at hi
          exact ⟨z, rfl, (Option.some.inj hi).symm⟩
      refine ⟨rfl, ?_⟩
      refine ⟨_, rfl, .inl ⟨_, rfl, _, upd_same, ?_, ?_⟩⟩
      · rw [List.length_map, List.length_take]
        exact Nat.lt_of_le_of_lt (Nat.min_le_right _ _) (small1000 (by omega))
      · rw [upd_upd, List.take_add_one, hz, List.map_append]
        rfl
    · subst e
      rw [List.length_map, List.take_length]
      refine ⟨sz3, fun l hl' => ?_⟩
      have s3 := same_upd (o := .lst [.ref D, .int 0, .int 0]) hl'
      have s4 := s1.trans ((same_upd (o := .lst (ms.map V.int)) hD).trans s3)
      exact q l D _ ⟨ms, 0, 0, ⟨upd_same, s3 _ _ upd_same, hl60⟩, Nat.le_refl _⟩ s4
def spOne (K : PySem.W.Frag) : Sp := fun vs H Q _ => ∃ (a c : Addr) (n : Nat) (l : Addr) (xs : List V), vs = [.ref a, .ref l] ∧ Hat H a c n ∧ n ≤ 1000000 ∧ SqL K H l xs ∧ l ≠ a ∧ 0 < xs.length ∧ xs.length ≤ 1000 ∧
  ∀ (v : V) (H' : Hp), v ∈ xs → Hat H' a c (n + 1) → But a H H' → Q v H'
theorem at_any {xs : List V} {d : Int} (h0 : 0 ≤ d) (h1 : d < (xs.length : Int)) : ∃ v, v ∈ xs ∧ atI xs d = some v := by
  obtain ⟨k, rfl⟩ : ∃ k : Nat, d = (k : Int) := ⟨d.toNat, by omega⟩
  have hk : k < xs.length := by omega
  exact ⟨xs[k], List.getElem_mem hk, atI_nat (List.getElem?_eq_getElem hk)⟩
theorem ok__law_one (T : Txt K mg) : FnOk P w K mg base CX0 2 T.f__law_one.a T.f__law_one.fd ["_law_hat_here", "_law_some"] (spOne K) := by
  have G__law_lot := ok__law_lot (P := P) (w := w) (base := base) T
  refine T.f__law_one.F.ok sc__law_one (fun vs H Q E h => ?_) (fun cdv A outer s H vs Q E hr h => ?_)
  · obtain ⟨a, c, n, l, xs, rfl, _⟩ := h
    rfl
  · obtain ⟨a, c, n, l, xs, rfl, hh, hn, hL, hne, hx0, hx1, q⟩ := h
    refine ⟨_, (pss_one (ps_ret (pe_ix ix_list (pv 1) (pe_call G__law_lot (hr.mono (by decide)) (by rfl) T.f__law_lot.g T.f__law_lot.F.kp T.f__law_lot.b .nil pass0 (pa_cons (pv 0) (pa_cons (pe_callB call_len_seq (by rfl) T.n_len (by decide +kernel) (pa_cons (pv 1) pa_nil)) pa_nil))) (fun _ _ => rfl)))), ?_⟩
    refine ⟨_, rfl, _, rfl, _, rfl, l, _, rfl, .inl hL, a, c, n, _, rfl, hh, hn, by omega, by omega, fun d H' d0 d1 hh' bb => ?_⟩
    obtain ⟨v, hv, ev⟩ := at_any d0 d1
    exact ⟨l, xs, d, v, rfl, rfl, bb.seq hne hL, ev, q v H' hv hh' bb⟩
end
end Q

namespace Q
open PySem PySem.Spec PyProof.Rows L2
section
variable {P : Program} {w : World} {K : PySem.W.Frag} {mg : Str → Option Value} {base : Heap}
/-! ### fixed: a list or tuple becomes a tuple, all else stays -/
def isInt : V → Bool
  | .int _ => true
  | _ => false
theorem kit_int {K : PySem.W.Frag} : PySem.W.kitAny K (.type "int") [.type "list", .type "tuple"] = some false :=
  kitAny_cons (kit_ty (r := false) (by decide +kernel)) (fun _ => kitAny_cons (kit_ty (r := false) (by decide +kernel)) (fun _ => rfl) (fun z => nomatch z)) (fun z => nomatch z)
theorem kit_tup {K : PySem.W.Frag} : PySem.W.kitAny K (.type "tuple") [.type "list", .type "tuple"] = some true :=
  kitAny_cons (kit_ty (r := false) (by decide +kernel)) (fun _ => kitAny_cons (kit_ty (r := true) (by decide +kernel)) (fun z => nomatch z) (fun _ => rfl)) (fun z => nomatch z)
def spFix0 : Sp := fun vs H Q _ => ∃ i : Int, vs = [.int i] ∧ ∀ H', Same H H' → Q (.int i) H'
theorem ok_fixed0 (T : Txt K mg) : FnOk P w K mg base CX0 1 T.f_fixed.a T.f_fixed.fd ["value"] spFix0 := by
  refine T.f_fixed.F.ok sc_fixed (fun vs H Q E h => ?_) (fun cdv A outer s H vs Q E hr h => ?_)
  · obtain ⟨i, rfl, _⟩ := h
    rfl
  · obtain ⟨i, rfl, q⟩ := h
    refine ⟨_, (pss_cons (ps_if (pt_val (pe_callB call_isiT (by rfl) T.n_isinstance (by decide +kernel) (pa_cons (pv 0) (pa_cons (pe_tup (pa_cons (pe_bltn (v := .ty "list") (by rfl) T.n_list (by decide +kernel) rfl) (pa_cons (pe_bltn (v := .ty "tuple") (by rfl) T.n_tuple (by decide +kernel) rfl) pa_nil))) pa_nil)))) (pss_one ps_never) pss_nil) (pss_one (ps_ret (pv 0)))), ?_⟩
    refine ⟨_, rfl, sz2, fun t ht => ?_⟩
    refine ⟨_, t, _, .type "int", [.type "list", .type "tuple"], false, rfl, upd_same, .cons (.ty _) (.cons (.ty _) .nil), .base (.int _), kit_int, false, rfl, iteF ?_⟩
    exact ⟨_, rfl, q _ (same_upd ht)⟩
/-! ### what may stand in a paper here -/
inductive Kd
  | int (i : Int)
  | non
  | bl (b : Bool)
  | str (s : Str)
  | tup (i : Int)
  | tp (i j : Int)
def Val (H : Hp) (v : V) : Kd → Prop
  | .int i => v = .int i
  | .non => v = .non
  | .bl b => v = .bl b
  | .str s => v = .str s
  | .tup i => ∃ t, v = .ref t ∧ H t = some (.tup [.int i])
  | .tp i j => ∃ t, v = .ref t ∧ H t = some (.tup [.int i, .int j])
def Inp (H : Hp) (v : V) : Kd → Prop
  | .int i => v = .int i
  | .non => v = .non
  | .bl b => v = .bl b
  | .str s => v = .str s
  | .tup i => ∃ t, v = .ref t ∧ H t = some (.lst [.int i])
  | .tp i j => ∃ t, v = .ref t ∧ H t = some (.tup [.int i, .int j])
theorem Inp.same {H H' : Hp} {v : V} {k : Kd} (h : Inp H v k) (s : Same H H') : Inp H' v k := by
  cases k with
  | tup i => obtain ⟨t, e, f⟩ := h; exact ⟨t, e, s _ _ f⟩
  | tp i j => obtain ⟨t, e, f⟩ := h; exact ⟨t, e, s _ _ f⟩
  | _ => exact h
theorem Val.same {H H' : Hp} {v : V} {k : Kd} (h : Val H v k) (s : Same H H') : Val H' v k := by
  cases k with
  | tup i => obtain ⟨t, e, f⟩ := h; exact ⟨t, e, s _ _ f⟩
  | tp i j => obtain ⟨t, e, f⟩ := h; exact ⟨t, e, s _ _ f⟩
  | _ => exact h
theorem kit_non {K : PySem.W.Frag} : PySem.W.kitAny K (.type "NoneType") [.type "list", .type "tuple"] = some false :=
  kitAny_cons (kit_ty (r := false) (by decide +kernel)) (fun _ => kitAny_cons (kit_ty (r := false) (by decide +kernel)) (fun _ => rfl) (fun z => nomatch z)) (fun z => nomatch z)
theorem kit_bl {K : PySem.W.Frag} : PySem.W.kitAny K (.type "bool") [.type "list", .type "tuple"] = some false :=
  kitAny_cons (kit_ty (r := false) (by decide +kernel)) (fun _ => kitAny_cons (kit_ty (r := false) (by decide +kernel)) (fun _ => rfl) (fun z => nomatch z)) (fun z => nomatch z)
theorem kit_str {K : PySem.W.Frag} : PySem.W.kitAny K (.type "str") [.type "list", .type "tuple"] = some false :=
  kitAny_cons (kit_ty (r := false) (by decide +kernel)) (fun _ => kitAny_cons (kit_ty (r := false) (by decide +kernel)) (fun _ => rfl) (fun z => nomatch z)) (fun z => nomatch z)
theorem kit_lst {K : PySem.W.Frag} : PySem.W.kitAny K (.type "list") [.type "list", .type "tuple"] = some true :=
  kitAny_cons (kit_ty (r := true) (by decide +kernel)) (fun z => nomatch z) (fun _ => rfl)
def spFixV : Sp := fun vs H Q _ => ∃ (v : V) (k : Kd), vs = [v] ∧ Inp H v k ∧ ∀ (v' : V) (H' : Hp), Val H' v' k → Same H H' → Q v' H'
theorem ok_fixedV (T : Txt K mg) : FnOk P w K mg base CX0 2 T.f_fixed.a T.f_fixed.fd ["value"] spFixV := by
  have G_fixedIn := ok_fixed0 (P := P) (w := w) (base := base) T
  refine T.f_fixed.F.ok sc_fixed (fun vs H Q E h => ?_) (fun cdv A outer s H vs Q E hr h => ?_)
  · obtain ⟨v, k, rfl, _⟩ := h
    rfl
  · obtain ⟨v, k, rfl, hv, q⟩ := h
    refine ⟨_, (pss_cons (ps_if (pt_val (pe_callB call_isiT (by rfl) T.n_isinstance (by decide +kernel) (pa_cons (pv 0) (pa_cons (pe_tup (pa_cons (pe_bltn (v := .ty "list") (by rfl) T.n_list (by decide +kernel) rfl) (pa_cons (pe_bltn (v := .ty "tuple") (by rfl) T.n_tuple (by decide +kernel) rfl) pa_nil))) pa_nil)))) (pss_one (ps_ret (pe_callTy call_tuple_of (by rfl) T.n_tuple (by decide +kernel) (pa_cons (pe_lc (own := [("one", 1)]) (by rfl) sc_fixed.nd (Ru.pi_seq (pv 0)) (blkOk_by (N := n_fixed) (sc := defScope s_fixed) (by decide +kernel)) (fun _ _ _ _ _ => (pg_name (i := 1) sc_fixed.nd rfl (Or.inl rfl))) (fun _ _ _ _ _ => pts_nil) (fun _ _ _ _ _ => (pe_call G_fixedIn (hr.mono (by decide)) (by rfl) T.f_fixed.g T.f_fixed.F.kp T.f_fixed.b .nil pass0 (pa_cons (pv 1) pa_nil)))) pa_nil)))) pss_nil) (pss_one (ps_ret (pv 0)))), ?_⟩
    refine ⟨_, rfl, sz2, fun t ht => ?_⟩
    have s1 := same_upd (o := .tup [.ty "list", .ty "tuple"]) ht
    cases k with
    | int i =>
      obtain rfl : v = .int i := hv
      refine ⟨_, t, _, .type "int", [.type "list", .type "tuple"], false, rfl, upd_same, .cons (.ty _) (.cons (.ty _) .nil), .base (.int _), kit_int, false, rfl, iteF ?_⟩
      exact ⟨_, rfl, q _ _ rfl s1⟩
    | non =>
      obtain rfl : v = .non := hv
      refine ⟨_, t, _, .type "NoneType", [.type "list", .type "tuple"], false, rfl, upd_same, .cons (.ty _) (.cons (.ty _) .nil), .base .non, kit_non, false, rfl, iteF ?_⟩
      exact ⟨_, rfl, q _ _ rfl s1⟩
    | bl b =>
      obtain rfl : v = .bl b := hv
      refine ⟨_, t, _, .type "bool", [.type "list", .type "tuple"], false, rfl, upd_same, .cons (.ty _) (.cons (.ty _) .nil), .base (.bl _), kit_bl, false, rfl, iteF ?_⟩
      exact ⟨_, rfl, q _ _ rfl s1⟩
    | str x =>
      obtain rfl : v = .str x := hv
      refine ⟨_, t, _, .type "str", [.type "list", .type "tuple"], false, rfl, upd_same, .cons (.ty _) (.cons (.ty _) .nil), .base (.str _), kit_str, false, rfl, iteF ?_⟩
      exact ⟨_, rfl, q _ _ rfl s1⟩
    | tup i =>
      obtain ⟨l, rfl, hl⟩ := hv
      refine ⟨_, t, _, .type "list", [.type "list", .type "tuple"], true, rfl, upd_same, .cons (.ty _) (.cons (.ty _) .nil), .base (.lst (s1 _ _ hl)), kit_lst, true, rfl, iteT ?_⟩
      refine .inr ⟨_, rfl, l, rfl, ⟨_, .of (s1 _ _ hl)⟩, fun D hD => ?_⟩
      generalize hH1 : upd H t (.tup [.ty "list", .ty "tuple"]) = H1 at s1 hD
      have s2 := same_upd (o := .lst []) hD
      refine lc_list (K := K) (a := l) (xs := [.int i]) (fun j H' => Same H1 H' ∧ H' D = some (.lst (([i].take j).map V.int))) ⟨s2, upd_same⟩ (fun j H' _ e => .of (e.1 _ _ (s1 _ _ hl))) (fun j x H' hj e => ?_) (fun H' e => ?_)
      · match j, hj with
        | 0, hj =>
          cases hj
          obtain ⟨e1, e2⟩ := e
          refine ⟨rfl, ?_⟩
          refine ⟨_, rfl, i, rfl, fun H3 s3 => ⟨_, s3 _ _ e2, small1000 (by show 0 ≤ 1000; decide), fun b o hb => ?_, upd_same⟩⟩
          rw [upd_ne (ne_of_none hb hD)]
          exact s3 _ _ (e1 _ _ hb)
        | n + 1, hj => cases hj
      · obtain ⟨e1, e2⟩ := e
        refine ⟨D, _, rfl, .inl ⟨.of e2, fun u hu => ?_⟩⟩
        have s4 := (s1.trans e1).trans (same_upd (o := .tup [.int i]) hu)
        exact q (.ref u) _ ⟨u, rfl, upd_same⟩ s4
    | tp i j =>
      obtain ⟨l, rfl, hl⟩ := hv
      refine ⟨_, t, _, .type "tuple", [.type "list", .type "tuple"], true, rfl, upd_same, .cons (.ty _) (.cons (.ty _) .nil), .base (.tup (s1 _ _ hl)), kit_tup, true, rfl, iteT ?_⟩
      refine .inl ⟨_, rfl, l, rfl, ⟨_, .of (s1 _ _ hl)⟩, fun D hD => ?_⟩
      generalize hH1 : upd H t (.tup [.ty "list", .ty "tuple"]) = H1 at s1 hD
      have s2 := same_upd (o := .lst []) hD
      refine lc_tup (K := K) (a := l) (xs := [.int i, .int j]) (fun n H' => Same H1 H' ∧ H' D = some (.lst (([i, j].take n).map V.int))) ⟨s2, upd_same⟩ (fun n H' _ e => .of (e.1 _ _ (s1 _ _ hl))) (fun n x H' hj e => ?_) (fun H' e => ?_)
      · match n, hj with
        | 0, hj =>
          cases hj
          obtain ⟨e1, e2⟩ := e
          refine ⟨rfl, ?_⟩
          refine ⟨_, rfl, i, rfl, fun H3 s3 => ⟨_, s3 _ _ e2, small1000 (by show 0 ≤ 1000; decide), fun b o hb => ?_, upd_same⟩⟩
          rw [upd_ne (ne_of_none hb hD)]
          exact s3 _ _ (e1 _ _ hb)
        | 1, hj =>
          cases hj
          obtain ⟨e1, e2⟩ := e
          refine ⟨rfl, ?_⟩
          refine ⟨_, rfl, j, rfl, fun H3 s3 => ⟨_, s3 _ _ e2, small1000 (by show 1 ≤ 1000; decide), fun b o hb => ?_, upd_same⟩⟩
          rw [upd_ne (ne_of_none hb hD)]
          exact s3 _ _ (e1 _ _ hb)
        | n + 2, hj => cases hj
      · obtain ⟨e1, e2⟩ := e
        refine ⟨D, _, rfl, .inl ⟨.of e2, fun u hu => ?_⟩⟩
        have s4 := (s1.trans e1).trans (same_upd (o := .tup [.int i, .int j]) hu)
        exact q (.ref u) _ ⟨u, rfl, upd_same⟩ s4
def spFixP : Sp := fun vs H Q _ => ∃ (p : Addr) (v : V) (k : Kd), vs = [.ref p] ∧ H p = some (.tup [v]) ∧ Inp H v k ∧ ∀ (q : Addr) (v' : V) (H' : Hp), H q = none → H' q = some (.tup [v']) → Val H' v' k → Same H H' → Q (.ref q) H'
theorem ok_fixed (T : Txt K mg) : FnOk P w K mg base CX0 3 T.f_fixed.a T.f_fixed.fd ["value"] spFixP := by
  have G_fixedIn := ok_fixedV (P := P) (w := w) (base := base) T
  refine T.f_fixed.F.ok sc_fixed (fun vs H Q E h => ?_) (fun cdv A outer s H vs Q E hr h => ?_)
  · obtain ⟨p, v, k, rfl, _⟩ := h
    rfl
  · obtain ⟨p, v, k, rfl, hp, hv, q⟩ := h
    refine ⟨_, (pss_cons (ps_if (pt_val (pe_callB call_isiT (by rfl) T.n_isinstance (by decide +kernel) (pa_cons (pv 0) (pa_cons (pe_tup (pa_cons (pe_bltn (v := .ty "list") (by rfl) T.n_list (by decide +kernel) rfl) (pa_cons (pe_bltn (v := .ty "tuple") (by rfl) T.n_tuple (by decide +kernel) rfl) pa_nil))) pa_nil)))) (pss_one (ps_ret (pe_callTy call_tuple_of (by rfl) T.n_tuple (by decide +kernel) (pa_cons (pe_lc (own := [("one", 1)]) (by rfl) sc_fixed.nd (Ru.pi_seq (pv 0)) (blkOk_by (N := n_fixed) (sc := defScope s_fixed) (by decide +kernel)) (fun _ _ _ _ _ => (pg_name (i := 1) sc_fixed.nd rfl (Or.inl rfl))) (fun _ _ _ _ _ => pts_nil) (fun _ _ _ _ _ => (pe_call G_fixedIn (hr.mono (by decide)) (by rfl) T.f_fixed.g T.f_fixed.F.kp T.f_fixed.b .nil pass0 (pa_cons (pv 1) pa_nil)))) pa_nil)))) pss_nil) (pss_one (ps_ret (pv 0)))), ?_⟩
    refine ⟨_, rfl, sz2, fun t ht => ?_⟩
    have s1 := same_upd (o := .tup [.ty "list", .ty "tuple"]) ht
    refine ⟨_, t, _, .type "tuple", [.type "list", .type "tuple"], true, rfl, upd_same, .cons (.ty _) (.cons (.ty _) .nil), .base (.tup (s1 _ _ hp)), kit_tup, true, rfl, iteT ?_⟩
    refine .inl ⟨_, rfl, p, rfl, ⟨_, .of (s1 _ _ hp)⟩, fun D hD => ?_⟩
    generalize hH1 : upd H t (.tup [.ty "list", .ty "tuple"]) = H1 at s1 hD
    have s2 := same_upd (o := .lst []) hD
    refine lc_tup (K := K) (a := p) (xs := [v]) (fun i H' => Same H1 H' ∧ (i = 0 ∧ H' D = some (.lst []) ∨ i = 1 ∧ ∃ v', Val H' v' k ∧ H' D = some (.lst [v']))) ⟨s2, .inl ⟨rfl, upd_same⟩⟩ (fun i H' _ e => .of (e.1 _ _ (s1 _ _ hp))) (fun i x H' hi e => ?_) (fun H' e => ?_)
    · match i, hi with
      | 0, hi =>
        cases hi
        obtain ⟨e1, ⟨_, e2⟩ | ⟨z, _⟩⟩ := e
        case inr => exact absurd z (by decide)
        refine ⟨rfl, ?_⟩
        refine ⟨_, rfl, v, k, rfl, (hv.same s1).same e1, fun v' H3 hv' s3 => ⟨_, s3 _ _ e2, small1000 (by show 0 ≤ 1000; decide), fun b o hb => ?_, .inr ⟨rfl, v', ?_, upd_same⟩⟩⟩
        · rw [upd_ne (ne_of_none hb hD)]
          exact s3 _ _ (e1 _ _ hb)
        · cases k with
          | tup i =>
            obtain ⟨u, e, f⟩ := hv'
            have nu : u ≠ D := ne_of f (s3 _ _ e2) (fun z => nomatch z)
            exact ⟨u, e, by rw [upd_ne nu]; exact f⟩
          | tp i j =>
            obtain ⟨u, e, f⟩ := hv'
            have nu : u ≠ D := ne_of f (s3 _ _ e2) (fun z => nomatch z)
            exact ⟨u, e, by rw [upd_ne nu]; exact f⟩
          | _ => exact hv'
      | n + 1, hi => cases hi
    · obtain ⟨e1, ⟨z, _⟩ | ⟨_, v', hv', e2⟩⟩ := e
      · exact absurd z (by show ¬ (1 = 0); decide)
      refine ⟨D, _, rfl, .inl ⟨.of e2, fun l hl' => ?_⟩⟩
      have s4 := (s1.trans e1).trans (same_upd (o := .tup [v']) hl')
      exact q l v' _ ((s1.trans e1).free hl') upd_same (hv'.same (same_upd hl')) s4
/-! ### papers: their words and parts -/
def pF (wd : Str) (q : Addr) : List (Str × V) := putF "parts" (.ref q) (putF "word" (.str wd) [])
theorem pF_len (wd : Str) (q : Addr) : (pF wd q).length = 2 := by
  unfold pF
  show (if ("word" : Str) = "parts" then _ else (("word" : Str), V.str wd) :: putF "parts" (.ref q) []).length = 2
  rw [if_neg (by decide +kernel)]
  rfl
theorem pF_parts (wd : Str) (q : Addr) : (pF wd q).lookup ("parts" : Str) = some (.ref q) := by
  unfold pF
  rw [lookup_putF, if_pos rfl]
/-- what a class of papers must have -/
structure PapC (K : PySem.W.Frag) (C : Addr) : Prop where
  cl : Cls K C
  nw : NoAttr K C "word"
  np : NoAttr K C "parts"
end
end Q

namespace Q
/-! ### powers of whole numbers -/
theorem ipow_pos {x : Int} (h : 0 < x) : ∀ n : Nat, 0 < x ^ n
  | 0 => by rw [Int.pow_zero]; decide
  | n + 1 => by rw [Int.pow_succ]; exact Int.mul_pos (ipow_pos h n) h
theorem ipow_le {x y : Int} (h0 : 0 < x) (h : x ≤ y) : ∀ n : Nat, x ^ n ≤ y ^ n
  | 0 => by rw [Int.pow_zero, Int.pow_zero]; decide
  | n + 1 => by
    rw [Int.pow_succ, Int.pow_succ]
    exact Int.mul_le_mul (ipow_le h0 h n) h (by omega) (Int.le_of_lt (ipow_pos (by omega) n))
theorem diff_hi {x y : Int} (h0 : 0 < x) (h : x ≤ y) : ∀ n : Nat, y ^ (n + 1) - x ^ (n + 1) ≤ ((n : Int) + 1) * ((y - x) * y ^ n)
  | 0 => by
    rw [Int.pow_succ, Int.pow_succ, Int.pow_zero, Int.pow_zero]
    omega
  | n + 1 => by
    have ih := diff_hi h0 h n
    have e : y ^ (n + 1 + 1) - x ^ (n + 1 + 1) = (y ^ (n + 1) - x ^ (n + 1)) * y + (y - x) * x ^ (n + 1) := by
      rw [Int.pow_succ y (n + 1), Int.pow_succ x (n + 1), Int.sub_mul, Int.sub_mul, Int.mul_comm x (x ^ (n + 1))]
      rw [Int.mul_comm (x ^ (n + 1)) y]
      omega
    have h1 : (y ^ (n + 1) - x ^ (n + 1)) * y ≤ ((n : Int) + 1) * ((y - x) * y ^ n) * y := Int.mul_le_mul_of_nonneg_right ih (by omega)
    have h2 : (y - x) * x ^ (n + 1) ≤ (y - x) * y ^ (n + 1) := Int.mul_le_mul_of_nonneg_left (ipow_le h0 h _) (by omega)
    have e2 : ((n : Int) + 1) * ((y - x) * y ^ n) * y = ((n : Int) + 1) * ((y - x) * y ^ (n + 1)) := by
      rw [Int.pow_succ, Int.mul_assoc, Int.mul_assoc]
    have e3 : (((n + 1 : Nat) : Int) + 1) * ((y - x) * y ^ (n + 1)) = ((n : Int) + 1) * ((y - x) * y ^ (n + 1)) + (y - x) * y ^ (n + 1) := by
      rw [show (((n + 1 : Nat) : Int) + 1) = ((n : Int) + 1) + 1 by omega, Int.add_mul, Int.one_mul]
    omega
theorem diff_lo {x y : Int} (h0 : 0 < x) (h : x ≤ y) : ∀ n : Nat, ((n : Int) + 1) * ((y - x) * x ^ n) ≤ y ^ (n + 1) - x ^ (n + 1)
  | 0 => by
    rw [Int.pow_succ, Int.pow_succ, Int.pow_zero, Int.pow_zero]
    omega
  | n + 1 => by
    have ih := diff_lo h0 h n
    have e : y ^ (n + 1 + 1) - x ^ (n + 1 + 1) = (y ^ (n + 1) - x ^ (n + 1)) * x + (y - x) * y ^ (n + 1) := by
      rw [Int.pow_succ y (n + 1), Int.pow_succ x (n + 1), Int.sub_mul, Int.sub_mul, Int.mul_comm y (y ^ (n + 1))]
      rw [Int.mul_comm (y ^ (n + 1)) x]
      omega
    have h1 : ((n : Int) + 1) * ((y - x) * x ^ n) * x ≤ (y ^ (n + 1) - x ^ (n + 1)) * x := Int.mul_le_mul_of_nonneg_right ih (by omega)
    have h2 : (y - x) * x ^ (n + 1) ≤ (y - x) * y ^ (n + 1) := Int.mul_le_mul_of_nonneg_left (ipow_le h0 h _) (by omega)
    have e2 : ((n : Int) + 1) * ((y - x) * x ^ n) * x = ((n : Int) + 1) * ((y - x) * x ^ (n + 1)) := by
      rw [Int.pow_succ, Int.mul_assoc, Int.mul_assoc]
    have e3 : (((n + 1 : Nat) : Int) + 1) * ((y - x) * x ^ (n + 1)) = ((n : Int) + 1) * ((y - x) * x ^ (n + 1)) + (y - x) * x ^ (n + 1) := by
      rw [show (((n + 1 : Nat) : Int) + 1) = ((n : Int) + 1) + 1 by omega, Int.add_mul, Int.one_mul]
    omega
/-- four growing numbers -/
structure Gr (a b c d : Int) : Prop where
  ga : 0 < a
  gb : a < b
  gc : b ≤ c
  gd : c < d
theorem sum_step {a b c d : Int} (g : Gr a b c d) (n : Nat) (h : 0 ≤ sum0 a b c d (n + 1)) : 0 < sum0 a b c d (n + 1 + 1) := by
  have ga := g.ga
  have gb := g.gb
  have gc := g.gc
  have gd := g.gd
  unfold sum0 at h ⊢
  have hi := diff_hi (x := c) (y := d) (by omega) (by omega) n
  have lo := diff_lo (x := a) (y := b) ga (by omega) n
  have pa := ipow_pos ga n
  have pd := ipow_pos (show 0 < d by omega) n
  have ba : a ^ (n + 1) < b ^ (n + 1) := by
    have : 0 < ((n : Int) + 1) * ((b - a) * a ^ n) := Int.mul_pos (by omega) (Int.mul_pos (by omega) pa)
    omega
  have ed : d ^ (n + 1 + 1) - c ^ (n + 1 + 1) = (d ^ (n + 1) - c ^ (n + 1)) * c + (d - c) * d ^ (n + 1) := by
    rw [Int.pow_succ d (n + 1), Int.pow_succ c (n + 1), Int.sub_mul, Int.sub_mul, Int.mul_comm d (d ^ (n + 1))]
    rw [Int.mul_comm (d ^ (n + 1)) c]
    omega
  have eb : b ^ (n + 1 + 1) - a ^ (n + 1 + 1) = (b ^ (n + 1) - a ^ (n + 1)) * b + (b - a) * a ^ (n + 1) := by
    rw [Int.pow_succ b (n + 1), Int.pow_succ a (n + 1), Int.sub_mul, Int.sub_mul, Int.mul_comm a (a ^ (n + 1))]
    rw [Int.mul_comm (a ^ (n + 1)) b]
    omega
  have k1 : (b ^ (n + 1) - a ^ (n + 1)) * b ≤ (d ^ (n + 1) - c ^ (n + 1)) * c := Int.mul_le_mul (by omega) gc (by omega) (by omega)
  have k2 : (b - a) * a ^ n ≤ (d - c) * d ^ n := by
    have h3 : ((n : Int) + 1) * ((b - a) * a ^ n) ≤ ((n : Int) + 1) * ((d - c) * d ^ n) := by omega
    exact Int.le_of_mul_le_mul_left h3 (by omega)
  have pba : 0 < (b - a) * a ^ n := Int.mul_pos (by omega) pa
  have k3 : (b - a) * a ^ (n + 1) < (d - c) * d ^ (n + 1) := by
    rw [Int.pow_succ, Int.pow_succ, ← Int.mul_assoc, ← Int.mul_assoc]
    have t1 : (b - a) * a ^ n * a < (b - a) * a ^ n * d := Int.mul_lt_mul_of_pos_left (by omega) pba
    have t2 : (b - a) * a ^ n * d ≤ (d - c) * d ^ n * d := Int.mul_le_mul_of_nonneg_right k2 (by omega)
    omega
  omega
theorem two_more : ∀ k : Fin 99, 2 * ((k.val : Int)) ^ 69 ≤ ((k.val : Int) + 1) ^ 69 := by decide +kernel
theorem twice {x y : Int} (h0 : 0 < x) (h : x < y) (h9 : y ≤ 99) : 2 * x ^ 69 ≤ y ^ 69 := by
  have e := two_more ⟨x.toNat, by omega⟩
  have ex : ((x.toNat : Nat) : Int) = x := by omega
  simp only [ex] at e
  have := ipow_le (x := x + 1) (y := y) (by omega) (by omega) 69
  omega
theorem far_up {a b c d : Int} (g : Gr a b c d) (h9 : d ≤ 99) : 0 < sum0 a b c d 69 := by
  have ga := g.ga
  have gb := g.gb
  have gc := g.gc
  have gd := g.gd
  unfold sum0
  have h1 := twice (x := c) (y := d) (by omega) gd h9
  have h2 := ipow_le (x := b) (y := c) (by omega) gc 69
  have h3 := ipow_pos ga 69
  omega
/-- the four whose powers are those below 0 -/
theorem Gr.low {a b c d : Int} (g : Gr a b c d) : Gr (a * b * c) (a * b * d) (a * c * d) (b * c * d) := by
  have ga := g.ga
  have gb := g.gb
  have gc := g.gc
  have gd := g.gd
  have ab : 0 < a * b := Int.mul_pos ga (by omega)
  have cd : 0 < c * d := Int.mul_pos (by omega) (by omega)
  have ad : 0 < a * d := Int.mul_pos ga (by omega)
  refine ⟨Int.mul_pos ab (by omega), Int.mul_lt_mul_of_pos_left gd ab, ?_, ?_⟩
  · rw [show a * b * d = b * (a * d) by ac_rfl, show a * c * d = c * (a * d) by ac_rfl]
    exact Int.mul_le_mul_of_nonneg_right gc (by omega)
  · rw [Int.mul_assoc, Int.mul_assoc]
    exact Int.mul_lt_mul_of_pos_right gb cd
theorem wsum_up (a b c d : Int) (n : Nat) : wsum a b c d (n : Int) = sum0 a b c d n := by
  unfold wsum
  rw [if_neg (by omega)]
  rfl
theorem wsum_down (a b c d : Int) (n : Nat) (h : 1 ≤ n) : wsum a b c d (-(n : Int)) = sum0 (a * b * c) (a * b * d) (a * c * d) (b * c * d) n := by
  unfold wsum
  rw [if_pos (by omega), show (- -(n : Int)).toNat = n by omega]
  unfold sum0
  omega
theorem far_down {a b c d : Int} (g : Gr a b c d) (h9 : d ≤ 99) : 0 < sum0 (a * b * c) (a * b * d) (a * c * d) (b * c * d) 69 := by
  have ga := g.ga
  have gb := g.gb
  have gc := g.gc
  have gd := g.gd
  have gl := g.low
  unfold sum0
  have h1 := twice (x := a) (y := b) ga gb (by omega)
  have cd : 0 < (c * d) ^ 69 := ipow_pos (Int.mul_pos (by omega) (by omega)) 69
  have h2 : 2 * a ^ 69 * (c * d) ^ 69 ≤ b ^ 69 * (c * d) ^ 69 := Int.mul_le_mul_of_nonneg_right h1 (by omega)
  rw [Int.mul_assoc, ← Int.mul_pow, ← Int.mul_pow, ← Int.mul_assoc, ← Int.mul_assoc] at h2
  have h3 := ipow_le (x := a * b * d) (y := a * c * d) (by have := gl.ga; have := gl.gb; omega) gl.gc 69
  have h4 := ipow_pos gl.ga 69
  omega
/-! ### the first power at which a sum is not below 0 -/
structure First (F : Nat → Int) (m : Nat) : Prop where
  one : 1 ≤ m
  le : m ≤ 69
  low : ∀ j, 1 ≤ j → j < m → F j < 0
  hi : 0 ≤ F m
theorem First.uniq {F : Nat → Int} {m m' : Nat} (x : First F m) (y : First F m') : m = m' := by
  rcases Nat.lt_trichotomy m m' with h | h | h
  · have := y.low m x.one h
    have := x.hi
    omega
  · exact h
  · have := x.low m' y.one h
    have := y.hi
    omega
def ResW (F : Nat → Int) (up : Bool) (k : Bool) (n : Int) : Prop := ∃ m, First F m ∧ ((F m = 0 ∧ k = true ∧ n = (if up = true then (m : Int) else -(m : Int))) ∨ (0 < F m ∧ k = false ∧ n = (if up = true then (m : Int) - 1 else -(m : Int))))
theorem ResW.uniq {F : Nat → Int} {up k k' : Bool} {n n' : Int} (x : ResW F up k n) (y : ResW F up k' n') : k = k' ∧ n = n' := by
  obtain ⟨m, f, x⟩ := x
  obtain ⟨m', f', y⟩ := y
  have e := f.uniq f'
  subst e
  rcases x with ⟨h1, h2, h3⟩ | ⟨h1, h2, h3⟩
  · rcases y with ⟨g1, g2, g3⟩ | ⟨g1, g2, g3⟩
    · exact ⟨h2.trans g2.symm, h3.trans g3.symm⟩
    · omega
  · rcases y with ⟨g1, g2, g3⟩ | ⟨g1, g2, g3⟩
    · omega
    · exact ⟨h2.trans g2.symm, h3.trans g3.symm⟩
theorem sgn_lt {x y : Int} (h : sgn x = sgn y) : (x < 0 ↔ y < 0) ∧ (x = 0 ↔ y = 0) ∧ (0 < x ↔ 0 < y) := by
  unfold sgn at h
  split at h <;> split at h <;> (try split at h) <;> (try split at h) <;> omega
theorem First.congr {F G : Nat → Int} {m : Nat} (h : ∀ j, 1 ≤ j → j ≤ 69 → sgn (G j) = sgn (F j)) (x : First F m) : First G m := by
  refine ⟨x.one, x.le, fun j h1 h2 => ?_, ?_⟩
  · exact (sgn_lt (h j h1 (by have := x.le; omega))).1.mpr (x.low j h1 h2)
  · have e := sgn_lt (h m x.one x.le)
    have := x.hi
    omega
theorem ResW.congr {F G : Nat → Int} {up k : Bool} {n : Int} (h : ∀ j, 1 ≤ j → j ≤ 69 → sgn (G j) = sgn (F j)) (x : ResW F up k n) : ResW G up k n := by
  obtain ⟨m, f, x⟩ := x
  have e := sgn_lt (h m f.one f.le)
  refine ⟨m, f.congr h, ?_⟩
  rcases x with ⟨h1, h2, h3⟩ | ⟨h1, h2, h3⟩
  · exact .inl ⟨e.2.1.mpr h1, h2, h3⟩
  · exact .inr ⟨e.2.2.mpr h1, h2, h3⟩
/-- what is found, turned about -/
theorem ResW.flip {F : Nat → Int} {up k : Bool} {n : Int} (x : ResW F up k n) : ResW F (!up) k (if k = true then -n else -n - 1) := by
  obtain ⟨m, f, x⟩ := x
  refine ⟨m, f, ?_⟩
  rcases x with ⟨h1, h2, h3⟩ | ⟨h1, h2, h3⟩
  · refine .inl ⟨h1, h2, ?_⟩
    rw [h2, h3]
    cases up <;> simp
  · refine .inr ⟨h1, h2, ?_⟩
    rw [h2, h3]
    cases up <;> simp <;> omega
theorem First.after {F : Nat → Int} {m : Nat} (st : ∀ n, 0 ≤ F (n + 1) → 0 < F (n + 1 + 1)) (x : First F m) : ∀ i, m < i → 0 < F i := by
  intro i hi
  induction i with
  | zero => omega
  | succ i ih =>
    have h1 := x.one
    obtain ⟨j, rfl⟩ : ∃ j, i = j + 1 := ⟨i - 1, by omega⟩
    by_cases h : m = j + 1
    · exact st j (h ▸ x.hi)
    · exact st j (Int.le_of_lt (ih (by omega)))
theorem ResW.power {F : Nat → Int} {up k : Bool} {n : Int} {t : Nat} (ht : 2 ≤ t) (st : ∀ n, 0 ≤ F (n + 1) → 0 < F (n + 1 + 1)) (x : ResW F up k n) : ResW (fun j => F (t * j)) up (k && decide (n % (t : Int) = 0)) (n / (t : Int)) := by
  obtain ⟨m, f, x⟩ := x
  have h1 := f.one
  have h2 := f.le
  -- c: the least number of times t that is not below m
  obtain ⟨c, r, hc, hr⟩ : ∃ c r : Nat, t * c = m + r ∧ r < t := by
    refine ⟨(m + t - 1) / t, t * ((m + t - 1) / t) - m, ?_, ?_⟩
    · have := Nat.div_add_mod (m + t - 1) t
      have := Nat.mod_lt (m + t - 1) (show 0 < t by omega)
      omega
    · have := Nat.div_add_mod (m + t - 1) t
      have := Nat.mod_lt (m + t - 1) (show 0 < t by omega)
      omega
  have c1 : 1 ≤ c := by
    cases c with
    | zero => omega
    | succ c => omega
  have c2 : c ≤ m := by
    have : 2 * c ≤ t * c := Nat.mul_le_mul_right c ht
    by_cases h : c ≤ m
    · exact h
    · exfalso
      have h5 : t * (m + 1) ≤ t * c := Nat.mul_le_mul_left t (by omega)
      rw [Nat.mul_succ] at h5
      have h6 : 2 * m ≤ t * m := Nat.mul_le_mul_right m ht
      omega
  have fg : First (fun j => F (t * j)) c := by
    refine ⟨c1, by omega, fun j j1 j2 => ?_, ?_⟩
    · have h5 : t * (j + 1) ≤ t * c := Nat.mul_le_mul_left t (by omega)
      rw [Nat.mul_succ] at h5
      have h6 : t * 1 ≤ t * j := Nat.mul_le_mul_left t j1
      exact f.low _ (by omega) (by omega)
    · show 0 ≤ F (t * c)
      by_cases h : r = 0
      · rw [hc, h, Nat.add_zero]
        exact f.hi
      · exact Int.le_of_lt (f.after st _ (by omega))
  have hcI : (t : Int) * (c : Int) = (m : Int) + (r : Int) := by exact_mod_cast hc
  have hrI : (r : Int) < (t : Int) := by exact_mod_cast hr
  have tp : (0 : Int) < (t : Int) := by omega
  have q1 : ((m : Int) - 1) / (t : Int) = (c : Int) - 1 := by
    refine (Int.ediv_eq_iff_of_pos tp).mpr ⟨?_, ?_⟩
    · rw [Int.sub_mul, Int.mul_comm, hcI]; omega
    · rw [Int.sub_mul, Int.mul_comm, hcI]; omega
  have q2 : (-(m : Int)) / (t : Int) = -(c : Int) := by
    refine (Int.ediv_eq_iff_of_pos tp).mpr ⟨?_, ?_⟩
    · rw [Int.neg_mul, Int.mul_comm, hcI]; omega
    · rw [Int.neg_mul, Int.mul_comm, hcI]; omega
  refine ⟨c, fg, ?_⟩
  by_cases hr0 : r = 0
  · -- t divides m
    have em : (m : Int) = (t : Int) * (c : Int) := by omega
    have ec : F (t * c) = F m := by rw [hc, hr0, Nat.add_zero]
    rcases x with ⟨g1, g2, g3⟩ | ⟨g1, g2, g3⟩
    · left
      refine ⟨by show F (t * c) = 0; rw [ec]; exact g1, ?_, ?_⟩
      · rw [g2, g3]
        cases up
        · simp only [Bool.false_eq_true, if_false, Bool.true_and]
          exact decide_eq_true (by rw [em, ← Int.mul_neg]; exact Int.mul_emod_right _ _)
        · simp only [if_true, Bool.true_and]
          exact decide_eq_true (by rw [em]; exact Int.mul_emod_right _ _)
      · rw [g3]
        cases up
        · simp only [Bool.false_eq_true, if_false]
          exact q2
        · simp only [if_true]
          rw [em]
          exact Int.mul_ediv_cancel_left _ (by omega)
    · right
      refine ⟨by show 0 < F (t * c); rw [ec]; exact g1, by rw [g2]; rfl, ?_⟩
      rw [g3]
      cases up
      · simp only [Bool.false_eq_true, if_false]
        exact q2
      · simp only [if_true]
        exact q1
  · right
    refine ⟨f.after st _ (by omega), ?_, ?_⟩
    · rcases x with ⟨g1, g2, g3⟩ | ⟨g1, g2, g3⟩
      · rw [g2, g3, Bool.true_and]
        apply decide_eq_false
        intro z
        cases up
        · simp only [Bool.false_eq_true, if_false] at z
          have := Int.mul_ediv_add_emod (-(m : Int)) (t : Int)
          rw [z, q2, Int.mul_neg, hcI] at this
          omega
        · simp only [if_true] at z
          have d := Int.dvd_of_emod_eq_zero z
          have d2 : (t : Int) ∣ -(m : Int) := Int.dvd_neg.mpr d
          have z2 := Int.emod_eq_zero_of_dvd d2
          have := Int.mul_ediv_add_emod (-(m : Int)) (t : Int)
          rw [z2, q2, Int.mul_neg, hcI] at this
          omega
      · rw [g2]
        rfl
    · rcases x with ⟨g1, g2, g3⟩ | ⟨g1, g2, g3⟩
      · rw [g3]
        cases up
        · simp only [Bool.false_eq_true, if_false]
          exact q2
        · simp only [if_true]
          refine (Int.ediv_eq_iff_of_pos tp).mpr ⟨?_, ?_⟩
          · rw [Int.sub_mul, Int.mul_comm, hcI]; omega
          · rw [Int.sub_mul, Int.mul_comm, hcI]; omega
      · rw [g3]
        cases up
        · simp only [Bool.false_eq_true, if_false]
          exact q2
        · simp only [if_true]
          exact q1
end Q

namespace Q
open PySem PySem.Spec PyProof.Rows L2
theorem ipow_lt {x y : Int} (h0 : 0 < x) (h : x < y) : ∀ n : Nat, x ^ (n + 1) < y ^ (n + 1)
  | 0 => by rw [Int.pow_succ, Int.pow_succ, Int.pow_zero, Int.pow_zero]; omega
  | n + 1 => by
    rw [Int.pow_succ x (n + 1), Int.pow_succ y (n + 1)]
    have h1 := ipow_lt h0 h n
    have h2 := ipow_pos (show 0 < y by omega) (n + 1)
    have h3 := ipow_pos h0 (n + 1)
    have e1 : x ^ (n + 1) * x ≤ y ^ (n + 1) * x := Int.mul_le_mul_of_nonneg_right (by omega) (by omega)
    have e2 : y ^ (n + 1) * x < y ^ (n + 1) * y := Int.mul_lt_mul_of_pos_left h h2
    omega
theorem id1 (A B C D P : Int) : A*B*C + B*C*D - A*B*D - A*C*D = (B-P)*(C*A + (C-A)*D) + (C-P)*(P*A+(P-A)*D) + P*(P*D+P*A-2*A*D) := by grind
theorem lem64 {A B C D P N : Int} (hA : 0 < A) (hAP : A < P) (hB : P ≤ B) (hC : P ≤ C) (hD : D ≤ N) (hD0 : 0 < D) (k : 2*A*N < N*P + A*P) : 0 < A*B*C + B*C*D - A*B*D - A*C*D := by
  rw [id1 A B C D P]
  have h1 : 0 ≤ (B-P)*(C*A + (C-A)*D) := Int.mul_nonneg (by omega) (Int.add_nonneg (Int.mul_nonneg (by omega) (by omega)) (Int.mul_nonneg (by omega) (by omega)))
  have h2 : 0 ≤ (C-P)*(P*A+(P-A)*D) := Int.mul_nonneg (by omega) (Int.add_nonneg (Int.mul_nonneg (by omega) (by omega)) (Int.mul_nonneg (by omega) (by omega)))
  have h4 : 0 < P*A := Int.mul_pos (by omega) hA
  have e1 : P*D+P*A-2*A*D = P*A + (P-2*A)*D := by grind
  have h3 : 0 < P*(P*D+P*A-2*A*D) := by
    refine Int.mul_pos (by omega) ?_
    rw [e1]
    by_cases h : 2*A ≤ P
    · have : 0 ≤ (P-2*A)*D := Int.mul_nonneg (by omega) (by omega)
      omega
    · have h5 : 0 ≤ (2*A-P)*(N-D) := Int.mul_nonneg (by omega) (by omega)
      have e2 : P*A + (P-2*A)*D = (2*A-P)*(N-D) + (N*P+A*P-2*A*N) := by grind
      omega
  omega
theorem near99 : ∀ k : Fin 98, 2 * ((k.val : Int)) ^ 64 * 99 ^ 64 < 99 ^ 64 * ((k.val : Int) + 1) ^ 64 + (k.val : Int) ^ 64 * ((k.val : Int) + 1) ^ 64 := by decide +kernel
theorem far64 {a b c d : Int} (g : Gr a b c d) (h9 : d ≤ 99) : 0 < sum0 (a * b * c) (a * b * d) (a * c * d) (b * c * d) 64 := by
  have ga := g.ga
  have gb := g.gb
  have gc := g.gc
  have gd := g.gd
  unfold sum0
  have e := near99 ⟨a.toNat, by omega⟩
  have ex : ((a.toNat : Nat) : Int) = a := by omega
  simp only [ex] at e
  simp only [Int.mul_pow]
  exact lem64 (P := (a + 1) ^ 64) (N := 99 ^ 64) (ipow_pos ga 64) (ipow_lt ga (by omega) 63) (ipow_le (by omega) (by omega) 64) (ipow_le (by omega) (by omega) 64) (ipow_le (by omega) (by omega) 64) (ipow_pos (by omega) 64) e
theorem one_down {a b c d : Int} (g : Gr a b c d) (h : a * d ≤ b * c) : 0 < sum0 (a * b * c) (a * b * d) (a * c * d) (b * c * d) 1 := by
  have ga := g.ga
  have gb := g.gb
  have gc := g.gc
  have gd := g.gd
  unfold sum0
  simp only [Int.pow_succ, Int.pow_zero, Int.one_mul]
  have e : a * b * c + b * c * d - a * b * d - a * c * d = (b*c-a*d)*a + ((b-a)*(c-a))*d := by grind
  have h1 : 0 ≤ (b*c-a*d)*a := Int.mul_nonneg (by omega) (by omega)
  have h2 : 0 < ((b-a)*(c-a))*d := Int.mul_pos (Int.mul_pos (by omega) (by omega)) (by omega)
  omega
theorem one_up {a b c d : Int} (g : Gr a b c d) (h : b * c ≤ a * d) : 0 < sum0 a b c d 1 := by
  have ga := g.ga
  have gb := g.gb
  have gc := g.gc
  have gd := g.gd
  unfold sum0
  simp only [Int.pow_succ, Int.pow_zero, Int.one_mul]
  have e : d * (a + d - b - c) = (a*d-b*c) + (d-b)*(d-c) := by grind
  have h2 : 0 < (d-b)*(d-c) := Int.mul_pos (by omega) (by omega)
  exact Int.pos_of_mul_pos_right (a := d) (by omega) (by omega)
/-! ### the signs at the powers from 1 to 80 -/
def sigs (F : Nat → Int) : List Int := (List.range 80).map fun i => sgn (F (i + 1))
def pat (m : Nat) (s : Int) : List Int := List.replicate (m - 1) (-1) ++ (s :: List.replicate (80 - m) 1)
theorem sigs_len (F : Nat → Int) : (sigs F).length = 80 := by simp [sigs]
theorem sigs_pat {F : Nat → Int} {m : Nat} (x : First F m) (aft : ∀ i, m < i → 0 < F i) : sigs F = pat m (sgn (F m)) := by
  have h1 := x.one
  have h2 := x.le
  refine List.ext_getElem ?_ fun i p q => ?_
  · simp only [sigs_len, pat, List.length_append, List.length_replicate, List.length_cons]
    omega
  · simp only [sigs, List.getElem_map, List.getElem_range, pat, List.getElem_append, List.length_replicate]
    split
    · rename_i h
      have := x.low (i + 1) (by omega) (by omega)
      rw [List.getElem_replicate]
      unfold sgn
      rw [if_neg (by omega), if_neg (by omega)]
    · rename_i h
      by_cases e : i = m - 1
      · subst e
        simp only [Nat.sub_self, List.getElem_cons_zero]
        rw [show m - 1 + 1 = m by omega]
      · obtain ⟨j, ej⟩ : ∃ j, i - (m - 1) = j + 1 := ⟨i - (m - 1) - 1, by omega⟩
        simp only [ej, List.getElem_cons_succ, List.getElem_replicate]
        have := aft (i + 1) (by omega)
        unfold sgn
        rw [if_neg (by omega), if_pos this]
theorem sgn01 {x : Int} (h : 0 ≤ x) : (x = 0 ∧ sgn x = 0) ∨ (0 < x ∧ sgn x = 1) := by
  unfold sgn
  by_cases e : x = 0
  · exact .inl ⟨e, if_pos e⟩
  · exact .inr ⟨by omega, by rw [if_neg e, if_pos (by omega)]⟩
theorem pat_len {m : Nat} {s : Int} (h1 : 1 ≤ m) (h2 : m ≤ 69) : (pat m s).length = 80 := by
  simp only [pat, List.length_append, List.length_replicate, List.length_cons]
  omega
theorem pat_count {m : Nat} {s : Int} (h : s = 0 ∨ s = 1) : (pat m s).count (-1) = m - 1 := by
  unfold pat
  rw [List.count_append, List.count_replicate_self, List.count_cons_of_ne (by rcases h with rfl | rfl <;> decide), List.count_replicate]
  rfl
theorem pat_take {m : Nat} {s : Int} : (pat m s).take (m - 1) = List.replicate (m - 1) (-1) := by
  unfold pat
  rw [List.take_append_of_le_length (by simp), List.take_of_length_le (by simp)]
theorem pat_drop {m : Nat} {s : Int} : (pat m s).drop (m - 1) = s :: List.replicate (80 - m) 1 := by
  unfold pat
  rw [List.drop_append_of_le_length (by simp), List.drop_of_length_le (by simp)]
  rfl
theorem pat_at {m : Nat} {s : Int} : (pat m s)[m - 1]? = some s := by
  unfold pat
  rw [List.getElem?_append_right (by simp)]
  simp
theorem pat_zero {m : Nat} {s : Int} (h : m = 1) : (pat m s)[0]? = some s := by
  subst h
  rfl
theorem sigs_at (F : Nat → Int) {p : Nat} (h1 : 1 ≤ p) (h2 : p ≤ 80) : (sigs F)[p - 1]? = some (sgn (F p)) := by
  unfold sigs
  rw [List.getElem?_map, List.getElem?_range (by omega)]
  show some (sgn (F (p - 1 + 1))) = _
  rw [show p - 1 + 1 = p by omega]
theorem dpInts {K : PySem.W.Frag} {H : Hp} : ∀ xs : List Int, DpAll K H (xs.map V.int) (xs.map PyData.int)
  | [] => .nil
  | x :: xs => .cons (.int x) (dpInts xs)
theorem eqInts : ∀ xs : List Int, PyData.eqvAll (xs.map PyData.int) (xs.map PyData.int) = true
  | [] => rfl
  | x :: xs => by
    rw [List.map_cons, PyData.eqvAll, eqInts xs]
    simp [PyData.eqv]
/-- where the up and the down sums first are not below 0 -/
structure Both (a b c d : Int) (m n : Nat) : Prop where
  up : First (fun j => sum0 a b c d j) m
  dn : First (fun j => sum0 (a * b * c) (a * b * d) (a * c * d) (b * c * d) j) n
theorem first_ex (F : Nat → Int) : ∀ k j : Nat, 1 ≤ j → j + k = 69 → 0 ≤ F 69 → (∀ i, 1 ≤ i → i < j → F i < 0) → ∃ m, First F m
  | 0, j, h1, h2, h3, h4 => ⟨j, h1, by omega, h4, by rw [show j = 69 by omega]; exact h3⟩
  | k + 1, j, h1, h2, h3, h4 => by
    by_cases h : 0 ≤ F j
    · exact ⟨j, h1, by omega, h4, h⟩
    · refine first_ex F k (j + 1) (by omega) (by omega) h3 fun i i1 i2 => ?_
      by_cases e : i = j
      · rw [e]
        omega
      · exact h4 i i1 (by omega)
theorem Gr.up1 {a b c d : Int} (g : Gr a b c d) (h9 : d ≤ 99) : ∃ m, First (fun j => sum0 a b c d j) m := first_ex _ 68 1 (by omega) rfl (Int.le_of_lt (far_up g h9)) fun i h1 h2 => by omega
theorem Gr.dn1 {a b c d : Int} (g : Gr a b c d) (h9 : d ≤ 99) : ∃ m, First (fun j => sum0 (a * b * c) (a * b * d) (a * c * d) (b * c * d) j) m := first_ex _ 68 1 (by omega) rfl (Int.le_of_lt (far_down g h9)) fun i h1 h2 => by omega
theorem first_one {F : Nat → Int} {m : Nat} (x : First F m) (h : 0 < F 1) : m = 1 := by
  have := x.one
  by_cases e : m = 1
  · exact e
  · have := x.low 1 (by omega) (by omega)
    omega
/-- the sums that a law reckons: those of (b c d, a c d, a b d, a b c) -/
theorem sum0_turn (x y z u : Int) (n : Nat) : sum0 x y z u n = sum0 u z y x n := by
  unfold sum0
  omega
end Q

namespace Q
open PySem PySem.Spec PyProof.Rows L2
section
variable {P : Program} {w : World} {K : PySem.W.Frag} {mg : Str → Option Value} {base : Heap}
def spPaperI (K : PySem.W.Frag) : Sp := fun vs H Q _ => ∃ (x C dx p : Addr) (wd : Str) (v : V) (k : Kd), vs = [.ref x, .str wd, .ref p] ∧ PapC K C ∧ H x = some (.ins C dx []) ∧ H p = some (.tup [v]) ∧ Inp H v k ∧
  ∀ (q : Addr) (v' : V) (H' : Hp), H' x = some (.ins C dx (pF wd q)) → H q = none → H' q = some (.tup [v']) → Val H' v' k → (∀ b o, H b = some o → b ≠ x → H' b = some o) → Q .non H'
def spStarI (K : PySem.W.Frag) : Sp := fun vs H Q _ => ∃ (x C dx : Addr) (wd : Str) (v : V) (k : Kd), vs = [V.ref x, V.str wd, v] ∧ PapC K C ∧ H x = some (.ins C dx []) ∧ Inp H v k ∧
  ∀ (q : Addr) (v' : V) (H' : Hp), H' x = some (.ins C dx (pF wd q)) → H q = none → H' q = some (.tup [v']) → Val H' v' k → (∀ b o, H b = some o → b ≠ x → H' b = some o) → Q .non H'
theorem Inp.put {H : Hp} {v : V} {k : Kd} {x : Addr} {C dx : Addr} {fs : List (Str × V)} {o : HO} (h : Inp H v k) (hx : H x = some (.ins C dx fs)) : Inp (upd H x o) v k := by
  cases k with
  | tup i =>
    obtain ⟨t, e, f⟩ := h
    have nt : t ≠ x := ne_of f hx (fun z => nomatch z)
    exact ⟨t, e, by rw [upd_ne nt]; exact f⟩
  | tp i j =>
    obtain ⟨t, e, f⟩ := h
    have nt : t ≠ x := ne_of f hx (fun z => nomatch z)
    exact ⟨t, e, by rw [upd_ne nt]; exact f⟩
  | _ => exact h
theorem Val.put {H : Hp} {v : V} {k : Kd} {x : Addr} {C dx : Addr} {fs : List (Str × V)} {o : HO} (h : Val H v k) (hx : H x = some (.ins C dx fs)) : Val (upd H x o) v k := by
  cases k with
  | tup i =>
    obtain ⟨t, e, f⟩ := h
    have nt : t ≠ x := ne_of f hx (fun z => nomatch z)
    exact ⟨t, e, by rw [upd_ne nt]; exact f⟩
  | tp i j =>
    obtain ⟨t, e, f⟩ := h
    have nt : t ≠ x := ne_of f hx (fun z => nomatch z)
    exact ⟨t, e, by rw [upd_ne nt]; exact f⟩
  | _ => exact h
theorem ok_Paper__init__ (T : Txt K mg) : FnR P w K mg base CX0 4 T.f_Paper__init__.a (spStarI K) := by
  have G_fixed := ok_fixed (P := P) (w := w) (base := base) T
  obtain ⟨oc, od, kV, doc, pm, an, cdv, ct, osl, e, lk, hcd⟩ := T.f_Paper__init__.F.ex
  rw [e] at lk
  refine (StX.fn_star (ps := ["self", "word"]) (pv := "parts") (sp := spPaperI K) lk hcd sc_Paper__init__ StX.cxUp_none (StX.bind_star2 (B := fun us => bindArgs (PySem.W.fnOf "__init__" "Paper.__init__" (defArgs s_Paper__init__) (defBody s_Paper__init__) (defScope s_Paper__init__) .none kV doc pm an cdv ct) ⟨us, []⟩) (fun _ _ => rfl) (fun _ _ _ _ => rfl)) (fun A outer s H vs Q E hr h => ?_)).imp ?_
  · obtain ⟨x, C, dx, p, wd, v, k, rfl, pc, hx, hp, hv, q⟩ := h
    refine ⟨_, (pss_cons (ps_fld (pv 0) (pv 1) rfl) (pss_one (ps_fld (pv 0) (pe_call G_fixed (hr.mono (by decide)) (by rfl) T.f_fixed.g T.f_fixed.F.kp T.f_fixed.b .nil pass0 (pa_cons (pv 2) pa_nil)) rfl))), ?_⟩
    have npx : p ≠ x := ne_of hp hx (fun z => nomatch z)
    refine ⟨_, rfl, _, rfl, x, C, dx, _, rfl, hx, pc.cl, pc.nw, (by show 0 < 1000; decide), ?_⟩
    refine ⟨_, rfl, p, v, k, rfl, (by rw [upd_ne npx]; exact hp), hv.put hx, fun q' v' H' f' e' hv' s' => ?_⟩
    have nqx : q' ≠ x := fun z => by
      rw [z, upd_same] at f'
      cases f'
    have hq0 : H q' = none := by
      rw [upd_ne nqx] at f'
      exact f'
    have hx' := s' _ _ upd_same
    refine ⟨_, rfl, x, C, dx, _, rfl, hx', pc.cl, pc.np, (by show 1 < 1000; decide), ?_⟩
    refine q q' v' _ upd_same hq0 (by rw [upd_ne nqx]; exact e') (hv'.put hx') fun b o hb nb => ?_
    rw [upd_ne nb]
    exact s' _ _ (by rw [upd_ne nb]; exact hb)
  · intro vs H Q E h
    obtain ⟨x, C, dx, wd, v, k, rfl, pc, hx, hv, q⟩ := h
    refine ⟨[.ref x, .str wd], [v], rfl, rfl, ?_, fun p hp => ?_⟩
    · exact Nat.le_of_lt (small1000 (by show 1 ≤ 1000; decide))
    · have nxp : x ≠ p := ne_of_none hx hp
      refine ⟨x, C, dx, p, wd, v, k, rfl, pc, (by rw [upd_ne nxp]; exact hx), upd_same, hv.same (same_upd hp), fun q' v' H' h1 h2 h3 hv' h4 => q q' v' H' h1 ?_ h3 hv' fun b o hb nb => h4 b o (same_upd hp _ _ hb) nb⟩
      have nqp : q' ≠ p := fun z => by
        rw [z, upd_same] at h2
        cases h2
      rw [upd_ne nqp] at h2
      exact h2
theorem ok_Denial__init__ (T : Txt K mg) : FnR P w K mg base CX0 4 T.f_Denial__init__.a (spStarI K) := by
  have G_fixed := ok_fixed (P := P) (w := w) (base := base) T
  obtain ⟨oc, od, kV, doc, pm, an, cdv, ct, osl, e, lk, hcd⟩ := T.f_Denial__init__.F.ex
  rw [e] at lk
  refine (StX.fn_star (ps := ["self", "word"]) (pv := "parts") (sp := spPaperI K) lk hcd sc_Denial__init__ StX.cxUp_none (StX.bind_star2 (B := fun us => bindArgs (PySem.W.fnOf "__init__" "Denial.__init__" (defArgs s_Denial__init__) (defBody s_Denial__init__) (defScope s_Denial__init__) .none kV doc pm an cdv ct) ⟨us, []⟩) (fun _ _ => rfl) (fun _ _ _ _ => rfl)) (fun A outer s H vs Q E hr h => ?_)).imp ?_
  · obtain ⟨x, C, dx, p, wd, v, k, rfl, pc, hx, hp, hv, q⟩ := h
    refine ⟨_, (pss_cons (ps_fld (pv 0) (pv 1) rfl) (pss_one (ps_fld (pv 0) (pe_call G_fixed (hr.mono (by decide)) (by rfl) T.f_fixed.g T.f_fixed.F.kp T.f_fixed.b .nil pass0 (pa_cons (pv 2) pa_nil)) rfl))), ?_⟩
    have npx : p ≠ x := ne_of hp hx (fun z => nomatch z)
    refine ⟨_, rfl, _, rfl, x, C, dx, _, rfl, hx, pc.cl, pc.nw, (by show 0 < 1000; decide), ?_⟩
    refine ⟨_, rfl, p, v, k, rfl, (by rw [upd_ne npx]; exact hp), hv.put hx, fun q' v' H' f' e' hv' s' => ?_⟩
    have nqx : q' ≠ x := fun z => by
      rw [z, upd_same] at f'
      cases f'
    have hq0 : H q' = none := by
      rw [upd_ne nqx] at f'
      exact f'
    have hx' := s' _ _ upd_same
    refine ⟨_, rfl, x, C, dx, _, rfl, hx', pc.cl, pc.np, (by show 1 < 1000; decide), ?_⟩
    refine q q' v' _ upd_same hq0 (by rw [upd_ne nqx]; exact e') (hv'.put hx') fun b o hb nb => ?_
    rw [upd_ne nb]
    exact s' _ _ (by rw [upd_ne nb]; exact hb)
  · intro vs H Q E h
    obtain ⟨x, C, dx, wd, v, k, rfl, pc, hx, hv, q⟩ := h
    refine ⟨[.ref x, .str wd], [v], rfl, rfl, ?_, fun p hp => ?_⟩
    · exact Nat.le_of_lt (small1000 (by show 1 ≤ 1000; decide))
    · have nxp : x ≠ p := ne_of_none hx hp
      refine ⟨x, C, dx, p, wd, v, k, rfl, pc, (by rw [upd_ne nxp]; exact hx), upd_same, hv.same (same_upd hp), fun q' v' H' h1 h2 h3 hv' h4 => q q' v' H' h1 ?_ h3 hv' fun b o hb nb => h4 b o (same_upd hp _ _ hb) nb⟩
      have nqp : q' ≠ p := fun z => by
        rw [z, upd_same] at h2
        cases h2
      rw [upd_ne nqp] at h2
      exact h2
/-- a paper of class C, with one field -/
structure BPat (C : Addr) (at_ : Str) (H : Hp) (x : Addr) (wd : Str) (k : Kd) : Prop where
  h : ∃ dx q v, H x = some (.ins C dx (putF at_ v (pF wd q))) ∧ H q = some (.tup [v]) ∧ Val H v k
theorem bp_len {at_ wd : Str} {n : V} {q : Addr} (h1 : ¬ ("word" : Str) = at_) (h2 : ¬ ("parts" : Str) = at_) : (putF at_ (n) (pF wd q)).length = 3 := by
  have e : pF wd q = [(("word" : Str), V.str wd), (("parts" : Str), V.ref q)] := by
    unfold pF
    show (if ("word" : Str) = "parts" then _ else (("word" : Str), V.str wd) :: putF "parts" (.ref q) []) = _
    rw [if_neg (by decide +kernel)]
    rfl
  rw [e]
  show (if ("word" : Str) = at_ then _ else (("word" : Str), V.str wd) :: (if ("parts" : Str) = at_ then _ else (("parts" : Str), V.ref q) :: putF at_ (n) [])).length = 3
  rw [if_neg h1, if_neg h2]
  rfl
theorem bp_parts {at_ wd : Str} {n : V} {q : Addr} (h2 : ¬ ("parts" : Str) = at_) : (putF at_ (n) (pF wd q)).lookup ("parts" : Str) = some (.ref q) := by
  rw [lookup_putF, if_neg h2]
  exact pF_parts wd q
theorem bp_word {at_ wd : Str} {n : V} {q : Addr} (h1 : ¬ ("word" : Str) = at_) : (putF at_ (n) (pF wd q)).lookup ("word" : Str) = some (.str wd) := by
  rw [lookup_putF, if_neg h1]
  unfold pF
  rw [lookup_putF, if_neg (by decide +kernel), lookup_putF, if_pos rfl]
theorem bp_at {at_ wd : Str} {n : V} {q : Addr} : (putF at_ (n) (pF wd q)).lookup at_ = some (n) := by
  rw [lookup_putF, if_pos rfl]
def spPapI (C : Addr) (at_ wd : Str) : Sp := fun vs H Q _ => ∃ (x dx : Addr) (v : V) (k : Kd), vs = [.ref x, v] ∧ H x = some (.ins C dx []) ∧ Inp H v k ∧
  ∀ H', BPat C at_ H' x wd k → (∀ b o, H b = some o → b ≠ x → H' b = some o) → Q .non H'
theorem ok_ByPower__init__ (T : Txt K mg) : FnOk P w K mg base CX0 6 T.f_ByPower__init__.a T.f_ByPower__init__.fd ["self", "power"] (spPapI T.k_ByPower.a "power" "bypower") := by
  have G_Paper__init__ := ok_Paper__init__ (P := P) (w := w) (base := base) T
  refine T.f_ByPower__init__.F.ok sc_ByPower__init__ (fun vs H Q E h => ?_) (fun cdv A outer s H vs Q E hr h => ?_)
  · obtain ⟨x, dx, v, k, rfl, _⟩ := h
    rfl
  · obtain ⟨x, dx, v, k, rfl, hx, hv, q⟩ := h
    refine ⟨_, (pss_cons (ps_expr (Ru.pe_cfn (pe_glob (v := .ref T.k_Paper.a) rfl T.k_Paper.g rfl) T.cr_Paper T.cv_Paper__init__ T.f_Paper__init__.F.kp G_Paper__init__ (hr.mono (by decide)) pass0 (pa_cons (pv 0) (pa_cons pe_str (pa_cons (pv 1) pa_nil))))) (pss_one (ps_fld (pv 0) (pe_ix ix_tup (pe_fld (pv 0) rfl) pe_int (fun _ _ => rfl)) rfl))), ?_⟩
    refine ⟨rfl, _, rfl, _, rfl, x, T.k_ByPower.a, dx, "bypower", v, k, rfl, ⟨T.k_ByPower.cl, T.na_ByPower_word, T.na_ByPower_parts⟩, hx, hv, fun q' v' H' h1 h2 h3 hv' h4 => ?_⟩
    have nqx : q' ≠ x := ne_of h3 h1 (fun z => nomatch z)
    refine ⟨_, rfl, x, T.k_ByPower.a, dx, _, _, rfl, h1, T.k_ByPower.cl, T.na_ByPower_parts, pF_parts _ _, q', _, 0, _, rfl, rfl, .of h3, atI_nat (j := 0) rfl, ?_⟩
    refine ⟨_, rfl, x, T.k_ByPower.a, dx, _, rfl, h1, T.k_ByPower.cl, T.na_ByPower_power, (by rw [pF_len]; decide), ?_⟩
    exact q _ ⟨dx, q', v', upd_same, by rw [upd_ne nqx]; exact h3, hv'.put h1⟩ fun b o hb nb => by
      rw [upd_ne nb]
      exact h4 b o hb nb
theorem ok_Between__init__ (T : Txt K mg) : FnOk P w K mg base CX0 6 T.f_Between__init__.a T.f_Between__init__.fd ["self", "low"] (spPapI T.k_Between.a "low" "between") := by
  have G_Denial__init__ := ok_Denial__init__ (P := P) (w := w) (base := base) T
  refine T.f_Between__init__.F.ok sc_Between__init__ (fun vs H Q E h => ?_) (fun cdv A outer s H vs Q E hr h => ?_)
  · obtain ⟨x, dx, v, k, rfl, _⟩ := h
    rfl
  · obtain ⟨x, dx, v, k, rfl, hx, hv, q⟩ := h
    refine ⟨_, (pss_cons (ps_expr (Ru.pe_cfn (pe_glob (v := .ref T.k_Denial.a) rfl T.k_Denial.g rfl) T.cr_Denial T.cv_Denial__init__ T.f_Denial__init__.F.kp G_Denial__init__ (hr.mono (by decide)) pass0 (pa_cons (pv 0) (pa_cons pe_str (pa_cons (pv 1) pa_nil))))) (pss_one (ps_fld (pv 0) (pe_ix ix_tup (pe_fld (pv 0) rfl) pe_int (fun _ _ => rfl)) rfl))), ?_⟩
    refine ⟨rfl, _, rfl, _, rfl, x, T.k_Between.a, dx, "between", v, k, rfl, ⟨T.k_Between.cl, T.na_Between_word, T.na_Between_parts⟩, hx, hv, fun q' v' H' h1 h2 h3 hv' h4 => ?_⟩
    have nqx : q' ≠ x := ne_of h3 h1 (fun z => nomatch z)
    refine ⟨_, rfl, x, T.k_Between.a, dx, _, _, rfl, h1, T.k_Between.cl, T.na_Between_parts, pF_parts _ _, q', _, 0, _, rfl, rfl, .of h3, atI_nat (j := 0) rfl, ?_⟩
    refine ⟨_, rfl, x, T.k_Between.a, dx, _, rfl, h1, T.k_Between.cl, T.na_Between_low, (by rw [pF_len]; decide), ?_⟩
    exact q _ ⟨dx, q', v', upd_same, by rw [upd_ne nqx]; exact h3, hv'.put h1⟩ fun b o hb nb => by
      rw [upd_ne nb]
      exact h4 b o hb nb
theorem ok_Whole__init__ (T : Txt K mg) : FnOk P w K mg base CX0 6 T.f_Whole__init__.a T.f_Whole__init__.fd ["self", "number"] (spPapI T.k_Whole.a "number" "whole") := by
  have G_Paper__init__ := ok_Paper__init__ (P := P) (w := w) (base := base) T
  refine T.f_Whole__init__.F.ok sc_Whole__init__ (fun vs H Q E h => ?_) (fun cdv A outer s H vs Q E hr h => ?_)
  · obtain ⟨x, dx, v, k, rfl, _⟩ := h
    rfl
  · obtain ⟨x, dx, v, k, rfl, hx, hv, q⟩ := h
    refine ⟨_, (pss_cons (ps_expr (Ru.pe_cfn (pe_glob (v := .ref T.k_Paper.a) rfl T.k_Paper.g rfl) T.cr_Paper T.cv_Paper__init__ T.f_Paper__init__.F.kp G_Paper__init__ (hr.mono (by decide)) pass0 (pa_cons (pv 0) (pa_cons pe_str (pa_cons (pv 1) pa_nil))))) (pss_one (ps_fld (pv 0) (pe_ix ix_tup (pe_fld (pv 0) rfl) pe_int (fun _ _ => rfl)) rfl))), ?_⟩
    refine ⟨rfl, _, rfl, _, rfl, x, T.k_Whole.a, dx, "whole", v, k, rfl, ⟨T.k_Whole.cl, T.na_Whole_word, T.na_Whole_parts⟩, hx, hv, fun q' v' H' h1 h2 h3 hv' h4 => ?_⟩
    have nqx : q' ≠ x := ne_of h3 h1 (fun z => nomatch z)
    refine ⟨_, rfl, x, T.k_Whole.a, dx, _, _, rfl, h1, T.k_Whole.cl, T.na_Whole_parts, pF_parts _ _, q', _, 0, _, rfl, rfl, .of h3, atI_nat (j := 0) rfl, ?_⟩
    refine ⟨_, rfl, x, T.k_Whole.a, dx, _, rfl, h1, T.k_Whole.cl, T.na_Whole_number, (by rw [pF_len]; decide), ?_⟩
    exact q _ ⟨dx, q', v', upd_same, by rw [upd_ne nqx]; exact h3, hv'.put h1⟩ fun b o hb nb => by
      rw [upd_ne nb]
      exact h4 b o hb nb
theorem ok_NoWhole__init__ (T : Txt K mg) : FnOk P w K mg base CX0 6 T.f_NoWhole__init__.a T.f_NoWhole__init__.fd ["self", "low"] (spPapI T.k_NoWhole.a "low" "nowhole") := by
  have G_Denial__init__ := ok_Denial__init__ (P := P) (w := w) (base := base) T
  refine T.f_NoWhole__init__.F.ok sc_NoWhole__init__ (fun vs H Q E h => ?_) (fun cdv A outer s H vs Q E hr h => ?_)
  · obtain ⟨x, dx, v, k, rfl, _⟩ := h
    rfl
  · obtain ⟨x, dx, v, k, rfl, hx, hv, q⟩ := h
    refine ⟨_, (pss_cons (ps_expr (Ru.pe_cfn (pe_glob (v := .ref T.k_Denial.a) rfl T.k_Denial.g rfl) T.cr_Denial T.cv_Denial__init__ T.f_Denial__init__.F.kp G_Denial__init__ (hr.mono (by decide)) pass0 (pa_cons (pv 0) (pa_cons pe_str (pa_cons (pv 1) pa_nil))))) (pss_one (ps_fld (pv 0) (pe_ix ix_tup (pe_fld (pv 0) rfl) pe_int (fun _ _ => rfl)) rfl))), ?_⟩
    refine ⟨rfl, _, rfl, _, rfl, x, T.k_NoWhole.a, dx, "nowhole", v, k, rfl, ⟨T.k_NoWhole.cl, T.na_NoWhole_word, T.na_NoWhole_parts⟩, hx, hv, fun q' v' H' h1 h2 h3 hv' h4 => ?_⟩
    have nqx : q' ≠ x := ne_of h3 h1 (fun z => nomatch z)
    refine ⟨_, rfl, x, T.k_NoWhole.a, dx, _, _, rfl, h1, T.k_NoWhole.cl, T.na_NoWhole_parts, pF_parts _ _, q', _, 0, _, rfl, rfl, .of h3, atI_nat (j := 0) rfl, ?_⟩
    refine ⟨_, rfl, x, T.k_NoWhole.a, dx, _, rfl, h1, T.k_NoWhole.cl, T.na_NoWhole_low, (by rw [pF_len]; decide), ?_⟩
    exact q _ ⟨dx, q', v', upd_same, by rw [upd_ne nqx]; exact h3, hv'.put h1⟩ fun b o hb nb => by
      rw [upd_ne nb]
      exact h4 b o hb nb
theorem ok_Uneven__init__ (T : Txt K mg) : FnOk P w K mg base CX0 6 T.f_Uneven__init__.a T.f_Uneven__init__.fd ["self", "step"] (spPapI T.k_Uneven.a "step" "uneven") := by
  have G_Denial__init__ := ok_Denial__init__ (P := P) (w := w) (base := base) T
  refine T.f_Uneven__init__.F.ok sc_Uneven__init__ (fun vs H Q E h => ?_) (fun cdv A outer s H vs Q E hr h => ?_)
  · obtain ⟨x, dx, v, k, rfl, _⟩ := h
    rfl
  · obtain ⟨x, dx, v, k, rfl, hx, hv, q⟩ := h
    refine ⟨_, (pss_cons (ps_expr (Ru.pe_cfn (pe_glob (v := .ref T.k_Denial.a) rfl T.k_Denial.g rfl) T.cr_Denial T.cv_Denial__init__ T.f_Denial__init__.F.kp G_Denial__init__ (hr.mono (by decide)) pass0 (pa_cons (pv 0) (pa_cons pe_str (pa_cons (pv 1) pa_nil))))) (pss_one (ps_fld (pv 0) (pe_ix ix_tup (pe_fld (pv 0) rfl) pe_int (fun _ _ => rfl)) rfl))), ?_⟩
    refine ⟨rfl, _, rfl, _, rfl, x, T.k_Uneven.a, dx, "uneven", v, k, rfl, ⟨T.k_Uneven.cl, T.na_Uneven_word, T.na_Uneven_parts⟩, hx, hv, fun q' v' H' h1 h2 h3 hv' h4 => ?_⟩
    have nqx : q' ≠ x := ne_of h3 h1 (fun z => nomatch z)
    refine ⟨_, rfl, x, T.k_Uneven.a, dx, _, _, rfl, h1, T.k_Uneven.cl, T.na_Uneven_parts, pF_parts _ _, q', _, 0, _, rfl, rfl, .of h3, atI_nat (j := 0) rfl, ?_⟩
    refine ⟨_, rfl, x, T.k_Uneven.a, dx, _, rfl, h1, T.k_Uneven.cl, T.na_Uneven_step, (by rw [pF_len]; decide), ?_⟩
    exact q _ ⟨dx, q', v', upd_same, by rw [upd_ne nqx]; exact h3, hv'.put h1⟩ fun b o hb nb => by
      rw [upd_ne nb]
      exact h4 b o hb nb
end
end Q

namespace Q
open PySem PySem.Spec PyProof.Rows L2
section
variable {P : Program} {w : World} {K : PySem.W.Frag} {mg : Str → Option Value} {base : Heap}
/-! ### papers on powers -/
def Pap (T : Txt K mg) (H : Hp) (x : Addr) (w : Bool) (k : Kd) : Prop := (w = true ∧ BPat T.k_ByPower.a "power" H x "bypower" k) ∨ (w = false ∧ BPat T.k_Between.a "low" H x "between" k)
theorem BPat.same {C : Addr} {at_ : Str} {H H' : Hp} {x : Addr} {wd : Str} {k : Kd} (h : BPat C at_ H x wd k) (s : Same H H') : BPat C at_ H' x wd k := by
  obtain ⟨dx, q, v, h1, h2, h3⟩ := h
  exact ⟨dx, q, v, s _ _ h1, s _ _ h2, h3.same s⟩
theorem Pap.same {T : Txt K mg} {H H' : Hp} {x : Addr} {w : Bool} {k : Kd} (h : Pap T H x w k) (s : Same H H') : Pap T H' x w k := h.imp (fun h => ⟨h.1, h.2.same s⟩) fun h => ⟨h.1, h.2.same s⟩
theorem made_same {H H' : Hp} {x dx : Addr} {o : HO} (hx : H x = none) (hdx : H dx = none) (kp : ∀ b u, upd (upd H dx (.own x)) x o b = some u → b ≠ x → H' b = some u) : Same H H' := fun b u h => by
  have n1 : b ≠ x := ne_of_none h hx
  have n2 : b ≠ dx := ne_of_none h hdx
  exact kp b u (by rw [upd_ne n1, upd_ne n2]; exact h) n1
def spGrowing : Sp := fun vs H Q _ => ∃ a b c d : Int, vs = [.int a, .int b, .int c, .int d] ∧ Gr a b c d ∧ d ≤ 99 ∧ Q .non H
theorem ok_need_growing (T : Txt K mg) : FnOk P w K mg base CX0 4 T.f_need_growing.a T.f_need_growing.fd ["a", "b", "c", "d"] spGrowing := by
  have G_need_within := ok_need_within (P := P) (w := w) (base := base) T
  refine T.f_need_growing.F.ok sc_need_growing (fun vs H Q E h => ?_) (fun cdv A outer s H vs Q E hr h => ?_)
  · obtain ⟨a, b, c, d, rfl, _⟩ := h
    rfl
  · obtain ⟨a, b, c, d, rfl, g, h9, q⟩ := h
    have ga := g.ga
    have gb := g.gb
    have gc := g.gc
    have gd := g.gd
    refine ⟨_, (pss_cons (ps_expr (pe_call G_need_within (hr.mono (by decide)) (by rfl) T.f_need_within.g T.f_need_within.F.kp T.f_need_within.b .nil pass0 (pa_cons pe_str (pa_cons (pv 0) (pa_cons pe_int (pa_cons (pe_glob (v := .int (99)) rfl T.c_MOST_SMALL ⟨_, rfl⟩) pa_nil)))))) (pss_cons (ps_expr (pe_call G_need_within (hr.mono (by decide)) (by rfl) T.f_need_within.g T.f_need_within.F.kp T.f_need_within.b .nil pass0 (pa_cons pe_str (pa_cons (pv 1) (pa_cons (pe_op op_add (pv 0) pe_int) (pa_cons (pe_glob (v := .int (99)) rfl T.c_MOST_SMALL ⟨_, rfl⟩) pa_nil)))))) (pss_cons (ps_expr (pe_call G_need_within (hr.mono (by decide)) (by rfl) T.f_need_within.g T.f_need_within.F.kp T.f_need_within.b .nil pass0 (pa_cons pe_str (pa_cons (pv 2) (pa_cons (pv 1) (pa_cons (pe_glob (v := .int (99)) rfl T.c_MOST_SMALL ⟨_, rfl⟩) pa_nil)))))) (pss_one (ps_expr (pe_call G_need_within (hr.mono (by decide)) (by rfl) T.f_need_within.g T.f_need_within.F.kp T.f_need_within.b .nil pass0 (pa_cons pe_str (pa_cons (pv 3) (pa_cons (pe_op op_add (pv 2) pe_int) (pa_cons (pe_glob (v := .int (99)) rfl T.c_MOST_SMALL ⟨_, rfl⟩) pa_nil)))))))))), ?_⟩
    refine ⟨_, rfl, _, a, 1, 99, rfl, by omega, by omega, ?_⟩
    refine ⟨_, rfl, _, rfl, _, _, rfl, rfl, _, b, a + 1, 99, rfl, by omega, by omega, ?_⟩
    refine ⟨_, rfl, _, rfl, _, c, b, 99, rfl, by omega, by omega, ?_⟩
    exact ⟨_, rfl, _, rfl, _, _, rfl, rfl, _, d, c + 1, 99, rfl, by omega, by omega, q⟩
def Res (a b c d : Int) (k : Bool) (n : Int) : Prop := (a * d = b * c ∧ k = true ∧ n = 0) ∨ (a * d < b * c ∧ ResW (fun j => wsum a b c d (j : Int)) true k n) ∨ (b * c < a * d ∧ ResW (fun j => wsum a b c d (-(j : Int))) false k n)
theorem Res.uniq {a b c d : Int} {k k' : Bool} {n n' : Int} (x : Res a b c d k n) (y : Res a b c d k' n') : k = k' ∧ n = n' := by
  rcases x with ⟨h1, h2, h3⟩ | ⟨h1, h2⟩ | ⟨h1, h2⟩
  · rcases y with ⟨g1, g2, g3⟩ | ⟨g1, g2⟩ | ⟨g1, g2⟩
    · exact ⟨h2.trans g2.symm, h3.trans g3.symm⟩
    · omega
    · omega
  · rcases y with ⟨g1, g2, g3⟩ | ⟨g1, g2⟩ | ⟨g1, g2⟩
    · omega
    · exact h2.uniq g2
    · omega
  · rcases y with ⟨g1, g2, g3⟩ | ⟨g1, g2⟩ | ⟨g1, g2⟩
    · omega
    · omega
    · exact h2.uniq g2
def spPower (T : Txt K mg) : Sp := fun vs H Q _ => ∃ a b c d : Int, vs = [.int a, .int b, .int c, .int d] ∧ Gr a b c d ∧ d ≤ 99 ∧
  ∀ (x : Addr) (H' : Hp) (k : Bool) (n : Int), Res a b c d k n → Pap T H' x k (.int n) → H x = none → Same H H' → Q (.ref x) H'
theorem ok_power_of (T : Txt K mg) : FnOk P w K mg base CX0 8 T.f_power_of.a T.f_power_of.fd ["a", "b", "c", "d"] (spPower T) := by
  have G_need_growing := ok_need_growing (P := P) (w := w) (base := base) T
  have G_whole_sum := ok_whole_sum (P := P) (w := w) (base := base) T
  have G_Between__init__ := ok_Between__init__ (P := P) (w := w) (base := base) T
  have G_ByPower__init__ := ok_ByPower__init__ (P := P) (w := w) (base := base) T
  refine T.f_power_of.F.ok sc_power_of (fun vs H Q E h => ?_) (fun cdv A outer s H vs Q E hr h => ?_)
  · obtain ⟨a, b, c, d, rfl, _⟩ := h
    rfl
  · obtain ⟨a, b, c, d, rfl, g, h9, q⟩ := h
    have ga := g.ga
    have gb := g.gb
    have gc := g.gc
    have gd := g.gd
    have l1 := fun {x y : Int} (hx : 1 ≤ x ∧ x ≤ 99) => (.inl ⟨by omega, by omega⟩ : CMul x y)
    have fine : ∀ p : Int, -80 ≤ p → p ≤ 80 → Fine a b c d p := fun p h1 h2 => ⟨⟨by omega, by omega⟩, ⟨by omega, by omega⟩, ⟨by omega, by omega⟩, ⟨by omega, by omega⟩, h1, h2⟩
    have mkP : ∀ (n : Int) (H0 : Hp), Same H H0 → Res a b c d true n → ∀ x dx, H0 x = none → H0 dx = none → dx ≠ x →
        spPapI T.k_ByPower.a "power" "bypower" ([V.ref x, .int n]) (upd (upd H0 dx (.own x)) x (.ins T.k_ByPower.a dx [])) (fun v H2 => v = .non ∧ Q (.ref x) H2) E0 := fun n H0 s0 r x dx hx hdx ne =>
      ⟨x, dx, .int n, .int n, rfl, upd_same, rfl, fun H' bp kp => ⟨rfl, q x H' true n r (.inl ⟨rfl, bp⟩) (s0.free hx) (s0.trans (made_same hx hdx kp))⟩⟩
    have mkB : ∀ (n : Int) (H0 : Hp), Same H H0 → Res a b c d false n → ∀ x dx, H0 x = none → H0 dx = none → dx ≠ x →
        spPapI T.k_Between.a "low" "between" ([V.ref x, .int n]) (upd (upd H0 dx (.own x)) x (.ins T.k_Between.a dx [])) (fun v H2 => v = .non ∧ Q (.ref x) H2) E0 := fun n H0 s0 r x dx hx hdx ne =>
      ⟨x, dx, .int n, .int n, rfl, upd_same, rfl, fun H' bp kp => ⟨rfl, q x H' false n r (.inr ⟨rfl, bp⟩) (s0.free hx) (s0.trans (made_same hx hdx kp))⟩⟩
    refine ⟨_, (pss_cons (ps_expr (pe_call G_need_growing (hr.mono (by decide)) (by rfl) T.f_need_growing.g T.f_need_growing.F.kp T.f_need_growing.b .nil pass0 (pa_cons (pv 0) (pa_cons (pv 1) (pa_cons (pv 2) (pa_cons (pv 3) pa_nil)))))) (pss_cons (ps_if (pt_cmpR op_eq (pe_op op_mul (pv 0) (pv 3)) (pe_op op_mul (pv 1) (pv 2)) (nomark _)) (pss_one (ps_ret (pe_make T.mk_ByPower G_ByPower__init__ (hr.mono (by decide)) (by rfl) T.k_ByPower.g T.f_ByPower__init__.b .nil pass0 (pa_cons pe_int pa_nil)))) pss_nil) (pss_cons (ps_set (i := 4) sc_power_of.nd rfl (Or.inl rfl) (pe_ifExp (pt_cmpR op_lt (pe_op op_mul (pv 0) (pv 3)) (pe_op op_mul (pv 1) (pv 2)) (nomark _)) pe_int (pe_un un_neg pe_int))) (pss_cons (ps_set (i := 5) sc_power_of.nd rfl (Or.inl rfl) (pv 4)) (pss_cons (ps_set (i := 6) sc_power_of.nd rfl (Or.inl rfl) (pe_call G_whole_sum (hr.mono (by decide)) (by rfl) T.f_whole_sum.g T.f_whole_sum.F.kp T.f_whole_sum.b .nil pass0 (pa_cons (pv 0) (pa_cons (pv 1) (pa_cons (pv 2) (pa_cons (pv 3) (pa_cons (pv 5) pa_nil))))))) (pss_cons (ps_while PassesOwn.never (pt_cmpR op_lt (pv 6) pe_int (nomark _)) (pss_cons (ps_set (i := 5) sc_power_of.nd rfl (Or.inl rfl) (pe_op op_add (pv 5) (pv 4))) (pss_one (ps_set (i := 6) sc_power_of.nd rfl (Or.inl rfl) (pe_call G_whole_sum (hr.mono (by decide)) (by rfl) T.f_whole_sum.g T.f_whole_sum.F.kp T.f_whole_sum.b .nil pass0 (pa_cons (pv 0) (pa_cons (pv 1) (pa_cons (pv 2) (pa_cons (pv 3) (pa_cons (pv 5) pa_nil)))))))))) (pss_cons (ps_if (pt_cmpR op_eq (pv 6) pe_int (nomark _)) (pss_one (ps_ret (pe_make T.mk_ByPower G_ByPower__init__ (hr.mono (by decide)) (by rfl) T.k_ByPower.g T.f_ByPower__init__.b .nil pass0 (pa_cons (pv 5) pa_nil)))) pss_nil) (pss_one (ps_ret (pe_make T.mk_Between G_Between__init__ (hr.mono (by decide)) (by rfl) T.k_Between.g T.f_Between__init__.b .nil pass0 (pa_cons (pe_ifExp (pt_cmpR op_eq (pv 4) pe_int (nomark _)) (pe_op op_sub (pv 5) pe_int) (pv 5)) pa_nil))))))))))), ?_⟩
    refine ⟨_, rfl, _, rfl, _, rfl, _, rfl, a, b, c, d, rfl, g, h9, ?_⟩
    refine ⟨_, rfl, _, rfl, _, _, rfl, rfl, l1 ⟨by omega, by omega⟩, _, rfl, _, rfl, _, _, rfl, rfl, l1 ⟨by omega, by omega⟩, rfl, _, rfl, ite2 (fun e => ?_) (fun e => ?_)⟩
    · have e0 : a * d = b * c := V.int.inj (of_decide_eq_true e)
      exact mkP 0 H (Same.refl H) (.inl ⟨e0, rfl, rfl⟩)
    have e0 : ¬ a * d = b * c := fun z => e (decide_eq_true (congrArg V.int z))
    refine ⟨_, rfl, _, rfl, _, _, rfl, rfl, l1 ⟨by omega, by omega⟩, _, rfl, _, rfl, _, _, rfl, rfl, l1 ⟨by omega, by omega⟩, _, _, rfl, rfl, _, rfl, ite2 (fun e1 => ?_) (fun e1 => ?_)⟩
    · have e2 : a * d < b * c := of_decide_eq_true e1
      have far : 0 < wsum a b c d ((69 : Nat) : Int) := by
        rw [wsum_up]
        exact far_up g h9
      refine ⟨_, rfl, ?_⟩
      refine ⟨_, rfl, _, rfl, _, rfl, _, rfl, _, rfl, a, b, c, d, 1, rfl, fine _ (by decide) (by decide), ?_⟩
      refine while_by (fun σ H' => H' = H ∧ ∃ m : Nat, σ = [some (.int a), some (.int b), some (.int c), some (.int d), some (.int 1), some (.int ((m : Int))), some (.int (wsum a b c d ((m : Int))))] ∧ 1 ≤ m ∧ m ≤ 69 ∧ ∀ j : Nat, 1 ≤ j → j < m → wsum a b c d ((j : Int)) < 0)
        (fun σ _ => match σ with
          | [_, _, _, _, _, some (.int p), _] => 100 - p.natAbs
          | _ => 0) ⟨rfl, 1, rfl, by decide, by decide, fun j h1 h2 => by omega⟩ ?_ ?_
      · rintro σ H' ⟨rfl, m, rfl, m1, m2, lo⟩
        refine ⟨_, rfl, _, _, rfl, rfl, _, rfl, ite2 (fun e3 => ?_) (fun e3 => ?_)⟩
        · have e4 : wsum a b c d ((m : Int)) < 0 := of_decide_eq_true e3
          have m3 : m ≠ 69 := fun z => by
            rw [z] at e4
            omega
          have ep : ((m : Int)) + 1 = (((m + 1 : Nat) : Int)) := by omega
          refine ⟨_, rfl, _, rfl, _, _, rfl, rfl, ?_⟩
          refine ⟨_, rfl, _, rfl, _, rfl, _, rfl, _, rfl, a, b, c, d, ((m : Int)) + 1, rfl, fine _ (by omega) (by omega), ?_⟩
          rw [ep]
          refine ⟨⟨rfl, m + 1, ?_, by omega, by omega, fun j h1 h2 => ?_⟩, ?_⟩
          · show [some (V.int a), some (.int b), some (.int c), some (.int d), some (.int 1), some (.int (((m : Int)) + 1)), some (.int (wsum a b c d (((m + 1 : Nat) : Int))))] = _
            rw [ep]
          · by_cases h : j = m
            · rw [h]
              exact e4
            · exact lo j h1 (by omega)
          · show 100 - (((m : Int)) + 1).natAbs < 100 - ((m : Int)).natAbs
            omega
        · have e4 : 0 ≤ wsum a b c d ((m : Int)) := by
            have : ¬ wsum a b c d ((m : Int)) < 0 := fun z => e3 (decide_eq_true z)
            omega
          have fi : First (fun j => wsum a b c d ((j : Int))) m := ⟨m1, m2, lo, e4⟩
          refine ⟨_, rfl, rfl, _, rfl, ite2 (fun e5 => ?_) (fun e5 => ?_)⟩
          · have e6 : wsum a b c d ((m : Int)) = 0 := V.int.inj (of_decide_eq_true e5)
            exact ⟨_, rfl, mkP ((m : Int)) H' (Same.refl _) (.inr (.inl ⟨e2, ⟨m, fi, .inl ⟨e6, rfl, rfl⟩⟩⟩))⟩
          · have e6 : 0 < wsum a b c d ((m : Int)) := by
              have : ¬ wsum a b c d ((m : Int)) = 0 := fun z => e5 (decide_eq_true (congrArg V.int z))
              omega
            refine ⟨_, rfl, rfl, _, rfl, ite2 (fun e7 => ?_) (fun e7 => absurd (decide_eq_true rfl) e7)⟩
            exact ⟨_, rfl, _, _, rfl, rfl, mkB ((m : Int) - 1) H' (Same.refl _) (.inr (.inl ⟨e2, m, fi, .inr ⟨e6, rfl, rfl⟩⟩))⟩
      · intro σ H Q Q' hq h
        obtain ⟨v, e, a, b, c, d, k, z, r⟩ := h
        exact ⟨v, e, a, b, c, d, k, z, hq _ _ r⟩
    · have e2 : b * c < a * d := by
        have : ¬ a * d < b * c := fun z => e1 (decide_eq_true z)
        omega
      have far : 0 < wsum a b c d (-((69 : Nat) : Int)) := by
        rw [wsum_down _ _ _ _ _ (by decide)]
        exact far_down g h9
      refine ⟨_, rfl, ?_⟩
      refine ⟨_, rfl, ?_⟩
      refine ⟨_, rfl, _, rfl, _, rfl, _, rfl, _, rfl, a, b, c, d, (-1), rfl, fine _ (by decide) (by decide), ?_⟩
      refine while_by (fun σ H' => H' = H ∧ ∃ m : Nat, σ = [some (.int a), some (.int b), some (.int c), some (.int d), some (.int (-1)), some (.int (-(m : Int))), some (.int (wsum a b c d (-(m : Int))))] ∧ 1 ≤ m ∧ m ≤ 69 ∧ ∀ j : Nat, 1 ≤ j → j < m → wsum a b c d (-(j : Int)) < 0)
        (fun σ _ => match σ with
          | [_, _, _, _, _, some (.int p), _] => 100 - p.natAbs
          | _ => 0) ⟨rfl, 1, rfl, by decide, by decide, fun j h1 h2 => by omega⟩ ?_ ?_
      · rintro σ H' ⟨rfl, m, rfl, m1, m2, lo⟩
        refine ⟨_, rfl, _, _, rfl, rfl, _, rfl, ite2 (fun e3 => ?_) (fun e3 => ?_)⟩
        · have e4 : wsum a b c d (-(m : Int)) < 0 := of_decide_eq_true e3
          have m3 : m ≠ 69 := fun z => by
            rw [z] at e4
            omega
          have ep : (-(m : Int)) + (-1) = (-((m + 1 : Nat) : Int)) := by omega
          refine ⟨_, rfl, _, rfl, _, _, rfl, rfl, ?_⟩
          refine ⟨_, rfl, _, rfl, _, rfl, _, rfl, _, rfl, a, b, c, d, (-(m : Int)) + (-1), rfl, fine _ (by omega) (by omega), ?_⟩
          rw [ep]
          refine ⟨⟨rfl, m + 1, ?_, by omega, by omega, fun j h1 h2 => ?_⟩, ?_⟩
          · show [some (V.int a), some (.int b), some (.int c), some (.int d), some (.int (-1)), some (.int ((-(m : Int)) + (-1))), some (.int (wsum a b c d (-((m + 1 : Nat) : Int))))] = _
            rw [ep]
          · by_cases h : j = m
            · rw [h]
              exact e4
            · exact lo j h1 (by omega)
          · show 100 - ((-(m : Int)) + (-1)).natAbs < 100 - (-(m : Int)).natAbs
            omega
        · have e4 : 0 ≤ wsum a b c d (-(m : Int)) := by
            have : ¬ wsum a b c d (-(m : Int)) < 0 := fun z => e3 (decide_eq_true z)
            omega
          have fi : First (fun j => wsum a b c d (-(j : Int))) m := ⟨m1, m2, lo, e4⟩
          refine ⟨_, rfl, rfl, _, rfl, ite2 (fun e5 => ?_) (fun e5 => ?_)⟩
          · have e6 : wsum a b c d (-(m : Int)) = 0 := V.int.inj (of_decide_eq_true e5)
            exact ⟨_, rfl, mkP (-(m : Int)) H' (Same.refl _) (.inr (.inr ⟨e2, ⟨m, fi, .inl ⟨e6, rfl, rfl⟩⟩⟩))⟩
          · have e6 : 0 < wsum a b c d (-(m : Int)) := by
              have : ¬ wsum a b c d (-(m : Int)) = 0 := fun z => e5 (decide_eq_true (congrArg V.int z))
              omega
            refine ⟨_, rfl, rfl, _, rfl, ite2 (fun e7 => absurd (of_decide_eq_true e7) (by decide)) (fun e7 => ?_)⟩
            exact ⟨_, rfl, mkB (-(m : Int)) H' (Same.refl _) (.inr (.inr ⟨e2, m, fi, .inr ⟨e6, rfl, rfl⟩⟩))⟩
      · intro σ H Q Q' hq h
        obtain ⟨v, e, a, b, c, d, k, z, r⟩ := h
        exact ⟨v, e, a, b, c, d, k, z, hq _ _ r⟩
end
end Q

namespace Q
open PySem PySem.Spec PyProof.Rows L2
section
variable {P : Program} {w : World} {K : PySem.W.Frag} {mg : Str → Option Value} {base : Heap}
def In (m x : Int) : Prop := 1 ≤ x ∧ x ≤ m
def L4 (x1 x2 x3 x4 : Int) : List V := [.int x1, .int x2, .int x3, .int x4]
/-- i numbers from 1 to m are drawn into the list at D -/
def Draws (H0 H : Hp) (a c D : Addr) (n i : Nat) (m : Int) : Prop := ∃ xs : List Int, H D = some (.lst (xs.map V.int)) ∧ xs.length = i ∧ (∀ x ∈ xs, In m x) ∧ Hat H a c (n + 2 * i) ∧ But a H0 H
theorem Draws.start {H : Hp} {a c D : Addr} {n : Nat} {m : Int} (hh : Hat H a c n) (hD : H D = none) : Draws H (upd H D (.lst [])) a c D n 0 m :=
  ⟨[], upd_same, rfl, fun _ h => absurd h (by simp), hh.upd (hh.neA hD) (hh.neC hD), .of (same_upd hD)⟩
theorem Draws.next {H0 H H1 : Hp} {a c D : Addr} {n i : Nat} {m y : Int} (h : Draws H0 H a c D n i m) (hh0 : Hat H0 a c n) (hD : H0 D = none) (hi : i < 100) (hh1 : Hat H1 a c (n + 2 * i + 2)) (b : But a H H1) (hy : In m y) :
    ∃ acc, H1 D = some (.lst acc) ∧ acc.length < sizeLine ∧ Draws H0 (upd H1 D (.lst (acc ++ [.int y]))) a c D n (i + 1) m := by
  obtain ⟨xs, e, el, hx, _, bb⟩ := h
  have nA := hh0.neA hD
  have nC := hh0.neC hD
  refine ⟨_, b _ _ e nA, ?_, xs ++ [y], ?_, ?_, ?_, ?_, ?_⟩
  · rw [List.length_map, el]
    exact small1000 (by omega)
  · rw [upd_same, List.map_append]
    rfl
  · rw [List.length_append, el]
    rfl
  · intro x hx'
    rcases List.mem_append.mp hx' with z | z
    · exact hx x z
    · rw [List.mem_singleton.mp z]
      exact hy
  · have := hh1.upd (o := .lst (xs.map V.int ++ [.int y])) nA nC
    exact this.mono (by omega)
  · intro p o hp np
    have npD : p ≠ D := ne_of_none hp hD
    rw [upd_ne npD]
    exact b _ _ (bb _ _ hp np) np
theorem Draws.four {H0 H : Hp} {a c D : Addr} {n : Nat} {m : Int} (h : Draws H0 H a c D n 4 m) : ∃ x1 x2 x3 x4, H D = some (.lst (L4 x1 x2 x3 x4)) ∧ (In m x1 ∧ In m x2 ∧ In m x3 ∧ In m x4) ∧ Hat H a c (n + 8) ∧ But a H0 H := by
  obtain ⟨xs, e, el, hx, hh, bb⟩ := h
  match xs, el with
  | [x1, x2, x3, x4], _ => exact ⟨x1, x2, x3, x4, e, ⟨hx _ (by simp), hx _ (by simp), hx _ (by simp), hx _ (by simp)⟩, hh, bb⟩
def Ok4 (x1 x2 x3 x4 : Int) : Prop := In 1000000 x1 ∧ In 1000000 x2 ∧ In 1000000 x3 ∧ In 1000000 x4
theorem prod_in {x y p q : Int} (hx : 1 ≤ x ∧ x ≤ p) (hy : 1 ≤ y ∧ y ≤ q) : 1 ≤ x * y ∧ x * y ≤ p * q := by
  constructor
  · have : 0 < x * y := Int.mul_pos (by omega) (by omega)
    omega
  · exact Int.mul_le_mul hx.2 hy.2 (by omega) (by omega)

end
end Q

namespace Q
open PySem PySem.Spec PyProof.Rows L2
section
variable {P : Program} {w : World} {K : PySem.W.Frag} {mg : Str → Option Value} {base : Heap}
def isI : Kd → Bool
  | .int _ => true
  | _ => false
def inW (k : Kd) (l m : Int) : Bool := match k with
  | .int i => decide (l ≤ i ∧ i ≤ m)
  | _ => false
def spIsIntV : Sp := fun vs H Q _ => ∃ (v : V) (k : Kd), vs = [v] ∧ Val H v k ∧ Q (.bl (isI k)) H
theorem ok_is_integerV (T : Txt K mg) : FnOk P w K mg base CX0 1 T.f_is_integer.a T.f_is_integer.fd ["value"] spIsIntV := by
  refine T.f_is_integer.F.ok sc_is_integer (fun vs H Q E h => ?_) (fun cdv A outer s H vs Q E hr h => ?_)
  · obtain ⟨v, k, rfl, _⟩ := h
    rfl
  · obtain ⟨v, k, rfl, hv, q⟩ := h
    refine ⟨_, (pss_one (ps_ret (pe_and (pe_callB call_isi (by rfl) T.n_isinstance (by decide +kernel) (pa_cons (pv 0) (pa_cons (pe_bltn (v := .ty "int") (by rfl) T.n_int (by decide +kernel) rfl) pa_nil))) (pe_one (pe_not (pe_callB call_isi (by rfl) T.n_isinstance (by decide +kernel) (pa_cons (pv 0) (pa_cons (pe_bltn (v := .ty "bool") (by rfl) T.n_bool (by decide +kernel) rfl) pa_nil)))))))), ?_⟩
    cases k with
    | int i =>
      obtain rfl : v = .int i := hv
      refine ⟨_, rfl, _, _, _, _, true, rfl, .ty _, .base (.int _), kit_ty (by decide +kernel), true, rfl, iteT ?_⟩
      exact ⟨_, rfl, _, _, _, _, false, rfl, .ty _, .base (.int _), kit_ty (by decide +kernel), false, rfl, q⟩
    | non =>
      obtain rfl : v = .non := hv
      exact ⟨_, rfl, _, _, _, _, false, rfl, .ty _, .base .non, kit_ty (by decide +kernel), false, rfl, iteF q⟩
    | bl x =>
      obtain rfl : v = .bl x := hv
      refine ⟨_, rfl, _, _, _, _, true, rfl, .ty _, .base (.bl _), kit_ty (by decide +kernel), true, rfl, iteT ?_⟩
      exact ⟨_, rfl, _, _, _, _, true, rfl, .ty _, .base (.bl _), kit_ty (by decide +kernel), true, rfl, q⟩
    | str x =>
      obtain rfl : v = .str x := hv
      exact ⟨_, rfl, _, _, _, _, false, rfl, .ty _, .base (.str _), kit_ty (by decide +kernel), false, rfl, iteF q⟩
    | tup i =>
      obtain ⟨t, rfl, ht⟩ := hv
      exact ⟨_, rfl, _, _, _, _, false, rfl, .ty _, .base (.tup ht), kit_ty (by decide +kernel), false, rfl, iteF q⟩
    | tp i j =>
      obtain ⟨t, rfl, ht⟩ := hv
      exact ⟨_, rfl, _, _, _, _, false, rfl, .ty _, .base (.tup ht), kit_ty (by decide +kernel), false, rfl, iteF q⟩
def spWithinV : Sp := fun vs H Q _ => ∃ (v : V) (k : Kd) (l m : Int), vs = [v, .int l, .int m] ∧ Val H v k ∧ Q (.bl (inW k l m)) H
theorem ok_is_withinV (T : Txt K mg) : FnOk P w K mg base CX0 2 T.f_is_within.a T.f_is_within.fd ["value", "least", "most"] spWithinV := by
  have G_is_integer := ok_is_integerV (P := P) (w := w) (base := base) T
  have W := ok_is_within (P := P) (w := w) (base := base) T
  refine T.f_is_within.F.ok sc_is_within (fun vs H Q E h => ?_) (fun cdv A outer s H vs Q E hr h => ?_)
  · obtain ⟨v, k, l, m, rfl, _⟩ := h
    rfl
  · obtain ⟨v, k, l, m, rfl, hv, q⟩ := h
    refine ⟨_, (pss_cons (ps_if (pt_not (pt_val (pe_call G_is_integer (hr.mono (by decide)) (by rfl) T.f_is_integer.g T.f_is_integer.F.kp T.f_is_integer.b .nil pass0 (pa_cons (pv 0) pa_nil)))) (pss_one (ps_ret pe_bl)) pss_nil) (pss_one (ps_ret (pe_and (pe_or (pe_cmpR op_isN (pv 1) pe_non (nomark _)) (pe_one (pe_cmpR op_ge (pv 0) (pv 1) (nomark _)))) (pe_one (pe_or (pe_cmpR op_isN (pv 2) pe_non (nomark _)) (pe_one (pe_cmpR op_le (pv 0) (pv 2) (nomark _))))))))), ?_⟩
    have no : isI k = false → Q (.bl false) H := fun z => by cases k <;> first | exact q | cases z
    refine ⟨_, rfl, v, k, rfl, hv, isI k, rfl, ?_⟩
    cases k with
    | int i =>
      obtain rfl : v = .int i := hv
      refine iteF ⟨_, rfl, rfl, false, rfl, iteF ⟨_, rfl, _, rfl, _, _, rfl, rfl, _, rfl, ?_⟩⟩
      refine ite2 (fun e => ?_) (fun e => ?_)
      · refine ⟨_, rfl, rfl, false, rfl, iteF ⟨_, rfl, _, rfl, _, _, rfl, rfl, ?_⟩⟩
        have e1 : l ≤ i := of_decide_eq_true e
        have e2 : inW (.int i) l m = decide (i ≤ m) := by
          show decide (l ≤ i ∧ i ≤ m) = decide (i ≤ m)
          by_cases h : i ≤ m
          · rw [decide_eq_true h, decide_eq_true ⟨e1, h⟩]
          · rw [decide_eq_false h, decide_eq_false (fun z => h z.2)]
        rw [e2] at q
        exact q
      · have e2 : inW (.int i) l m = false := decide_eq_false (fun z => e (decide_eq_true z.1))
        rw [e2] at q
        exact q
    | non => exact iteT q
    | bl x => exact iteT q
    | str x => exact iteT q
    | tup x => exact iteT q
    | tp x y => exact iteT q
end
end Q

namespace Q
open PySem PySem.Spec PyProof.Rows L2
section
variable {P : Program} {w : World} {K : PySem.W.Frag} {mg : Str → Option Value} {base : Heap}
def spAny : Sp := fun vs H Q _ => ∃ (a c : Addr) (n : Nat), vs = [.ref a] ∧ Hat H a c n ∧ n ≤ 999000 ∧
  ∀ (l : Addr) (x1 x2 x3 x4 : Int) (H' : Hp), Gr x1 x2 x3 x4 → x4 ≤ 99 → H' l = some (.lst (L4 x1 x2 x3 x4)) → H l = none → Hat H' a c (n + 4) → But a H H' → Q (.ref l) H'
theorem ok__law_any (T : Txt K mg) : FnOk P w K mg base CX0 2 T.f__law_any.a T.f__law_any.fd ["_law_hat_here"] spAny := by
  have G__law_lot := ok__law_lot (P := P) (w := w) (base := base) T
  refine T.f__law_any.F.ok sc__law_any (fun vs H Q E h => ?_) (fun cdv A outer s H vs Q E hr h => ?_)
  · obtain ⟨a, c, n, rfl, _⟩ := h
    rfl
  · obtain ⟨a, c, n, rfl, hh, hn, q⟩ := h
    refine ⟨_, (pss_cons (ps_set (i := 1) sc__law_any.nd rfl (Or.inl rfl) (pe_op op_add pe_int (pe_call G__law_lot (hr.mono (by decide)) (by rfl) T.f__law_lot.g T.f__law_lot.F.kp T.f__law_lot.b .nil pass0 (pa_cons (pv 0) (pa_cons pe_int pa_nil))))) (pss_cons (ps_set (i := 2) sc__law_any.nd rfl (Or.inl rfl) (pe_op op_add (pe_op op_add (pv 1) pe_int) (pe_call G__law_lot (hr.mono (by decide)) (by rfl) T.f__law_lot.g T.f__law_lot.F.kp T.f__law_lot.b .nil pass0 (pa_cons (pv 0) (pa_cons (pe_op op_sub pe_int (pv 1)) pa_nil))))) (pss_cons (ps_set (i := 3) sc__law_any.nd rfl (Or.inl rfl) (pe_op op_add (pv 2) (pe_call G__law_lot (hr.mono (by decide)) (by rfl) T.f__law_lot.g T.f__law_lot.F.kp T.f__law_lot.b .nil pass0 (pa_cons (pv 0) (pa_cons (pe_op op_sub pe_int (pv 2)) pa_nil))))) (pss_one (ps_ret (pe_lst (pa_cons (pv 1) (pa_cons (pv 2) (pa_cons (pv 3) (pa_cons (pe_op op_add (pe_op op_add (pv 3) pe_int) (pe_call G__law_lot (hr.mono (by decide)) (by rfl) T.f__law_lot.g T.f__law_lot.F.kp T.f__law_lot.b .nil pass0 (pa_cons (pv 0) (pa_cons (pe_op op_sub pe_int (pv 3)) pa_nil)))) pa_nil)))))))))), ?_⟩
    refine ⟨_, rfl, a, c, n, 96, rfl, hh, by omega, by omega, by omega, fun d1 H1 p1 p1' hh1 b1 => ?_⟩
    refine ⟨_, _, rfl, rfl, ?_⟩
    refine ⟨_, rfl, _, _, rfl, rfl, _, rfl, _, rfl, _, _, rfl, rfl, a, c, n + 1, 98 - (1 + d1), rfl, hh1, by omega, by omega, by omega, fun d2 H2 p2 p2' hh2 b2 => ?_⟩
    refine ⟨_, _, rfl, rfl, ?_⟩
    refine ⟨_, rfl, _, rfl, _, rfl, _, _, rfl, rfl, a, c, n + 2, 99 - (1 + d1 + 1 + d2), rfl, hh2, by omega, by omega, by omega, fun d3 H3 p3 p3' hh3 b3 => ?_⟩
    refine ⟨_, _, rfl, rfl, ?_⟩
    refine ⟨_, rfl, _, rfl, _, rfl, _, rfl, _, _, rfl, rfl, _, rfl, _, rfl, _, _, rfl, rfl, a, c, n + 3, 99 - (1 + d1 + 1 + d2 + d3), rfl, hh3, by omega, by omega, by omega, fun d4 H4 p4 p4' hh4 b4 => ?_⟩
    refine ⟨_, _, rfl, rfl, sz4, fun l hl => ?_⟩
    have bb := ((b1.trans b2).trans b3).trans b4
    exact q l (1 + d1) (1 + d1 + 1 + d2) (1 + d1 + 1 + d2 + d3) (1 + d1 + 1 + d2 + d3 + 1 + d4) _ ⟨by omega, by omega, by omega, by omega⟩ (by omega) upd_same (bb.free hh4 hl) (hh4.upd (hh4.neA hl) (hh4.neC hl)) (bb.trans (.of (same_upd hl)))
def grows (a b c d : Int) : Bool := decide (0 < a) && decide (a < b) && decide (b ≤ c) && decide (c < d) && decide (d < 100)
theorem grows_gr {a b c d : Int} (h : grows a b c d = true) : Gr a b c d ∧ d ≤ 99 := by
  simp only [grows, Bool.and_eq_true, decide_eq_true_eq] at h
  exact ⟨⟨h.1.1.1.1, h.1.1.1.2, h.1.1.2, h.1.2⟩, by omega⟩
def spGrows (K : PySem.W.Frag) : Sp := fun vs H Q _ => ∃ (l : Addr) (a b c d : Int), vs = [.ref l] ∧ SqL K H l (L4 a b c d) ∧ Q (.bl (grows a b c d)) H
theorem ok__law_grows (T : Txt K mg) : FnOk P w K mg base CX0 1 T.f__law_grows.a T.f__law_grows.fd ["_law_four_here"] (spGrows K) := by
  refine T.f__law_grows.F.ok sc__law_grows (fun vs H Q E h => ?_) (fun cdv A outer s H vs Q E hr h => ?_)
  · obtain ⟨l, a, b, c, d, rfl, _⟩ := h
    rfl
  · obtain ⟨l, a, b, c, d, rfl, hl, q⟩ := h
    refine ⟨_, (pss_cons (ps_asg (pv 0) (pg_lst rfl (pgs_cons (pg_name (i := 1) sc__law_grows.nd rfl (Or.inl rfl)) (pgs_cons (pg_name (i := 2) sc__law_grows.nd rfl (Or.inl rfl)) (pgs_cons (pg_name (i := 3) sc__law_grows.nd rfl (Or.inl rfl)) (pgs_cons (pg_name (i := 4) sc__law_grows.nd rfl (Or.inl rfl)) pgs_nil)))))) (pss_one (ps_ret (Ru.pe_chainN pe_int (Ru.pec_link op_lt (pv 1) (Ru.pec_link op_lt (pv 2) (Ru.pec_link op_le (pv 3) (Ru.pec_link op_lt (pv 4) (Ru.pec_last op_lt pe_int))))))))), ?_⟩
    refine ⟨_, rfl, l, _, rfl, hl, rfl, _, _, rfl, _, _, rfl, _, _, rfl, _, _, rfl, rfl, ?_⟩
    have no : ∀ {p : Prop} [Decidable p], ¬ decide p = true → (Gr a b c d → d ≤ 99 → p) → Q (.bl false) H := fun e h => by
      have z : grows a b c d = false := Bool.eq_false_iff.mpr fun h2 => e (decide_eq_true (h (grows_gr h2).1 (grows_gr h2).2))
      rw [z] at q
      exact q
    refine ⟨_, rfl, _, _, rfl, rfl, _, rfl, ite2 (fun e1 => ?_) (fun e1 => no e1 fun g _ => g.ga)⟩
    refine ⟨_, rfl, _, _, rfl, rfl, _, rfl, ite2 (fun e2 => ?_) (fun e2 => no e2 fun g _ => g.gb)⟩
    refine ⟨_, rfl, _, _, rfl, rfl, _, rfl, ite2 (fun e3 => ?_) (fun e3 => no e3 fun g _ => g.gc)⟩
    refine ⟨_, rfl, _, _, rfl, rfl, _, rfl, ite2 (fun e4 => ?_) (fun e4 => no e4 fun g _ => g.gd)⟩
    refine ⟨_, _, rfl, rfl, ?_⟩
    have z : grows a b c d = decide (d < 100) := by
      unfold grows
      rw [show decide (0 < a) = true from e1, show decide (a < b) = true from e2, show decide (b ≤ c) = true from e3, show decide (c < d) = true from e4]
      rfl
    rw [z] at q
    exact q
end
end Q

namespace Q
open PySem PySem.Spec PyProof.Rows L2
section
variable {P : Program} {w : World} {K : PySem.W.Frag} {mg : Str → Option Value} {base : Heap}
def spPlant : Sp := fun vs H Q _ => ∃ (a c : Addr) (n : Nat), vs = [.ref a] ∧ Hat H a c n ∧ n ≤ 999000 ∧
  ∀ (l : Addr) (xs : List Int) (H' : Hp), H' l = some (.lst (xs.map V.int)) → H l = none → Hat H' a c (n + 20) → But a H H' → Q (.ref l) H'
theorem ok__law_planted (T : Txt K mg) : FnOk P w K mg base CX0 3 T.f__law_planted.a T.f__law_planted.fd ["_law_hat_here"] spPlant := by
  have G__law_lot := ok__law_lot (P := P) (w := w) (base := base) T
  have G__law_one := ok__law_one (P := P) (w := w) (base := base) T
  refine T.f__law_planted.F.ok sc__law_planted (fun vs H Q E h => ?_) (fun cdv A outer s H vs Q E hr h => ?_)
  · obtain ⟨a, c, n, rfl, _⟩ := h
    rfl
  · obtain ⟨a, c, n, rfl, hh, hn, q⟩ := h
    refine ⟨_, (pss_cons (ps_asg (pe_tup (pa_cons (pe_call G__law_lot (hr.mono (by decide)) (by rfl) T.f__law_lot.g T.f__law_lot.F.kp T.f__law_lot.b .nil pass0 (pa_cons (pv 0) (pa_cons pe_int pa_nil))) (pa_cons (pe_op op_add pe_int (pe_call G__law_lot (hr.mono (by decide)) (by rfl) T.f__law_lot.g T.f__law_lot.F.kp T.f__law_lot.b .nil pass0 (pa_cons (pv 0) (pa_cons pe_int pa_nil)))) (pa_cons (pe_op op_add pe_int (pe_call G__law_lot (hr.mono (by decide)) (by rfl) T.f__law_lot.g T.f__law_lot.F.kp T.f__law_lot.b .nil pass0 (pa_cons (pv 0) (pa_cons pe_int pa_nil)))) (pa_cons (pe_call G__law_lot (hr.mono (by decide)) (by rfl) T.f__law_lot.g T.f__law_lot.F.kp T.f__law_lot.b .nil pass0 (pa_cons (pv 0) (pa_cons pe_int pa_nil))) pa_nil))))) (pg_tup rfl (pgs_cons (pg_name (i := 1) sc__law_planted.nd rfl (Or.inl rfl)) (pgs_cons (pg_name (i := 2) sc__law_planted.nd rfl (Or.inl rfl)) (pgs_cons (pg_name (i := 3) sc__law_planted.nd rfl (Or.inl rfl)) (pgs_cons (pg_name (i := 4) sc__law_planted.nd rfl (Or.inl rfl)) pgs_nil)))))) (pss_cons (ps_if (pt_cmpR op_eq (pv 1) pe_int (nomark _)) (pss_one (ps_ret (pe_lst (pa_cons (pv 2) (pa_cons (pe_op op_add (pv 2) (pv 3)) (pa_cons (pe_op op_add (pe_op op_add (pv 2) (pv 3)) (pv 4)) (pa_cons (pe_op op_add (pe_op op_add (pv 2) (pe_op op_mul pe_int (pv 3))) (pv 4)) pa_nil))))))) pss_nil) (pss_cons (ps_if (pt_cmpR op_eq (pv 1) pe_int (nomark _)) (pss_cons (ps_asg (pe_lc (own := [("_law_turn", 13)]) (by rfl) sc__law_planted.nd (pi_range1 rfl T.n_range (pa_cons pe_int pa_nil)) (blkOk_by (N := n__law_planted) (sc := defScope s__law_planted) (by decide +kernel)) (fun _ _ _ _ _ => (pg_name (i := 13) sc__law_planted.nd rfl (Or.inl rfl))) (fun _ _ _ _ _ => pts_nil) (fun _ _ _ _ _ => (pe_op op_add pe_int (pe_call G__law_lot (hr.mono (by decide)) (by rfl) T.f__law_lot.g T.f__law_lot.F.kp T.f__law_lot.b .nil pass0 (pa_cons (pv 0) (pa_cons pe_int pa_nil)))))) (pg_lst rfl (pgs_cons (pg_name (i := 5) sc__law_planted.nd rfl (Or.inl rfl)) (pgs_cons (pg_name (i := 6) sc__law_planted.nd rfl (Or.inl rfl)) (pgs_cons (pg_name (i := 7) sc__law_planted.nd rfl (Or.inl rfl)) (pgs_cons (pg_name (i := 8) sc__law_planted.nd rfl (Or.inl rfl)) pgs_nil)))))) (pss_cons (ps_set (i := 9) sc__law_planted.nd rfl (Or.inl rfl) (pe_callB cr_sortedI (by rfl) T.n_sorted (by decide +kernel) (pa_cons (pe_lst (pa_cons (pe_op op_mul (pv 5) (pv 7)) (pa_cons (pe_op op_mul (pe_op op_add (pv 5) (pv 6)) (pv 7)) (pa_cons (pe_op op_mul (pv 5) (pe_op op_add (pv 7) (pv 8))) (pa_cons (pe_op op_mul (pe_op op_add (pv 5) (pv 6)) (pe_op op_add (pv 7) (pv 8))) pa_nil))))) pa_nil))) (pss_one (ps_ret (pv 9))))) pss_nil) (pss_cons (ps_if (pt_cmpR op_eq (pv 1) pe_int (nomark _)) (pss_cons (ps_asg (pe_lc (own := [("_law_turn", 13)]) (by rfl) sc__law_planted.nd (pi_range1 rfl T.n_range (pa_cons pe_int pa_nil)) (blkOk_by (N := n__law_planted) (sc := defScope s__law_planted) (by decide +kernel)) (fun _ _ _ _ _ => (pg_name (i := 13) sc__law_planted.nd rfl (Or.inl rfl))) (fun _ _ _ _ _ => pts_nil) (fun _ _ _ _ _ => (pe_op op_add pe_int (pe_call G__law_lot (hr.mono (by decide)) (by rfl) T.f__law_lot.g T.f__law_lot.F.kp T.f__law_lot.b .nil pass0 (pa_cons (pv 0) (pa_cons pe_int pa_nil)))))) (pg_lst rfl (pgs_cons (pg_name (i := 5) sc__law_planted.nd rfl (Or.inl rfl)) (pgs_cons (pg_name (i := 6) sc__law_planted.nd rfl (Or.inl rfl)) (pgs_cons (pg_name (i := 7) sc__law_planted.nd rfl (Or.inl rfl)) (pgs_cons (pg_name (i := 8) sc__law_planted.nd rfl (Or.inl rfl)) pgs_nil)))))) (pss_one (ps_ret (pe_callB cr_sortedI (by rfl) T.n_sorted (by decide +kernel) (pa_cons (pe_lst (pa_cons (pe_callB call_abs (by rfl) T.n_abs (by decide +kernel) (pa_cons (pe_op op_sub (pe_op op_mul (pv 5) (pv 6)) (pe_op op_mul (pv 7) (pv 8))) pa_nil)) (pa_cons (pe_callB call_abs (by rfl) T.n_abs (by decide +kernel) (pa_cons (pe_op op_sub (pe_op op_mul (pv 5) (pv 8)) (pe_op op_mul (pv 6) (pv 7))) pa_nil)) (pa_cons (pe_op op_add (pe_op op_mul (pv 5) (pv 6)) (pe_op op_mul (pv 7) (pv 8))) (pa_cons (pe_op op_add (pe_op op_mul (pv 5) (pv 8)) (pe_op op_mul (pv 6) (pv 7))) pa_nil))))) pa_nil))))) pss_nil) (pss_cons (ps_if (pt_cmpR op_eq (pv 1) pe_int (nomark _)) (pss_cons (ps_asg (pe_tup (pa_cons (pe_call G__law_one (hr.mono (by decide)) (by rfl) T.f__law_one.g T.f__law_one.F.kp T.f__law_one.b .nil pass0 (pa_cons (pv 0) (pa_cons (pe_lst (pa_cons pe_int (pa_cons pe_int (pa_cons pe_int (pa_cons pe_int (pa_cons pe_int (pa_cons pe_int pa_nil))))))) pa_nil))) (pa_cons (pe_op op_add pe_int (pe_call G__law_lot (hr.mono (by decide)) (by rfl) T.f__law_lot.g T.f__law_lot.F.kp T.f__law_lot.b .nil pass0 (pa_cons (pv 0) (pa_cons pe_int pa_nil)))) (pa_cons (pe_op op_add pe_int (pe_call G__law_lot (hr.mono (by decide)) (by rfl) T.f__law_lot.g T.f__law_lot.F.kp T.f__law_lot.b .nil pass0 (pa_cons (pv 0) (pa_cons pe_int pa_nil)))) pa_nil)))) (pg_tup rfl (pgs_cons (pg_name (i := 10) sc__law_planted.nd rfl (Or.inr rfl)) (pgs_cons (pg_name (i := 11) sc__law_planted.nd rfl (Or.inl rfl)) (pgs_cons (pg_name (i := 12) sc__law_planted.nd rfl (Or.inl rfl)) pgs_nil))))) (pss_cons (ps_set (i := 9) sc__law_planted.nd rfl (Or.inl rfl) (pe_lst (pa_cons (pv 11) (pa_cons (pe_op op_add (pv 11) (pv 12)) (pa_cons (pe_op op_add (pe_op op_add (pv 11) (pv 12)) (pe_op op_mul (pe_call G__law_lot (hr.mono (by decide)) (by rfl) T.f__law_lot.g T.f__law_lot.F.kp T.f__law_lot.b .nil pass0 (pa_cons (pv 0) (pa_cons pe_int pa_nil))) (pv 12))) (pa_cons (pe_op op_add (pv 11) (pe_op op_mul pe_int (pv 12))) pa_nil)))))) (pss_cons (ps_asg (pe_op op_sub (pe_op op_add (pe_ix ix_list (pv 9) pe_int (fun _ _ => rfl)) (pe_ix ix_list (pv 9) pe_int (fun _ _ => rfl))) (pe_ix ix_list (pv 9) pe_int (fun _ _ => rfl))) (pg_sub (pv 9) pe_int set_list (fun _ => rfl))) (pss_one (ps_ret (pe_lc (own := [("_law_part", 14)]) (by rfl) sc__law_planted.nd (pi_list (pe_revL (pv 9))) (blkOk_by (N := n__law_planted) (sc := defScope s__law_planted) (by decide +kernel)) (fun _ _ _ _ _ => (pg_name (i := 14) sc__law_planted.nd rfl (Or.inl rfl))) (fun _ _ _ _ _ => pts_one (pt_cmpR op_eq (pe_op op_mod (pe_callTy call_int1 (by rfl) T.n_int (by decide +kernel) (pa_cons (pv 10) pa_nil)) (pv 14)) pe_int (nomark _))) (fun _ _ _ _ _ => (pe_op op_fdiv (pv 10) (pv 14))))))))) pss_nil) (pss_cons (ps_if (pt_cmpR op_eq (pv 1) pe_int (nomark _)) (pss_one (ps_ret (pe_lst (pa_cons pe_int (pa_cons (pe_op op_sub pe_int (pv 2)) (pa_cons (pe_op op_add (pe_op op_sub pe_int (pv 2)) (pe_op op_fdiv (pv 4) pe_int)) (pa_cons (pe_op op_add (pe_op op_add (pe_op op_sub pe_int (pv 2)) (pe_op op_fdiv (pv 4) pe_int)) (pe_op op_fdiv (pv 3) pe_int)) pa_nil))))))) pss_nil) (pss_one (ps_ret (pe_lst (pa_cons (pe_op op_sub pe_int (pv 2)) (pa_cons (pe_op op_sub pe_int (pv 2)) (pa_cons (pe_op op_add (pe_op op_sub pe_int (pv 2)) (pe_op op_fdiv (pv 4) pe_int)) (pa_cons (pe_op op_sub pe_int (pe_op op_fdiv (pv 3) pe_int)) pa_nil))))))))))))), ?_⟩
    refine ⟨_, rfl, a, c, n, 6, rfl, hh, by omega, by omega, by omega, fun d1 H1 p1 p1' hh1 b1 => ?_⟩
    refine ⟨_, rfl, a, c, n + 1, 30, rfl, hh1, by omega, by omega, by omega, fun d2 H2 p2 p2' hh2 b2 => ?_⟩
    refine ⟨_, _, rfl, rfl, ?_⟩
    refine ⟨_, rfl, a, c, n + 1 + 1, 30, rfl, hh2, by omega, by omega, by omega, fun d3 H3 p3 p3' hh3 b3 => ?_⟩
    refine ⟨_, _, rfl, rfl, ?_⟩
    refine ⟨_, rfl, a, c, n + 1 + 1 + 1, 30, rfl, hh3, by omega, by omega, by omega, fun d4 H4 p4 p4' hh4 b4 => ⟨sz4, fun p hp => ⟨p, _, rfl, .of upd_same, rfl, _, _, rfl, _, _, rfl, _, _, rfl, _, _, rfl, rfl, ?_⟩⟩⟩
    have hh5 := hh4.upd (o := .tup [.int d1, .int (1 + d2), .int (1 + d3), .int d4]) (hh4.neA hp) (hh4.neC hp)
    have b5 := ((((b1.trans b2).trans b3).trans b4).trans (.of (same_upd (o := .tup [.int d1, .int (1 + d2), .int (1 + d3), .int d4]) hp)) : But a H _)
    have fin : ∀ (H' : Hp) (l : Addr) (xs : List Int), Hat H' a c (n + 19) → But a H H' → H' l = none → Q (.ref l) (upd H' l (.lst (xs.map V.int))) := fun H' l xs hh b hl =>
      q l xs _ upd_same (b.free hh hl) ((hh.upd (hh.neA hl) (hh.neC hl)).mono (by omega)) (b.trans (.of (same_upd hl)))
    have cm : ∀ {x y : Int}, -1000 ≤ x → x ≤ 1000 → CMul x y := fun h1 h2 => .inl ⟨by omega, by omega⟩
    refine ⟨_, rfl, rfl, _, rfl, ite2 (fun e => ?_) (fun e => ?_)⟩
    · refine ⟨_, rfl, _, rfl, _, rfl, _, _, rfl, rfl, _, rfl, _, rfl, _, _, rfl, rfl, _, rfl, _, _, rfl, rfl, _, rfl, _, rfl, _, _, rfl, rfl, cm (by decide) (by decide), _, _, rfl, rfl, _, rfl, _, _, rfl, rfl, sz4, fun l hl => ?_⟩
      exact fin _ l [_, _, _, _] (hh5.mono (by omega)) b5 hl
    refine ⟨_, rfl, rfl, _, rfl, ite2 (fun e => ?_) (fun e => ?_)⟩
    · refine ⟨4, rfl, by decide, by decide, fun D hD => lc_range (lo := 0) (n := 4) (fun i H' => Draws _ H' a c D (n + 4) i 9) (Draws.start (hh5.mono (by omega)) hD) (fun i H' hi p => ?_) (fun H' p => ?_)⟩
      · obtain ⟨_, _, _, _, hh7, _⟩ := id p
        refine ⟨rfl, ?_⟩
        refine ⟨_, rfl, a, c, _, 9, rfl, hh7, by omega, by decide, by decide, fun d' H8 d0' d1' hh8 b8 => ?_⟩
        exact ⟨_, _, rfl, rfl, p.next (hh5.mono (by omega)) hD (by omega) (hh8.mono (by omega)) b8 ⟨by omega, by omega⟩⟩
      · obtain ⟨u1, u2, u3, u4, eF, ⟨⟨i1, j1⟩, ⟨i2, j2⟩, ⟨i3, j3⟩, ⟨i4, j4⟩⟩, hh7, b7⟩ := p.four
        refine ⟨D, _, rfl, .of eF, rfl, _, _, rfl, _, _, rfl, _, _, rfl, _, _, rfl, rfl, ?_⟩
        refine ⟨_, rfl, _, rfl, _, _, rfl, rfl, cm (by omega) (by omega), _, rfl, _, rfl, _, _, rfl, rfl, _, rfl, _, _, rfl, rfl, cm (by omega) (by omega), _, rfl, _, rfl, _, rfl, _, _, rfl, rfl, _, _, rfl, rfl, cm (by omega) (by omega), _, rfl, _, rfl, _, _, rfl, rfl, _, rfl, _, rfl, _, _, rfl, rfl, _, _, rfl, rfl, cm (by omega) (by omega), sz4, fun l hl => ?_⟩
        refine ⟨l, [_, _, _, _], rfl, .of upd_same, fun ns' l2 _ _ hl2 => ⟨_, rfl, ?_⟩⟩
        exact fin _ l2 ns' ((hh7.upd (hh7.neA hl) (hh7.neC hl)).mono (by omega)) ((b5.trans b7).trans (.of (same_upd hl))) hl2
    refine ⟨_, rfl, rfl, _, rfl, ite2 (fun e => ?_) (fun e => ?_)⟩
    · refine ⟨4, rfl, by decide, by decide, fun D hD => lc_range (lo := 0) (n := 4) (fun i H' => Draws _ H' a c D (n + 4) i 7) (Draws.start (hh5.mono (by omega)) hD) (fun i H' hi p => ?_) (fun H' p => ?_)⟩
      · obtain ⟨_, _, _, _, hh7, _⟩ := id p
        refine ⟨rfl, ?_⟩
        refine ⟨_, rfl, a, c, _, 7, rfl, hh7, by omega, by decide, by decide, fun d' H8 d0' d1' hh8 b8 => ?_⟩
        exact ⟨_, _, rfl, rfl, p.next (hh5.mono (by omega)) hD (by omega) (hh8.mono (by omega)) b8 ⟨by omega, by omega⟩⟩
      · obtain ⟨u1, u2, u3, u4, eF, ⟨⟨i1, j1⟩, ⟨i2, j2⟩, ⟨i3, j3⟩, ⟨i4, j4⟩⟩, hh7, b7⟩ := p.four
        refine ⟨D, _, rfl, .of eF, rfl, _, _, rfl, _, _, rfl, _, _, rfl, _, _, rfl, rfl, ?_⟩
        have k1 : ∀ {y : Int}, CMul u1 y := cm (by omega) (by omega)
        have k2 : ∀ {y : Int}, CMul u2 y := cm (by omega) (by omega)
        have k3 : ∀ {y : Int}, CMul u3 y := cm (by omega) (by omega)
        refine ⟨_, rfl, _, rfl, _, _, rfl, rfl, k1, _, rfl, _, rfl, _, _, rfl, rfl, k3, _, _, rfl, rfl, _, rfl, ?_⟩
        refine ⟨_, rfl, _, rfl, _, _, rfl, rfl, k1, _, rfl, _, rfl, _, _, rfl, rfl, k2, _, _, rfl, rfl, _, rfl, ?_⟩
        refine ⟨_, rfl, _, rfl, _, _, rfl, rfl, k1, _, rfl, _, rfl, _, _, rfl, rfl, k3, _, _, rfl, rfl, ?_⟩
        refine ⟨_, rfl, _, rfl, _, _, rfl, rfl, k1, _, rfl, _, rfl, _, _, rfl, rfl, k2, _, _, rfl, rfl, sz4, fun l hl => ?_⟩
        refine ⟨l, [_, _, _, _], rfl, .of upd_same, fun ns' l2 _ _ hl2 => ?_⟩
        exact fin _ l2 ns' ((hh7.upd (hh7.neA hl) (hh7.neC hl)).mono (by omega)) ((b5.trans b7).trans (.of (same_upd hl))) hl2
    refine ⟨_, rfl, rfl, _, rfl, ite2 (fun e => ?_) (fun e => ?_)⟩
    · refine ⟨_, rfl, Nat.le_of_lt (small1000 (by show 6 ≤ 1000; decide)), fun l0 hl0 => ?_⟩
      have y0 := hh5.upd (o := .lst [.int 60, .int 72, .int 84, .int 90, .int 96, .int 48]) (hh5.neA hl0) (hh5.neC hl0)
      refine ⟨a, c, n + 4, l0, _, rfl, y0.mono (by omega), by omega, .of upd_same, hh5.neA hl0, (by show 0 < 6; decide), (by show 6 ≤ 1000; decide), fun v H6 hv hh6 b6 => ?_⟩
      obtain ⟨wv, rfl⟩ : ∃ wv : Int, v = .int wv := by
        have hv' : v ∈ [V.int 60, .int 72, .int 84, .int 90, .int 96, .int 48] := hv
        simp only [List.mem_cons, List.not_mem_nil, or_false] at hv'
        rcases hv' with rfl | rfl | rfl | rfl | rfl | rfl <;> exact ⟨_, rfl⟩
      refine ⟨_, rfl, a, c, n + 5, 5, rfl, hh6.mono (by omega), by omega, by omega, by omega, fun d7 H7 p7 p7' hh7 b7 => ?_⟩
      refine ⟨_, _, rfl, rfl, ?_⟩
      refine ⟨_, rfl, a, c, n + 6, 5, rfl, hh7.mono (by omega), by omega, by omega, by omega, fun d8 H8 p8 p8' hh8 b8 => ?_⟩
      refine ⟨_, _, rfl, rfl, sz3, fun p2 hp2 => ⟨p2, _, rfl, .of upd_same, rfl, _, _, rfl, _, _, rfl, _, _, rfl, rfl, ?_⟩⟩
      have hh8' := hh8.upd (o := .tup [.int wv, .int (1 + d7), .int (1 + d8)]) (hh8.neA hp2) (hh8.neC hp2)
      have b58 := ((((b5.trans (.of (same_upd (o := .lst [.int 60, .int 72, .int 84, .int 90, .int 96, .int 48]) hl0))).trans b6).trans b7).trans b8).trans (.of (same_upd (o := .tup [.int wv, .int (1 + d7), .int (1 + d8)]) hp2))
      refine ⟨_, rfl, _, rfl, _, rfl, _, _, rfl, rfl, _, rfl, _, rfl, _, _, rfl, rfl, _, rfl, a, c, n + 7, 2, rfl, hh8'.mono (by omega), by omega, by omega, by omega, fun d9 H9 p9 p9' hh9 b9 => ?_⟩
      refine ⟨_, rfl, _, _, rfl, rfl, cm (by omega) (by omega), _, _, rfl, rfl, _, rfl, _, rfl, _, _, rfl, rfl, cm (by decide) (by decide), _, _, rfl, rfl, sz4, fun ls hls => ?_⟩
      have b59 := b58.trans b9
      have hm : d9 * (1 + d8) = 0 ∨ d9 * (1 + d8) = 1 + d8 := by
        rcases (show d9 = 0 ∨ d9 = 1 by omega) with rfl | rfl
        · exact .inl (Int.zero_mul _)
        · exact .inr (Int.one_mul _)
      refine ⟨_, rfl, ls, _, 1, _, rfl, rfl, .of upd_same, atI_nat (j := 1) rfl, _, rfl, ls, _, 2, _, rfl, rfl, .of upd_same, atI_nat (j := 2) rfl, _, _, rfl, rfl, _, rfl, ls, _, 0, _, rfl, rfl, .of upd_same, atI_nat (j := 0) rfl, _, _, rfl, rfl, _, rfl, ls, _, 3, 3, rfl, rfl, upd_same, rfl, ?_⟩
      refine ⟨_, rfl, ls, _, rfl, .of upd_same, fun lr hlr => ⟨lr, rfl, ⟨_, .of upd_same⟩, fun D hD => ?_⟩⟩
      have na := hh9.neA hls
      have nc := hh9.neC hls
      have ya := ((hh9.upd na nc).upd na nc).neA hlr
      have yc := ((hh9.upd na nc).upd na nc).neC hlr
      have nDr := ne_of_none upd_same hD
      refine lc_list (K := K) (a := lr) (xs := [.int (1 + d7 + (1 + d8) + (1 + d7 + (1 + d8) + d9 * (1 + d8)) - (1 + d7)), .int (1 + d7 + (1 + d8) + d9 * (1 + d8)), .int (1 + d7 + (1 + d8)), .int (1 + d7)])
        (fun i H' => ∃ ys : List Int, ys.length ≤ i ∧ H' = upd _ D (.lst (ys.map V.int))) ⟨[], Nat.le_refl _, rfl⟩ (fun i H' _ p => ?_) (fun i x H' hi p => ?_) (fun H' p => ?_)
      · obtain ⟨ys, hy, rfl⟩ := p
        exact .of (by rw [upd_ne nDr]; exact upd_same)
      · obtain ⟨ys, hy, rfl⟩ := p
        obtain ⟨v, rfl, v1, v2, i4⟩ : ∃ v : Int, x = .int v ∧ 1 ≤ v ∧ v ≤ 1000 ∧ i < 4 := by
          match i, hi with
          | 0, hi => cases hi; exact ⟨_, rfl, by omega, by omega, by omega⟩
          | 1, hi => cases hi; exact ⟨_, rfl, by omega, by omega, by omega⟩
          | 2, hi => cases hi; exact ⟨_, rfl, by omega, by omega, by omega⟩
          | 3, hi => cases hi; exact ⟨_, rfl, by omega, by omega, by omega⟩
          | n + 4, hi => cases hi
        refine ⟨rfl, _, rfl, .inl ⟨_, rfl, _, rfl, _, _, rfl, rfl, (by show 0 < v; omega), rfl, _, rfl, ite2 (fun _ => ?_) (fun _ => ⟨ys, by omega, rfl⟩)⟩⟩
        exact ⟨_, rfl, _, rfl, _, _, rfl, rfl, ⟨by omega, by omega⟩, ys.map V.int, upd_same, small1000 (by rw [List.length_map]; omega), ys ++ [_], by simp only [List.length_append, List.length_singleton]; omega, by rw [upd_upd, List.map_append]; rfl⟩
      · obtain ⟨ys, hy, rfl⟩ := p
        refine fin _ D ys ((((hh9.upd na nc).upd na nc).upd ya yc).mono (by omega)) (fun u o hu nu => ?_) hD
        have h9 := b59 u o hu nu
        have n1 := ne_of_none h9 hls
        have n2 : u ≠ lr := fun z => by
          rw [← z, upd_ne n1, upd_ne n1, h9] at hlr
          cases hlr
        rw [upd_ne n2, upd_ne n1, upd_ne n1]
        exact h9
    refine ⟨_, rfl, rfl, _, rfl, ite2 (fun e => ?_) (fun e => ?_)⟩
    · refine ⟨_, rfl, _, _, rfl, rfl, _, rfl, _, _, rfl, rfl, _, rfl, _, _, rfl, rfl, ⟨by decide, by decide⟩, _, _, rfl, rfl, _, rfl, _, _, rfl, rfl, _, rfl, _, _, rfl, rfl, ⟨by decide, by decide⟩, _, _, rfl, rfl, _, rfl, _, _, rfl, rfl, ⟨by decide, by decide⟩, _, _, rfl, rfl, sz4, fun l hl => ?_⟩
      exact fin _ l [_, _, _, _] (hh5.mono (by omega)) b5 hl
    · refine ⟨_, rfl, _, _, rfl, rfl, _, rfl, _, _, rfl, rfl, _, rfl, _, _, rfl, rfl, _, rfl, _, _, rfl, rfl, ⟨by decide, by decide⟩, _, _, rfl, rfl, _, rfl, _, _, rfl, rfl, ⟨by decide, by decide⟩, _, _, rfl, rfl, sz4, fun l hl => ?_⟩
      exact fin _ l [_, _, _, _] (hh5.mono (by omega)) b5 hl
def spFour : Sp := fun vs H Q _ => ∃ (a c : Addr) (n : Nat), vs = [.ref a] ∧ Hat H a c n ∧ n ≤ 990000 ∧
  ∀ (l : Addr) (x1 x2 x3 x4 : Int) (H' : Hp), Gr x1 x2 x3 x4 → x4 ≤ 99 → H' l = some (.lst (L4 x1 x2 x3 x4)) → H l = none → Hat H' a c (n + 30) → But a H H' → Q (.ref l) H'
theorem ok__law_four (T : Txt K mg) : FnOk P w K mg base CX0 4 T.f__law_four.a T.f__law_four.fd ["_law_hat_here"] spFour := by
  have G__law_planted := ok__law_planted (P := P) (w := w) (base := base) T
  have G__law_lot := ok__law_lot (P := P) (w := w) (base := base) T
  have G__law_any := ok__law_any (P := P) (w := w) (base := base) T
  have G__law_grows := ok__law_grows (P := P) (w := w) (base := base) T
  refine T.f__law_four.F.ok sc__law_four (fun vs H Q E h => ?_) (fun cdv A outer s H vs Q E hr h => ?_)
  · obtain ⟨a, c, n, rfl, _⟩ := h
    rfl
  · obtain ⟨a, c, n, rfl, hh, hn, q⟩ := h
    refine ⟨_, (pss_cons (ps_if (pt_cmpR op_eq (pe_call G__law_lot (hr.mono (by decide)) (by rfl) T.f__law_lot.g T.f__law_lot.F.kp T.f__law_lot.b .nil pass0 (pa_cons (pv 0) (pa_cons pe_int pa_nil))) pe_int (nomark _)) (pss_one (ps_ret (pe_call G__law_any (hr.mono (by decide)) (by rfl) T.f__law_any.g T.f__law_any.F.kp T.f__law_any.b .nil pass0 (pa_cons (pv 0) pa_nil)))) pss_nil) (pss_cons (ps_set (i := 1) sc__law_four.nd rfl (Or.inl rfl) (pe_call G__law_planted (hr.mono (by decide)) (by rfl) T.f__law_planted.g T.f__law_planted.F.kp T.f__law_planted.b .nil pass0 (pa_cons (pv 0) pa_nil))) (pss_one (ps_ret (pe_ifExp (PW.pt (pw_and (pt_cmpR op_eq (pe_callB call_len_seq (by rfl) T.n_len (by decide +kernel) (pa_cons (pv 1) pa_nil)) pe_int (nomark _)) (pw_and1 (pt_val (pe_call G__law_grows (hr.mono (by decide)) (by rfl) T.f__law_grows.g T.f__law_grows.F.kp T.f__law_grows.b .nil pass0 (pa_cons (pv 1) pa_nil)))))) (pv 1) (pe_call G__law_any (hr.mono (by decide)) (by rfl) T.f__law_any.g T.f__law_any.F.kp T.f__law_any.b .nil pass0 (pa_cons (pv 0) pa_nil))))))), ?_⟩
    refine ⟨_, rfl, a, c, n, 4, rfl, hh, by omega, by omega, by omega, fun d1 H1 p1 p1' hh1 b1 => ?_⟩
    refine ⟨rfl, _, rfl, ite2 (fun e => ?_) (fun e => ?_)⟩
    · exact ⟨_, rfl, a, c, n + 1, rfl, hh1, by omega, fun l x1 x2 x3 x4 H' g h9 e f hh' b => q l x1 x2 x3 x4 H' g h9 e (b1.free hh1 f) (hh'.mono (by omega)) (b1.trans b)⟩
    refine ⟨_, rfl, a, c, n + 1, rfl, hh1, by omega, fun l xs H2 el fl hh2 b2 => ?_⟩
    have b12 := b1.trans b2
    have no : tCall spAny [] E0 (tCons (tVar 0) tNil) [some (.ref a), some (.ref l)] H2 (fun v H' => Q v H') :=
      ⟨_, rfl, a, c, n + 21, rfl, hh2.mono (by omega), by omega, fun l x1 x2 x3 x4 H' g h9 e f hh' b => q l x1 x2 x3 x4 H' g h9 e (b12.free hh2 f) (hh'.mono (by omega)) (b12.trans b)⟩
    refine ⟨_, rfl, l, _, rfl, .inl (.of el), rfl, _, rfl, ite2 (fun e4 => ?_) (fun e4 => iteF no)⟩
    have l4 : ((xs.map V.int).length : Int) = 4 := V.int.inj (of_decide_eq_true e4)
    rw [List.length_map] at l4
    obtain ⟨x1, x2, x3, x4, rfl⟩ : ∃ x1 x2 x3 x4, xs = [x1, x2, x3, x4] := by
      match xs, l4 with
      | [x1, x2, x3, x4], _ => exact ⟨_, _, _, _, rfl⟩
      | [], h => simp only [List.length_cons, List.length_nil] at h; omega
      | [_], h => simp only [List.length_cons, List.length_nil] at h; omega
      | [_, _], h => simp only [List.length_cons, List.length_nil] at h; omega
      | [_, _, _], h => simp only [List.length_cons, List.length_nil] at h; omega
      | _ :: _ :: _ :: _ :: _ :: r, h => simp only [List.length_cons] at h; omega
    refine ⟨_, rfl, l, x1, x2, x3, x4, rfl, .of el, _, rfl, ite2 (fun eg => ?_) (fun eg => no)⟩
    exact ⟨_, rfl, q l x1 x2 x3 x4 H2 (grows_gr eg).1 (grows_gr eg).2 el (b1.free hh1 fl) (hh2.mono (by omega)) b12⟩
end
end Q

namespace Q
open PySem PySem.Spec PyProof.Rows L2
section
variable {P : Program} {w : World} {K : PySem.W.Frag} {mg : Str → Option Value} {base : Heap}
theorem ne_cls (T : Txt K mg) : T.k_Between.a ≠ T.k_ByPower.a := fun e => by
  have := T.is_ByPower_Between
  rw [e, T.is_ByPower_ByPower] at this
  cases this
def nearP (n : Int) : Int := if 0 ≤ n then n else n + 1
def farP (n : Int) : Int := if 0 ≤ n then n + 1 else n
/-- lies between the powers near and far -/
def betw (a b c d n : Int) : Bool := !decide (a * d = b * c) && (decide (decide (a * d < b * c) = decide (0 ≤ n)) && ((decide (nearP n = 0) || decide (wsum a b c d (nearP n) < 0)) && decide (0 < wsum a b c d (farP n))))
theorem betw_even {a b c d n : Int} (h : a * d = b * c) : betw a b c d n = false := by
  unfold betw
  rw [decide_eq_true h]
  rfl
theorem betw_side {a b c d n : Int} (h : ¬ decide (a * d < b * c) = decide (0 ≤ n)) : betw a b c d n = false := by
  unfold betw
  rw [show decide (decide (a * d < b * c) = decide (0 ≤ n)) = false from decide_eq_false h, Bool.false_and, Bool.and_false]
theorem betw_rest {a b c d n : Int} (h0 : ¬ a * d = b * c) (h : decide (a * d < b * c) = decide (0 ≤ n)) : betw a b c d n = ((decide (nearP n = 0) || decide (wsum a b c d (nearP n) < 0)) && decide (0 < wsum a b c d (farP n))) := by
  unfold betw
  rw [decide_eq_false h0, decide_eq_true h]
  rfl
theorem dec_bl (x y : Bool) : decide (V.bl x = V.bl y) = decide (x = y) := by
  cases x <;> cases y <;> rfl
def spBetw : Sp := fun vs H Q _ => ∃ a b c d n : Int, vs = [.int a, .int b, .int c, .int d, .int n] ∧ Gr a b c d ∧ d ≤ 99 ∧ -80 ≤ n ∧ n ≤ 79 ∧ ∀ H', Same H H' → Q (.bl (betw a b c d n)) H'
theorem ok_is_between (T : Txt K mg) : FnOk P w K mg base CX0 4 T.f_is_between.a T.f_is_between.fd ["a", "b", "c", "d", "low"] spBetw := by
  have G_whole_sum := ok_whole_sum (P := P) (w := w) (base := base) T
  refine T.f_is_between.F.ok sc_is_between (fun vs H Q E h => ?_) (fun cdv A outer s H vs Q E hr h => ?_)
  · obtain ⟨a, b, c, d, n, rfl, _⟩ := h
    rfl
  · obtain ⟨a, b, c, d, n, rfl, g, h9, n0, n1, q⟩ := h
    have ga := g.ga
    have gb := g.gb
    have gc := g.gc
    have gd := g.gd
    have l1 := fun {x y : Int} (hx : 1 ≤ x ∧ x ≤ 99) => (.inl ⟨by omega, by omega⟩ : CMul x y)
    have fine : ∀ p : Int, -80 ≤ p → p ≤ 80 → Fine a b c d p := fun p h1 h2 => ⟨⟨by omega, by omega⟩, ⟨by omega, by omega⟩, ⟨by omega, by omega⟩, ⟨by omega, by omega⟩, h1, h2⟩
    refine ⟨_, (pss_cons (ps_if (PW.pt (pw_or (pt_cmpR op_eq (pe_op op_mul (pv 0) (pv 3)) (pe_op op_mul (pv 1) (pv 2)) (nomark _)) (pw_or1 (pt_cmpR op_ne (pe_cmpR op_lt (pe_op op_mul (pv 0) (pv 3)) (pe_op op_mul (pv 1) (pv 2)) (nomark _)) (pe_cmpR op_ge (pv 4) pe_int (nomark _)) (nomark _))))) (pss_one (ps_ret pe_bl)) pss_nil) (pss_cons (ps_asg (pe_ifExp (pt_cmpR op_ge (pv 4) pe_int (nomark _)) (pe_tup (pa_cons (pv 4) (pa_cons (pe_op op_add (pv 4) pe_int) pa_nil))) (pe_tup (pa_cons (pe_op op_add (pv 4) pe_int) (pa_cons (pv 4) pa_nil)))) (pg_tup rfl (pgs_cons (pg_name (i := 5) sc_is_between.nd rfl (Or.inl rfl)) (pgs_cons (pg_name (i := 6) sc_is_between.nd rfl (Or.inl rfl)) pgs_nil)))) (pss_one (ps_ret (pe_and (pe_or (pe_cmpR op_eq (pv 5) pe_int (nomark _)) (pe_one (pe_cmpR op_lt (pe_call G_whole_sum (hr.mono (by decide)) (by rfl) T.f_whole_sum.g T.f_whole_sum.F.kp T.f_whole_sum.b .nil pass0 (pa_cons (pv 0) (pa_cons (pv 1) (pa_cons (pv 2) (pa_cons (pv 3) (pa_cons (pv 5) pa_nil)))))) pe_int (nomark _)))) (pe_one (pe_cmpR op_gt (pe_call G_whole_sum (hr.mono (by decide)) (by rfl) T.f_whole_sum.g T.f_whole_sum.F.kp T.f_whole_sum.b .nil pass0 (pa_cons (pv 0) (pa_cons (pv 1) (pa_cons (pv 2) (pa_cons (pv 3) (pa_cons (pv 6) pa_nil)))))) pe_int (nomark _)))))))), ?_⟩
    refine ⟨_, rfl, _, rfl, _, _, rfl, rfl, l1 ⟨by omega, by omega⟩, _, rfl, _, rfl, _, _, rfl, rfl, l1 ⟨by omega, by omega⟩, rfl, _, rfl, ite2 (fun e => iteT ?_) (fun e => ?_)⟩
    · have e0 : a * d = b * c := V.int.inj (of_decide_eq_true e)
      have q2 := q _ (Same.refl _)
      rw [betw_even e0] at q2
      exact q2
    have e0 : ¬ a * d = b * c := fun z => e (decide_eq_true (congrArg V.int z))
    refine ⟨_, rfl, _, rfl, _, _, rfl, rfl, l1 ⟨by omega, by omega⟩, _, rfl, _, rfl, _, _, rfl, rfl, l1 ⟨by omega, by omega⟩, _, _, rfl, rfl, ?_⟩
    refine ⟨_, rfl, _, _, rfl, rfl, rfl, _, rfl, ite2 (fun e1 => ?_) (fun e1 => ?_)⟩
    · have e2 : ¬ decide (a * d < b * c) = decide (0 ≤ n) := fun z => by
        have e3 : (!decide (V.bl (decide (a * d < b * c)) = V.bl (decide (0 ≤ n)))) = true := e1
        rw [dec_bl, decide_eq_true z] at e3
        cases e3
      have q2 := q _ (Same.refl _)
      rw [betw_side e2] at q2
      exact q2
    have e2 : decide (a * d < b * c) = decide (0 ≤ n) := by
      have e3 : ¬ (!decide (V.bl (decide (a * d < b * c)) = V.bl (decide (0 ≤ n)))) = true := e1
      rw [dec_bl] at e3
      have e4 : decide (decide (a * d < b * c) = decide (0 ≤ n)) = true := by
        cases z : decide (decide (a * d < b * c) = decide (0 ≤ n)) with
        | true => rfl
        | false => rw [z] at e3; exact absurd rfl e3
      exact of_decide_eq_true e4
    rw [betw_rest e0 e2] at q
    by_cases hn : 0 ≤ n
    · have en : nearP n = n := if_pos hn
      have ef : farP n = n + 1 := if_pos hn
      rw [en, ef] at q
      refine ⟨_, rfl, _, _, rfl, rfl, true, congrArg V.bl (decide_eq_true hn), iteT ?_⟩
      refine ⟨_, rfl, _, rfl, _, _, rfl, rfl, sz2, fun p hp => ⟨p, _, rfl, .of upd_same, rfl, _, _, rfl, _, _, rfl, rfl, ?_⟩⟩
      have sm := same_upd (o := .tup [.int (n), .int (n + 1)]) hp
      have fin : (decide (n = 0) || decide (wsum a b c d n < 0)) = true → tOp (rI0 fun i j => V.bl (decide (j < i))) (tCall spSum [] E0 (tCons (tVar 0) (tCons (tVar 1) (tCons (tVar 2) (tCons (tVar 3) (tCons (tVar 6) tNil)))))) (tC (V.int 0)) [some (.int a), some (.int b), some (.int c), some (.int d), some (.int n), some (.int (n)), some (.int (n + 1))] (upd H p (.tup [.int (n), .int (n + 1)])) (fun v H' => Q v H') := fun z =>
        ⟨_, rfl, _, rfl, _, rfl, _, rfl, _, rfl, a, b, c, d, n + 1, rfl, fine _ (by omega) (by omega), _, _, rfl, rfl, (by have q2 := q _ sm; rw [z, Bool.true_and] at q2; exact q2)⟩
      refine ⟨_, rfl, rfl, ?_⟩
      by_cases z : n = 0
      · exact ⟨true, congrArg V.bl (decide_eq_true (congrArg V.int z)), iteT ⟨true, rfl, iteT (fin (by rw [decide_eq_true z]; rfl))⟩⟩
      · refine ⟨false, congrArg V.bl (decide_eq_false fun y => z (V.int.inj y)), iteF ?_⟩
        refine ⟨_, rfl, _, rfl, _, rfl, _, rfl, _, rfl, a, b, c, d, n, rfl, fine _ (by omega) (by omega), _, _, rfl, rfl, _, rfl, ite2 (fun y => fin (by rw [show decide (wsum a b c d n < 0) = true from y, Bool.or_true])) (fun y => ?_)⟩
        have q2 := q _ sm
        rw [decide_eq_false z, show decide (wsum a b c d n < 0) = false from Bool.eq_false_iff.mpr y] at q2
        exact q2
    · have en : nearP n = n + 1 := if_neg hn
      have ef : farP n = n := if_neg hn
      rw [en, ef] at q
      refine ⟨_, rfl, _, _, rfl, rfl, false, congrArg V.bl (decide_eq_false hn), iteF ?_⟩
      refine ⟨_, rfl, _, _, rfl, rfl, _, rfl, sz2, fun p hp => ⟨p, _, rfl, .of upd_same, rfl, _, _, rfl, _, _, rfl, rfl, ?_⟩⟩
      have sm := same_upd (o := .tup [.int (n + 1), .int (n)]) hp
      have fin : (decide (n + 1 = 0) || decide (wsum a b c d (n + 1) < 0)) = true → tOp (rI0 fun i j => V.bl (decide (j < i))) (tCall spSum [] E0 (tCons (tVar 0) (tCons (tVar 1) (tCons (tVar 2) (tCons (tVar 3) (tCons (tVar 6) tNil)))))) (tC (V.int 0)) [some (.int a), some (.int b), some (.int c), some (.int d), some (.int n), some (.int (n + 1)), some (.int (n))] (upd H p (.tup [.int (n + 1), .int (n)])) (fun v H' => Q v H') := fun z =>
        ⟨_, rfl, _, rfl, _, rfl, _, rfl, _, rfl, a, b, c, d, n, rfl, fine _ (by omega) (by omega), _, _, rfl, rfl, (by have q2 := q _ sm; rw [z, Bool.true_and] at q2; exact q2)⟩
      refine ⟨_, rfl, rfl, ?_⟩
      by_cases z : n + 1 = 0
      · exact ⟨true, congrArg V.bl (decide_eq_true (congrArg V.int z)), iteT ⟨true, rfl, iteT (fin (by rw [decide_eq_true z]; rfl))⟩⟩
      · refine ⟨false, congrArg V.bl (decide_eq_false fun y => z (V.int.inj y)), iteF ?_⟩
        refine ⟨_, rfl, _, rfl, _, rfl, _, rfl, _, rfl, a, b, c, d, n + 1, rfl, fine _ (by omega) (by omega), _, _, rfl, rfl, _, rfl, ite2 (fun y => fin (by rw [show decide (wsum a b c d (n + 1) < 0) = true from y, Bool.or_true])) (fun y => ?_)⟩
        have q2 := q _ sm
        rw [decide_eq_false z, show decide (wsum a b c d (n + 1) < 0) = false from Bool.eq_false_iff.mpr y] at q2
        exact q2
/-- whether a paper of this kind with this value is right -/
def rightB (w : Bool) (k : Kd) (a b c d : Int) : Bool := match w, k with
  | true, .int n => decide (-80 ≤ n ∧ n ≤ 80) && isby a b c d n
  | false, .int n => decide (-80 ≤ n ∧ n ≤ 79) && betw a b c d n
  | _, _ => false
theorem right_inT {k : Kd} {a b c d : Int} (h : inW k (-80) 80 = false) : rightB true k a b c d = false := by
  cases k with
  | int n =>
    show (decide (-80 ≤ n ∧ n ≤ 80) && _) = false
    rw [show decide (-80 ≤ n ∧ n ≤ 80) = false from h]
    rfl
  | _ => rfl
theorem right_inF {k : Kd} {a b c d : Int} (h : inW k (-80) 79 = false) : rightB false k a b c d = false := by
  cases k with
  | int n =>
    show (decide (-80 ≤ n ∧ n ≤ 79) && _) = false
    rw [show decide (-80 ≤ n ∧ n ≤ 79) = false from h]
    rfl
  | _ => rfl
/-- what is no ByPower and no Between -/
def Odd (T : Txt K mg) (H : Hp) (v : V) : Prop := v = .non ∨ (∃ i, v = .int i) ∨ (∃ s, v = .str s) ∨ (∃ t xs, v = .ref t ∧ H t = some (.tup xs)) ∨
  ∃ x C dx fs, v = .ref x ∧ H x = some (.ins C dx fs) ∧ PySem.W.makesIn K C = true ∧ C ≠ T.k_ByPower.a ∧ C ≠ T.k_Between.a
theorem Odd.same {T : Txt K mg} {H H' : Hp} {v : V} (h : Odd T H v) (s : Same H H') : Odd T H' v := by
  rcases h with h | h | h | ⟨t, xs, e, f⟩ | ⟨x, C, dx, fs, e, f, g⟩
  · exact .inl h
  · exact .inr (.inl h)
  · exact .inr (.inr (.inl h))
  · exact .inr (.inr (.inr (.inl ⟨t, xs, e, s _ _ f⟩)))
  · exact .inr (.inr (.inr (.inr ⟨x, C, dx, fs, e, s _ _ f, g⟩)))
def spShows (T : Txt K mg) : Sp := fun vs H Q _ => ∃ (a b c d : Int) (v : V) (r : Bool), vs = [.int a, .int b, .int c, .int d, v] ∧ Gr a b c d ∧ d ≤ 99 ∧
  ((r = false ∧ Odd T H v) ∨ ∃ (x : Addr) (w : Bool) (k : Kd), v = .ref x ∧ Pap T H x w k ∧ r = rightB w k a b c d) ∧ ∀ H', Same H H' → Q (.bl r) H'
theorem ok_shows_power (T : Txt K mg) : FnOk P w K mg base CX0 5 T.f_shows_power.a T.f_shows_power.fd ["a", "b", "c", "d", "value"] (spShows T) := by
  have G_is_withinV := ok_is_withinV (P := P) (w := w) (base := base) T
  have G_need_growing := ok_need_growing (P := P) (w := w) (base := base) T
  have G_is_between := ok_is_between (P := P) (w := w) (base := base) T
  have G_is_within := ok_is_within (P := P) (w := w) (base := base) T
  have G_is_by_power := ok_is_by_power (P := P) (w := w) (base := base) T
  refine T.f_shows_power.F.ok sc_shows_power (fun vs H Q E h => ?_) (fun cdv A outer s H vs Q E hr h => ?_)
  · obtain ⟨a, b, c, d, v, r, rfl, _⟩ := h
    rfl
  · obtain ⟨a, b, c, d, v, r, rfl, g, h9, hv, q⟩ := h
    have ga := g.ga
    have gb := g.gb
    have gc := g.gc
    have gd := g.gd
    have fine : ∀ p : Int, -80 ≤ p → p ≤ 80 → Fine a b c d p := fun p h1 h2 => ⟨⟨by omega, by omega⟩, ⟨by omega, by omega⟩, ⟨by omega, by omega⟩, ⟨by omega, by omega⟩, h1, h2⟩
    have q0 := q _ (Same.refl _)
    refine ⟨_, (pss_cons (ps_expr (pe_call G_need_growing (hr.mono (by decide)) (by rfl) T.f_need_growing.g T.f_need_growing.F.kp T.f_need_growing.b .nil pass0 (pa_cons (pv 0) (pa_cons (pv 1) (pa_cons (pv 2) (pa_cons (pv 3) pa_nil)))))) (pss_cons (ps_if (pt_cmpR (Ru.OpR.or op_is_cls Ru.op_isTR) (pe_callTy (Ru.CallR.or cr_type call_type1) (by rfl) T.n_type (by decide +kernel) (pa_cons (pv 4) pa_nil)) (pe_glob (v := .ref T.k_ByPower.a) rfl T.k_ByPower.g rfl) (nomark _)) (pss_one (ps_ret (pe_and (pe_call G_is_withinV (hr.mono (by decide)) (by rfl) T.f_is_within.g T.f_is_within.F.kp T.f_is_within.b .nil pass0 (pa_cons (pe_fld (pv 4) rfl) (pa_cons (pe_glob (v := .int (-80)) rfl T.c_LEAST_POWER ⟨_, rfl⟩) (pa_cons (pe_glob (v := .int (80)) rfl T.c_MOST_POWER ⟨_, rfl⟩) pa_nil)))) (pe_one (pe_call G_is_by_power (hr.mono (by decide)) (by rfl) T.f_is_by_power.g T.f_is_by_power.F.kp T.f_is_by_power.b .nil pass0 (pa_cons (pv 0) (pa_cons (pv 1) (pa_cons (pv 2) (pa_cons (pv 3) (pa_cons (pe_fld (pv 4) rfl) pa_nil)))))))))) pss_nil) (pss_cons (ps_if (PW.pt (pw_or (pt_cmpR (Ru.OpR.or op_isnot_cls Ru.op_isnotTR) (pe_callTy (Ru.CallR.or cr_type call_type1) (by rfl) T.n_type (by decide +kernel) (pa_cons (pv 4) pa_nil)) (pe_glob (v := .ref T.k_Between.a) rfl T.k_Between.g rfl) (nomark _)) (pw_or1 (pt_not (pt_val (pe_call G_is_withinV (hr.mono (by decide)) (by rfl) T.f_is_within.g T.f_is_within.F.kp T.f_is_within.b .nil pass0 (pa_cons (pe_fld (pv 4) rfl) (pa_cons (pe_glob (v := .int (-80)) rfl T.c_LEAST_POWER ⟨_, rfl⟩) (pa_cons (pe_op op_sub (pe_glob (v := .int (80)) rfl T.c_MOST_POWER ⟨_, rfl⟩) pe_int) pa_nil))))))))) (pss_one (ps_ret pe_bl)) pss_nil) (pss_one (ps_ret (pe_call G_is_between (hr.mono (by decide)) (by rfl) T.f_is_between.g T.f_is_between.F.kp T.f_is_between.b .nil pass0 (pa_cons (pv 0) (pa_cons (pv 1) (pa_cons (pv 2) (pa_cons (pv 3) (pa_cons (pe_fld (pv 4) rfl) pa_nil))))))))))), ?_⟩
    refine ⟨_, rfl, _, rfl, _, rfl, _, rfl, a, b, c, d, rfl, g, h9, ?_⟩
    rcases hv with ⟨rfl, od⟩ | ⟨x, w, k, rfl, pp, rfl⟩
    · rcases od with rfl | ⟨i, rfl⟩ | ⟨s, rfl⟩ | ⟨t, xs, rfl, f⟩ | ⟨x, C, dx, fs, rfl, f, mk, n1, n2⟩
      · refine ⟨_, rfl, .inr ⟨_, "NoneType", rfl, .non, .inr ⟨"NoneType", _, rfl, rfl, false, rfl, iteF ?_⟩⟩⟩
        exact ⟨_, rfl, .inr ⟨_, "NoneType", rfl, .non, .inr ⟨"NoneType", _, rfl, rfl, true, rfl, iteT (iteT q0)⟩⟩⟩
      · refine ⟨_, rfl, .inr ⟨_, "int", rfl, .int _, .inr ⟨"int", _, rfl, rfl, false, rfl, iteF ?_⟩⟩⟩
        exact ⟨_, rfl, .inr ⟨_, "int", rfl, .int _, .inr ⟨"int", _, rfl, rfl, true, rfl, iteT (iteT q0)⟩⟩⟩
      · refine ⟨_, rfl, .inr ⟨_, "str", rfl, .str _, .inr ⟨"str", _, rfl, rfl, false, rfl, iteF ?_⟩⟩⟩
        exact ⟨_, rfl, .inr ⟨_, "str", rfl, .str _, .inr ⟨"str", _, rfl, rfl, true, rfl, iteT (iteT q0)⟩⟩⟩
      · refine ⟨_, rfl, .inr ⟨_, "tuple", rfl, .tup (.of f), .inr ⟨"tuple", _, rfl, rfl, false, rfl, iteF ?_⟩⟩⟩
        exact ⟨_, rfl, .inr ⟨_, "tuple", rfl, .tup (.of f), .inr ⟨"tuple", _, rfl, rfl, true, rfl, iteT (iteT q0)⟩⟩⟩
      · refine ⟨_, rfl, .inl ⟨x, C, dx, fs, rfl, f, .inl ⟨_, _, rfl, rfl, .inr ⟨mk, T.mk_ByPower.makes⟩, false, congrArg V.bl (decide_eq_false n1), iteF ?_⟩⟩⟩
        exact ⟨_, rfl, .inl ⟨x, C, dx, fs, rfl, f, .inl ⟨_, _, rfl, rfl, .inr ⟨mk, T.mk_Between.makes⟩, true, congrArg V.bl (by rw [decide_eq_false n2]; rfl), iteT (iteT q0)⟩⟩⟩
    · rcases pp with ⟨rfl, ⟨dx, pq, v, hx, hpq, hv⟩⟩ | ⟨rfl, ⟨dx, pq, v, hx, hpq, hv⟩⟩
      · refine ⟨_, rfl, .inl ⟨x, _, dx, _, rfl, hx, .inl ⟨_, _, rfl, rfl, .inl rfl, true, congrArg V.bl (decide_eq_true rfl), iteT ?_⟩⟩⟩
        refine ⟨_, rfl, x, _, dx, _, _, rfl, hx, T.k_ByPower.cl, T.na_ByPower_power, bp_at, v, k, -80, 80, rfl, hv, inW k (-80) 80, rfl, ?_⟩
        cases e : inW k (-80) 80 with
        | false => exact iteF (right_inT e ▸ q0)
        | true =>
          refine iteT ?_
          cases k with
          | int n =>
            obtain rfl : v = .int n := hv
            have e1 : -80 ≤ n ∧ n ≤ 80 := of_decide_eq_true e
            have z : rightB true (.int n) a b c d = isby a b c d n := by
              show (decide _ && _) = _
              rw [decide_eq_true e1]
              rfl
            exact ⟨_, rfl, _, rfl, _, rfl, _, rfl, _, rfl, x, _, dx, _, _, rfl, hx, T.k_ByPower.cl, T.na_ByPower_power, bp_at, a, b, c, d, n, rfl, fine n e1.1 e1.2, z ▸ q0⟩
          | _ => cases e
      · refine ⟨_, rfl, .inl ⟨x, _, dx, _, rfl, hx, .inl ⟨_, _, rfl, rfl, .inr ⟨T.mk_Between.makes, T.mk_ByPower.makes⟩, false, congrArg V.bl (decide_eq_false (ne_cls T)), iteF ?_⟩⟩⟩
        refine ⟨_, rfl, .inl ⟨x, _, dx, _, rfl, hx, .inl ⟨_, _, rfl, rfl, .inl rfl, false, congrArg V.bl (by rw [decide_eq_true rfl]; rfl), iteF ?_⟩⟩⟩
        refine ⟨_, rfl, x, _, dx, _, _, rfl, hx, T.k_Between.cl, T.na_Between_low, bp_at, _, _, rfl, rfl, v, k, -80, 79, rfl, hv, inW k (-80) 79, rfl, ?_⟩
        cases e : inW k (-80) 79 with
        | false => exact iteT (right_inF e ▸ q0)
        | true =>
          refine iteF ?_
          cases k with
          | int n =>
            obtain rfl : v = .int n := hv
            have e1 : -80 ≤ n ∧ n ≤ 79 := of_decide_eq_true e
            have z : rightB false (.int n) a b c d = betw a b c d n := by
              show (decide _ && _) = _
              rw [decide_eq_true e1]
              rfl
            exact ⟨_, rfl, _, rfl, _, rfl, _, rfl, _, rfl, x, _, dx, _, _, rfl, hx, T.k_Between.cl, T.na_Between_low, bp_at, a, b, c, d, n, rfl, g, h9, e1.1, e1.2, fun H' s => z ▸ q H' s⟩
          | _ => cases e
end
end Q

namespace Q
open PySem PySem.Spec PyProof.Rows L2
/-! ### a paper is right just if it is the one -/
theorem First.at_zero {F : Nat → Int} {m j : Nat} (x : First F m) (aft : ∀ i, m < i → 0 < F i) (h1 : 1 ≤ j) (h : F j = 0) : j = m := by
  rcases Nat.lt_trichotomy j m with z | z | z
  · have := x.low j h1 z; omega
  · exact z
  · have := aft j z; omega
theorem First.at_up {F : Nat → Int} {m j : Nat} (x : First F m) (aft : ∀ i, m < i → 0 < F i) (h1 : 1 ≤ j) (h : 0 < F j) (h2 : j = 1 ∨ F (j - 1) < 0) : j = m := by
  rcases Nat.lt_trichotomy j m with z | z | z
  · have := x.low j h1 z; omega
  · exact z
  · exfalso
    have := x.one
    rcases h2 with h2 | h2
    · omega
    · by_cases e : j - 1 = m
      · have := x.hi; rw [e] at h2; omega
      · have := aft (j - 1) (by omega); omega
theorem First.swap {F G : Nat → Int} {m : Nat} (h : ∀ j, 1 ≤ j → G j = F j) (x : First F m) : First G m :=
  ⟨x.one, x.le, fun j h1 h2 => by rw [h j h1]; exact x.low j h1 h2, by rw [h m x.one]; exact x.hi⟩
theorem up_first {a b c d : Int} (g : Gr a b c d) (h9 : d ≤ 99) : ∃ m, First (fun j => wsum a b c d (j : Int)) m ∧ ∀ i, m < i → 0 < wsum a b c d (i : Int) := by
  obtain ⟨m, f⟩ := g.up1 h9
  refine ⟨m, f.swap fun j _ => wsum_up _ _ _ _ _, fun i hi => ?_⟩
  rw [wsum_up]
  exact f.after (sum_step g) i hi
theorem dn_first {a b c d : Int} (g : Gr a b c d) (h9 : d ≤ 99) : ∃ m, First (fun j => wsum a b c d (-(j : Int))) m ∧ ∀ i, m < i → 0 < wsum a b c d (-(i : Int)) := by
  obtain ⟨m, f⟩ := g.dn1 h9
  have f' : First (fun j => wsum a b c d (-(j : Int))) m := f.swap fun j h => wsum_down _ _ _ _ _ h
  refine ⟨m, f', fun i hi => ?_⟩
  have := f.one
  rw [wsum_down _ _ _ _ _ (by omega)]
  exact f.after (sum_step g.low) i hi
theorem right_res {a b c d : Int} (g : Gr a b c d) (h9 : d ≤ 99) {w : Bool} {k : Kd} (h : rightB w k a b c d = true) : ∃ n, k = .int n ∧ Res a b c d w n := by
  obtain ⟨m, f, aft⟩ := up_first g h9
  obtain ⟨m2, f2, aft2⟩ := dn_first g h9
  have u1 : b * c ≤ a * d → 0 < wsum a b c d ((1 : Nat) : Int) := fun h => by rw [wsum_up]; exact one_up g h
  have d1 : a * d ≤ b * c → 0 < wsum a b c d (-((1 : Nat) : Int)) := fun h => by rw [wsum_down _ _ _ _ _ (by decide)]; exact one_down g h
  cases w with
  | true =>
    cases k with
    | int n =>
      have h' : (decide (-80 ≤ n ∧ n ≤ 80) && isby a b c d n) = true := h
      rw [Bool.and_eq_true, decide_eq_true_eq] at h'
      obtain ⟨⟨n0, n1⟩, h2⟩ := h'
      refine ⟨n, rfl, ?_⟩
      unfold isby at h2
      by_cases e : n = 0
      · rw [if_pos e, decide_eq_true_eq] at h2
        exact .inl ⟨h2, rfl, e⟩
      · rw [if_neg e, decide_eq_true_eq] at h2
        by_cases p : 0 < n
        · have en : n = ((n.toNat : Nat) : Int) := by omega
          rw [en] at h2
          have em := f.at_zero aft (by omega) h2
          refine .inr (.inl ⟨?_, m, f, .inl ⟨by show wsum a b c d (m : Int) = 0; rw [← em]; exact h2, rfl, by show n = (m : Int); omega⟩⟩)
          rcases (show a * d < b * c ∨ b * c ≤ a * d by omega) with z | z
          · exact z
          · have y := first_one f (u1 z)
            have := u1 z
            rw [em, y] at h2
            omega
        · have en : n = -(((-n).toNat : Nat) : Int) := by omega
          rw [en] at h2
          have em := f2.at_zero aft2 (by omega) h2
          refine .inr (.inr ⟨?_, m2, f2, .inl ⟨by show wsum a b c d (-(m2 : Int)) = 0; rw [← em]; exact h2, rfl, by show n = -(m2 : Int); omega⟩⟩)
          rcases (show b * c < a * d ∨ a * d ≤ b * c by omega) with z | z
          · exact z
          · have y := first_one f2 (d1 z)
            have := d1 z
            rw [em, y] at h2
            omega
    | _ => cases h
  | false =>
    cases k with
    | int n =>
      have h' : (decide (-80 ≤ n ∧ n ≤ 79) && betw a b c d n) = true := h
      rw [Bool.and_eq_true, decide_eq_true_eq] at h'
      obtain ⟨⟨n0, n1⟩, h2⟩ := h'
      refine ⟨n, rfl, ?_⟩
      have e0 : ¬ a * d = b * c := fun z => by rw [betw_even z] at h2; cases h2
      have e1 : decide (a * d < b * c) = decide (0 ≤ n) := Classical.byContradiction fun z => by rw [betw_side z] at h2; cases h2
      rw [betw_rest e0 e1, Bool.and_eq_true, Bool.or_eq_true, decide_eq_true_eq, decide_eq_true_eq, decide_eq_true_eq] at h2
      obtain ⟨h3, h4⟩ := h2
      by_cases p : 0 ≤ n
      · have lt : a * d < b * c := of_decide_eq_true (by rw [e1]; exact decide_eq_true p)
        have en : nearP n = n := if_pos p
        have ef : farP n = n + 1 := if_pos p
        rw [en] at h3
        rw [ef, show n + 1 = (((n + 1).toNat : Nat) : Int) by omega] at h4
        have em := f.at_up aft (j := (n + 1).toNat) (by omega) h4 (by
          rcases h3 with h3 | h3
          · exact .inl (by omega)
          · refine .inr ?_
            show wsum a b c d (((n + 1).toNat - 1 : Nat) : Int) < 0
            rw [show (((n + 1).toNat - 1 : Nat) : Int) = n by omega]
            exact h3)
        refine .inr (.inl ⟨lt, m, f, .inr ⟨by show 0 < wsum a b c d (m : Int); rw [← em]; exact h4, rfl, by show n = (m : Int) - 1; omega⟩⟩)
      · have lt : b * c < a * d := by
          have : ¬ a * d < b * c := fun z => p (of_decide_eq_true (by rw [← e1]; exact decide_eq_true z))
          omega
        have en : nearP n = n + 1 := if_neg p
        have ef : farP n = n := if_neg p
        rw [en] at h3
        rw [ef, show n = -(((-n).toNat : Nat) : Int) by omega] at h4
        have em := f2.at_up aft2 (j := (-n).toNat) (by omega) h4 (by
          rcases h3 with h3 | h3
          · exact .inl (by omega)
          · refine .inr ?_
            show wsum a b c d (-(((-n).toNat - 1 : Nat) : Int)) < 0
            rw [show -(((-n).toNat - 1 : Nat) : Int) = n + 1 by omega]
            exact h3)
        refine .inr (.inr ⟨lt, m2, f2, .inr ⟨by show 0 < wsum a b c d (-(m2 : Int)); rw [← em]; exact h4, rfl, by show n = -(m2 : Int); omega⟩⟩)
    | _ => cases h
theorem res_near {a b c d n : Int} (R : Res a b c d false n) : (a * d < b * c ∧ 0 ≤ n ∧ n ≤ 68 ∧ (n = 0 ∨ wsum a b c d n < 0) ∧ 0 < wsum a b c d (n + 1)) ∨
    (b * c < a * d ∧ n < 0 ∧ -69 ≤ n ∧ (n + 1 = 0 ∨ wsum a b c d (n + 1) < 0) ∧ 0 < wsum a b c d n) := by
  rcases R with ⟨_, h, _⟩ | ⟨h, m, f, R⟩ | ⟨h, m, f, R⟩
  · cases h
  · rcases R with ⟨_, h2, _⟩ | ⟨h1, _, h3⟩
    · cases h2
    · have e : n = (m : Int) - 1 := h3
      have f1 := f.one
      have f2 := f.le
      refine .inl ⟨h, by omega, by omega, ?_, ?_⟩
      · by_cases z : m = 1
        · exact .inl (by omega)
        · have := f.low (m - 1) (by omega) (by omega)
          rw [show (((m - 1 : Nat) : Int)) = n by omega] at this
          exact .inr this
      · rw [show n + 1 = (m : Int) by omega]
        exact h1
  · rcases R with ⟨_, h2, _⟩ | ⟨h1, _, h3⟩
    · cases h2
    · have e : n = -(m : Int) := h3
      have f1 := f.one
      have f2 := f.le
      refine .inr ⟨h, by omega, by omega, ?_, ?_⟩
      · by_cases z : m = 1
        · exact .inl (by omega)
        · have := f.low (m - 1) (by omega) (by omega)
          rw [show -(((m - 1 : Nat) : Int)) = n + 1 by omega] at this
          exact .inr this
      · rw [e]
        exact h1
theorem res_bd {a b c d n : Int} {w : Bool} (R : Res a b c d w n) : -69 ≤ n ∧ n ≤ 69 := by
  rcases R with ⟨_, _, h⟩ | ⟨_, m, f, R⟩ | ⟨_, m, f, R⟩
  · omega
  · have f1 := f.one
    have f2 := f.le
    rcases R with ⟨_, _, h3⟩ | ⟨_, _, h3⟩
    · have e : n = (m : Int) := h3; omega
    · have e : n = (m : Int) - 1 := h3; omega
  · have f1 := f.one
    have f2 := f.le
    rcases R with ⟨_, _, h3⟩ | ⟨_, _, h3⟩
    · have e : n = -(m : Int) := h3; omega
    · have e : n = -(m : Int) := h3; omega
theorem res_right {a b c d n : Int} {w : Bool} (R : Res a b c d w n) : rightB w (.int n) a b c d = true := by
  have bd := res_bd R
  cases w with
  | true =>
    show (decide (-80 ≤ n ∧ n ≤ 80) && isby a b c d n) = true
    rw [decide_eq_true (show -80 ≤ n ∧ n ≤ 80 by omega), Bool.true_and]
    unfold isby
    rcases R with ⟨h, _, h2⟩ | ⟨h, m, f, R⟩ | ⟨h, m, f, R⟩
    · rw [if_pos h2, decide_eq_true h]
    · have f1 := f.one
      rcases R with ⟨h1, _, h3⟩ | ⟨_, h2, _⟩
      · have e : n = (m : Int) := h3
        rw [if_neg (by omega), e]
        exact decide_eq_true h1
      · cases h2
    · have f1 := f.one
      rcases R with ⟨h1, _, h3⟩ | ⟨_, h2, _⟩
      · have e : n = -(m : Int) := h3
        rw [if_neg (by omega), e]
        exact decide_eq_true h1
      · cases h2
  | false =>
    rcases res_near R with ⟨h, n0, n1, h1, h2⟩ | ⟨h, n0, n1, h1, h2⟩
    · show (decide (-80 ≤ n ∧ n ≤ 79) && betw a b c d n) = true
      rw [decide_eq_true (show -80 ≤ n ∧ n ≤ 79 by omega), Bool.true_and, betw_rest (by omega) (by rw [decide_eq_true h, decide_eq_true n0]), show nearP n = n from if_pos n0, show farP n = n + 1 from if_pos n0, decide_eq_true h2, Bool.and_true, Bool.or_eq_true, decide_eq_true_eq, decide_eq_true_eq]
      exact h1
    · have nn : ¬ 0 ≤ n := by omega
      show (decide (-80 ≤ n ∧ n ≤ 79) && betw a b c d n) = true
      rw [decide_eq_true (show -80 ≤ n ∧ n ≤ 79 by omega), Bool.true_and, betw_rest (by omega) (by rw [decide_eq_false (show ¬ a * d < b * c by omega), decide_eq_false nn]), show nearP n = n + 1 from if_neg nn, show farP n = n from if_neg nn, decide_eq_true h2, Bool.and_true, Bool.or_eq_true, decide_eq_true_eq, decide_eq_true_eq]
      exact h1
end Q

namespace Q
open PySem PySem.Spec PyProof.Rows L2
section
variable {P : Program} {w : World} {K : PySem.W.Frag} {mg : Str → Option Value} {base : Heap}
theorem ok__law_raised (T : Txt K mg) : FnOk P w K mg base CX0 1 T.f__law_raised.a T.f__law_raised.fd ["_law_number", "_law_many"] spRaised := by
  refine T.f__law_raised.F.ok sc__law_raised (fun vs H Q E h => ?_) (fun cdv A outer s H vs Q E hr h => ?_)
  · obtain ⟨x, n, rfl, _⟩ := h
    rfl
  · obtain ⟨x, n, rfl, hx, hn, q⟩ := h
    refine ⟨_, (pss_cons (ps_set (i := 2) sc__law_raised.nd rfl (Or.inl rfl) pe_int) (pss_cons (ps_for PassesOwn.never rfl (pi_range1 rfl T.n_range (pa_cons (pv 1) pa_nil)) (pg_name (i := 3) sc__law_raised.nd rfl (Or.inl rfl)) (pss_one (ps_set (i := 2) sc__law_raised.nd rfl (Or.inl rfl) (pe_op op_mulW (pv 2) (pv 0))))) (pss_one (ps_ret (pv 2))))), ?_⟩
    refine ⟨_, rfl, (n : Int), rfl, by omega, by omega, for_range (lo := 0) (n := n) (fun i σ H' => H' = H ∧ ∃ y, σ = [some (.int x), some (.int (n : Int)), some (.int (x ^ i)), y]) ⟨rfl, none, by rw [Int.pow_zero]; rfl⟩ ?_ ?_⟩
    · rintro i σ H' hi ⟨rfl, y, rfl⟩
      have b1 : (x ^ i).natAbs < 2 ^ (64 * 100 + 1) := Nat.lt_of_lt_of_le (pow_lt (e := i) hx) (Nat.pow_le_pow_right (by decide) (by omega))
      refine ⟨_, rfl, _, rfl, _, _, rfl, rfl, wide_mul b1 hx (by decide) (by decide) (by decide), rfl, some (.int (0 + (i : Int))), ?_⟩
      show [some (V.int x), some (V.int (n : Int)), some (V.int (x ^ i * x)), some (V.int (0 + (i : Int)))] = [some (V.int x), some (V.int (n : Int)), some (V.int (x ^ (i + 1))), some (.int (0 + (i : Int)))]
      rw [Int.pow_succ]
    · rintro σ H' ⟨rfl, y, rfl⟩
      exact ⟨_, rfl, q⟩
def spSumL : Sp := fun vs H Q _ => ∃ a b c d p : Int, vs = [.int a, .int b, .int c, .int d, .int p] ∧ Fine a b c d p ∧ ∀ H', Same H H' → Q (.int (wsum a b c d p)) H'
theorem ok__law_sum (T : Txt K mg) : FnOk P w K mg base CX0 2 T.f__law_sum.a T.f__law_sum.fd ["_law_a", "_law_b", "_law_c", "_law_d", "_law_power"] spSumL := by
  have G__law_raised := ok__law_raised (P := P) (w := w) (base := base) T
  refine T.f__law_sum.F.ok sc__law_sum (fun vs H Q E h => ?_) (fun cdv A outer s H vs Q E hr h => ?_)
  · obtain ⟨a, b, c, d, p, rfl, _⟩ := h
    rfl
  · obtain ⟨a, b, c, d, p, rfl, F, q⟩ := h
    have hq := F.p
    refine ⟨_, (pss_cons (ps_if (pt_cmpR op_lt (pv 4) pe_int (nomark _)) (pss_one (ps_asg (pe_tup (pa_cons (pe_op op_mul (pe_op op_mul (pv 1) (pv 2)) (pv 3)) (pa_cons (pe_op op_mul (pe_op op_mul (pv 0) (pv 2)) (pv 3)) (pa_cons (pe_op op_mul (pe_op op_mul (pv 0) (pv 1)) (pv 3)) (pa_cons (pe_op op_mul (pe_op op_mul (pv 0) (pv 1)) (pv 2)) pa_nil))))) (pg_tup rfl (pgs_cons (pg_name (i := 0) sc__law_sum.nd rfl (Or.inl rfl)) (pgs_cons (pg_name (i := 1) sc__law_sum.nd rfl (Or.inl rfl)) (pgs_cons (pg_name (i := 2) sc__law_sum.nd rfl (Or.inl rfl)) (pgs_cons (pg_name (i := 3) sc__law_sum.nd rfl (Or.inl rfl)) pgs_nil))))))) pss_nil) (pss_cons (ps_set (i := 5) sc__law_sum.nd rfl (Or.inl rfl) (pe_callB call_abs (by rfl) T.n_abs (by decide +kernel) (pa_cons (pv 4) pa_nil))) (pss_one (ps_ret (pe_op op_sub (pe_op op_sub (pe_op op_add (pe_call G__law_raised (hr.mono (by decide)) (by rfl) T.f__law_raised.g T.f__law_raised.F.kp T.f__law_raised.b .nil pass0 (pa_cons (pv 0) (pa_cons (pv 5) pa_nil))) (pe_call G__law_raised (hr.mono (by decide)) (by rfl) T.f__law_raised.g T.f__law_raised.F.kp T.f__law_raised.b .nil pass0 (pa_cons (pv 3) (pa_cons (pv 5) pa_nil)))) (pe_call G__law_raised (hr.mono (by decide)) (by rfl) T.f__law_raised.g T.f__law_raised.F.kp T.f__law_raised.b .nil pass0 (pa_cons (pv 1) (pa_cons (pv 5) pa_nil)))) (pe_call G__law_raised (hr.mono (by decide)) (by rfl) T.f__law_raised.g T.f__law_raised.F.kp T.f__law_raised.b .nil pass0 (pa_cons (pv 2) (pa_cons (pv 5) pa_nil)))))))), ?_⟩
    refine ⟨_, rfl, _, _, rfl, rfl, _, rfl, ite2 (fun e => ?_) (fun e => ?_)⟩
    · have hp : p < 0 := of_decide_eq_true e
      have m1 := fun {x y : Int} (hx : 1 ≤ x ∧ x ≤ 1000000) => (.inl (lim ⟨hx.1, by omega⟩) : CMul x y)
      have m2 := fun {x y z : Int} (hx : 1 ≤ x ∧ x ≤ 1000000) (hy : 1 ≤ y ∧ y ≤ 1000000) => (.inl (lim (two_fine hx hy)) : CMul (x * y) z)
      refine ⟨_, rfl, _, rfl, _, _, rfl, rfl, m1 F.b, _, rfl, _, _, rfl, rfl, m2 F.b F.c, ?_⟩
      refine ⟨_, rfl, _, rfl, _, _, rfl, rfl, m1 F.a, _, rfl, _, _, rfl, rfl, m2 F.a F.c, ?_⟩
      refine ⟨_, rfl, _, rfl, _, _, rfl, rfl, m1 F.a, _, rfl, _, _, rfl, rfl, m2 F.a F.b, ?_⟩
      refine ⟨_, rfl, _, rfl, _, _, rfl, rfl, m1 F.a, _, rfl, _, _, rfl, rfl, m2 F.a F.b, sz4, fun t ht => ⟨t, _, rfl, .of upd_same, rfl, _, _, rfl, _, _, rfl, _, _, rfl, _, _, rfl, rfl, ?_⟩⟩
      have sm := same_upd (o := .tup [.int (b * c * d), .int (a * c * d), .int (a * b * d), .int (a * b * c)]) ht
      refine ⟨_, rfl, _, rfl, ?_⟩
      have ar : ∀ x : Int, [V.int x, .int (if p < 0 then -p else p)] = [V.int x, .int (((-p).toNat : Nat) : Int)] := fun x => by rw [if_pos hp, show (((-p).toNat : Nat) : Int) = -p by omega]
      have k1 := sm_of (three_fine F.b F.c F.d)
      have k2 := sm_of (three_fine F.a F.c F.d)
      have k3 := sm_of (three_fine F.a F.b F.d)
      have k4 := sm_of (three_fine F.a F.b F.c)
      have hn : (-p).toNat ≤ 100 := by omega
      have q2 := q _ sm
      unfold wsum at q2
      rw [if_pos hp] at q2
      exact ⟨_, rfl, _, rfl, b * c * d, (-p).toNat, ar _, k1, hn, _, rfl, _, rfl, a * b * c, (-p).toNat, ar _, k4, hn, _, _, rfl, rfl, _, rfl, _, rfl, a * c * d, (-p).toNat, ar _, k2, hn, _, _, rfl, rfl, _, rfl, _, rfl, a * b * d, (-p).toNat, ar _, k3, hn, _, _, rfl, rfl, q2⟩
    · have hp : ¬ p < 0 := fun h => e (decide_eq_true h)
      have ar : ∀ x : Int, [V.int x, .int (if p < 0 then -p else p)] = [V.int x, .int ((p.toNat : Nat) : Int)] := fun x => by rw [if_neg hp, show ((p.toNat : Nat) : Int) = p by omega]
      have sm := fun {x : Int} (hx : 1 ≤ x ∧ x ≤ 1000000) => (sm_of ⟨hx.1, by omega⟩ : Sm x)
      have q2 := q _ (Same.refl _)
      unfold wsum at q2
      rw [if_neg hp] at q2
      have hn : p.toNat ≤ 100 := by omega
      refine ⟨_, rfl, _, rfl, ?_⟩
      exact ⟨_, rfl, _, rfl, a, p.toNat, ar _, sm F.a, hn, _, rfl, _, rfl, d, p.toNat, ar _, sm F.d, hn, _, _, rfl, rfl, _, rfl, _, rfl, b, p.toNat, ar _, sm F.b, hn, _, _, rfl, rfl, _, rfl, _, rfl, c, p.toNat, ar _, sm F.c, hn, _, _, rfl, rfl, q2⟩
def spIsByL : Sp := fun vs H Q _ => ∃ a b c d p : Int, vs = [.int a, .int b, .int c, .int d, .int p] ∧ Fine a b c d p ∧ ∀ H', Same H H' → Q (.bl (isby a b c d p)) H'
theorem ok__law_is_by (T : Txt K mg) : FnOk P w K mg base CX0 3 T.f__law_is_by.a T.f__law_is_by.fd ["_law_a", "_law_b", "_law_c", "_law_d", "_law_power"] spIsByL := by
  have G__law_sum := ok__law_sum (P := P) (w := w) (base := base) T
  refine T.f__law_is_by.F.ok sc__law_is_by (fun vs H Q E h => ?_) (fun cdv A outer s H vs Q E hr h => ?_)
  · obtain ⟨a, b, c, d, p, rfl, _⟩ := h
    rfl
  · obtain ⟨a, b, c, d, p, rfl, F, q⟩ := h
    refine ⟨_, (pss_one (ps_ret (pe_ifExp (pt_cmpR op_eq (pv 4) pe_int (nomark _)) (pe_cmpR op_eq (pe_op op_mul (pv 0) (pv 3)) (pe_op op_mul (pv 1) (pv 2)) (nomark _)) (pe_cmpR op_eq (pe_call G__law_sum (hr.mono (by decide)) (by rfl) T.f__law_sum.g T.f__law_sum.F.kp T.f__law_sum.b .nil pass0 (pa_cons (pv 0) (pa_cons (pv 1) (pa_cons (pv 2) (pa_cons (pv 3) (pa_cons (pv 4) pa_nil)))))) pe_int (nomark _))))), ?_⟩
    refine ⟨_, rfl, rfl, _, rfl, ite2 (fun e => ?_) (fun e => ?_)⟩
    · have hp : p = 0 := V.int.inj (of_decide_eq_true e)
      have q2 := q _ (Same.refl _)
      unfold isby at q2
      rw [if_pos hp, ← dec_int] at q2
      have l1 := fun {x y : Int} (hx : 1 ≤ x ∧ x ≤ 1000000) => (.inl (lim ⟨hx.1, by omega⟩) : CMul x y)
      exact ⟨_, rfl, _, rfl, _, _, rfl, rfl, l1 F.a, _, rfl, _, rfl, _, _, rfl, rfl, l1 F.b, rfl, q2⟩
    · have hp : ¬ p = 0 := fun h => e (decide_eq_true (congrArg V.int h))
      unfold isby at q
      rw [if_neg hp, ← dec_int] at q
      exact ⟨_, rfl, _, rfl, _, rfl, _, rfl, _, rfl, a, b, c, d, p, rfl, F, fun H' s => ⟨rfl, q H' s⟩⟩
def spIsWhole : Sp := fun vs H Q _ => ∃ (v : V) (k : Kd) (l m : Int), vs = [v, .int l, .int m] ∧ Inp H v k ∧ Q (.bl (inW k l m)) H
theorem ok__law_is_whole (T : Txt K mg) : FnOk P w K mg base CX0 1 T.f__law_is_whole.a T.f__law_is_whole.fd ["_law_value", "_law_least", "_law_most"] spIsWhole := by
  refine T.f__law_is_whole.F.ok sc__law_is_whole (fun vs H Q E h => ?_) (fun cdv A outer s H vs Q E hr h => ?_)
  · obtain ⟨v, k, l, m, rfl, _⟩ := h
    rfl
  · obtain ⟨v, k, l, m, rfl, hv, q⟩ := h
    refine ⟨_, (pss_one (ps_ret (pe_and (pe_callB call_isi (by rfl) T.n_isinstance (by decide +kernel) (pa_cons (pv 0) (pa_cons (pe_bltn (v := .ty "int") (by rfl) T.n_int (by decide +kernel) rfl) pa_nil))) (pe_and (pe_not (pe_callB call_isi (by rfl) T.n_isinstance (by decide +kernel) (pa_cons (pv 0) (pa_cons (pe_bltn (v := .ty "bool") (by rfl) T.n_bool (by decide +kernel) rfl) pa_nil)))) (pe_one (Ru.pe_chainN (pv 1) (Ru.pec_link op_le (pv 0) (Ru.pec_last op_le (pv 2))))))))), ?_⟩
    cases k with
    | int i =>
      obtain rfl : v = .int i := hv
      refine ⟨_, rfl, _, _, _, _, true, rfl, .ty _, .base (.int _), kit_ty (by decide +kernel), true, rfl, iteT ?_⟩
      refine ⟨_, rfl, _, _, _, _, false, rfl, .ty _, .base (.int _), kit_ty (by decide +kernel), false, rfl, true, rfl, iteT ?_⟩
      refine ⟨_, rfl, _, rfl, _, _, rfl, rfl, _, rfl, ite2 (fun e => ?_) (fun e => ?_)⟩
      · refine ⟨_, rfl, _, _, rfl, rfl, ?_⟩
        have e1 : l ≤ i := of_decide_eq_true e
        have e2 : inW (.int i) l m = decide (i ≤ m) := by
          show decide (l ≤ i ∧ i ≤ m) = decide (i ≤ m)
          by_cases h : i ≤ m
          · rw [decide_eq_true h, decide_eq_true ⟨e1, h⟩]
          · rw [decide_eq_false h, decide_eq_false (fun z => h z.2)]
        rw [e2] at q
        exact q
      · have e2 : inW (.int i) l m = false := decide_eq_false (fun z => e (decide_eq_true z.1))
        rw [e2] at q
        exact q
    | non =>
      obtain rfl : v = .non := hv
      exact ⟨_, rfl, _, _, _, _, false, rfl, .ty _, .base .non, kit_ty (by decide +kernel), false, rfl, iteF q⟩
    | bl x =>
      obtain rfl : v = .bl x := hv
      refine ⟨_, rfl, _, _, _, _, true, rfl, .ty _, .base (.bl _), kit_ty (by decide +kernel), true, rfl, iteT ?_⟩
      exact ⟨_, rfl, _, _, _, _, true, rfl, .ty _, .base (.bl _), kit_ty (by decide +kernel), true, rfl, false, rfl, iteF q⟩
    | str x =>
      obtain rfl : v = .str x := hv
      exact ⟨_, rfl, _, _, _, _, false, rfl, .ty _, .base (.str _), kit_ty (by decide +kernel), false, rfl, iteF q⟩
    | tup i =>
      obtain ⟨t, rfl, ht⟩ := hv
      exact ⟨_, rfl, _, _, _, _, false, rfl, .ty _, .base (.lst ht), kit_ty (by decide +kernel), false, rfl, iteF q⟩
    | tp i j =>
      obtain ⟨t, rfl, ht⟩ := hv
      exact ⟨_, rfl, _, _, _, _, false, rfl, .ty _, .base (.tup ht), kit_ty (by decide +kernel), false, rfl, iteF q⟩
def spLies (w : Bool) : Sp := fun vs H Q _ => ∃ (a b c d : Int) (v : V) (k : Kd), vs = [.int a, .int b, .int c, .int d, v] ∧ Gr a b c d ∧ d ≤ 99 ∧ Inp H v k ∧ ∀ H', Same H H' → Q (.bl (rightB w k a b c d)) H'
theorem ok__law_is_power (T : Txt K mg) : FnOk P w K mg base CX0 4 T.f__law_is_power.a T.f__law_is_power.fd ["_law_a", "_law_b", "_law_c", "_law_d", "_law_power"] (spLies true) := by
  have G__law_is_whole := ok__law_is_whole (P := P) (w := w) (base := base) T
  have G__law_is_by := ok__law_is_by (P := P) (w := w) (base := base) T
  refine T.f__law_is_power.F.ok sc__law_is_power (fun vs H Q E h => ?_) (fun cdv A outer s H vs Q E hr h => ?_)
  · obtain ⟨a, b, c, d, v, k, rfl, _⟩ := h
    rfl
  · obtain ⟨a, b, c, d, v, k, rfl, g, h9, hv, q⟩ := h
    have ga := g.ga
    have gb := g.gb
    have gc := g.gc
    have gd := g.gd
    refine ⟨_, (pss_one (ps_ret (pe_and (pe_call G__law_is_whole (hr.mono (by decide)) (by rfl) T.f__law_is_whole.g T.f__law_is_whole.F.kp T.f__law_is_whole.b .nil pass0 (pa_cons (pv 4) (pa_cons (pe_un un_neg pe_int) (pa_cons pe_int pa_nil)))) (pe_one (pe_call G__law_is_by (hr.mono (by decide)) (by rfl) T.f__law_is_by.g T.f__law_is_by.F.kp T.f__law_is_by.b .nil pass0 (pa_cons (pv 0) (pa_cons (pv 1) (pa_cons (pv 2) (pa_cons (pv 3) (pa_cons (pv 4) pa_nil)))))))))), ?_⟩
    refine ⟨_, rfl, _, rfl, v, k, -80, 80, rfl, hv, inW k (-80) 80, rfl, ?_⟩
    cases e : inW k (-80) 80 with
    | false => exact iteF (right_inT e ▸ q _ (Same.refl _))
    | true =>
      refine iteT ?_
      cases k with
      | int n =>
        obtain rfl : v = .int n := hv
        have e1 : -80 ≤ n ∧ n ≤ 80 := of_decide_eq_true e
        have z : rightB true (.int n) a b c d = isby a b c d n := by
          show (decide _ && _) = _
          rw [decide_eq_true e1]
          rfl
        exact ⟨_, rfl, _, rfl, _, rfl, _, rfl, _, rfl, a, b, c, d, n, rfl, ⟨⟨by omega, by omega⟩, ⟨by omega, by omega⟩, ⟨by omega, by omega⟩, ⟨by omega, by omega⟩, e1.1, e1.2⟩, fun H' s => z ▸ q H' s⟩
      | _ => cases e
theorem ok__law_lies_between (T : Txt K mg) : FnOk P w K mg base CX0 3 T.f__law_lies_between.a T.f__law_lies_between.fd ["_law_a", "_law_b", "_law_c", "_law_d", "_law_low"] (spLies false) := by
  have G__law_is_whole := ok__law_is_whole (P := P) (w := w) (base := base) T
  have G__law_sum := ok__law_sum (P := P) (w := w) (base := base) T
  refine T.f__law_lies_between.F.ok sc__law_lies_between (fun vs H Q E h => ?_) (fun cdv A outer s H vs Q E hr h => ?_)
  · obtain ⟨a, b, c, d, v, k, rfl, _⟩ := h
    rfl
  · obtain ⟨a, b, c, d, v, k, rfl, g, h9, hv, q⟩ := h
    have ga := g.ga
    have gb := g.gb
    have gc := g.gc
    have gd := g.gd
    have l1 := fun {x y : Int} (hx : 1 ≤ x ∧ x ≤ 99) => (.inl ⟨by omega, by omega⟩ : CMul x y)
    have fine : ∀ p : Int, -80 ≤ p → p ≤ 80 → Fine a b c d p := fun p h1 h2 => ⟨⟨by omega, by omega⟩, ⟨by omega, by omega⟩, ⟨by omega, by omega⟩, ⟨by omega, by omega⟩, h1, h2⟩
    refine ⟨_, (pss_cons (ps_if (PW.pt (pw_or (pt_not (pt_val (pe_call G__law_is_whole (hr.mono (by decide)) (by rfl) T.f__law_is_whole.g T.f__law_is_whole.F.kp T.f__law_is_whole.b .nil pass0 (pa_cons (pv 4) (pa_cons (pe_un un_neg pe_int) (pa_cons pe_int pa_nil)))))) (pw_or (pt_cmpR op_eq (pe_op op_mul (pv 0) (pv 3)) (pe_op op_mul (pv 1) (pv 2)) (nomark _)) (pw_or1 (pt_cmpR op_ne (pe_cmpR op_ge (pv 4) pe_int (nomark _)) (pe_cmpR op_lt (pe_op op_mul (pv 0) (pv 3)) (pe_op op_mul (pv 1) (pv 2)) (nomark _)) (nomark _)))))) (pss_one (ps_ret pe_bl)) pss_nil) (pss_cons (ps_asg (pe_ifExp (pt_cmpR op_ge (pv 4) pe_int (nomark _)) (pe_tup (pa_cons (pv 4) (pa_cons (pe_op op_add (pv 4) pe_int) pa_nil))) (pe_tup (pa_cons (pe_op op_add (pv 4) pe_int) (pa_cons (pv 4) pa_nil)))) (pg_tup rfl (pgs_cons (pg_name (i := 5) sc__law_lies_between.nd rfl (Or.inl rfl)) (pgs_cons (pg_name (i := 6) sc__law_lies_between.nd rfl (Or.inl rfl)) pgs_nil)))) (pss_one (ps_ret (pe_and (pe_or (pe_cmpR op_eq (pv 5) pe_int (nomark _)) (pe_one (pe_cmpR op_lt (pe_call G__law_sum (hr.mono (by decide)) (by rfl) T.f__law_sum.g T.f__law_sum.F.kp T.f__law_sum.b .nil pass0 (pa_cons (pv 0) (pa_cons (pv 1) (pa_cons (pv 2) (pa_cons (pv 3) (pa_cons (pv 5) pa_nil)))))) pe_int (nomark _)))) (pe_one (pe_cmpR op_gt (pe_call G__law_sum (hr.mono (by decide)) (by rfl) T.f__law_sum.g T.f__law_sum.F.kp T.f__law_sum.b .nil pass0 (pa_cons (pv 0) (pa_cons (pv 1) (pa_cons (pv 2) (pa_cons (pv 3) (pa_cons (pv 6) pa_nil)))))) pe_int (nomark _)))))))), ?_⟩
    refine ⟨_, rfl, _, rfl, v, k, -80, 79, rfl, hv, inW k (-80) 79, rfl, ?_⟩
    cases e : inW k (-80) 79 with
    | false => exact iteT (iteT (right_inF e ▸ q _ (Same.refl _)))
    | true =>
      refine iteF ?_
      cases k with
      | int n =>
        obtain rfl : v = .int n := hv
        have e1 : -80 ≤ n ∧ n ≤ 79 := of_decide_eq_true e
        obtain ⟨n0, n1⟩ := e1
        have z : rightB false (.int n) a b c d = betw a b c d n := by
          show (decide (-80 ≤ n ∧ n ≤ 79) && _) = _
          rw [decide_eq_true ⟨n0, n1⟩]
          rfl
        rw [z] at q
        refine ⟨_, rfl, _, rfl, _, _, rfl, rfl, l1 ⟨by omega, by omega⟩, _, rfl, _, rfl, _, _, rfl, rfl, l1 ⟨by omega, by omega⟩, rfl, _, rfl, ite2 (fun e => iteT ?_) (fun e => ?_)⟩
        · have e0 : a * d = b * c := V.int.inj (of_decide_eq_true e)
          have q2 := q _ (Same.refl _)
          rw [betw_even e0] at q2
          exact q2
        have e0 : ¬ a * d = b * c := fun z => e (decide_eq_true (congrArg V.int z))
        refine ⟨_, rfl, _, _, rfl, rfl, ?_⟩
        refine ⟨_, rfl, _, rfl, _, _, rfl, rfl, l1 ⟨by omega, by omega⟩, _, rfl, _, rfl, _, _, rfl, rfl, l1 ⟨by omega, by omega⟩, _, _, rfl, rfl, rfl, _, rfl, ite2 (fun e1 => ?_) (fun e1 => ?_)⟩
        · have e2 : ¬ decide (a * d < b * c) = decide (0 ≤ n) := fun z => by
            have e3 : (!decide (V.bl (decide (0 ≤ n)) = V.bl (decide (a * d < b * c)))) = true := e1
            rw [dec_bl, decide_eq_true z.symm] at e3
            cases e3
          have q2 := q _ (Same.refl _)
          rw [betw_side e2] at q2
          exact q2
        have e2 : decide (a * d < b * c) = decide (0 ≤ n) := by
          have e3 : ¬ (!decide (V.bl (decide (0 ≤ n)) = V.bl (decide (a * d < b * c)))) = true := e1
          rw [dec_bl] at e3
          have e4 : decide (decide (0 ≤ n) = decide (a * d < b * c)) = true := by
            cases z : decide (decide (0 ≤ n) = decide (a * d < b * c)) with
            | true => rfl
            | false => rw [z] at e3; exact absurd rfl e3
          exact (of_decide_eq_true e4).symm
        rw [betw_rest e0 e2] at q
        by_cases hn : 0 ≤ n
        · have en : nearP n = n := if_pos hn
          have ef : farP n = n + 1 := if_pos hn
          rw [en, ef] at q
          refine ⟨_, rfl, _, _, rfl, rfl, true, congrArg V.bl (decide_eq_true hn), iteT ?_⟩
          refine ⟨_, rfl, _, rfl, _, _, rfl, rfl, sz2, fun p hp => ⟨p, _, rfl, .of upd_same, rfl, _, _, rfl, _, _, rfl, rfl, ?_⟩⟩
          have sm := same_upd (o := .tup [.int (n), .int (n + 1)]) hp
          have fin : ∀ H1, Same (upd H p (.tup [.int (n), .int (n + 1)])) H1 → (decide (n = 0) || decide (wsum a b c d n < 0)) = true → tOp (rI0 fun i j => V.bl (decide (j < i))) (tCall spSumL [] E0 (tCons (tVar 0) (tCons (tVar 1) (tCons (tVar 2) (tCons (tVar 3) (tCons (tVar 6) tNil)))))) (tC (V.int 0)) [some (.int a), some (.int b), some (.int c), some (.int d), some (.int n), some (.int (n)), some (.int (n + 1))] H1 (fun v H' => Q v H') := fun H1 s1 z =>
            ⟨_, rfl, _, rfl, _, rfl, _, rfl, _, rfl, a, b, c, d, n + 1, rfl, fine _ (by omega) (by omega), fun H2 s2 => ⟨_, _, rfl, rfl, (by have q2 := q _ ((sm.trans s1).trans s2); rw [z, Bool.true_and] at q2; exact q2)⟩⟩
          refine ⟨_, rfl, rfl, ?_⟩
          by_cases z : n = 0
          · exact ⟨true, congrArg V.bl (decide_eq_true (congrArg V.int z)), iteT ⟨true, rfl, iteT (fin _ (Same.refl _) (by rw [decide_eq_true z]; rfl))⟩⟩
          · refine ⟨false, congrArg V.bl (decide_eq_false fun y => z (V.int.inj y)), iteF ?_⟩
            refine ⟨_, rfl, _, rfl, _, rfl, _, rfl, _, rfl, a, b, c, d, n, rfl, fine _ (by omega) (by omega), fun H1 s1 => ⟨_, _, rfl, rfl, _, rfl, ite2 (fun y => fin _ s1 (by rw [show decide (wsum a b c d n < 0) = true from y, Bool.or_true])) (fun y => ?_)⟩⟩
            have q2 := q _ (sm.trans s1)
            rw [decide_eq_false z, show decide (wsum a b c d n < 0) = false from Bool.eq_false_iff.mpr y] at q2
            exact q2
        · have en : nearP n = n + 1 := if_neg hn
          have ef : farP n = n := if_neg hn
          rw [en, ef] at q
          refine ⟨_, rfl, _, _, rfl, rfl, false, congrArg V.bl (decide_eq_false hn), iteF ?_⟩
          refine ⟨_, rfl, _, _, rfl, rfl, _, rfl, sz2, fun p hp => ⟨p, _, rfl, .of upd_same, rfl, _, _, rfl, _, _, rfl, rfl, ?_⟩⟩
          have sm := same_upd (o := .tup [.int (n + 1), .int (n)]) hp
          have fin : ∀ H1, Same (upd H p (.tup [.int (n + 1), .int (n)])) H1 → (decide (n + 1 = 0) || decide (wsum a b c d (n + 1) < 0)) = true → tOp (rI0 fun i j => V.bl (decide (j < i))) (tCall spSumL [] E0 (tCons (tVar 0) (tCons (tVar 1) (tCons (tVar 2) (tCons (tVar 3) (tCons (tVar 6) tNil)))))) (tC (V.int 0)) [some (.int a), some (.int b), some (.int c), some (.int d), some (.int n), some (.int (n + 1)), some (.int (n))] H1 (fun v H' => Q v H') := fun H1 s1 z =>
            ⟨_, rfl, _, rfl, _, rfl, _, rfl, _, rfl, a, b, c, d, n, rfl, fine _ (by omega) (by omega), fun H2 s2 => ⟨_, _, rfl, rfl, (by have q2 := q _ ((sm.trans s1).trans s2); rw [z, Bool.true_and] at q2; exact q2)⟩⟩
          refine ⟨_, rfl, rfl, ?_⟩
          by_cases z : n + 1 = 0
          · exact ⟨true, congrArg V.bl (decide_eq_true (congrArg V.int z)), iteT ⟨true, rfl, iteT (fin _ (Same.refl _) (by rw [decide_eq_true z]; rfl))⟩⟩
          · refine ⟨false, congrArg V.bl (decide_eq_false fun y => z (V.int.inj y)), iteF ?_⟩
            refine ⟨_, rfl, _, rfl, _, rfl, _, rfl, _, rfl, a, b, c, d, n + 1, rfl, fine _ (by omega) (by omega), fun H1 s1 => ⟨_, _, rfl, rfl, _, rfl, ite2 (fun y => fin _ s1 (by rw [show decide (wsum a b c d (n + 1) < 0) = true from y, Bool.or_true])) (fun y => ?_)⟩⟩
            have q2 := q _ (sm.trans s1)
            rw [decide_eq_false z, show decide (wsum a b c d (n + 1) < 0) = false from Bool.eq_false_iff.mpr y] at q2
            exact q2
      | _ => cases e
end
end Q

namespace Q
open PySem PySem.Spec PyProof.Rows L2
section
variable {P : Program} {w : World} {K : PySem.W.Frag} {mg : Str → Option Value} {base : Heap}
theorem updAt (o : HO) {H : Hp} {p : Addr} (_ : H p = none) : upd H p o p = some o := upd_same
theorem Inp.but {H H' : Hp} {a : Addr} {v : V} {k : Kd} (h : Inp H v k) (b : But a H H') (n : ∀ t, v = .ref t → t ≠ a) : Inp H' v k := by
  cases k with
  | tup i => obtain ⟨t, e, f⟩ := h; exact ⟨t, e, b _ _ f (n t e)⟩
  | tp i j => obtain ⟨t, e, f⟩ := h; exact ⟨t, e, b _ _ f (n t e)⟩
  | _ => exact h
def GoodV (H : Hp) (a : Addr) (x : V) : Prop := (∃ k, Inp H x k) ∧ ∀ t, x = .ref t → t ≠ a
theorem GoodV.but {H H' : Hp} {a : Addr} {x : V} (h : GoodV H a x) (b : But a H H') : GoodV H' a x := by
  obtain ⟨⟨k, i⟩, n⟩ := h
  exact ⟨⟨k, i.but b n⟩, n⟩
def spValues : Sp := fun vs H Q _ => ∃ (a c : Addr) (n : Nat) (at_ : Int), vs = [.ref a, .int at_] ∧ Hat H a c n ∧ n ≤ 990000 ∧ -80 ≤ at_ ∧ at_ ≤ 80 ∧
  ∀ (l : Addr) (xs : List V) (H' : Hp), H' l = some (.lst (.int at_ :: xs)) → H l = none → xs.length = 21 → (∀ x ∈ V.int at_ :: xs, GoodV H' a x) → Hat H' a c (n + 2) → But a H H' → Q (.ref l) H'
theorem ok__law_values (T : Txt K mg) : FnOk P w K mg base CX0 2 T.f__law_values.a T.f__law_values.fd ["_law_hat_here", "_law_at"] spValues := by
  have G__law_lot := ok__law_lot (P := P) (w := w) (base := base) T
  refine T.f__law_values.F.ok sc__law_values (fun vs H Q E h => ?_) (fun cdv A outer s H vs Q E hr h => ?_)
  · obtain ⟨a, c, n, at_, rfl, _⟩ := h
    rfl
  · obtain ⟨a, c, n, at_, rfl, hh, hn, t0, t1, q⟩ := h
    have lg : at_.natAbs.log2 < 1920 := Nat.lt_trans (PySem.Flt.log2_lt_of (show 0 < 64 by decide) (show at_.natAbs < 2 ^ 64 by omega)) (by decide)
    refine ⟨_, (pss_cons (ps_set (i := 2) sc__law_values.nd rfl (Or.inl rfl) (pe_lst (pa_cons (pv 1) (pa_cons (pe_op op_add (pv 1) pe_int) (pa_cons (pe_op op_sub (pv 1) pe_int) (pa_cons (pe_un un_neg (pv 1)) (pa_cons (pe_op op_sub (pe_un un_neg (pv 1)) pe_int) (pa_cons (pe_op op_add (pv 1) pe_int) (pa_cons pe_int (pa_cons (pe_un un_neg pe_int) (pa_cons pe_int (pa_cons (pe_op op_sub (pe_call G__law_lot (hr.mono (by decide)) (by rfl) T.f__law_lot.g T.f__law_lot.F.kp T.f__law_lot.b .nil pass0 (pa_cons (pv 0) (pa_cons pe_int pa_nil))) pe_int) (pa_cons pe_int (pa_cons (pe_un un_neg pe_int) (pa_cons (pe_un un_neg pe_int) (pa_cons pe_int pa_nil)))))))))))))))) (pss_one (ps_ret (pe_op op_cat (pv 2) (pe_lst (pa_cons (pe_op op_pow pe_int pe_int) (pa_cons (pe_un un_neg (pe_op op_pow pe_int pe_int)) (pa_cons pe_bl (pa_cons pe_bl (pa_cons pe_non (pa_cons (pe_callTy call_str_int (by rfl) T.n_str (by decide +kernel) (pa_cons (pv 1) pa_nil)) (pa_cons (pe_lst (pa_cons (pv 1) pa_nil)) (pa_cons (pe_tup (pa_cons (pv 1) (pa_cons (pe_op op_add (pv 1) pe_int) pa_nil))) pa_nil))))))))))))), ?_⟩
    refine ⟨_, rfl, _, rfl, _, _, rfl, rfl, _, rfl, _, _, rfl, rfl, _, rfl, _, rfl, _, rfl, _, rfl, _, _, rfl, rfl, _, rfl, _, _, rfl, rfl, _, rfl, ?_⟩
    refine ⟨_, rfl, a, c, n, 161, rfl, hh, by omega, by decide, by decide, fun d1 H1 p1 p1' hh1 b1 => ?_⟩
    refine ⟨_, _, rfl, rfl, _, rfl, _, rfl, Nat.le_of_lt (small1000 (by show 14 ≤ 1000; decide)), fun l0 hl0 => ?_⟩
    have nA0 := hh1.neA hl0
    have y0 := hh1.upd (o := .lst [.int at_, .int (at_ + 1), .int (at_ - 1), .int (-at_), .int (-at_ - 1), .int (at_ + 2), .int 0, .int (-1), .int 1, .int (d1 - 80), .int 80, .int (-80), .int (-81), .int 81]) (hh1.neA hl0) (hh1.neC hl0)
    have s0 := same_upd (o := .lst [.int at_, .int (at_ + 1), .int (at_ - 1), .int (-at_), .int (-at_ - 1), .int (at_ + 2), .int 0, .int (-1), .int 1, .int (d1 - 80), .int 80, .int (-80), .int (-81), .int 81]) hl0
    have f0 := (upd_same : upd H1 l0 (.lst [V.int at_, .int (at_ + 1), .int (at_ - 1), .int (-at_), .int (-at_ - 1), .int (at_ + 2), .int 0, .int (-1), .int 1, .int (d1 - 80), .int 80, .int (-80), .int (-81), .int 81]) l0 = _)
    refine ⟨_, rfl, ?_⟩
    refine ⟨_, _, rfl, rfl, ⟨by decide, by decide, by decide⟩, _, _, rfl, rfl, ⟨by decide, by decide, by decide⟩, _, rfl, _, rfl, _, rfl, lg, _, rfl, Nat.le_of_lt (small1000 (by show 1 ≤ 1000; decide)), fun l1 hl1 => ?_⟩
    have nA1 := y0.neA hl1
    have y1 := y0.upd (o := .lst [.int at_]) (y0.neA hl1) (y0.neC hl1)
    have s1 := same_upd (o := .lst [.int at_]) hl1
    have f1 := updAt (.lst [.int at_]) hl1
    refine ⟨_, rfl, _, rfl, _, _, rfl, rfl, sz2, fun t2 ht2 => ?_⟩
    have nA2 := y1.neA ht2
    have y2 := y1.upd (o := .tup [.int at_, .int (at_ + 1)]) (y1.neA ht2) (y1.neC ht2)
    have s2 := same_upd (o := .tup [.int at_, .int (at_ + 1)]) ht2
    have f2 := updAt (.tup [.int at_, .int (at_ + 1)]) ht2
    refine ⟨Nat.le_of_lt (small1000 (by show 8 ≤ 1000; decide)), fun l2 hl2 => ?_⟩
    have nA3 := y2.neA hl2
    have y3 := y2.upd (o := .lst [.int (10 ^ 30), .int (-(10 ^ 30)), .bl true, .bl false, .non, .str (toString at_), .ref l1, .ref t2]) (y2.neA hl2) (y2.neC hl2)
    have s3 := same_upd (o := .lst [.int (10 ^ 30), .int (-(10 ^ 30)), .bl true, .bl false, .non, .str (toString at_), .ref l1, .ref t2]) hl2
    refine ⟨l0, l2, _, _, rfl, rfl, s3 _ _ (s2 _ _ (s1 _ _ f0)), upd_same, Nat.le_of_lt (small1000 (by show 22 ≤ 1000; decide)), fun l hl => ?_⟩
    have f1' := s3 _ _ (s2 _ _ f1)
    have f2' := s3 _ _ f2
    have bb := (((b1.trans (.of s0)).trans (.of s1)).trans (.of s2)).trans (.of s3)
    have s4 := same_upd (o := .lst (V.int at_ :: [.int (at_ + 1), .int (at_ - 1), .int (-at_), .int (-at_ - 1), .int (at_ + 2), .int 0, .int (-1), .int 1, .int (d1 - 80), .int 80, .int (-80), .int (-81), .int 81, .int (10 ^ 30), .int (-(10 ^ 30)), .bl true, .bl false, .non, .str (toString at_), .ref l1, .ref t2])) hl
    refine q l [.int (at_ + 1), .int (at_ - 1), .int (-at_), .int (-at_ - 1), .int (at_ + 2), .int 0, .int (-1), .int 1, .int (d1 - 80), .int 80, .int (-80), .int (-81), .int 81, .int (10 ^ 30), .int (-(10 ^ 30)), .bl true, .bl false, .non, .str (toString at_), .ref l1, .ref t2] _ upd_same (bb.free y3 hl) rfl (fun x hx => ?_) ((y3.upd (y3.neA hl) (y3.neC hl)).mono (by omega)) (bb.trans (.of s4))
    simp only [List.mem_cons, List.not_mem_nil, or_false] at hx
    have gi : ∀ {H : Hp} (i : Int), GoodV H a (.int i) := fun i => ⟨⟨.int i, rfl⟩, fun t z => nomatch z⟩
    rcases hx with rfl | rfl | rfl | rfl | rfl | rfl | rfl | rfl | rfl | rfl | rfl | rfl | rfl | rfl | rfl | rfl | rfl | rfl | rfl | rfl | rfl | rfl
    case inr.inr.inr.inr.inr.inr.inr.inr.inr.inr.inr.inr.inr.inr.inr.inr.inl => exact ⟨⟨.bl _, rfl⟩, fun t z => nomatch z⟩
    case inr.inr.inr.inr.inr.inr.inr.inr.inr.inr.inr.inr.inr.inr.inr.inr.inr.inl => exact ⟨⟨.bl _, rfl⟩, fun t z => nomatch z⟩
    case inr.inr.inr.inr.inr.inr.inr.inr.inr.inr.inr.inr.inr.inr.inr.inr.inr.inr.inl => exact ⟨⟨.non, rfl⟩, fun t z => nomatch z⟩
    case inr.inr.inr.inr.inr.inr.inr.inr.inr.inr.inr.inr.inr.inr.inr.inr.inr.inr.inr.inl => exact ⟨⟨.str _, rfl⟩, fun t z => nomatch z⟩
    case inr.inr.inr.inr.inr.inr.inr.inr.inr.inr.inr.inr.inr.inr.inr.inr.inr.inr.inr.inr.inl => exact ⟨⟨.tup at_, l1, rfl, s4 _ _ f1'⟩, fun t z => by cases z; exact nA1⟩
    case inr.inr.inr.inr.inr.inr.inr.inr.inr.inr.inr.inr.inr.inr.inr.inr.inr.inr.inr.inr.inr => exact ⟨⟨.tp at_ (at_ + 1), t2, rfl, s4 _ _ f2'⟩, fun t z => by cases z; exact nA2⟩
    all_goals exact gi _
end
end Q

namespace Q
open PySem PySem.Spec PyProof.Rows L2
section
variable {P : Program} {w : World} {K : PySem.W.Frag} {mg : Str → Option Value} {base : Heap}
def gSp {α : Type} (us ws : List α) : List α := match us, ws with
  | [], [v, a, b, c, d] => [a, b, c, d, v]
  | _, _ => []
theorem kb_shows_power (T : Txt K mg) : KBinds K T.f_shows_power.fd ["a", "b", "c", "d", "value"] ["value", "a", "b", "c", "d"] gSp gSp := by
  obtain ⟨oc, od, kV, doc, pm, an, cdv, ct, osl, e, lk, hcd⟩ := T.f_shows_power.F.ex
  refine ⟨fun s us ws X hl => ?_, fun {vs us zs ws} h1 h2 => ?_⟩
  · match us, ws, hl with
    | [], [w1, w2, w3, w4, w5], _ =>
      rw [e]
      exact .of_eq rfl
    | [], [], hl => cases hl
    | [], [_], hl => cases hl
    | [], [_, _], hl => cases hl
    | [], [_, _, _], hl => cases hl
    | [], [_, _, _, _], hl => cases hl
    | [], _ :: _ :: _ :: _ :: _ :: _ :: _, hl => cases hl
    | _ :: _, _, hl => cases hl
  · match vs, us, zs, ws, h1, h2 with
    | [], [], [_, _, _, _, _], [_, _, _, _, _], _, .cons r1 (.cons r2 (.cons r3 (.cons r4 (.cons r5 .nil)))) => exact .cons r2 (.cons r3 (.cons r4 (.cons r5 (.cons r1 .nil))))
    | [], [], [], [], _, _ => exact .nil
    | [], [], [_], [_], _, _ => exact .nil
    | [], [], [_, _], [_, _], _, _ => exact .nil
    | [], [], [_, _, _], [_, _, _], _, _ => exact .nil
    | [], [], [_, _, _, _], [_, _, _, _], _, _ => exact .nil
    | [], [], _ :: _ :: _ :: _ :: _ :: _ :: _, _ :: _ :: _ :: _ :: _ :: _ :: _, _, _ => exact .nil
    | _ :: _, _ :: _, _, _, _, _ => exact .nil
theorem ne_kit {K : PySem.W.Frag} {C W : Addr} (h : PySem.W.kitOne K (.ref C) (.ref W) = some false) (h2 : PySem.W.kitOne K (.ref W) (.ref W) = some true) : C ≠ W := fun e => by
  rw [e, h2] at h
  cases h
theorem isP {T : Txt K mg} {H : Hp} {x : Addr} {k : Kd} (h : BPat T.k_ByPower.a "power" H x "bypower" k) : TyX K H (.ref x) (.ref T.k_ByPower.a) := by
  obtain ⟨dx, q, v, h1, _⟩ := h
  exact .base (.ins h1 T.k_ByPower.cl T.k_ByPower.ha T.k_ByPower.hn T.k_ByPower.ht T.k_ByPower.hm)
theorem isB {T : Txt K mg} {H : Hp} {x : Addr} {k : Kd} (h : BPat T.k_Between.a "low" H x "between" k) : TyX K H (.ref x) (.ref T.k_Between.a) := by
  obtain ⟨dx, q, v, h1, _⟩ := h
  exact .base (.ins h1 T.k_Between.cl T.k_Between.ha T.k_Between.hn T.k_Between.ht T.k_Between.hm)
/-- what of a paper does not hang on its class -/
structure Bare (K : PySem.W.Frag) (H : Hp) (x : Addr) (n : Int) : Prop where
  h : ∃ C dx fs pq, H x = some (.ins C dx fs) ∧ Cls K C ∧ NoAttr K C "parts" ∧ fs.lookup ("parts" : Str) = some (.ref pq) ∧ H pq = some (.tup [.int n])
theorem Pap.bare {T : Txt K mg} {H : Hp} {x : Addr} {w : Bool} {n : Int} (h : Pap T H x w (.int n)) : Bare K H x n := by
  rcases h with ⟨_, dx, pq, v, hx, hpq, hv⟩ | ⟨_, dx, pq, v, hx, hpq, hv⟩
  · obtain rfl : v = .int n := hv
    exact ⟨_, dx, _, pq, hx, T.k_ByPower.cl, T.na_ByPower_parts, bp_parts (by decide +kernel), hpq⟩
  · obtain rfl : v = .int n := hv
    exact ⟨_, dx, _, pq, hx, T.k_Between.cl, T.na_Between_parts, bp_parts (by decide +kernel), hpq⟩
theorem at_read {T : Txt K mg} {σ : L2.St} {H : Hp} {Q : VK} {x : Addr} {w : Bool} {n : Int} (hσ : σ[7]? = some (some (.ref x))) (pp : Pap T H x w (.int n)) (q : Q (.int n) H) :
    tIf (tB (tCB (rIsi K) (tCons (tVar 7) (tCons (tC (V.ref T.k_ByPower.a)) tNil)))) (tFld K (tVar 7) "power") (tFld K (tVar 7) "low") σ H Q := by
  rcases pp with ⟨rfl, bp⟩ | ⟨rfl, bp⟩
  · obtain ⟨dx, pq, v, hx, hpq, hv⟩ := id bp
    obtain rfl : v = .int n := hv
    refine ⟨_, hσ, _, _, _, _, true, rfl, .own _, isP bp, T.is_ByPower_ByPower, true, rfl, iteT ?_⟩
    exact ⟨_, hσ, x, _, dx, _, _, rfl, hx, T.k_ByPower.cl, T.na_ByPower_power, bp_at, q⟩
  · obtain ⟨dx, pq, v, hx, hpq, hv⟩ := id bp
    obtain rfl : v = .int n := hv
    refine ⟨_, hσ, _, _, _, _, false, rfl, .own _, isB bp, T.is_Between_ByPower, false, rfl, iteF ?_⟩
    exact ⟨_, hσ, x, _, dx, _, _, rfl, hx, T.k_Between.cl, T.na_Between_low, bp_at, q⟩
theorem value_read {σ : L2.St} {H : Hp} {Q : VK} {h c lv : Addr} {m j : Nat} {n : Int} {xs : List V} (h1 : σ[1]? = some (some (.ref h))) (h9 : σ[9]? = some (some (.ref lv))) (h11 : σ[11]? = some (some (.int (0 + (j : Int))))) (hh : Hat H h c m) (hm : m ≤ 990000) (ev : H lv = some (.lst (.int n :: xs))) (lx : xs.length = 21) (nl : lv ≠ h)
    (q : ∀ v H', v ∈ V.int n :: xs → (j = 0 → v = .int n) → Hat H' h c (m + 1) → But h H H' → Q v H') :
    tIf (tTest (tOp (rI0 fun i j => V.bl (decide (i < j))) (tVar 11) (tC (V.int 5)))) (tOp (rIxL K) (tVar 9) (tVar 11)) (tCall (spOne K) [] E0 (tCons (tVar 1) (tCons (tVar 9) tNil))) σ H Q := by
  refine ⟨_, h11, _, _, rfl, rfl, _, rfl, ite2 (fun e => ?_) (fun e => ?_)⟩
  · have j5 : j < 5 := by
      have : 0 + (j : Int) < 5 := of_decide_eq_true e
      omega
    have hj : j < (V.int n :: xs).length := by rw [List.length_cons, lx]; omega
    refine ⟨_, h9, _, h11, lv, _, _, (V.int n :: xs)[j], rfl, rfl, .of ev, ?_, q _ H (List.getElem_mem hj) (fun z => by subst z; rfl) (hh.mono (by omega)) (But.refl _ _)⟩
    rw [Int.zero_add]
    exact atI_nat (List.getElem?_eq_getElem hj)
  · have j5 : ¬ j < 5 := fun z => e (decide_eq_true (show 0 + (j : Int) < 5 by omega))
    refine ⟨_, h1, _, h9, h, c, m, lv, _, rfl, hh, by omega, .of ev, nl, by rw [List.length_cons]; omega, by rw [List.length_cons, lx]; decide, fun v Hv hv hhv bv => q v Hv hv (fun z => absurd (show j < 5 by omega) j5) hhv bv⟩
theorem Pap.but {T : Txt K mg} {H H' : Hp} {x h c : Addr} {w : Bool} {n : Int} {m : Nat} (pp : Pap T H x w (.int n)) (hh : Hat H h c m) (b : But h H H') : Pap T H' x w (.int n) := by
  obtain ⟨_, _, _, ha, _⟩ := id hh
  rcases pp with ⟨e, dx, pq, v, hx, hpq, hv⟩ | ⟨e, dx, pq, v, hx, hpq, hv⟩
  · exact .inl ⟨e, dx, pq, v, b _ _ hx (ne_of hx ha.h (fun z => nomatch z)), b _ _ hpq (ne_of hpq ha.h (fun z => nomatch z)), hv⟩
  · exact .inr ⟨e, dx, pq, v, b _ _ hx (ne_of hx ha.h (fun z => nomatch z)), b _ _ hpq (ne_of hpq ha.h (fun z => nomatch z)), hv⟩
def spLaw (K : PySem.W.Frag) : Sp := fun vs H Q _ => ∃ (a : Addr) (ns : List Int), vs = [.ref a] ∧ SqL K H a (ns.map V.int) ∧ ns.length ≤ 63 ∧ ∀ H', Q (.bl true) H'
theorem ok_law (T : Txt K mg) : FnOk P w K mg base CX0 9 T.f_law.a T.f_law.fd ["_law_script"] (spLaw K) := by
  have G_Paper__init__ := ok_Paper__init__ (P := P) (w := w) (base := base) T
  have G_Denial__init__ := ok_Denial__init__ (P := P) (w := w) (base := base) T
  have G__law_hat := ok__law_hat (P := P) (w := w) (base := base) T
  have G__law_four := ok__law_four (P := P) (w := w) (base := base) T
  have G_power_of := ok_power_of (P := P) (w := w) (base := base) T
  have G__law_values := ok__law_values (P := P) (w := w) (base := base) T
  have G_Uneven__init__ := ok_Uneven__init__ (P := P) (w := w) (base := base) T
  have G_Whole__init__ := ok_Whole__init__ (P := P) (w := w) (base := base) T
  have G_NoWhole__init__ := ok_NoWhole__init__ (P := P) (w := w) (base := base) T
  have G_Paper__init__ := ok_Paper__init__ (P := P) (w := w) (base := base) T
  have G_Denial__init__ := ok_Denial__init__ (P := P) (w := w) (base := base) T
  have G__law_one := ok__law_one (P := P) (w := w) (base := base) T
  have G__law_lies_between := ok__law_lies_between (P := P) (w := w) (base := base) T
  have G__law_is_power := ok__law_is_power (P := P) (w := w) (base := base) T
  have G_shows_power := ok_shows_power (P := P) (w := w) (base := base) T
  have G_Between__init__ := ok_Between__init__ (P := P) (w := w) (base := base) T
  have G_ByPower__init__ := ok_ByPower__init__ (P := P) (w := w) (base := base) T
  refine T.f_law.F.ok sc_law (fun vs H Q E h => ?_) (fun cdv A outer s H vs Q E hr h => ?_)
  · obtain ⟨a, ns, rfl, _⟩ := h
    rfl
  · obtain ⟨a, ns, rfl, hl, hn, q⟩ := h
    refine ⟨_, (pss_cons (ps_set (i := 1) sc_law.nd rfl (Or.inl rfl) (pe_call G__law_hat (hr.mono (by decide)) (by rfl) T.f__law_hat.g T.f__law_hat.F.kp T.f__law_hat.b .nil pass0 (pa_cons (pv 0) pa_nil))) (pss_cons (ps_for PassesOwn.never rfl (pi_range1 rfl T.n_range (pa_cons pe_int pa_nil)) (pg_name (i := 2) sc_law.nd rfl (Or.inl rfl)) (pss_cons (ps_asg (pe_call G__law_four (hr.mono (by decide)) (by rfl) T.f__law_four.g T.f__law_four.F.kp T.f__law_four.b .nil pass0 (pa_cons (pv 1) pa_nil)) (pg_lst rfl (pgs_cons (pg_name (i := 3) sc_law.nd rfl (Or.inl rfl)) (pgs_cons (pg_name (i := 4) sc_law.nd rfl (Or.inl rfl)) (pgs_cons (pg_name (i := 5) sc_law.nd rfl (Or.inl rfl)) (pgs_cons (pg_name (i := 6) sc_law.nd rfl (Or.inl rfl)) pgs_nil)))))) (pss_cons (ps_set (i := 7) sc_law.nd rfl (Or.inl rfl) (pe_call G_power_of (hr.mono (by decide)) (by rfl) T.f_power_of.g T.f_power_of.F.kp T.f_power_of.b .nil pass0 (pa_cons (pv 3) (pa_cons (pv 4) (pa_cons (pv 5) (pa_cons (pv 6) pa_nil)))))) (pss_cons (ps_set (i := 8) sc_law.nd rfl (Or.inl rfl) (pe_ifExp (pt_val (pe_callB call_isi (by rfl) T.n_isinstance (by decide +kernel) (pa_cons (pv 7) (pa_cons (pe_glob (v := .ref T.k_ByPower.a) rfl T.k_ByPower.g rfl) pa_nil)))) (pe_fld (pv 7) rfl) (pe_fld (pv 7) rfl))) (pss_cons (ps_par (i := 9) (j := 10) rfl sc_law.nd rfl rfl (by decide) rfl rfl (pa_cons (pe_call G__law_values (hr.mono (by decide)) (by rfl) T.f__law_values.g T.f__law_values.F.kp T.f__law_values.b .nil pass0 (pa_cons (pv 1) (pa_cons (pv 8) pa_nil))) (pa_cons (pe_lst pa_nil) pa_nil)) rfl) (pss_cons (ps_for PassesOwn.never rfl (pi_range1 rfl T.n_range (pa_cons pe_int pa_nil)) (pg_name (i := 11) sc_law.nd rfl (Or.inl rfl)) (pss_cons (ps_set (i := 12) sc_law.nd rfl (Or.inl rfl) (pe_ifExp (pt_cmpR op_lt (pv 11) pe_int (nomark _)) (pe_ix ix_list (pv 9) (pv 11) (fun _ _ => rfl)) (pe_call G__law_one (hr.mono (by decide)) (by rfl) T.f__law_one.g T.f__law_one.F.kp T.f__law_one.b .nil pass0 (pa_cons (pv 1) (pa_cons (pv 9) pa_nil))))) (pss_cons (ps_par (i := 13) (j := 14) rfl sc_law.nd rfl rfl (by decide) rfl rfl (pa_cons (pe_call G__law_lies_between (hr.mono (by decide)) (by rfl) T.f__law_lies_between.g T.f__law_lies_between.F.kp T.f__law_lies_between.b .nil pass0 (pa_cons (pv 3) (pa_cons (pv 4) (pa_cons (pv 5) (pa_cons (pv 6) (pa_cons (pv 12) pa_nil)))))) (pa_cons (pe_call G__law_is_power (hr.mono (by decide)) (by rfl) T.f__law_is_power.g T.f__law_is_power.F.kp T.f__law_is_power.b .nil pass0 (pa_cons (pv 3) (pa_cons (pv 4) (pa_cons (pv 5) (pa_cons (pv 6) (pa_cons (pv 12) pa_nil)))))) pa_nil)) rfl) (pss_cons (ps_if (PW.pt (pw_or (pt_cmpR op_ne (pe_call G_shows_power (hr.mono (by decide)) (by rfl) T.f_shows_power.g T.f_shows_power.F.kp T.f_shows_power.b .nil pass0 (pa_cons (pv 3) (pa_cons (pv 4) (pa_cons (pv 5) (pa_cons (pv 6) (pa_cons (pe_make T.mk_Between G_Between__init__ (hr.mono (by decide)) (by rfl) T.k_Between.g T.f_Between__init__.b .nil pass0 (pa_cons (pv 12) pa_nil)) pa_nil)))))) (pv 13) (nomark _)) (pw_or1 (pt_cmpR op_ne (pe_call G_shows_power (hr.mono (by decide)) (by rfl) T.f_shows_power.g T.f_shows_power.F.kp T.f_shows_power.b .nil pass0 (pa_cons (pv 3) (pa_cons (pv 4) (pa_cons (pv 5) (pa_cons (pv 6) (pa_cons (pe_make T.mk_ByPower G_ByPower__init__ (hr.mono (by decide)) (by rfl) T.k_ByPower.g T.f_ByPower__init__.b .nil pass0 (pa_cons (pv 12) pa_nil)) pa_nil)))))) (pv 14) (nomark _))))) (pss_one (ps_ret pe_bl)) pss_nil) (pss_one (ps_if (PW.pt (pw_or (pt_val (pv 13)) (pw_or1 (pt_val (pv 14))))) (pss_one (ps_expr (pe_bm PySem.F.plainAttrs_list PySem.F.slot_list_append PySem.F.type_list_append mt_append (pv 10) (pa_cons (pe_tup (pa_cons (pv 13) (pa_cons (pv 12) pa_nil))) pa_nil)))) pss_nil)))))) (pss_cons (ps_if (PW.pt (pw_or (pt_cmpR op_ne (pe_callB call_len_seq (by rfl) T.n_len (by decide +kernel) (pa_cons (pe_callB (So.cr_sorted1 rfl) (by rfl) T.n_sorted (by decide +kernel) (pa_cons (pe_callTy (So.cr_set1 rfl hr.units) (by rfl) T.n_set (by decide +kernel) (pa_cons (pv 10) pa_nil)) pa_nil)) pa_nil)) pe_int (nomark _)) (pw_or1 (pt_cmpR op_notBl (Ru.pe_callK0 G_shows_power (hr.mono (by decide)) (by rfl) T.f_shows_power.g T.f_shows_power.F.kp (kb_shows_power T) pass0 (pk_cons (pv 7) (pk_cons (pv 3) (pk_cons (pv 4) (pk_cons (pv 5) (pk_cons (pv 6) pk_nil)))))) pe_bl (nomark _))))) (pss_one (ps_ret pe_bl)) pss_nil) (pss_cons (ps_set (i := 15) sc_law.nd rfl (Or.inl rfl) (pe_lst (pa_cons pe_non (pa_cons pe_int (pa_cons (pv 8) (pa_cons (pe_tup (pa_cons (pv 8) pa_nil)) (pa_cons pe_str (pa_cons (pe_make T.mk_Uneven G_Uneven__init__ (hr.mono (by decide)) (by rfl) T.k_Uneven.g T.f_Uneven__init__.b .nil pass0 (pa_cons pe_int pa_nil)) (pa_cons (pe_make T.mk_Whole G_Whole__init__ (hr.mono (by decide)) (by rfl) T.k_Whole.g T.f_Whole__init__.b .nil pass0 (pa_cons (pv 8) pa_nil)) (pa_cons (pe_make T.mk_NoWhole G_NoWhole__init__ (hr.mono (by decide)) (by rfl) T.k_NoWhole.g T.f_NoWhole__init__.b .nil pass0 (pa_cons (pv 8) pa_nil)) (pa_cons (StX.pe_makeR T.mk_Paper G_Paper__init__ (hr.mono (by decide)) (by rfl) T.k_Paper.g pass0 (pa_cons pe_str (pa_cons (pv 8) pa_nil))) (pa_cons (StX.pe_makeR T.mk_Denial G_Denial__init__ (hr.mono (by decide)) (by rfl) T.k_Denial.g pass0 (pa_cons pe_str (pa_cons (pv 8) pa_nil))) (pa_cons (pe_fld (pv 7) rfl) pa_nil))))))))))))) (pss_one (ps_if (PW.pt (pw_or (pt_cmpR op_notBl (pe_call G_shows_power (hr.mono (by decide)) (by rfl) T.f_shows_power.g T.f_shows_power.F.kp T.f_shows_power.b .nil pass0 (pa_cons (pv 3) (pa_cons (pv 4) (pa_cons (pv 5) (pa_cons (pv 6) (pa_cons (pe_call G__law_one (hr.mono (by decide)) (by rfl) T.f__law_one.g T.f__law_one.F.kp T.f__law_one.b .nil pass0 (pa_cons (pv 1) (pa_cons (pv 15) pa_nil))) pa_nil)))))) pe_bl (nomark _)) (pw_or1 (pt_cmpR op_notBl (pe_call G_shows_power (hr.mono (by decide)) (by rfl) T.f_shows_power.g T.f_shows_power.F.kp T.f_shows_power.b .nil pass0 (pa_cons (pv 3) (pa_cons (pv 4) (pa_cons (pv 5) (pa_cons (pv 6) (pa_cons (pe_call G__law_one (hr.mono (by decide)) (by rfl) T.f__law_one.g T.f__law_one.F.kp T.f__law_one.b .nil pass0 (pa_cons (pv 1) (pa_cons (pv 15) pa_nil))) pa_nil)))))) pe_bl (nomark _))))) (pss_one (ps_ret pe_bl)) pss_nil)))))))))) (pss_one (ps_ret pe_bl)))), ?_⟩
    refine ⟨_, rfl, a, ns, rfl, hl, hn, fun h c H1 hh s1 => ?_⟩
    refine ⟨2, rfl, by decide, by decide, for_range (lo := 0) (n := 2) (fun i σ H' => Hat H' h c (200 * i) ∧ ∃ y2 y3 y4 y5 y6 y7 y8 y9 y10 y11 y12 y13 y14 y15, σ = [some (.ref a), some (.ref h), y2, y3, y4, y5, y6, y7, y8, y9, y10, y11, y12, y13, y14, y15])
      ⟨hh, none, none, none, none, none, none, none, none, none, none, none, none, none, none, rfl⟩ ?_ (fun σ H' _ => q H')⟩
    rintro i σ H' hi ⟨hhi, y2, y3, y4, y5, y6, y7, y8, y9, y10, y11, y12, y13, y14, y15, rfl⟩
    refine ⟨_, rfl, h, c, _, rfl, hhi, by omega, fun l x1 x2 x3 x4 H2 g h9 e2 f2 hh2 b2 => ⟨l, _, rfl, .of e2, rfl, _, _, rfl, _, _, rfl, _, _, rfl, _, _, rfl, rfl, ?_⟩⟩
    refine ⟨_, rfl, _, rfl, _, rfl, _, rfl, x1, x2, x3, x4, rfl, g, h9, fun x H3 wk n R pp fx s3 => ?_⟩
    refine at_read (T := T) rfl pp ?_
    have bd := res_bd R
    have hh3 := hh2.same s3
    refine ⟨_, rfl, _, rfl, h, c, _, n, rfl, hh3, by omega, by omega, by omega, fun lv xs H4 ev fv lx gv hh4 b4 => ?_⟩
    refine ⟨Nat.zero_le _, fun lr hlr => ⟨_, _, rfl, ?_⟩⟩
    have sL := same_upd (o := .lst []) hlr
    have nlrh : lr ≠ h := hh4.neA hlr
    have nlrc : lr ≠ c := hh4.neC hlr
    have elr : upd H4 lr (.lst []) lr = some (.lst (([] : List Addr).map V.ref)) := upd_same
    have nlvh : lv ≠ h := hh3.neA fv
    have nxh : x ≠ h := hh2.neA fx
    refine ⟨12, rfl, by decide, by decide, for_range (lo := 0) (n := 12) (fun j σ H' => Hat H' h c (200 * i + 40 + j) ∧ But h H4 H' ∧ (∃ ks : List Addr, H' lr = some (.lst (ks.map V.ref)) ∧ ks.length ≤ j ∧ (0 < j → 0 < ks.length) ∧ ∀ p ∈ ks, p ≠ h ∧ H' p = some (.tup [.bl (!wk), .int n])) ∧
        ∃ z11 z12 z13 z14, σ = [some (.ref a), some (.ref h), some (.int (0 + (i : Int))), some (.int x1), some (.int x2), some (.int x3), some (.int x4), some (.ref x), some (.int n), some (.ref lv), some (.ref lr), z11, z12, z13, z14, y15])
      ⟨(hh4.same sL).mono (by omega), .of sL, ⟨[], elr, Nat.le_refl _, fun z => absurd z (Nat.lt_irrefl _), fun p hp => (by cases hp)⟩, y11, y12, y13, y14, rfl⟩ ?_ ?_⟩
    · rintro j σ H' hj ⟨hhj, bj, ⟨ks, ek, kl, kn, kp⟩, z11, z12, z13, z14, rfl⟩
      refine value_read (K := K) (j := j) rfl rfl rfl hhj (by omega) (bj _ _ ev nlvh) lx nlvh fun v Hv hv hv0 hhv bv => ?_
      have bjv := bj.trans bv
      obtain ⟨⟨k, iv⟩, nv⟩ := (gv v hv).but bjv
      refine ⟨_, rfl, _, rfl, _, rfl, _, rfl, _, rfl, x1, x2, x3, x4, v, k, rfl, g, h9, iv, fun Ha sa => ?_⟩
      refine ⟨_, rfl, _, rfl, _, rfl, _, rfl, _, rfl, x1, x2, x3, x4, v, k, rfl, g, h9, iv.same sa, fun Hb sb => ⟨_, _, rfl, ?_⟩⟩
      have ivb := (iv.same sa).same sb
      refine ⟨_, rfl, _, rfl, _, rfl, _, rfl, _, rfl, fun xa dxa hxa hdxa nea => ⟨xa, dxa, v, k, rfl, upd_same, (ivb.same (same_upd hdxa)).same (same_upd (by rw [upd_ne nea.symm]; exact hxa)), fun Hc bpc kpc => ⟨rfl, ?_⟩⟩⟩
      have sc := made_same hxa hdxa kpc
      refine ⟨x1, x2, x3, x4, .ref xa, _, rfl, g, h9, .inr ⟨xa, false, k, rfl, .inr ⟨rfl, bpc⟩, rfl⟩, fun Hd sd => ⟨_, rfl, rfl, false, congrArg V.bl (by rw [decide_eq_true rfl]; rfl), iteF ?_⟩⟩
      have ivd := (ivb.same sc).same sd
      refine ⟨_, rfl, _, rfl, _, rfl, _, rfl, _, rfl, fun xb dxb hxb hdxb neb => ⟨xb, dxb, v, k, rfl, upd_same, (ivd.same (same_upd hdxb)).same (same_upd (by rw [upd_ne neb.symm]; exact hxb)), fun He bpe kpe => ⟨rfl, ?_⟩⟩⟩
      have se := made_same hxb hdxb kpe
      refine ⟨x1, x2, x3, x4, .ref xb, _, rfl, g, h9, .inr ⟨xb, true, k, rfl, .inl ⟨rfl, bpe⟩, rfl⟩, fun Hf sf => ⟨_, rfl, rfl, false, congrArg V.bl (by rw [decide_eq_true rfl]; rfl), iteF ?_⟩⟩
      have S := sa.trans (sb.trans (sc.trans (sd.trans (se.trans sf))))
      have hhf := hhv.same S
      have bf := bjv.trans (.of S)
      have ekf := S _ _ (bv _ _ ek nlrh)
      have kpf : ∀ p ∈ ks, p ≠ h ∧ Hf p = some (.tup [.bl (!wk), .int n]) := fun p hp => ⟨(kp p hp).1, S _ _ (bv _ _ (kp p hp).2 (kp p hp).1)⟩
      -- one more pair
      have more : ∀ t, Hf t = none → v = .int n → (∀ b, b = (!wk) → Hat (upd (upd Hf t (.tup [.bl b, v])) lr (.lst (ks.map V.ref ++ [.ref t]))) h c (200 * i + 40 + (j + 1)) ∧ But h H4 (upd (upd Hf t (.tup [.bl b, v])) lr (.lst (ks.map V.ref ++ [.ref t]))) ∧
          (∃ ks' : List Addr, upd (upd Hf t (.tup [.bl b, v])) lr (.lst (ks.map V.ref ++ [.ref t])) lr = some (.lst (ks'.map V.ref)) ∧ ks'.length ≤ j + 1 ∧ (0 < j + 1 → 0 < ks'.length) ∧ ∀ p ∈ ks', p ≠ h ∧ upd (upd Hf t (.tup [.bl b, v])) lr (.lst (ks.map V.ref ++ [.ref t])) p = some (.tup [.bl (!wk), .int n]))) := fun t ht ev b eb => by
        subst ev eb
        have st := same_upd (o := .tup [.bl (!wk), .int n]) ht
        have nt : t ≠ lr := ne_of_none ekf ht |>.symm
        refine ⟨((hhf.same st).upd nlrh nlrc).mono (by omega), fun p o hp np => ?_, ks ++ [t], ?_, ?_, fun _ => ?_, fun p hp => ?_⟩
        · have npl : p ≠ lr := ne_of_none hp hlr
          rw [upd_ne npl]
          exact st _ _ (bf _ _ hp np)
        · rw [upd_same, List.map_append]
          rfl
        · rw [List.length_append]
          show ks.length + 1 ≤ j + 1
          omega
        · rw [List.length_append]
          show 0 < ks.length + 1
          omega
        · rcases List.mem_append.mp hp with z | z
          · obtain ⟨k1, k2⟩ := kpf p z
            have npl : p ≠ lr := fun y => by rw [y, ekf] at k2; cases k2
            exact ⟨k1, by rw [upd_ne npl]; exact st _ _ k2⟩
          · rw [List.mem_singleton.mp z]
            exact ⟨hhf.neA ht, by rw [upd_ne nt]; exact upd_same⟩
      have lenk : (ks.map V.ref).length < sizeLine := by rw [List.length_map]; exact small1000 (by omega)
      refine ⟨_, rfl, _, rfl, ?_⟩
      cases el : rightB false k x1 x2 x3 x4 with
      | true =>
        refine iteT (iteT ?_)
        obtain ⟨n', rfl, R'⟩ := right_res g h9 el
        obtain ⟨ew, en⟩ := R.uniq R'
        have ev' : v = .int n := by rw [en]; exact iv
        refine ⟨_, rfl, .inl ⟨rfl, _, .of ekf⟩, _, rfl, _, rfl, sz2, fun t ht => ?_⟩
        obtain ⟨m1, m2, m3⟩ := more t ht ev' true (by rw [ew]; rfl)
        refine ⟨lr, _, _, rfl, rfl, same_upd ht _ _ ekf, lenk, ?_⟩
        exact ⟨m1, m2, m3, _, _, _, _, rfl⟩
      | false =>
        refine iteF ⟨_, rfl, _, rfl, ?_⟩
        cases ep : rightB true k x1 x2 x3 x4 with
        | true =>
          refine iteT ?_
          obtain ⟨n', rfl, R'⟩ := right_res g h9 ep
          obtain ⟨ew, en⟩ := R.uniq R'
          have ev' : v = .int n := by rw [en]; exact iv
          refine ⟨_, rfl, .inl ⟨rfl, _, .of ekf⟩, _, rfl, _, rfl, sz2, fun t ht => ?_⟩
          obtain ⟨m1, m2, m3⟩ := more t ht ev' false (by rw [ew]; rfl)
          refine ⟨lr, _, _, rfl, rfl, same_upd ht _ _ ekf, lenk, ?_⟩
          exact ⟨m1, m2, m3, _, _, _, _, rfl⟩
        | false =>
          refine iteF ?_
          have j0 : 0 < j := by
            by_cases z : j = 0
            · exfalso
              have e0 := hv0 z
              have rr := res_right R
              have ek : k = .int n := by
                cases k with
                | int m => have e1 : v = .int m := iv; rw [e0] at e1; rw [V.int.inj e1]
                | non => have e1 : v = .non := iv; rw [e0] at e1; cases e1
                | bl _ => have e1 : v = .bl _ := iv; rw [e0] at e1; cases e1
                | str _ => have e1 : v = .str _ := iv; rw [e0] at e1; cases e1
                | tup _ => obtain ⟨_, e1, _⟩ := iv; rw [e0] at e1; cases e1
                | tp _ _ => obtain ⟨_, e1, _⟩ := iv; rw [e0] at e1; cases e1
              rw [ek] at el ep
              cases wk with
              | true => rw [rr] at ep; cases ep
              | false => rw [rr] at el; cases el
            · omega
          exact ⟨hhf.mono (by omega), bf, ⟨ks, ekf, by omega, fun _ => kn j0, kpf⟩, _, _, _, _, rfl⟩
    · rintro σ H' ⟨hhz, bz, ⟨ks, ek, kl, kn, kp⟩, z11, z12, z13, z14, rfl⟩
      refine ⟨_, rfl, lr, ks, !wk, n, rfl, .of ek, kn (by decide), fun p hp => .of (kp p hp).2, fun a1 u ha1 hu => ?_⟩
      have sA := same_upd (o := So.SetE P w a1 u (So.numK (So.b2 (!wk)) n)) ha1
      refine ⟨a1, u, _, rfl, upd_same, fun p2 hp2 => ?_⟩
      have sP := same_upd (o := .lst [.ref u]) hp2
      refine ⟨p2, _, rfl, .inl (.of upd_same), rfl, false, congrArg V.bl (show (!decide (V.int 1 = V.int 1)) = false by rw [decide_eq_true rfl]; rfl), iteF ?_⟩
      have sS := sA.trans sP
      have ppz := (pp.but hh3 b4).but hh4 bz
      have pp6 := ppz.same sS
      refine ⟨_, rfl, _, rfl, _, rfl, _, rfl, _, rfl, x1, x2, x3, x4, .ref x, true, rfl, g, h9, .inr ⟨x, wk, .int n, rfl, pp6, (res_right R).symm⟩, fun H6 s6 => ⟨_, _, rfl, rfl, false, rfl, iteF ?_⟩⟩
      have s06 := sS.trans s6
      have hh6 := hhz.same s06
      have pp7 := ppz.same s06
      refine ⟨_, rfl, _, rfl, Nat.le_of_lt (small1000 (by show 1 ≤ 1000; decide)), fun t1 ht1 => ?_⟩
      have u1 := same_upd (o := .tup [.int n]) ht1
      have f1 := updAt (.tup [.int n]) ht1
      have k1 := hh6.neA ht1
      have g1 := hh6.same u1
      refine fun xa dxa hxa hdxa nea => ⟨xa, dxa, .int 0, .int 0, rfl, upd_same, rfl, fun Ha bpa kpa => ⟨rfl, ?_⟩⟩
      have ua := made_same hxa hdxa kpa
      have ka := g1.neA hxa
      have ga2 := g1.same ua
      obtain ⟨_, _, _, fa, _⟩ := bpa
      refine ⟨_, rfl, fun xb dxb hxb hdxb neb => ⟨xb, dxb, .int n, .int n, rfl, upd_same, rfl, fun Hb bpb kpb => ⟨rfl, ?_⟩⟩⟩
      have ub := made_same hxb hdxb kpb
      have kb := ga2.neA hxb
      have gb2 := ga2.same ub
      obtain ⟨_, _, _, fb, _⟩ := bpb
      refine ⟨_, rfl, fun xc dxc hxc hdxc nec => ⟨xc, dxc, .int n, .int n, rfl, upd_same, rfl, fun Hc bpc kpc => ⟨rfl, ?_⟩⟩⟩
      have uc := made_same hxc hdxc kpc
      have kc := gb2.neA hxc
      have gc2 := gb2.same uc
      obtain ⟨_, _, _, fc, _⟩ := bpc
      refine ⟨_, rfl, fun xd dxd hxd hdxd ned => ⟨xd, T.k_Paper.a, dxd, "bypower", .int n, .int n, rfl, ⟨T.k_Paper.cl, T.na_Paper_word, T.na_Paper_parts⟩, upd_same, rfl, fun qd vd Hd fd hd2 hd3 hvd kpd => ⟨rfl, ?_⟩⟩⟩
      have ud := made_same hxd hdxd kpd
      have kd := gc2.neA hxd
      have gd2 := gc2.same ud
      refine ⟨_, rfl, fun xe dxe hxe hdxe nee => ⟨xe, T.k_Denial.a, dxe, "between", .int n, .int n, rfl, ⟨T.k_Denial.cl, T.na_Denial_word, T.na_Denial_parts⟩, upd_same, rfl, fun qe ve He fe he2 he3 hve kpe => ⟨rfl, ?_⟩⟩⟩
      have ue := made_same hxe hdxe kpe
      have ke := gd2.neA hxe
      have ge2 := gd2.same ue
      have U := u1.trans (ua.trans (ub.trans (uc.trans (ud.trans ue))))
      obtain ⟨C, dx, fs, pq, hx, cl, na, lk, hpq⟩ := (pp7.same U).bare.h
      have kq : pq ≠ h := by
        obtain ⟨_, _, _, ha, _⟩ := id ge2
        exact ne_of hpq ha.h (fun z => nomatch z)
      refine ⟨_, rfl, x, C, dx, fs, _, rfl, hx, cl, na, lk, Nat.le_of_lt (small1000 (by show 11 ≤ 1000; decide)), fun lo hlo => ?_⟩
      have so := same_upd (o := .lst [.non, .int 5, .int n, .ref t1, .str "between", .ref xa, .ref xb, .ref xc, .ref xd, .ref xe, .ref pq]) hlo
      have klo := ge2.neA hlo
      have y := ge2.same so
      have odd : ∀ Hv, But h (upd He lo (.lst [.non, .int 5, .int n, .ref t1, .str "between", .ref xa, .ref xb, .ref xc, .ref xd, .ref xe, .ref pq])) Hv → ∀ v ∈ [V.non, .int 5, .int n, .ref t1, .str "between", .ref xa, .ref xb, .ref xc, .ref xd, .ref xe, .ref pq], Odd T Hv v := fun Hv bv v hv => by
        have lift : ∀ b o, He b = some o → b ≠ h → Hv b = some o := fun b o e ne => bv _ _ (so _ _ e) ne
        simp only [List.mem_cons, List.not_mem_nil, or_false] at hv
        rcases hv with rfl | rfl | rfl | rfl | rfl | rfl | rfl | rfl | rfl | rfl | rfl
        · exact .inl rfl
        · exact .inr (.inl ⟨_, rfl⟩)
        · exact .inr (.inl ⟨_, rfl⟩)
        · exact .inr (.inr (.inr (.inl ⟨t1, _, rfl, lift _ _ ((ua.trans (ub.trans (uc.trans (ud.trans ue)))) _ _ f1) k1⟩)))
        · exact .inr (.inr (.inl ⟨_, rfl⟩))
        · exact .inr (.inr (.inr (.inr ⟨xa, _, _, _, rfl, lift _ _ ((ub.trans (uc.trans (ud.trans ue))) _ _ fa) ka, T.mk_Uneven.makes, ne_kit T.is_Uneven_ByPower T.is_ByPower_ByPower, ne_kit T.is_Uneven_Between T.is_Between_Between⟩)))
        · exact .inr (.inr (.inr (.inr ⟨xb, _, _, _, rfl, lift _ _ ((uc.trans (ud.trans ue)) _ _ fb) kb, T.mk_Whole.makes, ne_kit T.is_Whole_ByPower T.is_ByPower_ByPower, ne_kit T.is_Whole_Between T.is_Between_Between⟩)))
        · exact .inr (.inr (.inr (.inr ⟨xc, _, _, _, rfl, lift _ _ ((ud.trans ue) _ _ fc) kc, T.mk_NoWhole.makes, ne_kit T.is_NoWhole_ByPower T.is_ByPower_ByPower, ne_kit T.is_NoWhole_Between T.is_Between_Between⟩)))
        · exact .inr (.inr (.inr (.inr ⟨xd, _, _, _, rfl, lift _ _ (ue _ _ fd) kd, T.mk_Paper.makes, ne_kit T.is_Paper_ByPower T.is_ByPower_ByPower, ne_kit T.is_Paper_Between T.is_Between_Between⟩)))
        · exact .inr (.inr (.inr (.inr ⟨xe, _, _, _, rfl, lift _ _ fe ke, T.mk_Denial.makes, ne_kit T.is_Denial_ByPower T.is_ByPower_ByPower, ne_kit T.is_Denial_Between T.is_Between_Between⟩)))
        · exact .inr (.inr (.inr (.inl ⟨pq, _, rfl, lift _ _ hpq kq⟩)))
      refine ⟨_, rfl, _, rfl, _, rfl, _, rfl, _, rfl, _, rfl, h, c, _, lo, _, rfl, y, by omega, .of upd_same, klo, (by show 0 < 11; decide), (by show 11 ≤ 1000; decide), fun v9 Hv hv9 hhv bv => ?_⟩
      refine ⟨x1, x2, x3, x4, v9, false, rfl, g, h9, .inl ⟨rfl, odd Hv bv v9 hv9⟩, fun Hw sw => ⟨_, _, rfl, rfl, false, rfl, iteF ?_⟩⟩
      have bw := bv.trans (.of sw)
      refine ⟨_, rfl, _, rfl, _, rfl, _, rfl, _, rfl, _, rfl, h, c, _, lo, _, rfl, hhv.same sw, by omega, .of (bw _ _ upd_same klo), klo, (by show 0 < 11; decide), (by show 11 ≤ 1000; decide), fun v8 Hy hv8 hhy b8 => ?_⟩
      refine ⟨x1, x2, x3, x4, v8, false, rfl, g, h9, .inl ⟨rfl, odd Hy (bw.trans b8) v8 hv8⟩, fun Hz sz => ⟨_, _, rfl, rfl, false, rfl, iteF ?_⟩⟩
      exact ⟨(hhy.same sz).mono (by omega), some (.int (0 + (i : Int))), some (.int x1), some (.int x2), some (.int x3), some (.int x4), some (.ref x), some (.int n), some (.ref lv), some (.ref lr), z11, z12, z13, z14, some (.ref lo), rfl⟩
end
end Q

namespace Q
open PySem PySem.Spec PyProof.Rows L2
def mk_txt {K : PySem.W.Frag} {h : Heap} {mg : Str → Option Value} (X : K.In h) (G : h.Ns mainGlobals mg)
    {a_Paper__init__ : Addr} {od_Paper__init__ an_Paper__init__ : Option Addr} {sl_Paper__init__ : Array (Option Value)} {oc_Paper__init__ kV_Paper__init__ dc_Paper__init__ pm_Paper__init__ cd_Paper__init__ ct_Paper__init__ : Value}
    {a_Denial__init__ : Addr} {od_Denial__init__ an_Denial__init__ : Option Addr} {sl_Denial__init__ : Array (Option Value)} {oc_Denial__init__ kV_Denial__init__ dc_Denial__init__ pm_Denial__init__ cd_Denial__init__ ct_Denial__init__ : Value}
    {a_ByPower__init__ : Addr} {od_ByPower__init__ an_ByPower__init__ : Option Addr} {sl_ByPower__init__ : Array (Option Value)} {oc_ByPower__init__ kV_ByPower__init__ dc_ByPower__init__ pm_ByPower__init__ cd_ByPower__init__ ct_ByPower__init__ : Value}
    {a_Between__init__ : Addr} {od_Between__init__ an_Between__init__ : Option Addr} {sl_Between__init__ : Array (Option Value)} {oc_Between__init__ kV_Between__init__ dc_Between__init__ pm_Between__init__ cd_Between__init__ ct_Between__init__ : Value}
    {a_Uneven__init__ : Addr} {od_Uneven__init__ an_Uneven__init__ : Option Addr} {sl_Uneven__init__ : Array (Option Value)} {oc_Uneven__init__ kV_Uneven__init__ dc_Uneven__init__ pm_Uneven__init__ cd_Uneven__init__ ct_Uneven__init__ : Value}
    {a_Whole__init__ : Addr} {od_Whole__init__ an_Whole__init__ : Option Addr} {sl_Whole__init__ : Array (Option Value)} {oc_Whole__init__ kV_Whole__init__ dc_Whole__init__ pm_Whole__init__ cd_Whole__init__ ct_Whole__init__ : Value}
    {a_NoWhole__init__ : Addr} {od_NoWhole__init__ an_NoWhole__init__ : Option Addr} {sl_NoWhole__init__ : Array (Option Value)} {oc_NoWhole__init__ kV_NoWhole__init__ dc_NoWhole__init__ pm_NoWhole__init__ cd_NoWhole__init__ ct_NoWhole__init__ : Value}
    {a_Paper : Addr} (h1_Paper : PySem.W.nsIn K mainGlobals "Paper" = some (some (.ref a_Paper)))
    (h1_Paper__init__ : PySem.W.findIn K (.ref a_Paper) "__init__" = some (some (.ref a_Paper__init__)))
    {a_Denial : Addr} (h1_Denial : PySem.W.nsIn K mainGlobals "Denial" = some (some (.ref a_Denial)))
    (h1_Denial__init__ : PySem.W.findIn K (.ref a_Denial) "__init__" = some (some (.ref a_Denial__init__)))
    {a_ByPower : Addr} (h1_ByPower : PySem.W.nsIn K mainGlobals "ByPower" = some (some (.ref a_ByPower)))
    (h1_ByPower__init__ : PySem.W.findIn K (.ref a_ByPower) "__init__" = some (some (.ref a_ByPower__init__)))
    {a_Between : Addr} (h1_Between : PySem.W.nsIn K mainGlobals "Between" = some (some (.ref a_Between)))
    (h1_Between__init__ : PySem.W.findIn K (.ref a_Between) "__init__" = some (some (.ref a_Between__init__)))
    {a_Uneven : Addr} (h1_Uneven : PySem.W.nsIn K mainGlobals "Uneven" = some (some (.ref a_Uneven)))
    (h1_Uneven__init__ : PySem.W.findIn K (.ref a_Uneven) "__init__" = some (some (.ref a_Uneven__init__)))
    {a_Whole : Addr} (h1_Whole : PySem.W.nsIn K mainGlobals "Whole" = some (some (.ref a_Whole)))
    (h1_Whole__init__ : PySem.W.findIn K (.ref a_Whole) "__init__" = some (some (.ref a_Whole__init__)))
    {a_NoWhole : Addr} (h1_NoWhole : PySem.W.nsIn K mainGlobals "NoWhole" = some (some (.ref a_NoWhole)))
    (h1_NoWhole__init__ : PySem.W.findIn K (.ref a_NoWhole) "__init__" = some (some (.ref a_NoWhole__init__)))
    (h0_Paper__init__ : PySem.W.isFn K (.ref a_Paper__init__) = true)
    (h2_Paper__init__ : K.lookup a_Paper__init__ = some ⟨oc_Paper__init__, od_Paper__init__, .func (PySem.W.fnOf "__init__" "Paper.__init__" (defArgs s_Paper__init__) (defBody s_Paper__init__) (defScope s_Paper__init__) .none kV_Paper__init__ dc_Paper__init__ pm_Paper__init__ an_Paper__init__ cd_Paper__init__ ct_Paper__init__), sl_Paper__init__⟩)
    (h3_Paper__init__ : PySem.W.codeIn K cd_Paper__init__ "Paper.__init__" = true)
    (h4_Paper__init__ : PySem.W.keepIn K (.ref a_Paper__init__) = true)
    (h0_Denial__init__ : PySem.W.isFn K (.ref a_Denial__init__) = true)
    (h2_Denial__init__ : K.lookup a_Denial__init__ = some ⟨oc_Denial__init__, od_Denial__init__, .func (PySem.W.fnOf "__init__" "Denial.__init__" (defArgs s_Denial__init__) (defBody s_Denial__init__) (defScope s_Denial__init__) .none kV_Denial__init__ dc_Denial__init__ pm_Denial__init__ an_Denial__init__ cd_Denial__init__ ct_Denial__init__), sl_Denial__init__⟩)
    (h3_Denial__init__ : PySem.W.codeIn K cd_Denial__init__ "Denial.__init__" = true)
    (h4_Denial__init__ : PySem.W.keepIn K (.ref a_Denial__init__) = true)
    (h0_ByPower__init__ : PySem.W.isFn K (.ref a_ByPower__init__) = true)
    (h2_ByPower__init__ : K.lookup a_ByPower__init__ = some ⟨oc_ByPower__init__, od_ByPower__init__, .func (PySem.W.fnOf "__init__" "ByPower.__init__" (defArgs s_ByPower__init__) (defBody s_ByPower__init__) (defScope s_ByPower__init__) .none kV_ByPower__init__ dc_ByPower__init__ pm_ByPower__init__ an_ByPower__init__ cd_ByPower__init__ ct_ByPower__init__), sl_ByPower__init__⟩)
    (h3_ByPower__init__ : PySem.W.codeIn K cd_ByPower__init__ "ByPower.__init__" = true)
    (h4_ByPower__init__ : PySem.W.keepIn K (.ref a_ByPower__init__) = true)
    (h0_Between__init__ : PySem.W.isFn K (.ref a_Between__init__) = true)
    (h2_Between__init__ : K.lookup a_Between__init__ = some ⟨oc_Between__init__, od_Between__init__, .func (PySem.W.fnOf "__init__" "Between.__init__" (defArgs s_Between__init__) (defBody s_Between__init__) (defScope s_Between__init__) .none kV_Between__init__ dc_Between__init__ pm_Between__init__ an_Between__init__ cd_Between__init__ ct_Between__init__), sl_Between__init__⟩)
    (h3_Between__init__ : PySem.W.codeIn K cd_Between__init__ "Between.__init__" = true)
    (h4_Between__init__ : PySem.W.keepIn K (.ref a_Between__init__) = true)
    (h0_Uneven__init__ : PySem.W.isFn K (.ref a_Uneven__init__) = true)
    (h2_Uneven__init__ : K.lookup a_Uneven__init__ = some ⟨oc_Uneven__init__, od_Uneven__init__, .func (PySem.W.fnOf "__init__" "Uneven.__init__" (defArgs s_Uneven__init__) (defBody s_Uneven__init__) (defScope s_Uneven__init__) .none kV_Uneven__init__ dc_Uneven__init__ pm_Uneven__init__ an_Uneven__init__ cd_Uneven__init__ ct_Uneven__init__), sl_Uneven__init__⟩)
    (h3_Uneven__init__ : PySem.W.codeIn K cd_Uneven__init__ "Uneven.__init__" = true)
    (h4_Uneven__init__ : PySem.W.keepIn K (.ref a_Uneven__init__) = true)
    (h0_Whole__init__ : PySem.W.isFn K (.ref a_Whole__init__) = true)
    (h2_Whole__init__ : K.lookup a_Whole__init__ = some ⟨oc_Whole__init__, od_Whole__init__, .func (PySem.W.fnOf "__init__" "Whole.__init__" (defArgs s_Whole__init__) (defBody s_Whole__init__) (defScope s_Whole__init__) .none kV_Whole__init__ dc_Whole__init__ pm_Whole__init__ an_Whole__init__ cd_Whole__init__ ct_Whole__init__), sl_Whole__init__⟩)
    (h3_Whole__init__ : PySem.W.codeIn K cd_Whole__init__ "Whole.__init__" = true)
    (h4_Whole__init__ : PySem.W.keepIn K (.ref a_Whole__init__) = true)
    (h0_NoWhole__init__ : PySem.W.isFn K (.ref a_NoWhole__init__) = true)
    (h2_NoWhole__init__ : K.lookup a_NoWhole__init__ = some ⟨oc_NoWhole__init__, od_NoWhole__init__, .func (PySem.W.fnOf "__init__" "NoWhole.__init__" (defArgs s_NoWhole__init__) (defBody s_NoWhole__init__) (defScope s_NoWhole__init__) .none kV_NoWhole__init__ dc_NoWhole__init__ pm_NoWhole__init__ an_NoWhole__init__ cd_NoWhole__init__ ct_NoWhole__init__), sl_NoWhole__init__⟩)
    (h3_NoWhole__init__ : PySem.W.codeIn K cd_NoWhole__init__ "NoWhole.__init__" = true)
    (h4_NoWhole__init__ : PySem.W.keepIn K (.ref a_NoWhole__init__) = true)
    (pg_Paper : PySem.W.plainGet K a_Paper Str.empty = true)
    (hd_Paper : PySem.W.hasDictIn K a_Paper = true)
    (po_Paper : PySem.W.plainOver K a_Paper = true)
    (sa_Paper : PySem.W.findIn K (.ref a_Paper) "__setattr__" = some (some (.builtin "object.__setattr__")))
    (mk_Paper : PySem.W.makesIn K a_Paper = true)
    (kc_Paper : PySem.W.keepIn K (.ref a_Paper) = true)
    (ha_Paper : PySem.W.findIn K (.ref a_Paper) "__class__" = some (some (.builtin "object.__class__")))
    (hm_Paper : PySem.W.mroIn K a_Paper (.type "object") = some true)
    (na_Paper_word : PySem.W.findIn K (.ref a_Paper) "word" = some none)
    (na_Paper_parts : PySem.W.findIn K (.ref a_Paper) "parts" = some none)
    (r1_Paper : PySem.W.readsIn K a_Paper (.type "type") = true)
    (r2_Paper : PySem.W.specialIn K (.ref a_Paper) "__getattribute__" = some (some (.builtin "type.__getattribute__")))
    (r3_Paper__init__ : PySem.W.findCls K (.ref a_Paper) (.type "type") "__init__" = some (.val (.ref a_Paper__init__)))
    (is_Paper_ByPower : PySem.W.kitOne K (.ref a_Paper) (.ref a_ByPower) = some false)
    (is_Paper_Between : PySem.W.kitOne K (.ref a_Paper) (.ref a_Between) = some false)
    (pg_Denial : PySem.W.plainGet K a_Denial Str.empty = true)
    (hd_Denial : PySem.W.hasDictIn K a_Denial = true)
    (po_Denial : PySem.W.plainOver K a_Denial = true)
    (sa_Denial : PySem.W.findIn K (.ref a_Denial) "__setattr__" = some (some (.builtin "object.__setattr__")))
    (mk_Denial : PySem.W.makesIn K a_Denial = true)
    (kc_Denial : PySem.W.keepIn K (.ref a_Denial) = true)
    (ha_Denial : PySem.W.findIn K (.ref a_Denial) "__class__" = some (some (.builtin "object.__class__")))
    (hm_Denial : PySem.W.mroIn K a_Denial (.type "object") = some true)
    (na_Denial_word : PySem.W.findIn K (.ref a_Denial) "word" = some none)
    (na_Denial_parts : PySem.W.findIn K (.ref a_Denial) "parts" = some none)
    (r1_Denial : PySem.W.readsIn K a_Denial (.type "type") = true)
    (r2_Denial : PySem.W.specialIn K (.ref a_Denial) "__getattribute__" = some (some (.builtin "type.__getattribute__")))
    (r3_Denial__init__ : PySem.W.findCls K (.ref a_Denial) (.type "type") "__init__" = some (.val (.ref a_Denial__init__)))
    (is_Denial_ByPower : PySem.W.kitOne K (.ref a_Denial) (.ref a_ByPower) = some false)
    (is_Denial_Between : PySem.W.kitOne K (.ref a_Denial) (.ref a_Between) = some false)
    (pg_ByPower : PySem.W.plainGet K a_ByPower Str.empty = true)
    (hd_ByPower : PySem.W.hasDictIn K a_ByPower = true)
    (po_ByPower : PySem.W.plainOver K a_ByPower = true)
    (sa_ByPower : PySem.W.findIn K (.ref a_ByPower) "__setattr__" = some (some (.builtin "object.__setattr__")))
    (mk_ByPower : PySem.W.makesIn K a_ByPower = true)
    (kc_ByPower : PySem.W.keepIn K (.ref a_ByPower) = true)
    (ha_ByPower : PySem.W.findIn K (.ref a_ByPower) "__class__" = some (some (.builtin "object.__class__")))
    (hm_ByPower : PySem.W.mroIn K a_ByPower (.type "object") = some true)
    (na_ByPower_word : PySem.W.findIn K (.ref a_ByPower) "word" = some none)
    (na_ByPower_parts : PySem.W.findIn K (.ref a_ByPower) "parts" = some none)
    (na_ByPower_power : PySem.W.findIn K (.ref a_ByPower) "power" = some none)
    (is_ByPower_ByPower : PySem.W.kitOne K (.ref a_ByPower) (.ref a_ByPower) = some true)
    (is_ByPower_Between : PySem.W.kitOne K (.ref a_ByPower) (.ref a_Between) = some false)
    (pg_Between : PySem.W.plainGet K a_Between Str.empty = true)
    (hd_Between : PySem.W.hasDictIn K a_Between = true)
    (po_Between : PySem.W.plainOver K a_Between = true)
    (sa_Between : PySem.W.findIn K (.ref a_Between) "__setattr__" = some (some (.builtin "object.__setattr__")))
    (mk_Between : PySem.W.makesIn K a_Between = true)
    (kc_Between : PySem.W.keepIn K (.ref a_Between) = true)
    (ha_Between : PySem.W.findIn K (.ref a_Between) "__class__" = some (some (.builtin "object.__class__")))
    (hm_Between : PySem.W.mroIn K a_Between (.type "object") = some true)
    (na_Between_word : PySem.W.findIn K (.ref a_Between) "word" = some none)
    (na_Between_parts : PySem.W.findIn K (.ref a_Between) "parts" = some none)
    (na_Between_low : PySem.W.findIn K (.ref a_Between) "low" = some none)
    (is_Between_Between : PySem.W.kitOne K (.ref a_Between) (.ref a_Between) = some true)
    (is_Between_ByPower : PySem.W.kitOne K (.ref a_Between) (.ref a_ByPower) = some false)
    (pg_Uneven : PySem.W.plainGet K a_Uneven Str.empty = true)
    (hd_Uneven : PySem.W.hasDictIn K a_Uneven = true)
    (po_Uneven : PySem.W.plainOver K a_Uneven = true)
    (sa_Uneven : PySem.W.findIn K (.ref a_Uneven) "__setattr__" = some (some (.builtin "object.__setattr__")))
    (mk_Uneven : PySem.W.makesIn K a_Uneven = true)
    (kc_Uneven : PySem.W.keepIn K (.ref a_Uneven) = true)
    (ha_Uneven : PySem.W.findIn K (.ref a_Uneven) "__class__" = some (some (.builtin "object.__class__")))
    (hm_Uneven : PySem.W.mroIn K a_Uneven (.type "object") = some true)
    (na_Uneven_word : PySem.W.findIn K (.ref a_Uneven) "word" = some none)
    (na_Uneven_parts : PySem.W.findIn K (.ref a_Uneven) "parts" = some none)
    (na_Uneven_step : PySem.W.findIn K (.ref a_Uneven) "step" = some none)
    (is_Uneven_ByPower : PySem.W.kitOne K (.ref a_Uneven) (.ref a_ByPower) = some false)
    (is_Uneven_Between : PySem.W.kitOne K (.ref a_Uneven) (.ref a_Between) = some false)
    (pg_Whole : PySem.W.plainGet K a_Whole Str.empty = true)
    (hd_Whole : PySem.W.hasDictIn K a_Whole = true)
    (po_Whole : PySem.W.plainOver K a_Whole = true)
    (sa_Whole : PySem.W.findIn K (.ref a_Whole) "__setattr__" = some (some (.builtin "object.__setattr__")))
    (mk_Whole : PySem.W.makesIn K a_Whole = true)
    (kc_Whole : PySem.W.keepIn K (.ref a_Whole) = true)
    (ha_Whole : PySem.W.findIn K (.ref a_Whole) "__class__" = some (some (.builtin "object.__class__")))
    (hm_Whole : PySem.W.mroIn K a_Whole (.type "object") = some true)
    (na_Whole_word : PySem.W.findIn K (.ref a_Whole) "word" = some none)
    (na_Whole_parts : PySem.W.findIn K (.ref a_Whole) "parts" = some none)
    (na_Whole_number : PySem.W.findIn K (.ref a_Whole) "number" = some none)
    (is_Whole_ByPower : PySem.W.kitOne K (.ref a_Whole) (.ref a_ByPower) = some false)
    (is_Whole_Between : PySem.W.kitOne K (.ref a_Whole) (.ref a_Between) = some false)
    (pg_NoWhole : PySem.W.plainGet K a_NoWhole Str.empty = true)
    (hd_NoWhole : PySem.W.hasDictIn K a_NoWhole = true)
    (po_NoWhole : PySem.W.plainOver K a_NoWhole = true)
    (sa_NoWhole : PySem.W.findIn K (.ref a_NoWhole) "__setattr__" = some (some (.builtin "object.__setattr__")))
    (mk_NoWhole : PySem.W.makesIn K a_NoWhole = true)
    (kc_NoWhole : PySem.W.keepIn K (.ref a_NoWhole) = true)
    (ha_NoWhole : PySem.W.findIn K (.ref a_NoWhole) "__class__" = some (some (.builtin "object.__class__")))
    (hm_NoWhole : PySem.W.mroIn K a_NoWhole (.type "object") = some true)
    (na_NoWhole_word : PySem.W.findIn K (.ref a_NoWhole) "word" = some none)
    (na_NoWhole_parts : PySem.W.findIn K (.ref a_NoWhole) "parts" = some none)
    (na_NoWhole_low : PySem.W.findIn K (.ref a_NoWhole) "low" = some none)
    (is_NoWhole_ByPower : PySem.W.kitOne K (.ref a_NoWhole) (.ref a_ByPower) = some false)
    (is_NoWhole_Between : PySem.W.kitOne K (.ref a_NoWhole) (.ref a_Between) = some false)
    (hn_ : PySem.W.specialIn K (.builtin "object.__class__") "__get__" = some (some (.builtin "getset_descriptor.__get__")))
    (ht_ : PySem.W.takesIn K (.builtin "object.__class__") = some true)
    {a_is_integer : Addr} {od_is_integer an_is_integer : Option Addr} {sl_is_integer : Array (Option Value)} {oc_is_integer kV_is_integer dc_is_integer pm_is_integer cd_is_integer ct_is_integer : Value}
    (h1_is_integer : PySem.W.nsIn K mainGlobals "is_integer" = some (some (.ref a_is_integer)))
    (h2_is_integer : K.lookup a_is_integer = some ⟨oc_is_integer, od_is_integer, .func (PySem.W.fnOf "is_integer" "is_integer" (defArgs s_is_integer) (defBody s_is_integer) (defScope s_is_integer) .none kV_is_integer dc_is_integer pm_is_integer an_is_integer cd_is_integer ct_is_integer), sl_is_integer⟩)
    (h3_is_integer : PySem.W.codeIn K cd_is_integer "is_integer" = true)
    (h4_is_integer : PySem.W.keepIn K (.ref a_is_integer) = true)
    {a_is_within : Addr} {od_is_within an_is_within : Option Addr} {sl_is_within : Array (Option Value)} {oc_is_within kV_is_within dc_is_within pm_is_within cd_is_within ct_is_within : Value}
    (h1_is_within : PySem.W.nsIn K mainGlobals "is_within" = some (some (.ref a_is_within)))
    (h2_is_within : K.lookup a_is_within = some ⟨oc_is_within, od_is_within, .func (PySem.W.fnOf "is_within" "is_within" (defArgs s_is_within) (defBody s_is_within) (defScope s_is_within) .none kV_is_within dc_is_within pm_is_within an_is_within cd_is_within ct_is_within), sl_is_within⟩)
    (h3_is_within : PySem.W.codeIn K cd_is_within "is_within" = true)
    (h4_is_within : PySem.W.keepIn K (.ref a_is_within) = true)
    {a_need_within : Addr} {od_need_within an_need_within : Option Addr} {sl_need_within : Array (Option Value)} {oc_need_within kV_need_within dc_need_within pm_need_within cd_need_within ct_need_within : Value}
    (h1_need_within : PySem.W.nsIn K mainGlobals "need_within" = some (some (.ref a_need_within)))
    (h2_need_within : K.lookup a_need_within = some ⟨oc_need_within, od_need_within, .func (PySem.W.fnOf "need_within" "need_within" (defArgs s_need_within) (defBody s_need_within) (defScope s_need_within) .none kV_need_within dc_need_within pm_need_within an_need_within cd_need_within ct_need_within), sl_need_within⟩)
    (h3_need_within : PySem.W.codeIn K cd_need_within "need_within" = true)
    (h4_need_within : PySem.W.keepIn K (.ref a_need_within) = true)
    {a_need_growing : Addr} {od_need_growing an_need_growing : Option Addr} {sl_need_growing : Array (Option Value)} {oc_need_growing kV_need_growing dc_need_growing pm_need_growing cd_need_growing ct_need_growing : Value}
    (h1_need_growing : PySem.W.nsIn K mainGlobals "need_growing" = some (some (.ref a_need_growing)))
    (h2_need_growing : K.lookup a_need_growing = some ⟨oc_need_growing, od_need_growing, .func (PySem.W.fnOf "need_growing" "need_growing" (defArgs s_need_growing) (defBody s_need_growing) (defScope s_need_growing) .none kV_need_growing dc_need_growing pm_need_growing an_need_growing cd_need_growing ct_need_growing), sl_need_growing⟩)
    (h3_need_growing : PySem.W.codeIn K cd_need_growing "need_growing" = true)
    (h4_need_growing : PySem.W.keepIn K (.ref a_need_growing) = true)
    {a_fixed : Addr} {od_fixed an_fixed : Option Addr} {sl_fixed : Array (Option Value)} {oc_fixed kV_fixed dc_fixed pm_fixed cd_fixed ct_fixed : Value}
    (h1_fixed : PySem.W.nsIn K mainGlobals "fixed" = some (some (.ref a_fixed)))
    (h2_fixed : K.lookup a_fixed = some ⟨oc_fixed, od_fixed, .func (PySem.W.fnOf "fixed" "fixed" (defArgs s_fixed) (defBody s_fixed) (defScope s_fixed) .none kV_fixed dc_fixed pm_fixed an_fixed cd_fixed ct_fixed), sl_fixed⟩)
    (h3_fixed : PySem.W.codeIn K cd_fixed "fixed" = true)
    (h4_fixed : PySem.W.keepIn K (.ref a_fixed) = true)
    {a_raised : Addr} {od_raised an_raised : Option Addr} {sl_raised : Array (Option Value)} {oc_raised kV_raised dc_raised pm_raised cd_raised ct_raised : Value}
    (h1_raised : PySem.W.nsIn K mainGlobals "raised" = some (some (.ref a_raised)))
    (h2_raised : K.lookup a_raised = some ⟨oc_raised, od_raised, .func (PySem.W.fnOf "raised" "raised" (defArgs s_raised) (defBody s_raised) (defScope s_raised) .none kV_raised dc_raised pm_raised an_raised cd_raised ct_raised), sl_raised⟩)
    (h3_raised : PySem.W.codeIn K cd_raised "raised" = true)
    (h4_raised : PySem.W.keepIn K (.ref a_raised) = true)
    {a_whole_sum : Addr} {od_whole_sum an_whole_sum : Option Addr} {sl_whole_sum : Array (Option Value)} {oc_whole_sum kV_whole_sum dc_whole_sum pm_whole_sum cd_whole_sum ct_whole_sum : Value}
    (h1_whole_sum : PySem.W.nsIn K mainGlobals "whole_sum" = some (some (.ref a_whole_sum)))
    (h2_whole_sum : K.lookup a_whole_sum = some ⟨oc_whole_sum, od_whole_sum, .func (PySem.W.fnOf "whole_sum" "whole_sum" (defArgs s_whole_sum) (defBody s_whole_sum) (defScope s_whole_sum) .none kV_whole_sum dc_whole_sum pm_whole_sum an_whole_sum cd_whole_sum ct_whole_sum), sl_whole_sum⟩)
    (h3_whole_sum : PySem.W.codeIn K cd_whole_sum "whole_sum" = true)
    (h4_whole_sum : PySem.W.keepIn K (.ref a_whole_sum) = true)
    {a_is_by_power : Addr} {od_is_by_power an_is_by_power : Option Addr} {sl_is_by_power : Array (Option Value)} {oc_is_by_power kV_is_by_power dc_is_by_power pm_is_by_power cd_is_by_power ct_is_by_power : Value}
    (h1_is_by_power : PySem.W.nsIn K mainGlobals "is_by_power" = some (some (.ref a_is_by_power)))
    (h2_is_by_power : K.lookup a_is_by_power = some ⟨oc_is_by_power, od_is_by_power, .func (PySem.W.fnOf "is_by_power" "is_by_power" (defArgs s_is_by_power) (defBody s_is_by_power) (defScope s_is_by_power) .none kV_is_by_power dc_is_by_power pm_is_by_power an_is_by_power cd_is_by_power ct_is_by_power), sl_is_by_power⟩)
    (h3_is_by_power : PySem.W.codeIn K cd_is_by_power "is_by_power" = true)
    (h4_is_by_power : PySem.W.keepIn K (.ref a_is_by_power) = true)
    {a_power_of : Addr} {od_power_of an_power_of : Option Addr} {sl_power_of : Array (Option Value)} {oc_power_of kV_power_of dc_power_of pm_power_of cd_power_of ct_power_of : Value}
    (h1_power_of : PySem.W.nsIn K mainGlobals "power_of" = some (some (.ref a_power_of)))
    (h2_power_of : K.lookup a_power_of = some ⟨oc_power_of, od_power_of, .func (PySem.W.fnOf "power_of" "power_of" (defArgs s_power_of) (defBody s_power_of) (defScope s_power_of) .none kV_power_of dc_power_of pm_power_of an_power_of cd_power_of ct_power_of), sl_power_of⟩)
    (h3_power_of : PySem.W.codeIn K cd_power_of "power_of" = true)
    (h4_power_of : PySem.W.keepIn K (.ref a_power_of) = true)
    {a_is_between : Addr} {od_is_between an_is_between : Option Addr} {sl_is_between : Array (Option Value)} {oc_is_between kV_is_between dc_is_between pm_is_between cd_is_between ct_is_between : Value}
    (h1_is_between : PySem.W.nsIn K mainGlobals "is_between" = some (some (.ref a_is_between)))
    (h2_is_between : K.lookup a_is_between = some ⟨oc_is_between, od_is_between, .func (PySem.W.fnOf "is_between" "is_between" (defArgs s_is_between) (defBody s_is_between) (defScope s_is_between) .none kV_is_between dc_is_between pm_is_between an_is_between cd_is_between ct_is_between), sl_is_between⟩)
    (h3_is_between : PySem.W.codeIn K cd_is_between "is_between" = true)
    (h4_is_between : PySem.W.keepIn K (.ref a_is_between) = true)
    {a_shows_power : Addr} {od_shows_power an_shows_power : Option Addr} {sl_shows_power : Array (Option Value)} {oc_shows_power kV_shows_power dc_shows_power pm_shows_power cd_shows_power ct_shows_power : Value}
    (h1_shows_power : PySem.W.nsIn K mainGlobals "shows_power" = some (some (.ref a_shows_power)))
    (h2_shows_power : K.lookup a_shows_power = some ⟨oc_shows_power, od_shows_power, .func (PySem.W.fnOf "shows_power" "shows_power" (defArgs s_shows_power) (defBody s_shows_power) (defScope s_shows_power) .none kV_shows_power dc_shows_power pm_shows_power an_shows_power cd_shows_power ct_shows_power), sl_shows_power⟩)
    (h3_shows_power : PySem.W.codeIn K cd_shows_power "shows_power" = true)
    (h4_shows_power : PySem.W.keepIn K (.ref a_shows_power) = true)
    {a__law_hat : Addr} {od__law_hat an__law_hat : Option Addr} {sl__law_hat : Array (Option Value)} {oc__law_hat kV__law_hat dc__law_hat pm__law_hat cd__law_hat ct__law_hat : Value}
    (h1__law_hat : PySem.W.nsIn K mainGlobals "_law_hat" = some (some (.ref a__law_hat)))
    (h2__law_hat : K.lookup a__law_hat = some ⟨oc__law_hat, od__law_hat, .func (PySem.W.fnOf "_law_hat" "_law_hat" (defArgs s__law_hat) (defBody s__law_hat) (defScope s__law_hat) .none kV__law_hat dc__law_hat pm__law_hat an__law_hat cd__law_hat ct__law_hat), sl__law_hat⟩)
    (h3__law_hat : PySem.W.codeIn K cd__law_hat "_law_hat" = true)
    (h4__law_hat : PySem.W.keepIn K (.ref a__law_hat) = true)
    {a__law_lot : Addr} {od__law_lot an__law_lot : Option Addr} {sl__law_lot : Array (Option Value)} {oc__law_lot kV__law_lot dc__law_lot pm__law_lot cd__law_lot ct__law_lot : Value}
    (h1__law_lot : PySem.W.nsIn K mainGlobals "_law_lot" = some (some (.ref a__law_lot)))
    (h2__law_lot : K.lookup a__law_lot = some ⟨oc__law_lot, od__law_lot, .func (PySem.W.fnOf "_law_lot" "_law_lot" (defArgs s__law_lot) (defBody s__law_lot) (defScope s__law_lot) .none kV__law_lot dc__law_lot pm__law_lot an__law_lot cd__law_lot ct__law_lot), sl__law_lot⟩)
    (h3__law_lot : PySem.W.codeIn K cd__law_lot "_law_lot" = true)
    (h4__law_lot : PySem.W.keepIn K (.ref a__law_lot) = true)
    {a__law_one : Addr} {od__law_one an__law_one : Option Addr} {sl__law_one : Array (Option Value)} {oc__law_one kV__law_one dc__law_one pm__law_one cd__law_one ct__law_one : Value}
    (h1__law_one : PySem.W.nsIn K mainGlobals "_law_one" = some (some (.ref a__law_one)))
    (h2__law_one : K.lookup a__law_one = some ⟨oc__law_one, od__law_one, .func (PySem.W.fnOf "_law_one" "_law_one" (defArgs s__law_one) (defBody s__law_one) (defScope s__law_one) .none kV__law_one dc__law_one pm__law_one an__law_one cd__law_one ct__law_one), sl__law_one⟩)
    (h3__law_one : PySem.W.codeIn K cd__law_one "_law_one" = true)
    (h4__law_one : PySem.W.keepIn K (.ref a__law_one) = true)
    {a__law_any : Addr} {od__law_any an__law_any : Option Addr} {sl__law_any : Array (Option Value)} {oc__law_any kV__law_any dc__law_any pm__law_any cd__law_any ct__law_any : Value}
    (h1__law_any : PySem.W.nsIn K mainGlobals "_law_any" = some (some (.ref a__law_any)))
    (h2__law_any : K.lookup a__law_any = some ⟨oc__law_any, od__law_any, .func (PySem.W.fnOf "_law_any" "_law_any" (defArgs s__law_any) (defBody s__law_any) (defScope s__law_any) .none kV__law_any dc__law_any pm__law_any an__law_any cd__law_any ct__law_any), sl__law_any⟩)
    (h3__law_any : PySem.W.codeIn K cd__law_any "_law_any" = true)
    (h4__law_any : PySem.W.keepIn K (.ref a__law_any) = true)
    {a__law_grows : Addr} {od__law_grows an__law_grows : Option Addr} {sl__law_grows : Array (Option Value)} {oc__law_grows kV__law_grows dc__law_grows pm__law_grows cd__law_grows ct__law_grows : Value}
    (h1__law_grows : PySem.W.nsIn K mainGlobals "_law_grows" = some (some (.ref a__law_grows)))
    (h2__law_grows : K.lookup a__law_grows = some ⟨oc__law_grows, od__law_grows, .func (PySem.W.fnOf "_law_grows" "_law_grows" (defArgs s__law_grows) (defBody s__law_grows) (defScope s__law_grows) .none kV__law_grows dc__law_grows pm__law_grows an__law_grows cd__law_grows ct__law_grows), sl__law_grows⟩)
    (h3__law_grows : PySem.W.codeIn K cd__law_grows "_law_grows" = true)
    (h4__law_grows : PySem.W.keepIn K (.ref a__law_grows) = true)
    {a__law_planted : Addr} {od__law_planted an__law_planted : Option Addr} {sl__law_planted : Array (Option Value)} {oc__law_planted kV__law_planted dc__law_planted pm__law_planted cd__law_planted ct__law_planted : Value}
    (h1__law_planted : PySem.W.nsIn K mainGlobals "_law_planted" = some (some (.ref a__law_planted)))
    (h2__law_planted : K.lookup a__law_planted = some ⟨oc__law_planted, od__law_planted, .func (PySem.W.fnOf "_law_planted" "_law_planted" (defArgs s__law_planted) (defBody s__law_planted) (defScope s__law_planted) .none kV__law_planted dc__law_planted pm__law_planted an__law_planted cd__law_planted ct__law_planted), sl__law_planted⟩)
    (h3__law_planted : PySem.W.codeIn K cd__law_planted "_law_planted" = true)
    (h4__law_planted : PySem.W.keepIn K (.ref a__law_planted) = true)
    {a__law_four : Addr} {od__law_four an__law_four : Option Addr} {sl__law_four : Array (Option Value)} {oc__law_four kV__law_four dc__law_four pm__law_four cd__law_four ct__law_four : Value}
    (h1__law_four : PySem.W.nsIn K mainGlobals "_law_four" = some (some (.ref a__law_four)))
    (h2__law_four : K.lookup a__law_four = some ⟨oc__law_four, od__law_four, .func (PySem.W.fnOf "_law_four" "_law_four" (defArgs s__law_four) (defBody s__law_four) (defScope s__law_four) .none kV__law_four dc__law_four pm__law_four an__law_four cd__law_four ct__law_four), sl__law_four⟩)
    (h3__law_four : PySem.W.codeIn K cd__law_four "_law_four" = true)
    (h4__law_four : PySem.W.keepIn K (.ref a__law_four) = true)
    {a__law_raised : Addr} {od__law_raised an__law_raised : Option Addr} {sl__law_raised : Array (Option Value)} {oc__law_raised kV__law_raised dc__law_raised pm__law_raised cd__law_raised ct__law_raised : Value}
    (h1__law_raised : PySem.W.nsIn K mainGlobals "_law_raised" = some (some (.ref a__law_raised)))
    (h2__law_raised : K.lookup a__law_raised = some ⟨oc__law_raised, od__law_raised, .func (PySem.W.fnOf "_law_raised" "_law_raised" (defArgs s__law_raised) (defBody s__law_raised) (defScope s__law_raised) .none kV__law_raised dc__law_raised pm__law_raised an__law_raised cd__law_raised ct__law_raised), sl__law_raised⟩)
    (h3__law_raised : PySem.W.codeIn K cd__law_raised "_law_raised" = true)
    (h4__law_raised : PySem.W.keepIn K (.ref a__law_raised) = true)
    {a__law_sum : Addr} {od__law_sum an__law_sum : Option Addr} {sl__law_sum : Array (Option Value)} {oc__law_sum kV__law_sum dc__law_sum pm__law_sum cd__law_sum ct__law_sum : Value}
    (h1__law_sum : PySem.W.nsIn K mainGlobals "_law_sum" = some (some (.ref a__law_sum)))
    (h2__law_sum : K.lookup a__law_sum = some ⟨oc__law_sum, od__law_sum, .func (PySem.W.fnOf "_law_sum" "_law_sum" (defArgs s__law_sum) (defBody s__law_sum) (defScope s__law_sum) .none kV__law_sum dc__law_sum pm__law_sum an__law_sum cd__law_sum ct__law_sum), sl__law_sum⟩)
    (h3__law_sum : PySem.W.codeIn K cd__law_sum "_law_sum" = true)
    (h4__law_sum : PySem.W.keepIn K (.ref a__law_sum) = true)
    {a__law_is_by : Addr} {od__law_is_by an__law_is_by : Option Addr} {sl__law_is_by : Array (Option Value)} {oc__law_is_by kV__law_is_by dc__law_is_by pm__law_is_by cd__law_is_by ct__law_is_by : Value}
    (h1__law_is_by : PySem.W.nsIn K mainGlobals "_law_is_by" = some (some (.ref a__law_is_by)))
    (h2__law_is_by : K.lookup a__law_is_by = some ⟨oc__law_is_by, od__law_is_by, .func (PySem.W.fnOf "_law_is_by" "_law_is_by" (defArgs s__law_is_by) (defBody s__law_is_by) (defScope s__law_is_by) .none kV__law_is_by dc__law_is_by pm__law_is_by an__law_is_by cd__law_is_by ct__law_is_by), sl__law_is_by⟩)
    (h3__law_is_by : PySem.W.codeIn K cd__law_is_by "_law_is_by" = true)
    (h4__law_is_by : PySem.W.keepIn K (.ref a__law_is_by) = true)
    {a__law_is_whole : Addr} {od__law_is_whole an__law_is_whole : Option Addr} {sl__law_is_whole : Array (Option Value)} {oc__law_is_whole kV__law_is_whole dc__law_is_whole pm__law_is_whole cd__law_is_whole ct__law_is_whole : Value}
    (h1__law_is_whole : PySem.W.nsIn K mainGlobals "_law_is_whole" = some (some (.ref a__law_is_whole)))
    (h2__law_is_whole : K.lookup a__law_is_whole = some ⟨oc__law_is_whole, od__law_is_whole, .func (PySem.W.fnOf "_law_is_whole" "_law_is_whole" (defArgs s__law_is_whole) (defBody s__law_is_whole) (defScope s__law_is_whole) .none kV__law_is_whole dc__law_is_whole pm__law_is_whole an__law_is_whole cd__law_is_whole ct__law_is_whole), sl__law_is_whole⟩)
    (h3__law_is_whole : PySem.W.codeIn K cd__law_is_whole "_law_is_whole" = true)
    (h4__law_is_whole : PySem.W.keepIn K (.ref a__law_is_whole) = true)
    {a__law_lies_between : Addr} {od__law_lies_between an__law_lies_between : Option Addr} {sl__law_lies_between : Array (Option Value)} {oc__law_lies_between kV__law_lies_between dc__law_lies_between pm__law_lies_between cd__law_lies_between ct__law_lies_between : Value}
    (h1__law_lies_between : PySem.W.nsIn K mainGlobals "_law_lies_between" = some (some (.ref a__law_lies_between)))
    (h2__law_lies_between : K.lookup a__law_lies_between = some ⟨oc__law_lies_between, od__law_lies_between, .func (PySem.W.fnOf "_law_lies_between" "_law_lies_between" (defArgs s__law_lies_between) (defBody s__law_lies_between) (defScope s__law_lies_between) .none kV__law_lies_between dc__law_lies_between pm__law_lies_between an__law_lies_between cd__law_lies_between ct__law_lies_between), sl__law_lies_between⟩)
    (h3__law_lies_between : PySem.W.codeIn K cd__law_lies_between "_law_lies_between" = true)
    (h4__law_lies_between : PySem.W.keepIn K (.ref a__law_lies_between) = true)
    {a__law_is_power : Addr} {od__law_is_power an__law_is_power : Option Addr} {sl__law_is_power : Array (Option Value)} {oc__law_is_power kV__law_is_power dc__law_is_power pm__law_is_power cd__law_is_power ct__law_is_power : Value}
    (h1__law_is_power : PySem.W.nsIn K mainGlobals "_law_is_power" = some (some (.ref a__law_is_power)))
    (h2__law_is_power : K.lookup a__law_is_power = some ⟨oc__law_is_power, od__law_is_power, .func (PySem.W.fnOf "_law_is_power" "_law_is_power" (defArgs s__law_is_power) (defBody s__law_is_power) (defScope s__law_is_power) .none kV__law_is_power dc__law_is_power pm__law_is_power an__law_is_power cd__law_is_power ct__law_is_power), sl__law_is_power⟩)
    (h3__law_is_power : PySem.W.codeIn K cd__law_is_power "_law_is_power" = true)
    (h4__law_is_power : PySem.W.keepIn K (.ref a__law_is_power) = true)
    {a__law_values : Addr} {od__law_values an__law_values : Option Addr} {sl__law_values : Array (Option Value)} {oc__law_values kV__law_values dc__law_values pm__law_values cd__law_values ct__law_values : Value}
    (h1__law_values : PySem.W.nsIn K mainGlobals "_law_values" = some (some (.ref a__law_values)))
    (h2__law_values : K.lookup a__law_values = some ⟨oc__law_values, od__law_values, .func (PySem.W.fnOf "_law_values" "_law_values" (defArgs s__law_values) (defBody s__law_values) (defScope s__law_values) .none kV__law_values dc__law_values pm__law_values an__law_values cd__law_values ct__law_values), sl__law_values⟩)
    (h3__law_values : PySem.W.codeIn K cd__law_values "_law_values" = true)
    (h4__law_values : PySem.W.keepIn K (.ref a__law_values) = true)
    {a_law : Addr} {od_law an_law : Option Addr} {sl_law : Array (Option Value)} {oc_law kV_law dc_law pm_law cd_law ct_law : Value}
    (h1_law : PySem.W.nsIn K mainGlobals "law" = some (some (.ref a_law)))
    (h2_law : K.lookup a_law = some ⟨oc_law, od_law, .func (PySem.W.fnOf "law" "law" (defArgs s_law) (defBody s_law) (defScope s_law) .none kV_law dc_law pm_law an_law cd_law ct_law), sl_law⟩)
    (h3_law : PySem.W.codeIn K cd_law "law" = true)
    (h4_law : PySem.W.keepIn K (.ref a_law) = true)
    {t_LEAST_POWER : Tok} (z_LEAST_POWER : PySem.W.nsIn K mainGlobals "LEAST_POWER" = some (some (.int (-80) t_LEAST_POWER)))
    {t_MOST_POWER : Tok} (z_MOST_POWER : PySem.W.nsIn K mainGlobals "MOST_POWER" = some (some (.int (80) t_MOST_POWER)))
    {t_MOST_SMALL : Tok} (z_MOST_SMALL : PySem.W.nsIn K mainGlobals "MOST_SMALL" = some (some (.int (99) t_MOST_SMALL)))
    (z_abs : PySem.W.nsIn K mainGlobals "abs" = some none)
    (z_bool : PySem.W.nsIn K mainGlobals "bool" = some none)
    (z_int : PySem.W.nsIn K mainGlobals "int" = some none)
    (z_isinstance : PySem.W.nsIn K mainGlobals "isinstance" = some none)
    (z_len : PySem.W.nsIn K mainGlobals "len" = some none)
    (z_list : PySem.W.nsIn K mainGlobals "list" = some none)
    (z_range : PySem.W.nsIn K mainGlobals "range" = some none)
    (z_set : PySem.W.nsIn K mainGlobals "set" = some none)
    (z_sorted : PySem.W.nsIn K mainGlobals "sorted" = some none)
    (z_str : PySem.W.nsIn K mainGlobals "str" = some none)
    (z_tuple : PySem.W.nsIn K mainGlobals "tuple" = some none)
    (z_type : PySem.W.nsIn K mainGlobals "type" = some none) : Txt K mg where
  f_Paper__init__ := ⟨a_Paper__init__, _, fun_mk (st := s_Paper__init__) h2_Paper__init__ h3_Paper__init__ h4_Paper__init__, h0_Paper__init__⟩
  f_Denial__init__ := ⟨a_Denial__init__, _, fun_mk (st := s_Denial__init__) h2_Denial__init__ h3_Denial__init__ h4_Denial__init__, h0_Denial__init__⟩
  f_ByPower__init__ := ⟨a_ByPower__init__, _, fun_mk (st := s_ByPower__init__) h2_ByPower__init__ h3_ByPower__init__ h4_ByPower__init__, h0_ByPower__init__, (fun_mk (st := s_ByPower__init__) h2_ByPower__init__ h3_ByPower__init__ h4_ByPower__init__).binds fun _ _ _ _ _ _ us hl => match us, hl with | [_, _], _ => rfl⟩
  f_Between__init__ := ⟨a_Between__init__, _, fun_mk (st := s_Between__init__) h2_Between__init__ h3_Between__init__ h4_Between__init__, h0_Between__init__, (fun_mk (st := s_Between__init__) h2_Between__init__ h3_Between__init__ h4_Between__init__).binds fun _ _ _ _ _ _ us hl => match us, hl with | [_, _], _ => rfl⟩
  f_Uneven__init__ := ⟨a_Uneven__init__, _, fun_mk (st := s_Uneven__init__) h2_Uneven__init__ h3_Uneven__init__ h4_Uneven__init__, h0_Uneven__init__, (fun_mk (st := s_Uneven__init__) h2_Uneven__init__ h3_Uneven__init__ h4_Uneven__init__).binds fun _ _ _ _ _ _ us hl => match us, hl with | [_, _], _ => rfl⟩
  f_Whole__init__ := ⟨a_Whole__init__, _, fun_mk (st := s_Whole__init__) h2_Whole__init__ h3_Whole__init__ h4_Whole__init__, h0_Whole__init__, (fun_mk (st := s_Whole__init__) h2_Whole__init__ h3_Whole__init__ h4_Whole__init__).binds fun _ _ _ _ _ _ us hl => match us, hl with | [_, _], _ => rfl⟩
  f_NoWhole__init__ := ⟨a_NoWhole__init__, _, fun_mk (st := s_NoWhole__init__) h2_NoWhole__init__ h3_NoWhole__init__ h4_NoWhole__init__, h0_NoWhole__init__, (fun_mk (st := s_NoWhole__init__) h2_NoWhole__init__ h3_NoWhole__init__ h4_NoWhole__init__).binds fun _ _ _ _ _ _ us hl => match us, hl with | [_, _], _ => rfl⟩
  k_Paper := ⟨a_Paper, PySem.W.mg_of X G h1_Paper, ⟨pg_Paper, hd_Paper, po_Paper, sa_Paper⟩, kc_Paper, ha_Paper, hn_, ht_, hm_Paper, mk_Paper⟩
  na_Paper_word := na_Paper_word
  na_Paper_parts := na_Paper_parts
  at_Paper__init__ := h1_Paper__init__
  mk_Paper := ⟨mk_Paper, h1_Paper__init__, h0_Paper__init__, kc_Paper⟩
  mc_Paper := .type "type"
  cr_Paper := ⟨r1_Paper, r2_Paper⟩
  cv_Paper__init__ := ⟨r3_Paper__init__, rfl⟩
  is_Paper_ByPower := is_Paper_ByPower
  is_Paper_Between := is_Paper_Between
  k_Denial := ⟨a_Denial, PySem.W.mg_of X G h1_Denial, ⟨pg_Denial, hd_Denial, po_Denial, sa_Denial⟩, kc_Denial, ha_Denial, hn_, ht_, hm_Denial, mk_Denial⟩
  na_Denial_word := na_Denial_word
  na_Denial_parts := na_Denial_parts
  at_Denial__init__ := h1_Denial__init__
  mk_Denial := ⟨mk_Denial, h1_Denial__init__, h0_Denial__init__, kc_Denial⟩
  mc_Denial := .type "type"
  cr_Denial := ⟨r1_Denial, r2_Denial⟩
  cv_Denial__init__ := ⟨r3_Denial__init__, rfl⟩
  is_Denial_ByPower := is_Denial_ByPower
  is_Denial_Between := is_Denial_Between
  k_ByPower := ⟨a_ByPower, PySem.W.mg_of X G h1_ByPower, ⟨pg_ByPower, hd_ByPower, po_ByPower, sa_ByPower⟩, kc_ByPower, ha_ByPower, hn_, ht_, hm_ByPower, mk_ByPower⟩
  na_ByPower_word := na_ByPower_word
  na_ByPower_parts := na_ByPower_parts
  na_ByPower_power := na_ByPower_power
  at_ByPower__init__ := h1_ByPower__init__
  mk_ByPower := ⟨mk_ByPower, h1_ByPower__init__, h0_ByPower__init__, kc_ByPower⟩
  is_ByPower_ByPower := is_ByPower_ByPower
  is_ByPower_Between := is_ByPower_Between
  k_Between := ⟨a_Between, PySem.W.mg_of X G h1_Between, ⟨pg_Between, hd_Between, po_Between, sa_Between⟩, kc_Between, ha_Between, hn_, ht_, hm_Between, mk_Between⟩
  na_Between_word := na_Between_word
  na_Between_parts := na_Between_parts
  na_Between_low := na_Between_low
  at_Between__init__ := h1_Between__init__
  mk_Between := ⟨mk_Between, h1_Between__init__, h0_Between__init__, kc_Between⟩
  is_Between_Between := is_Between_Between
  is_Between_ByPower := is_Between_ByPower
  k_Uneven := ⟨a_Uneven, PySem.W.mg_of X G h1_Uneven, ⟨pg_Uneven, hd_Uneven, po_Uneven, sa_Uneven⟩, kc_Uneven, ha_Uneven, hn_, ht_, hm_Uneven, mk_Uneven⟩
  na_Uneven_word := na_Uneven_word
  na_Uneven_parts := na_Uneven_parts
  na_Uneven_step := na_Uneven_step
  at_Uneven__init__ := h1_Uneven__init__
  mk_Uneven := ⟨mk_Uneven, h1_Uneven__init__, h0_Uneven__init__, kc_Uneven⟩
  is_Uneven_ByPower := is_Uneven_ByPower
  is_Uneven_Between := is_Uneven_Between
  k_Whole := ⟨a_Whole, PySem.W.mg_of X G h1_Whole, ⟨pg_Whole, hd_Whole, po_Whole, sa_Whole⟩, kc_Whole, ha_Whole, hn_, ht_, hm_Whole, mk_Whole⟩
  na_Whole_word := na_Whole_word
  na_Whole_parts := na_Whole_parts
  na_Whole_number := na_Whole_number
  at_Whole__init__ := h1_Whole__init__
  mk_Whole := ⟨mk_Whole, h1_Whole__init__, h0_Whole__init__, kc_Whole⟩
  is_Whole_ByPower := is_Whole_ByPower
  is_Whole_Between := is_Whole_Between
  k_NoWhole := ⟨a_NoWhole, PySem.W.mg_of X G h1_NoWhole, ⟨pg_NoWhole, hd_NoWhole, po_NoWhole, sa_NoWhole⟩, kc_NoWhole, ha_NoWhole, hn_, ht_, hm_NoWhole, mk_NoWhole⟩
  na_NoWhole_word := na_NoWhole_word
  na_NoWhole_parts := na_NoWhole_parts
  na_NoWhole_low := na_NoWhole_low
  at_NoWhole__init__ := h1_NoWhole__init__
  mk_NoWhole := ⟨mk_NoWhole, h1_NoWhole__init__, h0_NoWhole__init__, kc_NoWhole⟩
  is_NoWhole_ByPower := is_NoWhole_ByPower
  is_NoWhole_Between := is_NoWhole_Between
  f_is_integer := ⟨a_is_integer, _, fun_mk (st := s_is_integer) h2_is_integer h3_is_integer h4_is_integer, PySem.W.mg_of X G h1_is_integer, (fun_mk (st := s_is_integer) h2_is_integer h3_is_integer h4_is_integer).binds fun _ _ _ _ _ _ us hl => match us, hl with | [_], _ => rfl⟩
  f_is_within := ⟨a_is_within, _, fun_mk (st := s_is_within) h2_is_within h3_is_within h4_is_within, PySem.W.mg_of X G h1_is_within, (fun_mk (st := s_is_within) h2_is_within h3_is_within h4_is_within).binds fun _ _ _ _ _ _ us hl => match us, hl with | [_, _, _], _ => rfl⟩
  f_need_within := ⟨a_need_within, _, fun_mk (st := s_need_within) h2_need_within h3_need_within h4_need_within, PySem.W.mg_of X G h1_need_within, (fun_mk (st := s_need_within) h2_need_within h3_need_within h4_need_within).binds fun _ _ _ _ _ _ us hl => match us, hl with | [_, _, _, _], _ => rfl⟩
  f_need_growing := ⟨a_need_growing, _, fun_mk (st := s_need_growing) h2_need_growing h3_need_growing h4_need_growing, PySem.W.mg_of X G h1_need_growing, (fun_mk (st := s_need_growing) h2_need_growing h3_need_growing h4_need_growing).binds fun _ _ _ _ _ _ us hl => match us, hl with | [_, _, _, _], _ => rfl⟩
  f_fixed := ⟨a_fixed, _, fun_mk (st := s_fixed) h2_fixed h3_fixed h4_fixed, PySem.W.mg_of X G h1_fixed, (fun_mk (st := s_fixed) h2_fixed h3_fixed h4_fixed).binds fun _ _ _ _ _ _ us hl => match us, hl with | [_], _ => rfl⟩
  f_raised := ⟨a_raised, _, fun_mk (st := s_raised) h2_raised h3_raised h4_raised, PySem.W.mg_of X G h1_raised, (fun_mk (st := s_raised) h2_raised h3_raised h4_raised).binds fun _ _ _ _ _ _ us hl => match us, hl with | [_, _], _ => rfl⟩
  f_whole_sum := ⟨a_whole_sum, _, fun_mk (st := s_whole_sum) h2_whole_sum h3_whole_sum h4_whole_sum, PySem.W.mg_of X G h1_whole_sum, (fun_mk (st := s_whole_sum) h2_whole_sum h3_whole_sum h4_whole_sum).binds fun _ _ _ _ _ _ us hl => match us, hl with | [_, _, _, _, _], _ => rfl⟩
  f_is_by_power := ⟨a_is_by_power, _, fun_mk (st := s_is_by_power) h2_is_by_power h3_is_by_power h4_is_by_power, PySem.W.mg_of X G h1_is_by_power, (fun_mk (st := s_is_by_power) h2_is_by_power h3_is_by_power h4_is_by_power).binds fun _ _ _ _ _ _ us hl => match us, hl with | [_, _, _, _, _], _ => rfl⟩
  f_power_of := ⟨a_power_of, _, fun_mk (st := s_power_of) h2_power_of h3_power_of h4_power_of, PySem.W.mg_of X G h1_power_of, (fun_mk (st := s_power_of) h2_power_of h3_power_of h4_power_of).binds fun _ _ _ _ _ _ us hl => match us, hl with | [_, _, _, _], _ => rfl⟩
  f_is_between := ⟨a_is_between, _, fun_mk (st := s_is_between) h2_is_between h3_is_between h4_is_between, PySem.W.mg_of X G h1_is_between, (fun_mk (st := s_is_between) h2_is_between h3_is_between h4_is_between).binds fun _ _ _ _ _ _ us hl => match us, hl with | [_, _, _, _, _], _ => rfl⟩
  f_shows_power := ⟨a_shows_power, _, fun_mk (st := s_shows_power) h2_shows_power h3_shows_power h4_shows_power, PySem.W.mg_of X G h1_shows_power, (fun_mk (st := s_shows_power) h2_shows_power h3_shows_power h4_shows_power).binds fun _ _ _ _ _ _ us hl => match us, hl with | [_, _, _, _, _], _ => rfl⟩
  f__law_hat := ⟨a__law_hat, _, fun_mk (st := s__law_hat) h2__law_hat h3__law_hat h4__law_hat, PySem.W.mg_of X G h1__law_hat, (fun_mk (st := s__law_hat) h2__law_hat h3__law_hat h4__law_hat).binds fun _ _ _ _ _ _ us hl => match us, hl with | [_], _ => rfl⟩
  f__law_lot := ⟨a__law_lot, _, fun_mk (st := s__law_lot) h2__law_lot h3__law_lot h4__law_lot, PySem.W.mg_of X G h1__law_lot, (fun_mk (st := s__law_lot) h2__law_lot h3__law_lot h4__law_lot).binds fun _ _ _ _ _ _ us hl => match us, hl with | [_, _], _ => rfl⟩
  f__law_one := ⟨a__law_one, _, fun_mk (st := s__law_one) h2__law_one h3__law_one h4__law_one, PySem.W.mg_of X G h1__law_one, (fun_mk (st := s__law_one) h2__law_one h3__law_one h4__law_one).binds fun _ _ _ _ _ _ us hl => match us, hl with | [_, _], _ => rfl⟩
  f__law_any := ⟨a__law_any, _, fun_mk (st := s__law_any) h2__law_any h3__law_any h4__law_any, PySem.W.mg_of X G h1__law_any, (fun_mk (st := s__law_any) h2__law_any h3__law_any h4__law_any).binds fun _ _ _ _ _ _ us hl => match us, hl with | [_], _ => rfl⟩
  f__law_grows := ⟨a__law_grows, _, fun_mk (st := s__law_grows) h2__law_grows h3__law_grows h4__law_grows, PySem.W.mg_of X G h1__law_grows, (fun_mk (st := s__law_grows) h2__law_grows h3__law_grows h4__law_grows).binds fun _ _ _ _ _ _ us hl => match us, hl with | [_], _ => rfl⟩
  f__law_planted := ⟨a__law_planted, _, fun_mk (st := s__law_planted) h2__law_planted h3__law_planted h4__law_planted, PySem.W.mg_of X G h1__law_planted, (fun_mk (st := s__law_planted) h2__law_planted h3__law_planted h4__law_planted).binds fun _ _ _ _ _ _ us hl => match us, hl with | [_], _ => rfl⟩
  f__law_four := ⟨a__law_four, _, fun_mk (st := s__law_four) h2__law_four h3__law_four h4__law_four, PySem.W.mg_of X G h1__law_four, (fun_mk (st := s__law_four) h2__law_four h3__law_four h4__law_four).binds fun _ _ _ _ _ _ us hl => match us, hl with | [_], _ => rfl⟩
  f__law_raised := ⟨a__law_raised, _, fun_mk (st := s__law_raised) h2__law_raised h3__law_raised h4__law_raised, PySem.W.mg_of X G h1__law_raised, (fun_mk (st := s__law_raised) h2__law_raised h3__law_raised h4__law_raised).binds fun _ _ _ _ _ _ us hl => match us, hl with | [_, _], _ => rfl⟩
  f__law_sum := ⟨a__law_sum, _, fun_mk (st := s__law_sum) h2__law_sum h3__law_sum h4__law_sum, PySem.W.mg_of X G h1__law_sum, (fun_mk (st := s__law_sum) h2__law_sum h3__law_sum h4__law_sum).binds fun _ _ _ _ _ _ us hl => match us, hl with | [_, _, _, _, _], _ => rfl⟩
  f__law_is_by := ⟨a__law_is_by, _, fun_mk (st := s__law_is_by) h2__law_is_by h3__law_is_by h4__law_is_by, PySem.W.mg_of X G h1__law_is_by, (fun_mk (st := s__law_is_by) h2__law_is_by h3__law_is_by h4__law_is_by).binds fun _ _ _ _ _ _ us hl => match us, hl with | [_, _, _, _, _], _ => rfl⟩
  f__law_is_whole := ⟨a__law_is_whole, _, fun_mk (st := s__law_is_whole) h2__law_is_whole h3__law_is_whole h4__law_is_whole, PySem.W.mg_of X G h1__law_is_whole, (fun_mk (st := s__law_is_whole) h2__law_is_whole h3__law_is_whole h4__law_is_whole).binds fun _ _ _ _ _ _ us hl => match us, hl with | [_, _, _], _ => rfl⟩
  f__law_lies_between := ⟨a__law_lies_between, _, fun_mk (st := s__law_lies_between) h2__law_lies_between h3__law_lies_between h4__law_lies_between, PySem.W.mg_of X G h1__law_lies_between, (fun_mk (st := s__law_lies_between) h2__law_lies_between h3__law_lies_between h4__law_lies_between).binds fun _ _ _ _ _ _ us hl => match us, hl with | [_, _, _, _, _], _ => rfl⟩
  f__law_is_power := ⟨a__law_is_power, _, fun_mk (st := s__law_is_power) h2__law_is_power h3__law_is_power h4__law_is_power, PySem.W.mg_of X G h1__law_is_power, (fun_mk (st := s__law_is_power) h2__law_is_power h3__law_is_power h4__law_is_power).binds fun _ _ _ _ _ _ us hl => match us, hl with | [_, _, _, _, _], _ => rfl⟩
  f__law_values := ⟨a__law_values, _, fun_mk (st := s__law_values) h2__law_values h3__law_values h4__law_values, PySem.W.mg_of X G h1__law_values, (fun_mk (st := s__law_values) h2__law_values h3__law_values h4__law_values).binds fun _ _ _ _ _ _ us hl => match us, hl with | [_, _], _ => rfl⟩
  f_law := ⟨a_law, _, fun_mk (st := s_law) h2_law h3_law h4_law, PySem.W.mg_of X G h1_law, (fun_mk (st := s_law) h2_law h3_law h4_law).binds fun _ _ _ _ _ _ us hl => match us, hl with | [_], _ => rfl⟩
  t_LEAST_POWER := t_LEAST_POWER
  c_LEAST_POWER := PySem.W.mg_of X G z_LEAST_POWER
  t_MOST_POWER := t_MOST_POWER
  c_MOST_POWER := PySem.W.mg_of X G z_MOST_POWER
  t_MOST_SMALL := t_MOST_SMALL
  c_MOST_SMALL := PySem.W.mg_of X G z_MOST_SMALL
  n_abs := PySem.W.mg_none_of X G z_abs
  n_bool := PySem.W.mg_none_of X G z_bool
  n_int := PySem.W.mg_none_of X G z_int
  n_isinstance := PySem.W.mg_none_of X G z_isinstance
  n_len := PySem.W.mg_none_of X G z_len
  n_list := PySem.W.mg_none_of X G z_list
  n_range := PySem.W.mg_none_of X G z_range
  n_set := PySem.W.mg_none_of X G z_set
  n_sorted := PySem.W.mg_none_of X G z_sorted
  n_str := PySem.W.mg_none_of X G z_str
  n_tuple := PySem.W.mg_none_of X G z_tuple
  n_type := PySem.W.mg_none_of X G z_type
theorem all_mk {l : PySem.W.OpenLaw} {w : World} {K : PySem.W.Frag} {mg : Str → Option Value} {fa : Addr} (T : Txt K mg) (hfa : mg "law" = some (.ref fa)) :
    ∃ fd : FuncData, (∀ (s : Shared) (v : Value), BindsTo s fd ⟨[v], []⟩ [("_law_script", v)]) ∧ ∀ base : Heap, K.In base → base.Ns mainGlobals mg → FnOk l.prog w K mg base CX0 9 fa fd ["_law_script"] (spLaw K) := by
  have e := hfa.symm.trans T.f_law.g
  cases e
  refine ⟨T.f_law.fd, fun s v => ?_, fun base _ _ => ok_law T⟩
  obtain ⟨oc, od, kV, doc, pm, an, cdv, ct, osl, e, lk, hcd⟩ := T.f_law.F.ex
  rw [e]
  exact .of_eq rfl
end Q
open PySem PySem.W PyProof.Rows
set_option maxHeartbeats 0 in
theorem PySem.Challenge.cw_fourthlike_k20_papers_on_powers_bent_holds : PySem.Challenge.rw_fourthlike_k20_papers_on_powers_bent.Holds := by
  w_on; o_law; k_head; (case hw => w_witness2)
  k_fill
  refine L2.walk_of (l := PySem.Challenge.rw_fourthlike_k20_papers_on_powers_bent) (n := 63) (k := 9) (x := "_law_script") (CX := fun _ => L2.CX0) (sp := fun w => Q.spLaw _) rfl (by decide) rfl ⟨rfl, by decide, by decide⟩ (fun w h Y => PySem.W.kIn_of Y) ?F (fun _ _ a ns hl _ hS => ⟨a, ns, rfl, hS, hl, fun _ => rfl⟩) (fun _ _ _ _ _ h => h)
  case F =>
    intro w mg fa h KX G hmg
    refine Q.all_mk ?T hmg
    case T =>
      refine' Q.mk_txt KX G ?h1_Paper ?h1_Paper__init__ ?h1_Denial ?h1_Denial__init__ ?h1_ByPower ?h1_ByPower__init__ ?h1_Between ?h1_Between__init__ ?h1_Uneven ?h1_Uneven__init__ ?h1_Whole ?h1_Whole__init__ ?h1_NoWhole ?h1_NoWhole__init__ ?h0_Paper__init__ ?h2_Paper__init__ ?h3_Paper__init__ ?h4_Paper__init__ ?h0_Denial__init__ ?h2_Denial__init__ ?h3_Denial__init__ ?h4_Denial__init__ ?h0_ByPower__init__ ?h2_ByPower__init__ ?h3_ByPower__init__ ?h4_ByPower__init__ ?h0_Between__init__ ?h2_Between__init__ ?h3_Between__init__ ?h4_Between__init__ ?h0_Uneven__init__ ?h2_Uneven__init__ ?h3_Uneven__init__ ?h4_Uneven__init__ ?h0_Whole__init__ ?h2_Whole__init__ ?h3_Whole__init__ ?h4_Whole__init__ ?h0_NoWhole__init__ ?h2_NoWhole__init__ ?h3_NoWhole__init__ ?h4_NoWhole__init__ ?pg_Paper ?hd_Paper ?po_Paper ?sa_Paper ?mk_Paper ?kc_Paper ?ha_Paper ?hm_Paper ?na_Paper_word ?na_Paper_parts ?r1_Paper ?r2_Paper ?r3_Paper__init__ ?is_Paper_ByPower ?is_Paper_Between ?pg_Denial ?hd_Denial ?po_Denial ?sa_Denial ?mk_Denial ?kc_Denial ?ha_Denial ?hm_Denial ?na_Denial_word ?na_Denial_parts ?r1_Denial ?r2_Denial ?r3_Denial__init__ ?is_Denial_ByPower ?is_Denial_Between ?pg_ByPower ?hd_ByPower ?po_ByPower ?sa_ByPower ?mk_ByPower ?kc_ByPower ?ha_ByPower ?hm_ByPower ?na_ByPower_word ?na_ByPower_parts ?na_ByPower_power ?is_ByPower_ByPower ?is_ByPower_Between ?pg_Between ?hd_Between ?po_Between ?sa_Between ?mk_Between ?kc_Between ?ha_Between ?hm_Between ?na_Between_word ?na_Between_parts ?na_Between_low ?is_Between_Between ?is_Between_ByPower ?pg_Uneven ?hd_Uneven ?po_Uneven ?sa_Uneven ?mk_Uneven ?kc_Uneven ?ha_Uneven ?hm_Uneven ?na_Uneven_word ?na_Uneven_parts ?na_Uneven_step ?is_Uneven_ByPower ?is_Uneven_Between ?pg_Whole ?hd_Whole ?po_Whole ?sa_Whole ?mk_Whole ?kc_Whole ?ha_Whole ?hm_Whole ?na_Whole_word ?na_Whole_parts ?na_Whole_number ?is_Whole_ByPower ?is_Whole_Between ?pg_NoWhole ?hd_NoWhole ?po_NoWhole ?sa_NoWhole ?mk_NoWhole ?kc_NoWhole ?ha_NoWhole ?hm_NoWhole ?na_NoWhole_word ?na_NoWhole_parts ?na_NoWhole_low ?is_NoWhole_ByPower ?is_NoWhole_Between ?hn_ ?ht_ ?h1_is_integer ?h2_is_integer ?h3_is_integer ?h4_is_integer ?h1_is_within ?h2_is_within ?h3_is_within ?h4_is_within ?h1_need_within ?h2_need_within ?h3_need_within ?h4_need_within ?h1_need_growing ?h2_need_growing ?h3_need_growing ?h4_need_growing ?h1_fixed ?h2_fixed ?h3_fixed ?h4_fixed ?h1_raised ?h2_raised ?h3_raised ?h4_raised ?h1_whole_sum ?h2_whole_sum ?h3_whole_sum ?h4_whole_sum ?h1_is_by_power ?h2_is_by_power ?h3_is_by_power ?h4_is_by_power ?h1_power_of ?h2_power_of ?h3_power_of ?h4_power_of ?h1_is_between ?h2_is_between ?h3_is_between ?h4_is_between ?h1_shows_power ?h2_shows_power ?h3_shows_power ?h4_shows_power ?h1__law_hat ?h2__law_hat ?h3__law_hat ?h4__law_hat ?h1__law_lot ?h2__law_lot ?h3__law_lot ?h4__law_lot ?h1__law_one ?h2__law_one ?h3__law_one ?h4__law_one ?h1__law_any ?h2__law_any ?h3__law_any ?h4__law_any ?h1__law_grows ?h2__law_grows ?h3__law_grows ?h4__law_grows ?h1__law_planted ?h2__law_planted ?h3__law_planted ?h4__law_planted ?h1__law_four ?h2__law_four ?h3__law_four ?h4__law_four ?h1__law_raised ?h2__law_raised ?h3__law_raised ?h4__law_raised ?h1__law_sum ?h2__law_sum ?h3__law_sum ?h4__law_sum ?h1__law_is_by ?h2__law_is_by ?h3__law_is_by ?h4__law_is_by ?h1__law_is_whole ?h2__law_is_whole ?h3__law_is_whole ?h4__law_is_whole ?h1__law_lies_between ?h2__law_lies_between ?h3__law_lies_between ?h4__law_lies_between ?h1__law_is_power ?h2__law_is_power ?h3__law_is_power ?h4__law_is_power ?h1__law_values ?h2__law_values ?h3__law_values ?h4__law_values ?h1_law ?h2_law ?h3_law ?h4_law ?z_LEAST_POWER ?z_MOST_POWER ?z_MOST_SMALL ?z_abs ?z_bool ?z_int ?z_isinstance ?z_len ?z_list ?z_range ?z_set ?z_sorted ?z_str ?z_tuple ?z_type
      (case h1_Paper => k_is)
      (case h1_Paper__init__ => k_is)
      (case h1_Denial => k_is)
      (case h1_Denial__init__ => k_is)
      (case h1_ByPower => k_is)
      (case h1_ByPower__init__ => k_is)
      (case h1_Between => k_is)
      (case h1_Between__init__ => k_is)
      (case h1_Uneven => k_is)
      (case h1_Uneven__init__ => k_is)
      (case h1_Whole => k_is)
      (case h1_Whole__init__ => k_is)
      (case h1_NoWhole => k_is)
      (case h1_NoWhole__init__ => k_is)
      (case h0_Paper__init__ => k_is)
      (case h2_Paper__init__ => k_is)
      (case h3_Paper__init__ => k_is)
      (case h4_Paper__init__ => k_is)
      (case h0_Denial__init__ => k_is)
      (case h2_Denial__init__ => k_is)
      (case h3_Denial__init__ => k_is)
      (case h4_Denial__init__ => k_is)
      (case h0_ByPower__init__ => k_is)
      (case h2_ByPower__init__ => k_is)
      (case h3_ByPower__init__ => k_is)
      (case h4_ByPower__init__ => k_is)
      (case h0_Between__init__ => k_is)
      (case h2_Between__init__ => k_is)
      (case h3_Between__init__ => k_is)
      (case h4_Between__init__ => k_is)
      (case h0_Uneven__init__ => k_is)
      (case h2_Uneven__init__ => k_is)
      (case h3_Uneven__init__ => k_is)
      (case h4_Uneven__init__ => k_is)
      (case h0_Whole__init__ => k_is)
      (case h2_Whole__init__ => k_is)
      (case h3_Whole__init__ => k_is)
      (case h4_Whole__init__ => k_is)
      (case h0_NoWhole__init__ => k_is)
      (case h2_NoWhole__init__ => k_is)
      (case h3_NoWhole__init__ => k_is)
      (case h4_NoWhole__init__ => k_is)
      (case pg_Paper => k_is)
      (case hd_Paper => k_is)
      (case po_Paper => k_is)
      (case sa_Paper => k_is)
      (case mk_Paper => k_is)
      (case kc_Paper => k_is)
      (case ha_Paper => k_is)
      (case hm_Paper => k_is)
      (case na_Paper_word => k_is)
      (case na_Paper_parts => k_is)
      (case r1_Paper => k_is)
      (case r2_Paper => k_is)
      (case r3_Paper__init__ => k_is)
      (case is_Paper_ByPower => kit_is)
      (case is_Paper_Between => kit_is)
      (case pg_Denial => k_is)
      (case hd_Denial => k_is)
      (case po_Denial => k_is)
      (case sa_Denial => k_is)
      (case mk_Denial => k_is)
      (case kc_Denial => k_is)
      (case ha_Denial => k_is)
      (case hm_Denial => k_is)
      (case na_Denial_word => k_is)
      (case na_Denial_parts => k_is)
      (case r1_Denial => k_is)
      (case r2_Denial => k_is)
      (case r3_Denial__init__ => k_is)
      (case is_Denial_ByPower => kit_is)
      (case is_Denial_Between => kit_is)
      (case pg_ByPower => k_is)
      (case hd_ByPower => k_is)
      (case po_ByPower => k_is)
      (case sa_ByPower => k_is)
      (case mk_ByPower => k_is)
      (case kc_ByPower => k_is)
      (case ha_ByPower => k_is)
      (case hm_ByPower => k_is)
      (case na_ByPower_word => k_is)
      (case na_ByPower_parts => k_is)
      (case na_ByPower_power => k_is)
      (case is_ByPower_ByPower => kit_is)
      (case is_ByPower_Between => kit_is)
      (case pg_Between => k_is)
      (case hd_Between => k_is)
      (case po_Between => k_is)
      (case sa_Between => k_is)
      (case mk_Between => k_is)
      (case kc_Between => k_is)
      (case ha_Between => k_is)
      (case hm_Between => k_is)
      (case na_Between_word => k_is)
      (case na_Between_parts => k_is)
      (case na_Between_low => k_is)
      (case is_Between_Between => kit_is)
      (case is_Between_ByPower => kit_is)
      (case pg_Uneven => k_is)
      (case hd_Uneven => k_is)
      (case po_Uneven => k_is)
      (case sa_Uneven => k_is)
      (case mk_Uneven => k_is)
      (case kc_Uneven => k_is)
      (case ha_Uneven => k_is)
      (case hm_Uneven => k_is)
      (case na_Uneven_word => k_is)
      (case na_Uneven_parts => k_is)
      (case na_Uneven_step => k_is)
      (case is_Uneven_ByPower => kit_is)
      (case is_Uneven_Between => kit_is)
      (case pg_Whole => k_is)
      (case hd_Whole => k_is)
      (case po_Whole => k_is)
      (case sa_Whole => k_is)
      (case mk_Whole => k_is)
      (case kc_Whole => k_is)
      (case ha_Whole => k_is)
      (case hm_Whole => k_is)
      (case na_Whole_word => k_is)
      (case na_Whole_parts => k_is)
      (case na_Whole_number => k_is)
      (case is_Whole_ByPower => kit_is)
      (case is_Whole_Between => kit_is)
      (case pg_NoWhole => k_is)
      (case hd_NoWhole => k_is)
      (case po_NoWhole => k_is)
      (case sa_NoWhole => k_is)
      (case mk_NoWhole => k_is)
      (case kc_NoWhole => k_is)
      (case ha_NoWhole => k_is)
      (case hm_NoWhole => k_is)
      (case na_NoWhole_word => k_is)
      (case na_NoWhole_parts => k_is)
      (case na_NoWhole_low => k_is)
      (case is_NoWhole_ByPower => kit_is)
      (case is_NoWhole_Between => kit_is)
      (case hn_ => k_is)
      (case ht_ => k_is)
      (case h1_is_integer => k_is)
      (case h2_is_integer => k_is)
      (case h3_is_integer => k_is)
      (case h4_is_integer => k_is)
      (case h1_is_within => k_is)
      (case h2_is_within => k_is)
      (case h3_is_within => k_is)
      (case h4_is_within => k_is)
      (case h1_need_within => k_is)
      (case h2_need_within => k_is)
      (case h3_need_within => k_is)
      (case h4_need_within => k_is)
      (case h1_need_growing => k_is)
      (case h2_need_growing => k_is)
      (case h3_need_growing => k_is)
      (case h4_need_growing => k_is)
      (case h1_fixed => k_is)
      (case h2_fixed => k_is)
      (case h3_fixed => k_is)
      (case h4_fixed => k_is)
      (case h1_raised => k_is)
      (case h2_raised => k_is)
      (case h3_raised => k_is)
      (case h4_raised => k_is)
      (case h1_whole_sum => k_is)
      (case h2_whole_sum => k_is)
      (case h3_whole_sum => k_is)
      (case h4_whole_sum => k_is)
      (case h1_is_by_power => k_is)
      (case h2_is_by_power => k_is)
      (case h3_is_by_power => k_is)
      (case h4_is_by_power => k_is)
      (case h1_power_of => k_is)
      (case h2_power_of => k_is)
      (case h3_power_of => k_is)
      (case h4_power_of => k_is)
      (case h1_is_between => k_is)
      (case h2_is_between => k_is)
      (case h3_is_between => k_is)
      (case h4_is_between => k_is)
      (case h1_shows_power => k_is)
      (case h2_shows_power => k_is)
      (case h3_shows_power => k_is)
      (case h4_shows_power => k_is)
      (case h1__law_hat => k_is)
      (case h2__law_hat => k_is)
      (case h3__law_hat => k_is)
      (case h4__law_hat => k_is)
      (case h1__law_lot => k_is)
      (case h2__law_lot => k_is)
      (case h3__law_lot => k_is)
      (case h4__law_lot => k_is)
      (case h1__law_one => k_is)
      (case h2__law_one => k_is)
      (case h3__law_one => k_is)
      (case h4__law_one => k_is)
      (case h1__law_any => k_is)
      (case h2__law_any => k_is)
      (case h3__law_any => k_is)
      (case h4__law_any => k_is)
      (case h1__law_grows => k_is)
      (case h2__law_grows => k_is)
      (case h3__law_grows => k_is)
      (case h4__law_grows => k_is)
      (case h1__law_planted => k_is)
      (case h2__law_planted => k_is)
      (case h3__law_planted => k_is)
      (case h4__law_planted => k_is)
      (case h1__law_four => k_is)
      (case h2__law_four => k_is)
      (case h3__law_four => k_is)
      (case h4__law_four => k_is)
      (case h1__law_raised => k_is)
      (case h2__law_raised => k_is)
      (case h3__law_raised => k_is)
      (case h4__law_raised => k_is)
      (case h1__law_sum => k_is)
      (case h2__law_sum => k_is)
      (case h3__law_sum => k_is)
      (case h4__law_sum => k_is)
      (case h1__law_is_by => k_is)
      (case h2__law_is_by => k_is)
      (case h3__law_is_by => k_is)
      (case h4__law_is_by => k_is)
      (case h1__law_is_whole => k_is)
      (case h2__law_is_whole => k_is)
      (case h3__law_is_whole => k_is)
      (case h4__law_is_whole => k_is)
      (case h1__law_lies_between => k_is)
      (case h2__law_lies_between => k_is)
      (case h3__law_lies_between => k_is)
      (case h4__law_lies_between => k_is)
      (case h1__law_is_power => k_is)
      (case h2__law_is_power => k_is)
      (case h3__law_is_power => k_is)
      (case h4__law_is_power => k_is)
      (case h1__law_values => k_is)
      (case h2__law_values => k_is)
      (case h3__law_values => k_is)
      (case h4__law_values => k_is)
      (case h1_law => k_is)
      (case h2_law => k_is)
      (case h3_law => k_is)
      (case h4_law => k_is)
      (case z_LEAST_POWER => k_is)
      (case z_MOST_POWER => k_is)
      (case z_MOST_SMALL => k_is)
      (case z_abs => k_is)
      (case z_bool => k_is)
      (case z_int => k_is)
      (case z_isinstance => k_is)
      (case z_len => k_is)
      (case z_list => k_is)
      (case z_range => k_is)
      (case z_set => k_is)
      (case z_sorted => k_is)
      (case z_str => k_is)
      (case z_tuple => k_is)
      (case z_type => k_is)

