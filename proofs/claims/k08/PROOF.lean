import PyProof.Rows.All
import Wide.All
import OpenK.AllK
import Wide.FinOn
import HandS.ForMost
import HandS.IsInst
import HandS.Wide
import HandS.WideBits
import HandS.Style
import HandS.TryOnly
import HandS.More
import HandS.ClsMeth
import HandS.Star
import HandS.OwnEq
import HandS.SortInts
import HandS.TupAny
import HandS.Deep
import HandS.Codes
import HandS.Flow
import KE.KEqSeq
import KE.RegKIsAll
import PyProof.InstNe
import HandS.RaiseMore
import HandS.SetFor
import HandS.Records
import HandS.MakeKwOnly
import HandS.WordsExc
import HandS.Lambda
import HandS.CallSlots
import HandS.SetKeys
import HandS.TupLe
import HandS.Zip
import HandS.Ends
import PyProof.ReprRoads
import HandS.Strs
import PyProof.Rows.Range3
import HandS.ExcField
import HandS.ExcIs
import KE.KExcIs
import HandS.ExcInit
import HandS.Dict
import HandS.EndTab
import KE.KNest
import PyProof.EnumMake
import PyProof.Draws
import KE.GoesMore
import PySem.Challenge.RW_fourthlike_k08_numbers_refused_in_order
import PyProof.ReprBulk
import PyProof.FitsInt
set_option Elab.async false
set_option linter.all false
set_option maxRecDepth 100000
set_option maxHeartbeats 4000000
namespace Dl
open PySem PySem.Spec PyProof.Rows L2

/-! ### data -/
inductive D where
  | non | bl (b : Bool) | int (i : Int) | str (z : Str)
  | tup (xs : List D) | lst (xs : List D)
  /-- a list that is only read (the script) -/
  | fro (xs : List D)
  | ins (c : Nat) (fs : List (Str × D))
  | cod (k : Nat) | ty (n : String)
  /-- a dict, a set, a def -/
  | dct (kvs : List (D × D)) | set (xs : List D) | fn (k : Nat)

/-- where the classes stand, where the defs stand, and the tables of code objects (of the defs that make lambdas) -/
structure CA where
  at_ : Nat → Addr
  fn_ : Nat → Addr
  T : List (Addr × Str)
  P : Program
  w : World
  /-- the classes that are known -/
  ok : Nat → Bool
instance : CoeFun CA (fun _ => Nat → Addr) := ⟨CA.at_⟩
/-- the keys of a dict -/
def kD : Key → D
  | .inl i => .int i
  | .inr z => .str z
def ktD (ks : List Key) : D := .tup (ks.map kD)
mutual
inductive Rep (K : PySem.W.Frag) (ca : CA) (F : Hp) : D → V → Prop
  | non : Rep K ca F .non .non
  | bl (b : Bool) : Rep K ca F (.bl b) (.bl b)
  | int (i : Int) : Rep K ca F (.int i) (.int i)
  | str (z : Str) : Rep K ca F (.str z) (.str z)
  | tup {xs : List D} {p : Addr} {vs : List V} : SqT K F p vs → Reps K ca F xs vs → Rep K ca F (.tup xs) (.ref p)
  | lst {xs : List D} {p : Addr} {vs : List V} : F p = some (.lst vs) → Reps K ca F xs vs → Rep K ca F (.lst xs) (.ref p)
  | fro {xs : List D} {p : Addr} {vs : List V} : SqL K F p vs → Reps K ca F xs vs → Rep K ca F (.fro xs) (.ref p)
  | ins {c : Nat} {fs : List (Str × D)} {p dx : Addr} {gs : List (Str × V)} : F p = some (.ins (ca c) dx gs) → RepF K ca F fs gs → ca.ok c = true → Rep K ca F (.ins c fs) (.ref p)
  | cod (k : Nat) : ca.ok k = true → Rep K ca F (.cod k) (.ref (ca k))
  | ty (n : String) : Rep K ca F (.ty n) (.ty n)
  | fn (k : Nat) : Rep K ca F (.fn k) (.ref (ca.fn_ k))
  | dK {kvs : List (D × D)} {p : Addr} {ws : List (Key × V)} : F p = some (.dK ws) → kvs.map (·.1) = ws.map (fun x => kD x.1) → Reps K ca F (kvs.map (·.2)) (ws.map (·.2)) → Rep K ca F (.dct kvs) (.ref p)
  | dT {kvs : List (D × D)} {p : Addr} {ws : List (List Key × V)} : F p = some (.dT ws) → kvs.map (·.1) = ws.map (fun x => ktD x.1) → Reps K ca F (kvs.map (·.2)) (ws.map (·.2)) → Rep K ca F (.dct kvs) (.ref p)
  | setK {ks : List Key} {p : Addr} {n : Nat} {S : Key → Bool} : F p = some (SetK ca.P ca.w p S n) → ks.Nodup → n = ks.length → (∀ k, S k = true ↔ k ∈ ks) → Rep K ca F (.set (ks.map kD)) (.ref p)
inductive Reps (K : PySem.W.Frag) (ca : CA) (F : Hp) : List D → List V → Prop
  | nil : Reps K ca F [] []
  | cons {d : D} {v : V} {ds : List D} {vs : List V} : Rep K ca F d v → Reps K ca F ds vs → Reps K ca F (d :: ds) (v :: vs)
inductive RepF (K : PySem.W.Frag) (ca : CA) (F : Hp) : List (Str × D) → List (Str × V) → Prop
  | nil : RepF K ca F [] []
  | cons {n : Str} {d : D} {v : V} {ds : List (Str × D)} {vs : List (Str × V)} : Rep K ca F d v → RepF K ca F ds vs → RepF K ca F ((n, d) :: ds) ((n, v) :: vs)
end

theorem Same.seqT {K : PySem.W.Frag} {H H' : Hp} {a : Addr} {xs : List V} (e : Same H H') (h : SqT K H a xs) : SqT K H' a xs := by
  rcases h with (h | ⟨o, h⟩) | h
  · exact .inl (.inl (e _ _ h))
  · exact .inl (.inr ⟨o, e _ _ h⟩)
  · exact .inr h
theorem same_upd {H : Hp} {p : Addr} {o : HO} (h : H p = none) : Same H (upd H p o) := fun b x e => by
  rw [upd_ne (ne_of_none e h)]
  exact e
section
variable {K : PySem.W.Frag} {ca : CA} {F F' : Hp}
mutual
theorem Rep.mono (s : Same F F') : ∀ {d : D} {v : V}, Rep K ca F d v → Rep K ca F' d v
  | _, _, .non => .non
  | _, _, .bl b => .bl b
  | _, _, .int i => .int i
  | _, _, .str z => .str z
  | _, _, .tup h r => .tup (Same.seqT s h) (Reps.mono s r)
  | _, _, .lst h r => .lst (s _ _ h) (Reps.mono s r)
  | _, _, .fro h r => .fro (s.seq h) (Reps.mono s r)
  | _, _, .ins h r e => .ins (s _ _ h) (RepF.mono s r) e
  | _, _, .cod k e => .cod k e
  | _, _, .ty n => .ty n
  | _, _, .fn k => .fn k
  | _, _, .dK h e r => .dK (s _ _ h) e (Reps.mono s r)
  | _, _, .dT h e r => .dT (s _ _ h) e (Reps.mono s r)
  | _, _, .setK h a b c => .setK (s _ _ h) a b c
theorem Reps.mono (s : Same F F') : ∀ {d : List D} {v : List V}, Reps K ca F d v → Reps K ca F' d v
  | _, _, .nil => .nil
  | _, _, .cons r rs => .cons (r.mono s) (Reps.mono s rs)
theorem RepF.mono (s : Same F F') : ∀ {d : List (Str × D)} {v : List (Str × V)}, RepF K ca F d v → RepF K ca F' d v
  | _, _, .nil => .nil
  | _, _, .cons r rs => .cons (r.mono s) (RepF.mono s rs)
end
theorem Reps.length : ∀ {ds : List D} {vs : List V}, Reps K ca F ds vs → ds.length = vs.length
  | _, _, .nil => rfl
  | _, _, .cons _ rs => by rw [List.length_cons, List.length_cons, rs.length]
theorem Reps.append : ∀ {ds es : List D} {vs ws : List V}, Reps K ca F ds vs → Reps K ca F es ws → Reps K ca F (ds ++ es) (vs ++ ws)
  | _, _, _, _, .nil, q => q
  | _, _, _, _, .cons r rs, q => .cons r (Reps.append rs q)
theorem Reps.one {d : D} {v : V} (r : Rep K ca F d v) : Reps K ca F [d] [v] := .cons r .nil
theorem Reps.get : ∀ {ds : List D} {vs : List V} {i : Nat} {d : D}, Reps K ca F ds vs → ds[i]? = some d → ∃ v, vs[i]? = some v ∧ Rep K ca F d v
  | _, _, _, _, .nil, e => by simp at e
  | _, _, 0, _, .cons r _, e => by simp at e; subst e; exact ⟨_, rfl, r⟩
  | _, _, i + 1, _, .cons _ t, e => by
    obtain ⟨u, h1, h2⟩ := Reps.get (i := i) t (by simpa using e)
    exact ⟨u, by simpa using h1, h2⟩
theorem Reps.get' : ∀ {ds : List D} {vs : List V} {i : Nat} {v : V}, Reps K ca F ds vs → vs[i]? = some v → ∃ d, ds[i]? = some d ∧ Rep K ca F d v
  | _, _, _, _, .nil, e => by simp at e
  | _, _, 0, _, .cons r _, e => by simp at e; subst e; exact ⟨_, rfl, r⟩
  | _, _, i + 1, _, .cons _ t, e => by
    obtain ⟨u, h1, h2⟩ := Reps.get' (i := i) t (by simpa using e)
    exact ⟨u, by simpa using h1, h2⟩
theorem Reps.set {d : D} {v : V} (r : Rep K ca F d v) : ∀ {ds : List D} {vs : List V} (i : Nat), Reps K ca F ds vs → Reps K ca F (ds.set i d) (vs.set i v)
  | _, _, _, .nil => .nil
  | _, _, 0, .cons _ t => .cons r t
  | _, _, i + 1, .cons q t => .cons q (Reps.set r i t)
theorem Reps.take : ∀ {ds : List D} {vs : List V} (n : Nat), Reps K ca F ds vs → Reps K ca F (ds.take n) (vs.take n)
  | _, _, 0, _ => .nil
  | _, _, _ + 1, .nil => .nil
  | _, _, n + 1, .cons r t => .cons r (Reps.take n t)
theorem Reps.drop : ∀ {ds : List D} {vs : List V} (n : Nat), Reps K ca F ds vs → Reps K ca F (ds.drop n) (vs.drop n)
  | _, _, 0, r => r
  | _, _, _ + 1, .nil => .nil
  | _, _, n + 1, .cons _ t => Reps.drop n t
theorem Reps.reverse : ∀ {ds : List D} {vs : List V}, Reps K ca F ds vs → Reps K ca F ds.reverse vs.reverse
  | _, _, .nil => .nil
  | _, _, .cons r t => by
    rw [List.reverse_cons, List.reverse_cons]
    exact (Reps.reverse t).append (.one r)
theorem Reps.ints : ∀ {ns : List Int} {vs : List V}, Reps K ca F (ns.map D.int) vs → vs = ns.map V.int
  | [], _, h => by cases h; rfl
  | n :: ns, _, h => by
    cases h with
    | cons r t => cases r; rw [Reps.ints t]; rfl
theorem Reps.ofInts : ∀ (ns : List Int), Reps K ca F (ns.map D.int) (ns.map V.int)
  | [] => .nil
  | n :: ns => .cons (.int n) (Reps.ofInts ns)
theorem RepF.lookup {f : Str} : ∀ {ds : List (Str × D)} {vs : List (Str × V)} {d : D}, RepF K ca F ds vs → ds.lookup f = some d → ∃ v, vs.lookup f = some v ∧ Rep K ca F d v
  | _, _, _, .nil, e => by simp at e
  | (n, d') :: ds, (_, v') :: vs, d, .cons r rs, e => by
    rw [List.lookup_cons] at e ⊢
    by_cases h : (f == n) = true
    · rw [h] at e ⊢
      cases e
      exact ⟨_, rfl, r⟩
    · rw [Bool.eq_false_iff.mpr h] at e ⊢
      exact rs.lookup e
theorem RepF.none {f : Str} : ∀ {ds : List (Str × D)} {vs : List (Str × V)}, RepF K ca F ds vs → ds.lookup f = Option.none → vs.lookup f = Option.none
  | _, _, .nil, _ => rfl
  | (n, d') :: ds, (_, v') :: vs, .cons r rs, e => by
    rw [List.lookup_cons] at e ⊢
    by_cases h : (f == n) = true
    · rw [h] at e
      cases e
    · rw [Bool.eq_false_iff.mpr h] at e ⊢
      exact rs.none e
theorem RepF.length : ∀ {ds : List (Str × D)} {vs : List (Str × V)}, RepF K ca F ds vs → ds.length = vs.length
  | _, _, .nil => rfl
  | _, _, .cons _ rs => by rw [List.length_cons, List.length_cons, rs.length]
end

/-! ### answers -/
inductive R (α : Type) where
  | ok (a : α) | ex (c : Nat) (fs : List (Str × D)) | no
def R.bind {α β : Type} (r : R α) (f : α → R β) : R β := match r with
  | .ok a => f a
  | .ex c fs => .ex c fs
  | .no => .no
theorem R.bind_ok {α β : Type} (a : α) (f : α → R β) : (R.ok a).bind f = f a := rfl
theorem R.bind_no {α β : Type} (f : α → R β) : (R.no : R α).bind f = .no := rfl
theorem R.bind_ex {α β : Type} (c : Nat) (fs : List (Str × D)) (f : α → R β) : (R.ex c fs : R α).bind f = .ex c fs := rfl
def R.ofOpt {α : Type} : Option α → R α
  | some a => .ok a
  | none => .no

/-! ### the state of a body: locals as data; own: the slots that hold an object of one's own, which may be changed -/
abbrev En := List (Option D)
structure Bs where
  F : Hp
  H : Hp
  m : Option Addr
  /-- slot 0 holds a lambda that was handed over: its object, its code object, its name -/
  l : Option (Addr × Addr × Str)
/-- slot 0 is stored by no statement -/
def Bs.free0 (B : Bs) : Prop := B.m = none ∧ B.l = none
/-- nothing stands at p, or a table of code objects -/
def NoO (H : Hp) (p : Addr) : Prop := ∀ o, H p = some o → ∃ ps, o = .tbl ps
theorem NoO.of {H : Hp} {p : Addr} (h : H p = none) : NoO H p := fun o e => by rw [h] at e; cases e
theorem NoO.back {H H' : Hp} {p : Addr} (e : ∀ o, H p = some o → (∀ ps, o ≠ .tbl ps) → H' p = some o) (z : NoO H' p) : NoO H p := fun o ho => Classical.byContradiction fun n => n (z o (e o ho fun ps q => n ⟨ps, q⟩))
theorem NoO.free {H H' : Hp} {p : Addr} (s : ∀ b o, H b = some o → H' b = some o) (z : NoO H' p) : NoO H p := z.back fun o e _ => s p o e
theorem NoO.not {H : Hp} {p : Addr} {o : HO} (h : H p = some o) (n : ∀ ps, o ≠ .tbl ps) : ¬NoO H p := fun z => let ⟨ps, e⟩ := z o h; n ps e
theorem NoO.upd {H : Hp} {p q : Addr} {o : HO} (z : NoO H q) (n : q ≠ p) : NoO (upd H p o) q := fun u e => z u (by rw [upd_ne n] at e; exact e)
theorem NoO.down {H : Hp} {p q : Addr} {o : HO} (z : NoO (L2.upd H p o) q) (n : q ≠ p) : NoO H q := fun u e => z u (by rw [upd_ne n]; exact e)
structure Bq (ca : CA) (B : Bs) (F H : Hp) : Prop where
  sub : Same F H
  sF : Same B.F F
  sH : ∀ p o, B.H p = some o → B.m ≠ some p → (∀ ps, o ≠ .tbl ps) → H p = some o
  nw : ∀ p, F p ≠ none → B.F p ≠ none ∨ NoO B.H p
  mp : ∀ p, B.m = some p → ¬NoO H p ∧ F p = none
  tb : LamX.Tabs ca.T H
  nt : ∀ p ps, F p ≠ some (.tbl ps)
/-- an object of one's own at p, worth d -/
def OwO (K : PySem.W.Frag) (ca : CA) (F H : Hp) (d : D) (p : Addr) : Prop := match d with
  | .lst xs => ∃ vs, H p = some (.lst vs) ∧ Reps K ca F xs vs
  | .ins c fs => ∃ dx gs, H p = some (.ins (ca c) dx gs) ∧ RepF K ca F fs gs ∧ ca.ok c = true
  | .dct kvs => (∃ ws : List (Key × V), H p = some (.dK ws) ∧ kvs.map (·.1) = ws.map (fun x => kD x.1) ∧ Reps K ca F (kvs.map (·.2)) (ws.map (·.2))) ∨
      (∃ ws : List (List Key × V), H p = some (.dT ws) ∧ kvs.map (·.1) = ws.map (fun x => ktD x.1) ∧ Reps K ca F (kvs.map (·.2)) (ws.map (·.2)))
  | .set xs => ∃ (ks : List Key) (n : Nat) (S : Key → Bool), xs = ks.map kD ∧ H p = some (SetK ca.P ca.w p S n) ∧ ks.Nodup ∧ n = ks.length ∧ (∀ k, S k = true ↔ k ∈ ks)
  | _ => False
structure Ow (K : PySem.W.Frag) (ca : CA) (B : Bs) (F H : Hp) (d : D) (p : Addr) : Prop where
  o : OwO K ca F H d p
  f : F p = none
  b : NoO B.H p ∨ B.m = some p
structure RE (K : PySem.W.Frag) (ca : CA) (B : Bs) (own : List Nat) (env : En) (σ : L2.St) (F H : Hp) : Prop where
  q : Bq ca B F H
  len : σ.length = env.length
  fr : ∀ i d, i ∉ own → env[i]? = some (some d) → ∃ v, σ[i]? = some (some v) ∧ Rep K ca F d v
  ow : ∀ i d, i ∈ own → env[i]? = some (some d) → ∃ p, σ[i]? = some (some (.ref p)) ∧ Ow K ca B F H d p
  ne : ∀ i j p d e, i ∈ own → j ∈ own → i ≠ j → env[i]? = some (some d) → env[j]? = some (some e) → σ[i]? = some (some (.ref p)) → σ[j]? ≠ some (some (.ref p))
  mt : ∀ p, B.m = some p → 0 ∈ own ∧ σ[0]? = some (some (.ref p)) ∧ ∃ d, env[0]? = some (some d)
  lm : ∀ q, B.l = some q → env[0]? = some none ∧ σ[0]? = some (some (.ref q.1)) ∧ H q.2.1 = some (LamX.CodeO q.2.1 q.2.2)

/-- a step that lays new objects alone -/
structure Stp (F H F' H' : Hp) : Prop where
  sub : Same F' H'
  sF : Same F F'
  sH : Same H H'
  nw : ∀ p, F' p ≠ none → F p ≠ none ∨ NoO H p
  nt : ∀ p ps, F' p = some (.tbl ps) → F p = some (.tbl ps)
section
variable {K : PySem.W.Frag} {ca : CA} {B : Bs} {own : List Nat} {env : En} {σ : L2.St} {F H F' H' F2 H2 : Hp}
theorem Stp.refl (h : Same F H) : Stp F H F H := ⟨h, Same.refl _, Same.refl _, fun _ h => .inl h, fun _ _ h => h⟩
theorem Stp.trans (a : Stp F H F' H') (b : Stp F' H' F2 H2) : Stp F H F2 H2 :=
  ⟨b.sub, a.sF.trans b.sF, a.sH.trans b.sH, fun p h => by
    rcases b.nw p h with z | z
    · exact a.nw p z
    · exact .inr (z.free a.sH), fun p ps h => a.nt p ps (b.nt p ps h)⟩
theorem Stp.new {p : Addr} {o : HO} (h : Same F H) (hp : H p = none) (ho : ∀ ps, o ≠ .tbl ps := by exact fun _ z => nomatch z) : Stp F H (upd F p o) (upd H p o) := by
  have hF : F p = none := h.free hp
  refine ⟨fun b x e => ?_, same_upd hF, same_upd hp, fun q hq => ?_, fun q ps hq => ?_⟩
  · by_cases hb : b = p
    · subst hb
      rw [upd_same] at e ⊢
      exact e
    · rw [upd_ne hb] at e ⊢
      exact h _ _ e
  · by_cases hb : q = p
    · subst hb
      exact .inr (.of hp)
    · rw [upd_ne hb] at hq
      exact .inl hq
  · by_cases hb : q = p
    · subst hb
      rw [upd_same] at hq
      exact absurd (Option.some.inj hq) (ho ps)
    · rw [upd_ne hb] at hq
      exact hq
/-- what an own object's worth leans on -/
theorem OwO.move {d : D} {p : Addr} (h : OwO K ca F H d p) (hp : ∀ o, H p = some o → H' p = some o) (s : Same F F') : OwO K ca F' H' d p := by
  cases d with
  | lst xs =>
    obtain ⟨vs, h1, h2⟩ := h
    exact ⟨vs, hp _ h1, h2.mono s⟩
  | ins c fs =>
    obtain ⟨dx, gs, h1, h2, h3⟩ := h
    exact ⟨dx, gs, hp _ h1, h2.mono s, h3⟩
  | dct kvs =>
    rcases h with ⟨ws, h1, e, h2⟩ | ⟨ws, h1, e, h2⟩
    · exact .inl ⟨ws, hp _ h1, e, h2.mono s⟩
    · exact .inr ⟨ws, hp _ h1, e, h2.mono s⟩
  | set xs =>
    obtain ⟨ks, n, S, e, h1, h2⟩ := h
    exact ⟨ks, n, S, e, hp _ h1, h2⟩
  | _ => exact h.elim
theorem OwO.ntbl {d : D} {p : Addr} (h : OwO K ca F H d p) : ∀ ps, H p ≠ some (.tbl ps) := by
  cases d with
  | lst xs => obtain ⟨vs, h1, h2⟩ := h; intro ps z; rw [h1] at z; cases z
  | ins c fs => obtain ⟨dx, gs, h1, h2, h3⟩ := h; intro ps z; rw [h1] at z; cases z
  | dct kvs =>
    rcases h with ⟨ws, h1, e, h2⟩ | ⟨ws, h1, e, h2⟩
    · intro ps z; rw [h1] at z; cases z
    · intro ps z; rw [h1] at z; cases z
  | set xs => obtain ⟨ks, n, S, e, h1, h2⟩ := h; intro ps z; rw [h1] at z; unfold SetK at z; cases z
  | _ => exact h.elim
theorem setK_ne_code {P : Program} {w : World} {a : Addr} {S : Key → Bool} {n : Nat} {q : Str} (h : SetK P w a S n = LamX.CodeO a q) : False := by
  unfold SetK LamX.CodeO at h
  injection h with h
  let o : Obj := { cls := .none, data := .fields #[.none, .str q 0] }
  let hp : Heap := { objs := Array.replicate (a + 1) o }
  have ho : hp.get? a = some o := Heap.get?_some_iff.mpr ⟨by simp [hp], rfl⟩
  have h1 := congrFun h hp
  have h2 : hp.SetOf (mixKind P w) a S n := by
    rw [h1]
    exact ⟨o, _, _, ho, rfl, rfl⟩
  obtain ⟨o', es, ep, t, e, c⟩ := h2
  rw [ho] at e
  cases e
  simp [o] at c
theorem OwO.ncode {d : D} {p : Addr} (h : OwO K ca F H d p) (q : Str) : H p ≠ some (LamX.CodeO p q) := by
  cases d with
  | lst xs => obtain ⟨vs, h1, h2⟩ := h; intro z; rw [h1] at z; unfold LamX.CodeO at z; cases z
  | ins c fs => obtain ⟨dx, gs, h1, h2, h3⟩ := h; intro z; rw [h1] at z; unfold LamX.CodeO at z; cases z
  | dct kvs =>
    rcases h with ⟨ws, h1, e, h2⟩ | ⟨ws, h1, e, h2⟩
    · intro z; rw [h1] at z; unfold LamX.CodeO at z; cases z
    · intro z; rw [h1] at z; unfold LamX.CodeO at z; cases z
  | set xs =>
    obtain ⟨ks, n, S, e, h1, h2⟩ := h
    intro z
    rw [h1] at z
    exact setK_ne_code (Option.some.inj z)
  | _ => exact h.elim
theorem OwO.step {d : D} {p : Addr} (h : OwO K ca F H d p) (s : Stp F H F' H') : OwO K ca F' H' d p := h.move (fun o e => s.sH _ _ e) s.sF
theorem OwO.thr {d : D} {p : Addr} (h : OwO K ca F H d p) : ¬NoO H p := by
  cases d with
  | lst xs => obtain ⟨vs, h1, h2⟩ := h; exact NoO.not h1 fun _ z => nomatch z
  | ins c fs => obtain ⟨dx, gs, h1, h2, h3⟩ := h; exact NoO.not h1 fun _ z => nomatch z
  | dct kvs =>
    rcases h with ⟨ws, h1, e, h2⟩ | ⟨ws, h1, e, h2⟩
    · exact NoO.not h1 fun _ z => nomatch z
    · exact NoO.not h1 fun _ z => nomatch z
  | set xs => obtain ⟨ks, n, S, e, h1, h2⟩ := h; exact NoO.not h1 fun _ z => (by unfold SetK at z; cases z)
  | _ => exact h.elim
theorem Bq.noO {B : Bs} {p : Addr} (h : Bq ca B F H) (z : NoO H p) : NoO B.H p := z.back fun o e n => h.sH p o e (fun w => (h.mp p w).1 z) n
theorem OwO.there {d : D} {p : Addr} (h : OwO K ca F H d p) : H p ≠ none := by
  cases d with
  | lst xs => obtain ⟨vs, h1, h2⟩ := h; intro z; rw [h1] at z; cases z
  | ins c fs => obtain ⟨dx, gs, h1, h2, h3⟩ := h; intro z; rw [h1] at z; cases z
  | dct kvs =>
    rcases h with ⟨ws, h1, e, h2⟩ | ⟨ws, h1, e, h2⟩
    · intro z; rw [h1] at z; cases z
    · intro z; rw [h1] at z; cases z
  | set xs => obtain ⟨ks, n, S, e, h1, h2⟩ := h; intro z; rw [h1] at z; cases z
  | _ => exact h.elim
theorem Ow.step {d : D} {p : Addr} (h : Ow K ca B F H d p) (s : Stp F H F' H') : Ow K ca B F' H' d p := by
  refine ⟨h.o.step s, ?_, h.b⟩
  cases e : F' p with
  | none => rfl
  | some o =>
    rcases s.nw p (by rw [e]; exact fun z => nomatch z) with z | z
    · exact absurd h.f z
    · exact absurd z h.o.thr
theorem OwO.mono {d : D} {p : Addr} (h : OwO K ca F H d p) (s : Same F F') : OwO K ca F' H d p := h.move (fun _ e => e) s
/-- laid down: it is changed no more -/
theorem OwO.rep {d : D} {p : Addr} (h : OwO K ca F H d p) (hf : F p = none) : ∃ o, H p = some o ∧ (∀ ps, o ≠ .tbl ps) ∧ Rep K ca (upd F p o) d (.ref p) := by
  cases d with
  | lst xs =>
    obtain ⟨vs, h1, h2⟩ := h
    exact ⟨_, h1, (fun _ z => nomatch z), .lst upd_same (h2.mono (same_upd hf))⟩
  | ins c fs =>
    obtain ⟨dx, gs, h1, h2, h3⟩ := h
    exact ⟨_, h1, (fun _ z => nomatch z), .ins upd_same (h2.mono (same_upd hf)) h3⟩
  | dct kvs =>
    rcases h with ⟨ws, h1, e, h2⟩ | ⟨ws, h1, e, h2⟩
    · exact ⟨_, h1, (fun _ z => nomatch z), .dK upd_same e (h2.mono (same_upd hf))⟩
    · exact ⟨_, h1, (fun _ z => nomatch z), .dT upd_same e (h2.mono (same_upd hf))⟩
  | set xs =>
    obtain ⟨ks, n, S, e, h1, h2, h3, h4⟩ := h
    subst e
    exact ⟨_, h1, fun _ z => (by unfold SetK at z; cases z), .setK upd_same h2 h3 h4⟩
  | _ => exact h.elim
theorem Stp.keepF {p : Addr} (s : Stp F H F' H') (h1 : ¬NoO H p) (h2 : F p = none) : F' p = none := by
  cases e : F' p with
  | none => rfl
  | some o =>
    rcases s.nw p (by rw [e]; exact fun z => nomatch z) with z | z
    · exact absurd h2 z
    · exact absurd z h1
theorem Same.some {H H' : Hp} (s : Same H H') {p : Addr} (h : H p ≠ none) : H' p ≠ none := by
  cases e : H p with
  | none => exact absurd e h
  | some o => rw [s _ _ e]; exact fun z => nomatch z
theorem Bq.step (h : Bq ca B F H) (s : Stp F H F' H') : Bq ca B F' H' where
  sub := s.sub
  sF := h.sF.trans s.sF
  sH := fun p o e n t => s.sH _ _ (h.sH p o e n t)
  mp := fun p e => ⟨fun z => (h.mp p e).1 (z.free s.sH), s.keepF (h.mp p e).1 (h.mp p e).2⟩
  nw := fun p hp => by
    rcases s.nw p hp with z | z
    · exact h.nw p z
    · exact .inr (h.noO z)
  tb := h.tb.ext s.sH
  nt := fun p ps e => h.nt p ps (s.nt p ps e)
theorem RE.step (h : RE K ca B own env σ F H) (s : Stp F H F' H') : RE K ca B own env σ F' H' where
  q := h.q.step s
  len := h.len
  fr := fun i d n e => let ⟨v, h1, h2⟩ := h.fr i d n e; ⟨v, h1, h2.mono s.sF⟩
  ow := fun i d n e => let ⟨p, h1, h2⟩ := h.ow i d n e; ⟨p, h1, h2.step s⟩
  ne := h.ne
  mt := h.mt
  lm := fun q e => let ⟨a, b, c⟩ := h.lm q e; ⟨a, b, s.sH _ _ c⟩
/-- a step in which tables of code objects may have grown -/
structure StC (T : List (Addr × Str)) (F H F' H' : Hp) : Prop where
  sub : Same F' H'
  sF : Same F F'
  sH : LamX.ExtN H H'
  nw : ∀ p, F' p ≠ none → F p ≠ none ∨ NoO H p
  nt : ∀ p ps, F' p = some (.tbl ps) → F p = some (.tbl ps)
  tb : LamX.Tabs T H'
theorem Stp.stC {T : List (Addr × Str)} (s : Stp F H F' H') (t : LamX.Tabs T H) : StC T F H F' H' := ⟨s.sub, s.sF, LamX.ExtN.of s.sH, s.nw, s.nt, t.ext s.sH⟩
theorem StC.keepF {T : List (Addr × Str)} {p : Addr} (s : StC T F H F' H') (h1 : ¬NoO H p) (h2 : F p = none) : F' p = none := by
  cases e : F' p with
  | none => rfl
  | some o =>
    rcases s.nw p (by rw [e]; exact fun z => nomatch z) with z | z
    · exact absurd h2 z
    · exact absurd z h1
theorem Bq.stepC (h : Bq ca B F H) (s : StC ca.T F H F' H') : Bq ca B F' H' where
  sub := s.sub
  sF := h.sF.trans s.sF
  sH := fun p o e n t => s.sH _ _ (h.sH p o e n t) t
  mp := fun p e => ⟨fun z => (h.mp p e).1 (z.back fun o => s.sH p o), s.keepF (h.mp p e).1 (h.mp p e).2⟩
  nw := fun p hp => by
    rcases s.nw p hp with z | z
    · exact h.nw p z
    · exact .inr (h.noO z)
  tb := s.tb
  nt := fun p ps e => h.nt p ps (s.nt p ps e)
theorem Ow.stepC {d : D} {p : Addr} (h : Ow K ca B F H d p) (s : StC ca.T F H F' H') : Ow K ca B F' H' d p :=
  ⟨h.o.move (fun o e => s.sH _ _ e fun ps z => h.o.ntbl ps (by rw [e, z])) s.sF, s.keepF h.o.thr h.f, h.b⟩
theorem RE.stepC (h : RE K ca B own env σ F H) (s : StC ca.T F H F' H') : RE K ca B own env σ F' H' where
  q := h.q.stepC s
  len := h.len
  fr := fun i d n e => let ⟨v, h1, h2⟩ := h.fr i d n e; ⟨v, h1, h2.mono s.sF⟩
  ow := fun i d n e => let ⟨p, h1, h2⟩ := h.ow i d n e; ⟨p, h1, h2.stepC s⟩
  ne := h.ne
  mt := h.mt
  lm := fun q e => let ⟨a, b, c⟩ := h.lm q e; ⟨a, b, s.sH _ _ c fun ps z => LamX.codeO_ne ps z⟩
/-- the object in slot i is laid down -/
theorem RE.freeze {i : Nat} {own' : List Nat} (h : RE K ca B own env σ F H) (hi : i ≠ 0 ∨ B.free0) (ho : own.filter (fun j => j != i) = own') : ∃ F', Same F F' ∧ RE K ca B own' env σ F' H := by
  have mem : ∀ j, j ∈ own' ↔ j ∈ own ∧ j ≠ i := fun j => by
    rw [← ho, List.mem_filter]
    simp
  by_cases hin : i ∈ own
  · cases e : env[i]? with
    | none =>
      refine ⟨F, Same.refl _, h.q, h.len, fun j d n ej => ?_, fun j d m ej => h.ow j d ((mem j).mp m).1 ej, fun j k p d e' a b => h.ne j k p d e' ((mem j).mp a).1 ((mem k).mp b).1, fun p q => ?_, h.lm⟩
      · by_cases hj : j = i
        · subst hj; rw [e] at ej; cases ej
        · exact h.fr j d (fun z => n ((mem j).mpr ⟨z, hj⟩)) ej
      · obtain ⟨m0, m1, m2⟩ := h.mt p q
        refine ⟨(mem 0).mpr ⟨m0, ?_⟩, m1, m2⟩
        rcases hi with z | z
        · exact Ne.symm z
        · rw [z.1] at q; cases q
    | some od =>
      cases od with
      | none =>
        refine ⟨F, Same.refl _, h.q, h.len, fun j d n ej => ?_, fun j d m ej => h.ow j d ((mem j).mp m).1 ej, fun j k p d e' a b => h.ne j k p d e' ((mem j).mp a).1 ((mem k).mp b).1, fun p q => ?_, h.lm⟩
        · by_cases hj : j = i
          · subst hj; rw [e] at ej; cases ej
          · exact h.fr j d (fun z => n ((mem j).mpr ⟨z, hj⟩)) ej
        · obtain ⟨m0, m1, m2⟩ := h.mt p q
          refine ⟨(mem 0).mpr ⟨m0, ?_⟩, m1, m2⟩
          rcases hi with z | z
          · exact Ne.symm z
          · rw [z.1] at q; cases q
      | some d =>
        obtain ⟨p, hp, O⟩ := h.ow i d hin e
        obtain ⟨o, ho', nto, r⟩ := O.o.rep O.f
        have sF : Same F (upd F p o) := same_upd O.f
        have notm : B.m ≠ some p := fun z => by
          obtain ⟨m0, m1, d0, m2⟩ := h.mt p z
          rcases hi with w | w
          · exact h.ne i 0 p d d0 hin m0 w e m2 hp m1
          · rw [w.1] at z; cases z
        refine ⟨upd F p o, sF, ⟨fun q u hq => ?_, h.q.sF.trans sF, h.q.sH, fun q hq => ?_, fun q hq => ⟨(h.q.mp q hq).1, ?_⟩, h.q.tb, fun q ps hq => ?_⟩, h.len, fun j d' n ej => ?_, fun j d' m ej => ?_, fun j k q d' e' a b => h.ne j k q d' e' ((mem j).mp a).1 ((mem k).mp b).1, fun q hq => ?_, h.lm⟩
        · by_cases hb : q = p
          · subst hb; rw [upd_same] at hq; cases hq; exact ho'
          · rw [upd_ne hb] at hq; exact h.q.sub q u hq
        · by_cases hb : q = p
          · subst hb
            rcases O.b with z | z
            · exact .inr z
            · exact absurd z notm
          · rw [upd_ne hb] at hq; exact h.q.nw q hq
        · by_cases hb : q = p
          · subst hb; exact absurd hq notm
          · rw [upd_ne hb]; exact (h.q.mp q hq).2
        · by_cases hb : q = p
          · subst hb; rw [upd_same] at hq; exact nto ps (Option.some.inj hq)
          · rw [upd_ne hb] at hq; exact h.q.nt q ps hq
        · by_cases hj : j = i
          · subst hj; rw [e] at ej; cases ej; exact ⟨_, hp, r⟩
          · obtain ⟨v, h1, h2⟩ := h.fr j d' (fun z => n ((mem j).mpr ⟨z, hj⟩)) ej
            exact ⟨v, h1, h2.mono sF⟩
        · obtain ⟨mj, nj⟩ := (mem j).mp m
          obtain ⟨q, hq, O'⟩ := h.ow j d' mj ej
          have hb : q ≠ p := fun z => h.ne i j p d d' hin mj (Ne.symm nj) e ej hp (z ▸ hq)
          exact ⟨q, hq, O'.o.mono sF, by rw [upd_ne hb]; exact O'.f, O'.b⟩
        · obtain ⟨m0, m1, m2⟩ := h.mt q hq
          refine ⟨(mem 0).mpr ⟨m0, ?_⟩, m1, m2⟩
          rcases hi with z | z
          · exact Ne.symm z
          · rw [z.1] at hq; cases hq
  · have e : own' = own := by
      rw [← ho]
      exact List.filter_eq_self.mpr fun j hj => by
        have : j ≠ i := fun z => hin (z ▸ hj)
        simpa using this
    subst e
    exact ⟨F, Same.refl _, h⟩
/-- a value that stands still is stored -/
theorem RE.put {i : Nat} {d : D} {v : V} {own' : List Nat} (h : RE K ca B own env σ F H) (r : Rep K ca F d v) (hi : i ≠ 0 ∨ B.free0) (ho : own.filter (fun j => j != i) = own') : RE K ca B own' (env.set i (some d)) (σ.set i (some v)) F H := by
  have mem : ∀ j, j ∈ own' ↔ j ∈ own ∧ j ≠ i := fun j => by
    rw [← ho, List.mem_filter]
    simp
  have get : ∀ {j d'}, (env.set i (some d))[j]? = some (some d') → (j = i ∧ d' = d ∧ i < env.length) ∨ (j ≠ i ∧ env[j]? = some (some d')) := fun {j d'} e => by
    by_cases hj : j = i
    · subst hj
      by_cases hl : j < env.length
      · rw [List.getElem?_set_self hl] at e
        cases e
        exact .inl ⟨rfl, rfl, hl⟩
      · rw [List.getElem?_eq_none (by rw [List.length_set]; omega)] at e
        cases e
    · rw [List.getElem?_set_ne (Ne.symm hj)] at e
      exact .inr ⟨hj, e⟩
  refine ⟨h.q, by rw [List.length_set, List.length_set]; exact h.len, fun j d' n e => ?_, fun j d' m e => ?_, fun j k p d' e' a b n e1 e2 s1 s2 => ?_, fun p hp => ?_, fun q hq => ?_⟩
  · rcases get e with ⟨rfl, rfl, hl⟩ | ⟨hj, e⟩
    · exact ⟨v, List.getElem?_set_self (by rw [h.len]; exact hl), r⟩
    · obtain ⟨u, h1, h2⟩ := h.fr j d' (fun z => n ((mem j).mpr ⟨z, hj⟩)) e
      exact ⟨u, by rw [List.getElem?_set_ne (Ne.symm hj)]; exact h1, h2⟩
  · obtain ⟨mj, nj⟩ := (mem j).mp m
    rcases get e with ⟨z, _, _⟩ | ⟨hj, e⟩
    · exact absurd z nj
    · obtain ⟨p, h1, h2⟩ := h.ow j d' mj e
      exact ⟨p, by rw [List.getElem?_set_ne (Ne.symm nj)]; exact h1, h2⟩
  · obtain ⟨mj, nj⟩ := (mem j).mp a
    obtain ⟨mk, nk⟩ := (mem k).mp b
    rw [List.getElem?_set_ne (Ne.symm nj)] at e1 s1
    rw [List.getElem?_set_ne (Ne.symm nk)] at e2 s2
    exact h.ne j k p d' e' mj mk n e1 e2 s1 s2
  · obtain ⟨m0, m1, d0, m2⟩ := h.mt p hp
    have z : (0 : Nat) ≠ i := by
      rcases hi with z | z
      · exact Ne.symm z
      · rw [z.1] at hp; cases hp
    exact ⟨(mem 0).mpr ⟨m0, z⟩, by rw [List.getElem?_set_ne (Ne.symm z)]; exact m1, d0, by rw [List.getElem?_set_ne (Ne.symm z)]; exact m2⟩
  · obtain ⟨l0, l1, l2⟩ := h.lm q hq
    have z : (0 : Nat) ≠ i := by
      rcases hi with z | z
      · exact Ne.symm z
      · rw [z.2] at hq; cases hq
    exact ⟨by rw [List.getElem?_set_ne (Ne.symm z)]; exact l0, by rw [List.getElem?_set_ne (Ne.symm z)]; exact l1, l2⟩
/-- a new object of one's own is stored -/
theorem RE.putO {i : Nat} {d : D} {p : Addr} {own' : List Nat} (h : RE K ca B own env σ F H) (O : Ow K ca B F H d p) (fr : ∀ j e, j ∈ own → env[j]? = some (some e) → σ[j]? ≠ some (some (.ref p))) (hi : i ≠ 0 ∨ B.free0) (ho : i :: own.filter (fun j => j != i) = own') :
    RE K ca B own' (env.set i (some d)) (σ.set i (some (.ref p))) F H := by
  have mem : ∀ j, j ∈ own' ↔ j = i ∨ (j ∈ own ∧ j ≠ i) := fun j => by
    rw [← ho, List.mem_cons, List.mem_filter]
    simp
  have get : ∀ {j d'}, (env.set i (some d))[j]? = some (some d') → (j = i ∧ d' = d ∧ i < env.length) ∨ (j ≠ i ∧ env[j]? = some (some d')) := fun {j d'} e => by
    by_cases hj : j = i
    · subst hj
      by_cases hl : j < env.length
      · rw [List.getElem?_set_self hl] at e
        cases e
        exact .inl ⟨rfl, rfl, hl⟩
      · rw [List.getElem?_eq_none (by rw [List.length_set]; omega)] at e
        cases e
    · rw [List.getElem?_set_ne (Ne.symm hj)] at e
      exact .inr ⟨hj, e⟩
  refine ⟨h.q, by rw [List.length_set, List.length_set]; exact h.len, fun j d' n e => ?_, fun j d' m e => ?_, fun j k q d' e' a b n e1 e2 s1 s2 => ?_, fun q hp => ?_, fun q hq => ?_⟩
  · rcases get e with ⟨rfl, rfl, hl⟩ | ⟨hj, e⟩
    · exact absurd ((mem j).mpr (.inl rfl)) n
    · obtain ⟨u, h1, h2⟩ := h.fr j d' (fun z => n ((mem j).mpr (.inr ⟨z, hj⟩))) e
      exact ⟨u, by rw [List.getElem?_set_ne (Ne.symm hj)]; exact h1, h2⟩
  · rcases get e with ⟨rfl, rfl, hl⟩ | ⟨hj, e⟩
    · exact ⟨p, List.getElem?_set_self (by rw [h.len]; exact hl), O⟩
    · rcases (mem j).mp m with z | ⟨mj, nj⟩
      · exact absurd z hj
      obtain ⟨q, h1, h2⟩ := h.ow j d' mj e
      exact ⟨q, by rw [List.getElem?_set_ne (Ne.symm hj)]; exact h1, h2⟩
  · rcases get e1 with ⟨rfl, rfl, hl⟩ | ⟨hj, g1⟩
    · rcases get e2 with ⟨rfl, rfl, _⟩ | ⟨hk, g2⟩
      · exact n rfl
      · rcases (mem k).mp b with z | ⟨mk, nk⟩
        · exact hk z
        rw [List.getElem?_set_self (by rw [h.len]; exact hl)] at s1
        cases s1
        rw [List.getElem?_set_ne (Ne.symm hk)] at s2
        exact fr k e' mk g2 s2
    · rcases (mem j).mp a with z | ⟨mj, nj⟩
      · exact hj z
      rw [List.getElem?_set_ne (Ne.symm hj)] at s1
      rcases get e2 with ⟨rfl, rfl, hl⟩ | ⟨hk, g2⟩
      · rw [List.getElem?_set_self (by rw [h.len]; exact hl)] at s2
        cases s2
        exact fr j d' mj g1 s1
      · rcases (mem k).mp b with z | ⟨mk, nk⟩
        · exact hk z
        rw [List.getElem?_set_ne (Ne.symm hk)] at s2
        exact h.ne j k q d' e' mj mk n g1 g2 s1 s2
  · obtain ⟨m0, m1, d0, m2⟩ := h.mt q hp
    have z : (0 : Nat) ≠ i := by
      rcases hi with z | z
      · exact Ne.symm z
      · rw [z.1] at hp; cases hp
    exact ⟨(mem 0).mpr (.inr ⟨m0, z⟩), by rw [List.getElem?_set_ne (Ne.symm z)]; exact m1, d0, by rw [List.getElem?_set_ne (Ne.symm z)]; exact m2⟩
  · obtain ⟨l0, l1, l2⟩ := h.lm q hq
    have z : (0 : Nat) ≠ i := by
      rcases hi with z | z
      · exact Ne.symm z
      · rw [z.2] at hq; cases hq
    exact ⟨by rw [List.getElem?_set_ne (Ne.symm z)]; exact l0, by rw [List.getElem?_set_ne (Ne.symm z)]; exact l1, l2⟩
/-- the object in slot i is changed -/
theorem RE.chg {i : Nat} {d d' : D} {p : Addr} {o : HO} (h : RE K ca B own env σ F H) (hi : i ∈ own) (he : env[i]? = some (some d)) (hp : σ[i]? = some (some (.ref p))) (ho : OwO K ca F (upd H p o) d' p) : RE K ca B own (env.set i (some d')) σ F (upd H p o) := by
  obtain ⟨p', hp', O⟩ := h.ow i d hi he
  rw [hp] at hp'
  cases hp'
  have ncod : ∀ {q : Addr} {n : Str}, H q = some (LamX.CodeO q n) → q = p → False := fun {q n} e z => by
    subst z
    exact O.o.ncode _ e
  have get : ∀ {j e}, (env.set i (some d'))[j]? = some (some e) → (j = i ∧ e = d') ∨ (j ≠ i ∧ env[j]? = some (some e)) := fun {j e} q => by
    by_cases hj : j = i
    · subst hj
      rw [List.getElem?_set_self (List.getElem?_eq_some_iff.mp he).1] at q
      cases q
      exact .inl ⟨rfl, rfl⟩
    · rw [List.getElem?_set_ne (Ne.symm hj)] at q
      exact .inr ⟨hj, q⟩
  have got : ∀ {j e}, (env.set i (some d'))[j]? = some (some e) → ∃ e0, env[j]? = some (some e0) := fun {j e} q => by
    rcases get q with ⟨rfl, rfl⟩ | ⟨_, z⟩
    · exact ⟨_, he⟩
    · exact ⟨_, z⟩
  have keep : ∀ q u, F q = some u → q ≠ p := fun q u hq z => by rw [z, O.f] at hq; cases hq
  refine ⟨⟨fun q u hq => by rw [upd_ne (keep q u hq)]; exact h.q.sub q u hq, h.q.sF, fun q u hq n t => ?_, h.q.nw, fun q hq => ⟨?_, (h.q.mp q hq).2⟩, ?_, h.q.nt⟩, by rw [List.length_set]; exact h.len, fun j e n q => ?_, fun j e m q => ?_, fun j k q e e' a b n e1 e2 => ?_, fun q hq => ?_, fun q hq => ?_⟩
  · have hb : q ≠ p := fun z => by
      subst z
      rcases O.b with w | w
      · obtain ⟨ps, w⟩ := w u hq; exact t ps w
      · exact n w
    rw [upd_ne hb]
    exact h.q.sH q u hq n t
  · by_cases hb : q = p
    · subst hb; exact ho.thr
    · exact fun z => (h.q.mp q hq).1 fun u e => z u (by rw [upd_ne hb]; exact e)
  · intro pr hpr
    obtain ⟨ps, t1, t2, t3⟩ := h.q.tb pr hpr
    have hb : pr.1 ≠ p := fun z => O.o.ntbl ps (z ▸ t1)
    refine ⟨ps, by rw [upd_ne hb]; exact t1, t2, fun pos cv hc => ?_⟩
    obtain ⟨c, e1, e2⟩ := t3 pos cv hc
    exact ⟨c, e1, by rw [upd_ne (fun z => ncod e2 z)]; exact e2⟩
  · rcases get q with ⟨rfl, rfl⟩ | ⟨hj, q⟩
    · exact absurd hi n
    · exact h.fr j e n q
  · rcases get q with ⟨rfl, rfl⟩ | ⟨hj, q⟩
    · exact ⟨p, hp, ho, O.f, O.b⟩
    · obtain ⟨r, h1, h2⟩ := h.ow j e m q
      have hb : r ≠ p := fun z => h.ne i j p d e hi m (Ne.symm hj) he q hp (z ▸ h1)
      refine ⟨r, h1, ?_, h2.f, h2.b⟩
      exact h2.o.move (fun u e => by rw [upd_ne hb]; exact e) (Same.refl _)
  · obtain ⟨f1, g1⟩ := got e1
    obtain ⟨f2, g2⟩ := got e2
    exact h.ne j k q f1 f2 a b n g1 g2
  · obtain ⟨m0, m1, d0, m2⟩ := h.mt q hq
    refine ⟨m0, m1, ?_⟩
    by_cases hj : (0 : Nat) = i
    · subst hj
      exact ⟨d', List.getElem?_set_self (List.getElem?_eq_some_iff.mp he).1⟩
    · exact ⟨d0, by rw [List.getElem?_set_ne (Ne.symm hj)]; exact m2⟩
  · obtain ⟨l0, l1, l2⟩ := h.lm q hq
    have z : (0 : Nat) ≠ i := fun z => by rw [← z, l0] at he; cases he
    exact ⟨by rw [List.getElem?_set_ne (Ne.symm z)]; exact l0, l1, by rw [upd_ne (fun z => ncod l2 z)]; exact l2⟩
end
end Dl

namespace Dl
open PySem PySem.Spec PyProof.Rows L2

/-- an exception of the class numbered c with these fields -/
def XR (K : PySem.W.Frag) (ca : CA) (c : Nat) (fs : List (Str × D)) (e : Value) (o : Option Addr) (F : Hp) : Prop :=
  e = .ref (ca c) ∧ ((fs = [] ∧ o = none) ∨ ∃ d gs, o = some d ∧ F d = some (.xd gs) ∧ RepF K ca F fs gs)
theorem XR.mono {K : PySem.W.Frag} {ca : CA} {c : Nat} {fs : List (Str × D)} {e : Value} {o : Option Addr} {F F' : Hp} (h : XR K ca c fs e o F) (s : Same F F') : XR K ca c fs e o F' :=
  ⟨h.1, h.2.imp id fun ⟨d, gs, a, b, r⟩ => ⟨d, gs, a, s _ _ b, r.mono s⟩⟩
structure Cd where
  ca : CA
  B : Bs
  /-- what an exception that leaves finds -/
  E : XK
  /-- what is returned is a new object, the caller's own -/
  nw : Bool
section
variable (K : PySem.W.Frag) (C : Cd) (own : List Nat)
def Pst {α : Type} (r : R (α × En)) (σ : L2.St) (F : Hp) (k : α → En → Hp → Hp → Prop) : Prop := match r with
  | .ok (a, env') => ∀ F' H', RE K C.ca C.B own env' σ F' H' → Same F F' → k a env' F' H'
  | .ex c fs => ∀ e o F' H', Bq C.ca C.B F' H' → Same F F' → XR K C.ca c fs e o F' → C.E e o H'
  | .no => False
def tE (f : En → R (D × En)) : TE := fun σ H Q => ∃ env F, RE K C.ca C.B own env σ F H ∧ Pst K C own (f env) σ F fun d _ F' H' => ∀ v, Rep K C.ca F' d v → Q v H'
def tT (f : En → R (Bool × En)) : TT := fun σ H Q => ∃ env F, RE K C.ca C.B own env σ F H ∧ Pst K C own (f env) σ F fun b _ _ H' => Q b H'
def tA (f : En → R (List D × En)) : TA := fun σ H Q => ∃ env F, RE K C.ca C.B own env σ F H ∧ Pst K C own (f env) σ F fun ds _ F' H' => ∀ vs, Reps K C.ca F' ds vs → Q vs H'
end
section
variable {K : PySem.W.Frag} {C : Cd} {own : List Nat} {α β : Type} {σ : L2.St} {F F' H H' : Hp} {env : En}
theorem Pst.imp {r : R (α × En)} {k k' : α → En → Hp → Hp → Prop} (h : Pst K C own r σ F k) (g : ∀ a e F' H', RE K C.ca C.B own e σ F' H' → Same F F' → k a e F' H' → k' a e F' H') : Pst K C own r σ F k' := by
  cases r with
  | ok p => exact fun F' H' hR s => g _ _ _ _ hR s (h F' H' hR s)
  | ex c fs => exact h
  | no => exact h
theorem Pst.later {r : R (α × En)} {k : α → En → Hp → Hp → Prop} (h : Pst K C own r σ F k) (s : Same F F') : Pst K C own r σ F' k := by
  cases r with
  | ok p => exact fun F2 H2 hR s2 => h F2 H2 hR (s.trans s2)
  | ex c fs => exact fun e o F2 H2 q s2 => h e o F2 H2 q (s.trans s2)
  | no => exact h
theorem Pst.bind {r : R (α × En)} {g : α × En → R (β × En)} {k : β → En → Hp → Hp → Prop} (h : Pst K C own (r.bind g) σ F k) : Pst K C own r σ F fun a e F1 _ => Pst K C own (g (a, e)) σ F1 k := by
  cases r with
  | ok p => exact fun F' H' hR s => (show Pst K C own (g p) σ F k from h).later s
  | ex c fs => exact h
  | no => exact h
theorem Pst.here {a : α} {k : α → En → Hp → Hp → Prop} (h : Pst K C own (.ok (a, env)) σ F k) (hR : RE K C.ca C.B own env σ F H) : k a env F H := h F H hR (Same.refl _)
/-- a step that is known -/
theorem Pst.known {r : R α} {g : α → R (β × En)} {k : β → En → Hp → Hp → Prop} (h : Pst K C own (r.bind g) σ F k) (hr : ∀ c fs, r ≠ .ex c fs) : ∃ a, r = .ok a ∧ Pst K C own (g a) σ F k := by
  cases r with
  | ok a => exact ⟨a, rfl, h⟩
  | ex c fs => exact absurd rfl (hr c fs)
  | no => exact h.elim
end
theorem pe_imp {X : Cx} {e : Expr} {t t' : TE} (h : PE X e t) (g : ∀ σ H Q, t' σ H Q → t σ H Q) : PE X e t' := ⟨fun pins s σ H Q I q => h.run pins s σ H Q I (g _ _ _ q)⟩
theorem pt_imp {X : Cx} {e : Expr} {t t' : TT} (h : PT X e t) (g : ∀ σ H Q, t' σ H Q → t σ H Q) : PT X e t' := ⟨fun pins s σ H Q I q => h.run pins s σ H Q I (g _ _ _ q)⟩
theorem pw_imp {X : Cx} {e : Expr} {t t' : TT} (h : PW X e t) (g : ∀ σ H Q, t' σ H Q → t σ H Q) : PW X e t' := ⟨fun wh pins s σ H Q I q => h.run wh pins s σ H Q I (g _ _ _ q)⟩
theorem pa_imp {X : Cx} {e : List Expr} {t t' : TA} (h : PA X e t) (g : ∀ σ H Q, t' σ H Q → t σ H Q) : PA X e t' := ⟨fun pos pins s σ H Q I q => h.run pos pins s σ H Q I (g _ _ _ q)⟩
theorem ps_imp {X : Cx} {e : Stmt} {t t' : TS} (h : PS X e t) (g : ∀ D σ H, t' D σ H → t D σ H) : PS X e t' := ⟨fun pins s σ H D I q => h.run pins s σ H D I (g _ _ _ q)⟩
theorem pss_imp {X : Cx} {e : List Stmt} {t t' : TS} (h : PSs X e t) (g : ∀ D σ H, t' D σ H → t D σ H) : PSs X e t' := ⟨fun pins s σ H D I q => h.run pins s σ H D I (g _ _ _ q)⟩

/-! ### combinators -/
abbrev EF := En → R (D × En)
abbrev TF := En → R (Bool × En)
abbrev AF := En → R (List D × En)
def eV (i : Nat) : EF := fun env => match env[i]? with
  | some (some d) => .ok (d, env)
  | _ => .no
def eC (d : D) : EF := fun env => .ok (d, env)
def e1 (g : D → R D) (f : EF) : EF := fun env => (f env).bind fun p => (g p.1).bind fun r => .ok (r, p.2)
def e2 (g : D → D → R D) (f1 f2 : EF) : EF := fun env => (f1 env).bind fun p => (f2 p.2).bind fun q => (g p.1 q.1).bind fun r => .ok (r, q.2)
def eN (g : List D → R D) (fs : AF) : EF := fun env => (fs env).bind fun p => (g p.1).bind fun r => .ok (r, p.2)
def aNil : AF := fun env => .ok ([], env)
def aCons (f : EF) (fs : AF) : AF := fun env => (f env).bind fun p => (fs p.2).bind fun q => .ok (p.1 :: q.1, q.2)
def eIf (t : TF) (f1 f2 : EF) : EF := fun env => (t env).bind fun p => if p.1 = true then f1 p.2 else f2 p.2
/-- the truth of a True or False -/
def blD : D → R Bool
  | .bl b => .ok b
  | _ => .no
def tB1 (f : EF) : TF := fun env => (f env).bind fun p => (blD p.1).bind fun b => .ok (b, p.2)
def tNot1 (f : TF) : TF := fun env => (f env).bind fun p => .ok (!p.1, p.2)
def tAnd1 (f g : TF) : TF := fun env => (f env).bind fun p => if p.1 = true then g p.2 else .ok (false, p.2)
def tOr1 (f g : TF) : TF := fun env => (f env).bind fun p => if p.1 = true then .ok (true, p.2) else g p.2
/-- and, or as values: the left ones True or False -/
def eAnd (f g : EF) : EF := fun env => (f env).bind fun p => (blD p.1).bind fun b => if b = true then g p.2 else .ok (.bl false, p.2)
def eOr (f g : EF) : EF := fun env => (f env).bind fun p => (blD p.1).bind fun b => if b = true then .ok (.bl true, p.2) else g p.2
def eNot (f : EF) : EF := fun env => (f env).bind fun p => (blD p.1).bind fun b => .ok (.bl (!b), p.2)

/-! ### readings by value -/
def r2 (K : PySem.W.Frag) (ca : CA) (g : D → D → R D) : R2 := fun x y H Q => ∃ F a b d, Same F H ∧ Rep K ca F a x ∧ Rep K ca F b y ∧ g a b = .ok d ∧ ∀ v F' H', Stp F H F' H' → Rep K ca F' d v → Q v H'
def r1 (K : PySem.W.Frag) (ca : CA) (g : D → R D) : V → Hp → VK → Prop := fun x H Q => ∃ F a d, Same F H ∧ Rep K ca F a x ∧ g a = .ok d ∧ ∀ v F' H', Stp F H F' H' → Rep K ca F' d v → Q v H'
def rN (K : PySem.W.Frag) (ca : CA) (g : List D → R D) : List V → Hp → VK → Prop := fun xs H Q => ∃ F ds d, Same F H ∧ Reps K ca F ds xs ∧ g ds = .ok d ∧ ∀ v F' H', Stp F H F' H' → Rep K ca F' d v → Q v H'

section
variable {X : Cx} {C : Cd} {own : List Nat} {a b c : Expr} {es : List Expr} {pos : Pos} {fa fb : EF} {fs : AF} {ft fu : TF}
theorem noex1 {g : D → R D} {x : D} (h : ∀ a c fs, g a ≠ .ex c fs) : ∀ c fs, g x ≠ .ex c fs := h x

theorem ev_v (i : Nat) {x : Str} (hi : (own.contains i) = false := by rfl) (hN : X.N[i]? = some x := by rfl) (hv : Vis X.env.scope x := by first | exact Or.inl rfl | exact Or.inr (Or.inl rfl) | exact Or.inr (Or.inr rfl)) (hd : (x == ("__debug__" : Str)) = false := by decide)
    (hcd : (x == ("__classdict__" : Str)) = false := by decide) : PE X (.Name x pos) (tE X.K C own (eV i)) :=
  pe_imp (pv i hN hv hd hcd) fun σ H Q ⟨env, F, hR, h⟩ => by
    unfold eV at h
    split at h
    · rename_i d e
      obtain ⟨v, h1, h2⟩ := hR.fr i d (by simpa using hi) e
      exact ⟨v, h1, h.here hR v h2⟩
    · exact h.elim
theorem ev_k {d : D} {v : V} (he : PE X a (tC v)) (r : ∀ F, Rep X.K C.ca F d v) : PE X a (tE X.K C own (eC d)) :=
  pe_imp he fun σ H Q ⟨env, F, hR, h⟩ => h.here hR v (r F)
theorem ev_int {i j} : PE X (.Constant (.int i) j pos) (tE X.K C own (eC (.int i))) := ev_k pe_int fun _ => .int i
theorem ev_bl {b j} : PE X (.Constant (.bool b) j pos) (tE X.K C own (eC (.bl b))) := ev_k pe_bl fun _ => .bl b
theorem ev_non {j} : PE X (.Constant .none j pos) (tE X.K C own (eC .non)) := ev_k pe_non fun _ => .non
theorem ev_str {z j} : PE X (.Constant (.str z) j pos) (tE X.K C own (eC (.str z))) := ev_k pe_str fun _ => .str z

theorem two {β : Type} {g : D → D → R β} {k : β → En → Hp → Hp → Prop} {σ : L2.St} {F H : Hp} {env : En} (hn : ∀ x y c fs, g x y ≠ .ex c fs) (hR : RE X.K C.ca C.B own env σ F H)
    (h : Pst X.K C own ((fa env).bind fun p => (fb p.2).bind fun q => (g p.1 q.1).bind fun r => .ok (r, q.2)) σ F k)
    {r : V → V → Hp → Prop} (hr : ∀ x y v w d F' H' e, g x y = .ok d → RE X.K C.ca C.B own e σ F' H' → Rep X.K C.ca F' x v → Rep X.K C.ca F' y w → (∀ F2 H2, Stp F' H' F2 H2 → k d e F2 H2) → r v w H') :
    tE X.K C own fa σ H fun x H1 => tE X.K C own fb σ H1 fun y H2 => r x y H2 := by
  refine ⟨env, F, hR, h.bind.imp fun x e1 F1 H1 hR1 s1 h1 v rv => ⟨e1, F1, hR1, h1.bind.imp fun y e2 F2 H2 hR2 s2 h2 w rw' => ?_⟩⟩
  obtain ⟨d, hd, h3⟩ := h2.known (hn x y)
  exact hr x y v w d F2 H2 e2 hd hR2 (rv.mono s2) rw' fun F3 H3 st => h3 F3 H3 (hR2.step st) st.sF
theorem ev_op {op : Operator} {g : D → D → R D} (hn : ∀ x y c fs, g x y ≠ .ex c fs) (ho : OpR X (binaryOp op) (r2 X.K C.ca g)) (ha : PE X a (tE X.K C own fa)) (hb : PE X b (tE X.K C own fb)) : PE X (.BinOp a op b pos) (tE X.K C own (e2 g fa fb)) :=
  pe_imp (pe_op ho ha hb) fun σ H Q ⟨env, F, hR, h⟩ => two hn hR h fun x y v w d F' H' e hd hR' rv rw' q => ⟨F', x, y, d, hR'.q.sub, rv, rw', hd, fun u F2 H2 st ru => q F2 H2 st u ru⟩
theorem ev_cmp {op : CmpOp} {g : D → D → R D} (hn : ∀ x y c fs, g x y ≠ .ex c fs) (ho : OpR X (compareOp op) (r2 X.K C.ca g)) (ha : PE X a (tE X.K C own fa)) (hb : PE X b (tE X.K C own fb)) (hm : behindInMarks op b = false := by first | exact nomark _ | rfl) : PE X (.Compare a [op] [b] pos) (tE X.K C own (e2 g fa fb)) :=
  pe_imp (pe_cmpR ho ha hb hm) fun σ H Q ⟨env, F, hR, h⟩ => two hn hR h fun x y v w d F' H' e hd hR' rv rw' q => ⟨F', x, y, d, hR'.q.sub, rv, rw', hd, fun u F2 H2 st ru => q F2 H2 st u ru⟩
theorem ev_ix {g : D → D → R D} (hn : ∀ x y c fs, g x y ≠ .ex c fs) (ho : IxR X (r2 X.K C.ca g)) (ha : PE X a (tE X.K C own fa)) (hb : PE X b (tE X.K C own fb)) (hs : PlainIx b := by exact fun _ _ => rfl) : PE X (.Subscript a b pos) (tE X.K C own (e2 g fa fb)) :=
  pe_imp (pe_ix ho ha hb hs) fun σ H Q ⟨env, F, hR, h⟩ => two hn hR h fun x y v w d F' H' e hd hR' rv rw' q => ⟨F', x, y, d, hR'.q.sub, rv, rw', hd, fun u F2 H2 st ru => q F2 H2 st u ru⟩
theorem ev_un {op : UnaryOp} {g : D → R D} (hn : ∀ x c fs, g x ≠ .ex c fs) (ho : UnR X (unaryOp op) (r1 X.K C.ca g)) (ha : PE X a (tE X.K C own fa)) : PE X (.UnaryOp op a pos) (tE X.K C own (e1 g fa)) :=
  pe_imp (pe_un ho ha) fun σ H Q ⟨env, F, hR, h⟩ => ⟨env, F, hR, h.bind.imp fun x e1 F1 H1 hR1 s1 h1 v rv => by
    obtain ⟨d, hd, h3⟩ := h1.known (hn x)
    exact ⟨F1, x, d, hR1.q.sub, rv, hd, fun u F2 H2 st ru => h3 F2 H2 (hR1.step st) st.sF u ru⟩⟩
theorem ea_nil : PA X [] (tA X.K C own aNil) := pa_imp pa_nil fun σ H Q ⟨env, F, hR, h⟩ => h.here hR [] .nil
theorem ea_cons (ha : PE X a (tE X.K C own fa)) (hr : PA X es (tA X.K C own fs)) (hs : starEach (a :: es) X.env = (false, eval a X.env) :: starEach es X.env := by rfl) : PA X (a :: es) (tA X.K C own (aCons fa fs)) :=
  pa_imp (pa_cons ha hr hs) fun σ H Q ⟨env, F, hR, h⟩ => ⟨env, F, hR, h.bind.imp fun x e1 F1 H1 hR1 s1 h1 v rv => ⟨e1, F1, hR1, h1.bind.imp fun ys e2 F2 H2 hR2 s2 h2 vs rvs => h2.here hR2 (v :: vs) (.cons (rv.mono s2) rvs)⟩⟩
theorem argsN {g : List D → R D} {k : D → En → Hp → Hp → Prop} {σ : L2.St} {F H : Hp} {env : En} (hn : ∀ x c fs, g x ≠ .ex c fs) (hR : RE X.K C.ca C.B own env σ F H)
    (h : Pst X.K C own ((fs env).bind fun p => (g p.1).bind fun r => .ok (r, p.2)) σ F k)
    {r : List V → Hp → Prop} (hr : ∀ xs vs d F' H' e, g xs = .ok d → RE X.K C.ca C.B own e σ F' H' → Reps X.K C.ca F' xs vs → (∀ F2 H2, Stp F' H' F2 H2 → k d e F2 H2) → r vs H') :
    tA X.K C own fs σ H fun vs H1 => r vs H1 := by
  refine ⟨env, F, hR, h.bind.imp fun xs e1 F1 H1 hR1 s1 h1 vs rv => ?_⟩
  obtain ⟨d, hd, h3⟩ := h1.known (hn xs)
  exact hr xs vs d F1 H1 e1 hd hR1 rv fun F3 H3 st => h3 F3 H3 (hR1.step st) st.sF
theorem ev_callB {x : Str} {id : String} {p : Pos} {g : List D → R D} (hn : ∀ x c fs, g x ≠ .ex c fs) (hc : CallR X (.builtin id) (rN X.K C.ca g)) (hm : X.mg x = none) (ha : PA X (a :: es) (tA X.K C own fs)) (hg : Gl X x := by rfl) (hv : bootBuiltins x = some (.builtin id) := by decide +kernel)
    (hx : x ≠ "__name__" := by decide) (hdb : (x == ("__debug__" : Str)) = false := by decide) (he : starEach (a :: es) X.env = (false, eval a X.env) :: starEach es X.env := by rfl) (hpl : (backTo pos (starEach es X.env)).any (·.1) = false := by rfl) :
    PE X (.Call (.Name x p) (a :: es) [] pos) (tE X.K C own (eN g fs)) :=
  pe_imp (pe_callB hc hg hm hv ha hx hdb he hpl) fun σ H Q ⟨env, F, hR, h⟩ => argsN hn hR h fun xs vs d F' H' e hd hR' rv q => ⟨F', xs, d, hR'.q.sub, rv, hd, fun u F2 H2 st ru => q F2 H2 st u ru⟩
theorem ev_callT {x : Str} {T : String} {p : Pos} {g : List D → R D} (hn : ∀ x c fs, g x ≠ .ex c fs) (hc : CallR X (.type T) (rN X.K C.ca g)) (hm : X.mg x = none) (ha : PA X (a :: es) (tA X.K C own fs)) (hg : Gl X x := by rfl) (hv : bootBuiltins x = some (.type T) := by decide +kernel)
    (hx : x ≠ "__name__" := by decide) (hdb : (x == ("__debug__" : Str)) = false := by decide) (he : starEach (a :: es) X.env = (false, eval a X.env) :: starEach es X.env := by rfl) (hpl : (backTo pos (starEach es X.env)).any (·.1) = false := by rfl) :
    PE X (.Call (.Name x p) (a :: es) [] pos) (tE X.K C own (eN g fs)) :=
  pe_imp (pe_callTy hc hg hm hv ha hx hdb he hpl) fun σ H Q ⟨env, F, hR, h⟩ => argsN hn hR h fun xs vs d F' H' e hd hR' rv q => ⟨F', xs, d, hR'.q.sub, rv, hd, fun u F2 H2 st ru => q F2 H2 st u ru⟩

/-! ### tests -/
theorem et_val (h : PE X a (tE X.K C own fa)) (he : ∀ whole, isTrue a X.env whole = (do let v ← whole; standAt a.pos; holding [v] (truthy v)) := by intro _; rfl) : PT X a (tT X.K C own (tB1 fa)) :=
  pt_imp (pt_val h he) fun σ H Q ⟨env, F, hR, h⟩ => ⟨env, F, hR, h.bind.imp fun x e1 F1 H1 hR1 s1 h1 v rv => by
    cases x <;> try exact h1.elim
    cases rv
    exact ⟨_, rfl, h1.here hR1⟩⟩
theorem et_cmp {op : CmpOp} {g : D → D → R D} (hn : ∀ x y c fs, g x y ≠ .ex c fs) (ho : OpR X (compareOp op) (r2 X.K C.ca g)) (ha : PE X a (tE X.K C own fa)) (hb : PE X b (tE X.K C own fb)) (hm : behindInMarks op b = false := by first | exact nomark _ | rfl) : PT X (.Compare a [op] [b] pos) (tT X.K C own (tB1 (e2 g fa fb))) :=
  pt_imp (pt_cmpR ho ha hb hm) fun σ H Q ⟨env, F, hR, h⟩ => by
    have h : Pst X.K C own ((e2 g fa fb env).bind fun p => (blD p.1).bind fun b => .ok (b, p.2)) σ F fun b _ _ H' => Q b H' := h
    refine two (k := fun d e F2 H2 => Pst X.K C own ((blD d).bind fun b => .ok (b, e)) σ F2 fun b _ _ H' => Q b H') hn hR h.bind fun x y v w d F' H' e hd hR' rv rw' q => ⟨F', x, y, d, hR'.q.sub, rv, rw', hd, fun u F2 H2 st ru => ?_⟩
    have q' := q F2 H2 st
    cases d <;> try exact q'.elim
    cases ru
    exact ⟨_, rfl, q'.here (hR'.step st)⟩
theorem et_not (h : PT X a (tT X.K C own ft)) : PT X (.UnaryOp .Not a pos) (tT X.K C own (tNot1 ft)) :=
  pt_imp (pt_not h) fun σ H Q ⟨env, F, hR, h⟩ => ⟨env, F, hR, h.bind.imp fun x e1 F1 H1 hR1 s1 h1 => h1.here hR1⟩
theorem ew_and1 (ha : PT X a (tT X.K C own ft)) : PW X (.BoolOp .And [a] pos) (tT X.K C own ft) := pw_and1 ha
theorem ew_or1 (ha : PT X a (tT X.K C own ft)) : PW X (.BoolOp .Or [a] pos) (tT X.K C own ft) := pw_or1 ha
theorem ew_and {rest : List Expr} (ha : PT X a (tT X.K C own ft)) (hb : PW X (.BoolOp .And (b :: rest) pos) (tT X.K C own fu)) : PW X (.BoolOp .And (a :: b :: rest) pos) (tT X.K C own (tAnd1 ft fu)) :=
  pw_imp (pw_and ha hb) fun σ H Q ⟨env, F, hR, h⟩ => ⟨env, F, hR, h.bind.imp fun x e1 F1 H1 hR1 s1 h1 => by
    cases x with
    | true => exact ⟨e1, F1, hR1, h1⟩
    | false => exact h1.here hR1⟩
theorem ew_or {rest : List Expr} (ha : PT X a (tT X.K C own ft)) (hb : PW X (.BoolOp .Or (b :: rest) pos) (tT X.K C own fu)) : PW X (.BoolOp .Or (a :: b :: rest) pos) (tT X.K C own (tOr1 ft fu)) :=
  pw_imp (pw_or ha hb) fun σ H Q ⟨env, F, hR, h⟩ => ⟨env, F, hR, h.bind.imp fun x e1 F1 H1 hR1 s1 h1 => by
    cases x with
    | true => exact h1.here hR1
    | false => exact ⟨e1, F1, hR1, h1⟩⟩
theorem ev_if (hc : PT X c (tT X.K C own ft)) (ha : PE X a (tE X.K C own fa)) (hb : PE X b (tE X.K C own fb)) : PE X (.IfExp c a b pos) (tE X.K C own (eIf ft fa fb)) :=
  pe_imp (pe_ifExp hc ha hb) fun σ H Q ⟨env, F, hR, h⟩ => ⟨env, F, hR, h.bind.imp fun x e1 F1 H1 hR1 s1 h1 => by
    cases x with
    | true => exact ⟨e1, F1, hR1, h1⟩
    | false => exact ⟨e1, F1, hR1, h1⟩⟩
theorem ev_and1 {op : BoolOp} (ha : PE X a (tE X.K C own fa)) : PE X (.BoolOp op [a] pos) (tE X.K C own fa) := pe_one ha
theorem ev_and {rest : List Expr} (ha : PE X a (tE X.K C own fa)) (hb : PE X (.BoolOp .And (b :: rest) pos) (tE X.K C own fb)) : PE X (.BoolOp .And (a :: b :: rest) pos) (tE X.K C own (eAnd fa fb)) :=
  pe_imp (pe_and ha hb) fun σ H Q ⟨env, F, hR, h⟩ => ⟨env, F, hR, h.bind.imp fun x e1 F1 H1 hR1 s1 h1 v rv => by
    cases x <;> try exact h1.elim
    rename_i k
    cases rv
    refine ⟨k, rfl, ?_⟩
    cases k with
    | true => exact ⟨e1, F1, hR1, h1⟩
    | false => exact h1.here hR1 _ (.bl false)⟩
theorem ev_or {rest : List Expr} (ha : PE X a (tE X.K C own fa)) (hb : PE X (.BoolOp .Or (b :: rest) pos) (tE X.K C own fb)) : PE X (.BoolOp .Or (a :: b :: rest) pos) (tE X.K C own (eOr fa fb)) :=
  pe_imp (pe_or ha hb) fun σ H Q ⟨env, F, hR, h⟩ => ⟨env, F, hR, h.bind.imp fun x e1 F1 H1 hR1 s1 h1 v rv => by
    cases x <;> try exact h1.elim
    rename_i k
    cases rv
    refine ⟨k, rfl, ?_⟩
    cases k with
    | true => exact h1.here hR1 _ (.bl true)
    | false => exact ⟨e1, F1, hR1, h1⟩⟩
theorem ev_not (ha : PE X a (tE X.K C own fa)) : PE X (.UnaryOp .Not a pos) (tE X.K C own (eNot fa)) :=
  pe_imp (pe_not ha) fun σ H Q ⟨env, F, hR, h⟩ => ⟨env, F, hR, h.bind.imp fun x e1 F1 H1 hR1 s1 h1 v rv => by
    cases x <;> try exact h1.elim
    rename_i k
    cases rv
    exact ⟨k, rfl, h1.here hR1 _ (.bl _)⟩⟩
end
end Dl

namespace Dl
open PySem PySem.Spec PyProof.Rows L2

/-! ### statements -/
inductive SR where
  | nx (e : En) | rt (d : D) (e : En) | bk (e : En) | ct (e : En) | ex (c : Nat) (fs : List (Str × D)) | no
def R.toS {α : Type} (r : R α) (k : α → SR) : SR := match r with
  | .ok a => k a
  | .ex c fs => .ex c fs
  | .no => .no
@[simp] theorem R.toS_ok {α : Type} (a : α) (k : α → SR) : (R.ok a).toS k = k a := rfl
@[simp] theorem R.toS_no {α : Type} (k : α → SR) : (R.no : R α).toS k = .no := rfl
abbrev SF := En → SR
def seqS (g1 g2 : SF) : SF := fun env => match g1 env with
  | .nx e => g2 e
  | r => r
def ifS (t : TF) (g1 g2 : SF) : SF := fun env => (t env).toS fun p => if p.1 = true then g1 p.2 else g2 p.2
def asgS (i : Nat) (f : EF) : SF := fun env => (f env).toS fun p => .nx (p.2.set i (some p.1))
def retS (f : EF) : SF := fun env => (f env).toS fun p => .rt p.1 p.2
def retN : SF := fun env => .rt .non env
def expS (f : EF) : SF := fun env => (f env).toS fun p => .nx p.2
def passS : SF := fun env => .nx env
def brkS : SF := fun env => .bk env
def cntS : SF := fun env => .ct env
def neverS : SF := fun _ => .no

def MutF (K : PySem.W.Frag) (ca : CA) (B : Bs) (F H : Hp) (env : En) : Prop := ∀ p, B.m = some p → ∃ d, env[0]? = some (some d) ∧ OwO K ca F H d p
/-- what is returned -/
def RT (K : PySem.W.Frag) (C : Cd) (F H : Hp) (d : D) (v : V) : Prop := match C.nw with
  | true => ∃ p, v = .ref p ∧ F p = none ∧ NoO C.B.H p ∧ C.B.m ≠ some p ∧ OwO K C.ca F H d p
  | false => Rep K C.ca F d v
theorem RT.of {K : PySem.W.Frag} {C : Cd} {F H : Hp} {d : D} {v : V} (hw : C.nw = false) (r : Rep K C.ca F d v) : RT K C F H d v := by
  unfold RT
  rw [hw]
  exact r
section
variable (K : PySem.W.Frag) (C : Cd) (own ol : List Nat)
def Sst (r : SR) (F : Hp) (Dn : Ends) : Prop := match r with
  | .nx e => ∀ σ' F' H', RE K C.ca C.B own e σ' F' H' → Same F F' → Dn.nx σ' H'
  | .bk e => ∀ σ' F' H', RE K C.ca C.B ol e σ' F' H' → Same F F' → Dn.bk σ' H'
  | .ct e => ∀ σ' F' H', RE K C.ca C.B ol e σ' F' H' → Same F F' → Dn.ct σ' H'
  | .rt d e => ∀ v F' H', Bq C.ca C.B F' H' → MutF K C.ca C.B F' H' e → Same F F' → RT K C F' H' d v → Dn.rt v H'
  | .ex c fs => ∀ e o F' H', Bq C.ca C.B F' H' → Same F F' → XR K C.ca c fs e o F' → C.E e o H'
  | .no => False
end
def tS (K : PySem.W.Frag) (C : Cd) (own own' ol : List Nat) (g : SF) : TS := fun Dn σ H => ∃ env F, RE K C.ca C.B own env σ F H ∧ Sst K C own' ol (g env) F Dn
section
variable {K : PySem.W.Frag} {C : Cd} {own own' own1 ol : List Nat} {α : Type} {σ : L2.St} {F F' H H' : Hp} {env : En} {Dn : Ends}
theorem Sst.later {r : SR} (h : Sst K C own ol r F Dn) (s : Same F F') : Sst K C own ol r F' Dn := by
  cases r with
  | nx e => exact fun σ' F2 H2 hR s2 => h σ' F2 H2 hR (s.trans s2)
  | bk e => exact fun σ' F2 H2 hR s2 => h σ' F2 H2 hR (s.trans s2)
  | ct e => exact fun σ' F2 H2 hR s2 => h σ' F2 H2 hR (s.trans s2)
  | rt d e => exact fun v F2 H2 b m s2 => h v F2 H2 b m (s.trans s2)
  | ex c fs => exact fun e o F2 H2 q s2 => h e o F2 H2 q (s.trans s2)
  | no => exact h
theorem Sst.bind {r : R (α × En)} {k : α × En → SR} (h : Sst K C own' ol (r.toS k) F Dn) : Pst K C own r σ F fun a e F1 _ => Sst K C own' ol (k (a, e)) F1 Dn := by
  cases r with
  | ok p => exact fun F' H' hR s => (show Sst K C own' ol (k p) F Dn from h).later s
  | ex c fs => exact fun e o F2 H2 q s2 => h e o F2 H2 q s2
  | no => exact h
theorem RE.mutF (h : RE K C.ca C.B own env σ F H) : MutF K C.ca C.B F H env := fun p hp => by
  obtain ⟨m0, m1, d, m2⟩ := h.mt p hp
  obtain ⟨q, h1, h2⟩ := h.ow 0 d m0 m2
  rw [m1] at h1
  cases h1
  exact ⟨d, m2, h2.o⟩
end
section
variable {X : Cx} {C : Cd} {own own' own1 own2 ol : List Nat} {a b c : Expr} {es : List Expr} {st : Stmt} {sts : List Stmt} {pos : Pos} {fa fb : EF} {fs : AF} {ft fu : TF} {g g1 g2 : SF}
theorem sv_nil : PSs X [] (tS X.K C own own ol passS) := pss_imp pss_nil fun Dn σ H ⟨env, F, hR, h⟩ => h σ F H hR (Same.refl _)
theorem sv_cons (h1 : PS X st (tS X.K C own own1 ol g1)) (h2 : PSs X sts (tS X.K C own1 own2 ol g2)) : PSs X (st :: sts) (tS X.K C own own2 ol (seqS g1 g2)) :=
  pss_imp (pss_cons h1 h2) fun Dn σ H ⟨env, F, hR, h⟩ => ⟨env, F, hR, by
    unfold seqS at h
    cases e : g1 env with
    | nx e1 => rw [e] at h; exact fun σ' F' H' hR' s => ⟨e1, F', hR', Sst.later h s⟩
    | bk e1 => rw [e] at h; exact h
    | ct e1 => rw [e] at h; exact h
    | rt d e1 => rw [e] at h; exact h
    | ex c fs => rw [e] at h; exact h
    | no => rw [e] at h; exact h⟩
theorem sv_one (h : PS X st (tS X.K C own own' ol g)) : PSs X [st] (tS X.K C own own' ol g) := pss_one h
theorem sv_if {sa sb : List Stmt} (hc : PT X c (tT X.K C own ft)) (ha : PSs X sa (tS X.K C own own' ol g1)) (hb : PSs X sb (tS X.K C own own' ol g2)) : PS X (.If c sa sb pos) (tS X.K C own own' ol (ifS ft g1 g2)) :=
  ps_imp (ps_if hc ha hb) fun Dn σ H ⟨env, F, hR, h⟩ => ⟨env, F, hR, (Sst.bind h).imp fun x e1 F1 H1 hR1 s1 h1 => by
    cases x with
    | true => exact ⟨e1, F1, hR1, h1⟩
    | false => exact ⟨e1, F1, hR1, h1⟩⟩
theorem sv_asg {i : Nat} {x : Str} {pos' : Pos} (hN : X.N.Nodup) (he : PE X a (tE X.K C own fa)) (hm : i ≠ 0 ∨ C.B.free0) (ho : own.filter (fun j => j != i) = own' := by rfl) (hi : X.N[i]? = some x := by rfl) (hx : Loc X.env.scope x := by first | exact Or.inl rfl | exact Or.inr rfl)
    (hs : swapsWith a (some (.Name x pos')) pos.line X.env = pure false := by rfl) (hf : X.fn x = true ∨ X.env.scope.names.lookup x = some .local := by first | exact .inl rfl | exact .inr rfl | assumption) :
    PS X (.Assign [.Name x pos'] a pos) (tS X.K C own own' ol (asgS i fa)) :=
  ps_imp (ps_set hN hi hx he hs hf) fun Dn σ H ⟨env, F, hR, h⟩ => ⟨env, F, hR, (Sst.bind h).imp fun d e1 F1 H1 hR1 s1 h1 v r => h1 _ F1 H1 (hR1.put r hm ho) (Same.refl _)⟩
theorem sv_ret (he : PE X a (tE X.K C own fa)) (hw : C.nw = false := by rfl) : PS X (.Return (some a) pos) (tS X.K C own own' ol (retS fa)) :=
  ps_imp (ps_ret he) fun Dn σ H ⟨env, F, hR, h⟩ => ⟨env, F, hR, (Sst.bind h).imp fun d e1 F1 H1 hR1 s1 h1 v r => h1 v F1 H1 hR1.q hR1.mutF (Same.refl _) (.of hw r)⟩
theorem sv_retN (hw : C.nw = false := by rfl) : PS X (.Return none pos) (tS X.K C own own' ol retN) :=
  ps_imp ps_retN fun Dn σ H ⟨env, F, hR, h⟩ => h .non F H hR.q hR.mutF (Same.refl _) (.of hw .non)
theorem sv_expr (he : PE X a (tE X.K C own fa)) (hs : swapsWith a none pos.line X.env = pure false := by rfl) : PS X (.Expr a pos) (tS X.K C own own ol (expS fa)) :=
  ps_imp (ps_expr he hs) fun Dn σ H ⟨env, F, hR, h⟩ => ⟨env, F, hR, (Sst.bind h).imp fun d e1 F1 H1 hR1 s1 h1 v r => h1 σ F1 H1 hR1 (Same.refl _)⟩
theorem sv_pass : PS X (.Pass pos) (tS X.K C own own ol passS) := ps_imp ps_pass fun Dn σ H ⟨env, F, hR, h⟩ => h σ F H hR (Same.refl _)
theorem sv_brk : PS X (.Break pos) (tS X.K C own own' own brkS) := ps_imp ps_break fun Dn σ H ⟨env, F, hR, h⟩ => h σ F H hR (Same.refl _)
theorem sv_cnt : PS X (.Continue pos) (tS X.K C own own' own cntS) := ps_imp ps_continue fun Dn σ H ⟨env, F, hR, h⟩ => h σ F H hR (Same.refl _)
theorem sv_never : PS X st (tS X.K C own own' ol neverS) := ps_imp ps_never fun Dn σ H ⟨env, F, hR, h⟩ => h
theorem sv_neverS : PSs X sts (tS X.K C own own' ol neverS) := pss_imp pss_never fun Dn σ H ⟨env, F, hR, h⟩ => h
/-- the object in slot i is laid down ahead -/
theorem sv_fz (i : Nat) (h : PS X st (tS X.K C own1 own' ol g)) (hm : i ≠ 0 ∨ C.B.free0) (ho : own.filter (fun j => j != i) = own1 := by rfl) : PS X st (tS X.K C own own' ol g) :=
  ps_imp h fun Dn σ H ⟨env, F, hR, q⟩ => let ⟨F', s, hR'⟩ := hR.freeze hm ho; ⟨env, F', hR', q.later s⟩
theorem sv_fzS (i : Nat) (h : PSs X sts (tS X.K C own1 own' ol g)) (hm : i ≠ 0 ∨ C.B.free0) (ho : own.filter (fun j => j != i) = own1 := by rfl) : PSs X sts (tS X.K C own own' ol g) :=
  pss_imp h fun Dn σ H ⟨env, F, hR, q⟩ => let ⟨F', s, hR'⟩ := hR.freeze hm ho; ⟨env, F', hR', q.later s⟩
/-- .. behind -/
theorem sv_fzE (i : Nat) (h : PS X st (tS X.K C own own1 ol g)) (hm : i ≠ 0 ∨ C.B.free0) (ho : own1.filter (fun j => j != i) = own' := by rfl) : PS X st (tS X.K C own own' ol g) :=
  ps_imp h fun Dn σ H ⟨env, F, hR, q⟩ => ⟨env, F, hR, by
    cases e : g env with
    | nx e1 =>
      rw [e] at q
      exact fun σ' F' H' hR' s => let ⟨F2, s2, hR2⟩ := hR'.freeze hm ho; q σ' F2 H' hR2 (s.trans s2)
    | bk e1 => rw [e] at q; exact q
    | ct e1 => rw [e] at q; exact q
    | rt d e1 => rw [e] at q; exact q
    | ex c fs => rw [e] at q; exact q
    | no => rw [e] at q; exact q⟩
theorem sv_fzSE (i : Nat) (h : PSs X sts (tS X.K C own own1 ol g)) (hm : i ≠ 0 ∨ C.B.free0) (ho : own1.filter (fun j => j != i) = own' := by rfl) : PSs X sts (tS X.K C own own' ol g) :=
  pss_imp h fun Dn σ H ⟨env, F, hR, q⟩ => ⟨env, F, hR, by
    cases e : g env with
    | nx e1 =>
      rw [e] at q
      exact fun σ' F' H' hR' s => let ⟨F2, s2, hR2⟩ := hR'.freeze hm ho; q σ' F2 H' hR2 (s.trans s2)
    | bk e1 => rw [e] at q; exact q
    | ct e1 => rw [e] at q; exact q
    | rt d e1 => rw [e] at q; exact q
    | ex c fs => rw [e] at q; exact q
    | no => rw [e] at q; exact q⟩
end

/-! ### targets -/
abbrev BF := D → En → R En
abbrev BFs := List D → En → R En
/-- the slots beside ts are as they were -/
def Nar (ts : List Nat) (σ σ' : L2.St) : Prop := σ'.length = σ.length ∧ ∀ j, j ∉ ts → σ'[j]? = σ[j]?
def tG (K : PySem.W.Frag) (C : Cd) (own ts : List Nat) (b : BF) : TG := fun v σ H Q => ∃ env F d env', RE K C.ca C.B own env σ F H ∧ Rep K C.ca F d v ∧ b d env = .ok env' ∧ ∀ σ', RE K C.ca C.B own env' σ' F H → Nar ts σ σ' → Q σ' H
def tGs (K : PySem.W.Frag) (C : Cd) (own ts : List Nat) (b : BFs) : TGs := fun vs σ H Q => ∃ env F ds env', RE K C.ca C.B own env σ F H ∧ Reps K C.ca F ds vs ∧ b ds env = .ok env' ∧ ∀ σ', RE K C.ca C.B own env' σ' F H → Nar ts σ σ' → Q σ' H
theorem pg_imp {X : Cx} {e : Expr} {t t' : TG} (h : PG X e t) (g : ∀ v σ H Q, t' v σ H Q → t v σ H Q) : PG X e t' := ⟨fun pins s σ H v u Q I r q => h.run pins s σ H v u Q I r (g _ _ _ _ q)⟩
theorem pgs_imp {X : Cx} {e : List Expr} {t t' : TGs} (h : PGs X e t) (g : ∀ v σ H Q, t' v σ H Q → t v σ H Q) : PGs X e t' := ⟨fun pins s σ H v u Q I r q => h.run pins s σ H v u Q I r (g _ _ _ _ q)⟩
def bName (i : Nat) : BF := fun d env => .ok (env.set i (some d))
def bNil : BFs := fun ds env => match ds with
  | [] => .ok env
  | _ => .no
def bCons (b : BF) (bs : BFs) : BFs := fun ds env => match ds with
  | d :: r => (b d env).bind fun e => bs r e
  | [] => .no
def bTup (n : Nat) (b : BFs) : BF := fun d env => match d with
  | .tup xs => if xs.length = n then b xs env else .no
  | _ => .no
def bLst (n : Nat) (b : BFs) : BF := fun d env => match d with
  | .lst xs => if xs.length = n then b xs env else .no
  | _ => .no
theorem R.bind_eq_ok {α β : Type} {r : R α} {f : α → R β} {b : β} (h : r.bind f = .ok b) : ∃ a, r = .ok a ∧ f a = .ok b := by
  cases r with
  | ok a => exact ⟨a, rfl, h⟩
  | ex c fs => cases h
  | no => cases h
section
variable {X : Cx} {C : Cd} {own ts ts' : List Nat} {pos : Pos} {b : BF} {bs : BFs}
theorem eg_name {i : Nat} {x : Str} (hN : X.N.Nodup) (hm : i ≠ 0 ∨ C.B.free0) (ho : own.filter (fun j => j != i) = own := by rfl) (hi : X.N[i]? = some x := by rfl) (hx : Loc X.env.scope x := by first | exact Or.inl rfl | exact Or.inr rfl) (hf : X.fn x = true ∨ X.env.scope.names.lookup x = some .local := by first | exact .inl rfl | exact .inr rfl | assumption) :
    PG X (.Name x pos) (tG X.K C own [i] (bName i)) :=
  pg_imp (pg_name hN hi hx hf) fun v σ H Q ⟨env, F, d, env', hR, r, e, q⟩ => by
    cases e
    exact q _ (hR.put r hm ho) ⟨List.length_set, fun j hj => List.getElem?_set_ne (fun z => hj (by rw [z]; exact List.mem_singleton.mpr rfl))⟩
theorem egs_nil : PGs X [] (tGs X.K C own [] bNil) :=
  pgs_imp pgs_nil fun vs σ H Q ⟨env, F, ds, env', hR, r, e, q⟩ => by
    cases r with
    | nil => cases e; exact ⟨rfl, q _ hR ⟨rfl, fun _ _ => rfl⟩⟩
    | cons _ _ => cases e
theorem egs_cons {e : Expr} {es : List Expr} (h1 : PG X e (tG X.K C own ts b)) (h2 : PGs X es (tGs X.K C own ts' bs)) (hs : (assignEach (e :: es) X.env).map (·.2) = assign e X.env :: (assignEach es X.env).map (·.2) := by rfl) : PGs X (e :: es) (tGs X.K C own (ts ++ ts') (bCons b bs)) :=
  pgs_imp (pgs_cons h1 h2 hs) fun vs σ H Q ⟨env, F, ds, env', hR, r, e, q⟩ => by
    cases r with
    | nil => cases e
    | cons r rs =>
      obtain ⟨e1, h1, h2⟩ := R.bind_eq_ok e
      exact ⟨_, _, rfl, env, F, _, e1, hR, r, h1, fun σ' hR' z => ⟨e1, F, _, env', hR', rs, h2, fun σ2 hR2 z2 => q σ2 hR2 ⟨z2.1.trans z.1, fun j hj => (z2.2 j fun w => hj (List.mem_append_right _ w)).trans (z.2 j fun w => hj (List.mem_append_left _ w))⟩⟩⟩
theorem eg_tup {es : List Expr} {k n : Nat} (hc : X.calm = true) (h : PGs X es (tGs X.K C own ts bs)) (hn : (assignEach es X.env).length = n := by rfl) (hst : (assignEach es X.env).findIdx? (·.1) = none := by rfl) : PG X (.Tuple es k pos) (tG X.K C own ts (bTup n bs)) :=
  pg_imp (pg_tup hc h hn hst) fun v σ H Q ⟨env, F, d, env', hR, r, e, q⟩ => by
    unfold bTup at e
    cases r with
    | tup hq rs =>
      dsimp only at e
      split at e
      · rename_i hl
        exact ⟨_, _, rfl, Same.seqT hR.q.sub hq, by rw [← rs.length]; exact hl, env, F, _, env', hR, rs, e, q⟩
      · cases e
    | _ => cases e
theorem eg_lst {es : List Expr} {k n : Nat} (hc : X.calm = true) (h : PGs X es (tGs X.K C own ts bs)) (hn : (assignEach es X.env).length = n := by rfl) (hst : (assignEach es X.env).findIdx? (·.1) = none := by rfl) : PG X (.Tuple es k pos) (tG X.K C own ts (bLst n bs)) :=
  pg_imp (pg_lst hc h hn hst) fun v σ H Q ⟨env, F, d, env', hR, r, e, q⟩ => by
    unfold bLst at e
    cases r with
    | lst hq rs =>
      dsimp only at e
      split at e
      · rename_i hl
        exact ⟨_, _, rfl, SqL.of (hR.q.sub _ _ hq), by rw [← rs.length]; exact hl, env, F, _, env', hR, rs, e, q⟩
      · cases e
    | _ => cases e
end
def asgG (b : BF) (f : EF) : SF := fun env => (f env).toS fun p => (b p.1 p.2).toS fun e => .nx e
section
variable {X : Cx} {C : Cd} {own ol ts : List Nat} {pos : Pos} {b : BF} {tg a : Expr} {fa : EF}
theorem b_noex (h : ∀ d e c fs, b d e ≠ .ex c fs) : True := True.intro
/-- target = value -/
theorem sv_tgt (he : PE X a (tE X.K C own fa)) (hg : PG X tg (tG X.K C own ts b)) (hb : ∀ d e c fs, b d e ≠ .ex c fs) (hs : swapsWithSole [tg] a pos.line X.env = pure false := by rfl) (hw : swappedStores [tg] a X.env = pure none := by rfl)
    (h1 : (assignEach [tg] X.env).map (·.2) = [assign tg X.env] := by rfl) : PS X (.Assign [tg] a pos) (tS X.K C own own ol (asgG b fa)) :=
  ps_imp (ps_asg he hg hs hw h1) fun Dn σ H ⟨env, F, hR, h⟩ => ⟨env, F, hR, (Sst.bind h).imp fun d e1 F1 H1 hR1 s1 h1 v r => by
    dsimp only at h1
    cases e : b d e1 with
    | ok e2 =>
      rw [e] at h1
      exact ⟨e1, F1, d, e2, hR1, r, e, fun σ' hR' _ => h1 σ' F1 H1 hR' (Same.refl _)⟩
    | ex c fs => exact absurd e (hb _ _ _ _)
    | no => rw [e] at h1; exact h1.elim⟩
end
theorem bName_ne {i : Nat} : ∀ d e c fs, bName i d e ≠ .ex c fs := fun _ _ _ _ z => nomatch z
theorem bNil_ne : ∀ d e c fs, bNil d e ≠ .ex c fs := fun d e c fs z => by
  cases d <;> cases z
theorem bCons_ne {b : BF} {bs : BFs} (h : ∀ d e c fs, b d e ≠ .ex c fs) (h2 : ∀ d e c fs, bs d e ≠ .ex c fs) : ∀ d e c fs, bCons b bs d e ≠ .ex c fs := fun d e c fs z => by
  cases d with
  | nil => cases z
  | cons x r =>
    unfold bCons at z
    dsimp only at z
    cases q : b x e with
    | ok e1 => rw [q] at z; exact h2 _ _ _ _ z
    | ex c fs => exact h _ _ _ _ q
    | no => rw [q] at z; cases z
theorem bTup_ne {n : Nat} {bs : BFs} (h2 : ∀ d e c fs, bs d e ≠ .ex c fs) : ∀ d e c fs, bTup n bs d e ≠ .ex c fs := fun d e c fs z => by
  unfold bTup at z
  cases d <;> try cases z
  dsimp only at z
  split at z
  · exact h2 _ _ _ _ z
  · cases z
theorem bLst_ne {n : Nat} {bs : BFs} (h2 : ∀ d e c fs, bs d e ≠ .ex c fs) : ∀ d e c fs, bLst n bs d e ≠ .ex c fs := fun d e c fs z => by
  unfold bLst at z
  cases d <;> try cases z
  dsimp only at z
  split at z
  · exact h2 _ _ _ _ z
  · cases z
end Dl

namespace Dl
open PySem PySem.Spec PyProof.Rows L2

/-! ### what is walked -/
structure Yl (K : PySem.W.Frag) (ca : CA) (J : It) (F : Hp) (xs : List D) : Prop where
  go : ∀ i H, Same F H → i < xs.length → J.go i H
  stop : ∀ i H, Same F H → xs.length ≤ i → J.stop i H
  yld : ∀ i H v H' Fc, Same F Fc → Same Fc H → J.yld i H v H' → ∀ d, xs[i]? = some d → ∃ F', Stp Fc H F' H' ∧ Rep K ca F' d v
def tI (K : PySem.W.Frag) (C : Cd) (own : List Nat) (f : AF) : TI := fun σ H R => ∃ env F, RE K C.ca C.B own env σ F H ∧ Pst K C own (f env) σ F fun xs _ F' H' => ∀ J, Yl K C.ca J F' xs → R J H'
theorem pi_imp {X : Cx} {tg e : Expr} {t t' : TI} (h : PI X tg e t) (g : ∀ σ H R, t' σ H R → t σ H R) : PI X tg e t' := ⟨fun pins s σ H R I q => h.run pins s σ H R I (g _ _ _ q)⟩
/-- what a walk over the value takes, one by one -/
def valD : D → R (List D)
  | .lst xs => .ok xs
  | .fro xs => .ok xs
  | .tup xs => .ok xs
  | .str z => .ok (z.cps.toList.map fun c => .str ⟨#[c]⟩)
  | _ => .no
def iVal (f : EF) : AF := fun env => (f env).bind fun p => (valD p.1).bind fun xs => .ok (xs, p.2)
def rng (lo : Int) (n : Nat) : List D := (List.range n).map fun i => .int (lo + (i : Nat))
def rng1D : List D → R (List D)
  | [.int j] => if (-j).toNat < 4611686018427387904 ∧ j.toNat < 4611686018427387904 then .ok (rng 0 j.toNat) else .no
  | _ => .no
def rng2D : List D → R (List D)
  | [.int i, .int j] => if ((-i).toNat < 4611686018427387904 ∧ i.toNat < 4611686018427387904) ∧ (-j).toNat < 4611686018427387904 ∧ j.toNat < 4611686018427387904 then .ok (rng i (j - i).toNat) else .no
  | _ => .no
def enumL (xs : List D) : List D := xs.zipIdx.map fun p => .tup [.int ((p.2 : Nat) : Int), p.1]
def enumD : List D → R (List D)
  | [.lst xs] => .ok (enumL xs)
  | _ => .no
def zipD : List D → R (List D)
  | [.lst xs, .lst ys] => .ok ((xs.zip ys).map fun p => .tup [p.1, p.2])
  | _ => .no
def iArg (g : List D → R (List D)) (f : AF) : AF := fun env => (f env).bind fun p => (g p.1).bind fun xs => .ok (xs, p.2)
section
variable {X : Cx} {C : Cd} {own : List Nat} {tg a b : Expr} {es : List Expr} {fa : EF} {fs : AF} {p pos : Pos}
theorem yl_list {ca : CA} {F : Hp} {l : Addr} {vs : List V} {xs : List D} (h : SqL X.K F l vs) (r : Reps X.K ca F xs vs) : Yl X.K ca (Itl X.K l) F xs where
  go := fun i H s hi => ⟨vs, vs[i]'(by rw [← r.length]; exact hi), s.seq h, List.getElem?_eq_getElem _⟩
  stop := fun i H s hi => ⟨vs, s.seq h, by rw [← r.length]; exact hi⟩
  yld := fun i H v H' Fc s1 s2 ⟨e, q⟩ d hd => by
    subst e
    obtain ⟨u, h1, h2⟩ := r.get hd
    have := q vs (Same.seq s2 (s1.seq h))
    rw [h1] at this
    cases this
    exact ⟨Fc, .refl s2, h2.mono s1⟩
theorem yl_tup {ca : CA} {F : Hp} {l : Addr} {vs : List V} {xs : List D} (h : SqT X.K F l vs) (r : Reps X.K ca F xs vs) : Yl X.K ca (Itt X.K l) F xs where
  go := fun i H s hi => ⟨vs, vs[i]'(by rw [← r.length]; exact hi), Same.seqT s h, List.getElem?_eq_getElem _⟩
  stop := fun i H s hi => ⟨vs, Same.seqT s h, by rw [← r.length]; exact hi⟩
  yld := fun i H v H' Fc s1 s2 ⟨e, q⟩ d hd => by
    subst e
    obtain ⟨u, h1, h2⟩ := r.get hd
    have := q vs (Same.seqT s2 (Same.seqT s1 h))
    rw [h1] at this
    cases this
    exact ⟨Fc, .refl s2, h2.mono s1⟩
theorem two62 : (2 : Int) ^ 62 = 4611686018427387904 := by decide
theorem two63 : (2 : Int) ^ 63 = 9223372036854775808 := by decide
theorem two27 : (2 : Int) ^ 27 = 134217728 := by decide
theorem bindL {α β : Type} {K : PySem.W.Frag} {r : R (α × En)} {f : α → R β} {σ : L2.St} {F : Hp} {k : β → En → Hp → Hp → Prop} (hn : ∀ x c fs, f x ≠ .ex c fs) (h : Pst K C own (r.bind fun p => (f p.1).bind fun b => .ok (b, p.2)) σ F k) :
    Pst K C own r σ F fun a e F1 H1 => ∃ b, f a = .ok b ∧ k b e F1 H1 :=
  h.bind.imp fun a e F1 H1 hR s h1 => by
    obtain ⟨b, hb, h2⟩ := h1.known (hn a)
    exact ⟨b, hb, h2.here hR⟩
theorem valD_ne : ∀ x c fs, valD x ≠ .ex c fs := fun x c fs z => by cases x <;> cases z
theorem rng1D_ne : ∀ x c fs, rng1D x ≠ .ex c fs := fun x c fs z => by
  unfold rng1D at z
  split at z
  · split at z <;> cases z
  · cases z
theorem rng2D_ne : ∀ x c fs, rng2D x ≠ .ex c fs := fun x c fs z => by
  unfold rng2D at z
  split at z
  · split at z <;> cases z
  · cases z
theorem enumD_ne : ∀ x c fs, enumD x ≠ .ex c fs := fun x c fs z => by
  unfold enumD at z
  split at z <;> cases z
theorem zipD_ne : ∀ x c fs, zipD x ≠ .ex c fs := fun x c fs z => by
  unfold zipD at z
  split at z <;> cases z
theorem pi_val {l : Expr} {tl : TE} (hl : PE X l tl) : PI X tg l (fun σ H R => tl σ H fun v H1 => (∃ a, v = .ref a ∧ ((∃ xs, SqT X.K H1 a xs) ∧ R (Itt X.K a) H1 ∨ (∃ xs, SqL X.K H1 a xs) ∧ R (Itl X.K a) H1)) ∨ ∃ x, v = .str x ∧ R (Its x) H1) := by
  refine ⟨fun pins s σ H R I h => ?_⟩
  -- the value first; then the walk of a constant that is that value
  refine thn (hl.run pins s σ H _ I h) fun v s1 ⟨x, H1, I1, r1, q1⟩ => ?_
  rcases q1 with ⟨a, rfl, q1⟩ | ⟨z, rfl, q1⟩
  · rcases q1 with ⟨⟨xs, hq⟩, q⟩ | ⟨⟨xs, hq⟩, q⟩
    · cases r1
      obtain ⟨its, rv, p, hz⟩ := I1.tuple hq
      refine wpAny_pyIter_tuple (show s1.heap.IsTuple a its.toArray from p) ?_
      refine ⟨s1.heap.objs.size, [s1.heap.objs.size], _, _, H1, rfl, I1.kept (t' := s1.toks) fun b o e => Heap.get?_push_of_some _ e, turn_tuple a _, ⟨_, Heap.get?_push_size _ rfl, rfl, rfl⟩, fun b hb => ?_, q⟩
      have e : b = s1.heap.objs.size := by simpa using hb
      subst e
      exact I1.fpOk (Nat.le_refl _) (I1.hok.fresh (Nat.le_refl _))
    · cases r1
      obtain ⟨its, rv, p, hz⟩ := I1.list hq
      refine wpAny_pyIter_list p.isList ?_
      refine ⟨s1.heap.objs.size, [s1.heap.objs.size], _, _, H1, rfl, I1.kept (t' := s1.toks) fun b o e => Heap.get?_push_of_some _ e, turn_list a _, ⟨_, Heap.get?_push_size _ rfl, rfl, rfl⟩, fun b hb => ?_, q⟩
      have e : b = s1.heap.objs.size := by simpa using hb
      subst e
      exact I1.fpOk (Nat.le_refl _) (I1.hok.fresh (Nat.le_refl _))
  · obtain ⟨t, rfl⟩ := r1
    cases ha : z.cps.all (· < 128)
    · exact wpAny_pyIter_wide ha (pi_one (tk := s1.toks) I1 _ (turn_str _ z t "str_iterator" (.inr rfl)) ⟨_, Heap.get?_push_size _ rfl, rfl, rfl⟩ q1)
    · exact wpAny_pyIter_ascii ha (pi_one (tk := s1.toks) I1 _ (turn_str _ z t "str_ascii_iterator" (.inl rfl)) ⟨_, Heap.get?_push_size _ rfl, rfl, rfl⟩ q1)
theorem yl_str {ca : CA} {F : Hp} {z : Str} : Yl X.K ca (Its z) F (z.cps.toList.map fun c => .str ⟨#[c]⟩) where
  go := fun i H s hi => by
    rw [List.length_map] at hi
    show i < z.cps.size
    simpa using hi
  stop := fun i H s hi => by
    rw [List.length_map] at hi
    show z.cps.size ≤ i
    simpa using hi
  yld := fun i H v H' Fc s1 s2 ⟨e, c, hc, ev⟩ d hd => by
    subst e
    subst ev
    rw [List.getElem?_map, Array.getElem?_toList, hc] at hd
    cases hd
    exact ⟨Fc, .refl s2, .str _⟩
theorem ei_val (h : PE X a (tE X.K C own fa)) : PI X tg a (tI X.K C own (iVal fa)) :=
  pi_imp (pi_val h) fun σ H R ⟨env, F, hR, q⟩ => ⟨env, F, hR, (bindL valD_ne q).imp fun d e F1 H1 hR1 s1 ⟨xs, hb, hk⟩ v r => by
    cases r with
    | lst hq rs =>
      cases hb
      exact .inl ⟨_, rfl, .inr ⟨⟨_, SqL.of (hR1.q.sub _ _ hq)⟩, hk _ (yl_list (SqL.of hq) rs)⟩⟩
    | fro hq rs =>
      cases hb
      exact .inl ⟨_, rfl, .inr ⟨⟨_, Same.seq hR1.q.sub hq⟩, hk _ (yl_list hq rs)⟩⟩
    | tup hq rs =>
      cases hb
      exact .inl ⟨_, rfl, .inl ⟨⟨_, Same.seqT hR1.q.sub hq⟩, hk _ (yl_tup hq rs)⟩⟩
    | str z =>
      cases hb
      exact .inr ⟨z, rfl, hk _ yl_str⟩
    | _ => cases hb⟩
theorem yl_rng {K : PySem.W.Frag} {ca : CA} {F : Hp} {lo : Int} {n : Nat} : Yl K ca (Itr lo n) F (rng lo n) where
  go := fun i H s hi => by unfold rng at hi; rw [List.length_map, List.length_range] at hi; exact hi
  stop := fun i H s hi => by unfold rng at hi; rw [List.length_map, List.length_range] at hi; exact hi
  yld := fun i H v H' Fc s1 s2 ⟨e, ev⟩ d hd => by
    subst e
    subst ev
    unfold rng at hd
    rw [List.getElem?_map] at hd
    by_cases hi : i < n
    · rw [List.getElem?_range hi] at hd
      cases hd
      exact ⟨Fc, .refl s2, .int _⟩
    · rw [List.getElem?_eq_none (by rw [List.length_range]; omega)] at hd
      cases hd
theorem ei_range1 (hm : X.mg "range" = none) (ha : PA X [a] (tA X.K C own fs)) (hg : Gl X "range" := by rfl) (hs : starEach [a] X.env = [(false, eval a X.env)] := by rfl) : PI X tg (.Call (.Name "range" p) [a] [] pos) (tI X.K C own (iArg rng1D fs)) :=
  pi_imp (pi_range1 hg hm ha hs) fun σ H R ⟨env, F, hR, q⟩ => ⟨env, F, hR, (bindL rng1D_ne q).imp fun ds e F1 H1 hR1 s1 ⟨xs, hb, hk⟩ vs r => by
    unfold rng1D at hb
    split at hb
    · rename_i j
      split at hb
      · rename_i hj
        cases hb
        cases r with
        | cons r rs => cases r; cases rs; exact ⟨_, rfl, by rw [two62]; omega, by rw [two62]; omega, hk _ yl_rng⟩
      · cases hb
    · cases hb⟩
theorem ei_range2 (hm : X.mg "range" = none) (ha : PA X [a, b] (tA X.K C own fs)) (hg : Gl X "range" := by rfl) (hs : starEach [a, b] X.env = [(false, eval a X.env), (false, eval b X.env)] := by rfl) (hs2 : starEach [b] X.env = [(false, eval b X.env)] := by rfl) :
    PI X tg (.Call (.Name "range" p) [a, b] [] pos) (tI X.K C own (iArg rng2D fs)) :=
  pi_imp (pi_range2 hg hm ha hs hs2) fun σ H R ⟨env, F, hR, q⟩ => ⟨env, F, hR, (bindL rng2D_ne q).imp fun ds e F1 H1 hR1 s1 ⟨xs, hb, hk⟩ vs r => by
    unfold rng2D at hb
    split at hb
    · rename_i i j
      split at hb
      · rename_i hj
        cases hb
        cases r with
        | cons r rs =>
          cases r
          cases rs with
          | cons r rs => cases r; cases rs; exact ⟨_, _, rfl, by rw [two62]; omega, hk _ yl_rng⟩
      · cases hb
    · cases hb⟩
theorem yl_enum {ca : CA} {F : Hp} {l : Addr} {vs : List V} {xs : List D} (h : SqL X.K F l vs) (r : Reps X.K ca F xs vs) : Yl X.K ca (Ite X.K l) F (enumL xs) where
  go := fun i H s hi => by
    unfold enumL at hi
    rw [List.length_map, List.length_zipIdx] at hi
    exact ⟨vs, vs[i]'(by rw [← r.length]; exact hi), s.seq h, List.getElem?_eq_getElem _⟩
  stop := fun i H s hi => by
    unfold enumL at hi
    rw [List.length_map, List.length_zipIdx] at hi
    exact ⟨vs, s.seq h, by rw [← r.length]; exact hi⟩
  yld := fun i H v H' Fc s1 s2 ⟨T, x, ev, hT, eH, q⟩ d hd => by
    subst ev
    subst eH
    unfold enumL at hd
    rw [List.getElem?_map, List.getElem?_zipIdx] at hd
    cases e : xs[i]? with
    | none => rw [e] at hd; cases hd
    | some y =>
      rw [e] at hd
      cases hd
      obtain ⟨u, h1, h2⟩ := r.get e
      have := q vs (Same.seq s2 (s1.seq h))
      rw [h1] at this
      cases this
      have hF : Fc T = none := s2.free hT
      have e0 : (0 : Nat) + i = i := by omega
      refine ⟨upd Fc T (.tup [.int (i : Nat), x]), .new s2 hT, .tup (.of upd_same) ?_⟩
      simp only [e0]
      exact .cons (.int _) (.one ((h2.mono s1).mono (same_upd hF)))
theorem ei_enum {elts : List Expr} {kk : Nat} {tpos : Pos} (hm : X.mg "enumerate" = none) (ha : PA X [a] (tA X.K C own fs)) (hg : Gl X "enumerate" := by rfl) (hs : starEach [a] X.env = [(false, eval a X.env)] := by rfl) : PI X (.Tuple elts kk tpos) (.Call (.Name "enumerate" p) [a] [] pos) (tI X.K C own (iArg enumD fs)) :=
  pi_imp (pi_enum hg hm ha hs) fun σ H R ⟨env, F, hR, q⟩ => ⟨env, F, hR, (bindL enumD_ne q).imp fun ds e F1 H1 hR1 s1 ⟨xs, hb, hk⟩ vs r => by
    unfold enumD at hb
    split at hb
    · cases hb
      cases r with
      | cons r rs =>
        cases rs
        cases r with
        | lst hq rs => exact ⟨_, _, rfl, SqL.of (hR1.q.sub _ _ hq), hk _ (yl_enum (SqL.of hq) rs)⟩
    · cases hb⟩
theorem yl_zip {ca : CA} {F : Hp} {l m : Addr} {vs ws : List V} {xs ys : List D} (h : SqL X.K F l vs) (r : Reps X.K ca F xs vs) (h' : SqL X.K F m ws) (r' : Reps X.K ca F ys ws) : Yl X.K ca (Itz X.K l m) F ((xs.zip ys).map fun p => .tup [p.1, p.2]) where
  go := fun i H s hi => by
    rw [List.length_map, List.length_zip] at hi
    have h1 := r.length
    have h2 := r'.length
    exact ⟨vs, ws, vs[i]'(by omega), ws[i]'(by omega), s.seq h, s.seq h', List.getElem?_eq_getElem _, List.getElem?_eq_getElem _⟩
  stop := fun i H s hi => by
    rw [List.length_map, List.length_zip] at hi
    have h1 := r.length
    have h2 := r'.length
    exact ⟨vs, ws, s.seq h, s.seq h', by omega⟩
  yld := fun i H v H' Fc s1 s2 hy d hd => by
    obtain ⟨T, x, y, ev, hT, eH, q, q'⟩ := hy
    subst ev
    subst eH
    rw [List.getElem?_map] at hd
    cases e : (xs.zip ys)[i]? with
    | none => rw [e] at hd; cases hd
    | some pr =>
      rw [e] at hd
      cases hd
      obtain ⟨e1, e2⟩ := List.getElem?_zip_eq_some.mp e
      obtain ⟨u, h1, h2⟩ := r.get e1
      obtain ⟨u', h1', h2'⟩ := r'.get e2
      have a1 := q vs (Same.seq s2 (s1.seq h))
      rw [h1] at a1
      cases a1
      have a2 := q' ws (Same.seq s2 (s1.seq h'))
      rw [h1'] at a2
      cases a2
      have hF : Fc T = none := s2.free hT
      exact ⟨upd Fc T (.tup [x, y]), .new s2 hT, .tup (.of upd_same) (.cons ((h2.mono s1).mono (same_upd hF)) (.one ((h2'.mono s1).mono (same_upd hF))))⟩
theorem ei_zip {elts : List Expr} {kk : Nat} {tpos : Pos} (hm : X.mg "zip" = none) (ha : PA X [a, b] (tA X.K C own fs)) (hg : Gl X "zip" := by rfl) (hs : starEach [a, b] X.env = (false, eval a X.env) :: starEach [b] X.env := by rfl) (hs2 : ((backTo pos (starEach [b] X.env)).any (·.1)) = false := by rfl) :
    PI X (.Tuple elts kk tpos) (.Call (.Name "zip" p) [a, b] [] pos) (tI X.K C own (iArg zipD fs)) :=
  pi_imp (pi_zip hg hm ha hs hs2) fun σ H R ⟨env, F, hR, q⟩ => ⟨env, F, hR, (bindL zipD_ne q).imp fun ds e F1 H1 hR1 s1 ⟨xs, hb, hk⟩ vs r => by
    unfold zipD at hb
    split at hb
    · cases hb
      cases r with
      | cons r rs =>
        cases rs with
        | cons r' rs =>
          cases rs
          cases r with
          | lst hq rs =>
            cases r' with
            | lst hq' rs' => exact ⟨_, _, _, _, rfl, SqL.of (hR1.q.sub _ _ hq), SqL.of (hR1.q.sub _ _ hq'), hk _ (yl_zip (SqL.of hq) rs (SqL.of hq') rs')⟩
    · cases hb⟩
end

/-! ### for -/
def forS (b : BF) (g : SF) : List D → En → SR
  | [], e => .nx e
  | x :: xs, e => (b x e).toS fun e1 => match g e1 with
    | .nx e2 => forS b g xs e2
    | .ct e2 => forS b g xs e2
    | .bk e2 => .nx e2
    | .rt d e2 => .rt d e2
    | .ex c fs => .ex c fs
    | .no => .no
def forStm (f : AF) (b : BF) (g : SF) : SF := fun env => (f env).toS fun p => forS b g p.1 p.2
section
variable {X : Cx} {C : Cd} {own ol ts : List Nat} {tg iter c : Expr} {body : List Stmt} {fs : AF} {ft : TF} {b : BF} {g : SF} {pos : Pos}
theorem sv_for (hp : PassesOwn (model X.prog X.w) X.A X.env X.xe) (hc : X.calm = true) (hi : PI X tg iter (tI X.K C own fs)) (hg : PG X tg (tG X.K C own ts b)) (hne : ∀ d e c fs, b d e ≠ .ex c fs) (hb : PSs X body (tS X.K C own own own g))
    (hs : ∀ x, foldedSetIterable iter X.env x = pure x := by intro _; rfl) : PS X (.For tg iter body [] pos) (tS X.K C own own ol (forStm fs b g)) :=
  ps_imp (ps_for hp hc hi hg hb hs) fun Dn σ H ⟨env, F, hR, h⟩ => ⟨env, F, hR, by
    have h' : Sst X.K C own ol ((fs env).toS fun p => forS b g p.1 p.2) F Dn := h
    refine h'.bind.imp fun xs e1 F1 H1 hR1 s1 h1 J hy => ?_
    refine ⟨fun i m σ' H' => m = xs.length - i ∧ i ≤ xs.length ∧ ∃ e F', RE X.K C.ca C.B own e σ' F' H' ∧ Same F1 F' ∧ Sst X.K C own ol (forS b g (xs.drop i) e) F' Dn, ⟨_, rfl, Nat.zero_le _, e1, F1, hR1, Same.refl _, by rw [List.drop_zero]; exact h1⟩, ?_⟩
    rintro i m σ' H' ⟨rfl, hi, e, F', hR', s', h2⟩
    by_cases hlt : i < xs.length
    · refine .inr ⟨hy.go i H' (s'.trans hR'.q.sub) hlt, fun σ2 H2 => ∃ e F2, RE X.K C.ca C.B own e σ2 F2 H2 ∧ Same F1 F2 ∧ Sst X.K C own ol (forS b g (xs.drop (i + 1)) e) F2 Dn, fun σ2 H2 ⟨e2, F2, q1, q2, q3⟩ => ⟨_, by omega, rfl, hlt, e2, F2, q1, q2, q3⟩, fun x H2 hx => ?_⟩
      have hd : xs[i]? = some xs[i] := List.getElem?_eq_getElem hlt
      obtain ⟨F2, st, r⟩ := hy.yld i H' x H2 F' s' hR'.q.sub hx _ hd
      rw [List.drop_eq_getElem_cons hlt] at h2
      unfold forS at h2
      cases eb : b xs[i] e with
      | ex c fs => exact absurd eb (hne _ _ _ _)
      | no => rw [eb] at h2; exact h2.elim
      | ok e2 =>
        rw [eb] at h2
        refine ⟨e, F2, _, e2, hR'.step st, r, eb, fun σ3 hR3 _ => ⟨e2, F2, hR3, ?_⟩⟩
        have h3 := h2.later st.sF
        dsimp only [R.toS_ok] at h3
        cases eg : g e2 with
        | nx e3 => rw [eg] at h3; exact fun σ4 F4 H4 hR4 s4 => ⟨e3, F4, hR4, (s'.trans st.sF).trans s4, h3.later s4⟩
        | ct e3 => rw [eg] at h3; exact fun σ4 F4 H4 hR4 s4 => ⟨e3, F4, hR4, (s'.trans st.sF).trans s4, h3.later s4⟩
        | bk e3 => rw [eg] at h3; exact h3
        | rt d e3 => rw [eg] at h3; exact h3
        | ex c fs => rw [eg] at h3; exact h3
        | no => rw [eg] at h3; exact h3
    · have e0 : i = xs.length := by omega
      rw [e0, List.drop_length] at h2
      exact .inl ⟨hy.stop i H' (s'.trans hR'.q.sub) (by omega), h2 σ' F' H' hR' (Same.refl _)⟩⟩
end

/-! ### while: at most n turns -/
def whS (t : TF) (g : SF) : Nat → En → SR
  | 0, _ => .no
  | n + 1, e => (t e).toS fun p => if p.1 = true then (match g p.2 with
    | .nx e2 => whS t g n e2
    | .ct e2 => whS t g n e2
    | .bk e2 => .nx e2
    | .rt d e2 => .rt d e2
    | .ex c fs => .ex c fs
    | .no => .no) else .nx p.2
section
variable {X : Cx} {C : Cd} {own ol : List Nat} {c : Expr} {body : List Stmt} {ft : TF} {g : SF} {pos : Pos}
theorem sv_while (n : Nat) (hp : PassesOwn (model X.prog X.w) X.A X.env X.xe) (hc : PT X c (tT X.K C own ft)) (hb : PSs X body (tS X.K C own own own g)) : PS X (.While c body [] pos) (tS X.K C own own ol (whS ft g n)) :=
  ps_imp (ps_while hp hc hb) fun Dn σ H ⟨env, F, hR, h⟩ => by
    refine ⟨fun m σ' H' => ∃ e F', RE X.K C.ca C.B own e σ' F' H' ∧ Same F F' ∧ Sst X.K C own ol (whS ft g m e) F' Dn, ⟨n, env, F, hR, Same.refl _, h⟩, ?_⟩
    rintro m σ' H' ⟨e, F', hR', s', h2⟩
    cases m with
    | zero => exact h2.elim
    | succ m =>
      refine ⟨e, F', hR', (Sst.bind (show Sst X.K C own ol ((ft e).toS fun p => _) F' Dn from h2)).imp fun k e1 F1 H1 hR1 s1 h3 => ?_⟩
      cases k with
      | false => exact h3 σ' F1 H1 hR1 (Same.refl _)
      | true =>
        dsimp only at h3
        refine ⟨fun σ2 H2 => ∃ e F2, RE X.K C.ca C.B own e σ2 F2 H2 ∧ Same F F2 ∧ Sst X.K C own ol (whS ft g m e) F2 Dn, fun σ2 H2 q => ⟨m, Nat.lt_succ_self m, q⟩, e1, F1, hR1, ?_⟩
        rw [if_pos rfl] at h3
        cases eg : g e1 with
        | nx e3 => rw [eg] at h3; exact fun σ4 F4 H4 hR4 s4 => ⟨e3, F4, hR4, (s'.trans s1).trans s4, h3.later s4⟩
        | ct e3 => rw [eg] at h3; exact fun σ4 F4 H4 hR4 s4 => ⟨e3, F4, hR4, (s'.trans s1).trans s4, h3.later s4⟩
        | bk e3 => rw [eg] at h3; exact h3
        | rt d e3 => rw [eg] at h3; exact h3
        | ex c fs => rw [eg] at h3; exact h3
        | no => rw [eg] at h3; exact h3
end
end Dl

namespace Dl
open PySem PySem.Spec PyProof.Rows L2

section
variable {K : PySem.W.Frag} {ca : CA} {B : Bs} {own : List Nat} {env env' : En} {σ : L2.St} {F F' H H' : Hp} {p : Addr} {o o' : HO} {d : D}
theorem Bq.fresh (h : Bq ca B F H) (hp : H p = none) : NoO B.H p ∧ B.m ≠ some p ∧ B.F p = none :=
  ⟨h.noO (.of hp), fun z => (h.mp p z).1 (.of hp), h.sF.free (h.sub.free hp)⟩
/-- a new object at p, of one's own, in no slot -/
structure Fsh (K : PySem.W.Frag) (ca : CA) (B : Bs) (own : List Nat) (env : En) (σ : L2.St) (F H : Hp) (d : D) (p : Addr) : Prop where
  o : OwO K ca F H d p
  f : F p = none
  b : NoO B.H p
  m : B.m ≠ some p
  dis : ∀ j e, j ∈ own → env[j]? = some (some e) → σ[j]? ≠ some (some (.ref p))
theorem Fsh.ow (h : Fsh K ca B own env σ F H d p) : Ow K ca B F H d p := ⟨h.o, h.f, .inl h.b⟩
theorem RE.lay (h : RE K ca B own env σ F H) (hp : H p = none) : RE K ca B own env σ F (upd H p o) ∧ F p = none ∧ NoO B.H p ∧ B.m ≠ some p ∧ ∀ j e, j ∈ own → env[j]? = some (some e) → σ[j]? ≠ some (some (.ref p)) := by
  have hF := h.q.sub.free hp
  obtain ⟨b, m, _⟩ := h.q.fresh hp
  refine ⟨h.step ⟨fun q u e => by rw [upd_ne (ne_of_none (h.q.sub _ _ e) hp)]; exact h.q.sub _ _ e, Same.refl _, same_upd hp, fun q hq => .inl hq, fun _ _ z => z⟩, hF, b, m, fun j e hj he z => ?_⟩
  obtain ⟨q, h1, O⟩ := h.ow j e hj he
  rw [h1] at z
  cases z
  exact O.o.there hp
/-- it is laid down -/
theorem RE.ice (h : RE K ca B own env σ F H) (z : Fsh K ca B own env σ F H d p) : ∃ F', Same F F' ∧ RE K ca B own env σ F' H ∧ Rep K ca F' d (.ref p) := by
  obtain ⟨o, ho, nto, r⟩ := z.o.rep z.f
  have sF : Same F (upd F p o) := same_upd z.f
  refine ⟨_, sF, ⟨⟨fun q u e => ?_, h.q.sF.trans sF, h.q.sH, fun q hq => ?_, fun q hq => ⟨(h.q.mp q hq).1, ?_⟩, h.q.tb, fun q ps hq => ?_⟩, h.len, fun j e n q => ?_, fun j e m q => ?_, h.ne, h.mt, h.lm⟩, r⟩
  · by_cases hb : q = p
    · subst hb; rw [upd_same] at e; cases e; exact ho
    · rw [upd_ne hb] at e; exact h.q.sub q u e
  · by_cases hb : q = p
    · subst hb; exact .inr z.b
    · rw [upd_ne hb] at hq; exact h.q.nw q hq
  · have hb : q ≠ p := fun w => z.m (by rw [← w]; exact hq)
    rw [upd_ne hb]; exact (h.q.mp q hq).2
  · by_cases hb : q = p
    · subst hb; rw [upd_same] at hq; exact nto ps (Option.some.inj hq)
    · rw [upd_ne hb] at hq; exact h.q.nt q ps hq
  · obtain ⟨v, h1, h2⟩ := h.fr j e n q
    exact ⟨v, h1, h2.mono sF⟩
  · obtain ⟨r, h1, O⟩ := h.ow j e m q
    have hb : r ≠ p := fun w => z.dis j e m q (w ▸ h1)
    exact ⟨r, h1, O.o.mono sF, by rw [upd_ne hb]; exact O.f, O.b⟩
abbrev Bs.at (B : Bs) (p : Addr) (o : HO) : Bs := { B with H := upd B.H p o }
structure At (B : Bs) (p : Addr) : Prop where
  b : NoO B.H p
  m : B.m ≠ some p
  f : B.F p = none
theorem RE.base' {vs : List V} (h' : RE K ca B own env σ F H) (hF : F p = none) (a : At B p) (dis : ∀ j e, j ∈ own → env[j]? = some (some e) → σ[j]? ≠ some (some (.ref p))) (hp : H p = none ∨ ∃ vs, H p = some (.lst vs)) : RE K ca (B.at p (.lst vs)) own env σ F (upd H p (.lst vs)) := by
  have ntb : ∀ ps, H p ≠ some (.tbl ps) := fun ps z => by
    rcases hp with w | ⟨_, w⟩ <;> rw [w] at z <;> cases z
  have ncd : ∀ {q : Addr} {n : Str}, H q = some (LamX.CodeO q n) → q ≠ p := fun {q n} z e => by
    subst e
    unfold LamX.CodeO at z
    rcases hp with w | ⟨_, w⟩ <;> rw [w] at z <;> cases z
  have kp : ∀ q u, F q = some u → q ≠ p := fun q u e z => by rw [z, hF] at e; cases e
  refine ⟨⟨fun q u e => by rw [upd_ne (kp q u e)]; exact h'.q.sub q u e, h'.q.sF, fun q u e n t => ?_, fun q hq => ?_, fun q hq => ⟨?_, (h'.q.mp q hq).2⟩, fun pr hpr => ?_, h'.q.nt⟩, h'.len, h'.fr, fun j e hj he => ?_, h'.ne, h'.mt, fun q hq => ?_⟩
  · by_cases hb : q = p
    · subst hb; have e : upd B.H q (.lst vs) q = some u := e; rw [upd_same] at e ⊢; exact e
    · have e : upd B.H p (.lst vs) q = some u := e
      rw [upd_ne hb] at e ⊢
      exact h'.q.sH q u e n t
  · have hb : q ≠ p := fun w => hq (w ▸ hF)
    rcases h'.q.nw q hq with z | z
    · exact .inl z
    · exact .inr (z.upd hb)
  · have hb : q ≠ p := fun w => a.m (by rw [← w]; exact hq)
    exact fun z => (h'.q.mp q hq).1 (z.down hb)
  · obtain ⟨ps, t1, t2, t3⟩ := h'.q.tb pr hpr
    have hb : pr.1 ≠ p := fun z => ntb ps (z ▸ t1)
    refine ⟨ps, by rw [upd_ne hb]; exact t1, t2, fun pos cv hc => ?_⟩
    obtain ⟨c, e1, e2⟩ := t3 pos cv hc
    exact ⟨c, e1, by rw [upd_ne (ncd e2)]; exact e2⟩
  · obtain ⟨r, h1, O⟩ := h'.ow j e hj he
    have hb : r ≠ p := fun w => dis j e hj he (w ▸ h1)
    refine ⟨r, h1, O.o.move (fun u e => by rw [upd_ne hb]; exact e) (Same.refl _), O.f, ?_⟩
    rcases O.b with z | z
    · exact .inl (z.upd hb)
    · exact .inr z
  · obtain ⟨l0, l1, l2⟩ := h'.lm q hq
    exact ⟨l0, l1, by rw [upd_ne (ncd l2)]; exact l2⟩
theorem RE.base {vs : List V} (h : RE K ca B own env σ F H) (hp : H p = none) : RE K ca (B.at p (.lst vs)) own env σ F (upd H p (.lst vs)) := by
  obtain ⟨h', hF, b, m, dis⟩ := h.lay (o := .lst vs) hp
  exact h.base' hF ⟨b, m, (h.q.fresh hp).2.2⟩ dis (.inl hp)
theorem RE.unbase {vs : List V} (h : RE K ca (B.at p (.lst vs)) own env σ F H) (a : At B p) : RE K ca B own env σ F H ∧ H p = some (.lst vs) ∧ F p = none ∧ ∀ j e, j ∈ own → env[j]? = some (some e) → σ[j]? ≠ some (some (.ref p)) := by
  have hp : H p = some (.lst vs) := h.q.sH p (.lst vs) (by show upd B.H p (.lst vs) p = some (.lst vs); rw [upd_same]) a.m (fun _ z => nomatch z)
  have hF : F p = none := by
    cases e : F p with
    | none => rfl
    | some u =>
      rcases h.q.nw p (by rw [e]; exact fun z => nomatch z) with z | z
      · exact absurd a.f z
      · exact absurd z (NoO.not (o := .lst vs) (by show upd B.H p (.lst vs) p = _; rw [upd_same]) fun _ w => nomatch w)
  have up : ∀ q, NoO (upd B.H p (.lst vs)) q → NoO B.H q := fun q z => by
    by_cases hb : q = p
    · subst hb; exact a.b
    · exact z.down hb
  refine ⟨⟨⟨h.q.sub, h.q.sF, fun q u e n t => ?_, fun q hq => ?_, h.q.mp, h.q.tb, h.q.nt⟩, h.len, h.fr, fun j e hj he => ?_, h.ne, h.mt, h.lm⟩, hp, hF, fun j e hj he z => ?_⟩
  · have hb : q ≠ p := fun w => by
      subst w
      obtain ⟨ps, w⟩ := a.b u e
      exact t ps w
    exact h.q.sH q u (by show upd B.H p (.lst vs) q = some u; rw [upd_ne hb]; exact e) n t
  · rcases h.q.nw q hq with z | z
    · exact .inl z
    · exact .inr (up q z)
  · obtain ⟨r, h1, O⟩ := h.ow j e hj he
    refine ⟨r, h1, O.o, O.f, ?_⟩
    rcases O.b with z | z
    · exact .inl (up r z)
    · exact .inr z
  · obtain ⟨r, h1, O⟩ := h.ow j e hj he
    rw [h1] at z
    cases z
    rcases O.b with z | z
    · exact absurd z (NoO.not (o := .lst vs) (by show upd B.H p (.lst vs) p = _; rw [upd_same]) fun _ w => nomatch w)
    · exact a.m z
theorem RE.unset {i : Nat} (h : RE K ca B own env σ F H) (hi : i ∉ own) (h0 : i ≠ 0) : RE K ca B own (env.set i none) (σ.set i none) F H := by
  have get : ∀ {j e}, (env.set i (none : Option D))[j]? = some (some e) → j ≠ i ∧ env[j]? = some (some e) := fun {j e} q => by
    by_cases hj : j = i
    · subst hj
      by_cases hl : j < env.length
      · rw [List.getElem?_set_self hl] at q; cases q
      · rw [List.getElem?_eq_none (by rw [List.length_set]; omega)] at q; cases q
    · rw [List.getElem?_set_ne (Ne.symm hj)] at q
      exact ⟨hj, q⟩
  have kp : ∀ j, j ≠ i → (σ.set i none)[j]? = σ[j]? := fun j hj => List.getElem?_set_ne (Ne.symm hj)
  have ki : ∀ j, j ∈ own → j ≠ i := fun j hj z => hi (z ▸ hj)
  refine ⟨h.q, by rw [List.length_set, List.length_set]; exact h.len, fun j e n q => ?_, fun j e m q => ?_, fun j k q e e' a b n e1 e2 s1 s2 => ?_, fun q hq => ?_, fun q hq => ?_⟩
  · obtain ⟨hj, q⟩ := get q
    rw [kp j hj]
    exact h.fr j e n q
  · obtain ⟨hj, q⟩ := get q
    rw [kp j hj]
    exact h.ow j e m q
  · obtain ⟨hj, e1⟩ := get e1
    obtain ⟨hk, e2⟩ := get e2
    rw [kp j hj] at s1
    rw [kp k hk] at s2
    exact h.ne j k q e e' a b n e1 e2 s1 s2
  · obtain ⟨m0, m1, d0, m2⟩ := h.mt q hq
    exact ⟨m0, by rw [kp 0 (ki 0 m0)]; exact m1, d0, by rw [List.getElem?_set_ne (Ne.symm (ki 0 m0))]; exact m2⟩
  · obtain ⟨l0, l1, l2⟩ := h.lm q hq
    exact ⟨by rw [List.getElem?_set_ne h0]; exact l0, by rw [kp 0 (Ne.symm h0)]; exact l1, l2⟩
def wipeE (env : En) : List Nat → En
  | [] => env
  | v :: vs => (wipeE env vs).set v none
theorem RE.wiped {vs : List Nat} (h : RE K ca B own env σ F H) (hv : ∀ i ∈ vs, i ∉ own) (h0 : ∀ i ∈ vs, i ≠ 0) : RE K ca B own (wipeE env vs) (wipe σ vs) F H := by
  induction vs with
  | nil => exact h
  | cons v vs ih => exact (ih (fun i hi => hv i (List.mem_cons_of_mem _ hi)) (fun i hi => h0 i (List.mem_cons_of_mem _ hi))).unset (hv v List.mem_cons_self) (h0 v List.mem_cons_self)
/-- the slots vs as they were -/
def backE (env0 env : En) : List Nat → En
  | [] => env
  | v :: vs => match env0[v]? with
    | some o => (backE env0 env vs).set v o
    | none => backE env0 env vs
theorem backE_len {env0 env : En} : ∀ {vs : List Nat}, (backE env0 env vs).length = env.length
  | [] => rfl
  | v :: vs => by
    unfold backE
    cases env0[v]? with
    | none => exact backE_len
    | some o => rw [List.length_set]; exact backE_len
theorem backE_out {env0 env : En} {j : Nat} : ∀ {vs : List Nat}, j ∉ vs → (backE env0 env vs)[j]? = env[j]?
  | [], _ => rfl
  | v :: vs, h => by
    have h1 : j ≠ v := fun z => h (z ▸ List.mem_cons_self)
    have h2 : j ∉ vs := fun z => h (List.mem_cons_of_mem _ z)
    unfold backE
    cases env0[v]? with
    | none => exact backE_out h2
    | some o =>
      show ((backE env0 env vs).set v o)[j]? = _
      rw [List.getElem?_set_ne (Ne.symm h1)]; exact backE_out h2
theorem backE_in {env0 env : En} {j : Nat} (hl : env0.length = env.length) : ∀ {vs : List Nat}, j ∈ vs → (backE env0 env vs)[j]? = env0[j]?
  | v :: vs, h => by
    unfold backE
    by_cases hj : j = v
    · subst hj
      cases e : env0[j]? with
      | none =>
        show (backE env0 env vs)[j]? = none
        exact List.getElem?_eq_none (by rw [backE_len, ← hl]; exact List.getElem?_eq_none_iff.mp e)
      | some o =>
        show ((backE env0 env vs).set j o)[j]? = some o
        exact List.getElem?_set_self (by rw [backE_len, ← hl]; exact (List.getElem?_eq_some_iff.mp e).1)
    · have h2 : j ∈ vs := (List.mem_cons.mp h).resolve_left hj
      cases env0[v]? with
      | none => exact backE_in hl h2
      | some o =>
        show ((backE env0 env vs).set v o)[j]? = _
        rw [List.getElem?_set_ne (Ne.symm hj)]; exact backE_in hl h2
theorem RE.back {vs : List Nat} {env0 : En} {F0 H0 : Hp} (h0 : RE K ca B own env0 σ F0 H0) (s : Same F0 F) (h : RE K ca B own env (wipe σ vs) F H) (hv : ∀ i ∈ vs, i ∉ own) (hv0 : ∀ i ∈ vs, i ≠ 0) : RE K ca B own (backE env0 env vs) σ F H := by
  have hl : env0.length = env.length := by rw [← h0.len, ← h.len, wipe_length]
  have out : ∀ j, j ∉ vs → (wipe σ vs)[j]? = σ[j]? := fun j hj => wipe_out hj
  refine ⟨h.q, by rw [backE_len, ← h.len, wipe_length], fun j e n q => ?_, fun j e m q => ?_, fun j k q e e' a b n e1 e2 s1 s2 => ?_, fun q hq => ?_, fun q hq => ?_⟩
  · by_cases hj : j ∈ vs
    · rw [backE_in hl hj] at q
      obtain ⟨v, h1, h2⟩ := h0.fr j e n q
      exact ⟨v, h1, h2.mono s⟩
    · rw [backE_out hj] at q
      rw [← out j hj]
      exact h.fr j e n q
  · have hj : j ∉ vs := fun z => hv j z m
    rw [backE_out hj] at q
    rw [← out j hj]
    exact h.ow j e m q
  · have hj : j ∉ vs := fun z => hv j z a
    have hk : k ∉ vs := fun z => hv k z b
    rw [backE_out hj] at e1
    rw [backE_out hk] at e2
    rw [← out j hj] at s1
    rw [← out k hk] at s2
    exact h.ne j k q e e' a b n e1 e2 s1 s2
  · obtain ⟨m0, m1, d0, m2⟩ := h.mt q hq
    have hj : 0 ∉ vs := fun z => hv 0 z m0
    exact ⟨m0, by rw [← out 0 hj]; exact m1, d0, by rw [backE_out hj]; exact m2⟩
  · obtain ⟨l0, l1, l2⟩ := h.lm q hq
    have hj : 0 ∉ vs := fun z => hv0 0 z rfl
    exact ⟨by rw [backE_out hj]; exact l0, by rw [← out 0 hj]; exact l1, l2⟩
theorem wipe_eq {σ σ' : L2.St} {vs : List Nat} (hl : σ'.length = σ.length) (h : ∀ j, j ∉ vs → σ'[j]? = σ[j]?) : wipe σ' vs = wipe σ vs := by
  apply List.ext_getElem?
  intro j
  by_cases hj : j ∈ vs
  · have hh : ∀ τ : L2.St, (wipe τ vs)[j]? = if j < τ.length then some none else none := fun τ => by
      by_cases hlt : j < τ.length
      · rw [if_pos hlt]
        cases e : (wipe τ vs)[j]? with
        | none => rw [List.getElem?_eq_none_iff, wipe_length] at e; omega
        | some ov =>
          cases ov with
          | none => rfl
          | some v => exact absurd hj (wipe_some e).2
      · rw [if_neg hlt]
        exact List.getElem?_eq_none (by rw [wipe_length]; omega)
    rw [hh, hh, hl]
  · rw [wipe_out hj, wipe_out hj, h j hj]
end

/-! ### a value that is a new object of one's own -/
def tN (K : PySem.W.Frag) (C : Cd) (own : List Nat) (f : EF) : TE := fun σ H Q => ∃ env F, RE K C.ca C.B own env σ F H ∧ Pst K C own (f env) σ F fun d e F' H' => ∀ p, Fsh K C.ca C.B own e σ F' H' d p → Q (.ref p) H'
section
variable {X : Cx} {C : Cd} {own own' ol : List Nat} {a : Expr} {es : List Expr} {fa : EF} {fs : AF} {pos : Pos}
theorem ev_ice (h : PE X a (tN X.K C own fa)) : PE X a (tE X.K C own fa) :=
  pe_imp h fun σ H Q ⟨env, F, hR, q⟩ => ⟨env, F, hR, by
    cases e : fa env with
    | ok p =>
      rw [e] at q
      intro F' H' hR' s p' z
      obtain ⟨F2, s2, hR2, r⟩ := hR'.ice z
      exact q F2 H' hR2 (s.trans s2) _ r
    | ex c fs => rw [e] at q; exact q
    | no => rw [e] at q; exact q⟩
/-- name = a new object of one's own -/
theorem sv_asgN {i : Nat} {x : Str} {pos' : Pos} (hN : X.N.Nodup) (he : PE X a (tN X.K C own fa)) (hm : i ≠ 0 ∨ C.B.free0) (ho : i :: own.filter (fun j => j != i) = own' := by rfl) (hi : X.N[i]? = some x := by rfl) (hx : Loc X.env.scope x := by first | exact Or.inl rfl | exact Or.inr rfl)
    (hs : swapsWith a (some (.Name x pos')) pos.line X.env = pure false := by rfl) (hf : X.fn x = true ∨ X.env.scope.names.lookup x = some .local := by first | exact .inl rfl | exact .inr rfl | assumption) :
    PS X (.Assign [.Name x pos'] a pos) (tS X.K C own own' ol (asgS i fa)) :=
  ps_imp (ps_set hN hi hx he hs hf) fun Dn σ H ⟨env, F, hR, h⟩ => ⟨env, F, hR, (Sst.bind h).imp fun d e1 F1 H1 hR1 s1 h1 p z => h1 _ F1 H1 (hR1.putO z.ow z.dis hm ho) (Same.refl _)⟩
def lenOk (xs : List D) : R (List D) := if xs.length ≤ sizeLine then .ok xs else .no
theorem lenOk_ne : ∀ x c fs, lenOk x ≠ .ex c fs := fun x c fs z => by
  unfold lenOk at z
  split at z <;> cases z
def lstD (xs : List D) : R D := (lenOk xs).bind fun xs => .ok (.lst xs)
def tupD (xs : List D) : R D := (lenOk xs).bind fun xs => .ok (.tup xs)
theorem lstD_ne : ∀ x c fs, lstD x ≠ .ex c fs := fun x c fs z => by
  unfold lstD lenOk at z
  split at z <;> cases z
theorem tupD_ne : ∀ x c fs, tupD x ≠ .ex c fs := fun x c fs z => by
  unfold tupD lenOk at z
  split at z <;> cases z
theorem ev_lst (h : PA X es (tA X.K C own fs)) : PE X (.List es pos) (tN X.K C own (eN lstD fs)) :=
  pe_imp (pe_lst h) fun σ H Q ⟨env, F, hR, q⟩ => ⟨env, F, hR, q.bind.imp fun xs e1 F1 H1 hR1 s1 h1 vs r => by
    obtain ⟨d, hd, h2⟩ := h1.known (lstD_ne xs)
    unfold lstD lenOk at hd
    split at hd
    · rename_i hl
      cases hd
      refine ⟨by rw [← r.length]; exact hl, fun p hp => ?_⟩
      obtain ⟨hR2, hF, b, m, dis⟩ := hR1.lay (o := .lst vs) hp
      exact h2.here hR2 p ⟨⟨vs, upd_same, r⟩, hF, b, m, dis⟩
    · cases hd⟩
theorem ev_tup {k} (h : PA X es (tA X.K C own fs)) : PE X (.Tuple es k pos) (tE X.K C own (eN tupD fs)) :=
  pe_imp (pe_tup h) fun σ H Q ⟨env, F, hR, q⟩ => ⟨env, F, hR, q.bind.imp fun xs e1 F1 H1 hR1 s1 h1 vs r => by
    obtain ⟨d, hd, h2⟩ := h1.known (tupD_ne xs)
    unfold tupD lenOk at hd
    split at hd
    · rename_i hl
      cases hd
      refine ⟨by rw [← r.length]; exact hl, fun p hp => ?_⟩
      have st : Stp F1 H1 (upd F1 p (.tup vs)) (upd H1 p (.tup vs)) := .new hR1.q.sub hp
      exact h2 _ _ (hR1.step st) st.sF _ (.tup (.of upd_same) (r.mono st.sF))
    · cases hd⟩
end

/-! ### comprehensions -/
def R.nox {α : Type} : R α → R α
  | .ok a => .ok a
  | _ => .no
@[simp] theorem R.nox_ok {α : Type} (a : α) : (R.ok a).nox = .ok a := rfl
theorem R.nox_ne {α : Type} {r : R α} {c : Nat} {fs : List (Str × D)} : r.nox ≠ .ex c fs := fun z => by cases r <;> cases z
theorem Pst.nox_ok {K : PySem.W.Frag} {C : Cd} {own : List Nat} {α β : Type} {σ : L2.St} {F : Hp} {r : R (α × En)} {f : α × En → R β} {g : β → R (D × En)} {k : D → En → Hp → Hp → Prop} (h : Pst K C own (((r.bind f).nox).bind g) σ F k) : ∃ p, r = .ok p ∧ Pst K C own ((f p).nox.bind g) σ F k := by
  cases r with
  | ok p => exact ⟨p, rfl, h⟩
  | ex c fs => exact h.elim
  | no => exact h.elim
/-- one clause; t: the tests; at the end all that is made, and the state -/
def lcF (vs : List Nat) (b : BF) (t : TF) (f : EF) : List D → List D → En → R (List D × En)
  | [], acc, e => .ok (acc, e)
  | x :: xs, acc, e => (b x e).bind fun e1 => (t e1).bind fun p => if p.1 = true then (f p.2).bind fun q => if acc.length < sizeLine then lcF vs b t f xs (acc ++ [q.1]) (wipeE q.2 vs) else .no else lcF vs b t f xs acc (wipeE p.2 vs)
def lcE (vs : List Nat) (fi : AF) (b : BF) (t : TF) (f : EF) : EF := fun env => (fi env).bind fun p => (lcF vs b t f p.1 [] (wipeE p.2 vs)).nox.bind fun q => .ok (.lst q.1, backE p.2 q.2 vs)
def tYes1 : TF := fun env => .ok (true, env)
theorem pts_imp {X : Cx} {e : List Expr} {t t' : TT} (h : PTs X e t) (g : ∀ σ H Q, t' σ H Q → t σ H Q) : PTs X e t' := ⟨fun pins s σ H Q I q => h.run pins s σ H Q I (g _ _ _ q)⟩
abbrev Cd.in (C : Cd) (B : Bs) : Cd := ⟨C.ca, B, E0, false⟩
section
variable {X : Cx} {C : Cd} {own ts : List Nat} {tg iter elt c : Expr} {ifs : List Expr} {fi : AF} {b : BF} {ft : TF} {fa : EF} {pos : Pos}
theorem ets_nil : PTs X [] (tT X.K C own tYes1) := pts_imp pts_nil fun σ H Q ⟨env, F, hR, h⟩ => h.here hR
theorem ets_one (h : PT X c (tT X.K C own ft)) : PTs X [c] (tT X.K C own ft) := pts_one h
theorem lc_read {scopeOwn : List (Str × Nat)} {vs : List Nat} (evs : scopeOwn.map (·.2) = vs) (hv : ∀ i ∈ vs, i ∉ own) (hv0 : ∀ i ∈ vs, i ≠ 0) (hts : ∀ i ∈ ts, i ∈ vs) (hne : ∀ d e c fs, b d e ≠ .ex c fs) {σ : L2.St} {H : Hp} {Q : VK}
    (h : tN X.K C own (lcE vs fi b ft fa) σ H Q) :
    tLc (tI X.K C own fi) (fun v σ H Q => ∃ B', (B'.m = C.B.m ∧ B'.l = C.B.l) ∧ tG X.K (C.in B') own ts b v σ H Q) (fun σ H Q => ∃ B', (B'.m = C.B.m ∧ B'.l = C.B.l) ∧ tT X.K (C.in B') own ft σ H Q) (fun σ H Q => ∃ B', (B'.m = C.B.m ∧ B'.l = C.B.l) ∧ tE X.K (C.in B') own fa σ H Q) (scopeOwn.map (·.2)) σ H Q := by
  rw [evs]
  obtain ⟨env, F, hR, h⟩ := h
  refine ⟨env, F, hR, h.bind.imp fun xs e1 F1 H1 hR1 s1 h1 J hy Da hD => ?_⟩
  obtain ⟨bD, mD, fD⟩ := hR1.q.fresh hD
  have at_ : At C.B Da := ⟨bD, mD, fD⟩
  have h1 : Pst X.K C own ((lcF vs b ft fa xs [] (wipeE e1 vs)).nox.bind fun q => .ok (.lst q.1, backE e1 q.2 vs)) σ F1 fun d e F' H' => ∀ p, Fsh X.K C.ca C.B own e σ F' H' d p → Q (.ref p) H' := h1
  refine ⟨fun i m H' => m = xs.length - i ∧ i ≤ xs.length ∧ ∃ e F' acc avs, RE X.K C.ca (C.B.at Da (.lst avs)) own e (wipe σ vs) F' H' ∧ Same F1 F' ∧ Reps X.K C.ca F' acc avs ∧
    Pst X.K C own ((lcF vs b ft fa (xs.drop i) acc e).nox.bind fun q => .ok (.lst q.1, backE e1 q.2 vs)) σ F' (fun d e F' H' => ∀ p, Fsh X.K C.ca C.B own e σ F' H' d p → Q (.ref p) H'),
    ⟨_, rfl, Nat.zero_le _, wipeE e1 vs, F1, [], [], (hR1.wiped hv hv0).base hD, Same.refl _, .nil, by rw [List.drop_zero]; exact h1⟩, ?_⟩
  rintro i m H' ⟨rfl, hi, e, F', acc, avs, hR', s', ra, h2⟩
  obtain ⟨hU, hDH, hDF, dis⟩ := hR'.unbase at_
  by_cases hlt : i < xs.length
  · -- what the next turn is to reach
    have next : ∀ {e4 : En} {σ4 : L2.St} {F4 H4 : Hp} {acc' : List D} {avs' : List V}, RE X.K C.ca (C.B.at Da (.lst avs')) own e4 σ4 F4 H4 → Same F' F4 → wipe σ4 vs = wipe (wipe σ vs) vs → Reps X.K C.ca F4 acc' avs' →
        Pst X.K C own ((lcF vs b ft fa (xs.drop (i + 1)) acc' (wipeE e4 vs)).nox.bind fun q => .ok (.lst q.1, backE e1 q.2 vs)) σ F4 (fun d e F' H' => ∀ p, Fsh X.K C.ca C.B own e σ F' H' d p → Q (.ref p) H') →
        ∃ e F' acc avs, RE X.K C.ca (C.B.at Da (.lst avs)) own e (wipe σ vs) F' H4 ∧ Same F1 F' ∧ Reps X.K C.ca F' acc avs ∧
          Pst X.K C own ((lcF vs b ft fa (xs.drop (i + 1)) acc e).nox.bind fun q => .ok (.lst q.1, backE e1 q.2 vs)) σ F' (fun d e F' H' => ∀ p, Fsh X.K C.ca C.B own e σ F' H' d p → Q (.ref p) H') := fun hR4 s4 hw ra4 h4 => by
      have ww : wipe (wipe σ vs) vs = wipe σ vs := wipe_eq (wipe_length _ _) fun j hj => wipe_out hj
      have := hR4.wiped hv hv0
      rw [hw, ww] at this
      exact ⟨_, _, _, _, this, s'.trans s4, ra4, h4⟩
    refine .inr ⟨hy.go i H' (s'.trans hR'.q.sub) hlt, fun H4 => ∃ e F' acc avs, RE X.K C.ca (C.B.at Da (.lst avs)) own e (wipe σ vs) F' H4 ∧ Same F1 F' ∧ Reps X.K C.ca F' acc avs ∧
      Pst X.K C own ((lcF vs b ft fa (xs.drop (i + 1)) acc e).nox.bind fun q => .ok (.lst q.1, backE e1 q.2 vs)) σ F' (fun d e F' H' => ∀ p, Fsh X.K C.ca C.B own e σ F' H' d p → Q (.ref p) H'),
      fun H4 q => ⟨_, by omega, rfl, hlt, q⟩, fun x H2 hx => ?_⟩
    have hd : xs[i]? = some xs[i] := List.getElem?_eq_getElem hlt
    obtain ⟨F2, st, r⟩ := hy.yld i H' x H2 F' s' hR'.q.sub hx _ hd
    rw [List.drop_eq_getElem_cons hlt] at h2
    unfold lcF at h2
    have ww : wipe (wipe σ vs) vs = wipe σ vs := wipe_eq (wipe_length _ _) fun j hj => wipe_out hj
    have hRw : RE X.K C.ca (C.B.at Da (.lst avs)) own (wipeE e vs) (wipe σ vs) F' H' := by
      have := hR'.wiped hv hv0
      rw [ww] at this
      exact this
    -- the target
    cases eb : b xs[i] e with
    | ex c fs => exact absurd eb (hne _ _ _ _)
    | no => rw [eb] at h2; exact h2.elim
    | ok e2 =>
      rw [eb] at h2
      refine ⟨C.B.at Da (.lst avs), ⟨rfl, rfl⟩, e, F2, _, e2, hR'.step st, r, eb, fun σ3 hR3 hw3 => ?_⟩
      have hw : wipe σ3 vs = wipe (wipe σ vs) vs := wipe_eq hw3.1 fun j hj => hw3.2 j fun z => hj (hts j z)
      obtain ⟨p, ep, h3⟩ := h2.nox_ok
      refine ⟨hw.trans ww, C.B.at Da (.lst avs), ⟨rfl, rfl⟩, e2, F2, hR3, ?_⟩
      rw [ep]
      intro F3 H3 hR4 s3
      obtain ⟨k, e3⟩ := p
      cases k with
      | false => exact next hR4 (st.sF.trans s3) hw (ra.mono (st.sF.trans s3)) (h3.later (st.sF.trans s3))
      | true =>
        dsimp only at h3
        rw [if_pos rfl] at h3
        obtain ⟨q, eq, h4⟩ := h3.nox_ok
        refine ⟨C.B.at Da (.lst avs), ⟨rfl, rfl⟩, e3, F3, hR4, ?_⟩
        rw [eq]
        intro F4 H4 hR5 s4 y ry
        obtain ⟨hU5, hD5, hF5, dis5⟩ := hR5.unbase at_
        have sA := (st.sF.trans s3).trans s4
        by_cases hl : acc.length < sizeLine
        · rw [if_pos hl] at h4
          exact ⟨avs, hD5, by rw [← ra.length]; exact hl, next (hU5.base' hF5 at_ dis5 (.inr ⟨_, hD5⟩)) sA hw ((ra.mono sA).append (.one ry)) (h4.later sA)⟩
        · rw [if_neg hl] at h4; exact h4.elim
  · have e0 : i = xs.length := by omega
    rw [e0, List.drop_length] at h2
    refine .inl ⟨hy.stop i H' (s'.trans hR'.q.sub) (by omega), ?_⟩
    exact h2 F' H' (hR1.back s' hU hv hv0) (Same.refl _) Da ⟨⟨avs, hDH, ra⟩, hDF, bD, mD, fun j ed hj he => by
      have hjv : j ∉ vs := fun z => hv j z hj
      have := dis j ed hj (by rw [backE_out hjv] at he; exact he)
      rw [wipe_out hjv] at this
      exact this⟩
theorem ev_lc {scope : Scope} {so : List (Str × Nat)} {vs : List Nat} (hc : X.calm = true) (hN : X.N.Nodup) (hi : PI X tg iter (tI X.K C own fi)) (ok : BlkOk X.N X.env.scope scope so)
    (hg : ∀ (B : Bs), B.m = C.B.m ∧ B.l = C.B.l → ∀ (s : Shared) (H : Hp) (Ca : Addr) (cl : List (Str × Addr)) (fp : List Addr), PG (X.blk s H scope (compEnvC scope cl Ca X.env) fp) tg (tG X.K (C.in B) own ts b))
    (ht : ∀ (B : Bs), B.m = C.B.m ∧ B.l = C.B.l → ∀ (s : Shared) (H : Hp) (Ca : Addr) (cl : List (Str × Addr)) (fp : List Addr), PTs (X.blk s H scope (compEnvC scope cl Ca X.env) fp) ifs (tT X.K (C.in B) own ft))
    (he : ∀ (B : Bs), B.m = C.B.m ∧ B.l = C.B.l → ∀ (s : Shared) (H : Hp) (Ca : Addr) (cl : List (Str × Addr)) (fp : List Addr), PE (X.blk s H scope (compEnvC scope cl Ca X.env) fp) elt (tE X.K (C.in B) own fa))
    (hne : ∀ d e c fs, b d e ≠ .ex c fs) (evs : so.map (·.2) = vs := by rfl) (hv : ∀ i ∈ vs, i ∉ own := by decide) (hv0 : ∀ i ∈ vs, i ≠ 0 := by decide) (hts : ∀ i ∈ ts, i ∈ vs := by decide) (hs : ∀ x, foldedSetIterable iter X.env x = pure x := by intro _; rfl) :
    PE X (.ListComp elt [⟨tg, iter, ifs, 0⟩] scope pos) (tN X.K C own (lcE vs fi b ft fa)) :=
  pe_imp (pe_lc hc hN hi ok (g := fun v σ H Q => ∃ B', (B'.m = C.B.m ∧ B'.l = C.B.l) ∧ tG X.K (C.in B') own ts b v σ H Q) (tt := fun σ H Q => ∃ B', (B'.m = C.B.m ∧ B'.l = C.B.l) ∧ tT X.K (C.in B') own ft σ H Q) (te := fun σ H Q => ∃ B', (B'.m = C.B.m ∧ B'.l = C.B.l) ∧ tE X.K (C.in B') own fa σ H Q)
    (fun s H Ca cl fp => ⟨fun pins s' σ H' v u Q I r ⟨B', hm, q⟩ => (hg B' hm s H Ca cl fp).run pins s' σ H' v u Q I r q⟩)
    (fun s H Ca cl fp => ⟨fun pins s' σ H' Q I ⟨B', hm, q⟩ => (ht B' hm s H Ca cl fp).run pins s' σ H' Q I q⟩)
    (fun s H Ca cl fp => ⟨fun pins s' σ H' Q I ⟨B', hm, q⟩ => (he B' hm s H Ca cl fp).run pins s' σ H' Q I q⟩) hs) fun σ H Q h => lc_read evs hv hv0 hts hne h
/-- name = [..] on one line -/
theorem sv_setLc {i : Nat} {y : Str} {py : Pos} {spos : Pos} {own' ol : List Nat} {scope : Scope} {so : List (Str × Nat)} {vs : List Nat} (hc : X.calm = true) (hN : X.N.Nodup) (hsw : swapsWith (.ListComp elt [⟨tg, iter, ifs, 0⟩] scope pos) (some (.Name y py)) spos.line X.env = pure true)
    (hi : PI X tg iter (tI X.K C own fi)) (ok : BlkOk X.N X.env.scope scope so)
    (hg : ∀ (B : Bs), B.m = C.B.m ∧ B.l = C.B.l → ∀ (s : Shared) (H : Hp) (Ca : Addr) (cl : List (Str × Addr)) (fp : List Addr), PG (X.blk s H scope (compEnvC scope cl Ca X.env) fp) tg (tG X.K (C.in B) own ts b))
    (ht : ∀ (B : Bs), B.m = C.B.m ∧ B.l = C.B.l → ∀ (s : Shared) (H : Hp) (Ca : Addr) (cl : List (Str × Addr)) (fp : List Addr), PTs (X.blk s H scope (compEnvC scope cl Ca X.env) fp) ifs (tT X.K (C.in B) own ft))
    (he : ∀ (B : Bs), B.m = C.B.m ∧ B.l = C.B.l → ∀ (s : Shared) (H : Hp) (Ca : Addr) (cl : List (Str × Addr)) (fp : List Addr), PE (X.blk s H scope (compEnvC scope cl Ca X.env) fp) elt (tE X.K (C.in B) own fa))
    (hne : ∀ d e c fs, b d e ≠ .ex c fs) (hm : i ≠ 0 ∨ C.B.free0) (ho : i :: own.filter (fun j => j != i) = own' := by rfl) (hy : X.N[i]? = some y := by rfl) (hyl : X.env.scope.names.lookup y = some .local := by rfl)
    (evs : so.map (·.2) = vs := by rfl) (hv : ∀ i ∈ vs, i ∉ own := by decide) (hv0 : ∀ i ∈ vs, i ≠ 0 := by decide) (hts : ∀ i ∈ ts, i ∈ vs := by decide) (hs : ∀ x, foldedSetIterable iter X.env x = pure x := by intro _; rfl) :
    PS X (.Assign [.Name y py] (.ListComp elt [⟨tg, iter, ifs, 0⟩] scope pos) spos) (tS X.K C own own' ol (asgS i (lcE vs fi b ft fa))) :=
  ps_imp (ps_setLc hc hN hy hyl hsw hi ok (g := fun v σ H Q => ∃ B', (B'.m = C.B.m ∧ B'.l = C.B.l) ∧ tG X.K (C.in B') own ts b v σ H Q) (tt := fun σ H Q => ∃ B', (B'.m = C.B.m ∧ B'.l = C.B.l) ∧ tT X.K (C.in B') own ft σ H Q) (te := fun σ H Q => ∃ B', (B'.m = C.B.m ∧ B'.l = C.B.l) ∧ tE X.K (C.in B') own fa σ H Q)
    (fun s H Ca cl fp => ⟨fun pins s' σ H' v u Q I r ⟨B', hm, q⟩ => (hg B' hm s H Ca cl fp).run pins s' σ H' v u Q I r q⟩)
    (fun s H Ca cl fp => ⟨fun pins s' σ H' Q I ⟨B', hm, q⟩ => (ht B' hm s H Ca cl fp).run pins s' σ H' Q I q⟩)
    (fun s H Ca cl fp => ⟨fun pins s' σ H' Q I ⟨B', hm, q⟩ => (he B' hm s H Ca cl fp).run pins s' σ H' Q I q⟩) hs) fun Dn σ H ⟨env, F, hR, h⟩ =>
    lc_read (Q := fun v H' => gName i v σ H' Dn.nx) evs hv hv0 hts hne ⟨env, F, hR, (Sst.bind h).imp fun d e1 F1 H1 hR1 s1 h1 p z => h1 _ F1 H1 (hR1.putO z.ow z.dis hm ho) (Same.refl _)⟩
/-- the same, the list laid down -/
theorem sv_setLcF {i : Nat} {y : Str} {py : Pos} {spos : Pos} {own' ol : List Nat} {scope : Scope} {so : List (Str × Nat)} {vs : List Nat} (hc : X.calm = true) (hN : X.N.Nodup) (hsw : swapsWith (.ListComp elt [⟨tg, iter, ifs, 0⟩] scope pos) (some (.Name y py)) spos.line X.env = pure true)
    (hi : PI X tg iter (tI X.K C own fi)) (ok : BlkOk X.N X.env.scope scope so)
    (hg : ∀ (B : Bs), B.m = C.B.m ∧ B.l = C.B.l → ∀ (s : Shared) (H : Hp) (Ca : Addr) (cl : List (Str × Addr)) (fp : List Addr), PG (X.blk s H scope (compEnvC scope cl Ca X.env) fp) tg (tG X.K (C.in B) own ts b))
    (ht : ∀ (B : Bs), B.m = C.B.m ∧ B.l = C.B.l → ∀ (s : Shared) (H : Hp) (Ca : Addr) (cl : List (Str × Addr)) (fp : List Addr), PTs (X.blk s H scope (compEnvC scope cl Ca X.env) fp) ifs (tT X.K (C.in B) own ft))
    (he : ∀ (B : Bs), B.m = C.B.m ∧ B.l = C.B.l → ∀ (s : Shared) (H : Hp) (Ca : Addr) (cl : List (Str × Addr)) (fp : List Addr), PE (X.blk s H scope (compEnvC scope cl Ca X.env) fp) elt (tE X.K (C.in B) own fa))
    (hne : ∀ d e c fs, b d e ≠ .ex c fs) (hm : i ≠ 0 ∨ C.B.free0) (ho : own.filter (fun j => j != i) = own' := by rfl) (hy : X.N[i]? = some y := by rfl) (hyl : X.env.scope.names.lookup y = some .local := by rfl)
    (evs : so.map (·.2) = vs := by rfl) (hv : ∀ i ∈ vs, i ∉ own := by decide) (hv0 : ∀ i ∈ vs, i ≠ 0 := by decide) (hts : ∀ i ∈ ts, i ∈ vs := by decide) (hs : ∀ x, foldedSetIterable iter X.env x = pure x := by intro _; rfl) :
    PS X (.Assign [.Name y py] (.ListComp elt [⟨tg, iter, ifs, 0⟩] scope pos) spos) (tS X.K C own own' ol (asgS i (lcE vs fi b ft fa))) :=
  ps_imp (ps_setLc hc hN hy hyl hsw hi ok (g := fun v σ H Q => ∃ B', (B'.m = C.B.m ∧ B'.l = C.B.l) ∧ tG X.K (C.in B') own ts b v σ H Q) (tt := fun σ H Q => ∃ B', (B'.m = C.B.m ∧ B'.l = C.B.l) ∧ tT X.K (C.in B') own ft σ H Q) (te := fun σ H Q => ∃ B', (B'.m = C.B.m ∧ B'.l = C.B.l) ∧ tE X.K (C.in B') own fa σ H Q)
    (fun s H Ca cl fp => ⟨fun pins s' σ H' v u Q I r ⟨B', hm, q⟩ => (hg B' hm s H Ca cl fp).run pins s' σ H' v u Q I r q⟩)
    (fun s H Ca cl fp => ⟨fun pins s' σ H' Q I ⟨B', hm, q⟩ => (ht B' hm s H Ca cl fp).run pins s' σ H' Q I q⟩)
    (fun s H Ca cl fp => ⟨fun pins s' σ H' Q I ⟨B', hm, q⟩ => (he B' hm s H Ca cl fp).run pins s' σ H' Q I q⟩) hs) fun Dn σ H ⟨env, F, hR, h⟩ =>
    lc_read (Q := fun v H' => gName i v σ H' Dn.nx) evs hv hv0 hts hne ⟨env, F, hR, (Sst.bind h).imp fun d e1 F1 H1 hR1 s1 h1 p z => by
      obtain ⟨F2, s2, hR2, r⟩ := hR1.ice z
      exact h1 _ F2 H1 (hR2.put r hm ho) s2⟩
end
end Dl

namespace Dl
open PySem PySem.Spec PyProof.Rows L2

/-! ### what a def is worth -/
/-- what stands ahead of a call -/
structure Pre (ca : CA) (F H : Hp) : Prop where
  sub : Same F H
  tb : LamX.Tabs ca.T H
  nt : ∀ p ps, F p ≠ some (.tbl ps)
theorem Bq.pre {ca : CA} {B : Bs} {F H : Hp} (q : Bq ca B F H) : Pre ca F H := ⟨q.sub, q.tb, q.nt⟩
def spD (K : PySem.W.Frag) (ca : CA) (n : Nat) (f : List D → R D) : Sp := fun vs H Q E => ∃ F ds, Pre ca F H ∧ Reps K ca F ds vs ∧ ds.length = n ∧ match f ds with
  | .ok d => ∀ v F' H', StC ca.T F H F' H' → Rep K ca F' d v → Q v H'
  | .ex c fs => ∀ e o F' H', StC ca.T F H F' H' → XR K ca c fs e o F' → E e o H'
  | .no => False
/-- all but the object at p (and the tables) stays -/
structure StM (T : List (Addr × Str)) (p : Addr) (F H F' H' : Hp) : Prop where
  sub : Same F' H'
  sF : Same F F'
  kp : ∀ q o, H q = some o → q ≠ p → (∀ ps, o ≠ .tbl ps) → H' q = some o
  nw : ∀ q, F' q ≠ none → F q ≠ none ∨ NoO H q
  nt : ∀ q ps, F' q = some (.tbl ps) → F q = some (.tbl ps)
  tb : LamX.Tabs T H'
  hF : F' p = none
/-- the first argument is an object of the caller's own, which may be changed -/
def spM (K : PySem.W.Frag) (ca : CA) (n : Nat) (f : List D → R (D × D)) : Sp := fun vs H Q E => ∃ F d0 ds p vs', vs = .ref p :: vs' ∧ Pre ca F H ∧ F p = none ∧ OwO K ca F H d0 p ∧ Reps K ca F ds vs' ∧ ds.length + 1 = n ∧ match f (d0 :: ds) with
  | .ok r => ∀ v F' H', StM ca.T p F H F' H' → OwO K ca F' H' r.2 p → Rep K ca F' r.1 v → Q v H'
  | .ex c fs => ∀ e o F' H', StM ca.T p F H F' H' → XR K ca c fs e o F' → E e o H'
  | .no => False
theorem passA {X : Cx} {E : XK} : Passes CX0 X E := fun _ _ _ _ _ _ _ h => h.elim
/-- what is raised here is taken -/
abbrev PX (X : Cx) (C : Cd) : Prop := Passes (L2.CX X.prog X.w) X C.E
theorem pxF {X : Cx} {C : Cd} {B : Bs} : PX X (C.in B) := passL
theorem pxT {X : Cx} {C : Cd} (tk : Takes X (fun e o _ H => C.E e o H)) : PX X C := passes_call tk fun _ _ _ _ h => h
def callF (n : Nat) (F : List D → R D) (fs : AF) : EF := fun env => (fs env).bind fun p => if p.1.length = n then (F p.1).bind fun d => .ok (d, p.2) else .no
def callM (i n : Nat) (F : List D → R (D × D)) (fs : AF) : EF := fun env => match env[i]? with
  | some (some _) => (fs env).bind fun p => match p.2[i]? with
    | some (some d0) => if p.1.length + 1 = n then (F (d0 :: p.1)).nox.bind fun r => .ok (r.1, p.2.set i (some r.2)) else .no
    | _ => .no
  | _ => .no
theorem RE.called {K : PySem.W.Frag} {ca : CA} {B : Bs} {own : List Nat} {env : En} {σ : L2.St} {F F' H H' : Hp} {i : Nat} {p : Addr} {d0 d' : D} (h : RE K ca B own env σ F H) (hi : i ∈ own) (he : env[i]? = some (some d0)) (hp : σ[i]? = some (some (.ref p)))
    (s : StM ca.T p F H F' H') (O' : OwO K ca F' H' d' p) : RE K ca B own (env.set i (some d')) σ F' H' := by
  obtain ⟨p', hp', O⟩ := h.ow i d0 hi he
  rw [hp] at hp'
  cases hp'
  have keepF : ∀ q, ¬NoO H q → F q = none → F' q = none := fun q h1 h2 => by
    cases e : F' q with
    | none => rfl
    | some o =>
      rcases s.nw q (by rw [e]; exact fun z => nomatch z) with z | z
      · exact absurd h2 z
      · exact absurd z h1
  have get : ∀ {j e}, (env.set i (some d'))[j]? = some (some e) → (j = i ∧ e = d') ∨ (j ≠ i ∧ env[j]? = some (some e)) := fun {j e} q => by
    by_cases hj : j = i
    · subst hj
      rw [List.getElem?_set_self (List.getElem?_eq_some_iff.mp he).1] at q
      cases q
      exact .inl ⟨rfl, rfl⟩
    · rw [List.getElem?_set_ne (Ne.symm hj)] at q
      exact .inr ⟨hj, q⟩
  have got : ∀ {j e}, (env.set i (some d'))[j]? = some (some e) → ∃ e0, env[j]? = some (some e0) := fun {j e} q => by
    rcases get q with ⟨rfl, rfl⟩ | ⟨_, z⟩
    · exact ⟨_, he⟩
    · exact ⟨_, z⟩
  refine ⟨⟨s.sub, h.q.sF.trans s.sF, fun q u hq n t => ?_, fun q hq => ?_, fun q hq => ⟨?_, keepF q (h.q.mp q hq).1 (h.q.mp q hq).2⟩, s.tb, fun q ps hq => h.q.nt q ps (s.nt q ps hq)⟩,
    by rw [List.length_set]; exact h.len, fun j e n q => ?_, fun j e m q => ?_, fun j k q e e' a b n e1 e2 => ?_, fun q hq => ?_, fun q hq => ?_⟩
  · have hb : q ≠ p := fun z => by
      subst z
      rcases O.b with w | w
      · obtain ⟨ps, w⟩ := w u hq; exact t ps w
      · exact n w
    exact s.kp q u (h.q.sH q u hq n t) hb t
  · rcases s.nw q hq with z | z
    · exact h.q.nw q z
    · exact .inr (h.q.noO z)
  · by_cases hb : q = p
    · subst hb; exact O'.thr
    · exact fun z => (h.q.mp q hq).1 (z.back fun o e t => s.kp q o e hb t)
  · rcases get q with ⟨rfl, rfl⟩ | ⟨hj, q⟩
    · exact absurd hi n
    · obtain ⟨v, h1, h2⟩ := h.fr j e n q
      exact ⟨v, h1, h2.mono s.sF⟩
  · rcases get q with ⟨rfl, rfl⟩ | ⟨hj, q⟩
    · exact ⟨p, hp, O', s.hF, O.b⟩
    · obtain ⟨r, h1, h2⟩ := h.ow j e m q
      have hb : r ≠ p := fun z => h.ne i j p d0 e hi m (Ne.symm hj) he q hp (z ▸ h1)
      exact ⟨r, h1, h2.o.move (fun u e => s.kp _ _ e hb fun ps z => h2.o.ntbl ps (by rw [e, z])) s.sF, keepF r h2.o.thr h2.f, h2.b⟩
  · obtain ⟨f1, g1⟩ := got e1
    obtain ⟨f2, g2⟩ := got e2
    exact h.ne j k q f1 f2 a b n g1 g2
  · obtain ⟨m0, m1, d1, m2⟩ := h.mt q hq
    refine ⟨m0, m1, ?_⟩
    by_cases hj : (0 : Nat) = i
    · subst hj
      exact ⟨d', List.getElem?_set_self (List.getElem?_eq_some_iff.mp he).1⟩
    · exact ⟨d1, by rw [List.getElem?_set_ne (Ne.symm hj)]; exact m2⟩
  · obtain ⟨l0, l1, l2⟩ := h.lm q hq
    have z : (0 : Nat) ≠ i := fun z => by rw [← z, l0] at he; cases he
    have hb : q.2.1 ≠ p := fun w => O.o.ncode q.2.2 (w ▸ l2)
    exact ⟨by rw [List.getElem?_set_ne (Ne.symm z)]; exact l0, l1, s.kp _ _ l2 hb fun ps w => LamX.codeO_ne ps w⟩
section
variable {X : Cx} {C : Cd} {own : List Nat} {e o : Expr} {es : List Expr} {fo : EF} {fs : AF} {x : Str} {p pos apos : Pos} {CX : CXT} {k n : Nat} {f : Addr} {fd : FuncData} {ps : List Str} {F : List D → R D} {G : List D → R (D × D)}
theorem callOk {σ : L2.St} {F1 H1 : Hp} {env : En} {ds : List D} {vs : List V} {Q : VK} (hR : RE X.K C.ca C.B own env σ F1 H1) (r : Reps X.K C.ca F1 ds vs)
    (h : Pst X.K C own (if ds.length = n then (F ds).bind fun d => .ok (d, env) else .no) σ F1 fun d _ F' H' => ∀ v, Rep X.K C.ca F' d v → Q v H') : spD X.K C.ca n F vs H1 Q C.E := by
  by_cases hn : ds.length = n
  · rw [if_pos hn] at h
    refine ⟨F1, ds, hR.q.pre, r, hn, ?_⟩
    cases e : F ds with
    | ok d => rw [e] at h; exact fun v F' H' st rv => h F' H' (hR.stepC st) st.sF v rv
    | ex c fs => rw [e] at h; exact fun e o F' H' st xr => h e o F' H' (hR.q.stepC st) st.sF xr
    | no => rw [e] at h; exact h
  · rw [if_neg hn] at h; exact h.elim
theorem ev_call (Gf : FnOk X.prog X.w X.K X.mg X.base (L2.CX X.prog X.w) k f fd ps (spD X.K C.ca n F)) (hr : Room k X.A) (hm : X.mg x = some (.ref f)) (hk : PySem.W.keepIn X.K (.ref f) = true) (hb : Binds X.K fd ps []) (hx : PX X C) (ha : PA X (e :: es) (tA X.K C own fs))
    (hg : Gl X x := by rfl) (hdb : (x == ("__debug__" : Str)) = false := by decide) (he : starEach (e :: es) X.env = (false, eval e X.env) :: starEach es X.env := by rfl) (hpl : (backTo pos (starEach es X.env)).any (·.1) = false := by rfl) :
    PE X (.Call (.Name x p) (e :: es) [] pos) (tE X.K C own (callF n F fs)) :=
  pe_imp (pe_callS (E := fun _ => C.E) Gf hr hg hm hk hb (fun σ pins H s e s' I c => hx pins σ H s e s' I c) ha hdb he hpl) fun σ H Q ⟨env, F0, hR, h⟩ => ⟨env, F0, hR, h.bind.imp fun ds e1 F1 H1 hR1 s1 h1 vs r => callOk hR1 r h1⟩
theorem ev_call0 (Gf : FnOk X.prog X.w X.K X.mg X.base (L2.CX X.prog X.w) k f fd ps (spD X.K C.ca n F)) (hr : Room k X.A) (hm : X.mg x = some (.ref f)) (hk : PySem.W.keepIn X.K (.ref f) = true) (hb : Binds X.K fd ps []) (hx : PX X C)
    (hg : Gl X x := by rfl) (hdb : (x == ("__debug__" : Str)) = false := by decide) : PE X (.Call (.Name x p) [] [] pos) (tE X.K C own (callF n F aNil)) :=
  pe_imp (pe_call0 Gf hr hg hm hk hb .nil hx hdb) fun σ H Q ⟨env, F0, hR, h⟩ => callOk hR .nil h
theorem callMOk {i : Nat} {σ : L2.St} {F1 H1 : Hp} {env : En} {d0 : D} {ds : List D} {p0 : Addr} {vs : List V} {Q : VK} (hR : RE X.K C.ca C.B own env σ F1 H1) (hi : i ∈ own) (he : env[i]? = some (some d0)) (hp : σ[i]? = some (some (.ref p0))) (r : Reps X.K C.ca F1 ds vs)
    (h : Pst X.K C own (if ds.length + 1 = n then (G (d0 :: ds)).nox.bind fun r => .ok (r.1, env.set i (some r.2)) else .no) σ F1 fun d _ F' H' => ∀ v, Rep X.K C.ca F' d v → Q v H') {E : XK} : spM X.K C.ca n G (.ref p0 :: vs) H1 Q E := by
  obtain ⟨p1, hp1, O1⟩ := hR.ow i d0 hi he
  rw [hp] at hp1
  cases hp1
  by_cases hn : ds.length + 1 = n
  · rw [if_pos hn] at h
    refine ⟨F1, d0, ds, p0, vs, rfl, hR.q.pre, O1.f, O1.o, r, hn, ?_⟩
    cases eg : G (d0 :: ds) with
    | ok rr => rw [eg] at h; exact fun v F' H' s O' rv => h F' H' (hR.called hi he hp s O') s.sF v rv
    | ex c fs => rw [eg] at h; exact h.elim
    | no => rw [eg] at h; exact h.elim
  · rw [if_neg hn] at h; exact h.elim
theorem ev_callM (i : Nat) {y : Str} {q : Pos} (Gf : FnOk X.prog X.w X.K X.mg X.base (L2.CX X.prog X.w) k f fd ps (spM X.K C.ca n G)) (hr : Room k X.A) (hm : X.mg x = some (.ref f)) (hk : PySem.W.keepIn X.K (.ref f) = true) (hb : Binds X.K fd ps []) (hx : PX X C) (ha : PA X es (tA X.K C own fs))
    (hi : own.contains i = true := by rfl) (hN : X.N[i]? = some y := by rfl) (hv : Vis X.env.scope y := by first | exact Or.inl rfl | exact Or.inr (Or.inl rfl) | exact Or.inr (Or.inr rfl)) (hd : (y == ("__debug__" : Str)) = false := by decide)
    (hcd : (y == ("__classdict__" : Str)) = false := by decide)
    (hg : Gl X x := by rfl) (hdb : (x == ("__debug__" : Str)) = false := by decide) (he : starEach (.Name y q :: es) X.env = (false, eval (.Name y q) X.env) :: starEach es X.env := by rfl) (hpl : (backTo pos (starEach es X.env)).any (·.1) = false := by rfl) :
    PE X (.Call (.Name x p) (.Name y q :: es) [] pos) (tE X.K C own (callM i n G fs)) :=
  pe_imp (pe_callS (E := fun _ => C.E) Gf hr hg hm hk hb (fun σ pins H s e s' I c => hx pins σ H s e s' I c) (pa_cons (pv i hN hv hd hcd) ha he) hdb he hpl) fun σ H Q ⟨env, F0, hR, h⟩ => by
    have hi : i ∈ own := by simpa using hi
    unfold callM at h
    split at h
    · rename_i d00 e0
      obtain ⟨p0, hp0, O0⟩ := hR.ow i d00 hi e0
      refine ⟨_, hp0, env, F0, hR, h.bind.imp fun ds e1 F1 H1 hR1 s1 h1 vs r => ?_⟩
      dsimp only at h1
      split at h1
      · rename_i d0 e2
        exact callMOk hR1 hi e2 hp0 r h1
      · exact h1.elim
    · exact h.elim
end

/-! ### a def by its body -/
def startE (n : Nat) (ds : List D) : En := ds.map some ++ List.replicate (n - ds.length) none
def runD (n : Nat) (g : SF) (ds : List D) : R D := match g (startE n ds) with
  | .nx _ => .ok .non
  | .rt d _ => .ok d
  | .ex c fs => .ex c fs
  | _ => .no
def lastD (d : D) (e : En) : R (D × D) := match e[0]? with
  | some (some m) => .ok (d, m)
  | _ => .no
def runM (n : Nat) (g : SF) (ds : List D) : R (D × D) := match g (startE n ds) with
  | .nx e => lastD .non e
  | .rt d e => lastD d e
  | .ex c fs => .ex c fs
  | _ => .no
section
variable {P : Program} {w : World} {K : PySem.W.Frag} {mg : Str → Option Value} {base : Heap} {ca : CA}
theorem startE_get {n : Nat} {ds : List D} {i : Nat} {d : D} (h : (startE n ds)[i]? = some (some d)) : ds[i]? = some d := by
  unfold startE at h
  by_cases hi : i < ds.length
  · rw [List.getElem?_append_left (by rw [List.length_map]; exact hi), List.getElem?_map] at h
    cases e : ds[i]? with
    | none => rw [e] at h; cases h
    | some x => rw [e] at h; cases h; rfl
  · rw [List.getElem?_append_right (by rw [List.length_map]; omega), List.getElem?_replicate] at h
    split at h <;> cases h
theorem start_get {N : List Str} {vs : List V} {i : Nat} {v : V} (h : vs[i]? = some v) : (L2.start N vs)[i]? = some (some v) := by
  unfold L2.start
  have hi := (List.getElem?_eq_some_iff.mp h).1
  rw [List.getElem?_append_left (by rw [List.length_map]; exact hi), List.getElem?_map, h]
  rfl
theorem start_len {N : List Str} {vs : List V} {ds : List D} (h : ds.length = vs.length) : (L2.start N vs).length = (startE N.length ds).length := by
  unfold L2.start startE
  rw [List.length_append, List.length_append, List.length_map, List.length_map, List.length_replicate, List.length_replicate, h]
/-- the context of a def's body -/
abbrev Cd.top (ca : CA) (B : Bs) (E : XK) (nw : Bool) : Cd := ⟨ca, B, E, nw⟩
theorem tk_of {qual : Str} {st : Stmt} {f : Addr} {N : List Str} {cdv : Value} {A : Around} {outer : List PySem.Env} {s : Shared} {H : Hp} {E : XK} : Takes (cxOf (L2.CX P w) P w K mg base N qual (defScope st) f cdv A outer s H E) (fun e o _ H => E e o H) := takes_of rfl rfl rfl rfl
theorem ps_of {qual : Str} {st : Stmt} {f : Addr} {N : List Str} {cdv : Value} {A : Around} {outer : List PySem.Env} {s : Shared} {H : Hp} {E : XK} : PassesOwn (model (cxOf (L2.CX P w) P w K mg base N qual (defScope st) f cdv A outer s H E).prog (cxOf (L2.CX P w) P w K mg base N qual (defScope st) f cdv A outer s H E).w) (cxOf (L2.CX P w) P w K mg base N qual (defScope st) f cdv A outer s H E).A (cxOf (L2.CX P w) P w K mg base N qual (defScope st) f cdv A outer s H E).env (cxOf (L2.CX P w) P w K mg base N qual (defScope st) f cdv A outer s H E).xe := passes_of rfl
theorem re_start {F H : Hp} {N : List Str} {ds : List D} {vs : List V} (pre : Pre ca F H) (r : Reps K ca F ds vs) : RE K ca ⟨F, H, none, none⟩ [] (startE N.length ds) (L2.start N vs) F H :=
  ⟨⟨pre.sub, Same.refl _, fun p o e _ _ => e, fun p hp => .inl hp, (fun p z => nomatch z), pre.tb, pre.nt⟩, start_len r.length, fun i d _ e => by
    obtain ⟨v, h1, h2⟩ := r.get (startE_get e)
    exact ⟨v, start_get h1, h2⟩, fun i d z => absurd z List.not_mem_nil, fun i j p d e z => absurd z List.not_mem_nil, (fun p z => nomatch z), fun p z => nomatch z⟩
theorem bq_stC {F H F' H' : Hp} (q : Bq ca ⟨F, H, none, none⟩ F' H') : StC ca.T F H F' H' := ⟨q.sub, q.sF, fun p o e t => q.sH p o e (fun z => nomatch z) t, q.nw, fun p ps z => absurd z (q.nt p ps), q.tb⟩
theorem fn_D {x qual : Str} {st : Stmt} {f : Addr} {fd : FuncData} {N ps : List Str} {k : Nat} {g : SF} {own' : List Nat} (T : Fun K x qual st f fd) (S : FnScope N ps (defScope st))
    (hb : ∀ (B : Bs), B.free0 → ∀ (cdv : Value) (A : Around) (outer : List PySem.Env) (s : Shared) (H : Hp) (E : XK), Room k (A.deeper (envOfC qual (defScope st) s.heap.objs.size f cdv)) →
      PSs (cxOf (L2.CX P w) P w K mg base N qual (defScope st) f cdv A outer s H E) (defBody st) (tS K (.top ca B E false) [] own' [] g)) : FnOk P w K mg base (L2.CX P w) (k + 1) f fd ps (spD K ca ps.length (runD N.length g)) := by
  refine T.okX S (fun vs H Q E ⟨F, ds, _, r, hl, _⟩ => by rw [← r.length]; exact hl) (fun cdv A outer s H vs Q E hr ⟨F, ds, pre, r, hl, hm⟩ => ⟨_, hb ⟨F, H, none, none⟩ ⟨rfl, rfl⟩ cdv A outer s H E hr, ?_⟩)
  refine ⟨startE N.length ds, F, re_start pre r, ?_⟩
  unfold runD at hm
  cases eg : g (startE N.length ds) with
  | nx e => rw [eg] at hm; exact fun σ' F' H' hR s => hm .non F' H' (bq_stC hR.q) .non
  | rt d e => rw [eg] at hm; exact fun v F' H' q m s rv => hm v F' H' (bq_stC q) rv
  | bk e => rw [eg] at hm; exact hm.elim
  | ct e => rw [eg] at hm; exact hm.elim
  | ex c fs => rw [eg] at hm; exact fun e o F' H' q s xr => hm e o F' H' (bq_stC q) xr
  | no => rw [eg] at hm; exact hm.elim
theorem re_startM {F H : Hp} {N : List Str} {d0 : D} {ds : List D} {p : Addr} {vs : List V} (pre : Pre ca F H) (hF : F p = none) (O : OwO K ca F H d0 p) (r : Reps K ca F ds vs) : RE K ca ⟨F, H, some p, none⟩ [0] (startE N.length (d0 :: ds)) (L2.start N (.ref p :: vs)) F H := by
  have hs : (L2.start N (.ref p :: vs))[0]? = some (some (.ref p)) := start_get rfl
  have he : (startE N.length (d0 :: ds))[0]? = some (some d0) := rfl
  refine ⟨⟨pre.sub, Same.refl _, fun p o e _ _ => e, fun p hp => .inl hp, fun q z => by cases z; exact ⟨O.thr, hF⟩, pre.tb, pre.nt⟩, start_len (by rw [List.length_cons, List.length_cons, r.length]), fun i d hi e => ?_, fun i d hi e => ?_, fun i j q d e a b n => ?_, fun q z => by cases z; exact ⟨List.mem_singleton.mpr rfl, hs, d0, he⟩, fun q z => nomatch z⟩
  · have h1 := startE_get e
    cases i with
    | zero => exact absurd (List.mem_singleton.mpr rfl) hi
    | succ i =>
      obtain ⟨v, h1, h2⟩ := r.get (show ds[i]? = some d from h1)
      exact ⟨v, start_get (by rw [List.getElem?_cons_succ]; exact h1), h2⟩
  · have hi := List.mem_singleton.mp hi
    subst hi
    rw [he] at e
    cases e
    exact ⟨p, hs, O, hF, .inr rfl⟩
  · exact absurd ((List.mem_singleton.mp a).trans (List.mem_singleton.mp b).symm) n
theorem bq_stM {F H F' H' : Hp} {p : Addr} (q : Bq ca ⟨F, H, some p, none⟩ F' H') : StM ca.T p F H F' H' :=
  ⟨q.sub, q.sF, fun a o e n t => q.sH a o e (fun z => n (Option.some.inj z).symm) t, q.nw, fun a ps z => absurd z (q.nt a ps), q.tb, (q.mp p rfl).2⟩
theorem body_M {qual : Str} {st : Stmt} {f : Addr} {N : List Str} {n k : Nat} {g : SF} {own' : List Nat} {cdv : Value}
    (hb : ∀ (B : Bs) (A : Around) (outer : List PySem.Env) (s : Shared) (H : Hp) (E : XK), Room k (A.deeper (envOfC qual (defScope st) s.heap.objs.size f cdv)) →
      PSs (cxOf (L2.CX P w) P w K mg base N qual (defScope st) f cdv A outer s H E) (defBody st) (tS K (.top ca B E false) [0] own' [] g)) :
    ∀ (A : Around) (outer : List PySem.Env) (s : Shared) (H : Hp) (vs : List V) (Q : VK) (E : XK), Room k (A.deeper (envOfC qual (defScope st) s.heap.objs.size f cdv)) → spM K ca n (runM N.length g) vs H Q E →
      ∃ t, PSs (cxOf (L2.CX P w) P w K mg base N qual (defScope st) f cdv A outer s H E) (defBody st) t ∧ t { nx := fun _ H' => Q .non H', rt := Q } (L2.start N vs) H := by
  rintro A outer s H vs Q E hr ⟨F, d0, ds, p, vs', ev, pre, hF, O, r, hl, hm⟩
  refine ⟨_, hb ⟨F, H, some p, none⟩ A outer s H E hr, ?_⟩
  subst ev
  have fin : ∀ {d : D} {v : V} {e : En} {F' H' : Hp}, Bq ca ⟨F, H, some p, none⟩ F' H' → MutF K ca ⟨F, H, some p, none⟩ F' H' e → Rep K ca F' d v → (∀ r, lastD d e = .ok r → ∀ v F' H', StM ca.T p F H F' H' → OwO K ca F' H' r.2 p → Rep K ca F' r.1 v → Q v H') → Q v H' := fun {d v e F' H'} q m rv hm => by
    obtain ⟨dm, h1, h2⟩ := m p rfl
    exact hm (d, dm) (by unfold lastD; rw [h1]) v F' H' (bq_stM q) h2 rv
  refine ⟨startE N.length (d0 :: ds), F, re_startM pre hF O r, ?_⟩
  unfold runM at hm
  cases eg : g (startE N.length (d0 :: ds)) with
  | nx e =>
    rw [eg] at hm
    intro σ' F' H' hR s
    refine fin hR.q hR.mutF .non fun r hr => ?_
    dsimp only at hm
    rw [hr] at hm
    exact hm
  | rt d e =>
    rw [eg] at hm
    intro v F' H' q m s rv
    refine fin q m rv fun r hr => ?_
    dsimp only at hm
    rw [hr] at hm
    exact hm
  | bk e => rw [eg] at hm; exact hm.elim
  | ct e => rw [eg] at hm; exact hm.elim
  | ex c fs => rw [eg] at hm; exact fun e o F' H' q s xr => hm e o F' H' (bq_stM q) xr
  | no => rw [eg] at hm; exact hm.elim
theorem fn_M {x qual : Str} {st : Stmt} {f : Addr} {fd : FuncData} {N ps : List Str} {k : Nat} {g : SF} {own' : List Nat} (T : Fun K x qual st f fd) (S : FnScope N ps (defScope st))
    (hb : ∀ (B : Bs) (cdv : Value) (A : Around) (outer : List PySem.Env) (s : Shared) (H : Hp) (E : XK), Room k (A.deeper (envOfC qual (defScope st) s.heap.objs.size f cdv)) →
      PSs (cxOf (L2.CX P w) P w K mg base N qual (defScope st) f cdv A outer s H E) (defBody st) (tS K (.top ca B E false) [0] own' [] g)) : FnOk P w K mg base (L2.CX P w) (k + 1) f fd ps (spM K ca ps.length (runM N.length g)) :=
  T.okX S (fun vs H Q E ⟨F, d0, ds, p, vs', ev, _, _, _, r, hl, _⟩ => by rw [ev, List.length_cons, ← r.length]; exact hl) fun cdv A outer s H vs Q E hr h => body_M (fun B A outer s H E hr => hb B cdv A outer s H E hr) A outer s H vs Q E hr h
end
end Dl

namespace Dl
open PySem PySem.Spec PyProof.Rows L2

/-! ### fields -/
def attrD (cs : List Nat) (f : Str) : D → R D
  | .ins c fs => if cs.contains c = true then .no else R.ofOpt (fs.lookup f)
  | _ => .no
theorem attrD_ne {cs : List Nat} {f : Str} : ∀ x c fs, attrD cs f x ≠ .ex c fs := fun x c fs z => by
  unfold attrD at z
  split at z
  · split at z
    · cases z
    · rename_i fs' _
      cases e : fs'.lookup f with
      | none => rw [e] at z; cases z
      | some d => rw [e] at z; cases z
  · cases z
def putD (f : Str) (v : D) : List (Str × D) → List (Str × D)
  | [] => [(f, v)]
  | (g, x) :: r => if g = f then (g, v) :: r else (g, x) :: putD f v r
theorem RepF.put {K : PySem.W.Frag} {ca : CA} {F : Hp} {f : Str} {d : D} {v : V} (r : Rep K ca F d v) : ∀ {ds : List (Str × D)} {vs : List (Str × V)}, RepF K ca F ds vs → RepF K ca F (putD f d ds) (putF f v vs)
  | _, _, .nil => .cons r .nil
  | (n, d') :: ds, (_, v') :: vs, .cons q qs => by
    unfold putD putF
    by_cases h : n = f
    · rw [if_pos h, if_pos h]; exact .cons r qs
    · rw [if_neg h, if_neg h]; exact .cons q (RepF.put r qs)
/-- self.f, of an object of one's own in slot i -/
def eFldO (i : Nat) (cs : List Nat) (f : Str) : EF := fun env => match env[i]? with
  | some (some d) => (attrD cs f d).bind fun v => .ok (v, env)
  | _ => .no
def fldS (i : Nat) (cs : List Nat) (f : Str) (fa : EF) : SF := fun env => (fa env).toS fun p => match p.2[i]? with
  | some (some (.ins c fs)) => if cs.contains c = false ∧ fs.length < 1000 then .nx (p.2.set i (some (.ins c (putD f p.1 fs)))) else .no
  | _ => .no
section
variable {X : Cx} {C : Cd} {own ol : List Nat} {a e o : Expr} {es : List Expr} {fa : EF} {fs : AF} {x y f : Str} {p q pos pos' apos cpos : Pos} {cs : List Nat}
theorem ev_fld (hA : ∀ c, C.ca.ok c = true → cs.contains c = false → Cls X.K (C.ca c) ∧ NoAttr X.K (C.ca c) f) (ha : PE X a (tE X.K C own fa)) (hb : attributeBase a f X.env (eval a X.env) = eval a X.env := by rfl) : PE X (.Attribute a f pos) (tE X.K C own (e1 (attrD cs f) fa)) :=
  pe_imp (pe_fld ha hb) fun σ H Q ⟨env, F, hR, h⟩ => ⟨env, F, hR, h.bind.imp fun d e1 F1 H1 hR1 s1 h1 v r => by
    obtain ⟨b, hb, h2⟩ := h1.known (attrD_ne d)
    cases r with
    | ins hp rf hk =>
      unfold attrD at hb
      dsimp only at hb
      split at hb
      · cases hb
      · rename_i hc
        cases el : List.lookup f _ with
        | none => rw [el] at hb; cases hb
        | some d =>
          rw [el] at hb
          cases hb
          obtain ⟨u, l1, l2⟩ := rf.lookup el
          have hA1 := hA _ hk (by simpa using hc)
          exact ⟨_, _, _, _, u, rfl, hR1.q.sub _ _ hp, hA1.1, hA1.2, l1, h2.here hR1 u l2⟩
    | _ => cases hb⟩
theorem ev_fldO (i : Nat) (hA : ∀ c, C.ca.ok c = true → cs.contains c = false → Cls X.K (C.ca c) ∧ NoAttr X.K (C.ca c) f) (hi : own.contains i = true := by rfl) (hN : X.N[i]? = some y := by rfl) (hv : Vis X.env.scope y := by first | exact Or.inl rfl | exact Or.inr (Or.inl rfl) | exact Or.inr (Or.inr rfl)) (hd : (y == ("__debug__" : Str)) = false := by decide)
    (hcd : (y == ("__classdict__" : Str)) = false := by decide) (hb : attributeBase (.Name y q) f X.env (eval (.Name y q) X.env) = eval (.Name y q) X.env := by rfl) : PE X (.Attribute (.Name y q) f pos) (tE X.K C own (eFldO i cs f)) :=
  pe_imp (pe_fld (pv i hN hv hd hcd) hb) fun σ H Q ⟨env, F, hR, h⟩ => by
    have hi : i ∈ own := by simpa using hi
    unfold eFldO at h
    split at h
    · rename_i d e0
      obtain ⟨b, hb, h2⟩ := h.known (attrD_ne d)
      obtain ⟨p, hp, O⟩ := hR.ow i d hi e0
      unfold attrD at hb
      split at hb
      · rename_i c fs
        split at hb
        · cases hb
        · rename_i hc
          obtain ⟨dx, gs, a1, rf, hk⟩ := O.o
          cases el : fs.lookup f with
          | none => rw [el] at hb; cases hb
          | some d =>
            rw [el] at hb
            cases hb
            obtain ⟨u, l1, l2⟩ := rf.lookup el
            have hA1 := hA _ hk (by simpa using hc)
            exact ⟨_, hp, _, _, _, _, u, rfl, a1, hA1.1, hA1.2, l1, h2.here hR u l2⟩
      · cases hb
    · exact h.elim
theorem sv_fld (i : Nat) (hA : ∀ c, C.ca.ok c = true → cs.contains c = false → Cls X.K (C.ca c) ∧ NoAttr X.K (C.ca c) f) (ha : PE X a (tE X.K C own fa)) (hi : own.contains i = true := by rfl) (hN : X.N[i]? = some y := by rfl) (hv : Vis X.env.scope y := by first | exact Or.inl rfl | exact Or.inr (Or.inl rfl) | exact Or.inr (Or.inr rfl)) (hd : (y == ("__debug__" : Str)) = false := by decide)
    (hcd : (y == ("__classdict__" : Str)) = false := by decide) (hs : swapsWith a (some (.Attribute (.Name y q) f pos')) pos.line X.env = pure false := by rfl) : PS X (.Assign [.Attribute (.Name y q) f pos'] a pos) (tS X.K C own own ol (fldS i cs f fa)) :=
  ps_imp (ps_fld (pv i hN hv hd hcd) ha hs) fun Dn σ H ⟨env, F, hR, h⟩ => by
    have hi : i ∈ own := by simpa using hi
    refine ⟨env, F, hR, (Sst.bind (show Sst X.K C own ol ((fa env).toS fun p => _) F Dn from h)).imp fun d e1 F1 H1 hR1 s1 h1 v r => ?_⟩
    dsimp only at h1
    split at h1
    · rename_i c fs e0
      split at h1
      · rename_i hc
        obtain ⟨p, hp, O⟩ := hR1.ow i _ hi e0
        obtain ⟨dx, gs, a1, rf, hk⟩ := O.o
        refine ⟨_, hp, _, _, _, _, rfl, a1, (hA c hk hc.1).1, (hA c hk hc.1).2, by rw [← rf.length]; exact hc.2, ?_⟩
        exact h1 σ F1 _ (hR1.chg hi e0 hp ⟨dx, _, upd_same, rf.put r, hk⟩) (Same.refl _)
      · exact h1.elim
    · exact h1.elim
end

/-! ### C(..) -/
def nonD (r : D × D) : R D := match r.1 with
  | .non => .ok r.2
  | _ => .no
def makeF (c n : Nat) (G : List D → R (D × D)) (fs : AF) : EF := fun env => (fs env).bind fun p => if p.1.length + 1 = n then (G (.ins c [] :: p.1)).bind fun r => (nonD r).bind fun d => .ok (d, p.2) else .no
section
variable {X : Cx} {C : Cd} {own : List Nat} {e o : Expr} {es : List Expr} {fs : AF} {x : Str} {p pos apos : Pos} {k n c : Nat} {f : Addr} {fd : FuncData} {ps : List Str} {G : List D → R (D × D)}
theorem makeOk {σ : L2.St} {F1 H1 : Hp} {env : En} {ds : List D} {vs : List V} {Q : VK} {xa dx : Addr} (hk : C.ca.ok c = true) (hR : RE X.K C.ca C.B own env σ F1 H1) (r : Reps X.K C.ca F1 ds vs) (hx : H1 xa = none) (hdx : H1 dx = none) (ne : dx ≠ xa)
    (h : Pst X.K C own (if ds.length + 1 = n then (G (.ins c [] :: ds)).bind fun r => (nonD r).bind fun d => .ok (d, env) else .no) σ F1 fun d e F' H' => ∀ p, Fsh X.K C.ca C.B own e σ F' H' d p → Q (.ref p) H') :
    spM X.K C.ca n G (.ref xa :: vs) (upd (upd H1 dx (.own xa)) xa (.ins (C.ca c) dx [])) (fun v H2 => v = .non ∧ Q (.ref xa) H2) C.E := by
  by_cases hn : ds.length + 1 = n
  · rw [if_pos hn] at h
    have hF1 : F1 xa = none := hR.q.sub.free hx
    have sm : Same H1 (upd (upd H1 dx (.own xa)) xa (.ins (C.ca c) dx [])) := (same_upd hdx).trans (same_upd (by rw [upd_ne (Ne.symm ne)]; exact hx))
    have stc : ∀ {F' H' : Hp}, StM C.ca.T xa F1 (upd (upd H1 dx (.own xa)) xa (.ins (C.ca c) dx [])) F' H' → StC C.ca.T F1 H1 F' H' := fun {F' H'} s =>
      ⟨s.sub, s.sF, fun q o e t => s.kp q o (sm q o e) (ne_of_none e hx) t, fun q hq => by
        rcases s.nw q hq with z | z
        · exact .inl z
        · exact .inr (z.free sm), s.nt, s.tb⟩
    refine ⟨F1, .ins c [], ds, xa, vs, rfl, ⟨hR.q.sub.trans sm, hR.q.tb.ext sm, hR.q.nt⟩, hF1, ⟨dx, [], upd_same, .nil, hk⟩, r, hn, ?_⟩
    cases eg : G (.ins c [] :: ds) with
    | ex c fs => rw [eg] at h; exact fun e o F' H' s xr => h e o F' H' (hR.q.stepC (stc s)) s.sF xr
    | no => rw [eg] at h; exact h.elim
    | ok rr =>
      rw [eg] at h
      obtain ⟨d1, d2⟩ := rr
      intro v F' H' s O' rv
      cases d1 with
      | non =>
        cases rv
        obtain ⟨b, m, _⟩ := hR.q.fresh hx
        refine ⟨rfl, h F' H' (hR.stepC (stc s)) s.sF xa ⟨O', s.hF, b, m, fun j ed hj he z => ?_⟩⟩
        obtain ⟨q, h1, O⟩ := hR.ow j ed hj he
        rw [h1] at z
        cases z
        exact O.o.there hx
      | _ => exact h.elim
  · rw [if_neg hn] at h; exact h.elim
theorem ev_make (M : Mk X.K (C.ca c) f) (Gf : FnOk X.prog X.w X.K X.mg X.base (L2.CX X.prog X.w) k f fd ps (spM X.K C.ca n G)) (hr : Room (k + 1) X.A) (hm : X.mg x = some (.ref (C.ca c))) (hb : Binds X.K fd ps []) (hx : PX X C) (ha : PA X (e :: es) (tA X.K C own fs))
    (hk : C.ca.ok c = true := by rfl) (hg : Gl X x := by rfl) (hdb : (x == ("__debug__" : Str)) = false := by decide) (he : starEach (e :: es) X.env = (false, eval e X.env) :: starEach es X.env := by rfl) (hpl : (backTo pos (starEach es X.env)).any (·.1) = false := by rfl) :
    PE X (.Call (.Name x p) (e :: es) [] pos) (tN X.K C own (makeF c n G fs)) :=
  pe_imp (pe_make M Gf hr hg hm hb .nil hx ha hdb he hpl) fun σ H Q ⟨env, F0, hR, h⟩ => ⟨env, F0, hR, h.bind.imp fun ds e1 F1 H1 hR1 s1 h1 vs r => by
    show ∀ xa dx, H1 xa = none → H1 dx = none → dx ≠ xa → spM X.K C.ca n G (.ref xa :: (vs ++ [])) _ _ _
    intro xa dx hx hdx ne
    rw [List.append_nil]
    exact makeOk hk hR1 r hx hdx ne h1⟩
theorem ev_makeR {sp : Sp} (M : Mk X.K (C.ca c) f) (Gf : FnR X.prog X.w X.K X.mg X.base (L2.CX X.prog X.w) k f (spM X.K C.ca n G)) (hr : Room (k + 1) X.A) (hm : X.mg x = some (.ref (C.ca c))) (hx : PX X C) (ha : PA X (e :: es) (tA X.K C own fs))
    (hk : C.ca.ok c = true := by rfl) (hg : Gl X x := by rfl) (hdb : (x == ("__debug__" : Str)) = false := by decide) (he : starEach (e :: es) X.env = (false, eval e X.env) :: starEach es X.env := by rfl) (hpl : (backTo pos (starEach es X.env)).any (·.1) = false := by rfl) :
    PE X (.Call (.Name x p) (e :: es) [] pos) (tN X.K C own (makeF c n G fs)) :=
  pe_imp (StX.pe_makeR M Gf hr hg hm hx ha hdb he hpl) fun σ H Q ⟨env, F0, hR, h⟩ => ⟨env, F0, hR, h.bind.imp fun ds e1 F1 H1 hR1 s1 h1 vs r => by
    show ∀ xa dx, H1 xa = none → H1 dx = none → dx ≠ xa → spM X.K C.ca n G (.ref xa :: vs) _ _ _
    intro xa dx hx hdx ne
    exact makeOk hk hR1 r hx hdx ne h1⟩
end

/-! ### x.m(..) of a list of one's own -/
def rM (K : PySem.W.Frag) (ca : CA) (g : D → List D → R (D × D)) : V → List V → Hp → VK → Prop := fun x vs H Q => ∃ F p d0 ds r, x = .ref p ∧ Same F H ∧ F p = none ∧ OwO K ca F H d0 p ∧ Reps K ca F ds vs ∧ g d0 ds = .ok r ∧
  ∀ v o, OwO K ca F (upd H p o) r.2 p → Rep K ca F r.1 v → Q v (upd H p o)
def isLst : D → Bool
  | .lst _ => true
  | _ => false
def mthM (i : Nat) (g : D → List D → R (D × D)) (fs : AF) : EF := fun env => match env[i]? with
  | some (some d) => if isLst d = true then (fs env).bind fun p => match p.2[i]? with
    | some (some d0) => (g d0 p.1).nox.bind fun r => .ok (r.1, p.2.set i (some r.2))
    | _ => .no else .no
  | _ => .no
def appendD : D → List D → R (D × D)
  | .lst xs, [y] => if xs.length < sizeLine then .ok (.non, .lst (xs ++ [y])) else .no
  | _, _ => .no
def extendD : D → List D → R (D × D)
  | .lst xs, [.lst ys] => if xs.length + ys.length ≤ sizeLine then .ok (.non, .lst (xs ++ ys)) else .no
  | _, _ => .no
def insertD : D → List D → R (D × D)
  | .lst xs, [.int i, y] => if xs.length < sizeLine ∧ 0 ≤ i ∧ i.toNat < 9223372036854775808 then .ok (.non, .lst (xs.take i.toNat ++ [y] ++ xs.drop i.toNat)) else .no
  | _, _ => .no
def popD : D → List D → R (D × D)
  | .lst xs, [] => match xs[xs.length - 1]? with
    | some y => .ok (y, .lst xs.dropLast)
    | none => .no
  | _, _ => .no
def popAtD : D → List D → R (D × D)
  | .lst xs, [.int i] => if (-i).toNat < 9223372036854775808 ∧ i.toNat < 9223372036854775808 then (match seqIndex? i xs.length with
    | some k => match xs[k]? with
      | some y => .ok (y, .lst (xs.eraseIdx k))
      | none => .no
    | none => .no) else .no
  | _, _ => .no
theorem Reps.eraseIdx {K : PySem.W.Frag} {ca : CA} {F : Hp} : ∀ {ds : List D} {vs : List V} (k : Nat), Reps K ca F ds vs → Reps K ca F (ds.eraseIdx k) (vs.eraseIdx k)
  | _, _, _, .nil => .nil
  | _, _, 0, .cons _ t => t
  | _, _, k + 1, .cons r t => .cons r (Reps.eraseIdx k t)
theorem Reps.dropLast {K : PySem.W.Frag} {ca : CA} {F : Hp} : ∀ {ds : List D} {vs : List V}, Reps K ca F ds vs → Reps K ca F ds.dropLast vs.dropLast
  | _, _, .nil => .nil
  | _, _, .cons r .nil => .nil
  | _, _, .cons r (.cons q t) => .cons r (Reps.dropLast (.cons q t))
section
variable {X : Cx} {ca : CA}
theorem om_append : MtR X "list.append" (rM X.K ca appendD) := fun pins s σ H x vs v us Q I rx rv ⟨F, p, d0, ds, r, ex, sub, hF, O, rs, hg, q⟩ => by
  subst ex
  unfold appendD at hg
  split at hg
  · split at hg
    · rename_i hl
      cases hg
      obtain ⟨ws, a1, a2⟩ := O
      cases rs with
      | cons r rs =>
        cases rs
        exact mt_append pins s σ H _ _ v us Q I rx rv ⟨p, ws, _, rfl, rfl, a1, by rw [← a2.length]; exact hl, q _ _ ⟨_, upd_same, a2.append (.one r)⟩ .non⟩
    · cases hg
  · cases hg
theorem om_extend : MtR X "list.extend" (rM X.K ca extendD) := fun pins s σ H x vs v us Q I rx rv ⟨F, p, d0, ds, r, ex, sub, hF, O, rs, hg, q⟩ => by
  subst ex
  unfold extendD at hg
  split at hg
  · split at hg
    · rename_i hl
      cases hg
      obtain ⟨ws, a1, a2⟩ := O
      cases rs with
      | cons r rs =>
        cases rs
        cases r with
        | lst hq rq =>
          exact mt_extend pins s σ H _ _ v us Q I rx rv ⟨p, _, ws, _, rfl, rfl, a1, sub _ _ hq, by rw [← a2.length, ← rq.length]; exact hl, q _ _ ⟨_, upd_same, a2.append rq⟩ .non⟩
    · cases hg
  · cases hg
theorem om_insert : MtR X "list.insert" (rM X.K ca insertD) := fun pins s σ H x vs v us Q I rx rv ⟨F, p, d0, ds, r, ex, sub, hF, O, rs, hg, q⟩ => by
  subst ex
  unfold insertD at hg
  split at hg
  · split at hg
    · rename_i hl
      cases hg
      obtain ⟨ws, a1, a2⟩ := O
      cases rs with
      | cons r rs =>
        cases r
        cases rs with
        | cons r rs =>
          cases rs
          exact mt_insert pins s σ H _ _ v us Q I rx rv ⟨p, ws, _, _, rfl, rfl, a1, by rw [← a2.length]; exact hl.1, hl.2.1, by rw [two63]; omega, q _ _ ⟨_, upd_same, ((a2.take _).append (.one r)).append (a2.drop _)⟩ .non⟩
    · cases hg
  · cases hg
theorem om_pop : MtR X "list.pop" (rM X.K ca popD) := fun pins s σ H x vs v us Q I rx rv ⟨F, p, d0, ds, r, ex, sub, hF, O, rs, hg, q⟩ => by
  subst ex
  unfold popD at hg
  split at hg
  · split at hg
    · rename_i y hy
      cases hg
      obtain ⟨ws, a1, a2⟩ := O
      cases rs
      obtain ⟨u, h1, h2⟩ := a2.get hy
      exact mt_pop pins s σ H _ _ v us Q I rx rv ⟨p, ws, u, rfl, rfl, a1, by rw [← a2.length]; exact h1, q _ _ ⟨_, upd_same, a2.dropLast⟩ h2⟩
    · cases hg
  · cases hg
theorem om_popAt : MtR X "list.pop" (rM X.K ca popAtD) := fun pins s σ H x vs v us Q I rx rv ⟨F, p, d0, ds, r, ex, sub, hF, O, rs, hg, q⟩ => by
  subst ex
  unfold popAtD at hg
  split at hg
  · split at hg
    · rename_i hl
      split at hg
      · rename_i k hk
        split at hg
        · rename_i y hy
          cases hg
          obtain ⟨ws, a1, a2⟩ := O
          cases rs with
          | cons r rs =>
            cases r
            cases rs
            obtain ⟨u, h1, h2⟩ := a2.get hy
            exact mt_popAt pins s σ H _ _ v us Q I rx rv ⟨p, ws, _, k, u, rfl, rfl, a1, by rw [two63]; omega, by rw [two63]; omega, by rw [← a2.length]; exact hk, h1, q _ _ ⟨_, upd_same, a2.eraseIdx k⟩ h2⟩
        · cases hg
      · cases hg
    · cases hg
  · cases hg
end
section
variable {X : Cx} {C : Cd} {own : List Nat} {e : Expr} {es : List Expr} {fs : AF} {y name : Str} {id : String} {q apos cpos : Pos} {g : D → List D → R (D × D)}
theorem mthOk {i : Nat} {σ : L2.St} {F1 H1 : Hp} {env : En} {p0 : Addr} {ds : List D} {vs : List V} {Q : VK} (hi : i ∈ own) (hR : RE X.K C.ca C.B own env σ F1 H1) (hp : σ[i]? = some (some (.ref p0))) (r : Reps X.K C.ca F1 ds vs)
    (h : Pst X.K C own (match env[i]? with
      | some (some d0) => (g d0 ds).nox.bind fun r => .ok (r.1, env.set i (some r.2))
      | _ => .no) σ F1 fun d _ F' H' => ∀ v, Rep X.K C.ca F' d v → Q v H') : rM X.K C.ca g (.ref p0) vs H1 Q := by
  split at h
  · rename_i d0 e0
    obtain ⟨p1, hp1, O⟩ := hR.ow i d0 hi e0
    rw [hp] at hp1
    cases hp1
    cases eg : g d0 ds with
    | ex c fs => rw [eg] at h; exact h.elim
    | no => rw [eg] at h; exact h.elim
    | ok rr =>
      rw [eg] at h
      exact ⟨F1, p0, d0, ds, rr, rfl, hR.q.sub, O.f, O.o, r, eg, fun v o O' rv => h F1 _ (hR.chg hi e0 hp O') (Same.refl _) v rv⟩
  · exact h.elim
theorem ev_mth (i : Nat) (pa : PlainAttrs "list") (slot : Slot "list" name id) (hty : typeOf (.builtin id) = pure (.type "method_descriptor")) (hm : MtR X id (rM X.K C.ca g)) (ha : PA X (e :: es) (tA X.K C own fs)) (hi : own.contains i = true := by rfl) (hN : X.N[i]? = some y := by rfl) (hv : Vis X.env.scope y := by first | exact Or.inl rfl | exact Or.inr (Or.inl rfl) | exact Or.inr (Or.inr rfl)) (hd : (y == ("__debug__" : Str)) = false := by decide)
    (hcd : (y == ("__classdict__" : Str)) = false := by decide) (hbase : attributeBase (.Name y q) name X.env (eval (.Name y q) X.env) = eval (.Name y q) X.env := by rfl)
    (hfew : ((backTo cpos (starEach (e :: es) X.env)).all (fun x => !x.1) && (backToKw cpos (keywordEach [] X.env)).all (fun x => x.1.isSome)
      && decide ((e :: es).length + ([] : List Keyword).length + (if ([] : List Keyword).isEmpty then 0 else 1) < 30)) = true := by rfl)
    (hline : (apos.endLine == cpos.line) = true := by rfl) (hs : starEach (e :: es) X.env = (false, eval e X.env) :: starEach es X.env := by rfl) (hplain : (backTo cpos (starEach es X.env)).any (·.1) = false := by rfl) :
    PE X (.Call (.Attribute (.Name y q) name apos) (e :: es) [] cpos) (tE X.K C own (mthM i g fs)) :=
  pe_imp (pe_bm pa slot hty hm (pv i hN hv hd hcd) ha hbase hfew hline hs hplain) fun σ H Q ⟨env, F0, hR, h⟩ => by
    have hi : i ∈ own := by simpa using hi
    unfold mthM at h
    split at h
    · rename_i d00 e0
      split at h
      · rename_i hl
        obtain ⟨p0, hp0, O0⟩ := hR.ow i d00 hi e0
        cases d00 <;> try cases hl
        obtain ⟨ws, a1, a2⟩ := O0.o
        exact ⟨_, hp0, .inl ⟨rfl, _, SqL.of a1⟩, env, F0, hR, h.bind.imp fun ds e1 F1 H1 hR1 s1 h1 vs r => mthOk hi hR1 hp0 r h1⟩
      · exact h.elim
    · exact h.elim
theorem ev_mth0 (i : Nat) (pa : PlainAttrs "list") (slot : Slot "list" name id) (hty : typeOf (.builtin id) = pure (.type "method_descriptor")) (hm : MtR X id (rM X.K C.ca g)) (hi : own.contains i = true := by rfl) (hN : X.N[i]? = some y := by rfl) (hv : Vis X.env.scope y := by first | exact Or.inl rfl | exact Or.inr (Or.inl rfl) | exact Or.inr (Or.inr rfl)) (hd : (y == ("__debug__" : Str)) = false := by decide)
    (hcd : (y == ("__classdict__" : Str)) = false := by decide) (hbase : attributeBase (.Name y q) name X.env (eval (.Name y q) X.env) = eval (.Name y q) X.env := by rfl) (hline : (apos.endLine == cpos.line) = true := by rfl) :
    PE X (.Call (.Attribute (.Name y q) name apos) [] [] cpos) (tE X.K C own (mthM i g aNil)) :=
  pe_imp (pe_bm0 pa slot hty hm (pv i hN hv hd hcd) hbase hline) fun σ H Q ⟨env, F0, hR, h⟩ => by
    have hi : i ∈ own := by simpa using hi
    unfold mthM at h
    split at h
    · rename_i d00 e0
      split at h
      · rename_i hl
        obtain ⟨p0, hp0, O0⟩ := hR.ow i d00 hi e0
        cases d00 <;> try cases hl
        obtain ⟨ws, a1, a2⟩ := O0.o
        exact ⟨_, hp0, .inl ⟨rfl, _, SqL.of a1⟩, mthOk hi hR hp0 .nil h⟩
      · exact h.elim
    · exact h.elim
/-- x[i] = v of a list of one's own -/
def setIx (xs : List D) (i : Int) (v : D) : R D := match ixN xs.length i with
  | some j => .ok (.lst (xs.set j v))
  | none => .no
def setS (i : Nat) (fv fi : EF) : SF := fun env => (fv env).toS fun p => match p.2[i]? with
  | some (some _) => (fi p.2).toS fun q => match q.2[i]?, q.1 with
    | some (some (.lst xs)), .int k => (setIx xs k p.1).toS fun d => .nx (q.2.set i (some d))
    | _, _ => .no
  | _ => .no
theorem sv_set {ol : List Nat} {a b : Expr} {fv fi : EF} {pos tpos : Pos} (i : Nat) (ha : PE X a (tE X.K C own fv)) (hb : PE X b (tE X.K C own fi)) (hi : own.contains i = true := by rfl) (hN : X.N[i]? = some y := by rfl) (hv : Vis X.env.scope y := by first | exact Or.inl rfl | exact Or.inr (Or.inl rfl) | exact Or.inr (Or.inr rfl)) (hd : (y == ("__debug__" : Str)) = false := by decide)
    (hcd : (y == ("__classdict__" : Str)) = false := by decide) (hs : swapsWithSole [.Subscript (.Name y q) b tpos] a pos.line X.env = pure false := by rfl) (hw : swappedStores [.Subscript (.Name y q) b tpos] a X.env = pure none := by rfl)
    (h1 : (assignEach [.Subscript (.Name y q) b tpos] X.env).map (·.2) = [assign (.Subscript (.Name y q) b tpos) X.env] := by rfl)
    (hsub : ∀ v, assign (.Subscript (.Name y q) b tpos) X.env v = (do
      let ov ← holding [v] (eval (.Name y q) X.env)
      let iv ← holding [v, ov] (eval b X.env)
      standAt tpos
      holding [v, ov, iv] (setItem ov iv v)
      release [v, ov, iv] []) := by intro _; rfl) :
    PS X (.Assign [.Subscript (.Name y q) b tpos] a pos) (tS X.K C own own ol (setS i fv fi)) :=
  ps_imp (ps_asg ha (pg_sub (pv i hN hv hd hcd) hb set_list hsub) hs hw h1) fun Dn σ H ⟨env, F, hR, h⟩ => by
    have hi : i ∈ own := by simpa using hi
    refine ⟨env, F, hR, (Sst.bind (show Sst X.K C own ol ((fv env).toS fun p => _) F Dn from h)).imp fun d e1 F1 H1 hR1 s1 h1 v r => ?_⟩
    dsimp only at h1
    split at h1
    · rename_i d00 e0
      obtain ⟨p0, hp0, O0⟩ := hR1.ow i d00 hi e0
      refine ⟨_, hp0, e1, F1, hR1, (Sst.bind h1).imp fun kd e2 F2 H2 hR2 s2 h2 iv ri => ?_⟩
      dsimp only at h2
      cases e3 : e2[i]? with
      | none => rw [e3] at h2; exact h2.elim
      | some od =>
        cases od with
        | none => rw [e3] at h2; exact h2.elim
        | some d0 =>
          rw [e3] at h2
          cases d0 <;> try exact h2.elim
          rename_i xs
          cases ri <;> try exact h2.elim
          rename_i k
          obtain ⟨p1, hp1, O⟩ := hR2.ow i _ hi e3
          rw [hp0] at hp1
          cases hp1
          obtain ⟨ws, a1, a2⟩ := O.o
          dsimp only at h2
          unfold setIx at h2
          cases ei : ixN xs.length k with
          | none => rw [ei] at h2; exact h2.elim
          | some j =>
            rw [ei] at h2
            exact ⟨p0, ws, k, j, rfl, rfl, a1, by rw [← a2.length]; exact ei, h2 σ F2 _ (hR2.chg hi e3 hp0 ⟨_, upd_same, Reps.set (r.mono s2) j a2⟩) (Same.refl _)⟩
    · exact h1.elim
end
end Dl

namespace Dl
open PySem PySem.Spec PyProof.Rows L2

/-! ### operators on data -/
def addD : D → D → R D
  | .int i, .int j => .ok (.int (i + j))
  | .str a, .str b => if a.length + b.length ≤ sizeLine then .ok (.str (a ++ b)) else .no
  | .tup xs, .tup ys => if xs.length + ys.length ≤ sizeLine then .ok (.tup (xs ++ ys)) else .no
  | .lst xs, .lst ys => if xs.length + ys.length ≤ sizeLine then .ok (.lst (xs ++ ys)) else .no
  | _, _ => .no
def intD (g : Int → Int → R Int) : D → D → R D
  | .int i, .int j => (g i j).bind fun k => .ok (.int k)
  | _, _ => .no
def subI (i j : Int) : R Int := .ok (i - j)
def mulI (i j : Int) : R Int := if i.natAbs < 2 ^ 64 ∨ j.natAbs < 2 ^ 64 then .ok (i * j) else if i.natAbs.log2 + j.natAbs.log2 < 1000000 then .ok (i * j) else .no
def fdivI (i j : Int) : R Int := if 0 < j ∧ j.toNat < 1073741824 then .ok (i / j) else .no
def modI (i j : Int) : R Int := if 0 < j then .ok (i % j) else .no
def powI (i j : Int) : R Int := if 0 ≤ j ∧ j.toNat ≤ 1000000 ∧ i.natAbs < 2 ^ 64 then .ok (i ^ j.toNat) else .no
def cmpI (p : Int → Int → Bool) : D → D → R D
  | .int i, .int j => .ok (.bl (p i j))
  | _, _ => .no
def ltD : D → D → R D
  | .int i, .int j => .ok (.bl (decide (i < j)))
  | .str a, .str b => .ok (.bl (decide (a.cps.toList < b.cps.toList)))
  | _, _ => .no
def leD : D → D → R D
  | .int i, .int j => .ok (.bl (decide (i ≤ j)))
  | .str a, .str b => .ok (.bl (!decide (b.cps.toList < a.cps.toList)))
  | _, _ => .no
def gtD : D → D → R D
  | .int i, .int j => .ok (.bl (decide (j < i)))
  | .str a, .str b => .ok (.bl (decide (b.cps.toList < a.cps.toList)))
  | _, _ => .no
def geD : D → D → R D
  | .int i, .int j => .ok (.bl (decide (j ≤ i)))
  | .str a, .str b => .ok (.bl (!decide (a.cps.toList < b.cps.toList)))
  | _, _ => .no
mutual
def pyD : D → Option PyData
  | .non => some .none
  | .bl b => some (.bool b)
  | .int i => some (.int i)
  | .str z => some (.str z)
  | .tup xs => (pyDs xs).map .tuple
  | .lst xs => (pyDs xs).map .list
  | .fro xs => (pyDs xs).map .list
  | _ => none
def pyDs : List D → Option (List PyData)
  | [] => some []
  | x :: xs => match pyD x, pyDs xs with
    | some d, some ds => some (d :: ds)
    | _, _ => none
end
def shpD (d : D) : Option PyData := match pyD d with
  | some e => if SeqAt.shaped e = true then some e else none
  | none => none
def eqDp (a b : D) : R D := match shpD a, shpD b with
  | some x, some y => .ok (.bl (PyData.eqv x y))
  | _, _ => .no
def neDp (a b : D) : R D := match shpD a, shpD b with
  | some x, some y => .ok (.bl (!PyData.eqv x y))
  | _, _ => .no
def eqD : D → D → R D
  | .str a, .str b => .ok (.bl (a == b))
  | a, b => eqDp a b
def neD : D → D → R D
  | .str a, .str b => .ok (.bl (!(a == b)))
  | a, b => neDp a b
def isD : D → D → R D
  | .non, .non => .ok (.bl true)
  | _, .non => .ok (.bl false)
  | .bl a, .bl b => .ok (.bl (decide (a = b)))
  | _, _ => .no
def isnD : D → D → R D
  | .non, .non => .ok (.bl false)
  | _, .non => .ok (.bl true)
  | .bl a, .bl b => .ok (.bl (!decide (a = b)))
  | _, _ => .no
def flatD : D → Bool
  | .non => true
  | .bl _ => true
  | .int _ => true
  | .str _ => true
  | _ => false
def eqF : D → D → Bool
  | .non, .non => true
  | .bl a, .bl b => a == b
  | .bl a, .int b => (if a then 1 else 0) == b
  | .int a, .bl b => a == (if b then 1 else 0)
  | .int a, .int b => a == b
  | .str a, .str b => a == b
  | _, _ => false
def hasD (x : D) (xs : List D) : Bool := xs.any fun y => eqF y x
def inD (neg : Bool) : D → D → R D
  | x, .lst xs => if flatD x = true ∧ xs.all flatD = true then .ok (.bl (if neg then !hasD x xs else hasD x xs)) else
      match shpD x, shpD (.lst xs) with
      | some d, some (.list ds) => .ok (.bl (if neg then !ds.any (fun z => PyData.eqv z d) else ds.any (fun z => PyData.eqv z d)))
      | _, _ => .no
  | x, .tup xs => if flatD x = true ∧ xs.all flatD = true then .ok (.bl (if neg then !hasD x xs else hasD x xs)) else .no
  | _, _ => .no
def ixD : D → D → R D
  | .lst xs, .int i => .ofOpt (atI xs i)
  | .fro xs, .int i => .ofOpt (atI xs i)
  | .tup xs, .int i => .ofOpt (atI xs i)
  | .str z, .int i => if z.length ≤ sizeLine then (R.ofOpt (atI z.cps.toList i)).bind fun c => .ok (.str ⟨#[c]⟩) else .no
  | _, _ => .no
def negD : D → R D
  | .int i => .ok (.int (-i))
  | _ => .no
def lenD : List D → R D
  | [.lst xs] => .ok (.int xs.length)
  | [.fro xs] => .ok (.int xs.length)
  | [.tup xs] => .ok (.int xs.length)
  | [.str z] => if z.length ≤ sizeLine then .ok (.int z.length) else .no
  | _ => .no
def intC : List D → R D
  | [.int i] => .ok (.int i)
  | [.bl k] => .ok (.int (if k then 1 else 0))
  | _ => .no
def absD : List D → R D
  | [.int i] => .ok (.int (if i < 0 then -i else i))
  | _ => .no
def max2D : List D → R D
  | [.int i, .int j] => .ok (.int (if j > i then j else i))
  | _ => .no
def min2D : List D → R D
  | [.int i, .int j] => .ok (.int (if j < i then j else i))
  | _ => .no
def strI : List D → R D
  | [.int i] => if i.natAbs.log2 < 1920 then .ok (.str (toString i)) else .no
  | _ => .no
def tupC : List D → R D
  | [.lst xs] => .ok (.tup xs)
  | [.fro xs] => .ok (.tup xs)
  | [.tup xs] => .ok (.tup xs)
  | _ => .no
def lstC : List D → R D
  | [.lst xs] => .ok (.lst xs)
  | [.fro xs] => .ok (.lst xs)
  | [.tup xs] => .ok (.lst xs)
  | _ => .no
def blsD : List D → Option (List Bool)
  | [] => some []
  | .bl b :: r => (blsD r).map (b :: ·)
  | _ => none
def allD : List D → R D
  | [.lst xs] => (R.ofOpt (blsD xs)).bind fun bs => .ok (.bl (bs.all id))
  | _ => .no
def anyD : List D → R D
  | [.lst xs] => (R.ofOpt (blsD xs)).bind fun bs => .ok (.bl (bs.any id))
  | _ => .no
def intsD : List D → Option (List Int)
  | [] => some []
  | .int b :: r => (intsD r).map (b :: ·)
  | _ => none
def sumD : List D → R D
  | [.lst xs] => (R.ofOpt (intsD xs)).bind fun bs => .ok (.int bs.sum)
  | _ => .no
def insI (x : Int) : List Int → List Int
  | [] => [x]
  | y :: r => if x ≤ y then x :: y :: r else y :: insI x r
def sortI : List Int → List Int
  | [] => []
  | x :: r => insI x (sortI r)
def sortD : List D → R D
  | [.lst xs] => (R.ofOpt (intsD xs)).bind fun bs => .ok (.lst ((sortI bs).map .int))
  | _ => .no
def typeD : List D → R D
  | [.ins c _] => .ok (.cod c)
  | [.int _] => .ok (.ty "int")
  | [.str _] => .ok (.ty "str")
  | [.bl _] => .ok (.ty "bool")
  | [.non] => .ok (.ty "NoneType")
  | [.lst _] => .ok (.ty "list")
  | [.fro _] => .ok (.ty "list")
  | [.tup _] => .ok (.ty "tuple")
  | _ => .no
def clsIsD : D → D → R D
  | .cod a, .cod b => .ok (.bl (decide (a = b)))
  | .ty _, .cod _ => .ok (.bl false)
  | _, _ => .no
def clsIsnD : D → D → R D
  | .cod a, .cod b => .ok (.bl (!decide (a = b)))
  | .ty _, .cod _ => .ok (.bl true)
  | _, _ => .no
def tagD : D → Option D
  | .non => some (.ty "NoneType")
  | .bl _ => some (.ty "bool")
  | .int _ => some (.ty "int")
  | .str _ => some (.ty "str")
  | .lst _ => some (.ty "list")
  | .tup _ => some (.ty "tuple")
  | .ins c _ => some (.cod c)
  | .dct _ => some (.ty "dict")
  | _ => none
def clsD : D → Bool
  | .ty _ => true
  | .cod _ => true
  | _ => false
def kindD (tab : D → D → Option Bool) (t : D) : List D → Option Bool
  | [] => some false
  | c :: r => match tab t c with
    | some true => if r.all clsD = true then some true else none
    | some false => kindD tab t r
    | none => none
def isiD (tab : D → D → Option Bool) : List D → R D
  | [x, c] => match tagD x with
    | some t => (R.ofOpt (tab t c)).bind fun b => .ok (.bl b)
    | none => .no
  | _ => .no
/-- isinstance(x, (c1, c2, ..)) -/
def isiTD (tab : D → D → Option Bool) (cs : List D) (x : D) : R D := match tagD x with
    | some t => (R.ofOpt (kindD tab t cs)).bind fun b => .ok (.bl b)
    | none => .no
def tyVal (ca : CA) : D → Option Value
  | .ty n => some (.type n)
  | .cod k => some (.ref (ca k))
  | _ => none
/-- what tab tells is so -/
def TabOk (K : PySem.W.Frag) (ca : CA) (tab : D → D → Option Bool) : Prop := ∀ t c b, tab t c = some b → (∀ k, t = .cod k → ca.ok k = true) → (∀ k, c = .cod k → ca.ok k = true) → ∃ u v, tyVal ca t = some u ∧ tyVal ca c = some v ∧ PySem.W.kitOne K u v = some b
structure ClsI (K : PySem.W.Frag) (C : Addr) : Prop where
  cl : Cls K C
  ha : PySem.W.findIn K (.ref C) "__class__" = some (some (.builtin "object.__class__"))
  hn : PySem.W.specialIn K (.builtin "object.__class__") "__get__" = some (some (.builtin "getset_descriptor.__get__"))
  ht : PySem.W.takesIn K (.builtin "object.__class__") = some true
  hm : PySem.W.mroIn K C (.type "object") = some true
  ml : PySem.W.makesIn K C = true

section
variable {X : Cx} {ca : CA}
theorem ofOpt_ne {α : Type} {o : Option α} {c : Nat} {fs : List (Str × D)} : R.ofOpt o ≠ .ex c fs := fun z => by cases o <;> cases z
theorem ofOpt_eq {α : Type} {o : Option α} {a : α} (h : R.ofOpt o = .ok a) : o = some a := by
  cases o with
  | none => cases h
  | some b => cases h; rfl
theorem bind_ne {α β : Type} {r : R α} {f : α → R β} {c : Nat} {fs : List (Str × D)} (h : r ≠ .ex c fs) (h2 : ∀ a, f a ≠ .ex c fs) : r.bind f ≠ .ex c fs := fun z => by
  cases r with
  | ok a => exact h2 a z
  | ex c' fs' => cases z; exact h rfl
  | no => cases z
theorem addD_ne : ∀ x y c fs, addD x y ≠ .ex c fs := fun x y c fs z => by
  unfold addD at z
  split at z <;> (first | cases z | (split at z <;> cases z))
theorem oo_add : OpR X (binaryOp .Add) (r2 X.K ca addD) := fun pins s σ H x y v u Q I rx ry ⟨F, a, b, d, sub, ra, rb, hg, q⟩ => by
  unfold addD at hg
  split at hg
  · cases hg; cases ra; cases rb
    exact op_add pins s σ H _ _ v u Q I rx ry ⟨_, _, rfl, rfl, q _ F H (.refl sub) (.int _)⟩
  · split at hg
    · rename_i hl
      cases hg; cases ra; cases rb
      exact op_add_str pins s σ H _ _ v u Q I rx ry ⟨_, _, rfl, rfl, hl, q _ F H (.refl sub) (.str _)⟩
    · cases hg
  · split at hg
    · rename_i hl
      cases hg
      cases ra with
      | tup ha rs =>
        cases rb with
        | tup hb rs' =>
          refine op_catA pins s σ H _ _ v u Q I rx ry ⟨_, _, _, _, rfl, rfl, Same.seqT sub ha, Same.seqT sub hb, by rw [← rs.length, ← rs'.length]; exact hl, fun e => ?_, fun e1 e2 => ?_, fun e1 e2 p hp => ?_⟩
          · subst e
            cases rs
            exact q _ F H (.refl sub) (.tup hb rs')
          · subst e2
            cases rs'
            rw [List.append_nil] at q
            exact q _ F H (.refl sub) (.tup ha rs)
          · exact q _ _ _ (Stp.new sub hp) (.tup (.of upd_same) ((rs.append rs').mono (same_upd (sub.free hp))))
    · cases hg
  · split at hg
    · rename_i hl
      cases hg
      cases ra with
      | lst ha rs =>
        cases rb with
        | lst hb rs' =>
          refine op_cat pins s σ H _ _ v u Q I rx ry ⟨_, _, _, _, rfl, rfl, sub _ _ ha, sub _ _ hb, by rw [← rs.length, ← rs'.length]; exact hl, fun p hp => ?_⟩
          exact q _ _ _ (Stp.new sub hp) (.lst upd_same ((rs.append rs').mono (same_upd (sub.free hp))))
    · cases hg
  · cases hg
theorem intD_ne {g : Int → Int → R Int} (h : ∀ i j c fs, g i j ≠ .ex c fs) : ∀ x y c fs, intD g x y ≠ .ex c fs := fun x y c fs z => by
  unfold intD at z
  split at z
  · exact bind_ne (h _ _ _ _) (fun a z => by cases z) z
  · cases z
theorem oo_int {op : Operator} {g : Int → Int → R Int} (h : ∀ (i j k : Int), g i j = .ok k → ∀ pins s σ H (v u : Value) (Q : VK), Inv X pins σ H s → RelV (.int i) v → RelV (.int j) u → Q (.int k) H → wpAny (model X.prog X.w) X.A (binaryOp op v u) (EP X pins σ Q) X.xe s) :
    OpR X (binaryOp op) (r2 X.K ca (intD g)) := fun pins s σ H x y v u Q I rx ry ⟨F, a, b, d, sub, ra, rb, hg, q⟩ => by
  unfold intD at hg
  split at hg
  · rename_i i j
    cases ra; cases rb
    cases e : g i j with
    | ok k =>
      rw [e] at hg
      cases hg
      exact h i j k e pins s σ H v u Q I rx ry (q _ F H (.refl sub) (.int _))
    | ex c fs => rw [e] at hg; cases hg
    | no => rw [e] at hg; cases hg
  · cases hg
theorem subI_ne : ∀ i j c fs, subI i j ≠ .ex c fs := fun _ _ _ _ z => by cases z
theorem mulI_ne : ∀ i j c fs, mulI i j ≠ .ex c fs := fun _ _ _ _ z => by
  unfold mulI at z
  split at z
  · cases z
  · split at z <;> cases z
theorem fdivI_ne : ∀ i j c fs, fdivI i j ≠ .ex c fs := fun _ _ _ _ z => by
  unfold fdivI at z
  split at z <;> cases z
theorem modI_ne : ∀ i j c fs, modI i j ≠ .ex c fs := fun _ _ _ _ z => by
  unfold modI at z
  split at z <;> cases z
theorem powI_ne : ∀ i j c fs, powI i j ≠ .ex c fs := fun _ _ _ _ z => by
  unfold powI at z
  split at z <;> cases z
theorem oo_sub : OpR X (binaryOp .Sub) (r2 X.K ca (intD subI)) := oo_int fun i j k e pins s σ H v u Q I rx ry q => by
  cases e
  exact op_sub pins s σ H _ _ v u Q I rx ry ⟨_, _, rfl, rfl, q⟩
theorem oo_mul : OpR X (binaryOp .Mult) (r2 X.K ca (intD mulI)) := oo_int fun i j k e pins s σ H v u Q I rx ry q => by
  unfold mulI at e
  split at e
  · rename_i h
    cases e
    refine op_mul pins s σ H _ _ v u Q I rx ry ⟨_, _, rfl, rfl, ?_, q⟩
    rcases h with h | h
    · exact .inl ⟨by omega, by omega⟩
    · exact .inr ⟨by omega, by omega⟩
  · split at e
    · rename_i h
      cases e
      exact op_mulW pins s σ H _ _ v u Q I rx ry ⟨_, _, rfl, rfl, h, q⟩
    · cases e
theorem oo_fdiv : OpR X (binaryOp .FloorDiv) (r2 X.K ca (intD fdivI)) := oo_int fun i j k e pins s σ H v u Q I rx ry q => by
  unfold fdivI at e
  split at e
  · rename_i h
    cases e
    exact op_fdiv pins s σ H _ _ v u Q I rx ry ⟨_, _, rfl, rfl, ⟨h.1, by omega⟩, q⟩
  · cases e
theorem oo_mod : OpR X (binaryOp .Mod) (r2 X.K ca (intD modI)) := oo_int fun i j k e pins s σ H v u Q I rx ry q => by
  unfold modI at e
  split at e
  · rename_i h
    cases e
    exact op_mod pins s σ H _ _ v u Q I rx ry ⟨_, _, rfl, rfl, h, q⟩
  · cases e
theorem oo_pow : OpR X (binaryOp .Pow) (r2 X.K ca (intD powI)) := oo_int fun i j k e pins s σ H v u Q I rx ry q => by
  unfold powI at e
  split at e
  · rename_i h
    cases e
    exact op_pow pins s σ H _ _ v u Q I rx ry ⟨_, _, rfl, rfl, ⟨h.1, by omega, h.2.2⟩, q⟩
  · cases e
theorem ltD_ne : ∀ x y c fs, ltD x y ≠ .ex c fs := fun x y c fs z => by unfold ltD at z; split at z <;> cases z
theorem leD_ne : ∀ x y c fs, leD x y ≠ .ex c fs := fun x y c fs z => by unfold leD at z; split at z <;> cases z
theorem gtD_ne : ∀ x y c fs, gtD x y ≠ .ex c fs := fun x y c fs z => by unfold gtD at z; split at z <;> cases z
theorem geD_ne : ∀ x y c fs, geD x y ≠ .ex c fs := fun x y c fs z => by unfold geD at z; split at z <;> cases z
theorem oo_lt : OpR X (compareOp .Lt) (r2 X.K ca ltD) := fun pins s σ H x y v u Q I rx ry ⟨F, a, b, d, sub, ra, rb, hg, q⟩ => by
  unfold ltD at hg
  split at hg
  · cases hg; cases ra; cases rb
    exact op_lt pins s σ H _ _ v u Q I rx ry ⟨_, _, rfl, rfl, q _ F H (.refl sub) (.bl _)⟩
  · cases hg; cases ra; cases rb
    exact op_lt_str pins s σ H _ _ v u Q I rx ry ⟨_, _, rfl, rfl, q _ F H (.refl sub) (.bl _)⟩
  · cases hg
theorem oo_le : OpR X (compareOp .LtE) (r2 X.K ca leD) := fun pins s σ H x y v u Q I rx ry ⟨F, a, b, d, sub, ra, rb, hg, q⟩ => by
  unfold leD at hg
  split at hg
  · cases hg; cases ra; cases rb
    exact op_le pins s σ H _ _ v u Q I rx ry ⟨_, _, rfl, rfl, q _ F H (.refl sub) (.bl _)⟩
  · cases hg; cases ra; cases rb
    exact op_le_str pins s σ H _ _ v u Q I rx ry ⟨_, _, rfl, rfl, q _ F H (.refl sub) (.bl _)⟩
  · cases hg
theorem oo_gt : OpR X (compareOp .Gt) (r2 X.K ca gtD) := fun pins s σ H x y v u Q I rx ry ⟨F, a, b, d, sub, ra, rb, hg, q⟩ => by
  unfold gtD at hg
  split at hg
  · cases hg; cases ra; cases rb
    exact op_gt pins s σ H _ _ v u Q I rx ry ⟨_, _, rfl, rfl, q _ F H (.refl sub) (.bl _)⟩
  · cases hg; cases ra; cases rb
    exact op_gt_str pins s σ H _ _ v u Q I rx ry ⟨_, _, rfl, rfl, q _ F H (.refl sub) (.bl _)⟩
  · cases hg
theorem oo_ge : OpR X (compareOp .GtE) (r2 X.K ca geD) := fun pins s σ H x y v u Q I rx ry ⟨F, a, b, d, sub, ra, rb, hg, q⟩ => by
  unfold geD at hg
  split at hg
  · cases hg; cases ra; cases rb
    exact op_ge pins s σ H _ _ v u Q I rx ry ⟨_, _, rfl, rfl, q _ F H (.refl sub) (.bl _)⟩
  · cases hg; cases ra; cases rb
    exact op_ge_str pins s σ H _ _ v u Q I rx ry ⟨_, _, rfl, rfl, q _ F H (.refl sub) (.bl _)⟩
  · cases hg
mutual
theorem pyD_dp {K : PySem.W.Frag} {F H : Hp} (s : Same F H) : ∀ {d : D} {v : V} {e : PyData}, Rep K ca F d v → pyD d = some e → Dp K H v e
  | _, _, _, .non, h => by cases h; exact .non
  | _, _, _, .bl b, h => by cases h; exact .bl b
  | _, _, _, .int i, h => by cases h; exact .int i
  | _, _, _, .str z, h => by cases h; exact .str z
  | _, _, _, .tup (xs := xs) hp r, h => by
    unfold pyD at h
    cases e : pyDs xs with
    | none => rw [e] at h; cases h
    | some ds => rw [e] at h; cases h; exact .tup (Same.seqT s hp) (pyDs_dp s r e)
  | _, _, _, .lst (xs := xs) hp r, h => by
    unfold pyD at h
    cases e : pyDs xs with
    | none => rw [e] at h; cases h
    | some ds => rw [e] at h; cases h; exact .lst (.of (s _ _ hp)) (pyDs_dp s r e)
  | _, _, _, .fro (xs := xs) hp r, h => by
    unfold pyD at h
    cases e : pyDs xs with
    | none => rw [e] at h; cases h
    | some ds => rw [e] at h; cases h; exact .lst (s.seq hp) (pyDs_dp s r e)
  | _, _, _, .ins _ _ _, h => by cases h
  | _, _, _, .cod _ _, h => by cases h
  | _, _, _, .ty _, h => by cases h
  | _, _, _, .fn _, h => by cases h
  | _, _, _, .dK _ _ _, h => by cases h
  | _, _, _, .dT _ _ _, h => by cases h
  | _, _, _, .setK _ _ _ _, h => by cases h
theorem pyDs_dp {K : PySem.W.Frag} {F H : Hp} (s : Same F H) : ∀ {d : List D} {v : List V} {e : List PyData}, Reps K ca F d v → pyDs d = some e → DpAll K H v e
  | _, _, _, .nil, h => by cases h; exact .nil
  | _, _, _, .cons (d := d) (ds := ds) r rs, h => by
    unfold pyDs at h
    cases e1 : pyD d with
    | none => rw [e1] at h; cases h
    | some x =>
      cases e2 : pyDs ds with
      | none => rw [e1, e2] at h; cases h
      | some xs =>
        rw [e1, e2] at h
        cases h
        exact .cons (pyD_dp s r e1) (pyDs_dp s rs e2)
end
theorem shpD_eq {d : D} {e : PyData} (h : shpD d = some e) : pyD d = some e ∧ SeqAt.shaped e = true := by
  unfold shpD at h
  cases q : pyD d with
  | none => rw [q] at h; cases h
  | some x =>
    rw [q] at h
    dsimp only at h
    split at h
    · rename_i hs
      cases h
      exact ⟨rfl, hs⟩
    · cases h
theorem eqDp_ne : ∀ x y c fs, eqDp x y ≠ .ex c fs := fun x y c fs z => by unfold eqDp at z; split at z <;> cases z
theorem neDp_ne : ∀ x y c fs, neDp x y ≠ .ex c fs := fun x y c fs z => by unfold neDp at z; split at z <;> cases z
theorem eqD_ne : ∀ x y c fs, eqD x y ≠ .ex c fs := fun x y c fs z => by
  unfold eqD at z
  split at z
  · cases z
  · exact eqDp_ne _ _ _ _ z
theorem neD_ne : ∀ x y c fs, neD x y ≠ .ex c fs := fun x y c fs z => by
  unfold neD at z
  split at z
  · cases z
  · exact neDp_ne _ _ _ _ z
theorem dec_strV {a b : Str} : decide (V.str a = V.str b) = (a == b) := by
  rw [Bool.eq_iff_iff]
  simp
theorem oo_eqp (hu : X.A.units + 64 < cLine) : OpR X (compareOp .Eq) (r2 X.K ca eqDp) := fun pins s σ H x y v u Q I rx ry ⟨F, a, b, d, sub, ra, rb, hg, q⟩ => by
  unfold eqDp at hg
  split at hg
  · rename_i p1 p2 e1 e2
    cases hg
    obtain ⟨a1, a2⟩ := shpD_eq e1
    obtain ⟨b1, b2⟩ := shpD_eq e2
    exact op_eqD hu pins s σ H _ _ v u Q I rx ry ⟨_, _, pyD_dp sub ra a1, pyD_dp sub rb b1, a2, b2, q _ F H (.refl sub) (.bl _)⟩
  · cases hg
theorem oo_nep (hu : X.A.units + 64 < cLine) : OpR X (compareOp .NotEq) (r2 X.K ca neDp) := fun pins s σ H x y v u Q I rx ry ⟨F, a, b, d, sub, ra, rb, hg, q⟩ => by
  unfold neDp at hg
  split at hg
  · rename_i p1 p2 e1 e2
    cases hg
    obtain ⟨a1, a2⟩ := shpD_eq e1
    obtain ⟨b1, b2⟩ := shpD_eq e2
    exact op_neD hu pins s σ H _ _ v u Q I rx ry ⟨_, _, pyD_dp sub ra a1, pyD_dp sub rb b1, a2, b2, q _ F H (.refl sub) (.bl _)⟩
  · cases hg
theorem oo_eq (hu : X.A.units + 64 < cLine) : OpR X (compareOp .Eq) (r2 X.K ca eqD) := fun pins s σ H x y v u Q I rx ry ⟨F, a, b, d, sub, ra, rb, hg, q⟩ => by
  unfold eqD at hg
  split at hg
  · cases hg
    cases ra
    cases rb
    exact op_eq pins s σ H _ _ v u Q I rx ry ⟨rfl, by rw [dec_strV]; exact q _ F H (.refl sub) (.bl _)⟩
  · exact oo_eqp hu pins s σ H x y v u Q I rx ry ⟨F, a, b, d, sub, ra, rb, hg, q⟩
theorem oo_ne (hu : X.A.units + 64 < cLine) : OpR X (compareOp .NotEq) (r2 X.K ca neD) := fun pins s σ H x y v u Q I rx ry ⟨F, a, b, d, sub, ra, rb, hg, q⟩ => by
  unfold neD at hg
  split at hg
  · cases hg
    cases ra
    cases rb
    exact op_ne pins s σ H _ _ v u Q I rx ry ⟨rfl, by rw [dec_strV]; exact q _ F H (.refl sub) (.bl _)⟩
  · exact oo_nep hu pins s σ H x y v u Q I rx ry ⟨F, a, b, d, sub, ra, rb, hg, q⟩
theorem isD_ne : ∀ x y c fs, isD x y ≠ .ex c fs := fun x y c fs z => by unfold isD at z; split at z <;> cases z
theorem isnD_ne : ∀ x y c fs, isnD x y ≠ .ex c fs := fun x y c fs z => by unfold isnD at z; split at z <;> cases z
theorem rep_non {K : PySem.W.Frag} {F : Hp} {d : D} {v : V} (r : Rep K ca F d v) (h : d ≠ .non) : v ≠ .non := by
  cases r <;> first | exact absurd rfl h | (intro z; cases z)
theorem oo_is : OpR X (compareOp .Is) (r2 X.K ca isD) := fun pins s σ H x y v u Q I rx ry ⟨F, a, b, d, sub, ra, rb, hg, q⟩ => by
  unfold isD at hg
  split at hg
  · cases hg; cases ra; cases rb
    exact op_isN pins s σ H _ _ v u Q I rx ry ⟨rfl, q _ F H (.refl sub) (.bl _)⟩
  · rename_i hne
    cases hg
    have hx := rep_non ra hne
    cases rb
    refine op_isN pins s σ H _ _ v u Q I rx ry ⟨rfl, ?_⟩
    rw [decide_eq_false hx]
    exact q _ F H (.refl sub) (.bl _)
  · cases hg; cases ra; cases rb
    exact op_is_bl pins s σ H _ _ v u Q I rx ry ⟨_, _, rfl, rfl, q _ F H (.refl sub) (.bl _)⟩
  · cases hg
theorem oo_isn : OpR X (compareOp .IsNot) (r2 X.K ca isnD) := fun pins s σ H x y v u Q I rx ry ⟨F, a, b, d, sub, ra, rb, hg, q⟩ => by
  unfold isnD at hg
  split at hg
  · cases hg; cases ra; cases rb
    exact op_notN pins s σ H _ _ v u Q I rx ry ⟨rfl, q _ F H (.refl sub) (.bl _)⟩
  · rename_i hne
    cases hg
    have hx := rep_non ra hne
    cases rb
    refine op_notN pins s σ H _ _ v u Q I rx ry ⟨rfl, ?_⟩
    rw [decide_eq_false hx]
    exact q _ F H (.refl sub) (.bl _)
  · cases hg; cases ra; cases rb
    exact op_isnot_bl pins s σ H _ _ v u Q I rx ry ⟨_, _, rfl, rfl, q _ F H (.refl sub) (.bl _)⟩
  · cases hg
end
end Dl

namespace Dl
open PySem PySem.Spec PyProof.Rows L2
section
variable {X : Cx} {ca : CA} {K : PySem.W.Frag} {F H : Hp}
theorem flat_rep {d : D} {v : V} (r : Rep K ca F d v) (h : flatD d = true) : flatV v = true := by
  cases r <;> first | rfl | cases h
theorem eqF_rep {a b : D} {v w : V} (r : Rep K ca F a v) (q : Rep K ca F b w) (h1 : flatD a = true) (h2 : flatD b = true) : eqV v w = eqF a b := by
  cases r <;> first | (cases q <;> first | rfl | cases h2) | cases h1
theorem all_flat : ∀ {xs : List D} {vs : List V}, Reps K ca F xs vs → xs.all flatD = true → vs.all flatV = true
  | _, _, .nil, _ => rfl
  | _, _, .cons r rs, h => by
    rw [List.all_cons, Bool.and_eq_true] at h ⊢
    exact ⟨flat_rep r h.1, all_flat rs h.2⟩
theorem has_rep {x : D} {v : V} (r : Rep K ca F x v) (hx : flatD x = true) : ∀ {xs : List D} {vs : List V}, Reps K ca F xs vs → xs.all flatD = true → inV v vs = hasD x xs
  | _, _, .nil, _ => rfl
  | _, _, .cons q qs, h => by
    rw [List.all_cons, Bool.and_eq_true] at h
    unfold inV hasD
    rw [List.any_cons, List.any_cons, eqF_rep q r h.1 hx]
    exact congrArg _ (has_rep r hx qs h.2)
theorem inD_ne {neg : Bool} : ∀ x y c fs, inD neg x y ≠ .ex c fs := fun x y c fs z => by
  unfold inD at z
  split at z
  · split at z
    · cases z
    · split at z <;> cases z
  · split at z <;> cases z
  · cases z
theorem oo_in (hu : X.A.units + 65 < cLine) : OpR X (compareOp .In) (r2 X.K ca (inD false)) := fun pins s σ H x y v u Q I rx ry ⟨F, a, b, d, sub, ra, rb, hg, q⟩ => by
  unfold inD at hg
  split at hg
  · split at hg
    · rename_i hf
      cases hg
      cases rb with
      | lst hb rs =>
        refine op_in_seq pins s σ H _ _ v u Q I rx ry ⟨_, _, rfl, .inl (SqL.of (sub _ _ hb)), flat_rep ra hf.1, all_flat rs hf.2, ?_⟩
        rw [if_neg Bool.false_ne_true, has_rep ra hf.1 rs hf.2]
        exact q _ F H (.refl sub) (.bl _)
    · split at hg
      · rename_i e1 e2
        cases hg
        obtain ⟨a1, a2⟩ := shpD_eq e1
        obtain ⟨b1, b2⟩ := shpD_eq e2
        exact op_inD hu pins s σ H _ _ v u Q I rx ry ⟨_, _, pyD_dp sub ra a1, pyD_dp sub rb b1, a2, b2, q _ F H (.refl sub) (.bl _)⟩
      · cases hg
  · split at hg
    · rename_i hf
      cases hg
      cases rb with
      | tup hb rs =>
        refine op_in_seq pins s σ H _ _ v u Q I rx ry ⟨_, _, rfl, .inr (Same.seqT sub hb), flat_rep ra hf.1, all_flat rs hf.2, ?_⟩
        rw [if_neg Bool.false_ne_true, has_rep ra hf.1 rs hf.2]
        exact q _ F H (.refl sub) (.bl _)
    · cases hg
  · cases hg
theorem oo_nin (hu : X.A.units + 65 < cLine) : OpR X (compareOp .NotIn) (r2 X.K ca (inD true)) := fun pins s σ H x y v u Q I rx ry ⟨F, a, b, d, sub, ra, rb, hg, q⟩ => by
  unfold inD at hg
  split at hg
  · split at hg
    · rename_i hf
      cases hg
      cases rb with
      | lst hb rs =>
        refine op_notIn_seq pins s σ H _ _ v u Q I rx ry ⟨_, _, rfl, .inl (SqL.of (sub _ _ hb)), flat_rep ra hf.1, all_flat rs hf.2, ?_⟩
        rw [if_pos rfl, has_rep ra hf.1 rs hf.2]
        exact q _ F H (.refl sub) (.bl _)
    · split at hg
      · rename_i e1 e2
        cases hg
        obtain ⟨a1, a2⟩ := shpD_eq e1
        obtain ⟨b1, b2⟩ := shpD_eq e2
        exact op_notInD hu pins s σ H _ _ v u Q I rx ry ⟨_, _, pyD_dp sub ra a1, pyD_dp sub rb b1, a2, b2, q _ F H (.refl sub) (.bl _)⟩
      · cases hg
  · split at hg
    · rename_i hf
      cases hg
      cases rb with
      | tup hb rs =>
        refine op_notIn_seq pins s σ H _ _ v u Q I rx ry ⟨_, _, rfl, .inr (Same.seqT sub hb), flat_rep ra hf.1, all_flat rs hf.2, ?_⟩
        rw [if_pos rfl, has_rep ra hf.1 rs hf.2]
        exact q _ F H (.refl sub) (.bl _)
    · cases hg
  · cases hg
/-- x in y of two texts -/
def inStrD (neg : Bool) : D → D → R D
  | .str i, .str j => .ok (.bl (if neg then !(!(Builtin.Str.occurrences j i 0 j.length 1).isEmpty) else !(Builtin.Str.occurrences j i 0 j.length 1).isEmpty))
  | _, _ => .no
theorem atI_rep {xs : List D} {vs : List V} {i : Int} {d : D} (r : Reps K ca F xs vs) (h : atI xs i = some d) : ∃ v, atI vs i = some v ∧ Rep K ca F d v := by
  unfold atI at h ⊢
  rw [← r.length]
  cases e : ixN xs.length i with
  | none => rw [e] at h; cases h
  | some j =>
    rw [e] at h
    exact r.get h
theorem ixD_ne : ∀ x y c fs, ixD x y ≠ .ex c fs := fun x y c fs z => by
  unfold ixD at z
  split at z
  · exact ofOpt_ne z
  · exact ofOpt_ne z
  · exact ofOpt_ne z
  · split at z
    · exact bind_ne ofOpt_ne (fun a z => by cases z) z
    · cases z
  · cases z
theorem oo_ix : IxR X (r2 X.K ca ixD) := fun value slice pins s σ H x y v u Q I rx ry ⟨F, a, b, d, sub, ra, rb, hg, q⟩ hs => by
  unfold ixD at hg
  split at hg
  · have hg := ofOpt_eq hg
    cases rb
    cases ra with
    | lst ha rs =>
      obtain ⟨w, h1, h2⟩ := atI_rep rs hg
      exact ix_list value slice pins s σ H _ _ v u Q I rx ry ⟨_, _, _, _, rfl, rfl, SqL.of (sub _ _ ha), h1, q _ F H (.refl sub) h2⟩ hs
  · have hg := ofOpt_eq hg
    cases rb
    cases ra with
    | fro ha rs =>
      obtain ⟨w, h1, h2⟩ := atI_rep rs hg
      exact ix_list value slice pins s σ H _ _ v u Q I rx ry ⟨_, _, _, _, rfl, rfl, Same.seq sub ha, h1, q _ F H (.refl sub) h2⟩ hs
  · have hg := ofOpt_eq hg
    cases rb
    cases ra with
    | tup ha rs =>
      obtain ⟨w, h1, h2⟩ := atI_rep rs hg
      exact ix_tup value slice pins s σ H _ _ v u Q I rx ry ⟨_, _, _, _, rfl, rfl, Same.seqT sub ha, h1, q _ F H (.refl sub) h2⟩ hs
  · split at hg
    · rename_i hl
      cases ra; cases rb
      obtain ⟨c, hc, he⟩ := R.bind_eq_ok hg
      cases he
      exact ix_str value slice pins s σ H _ _ v u Q I rx ry ⟨_, _, _, rfl, rfl, hl, ofOpt_eq hc, q _ F H (.refl sub) (.str _)⟩ hs
    · cases hg
  · cases hg
theorem negD_ne : ∀ x c fs, negD x ≠ .ex c fs := fun x c fs z => by unfold negD at z; split at z <;> cases z
theorem oo_neg : UnR X (unaryOp .USub) (r1 X.K ca negD) := fun pins s σ H x v Q I rx ⟨F, a, d, sub, ra, hg, q⟩ => by
  unfold negD at hg
  split at hg
  · cases hg; cases ra
    exact un_neg pins s σ H _ v Q I rx ⟨_, rfl, q _ F H (.refl sub) (.int _)⟩
  · cases hg
/-! ### calls -/
theorem lenD_ne : ∀ x c fs, lenD x ≠ .ex c fs := fun x c fs z => by
  unfold lenD at z
  split at z <;> (first | cases z | (split at z <;> cases z))
theorem oc_len : CallR X (.builtin "len") (rN X.K ca lenD) := fun pins s σ H xs us Q I r ⟨F, ds, d, sub, rs, hg, q⟩ => by
  unfold lenD at hg
  split at hg
  · cases hg
    cases rs with
    | cons r1 rs =>
      cases rs
      cases r1 with
      | lst ha ra =>
        refine call_len_seq pins s σ H _ us Q I r ⟨_, _, rfl, .inl (SqL.of (sub _ _ ha)), ?_⟩
        rw [← ra.length]
        exact q _ F H (.refl sub) (.int _)
  · cases hg
    cases rs with
    | cons r1 rs =>
      cases rs
      cases r1 with
      | fro ha ra =>
        refine call_len_seq pins s σ H _ us Q I r ⟨_, _, rfl, .inl (Same.seq sub ha), ?_⟩
        rw [← ra.length]
        exact q _ F H (.refl sub) (.int _)
  · cases hg
    cases rs with
    | cons r1 rs =>
      cases rs
      cases r1 with
      | tup ha ra =>
        refine call_len_seq pins s σ H _ us Q I r ⟨_, _, rfl, .inr (Same.seqT sub ha), ?_⟩
        rw [← ra.length]
        exact q _ F H (.refl sub) (.int _)
  · split at hg
    · rename_i hl
      cases hg
      cases rs with
      | cons r1 rs =>
        cases rs
        cases r1
        exact call_len_str pins s σ H _ us Q I r ⟨_, rfl, hl, q _ F H (.refl sub) (.int _)⟩
    · cases hg
  · cases hg
theorem intC_ne : ∀ x c fs, intC x ≠ .ex c fs := fun x c fs z => by unfold intC at z; split at z <;> cases z
theorem oc_int : CallR X (.type "int") (rN X.K ca intC) := fun pins s σ H xs us Q I r ⟨F, ds, d, sub, rs, hg, q⟩ => by
  unfold intC at hg
  split at hg
  · cases hg
    cases rs with
    | cons r1 rs => cases rs; cases r1; exact call_int1 pins s σ H _ us Q I r (.inl ⟨_, rfl, q _ F H (.refl sub) (.int _)⟩)
  · cases hg
    cases rs with
    | cons r1 rs => cases rs; cases r1; exact call_int1 pins s σ H _ us Q I r (.inr ⟨_, rfl, q _ F H (.refl sub) (.int _)⟩)
  · cases hg
theorem absD_ne : ∀ x c fs, absD x ≠ .ex c fs := fun x c fs z => by unfold absD at z; split at z <;> cases z
theorem oc_abs : CallR X (.builtin "abs") (rN X.K ca absD) := fun pins s σ H xs us Q I r ⟨F, ds, d, sub, rs, hg, q⟩ => by
  unfold absD at hg
  split at hg
  · cases hg
    cases rs with
    | cons r1 rs => cases rs; cases r1; exact call_abs pins s σ H _ us Q I r ⟨_, rfl, q _ F H (.refl sub) (.int _)⟩
  · cases hg
theorem max2D_ne : ∀ x c fs, max2D x ≠ .ex c fs := fun x c fs z => by unfold max2D at z; split at z <;> cases z
theorem min2D_ne : ∀ x c fs, min2D x ≠ .ex c fs := fun x c fs z => by unfold min2D at z; split at z <;> cases z
theorem oc_max2 (hc : X.calm = true) : CallR X (.builtin "max") (rN X.K ca max2D) := fun pins s σ H xs us Q I r ⟨F, ds, d, sub, rs, hg, q⟩ => by
  unfold max2D at hg
  split at hg
  · cases hg
    cases rs with
    | cons r1 rs =>
      cases rs with
      | cons r2 rs => cases rs; cases r1; cases r2; exact call_max2 hc pins s σ H _ us Q I r ⟨_, _, rfl, q _ F H (.refl sub) (.int _)⟩
  · cases hg
theorem oc_min2 (hc : X.calm = true) : CallR X (.builtin "min") (rN X.K ca min2D) := fun pins s σ H xs us Q I r ⟨F, ds, d, sub, rs, hg, q⟩ => by
  unfold min2D at hg
  split at hg
  · cases hg
    cases rs with
    | cons r1 rs =>
      cases rs with
      | cons r2 rs => cases rs; cases r1; cases r2; exact call_min2 hc pins s σ H _ us Q I r ⟨_, _, rfl, q _ F H (.refl sub) (.int _)⟩
  · cases hg
theorem strI_ne : ∀ x c fs, strI x ≠ .ex c fs := fun x c fs z => by
  unfold strI at z
  split at z
  · split at z <;> cases z
  · cases z
theorem oc_str : CallR X (.type "str") (rN X.K ca strI) := fun pins s σ H xs us Q I r ⟨F, ds, d, sub, rs, hg, q⟩ => by
  unfold strI at hg
  split at hg
  · split at hg
    · rename_i hl
      cases hg
      cases rs with
      | cons r1 rs => cases rs; cases r1; exact call_str_int pins s σ H _ us Q I r ⟨_, rfl, hl, q _ F H (.refl sub) (.str _)⟩
    · cases hg
  · cases hg
theorem tupC_ne : ∀ x c fs, tupC x ≠ .ex c fs := fun x c fs z => by unfold tupC at z; split at z <;> cases z
theorem oc_tuple : CallR X (.type "tuple") (rN X.K ca tupC) := fun pins s σ H xs us Q I r ⟨F, ds, d, sub, rs, hg, q⟩ => by
  unfold tupC at hg
  split at hg
  · cases hg
    cases rs with
    | cons r1 rs =>
      cases rs
      cases r1 with
      | lst ha ra => exact call_tuple_of pins s σ H _ us Q I r ⟨_, _, rfl, .inl ⟨SqL.of (sub _ _ ha), fun l hl => q _ _ _ (Stp.new sub hl) (.tup (.of upd_same) (ra.mono (same_upd (sub.free hl))))⟩⟩
  · cases hg
    cases rs with
    | cons r1 rs =>
      cases rs
      cases r1 with
      | fro ha ra => exact call_tuple_of pins s σ H _ us Q I r ⟨_, _, rfl, .inl ⟨Same.seq sub ha, fun l hl => q _ _ _ (Stp.new sub hl) (.tup (.of upd_same) (ra.mono (same_upd (sub.free hl))))⟩⟩
  · cases hg
    cases rs with
    | cons r1 rs =>
      cases rs
      cases r1 with
      | tup ha ra => exact call_tuple_of pins s σ H _ us Q I r ⟨_, _, rfl, .inr ⟨Same.seqT sub ha, q _ F H (.refl sub) (.tup ha ra)⟩⟩
  · cases hg
/-- a call that hands back a new list -/
def rNL (K : PySem.W.Frag) (ca : CA) (g : List D → R D) : List V → Hp → VK → Prop := fun xs H Q => ∃ F ds d, Same F H ∧ Reps K ca F ds xs ∧ g ds = .ok d ∧ ∀ p o, H p = none → OwO K ca F (upd H p o) d p → Q (.ref p) (upd H p o)
theorem lstC_ne : ∀ x c fs, lstC x ≠ .ex c fs := fun x c fs z => by unfold lstC at z; split at z <;> cases z
theorem oc_list : CallR X (.type "list") (rNL X.K ca lstC) := fun pins s σ H xs us Q I r ⟨F, ds, d, sub, rs, hg, q⟩ => by
  unfold lstC at hg
  split at hg
  · cases hg
    cases rs with
    | cons r1 rs =>
      cases rs
      cases r1 with
      | lst ha ra => exact call_list_of pins s σ H _ us Q I r ⟨_, _, rfl, .inl (SqL.of (sub _ _ ha)), fun l hl => q l _ hl ⟨_, upd_same, ra⟩⟩
  · cases hg
    cases rs with
    | cons r1 rs =>
      cases rs
      cases r1 with
      | fro ha ra => exact call_list_of pins s σ H _ us Q I r ⟨_, _, rfl, .inl (Same.seq sub ha), fun l hl => q l _ hl ⟨_, upd_same, ra⟩⟩
  · cases hg
    cases rs with
    | cons r1 rs =>
      cases rs
      cases r1 with
      | tup ha ra => exact call_list_of pins s σ H _ us Q I r ⟨_, _, rfl, .inr (Same.seqT sub ha), fun l hl => q l _ hl ⟨_, upd_same, ra⟩⟩
  · cases hg
theorem blsD_rep : ∀ {xs : List D} {vs : List V} {bs : List Bool}, Reps K ca F xs vs → blsD xs = some bs → vs = bs.map V.bl
  | _, _, _, .nil, h => by cases h; rfl
  | _, _, _, .cons r rs, h => by
    cases r <;> try cases h
    rename_i ds vs b
    unfold blsD at h
    cases e : blsD ds with
    | none => rw [e] at h; cases h
    | some bs => rw [e] at h; cases h; rw [blsD_rep rs e]; rfl
theorem intsD_rep : ∀ {xs : List D} {vs : List V} {bs : List Int}, Reps K ca F xs vs → intsD xs = some bs → vs = bs.map V.int
  | _, _, _, .nil, h => by cases h; rfl
  | _, _, _, .cons r rs, h => by
    cases r <;> try cases h
    rename_i ds vs b
    unfold intsD at h
    cases e : intsD ds with
    | none => rw [e] at h; cases h
    | some bs => rw [e] at h; cases h; rw [intsD_rep rs e]; rfl
theorem allD_ne : ∀ x c fs, allD x ≠ .ex c fs := fun x c fs z => by
  unfold allD at z
  split at z
  · exact bind_ne ofOpt_ne (fun a z => by cases z) z
  · cases z
theorem anyD_ne : ∀ x c fs, anyD x ≠ .ex c fs := fun x c fs z => by
  unfold anyD at z
  split at z
  · exact bind_ne ofOpt_ne (fun a z => by cases z) z
  · cases z
theorem sumD_ne : ∀ x c fs, sumD x ≠ .ex c fs := fun x c fs z => by
  unfold sumD at z
  split at z
  · exact bind_ne ofOpt_ne (fun a z => by cases z) z
  · cases z
theorem sortD_ne : ∀ x c fs, sortD x ≠ .ex c fs := fun x c fs z => by
  unfold sortD at z
  split at z
  · exact bind_ne ofOpt_ne (fun a z => by cases z) z
  · cases z
theorem oc_all (hc : X.calm = true) : CallR X (.builtin "all") (rN X.K ca allD) := fun pins s σ H xs us Q I r ⟨F, ds, d, sub, rs, hg, q⟩ => by
  unfold allD at hg
  split at hg
  · obtain ⟨bs, e1, e2⟩ := R.bind_eq_ok hg
    cases e2
    cases rs with
    | cons r1 rs =>
      cases rs
      cases r1 with
      | lst ha ra =>
        have e := blsD_rep ra (ofOpt_eq e1)
        subst e
        exact cr_all hc pins s σ H _ us Q I r ⟨_, bs, rfl, SqL.of (sub _ _ ha), q _ F H (.refl sub) (.bl _)⟩
  · cases hg
theorem oc_any (hc : X.calm = true) : CallR X (.builtin "any") (rN X.K ca anyD) := fun pins s σ H xs us Q I r ⟨F, ds, d, sub, rs, hg, q⟩ => by
  unfold anyD at hg
  split at hg
  · obtain ⟨bs, e1, e2⟩ := R.bind_eq_ok hg
    cases e2
    cases rs with
    | cons r1 rs =>
      cases rs
      cases r1 with
      | lst ha ra =>
        have e := blsD_rep ra (ofOpt_eq e1)
        subst e
        exact cr_any hc pins s σ H _ us Q I r ⟨_, bs, rfl, SqL.of (sub _ _ ha), q _ F H (.refl sub) (.bl _)⟩
  · cases hg
theorem oc_sum (hc : X.calm = true) : CallR X (.builtin "sum") (rN X.K ca sumD) := fun pins s σ H xs us Q I r ⟨F, ds, d, sub, rs, hg, q⟩ => by
  unfold sumD at hg
  split at hg
  · obtain ⟨bs, e1, e2⟩ := R.bind_eq_ok hg
    cases e2
    cases rs with
    | cons r1 rs =>
      cases rs
      cases r1 with
      | lst ha ra =>
        have e := intsD_rep ra (ofOpt_eq e1)
        subst e
        exact cr_sum hc pins s σ H _ us Q I r ⟨_, bs, rfl, SqL.of (sub _ _ ha), q _ F H (.refl sub) (.int _)⟩
  · cases hg
theorem insI_perm (x : Int) : ∀ l, (insI x l).Perm (x :: l)
  | [] => .refl _
  | y :: r => by
    unfold insI
    split
    · exact .refl _
    · exact ((insI_perm x r).cons y).trans (.swap x y r)
theorem sortI_perm : ∀ l, (sortI l).Perm l
  | [] => .refl _
  | x :: r => (insI_perm x _).trans ((sortI_perm r).cons x)
theorem insI_sorted (x : Int) : ∀ l, l.Pairwise (· ≤ ·) → (insI x l).Pairwise (· ≤ ·)
  | [], _ => by unfold insI; exact List.pairwise_singleton _ _
  | y :: r, h => by
    unfold insI
    split
    · rename_i hxy
      refine List.pairwise_cons.mpr ⟨fun z hz => ?_, h⟩
      rcases List.mem_cons.mp hz with e | e
      · rw [e]; exact hxy
      · exact Int.le_trans hxy ((List.pairwise_cons.mp h).1 z e)
    · rename_i hxy
      refine List.pairwise_cons.mpr ⟨fun z hz => ?_, insI_sorted x r (List.pairwise_cons.mp h).2⟩
      rcases List.mem_cons.mp ((insI_perm x r).mem_iff.mp hz) with e | e
      · rw [e]; omega
      · exact (List.pairwise_cons.mp h).1 z e
theorem sortI_sorted : ∀ l, (sortI l).Pairwise (· ≤ ·)
  | [] => .nil
  | x :: r => insI_sorted x _ (sortI_sorted r)
theorem sorted_uniq : ∀ {a b : List Int}, a.Perm b → a.Pairwise (· ≤ ·) → b.Pairwise (· ≤ ·) → a = b
  | [], b, p, _, _ => (List.nil_perm.mp p).symm
  | x :: a, b, p, h1, h2 => by
    cases b with
    | nil => exact absurd p.symm (by simp)
    | cons y b =>
      have hx := (List.pairwise_cons.mp h1).1
      have hy := (List.pairwise_cons.mp h2).1
      have e : x = y := by
        have a1 : x ∈ y :: b := p.mem_iff.mp List.mem_cons_self
        have a2 : y ∈ x :: a := p.mem_iff.mpr List.mem_cons_self
        have b1 : y ≤ x := by
          rcases List.mem_cons.mp a1 with e | e
          · omega
          · exact hy x e
        have b2 : x ≤ y := by
          rcases List.mem_cons.mp a2 with e | e
          · omega
          · exact hx y e
        omega
      subst e
      rw [sorted_uniq (List.Perm.cons_inv p) (List.pairwise_cons.mp h1).2 (List.pairwise_cons.mp h2).2]
theorem oc_sorted : CallR X (.builtin "sorted") (rNL X.K ca sortD) := fun pins s σ H xs us Q I r ⟨F, ds, d, sub, rs, hg, q⟩ => by
  unfold sortD at hg
  split at hg
  · obtain ⟨bs, e1, e2⟩ := R.bind_eq_ok hg
    cases e2
    cases rs with
    | cons r1 rs =>
      cases rs
      cases r1 with
      | lst ha ra =>
        have e := intsD_rep ra (ofOpt_eq e1)
        subst e
        refine cr_sortedI pins s σ H _ us Q I r ⟨_, bs, rfl, SqL.of (sub _ _ ha), fun ns' p pm srt hp => ?_⟩
        have e := sorted_uniq (pm.trans (sortI_perm bs).symm) srt (sortI_sorted bs)
        subst e
        exact q p _ hp ⟨_, upd_same, Reps.ofInts _⟩
  · cases hg
theorem typeD_ne : ∀ x c fs, typeD x ≠ .ex c fs := fun x c fs z => by unfold typeD at z; split at z <;> cases z
theorem oc_type : CallR X (.type "type") (rN X.K ca typeD) := fun pins s σ H xs us Q I r ⟨F, ds, d, sub, rs, hg, q⟩ => by
  cases rs with
  | nil => cases hg
  | cons r1 rs =>
    cases rs with
    | cons _ _ => cases r1 <;> cases hg
    | nil =>
      cases r1 with
      | non => cases hg; exact call_type1 pins s σ H _ us Q I r ⟨_, _, rfl, .non, q _ F H (.refl sub) (.ty _)⟩
      | bl b => cases hg; exact call_type1 pins s σ H _ us Q I r ⟨_, _, rfl, .bl b, q _ F H (.refl sub) (.ty _)⟩
      | int b => cases hg; exact call_type1 pins s σ H _ us Q I r ⟨_, _, rfl, .int b, q _ F H (.refl sub) (.ty _)⟩
      | str b => cases hg; exact call_type1 pins s σ H _ us Q I r ⟨_, _, rfl, .str b, q _ F H (.refl sub) (.ty _)⟩
      | tup ha ra => cases hg; exact call_type1 pins s σ H _ us Q I r ⟨_, _, rfl, .tup (Same.seqT sub ha), q _ F H (.refl sub) (.ty _)⟩
      | lst ha ra => cases hg; exact call_type1 pins s σ H _ us Q I r ⟨_, _, rfl, .lst (SqL.of (sub _ _ ha)), q _ F H (.refl sub) (.ty _)⟩
      | fro ha ra => cases hg; exact call_type1 pins s σ H _ us Q I r ⟨_, _, rfl, .lst (Same.seq sub ha), q _ F H (.refl sub) (.ty _)⟩
      | ins ha ra hk => cases hg; exact cr_type pins s σ H _ us Q I r ⟨_, _, _, _, rfl, sub _ _ ha, q _ F H (.refl sub) (.cod _ hk)⟩
      | _ => cases hg
theorem clsIsD_ne : ∀ x y c fs, clsIsD x y ≠ .ex c fs := fun x y c fs z => by
  unfold clsIsD at z
  split at z <;> cases z
theorem clsIsnD_ne : ∀ x y c fs, clsIsnD x y ≠ .ex c fs := fun x y c fs z => by
  unfold clsIsnD at z
  split at z <;> cases z
theorem op_isTR : OpR X (compareOp .Is) (fun x y H Q => ∃ m a, x = .ty m ∧ y = .ref a ∧ Q (.bl false) H) := by
  intro pins s σ H x y v u Q I rx ry h
  obtain ⟨m, a, rfl, rfl, q⟩ := h
  cases (show v = Value.type m from rx)
  cases (show u = Value.ref a from ry)
  exact wpAny_is_other rfl (fun z => nomatch z) ⟨.bl false, H, I, rfl, q⟩
theorem op_isnotTR : OpR X (compareOp .IsNot) (fun x y H Q => ∃ m a, x = .ty m ∧ y = .ref a ∧ Q (.bl true) H) := by
  intro pins s σ H x y v u Q I rx ry h
  obtain ⟨m, a, rfl, rfl, q⟩ := h
  cases (show v = Value.type m from rx)
  cases (show u = Value.ref a from ry)
  exact wpAny_isNot_other rfl (fun z => nomatch z) ⟨.bl true, H, I, rfl, q⟩
/-- the classes that are known: they are made by type.__call__, and stand apart -/
structure ClsSet (K : PySem.W.Frag) (ca : CA) : Prop where
  own : ∀ a, ca.ok a = true → ClsI K (ca a)
  inj : ∀ a b, ca.ok a = true → ca.ok b = true → ca a = ca b → a = b
theorem ClsSet.dec (h : ClsSet K ca) {a b : Nat} (ha : ca.ok a = true) (hb : ca.ok b = true) : decide (ca a = ca b) = decide (a = b) := by
  by_cases e : a = b
  · subst e; rw [decide_eq_true rfl, decide_eq_true rfl]
  · rw [decide_eq_false e, decide_eq_false fun z => e (h.inj a b ha hb z)]
theorem oo_clsIs (S : ClsSet X.K ca) : OpR X (compareOp .Is) (r2 X.K ca clsIsD) := fun pins s σ H x y v u Q I rx ry ⟨F, a, b, d, sub, ra, rb, hg, q⟩ => by
  unfold clsIsD at hg
  split at hg
  · cases hg
    cases ra with
    | cod _ h1 =>
      cases rb with
      | cod _ h2 =>
        refine op_is_cls pins s σ H _ _ v u Q I rx ry ⟨_, _, rfl, rfl, .inr ⟨(S.own _ h1).ml, (S.own _ h2).ml⟩, ?_⟩
        rw [S.dec h1 h2]
        exact q _ F H (.refl sub) (.bl _)
  · cases hg; cases ra; cases rb
    exact op_isTR pins s σ H _ _ v u Q I rx ry ⟨_, _, rfl, rfl, q _ F H (.refl sub) (.bl _)⟩
  · cases hg
theorem oo_clsIsn (S : ClsSet X.K ca) : OpR X (compareOp .IsNot) (r2 X.K ca clsIsnD) := fun pins s σ H x y v u Q I rx ry ⟨F, a, b, d, sub, ra, rb, hg, q⟩ => by
  unfold clsIsnD at hg
  split at hg
  · cases hg
    cases ra with
    | cod _ h1 =>
      cases rb with
      | cod _ h2 =>
        refine op_isnot_cls pins s σ H _ _ v u Q I rx ry ⟨_, _, rfl, rfl, .inr ⟨(S.own _ h1).ml, (S.own _ h2).ml⟩, ?_⟩
        rw [S.dec h1 h2]
        exact q _ F H (.refl sub) (.bl _)
  · cases hg; cases ra; cases rb
    exact op_isnotTR pins s σ H _ _ v u Q I rx ry ⟨_, _, rfl, rfl, q _ F H (.refl sub) (.bl _)⟩
  · cases hg
theorem isiD_ne {tab : D → D → Option Bool} : ∀ x c fs, isiD tab x ≠ .ex c fs := fun x c fs z => by
  unfold isiD at z
  split at z
  · split at z
    · exact bind_ne ofOpt_ne (fun a z => by cases z) z
    · cases z
  · cases z
theorem isiTD_ne {tab : D → D → Option Bool} {cs : List D} : ∀ x c fs, isiTD tab cs x ≠ .ex c fs := fun x c fs z => by
  unfold isiTD at z
  split at z
  · exact bind_ne ofOpt_ne (fun a z => by cases z) z
  · cases z
theorem tag_ok {d t : D} {v : V} (r : Rep K ca F d v) (h : tagD d = some t) : ∀ k, t = .cod k → ca.ok k = true := fun k e => by
  subst e
  cases r <;> (first | cases h | skip)
  assumption
theorem cod_ok {d : D} {v : V} (r : Rep K ca F d v) : ∀ k, d = .cod k → ca.ok k = true := fun k e => by
  subst e
  cases r
  assumption
theorem tag_rep (S : ClsSet K ca) (sub : Same F H) {d t : D} {v : V} {u : Value} (r : Rep K ca F d v) (h : tagD d = some t) (ht : tyVal ca t = some u) : TyX K H v u := by
  cases r with
  | non => cases h; cases ht; exact .base .non
  | bl b => cases h; cases ht; exact .base (.bl b)
  | int b => cases h; cases ht; exact .base (.int b)
  | str b => cases h; cases ht; exact .base (.str b)
  | tup ha ra =>
    cases h; cases ht
    rcases Same.seqT sub ha with (z | ⟨o, z⟩) | ⟨o, its, n, z, c, _⟩
    · exact .base (.tup z)
    · exact .fTuple z
    · exact .kTuple z c
  | lst ha ra => cases h; cases ht; exact .base (.lst (sub _ _ ha))
  | ins ha ra hk =>
    cases h; cases ht
    have z := S.own _ hk
    exact .base (.ins (sub _ _ ha) z.cl z.ha z.hn z.ht z.hm)
  | dK ha _ _ => cases h; cases ht; exact .base (.dK (sub _ _ ha))
  | dT ha _ _ => cases h; cases ht; exact .base (.dT (sub _ _ ha))
  | _ => cases h
theorem cls_rep {d : D} {v : V} {u : Value} (r : Rep K ca F d v) (h : tyVal ca d = some u) : ClsV v u := by
  cases r with
  | cod k => cases h; exact .own _
  | ty n => cases h; exact .ty n
  | _ => cases h
theorem cls_all : ∀ {cs : List D} {vs : List V}, Reps K ca F cs vs → cs.all clsD = true → ∃ us, Paired ClsV vs us
  | _, _, .nil, _ => ⟨[], .nil⟩
  | _, _, .cons r rs, h => by
    rw [List.all_cons, Bool.and_eq_true] at h
    obtain ⟨us, p⟩ := cls_all rs h.2
    cases r with
    | cod k hk => exact ⟨_, .cons (.own _) p⟩
    | ty n => exact ⟨_, .cons (.ty n) p⟩
    | _ => cases h.1
theorem kind_rep {tab : D → D → Option Bool} (hT : TabOk K ca tab) {t : D} {ut : Value} (ht : tyVal ca t = some ut) (hto : ∀ k, t = .cod k → ca.ok k = true) : ∀ {cs : List D} {vs : List V} {b : Bool}, Reps K ca F cs vs → kindD tab t cs = some b → ∃ us, Paired ClsV vs us ∧ PySem.W.kitAny K ut us = some b
  | _, _, _, .nil, h => ⟨[], .nil, by cases h; rfl⟩
  | _, _, b, .cons (d := c) r rs, h => by
    unfold kindD at h
    cases e : tab t c with
    | none => rw [e] at h; cases h
    | some k =>
      obtain ⟨u1, u2, h1, h2, h3⟩ := hT t c k e hto (cod_ok r)
      rw [ht] at h1
      cases h1
      rw [e] at h
      cases k with
      | true =>
        dsimp only at h
        split at h
        · rename_i ha
          cases h
          obtain ⟨us, p⟩ := cls_all rs ha
          exact ⟨u2 :: us, .cons (cls_rep r h2) p, by unfold PySem.W.kitAny; rw [h3]⟩
        · cases h
      | false =>
        obtain ⟨us, p, q⟩ := kind_rep hT ht hto rs h
        exact ⟨u2 :: us, .cons (cls_rep r h2) p, by unfold PySem.W.kitAny; rw [h3]; exact q⟩
theorem kind_tag {d t : D} (h : tagD d = some t) : ∃ u, tyVal ca t = some u := by
  cases d with
  | fro _ => cases h
  | cod _ => cases h
  | ty _ => cases h
  | fn _ => cases h
  | set _ => cases h
  | _ => cases h; exact ⟨_, rfl⟩
theorem oc_isi {tab : D → D → Option Bool} (S : ClsSet X.K ca) (hT : TabOk X.K ca tab) : CallR X (.builtin "isinstance") (rN X.K ca (isiD tab)) := fun pins s σ H xs us Q I r ⟨F, ds, d, sub, rs, hg, q⟩ => by
  unfold isiD at hg
  split at hg
  · rename_i x c
    cases et : tagD x with
    | none => rw [et] at hg; cases hg
    | some t =>
      rw [et] at hg
      dsimp only at hg
      obtain ⟨b, e1, e2⟩ := R.bind_eq_ok hg
      cases e2
      cases rs with
      | cons rx rs =>
        cases rs with
        | cons rc rs =>
          cases rs
          obtain ⟨u1, u2, h1, h2, h3⟩ := hT _ _ _ (ofOpt_eq e1) (tag_ok rx et) (cod_ok rc)
          exact call_isi pins s σ H _ us Q I r ⟨_, _, u1, u2, b, rfl, cls_rep rc h2, tag_rep S sub rx et h1, h3, q _ F H (.refl sub) (.bl _)⟩
  · cases hg
end
/-- arguments that are known -/
def tCs (vs : List V) : TA := fun _ H Q => Q vs H
section
variable {X : Cx} {C : Cd} {own : List Nat} {a : Expr} {es : List Expr} {fa : EF} {p pos tpos : Pos}
theorem pc_nil : PA X [] (tCs []) := pa_imp pa_nil fun _ _ _ h => h
theorem pc_cons {v : V} {vs : List V} (ha : PE X a (tC v)) (hr : PA X es (tCs vs)) (hs : starEach (a :: es) X.env = (false, eval a X.env) :: starEach es X.env := by rfl) : PA X (a :: es) (tCs (v :: vs)) := pa_imp (pa_cons ha hr hs) fun _ _ _ h => h
theorem ev_isiT {tab : D → D → Option Bool} {cs : List D} {vs : List V} {k : Nat} (S : ClsSet X.K C.ca) (hT : TabOk X.K C.ca tab) (hcs : ∀ F, Reps X.K C.ca F cs vs) (hl : vs.length ≤ sizeLine) (hm : X.mg "isinstance" = none) (ha : PE X a (tE X.K C own fa)) (hes : PA X es (tCs vs)) (hg : Gl X "isinstance" := by rfl)
    (he : starEach [a, .Tuple es k tpos] X.env = (false, eval a X.env) :: starEach [.Tuple es k tpos] X.env := by rfl) (he2 : starEach [.Tuple es k tpos] X.env = (false, eval (.Tuple es k tpos) X.env) :: starEach [] X.env := by rfl) (hpl : (backTo pos (starEach [.Tuple es k tpos] X.env)).any (·.1) = false := by rfl) :
    PE X (.Call (.Name "isinstance" p) [a, .Tuple es k tpos] [] pos) (tE X.K C own (e1 (isiTD tab cs) fa)) :=
  pe_imp (pe_callB call_isiT hg hm (by decide +kernel) (pa_cons ha (pa_cons (pe_tup hes) pa_nil he2) he) (by decide) (by decide) he hpl) fun σ H Q ⟨env, F, hR, h⟩ => ⟨env, F, hR, h.bind.imp fun d e1 F1 H1 hR1 s1 h1 v r => by
    obtain ⟨b, hb, h2⟩ := h1.known (isiTD_ne d)
    refine ⟨hl, fun p hp => ?_⟩
    unfold isiTD at hb
    cases et : tagD d with
    | none => rw [et] at hb; cases hb
    | some t =>
      rw [et] at hb
      dsimp only at hb
      obtain ⟨k, e1, e2⟩ := R.bind_eq_ok hb
      cases e2
      obtain ⟨ut, hut⟩ := kind_tag (ca := C.ca) et
      obtain ⟨ws, pw, hk⟩ := kind_rep hT hut (tag_ok r et) (hcs F1) (ofOpt_eq e1)
      have hR2 := (hR1.lay (o := .tup vs) hp).1
      exact ⟨v, p, vs, ut, ws, k, rfl, upd_same, pw, tag_rep S hR2.q.sub r et hut, hk, h2.here hR2 _ (.bl _)⟩⟩
end
end Dl

namespace Ru
open PySem PySem.Spec PyProof.Rows L2
/-! ### a op b op c op d .. of any length, as a test and as a value -/
structure PTC (X : Cx) (ops : List CmpOp) (es : List Expr) (t : V → TT) : Prop where
  run : ∀ (pos : Pos) (pins : List (Addr × Obj)) (s : Shared) (σ : L2.St) (H : Hp) (x : V) (v : Value) (Q : Bool → Hp → Prop), Inv X pins σ H s → RelV x v → t x σ H Q → wpAny (model X.prog X.w) X.A (testChain pos v ops (evalEach es X.env)) (TP X pins σ Q) X.xe s
structure PEC (X : Cx) (ops : List CmpOp) (es : List Expr) (t : V → TE) : Prop where
  run : ∀ (pos : Pos) (pins : List (Addr × Obj)) (s : Shared) (σ : L2.St) (H : Hp) (x : V) (v : Value) (Q : VK), Inv X pins σ H s → RelV x v → t x σ H Q → wpAny (model X.prog X.w) X.A (compareChain pos v ops (evalEach es X.env)) (EP X pins σ Q) X.xe s
section
variable {X : Cx} {op op' op1 op2 : CmpOp} {ops : List CmpOp} {r : R2} {a b e e1 e2 : Expr} {es : List Expr} {ta tb : TE} {t : V → TT} {u : V → TE} {pos : Pos}
def cLast (r : R2) (tb : TE) : V → TT := fun x σ H Q => tb σ H fun y H1 => r x y H1 fun z H2 => ∃ k, z = .bl k ∧ Q k H2
def cLink (r : R2) (tb : TE) (t : V → TT) : V → TT := fun x σ H Q => tb σ H fun y H1 => r x y H1 fun z H2 => ∃ k, z = .bl k ∧ if k = true then t y σ H2 Q else Q false H2
def vLast (r : R2) (tb : TE) : V → TE := fun x σ H Q => tb σ H fun y H1 => r x y H1 Q
def vLink (r : R2) (tb : TE) (t : V → TE) : V → TE := fun x σ H Q => tb σ H fun y H1 => r x y H1 fun z H2 => ∃ k, z = .bl k ∧ if k = true then t y σ H2 Q else Q (.bl false) H2
theorem ptc_last (ho : OpR X (compareOp op) r) (hb : PE X b tb) : PTC X [op] [b] (cLast r tb) := by
  refine ⟨fun pos pins s σ H x v Q I rx h => ?_⟩
  show wpAny _ _ (testChain pos v [op] [eval b X.env]) _ _ s
  refine test_last (thn (hb.run pins s σ H _ I h) fun u s1 ⟨y, H1, I1, r1, q1⟩ => thn (ho pins s1 σ H1 x y v u _ I1 rx r1 q1) fun c s2 ⟨z, H2, I2, r2, k, e, q⟩ => ?_)
  subst e
  cases r2
  exact wpAny_truthy_bool ⟨H2, I2, q⟩
theorem ptc_link (ho : OpR X (compareOp op) r) (hb : PE X b tb) (hr : PTC X (op' :: ops) (e :: es) t) : PTC X (op :: op' :: ops) (b :: e :: es) (cLink r tb t) := by
  refine ⟨fun pos pins s σ H x v Q I rx h => ?_⟩
  show wpAny _ _ (testChain pos v (op :: op' :: ops) (eval b X.env :: eval e X.env :: evalEach es X.env)) _ _ s
  refine test_link (thn (hb.run pins s σ H _ I h) fun u s1 ⟨y, H1, I1, r1, q1⟩ => thn (ho pins s1 σ H1 x y v u _ I1 rx r1 q1) fun c s2 ⟨z, H2, I2, r2, k, e, q⟩ => ?_)
  subst e
  cases r2
  refine wpAny_truthy_bool ?_
  cases k with
  | false => exact ite_ff ⟨H2, I2, q⟩
  | true => exact ite_tt (hr.run pos pins s2 σ H2 y u Q I2 r1 q)
theorem pec_last (ho : OpR X (compareOp op) r) (hb : PE X b tb) : PEC X [op] [b] (vLast r tb) := by
  refine ⟨fun pos pins s σ H x v Q I rx h => ?_⟩
  show wpAny _ _ (compareChain pos v [op] [eval b X.env]) _ _ s
  exact chain_last (thn (hb.run pins s σ H _ I h) fun u s1 ⟨y, H1, I1, r1, q1⟩ => ho pins s1 σ H1 x y v u _ I1 rx r1 q1)
theorem pec_link (ho : OpR X (compareOp op) r) (hb : PE X b tb) (hr : PEC X (op' :: ops) (e :: es) u) : PEC X (op :: op' :: ops) (b :: e :: es) (vLink r tb u) := by
  refine ⟨fun pos pins s σ H x v Q I rx h => ?_⟩
  show wpAny _ _ (compareChain pos v (op :: op' :: ops) (eval b X.env :: eval e X.env :: evalEach es X.env)) _ _ s
  refine chain_link (thn (hb.run pins s σ H _ I h) fun u s1 ⟨y, H1, I1, r1, q1⟩ => thn (ho pins s1 σ H1 x y v u _ I1 rx r1 q1) fun c s2 ⟨z, H2, I2, r2, k, e, q⟩ => ?_)
  subst e
  cases r2
  refine wpAny_truthy_bool ?_
  cases k with
  | false => exact ite_ff ⟨.bl false, H2, I2, rfl, q⟩
  | true => exact ite_tt (hr.run pos pins s2 σ H2 y u Q I2 r1 q)
theorem pt_chainN (ha : PE X a ta) (hc : PTC X (op1 :: op2 :: ops) (e1 :: e2 :: es) t) (hm : lastMarks (op1 :: op2 :: ops) (e1 :: e2 :: es) = false := by with_unfolding_all rfl) :
    PT X (.Compare a (op1 :: op2 :: ops) (e1 :: e2 :: es) pos) (fun σ H Q => ta σ H fun x H1 => t x σ H1 Q) :=
  ⟨fun pins s σ H Q I h => isTrue_chain (thn (ha.run pins s σ H _ I h) fun v s1 ⟨x, H1, I1, r1, q1⟩ => hc.run pos pins s1 σ H1 x v Q I1 r1 q1) hm⟩
theorem pe_chainN (ha : PE X a ta) (hc : PEC X (op1 :: op2 :: ops) (e1 :: e2 :: es) u) (hm : lastMarks (op1 :: op2 :: ops) (e1 :: e2 :: es) = false := by with_unfolding_all rfl) :
    PE X (.Compare a (op1 :: op2 :: ops) (e1 :: e2 :: es) pos) (fun σ H Q => ta σ H fun x H1 => u x σ H1 Q) :=
  ⟨fun pins s σ H Q I h => Compare_chain (thn (ha.run pins s σ H _ I h) fun v s1 ⟨x, H1, I1, r1, q1⟩ => hc.run pos pins s1 σ H1 x v Q I1 r1 q1) hm⟩
end
/-- f(k = v, ..) without positional arguments -/
theorem pe_callK0 {X : Cx} {CX : CXT} {k : Nat} {f : Addr} {fd : FuncData} {ps ks : List Str} {sp : Sp} {E : XK} {x : Str} {p pos : Pos} {kws : List Keyword} {tk : TA} {g : List Value → List Value → List Value} {gV : List V → List V → List V}
    (F : FnOk X.prog X.w X.K X.mg X.base CX k f fd ps sp) (hr : Room k X.A) (hg : Gl X x) (hm : X.mg x = some (.ref f)) (hk : PySem.W.keepIn X.K (.ref f) = true) (hb : KBinds X.K fd ps ks g gV) (hx : Passes CX X E)
    (hkw : PK X kws tk) (hall : (backToKw pos (keywordEach kws X.env)).all (·.1.isSome) = true := by rfl) (hks : (backToKw pos (keywordEach kws X.env)).filterMap (·.1) = ks := by rfl)
    (hdb : (x == ("__debug__" : Str)) = false := by decide)
    (hpl : ((backTo pos (starEach [] X.env)).any (·.1) || (backToKw pos (keywordEach kws X.env)).any (·.1.isNone)) = false := by rfl) :
    PE X (.Call (.Name x p) [] kws pos) (tCallK sp gV E tNil tk) := by
  refine ⟨fun pins s σ H Q I h => ?_⟩
  refine wpAny_Call_Name_kw (ld_glob I hg hm ?_ hdb)
  refine PySem.W.callWith_KW0 I.kIn hk hall (thn (hkw.run pos pins s σ H _ I h) fun ws s2 ⟨zs, H2, I2, rz, q2⟩ => ?_) hpl
  rw [hks]
  exact ⟨I2.kIn, run_fnk F hr hb hx I2 .nil rz q2⟩
end Ru
namespace Dl
open PySem PySem.Spec PyProof.Rows L2
/-! ### new lists -/
def r2L (K : PySem.W.Frag) (ca : CA) (g : D → D → R D) : R2 := fun x y H Q => ∃ F a b d, Same F H ∧ Rep K ca F a x ∧ Rep K ca F b y ∧ g a b = .ok d ∧ ∀ p o, H p = none → OwO K ca F (upd H p o) d p → Q (.ref p) (upd H p o)
section
variable {X : Cx} {C : Cd} {own : List Nat} {a b : Expr} {es : List Expr} {pos p : Pos} {fa fb : EF} {fs : AF} {x : Str}
theorem newOk {σ : L2.St} {F H : Hp} {env : En} {d : D} {Q : VK} (hR : RE X.K C.ca C.B own env σ F H) (k : ∀ F' H', RE X.K C.ca C.B own env σ F' H' → Same F F' → ∀ p, Fsh X.K C.ca C.B own env σ F' H' d p → Q (.ref p) H') : ∀ p o, H p = none → OwO X.K C.ca F (upd H p o) d p → Q (.ref p) (upd H p o) := fun p o hp O => by
  obtain ⟨hR2, hF, b, m, dis⟩ := hR.lay (o := o) hp
  exact k F _ hR2 (Same.refl _) p ⟨O, hF, b, m, dis⟩
theorem ev_callBN {id : String} {g : List D → R D} (hn : ∀ x c fs, g x ≠ .ex c fs) (hc : CallR X (.builtin id) (rNL X.K C.ca g)) (hm : X.mg x = none) (ha : PA X (a :: es) (tA X.K C own fs)) (hg : Gl X x := by rfl) (hv : bootBuiltins x = some (.builtin id) := by decide +kernel)
    (hx : x ≠ "__name__" := by decide) (hdb : (x == ("__debug__" : Str)) = false := by decide) (he : starEach (a :: es) X.env = (false, eval a X.env) :: starEach es X.env := by rfl) (hpl : (backTo pos (starEach es X.env)).any (·.1) = false := by rfl) :
    PE X (.Call (.Name x p) (a :: es) [] pos) (tN X.K C own (eN g fs)) :=
  pe_imp (pe_callB hc hg hm hv ha hx hdb he hpl) fun σ H Q ⟨env, F, hR, h⟩ => ⟨env, F, hR, h.bind.imp fun xs e1 F1 H1 hR1 s1 h1 vs rv => by
    obtain ⟨d, hd, h2⟩ := h1.known (hn xs)
    exact ⟨F1, xs, d, hR1.q.sub, rv, hd, newOk hR1 h2⟩⟩
theorem ev_callTN {T : String} {g : List D → R D} (hn : ∀ x c fs, g x ≠ .ex c fs) (hc : CallR X (.type T) (rNL X.K C.ca g)) (hm : X.mg x = none) (ha : PA X (a :: es) (tA X.K C own fs)) (hg : Gl X x := by rfl) (hv : bootBuiltins x = some (.type T) := by decide +kernel)
    (hx : x ≠ "__name__" := by decide) (hdb : (x == ("__debug__" : Str)) = false := by decide) (he : starEach (a :: es) X.env = (false, eval a X.env) :: starEach es X.env := by rfl) (hpl : (backTo pos (starEach es X.env)).any (·.1) = false := by rfl) :
    PE X (.Call (.Name x p) (a :: es) [] pos) (tN X.K C own (eN g fs)) :=
  pe_imp (pe_callTy hc hg hm hv ha hx hdb he hpl) fun σ H Q ⟨env, F, hR, h⟩ => ⟨env, F, hR, h.bind.imp fun xs e1 F1 H1 hR1 s1 h1 vs rv => by
    obtain ⟨d, hd, h2⟩ := h1.known (hn xs)
    exact ⟨F1, xs, d, hR1.q.sub, rv, hd, newOk hR1 h2⟩⟩
theorem ev_opN {op : Operator} {g : D → D → R D} (hn : ∀ x y c fs, g x y ≠ .ex c fs) (ho : OpR X (binaryOp op) (r2L X.K C.ca g)) (ha : PE X a (tE X.K C own fa)) (hb : PE X b (tE X.K C own fb)) : PE X (.BinOp a op b pos) (tN X.K C own (e2 g fa fb)) :=
  pe_imp (pe_op ho ha hb) fun σ H Q ⟨env, F, hR, h⟩ => ⟨env, F, hR, h.bind.imp fun x e1 F1 H1 hR1 s1 h1 v rv => ⟨e1, F1, hR1, h1.bind.imp fun y e2 F2 H2 hR2 s2 h2 w rw' => by
    obtain ⟨d, hd, h3⟩ := h2.known (hn x y)
    exact ⟨F2, x, y, d, hR2.q.sub, rv.mono s2, rw', hd, newOk hR2 h3⟩⟩⟩
def catD : D → D → R D
  | .lst xs, .lst ys => if xs.length + ys.length ≤ sizeLine then .ok (.lst (xs ++ ys)) else .no
  | _, _ => .no
def repD : D → D → R D
  | .lst xs, .int k => if (-k).toNat < 9223372036854775808 ∧ k.toNat < 9223372036854775808 ∧ xs.length * k.toNat ≤ sizeLine then .ok (.lst (List.replicate k.toNat xs).flatten) else .no
  | _, _ => .no
theorem catD_ne : ∀ x y c fs, catD x y ≠ .ex c fs := fun x y c fs z => by
  unfold catD at z
  split at z
  · split at z <;> cases z
  · cases z
theorem repD_ne : ∀ x y c fs, repD x y ≠ .ex c fs := fun x y c fs z => by
  unfold repD at z
  split at z
  · split at z <;> cases z
  · cases z
theorem oo_cat {ca : CA} : OpR X (binaryOp .Add) (r2L X.K ca catD) := fun pins s σ H x y v u Q I rx ry ⟨F, a, b, d, sub, ra, rb, hg, q⟩ => by
  unfold catD at hg
  split at hg
  · split at hg
    · rename_i hl
      cases hg
      cases ra with
      | lst ha rs =>
        cases rb with
        | lst hb rs' => exact op_cat pins s σ H _ _ v u Q I rx ry ⟨_, _, _, _, rfl, rfl, sub _ _ ha, sub _ _ hb, by rw [← rs.length, ← rs'.length]; exact hl, fun p hp => q p _ hp ⟨_, upd_same, rs.append rs'⟩⟩
    · cases hg
  · cases hg
theorem reps_rep {K : PySem.W.Frag} {ca : CA} {F : Hp} {xs : List D} {vs : List V} (r : Reps K ca F xs vs) : ∀ n, Reps K ca F (List.replicate n xs).flatten (List.replicate n vs).flatten
  | 0 => .nil
  | n + 1 => by
    rw [List.replicate_succ, List.replicate_succ, List.flatten_cons, List.flatten_cons]
    exact r.append (reps_rep r n)
theorem oo_rep {ca : CA} : OpR X (binaryOp .Mult) (r2L X.K ca repD) := fun pins s σ H x y v u Q I rx ry ⟨F, a, b, d, sub, ra, rb, hg, q⟩ => by
  unfold repD at hg
  split at hg
  · split at hg
    · rename_i hl
      cases hg
      cases rb
      cases ra with
      | lst ha rs => exact op_rep pins s σ H _ _ v u Q I rx ry ⟨_, _, _, rfl, rfl, sub _ _ ha, by rw [two63]; omega, by rw [two63]; omega, by rw [← rs.length]; exact hl.2.2, fun p hp => q p _ hp ⟨_, upd_same, reps_rep rs _⟩⟩
    · cases hg
  · cases hg
end

/-! ### slices -/
abbrev PF := En → R (Option Int × En)
def pNone : PF := fun env => .ok (none, env)
def intO : D → R (Option Int)
  | .int i => .ok (some i)
  | _ => .no
def pSome (f : EF) : PF := fun env => (f env).bind fun p => (intO p.1).bind fun i => .ok (i, p.2)
def tP (K : PySem.W.Frag) (C : Cd) (own : List Nat) (f : PF) : TO := fun σ H Q => ∃ env F, RE K C.ca C.B own env σ F H ∧ Pst K C own (f env) σ F fun o _ _ H' => Q o H'
def eSl (g : D → Option Int → Option Int → R D) (fa : EF) (fl fu : PF) : EF := fun env => (fa env).bind fun p => (fl p.2).bind fun q => (fu q.2).bind fun r => (g p.1 q.1 r.1).bind fun d => .ok (d, r.2)
def cutL {α : Type} (xs : List α) (lo hi : Option Int) : List α := (xs.drop (HT.sIx xs.length 0 lo)).take (HT.sIx xs.length xs.length hi - HT.sIx xs.length 0 lo)
def slL : D → Option Int → Option Int → R D
  | .lst xs, lo, hi => .ok (.lst (cutL xs lo hi))
  | .fro xs, lo, hi => .ok (.lst (cutL xs lo hi))
  | _, _, _ => .no
def slT : D → Option Int → Option Int → R D
  | .tup xs, lo, hi => .ok (.tup (cutL xs lo hi))
  | .str z, lo, hi => if z.length ≤ sizeLine then .ok (.str (cutS z lo hi)) else .no
  | _, _, _ => .no
theorem slL_ne : ∀ x l h c fs, slL x l h ≠ .ex c fs := fun x l h c fs z => by unfold slL at z; split at z <;> cases z
theorem slT_ne : ∀ x l h c fs, slT x l h ≠ .ex c fs := fun x l h c fs z => by
  unfold slT at z
  split at z
  · cases z
  · split at z <;> cases z
  · cases z
section
variable {X : Cx} {C : Cd} {own : List Nat} {a b : Expr} {lo hi : Option Expr} {p2 pos : Pos} {fa : EF} {fl fu : PF}
theorem po_imp {e : Option Expr} {t t' : TO} (h : PO X e t) (g : ∀ σ H Q, t' σ H Q → t σ H Q) : PO X e t' := ⟨fun pins s σ H Q I q => h.run pins s σ H Q I (g _ _ _ q)⟩
theorem ep_none : PO X none (tP X.K C own pNone) := po_imp po_none fun σ H Q ⟨env, F, hR, h⟩ => h.here hR
theorem ep_some (h : PE X a (tE X.K C own fa)) : PO X (some a) (tP X.K C own (pSome fa)) :=
  po_imp (po_some h) fun σ H Q ⟨env, F, hR, h⟩ => ⟨env, F, hR, h.bind.imp fun d e1 F1 H1 hR1 s1 h1 v r => by
    cases r <;> first | exact h1.elim | exact ⟨_, rfl, h1.here hR1⟩⟩
theorem Reps.cut {K : PySem.W.Frag} {ca : CA} {F : Hp} {xs : List D} {vs : List V} (r : Reps K ca F xs vs) (lo hi : Option Int) : Reps K ca F (cutL xs lo hi) (cutV vs lo hi) := by
  unfold cutL cutV
  rw [← r.length]
  exact (r.drop _).take _
theorem ev_slL (he : PE X a (tE X.K C own fa)) (hl : PO X lo (tP X.K C own fl)) (hu : PO X hi (tP X.K C own fu)) : PE X (.Subscript a (.Slice lo hi none p2) pos) (tN X.K C own (eSl slL fa fl fu)) :=
  pe_imp (pe_slice sl_list he hl hu) fun σ H Q ⟨env, F, hR, h⟩ => ⟨env, F, hR, h.bind.imp fun d e1 F1 H1 hR1 s1 h1 v r => ⟨e1, F1, hR1, h1.bind.imp fun o e2 F2 H2 hR2 s2 h2 => ⟨e2, F2, hR2, h2.bind.imp fun o' e3 F3 H3 hR3 s3 h3 => by
    obtain ⟨k, hk, h4⟩ := h3.known (slL_ne d o o')
    have r := r.mono (s2.trans s3)
    cases r with
    | lst hp rs => cases hk; exact ⟨_, _, rfl, SqL.of (hR3.q.sub _ _ hp), fun p hp' => newOk hR3 h4 p _ hp' ⟨_, upd_same, rs.cut _ _⟩⟩
    | fro hp rs => cases hk; exact ⟨_, _, rfl, Same.seq hR3.q.sub hp, fun p hp' => newOk hR3 h4 p _ hp' ⟨_, upd_same, rs.cut _ _⟩⟩
    | _ => cases hk⟩⟩⟩
theorem cut_whole {xs : List D} {lo hi : Option Int} (h : HT.sIx xs.length 0 lo = 0 ∧ HT.sIx xs.length xs.length hi = xs.length) : cutL xs lo hi = xs := by
  unfold cutL
  rw [h.1, h.2, List.drop_zero, Nat.sub_zero, List.take_length]
theorem ev_slT (he : PE X a (tE X.K C own fa)) (hl : PO X lo (tP X.K C own fl)) (hu : PO X hi (tP X.K C own fu)) : PE X (.Subscript a (.Slice lo hi none p2) pos) (tE X.K C own (eSl slT fa fl fu)) :=
  pe_imp (pe_slice (SlR.or sl_tupA sl_str) he hl hu) fun σ H Q ⟨env, F, hR, h⟩ => ⟨env, F, hR, h.bind.imp fun d e1 F1 H1 hR1 s1 h1 v r => ⟨e1, F1, hR1, h1.bind.imp fun o e2 F2 H2 hR2 s2 h2 => ⟨e2, F2, hR2, h2.bind.imp fun o' e3 F3 H3 hR3 s3 h3 => by
    obtain ⟨k, hk, h4⟩ := h3.known (slT_ne d o o')
    have r := r.mono (s2.trans s3)
    cases r with
    | tup hp rs =>
      cases hk
      refine .inl ⟨_, _, rfl, Same.seqT hR3.q.sub hp, fun hw => ?_, fun hw p hp' => ?_⟩
      · rw [← rs.length] at hw
        rw [cut_whole hw] at h4
        exact h4.here hR3 _ (.tup hp rs)
      · exact h4 _ _ (hR3.step (Stp.new hR3.q.sub hp')) (same_upd (hR3.q.sub.free hp')) _ (.tup (.of upd_same) ((rs.cut _ _).mono (same_upd (hR3.q.sub.free hp'))))
    | str z =>
      unfold slT at hk
      dsimp only at hk
      split at hk
      · rename_i hz
        cases hk
        exact .inr ⟨z, rfl, hz, h4.here hR3 _ (.str _)⟩
      · cases hk
    | _ => cases hk⟩⟩⟩
/-- x[::-1] of a list -/
def revD : D → R D
  | .lst xs => .ok (.lst xs.reverse)
  | .fro xs => .ok (.lst xs.reverse)
  | _ => .no
theorem revD_ne : ∀ x c fs, revD x ≠ .ex c fs := fun x c fs z => by unfold revD at z; split at z <;> cases z
end

/-! ### objects of one's own, read -/
section
variable {X : Cx} {C : Cd} {own : List Nat} {b : Expr} {fb : EF} {x y : Str} {p q pos : Pos}
theorem RE.still {K : PySem.W.Frag} {ca : CA} {B : Bs} {env : En} {σ : L2.St} {F H F' H' Fp : Hp} (h : RE K ca B own env σ F H) (sF : Same F Fp) (st : Stp Fp H F' H') : RE K ca B own env σ F H' :=
  h.step ⟨fun p o e => st.sH _ _ (h.q.sub _ _ e), Same.refl _, st.sH, fun p hp => .inl hp, fun _ _ z => z⟩
def lenO (i : Nat) : EF := fun env => match env[i]? with
  | some (some d) => (lenD [d]).bind fun r => .ok (r, env)
  | _ => .no
theorem lenD_flat {ds : List D} {d : D} (h : lenD ds = .ok d) : ∃ k, d = .int k := by
  unfold lenD at h
  split at h
  · cases h; exact ⟨_, rfl⟩
  · cases h; exact ⟨_, rfl⟩
  · cases h; exact ⟨_, rfl⟩
  · split at h
    · cases h; exact ⟨_, rfl⟩
    · cases h
  · cases h
theorem Ow.view {K : PySem.W.Frag} {ca : CA} {B : Bs} {F H : Hp} {d : D} {p : Addr} (O : Ow K ca B F H d p) (sub : Same F H) : ∃ Fp, Same F Fp ∧ Same Fp H ∧ Rep K ca Fp d (.ref p) := by
  obtain ⟨o, ho, _, r⟩ := O.o.rep O.f
  refine ⟨_, same_upd O.f, fun q u e => ?_, r⟩
  by_cases hb : q = p
  · subst hb; rw [upd_same] at e; cases e; exact ho
  · rw [upd_ne hb] at e; exact sub q u e
theorem ev_lenO (i : Nat) (hm : X.mg "len" = none) (hi : own.contains i = true := by rfl) (hN : X.N[i]? = some y := by rfl) (hv : Vis X.env.scope y := by first | exact Or.inl rfl | exact Or.inr (Or.inl rfl) | exact Or.inr (Or.inr rfl)) (hd : (y == ("__debug__" : Str)) = false := by decide)
    (hcd : (y == ("__classdict__" : Str)) = false := by decide) (hg : Gl X "len" := by rfl) (he : starEach [.Name y q] X.env = (false, eval (.Name y q) X.env) :: starEach [] X.env := by rfl) (hpl : (backTo pos (starEach [] X.env)).any (·.1) = false := by rfl) :
    PE X (.Call (.Name "len" p) [.Name y q] [] pos) (tE X.K C own (lenO i)) :=
  pe_imp (pe_callB (oc_len (ca := C.ca)) hg hm (by decide +kernel) (pa_cons (pv i hN hv hd hcd) pa_nil he) (by decide) (by decide) he hpl) fun σ H Q ⟨env, F, hR, h⟩ => by
    have hi : i ∈ own := by simpa using hi
    unfold lenO at h
    split at h
    · rename_i d e0
      obtain ⟨r, hr, h2⟩ := h.known (lenD_ne [d])
      obtain ⟨p, hp, O⟩ := hR.ow i d hi e0
      obtain ⟨Fp, s1, s2, rp⟩ := O.view hR.q.sub
      obtain ⟨k, rfl⟩ := lenD_flat hr
      exact ⟨_, hp, Fp, [d], _, s2, .one rp, hr, fun v F' H' st rv => by cases rv; exact h2 F H' (hR.still s1 st) (Same.refl _) _ (.int k)⟩
    · exact h.elim
def ixO (i : Nat) (fb : EF) : EF := fun env => match env[i]? with
  | some (some _) => (fb env).bind fun p => match p.2[i]?, p.1 with
    | some (some (.lst xs)), .int k => (R.ofOpt (atI xs k)).bind fun d => .ok (d, p.2)
    | _, _ => .no
  | _ => .no
theorem ev_ixO (i : Nat) (hb : PE X b (tE X.K C own fb)) (hi : own.contains i = true := by rfl) (hN : X.N[i]? = some y := by rfl) (hv : Vis X.env.scope y := by first | exact Or.inl rfl | exact Or.inr (Or.inl rfl) | exact Or.inr (Or.inr rfl)) (hd : (y == ("__debug__" : Str)) = false := by decide)
    (hcd : (y == ("__classdict__" : Str)) = false := by decide) (hs : PlainIx b := by exact fun _ _ => rfl) : PE X (.Subscript (.Name y q) b pos) (tE X.K C own (ixO i fb)) :=
  pe_imp (pe_ix ix_list (pv i hN hv hd hcd) hb hs) fun σ H Q ⟨env, F, hR, h⟩ => by
    have hi : i ∈ own := by simpa using hi
    unfold ixO at h
    split at h
    · rename_i d0 e0
      obtain ⟨p0, hp0, O0⟩ := hR.ow i d0 hi e0
      refine ⟨_, hp0, env, F, hR, h.bind.imp fun kd e1 F1 H1 hR1 s1 h1 iv ri => ?_⟩
      dsimp only at h1
      cases e3 : e1[i]? with
      | none => rw [e3] at h1; exact h1.elim
      | some od =>
        cases od with
        | none => rw [e3] at h1; exact h1.elim
        | some d1 =>
          rw [e3] at h1
          cases d1 <;> try exact h1.elim
          rename_i xs
          cases ri <;> try exact h1.elim
          rename_i k
          obtain ⟨d, hd, h2⟩ := Pst.known h1 (fun c fs => ofOpt_ne)
          obtain ⟨p1, hp1, O⟩ := hR1.ow i _ hi e3
          rw [hp0] at hp1
          cases hp1
          obtain ⟨ws, a1, a2⟩ := O.o
          obtain ⟨w, h3, h4⟩ := atI_rep a2 (ofOpt_eq hd)
          exact ⟨_, _, _, _, rfl, rfl, SqL.of a1, h3, h2.here hR1 _ h4⟩
    · exact h.elim
/-- x == e, x != e, of an object of one's own: the answer True or False -/
def isBl : D → Bool
  | .bl _ => true
  | _ => false
def cmpO (i : Nat) (g : D → D → R D) (fb : EF) : EF := fun env => match env[i]? with
  | some (some _) => (fb env).bind fun p => match p.2[i]? with
    | some (some d) => (g d p.1).nox.bind fun r => if isBl r = true then .ok (r, p.2) else .no
    | _ => .no
  | _ => .no
theorem ev_cmpO (i : Nat) {op : CmpOp} {g : D → D → R D} (ho : OpR X (compareOp op) (r2 X.K C.ca g)) (hb : PE X b (tE X.K C own fb)) (hi : own.contains i = true := by rfl) (hN : X.N[i]? = some y := by rfl) (hv : Vis X.env.scope y := by first | exact Or.inl rfl | exact Or.inr (Or.inl rfl) | exact Or.inr (Or.inr rfl)) (hd : (y == ("__debug__" : Str)) = false := by decide)
    (hcd : (y == ("__classdict__" : Str)) = false := by decide) (hm : behindInMarks op b = false := by first | exact nomark _ | rfl) : PE X (.Compare (.Name y q) [op] [b] pos) (tE X.K C own (cmpO i g fb)) :=
  pe_imp (pe_cmpR ho (pv i hN hv hd hcd) hb hm) fun σ H Q ⟨env, F, hR, h⟩ => by
    have hi : i ∈ own := by simpa using hi
    unfold cmpO at h
    split at h
    · rename_i d0 e0
      obtain ⟨p0, hp0, O0⟩ := hR.ow i d0 hi e0
      refine ⟨_, hp0, env, F, hR, h.bind.imp fun db e1 F1 H1 hR1 s1 h1 w rw' => ?_⟩
      dsimp only at h1
      split at h1
      · rename_i d e3
        obtain ⟨p1, hp1, O⟩ := hR1.ow i _ hi e3
        rw [hp0] at hp1
        cases hp1
        obtain ⟨Fp, t1, t2, rp⟩ := O.view hR1.q.sub
        cases eg : g d db with
        | ex c fs => rw [eg] at h1; exact h1.elim
        | no => rw [eg] at h1; exact h1.elim
        | ok r =>
          rw [eg] at h1
          dsimp only [R.nox_ok, R.bind_ok] at h1
          split at h1
          · cases r <;> rename_i hbl <;> try cases hbl
            exact ⟨Fp, d, db, _, t2, rp, rw'.mono t1, eg, fun v F' H' st rv => by cases rv; exact h1 F1 H' (hR1.still t1 st) (Same.refl _) _ (.bl _)⟩
          · exact h1.elim
      · exact h1.elim
    · exact h.elim
end
end Dl

namespace Ru
open PySem PySem.Spec PyProof.Rows L2
/-! ### C.m(..): a def of a class, read off the class and called with all its arguments -/
section
variable {X : Cx} {pins : List (Addr × Obj)} {σ : L2.St} {H : Hp} {s : Shared} {C g : Addr} {mc : Value} {m : Str} {A : Around} {E0 : Value → Shared → Prop}
theorem getcf_ok {pl : Sem Bool} {Q : Value × List Value → Shared → Prop} (I : Inv X pins σ H s) (r : ClX.CRead X.K C mc) (k : ClX.CVal X.K C mc m (.ref g) (.ref g)) (h : ∀ s', Inv X pins σ H s' → Q (.ref g, []) s') :
    wpAny (model X.prog X.w) A (getMethod (.ref C) m pl) Q E0 s := PySem.W.method_cls I.kIn r.ga (ClX.getcval_ok I r k h)
end
def tCFn (C : Addr) (sp : Sp) (E : XK) (ta : TE) (t : TA) : TE := fun σ H Q => ta σ H fun x H1 => x = .ref C ∧ t σ H1 fun vs H2 => sp vs H2 Q E
theorem pe_cfn {X : Cx} {CX : CXT} {k : Nat} {C g : Addr} {mc : Value} {sp : Sp} {E : XK} {o e : Expr} {es : List Expr} {m : Str} {pos apos : Pos} {ta : TE} {t : TA} {pl : Sem Bool}
    (he : PE X o ta) (r : ClX.CRead X.K C mc) (c : ClX.CVal X.K C mc m (.ref g) (.ref g)) (hk : PySem.W.keepIn X.K (.ref g) = true) (F : FnR X.prog X.w X.K X.mg X.base CX k g sp) (hr : Room k X.A) (hx : Passes CX X E) (ha : PA X (e :: es) t)
    (hst : starEach (e :: es) X.env = (false, eval e X.env) :: starEach es X.env := by rfl) (hpl : (backTo pos (starEach es X.env)).any (·.1) = false := by rfl)
    (ht : eval (.Call (.Attribute o m apos) (e :: es) [] pos) X.env = (do
      let ov ← eval o X.env
      standAt apos.atName
      let (f, first) ← holding [ov] (getMethod ov m pl)
      callWith pos f first (backTo pos (starEach (e :: es) X.env)) (backToKw pos (keywordEach [] X.env))) := by rfl) :
    PE X (.Call (.Attribute o m apos) (e :: es) [] pos) (tCFn C sp E ta t) := by
  refine ⟨fun pins s σ H Q I h => ?_⟩
  refine PySem.W.methodCall_KW (pl := pl) (thn (he.run pins s σ H _ I h) fun u s1 ⟨x, H1, I1, rx, ex, q⟩ => ?_) ht
  subst ex
  obtain rfl : u = Value.ref C := rx
  refine getcf_ok I1 r c fun s2 I2 => ?_
  refine PySem.W.callWith_K (first := []) (h₀ := X.base) I.ok.mod.kin hk (thn (ha.run pos pins s2 σ H1 _ I2 q) fun us s3 ⟨vs, H2, I3, rv, q2⟩ => ⟨I3.kIn, ?_⟩) hst hpl
  exact wpAny_call (run_fnR F hr hx I3 rv q2)
end Ru
namespace Dl
open PySem PySem.Spec PyProof.Rows L2
/-! ### x, y = a, b -/
def par2S (i j : Nat) (fs : AF) : SF := fun env => (fs env).toS fun p => match p.1 with
  | [a, b] => .nx ((p.2.set i (some a)).set j (some b))
  | _ => .no
def par3S (i j l : Nat) (fs : AF) : SF := fun env => (fs env).toS fun p => match p.1 with
  | [a, b, c] => .nx (((p.2.set i (some a)).set j (some b)).set l (some c))
  | _ => .no
section
variable {X : Cx} {C : Cd} {own own' ol : List Nat} {a b c : Expr} {fs : AF} {x y z : Str} {pos : Pos}
theorem sv_par2 {i j : Nat} {px py pt : Pos} {kt k2 pt2} (hc : X.calm = true) (hN : X.N.Nodup) (ha : PA X [a, b] (tA X.K C own fs)) (hm1 : i ≠ 0 ∨ C.B.free0) (hm2 : j ≠ 0 ∨ C.B.free0) (ho : (own.filter (fun k => k != i)).filter (fun k => k != j) = own' := by rfl) (hij : i ≠ j := by decide) (hi : X.N[i]? = some x := by rfl) (hj : X.N[j]? = some y := by rfl)
    (hx : X.env.scope.names.lookup x = some .local := by rfl) (hy : X.env.scope.names.lookup y = some .local := by rfl)
    (hw : swappedStores [.Tuple [.Name x px, .Name y py] kt pt] (.Tuple [a, b] k2 pt2) X.env = pure (some [x, y]) := by rfl)
    (hs : swapsWithSole [.Tuple [.Name x px, .Name y py] kt pt] (.Tuple [a, b] k2 pt2) pos.line X.env = pure false := by rfl) :
    PS X (.Assign [.Tuple [.Name x px, .Name y py] kt pt] (.Tuple [a, b] k2 pt2) pos) (tS X.K C own own' ol (par2S i j fs)) :=
  ps_imp (ps_par hc hN hi hj hij hx hy ha hw hs) fun Dn σ H ⟨env, F, hR, h⟩ => ⟨env, F, hR, (Sst.bind (show Sst X.K C own' ol ((fs env).toS fun p => _) F Dn from h)).imp fun ds e1 F1 H1 hR1 s1 h1 vs r => by
    dsimp only at h1
    split at h1
    · cases r with
      | cons r rs =>
        cases rs with
        | cons r' rs =>
          cases rs
          exact ⟨_, _, rfl, h1 _ F1 H1 ((hR1.put r hm1 rfl).put r' hm2 ho) (Same.refl _)⟩
    · exact h1.elim⟩
theorem sv_par3 {i j l : Nat} {px py pz pt : Pos} {kt k2 pt2} (hc : X.calm = true) (hN : X.N.Nodup) (ha : PA X [a, b, c] (tA X.K C own fs)) (hm1 : i ≠ 0 ∨ C.B.free0) (hm2 : j ≠ 0 ∨ C.B.free0) (hm3 : l ≠ 0 ∨ C.B.free0) (ho : ((own.filter (fun k => k != i)).filter (fun k => k != j)).filter (fun k => k != l) = own' := by rfl)
    (hij : i ≠ j := by decide) (hil : i ≠ l := by decide) (hjl : j ≠ l := by decide) (hi : X.N[i]? = some x := by rfl) (hj : X.N[j]? = some y := by rfl) (hl : X.N[l]? = some z := by rfl)
    (hx : X.env.scope.names.lookup x = some .local := by rfl) (hy : X.env.scope.names.lookup y = some .local := by rfl) (hz : X.env.scope.names.lookup z = some .local := by rfl)
    (hw : swappedStores [.Tuple [.Name x px, .Name y py, .Name z pz] kt pt] (.Tuple [a, b, c] k2 pt2) X.env = pure (some [x, y, z]) := by rfl)
    (hs : swapsWithSole [.Tuple [.Name x px, .Name y py, .Name z pz] kt pt] (.Tuple [a, b, c] k2 pt2) pos.line X.env = pure false := by rfl) :
    PS X (.Assign [.Tuple [.Name x px, .Name y py, .Name z pz] kt pt] (.Tuple [a, b, c] k2 pt2) pos) (tS X.K C own own' ol (par3S i j l fs)) :=
  ps_imp (ps_par3 hc hN hi hj hl hij hil hjl hx hy hz ha hw hs) fun Dn σ H ⟨env, F, hR, h⟩ => ⟨env, F, hR, (Sst.bind (show Sst X.K C own' ol ((fs env).toS fun p => _) F Dn from h)).imp fun ds e1 F1 H1 hR1 s1 h1 vs r => by
    dsimp only at h1
    split at h1
    · cases r with
      | cons r rs =>
        cases rs with
        | cons r' rs =>
          cases rs with
          | cons r2 rs =>
            cases rs
            exact ⟨_, _, _, rfl, h1 _ F1 H1 (((hR1.put r hm1 rfl).put r' hm2 rfl).put r2 hm3 ho) (Same.refl _)⟩
    · exact h1.elim⟩
/-! ### x += e of a local number or text -/
def augS (i : Nat) (g : D → D → R D) (f : EF) : SF := fun env => match env[i]? with
  | some (some d) => (f env).toS fun p => (g d p.1).nox.toS fun r => .nx (p.2.set i (some r))
  | _ => .no
end
/-! ### keywords -/
def callK (n : Nat) (F : List D → R D) (gD : List D → List D) (fk : AF) : EF := fun env => (fk env).bind fun p => if (gD p.1).length = n then (F (gD p.1)).bind fun d => .ok (d, p.2) else .no
def makeK (c n : Nat) (G : List D → R (D × D)) (gD : List D → List D) (fk : AF) : EF := fun env => (fk env).bind fun p => if (gD p.1).length + 1 = n then (G (.ins c [] :: gD p.1)).bind fun r => (nonD r).bind fun d => .ok (d, p.2) else .no
section
variable {X : Cx} {C : Cd} {own : List Nat} {e o : Expr} {es : List Expr} {fs fk : AF} {x : Str} {p pos apos : Pos} {k n c : Nat} {f : Addr} {fd : FuncData} {ps ks : List Str} {F : List D → R D} {G : List D → R (D × D)} {kws : List Keyword} {nm : Option Str} {kpos : Pos} {fa : EF}
theorem pk_imp {t t' : TA} (h : PK X kws t) (g : ∀ σ H Q, t' σ H Q → t σ H Q) : PK X kws t' := ⟨fun pos pins s σ H Q I q => h.run pos pins s σ H Q I (g _ _ _ q)⟩
theorem ek_nil : PK X [] (tA X.K C own aNil) := pk_imp pk_nil fun σ H Q ⟨env, F, hR, h⟩ => h.here hR [] .nil
theorem ek_cons {nm : Option Str} (ha : PE X e (tE X.K C own fa)) (hr : PK X kws (tA X.K C own fs)) : PK X (⟨nm, e, kpos⟩ :: kws) (tA X.K C own (aCons fa fs)) :=
  pk_imp (pk_cons ha hr) fun σ H Q ⟨env, F, hR, h⟩ => ⟨env, F, hR, h.bind.imp fun x e1 F1 H1 hR1 s1 h1 v rv => ⟨e1, F1, hR1, h1.bind.imp fun ys e2 F2 H2 hR2 s2 h2 vs rvs => h2.here hR2 (v :: vs) (.cons (rv.mono s2) rvs)⟩⟩
theorem ev_callK {g : List Value → List Value → List Value} {gV : List V → List V → List V} {gD : List D → List D} (Gf : FnOk X.prog X.w X.K X.mg X.base (L2.CX X.prog X.w) k f fd ps (spD X.K C.ca n F)) (hr : Room k X.A) (hm : X.mg x = some (.ref f)) (hk : PySem.W.keepIn X.K (.ref f) = true)
    (hb : KBinds X.K fd ps ks g gV) (hD : ∀ (F : Hp) ds vs, Reps X.K C.ca F ds vs → Reps X.K C.ca F (gD ds) (gV [] vs)) (hx : PX X C) (hkw : PK X kws (tA X.K C own fk)) (hg : Gl X x := by rfl) (hall : (backToKw pos (keywordEach kws X.env)).all (·.1.isSome) = true := by rfl) (hks : (backToKw pos (keywordEach kws X.env)).filterMap (·.1) = ks := by rfl)
    (hdb : (x == ("__debug__" : Str)) = false := by decide) (hpl : ((backTo pos (starEach [] X.env)).any (·.1) || (backToKw pos (keywordEach kws X.env)).any (·.1.isNone)) = false := by rfl) :
    PE X (.Call (.Name x p) [] kws pos) (tE X.K C own (callK n F gD fk)) :=
  pe_imp (Ru.pe_callK0 Gf hr hg hm hk hb hx hkw hall hks hdb hpl) fun σ H Q ⟨env, F0, hR, h⟩ => ⟨env, F0, hR, h.bind.imp fun ds e1 F1 H1 hR1 s1 h1 vs r => callOk hR1 (hD F1 ds vs r) h1⟩
theorem ev_makeK {g : List Value → List Value → List Value} {gV : List V → List V → List V} {gD : List D → List D} (M : Mk X.K (C.ca c) f) (Gf : FnOk X.prog X.w X.K X.mg X.base (L2.CX X.prog X.w) k f fd ps (spM X.K C.ca n G)) (hr : Room (k + 1) X.A) (hm : X.mg x = some (.ref (C.ca c))) (hb : KBn X.K fd ps 1 ks g gV)
    (hD : ∀ (F : Hp) ds vs xa, Reps X.K C.ca F ds vs → ds.length = ks.length → ∃ vs', gV [.ref xa] vs = .ref xa :: vs' ∧ Reps X.K C.ca F (gD ds) vs') (hlen : ∀ ds, (gD ds).length + 1 = n → ds.length = ks.length) (hx : PX X C) (hkw : PK X kws (tA X.K C own fk)) (hok : C.ca.ok c = true := by rfl) (hg : Gl X x := by rfl)
    (hall : (backToKw pos (keywordEach kws X.env)).all (·.1.isSome) = true := by rfl) (hks : (backToKw pos (keywordEach kws X.env)).filterMap (·.1) = ks := by rfl) (hdb : (x == ("__debug__" : Str)) = false := by decide)
    (hpl : ((backTo pos (starEach [] X.env)).any (·.1) || (backToKw pos (keywordEach kws X.env)).any (·.1.isNone)) = false := by rfl) :
    PE X (.Call (.Name x p) [] kws pos) (tN X.K C own (makeK c n G gD fk)) :=
  pe_imp (pe_makeK0 M Gf hr hg hm hb hx hkw hall hks hdb hpl) fun σ H Q ⟨env, F0, hR, h⟩ => ⟨env, F0, hR, h.bind.imp fun ds e1 F1 H1 hR1 s1 h1 vs r => by
    have hn : (gD ds).length + 1 = n := by
      by_cases hn : (gD ds).length + 1 = n
      · exact hn
      · dsimp only at h1
        rw [if_neg hn] at h1
        exact h1.elim
    have hl := hlen ds hn
    refine ⟨rfl, by rw [← r.length]; exact hl, fun xa dx hx hdx ne => ?_⟩
    obtain ⟨vs', e', r'⟩ := hD F1 ds vs xa r hl
    rw [e']
    exact makeOk hok hR1 r' hx hdx ne h1⟩
end
/-! ### Base.__init__(self, ..) -/
section
variable {X : Cx} {C : Cd} {own : List Nat} {o : Expr} {es : List Expr} {fs : AF} {y m : Str} {p q pos apos : Pos} {k n : Nat} {f : Addr} {G : List D → R (D × D)} {CC : Addr} {mc : Value}
theorem ev_cfn (i : Nat) {pl : Sem Bool} (ho : PE X o (tC (.ref CC))) (r : ClX.CRead X.K CC mc) (cv : ClX.CVal X.K CC mc m (.ref f) (.ref f)) (hk : PySem.W.keepIn X.K (.ref f) = true) (Gf : FnR X.prog X.w X.K X.mg X.base (L2.CX X.prog X.w) k f (spM X.K C.ca n G)) (hr : Room k X.A) (hx : PX X C) (ha : PA X es (tA X.K C own fs))
    (hi : own.contains i = true := by rfl) (hN : X.N[i]? = some y := by rfl) (hv : Vis X.env.scope y := by first | exact Or.inl rfl | exact Or.inr (Or.inl rfl) | exact Or.inr (Or.inr rfl)) (hd : (y == ("__debug__" : Str)) = false := by decide)
    (hcd : (y == ("__classdict__" : Str)) = false := by decide) (he : starEach (.Name y q :: es) X.env = (false, eval (.Name y q) X.env) :: starEach es X.env := by rfl) (hpl : (backTo pos (starEach es X.env)).any (·.1) = false := by rfl)
    (ht : eval (.Call (.Attribute o m apos) (.Name y q :: es) [] pos) X.env = (do
      let ov ← eval o X.env
      standAt apos.atName
      let (f, first) ← holding [ov] (getMethod ov m pl)
      callWith pos f first (backTo pos (starEach (.Name y q :: es) X.env)) (backToKw pos (keywordEach [] X.env))) := by rfl) :
    PE X (.Call (.Attribute o m apos) (.Name y q :: es) [] pos) (tE X.K C own (callM i n G fs)) :=
  pe_imp (Ru.pe_cfn (pl := pl) ho r cv hk Gf hr hx (pa_cons (pv i hN hv hd hcd) ha he) he hpl ht) fun σ H Q ⟨env, F0, hR, h⟩ => by
    have hi : i ∈ own := by simpa using hi
    refine ⟨rfl, ?_⟩
    unfold callM at h
    split at h
    · rename_i d00 e0
      obtain ⟨p0, hp0, O0⟩ := hR.ow i d00 hi e0
      refine ⟨_, hp0, env, F0, hR, h.bind.imp fun ds e1 F1 H1 hR1 s1 h1 vs r => ?_⟩
      dsimp only at h1
      split at h1
      · rename_i d0 e2
        exact callMOk (E := C.E) hR1 hi e2 hp0 r h1
      · exact h1.elim
    · exact h.elim
end
/-! ### def m(self, a, *rest) -/
/-- m: the plain parameters, self too -/
def starD (m : Nat) (G : List D → R (D × D)) (ds : List D) : R (D × D) := if m ≤ ds.length ∧ (ds.drop m).length ≤ sizeLine then G (ds.take m ++ [.tup (ds.drop m)]) else .no
section
variable {P : Program} {w : World} {K : PySem.W.Frag} {mg : Str → Option Value} {base : Heap} {ca : CA} {CX : CXT}
theorem Reps.tk {F : Hp} {ds : List D} {vs : List V} (r : Reps K ca F ds vs) (n : Nat) : Reps K ca F (ds.take n) (vs.take n) := r.take n
theorem star_imp {m n : Nat} {G : List D → R (D × D)} (hm : 0 < m) : ∀ vs H Q E, spM K ca n (starD m G) vs H Q E →
    ∃ ws rest, vs = ws ++ rest ∧ ws.length = m ∧ rest.length ≤ sizeLine ∧ ∀ p, H p = none → spM K ca (m + 1) G (ws ++ [V.ref p]) (upd H p (.tup rest)) Q E := by
  rintro vs H Q E ⟨F, d0, ds, p0, vs', rfl, pre, hF, O, r, hl, h⟩
  unfold starD at h
  by_cases hc : m ≤ (d0 :: ds).length ∧ ((d0 :: ds).drop m).length ≤ sizeLine
  · rw [if_pos hc] at h
    obtain ⟨m, rfl⟩ : ∃ k, m = k + 1 := ⟨m - 1, by omega⟩
    rw [List.take_succ_cons, List.drop_succ_cons] at h
    have hlen := r.length
    have h1 : m ≤ ds.length := by have := hc.1; rw [List.length_cons] at this; omega
    refine ⟨.ref p0 :: vs'.take m, vs'.drop m, by rw [List.cons_append, List.take_append_drop], by rw [List.length_cons, List.length_take]; omega, ?_, fun p hp => ?_⟩
    · have := hc.2
      rw [List.drop_succ_cons, List.length_drop] at this
      rw [List.length_drop]; omega
    · have st : Stp F H (upd F p (.tup (vs'.drop m))) (upd H p (.tup (vs'.drop m))) := Stp.new pre.sub hp
      have hFp : F p = none := pre.sub.free hp
      have ne : p0 ≠ p := fun z => O.there (z ▸ hp)
      have comp : ∀ {F' H' : Hp}, StM ca.T p0 (upd F p (.tup (vs'.drop m))) (upd H p (.tup (vs'.drop m))) F' H' → StM ca.T p0 F H F' H' := fun {F' H'} s =>
        ⟨s.sub, st.sF.trans s.sF, fun q o e n t => s.kp q o (st.sH _ _ e) n t, fun q hq => by
          by_cases hb : q = p
          · subst hb; exact .inr (.of hp)
          · rcases s.nw q hq with z | z
            · rw [upd_ne hb] at z; exact .inl z
            · exact .inr (z.down hb), fun q ps z => st.nt q ps (s.nt q ps z), s.tb, s.hF⟩
      refine ⟨upd F p (.tup (vs'.drop m)), d0, ds.take m ++ [.tup (ds.drop m)], p0, vs'.take m ++ [.ref p], rfl, ⟨st.sub, pre.tb.ext st.sH, fun q ps z => pre.nt q ps (st.nt q ps z)⟩, by rw [upd_ne ne]; exact hF, O.step st, ((r.take m).mono st.sF).append (.one (.tup (.of upd_same) ((r.drop m).mono st.sF))), ?_, ?_⟩
      · rw [List.length_append, List.length_take, List.length_singleton]; omega
      · rw [List.cons_append] at h
        cases eg : G (d0 :: (ds.take m ++ [.tup (ds.drop m)])) with
        | ok rr => rw [eg] at h; exact fun v F' H' s O' rv => h v F' H' (comp s) O' rv
        | ex c fs => rw [eg] at h; exact fun e o F' H' s xr => h e o F' H' (comp s) xr
        | no => rw [eg] at h; exact h.elim
  · rw [if_neg hc] at h; exact h.elim
end
end Dl

namespace Dl
open PySem PySem.Spec PyProof.Rows L2

/-! ### defs that return a new object, the caller's own -/
def spN (K : PySem.W.Frag) (ca : CA) (n : Nat) (f : List D → R D) : Sp := fun vs H Q E => ∃ F ds, Pre ca F H ∧ Reps K ca F ds vs ∧ ds.length = n ∧ match f ds with
  | .ok d => ∀ p F' H', StC ca.T F H F' H' → F' p = none → NoO H p → OwO K ca F' H' d p → Q (.ref p) H'
  | .ex c fs => ∀ e o F' H', StC ca.T F H F' H' → XR K ca c fs e o F' → E e o H'
  | .no => False
def runN (n : Nat) (g : SF) (ds : List D) : R D := match g (startE n ds) with
  | .rt d _ => .ok d
  | .ex c fs => .ex c fs
  | _ => .no
section
variable {X : Cx} {C : Cd} {own own' ol : List Nat} {a e : Expr} {es : List Expr} {fs : AF} {fa : EF} {x y : Str} {p q pos : Pos} {k n : Nat} {f : Addr} {fd : FuncData} {ps : List Str} {F : List D → R D}
theorem RE.fshOf {K : PySem.W.Frag} {ca : CA} {B : Bs} {env : En} {σ : L2.St} {F H F' H' : Hp} {d : D} {p : Addr} (h : RE K ca B own env σ F H) (hp : NoO H p) (hF : F' p = none) (O : OwO K ca F' H' d p) : Fsh K ca B own env σ F' H' d p where
  o := O
  f := hF
  b := h.q.noO hp
  m := fun z => (h.q.mp _ z).1 hp
  dis := fun j e hj he z => by
    obtain ⟨p', h1, h2⟩ := h.ow j e hj he
    rw [z] at h1
    cases h1
    exact h2.o.thr hp
theorem callNOk {σ : L2.St} {F1 H1 : Hp} {env : En} {ds : List D} {vs : List V} {Q : VK} (hR : RE X.K C.ca C.B own env σ F1 H1) (r : Reps X.K C.ca F1 ds vs)
    (h : Pst X.K C own (if ds.length = n then (F ds).bind fun d => .ok (d, env) else .no) σ F1 fun d e F' H' => ∀ p, Fsh X.K C.ca C.B own e σ F' H' d p → Q (.ref p) H') : spN X.K C.ca n F vs H1 Q C.E := by
  by_cases hn : ds.length = n
  · rw [if_pos hn] at h
    refine ⟨F1, ds, hR.q.pre, r, hn, ?_⟩
    cases e : F ds with
    | ok d => rw [e] at h; exact fun p F' H' st hF hp O => h F' H' (hR.stepC st) st.sF p (hR.fshOf hp hF O)
    | ex c fs => rw [e] at h; exact fun e o F' H' st xr => h e o F' H' (hR.q.stepC st) st.sF xr
    | no => rw [e] at h; exact h
  · rw [if_neg hn] at h; exact h.elim
theorem ev_callN (Gf : FnOk X.prog X.w X.K X.mg X.base (L2.CX X.prog X.w) k f fd ps (spN X.K C.ca n F)) (hr : Room k X.A) (hm : X.mg x = some (.ref f)) (hk : PySem.W.keepIn X.K (.ref f) = true) (hb : Binds X.K fd ps []) (hx : PX X C) (ha : PA X (e :: es) (tA X.K C own fs))
    (hg : Gl X x := by rfl) (hdb : (x == ("__debug__" : Str)) = false := by decide) (he : starEach (e :: es) X.env = (false, eval e X.env) :: starEach es X.env := by rfl) (hpl : (backTo pos (starEach es X.env)).any (·.1) = false := by rfl) :
    PE X (.Call (.Name x p) (e :: es) [] pos) (tN X.K C own (callF n F fs)) :=
  pe_imp (pe_call Gf hr hg hm hk hb .nil hx ha hdb he hpl) fun σ H Q ⟨env, F0, hR, h⟩ => ⟨env, F0, hR, h.bind.imp fun ds e1 F1 H1 hR1 s1 h1 vs r => by
    show spN X.K C.ca n F (vs ++ []) H1 Q C.E
    rw [List.append_nil]
    exact callNOk hR1 r h1⟩
/-- return of a new value -/
theorem sv_retL (he : PE X a (tN X.K C own fa)) (hw : C.nw = true := by rfl) : PS X (.Return (some a) pos) (tS X.K C own own' ol (retS fa)) :=
  ps_imp (ps_ret he) fun Dn σ H ⟨env, F, hR, h⟩ => ⟨env, F, hR, (Sst.bind h).imp fun d e1 F1 H1 hR1 s1 h1 p z => h1 (.ref p) F1 H1 hR1.q hR1.mutF (Same.refl _) (by
    unfold RT
    rw [hw]
    exact ⟨p, rfl, z.f, z.b, z.m, z.o⟩)⟩
/-- return of an object of one's own -/
theorem sv_retO (i : Nat) (hm : i ≠ 0 ∨ C.B.free0) (hi : own.contains i = true := by rfl) (hN : X.N[i]? = some y := by rfl) (hv : Vis X.env.scope y := by first | exact Or.inl rfl | exact Or.inr (Or.inl rfl) | exact Or.inr (Or.inr rfl)) (hd : (y == ("__debug__" : Str)) = false := by decide)
    (hcd : (y == ("__classdict__" : Str)) = false := by decide) (hw : C.nw = true := by rfl) : PS X (.Return (some (.Name y q)) pos) (tS X.K C own own' ol (retS (eV i))) :=
  ps_imp (ps_ret (pv i hN hv hd hcd)) fun Dn σ H ⟨env, F, hR, h⟩ => by
    have hi : i ∈ own := by simpa using hi
    unfold retS eV at h
    cases e : env[i]? with
    | none => rw [e] at h; exact h.elim
    | some o =>
      cases o with
      | none => rw [e] at h; exact h.elim
      | some d =>
        rw [e] at h
        obtain ⟨p, hp, O⟩ := hR.ow i d hi e
        refine ⟨.ref p, hp, ?_⟩
        refine h (.ref p) F H hR.q hR.mutF (Same.refl _) ?_
        unfold RT
        rw [hw]
        have nm : C.B.m ≠ some p := fun z => by
          rcases hm with hm | hm
          · obtain ⟨z0, z1, d0, z2⟩ := hR.mt p z
            exact hR.ne i 0 p d d0 hi z0 hm e z2 hp z1
          · rw [hm.1] at z; cases z
        exact ⟨p, rfl, O.f, O.b.resolve_right nm, nm, O.o⟩
end
section
variable {P : Program} {w : World} {K : PySem.W.Frag} {mg : Str → Option Value} {base : Heap} {ca : CA}
theorem fn_N {x qual : Str} {st : Stmt} {f : Addr} {fd : FuncData} {N ps : List Str} {k : Nat} {g : SF} {own' : List Nat} (T : Fun K x qual st f fd) (S : FnScope N ps (defScope st))
    (hb : ∀ (B : Bs), B.free0 → ∀ (cdv : Value) (A : Around) (outer : List PySem.Env) (s : Shared) (H : Hp) (E : XK), Room k (A.deeper (envOfC qual (defScope st) s.heap.objs.size f cdv)) →
      PSs (cxOf (L2.CX P w) P w K mg base N qual (defScope st) f cdv A outer s H E) (defBody st) (tS K (.top ca B E true) [] own' [] g)) : FnOk P w K mg base (L2.CX P w) (k + 1) f fd ps (spN K ca ps.length (runN N.length g)) := by
  refine T.okX S (fun vs H Q E ⟨F, ds, _, r, hl, _⟩ => by rw [← r.length]; exact hl) (fun cdv A outer s H vs Q E hr ⟨F, ds, pre, r, hl, hm⟩ => ⟨_, hb ⟨F, H, none, none⟩ ⟨rfl, rfl⟩ cdv A outer s H E hr, ?_⟩)
  refine ⟨startE N.length ds, F, re_start pre r, ?_⟩
  unfold runN at hm
  cases eg : g (startE N.length ds) with
  | nx e => rw [eg] at hm; exact hm.elim
  | rt d e =>
    rw [eg] at hm
    intro v F' H' q m s rv
    obtain ⟨p, rfl, h1, h2, h3, h4⟩ := rv
    exact hm p F' H' (bq_stC q) h1 h2 h4
  | bk e => rw [eg] at hm; exact hm.elim
  | ct e => rw [eg] at hm; exact hm.elim
  | ex c fs => rw [eg] at hm; exact fun e o F' H' q s xr => hm e o F' H' (bq_stC q) xr
  | no => rw [eg] at hm; exact hm.elim
end
end Dl

namespace Dl
open PySem PySem.Spec PyProof.Rows L2

/-! ### a op b op c .. -/
abbrev HF := D → EF
abbrev KF := D → TF
def hLast (g : D → D → R D) (fb : EF) : HF := fun x env => (fb env).bind fun q => (g x q.1).bind fun r => .ok (r, q.2)
def hLink (g : D → D → R D) (fb : EF) (h : HF) : HF := fun x env => (fb env).bind fun q => (g x q.1).bind fun r => (blD r).bind fun b => if b = true then h q.1 q.2 else .ok (.bl false, q.2)
def kLast (g : D → D → R D) (fb : EF) : KF := fun x env => (fb env).bind fun q => (g x q.1).bind fun r => (blD r).bind fun b => .ok (b, q.2)
def kLink (g : D → D → R D) (fb : EF) (h : KF) : KF := fun x env => (fb env).bind fun q => (g x q.1).bind fun r => (blD r).bind fun b => if b = true then h q.1 q.2 else .ok (false, q.2)
def eCh (fa : EF) (h : HF) : EF := fun env => (fa env).bind fun p => h p.1 p.2
def tCh (fa : EF) (h : KF) : TF := fun env => (fa env).bind fun p => h p.1 p.2
def tU (K : PySem.W.Frag) (C : Cd) (own : List Nat) (h : HF) : V → TE := fun x σ H Q => ∃ env F d, RE K C.ca C.B own env σ F H ∧ Rep K C.ca F d x ∧ Pst K C own (h d env) σ F fun r _ F' H' => ∀ v, Rep K C.ca F' r v → Q v H'
def tW (K : PySem.W.Frag) (C : Cd) (own : List Nat) (h : KF) : V → TT := fun x σ H Q => ∃ env F d, RE K C.ca C.B own env σ F H ∧ Rep K C.ca F d x ∧ Pst K C own (h d env) σ F fun b _ _ H' => Q b H'
section
variable {X : Cx} {C : Cd} {own : List Nat} {op op' op1 op2 : CmpOp} {ops : List CmpOp} {a b e e1 e2 : Expr} {es : List Expr} {fa fb : EF} {h : HF} {t : KF} {pos : Pos} {g : D → D → R D}
theorem pec_imp {u u' : V → TE} (h : Ru.PEC X ops es u) (g : ∀ x σ H Q, u' x σ H Q → u x σ H Q) : Ru.PEC X ops es u' := ⟨fun pos pins s σ H x v Q I r q => h.run pos pins s σ H x v Q I r (g _ _ _ _ q)⟩
theorem ptc_imp {u u' : V → TT} (h : Ru.PTC X ops es u) (g : ∀ x σ H Q, u' x σ H Q → u x σ H Q) : Ru.PTC X ops es u' := ⟨fun pos pins s σ H x v Q I r q => h.run pos pins s σ H x v Q I r (g _ _ _ _ q)⟩
theorem ec_last (hn : ∀ x y c fs, g x y ≠ .ex c fs) (ho : OpR X (compareOp op) (r2 X.K C.ca g)) (hb : PE X b (tE X.K C own fb)) : Ru.PEC X [op] [b] (tU X.K C own (hLast g fb)) :=
  pec_imp (Ru.pec_last ho hb) fun x σ H Q ⟨env, F, d, hR, r, q⟩ => ⟨env, F, hR, q.bind.imp fun y e1 F1 H1 hR1 s1 h1 w rw' => by
    obtain ⟨z, hz, h2⟩ := h1.known (hn d y)
    exact ⟨F1, d, y, z, hR1.q.sub, r.mono s1, rw', hz, fun u F2 H2 st ru => h2 F2 H2 (hR1.step st) st.sF u ru⟩⟩
theorem ec_link (hn : ∀ x y c fs, g x y ≠ .ex c fs) (ho : OpR X (compareOp op) (r2 X.K C.ca g)) (hb : PE X b (tE X.K C own fb)) (hr : Ru.PEC X (op' :: ops) (e :: es) (tU X.K C own h)) : Ru.PEC X (op :: op' :: ops) (b :: e :: es) (tU X.K C own (hLink g fb h)) :=
  pec_imp (Ru.pec_link ho hb hr) fun x σ H Q ⟨env, F, d, hR, r, q⟩ => ⟨env, F, hR, q.bind.imp fun y e1 F1 H1 hR1 s1 h1 w rw' => by
    obtain ⟨z, hz, h2⟩ := h1.known (hn d y)
    refine ⟨F1, d, y, z, hR1.q.sub, r.mono s1, rw', hz, fun u F2 H2 st ru => ?_⟩
    have h3 := h2.later st.sF
    cases z <;> try exact h2.elim
    rename_i k
    cases ru
    refine ⟨k, rfl, ?_⟩
    have hR2 := hR1.step st
    cases k with
    | true => exact ⟨e1, F2, y, hR2, rw'.mono st.sF, h3⟩
    | false => exact h3.here hR2 _ (.bl false)⟩
theorem ek_last (hn : ∀ x y c fs, g x y ≠ .ex c fs) (ho : OpR X (compareOp op) (r2 X.K C.ca g)) (hb : PE X b (tE X.K C own fb)) : Ru.PTC X [op] [b] (tW X.K C own (kLast g fb)) :=
  ptc_imp (Ru.ptc_last ho hb) fun x σ H Q ⟨env, F, d, hR, r, q⟩ => ⟨env, F, hR, q.bind.imp fun y e1 F1 H1 hR1 s1 h1 w rw' => by
    obtain ⟨z, hz, h2⟩ := h1.known (hn d y)
    refine ⟨F1, d, y, z, hR1.q.sub, r.mono s1, rw', hz, fun u F2 H2 st ru => ?_⟩
    have h3 := h2.later st.sF
    cases z <;> try exact h2.elim
    rename_i k
    cases ru
    exact ⟨k, rfl, h3.here (hR1.step st)⟩⟩
theorem ek_link (hn : ∀ x y c fs, g x y ≠ .ex c fs) (ho : OpR X (compareOp op) (r2 X.K C.ca g)) (hb : PE X b (tE X.K C own fb)) (hr : Ru.PTC X (op' :: ops) (e :: es) (tW X.K C own t)) : Ru.PTC X (op :: op' :: ops) (b :: e :: es) (tW X.K C own (kLink g fb t)) :=
  ptc_imp (Ru.ptc_link ho hb hr) fun x σ H Q ⟨env, F, d, hR, r, q⟩ => ⟨env, F, hR, q.bind.imp fun y e1 F1 H1 hR1 s1 h1 w rw' => by
    obtain ⟨z, hz, h2⟩ := h1.known (hn d y)
    refine ⟨F1, d, y, z, hR1.q.sub, r.mono s1, rw', hz, fun u F2 H2 st ru => ?_⟩
    have h3 := h2.later st.sF
    cases z <;> try exact h2.elim
    rename_i k
    cases ru
    refine ⟨k, rfl, ?_⟩
    have hR2 := hR1.step st
    cases k with
    | true => exact ⟨e1, F2, y, hR2, rw'.mono st.sF, h3⟩
    | false => exact h3.here hR2⟩
theorem ev_ch (ha : PE X a (tE X.K C own fa)) (hc : Ru.PEC X (op1 :: op2 :: ops) (e1 :: e2 :: es) (tU X.K C own h)) (hm : lastMarks (op1 :: op2 :: ops) (e1 :: e2 :: es) = false := by with_unfolding_all rfl) : PE X (.Compare a (op1 :: op2 :: ops) (e1 :: e2 :: es) pos) (tE X.K C own (eCh fa h)) :=
  pe_imp (Ru.pe_chainN ha hc hm) fun σ H Q ⟨env, F, hR, q⟩ => ⟨env, F, hR, q.bind.imp fun x e1 F1 H1 hR1 s1 h1 v rv => ⟨e1, F1, x, hR1, rv, h1⟩⟩
theorem et_ch (ha : PE X a (tE X.K C own fa)) (hc : Ru.PTC X (op1 :: op2 :: ops) (e1 :: e2 :: es) (tW X.K C own t)) (hm : lastMarks (op1 :: op2 :: ops) (e1 :: e2 :: es) = false := by with_unfolding_all rfl) : PT X (.Compare a (op1 :: op2 :: ops) (e1 :: e2 :: es) pos) (tT X.K C own (tCh fa t)) :=
  pt_imp (Ru.pt_chainN ha hc hm) fun σ H Q ⟨env, F, hR, q⟩ => ⟨env, F, hR, q.bind.imp fun x e1 F1 H1 hR1 s1 h1 v rv => ⟨e1, F1, x, hR1, rv, h1⟩⟩
end
end Dl

namespace Dl
open PySem PySem.Spec PyProof.Rows L2

/-! ### xs[::-1] -/
section
variable {X : Cx} {C : Cd} {own : List Nat} {a : Expr} {fa : EF} {p1 p2 p3 pos : Pos}
theorem ev_rev {k : Nat} (he : PE X a (tE X.K C own fa)) : PE X (.Subscript a (.Slice none none (some (.UnaryOp .USub (.Constant (.int 1) k p1) p2)) p3) pos) (tN X.K C own (e1 revD fa)) :=
  pe_imp (pe_revL he) fun σ H Q ⟨env, F, hR, h⟩ => ⟨env, F, hR, h.bind.imp fun d e1 F1 H1 hR1 s1 h1 v rv => by
    obtain ⟨z, hz, h2⟩ := h1.known (revD_ne d)
    cases rv with
    | lst hp rs => cases hz; exact ⟨_, _, rfl, SqL.of (hR1.q.sub _ _ hp), fun p hp' => newOk hR1 h2 p _ hp' ⟨_, upd_same, rs.reverse⟩⟩
    | fro hp rs => cases hz; exact ⟨_, _, rfl, Same.seq hR1.q.sub hp, fun p hp' => newOk hR1 h2 p _ hp' ⟨_, upd_same, rs.reverse⟩⟩
    | _ => cases hz⟩
end
theorem units65 {k : Nat} {A : Around} (hr : Room k A) : A.units + 65 < cLine := by
  have := hr.un
  omega
end Dl

namespace Dl
open PySem PySem.Spec PyProof.Rows L2

/-! ### isinstance of built-in types alone -/
def tab0 : D → D → Option Bool
  | .ty a, .ty c => kitB a c
  | _, _ => none
theorem tab0_ok {K : PySem.W.Frag} {ca : CA} : TabOk K ca tab0 := fun t c b h _ _ => by
  unfold tab0 at h
  split at h
  · exact ⟨_, _, rfl, rfl, kit_ty h⟩
  · cases h
end Dl

namespace Dl
open PySem PySem.Spec PyProof.Rows L2

/-! ### a def with *parts that changes its first argument -/
section
variable {P : Program} {w : World} {K : PySem.W.Frag} {mg : Str → Option Value} {base : Heap} {ca : CA}
theorem fn_Ms {x qual : Str} {st : Stmt} {f : Addr} {fd : FuncData} {N ps : List Str} {pv : Str} {k n : Nat} {g : SF} {own' : List Nat} (T : Fun K x qual st f fd) (S : FnScope N (ps ++ [pv]) (defScope st)) (hps : 0 < ps.length)
    (hbind : ∀ (kV doc pm : Value) (an : Option Addr) (cdv ct : Value) (us rest : List Value), us.length = ps.length → bindArgs (PySem.W.fnOf x qual (defArgs st) (defBody st) (defScope st) .none kV doc pm an cdv ct) ⟨us ++ rest, []⟩ = (newTuple rest >>= fun t => pure (ps.zip us ++ [(pv, t)])))
    (hb : ∀ (cdv : Value) (B : Bs) (A : Around) (outer : List PySem.Env) (s : Shared) (H : Hp) (E : XK), Room k (A.deeper (envOfC qual (defScope st) s.heap.objs.size f cdv)) →
      PSs (cxOf (L2.CX P w) P w K mg base N qual (defScope st) f cdv A outer s H E) (defBody st) (tS K (.top ca B E false) [0] own' [] g)) : FnR P w K mg base (L2.CX P w) (k + 1) f (spM K ca n (starD ps.length (runM N.length g))) := by
  obtain ⟨oc, od, kV, doc, pm, an, cdv, ct, osl, e, lk, hcd⟩ := T.ex
  rw [e] at lk
  exact (StX.fn_star (ps := ps) (pv := pv) (sp := spM K ca (ps.length + 1) (runM N.length g)) lk hcd S StX.cxUp (hbind kV doc pm an cdv ct) (body_M (hb cdv))).imp (star_imp hps)
end
end Dl

namespace Dl
open PySem PySem.Spec PyProof.Rows L2

/-! ### a look: for one expression every object of one's own stands still -/
mutual
/-- no object that may change is in it -/
def immD : D → Bool
  | .non => true
  | .bl _ => true
  | .int _ => true
  | .str _ => true
  | .tup xs => immDs xs
  | .cod _ => true
  | .ty _ => true
  | .fn _ => true
  | _ => false
def immDs : List D → Bool
  | [] => true
  | x :: xs => immD x && immDs xs
end
section
variable {K : PySem.W.Frag} {ca : CA} {F F' G : Hp}
mutual
/-- it leans on tuples alone -/
theorem Rep.imm (h : ∀ p xs, SqT K F p xs → SqT K F' p xs) : ∀ {d : D} {v : V}, Rep K ca F d v → immD d = true → Rep K ca F' d v
  | _, _, .non, _ => .non
  | _, _, .bl b, _ => .bl b
  | _, _, .int i, _ => .int i
  | _, _, .str z, _ => .str z
  | _, _, .tup q r, e => .tup (h _ _ q) (Reps.imm h r (by unfold immD at e; exact e))
  | _, _, .lst _ _, e => by unfold immD at e; cases e
  | _, _, .fro _ _, e => by unfold immD at e; cases e
  | _, _, .ins _ _ _, e => by unfold immD at e; cases e
  | _, _, .cod k q, _ => .cod k q
  | _, _, .ty n, _ => .ty n
  | _, _, .fn k, _ => .fn k
  | _, _, .dK _ _ _, e => by unfold immD at e; cases e
  | _, _, .dT _ _ _, e => by unfold immD at e; cases e
  | _, _, .setK _ _ _ _, e => by unfold immD at e; cases e
theorem Reps.imm (h : ∀ p xs, SqT K F p xs → SqT K F' p xs) : ∀ {d : List D} {v : List V}, Reps K ca F d v → immDs d = true → Reps K ca F' d v
  | _, _, .nil, _ => .nil
  | _, _, .cons r rs, e => by
    unfold immDs at e
    rw [Bool.and_eq_true] at e
    exact .cons (Rep.imm h r e.1) (Reps.imm h rs e.2)
end
end
open Classical in
/-- the heap F with the objects of A too -/
noncomputable def withF (A : Addr → Prop) (F H : Hp) : Hp := fun p => if A p then H p else F p
open Classical in
noncomputable def lessF (A : Addr → Prop) (F' : Hp) : Hp := fun p => if A p then none else F' p
/-- the addresses of the objects of one's own -/
def OwnAt (own : List Nat) (env : En) (σ : L2.St) : Addr → Prop := fun p => ∃ i d, i ∈ own ∧ env[i]? = some (some d) ∧ σ[i]? = some (some (.ref p))
section
variable {K : PySem.W.Frag} {ca : CA} {F F' H H' : Hp} {p : Addr} {A : Addr → Prop}
theorem withF_in (h : A p) : withF A F H p = H p := if_pos h
theorem withF_out (h : ¬ A p) : withF A F H p = F p := if_neg h
theorem lessF_in (h : A p) : lessF A F' p = none := if_pos h
theorem lessF_out (h : ¬ A p) : lessF A F' p = F' p := if_neg h
theorem lessF_ne {o : HO} (e : lessF A F' p = some o) : F' p = some o ∧ ¬ A p := by
  by_cases h : A p
  · rw [lessF_in h] at e; cases e
  · rw [lessF_out h] at e; exact ⟨e, h⟩
theorem OwO.rep2 {d : D} (h : OwO K ca F H d p) (s : Same F F') (e : F' p = H p) : Rep K ca F' d (.ref p) := by
  cases d with
  | lst xs =>
    obtain ⟨vs, h1, h2⟩ := h
    exact .lst (e.trans h1) (h2.mono s)
  | ins c fs =>
    obtain ⟨dx, gs, h1, h2, h3⟩ := h
    exact .ins (e.trans h1) (h2.mono s) h3
  | dct kvs =>
    rcases h with ⟨ws, h1, q, h2⟩ | ⟨ws, h1, q, h2⟩
    · exact .dK (e.trans h1) q (h2.mono s)
    · exact .dT (e.trans h1) q (h2.mono s)
  | set xs =>
    obtain ⟨ks, n, S, q, h1, h2, h3, h4⟩ := h
    subst q
    exact .setK (e.trans h1) h2 h3 h4
  | _ => exact h.elim
theorem OwO.ntup {d : D} (h : OwO K ca F H d p) : ∀ o, H p = some o → (∀ xs, o ≠ .tup xs) ∧ (∀ ob u, o ≠ .frz ob u) := by
  cases d with
  | lst xs => obtain ⟨vs, h1, h2⟩ := h; intro o e; rw [h1] at e; cases e; exact ⟨(fun _ z => nomatch z), (fun _ _ z => nomatch z)⟩
  | ins c fs => obtain ⟨dx, gs, h1, h2, h3⟩ := h; intro o e; rw [h1] at e; cases e; exact ⟨(fun _ z => nomatch z), (fun _ _ z => nomatch z)⟩
  | dct kvs =>
    rcases h with ⟨ws, h1, q, h2⟩ | ⟨ws, h1, q, h2⟩ <;> (intro o e; rw [h1] at e; cases e; exact ⟨(fun _ z => nomatch z), (fun _ _ z => nomatch z)⟩)
  | set xs => obtain ⟨ks, n, S, q, h1, h2⟩ := h; intro o e; rw [h1] at e; cases e; exact ⟨fun _ z => (by unfold SetK at z; cases z), fun _ _ z => (by unfold SetK at z; cases z)⟩
  | _ => exact h.elim
theorem RE.ownF {B : Bs} {own : List Nat} {env : En} {σ : L2.St} (h : RE K ca B own env σ F H) (a : OwnAt own env σ p) : ∃ d, Ow K ca B F H d p := by
  obtain ⟨i, d, hi, he, hp⟩ := a
  obtain ⟨q, h1, O⟩ := h.ow i d hi he
  rw [hp] at h1
  cases h1
  exact ⟨d, O⟩
theorem RE.withS {B : Bs} {own : List Nat} {env : En} {σ : L2.St} (h : RE K ca B own env σ F H) : Same F (withF (OwnAt own env σ) F H) ∧ Same (withF (OwnAt own env σ) F H) H := by
  refine ⟨fun q o e => ?_, fun q o e => ?_⟩
  · by_cases a : OwnAt own env σ q
    · obtain ⟨d, O⟩ := h.ownF a
      rw [O.f] at e; cases e
    · rw [withF_out a]; exact e
  · by_cases a : OwnAt own env σ q
    · rw [withF_in a] at e; exact e
    · rw [withF_out a] at e; exact h.q.sub _ _ e
/-- every object of one's own stands still -/
theorem RE.look {B : Bs} {own : List Nat} {env : En} {σ : L2.St} (h : RE K ca B own env σ F H) : RE K ca ⟨withF (OwnAt own env σ) F H, H, none, B.l⟩ [] env σ (withF (OwnAt own env σ) F H) H := by
  obtain ⟨s1, s2⟩ := h.withS
  refine ⟨⟨s2, Same.refl _, fun p o e _ _ => e, fun p hp => .inl hp, (fun p z => nomatch z), h.q.tb, fun p ps z => ?_⟩, h.len, fun i d _ e => ?_, fun i d z => absurd z List.not_mem_nil, fun i j p d e z => absurd z List.not_mem_nil, (fun p z => nomatch z), h.lm⟩
  · by_cases a : OwnAt own env σ p
    · obtain ⟨d, O⟩ := h.ownF a
      rw [withF_in a] at z
      exact O.o.ntbl ps z
    · rw [withF_out a] at z; exact h.q.nt p ps z
  · by_cases hi : i ∈ own
    · obtain ⟨p, h1, O⟩ := h.ow i d hi e
      exact ⟨_, h1, O.o.rep2 s1 (withF_in ⟨i, d, hi, e, h1⟩)⟩
    · obtain ⟨v, h1, r⟩ := h.fr i d hi e
      exact ⟨v, h1, r.mono s1⟩
/-- .. and may change again -/
theorem RE.unlook {B : Bs} {own : List Nat} {env : En} {σ : L2.St} (h : RE K ca B own env σ F H) (q : Bq ca ⟨withF (OwnAt own env σ) F H, H, none, B.l⟩ F' H') : RE K ca B own env σ (lessF (OwnAt own env σ) F') H' ∧ Same F (lessF (OwnAt own env σ) F') := by
  obtain ⟨s1, s2⟩ := h.withS
  have sF' : Same F F' := s1.trans q.sF
  have out : ∀ p o, F p = some o → ¬ OwnAt own env σ p := fun p o e a => by
    obtain ⟨d, O⟩ := h.ownF a
    rw [O.f] at e; cases e
  have sFL : Same F (lessF (OwnAt own env σ) F') := fun p o e => by rw [lessF_out (out p o e)]; exact sF' p o e
  have sL : Same (lessF (OwnAt own env σ) F') F' := fun p o e => (lessF_ne e).1
  have hk : ∀ p o, H p = some o → (∀ ps, o ≠ .tbl ps) → H' p = some o := fun p o e t => q.sH p o e (fun z => nomatch z) t
  have own0 : ∀ p, ¬NoO H p → F p = none → lessF (OwnAt own env σ) F' p = none := fun p h1 h2 => by
    by_cases a : OwnAt own env σ p
    · exact lessF_in a
    · rw [lessF_out a]
      cases e : F' p with
      | none => rfl
      | some o =>
        rcases q.nw p (by rw [e]; exact fun z => nomatch z) with z | z
        · have z : withF (OwnAt own env σ) F H p ≠ none := z
          rw [withF_out a] at z
          exact absurd h2 z
        · exact absurd z h1
  refine ⟨⟨⟨sL.trans q.sub, h.q.sF.trans sFL, fun p o e n t => hk p o (h.q.sH p o e n t) t, fun p hp => ?_, fun p hp => ⟨fun z => (h.q.mp p hp).1 (z.back fun o e t => hk p o e t), own0 p (h.q.mp p hp).1 (h.q.mp p hp).2⟩, q.tb, fun p ps z => q.nt p ps (sL p _ z)⟩, h.len, fun i d n e => ?_, fun i d n e => ?_, h.ne, h.mt, fun q' e => ?_⟩, sFL⟩
  · by_cases hf : F p = none
    · exact .inr (Classical.byContradiction fun n => hp (own0 p (fun z => n (h.q.noO z)) hf))
    · exact h.q.nw p hf
  · obtain ⟨v, h1, r⟩ := h.fr i d n e
    exact ⟨v, h1, r.mono sFL⟩
  · obtain ⟨p, h1, O⟩ := h.ow i d n e
    exact ⟨p, h1, O.o.move (fun o e => hk p o e fun ps z => O.o.ntbl ps (by rw [e, z])) sFL, own0 p O.o.thr O.f, O.b⟩
  · obtain ⟨a, b, c⟩ := h.lm q' e
    exact ⟨a, b, hk _ _ c fun ps z => LamX.codeO_ne ps z⟩
theorem RE.unlook_tup {B : Bs} {own : List Nat} {env : En} {σ : L2.St} (h : RE K ca B own env σ F H) (q : Bq ca ⟨withF (OwnAt own env σ) F H, H, none, B.l⟩ F' H') : ∀ p xs, SqT K F' p xs → SqT K (lessF (OwnAt own env σ) F') p xs := by
  intro p xs z
  have no : ∀ o, F' p = some o → OwnAt own env σ p → (∀ ys, o ≠ .tup ys) ∧ (∀ ob u, o ≠ .frz ob u) := fun o e a => by
    obtain ⟨d, O⟩ := h.ownF a
    refine O.o.ntup o ?_
    cases eh : H p with
    | none => exact absurd eh O.o.there
    | some u =>
      have := q.sF p u (by show withF (OwnAt own env σ) F H p = some u; rw [withF_in a]; exact eh)
      rw [e] at this
      exact this.symm
  rcases z with (z | ⟨o, z⟩) | z
  · by_cases a : OwnAt own env σ p
    · exact absurd rfl ((no _ z a).1 _)
    · exact .inl (.inl (by rw [lessF_out a]; exact z))
  · by_cases a : OwnAt own env σ p
    · exact absurd rfl ((no _ z a).2 _ _)
    · exact .inl (.inr ⟨o, by rw [lessF_out a]; exact z⟩)
  · exact .inr z
end
abbrev Cd.look (C : Cd) (B : Bs) : Cd := ⟨C.ca, B, E0, false⟩
/-- a test in which objects of one's own are read -/
def lookT (f : TF) : TF := fun env => (f env).nox.bind fun p => .ok (p.1, env)
/-- an expression in which objects of one's own are read, worth no object that may change -/
def lookE (f : EF) : EF := fun env => (f env).nox.bind fun p => if immD p.1 = true then .ok (p.1, env) else .no
section
variable {X : Cx} {C : Cd} {own : List Nat} {a : Expr} {fa : EF} {ft : TF}
theorem et_look (h : ∀ B, B.m = none ∧ B.l = C.B.l → PT X a (tT X.K (C.look B) [] ft)) : PT X a (tT X.K C own (lookT ft)) :=
  ⟨fun pins s σ H Q I ⟨env, F, hR, q⟩ => (h ⟨_, _, none, C.B.l⟩ ⟨rfl, rfl⟩).run pins s σ H Q I ⟨env, _, hR.look, by
    unfold lookT at q
    cases e : ft env with
    | ok p =>
      rw [e] at q
      intro F' H' hR' s'
      obtain ⟨r1, r2⟩ := hR.unlook hR'.q
      exact q _ _ r1 r2
    | ex c fs => rw [e] at q; exact q.elim
    | no => rw [e] at q; exact q.elim⟩⟩
theorem ev_look (h : ∀ B, B.m = none ∧ B.l = C.B.l → PE X a (tE X.K (C.look B) [] fa)) : PE X a (tE X.K C own (lookE fa)) :=
  ⟨fun pins s σ H Q I ⟨env, F, hR, q⟩ => (h ⟨_, _, none, C.B.l⟩ ⟨rfl, rfl⟩).run pins s σ H Q I ⟨env, _, hR.look, by
    unfold lookE at q
    cases e : fa env with
    | ok p =>
      rw [e] at q
      intro F' H' hR' s' v rv
      have q : Pst X.K C own (if immD p.1 = true then .ok (p.1, env) else .no) σ F _ := q
      split at q
      · rename_i hi
        obtain ⟨r1, r2⟩ := hR.unlook hR'.q
        exact q _ _ r1 r2 v (rv.imm (hR.unlook_tup hR'.q) hi)
      · exact q.elim
    | ex c fs => rw [e] at q; exact q.elim
    | no => rw [e] at q; exact q.elim⟩⟩
end
end Dl

namespace Dl
open PySem PySem.Spec PyProof.Rows L2

/-! ### one operator for many kinds of values -/
def orD (g1 g2 : D → D → R D) : D → D → R D := fun x y => match g1 x y with
  | .ok d => .ok d
  | .ex c fs => .ex c fs
  | .no => g2 x y
theorem orD_ne {g1 g2 : D → D → R D} (h1 : ∀ x y c fs, g1 x y ≠ .ex c fs) (h2 : ∀ x y c fs, g2 x y ≠ .ex c fs) : ∀ x y c fs, orD g1 g2 x y ≠ .ex c fs := fun x y c fs z => by
  unfold orD at z
  split at z
  · cases z
  · rename_i c' fs' e; exact h1 _ _ _ _ e
  · exact h2 _ _ _ _ z
section
variable {X : Cx} {ca : CA} {f : Value → Value → Sem Value} {g g1 g2 : D → D → R D}
theorem oo_or (hn : ∀ x y c fs, g1 x y ≠ .ex c fs) (h1 : OpR X f (r2 X.K ca g1)) (h2 : OpR X f (r2 X.K ca g2)) : OpR X f (r2 X.K ca (orD g1 g2)) := fun pins s σ H x y v u Q I rx ry ⟨F, a, b, d, sub, ra, rb, hg, q⟩ => by
  unfold orD at hg
  split at hg
  · rename_i d' e
    cases hg
    exact h1 pins s σ H x y v u Q I rx ry ⟨F, a, b, d, sub, ra, rb, e, q⟩
  · cases hg
  · exact h2 pins s σ H x y v u Q I rx ry ⟨F, a, b, d, sub, ra, rb, hg, q⟩
theorem layRep {K : PySem.W.Frag} {F H : Hp} {d : D} {p : Addr} {o : HO} (sub : Same F H) (hp : H p = none) (O : OwO K ca F (upd H p o) d p) : Stp F H (upd F p o) (upd H p o) ∧ Rep K ca (upd F p o) d (.ref p) := by
  obtain ⟨u, hu, ht, r⟩ := O.rep (sub.free hp)
  rw [upd_same] at hu
  cases hu
  exact ⟨Stp.new sub hp ht, r⟩
theorem oo_ofL (h : OpR X f (r2L X.K ca g)) : OpR X f (r2 X.K ca g) := fun pins s σ H x y v u Q I rx ry ⟨F, a, b, d, sub, ra, rb, hg, q⟩ =>
  h pins s σ H x y v u Q I rx ry ⟨F, a, b, d, sub, ra, rb, hg, fun p o hp O => q _ _ _ (layRep sub hp O).1 (layRep sub hp O).2⟩
end
abbrev addP : D → D → R D := addD
theorem addP_ne : ∀ x y c fs, addP x y ≠ .ex c fs := addD_ne
theorem oo_addP {X : Cx} {ca : CA} : OpR X (binaryOp .Add) (r2 X.K ca addP) := oo_add
def mulP : D → D → R D := orD (intD mulI) repD
theorem mulP_ne : ∀ x y c fs, mulP x y ≠ .ex c fs := orD_ne (intD_ne mulI_ne) repD_ne
theorem oo_mulP {X : Cx} {ca : CA} : OpR X (binaryOp .Mult) (r2 X.K ca mulP) := oo_or (intD_ne mulI_ne) oo_mul (oo_ofL oo_rep)
def andI (i j : Int) : R Int := .ok (Builtin.bitAnd i j)
def orI (i j : Int) : R Int := .ok (Builtin.bitOr i j)
def xorI (i j : Int) : R Int := .ok (Builtin.bitXor i j)
def shrI (i j : Int) : R Int := if 0 ≤ j then .ok (i / 2 ^ j.toNat) else .no
def shlI (i j : Int) : R Int := if 0 ≤ j ∧ Builtin.Int.intBits i + j.toNat ≤ 134217728 then .ok (i * 2 ^ j.toNat) else .no
theorem andI_ne : ∀ i j c fs, andI i j ≠ .ex c fs := fun _ _ _ _ z => by cases z
theorem orI_ne : ∀ i j c fs, orI i j ≠ .ex c fs := fun _ _ _ _ z => by cases z
theorem xorI_ne : ∀ i j c fs, xorI i j ≠ .ex c fs := fun _ _ _ _ z => by cases z
theorem shrI_ne : ∀ i j c fs, shrI i j ≠ .ex c fs := fun _ _ _ _ z => by unfold shrI at z; split at z <;> cases z
theorem shlI_ne : ∀ i j c fs, shlI i j ≠ .ex c fs := fun _ _ _ _ z => by unfold shlI at z; split at z <;> cases z
section
variable {X : Cx} {ca : CA}
theorem oo_and : OpR X (binaryOp .BitAnd) (r2 X.K ca (intD andI)) := oo_int fun i j k e pins s σ H v u Q I rx ry q => by
  cases e; exact op_and pins s σ H _ _ v u Q I rx ry ⟨_, _, rfl, rfl, q⟩
theorem oo_or_ : OpR X (binaryOp .BitOr) (r2 X.K ca (intD orI)) := oo_int fun i j k e pins s σ H v u Q I rx ry q => by
  cases e; exact op_or pins s σ H _ _ v u Q I rx ry ⟨_, _, rfl, rfl, q⟩
theorem oo_xor : OpR X (binaryOp .BitXor) (r2 X.K ca (intD xorI)) := oo_int fun i j k e pins s σ H v u Q I rx ry q => by
  cases e; exact op_xor pins s σ H _ _ v u Q I rx ry ⟨_, _, rfl, rfl, q⟩
theorem oo_shr : OpR X (binaryOp .RShift) (r2 X.K ca (intD shrI)) := oo_int fun i j k e pins s σ H v u Q I rx ry q => by
  unfold shrI at e
  split at e
  · rename_i h
    cases e; exact op_shr pins s σ H _ _ v u Q I rx ry ⟨_, _, rfl, rfl, h, q⟩
  · cases e
theorem oo_shl : OpR X (binaryOp .LShift) (r2 X.K ca (intD shlI)) := oo_int fun i j k e pins s σ H v u Q I rx ry q => by
  unfold shlI at e
  split at e
  · rename_i h
    cases e; exact op_shlW pins s σ H _ _ v u Q I rx ry ⟨_, _, rfl, rfl, ⟨h.1, by rw [two27]; omega⟩, q⟩
  · cases e
end
abbrev ltP : D → D → R D := ltD
abbrev leP : D → D → R D := leD
abbrev gtP : D → D → R D := gtD
abbrev geP : D → D → R D := geD
theorem ltP_ne : ∀ x y c fs, ltP x y ≠ .ex c fs := ltD_ne
theorem leP_ne : ∀ x y c fs, leP x y ≠ .ex c fs := leD_ne
theorem gtP_ne : ∀ x y c fs, gtP x y ≠ .ex c fs := gtD_ne
theorem geP_ne : ∀ x y c fs, geP x y ≠ .ex c fs := geD_ne
section
variable {X : Cx} {ca : CA} {k : Nat}
theorem oo_ltP (hr : Room k X.A) : OpR X (compareOp .Lt) (r2 X.K ca ltP) := oo_lt
theorem oo_leP (hr : Room k X.A) : OpR X (compareOp .LtE) (r2 X.K ca leP) := oo_le
theorem oo_gtP (hr : Room k X.A) : OpR X (compareOp .Gt) (r2 X.K ca gtP) := oo_gt
theorem oo_geP (hr : Room k X.A) : OpR X (compareOp .GtE) (r2 X.K ca geP) := oo_ge
end
abbrev lenP : List D → R D := lenD
theorem lenP_ne : ∀ x c fs, lenP x ≠ .ex c fs := lenD_ne
theorem oc_lenP {X : Cx} {ca : CA} : CallR X (.builtin "len") (rN X.K ca lenP) := oc_len
abbrev sortP : List D → R D := sortD
theorem sortP_ne : ∀ x c fs, sortP x ≠ .ex c fs := sortD_ne
theorem oc_sortedP {X : Cx} {ca : CA} {k : Nat} (hr : Room k X.A) : CallR X (.builtin "sorted") (rNL X.K ca sortP) := oc_sorted

/-! ### a target of several names: a tuple or a list is taken apart -/
def bSeq (n : Nat) (b : BFs) : BF := fun d env => match d with
  | .tup xs => if xs.length = n then b xs env else .no
  | .lst xs => if xs.length = n then b xs env else .no
  | _ => .no
theorem bSeq_ne {n : Nat} {bs : BFs} (h2 : ∀ d e c fs, bs d e ≠ .ex c fs) : ∀ d e c fs, bSeq n bs d e ≠ .ex c fs := fun d e c fs z => by
  unfold bSeq at z
  split at z
  · split at z
    · exact h2 _ _ _ _ z
    · cases z
  · split at z
    · exact h2 _ _ _ _ z
    · cases z
  · cases z
section
variable {X : Cx} {C : Cd} {own ts : List Nat} {pos : Pos} {bs : BFs}
theorem pg_or {e : Expr} {t t' : TG} (h : PG X e t) (h' : PG X e t') : PG X e (fun v σ H Q => t v σ H Q ∨ t' v σ H Q) :=
  ⟨fun pins s σ H v u Q I r q => q.elim (fun q => h.run pins s σ H v u Q I r q) fun q => h'.run pins s σ H v u Q I r q⟩
theorem eg_seq {es : List Expr} {k n : Nat} (hc : X.calm = true) (h : PGs X es (tGs X.K C own ts bs)) (hn : (assignEach es X.env).length = n := by rfl) (hst : (assignEach es X.env).findIdx? (·.1) = none := by rfl) : PG X (.Tuple es k pos) (tG X.K C own ts (bSeq n bs)) :=
  pg_imp (pg_or (eg_tup hc h hn hst) (eg_lst hc h hn hst)) fun v σ H Q ⟨env, F, d, env', hR, r, e, q⟩ => by
    cases r with
    | tup hq rs => exact .inl ⟨env, F, _, env', hR, .tup hq rs, e, q⟩
    | lst hq rs => exact .inr ⟨env, F, _, env', hR, .lst hq rs, e, q⟩
    | _ => cases e
end

/-! ### zip of two lists or two tuples -/
def zipP : List D → R (List D)
  | [.lst xs, .lst ys] => .ok ((xs.zip ys).map fun p => .tup [p.1, p.2])
  | [.tup xs, .tup ys] => .ok ((xs.zip ys).map fun p => .tup [p.1, p.2])
  | _ => .no
theorem zipP_ne : ∀ x c fs, zipP x ≠ .ex c fs := fun x c fs z => by
  unfold zipP at z
  split at z <;> cases z
section
variable {X : Cx} {C : Cd} {own : List Nat} {tg a b : Expr} {es : List Expr} {fs : AF} {p pos : Pos}
theorem yl_zipT {ca : CA} {F : Hp} {l m : Addr} {vs ws : List V} {xs ys : List D} (h : SqT X.K F l vs) (r : Reps X.K ca F xs vs) (h' : SqT X.K F m ws) (r' : Reps X.K ca F ys ws) : Yl X.K ca (RZ.ItzT X.K l m) F ((xs.zip ys).map fun p => .tup [p.1, p.2]) where
  go := fun i H s hi => by
    rw [List.length_map, List.length_zip] at hi
    have h1 := r.length
    have h2 := r'.length
    exact ⟨vs, ws, vs[i]'(by omega), ws[i]'(by omega), Same.seqT s h, Same.seqT s h', List.getElem?_eq_getElem _, List.getElem?_eq_getElem _⟩
  stop := fun i H s hi => by
    rw [List.length_map, List.length_zip] at hi
    have h1 := r.length
    have h2 := r'.length
    exact ⟨vs, ws, Same.seqT s h, Same.seqT s h', by omega⟩
  yld := fun i H v H' Fc s1 s2 hy d hd => by
    obtain ⟨T, x, y, ev, hT, eH, q, q'⟩ := hy
    subst ev
    subst eH
    rw [List.getElem?_map] at hd
    cases e : (xs.zip ys)[i]? with
    | none => rw [e] at hd; cases hd
    | some pr =>
      rw [e] at hd
      cases hd
      obtain ⟨e1, e2⟩ := List.getElem?_zip_eq_some.mp e
      obtain ⟨u, h1, h2⟩ := r.get e1
      obtain ⟨u', h1', h2'⟩ := r'.get e2
      have a1 := q vs (Same.seqT s2 (Same.seqT s1 h))
      rw [h1] at a1
      cases a1
      have a2 := q' ws (Same.seqT s2 (Same.seqT s1 h'))
      rw [h1'] at a2
      cases a2
      have hF : Fc T = none := s2.free hT
      exact ⟨upd Fc T (.tup [x, y]), .new s2 hT, .tup (.of upd_same) (.cons ((h2.mono s1).mono (same_upd hF)) (.one ((h2'.mono s1).mono (same_upd hF))))⟩
theorem ei_zipP {elts : List Expr} {kk : Nat} {tpos : Pos} (hm : X.mg "zip" = none) (ha : PA X [a, b] (tA X.K C own fs)) (hg : Gl X "zip" := by rfl) (hs : starEach [a, b] X.env = (false, eval a X.env) :: starEach [b] X.env := by rfl) (hs2 : ((backTo pos (starEach [b] X.env)).any (·.1)) = false := by rfl) :
    PI X (.Tuple elts kk tpos) (.Call (.Name "zip" p) [a, b] [] pos) (tI X.K C own (iArg zipP fs)) :=
  pi_imp (RZ.pi_zipA hg hm ha hs hs2) fun σ H R ⟨env, F, hR, q⟩ => ⟨env, F, hR, (bindL zipP_ne q).imp fun ds e F1 H1 hR1 s1 ⟨xs, hb, hk⟩ vs r => by
    unfold zipP at hb
    split at hb
    · cases hb
      cases r with
      | cons r rs =>
        cases rs with
        | cons r' rs =>
          cases rs
          cases r with
          | lst hq rs =>
            cases r' with
            | lst hq' rs' => exact ⟨_, _, _, _, rfl, .inl ⟨SqL.of (hR1.q.sub _ _ hq), SqL.of (hR1.q.sub _ _ hq'), hk _ (yl_zip (SqL.of hq) rs (SqL.of hq') rs')⟩⟩
    · cases hb
      cases r with
      | cons r rs =>
        cases rs with
        | cons r' rs =>
          cases rs
          cases r with
          | tup hq rs =>
            cases r' with
            | tup hq' rs' => exact ⟨_, _, _, _, rfl, .inr ⟨Same.seqT hR1.q.sub hq, Same.seqT hR1.q.sub hq', hk _ (yl_zipT hq rs hq' rs')⟩⟩
    · cases hb⟩
end

/-! ### a slice of a list, a tuple, a text -/
def slP : D → Option Int → Option Int → R D
  | .lst xs, lo, hi => .ok (.lst (cutL xs lo hi))
  | .fro xs, lo, hi => .ok (.lst (cutL xs lo hi))
  | .tup xs, lo, hi => .ok (.tup (cutL xs lo hi))
  | .str z, lo, hi => if z.length ≤ sizeLine then .ok (.str (cutS z lo hi)) else .no
  | _, _, _ => .no
theorem slP_ne : ∀ x l h c fs, slP x l h ≠ .ex c fs := fun x l h c fs z => by
  unfold slP at z
  split at z <;> first | cases z | (split at z <;> cases z)
section
variable {X : Cx} {C : Cd} {own : List Nat} {a b : Expr} {lo hi : Option Expr} {p2 pos : Pos} {fa : EF} {fl fu : PF}
theorem ev_slP (he : PE X a (tE X.K C own fa)) (hl : PO X lo (tP X.K C own fl)) (hu : PO X hi (tP X.K C own fu)) : PE X (.Subscript a (.Slice lo hi none p2) pos) (tE X.K C own (eSl slP fa fl fu)) :=
  pe_imp (pe_slice (SlR.or sl_list (SlR.or sl_tupA sl_str)) he hl hu) fun σ H Q ⟨env, F, hR, h⟩ => ⟨env, F, hR, h.bind.imp fun d e1 F1 H1 hR1 s1 h1 v r => ⟨e1, F1, hR1, h1.bind.imp fun o e2 F2 H2 hR2 s2 h2 => ⟨e2, F2, hR2, h2.bind.imp fun o' e3 F3 H3 hR3 s3 h3 => by
    obtain ⟨k, hk, h4⟩ := h3.known (slP_ne d o o')
    have r := r.mono (s2.trans s3)
    cases r with
    | lst hp rs => cases hk; exact .inl ⟨_, _, rfl, SqL.of (hR3.q.sub _ _ hp), fun p hp' => h4 _ _ (hR3.step (Stp.new hR3.q.sub hp')) (same_upd (hR3.q.sub.free hp')) _ (.lst upd_same ((rs.cut _ _).mono (same_upd (hR3.q.sub.free hp'))))⟩
    | fro hp rs => cases hk; exact .inl ⟨_, _, rfl, Same.seq hR3.q.sub hp, fun p hp' => h4 _ _ (hR3.step (Stp.new hR3.q.sub hp')) (same_upd (hR3.q.sub.free hp')) _ (.lst upd_same ((rs.cut _ _).mono (same_upd (hR3.q.sub.free hp'))))⟩
    | tup hp rs =>
      cases hk
      refine .inr (.inl ⟨_, _, rfl, Same.seqT hR3.q.sub hp, fun hw => ?_, fun hw p hp' => ?_⟩)
      · rw [← rs.length] at hw
        rw [cut_whole hw] at h4
        exact h4.here hR3 _ (.tup hp rs)
      · exact h4 _ _ (hR3.step (Stp.new hR3.q.sub hp')) (same_upd (hR3.q.sub.free hp')) _ (.tup (.of upd_same) ((rs.cut _ _).mono (same_upd (hR3.q.sub.free hp'))))
    | str z =>
      unfold slP at hk
      dsimp only at hk
      split at hk
      · rename_i hz
        cases hk
        exact .inr (.inr ⟨z, rfl, hz, h4.here hR3 _ (.str _)⟩)
      · cases hk
    | _ => cases hk⟩⟩⟩
end
end Dl

namespace Dl
open PySem PySem.Spec PyProof.Rows L2

/-! ### defs that are run where no repr is under way -/
structure FnG (P : Program) (w : World) (K : PySem.W.Frag) (mg : Str → Option Value) (base : Heap) (k : Nat) (f : Addr) (fd : FuncData) (ps : List Str) (sp : Sp) : Prop where
  len : ∀ vs H Q E, sp vs H Q E → vs.length = ps.length
  go : ∀ {A : Around} {outer : List PySem.Env} {s : Shared} {H : Hp} {args : Args} {us : List Value} {vs : List V} {Q : VK} {E : XK}, A.guards = some [] → Room k A → Env0 P w K mg base A outer s H → BindsTo s fd args (ps.zip us) →
    Vals vs us → sp vs H Q E → codeAny (model P w) A (.call (.ref f) args) (CR (L2.CX P w) outer P w H s Q E) s
section
variable {P : Program} {w : World} {K : PySem.W.Frag} {mg : Str → Option Value} {base : Heap} {ca : CA} {k : Nat} {f : Addr} {fd : FuncData} {ps : List Str} {sp : Sp}
theorem FnG.of (F : FnOk P w K mg base (L2.CX P w) k f fd ps sp) : FnG P w K mg base k f fd ps sp :=
  ⟨F.len, fun _ room e b r h => F.run _ _ _ _ _ _ _ _ _ room e b r h⟩
/-- a def by its body, run where no repr is under way -/
theorem fn_DG {x qual : Str} {st : Stmt} {N : List Str} {g : SF} {own' : List Nat} (T : Fun K x qual st f fd) (S : FnScope N ps (defScope st))
    (hb : ∀ (B : Bs), B.free0 → ∀ (cdv : Value) (A : Around) (outer : List PySem.Env) (s : Shared) (H : Hp) (E : XK), (A.deeper (envOfC qual (defScope st) s.heap.objs.size f cdv)).guards = some [] → Room k (A.deeper (envOfC qual (defScope st) s.heap.objs.size f cdv)) →
      PSs (cxOf (L2.CX P w) P w K mg base N qual (defScope st) f cdv A outer s H E) (defBody st) (tS K (.top ca B E false) [] own' [] g)) : FnG P w K mg base (k + 1) f fd ps (spD K ca ps.length (runD N.length g)) := by
  obtain ⟨oc, od, kV, doc, pm, an, cdv, ct, osl, rfl, lk, hcd⟩ := T.ex
  have len : ∀ vs H Q E, spD K ca ps.length (runD N.length g) vs H Q E → vs.length = ps.length := fun vs H Q E ⟨F, ds, _, r, hl, _⟩ => by rw [← r.length]; exact hl
  refine ⟨len, @fun A outer s H args us vs Q E hg room e0 bound rv hsp => ?_⟩
  have lv := len _ _ _ _ hsp
  have kin : K.In s.heap := PySem.W.Frag.In.keeps e0.mod.kin fun b o z => (e0.bs b o z).1
  refine codeAny_call_function room.depth (kin _ _ lk) rfl S.co S.gen rfl (PySem.W.codeRec_of kin hcd) (bound _ _ _ _ ?_)
  refine wpAny_newFunctionEnv_cells S.kind (fun ⟨n, v⟩ hy => (S.par n (List.of_mem_zip hy).1).imp id fun z => ⟨z, PySem.W.cellsFrom_some _ _ _ (.inl z)⟩) fun en he s1 x => ?_
  subst he
  refine ⟨(e0.mod.nolimit.keeps fun b o z => (e0.bs b o z).1).keeps x.toInCall.keep, codeAny_func ?_⟩
  obtain ⟨F, ds, pre, r, hl, hm⟩ := hsp
  have I := inv_start (CX := L2.CX P w) (E := E) (N := N) S room.hd e0 lv rv x
  have hps := hb ⟨F, H, none, none⟩ ⟨rfl, rfl⟩ cdv A outer s H E hg (room.deeper _)
  refine wpAny_mono (hps.run [] s1 (L2.start N vs) H { nx := fun _ H' => Q .non H', rt := Q } I ?_) (fun fl s' hs => ?_) fun e s' hs => hs
  · refine ⟨startE N.length ds, F, re_start pre r, ?_⟩
    unfold runD at hm
    cases eg : g (startE N.length ds) with
    | nx e => rw [eg] at hm; exact fun σ F' H' hR s => hm .non F' H' (bq_stC hR.q) .non
    | rt d e => rw [eg] at hm; exact fun v F' H' q m s rv => hm v F' H' (bq_stC q) rv
    | bk e => rw [eg] at hm; exact hm.elim
    | ct e => rw [eg] at hm; exact hm.elim
    | ex c fs => rw [eg] at hm; exact fun e o F' H' q s xr => hm e o F' H' (bq_stC q) xr
    | no => rw [eg] at hm; exact hm.elim
  · cases fl with
    | ret u => let ⟨v, _, H', J, rv', q⟩ := hs; exact ⟨v, H', J.os, J.bare, J.base, J.hok, rv', q⟩
    | next => let ⟨_, H', J, q⟩ := hs; exact ⟨V.non, H', J.os, J.bare, J.base, J.hok, rfl, q⟩
    | brk => let ⟨_, _, _, no⟩ := hs; exact False.elim no
    | cont => let ⟨_, _, _, no⟩ := hs; exact False.elim no
end
section
variable {X : Cx} {C : Cd} {own : List Nat} {e : Expr} {es : List Expr} {fs : AF} {x : Str} {p pos : Pos} {k n : Nat} {f : Addr} {fd : FuncData} {ps : List Str} {F : List D → R D} {sp : Sp} {E : XK}
theorem run_G {pins : List (Addr × Obj)} {σ : L2.St} {H : Hp} {s : Shared} {Q : VK} {us : List Value} {vs : List V} (G : FnG X.prog X.w X.K X.mg X.base k f fd ps sp) (hg : X.A.guards = some []) (hr : Room k X.A) (hb : Binds X.K fd ps []) (hx : Passes (L2.CX X.prog X.w) X E)
    (I : Inv X pins σ H s) (r : Vals vs us) (h : sp vs H Q E) : wpAny (model X.prog X.w) X.A (call (.ref f) us) (EP X pins σ Q) X.xe s := by
  have hl : us.length = ps.length := by rw [← r.length]; exact G.len _ _ _ _ h
  have hb' := hb s us I.kIn (by simpa using hl)
  rw [List.append_nil] at hb'
  refine wpAny_call (codeAny_mono (G.go hg hr I.env0 hb' r h) fun res s' q => ?_)
  match res, q with
  | .error e, q => exact hx pins σ H s e s' I q
  | .ok (.ret u), q => exact I.after q
  | .ok .next, q => exact False.elim q
  | .ok .brk, q => exact False.elim q
  | .ok .cont, q => exact False.elim q
theorem ev_callG (Gf : FnG X.prog X.w X.K X.mg X.base k f fd ps (spD X.K C.ca n F)) (gu : X.A.guards = some []) (hr : Room k X.A) (hm : X.mg x = some (.ref f)) (hk : PySem.W.keepIn X.K (.ref f) = true) (hb : Binds X.K fd ps []) (hx : PX X C) (ha : PA X (e :: es) (tA X.K C own fs))
    (hg : Gl X x := by rfl) (hdb : (x == ("__debug__" : Str)) = false := by decide) (he : starEach (e :: es) X.env = (false, eval e X.env) :: starEach es X.env := by rfl) (hpl : (backTo pos (starEach es X.env)).any (·.1) = false := by rfl) :
    PE X (.Call (.Name x p) (e :: es) [] pos) (tE X.K C own (callF n F fs)) := by
  refine ⟨fun pins s σ H Q I ⟨env, F0, hR, h⟩ => wpAny_Call_Name_kw (ld_glob I hg hm ?_ hdb)⟩
  refine PySem.W.callWith_K (first := []) (h₀ := X.base) I.ok.mod.kin hk (thn (ha.run pos pins s σ H (fun vs H1 => spD X.K C.ca n F vs H1 Q C.E) I ⟨env, F0, hR, h.bind.imp fun ds e1 F1 H1 hR1 s1 h1 vs r => callOk hR1 r h1⟩) fun us s1 ⟨vs, H1, I1, r, q⟩ => ⟨I1.kIn, ?_⟩) he hpl
  exact run_G Gf gu hr hb hx I1 r q
end

/-! ### the law's end -/
/-- what is asked of the law's def at one script -/
theorem lawG {P : Program} {w : World} {K : PySem.W.Frag} {mg mb : Str → Option Value} {k : Nat} {fa a : Addr} {fd : FuncData} {x : Str} {sp : Sp} {s₁ : Shared} {vs : List Value} {ns : List Int}
    (kin : K.In s₁.heap) (gns : s₁.heap.Ns mainGlobals mg) (bns : s₁.heap.Ns builtinsNs mb) (boot : ∀ x : Str, x ≠ "__name__" → mb x = bootBuiltins x) (lim : s₁.heap.NoLimit) (gens : s₁.gens = #[])
    (obj : s₁.heap.get? a = some { cls := .type "list", data := .seq vs.toArray }) (nums : IntsAre vs ns) (hlen : ns.length ≤ sizeLine) (room : Room k callerA)
    (F : ∀ base : Heap, K.In base → base.Ns mainGlobals mg → FnG P w K mg base k fa fd [x] sp) (bind : ∀ (s : Shared) (u : Value), BindsTo s fd ⟨[u], []⟩ [(x, u)])
    (hsp : ∀ H : Hp, Only H → SqL K H a (ns.map V.int) → sp [.ref a] H (fun v _ => v = .bl true) fun _ _ _ => False) :
    codeAny (model P w) callerA (.call (.ref fa) ⟨[.ref a], []⟩) (fun r s' => r = .ok (.ret (.bool true)) ∧ OldK s₁.heap s'.heap ∧ s'.os = s₁.os ∧ AllBare s'.gens) s₁ := by
  -- with the heap H told ahead: nothing, or the script
  have main : ∀ H : Hp, Only H → SqL K H a (ns.map V.int) → HOk P w H s₁.heap → (∀ b, b ≠ a → H b = none) → (H a = none ∨ K.lookup a = none) →
      codeAny (model P w) callerA (.call (.ref fa) ⟨[.ref a], []⟩) (fun r s' => r = .ok (.ret (.bool true)) ∧ OldK s₁.heap s'.heap ∧ s'.os = s₁.os ∧ AllBare s'.gens) s₁ := fun H only seq hok out kno => by
    have dictFree : ∀ {b : Addr} {o : Obj} {es : Array DictEntry} {ep : Nat}, s₁.heap.get? b = some o → o.data = .dict es ep → H b = none := @fun b o es ep ho hd => by
      by_cases hb : b = a
      · rw [hb, obj] at ho
        rw [← Option.some.inj ho] at hd
        exact absurd hd fun z => nomatch z
      · exact out b hb
    have hide : ∀ {b : Addr} {m : Str → Option Value}, s₁.heap.Ns b m → (hidT s₁.heap H).Ns b m := @fun b m n => by
      obtain ⟨o, es, ep, ho, hd, rest⟩ := n
      exact ⟨o, es, ep, hidT_get ho (dictFree ho hd), hd, rest⟩
    have kin' : K.In (hidT s₁.heap H) := fun b o lk => hidT_get (kin b o lk) (by
      by_cases hb : b = a
      · rcases kno with z | z
        · rw [hb]; exact z
        · rw [hb, z] at lk; exact absurd lk fun z => nomatch z
      · exact out b hb)
    obtain ⟨ml, l1, l2⟩ := lim
    have env0 : Env0 P w K mg (hidT s₁.heap H) callerA [] s₁ H :=
      { frames := rfl, mod := ⟨kin', hide gns, ⟨mb, hide bns, boot⟩, ⟨ml, hide l1, l2⟩⟩, bs := fun b o z => of_hidT z, bsz := Nat.le_of_eq (hidT_size _ _), funs := trivial, frf := (fun b z => nomatch z), hok := hok, bare := .of_eq gens }
    refine codeAny_mono ((F _ kin' (hide gns)).go (us := [.ref a]) (vs := [.ref a]) rfl room env0 (bind s₁ (.ref a)) (.cons rfl .nil) (hsp H only seq)) fun res s' q => ?_
    match res, q with
    | .error e, ⟨_, _, _, _, _, _, _, _, _, _, _, _, no⟩ => exact no.elim
    | .ok .next, q => exact False.elim q
    | .ok .brk, q => exact False.elim q
    | .ok .cont, q => exact False.elim q
    | .ok (.ret u), ⟨v, H', os, bare, un, hok', rv, (ev : v = .bl true)⟩ =>
      subst ev
      have eu : u = Value.bool true := rv
      refine ⟨by rw [eu], OldK.of_keep fun b o ho => ?_, os, bare⟩
      rcases only b with z | ⟨ob, xs, z⟩
      · exact un.keep b o ho z (fun z => nomatch z) (fun z => nomatch z)
      · have h1 := (hok b _ z).1
        rw [ho] at h1
        rw [Option.some.inj h1]
        exact (hok' b _ (un.frzs b ob _ z)).1
  have rv := vals_ints nums
  cases hk : K.lookup a with
  | some o =>
    have ho := kin a o hk
    rw [obj] at ho
    have eo := Option.some.inj ho
    subst eo
    have few : vs.toArray.size ≤ sizeLine := by rw [List.size_toArray, nums.length]; exact hlen
    have seq : SqL K (fun _ => none) a (ns.map V.int) := .inr ⟨_, _, _, hk, rfl, rfl, rfl, few, by simpa using rv⟩
    exact main _ (fun _ => .inl rfl) seq (fun b u z => absurd z fun z => nomatch z) (fun _ _ => rfl) (.inl rfl)
  | none =>
    have at_ : ∀ b, b ≠ a → (if b = a then some (HO.frz { cls := .type "list", data := .seq vs.toArray } (.lst (ns.map V.int))) else none) = none := fun b hb => if_neg hb
    refine main (fun b => if b = a then some (.frz { cls := .type "list", data := .seq vs.toArray } (.lst (ns.map V.int))) else none) (fun b => ?_) (.inl (.inr ⟨_, if_pos rfl⟩)) (fun b u z => ?_) at_ (.inr hk)
    · by_cases hb : b = a
      · exact .inr ⟨_, _, if_pos hb⟩
      · exact .inl (at_ b hb)
    · by_cases hb : b = a
      · have z2 := (if_pos hb).symm.trans z
        cases z2
        rw [hb]
        exact ⟨obj, by rw [List.length_map]; exact hlen, vs, _, rv, obj⟩
      · exact absurd ((at_ b hb).symm.trans z) fun z => nomatch z
theorem walk_G {l : PySem.W.OpenLaw} {n k : Nat} {q : Program} {loose : List Str} {XP : (Str → Option Value) → Heap → Prop} {YP : World → Heap → Prop} {d : DefRec} {K : Params → PySem.W.Frag} {sp : World → Sp} {x : Str}
    (most : l.most = some n) (small : n ≤ sizeLine) (plain : d.params.defaults = []) (room : Room k callerA) (part : ∀ (w : World) (h : Heap), YP w h → (K w.params).In h)
    (F : ∀ (w : World) (mg : Str → Option Value) (fa : Addr) (h : Heap), (K w.params).In h → h.Ns mainGlobals mg → mg d.name = some (.ref fa) →
      ∃ fd : FuncData, (∀ (s : Shared) (u : Value), BindsTo s fd ⟨[u], []⟩ [(x, u)]) ∧ ∀ base : Heap, (K w.params).In base → base.Ns mainGlobals mg → FnG l.prog w (K w.params) mg base k fa fd [x] (sp w))
    (hsp : ∀ (w : World) (H : Hp) (a : Addr) (ns : List Int), ns.length ≤ n → Only H → SqL (K w.params) H a (ns.map V.int) → sp w [.ref a] H (fun v _ => v = .bl true) fun _ _ _ => False) :
    PySem.W.WalkO q loose XP YP l.row.toRowW d [] (fun f vs => PySem.call f vs) :=
  Att.attach_call most plain fun w s₀ s₁ mg mb fa o pm cd doc a vs ns G Y _ _ _ hmg hobj hints hlen hgens => by
    obtain ⟨fd, hb, hF⟩ := F w mg fa _ (part w _ Y) G.T.g hmg
    exact lawG (part w _ Y) G.T.g G.T.b G.T.builtins G.T.nolimit hgens hobj hints (Nat.le_trans hlen small) room hF hb fun H only seq => hsp w H a ns hlen only seq
/-- the law's def is right at the script -/
theorem law_sp {K : PySem.W.Frag} {ca : CA} {F : List D → R D} {H : Hp} {a : Addr} {ns : List Int} (hT : ca.T = []) (hF : F [.fro (ns.map .int)] = .ok (.bl true)) (only : Only H) (seq : SqL K H a (ns.map V.int)) :
    spD K ca 1 F [.ref a] H (fun v _ => v = .bl true) fun _ _ _ => False := by
  refine ⟨H, [.fro (ns.map .int)], ⟨Same.refl _, by rw [hT]; exact (fun p hp => nomatch hp), fun p ps z => ?_⟩, .one (.fro seq (Reps.ofInts ns)), rfl, ?_⟩
  · rcases only p with e | ⟨o, xs, e⟩ <;> (rw [e] at z; cases z)
  · rw [hF]
    exact fun v F' H' _ r => by cases r; rfl
end Dl

/-! ### sorted(set(x)), x a list of ints -/
namespace Si
open PySem PySem.Spec PyProof.Rows L2
abbrev newS (w : World) : Obj := { cls := .type "set", dict := none, data := .set #[] 0 (.fresh 0 0 (!w.params.followText "set-order")) }
section
variable {P : Program} {w : World} {A : Around} {E : Value → Shared → Prop} {s : Shared}
theorem call_setL {l : Addr} {items : Array Value} (ns : List Int) {Q : Value → Shared → Prop} (hh : A.handled = none) (hl : s.heap.IsList l items) (hit : IntsAre items.toList ns) (hb : ns.length + 1 < scanBound)
    (h : ∀ (h' : Heap) (tk c : Nat), c ≤ ns.length → SetR w h' s.heap.objs.size (fun j => decide (j ∈ ns)) c → (∀ b o, s.heap.get? b = some o → h'.get? b = some o) → Q (.ref s.heap.objs.size) { s with heap := h', toks := tk }) :
    wpAny (model P w) A (call (.type "set") [.ref l]) Q E s := by
  have hisz : items.size = ns.length := by rw [← Array.length_toList]; exact IntsAre.length hit
  obtain ⟨c, tl, hmro⟩ := F.called_set.mro
  have hmade := F.called_set.made
  have hsub := F.called_set.sub
  refine wpAny_call (codeAny_of_tree ?_)
  show wpAny _ _ (callAny (.type "set") _) _ _ _
  refine wpAny_pure ⟨Code.quiet_builtin _ (by decide +kernel), codeAny_builtin F.entry_type_call ?_⟩
  rw [Around.under_plain (weight_type_call_type "set" [.ref l] []) rfl]
  have h1 := F.called_set.notType
  have h2 := F.called_set.canCreate
  have hct := F.typeCall_set_1 (.ref l)
  repeat (any_goals (first | assumption | wp_step))
  refine codeAny_mono (code_set_led1 (.ref l) (E := E) (Q₁ := fun obj s₁ => obj = .ref s.heap.objs.size ∧ s₁ = { s with heap := s.heap.push (newS w) }) ⟨rfl, rfl⟩) fun r s₁ hr => ?_
  cases r with
  | error e => exact hr
  | ok fl =>
    cases fl with
    | ret obj =>
      obtain ⟨rfl, rfl⟩ := hr
      have hS : (s.heap.push (newS w)).get? s.heap.objs.size = some (newS w) := Heap.get?_push_size _ rfl
      have hT : Shared.TypeIs { s with heap := s.heap.push (newS w) } (.ref s.heap.objs.size) "set" := ⟨_, hS, rfl⟩
      have hli := F.called_set.init.lookup
      have hbi := F.called_set.init.bind (.ref s.heap.objs.size)
      repeat (any_goals (first | assumption | wp_step))
      refine codeAny_mono (codeAny_call_builtin (R := wants (fun r s₂ => r = .none ∧ ∃ h' tk c, s₂ = { s with heap := h', toks := tk } ∧ c ≤ ns.length ∧ SetR w h' s.heap.objs.size (fun j => decide (j ∈ ns)) c ∧
          (∀ b o, s.heap.get? b = some o → h'.get? b = some o)) E) F.called_set.init.plain F.entry_set_init (check_set_init_1 hT ?_)) fun r₂ s₂ hr₂ => ?_
      · obtain ⟨ol, hol, hcl, nl, hdl⟩ := hl
        obtain ⟨ocls, odict, odata, oslots⟩ := ol
        simp only at hcl hdl
        subst hcl; subst hdl
        have hol' : (s.heap.push (newS w)).get? l = some { cls := .type "list", dict := odict, data := .seq items nl, slots := oslots } := Heap.get?_push_of_some _ hol
        have hsls := F.sub_list_set
        have hslf := F.sub_list_frozenset
        have hne' : (Value.type "list" == Value.type "dict") = false := by decide
        have hl1 : (s.heap.push (newS w)).IsList l items := ⟨_, hol', rfl, nl, rfl⟩
        unfold Builtin.«set.__init__» noKeywords Builtin.Frozenset.updateFrom
        generalize hPI : pyIter = PI
        wp_walk
        subst hPI
        refine wpAny_pyIter_list hl1 ?_
        refine wpAny_bind (wpAny_runValue ?_)
        have hlS : l < s.heap.objs.size := Heap.lt_size hol
        have hh3 : A.in1.in1.in1.handled = none := by simp [hh]
        have hneI : l ≠ (s.heap.push (newS w)).objs.size := by
          rw [Heap.size_push]; exact Nat.ne_of_lt (Nat.lt_succ_of_lt hlS)
        have hSf : s.heap.objs.size ∉ [(s.heap.push (newS w)).objs.size, l] := by
          rw [Heap.size_push]; simp only [List.mem_cons, List.mem_singleton, List.not_mem_nil, or_false, not_or]
          exact ⟨Nat.ne_of_lt (Nat.lt_succ_self _), Nat.ne_of_gt hlS⟩
        have hval : ∀ (i : Nat) (v : Value), items[i]? = some v → ∃ k t, ns[i]? = some k ∧ v = .int k t := fun i v hv => by
          have hi : i < ns.length := hisz ▸ (Array.getElem?_eq_some_iff.mp hv).1
          have nth : ns[i]? = some ns[i] := List.getElem?_eq_getElem hi
          obtain ⟨t, e⟩ := PyProof.Rows.IntsAre.int_at hit i v ((Array.getElem?_toList).trans hv)
          exact ⟨ns[i], t, nth, by rw [e, List.getD_eq_getElem?_getD, nth] <;> rfl⟩
        refine set_update_ints ((Walks.list hh3 _ l hneI items).toS) s.heap.objs.size hSf ns hisz hb hval (items.size - 0) 0 _ (by omega) (Nat.zero_le _)
          ⟨⟨_, Heap.get?_push_size _ rfl, rfl, rfl⟩, (hl1.push _)⟩ ⟨0, Nat.le_refl 0, setR_new_at (Heap.get?_push_of_some _ hS)⟩ ?hR
        case hR =>
          intro s' c' hm hc' hS'
          obtain ⟨h', g2, d', tk', os'⟩ := s'
          have eg : g2 = s.gens := hm.gens
          have ed : d' = s.drawn := hm.drawn
          have eo : os' = s.os := hm.os
          subst eg; subst ed; subst eo
          show wpAny _ _ _ _ _ _
          refine wpAny_pure ?_
          show wpAny _ _ (ret Value.none) _ _ _
          refine wpAny_pure ⟨rfl, h', tk', c', rfl, hisz ▸ hc', hS', fun b o e => ?_⟩
          have b0 := Heap.lt_size e
          refine hm.heap b o (fun z => ?_) (Heap.get?_push_of_some _ (Heap.get?_push_of_some _ e))
          rw [Heap.size_push] at z
          simp only [List.mem_cons, List.not_mem_nil, or_false] at z
          exact z.elim (Nat.ne_of_lt b0) (Nat.ne_of_lt (Nat.lt_succ_of_lt b0))
      · cases r₂ with
        | error e => exact hr₂
        | ok fl₂ =>
          cases fl₂ with
          | ret r =>
            obtain ⟨rfl, h', tk, c, rfl, few, R1, hk'⟩ := hr₂
            repeat (any_goals (first | assumption | wp_step))
            exact h _ _ _ few R1 hk'
          | _ => exact hr₂.elim
    | _ => exact hr.elim
end
def rSetL (K : PySem.W.Frag) (w : World) : List V → Hp → VK → Prop := fun xs H Q => ∃ (l : Addr) (ns : List Int), xs = [V.ref l] ∧ SqL K H l (ns.map V.int) ∧ ns.length + 1 < scanBound ∧ ∀ p c, H p = none → c ≤ ns.length → Q (.ref p) (upd H p (SetO w p (fun j => decide (j ∈ ns)) c))
theorem cr_setL {X : Cx} (hc : X.calm = true) : CallR X (.type "set") (rSetL X.K X.w) := by
  intro pins s σ H xs us Q I r h
  obtain ⟨l, ns, rfl, hl, hb, q⟩ := h
  rw [Vals.ref1 r]
  obtain ⟨its, rv, pl, hz⟩ := I.list hl
  have new : H s.heap.objs.size = none := I.hok.fresh (Nat.le_refl _)
  refine call_setL (P := X.prog) (w := X.w) ns (I.ok.hd hc) pl.isList (by simpa using ints_of_vals rv) hb fun h' tk c few R k => ?_
  exact ⟨.ref s.heap.objs.size, upd H s.heap.objs.size (SetO X.w s.heap.objs.size _ c), I.laid (t' := tk) k (Nat.le_refl _) (setO_new R), rfl, q _ c new few⟩
end Si

namespace Ru
open PySem PySem.Spec PyProof.Rows L2
open Sem (wp)
/-! ### x == y, x != y of two instances of one class by an __eq__ of the text's own -/
section
variable {prog : Program} {w : World} {A : Around} {E : Value → Shared → Prop} {s : Shared} {K : PySem.W.Frag} {x C f : Addr} {ox : Obj} {od : Option Obj} {b tb : Value}
theorem ifBound_objNe {M : Model} {args : List Value} {Q : Option Value → Shared → Prop} (X : K.In s.heap) (I : PySem.W.InstAt s.heap x ox C od) (hs : PySem.W.findIn K (.ref C) "__ne__" = some (some (.builtin "object.__ne__")))
    (h : wpAny M A (call (.builtin "object.__ne__") (.ref x :: args)) (fun v => Q (some v)) E s) : wpAny M A (callSpecialIfBound? (.ref x) "__ne__" args) Q E s := by
  simp only [callSpecialIfBound?, bindSpecialIfBound?]
  refine wpAny_holding (wpAny_bind (wpAny_bind (wpAny_bind (I.type.here ((PySem.W.looks_findIn X hs).here ?_)))))
  refine wpAny_bind (wpAny_askSetting (wpAny_ite ?_))
  have fin : wpAny M A (call (.builtin "object.__ne__") ([.ref x] ++ args) >>= fun v => pure (some v)) Q E s := wpAny_bind (wpAny_mono h (fun v s' h' => wpAny_pure h') fun _ _ h' => h')
  split
  · exact wpAny_bind (wpAny_of_eq (F.cmp_object.ne.bind _) (wpAny_pure (by exact fin)))
  · exact wpAny_tryCatch (wpAny_bind (wpAny_of_eq (F.cmp_object.ne.bind _) (wpAny_pure (by exact fin))))
open Builtin in
theorem objNe_entry {Q : Fin → Shared → Prop} (X : K.In s.heap) (I : PySem.W.InstAt s.heap x ox C od) (hs : PySem.W.findIn K (.ref C) "__eq__" = some (some (.ref f))) (hf : PySem.W.isFn K (.ref f) = true) (hu : A.units < cLine)
    (hcall : wpAny (model prog w) A (call (.ref f) [.ref x, b]) (fun v s' => ∃ r, v = .bool r ∧ Q (.done (.ret (.bool (!r)))) s') E s) :
    wpAny (model prog w) A (Builtin.«object.__ne__» ⟨[.ref x, b], []⟩) Q E s := by
  unfold Builtin.«object.__ne__»
  repeat (first
    | with_reducible refine wpAny_cRoomFor hu ?_
    | (refine wpAny_bind (m := callSpecialIfBound? (.ref x) (Str.ofString "__eq__") [b])
        (PySem.W.ifBound_K X I hs hf (wpAny_mono hcall (fun r s' hr => by
          obtain ⟨c, rfl, hq⟩ := hr
          repeat (first | exact hq | exact wpAny_pure hq | exact wpAny_truthy_bool hq | (refine wpAny_bind (m := truthy (.bool _)) (wpAny_truthy_bool ?_)) | wp_step)) fun _ _ e => e)))
    | wp_step)
theorem try_ne {Q : Option Value → Shared → Prop} (X : K.In s.heap) (I : PySem.W.InstAt s.heap x ox C od) (hm : PySem.W.mroIn K C (.type "object") = some true) (hn : PySem.W.findIn K (.ref C) "__ne__" = some (some (.builtin "object.__ne__")))
    (hs : PySem.W.findIn K (.ref C) "__eq__" = some (some (.ref f))) (hf : PySem.W.isFn K (.ref f) = true) (hu : A.units + 1 < cLine)
    (hcall : wpAny (model prog w) A.in1 (call (.ref f) [.ref x, b]) (fun v s' => ∃ r, v = .bool r ∧ Q (some (.bool (!r))) s') E s) :
    wpAny (model prog w) A (tryCompare (.ref x) "__ne__" b) Q E s := by
  unfold tryCompare
  refine wpAny_bind (ifBound_objNe X I hn (wpAny_call (codeAny_call_builtin F.cmp_object.ne.plain F.cmpEntry_ne (PySem.W.check_slot F.cmpKind_ne F.cmpSplit_ne (I.type.andThen (PySem.W.looks_mroIn X hm)) (F.cmpArgs_ne _ _)
    (objNe_entry X I hs hf hu (wpAny_mono hcall (fun v s' hv => ?_) fun _ _ e => e))))))
  obtain ⟨r, rfl, hq⟩ := hv
  first | exact ⟨r, rfl, wpAny_pure hq⟩ | exact ⟨r, rfl, wpAny_pure (wpAny_pure hq)⟩ | exact ⟨r, rfl, hq⟩
theorem rich_ne {L : Addr} {h₀ : Heap} {m : Str → Option Value} {Q : Value → Shared → Prop} (hu : A.units + 1 < cLine) (F : Fr h₀ L s.heap m) (X₀ : K.In h₀) (I : PySem.W.InstAt s.heap x ox C od) (hb : PySem.W.Looks (model prog w) s.heap (typeOf b) tb)
    (hnf : PySem.W.notFirst K C tb = true) (hm : PySem.W.mroIn K C (.type "object") = some true) (hn : PySem.W.findIn K (.ref C) "__ne__" = some (some (.builtin "object.__ne__")))
    (hs : PySem.W.findIn K (.ref C) "__eq__" = some (some (.ref f))) (hf : PySem.W.isFn K (.ref f) = true)
    (hcall : wpAny (model prog w) A.in1 (call (.ref f) [.ref x, b]) (fun v s' => ∃ r, v = .bool r ∧ Q (.bool (!r)) s') E s) : wpAny (model prog w) A (richCompare .NotEq (.ref x) b) Q E s := by
  have X := X₀.keeps F.keep
  have one : wpAny (model prog w) A (tryCompare (.ref x) (cmpInfo .NotEq).2.1 b) (fun r s' => ∃ v, r = some v ∧ Q v s') E s :=
    try_ne X I hm hn hs hf hu (wpAny_mono hcall (fun v s' ⟨r, e, q⟩ => ⟨r, e, _, rfl, q⟩) fun _ _ e => e)
  unfold richCompare
  simp only [oneThing_ref]
  refine wpAny_holding (wpAny_bind (wpAny_cRoomFor (Nat.lt_of_succ_lt hu) ?_))
  refine wpAny_bind (I.type.here (wpAny_bind (hb.here ?_)))
  split
  · rename_i q
    have e : PySem.W.subIn K tb (.ref C) = some false := by
      rcases Bool.or_eq_true_iff.mp hnf with e | e
      · rw [beq_iff_eq.mp e] at q; simp at q
      · exact beq_iff_eq.mp e
    refine wpAny_bind ((PySem.W.looks_subIn X e).here ?_)
    simp only [Bool.false_eq_true, if_false]
    refine wpAny_bind (wpAny_mono one (fun r s' z => ?_) fun _ _ e => e)
    obtain ⟨v, rfl, hq⟩ := z
    exact wpAny_pure hq
  · refine wpAny_bind (wpAny_pure ?_)
    simp only [Bool.false_eq_true, if_false]
    refine wpAny_bind (wpAny_mono one (fun r s' z => ?_) fun _ _ e => e)
    obtain ⟨v, rfl, hq⟩ := z
    exact wpAny_pure hq
end
/-- what the text's class must have: its own ==, and no != -/
structure EqC (K : PySem.W.Frag) (C f : Addr) : Prop where
  eq : PySem.W.findIn K (.ref C) "__eq__" = some (some (.ref f))
  fn : PySem.W.isFn K (.ref f) = true
  ne : PySem.W.findIn K (.ref C) "__ne__" = some (some (.builtin "object.__ne__"))
  ob : PySem.W.mroIn K C (.type "object") = some true
def rInsEq (C : Addr) (sp : Sp) (E : XK) (neg : Bool) : R2 := fun x y H Q => ∃ a b dx dy fs gs, x = .ref a ∧ y = .ref b ∧ H a = some (.ins C dx fs) ∧ H b = some (.ins C dy gs) ∧ sp [x, y] H (fun v H' => ∃ r, v = .bl r ∧ Q (.bl (if neg then !r else r)) H') E
section
variable {X : Cx} {CX : CXT} {k : Nat} {C f : Addr} {sp : Sp} {E : XK}
theorem op_eqI (c : EqC X.K C f) (F : FnR X.prog X.w X.K X.mg X.base CX k f sp) (hr : Room k X.A) (hx : Passes CX X E) : OpR X (compareOp .Eq) (rInsEq C sp E false) := by
  intro pins s σ H x y v u Q I rx ry h
  obtain ⟨a, b, dx, dy, fs, gs, rfl, rfl, ha, hb, q⟩ := h
  cases rx
  cases ry
  show wpAny (model X.prog X.w) X.A (richCompare .Eq (.ref a) (.ref b)) (EP X pins σ Q) X.xe s
  obtain ⟨mA, J, _⟩ := ins_get I.hok ha
  obtain ⟨mB, J', _⟩ := ins_get I.hok hb
  obtain ⟨od, J, _⟩ := J.look
  obtain ⟨od', J', _⟩ := J'.look
  obtain ⟨m, hF⟩ := I.fr
  refine PySem.W.cmp_K (op := .Eq) (tb := .ref C) hr.units0 hF I.ok.mod.kin J J'.type (by simp [PySem.W.notFirst]) c.eq c.fn ?_
  refine thn (wpAny_call (run_fnR (us := [.ref a, .ref b]) (vs := [.ref a, .ref b]) F hr hx I (.cons rfl (.cons rfl .nil)) q)) fun w s' ⟨z, H', I', rz, r, ez, q'⟩ => ?_
  subst ez
  cases rz
  exact ⟨.bl r, H', I', rfl, q'⟩
theorem op_neI (c : EqC X.K C f) (F : FnR X.prog X.w X.K X.mg X.base CX k f sp) (hr : Room (k + 1) X.A) (hx : Passes CX X E) : OpR X (compareOp .NotEq) (rInsEq C sp E true) := by
  intro pins s σ H x y v u Q I rx ry h
  obtain ⟨a, b, dx, dy, fs, gs, rfl, rfl, ha, hb, q⟩ := h
  cases rx
  cases ry
  show wpAny (model X.prog X.w) X.A (richCompare .NotEq (.ref a) (.ref b)) (EP X pins σ Q) X.xe s
  obtain ⟨mA, J, _⟩ := ins_get I.hok ha
  obtain ⟨mB, J', _⟩ := ins_get I.hok hb
  obtain ⟨od, J, _⟩ := J.look
  obtain ⟨od', J', _⟩ := J'.look
  obtain ⟨m, hF⟩ := I.fr
  refine rich_ne (tb := .ref C) (Nat.lt_of_le_of_lt (Nat.add_le_add_left (by decide : 1 ≤ 64) _) hr.units) hF I.ok.mod.kin J J'.type (by simp [PySem.W.notFirst]) c.ob c.ne c.eq c.fn ?_
  have e0 : Env0 X.prog X.w X.K X.mg X.base X.A.in1 X.stack s H := I.env0.in1
  refine wpAny_call (codeAny_mono (F X.A.in1 X.stack s H [.ref a, .ref b] [.ref a, .ref b] _ E hr.in1 e0 (.cons rfl (.cons rfl .nil)) q) fun r s' hq => ?_)
  cases r with
  | error e => exact hx pins σ H s e s' I hq
  | ok fl =>
    cases fl with
    | ret w =>
      obtain ⟨z, H', I', rz, c', ez, q'⟩ := I.after hq
      subst ez
      cases rz
      exact ⟨c', rfl, .bl (!c'), H', I', rfl, q'⟩
    | next => exact False.elim hq
    | brk => exact False.elim hq
    | cont => exact False.elim hq
end
/-! ### the truth of an instance by an own __bool__ -/
structure BoolC (K : PySem.W.Frag) (C f : Addr) : Prop where
  bo : PySem.W.findIn K (.ref C) "__bool__" = some (some (.ref f))
  fn : PySem.W.isFn K (.ref f) = true
def rInsTru (C : Addr) (sp : Sp) (E : XK) : V → Hp → (Bool → Hp → Prop) → Prop := fun x H Q => ∃ a dx fs, x = .ref a ∧ H a = some (.ins C dx fs) ∧ sp [x] H (fun v H' => ∃ r, v = .bl r ∧ Q r H') E
theorem tru_own {X : Cx} {CX : CXT} {k : Nat} {C f : Addr} {sp : Sp} {E : XK} (c : BoolC X.K C f) (F : FnR X.prog X.w X.K X.mg X.base CX k f sp) (hr : Room k X.A) (hx : Passes CX X E) : TruR X (rInsTru C sp E) := by
  intro pins s σ H x v Q I rx h
  obtain ⟨a, dx, fs, rfl, ha, q⟩ := h
  cases rx
  obtain ⟨mA, J, _⟩ := ins_get I.hok ha
  obtain ⟨od, J, _⟩ := J.look
  obtain ⟨m, hF⟩ := I.fr
  refine PySem.W.truthy_K hF I.ok.mod.kin J c.bo c.fn ?_
  refine thn (wpAny_call (run_fnR (us := [.ref a]) (vs := [.ref a]) F hr hx I (.cons rfl .nil) q)) fun w s' ⟨z, H', I', rz, r, ez, q'⟩ => ?_
  subst ez
  cases rz
  exact ⟨H', I', q'⟩
theorem meets_bool_any {prog : Program} {w : World} (x : Value) : MeetsIn prog w (Builtin.«bool.__new__» ⟨[.type "bool", x], []⟩) (fun A R s => wpAny (model prog w) A.in1 (truthy x) (fun b s1 => R (.ok (.ret (.bool b))) s1) (fun e s1 => R (.error e) s1) s) :=
  .of_wp fun A R s h => by
    have f1 := F.conv_sub_bool
    unfold Builtin.«bool.__new__»
    repeat (any_goals (first | (with_reducible refine wpAny_bind (m := truthy _) (wpAny_mono h (fun b s1 hb => ?_) fun _ _ z => z)) | assumption | wp_step))
    all_goals first | exact ⟨_, rfl, hb⟩ | skip
theorem call_bool_any {prog : Program} {w : World} {A : Around} {E : Value → Shared → Prop} {s : Shared} {x : Value} {Q : Value → Shared → Prop} (h : wpAny (model prog w) A.in1.in1 (truthy x) (fun b s1 => Q (.bool b) s1) E s) :
    wpAny (model prog w) A (call (.type "bool") [x]) Q E s := by
  refine callType_newIn F.called_bool F.newNe_bool (F.typeCall_bool_1 x) (F.newCall_bool_1 x) (fun obj => F.args_object_init_2 obj x) F.entry_bool_new (meets_bool_any x) ?_
  show wpAny (model prog w) A.in1.in1 (truthy x) _ _ s
  exact wpAny_mono h (fun b s1 hb => ⟨rfl, hb⟩) fun _ _ z => z
def rBoolIns (C : Addr) (sp : Sp) (E : XK) : List V → Hp → VK → Prop := fun xs H Q => ∃ x, xs = [x] ∧ rInsTru C sp E x H (fun b H' => Q (.bl b) H')
theorem call_boolOwn {X : Cx} {CX : CXT} {k : Nat} {C f : Addr} {sp : Sp} {E : XK} (c : BoolC X.K C f) (F : FnR X.prog X.w X.K X.mg X.base CX k f sp) (hr : Room (k + 2) X.A) (hx : Passes CX X E) : CallR X (.type "bool") (rBoolIns C sp E) := by
  intro pins s σ H xs us Q I rx h
  obtain ⟨x, rfl, a, dx, fs, rfl, ha, q⟩ := h
  obtain rfl := Vals.ref1 rx
  obtain ⟨mA, J, _⟩ := ins_get I.hok ha
  obtain ⟨od, J, _⟩ := J.look
  obtain ⟨m, hF⟩ := I.fr
  refine call_bool_any (PySem.W.truthy_K hF I.ok.mod.kin J c.bo c.fn ?_)
  have e0 : Env0 X.prog X.w X.K X.mg X.base X.A.in1.in1 X.stack s H := I.env0.in1.in1
  refine wpAny_call (codeAny_mono (F X.A.in1.in1 X.stack s H [.ref a] [.ref a] _ E hr.in1.in1 e0 (.cons rfl .nil) q) fun r s' hq => ?_)
  cases r with
  | error e => exact hx pins σ H s e s' I hq
  | ok fl =>
    cases fl with
    | ret w =>
      obtain ⟨z, H', I', rz, c', ez, q'⟩ := I.after hq
      subst ez
      cases rz
      exact ⟨.bl c', H', I', rfl, q'⟩
    | next => exact False.elim hq
    | brk => exact False.elim hq
    | cont => exact False.elim hq
end Ru
namespace Dl
open PySem PySem.Spec PyProof.Rows L2

/-! ### sorted(set(x)) -/
def insU (x : Int) : List Int → List Int
  | [] => [x]
  | y :: r => if x < y then x :: y :: r else if x = y then y :: r else y :: insU x r
def sortU (l : List Int) : List Int := l.foldr insU []
theorem insU_mem (x k : Int) : ∀ l, k ∈ insU x l ↔ k = x ∨ k ∈ l
  | [] => by simp [insU]
  | y :: r => by
    unfold insU
    split
    · simp
    · split
      · rename_i h
        subst h
        simp
      · rw [List.mem_cons, insU_mem x k r, List.mem_cons]
        exact ⟨fun h => h.elim (fun h => .inr (.inl h)) fun h => h.elim .inl fun h => .inr (.inr h), fun h => h.elim (fun h => .inr (.inl h)) fun h => h.elim .inl fun h => .inr (.inr h)⟩
theorem insU_sorted (x : Int) : ∀ l, l.Pairwise (· < ·) → (insU x l).Pairwise (· < ·)
  | [], _ => List.pairwise_singleton _ _
  | y :: r, h => by
    obtain ⟨h1, h2⟩ := List.pairwise_cons.mp h
    unfold insU
    split
    · rename_i hxy
      refine List.pairwise_cons.mpr ⟨fun z hz => ?_, h⟩
      rcases List.mem_cons.mp hz with e | hz
      · rw [e]; exact hxy
      · exact Int.lt_trans hxy (h1 z hz)
    · split
      · exact h
      · refine List.pairwise_cons.mpr ⟨fun z hz => ?_, insU_sorted x r h2⟩
        rcases (insU_mem x z r).mp hz with e | hz
        · rw [e]; omega
        · exact h1 z hz
theorem sortU_mem (k : Int) : ∀ l, k ∈ sortU l ↔ k ∈ l
  | [] => by simp [sortU]
  | x :: r => by
    show k ∈ insU x (sortU r) ↔ _
    rw [insU_mem, sortU_mem k r, List.mem_cons]
theorem sortU_sorted : ∀ l, (sortU l).Pairwise (· < ·)
  | [] => .nil
  | x :: r => insU_sorted x _ (sortU_sorted r)
theorem lt_uniq : ∀ {a b : List Int}, a.Pairwise (· < ·) → b.Pairwise (· < ·) → (∀ k, k ∈ a ↔ k ∈ b) → a = b
  | [], [], _, _, _ => rfl
  | [], y :: b, _, _, h => absurd ((h y).mpr List.mem_cons_self) List.not_mem_nil
  | x :: a, [], _, _, h => absurd ((h x).mp List.mem_cons_self) List.not_mem_nil
  | x :: a, y :: b, ha, hb, h => by
    obtain ⟨a1, a2⟩ := List.pairwise_cons.mp ha
    obtain ⟨b1, b2⟩ := List.pairwise_cons.mp hb
    have e : x = y := by
      rcases List.mem_cons.mp ((h x).mp List.mem_cons_self) with e | e
      · exact e
      · rcases List.mem_cons.mp ((h y).mpr List.mem_cons_self) with e' | e'
        · exact e'.symm
        · have := b1 x e
          have := a1 y e'
          omega
    subst e
    refine congrArg (x :: ·) (lt_uniq a2 b2 fun k => ⟨fun z => ?_, fun z => ?_⟩)
    · rcases List.mem_cons.mp ((h k).mp (List.mem_cons_of_mem _ z)) with e | e
      · have := a1 k z
        omega
      · exact e
    · rcases List.mem_cons.mp ((h k).mpr (List.mem_cons_of_mem _ z)) with e | e
      · have := b1 k z
        omega
      · exact e
def sortSetD : List D → R D
  | [.lst xs] => (R.ofOpt (intsD xs)).bind fun bs => if bs.length < 63 then .ok (.lst ((sortU bs).map .int)) else .no
  | _ => .no
theorem sortSetD_ne : ∀ x c fs, sortSetD x ≠ .ex c fs := fun x c fs z => by
  unfold sortSetD at z
  split at z
  · refine bind_ne ofOpt_ne (fun a z => ?_) z
    split at z <;> cases z
  · cases z
section
variable {X : Cx} {C : Cd} {own : List Nat} {a : Expr} {fs : AF} {p q pos pos' : Pos}
theorem ev_sortSet (hc : X.calm = true) (hm : X.mg "sorted" = none) (hm' : X.mg "set" = none) (ha : PA X [a] (tA X.K C own fs)) (hg : Gl X "sorted" := by rfl) (hg' : Gl X "set" := by rfl)
    (he : starEach [a] X.env = (false, eval a X.env) :: starEach [] X.env := by rfl) (he' : starEach [.Call (.Name "set" q) [a] [] pos'] X.env = (false, eval (.Call (.Name "set" q) [a] [] pos') X.env) :: starEach [] X.env := by rfl) :
    PE X (.Call (.Name "sorted" p) [.Call (.Name "set" q) [a] [] pos'] [] pos) (tN X.K C own (eN sortSetD fs)) :=
  pe_imp (pe_callB (cr_sortedSet hc) hg hm (by decide +kernel) (pa_cons (pe_callTy (Si.cr_setL hc) hg' hm' (by decide +kernel) ha (by decide) (by decide) he rfl) pa_nil he') (by decide) (by decide) he' rfl) fun σ H Q ⟨env, F, hR, h⟩ => ⟨env, F, hR, h.bind.imp fun ds e1 F1 H1 hR1 s1 h1 vs rs => by
    obtain ⟨d, hd, h2⟩ := h1.known (sortSetD_ne ds)
    replace hd : sortSetD ds = .ok d := hd
    unfold sortSetD at hd
    split at hd
    · rename_i xs
      cases rs with
      | cons r rs =>
        cases rs
        cases r with
        | lst hp rs =>
          cases eb : intsD xs with
          | none => rw [eb] at hd; cases hd
          | some bs =>
            rw [eb] at hd
            have hd : (if bs.length < 63 then R.ok (D.lst ((sortU bs).map .int)) else .no) = .ok d := hd
            split at hd
            · rename_i hl
              cases hd
              have ev := intsD_rep rs eb
              subst ev
              refine ⟨_, bs, rfl, SqL.of (hR1.q.sub _ _ hp), by unfold scanBound; omega, fun p1 c h1' hc' => ?_⟩
              have st := Stp.new (o := SetO X.w p1 (fun j => decide (j ∈ bs)) c) hR1.q.sub h1' (fun _ z => nomatch z)
              have hR2 := hR1.step st
              refine ⟨p1, _, c, rfl, upd_same, by omega, fun ns p2 hs hmem _ h2' => ?_⟩
              have en : ns = sortU bs := lt_uniq hs (sortU_sorted bs) fun k => by rw [hmem k, sortU_mem, decide_eq_true_eq]
              subst en
              exact newOk hR2 (h2.later st.sF) p2 _ h2' ⟨_, upd_same, Reps.ofInts _⟩
            · cases hd
    · cases hd⟩
end

/-! ### repr -/
def reprD : List D → R D
  | [d] => match pyD d with
    | some e => if (PyData.showable e = true ∧ PyData.hasDict e = false) ∧ PyData.depth e ≤ 64 ∧ (PyData.shown e).length ≤ sizeLine then .ok (.str (PyData.shown e)) else .no
    | none => .no
  | _ => .no
theorem reprD_ne : ∀ x c fs, reprD x ≠ .ex c fs := fun x c fs z => by
  unfold reprD at z
  split at z
  · split at z
    · split at z <;> cases z
    · cases z
  · cases z
theorem oc_repr {X : Cx} {ca : CA} {k : Nat} (hg : X.A.guards = some []) (hr : Room k X.A) : CallR X (.builtin "repr") (rN X.K ca reprD) := fun pins s σ H xs us Q I r ⟨F, ds, d, sub, rs, hd, q⟩ => by
  unfold reprD at hd
  split at hd
  · rename_i x
    cases rs with
    | cons rx rs =>
      cases rs
      obtain ⟨u, eu, ru⟩ := vals1 r
      subst eu
      split at hd
      · rename_i e he
        split at hd
        · rename_i hc
          cases hd
          obtain ⟨⟨c1, c2⟩, c3, c4⟩ := hc
          have dp := pyD_dp sub rx he
          obtain ⟨as, rd⟩ := Dp.reads I e _ u dp ru
          have fin : ∀ (h' : Heap) (t tk : Tok), (∀ b o, s.heap.get? b = some o → h'.get? b = some o) → EP X pins σ Q (.str (PyData.shown e) t) { s with heap := h', toks := tk } := fun h' t tk kp =>
            ⟨.str _, H, I.call (ch := []) (Un.kept kp) (I.hok.kept kp) I.bare (fun _ z => nomatch z), ⟨t, rfl⟩, q _ F H (.refl sub) (.str _)⟩
          have big : ∀ {p0 : Addr}, u = .ref p0 → wpAny (model X.prog X.w) X.A (call (.builtin "repr") [u]) (EP X pins σ Q) X.xe s := @fun p0 eu => by
            subst eu
            have hu := hr.un
            exact PySem.repr_of_reads' rd c1 (fun z => absurd (c2.symm.trans z) (by decide)) hg (by omega) (fun _ _ z => z) (fun h' t tk kp => fin h' t tk kp) c4
          cases rx with
          | tup => exact big ru
          | lst => exact big ru
          | fro => exact big ru
          | non => cases he; cases ru; exact PySem.P.repr_of_none (fin _ _ _ fun _ _ z => z)
          | bl b => cases he; cases ru; exact PySem.P.repr_of_bool (fin _ _ _ fun _ _ z => z)
          | int i => cases he; obtain ⟨t, eu⟩ := ru; subst eu; exact PySem.P.repr_of_int (of_decide_eq_true c1) (fin _ _ _ fun _ _ z => z)
          | str z => cases he; obtain ⟨t, eu⟩ := ru; subst eu; exact PySem.P.repr_of_str (fin _ _ _ fun _ _ z => z) c4
          | _ => cases he
        · cases hd
      · cases hd
  · cases hd

/-! ### == and the truth of instances by the text's own defs -/
abbrev Tab1 := Nat → Option (List D → R D)
def TabEq (P : Program) (w : World) (K : PySem.W.Frag) (mg : Str → Option Value) (base : Heap) (ca : CA) (k : Nat) (tb : Tab1) : Prop := ∀ c F, tb c = some F → ∃ f, Ru.EqC K (ca c) f ∧ FnR P w K mg base (L2.CX P w) k f (spD K ca 2 F)
def TabBo (P : Program) (w : World) (K : PySem.W.Frag) (mg : Str → Option Value) (base : Heap) (ca : CA) (k : Nat) (tb : Tab1) : Prop := ∀ c F, tb c = some F → ∃ f, Ru.BoolC K (ca c) f ∧ FnR P w K mg base (L2.CX P w) k f (spD K ca 1 F)
def eqI (tb : Tab1) : D → D → R D
  | .ins c fs, .ins c' gs => if c = c' then match tb c with
    | some F => F [.ins c fs, .ins c' gs]
    | none => .no else .no
  | _, _ => .no
def eEqI (tb : Tab1) (neg : Bool) (fa fb : EF) : EF := fun env => (fa env).bind fun p => (fb p.2).bind fun q => (eqI tb p.1 q.1).bind fun r => (blD r).bind fun b => .ok (.bl (if neg then !b else b), q.2)
def boI (tb : Tab1) : D → R D
  | .ins c fs => match tb c with
    | some F => F [.ins c fs]
    | none => .no
  | _ => .no
def eBoI (tb : Tab1) (fa : EF) : EF := fun env => (fa env).bind fun p => (boI tb p.1).bind fun r => (blD r).bind fun b => .ok (.bl b, p.2)
section
variable {X : Cx} {C : Cd} {own : List Nat} {a b : Expr} {fa fb : EF} {tb : Tab1} {p pos : Pos} {k : Nat} {F : List D → R D}
theorem pst_call {σ : L2.St} {F1 H1 : Hp} {env : En} {ds : List D} {vs : List V} {n : Nat} (hR : RE X.K C.ca C.B own env σ F1 H1) (r : Reps X.K C.ca F1 ds vs) (hn : ds.length = n) {kf : Bool → En → Hp → Hp → Prop}
    (h : Pst X.K C own ((F ds).bind fun r => (blD r).bind fun b => .ok (b, env)) σ F1 kf) : spD X.K C.ca n F vs H1 (fun v H' => ∃ b, v = .bl b ∧ ∃ F', RE X.K C.ca C.B own env σ F' H' ∧ Same F1 F' ∧ kf b env F' H') C.E := by
  refine ⟨F1, ds, hR.q.pre, r, hn, ?_⟩
  cases e : F ds with
  | ok d =>
    rw [e] at h
    intro v F' H' st rv
    have hR' := hR.stepC st
    have h := h.later st.sF
    cases d <;> try exact (show False from h).elim
    cases rv
    exact ⟨_, rfl, F', hR', st.sF, h.here hR'⟩
  | ex c fs => rw [e] at h; exact fun e o F' H' st xr => h e o F' H' (hR.q.stepC st) st.sF xr
  | no => rw [e] at h; exact h
def rEqs (K : PySem.W.Frag) (ca : CA) (tb : Tab1) (E : XK) (neg : Bool) : R2 := fun x y H Q => ∃ c F, tb c = some F ∧ Ru.rInsEq (ca c) (spD K ca 2 F) E neg x y H Q
theorem op_eqs (hT : TabEq X.prog X.w X.K X.mg X.base C.ca k tb) (hr : Room (k + 1) X.A) (hx : PX X C) : OpR X (compareOp .Eq) (rEqs X.K C.ca tb C.E false) := fun pins s σ H x y v u Q I rx ry ⟨c, F, hF, q⟩ => by
  obtain ⟨f, e, G⟩ := hT c F hF
  exact Ru.op_eqI e G (hr.mono (Nat.le_succ _)) hx pins s σ H x y v u Q I rx ry q
theorem op_nes (hT : TabEq X.prog X.w X.K X.mg X.base C.ca k tb) (hr : Room (k + 1) X.A) (hx : PX X C) : OpR X (compareOp .NotEq) (rEqs X.K C.ca tb C.E true) := fun pins s σ H x y v u Q I rx ry ⟨c, F, hF, q⟩ => by
  obtain ⟨f, e, G⟩ := hT c F hF
  exact Ru.op_neI e G hr hx pins s σ H x y v u Q I rx ry q
theorem insAt {d : D} {F H : Hp} {v : V} {c : Nat} {fs : List (Str × D)} (r : Rep X.K C.ca F (.ins c fs) v) (sub : Same F H) : ∃ a dx gs, v = .ref a ∧ H a = some (.ins (C.ca c) dx gs) := by
  cases r with
  | ins h _ _ => exact ⟨_, _, _, rfl, sub _ _ h⟩
theorem eqs_of {neg : Bool} {σ : L2.St} {F2 H2 : Hp} {env : En} {x y : D} {v w : V} {Q : VK} (hR : RE X.K C.ca C.B own env σ F2 H2) (rx : Rep X.K C.ca F2 x v) (ry : Rep X.K C.ca F2 y w) {kf : Bool → En → Hp → Hp → Prop}
    (h : Pst X.K C own ((eqI tb x y).bind fun r => (blD r).bind fun b => .ok (b, env)) σ F2 kf) (hq : ∀ b F' H', RE X.K C.ca C.B own env σ F' H' → Same F2 F' → kf b env F' H' → Q (.bl (if neg then !b else b)) H') : rEqs X.K C.ca tb C.E neg v w H2 Q := by
  unfold eqI at h
  split at h
  · rename_i c fs c' gs
    split at h
    · rename_i ec
      subst ec
      split at h
      · rename_i F hF
        obtain ⟨a, dx, g1, ea, ha⟩ := insAt (d := .non) rx hR.q.sub
        obtain ⟨b, dy, g2, eb, hb⟩ := insAt (d := .non) ry hR.q.sub
        refine ⟨c, F, hF, a, b, dx, dy, g1, g2, ea, eb, ha, hb, ?_⟩
        obtain ⟨F', ds, h1, h2, h3, h4⟩ := pst_call hR (.cons rx (.one ry)) rfl h
        refine ⟨F', ds, h1, h2, h3, ?_⟩
        split at h4
        · exact fun v F' H' st r => let ⟨b, eb, F3, hR3, s3, z⟩ := h4 v F' H' st r; ⟨b, eb, hq b F3 H' hR3 s3 z⟩
        · exact h4
        · exact h4
      · exact h.elim
    · exact h.elim
  · exact h.elim
theorem ev_eqI (hT : TabEq X.prog X.w X.K X.mg X.base C.ca k tb) (hr : Room (k + 1) X.A) (hx : PX X C) (ha : PE X a (tE X.K C own fa)) (hb : PE X b (tE X.K C own fb)) (hm : behindInMarks .Eq b = false := by first | exact nomark _ | rfl) : PE X (.Compare a [.Eq] [b] pos) (tE X.K C own (eEqI tb false fa fb)) :=
  pe_imp (pe_cmpR (op_eqs hT hr hx) ha hb hm) fun σ H Q ⟨env, F, hR, h⟩ => ⟨env, F, hR, h.bind.imp fun x e1 F1 H1 hR1 s1 h1 v rv => ⟨e1, F1, hR1, h1.bind.imp fun y e2 F2 H2 hR2 s2 h2 w rw' => by
    refine eqs_of hR2 (rv.mono s2) rw' (kf := fun b e F' H' => ∀ v, Rep X.K C.ca F' (.bl b) v → Q v H') ?_ fun b F' H' hR' s' z => z _ (.bl b)
    simp only [Bool.false_eq_true, if_false] at h2
    have h3 : Pst X.K C own (((eqI tb x y).bind fun r => (blD r).bind fun b => .ok (b, e2)).bind fun q => .ok (.bl q.1, q.2)) σ F2 fun d _ F' H' => ∀ v, Rep X.K C.ca F' d v → Q v H' := by
      cases e : eqI tb x y with
      | ok d => rw [e] at h2; cases d <;> exact h2
      | ex c fs => rw [e] at h2; exact h2
      | no => rw [e] at h2; exact h2
    exact h3.bind.imp fun b e F' H' hR' s' z => z.here hR'⟩⟩
theorem ev_neI (hT : TabEq X.prog X.w X.K X.mg X.base C.ca k tb) (hr : Room (k + 1) X.A) (hx : PX X C) (ha : PE X a (tE X.K C own fa)) (hb : PE X b (tE X.K C own fb)) (hm : behindInMarks .NotEq b = false := by first | exact nomark _ | rfl) : PE X (.Compare a [.NotEq] [b] pos) (tE X.K C own (eEqI tb true fa fb)) :=
  pe_imp (pe_cmpR (op_nes hT hr hx) ha hb hm) fun σ H Q ⟨env, F, hR, h⟩ => ⟨env, F, hR, h.bind.imp fun x e1 F1 H1 hR1 s1 h1 v rv => ⟨e1, F1, hR1, h1.bind.imp fun y e2 F2 H2 hR2 s2 h2 w rw' => by
    refine eqs_of hR2 (rv.mono s2) rw' (kf := fun b e F' H' => ∀ v, Rep X.K C.ca F' (.bl (!b)) v → Q v H') ?_ fun b F' H' hR' s' z => z _ (.bl (!b))
    simp only [if_true] at h2
    have h3 : Pst X.K C own (((eqI tb x y).bind fun r => (blD r).bind fun b => .ok (b, e2)).bind fun q => .ok (.bl (!q.1), q.2)) σ F2 fun d _ F' H' => ∀ v, Rep X.K C.ca F' d v → Q v H' := by
      cases e : eqI tb x y with
      | ok d => rw [e] at h2; cases d <;> exact h2
      | ex c fs => rw [e] at h2; exact h2
      | no => rw [e] at h2; exact h2
    exact h3.bind.imp fun b e F' H' hR' s' z => z.here hR'⟩⟩
theorem et_eqs {op : CmpOp} {neg : Bool} (ho : OpR X (compareOp op) (rEqs X.K C.ca tb C.E neg)) (ha : PE X a (tE X.K C own fa)) (hb : PE X b (tE X.K C own fb)) (hm : behindInMarks op b = false) : PT X (.Compare a [op] [b] pos) (tT X.K C own (tB1 (eEqI tb neg fa fb))) :=
  pt_imp (pt_cmpR ho ha hb hm) fun σ H Q ⟨env, F, hR, h⟩ => by
    refine ⟨env, F, hR, ?_⟩
    have h : Pst X.K C own ((fa env).bind fun p => (fb p.2).bind fun q => ((eqI tb p.1 q.1).bind fun r => (blD r).bind fun b => .ok (b, q.2)).bind fun q => .ok (if neg then !q.1 else q.1, q.2)) σ F fun b _ _ H' => Q b H' := by
      unfold tB1 eEqI at h
      cases e1 : fa env with
      | ok p =>
        rw [e1] at h
        simp only [R.bind_ok] at h ⊢
        cases e2 : fb p.2 with
        | ok q =>
          rw [e2] at h
          simp only [R.bind_ok] at h ⊢
          cases e : eqI tb p.1 q.1 with
          | ok d => rw [e] at h; cases d <;> exact h
          | ex c fs => rw [e] at h; exact h
          | no => rw [e] at h; exact h
        | ex c fs => rw [e2] at h; exact h
        | no => rw [e2] at h; exact h
      | ex c fs => rw [e1] at h; exact h
      | no => rw [e1] at h; exact h
    exact h.bind.imp fun x e1 F1 H1 hR1 s1 h1 v rv => ⟨e1, F1, hR1, h1.bind.imp fun y e2 F2 H2 hR2 s2 h2 w rw' =>
      eqs_of hR2 (rv.mono s2) rw' (kf := fun b e F' H' => Q (if neg then !b else b) H') (h2.bind.imp fun b e F' H' hR' s' z => z.here hR') fun b F' H' hR' s' z => ⟨_, rfl, z⟩⟩
theorem et_eqI (hT : TabEq X.prog X.w X.K X.mg X.base C.ca k tb) (hr : Room (k + 1) X.A) (hx : PX X C) (ha : PE X a (tE X.K C own fa)) (hb : PE X b (tE X.K C own fb)) (hm : behindInMarks .Eq b = false := by first | exact nomark _ | rfl) : PT X (.Compare a [.Eq] [b] pos) (tT X.K C own (tB1 (eEqI tb false fa fb))) :=
  et_eqs (op_eqs hT hr hx) ha hb hm
theorem et_neI (hT : TabEq X.prog X.w X.K X.mg X.base C.ca k tb) (hr : Room (k + 1) X.A) (hx : PX X C) (ha : PE X a (tE X.K C own fa)) (hb : PE X b (tE X.K C own fb)) (hm : behindInMarks .NotEq b = false := by first | exact nomark _ | rfl) : PT X (.Compare a [.NotEq] [b] pos) (tT X.K C own (tB1 (eEqI tb true fa fb))) :=
  et_eqs (op_nes hT hr hx) ha hb hm
def rBos (K : PySem.W.Frag) (ca : CA) (tb : Tab1) (E : XK) : List V → Hp → VK → Prop := fun xs H Q => ∃ c F, tb c = some F ∧ Ru.rBoolIns (ca c) (spD K ca 1 F) E xs H Q
theorem cr_bos (hT : TabBo X.prog X.w X.K X.mg X.base C.ca k tb) (hr : Room (k + 2) X.A) (hx : PX X C) : CallR X (.type "bool") (rBos X.K C.ca tb C.E) := fun pins s σ H xs us Q I r ⟨c, F, hF, q⟩ => by
  obtain ⟨f, e, G⟩ := hT c F hF
  exact Ru.call_boolOwn e G hr hx pins s σ H xs us Q I r q
theorem ev_boI (hT : TabBo X.prog X.w X.K X.mg X.base C.ca k tb) (hr : Room (k + 2) X.A) (hx : PX X C) (hm : X.mg "bool" = none) (ha : PE X a (tE X.K C own fa)) (hg : Gl X "bool" := by rfl) (he : starEach [a] X.env = (false, eval a X.env) :: starEach [] X.env := by rfl) : PE X (.Call (.Name "bool" p) [a] [] pos) (tE X.K C own (eBoI tb fa)) :=
  pe_imp (pe_callTy (cr_bos hT hr hx) hg hm (by decide +kernel) (pa_cons ha pa_nil he) (by decide) (by decide) he rfl) fun σ H Q ⟨env, F, hR, h⟩ => ⟨env, F, hR, h.bind.imp fun x e1 F1 H1 hR1 s1 h1 v rv => by
    dsimp only at h1
    unfold boI at h1
    split at h1
    · rename_i c fs
      split at h1
      · rename_i G hG
        obtain ⟨a', dx, g1, ea, ha'⟩ := insAt (d := .non) rv hR1.q.sub
        refine ⟨c, G, hG, v, rfl, a', dx, g1, ea, ha', ?_⟩
        have h3 : Pst X.K C own (((G [.ins c fs]).bind fun r => (blD r).bind fun b => .ok (b, e1)).bind fun q => .ok (.bl q.1, q.2)) σ F1 fun d _ F' H' => ∀ v, Rep X.K C.ca F' d v → Q v H' := by
          cases e : G [.ins c fs] with
          | ok d => rw [e] at h1; cases d <;> exact h1
          | ex c fs => rw [e] at h1; exact h1
          | no => rw [e] at h1; exact h1
        have h4 : Pst X.K C own ((G [.ins c fs]).bind fun r => (blD r).bind fun b => .ok (b, e1)) σ F1 fun b e F' H' => ∀ v, Rep X.K C.ca F' (.bl b) v → Q v H' := h3.bind.imp fun b e F' H' hR' s' z => z.here hR'
        obtain ⟨F', ds, q1, q2, q3, q4⟩ := pst_call hR1 (.one rv) rfl h4
        refine ⟨F', ds, q1, q2, q3, ?_⟩
        split at q4
        · exact fun v F' H' st r => let ⟨b, eb, F3, hR3, s3, z⟩ := q4 v F' H' st r; ⟨b, eb, z _ (.bl b)⟩
        · exact q4
        · exact q4
      · exact h1.elim
    · exact h1.elim⟩
end
end Dl

namespace Dl
open PySem PySem.Spec PyProof.Rows L2

/-! ### small pieces of the texts that are printed -/
theorem nek {K : PySem.W.Frag} {C W : Addr} (h : PySem.W.kitOne K (.ref C) (.ref W) = some false) (h2 : PySem.W.kitOne K (.ref W) (.ref W) = some true) : C ≠ W := fun e => by
  rw [e, h2] at h
  cases h
section
variable {P : Program} {w : World} {K : PySem.W.Frag} {mg : Str → Option Value} {base : Heap} {ca : CA} {k n : Nat} {f : Addr} {fd : FuncData} {ps : List Str} {sp sp' : Sp} {F : List D → R D}
theorem rawD (G : FnOk P w K mg base (L2.CX P w) k f fd ps (spD K ca n F)) (hb : Binds K fd ps []) : FnR P w K mg base (L2.CX P w) k f (spD K ca n F) :=
  (G.raw hb .nil).imp fun vs H Q E h => by
    rw [List.append_nil]
    exact h
theorem FnG.weak (G : FnG P w K mg base k f fd ps sp) (h : ∀ vs H Q E, sp' vs H Q E → sp vs H Q E) : FnG P w K mg base k f fd ps sp' :=
  ⟨fun vs H Q E q => G.len vs H Q E (h _ _ _ _ q), fun hg room e b r q => G.go hg room e b r (h _ _ _ _ q)⟩
end
def spLaw (K : PySem.W.Frag) : Sp := fun vs H Q _ => ∃ (a : Addr) (ns : List Int), ns.length ≤ 63 ∧ vs = [.ref a] ∧ Only H ∧ SqL K H a (ns.map V.int) ∧ ∀ H', Q (.bl true) H'
theorem law_sp' {K : PySem.W.Frag} {ca : CA} {F : List D → R D} {H : Hp} {a : Addr} {ns : List Int} {Q : VK} {E : XK} (hT : ca.T = []) (hF : F [.fro (ns.map .int)] = .ok (.bl true)) (only : Only H) (seq : SqL K H a (ns.map V.int)) (q : ∀ H', Q (.bl true) H') :
    spD K ca 1 F [.ref a] H Q E := by
  refine ⟨H, [.fro (ns.map .int)], ⟨Same.refl _, by rw [hT]; exact (fun p hp => nomatch hp), fun p ps z => ?_⟩, .one (.fro seq (Reps.ofInts ns)), rfl, ?_⟩
  · rcases only p with e | ⟨o, xs, e⟩ <;> (rw [e] at z; cases z)
  · rw [hF]
    exact fun v F' H' _ r => by cases r; exact q H'
/-! ### the truth of a value -/
def truD : D → R Bool
  | .non => .ok false
  | .bl b => .ok b
  | .int i => .ok (i != 0)
  | .str z => if z.length ≤ sizeLine then .ok ((z.length : Int) != 0) else .no
  | .tup xs => .ok (!xs.isEmpty)
  | .lst xs => .ok (!xs.isEmpty)
  | .fro xs => .ok (!xs.isEmpty)
  | _ => .no
theorem truD_ne : ∀ x c fs, truD x ≠ .ex c fs := fun x c fs z => by
  unfold truD at z
  split at z <;> first | cases z | (split at z <;> cases z)
def tTru (f : EF) : TF := fun env => (f env).bind fun p => (truD p.1).bind fun b => .ok (b, p.2)
theorem Reps.isEmpty {K : PySem.W.Frag} {ca : CA} {F : Hp} {xs : List D} {vs : List V} (r : Reps K ca F xs vs) : (!xs.isEmpty) = !vs.isEmpty := by cases r <;> rfl
theorem tru_rep {K : PySem.W.Frag} {ca : CA} {F H : Hp} {d : D} {v : V} {b : Bool} (r : Rep K ca F d v) (sub : Same F H) (h : truD d = .ok b) : TruV K v H b := by
  cases r with
  | non => cases h; rfl
  | bl b => cases h; rfl
  | int i => cases h; rfl
  | str z =>
    unfold truD at h
    dsimp only at h
    split at h
    · rename_i hz
      cases h; exact ⟨hz, rfl⟩
    · cases h
  | tup hp rs => cases h; exact .inr (.inl ⟨_, Same.seqT sub hp, rs.isEmpty⟩)
  | lst hp rs => cases h; exact .inl ⟨_, SqL.of (sub _ _ hp), rs.isEmpty⟩
  | fro hp rs => cases h; exact .inl ⟨_, Same.seq sub hp, rs.isEmpty⟩
  | _ => cases h
theorem et_tru {X : Cx} {C : Cd} {own : List Nat} {a : Expr} {fa : EF} (h : PE X a (tE X.K C own fa)) (he : ∀ whole, isTrue a X.env whole = (do let v ← whole; standAt a.pos; holding [v] (truthy v)) := by intro _; rfl) : PT X a (tT X.K C own (tTru fa)) :=
  pt_imp (pt_truth h he) fun σ H Q ⟨env, F, hR, h⟩ => ⟨env, F, hR, h.bind.imp fun x e1 F1 H1 hR1 s1 h1 v rv => by
    obtain ⟨b, hb, h2⟩ := h1.known (truD_ne x)
    exact ⟨b, tru_rep rv hR1.q.sub hb, h2.here hR1⟩⟩
end Dl

namespace Dl
open PySem PySem.Spec PyProof.Rows L2

/-! ### running mirrors by simp -/
def SR.seq : SR → SF → SR
  | .nx e, g => g e
  | .rt d e, _ => .rt d e
  | .bk e, _ => .bk e
  | .ct e, _ => .ct e
  | .ex c fs, _ => .ex c fs
  | .no, _ => .no
section
variable {α β : Type} {env e : En} {g g1 g2 : SF} {d : D} {c : Nat} {fs : List (Str × D)} {p : Prop} [Decidable p]
@[simp] theorem bind_ok' {a : α} {f : α → R β} : (R.ok a).bind f = f a := (rfl)
@[simp] theorem bind_no' {f : α → R β} : (R.no : R α).bind f = .no := (rfl)
@[simp] theorem seq_nx : SR.seq (.nx e) g = g e := (rfl)
@[simp] theorem seq_rt : SR.seq (.rt d e) g = .rt d e := (rfl)
@[simp] theorem seq_bk : SR.seq (.bk e) g = .bk e := (rfl)
@[simp] theorem seq_ct : SR.seq (.ct e) g = .ct e := (rfl)
@[simp] theorem seq_no : SR.seq .no g = .no := (rfl)
@[simp] theorem toS_no {k : α → SR} : (R.no : R α).toS k = .no := (rfl)
@[simp] theorem nox_no : (R.no : R α).nox = .no := (rfl)
@[simp] theorem seq_ite {a b : SR} : SR.seq (if p then a else b) g = if p then SR.seq a g else SR.seq b g := by split <;> rfl
@[simp] theorem seqS_ap : seqS g1 g2 env = SR.seq (g1 env) g2 := by
  unfold seqS
  cases g1 env <;> rfl
@[simp] theorem toS_ok {a : α} {k : α → SR} : (R.ok a).toS k = k a := (rfl)
@[simp] theorem toS_ite {a b : R α} {k : α → SR} : R.toS (if p then a else b) k = if p then a.toS k else b.toS k := by split <;> rfl
@[simp] theorem bind_ite {a b : R α} {f : α → R β} : R.bind (if p then a else b) f = if p then a.bind f else b.bind f := by split <;> rfl
@[simp] theorem nox_ok {a : α} : (R.ok a).nox = .ok a := (rfl)
@[simp] theorem ifS_ap {t : TF} : ifS t g1 g2 env = (t env).toS fun p => if p.1 = true then g1 p.2 else g2 p.2 := (rfl)
@[simp] theorem asgS_ap {i : Nat} {f : EF} : asgS i f env = (f env).toS fun p => .nx (p.2.set i (some p.1)) := (rfl)
@[simp] theorem retS_ap {f : EF} : retS f env = (f env).toS fun p => .rt p.1 p.2 := (rfl)
@[simp] theorem retN_ap : retN env = .rt .non env := (rfl)
@[simp] theorem expS_ap {f : EF} : expS f env = (f env).toS fun p => .nx p.2 := (rfl)
@[simp] theorem passS_ap : passS env = .nx env := (rfl)
@[simp] theorem brkS_ap : brkS env = .bk env := (rfl)
@[simp] theorem cntS_ap : cntS env = .ct env := (rfl)
@[simp] theorem asgG_ap {b : BF} {f : EF} : asgG b f env = (f env).toS fun p => (b p.1 p.2).toS fun e => .nx e := (rfl)
@[simp] theorem bName_ap {i : Nat} : bName i d env = .ok (env.set i (some d)) := (rfl)
@[simp] theorem bNil_ap : bNil [] env = .ok env := (rfl)
@[simp] theorem bCons_ap {b : BF} {bs : BFs} {r : List D} : bCons b bs (d :: r) env = (b d env).bind fun e => bs r e := (rfl)
@[simp] theorem bSeq_tup {n : Nat} {b : BFs} {xs : List D} : bSeq n b (.tup xs) env = if xs.length = n then b xs env else .no := (rfl)
@[simp] theorem bSeq_lst {n : Nat} {b : BFs} {xs : List D} : bSeq n b (.lst xs) env = if xs.length = n then b xs env else .no := (rfl)
def oV : Option (Option D) → En → R (D × En)
  | some (some d), env => .ok (d, env)
  | _, _ => .no
@[simp] theorem oV_ap : oV (some (some d)) env = .ok (d, env) := (rfl)
@[simp] theorem eV_ap {i : Nat} : eV i env = oV env[i]? env := by
  unfold eV oV
  rcases env[i]? with _ | (_ | _) <;> rfl
@[simp] theorem eC_ap : eC d env = .ok (d, env) := (rfl)
@[simp] theorem e1_ap {h : D → R D} {f : EF} : e1 h f env = (f env).bind fun p => (h p.1).bind fun r => .ok (r, p.2) := (rfl)
@[simp] theorem e2_ap {h : D → D → R D} {f1 f2 : EF} : e2 h f1 f2 env = (f1 env).bind fun p => (f2 p.2).bind fun q => (h p.1 q.1).bind fun r => .ok (r, q.2) := (rfl)
@[simp] theorem eN_ap {h : List D → R D} {f : AF} : eN h f env = (f env).bind fun p => (h p.1).bind fun r => .ok (r, p.2) := (rfl)
@[simp] theorem aNil_ap : aNil env = .ok ([], env) := (rfl)
@[simp] theorem aCons_ap {f : EF} {fs : AF} : aCons f fs env = (f env).bind fun p => (fs p.2).bind fun q => .ok (p.1 :: q.1, q.2) := (rfl)
@[simp] theorem eIf_ap {t : TF} {f1 f2 : EF} : eIf t f1 f2 env = (t env).bind fun p => if p.1 = true then f1 p.2 else f2 p.2 := (rfl)
@[simp] theorem blD_ap {b : Bool} : blD (.bl b) = .ok b := (rfl)
@[simp] theorem tB1_ap {f : EF} : tB1 f env = (f env).bind fun p => (blD p.1).bind fun b => .ok (b, p.2) := (rfl)
@[simp] theorem tTru_ap {f : EF} : tTru f env = (f env).bind fun p => (truD p.1).bind fun b => .ok (b, p.2) := (rfl)
@[simp] theorem tNot1_ap {f : TF} : tNot1 f env = (f env).bind fun p => .ok (!p.1, p.2) := (rfl)
@[simp] theorem tAnd1_ap {f h : TF} : tAnd1 f h env = (f env).bind fun p => if p.1 = true then h p.2 else .ok (false, p.2) := (rfl)
@[simp] theorem tOr1_ap {f h : TF} : tOr1 f h env = (f env).bind fun p => if p.1 = true then .ok (true, p.2) else h p.2 := (rfl)
@[simp] theorem eAnd_ap {f h : EF} : eAnd f h env = (f env).bind fun p => (blD p.1).bind fun b => if b = true then h p.2 else .ok (.bl false, p.2) := (rfl)
@[simp] theorem eOr_ap {f h : EF} : eOr f h env = (f env).bind fun p => (blD p.1).bind fun b => if b = true then .ok (.bl true, p.2) else h p.2 := (rfl)
@[simp] theorem eNot_ap {f : EF} : eNot f env = (f env).bind fun p => (blD p.1).bind fun b => .ok (.bl (!b), p.2) := (rfl)
@[simp] theorem callF_ap {n : Nat} {F : List D → R D} {fs : AF} : callF n F fs env = (fs env).bind fun p => if p.1.length = n then (F p.1).bind fun d => .ok (d, p.2) else .no := (rfl)
def oM : Option (Option D) → (D → R (D × En)) → R (D × En)
  | some (some d), k => k d
  | _, _ => .no
@[simp] theorem oM_ap {k : D → R (D × En)} : oM (some (some d)) k = k d := (rfl)
@[simp] theorem callM_ap {i n : Nat} {F : List D → R (D × D)} {fs : AF} : callM i n F fs env = oM env[i]? fun _ => (fs env).bind fun p => oM p.2[i]? fun d0 => if p.1.length + 1 = n then (F (d0 :: p.1)).nox.bind fun r => .ok (r.1, p.2.set i (some r.2)) else .no := by
  unfold callM
  rcases env[i]? with _ | (_ | d0)
  · rfl
  · rfl
  · show (fs env).bind _ = (fs env).bind _
    refine congrArg _ (funext fun p => ?_)
    rcases p.2[i]? with _ | (_ | d1) <;> rfl
@[simp] theorem mthM_ap {i : Nat} {h : D → List D → R (D × D)} {fs : AF} : mthM i h fs env = oM env[i]? fun d => if isLst d = true then (fs env).bind fun p => oM p.2[i]? fun d0 => (h d0 p.1).nox.bind fun r => .ok (r.1, p.2.set i (some r.2)) else .no := by
  unfold mthM
  rcases env[i]? with _ | (_ | d0)
  · rfl
  · rfl
  · refine ite_congr rfl (fun _ => congrArg _ (funext fun p => ?_)) fun _ => rfl
    rcases p.2[i]? with _ | (_ | d1) <;> rfl
@[simp] theorem isLst_ap {xs : List D} : isLst (.lst xs) = true := (rfl)
@[simp] theorem appendD_ap {xs : List D} : appendD (.lst xs) [d] = if xs.length < sizeLine then .ok (.non, .lst (xs ++ [d])) else .no := (rfl)
def oI : Option (Option D) → D → (List D → Int → SR) → SR
  | some (some (.lst xs)), .int k, f => f xs k
  | _, _, _ => .no
@[simp] theorem oI_ap {xs : List D} {k : Int} {f : List D → Int → SR} : oI (some (some (.lst xs))) (.int k) f = f xs k := (rfl)
def oS : Option (Option D) → (D → SR) → SR
  | some (some d), k => k d
  | _, _ => .no
@[simp] theorem oS_ap {k : D → SR} : oS (some (some d)) k = k d := (rfl)
@[simp] theorem setS_ap {i : Nat} {fv fi : EF} : setS i fv fi env = (fv env).toS fun p => oS p.2[i]? fun _ => (fi p.2).toS fun q => oI q.2[i]? q.1 fun xs k => (setIx xs k p.1).toS fun d => .nx (q.2.set i (some d)) := by
  unfold setS
  refine congrArg _ (funext fun p => ?_)
  rcases p.2[i]? with _ | (_ | d0)
  · rfl
  · rfl
  · show (fi p.2).toS _ = (fi p.2).toS _
    refine congrArg _ (funext fun q => ?_)
    rcases q.2[i]? with _ | (_ | d1)
    · rfl
    · rfl
    · cases d1 <;> first | rfl | (rcases q.1 <;> rfl)
def oL : Option (Option D) → D → (List D → Int → R (D × En)) → R (D × En)
  | some (some (.lst xs)), .int k, f => f xs k
  | _, _, _ => .no
@[simp] theorem oL_ap {xs : List D} {k : Int} {f : List D → Int → R (D × En)} : oL (some (some (.lst xs))) (.int k) f = f xs k := (rfl)
@[simp] theorem ixO_ap {i : Nat} {fb : EF} : ixO i fb env = oM env[i]? fun _ => (fb env).bind fun p => oL p.2[i]? p.1 fun xs k => (R.ofOpt (atI xs k)).bind fun d => .ok (d, p.2) := by
  unfold ixO
  rcases env[i]? with _ | (_ | d0)
  · rfl
  · rfl
  · show (fb env).bind _ = (fb env).bind _
    refine congrArg _ (funext fun q => ?_)
    rcases q.2[i]? with _ | (_ | d1)
    · rfl
    · rfl
    · cases d1 <;> first | rfl | (rcases q.1 <;> rfl)
def oF : Option (Option D) → (Nat → List (Str × D) → SR) → SR
  | some (some (.ins c fs)), k => k c fs
  | _, _ => .no
@[simp] theorem oF_ap {k : Nat → List (Str × D) → SR} : oF (some (some (.ins c fs))) k = k c fs := (rfl)
@[simp] theorem fldS_ap {i : Nat} {cs : List Nat} {f : Str} {fa : EF} : fldS i cs f fa env = (fa env).toS fun p => oF p.2[i]? fun c fs => if cs.contains c = false ∧ fs.length < 1000 then .nx (p.2.set i (some (.ins c (putD f p.1 fs)))) else .no := by
  unfold fldS
  refine congrArg _ (funext fun p => ?_)
  rcases p.2[i]? with _ | (_ | d1)
  · rfl
  · rfl
  · cases d1 <;> rfl
@[simp] theorem eFldO_ap {i : Nat} {cs : List Nat} {f : Str} : eFldO i cs f env = oM env[i]? fun d => (attrD cs f d).bind fun v => .ok (v, env) := by
  unfold eFldO
  rcases env[i]? with _ | (_ | d0) <;> rfl
@[simp] theorem attrD_ap {cs : List Nat} {f : Str} : attrD cs f (.ins c fs) = if cs.contains c = true then .no else R.ofOpt (fs.lookup f) := (rfl)
@[simp] theorem ofOpt_some {α : Type} {a : α} : R.ofOpt (some a) = .ok a := (rfl)
@[simp] theorem makeF_ap {m n : Nat} {G : List D → R (D × D)} {as : AF} : makeF m n G as env = (as env).bind fun p => if p.1.length + 1 = n then (G (.ins m [] :: p.1)).bind fun r => (nonD r).bind fun d => .ok (d, p.2) else .no := (rfl)
@[simp] theorem nonD_ap {x : D} : nonD (.non, x) = .ok x := (rfl)
@[simp] theorem lcE_ap {vs : List Nat} {fi : AF} {b : BF} {t : TF} {f : EF} : lcE vs fi b t f env = (fi env).bind fun p => (lcF vs b t f p.1 [] (wipeE p.2 vs)).nox.bind fun q => .ok (.lst q.1, backE p.2 q.2 vs) := (rfl)
@[simp] theorem tYes1_ap : tYes1 env = .ok (true, env) := (rfl)
@[simp] theorem iVal_ap {f : EF} : iVal f env = (f env).bind fun p => (valD p.1).bind fun xs => .ok (xs, p.2) := (rfl)
@[simp] theorem iArg_ap {h : List D → R (List D)} {f : AF} : iArg h f env = (f env).bind fun p => (h p.1).bind fun xs => .ok (xs, p.2) := (rfl)
@[simp] theorem forStm_ap {f : AF} {b : BF} : forStm f b g env = (f env).toS fun p => forS b g p.1 p.2 := (rfl)
def p2 (i j : Nat) : List D → En → SR
  | [a, b], e => .nx ((e.set i (some a)).set j (some b))
  | _, _ => .no
def p3 (i j l : Nat) : List D → En → SR
  | [a, b, c], e => .nx (((e.set i (some a)).set j (some b)).set l (some c))
  | _, _ => .no
@[simp] theorem p2_ap {i j : Nat} {x y : D} : p2 i j [x, y] e = .nx ((e.set i (some x)).set j (some y)) := (rfl)
@[simp] theorem p3_ap {i j l : Nat} {x y z : D} : p3 i j l [x, y, z] e = .nx (((e.set i (some x)).set j (some y)).set l (some z)) := (rfl)
@[simp] theorem par2S_ap {i j : Nat} {as : AF} : par2S i j as env = (as env).toS fun p => p2 i j p.1 p.2 := by
  refine congrArg _ (funext fun p => ?_)
  rcases p.1 with _ | ⟨_, _ | ⟨_, _ | _⟩⟩ <;> rfl
@[simp] theorem par3S_ap {i j l : Nat} {as : AF} : par3S i j l as env = (as env).toS fun p => p3 i j l p.1 p.2 := by
  refine congrArg _ (funext fun p => ?_)
  rcases p.1 with _ | ⟨_, _ | ⟨_, _ | ⟨_, _ | _⟩⟩⟩ <;> rfl
@[simp] theorem pNone_ap : pNone env = .ok (none, env) := (rfl)
@[simp] theorem intO_ap {i : Int} : intO (.int i) = .ok (some i) := (rfl)
@[simp] theorem pSome_ap {f : EF} : pSome f env = (f env).bind fun p => (intO p.1).bind fun i => .ok (i, p.2) := (rfl)
@[simp] theorem eSl_ap {h : D → Option Int → Option Int → R D} {fa : EF} {fl fu : PF} : eSl h fa fl fu env = (fa env).bind fun p => (fl p.2).bind fun q => (fu q.2).bind fun r => (h p.1 q.1 r.1).bind fun d => .ok (d, r.2) := (rfl)
@[simp] theorem lookT_ap {f : TF} : lookT f env = (f env).nox.bind fun p => .ok (p.1, env) := (rfl)
@[simp] theorem lookE_ap {f : EF} : lookE f env = (f env).nox.bind fun p => if immD p.1 = true then .ok (p.1, env) else .no := (rfl)
@[simp] theorem hLast_ap {h : D → D → R D} {fb : EF} : hLast h fb d env = (fb env).bind fun q => (h d q.1).bind fun r => .ok (r, q.2) := (rfl)
@[simp] theorem hLink_ap {h : D → D → R D} {fb : EF} {k : HF} : hLink h fb k d env = (fb env).bind fun q => (h d q.1).bind fun r => (blD r).bind fun b => if b = true then k q.1 q.2 else .ok (.bl false, q.2) := (rfl)
@[simp] theorem kLast_ap {h : D → D → R D} {fb : EF} : kLast h fb d env = (fb env).bind fun q => (h d q.1).bind fun r => (blD r).bind fun b => .ok (b, q.2) := (rfl)
@[simp] theorem kLink_ap {h : D → D → R D} {fb : EF} {k : KF} : kLink h fb k d env = (fb env).bind fun q => (h d q.1).bind fun r => (blD r).bind fun b => if b = true then k q.1 q.2 else .ok (false, q.2) := (rfl)
@[simp] theorem eCh_ap {fa : EF} {h : HF} : eCh fa h env = (fa env).bind fun p => h p.1 p.2 := (rfl)
@[simp] theorem tCh_ap {fa : EF} {h : KF} : tCh fa h env = (fa env).bind fun p => h p.1 p.2 := (rfl)
@[simp] theorem eEqI_ap {tb : Tab1} {neg : Bool} {fa fb : EF} : eEqI tb neg fa fb env = (fa env).bind fun p => (fb p.2).bind fun q => (eqI tb p.1 q.1).bind fun r => (blD r).bind fun b => .ok (.bl (if neg then !b else b), q.2) := (rfl)
@[simp] theorem eBoI_ap {tb : Tab1} {fa : EF} : eBoI tb fa env = (fa env).bind fun p => (boI tb p.1).bind fun r => (blD r).bind fun b => .ok (.bl b, p.2) := (rfl)
@[simp] theorem callK_ap {n : Nat} {F : List D → R D} {gD : List D → List D} {fk : AF} : callK n F gD fk env = (fk env).bind fun p => if (gD p.1).length = n then (F (gD p.1)).bind fun d => .ok (d, p.2) else .no := (rfl)
/-- what a body gives -/
def SR.fin : SR → R D
  | .nx _ => .ok .non
  | .rt d _ => .ok d
  | .ex c fs => .ex c fs
  | _ => .no
def SR.finM : SR → R (D × D)
  | .nx e => lastD .non e
  | .rt d e => lastD d e
  | .ex c fs => .ex c fs
  | _ => .no
def SR.finN : SR → R D
  | .rt d _ => .ok d
  | .ex c fs => .ex c fs
  | _ => .no
@[simp] theorem fin_nx : (SR.nx e).fin = .ok .non := (rfl)
@[simp] theorem fin_rt : (SR.rt d e).fin = .ok d := (rfl)
@[simp] theorem finM_nx : (SR.nx e).finM = lastD .non e := (rfl)
@[simp] theorem finM_rt : (SR.rt d e).finM = lastD d e := (rfl)
@[simp] theorem finN_rt : (SR.rt d e).finN = .ok d := (rfl)
@[simp] theorem fin_ite {a b : SR} : SR.fin (if p then a else b) = if p then a.fin else b.fin := by split <;> rfl
@[simp] theorem finM_ite {a b : SR} : SR.finM (if p then a else b) = if p then a.finM else b.finM := by split <;> rfl
@[simp] theorem finN_ite {a b : SR} : SR.finN (if p then a else b) = if p then a.finN else b.finN := by split <;> rfl
@[simp] theorem runD_ap {n : Nat} {ds : List D} : runD n g ds = (g (startE n ds)).fin := by
  unfold runD SR.fin
  cases g (startE n ds) <;> rfl
@[simp] theorem runM_ap {n : Nat} {ds : List D} : runM n g ds = (g (startE n ds)).finM := by
  unfold runM SR.finM
  cases g (startE n ds) <;> rfl
@[simp] theorem runN_ap {n : Nat} {ds : List D} : runN n g ds = (g (startE n ds)).finN := by
  unfold runN SR.finN
  cases g (startE n ds) <;> rfl
@[simp] theorem lastD_ap {x : D} {r : En} : lastD d (some x :: r) = .ok (d, x) := (rfl)
@[simp] theorem starD_ap {m : Nat} {G : List D → R (D × D)} {ds : List D} : starD m G ds = if m ≤ ds.length ∧ (ds.drop m).length ≤ sizeLine then G (ds.take m ++ [.tup (ds.drop m)]) else .no := (rfl)
@[simp] theorem startE_ap {n : Nat} {ds : List D} : startE n ds = ds.map some ++ List.replicate (n - ds.length) none := (rfl)
/-! loops -/
def SR.lp : SR → (En → SR) → SR
  | .nx e, k => k e
  | .ct e, k => k e
  | .bk e, _ => .nx e
  | .rt d e, _ => .rt d e
  | .ex c fs, _ => .ex c fs
  | .no, _ => .no
@[simp] theorem lp_nx {k : En → SR} : (SR.nx e).lp k = k e := (rfl)
@[simp] theorem lp_ct {k : En → SR} : (SR.ct e).lp k = k e := (rfl)
@[simp] theorem lp_bk {k : En → SR} : (SR.bk e).lp k = .nx e := (rfl)
@[simp] theorem lp_rt {k : En → SR} : (SR.rt d e).lp k = .rt d e := (rfl)
@[simp] theorem lp_ite {a b : SR} {k : En → SR} : SR.lp (if p then a else b) k = if p then a.lp k else b.lp k := by split <;> rfl
theorem forS_nil {b : BF} : forS b g [] e = .nx e := rfl
theorem forS_cons {b : BF} {x : D} {xs : List D} : forS b g (x :: xs) e = (b x e).toS fun e1 => (g e1).lp (forS b g xs) := by
  rw [forS]
  refine congrArg _ (funext fun e1 => ?_)
  cases g e1 <;> rfl
theorem whS_succ {t : TF} {n : Nat} : whS t g (n + 1) e = (t e).toS fun p => if p.1 = true then (g p.2).lp (whS t g n) else .nx p.2 := by
  rw [whS]
  refine congrArg _ (funext fun p => ite_congr rfl (fun _ => ?_) fun _ => rfl)
  cases g p.2 <;> rfl
theorem lcF_nil {vs : List Nat} {b : BF} {t : TF} {f : EF} {acc : List D} : lcF vs b t f [] acc e = .ok (acc, e) := rfl
theorem lcF_cons {vs : List Nat} {b : BF} {t : TF} {f : EF} {x : D} {xs acc : List D} : lcF vs b t f (x :: xs) acc e = (b x e).bind fun e1 => (t e1).bind fun p => if p.1 = true then (f p.2).bind fun q => if acc.length < sizeLine then lcF vs b t f xs (acc ++ [q.1]) (wipeE q.2 vs) else .no else lcF vs b t f xs acc (wipeE p.2 vs) := rfl
/-! operators -/
@[simp] theorem addD_int {i j : Int} : addD (.int i) (.int j) = .ok (.int (i + j)) := (rfl)
@[simp] theorem addD_lst {xs ys : List D} : addD (.lst xs) (.lst ys) = if xs.length + ys.length ≤ sizeLine then .ok (.lst (xs ++ ys)) else .no := (rfl)
@[simp] theorem intD_int {h : Int → Int → R Int} {i j : Int} : intD h (.int i) (.int j) = (h i j).bind fun k => .ok (.int k) := (rfl)
@[simp] theorem subI_ap {i j : Int} : subI i j = .ok (i - j) := (rfl)
@[simp] theorem modI_ap {i j : Int} : modI i j = if 0 < j then .ok (i % j) else .no := (rfl)
@[simp] theorem fdivI_ap {i j : Int} : fdivI i j = if 0 < j ∧ j.toNat < 1073741824 then .ok (i / j) else .no := (rfl)
@[simp] theorem powI_ap {i j : Int} : powI i j = if 0 ≤ j ∧ j.toNat ≤ 1000000 ∧ i.natAbs < 2 ^ 64 then .ok (i ^ j.toNat) else .no := (rfl)
@[simp] theorem ltD_int {i j : Int} : ltD (.int i) (.int j) = .ok (.bl (decide (i < j))) := (rfl)
@[simp] theorem leD_int {i j : Int} : leD (.int i) (.int j) = .ok (.bl (decide (i ≤ j))) := (rfl)
@[simp] theorem gtD_int {i j : Int} : gtD (.int i) (.int j) = .ok (.bl (decide (j < i))) := (rfl)
@[simp] theorem geD_int {i j : Int} : geD (.int i) (.int j) = .ok (.bl (decide (j ≤ i))) := (rfl)
@[simp] theorem negD_int {i : Int} : negD (.int i) = .ok (.int (-i)) := (rfl)
@[simp] theorem intC_int {i : Int} : intC [.int i] = .ok (.int i) := (rfl)
@[simp] theorem intC_bl {b : Bool} : intC [.bl b] = .ok (.int (if b then 1 else 0)) := (rfl)
@[simp] theorem absD_int {i : Int} : absD [.int i] = .ok (.int (if i < 0 then -i else i)) := (rfl)
@[simp] theorem lenD_lst {xs : List D} : lenD [.lst xs] = .ok (.int xs.length) := (rfl)
@[simp] theorem lenD_tup {xs : List D} : lenD [.tup xs] = .ok (.int xs.length) := (rfl)
@[simp] theorem valD_lst {xs : List D} : valD (.lst xs) = .ok xs := (rfl)
@[simp] theorem valD_tup {xs : List D} : valD (.tup xs) = .ok xs := (rfl)
@[simp] theorem lstD_ap {xs : List D} : lstD xs = if xs.length ≤ sizeLine then .ok (.lst xs) else .no := by
  unfold lstD lenOk
  split <;> rfl
@[simp] theorem tupD_ap {xs : List D} : tupD xs = if xs.length ≤ sizeLine then .ok (.tup xs) else .no := by
  unfold tupD lenOk
  split <;> rfl
@[simp] theorem tupC_lst {xs : List D} : tupC [.lst xs] = .ok (.tup xs) := (rfl)
@[simp] theorem tupC_tup {xs : List D} : tupC [.tup xs] = .ok (.tup xs) := (rfl)
@[simp] theorem lstC_lst {xs : List D} : lstC [.lst xs] = .ok (.lst xs) := (rfl)
@[simp] theorem ixD_lst {xs : List D} {i : Int} : ixD (.lst xs) (.int i) = .ofOpt (atI xs i) := (rfl)
@[simp] theorem ixD_tup {xs : List D} {i : Int} : ixD (.tup xs) (.int i) = .ofOpt (atI xs i) := (rfl)
@[simp] theorem isD_non : isD .non .non = .ok (.bl true) := (rfl)
@[simp] theorem isD_int {i : Int} : isD (.int i) .non = .ok (.bl false) := (rfl)
@[simp] theorem isnD_bl {a b : Bool} : isnD (.bl a) (.bl b) = .ok (.bl (!decide (a = b))) := (rfl)
@[simp] theorem isD_bl {a b : Bool} : isD (.bl a) (.bl b) = .ok (.bl (decide (a = b))) := (rfl)
@[simp] theorem slP_lst {xs : List D} {lo hi : Option Int} : slP (.lst xs) lo hi = .ok (.lst (cutL xs lo hi)) := (rfl)
@[simp] theorem slP_fro {xs : List D} {lo hi : Option Int} : slP (.fro xs) lo hi = .ok (.lst (cutL xs lo hi)) := (rfl)
@[simp] theorem slP_tup {xs : List D} {lo hi : Option Int} : slP (.tup xs) lo hi = .ok (.tup (cutL xs lo hi)) := (rfl)
@[simp] theorem rng1D_ap {j : Int} : rng1D [.int j] = if (-j).toNat < 4611686018427387904 ∧ j.toNat < 4611686018427387904 then .ok (rng 0 j.toNat) else .no := (rfl)
@[simp] theorem rng2D_ap {i j : Int} : rng2D [.int i, .int j] = if ((-i).toNat < 4611686018427387904 ∧ i.toNat < 4611686018427387904) ∧ (-j).toNat < 4611686018427387904 ∧ j.toNat < 4611686018427387904 then .ok (rng i (j - i).toNat) else .no := (rfl)
@[simp] theorem typeD_ins : typeD [.ins c fs] = .ok (.cod c) := (rfl)
@[simp] theorem clsIsD_cod {a b : Nat} : clsIsD (.cod a) (.cod b) = .ok (.bl (decide (a = b))) := (rfl)
@[simp] theorem clsIsnD_cod {a b : Nat} : clsIsnD (.cod a) (.cod b) = .ok (.bl (!decide (a = b))) := (rfl)
@[simp] theorem truD_int {i : Int} : truD (.int i) = .ok (i != 0) := (rfl)
@[simp] theorem truD_bl {b : Bool} : truD (.bl b) = .ok b := (rfl)
@[simp] theorem eqD_int {i j : Int} : eqD (.int i) (.int j) = .ok (.bl (decide (i = j))) := by
  show R.ok (D.bl (i == j)) = _
  rfl
@[simp] theorem neD_int {i j : Int} : neD (.int i) (.int j) = .ok (.bl (!decide (i = j))) := by
  show R.ok (D.bl (!(i == j))) = _
  rfl
/-- a product that is not too long -/
theorem mulP_int {i j : Int} (h : i.natAbs < 2 ^ 64 ∨ j.natAbs < 2 ^ 64 ∨ i.natAbs.log2 + j.natAbs.log2 < 1000000) : mulP (.int i) (.int j) = .ok (.int (i * j)) := by
  have e : mulI i j = .ok (i * j) := by
    unfold mulI
    split
    · rfl
    · rename_i q
      rw [if_pos (by
        rcases h with h | h | h
        · exact absurd (.inl h) q
        · exact absurd (.inr h) q
        · exact h)]
  unfold mulP orD
  rw [intD_int, e]
  rfl
theorem log2_lt_of {n k : Nat} (h : n < 2 ^ k) (hk : 0 < k) : n.log2 < k := by
  by_cases h0 : n = 0
  · subst h0; simpa using hk
  · exact (Nat.log2_lt h0).2 h
theorem mulP_bits {i j : Int} (h1 : i.natAbs < 2 ^ 499999) (h2 : j.natAbs < 2 ^ 499999) : mulP (.int i) (.int j) = .ok (.int (i * j)) := by
  refine mulP_int (.inr (.inr ?_))
  have a := log2_lt_of h1 (by decide)
  have b := log2_lt_of h2 (by decide)
  omega
@[simp] theorem mulP_lit {i j : Int} (h : i.natAbs < 2 ^ 64) : mulP (.int i) (.int j) = .ok (.int (i * j)) := mulP_int (.inl h)
@[simp] theorem max2D_int {i j : Int} : max2D [.int i, .int j] = .ok (.int (if j > i then j else i)) := (rfl)
@[simp] theorem min2D_int {i j : Int} : min2D [.int i, .int j] = .ok (.int (if j < i then j else i)) := (rfl)
theorem mulP_s {i j : Int} (h : i.natAbs < 18446744073709551616) : mulP (.int i) (.int j) = .ok (.int (i * j)) := mulP_int (.inl h)
theorem shpD_int {i : Int} : shpD (.int i) = some (.int i) := rfl
theorem pyDs_ints : ∀ (ns : List Int), pyDs (ns.map D.int) = some (ns.map PyData.int)
  | [] => rfl
  | n :: ns => by
    show (match pyD (.int n), pyDs (ns.map D.int) with
      | some d, some ds => some (d :: ds)
      | _, _ => none) = _
    rw [pyDs_ints ns]
    rfl
theorem canAll_ints : ∀ (ns : List Int), PyData.canLayAll0 (ns.map PyData.int) = true
  | [] => rfl
  | n :: ns => by
    show (PyData.canLay0 (.int n) && PyData.canLayAll0 (ns.map PyData.int)) = true
    rw [canAll_ints ns]
    rfl
theorem depthAll_ints : ∀ (ns : List Int), PyData.depthAll (ns.map PyData.int) = 0
  | [] => rfl
  | n :: ns => by
    show max (PyData.depth (.int n)) (PyData.depthAll (ns.map PyData.int)) = 0
    rw [depthAll_ints ns]
    rfl
theorem eqvAll_ints : ∀ (ns ms : List Int), PyData.eqvAll (ns.map PyData.int) (ms.map PyData.int) = decide (ns = ms)
  | [], [] => rfl
  | [], _ :: _ => rfl
  | _ :: _, [] => rfl
  | n :: ns, m :: ms => by
    show ((n == m) && PyData.eqvAll (ns.map PyData.int) (ms.map PyData.int)) = _
    rw [eqvAll_ints ns ms]
    by_cases h : n = m <;> by_cases h' : ns = ms <;> simp [h, h']
theorem shpD_lst {ns : List Int} : shpD (.lst (ns.map D.int)) = some (.list (ns.map PyData.int)) := by
  have e : pyD (.lst (ns.map D.int)) = some (.list (ns.map PyData.int)) := by
    show (pyDs (ns.map D.int)).map PyData.list = _
    rw [pyDs_ints]
    rfl
  have s : SeqAt.shaped (.list (ns.map PyData.int)) = true := by
    show (PyData.canLayAll0 (ns.map PyData.int) && decide (PyData.depthAll (ns.map PyData.int) + 1 ≤ 64)) = true
    rw [canAll_ints, depthAll_ints]
    rfl
  unfold shpD
  rw [e]
  exact if_pos s
theorem shpD_tup {ns : List Int} : shpD (.tup (ns.map D.int)) = some (.tuple (ns.map PyData.int)) := by
  have e : pyD (.tup (ns.map D.int)) = some (.tuple (ns.map PyData.int)) := by
    show (pyDs (ns.map D.int)).map PyData.tuple = _
    rw [pyDs_ints]
    rfl
  have s : SeqAt.shaped (.tuple (ns.map PyData.int)) = true := by
    show (PyData.canLayAll0 (ns.map PyData.int) && decide (PyData.depthAll (ns.map PyData.int) + 1 ≤ 64)) = true
    rw [canAll_ints, depthAll_ints]
    rfl
  unfold shpD
  rw [e]
  exact if_pos s
theorem neD_ints {ns ms : List Int} : neD (.lst (ns.map D.int)) (.lst (ms.map D.int)) = .ok (.bl (!decide (ns = ms))) := by
  show neDp _ _ = _
  unfold neDp
  rw [shpD_lst, shpD_lst]
  show R.ok (D.bl (!PyData.eqvAll _ _)) = _
  rw [eqvAll_ints]
theorem eqD_ints {ns ms : List Int} : eqD (.lst (ns.map D.int)) (.lst (ms.map D.int)) = .ok (.bl (decide (ns = ms))) := by
  show eqDp _ _ = _
  unfold eqDp
  rw [shpD_lst, shpD_lst]
  show R.ok (D.bl (PyData.eqvAll _ _)) = _
  rw [eqvAll_ints]
theorem neD_intsT {ns ms : List Int} : neD (.tup (ns.map D.int)) (.tup (ms.map D.int)) = .ok (.bl (!decide (ns = ms))) := by
  show neDp _ _ = _
  unfold neDp
  rw [shpD_tup, shpD_tup]
  show R.ok (D.bl (!PyData.eqvAll _ _)) = _
  rw [eqvAll_ints]
@[simp] theorem neD_nil {ns : List Int} : neD (.lst (ns.map D.int)) (.lst []) = .ok (.bl (!decide (ns = []))) := neD_ints (ms := [])
@[simp] theorem neD_nil0 : neD (.lst []) (.lst []) = .ok (.bl false) := neD_ints (ns := []) (ms := [])
@[simp] theorem eqD_str {a b : Str} : eqD (.str a) (.str b) = .ok (.bl (a == b)) := (rfl)
@[simp] theorem neD_str {a b : Str} : neD (.str a) (.str b) = .ok (.bl (!(a == b))) := (rfl)
@[simp] theorem neD_bl {a b : Bool} : neD (.bl a) (.bl b) = .ok (.bl (!(a == b))) := (rfl)
@[simp] theorem eqD_bl {a b : Bool} : eqD (.bl a) (.bl b) = .ok (.bl (a == b)) := (rfl)
theorem atI_nat {α : Type} {xs : List α} {k : Nat} {i : Int} (h : i = k) : atI xs i = xs[k]? := by
  subst h
  unfold atI ixN
  rw [if_pos (Int.natCast_nonneg _)]
  by_cases hk : k < xs.length
  · rw [if_pos (by exact_mod_cast hk)]; rfl
  · rw [if_neg (by exact_mod_cast hk)]
    rw [List.getElem?_eq_none (by omega)]; rfl
@[simp] theorem atI_0 {α : Type} {x : α} {xs : List α} : atI (x :: xs) 0 = some x := atI_nat (k := 0) rfl
@[simp] theorem atI_1 {α : Type} {x y : α} {xs : List α} : atI (x :: y :: xs) 1 = some y := atI_nat (k := 1) rfl
@[simp] theorem atI_2 {α : Type} {x y z : α} {xs : List α} : atI (x :: y :: z :: xs) 2 = some z := atI_nat (k := 2) rfl
theorem setIx_nat {xs : List D} {k : Nat} {v : D} {i : Int} (h : i = k) (hk : k < xs.length) : setIx xs i v = .ok (.lst (xs.set k v)) := by
  subst h
  unfold setIx ixN
  rw [if_pos (Int.natCast_nonneg _), if_pos (by exact_mod_cast hk)]
  rfl
theorem line_lt {n : Nat} (h : n < 16777216) : n < sizeLine := by rw [sizeLine_eq]; exact h
theorem line_le {n : Nat} (h : n ≤ 16777216) : n ≤ sizeLine := by rw [sizeLine_eq]; exact h
end
end Dl

/-! the suite of an except: what it makes of the exception's class and fields -/
namespace Dl
open PySem PySem.Spec PyProof.Rows L2
/-- in the suite: the exception at a stands in slot i; n slots -/
structure SE (K : PySem.W.Frag) (ca : CA) (n i : Nat) (a : Addr) (c : Nat) (fs : List (Str × D)) (cls : Value) (d : Option Addr) (σ : L2.St) (F H : Hp) : Prop where
  sub : Same F H
  nt : ∀ p ps, F p ≠ some (.tbl ps)
  len : σ.length = n
  at_ : σ[i]? = some (some (.ref a))
  xr : XR K ca c fs cls d F
theorem SE.step {K : PySem.W.Frag} {ca : CA} {n i : Nat} {a : Addr} {c : Nat} {fs : List (Str × D)} {cls : Value} {d : Option Addr} {σ : L2.St} {F H F' H' : Hp} (h : SE K ca n i a c fs cls d σ F H) (s : Stp F H F' H') : SE K ca n i a c fs cls d σ F' H' :=
  ⟨s.sub, fun p ps z => h.nt p ps (s.nt p ps z), h.len, h.at_, h.xr.mono s.sF⟩
section
variable (K : PySem.W.Frag) (ca : CA) (S : L2.St → Hp → Hp → Prop)
def tX (d : D) : TE := fun σ H Q => ∃ F, S σ F H ∧ ∀ v F' H', Stp F H F' H' → Rep K ca F' d v → Q v H'
def tXA (ds : List D) : TA := fun σ H Q => ∃ F, S σ F H ∧ ∀ vs F' H', Stp F H F' H' → Reps K ca F' ds vs → Q vs H'
def tXT (b : Bool) : TT := fun σ H Q => ∃ F, S σ F H ∧ ∀ F' H', Stp F H F' H' → Q b H'
/-- closed under steps -/
structure Stl : Prop where
  sub : ∀ {σ F H}, S σ F H → Same F H
  st : ∀ {σ F H F' H'}, S σ F H → Stp F H F' H' → S σ F' H'
end
theorem SE.stl {K : PySem.W.Frag} {ca : CA} {n i : Nat} {a : Addr} {c : Nat} {fs : List (Str × D)} {cls : Value} {d : Option Addr} : Stl (SE K ca n i a c fs cls d) := ⟨fun h => h.sub, fun h s => h.step s⟩
section
variable {X : Cx} {ca : CA} {S : L2.St → Hp → Hp → Prop} {e a b : Expr} {es : List Expr} {d d1 d2 : D} {ds : List D} {pos : Pos}
theorem ex_k {v : V} (hS : Stl S) (he : PE X e (tC v)) (r : ∀ F, Rep X.K ca F d v) : PE X e (tX X.K ca S d) := pe_imp he fun σ H Q ⟨F, hs, h⟩ => h v F H (Stp.refl (hS.sub hs)) (r F)
theorem ex_nil (hS : Stl S) : PA X [] (tXA X.K ca S []) := pa_imp pa_nil fun σ H Q ⟨F, hs, h⟩ => h [] F H (Stp.refl (hS.sub hs)) .nil
theorem ex_cons (hS : Stl S) (ha : PE X a (tX X.K ca S d)) (hr : PA X es (tXA X.K ca S ds)) (hs : starEach (a :: es) X.env = (false, eval a X.env) :: starEach es X.env := by rfl) : PA X (a :: es) (tXA X.K ca S (d :: ds)) :=
  pa_imp (pa_cons ha hr hs) fun σ H Q ⟨F, hs, h⟩ => ⟨F, hs, fun v F1 H1 s1 r1 => ⟨F1, hS.st hs s1, fun vs F2 H2 s2 r2 => h (v :: vs) F2 H2 (s1.trans s2) (.cons (r1.mono s2.sF) r2)⟩⟩
theorem ex_tup {k} (hS : Stl S) (h : PA X es (tXA X.K ca S ds)) (hl : ds.length ≤ sizeLine) : PE X (.Tuple es k pos) (tX X.K ca S (.tup ds)) :=
  pe_imp (pe_tup h) fun σ H Q ⟨F, hs, q⟩ => ⟨F, hs, fun vs F1 H1 s1 r => ⟨by rw [← r.length]; exact hl, fun p hp => by
    have st : Stp F1 H1 (upd F1 p (.tup vs)) (upd H1 p (.tup vs)) := .new s1.sub hp
    exact q _ _ _ (s1.trans st) (.tup (.of upd_same) (r.mono st.sF))⟩⟩
theorem pe_no : PE X e (fun _ _ _ => False) := ⟨fun _ _ _ _ _ _ h => h.elim⟩
theorem ex_if {t : Bool} {c : Expr} (hS : Stl S) (hc : PT X c (tXT S t)) (ha : t = true → PE X a (tX X.K ca S d)) (hb : t = false → PE X b (tX X.K ca S d)) : PE X (.IfExp c a b pos) (tX X.K ca S d) := by
  cases t with
  | true =>
    exact pe_imp (pe_ifExp (ta := tX X.K ca S d) (tb := fun _ _ _ => False) hc (ha rfl) pe_no) fun σ H Q ⟨F, hs, q⟩ => ⟨F, hs, fun F1 H1 s1 => ⟨F1, hS.st hs s1, fun v F2 H2 s2 r => q v F2 H2 (s1.trans s2) r⟩⟩
  | false =>
    exact pe_imp (pe_ifExp (ta := fun _ _ _ => False) (tb := tX X.K ca S d) hc pe_no (hb rfl)) fun σ H Q ⟨F, hs, q⟩ => ⟨F, hs, fun F1 H1 s1 => ⟨F1, hS.st hs s1, fun v F2 H2 s2 r => q v F2 H2 (s1.trans s2) r⟩⟩
end
section
variable {X : Cx} {ca : CA} {n i c : Nat} {a : Addr} {fs : List (Str × D)} {dic : Option Addr} {oe : Obj} {cls : Value} {pn : List (Addr × Obj)} {nm : Str} {p pos tpos : Pos} {d : D}
/-- the exception's field f -/
theorem ex_fld {f : Str} (T : XfC X.K (ca c)) (hno : PySem.W.findIn X.K (.ref (ca c)) f = some none) (hz : Zc cls dic oe) (hf : ∃ vs, oe.data = .fields vs) (hl : fs.lookup f = some d) (hN : X.N[i]? = some nm := by rfl)
    (hv : Vis X.env.scope nm := by first | exact Or.inl rfl | exact Or.inr (Or.inl rfl) | exact Or.inr (Or.inr rfl)) (hd : (nm == ("__debug__" : Str)) = false := by decide) (hcd : (nm == ("__classdict__" : Str)) = false := by decide)
    (hb : attributeBase (.Name nm p) f (X.suite a ((a, oe) :: pn)).env (eval (.Name nm p) (X.suite a ((a, oe) :: pn)).env) = eval (.Name nm p) (X.suite a ((a, oe) :: pn)).env := by rfl) :
    PE (X.suite a ((a, oe) :: pn)) (.Attribute (.Name nm p) f pos) (tX X.K ca (SE X.K ca n i a c fs cls dic) d) :=
  pe_imp (pe_xf T hno hz hf (pv i hN hv hd hcd) hb) fun σ H Q ⟨F, hs, q⟩ => by
    refine ⟨_, hs.at_, rfl, hs.xr.1, ?_⟩
    rcases hs.xr.2 with ⟨e, _⟩ | ⟨dd, gs, e1, e2, r⟩
    · rw [e] at hl; cases hl
    · obtain ⟨v, l1, l2⟩ := r.lookup hl
      exact ⟨dd, gs, v, e1, hs.sub _ _ e2, l1, q v F H (Stp.refl hs.sub) l2⟩
/-- what the class D must tell, so that isinstance asks a caught instance of it rightly -/
structure XiC (K : PySem.W.Frag) (D : Addr) : Prop where
  cl : (PySem.W.clsIn K D).isSome = true
  ga : PySem.W.findIn K (.ref D) "__getattribute__" = some (some (.builtin "BaseException.__getattribute__"))
  gt : PySem.W.findIn K (.ref D) "__getattr__" = some none
  sb : PySem.W.subIn K (.ref D) (.type "BaseException") = some true
  ca : PySem.W.findIn K (.ref D) "__class__" = some (some (.builtin "object.__class__"))
  sp : PySem.W.specialIn K (.builtin "object.__class__") "__get__" = some (some (.builtin "getset_descriptor.__get__"))
  tk : PySem.W.takesIn K (.builtin "object.__class__") = some true
  mr : PySem.W.mroIn K D (.type "object") = some true
/-- the caught exception as isinstance sees it -/
theorem xr_kit {pins : List (Addr × Obj)} {σ : L2.St} {F H : Hp} {s : Shared} (sub : Same F H) (xr : XR X.K ca c fs cls dic F) (I : Inv (X.suite a ((a, oe) :: pn)) pins σ H s) (T : XiC X.K (ca c)) (hz : Zc cls dic oe) (hf : ∃ vs, oe.data = .fields vs) :
    ∃ P : Heap → Prop, PySem.W.KitX X.K (.ref a) (.ref (ca c)) P ∧ P s.heap := by
  have pin := (I.pin (a, oe) (List.mem_append_left _ List.mem_cons_self)).1
  have ncl : PySem.W.notCls oe := by
    obtain ⟨vs, hv⟩ := hf
    unfold PySem.W.notCls
    rw [hv]
  have ec : oe.cls = .ref (ca c) := hz.1.trans xr.1
  suffices h : ∃ od, PySem.W.InstAt s.heap a oe (ca c) od by
    obtain ⟨od, J⟩ := h
    exact ⟨_, PySem.W.kitx_exc T.cl T.ga T.gt T.sb T.ca T.sp T.tk T.mr, J⟩
  rcases xr.2 with ⟨_, e⟩ | ⟨dd, gs, e1, e2, _⟩
  · exact ⟨none, pin, ec, ncl, by rw [hz.2, e]; trivial⟩
  · obtain ⟨mA, hns, _⟩ := (show ObjOk X.prog X.w H s.heap dd (.xd gs) from I.hok dd _ (sub _ _ e2))
    obtain ⟨od, ho, _⟩ := lookIn_ns hns
    exact ⟨some od, pin, ec, ncl, by rw [hz.2, e1]; exact ho⟩
/-- isinstance of the caught exception: one class; a tuple of classes -/
def rXi (K : PySem.W.Frag) (ca : CA) (a : Addr) (c : Nat) (fs : List (Str × D)) (cls : Value) (dic : Option Addr) : List V → Hp → VK → Prop := fun xs H Q => ∃ F v cv b, Same F H ∧ XR K ca c fs cls dic F ∧ xs = [.ref a, v] ∧ (∀ u, RelV v u → u = cv) ∧ PySem.W.kitOne K (.ref (ca c)) cv = some b ∧ Q (.bl b) H
theorem call_xi (T : XiC X.K (ca c)) (hz : Zc cls dic oe) (hf : ∃ vs, oe.data = .fields vs) : CallR (X.suite a ((a, oe) :: pn)) (.builtin "isinstance") (rXi X.K ca a c fs cls dic) := fun pins s σ H xs us Q I r h => by
  obtain ⟨F, v, cv, b, sub, xr, ex, hv, hk, q⟩ := h
  subst ex
  obtain ⟨w1, w2, ew, r1, r2⟩ := vals2 r
  subst ew
  rw [show w1 = Value.ref a from r1, hv w2 r2]
  obtain ⟨P, Z, hp⟩ := xr_kit sub xr I T hz hf
  exact PySem.W.kia_one Z I.kIn hp hk (fun z => nomatch z) fun tk => ⟨.bl b, H, I.tok tk, rfl, q⟩
theorem ex_isi {e2 : Expr} {v : V} {cv : Value} {b : Bool} {q2 : Pos} (T : XiC X.K (ca c)) (hz : Zc cls dic oe) (hf : ∃ vs, oe.data = .fields vs) (hk : PySem.W.kitOne X.K (.ref (ca c)) cv = some b) (he : PE (X.suite a ((a, oe) :: pn)) e2 (tC v)) (hv2 : ∀ u, RelV v u → u = cv) (hm : X.mg "isinstance" = none)
    (hN : X.N[i]? = some nm := by rfl) (hv : Vis X.env.scope nm := by first | exact Or.inl rfl | exact Or.inr (Or.inl rfl) | exact Or.inr (Or.inr rfl)) (hd : (nm == ("__debug__" : Str)) = false := by decide) (hcd : (nm == ("__classdict__" : Str)) = false := by decide)
    (hg : Gl X "isinstance" := by rfl) (h1 : starEach [.Name nm q2, e2] X.env = (false, eval (.Name nm q2) X.env) :: starEach [e2] X.env := by rfl) (h2 : starEach [e2] X.env = (false, eval e2 X.env) :: starEach [] X.env := by rfl) (hpl : (backTo pos (starEach [e2] X.env)).any (·.1) = false := by rfl) :
    PE (X.suite a ((a, oe) :: pn)) (.Call (.Name "isinstance" p) [.Name nm q2, e2] [] pos) (tX X.K ca (SE X.K ca n i a c fs cls dic) (.bl b)) :=
  pe_imp (pe_callB (call_xi (fs := fs) T hz hf) hg hm (by decide +kernel) (pa_cons (pv i hN hv hd hcd) (pa_cons he pa_nil h2) h1) (by decide) (by decide) h1 hpl) fun σ H Q ⟨F, hs, q⟩ =>
    ⟨_, hs.at_, F, v, cv, b, hs.sub, hs.xr, rfl, hv2, hk, q _ F H (Stp.refl hs.sub) (.bl b)⟩
theorem ex_test {e : Expr} {S : L2.St → Hp → Hp → Prop} {b : Bool} (h : PE X e (tX X.K ca S (.bl b))) (he : ∀ whole, isTrue e X.env whole = (do let v ← whole; standAt e.pos; holding [v] (truthy v)) := by intro _; rfl) : PT X e (tXT S b) :=
  pt_imp (pt_val h he) fun σ H Q ⟨F, hs, q⟩ => ⟨F, hs, fun v F' H' st r => by
    cases r
    exact ⟨_, rfl, q F' H' st⟩⟩
def rXiT (K : PySem.W.Frag) (ca : CA) (a : Addr) (c : Nat) (fs : List (Str × D)) (cls : Value) (dic : Option Addr) : List V → Hp → VK → Prop := fun xs H Q => ∃ F tp ws cs b, Same F H ∧ XR K ca c fs cls dic F ∧ xs = [.ref a, .ref tp] ∧ H tp = some (.tup ws) ∧ (∀ us, Vals ws us → us = cs) ∧ PySem.W.kitAny K (.ref (ca c)) cs = some b ∧ Q (.bl b) H
theorem call_xiT (T : XiC X.K (ca c)) (hz : Zc cls dic oe) (hf : ∃ vs, oe.data = .fields vs) : CallR (X.suite a ((a, oe) :: pn)) (.builtin "isinstance") (rXiT X.K ca a c fs cls dic) := fun pins s σ H xs us Q I r h => by
  obtain ⟨F, tp, ws, cs, b, sub, xr, ex, ht, hv, hk, q⟩ := h
  subst ex
  obtain ⟨w1, w2, ew, r1, r2⟩ := vals2 r
  subst ew
  rw [show w1 = Value.ref a from r1, show w2 = Value.ref tp from r2]
  obtain ⟨P, Z, hp⟩ := xr_kit sub xr I T hz hf
  obtain ⟨_, its, rv, o, o1, o2, m, o3⟩ := (show ObjOk X.prog X.w H s.heap tp (.tup ws) from I.hok tp _ ht)
  have ei := hv its rv
  subst ei
  cases o with
  | mk oc od dt sl =>
    dsimp only at o2 o3
    subst o2
    subst o3
    exact PySem.W.kia_tup Z I.kIn hp o1 hk (fun z => nomatch z) fun tk => ⟨.bl b, H, I.tok tk, rfl, q⟩
theorem ex_isiT {es : List Expr} {ws : List V} {cs : List Value} {b : Bool} {k : Nat} {q2 : Pos} (T : XiC X.K (ca c)) (hz : Zc cls dic oe) (hf : ∃ vs, oe.data = .fields vs) (hk : PySem.W.kitAny X.K (.ref (ca c)) cs = some b) (he : PA (X.suite a ((a, oe) :: pn)) es (tCs ws)) (hv2 : ∀ us, Vals ws us → us = cs) (hl : ws.length ≤ sizeLine) (hm : X.mg "isinstance" = none)
    (hN : X.N[i]? = some nm := by rfl) (hv : Vis X.env.scope nm := by first | exact Or.inl rfl | exact Or.inr (Or.inl rfl) | exact Or.inr (Or.inr rfl)) (hd : (nm == ("__debug__" : Str)) = false := by decide) (hcd : (nm == ("__classdict__" : Str)) = false := by decide)
    (hg : Gl X "isinstance" := by rfl) (h1 : starEach [.Name nm q2, .Tuple es k tpos] X.env = (false, eval (.Name nm q2) X.env) :: starEach [.Tuple es k tpos] X.env := by rfl) (h2 : starEach [.Tuple es k tpos] X.env = (false, eval (.Tuple es k tpos) X.env) :: starEach [] X.env := by rfl) (hpl : (backTo pos (starEach [.Tuple es k tpos] X.env)).any (·.1) = false := by rfl) :
    PE (X.suite a ((a, oe) :: pn)) (.Call (.Name "isinstance" p) [.Name nm q2, .Tuple es k tpos] [] pos) (tX X.K ca (SE X.K ca n i a c fs cls dic) (.bl b)) :=
  pe_imp (pe_callB (call_xiT (fs := fs) T hz hf) hg hm (by decide +kernel) (pa_cons (pv i hN hv hd hcd) (pa_cons (pe_tup he) pa_nil h2) h1) (by decide) (by decide) h1 hpl) fun σ H Q ⟨F, hs, q⟩ =>
    ⟨_, hs.at_, hl, fun tp hp => ⟨F, tp, ws, cs, b, hs.sub.trans (same_upd hp), hs.xr, rfl, upd_same, hv2, hk, q _ _ _ ⟨hs.sub.trans (same_upd hp), Same.refl _, same_upd hp, fun _ z => .inl z, fun _ _ z => z⟩ (.bl b)⟩⟩
/-- what rows of the suite do: slot j is worth d behind them; none: nothing is stored -/
def tXO (K : PySem.W.Frag) (ca : CA) (S : L2.St → Hp → Hp → Prop) (j : Nat) (o : Option D) : TS := fun Dn σ H => ∃ F, S σ F H ∧ match o with
  | some d => ∀ v F' H', Stp F H F' H' → Rep K ca F' d v → Dn.nx (σ.set j (some v)) H'
  | none => ∀ F' H', Stp F H F' H' → Dn.nx σ H'
end
section
variable {X : Cx} {ca : CA} {S : L2.St → Hp → Hp → Prop} {j : Nat} {d : D} {o o1 o2 : Option D} {e c : Expr} {st : Stmt} {sts sa sb : List Stmt} {x : Str} {p pos : Pos}
theorem sx_asg (hN : X.N.Nodup) (he : PE X e (tX X.K ca S d)) (hi : X.N[j]? = some x := by rfl) (hx : Loc X.env.scope x := by first | exact Or.inl rfl | exact Or.inr rfl) (hs : swapsWith e (some (.Name x p)) pos.line X.env = pure false := by rfl)
    (hf : X.fn x = true ∨ X.env.scope.names.lookup x = some .local := by first | exact .inl rfl | exact .inr rfl | assumption) : PS X (.Assign [.Name x p] e pos) (tXO X.K ca S j (some d)) :=
  ps_imp (ps_set hN hi hx he hs hf) fun Dn σ H ⟨F, hs, q⟩ => ⟨F, hs, q⟩
theorem sx_nil (hS : Stl S) : PSs X [] (tXO X.K ca S j none) := pss_imp pss_nil fun Dn σ H ⟨F, hs, q⟩ => q F H (Stp.refl (hS.sub hs))
theorem sx_cons (hS : Stl S) (hj : ∀ σ F H v, S σ F H → S (σ.set j v) F H) (h1 : PS X st (tXO X.K ca S j o1)) (h2 : PSs X sts (tXO X.K ca S j o2)) : PSs X (st :: sts) (tXO X.K ca S j (o2.or o1)) :=
  pss_imp (pss_cons h1 h2) fun Dn σ H ⟨F, hs, q⟩ => ⟨F, hs, by
    cases o1 with
    | none => exact fun F1 H1 s1 => ⟨F1, hS.st hs s1, by
        cases o2 with
        | none => exact fun F2 H2 s2 => q F2 H2 (s1.trans s2)
        | some d2 => exact fun v F2 H2 s2 r => q v F2 H2 (s1.trans s2) r⟩
    | some d1 => exact fun v1 F1 H1 s1 r1 => ⟨F1, hj _ _ _ _ (hS.st hs s1), by
        cases o2 with
        | none => exact fun F2 H2 s2 => q v1 F2 H2 (s1.trans s2) (r1.mono s2.sF)
        | some d2 =>
          intro v F2 H2 s2 r
          rw [List.set_set]
          exact q v F2 H2 (s1.trans s2) r⟩⟩
theorem sx_if {t : Bool} (hS : Stl S) (hc : PT X c (tXT S t)) (ha : t = true → PSs X sa (tXO X.K ca S j o)) (hb : t = false → PSs X sb (tXO X.K ca S j o)) : PS X (.If c sa sb pos) (tXO X.K ca S j o) := by
  have go : ∀ {Dn : Ends} {σ : L2.St} {F H : Hp}, S σ F H → tXO X.K ca S j o Dn σ H → True := fun _ _ => trivial
  cases t with
  | true =>
    exact ps_imp (ps_if hc (ha rfl) (pss_never (sts := sb))) fun Dn σ H ⟨F, hs, q⟩ => ⟨F, hs, fun F1 H1 s1 => ⟨F1, hS.st hs s1, by
      cases o with
      | none => exact fun F2 H2 s2 => q F2 H2 (s1.trans s2)
      | some d => exact fun v F2 H2 s2 r => q v F2 H2 (s1.trans s2) r⟩⟩
  | false =>
    exact ps_imp (ps_if hc (pss_never (sts := sa)) (hb rfl)) fun Dn σ H ⟨F, hs, q⟩ => ⟨F, hs, fun F1 H1 s1 => ⟨F1, hS.st hs s1, by
      cases o with
      | none => exact fun F2 H2 s2 => q F2 H2 (s1.trans s2)
      | some d => exact fun v F2 H2 s2 r => q v F2 H2 (s1.trans s2) r⟩⟩
theorem SE.set {K : PySem.W.Frag} {n i : Nat} {a : Addr} {c : Nat} {fs : List (Str × D)} {cls : Value} {d : Option Addr} (hij : i ≠ j) : ∀ σ F H v, SE K ca n i a c fs cls d σ F H → SE K ca n i a c fs cls d (σ.set j v) F H :=
  fun σ F H v h => ⟨h.sub, h.nt, by rw [List.length_set]; exact h.len, by rw [List.getElem?_set_ne (Ne.symm hij)]; exact h.at_, h.xr⟩
end
end Dl

/-! the def that calls what it got: h = None; try: a() except le as er: suite (stores h); return h -/
namespace Dl
open PySem PySem.Spec PyProof.Rows L2 LamX
/-- nothing but the number of slots is asked -/
theorem takes_len {X : Cx} {W : WX} (tk : Takes X W) : Takes X (fun cls d σ H => σ.length = X.N.length → W cls d σ H) := fun u s' z => by
  obtain ⟨a, B, sI, pins, σ, H, cls, d, e, I, r1, r2, r3, r4, r5, r6, w⟩ := z
  exact tk u s' ⟨a, B, sI, pins, σ, H, cls, d, e, I, r1, r2, r3, r4, r5, r6, w I.len⟩
/-- what it makes of the body's reading: g tells what is stored for an exception of that class with these fields -/
def THd (K : PySem.W.Frag) (ca : CA) (g : Nat → List (Str × D) → Option D) : (XK → Hp → VK → Prop) → Hp → VK → Prop := fun tl H Q =>
  tl (fun e o H' => ∃ c fs F d, XR K ca c fs e o F ∧ Same F H' ∧ (∀ p ps, F p ≠ some (.tbl ps)) ∧ g c fs = some d ∧ ∀ v F' H2, Stp F H' F' H2 → Rep K ca F' d v → Q v H2) H (fun _ H' => Q .non H')
section
variable {X : Cx} {ca : CA}
theorem heard_gives {Ng : List Str} {x a h er le q : Str} {sg : Scope} {gd : Addr} {cle : Value} {cdg : Value} {i j : Nat} {b₀ : Stmt} {suite : List Stmt} {g : Nat → List (Str × D) → Option D} {p1 p2 p3 p4 p5 p6 p7 p8 p9 p10 p11 : Pos}
    (hNd : Ng.Nodup) (hN1 : Ng[1]? = some h) (hNi : Ng[i]? = some er) (hi : i ≠ 1) (hl1 : sg.names.lookup h = some .local) (hli : sg.names.lookup er = some .local) (h0 : ∀ f : Addr, ((L2.start Ng [V.ref f]).set 1 (some .non))[0]? = some (some (V.ref f))) (h1 : 1 < Ng.length) (h2 : ∀ f : Addr, ((L2.start Ng [V.ref f]).set 1 (some .non))[1]? = some (some .non))
    (hn : ∀ (s : Shared) (H : Hp), Names (cxOf C8.CX0 X.prog X.w X.K X.mg X.base Ng x sg gd cdg X.A X.stack s H C8.E0).nox le cle) (hd : (h == ("__debug__" : Str)) = false) (hcd : (h == ("__classdict__" : Str)) = false)
    (hex : ∀ c fs d, g c fs = some d → PySem.W.exmOne X.K (.ref (ca c)) cle = some true)
    (hsu : ∀ (s : Shared) (H : Hp) (a : Addr) (oe : Obj) (cls : Value) (dic : Option Addr) (pn : List (Addr × Obj)) (c : Nat) (fs : List (Str × D)) (d : D), Zc cls dic oe → (∃ vs, oe.data = .fields vs) → g c fs = some d →
      PSs ((cxOf C8.CX0 X.prog X.w X.K X.mg X.base Ng x sg gd cdg X.A X.stack s H C8.E0).nox.suite a ((a, oe) :: pn)) (b₀ :: suite) (tXO X.K ca (SE X.K ca Ng.length i a c fs cls dic) 1 (some d))) :
    GivesTo X Ng x sg gd cdg [.Assign [.Name h p9] (.Constant .none j p10) p11, .Try [.Expr (.Call (.Name a p1) [] [] p2) p3] [.ExceptHandler (some (.Name le p4)) (some er) (b₀ :: suite) p5] [] [] p6, .Return (some (.Name h p7)) p8] a q (THd X.K ca g) := by
  intro f c' s H Q tl act hc ht
  refine ⟨_, pss_cons (ps_set (i := 1) hNd hN1 (.inl hl1) pe_non rfl (.inl rfl)) (pss_cons (ps_try_as (X := (cxOf C8.CX0 X.prog X.w X.K X.mg X.base Ng x sg gd cdg X.A X.stack s H C8.E0).nox) (c := cle) (i := i)
      (tb := fun W Dn σ H => ∃ Ech : XK, (∀ cls d σ' H', Ech cls d H' → σ'.length = Ng.length → W cls d σ' H') ∧ σ[0]? = some (some (.ref f)) ∧ H c' = some (CodeO c' q) ∧ tl Ech H (fun _ H' => Dn.nx σ H'))
      (ts := fun a cls dic => fun Dn σ H => ∃ c fs d, g c fs = some d ∧ tXO X.K ca (SE X.K ca Ng.length i a c fs cls dic) 1 (some d) Dn σ H)
      rfl rfl hNd hNi hli (hn s H) L2.takes0 (fun W pn xe tk _ => ?_) (fun a oe cls dic pn hz hf => ?_)) (pss_one (ps_ret (pv 1 hN1 (.inl hl1) hd hcd)))), ?_⟩
  · refine ⟨fun pins s' σ H' Dn I ⟨Ech, hW, e1, e2, e3⟩ => ?_⟩
    exact (pss_one (ps_expr (pos := p3) (act _ pn xe Ech p1 p2 (takes_len tk) fun cls d σ' H' z e => hW cls d σ' H' z e))).run pins s' σ H' Dn I ⟨e1, e2, e3⟩
  · exact ⟨fun pins s σ H Dn I ⟨c, fs, d, hg, z⟩ => (hsu _ _ a oe cls dic pn c fs d hz hf hg).run pins s σ H Dn I z⟩
  · have eq : (fun (_ : V) (H' : Hp) => ∃ v, ((L2.start Ng [V.ref f]).set 1 (some V.non))[1]? = some (some v) ∧ Q v H') = fun _ H' => Q .non H' := funext fun _ => funext fun H' => propext ⟨fun ⟨v, l, z⟩ => by
      rw [h2 f] at l
      cases l
      exact z, fun z => ⟨_, h2 f, z⟩⟩
    unfold THd at ht
    rw [← eq] at ht
    refine ⟨_, fun cls dic σ' H' z hlen => ?_, h0 f, hc, ht⟩
    obtain ⟨c, fs, F, d, xr, sub, nt, hg, k⟩ := z
    have hil : i < Ng.length := (List.getElem?_eq_some_iff.mp hNi).1
    refine ⟨true, by rw [xr.1]; exact hex c fs d hg, fun _ a na => ⟨c, fs, d, hg, F, ⟨sub, nt, by rw [List.length_set]; exact hlen, List.getElem?_set_self (by rw [hlen]; exact hil), xr⟩, fun v F' H2 st r => ?_⟩, fun z => nomatch z⟩
    exact ⟨v, by rw [List.getElem?_set_ne hi, List.getElem?_set_self (by rw [List.length_set, hlen]; exact h1)], k v F' H2 st r⟩
end
end Dl

namespace Dl
open PySem PySem.Spec PyProof.Rows L2 LamX
/-- the outcome of the body, as h tells it -/
def hdF (g : Nat → List (Str × D) → Option D) (fb : EF) : EF := fun env => match fb env with
  | .ok _ => .ok (.non, env)
  | .ex c fs => match g c fs with
    | some d => .ok (d, env)
    | none => .no
  | .no => .no
/-- the body's reading: no object of one's own; it begins at H -/
def tLb (K : PySem.W.Frag) (ca : CA) (fb : EF) : XK → TE := fun E σ H Q => ∃ F, tE K ⟨ca, ⟨F, H, none, none⟩, E, false⟩ [] fb σ H Q
theorem lb_of {X : Cx} {ca : CA} {e : Expr} {fb : EF} {E : XK} (h : ∀ B : Bs, B.m = none → PE X e (tE X.K ⟨ca, B, E, false⟩ [] fb)) : PE X e (tLb X.K ca fb E) := ⟨fun pins s σ H Q I ⟨F, z⟩ => (h _ rfl).run pins s σ H Q I z⟩
theorem hd_of {K : PySem.W.Frag} {C : Cd} {g : Nat → List (Str × D) → Option D} {fb : EF} {σ : L2.St} {H : Hp} {Q : VK} (h : tE K C [] (hdF g fb) σ H Q) : tLam C.ca.T (THd K C.ca g) (tLb K C.ca fb) σ H Q := by
  obtain ⟨env, F, hR, h⟩ := h
  refine ⟨hR.q.tb, fun H1 eN T1 => ?_⟩
  have st : StC C.ca.T F H F H1 := ⟨fun p o e => eN p o (hR.q.sub p o e) fun ps z => hR.q.nt p ps (by rw [e, z]), Same.refl _, eN, fun p z => .inl z, fun p ps z => z, T1⟩
  have hR1 := hR.stepC st
  refine ⟨F, env, F, ⟨⟨hR1.q.sub, Same.refl _, fun p o e _ _ => e, fun p z => .inl z, (fun p z => nomatch z), hR1.q.tb, hR1.q.nt⟩, hR1.len, hR1.fr, fun i d z => absurd z List.not_mem_nil, fun i j p d e z => absurd z List.not_mem_nil, (fun p z => nomatch z), fun p z => nomatch z⟩, ?_⟩
  unfold hdF at h
  cases eb : fb env with
  | ok r =>
    rw [eb] at h
    exact fun F' H' hR' s v rv => h F' H' (hR1.stepC (bq_stC hR'.q)) s .non .non
  | ex c fs =>
    rw [eb] at h
    dsimp only at h
    cases eg : g c fs with
    | none => rw [eg] at h; exact h.elim
    | some d =>
      rw [eg] at h
      exact fun e o F' H' q s xr => ⟨c, fs, F', d, xr, q.sub, q.nt, eg, fun v F2 H2 st r => h F2 H2 ((hR1.stepC (bq_stC q)).step st) (s.trans st.sF) v r⟩
  | no => rw [eb] at h; exact h.elim
/-- x(lambda: body), no object of one's own in sight -/
theorem ev_heard {X : Cx} {C : Cd} {g : Nat → List (Str × D) → Option D} {fb : EF} {x a : Str} {gd c P : Addr} {k : Nat} {pg : Arguments} {bg : List Stmt} {sg : Scope} {dV kV doc pm cdv ct oc : Value} {an od : Option Addr} {osl : Array (Option Value)} {Ng : List Str}
    {params : Arguments} {body : Expr} {scope : Scope} {p lpos pos : Pos} (hg : Gl X x) (hm : X.mg x = some (.ref gd)) (hk : PySem.W.keepIn X.K (.ref gd) = true)
    (lk : X.K.lookup gd = some ⟨oc, od, .func (PySem.W.fnOf x x pg bg sg dV kV doc pm an cdv ct), osl⟩) (hcg : PySem.W.codeIn X.K cdv x = true) (hb : L2.Binds X.K (PySem.W.fnOf x x pg bg sg dV kV doc pm an cdv ct) [a] []) (Sg : FnScope Ng [a] sg) (hNg : Ng[0]? = some a) (hva : Vis sg a)
    (hG : GivesTo X Ng x sg gd cdv bg a (X.env.qual ++ "<lambda>") (THd X.K C.ca g))
    (TB : TabB X.base X.mg c P) (hcode : X.env.code = .ref c) (hmT : (P, X.env.qual ++ "<lambda>") ∈ C.ca.T) (hu : ∀ p ∈ C.ca.T, p.1 = P → p.2 = X.env.qual ++ "<lambda>") (hr : Room (k + 2) X.A) (L : LamS X.env.scope scope) (hdef : defaultsOf params X.env = ([], []))
    (hbind : ∀ (q : Str) (cl : List (Str × Addr)) (pm cv ctv : Value), bindArgs (PySem.W.kla_fn "<lambda>" q params body scope cl pm cv ctv) ⟨[], []⟩ = pure [])
    (hbody : ∀ (A : Around) (outer : List Env) (s : Shared) (H : Hp) (E : XK) (f c' : Addr), Room k (A.deeper (lamEnv X scope s.heap.objs.size f c')) → ∀ B : Bs, B.m = none → PE (lamCx X A outer s H E scope f c') body (tE X.K ⟨C.ca, B, E, false⟩ [] fb))
    (hdb : (x == ("__debug__" : Str)) = false := by decide) (hd : (a == ("__debug__" : Str)) = false := by decide) (hcd : (a == ("__classdict__" : Str)) = false := by decide) :
    PE X (.Call (.Name x p) [.Lambda params body scope lpos] [] pos) (tE X.K C [] (hdF g fb)) :=
  pe_imp (pe_lamcall hg hm hk lk hcg hb Sg hNg hva hG TB hcode hmT hu hr L hdef hbind (fun A outer s H E f c' hr2 => lb_of (hbody A outer s H E f c' hr2)) hdb hd hcd) fun σ H Q h => hd_of h
end Dl

namespace Dl
open PySem PySem.Spec PyProof.Rows L2

/-! ### defs whose code object is known -/
theorem fun_okC {P : Program} {w : World} {K : PySem.W.Frag} {mg : Str → Option Value} {base : Heap} {CX : CXT} {x qual : Str} {st : Stmt} {f c : Addr} {fd : FuncData} {N ps : List Str} {k : Nat} {sp : Sp} (T : Fun K x qual st f fd) (hc : fd.code = .ref c) (S : FnScope N ps (defScope st))
    (len : ∀ vs H Q E, sp vs H Q E → vs.length = ps.length)
    (hb : ∀ (A : Around) (outer : List PySem.Env) (s : Shared) (H : Hp) (vs : List V) (Q : VK) (E : XK), Room k (A.deeper (envOfC qual (defScope st) s.heap.objs.size f (.ref c))) → sp vs H Q E →
      ∃ t, PSs (cxOf CX P w K mg base N qual (defScope st) f (.ref c) A outer s H E) (defBody st) t ∧ t { nx := fun _ H' => Q .non H', rt := Q } (L2.start N vs) H) : FnOk P w K mg base CX (k + 1) f fd ps sp := by
  obtain ⟨oc, od, kV, doc, pm, an, cdv, ct, osl, e, lk, hcd⟩ := T.ex
  subst e
  have hc : cdv = .ref c := hc
  subst hc
  exact fn_of lk hcd S len hb
section
variable {P : Program} {w : World} {K : PySem.W.Frag} {mg : Str → Option Value} {base : Heap} {ca : CA} {x qual : Str} {st : Stmt} {f c : Addr} {fd : FuncData} {N ps : List Str} {k : Nat} {g : SF} {own' : List Nat}
theorem fn_DC (T : Fun K x qual st f fd) (hc : fd.code = .ref c) (S : FnScope N ps (defScope st))
    (hb : ∀ (B : Bs), B.free0 → ∀ (A : Around) (outer : List PySem.Env) (s : Shared) (H : Hp) (E : XK), Room k (A.deeper (envOfC qual (defScope st) s.heap.objs.size f (.ref c))) →
      PSs (cxOf (L2.CX P w) P w K mg base N qual (defScope st) f (.ref c) A outer s H E) (defBody st) (tS K (.top ca B E false) [] own' [] g)) : FnOk P w K mg base (L2.CX P w) (k + 1) f fd ps (spD K ca ps.length (runD N.length g)) := by
  refine fun_okC T hc S (fun vs H Q E ⟨F, ds, _, r, hl, _⟩ => by rw [← r.length]; exact hl) (fun A outer s H vs Q E hr ⟨F, ds, pre, r, hl, hm⟩ => ⟨_, hb ⟨F, H, none, none⟩ ⟨rfl, rfl⟩ A outer s H E hr, ?_⟩)
  refine ⟨startE N.length ds, F, re_start pre r, ?_⟩
  unfold runD at hm
  cases eg : g (startE N.length ds) with
  | nx e => rw [eg] at hm; exact fun σ' F' H' hR s => hm .non F' H' (bq_stC hR.q) .non
  | rt d e => rw [eg] at hm; exact fun v F' H' q m s rv => hm v F' H' (bq_stC q) rv
  | bk e => rw [eg] at hm; exact hm.elim
  | ct e => rw [eg] at hm; exact hm.elim
  | ex c fs => rw [eg] at hm; exact fun e o F' H' q s xr => hm e o F' H' (bq_stC q) xr
  | no => rw [eg] at hm; exact hm.elim
theorem fn_MC (T : Fun K x qual st f fd) (hc : fd.code = .ref c) (S : FnScope N ps (defScope st))
    (hb : ∀ (B : Bs) (A : Around) (outer : List PySem.Env) (s : Shared) (H : Hp) (E : XK), Room k (A.deeper (envOfC qual (defScope st) s.heap.objs.size f (.ref c))) →
      PSs (cxOf (L2.CX P w) P w K mg base N qual (defScope st) f (.ref c) A outer s H E) (defBody st) (tS K (.top ca B E false) [0] own' [] g)) : FnOk P w K mg base (L2.CX P w) (k + 1) f fd ps (spM K ca ps.length (runM N.length g)) :=
  fun_okC T hc S (fun vs H Q E ⟨F, d0, ds, p, vs', ev, _, _, _, r, hl, _⟩ => by rw [ev, List.length_cons, ← r.length]; exact hl) fun A outer s H vs Q E hr h => body_M (fun B A outer s H E hr => hb B A outer s H E hr) A outer s H vs Q E hr h
end

/-! ### defs that change their first argument and return a new object, the caller's own -/
def spMN (K : PySem.W.Frag) (ca : CA) (n : Nat) (f : List D → R (D × D)) : Sp := fun vs H Q E => ∃ F d0 ds p vs', vs = .ref p :: vs' ∧ Pre ca F H ∧ F p = none ∧ OwO K ca F H d0 p ∧ Reps K ca F ds vs' ∧ ds.length + 1 = n ∧ match f (d0 :: ds) with
  | .ok r => ∀ q F' H', StM ca.T p F H F' H' → OwO K ca F' H' r.2 p → F' q = none → NoO H q → OwO K ca F' H' r.1 q → Q (.ref q) H'
  | .ex c fs => ∀ e o F' H', StM ca.T p F H F' H' → XR K ca c fs e o F' → E e o H'
  | .no => False
def runMN (n : Nat) (g : SF) (ds : List D) : R (D × D) := match g (startE n ds) with
  | .rt d e => lastD d e
  | .ex c fs => .ex c fs
  | _ => .no
section
variable {X : Cx} {C : Cd} {own : List Nat} {es : List Expr} {fs : AF} {x y : Str} {p q pos : Pos} {k n : Nat} {f : Addr} {fd : FuncData} {ps : List Str} {G : List D → R (D × D)}
theorem callMNOk {i : Nat} {σ : L2.St} {F1 H1 : Hp} {env : En} {d0 : D} {ds : List D} {p0 : Addr} {vs : List V} {Q : VK} (hR : RE X.K C.ca C.B own env σ F1 H1) (hi : i ∈ own) (he : env[i]? = some (some d0)) (hp : σ[i]? = some (some (.ref p0))) (r : Reps X.K C.ca F1 ds vs)
    (h : Pst X.K C own (if ds.length + 1 = n then (G (d0 :: ds)).nox.bind fun r => .ok (r.1, env.set i (some r.2)) else .no) σ F1 fun d e F' H' => ∀ p, Fsh X.K C.ca C.B own e σ F' H' d p → Q (.ref p) H') {E : XK} : spMN X.K C.ca n G (.ref p0 :: vs) H1 Q E := by
  obtain ⟨p1, hp1, O1⟩ := hR.ow i d0 hi he
  rw [hp] at hp1
  cases hp1
  by_cases hn : ds.length + 1 = n
  · rw [if_pos hn] at h
    refine ⟨F1, d0, ds, p0, vs, rfl, hR.q.pre, O1.f, O1.o, r, hn, ?_⟩
    cases eg : G (d0 :: ds) with
    | ok rr =>
      rw [eg] at h
      intro z F' H' s O' hF hz O2
      refine h F' H' (hR.called hi he hp s O') s.sF z ⟨O2, hF, hR.q.noO hz, fun w => (hR.q.mp _ w).1 hz, fun j e hj hje w => ?_⟩
      have : ∃ e0, env[j]? = some (some e0) := by
        by_cases hji : j = i
        · subst hji; exact ⟨_, he⟩
        · rw [List.getElem?_set_ne (Ne.symm hji)] at hje; exact ⟨_, hje⟩
      obtain ⟨e0, he0⟩ := this
      obtain ⟨p', h1, h2⟩ := hR.ow j e0 hj he0
      rw [w] at h1
      cases h1
      exact h2.o.thr hz
    | ex c fs => rw [eg] at h; exact h.elim
    | no => rw [eg] at h; exact h.elim
  · rw [if_neg hn] at h; exact h.elim
theorem ev_callMN (i : Nat) (Gf : FnOk X.prog X.w X.K X.mg X.base (L2.CX X.prog X.w) k f fd ps (spMN X.K C.ca n G)) (hr : Room k X.A) (hm : X.mg x = some (.ref f)) (hk : PySem.W.keepIn X.K (.ref f) = true) (hb : Binds X.K fd ps []) (hx : PX X C) (ha : PA X es (tA X.K C own fs))
    (hi : own.contains i = true := by rfl) (hN : X.N[i]? = some y := by rfl) (hv : Vis X.env.scope y := by first | exact Or.inl rfl | exact Or.inr (Or.inl rfl) | exact Or.inr (Or.inr rfl)) (hd : (y == ("__debug__" : Str)) = false := by decide)
    (hcd : (y == ("__classdict__" : Str)) = false := by decide)
    (hg : Gl X x := by rfl) (hdb : (x == ("__debug__" : Str)) = false := by decide) (he : starEach (.Name y q :: es) X.env = (false, eval (.Name y q) X.env) :: starEach es X.env := by rfl) (hpl : (backTo pos (starEach es X.env)).any (·.1) = false := by rfl) :
    PE X (.Call (.Name x p) (.Name y q :: es) [] pos) (tN X.K C own (callM i n G fs)) :=
  pe_imp (pe_callS (E := fun _ => C.E) Gf hr hg hm hk hb (fun σ pins H s e s' I c => hx pins σ H s e s' I c) (pa_cons (pv i hN hv hd hcd) ha he) hdb he hpl) fun σ H Q ⟨env, F0, hR, h⟩ => by
    have hi : i ∈ own := by simpa using hi
    unfold callM at h
    split at h
    · rename_i d00 e0
      obtain ⟨p0, hp0, O0⟩ := hR.ow i d00 hi e0
      refine ⟨_, hp0, env, F0, hR, h.bind.imp fun ds e1 F1 H1 hR1 s1 h1 vs r => ?_⟩
      dsimp only at h1
      split at h1
      · rename_i d0 e2
        exact callMNOk hR1 hi e2 hp0 r h1
      · exact h1.elim
    · exact h.elim
end
section
variable {P : Program} {w : World} {K : PySem.W.Frag} {mg : Str → Option Value} {base : Heap} {ca : CA}
theorem fn_MN {x qual : Str} {st : Stmt} {f : Addr} {fd : FuncData} {N ps : List Str} {k : Nat} {g : SF} {own' : List Nat} (T : Fun K x qual st f fd) (S : FnScope N ps (defScope st))
    (hb : ∀ (B : Bs) (cdv : Value) (A : Around) (outer : List PySem.Env) (s : Shared) (H : Hp) (E : XK), Room k (A.deeper (envOfC qual (defScope st) s.heap.objs.size f cdv)) →
      PSs (cxOf (L2.CX P w) P w K mg base N qual (defScope st) f cdv A outer s H E) (defBody st) (tS K (.top ca B E true) [0] own' [] g)) : FnOk P w K mg base (L2.CX P w) (k + 1) f fd ps (spMN K ca ps.length (runMN N.length g)) := by
  refine T.okX S (fun vs H Q E ⟨F, d0, ds, p, vs', ev, _, _, _, r, hl, _⟩ => by rw [ev, List.length_cons, ← r.length]; exact hl) ?_
  rintro cdv A outer s H vs Q E hr ⟨F, d0, ds, p, vs', ev, pre, hF, O, r, hl, hm⟩
  refine ⟨_, hb ⟨F, H, some p, none⟩ cdv A outer s H E hr, ?_⟩
  subst ev
  refine ⟨startE N.length (d0 :: ds), F, re_startM pre hF O r, ?_⟩
  unfold runMN at hm
  cases eg : g (startE N.length (d0 :: ds)) with
  | nx e => rw [eg] at hm; exact hm.elim
  | rt d e =>
    rw [eg] at hm
    intro v F' H' q m s rv
    obtain ⟨z, rfl, h1, h2, h3, h4⟩ := rv
    obtain ⟨dm, g1, g2⟩ := m p rfl
    dsimp only at hm
    unfold lastD at hm
    rw [g1] at hm
    exact hm z F' H' (bq_stM q) g2 h1 h2 h4
  | bk e => rw [eg] at hm; exact hm.elim
  | ct e => rw [eg] at hm; exact hm.elim
  | ex c fs => rw [eg] at hm; exact fun e o F' H' q s xr => hm e o F' H' (bq_stM q) xr
  | no => rw [eg] at hm; exact hm.elim
end

/-! ### raise -/
/-- an exception class of the text: its __init__ keeps each argument as a field -/
structure ExnC (K : PySem.W.Frag) (a fI : Addr) (ns : List Str) : Prop where
  ox : OexC K a
  iC : PySem.W.findIn K (.ref a) "__init__" = some (some (.ref fI))
  tI : PySem.W.typeIn K (.ref fI) = some (.type "function")
  no : ∀ f ∈ ns, PySem.W.findIn K (.ref a) f = some none
def raiseS (c n : Nat) (ns : List Str) (f : AF) : SF := fun env => (f env).toS fun p => if p.1.length = n then .ex c (ns.zip p.1) else .no
/-- what __init__ of an exception with one field does -/
def spX1 (K : PySem.W.Frag) (f : Str) : Sp := fun vs H Q E => ∃ a y C, vs = [.ref a, y] ∧ OexC K C ∧ PySem.W.findIn K (.ref C) f = some none ∧ H a = some (exo a C none) ∧ ∀ dx, H dx = none → dx ≠ a → Q .non (upd (upd H dx (exd dx [(f, y)])) a (exo a C (some dx)))
section
variable {P : Program} {w : World} {K : PySem.W.Frag} {mg : Str → Option Value} {base : Heap}
theorem fn_X1 {x qual self y f : Str} {st : Stmt} {fa : Addr} {fd : FuncData} {p1 p2 p3 pos : Pos} (T : Fun K x qual st fa fd) (S : FnScope [self, y] [self, y] (defScope st)) (hb : defBody st = [.Assign [.Attribute (.Name self p1) f p2] (.Name y p3) pos])
    (v0 : Vis (defScope st) self := by first | exact Or.inl rfl | exact Or.inr (Or.inl rfl)) (v1 : Vis (defScope st) y := by first | exact Or.inl rfl | exact Or.inr (Or.inl rfl)) (d0 : (self == ("__debug__" : Str)) = false := by decide) (d1 : (y == ("__debug__" : Str)) = false := by decide)
    (c0 : (self == ("__classdict__" : Str)) = false := by decide) (c1 : (y == ("__classdict__" : Str)) = false := by decide) :
    FnOk P w K mg base (L2.CX P w) 1 fa fd [self, y] (spX1 K f) := by
  refine T.okX S (fun vs H Q E ⟨a, u, C, e, _⟩ => by rw [e]; rfl) (fun cdv A outer s H vs Q E hr ⟨a, u, C, e, ox, no, ha, q⟩ => ?_)
  subst e
  rw [hb]
  refine ⟨_, pss_one (ps_ost (pv 0 rfl v0 d0 c0) (pv 1 rfl v1 d1 c1)), ?_⟩
  exact ⟨u, rfl, .ref a, rfl, a, C, rfl, ox, no, .inl ⟨ha, fun dx h1 h2 => q dx h1 h2⟩⟩
end
theorem exo_lay {H : Hp} {a C dx : Addr} {f : Str} {y : V} {gs : List (Str × V)} (ha : H a = none) (hd : H dx = none) (n : dx ≠ a) :
    upd (del (upd (upd (upd H a (exo a C none)) dx (exd dx [(f, y)])) a (exo a C (some dx))) a) dx (.xd gs) = upd H dx (.xd gs) := by
  funext b
  by_cases h1 : b = dx
  · subst h1; rw [upd_same, upd_same]
  · rw [upd_ne h1, upd_ne h1]
    by_cases h2 : b = a
    · subst h2; rw [del_same, ha]
    · rw [del_ne h2, upd_ne h2, upd_ne h1, upd_ne h2]
section
variable {X : Cx} {C : Cd} {own own' ol : List Nat} {e : Expr} {fs : AF} {x f : Str} {p pos pos' : Pos} {k c : Nat} {fI : Addr} {fd : FuncData} {ps : List Str}
theorem sv_raise1 (T : ExnC X.K (C.ca c) fI [f]) (Gf : FnOk X.prog X.w X.K X.mg X.base (L2.CX X.prog X.w) k fI fd ps (spX1 X.K f)) (hcm : X.calm = true) (hr : Room (k + 1) X.A) (hb : Binds X.K fd ps []) (hm : X.mg x = some (.ref (C.ca c))) (tk : Takes X (fun e o _ H => C.E e o H))
    (hx : Passes (L2.CX X.prog X.w) X (fun _ _ _ => False)) (ha : PA X [e] (tA X.K C own fs)) (hg : Gl X x := by rfl) (hdb : (x == ("__debug__" : Str)) = false := by decide) (he : starEach [e] X.env = (false, eval e X.env) :: starEach [] X.env := by rfl) :
    PS X (.Raise (some (.Call (.Name x p) [e] [] pos)) none pos') (tS X.K C own own' ol (raiseS c 1 [f] fs)) :=
  ps_imp (ps_raise hcm tk (pmk_oex T.ox T.iC T.tI Gf hr hb .nil hx hg hm ha hdb he (by rfl))) fun Dn σ H ⟨env, F, hR, h⟩ => ⟨env, F, hR, (Sst.bind h).imp fun ds e1 F1 H1 hR1 s1 h1 vs r => by
    dsimp only at h1
    split at h1
    · rename_i hl
      match ds, vs, r, hl with
      | [d], [v], .cons r .nil, _ =>
        refine ⟨by simp, fun a ha => ?_⟩
        refine ⟨a, v, C.ca c, rfl, T.ox, T.no f List.mem_cons_self, upd_same, fun dx h1' h2 => ?_⟩
        rw [upd_ne h2] at h1'
        refine ⟨rfl, dx, [(f, v)], upd_same, by rw [upd_ne h2, upd_same], h1', ?_⟩
        rw [exo_lay ha h1' h2]
        have st : Stp F1 H1 (upd F1 dx (.xd [(f, v)])) (upd H1 dx (.xd [(f, v)])) := .new hR1.q.sub h1'
        exact h1 _ _ _ _ (hR1.q.step st) st.sF ⟨rfl, .inr ⟨dx, _, rfl, upd_same, .cons (r.mono st.sF) .nil⟩⟩
    · exact h1.elim⟩
end
end Dl

namespace Dl
open PySem PySem.Spec PyProof.Rows L2

/-! ### several values, some of them new objects of one's own -/
inductive Fl (K : PySem.W.Frag) (ca : CA) (B : Bs) (own : List Nat) (env : En) (σ : L2.St) (F H : Hp) : List Bool → List D → List V → Prop
  | nil : Fl K ca B own env σ F H [] [] []
  | e {ks ds vs d v} : Rep K ca F d v → Fl K ca B own env σ F H ks ds vs → Fl K ca B own env σ F H (false :: ks) (d :: ds) (v :: vs)
  | n {ks ds vs d p} : Fsh K ca B own env σ F H d p → (∀ (i : Nat) (q : Addr), ks[i]? = some true → vs[i]? = some (V.ref q) → q ≠ p) → Fl K ca B own env σ F H ks ds vs → Fl K ca B own env σ F H (true :: ks) (d :: ds) (.ref p :: vs)
def tAf (K : PySem.W.Frag) (C : Cd) (own : List Nat) (ks : List Bool) (f : AF) : TA := fun σ H Q => ∃ env F, RE K C.ca C.B own env σ F H ∧ Pst K C own (f env) σ F fun ds e F' H' => ∀ vs, Fl K C.ca C.B own e σ F' H' ks ds vs → Q vs H'
def aConsL (f : EF) (fs : AF) : AF := fun env => (f env).bind fun p => match p.1 with
  | .lst _ => (fs p.2).nox.bind fun q => .ok (p.1 :: q.1, q.2)
  | _ => .no
section
variable {X : Cx} {C : Cd} {own : List Nat} {a : Expr} {es : List Expr} {fa : EF} {fs : AF} {ks : List Bool}
theorem eaf_nil : PA X [] (tAf X.K C own [] aNil) := pa_imp pa_nil fun σ H Q ⟨env, F, hR, h⟩ => h.here hR [] .nil
theorem eaf_E (ha : PE X a (tE X.K C own fa)) (hr : PA X es (tAf X.K C own ks fs)) (hs : starEach (a :: es) X.env = (false, eval a X.env) :: starEach es X.env := by rfl) : PA X (a :: es) (tAf X.K C own (false :: ks) (aCons fa fs)) :=
  pa_imp (pa_cons ha hr hs) fun σ H Q ⟨env, F, hR, h⟩ => ⟨env, F, hR, h.bind.imp fun x e1 F1 H1 hR1 s1 h1 v rv => ⟨e1, F1, hR1, h1.bind.imp fun ys e2 F2 H2 hR2 s2 h2 vs rvs => h2.here hR2 (v :: vs) (.e (rv.mono s2) rvs)⟩⟩
theorem eaf_N1 (ha : PE X a (tN X.K C own fa)) (hs : starEach [a] X.env = (false, eval a X.env) :: starEach [] X.env := by rfl) : PA X [a] (tAf X.K C own [true] (aCons fa aNil)) :=
  pa_imp (pa_cons ha pa_nil hs) fun σ H Q ⟨env, F, hR, h⟩ => ⟨env, F, hR, h.bind.imp fun x e1 F1 H1 hR1 s1 h1 p z => h1.here hR1 [.ref p] (.n z (fun i q e => by simp at e) .nil)⟩
theorem Fl.unbase {K : PySem.W.Frag} {ca : CA} {B : Bs} {env : En} {σ : L2.St} {F H : Hp} {p : Addr} {us : List V} (a : At B p) {ks : List Bool} {ds : List D} {vs : List V} (h : Fl K ca (B.at p (.lst us)) own env σ F H ks ds vs) : Fl K ca B own env σ F H ks ds vs ∧ ∀ (i : Nat) (q : Addr), ks[i]? = some true → vs[i]? = some (V.ref q) → q ≠ p := by
  induction h with
  | nil => exact ⟨.nil, fun i q e => by simp at e⟩
  | e r h ih =>
    refine ⟨.e r ih.1, fun i q e1 e2 => ?_⟩
    cases i with
    | zero => simp at e1
    | succ i => exact ih.2 i q (by simpa using e1) (by simpa using e2)
  | @n ks ds vs d z f n h ih =>
    have nz : z ≠ p := fun e => by
      subst e
      exact absurd f.b (NoO.not (o := .lst us) (by show upd B.H z (.lst us) z = _; rw [upd_same]) fun _ w => nomatch w)
    refine ⟨.n ⟨f.o, f.f, NoO.down f.b nz, f.m, f.dis⟩ n ih.1, fun i q e1 e2 => ?_⟩
    cases i with
    | zero => simp at e2; rw [← e2]; exact nz
    | succ i => exact ih.2 i q (by simpa using e1) (by simpa using e2)
theorem eaf_N (ha : PE X a (tN X.K C own fa)) (hr : ∀ B : Bs, B.m = C.B.m ∧ B.l = C.B.l → PA X es (tAf X.K (C.in B) own ks fs)) (hs : starEach (a :: es) X.env = (false, eval a X.env) :: starEach es X.env := by rfl) : PA X (a :: es) (tAf X.K C own (true :: ks) (aConsL fa fs)) := by
  have hr' : PA X es (fun σ H Q => ∃ B' : Bs, (B'.m = C.B.m ∧ B'.l = C.B.l) ∧ tAf X.K (C.in B') own ks fs σ H Q) := ⟨fun pos pins s σ H Q I ⟨B', hm, q⟩ => (hr B' hm).run pos pins s σ H Q I q⟩
  refine pa_imp (pa_cons ha hr' hs) fun σ H Q ⟨env, F, hR, h⟩ => ⟨env, F, hR, h.bind.imp fun x e1 F1 H1 hR1 s1 h1 p z => ?_⟩
  dsimp only at h1
  split at h1
  · rename_i xs
    obtain ⟨us, hp, ru⟩ := z.o
    have at_ : At C.B p := ⟨z.b, z.m, hR1.q.sF.free z.f⟩
    have hB := hR1.base' (vs := us) z.f at_ z.dis (.inr ⟨us, hp⟩)
    have eu : upd H1 p (.lst us) = H1 := by
      funext b
      by_cases hb : b = p
      · subst hb; rw [upd_same, hp]
      · rw [upd_ne hb]
    rw [eu] at hB
    refine ⟨C.B.at p (.lst us), ⟨rfl, rfl⟩, e1, F1, hB, ?_⟩
    cases ef : fs e1 with
    | ok r =>
      rw [ef] at h1
      intro F2 H2 hR2 s2 vs fl
      obtain ⟨hU, hp2, hF2, dis⟩ := hR2.unbase at_
      obtain ⟨f1, f2⟩ := Fl.unbase at_ fl
      exact h1 F2 H2 hU s2 (.ref p :: vs) (.n ⟨⟨us, hp2, ru.mono s2⟩, hF2, z.b, z.m, dis⟩ f2 f1)
    | ex c fs => rw [ef] at h1; exact h1.elim
    | no => rw [ef] at h1; exact h1.elim
  · exact h1.elim
end
def stO (k : Bool) (i : Nat) (own : List Nat) : List Nat := bif k then i :: own.filter (fun j => j != i) else own.filter (fun j => j != i)
section
variable {K : PySem.W.Frag} {ca : CA} {B : Bs} {own : List Nat} {env : En} {σ : L2.St} {F H : Hp} {i : Nat} {d d' : D} {p : Addr} {v : V} {k : Bool} {ks : List Bool} {ds : List D} {vs : List V}
theorem Fsh.put (z : Fsh K ca B own env σ F H d p) (hk : k = true → v ≠ .ref p) (hl : σ.length = env.length) : Fsh K ca B (stO k i own) (env.set i (some d')) (σ.set i (some v)) F H d p := by
  refine ⟨z.o, z.f, z.b, z.m, fun j e hj he => ?_⟩
  have : j = i ∧ k = true ∨ (j ∈ own ∧ j ≠ i) := by
    cases k with
    | false => exact .inr (by simpa [stO] using hj)
    | true =>
      rcases (by simpa [stO] using hj : j = i ∨ (j ∈ own ∧ ¬j = i)) with q | q
      · exact .inl ⟨q, rfl⟩
      · exact .inr q
  rcases this with ⟨rfl, q⟩ | ⟨q, n⟩
  · intro w
    by_cases hlt : j < σ.length
    · rw [List.getElem?_set_self hlt] at w
      exact hk q (Option.some.inj (Option.some.inj w))
    · rw [List.getElem?_eq_none (by rw [List.length_set]; omega)] at w; cases w
  · rw [List.getElem?_set_ne (Ne.symm n)] at he ⊢
    exact z.dis j e q he
theorem Fl.put (hl : σ.length = env.length) (h : Fl K ca B own env σ F H ks ds vs) : (k = true → ∃ p : Addr, v = .ref p ∧ ∀ (i : Nat) (q : Addr), ks[i]? = some true → vs[i]? = some (V.ref q) → q ≠ p) → Fl K ca B (stO k i own) (env.set i (some d')) (σ.set i (some v)) F H ks ds vs := by
  induction h with
  | nil => exact fun _ => .nil
  | e r h ih => exact fun hk => .e r (ih fun z => let ⟨p, ep, en⟩ := hk z; ⟨p, ep, fun i q a b => en (i + 1) q (by simpa using a) (by simpa using b)⟩)
  | @n ks ds vs d z f n h ih =>
    intro hk
    refine .n (f.put (fun w e => ?_) hl) n (ih fun z => let ⟨p, ep, en⟩ := hk z; ⟨p, ep, fun i q a b => en (i + 1) q (by simpa using a) (by simpa using b)⟩)
    obtain ⟨p, e2, n2⟩ := hk w
    rw [e] at e2
    cases e2
    exact n2 0 z (by simp) (by simp) rfl
/-- the first value is stored -/
theorem RE.putF (h : RE K ca B own env σ F H) (f : Fl K ca B own env σ F H (k :: ks) (d :: ds) (v :: vs)) (hi : i ≠ 0 ∨ B.free0) : RE K ca B (stO k i own) (env.set i (some d)) (σ.set i (some v)) F H ∧ Fl K ca B (stO k i own) (env.set i (some d)) (σ.set i (some v)) F H ks ds vs := by
  cases f with
  | e r f => exact ⟨h.put r hi rfl, Fl.put (k := false) h.len f (fun z => nomatch z)⟩
  | @n _ _ _ _ z g n f => exact ⟨h.putO g.ow g.dis hi rfl, Fl.put (k := true) h.len f (fun _ => ⟨z, rfl, n⟩)⟩
theorem Fl.len (f : Fl K ca B own env σ F H ks ds vs) : ks.length = vs.length ∧ ds.length = vs.length := by
  induction f with
  | nil => exact ⟨rfl, rfl⟩
  | e r h ih => exact ⟨congrArg Nat.succ ih.1, congrArg Nat.succ ih.2⟩
  | n z n h ih => exact ⟨congrArg Nat.succ ih.1, congrArg Nat.succ ih.2⟩
end
section
variable {X : Cx} {C : Cd} {own own' ol : List Nat} {a b c : Expr} {fs : AF} {x y z : Str} {pos : Pos}
theorem sv_par2F {i j : Nat} {k1 k2 : Bool} {px py pt : Pos} {kt k2' pt2} (hc : X.calm = true) (hN : X.N.Nodup) (ha : PA X [a, b] (tAf X.K C own [k1, k2] fs)) (hm1 : i ≠ 0 ∨ C.B.free0) (hm2 : j ≠ 0 ∨ C.B.free0) (ho : stO k2 j (stO k1 i own) = own' := by rfl) (hij : i ≠ j := by decide) (hi : X.N[i]? = some x := by rfl) (hj : X.N[j]? = some y := by rfl)
    (hx : X.env.scope.names.lookup x = some .local := by rfl) (hy : X.env.scope.names.lookup y = some .local := by rfl)
    (hw : swappedStores [.Tuple [.Name x px, .Name y py] kt pt] (.Tuple [a, b] k2' pt2) X.env = pure (some [x, y]) := by rfl)
    (hs : swapsWithSole [.Tuple [.Name x px, .Name y py] kt pt] (.Tuple [a, b] k2' pt2) pos.line X.env = pure false := by rfl) :
    PS X (.Assign [.Tuple [.Name x px, .Name y py] kt pt] (.Tuple [a, b] k2' pt2) pos) (tS X.K C own own' ol (par2S i j fs)) :=
  ps_imp (ps_par hc hN hi hj hij hx hy ha hw hs) fun Dn σ H ⟨env, F, hR, h⟩ => ⟨env, F, hR, (Sst.bind (show Sst X.K C own' ol ((fs env).toS fun p => _) F Dn from h)).imp fun ds e1 F1 H1 hR1 s1 h1 vs f => by
    dsimp only at h1
    split at h1
    · have hl := f.len.1
      match vs, f, hl with
      | [v, w], f, _ =>
        obtain ⟨r1, f1⟩ := hR1.putF f hm1
        obtain ⟨r2, f2⟩ := r1.putF f1 hm2
        exact ⟨_, _, rfl, h1 _ F1 H1 (by rw [← ho]; exact r2) (Same.refl _)⟩
    · exact h1.elim⟩
theorem sv_par3F {i j l : Nat} {k1 k2 k3 : Bool} {px py pz pt : Pos} {kt k2' pt2} (hc : X.calm = true) (hN : X.N.Nodup) (ha : PA X [a, b, c] (tAf X.K C own [k1, k2, k3] fs)) (hm1 : i ≠ 0 ∨ C.B.free0) (hm2 : j ≠ 0 ∨ C.B.free0) (hm3 : l ≠ 0 ∨ C.B.free0) (ho : stO k3 l (stO k2 j (stO k1 i own)) = own' := by rfl) (hij : i ≠ j := by decide) (hil : i ≠ l := by decide) (hjl : j ≠ l := by decide)
    (hi : X.N[i]? = some x := by rfl) (hj : X.N[j]? = some y := by rfl) (hl : X.N[l]? = some z := by rfl)
    (hx : X.env.scope.names.lookup x = some .local := by rfl) (hy : X.env.scope.names.lookup y = some .local := by rfl) (hz : X.env.scope.names.lookup z = some .local := by rfl)
    (hw : swappedStores [.Tuple [.Name x px, .Name y py, .Name z pz] kt pt] (.Tuple [a, b, c] k2' pt2) X.env = pure (some [x, y, z]) := by rfl)
    (hs : swapsWithSole [.Tuple [.Name x px, .Name y py, .Name z pz] kt pt] (.Tuple [a, b, c] k2' pt2) pos.line X.env = pure false := by rfl) :
    PS X (.Assign [.Tuple [.Name x px, .Name y py, .Name z pz] kt pt] (.Tuple [a, b, c] k2' pt2) pos) (tS X.K C own own' ol (par3S i j l fs)) :=
  ps_imp (ps_par3 hc hN hi hj hl hij hil hjl hx hy hz ha hw hs) fun Dn σ H ⟨env, F, hR, h⟩ => ⟨env, F, hR, (Sst.bind (show Sst X.K C own' ol ((fs env).toS fun p => _) F Dn from h)).imp fun ds e1 F1 H1 hR1 s1 h1 vs f => by
    dsimp only at h1
    split at h1
    · have hl := f.len.1
      match vs, f, hl with
      | [v, w, u], f, _ =>
        obtain ⟨r1, f1⟩ := hR1.putF f hm1
        obtain ⟨r2, f2⟩ := r1.putF f1 hm2
        obtain ⟨r3, f3⟩ := r2.putF f2 hm3
        exact ⟨_, _, _, rfl, h1 _ F1 H1 (by rw [← ho]; exact r3) (Same.refl _)⟩
    · exact h1.elim⟩
end
end Dl

namespace Dl
open PySem PySem.Spec PyProof.Rows L2

/-! ### {} ; repr of what may hold an empty dict -/
def eDct0 : EF := fun env => .ok (.dct [], env)
theorem ev_dct0 {X : Cx} {C : Cd} {own : List Nat} {pos : Pos} : PE X (.Dict [] [] pos) (tN X.K C own eDct0) :=
  pe_imp pe_dnewK fun σ H Q ⟨env, F, hR, q⟩ p hp => by
    obtain ⟨hR2, hF, b, m, dis⟩ := hR.lay (o := .dK []) hp
    exact q F _ hR2 (Same.refl _) p ⟨.inl ⟨[], upd_same, rfl, .nil⟩, hF, b, m, dis⟩
mutual
def pyR : D → Option PyData
  | .non => some .none
  | .bl b => some (.bool b)
  | .int i => some (.int i)
  | .str z => some (.str z)
  | .tup xs => (pyRs xs).map .tuple
  | .lst xs => (pyRs xs).map .list
  | .fro xs => (pyRs xs).map .list
  | .dct [] => some (.dict [])
  | _ => none
def pyRs : List D → Option (List PyData)
  | [] => some []
  | x :: xs => match pyR x, pyRs xs with
    | some d, some ds => some (d :: ds)
    | _, _ => none
end
/-- where the modules are kept there stands a dict -/
def SysM (h : Heap) : Prop := ∃ (o : Obj) (es : Array DictEntry) (n : Nat), h.get? sysModules = some o ∧ o.data = .dict es n
theorem SysM.of {h : Heap} {m : Str → Option Value} (n : h.Ns sysModules m) : SysM h := by
  obtain ⟨o, es, ep, ho, hd, _⟩ := n
  exact ⟨o, es, ep, ho, hd⟩
section
variable {X : Cx} {pins : List (Addr × Obj)} {σ : L2.St} {F H : Hp} {s : Shared} {ca : CA}
theorem not_sys {p : Addr} {o : Obj} {vs : Array Value} {n : Nat} (sy : SysM s.heap) (h : s.heap.get? p = some o) (hd : o.data = .seq vs n) : p ≠ sysModules := fun z => by
  obtain ⟨o2, es, m, h2, d2⟩ := sy
  rw [z, h2] at h
  cases h
  rw [d2] at hd
  cases hd
mutual
theorem rep_reads (I : Inv X pins σ H s) (sy : SysM s.heap) (sub : Same F H) : ∀ {d : D} {v : V} {u : Value} {e : PyData}, Rep X.K ca F d v → pyR d = some e → RelV v u → ∃ as, Reads s.heap u e as ∧ sysModules ∉ as
  | _, _, _, _, .non, h, r => by cases h; cases r; exact ⟨_, .none, List.not_mem_nil⟩
  | _, _, _, _, .bl b, h, r => by cases h; cases r; exact ⟨_, .bool b, List.not_mem_nil⟩
  | _, _, _, _, .int i, h, r => by cases h; obtain ⟨t, rfl⟩ := r; exact ⟨_, .int i t, List.not_mem_nil⟩
  | _, _, _, _, .str z, h, r => by cases h; obtain ⟨t, rfl⟩ := r; exact ⟨_, .str z t, List.not_mem_nil⟩
  | _, _, _, _, .tup (xs := xs) hp rs, h, r => by
    unfold pyR at h
    cases e : pyRs xs with
    | none => rw [e] at h; cases h
    | some ds =>
      rw [e] at h; cases h; cases r
      obtain ⟨its, rv, ⟨o, ho, hc, n, hd⟩, _⟩ := I.tuple (Same.seqT sub hp)
      obtain ⟨as, hr, na⟩ := reps_reads I sy sub rs e rv
      exact ⟨_, .tuple ho hc hd hr, na⟩
  | _, _, _, _, .lst (xs := xs) hp rs, h, r => by
    unfold pyR at h
    cases e : pyRs xs with
    | none => rw [e] at h; cases h
    | some ds =>
      rw [e] at h; cases h; cases r
      obtain ⟨its, rv, ⟨o, n, ho, hc, _, hd⟩, _⟩ := I.list (SqL.of (sub _ _ hp))
      obtain ⟨as, hr, na⟩ := reps_reads I sy sub rs e rv
      exact ⟨_, .list ho hc hd hr, fun z => (List.mem_cons.mp z).elim (fun z => not_sys sy ho hd z.symm) na⟩
  | _, _, _, _, .fro (xs := xs) hp rs, h, r => by
    unfold pyR at h
    cases e : pyRs xs with
    | none => rw [e] at h; cases h
    | some ds =>
      rw [e] at h; cases h; cases r
      obtain ⟨its, rv, ⟨o, n, ho, hc, _, hd⟩, _⟩ := I.list (sub.seq hp)
      obtain ⟨as, hr, na⟩ := reps_reads I sy sub rs e rv
      exact ⟨_, .list ho hc hd hr, fun z => (List.mem_cons.mp z).elim (fun z => not_sys sy ho hd z.symm) na⟩
  | _, _, _, _, .ins _ _ _, h, _ => by unfold pyR at h; cases h
  | _, _, _, _, .cod _ _, h, _ => by unfold pyR at h; cases h
  | _, _, _, _, .ty _, h, _ => by unfold pyR at h; cases h
  | _, _, _, _, .fn _, h, _ => by unfold pyR at h; cases h
  | _, _, _, _, .dK (kvs := kvs) (ws := ws) hp e _, h, r => by
    cases kvs with
    | cons _ _ => unfold pyR at h; cases h
    | nil =>
      unfold pyR at h; cases h; cases r
      have ew : ws = [] := by cases ws with
        | nil => rfl
        | cons _ _ => cases e
      subst ew
      obtain ⟨_, ns, vs, kv, o, es, ep, ho, ex, hd, _, pr, _⟩ := dk_of I.hok (sub _ _ hp)
      cases kv
      have ee : es.toList = [] := List.eq_nil_of_length_eq_zero pr.length
      refine ⟨_, .dict (kvs := []) ho ex.1 hd (by rw [ee]; exact .nil) (by rw [ee]; exact .nil), fun z => ?_⟩
      have z := List.mem_singleton.mp (by simpa using z)
      exact (beq_eq_false_iff_ne.mp ns) z.symm
  | _, _, _, _, .dT (kvs := kvs) (ws := ws) hp e _, h, r => by
    cases kvs with
    | cons _ _ => unfold pyR at h; cases h
    | nil =>
      unfold pyR at h; cases h; cases r
      have ew : ws = [] := by cases ws with
        | nil => rfl
        | cons _ _ => cases e
      subst ew
      obtain ⟨_, ns, vs, kt, o, es, ep, ho, ex, hd, pr, _, _⟩ := dt_of I.hok (sub _ _ hp)
      cases kt
      have ee : es.toList = [] := pr
      refine ⟨_, .dict (kvs := []) ho ex.1 hd (by rw [ee]; exact .nil) (by rw [ee]; exact .nil), fun z => ?_⟩
      have z := List.mem_singleton.mp (by simpa using z)
      exact (beq_eq_false_iff_ne.mp ns) z.symm
  | _, _, _, _, .setK _ _ _ _, h, _ => by unfold pyR at h; cases h
theorem reps_reads (I : Inv X pins σ H s) (sy : SysM s.heap) (sub : Same F H) : ∀ {ds : List D} {vs : List V} {us : List Value} {es : List PyData}, Reps X.K ca F ds vs → pyRs ds = some es → Vals vs us → ∃ as, ReadsAll s.heap us es as ∧ sysModules ∉ as
  | _, _, _, _, .nil, h, r => by cases h; cases r; exact ⟨_, .nil, List.not_mem_nil⟩
  | _, _, _, _, .cons (d := d) (ds := ds) q qs, h, r => by
    unfold pyRs at h
    cases e1 : pyR d with
    | none => rw [e1] at h; cases h
    | some x =>
      cases e2 : pyRs ds with
      | none => rw [e1, e2] at h; cases h
      | some xs =>
        rw [e1, e2] at h
        cases h
        cases r with
        | cons r1 r2 =>
          obtain ⟨a1, h1, n1⟩ := rep_reads I sy sub q e1 r1
          obtain ⟨a2, h2, n2⟩ := reps_reads I sy sub qs e2 r2
          exact ⟨_, .cons h1 h2, fun z => (List.mem_append.mp z).elim n1 n2⟩
end
end
def reprR : List D → R D
  | [d] => match pyR d with
    | some e => if PyData.showable e = true ∧ PyData.depth e ≤ 64 ∧ (PyData.shown e).length ≤ sizeLine then .ok (.str (PyData.shown e)) else .no
    | none => .no
  | _ => .no
theorem reprR_ne : ∀ x c fs, reprR x ≠ .ex c fs := fun x c fs z => by
  unfold reprR at z
  split at z
  · split at z
    · split at z <;> cases z
    · cases z
  · cases z
theorem oc_reprR {X : Cx} {ca : CA} {k : Nat} (hg : X.A.guards = some []) (hr : Room k X.A) (sb : SysM X.base) : CallR X (.builtin "repr") (rN X.K ca reprR) := fun pins s σ H xs us Q I r ⟨F, ds, d, sub, rs, hd, q⟩ => by
  unfold reprR at hd
  split at hd
  · rename_i x
    cases rs with
    | cons rx rs =>
      cases rs
      obtain ⟨u, eu, ru⟩ := vals1 r
      subst eu
      split at hd
      · rename_i e he
        split at hd
        · rename_i hc
          cases hd
          obtain ⟨c1, c3, c4⟩ := hc
          have sy : SysM s.heap := by
            obtain ⟨o, es, n, h1, h2⟩ := sb
            exact ⟨o, es, n, I.bk _ _ h1, h2⟩
          obtain ⟨as, rd, na⟩ := rep_reads I sy sub rx he ru
          have fin : ∀ (h' : Heap) (t tk : Tok), (∀ b o, s.heap.get? b = some o → h'.get? b = some o) → EP X pins σ Q (.str (PyData.shown e) t) { s with heap := h', toks := tk } := fun h' t tk kp =>
            ⟨.str _, H, I.call (ch := []) (Un.kept kp) (I.hok.kept kp) I.bare (fun _ z => nomatch z), ⟨t, rfl⟩, q _ F H (.refl sub) (.str _)⟩
          have big : ∀ {p0 : Addr}, u = .ref p0 → wpAny (model X.prog X.w) X.A (call (.builtin "repr") [u]) (EP X pins σ Q) X.xe s := @fun p0 eu => by
            subst eu
            have hu := hr.un
            exact PySem.repr_of_reads' rd c1 (fun _ => na) hg (by omega) (fun _ _ z => z) (fun h' t tk kp => fin h' t tk kp) c4
          cases rx with
          | tup => exact big ru
          | lst => exact big ru
          | fro => exact big ru
          | dK => exact big ru
          | dT => exact big ru
          | non => cases he; cases ru; exact PySem.P.repr_of_none (fin _ _ _ fun _ _ z => z)
          | bl b => cases he; cases ru; exact PySem.P.repr_of_bool (fin _ _ _ fun _ _ z => z)
          | int i => cases he; obtain ⟨t, eu⟩ := ru; subst eu; exact PySem.P.repr_of_int (of_decide_eq_true c1) (fin _ _ _ fun _ _ z => z)
          | str z => cases he; obtain ⟨t, eu⟩ := ru; subst eu; exact PySem.P.repr_of_str (fin _ _ _ fun _ _ z => z) c4
          | _ => unfold pyR at he; cases he
        · cases hd
      · cases hd
  · cases hd
end Dl

namespace Dl
open PySem PySem.Spec PyProof.Rows L2

/-! ### the end of a law whose defs make lambdas -/
/-- what is known of the heap that stays -/
structure BFa (base : Heap) (mg : Str → Option Value) (cs : List (Addr × Addr)) : Prop where
  tb : ∀ p ∈ cs, LamX.TabB base mg p.1 p.2
  sy : SysM base
def OnlyT (cs : List (Addr × Addr)) (H : Hp) : Prop := ∀ b, H b = none ∨ (b ∈ cs.map (·.2) ∧ H b = some (.tbl #[])) ∨ ∃ o xs, H b = some (.frz o (.lst xs))
def spLawT (K : PySem.W.Frag) (cs : List (Addr × Addr)) : Sp := fun vs H Q _ => ∃ (a : Addr) (ns : List Int), ns.length ≤ 63 ∧ vs = [.ref a] ∧ OnlyT cs H ∧ (∀ p ∈ cs, H p.2 = some (.tbl #[])) ∧ SqL K H a (ns.map V.int) ∧ ∀ H', Q (.bl true) H'
/-- the heap without its tables -/
def noTab (H : Hp) : Hp := fun b => match H b with
  | some (.tbl _) => none
  | o => o
theorem noTab_of {H : Hp} {b : Addr} {o : HO} (h : H b = some o) (n : ∀ ps, o ≠ .tbl ps) : noTab H b = some o := by
  unfold noTab
  rw [h]
  cases o <;> first | rfl | exact absurd rfl (n _)
theorem noTab_same (H : Hp) : Same (noTab H) H := fun b o h => by
  unfold noTab at h
  cases e : H b with
  | none => rw [e] at h; cases h
  | some u => rw [e] at h; cases u <;> first | exact h | cases h
theorem noTab_nt (H : Hp) (p : Addr) (ps : Array Value) : noTab H p ≠ some (.tbl ps) := fun h => by
  unfold noTab at h
  cases e : H p with
  | none => rw [e] at h; cases h
  | some u => rw [e] at h; cases u <;> cases h
theorem law_spT {K : PySem.W.Frag} {ca : CA} {cs : List (Addr × Addr)} {F : List D → R D} {H : Hp} {a : Addr} {ns : List Int} {Q : VK} {E : XK} (hT : ∀ p ∈ ca.T, p.1 ∈ cs.map (·.2)) (hF : F [.fro (ns.map .int)] = .ok (.bl true)) (tb : ∀ p ∈ cs, H p.2 = some (.tbl #[])) (seq : SqL K H a (ns.map V.int)) (q : ∀ H', Q (.bl true) H') :
    spD K ca 1 F [.ref a] H Q E := by
  refine ⟨noTab H, [.fro (ns.map .int)], ⟨noTab_same H, fun p hp => ?_, noTab_nt H⟩, .one (.fro ?_ (Reps.ofInts ns)), rfl, ?_⟩
  · obtain ⟨r, hr, e⟩ := List.mem_map.mp (hT p hp)
    exact LamX.TabS.nil (by rw [← e]; exact tb r hr)
  · rcases seq with (z | ⟨o, z⟩) | z
    · exact .inl (.inl (noTab_of z fun _ w => nomatch w))
    · exact .inl (.inr ⟨o, noTab_of z fun _ w => nomatch w⟩)
    · exact .inr z
  · rw [hF]
    exact fun v F' H' _ r => by cases r; exact q H'
/-- what is asked of the law's def at one script -/
theorem lawT {P : Program} {w : World} {K : PySem.W.Frag} {mg mb : Str → Option Value} {k : Nat} {fa a : Addr} {fd : FuncData} {x : Str} {cs : List (Addr × Addr)} {s₁ : Shared} {vs : List Value} {ns : List Int}
    (kin : K.In s₁.heap) (gns : s₁.heap.Ns mainGlobals mg) (bns : s₁.heap.Ns builtinsNs mb) (boot : ∀ x : Str, x ≠ "__name__" → mb x = bootBuiltins x) (lim : s₁.heap.NoLimit) (gens : s₁.gens = #[])
    (tabs : ∀ p ∈ cs, PySem.W.CodeHd s₁.heap p.1 p.2 ∧ s₁.heap.get? p.2 = some (PySem.W.tabObj #[])) (tno : ∀ p ∈ cs, K.lookup p.2 = none) (sys : ∃ m, s₁.heap.Ns sysModules m)
    (bmod : ∃ (bm : Addr) (ob : Obj), mg "__builtins__" = some (.ref bm) ∧ bm ≠ builtinsNs ∧ s₁.heap.get? bm = some ob ∧ ob.cls = .type "module" ∧ ob.dict = some builtinsNs ∧ ob.data = .plain)
    (obj : s₁.heap.get? a = some { cls := .type "list", data := .seq vs.toArray }) (nums : IntsAre vs ns) (hlen : ns.length ≤ 63) (room : Room k callerA)
    (F : ∀ base : Heap, K.In base → base.Ns mainGlobals mg → BFa base mg cs → FnG P w K mg base k fa fd [x] (spLawT K cs)) (bind : ∀ (s : Shared) (u : Value), BindsTo s fd ⟨[u], []⟩ [(x, u)]) :
    codeAny (model P w) callerA (.call (.ref fa) ⟨[.ref a], []⟩) (fun r s' => r = .ok (.ret (.bool true)) ∧ OldK s₁.heap s'.heap ∧ s'.os = s₁.os ∧ AllBare s'.gens) s₁ := by
  have hl63 : ns.length ≤ sizeLine := Nat.le_trans hlen (by rw [sizeLine_eq]; decide)
  have tabAt : ∀ b, b ∈ cs.map (·.2) → s₁.heap.get? b = some (PySem.W.tabObj #[]) := fun b hb => by
    obtain ⟨p, hp, rfl⟩ := List.mem_map.mp hb
    exact (tabs p hp).2
  have anot : a ∉ cs.map (·.2) := fun z => by
    have q := (tabAt a z).symm.trans obj
    have q := congrArg (fun o => Obj.data <$> o) q
    cases q
  have tmem : ∀ p ∈ cs, p.2 ∈ cs.map (·.2) := fun p hp => List.mem_map_of_mem hp
  have main : ∀ H : Hp, OnlyT cs H → (∀ p ∈ cs, H p.2 = some (.tbl #[])) → SqL K H a (ns.map V.int) → HOk P w H s₁.heap → (∀ b, b ≠ a → b ∉ cs.map (·.2) → H b = none) → (H a = none ∨ K.lookup a = none) →
      codeAny (model P w) callerA (.call (.ref fa) ⟨[.ref a], []⟩) (fun r s' => r = .ok (.ret (.bool true)) ∧ OldK s₁.heap s'.heap ∧ s'.os = s₁.os ∧ AllBare s'.gens) s₁ := fun H only htab seq hok out kno => by
    have open_ : ∀ {b : Addr} {o : Obj}, s₁.heap.get? b = some o → (∀ us n, o.data ≠ .seq us n) → o.data ≠ .fields #[] → H b = none := @fun b o ho h1 h2 => by
      by_cases hb : b = a
      · rw [hb, obj] at ho
        rw [← Option.some.inj ho] at h1
        exact absurd rfl (h1 _ _)
      · by_cases hm : b ∈ cs.map (·.2)
        · rw [tabAt b hm] at ho
          rw [← Option.some.inj ho] at h2
          exact absurd rfl h2
        · exact out b hb hm
    have openD : ∀ {b : Addr} {o : Obj} {es : Array DictEntry} {ep : Nat}, s₁.heap.get? b = some o → o.data = .dict es ep → (hidT s₁.heap H).get? b = some o := @fun b o es ep ho hd =>
      hidT_get ho (open_ ho (fun us n z => by rw [hd] at z; cases z) fun z => by rw [hd] at z; cases z)
    have hide : ∀ {b : Addr} {m : Str → Option Value}, s₁.heap.Ns b m → (hidT s₁.heap H).Ns b m := @fun b m n => by
      obtain ⟨o, es, ep, ho, hd, rest⟩ := n
      exact ⟨o, es, ep, openD ho hd, hd, rest⟩
    have kin' : K.In (hidT s₁.heap H) := fun b o lk => hidT_get (kin b o lk) (by
      by_cases hb : b = a
      · rcases kno with z | z
        · rw [hb]; exact z
        · rw [hb, z] at lk; exact absurd lk fun z => nomatch z
      · by_cases hm : b ∈ cs.map (·.2)
        · obtain ⟨p, hp, e⟩ := List.mem_map.mp hm
          rw [← e, tno p hp] at lk
          cases lk
        · exact out b hb hm)
    obtain ⟨ml, l1, l2⟩ := lim
    have bfacts : BFa (hidT s₁.heap H) mg cs := by
      refine ⟨fun p hp => ⟨?_, ?_, fun z => ?_⟩, let ⟨m, hm⟩ := sys; SysM.of (hide hm)⟩
      · obtain ⟨o, us, file, tf, flags, tg, inF, text, tt, g1, g2, g3, g4, rest⟩ := (tabs p hp).1
        refine ⟨o, us, file, tf, flags, tg, inF, text, tt, hidT_get g1 (open_ g1 (fun us n z => by rw [g3] at z; cases z) fun z => ?_), g2, g3, g4, rest⟩
        rw [g3] at z
        cases z
        simp at g4
      · obtain ⟨bm, ob, b1, b2, b3, b4, b5, b6⟩ := bmod
        refine ⟨bm, ob, b1, b2, fun z => ?_, fun z => ?_, hidT_get b3 (open_ b3 (fun us n z => by rw [b6] at z; cases z) fun z => by rw [b6] at z; cases z), b4, b5, b6⟩
        · obtain ⟨o, es, ep, ho, hd, _⟩ := gns
          rw [z, ho] at b3
          rw [Option.some.inj b3, b6] at hd
          cases hd
        · have q := (tabs p hp).2.symm.trans (z ▸ b3)
          rw [← Option.some.inj q] at b6
          cases b6
      · obtain ⟨o, es, ep, ho, hd, _⟩ := gns
        rw [z, (tabs p hp).2] at ho
        rw [← Option.some.inj ho] at hd
        cases hd
    have env0 : Env0 P w K mg (hidT s₁.heap H) callerA [] s₁ H :=
      { frames := rfl, mod := ⟨kin', hide gns, ⟨mb, hide bns, boot⟩, ⟨ml, hide l1, l2⟩⟩, bs := fun b o z => of_hidT z, bsz := Nat.le_of_eq (hidT_size _ _), funs := trivial, frf := (fun b z => nomatch z), hok := hok, bare := .of_eq gens }
    refine codeAny_mono ((F _ kin' (hide gns) bfacts).go (us := [.ref a]) (vs := [.ref a]) (Q := fun v _ => v = .bl true) (E := fun _ _ _ => False) rfl room env0 (bind s₁ (.ref a)) (.cons rfl .nil) ⟨a, ns, hlen, rfl, only, htab, seq, fun _ => rfl⟩) fun res s' q => ?_
    match res, q with
    | .error e, ⟨_, _, _, _, _, _, _, _, _, _, _, _, no⟩ => exact no.elim
    | .ok .next, q => exact False.elim q
    | .ok .brk, q => exact False.elim q
    | .ok .cont, q => exact False.elim q
    | .ok (.ret u), ⟨v, H', os, bare, un, hok', rv, (ev : v = .bl true)⟩ =>
      subst ev
      have eu : u = Value.bool true := rv
      have same : ∀ b o, b ∉ cs.map (·.2) → s₁.heap.get? b = some o → s'.heap.get? b = some o := fun b o nb ho => by
        rcases only b with z | ⟨z, _⟩ | ⟨ob, xs, z⟩
        · exact un.keep b o ho z (fun z => nomatch z) (fun z => nomatch z)
        · exact absurd z nb
        · have h1 := (hok b _ z).1
          rw [ho] at h1
          rw [Option.some.inj h1]
          exact (hok' b _ (un.frzs b ob _ z)).1
      have more : ∀ p ∈ cs, ∃ us : Array Value, s'.heap.get? p.2 = some (PySem.W.tabObj us) := fun p hp =>
        let ⟨us, z⟩ := un.tbls p.2 #[] (htab p hp); ⟨_, hok' p.2 _ z⟩
      refine ⟨by rw [eu], ⟨fun b o ho => ?_, fun b o ho => ?_⟩, os, bare⟩
      · by_cases hb : b ∈ cs.map (·.2)
        · obtain ⟨p, hp, rfl⟩ := List.mem_map.mp hb
          obtain ⟨us, hu⟩ := more p hp
          have ho' := (tabs p hp).2.symm.trans ho
          have ho' := Option.some.inj ho'
          subst ho'
          exact .inr (.inl ⟨((tabs p hp).1.tab (tabs p hp).2).isCodeTable, rfl, #[], us, rfl, by rw [hu]; simp [PySem.W.tabObj]⟩)
        · exact .inl (same b o hb ho)
      · by_cases hb : b ∈ cs.map (·.2)
        · obtain ⟨p, hp, rfl⟩ := List.mem_map.mp hb
          obtain ⟨us, hu⟩ := more p hp
          exact ⟨_, hu⟩
        · exact ⟨o, same b o hb ho⟩
  have rv := vals_ints nums
  have tb1 : ∀ (b : Addr), b ∈ cs.map (·.2) → ObjOk P w (fun _ => none) s₁.heap b (.tbl #[]) := fun b hb => tabAt b hb
  cases hk : K.lookup a with
  | some o =>
    have ho := kin a o hk
    rw [obj] at ho
    have eo := Option.some.inj ho
    subst eo
    have few : vs.toArray.size ≤ sizeLine := by rw [List.size_toArray, nums.length]; exact hl63
    refine main (fun b => if b ∈ cs.map (·.2) then some (.tbl #[]) else none) (fun b => ?_) (fun p hp => if_pos (tmem p hp)) (.inr ⟨_, _, _, hk, rfl, rfl, rfl, few, by simpa using rv⟩) (fun b u z => ?_) (fun b _ hm => if_neg hm) (.inl (if_neg anot))
    · by_cases hb : b ∈ cs.map (·.2)
      · exact .inr (.inl ⟨hb, if_pos hb⟩)
      · exact .inl (if_neg hb)
    · by_cases hb : b ∈ cs.map (·.2)
      · have z2 := (if_pos hb).symm.trans z
        cases z2
        exact tabAt b hb
      · have z2 := (if_neg hb).symm.trans z
        cases z2
  | none =>
    have atA : (fun b => if b = a then some (HO.frz { cls := .type "list", data := .seq vs.toArray } (.lst (ns.map V.int))) else if b ∈ cs.map (·.2) then some (.tbl #[]) else none) a = some (.frz { cls := .type "list", data := .seq vs.toArray } (.lst (ns.map V.int))) := if_pos rfl
    have atT : ∀ b, b ∈ cs.map (·.2) → (fun b => if b = a then some (HO.frz { cls := .type "list", data := .seq vs.toArray } (.lst (ns.map V.int))) else if b ∈ cs.map (·.2) then some (.tbl #[]) else none) b = some (.tbl #[]) := fun b hb =>
      (if_neg (fun z => anot (by rw [← z]; exact hb))).trans (if_pos hb)
    have atN : ∀ b, b ≠ a → b ∉ cs.map (·.2) → (fun b => if b = a then some (HO.frz { cls := .type "list", data := .seq vs.toArray } (.lst (ns.map V.int))) else if b ∈ cs.map (·.2) then some (.tbl #[]) else none) b = none := fun b h1 h2 => (if_neg h1).trans (if_neg h2)
    refine main _ (fun b => ?_) (fun p hp => atT _ (tmem p hp)) (.inl (.inr ⟨_, atA⟩)) (fun b u z => ?_) atN (.inr hk)
    · by_cases h1 : b = a
      · subst h1; exact .inr (.inr ⟨_, _, atA⟩)
      · by_cases h2 : b ∈ cs.map (·.2)
        · exact .inr (.inl ⟨h2, atT b h2⟩)
        · exact .inl (atN b h1 h2)
    · by_cases h1 : b = a
      · subst h1
        have z2 := atA.symm.trans z
        cases z2
        exact ⟨obj, by rw [List.length_map]; exact hl63, vs, _, rv, obj⟩
      · by_cases h2 : b ∈ cs.map (·.2)
        · have z2 := (atT b h2).symm.trans z
          cases z2
          exact tabAt b h2
        · have z2 := (atN b h1 h2).symm.trans z
          cases z2
/-- the code object and the table of a def of the law's row -/
theorem tab_at {p : Program} {loose : List Str} {mean : ExcName → Option Value} {mg mb : Str → Option Value} {h : Heap} {K : PySem.W.Frag} {x : Str} {c P : Addr} (T : Top p loose mean mg mb h) (X : K.In h) (hr : ((recsOf p).any fun e => e.name == x) = true) (ht : PySem.W.tabIn K x = some (c, P)) :
    PySem.W.CodeHd h c P ∧ h.get? P = some (PySem.W.tabObj #[]) := by
  cases e : (recsOf p).find? (fun e => e.name == x) with
  | some d => exact PySem.W.tab_of T X e ht
  | none =>
    obtain ⟨d, h1, h2⟩ := List.any_eq_true.mp hr
    exact absurd h2 (List.find?_eq_none.mp e d h1)
theorem walk_GT {l : PySem.W.OpenLaw} {k : Nat} {q : Program} {loose : List Str} {XP : (Str → Option Value) → Heap → Prop} {YP : World → Heap → Prop} {d : DefRec} {K : Params → PySem.W.Frag} {x : Str}
    (most : l.most = some 63) (plain : d.params.defaults = []) (room : Room k callerA) (quiet : importsNone q = true) (part : ∀ (w : World) (h : Heap), YP w h → (K w.params).In h)
    (F : ∀ (w : World) (lo : List Str) (mean : ExcName → Option Value) (mg mb : Str → Option Value) (fa : Addr) (h : Heap), Top q lo mean mg mb h → (K w.params).In h → h.Ns mainGlobals mg → mg d.name = some (.ref fa) →
      ∃ (fd : FuncData) (cs : List (Addr × Addr)), (∀ (s : Shared) (u : Value), BindsTo s fd ⟨[u], []⟩ [(x, u)]) ∧ (∀ p ∈ cs, PySem.W.CodeHd h p.1 p.2 ∧ h.get? p.2 = some (PySem.W.tabObj #[])) ∧ (∀ p ∈ cs, (K w.params).lookup p.2 = none) ∧
        ∀ base : Heap, (K w.params).In base → base.Ns mainGlobals mg → BFa base mg cs → FnG l.prog w (K w.params) mg base k fa fd [x] (spLawT (K w.params) cs)) :
    PySem.W.WalkO q loose XP YP l.row.toRowW d [] (fun f vs => PySem.call f vs) :=
  Att.attach_call most plain fun w s₀ s₁ mg mb fa o pm cd doc a vs ns G Y _ _ _ hmg hobj hints hlen hgens => by
    obtain ⟨fd, cs, hb, tabs, tno, hF⟩ := F w _ _ mg mb fa _ G.T (part w _ Y) G.T.g hmg
    exact lawT (part w _ Y) G.T.g G.T.b G.T.builtins G.T.nolimit hgens tabs tno (let ⟨m, h, _⟩ := (G.T.seer quiet).mods; ⟨m, h⟩) G.T.bmain hobj hints hlen room hF hb
/-- names of tables are told once -/
theorem tabs_uniq {T : List (Addr × Str)} {P : Addr} {q : Str} (nd : (T.map (·.1)).Nodup) (h : (P, q) ∈ T) : ∀ p ∈ T, p.1 = P → p.2 = q := by
  induction T with
  | nil => cases h
  | cons t T ih =>
    rw [List.map_cons, List.nodup_cons] at nd
    intro p hp e
    rcases List.mem_cons.mp h with z | z
    · rcases List.mem_cons.mp hp with y | y
      · rw [y, ← z]
      · exact absurd (List.mem_map.mpr ⟨p, y, by rw [e, ← z]⟩) nd.1
    · rcases List.mem_cons.mp hp with y | y
      · exact absurd (List.mem_map.mpr ⟨(P, q), z, by rw [← y, e]⟩) nd.1
      · exact ih nd.2 z p y e
end Dl

namespace Dl
open PySem PySem.Spec PyProof.Rows L2

/-! ### defs run where no repr is under way: those that change their first argument, those that make lambdas -/
section
variable {P : Program} {w : World} {K : PySem.W.Frag} {mg : Str → Option Value} {base : Heap} {ca : CA} {x qual : Str} {st : Stmt} {f : Addr} {fd : FuncData} {N ps : List Str} {k : Nat} {sp : Sp} {g : SF} {own' : List Nat}
theorem fnG_of (T : Fun K x qual st f fd) (S : FnScope N ps (defScope st)) (len : ∀ vs H Q E, sp vs H Q E → vs.length = ps.length)
    (hb : ∀ (cdv : Value), fd.code = cdv → ∀ (A : Around) (outer : List PySem.Env) (s : Shared) (H : Hp) (vs : List V) (Q : VK) (E : XK), (A.deeper (envOfC qual (defScope st) s.heap.objs.size f cdv)).guards = some [] → Room k (A.deeper (envOfC qual (defScope st) s.heap.objs.size f cdv)) → sp vs H Q E →
      ∃ t, PSs (cxOf (L2.CX P w) P w K mg base N qual (defScope st) f cdv A outer s H E) (defBody st) t ∧ t { nx := fun _ H' => Q .non H', rt := Q } (L2.start N vs) H) : FnG P w K mg base (k + 1) f fd ps sp := by
  obtain ⟨oc, od, kV, doc, pm, an, cdv, ct, osl, e, lk, hcd⟩ := T.ex
  subst e
  refine ⟨len, @fun A outer s H args us vs Q E hg room e0 bound rv hsp => ?_⟩
  have lv := len _ _ _ _ hsp
  have kin : K.In s.heap := PySem.W.Frag.In.keeps e0.mod.kin fun b o z => (e0.bs b o z).1
  refine codeAny_call_function room.depth (kin _ _ lk) rfl S.co S.gen rfl (PySem.W.codeRec_of kin hcd) (bound _ _ _ _ ?_)
  refine wpAny_newFunctionEnv_cells S.kind (fun ⟨n, v⟩ hy => (S.par n (List.of_mem_zip hy).1).imp id fun z => ⟨z, PySem.W.cellsFrom_some _ _ _ (.inl z)⟩) fun en he s1 x => ?_
  subst he
  refine ⟨(e0.mod.nolimit.keeps fun b o z => (e0.bs b o z).1).keeps x.toInCall.keep, codeAny_func ?_⟩
  obtain ⟨t, ht, hq⟩ := hb cdv rfl A outer s H vs Q E hg (room.deeper _) hsp
  have I := inv_start (CX := L2.CX P w) (E := E) (N := N) S room.hd e0 lv rv x
  refine wpAny_mono (ht.run [] s1 (L2.start N vs) H _ I hq) (fun fl s' hs => ?_) fun e s' hs => hs
  cases fl with
  | ret u => let ⟨v, _, H', J, rv', q⟩ := hs; exact ⟨v, H', J.os, J.bare, J.base, J.hok, rv', q⟩
  | next => let ⟨_, H', J, q⟩ := hs; exact ⟨V.non, H', J.os, J.bare, J.base, J.hok, rfl, q⟩
  | brk => let ⟨_, _, _, no⟩ := hs; exact False.elim no
  | cont => let ⟨_, _, _, no⟩ := hs; exact False.elim no
theorem fn_DG2 (T : Fun K x qual st f fd) (S : FnScope N ps (defScope st))
    (hb : ∀ (B : Bs), B.free0 → ∀ (cdv : Value), fd.code = cdv → ∀ (A : Around) (outer : List PySem.Env) (s : Shared) (H : Hp) (E : XK), (A.deeper (envOfC qual (defScope st) s.heap.objs.size f cdv)).guards = some [] → Room k (A.deeper (envOfC qual (defScope st) s.heap.objs.size f cdv)) →
      PSs (cxOf (L2.CX P w) P w K mg base N qual (defScope st) f cdv A outer s H E) (defBody st) (tS K (.top ca B E false) [] own' [] g)) : FnG P w K mg base (k + 1) f fd ps (spD K ca ps.length (runD N.length g)) := by
  refine fnG_of T S (fun vs H Q E ⟨F, ds, _, r, hl, _⟩ => by rw [← r.length]; exact hl) (fun cdv hc A outer s H vs Q E hg hr ⟨F, ds, pre, r, hl, hm⟩ => ⟨_, hb ⟨F, H, none, none⟩ ⟨rfl, rfl⟩ cdv hc A outer s H E hg hr, ?_⟩)
  refine ⟨startE N.length ds, F, re_start pre r, ?_⟩
  unfold runD at hm
  cases eg : g (startE N.length ds) with
  | nx e => rw [eg] at hm; exact fun σ' F' H' hR s => hm .non F' H' (bq_stC hR.q) .non
  | rt d e => rw [eg] at hm; exact fun v F' H' q m s rv => hm v F' H' (bq_stC q) rv
  | bk e => rw [eg] at hm; exact hm.elim
  | ct e => rw [eg] at hm; exact hm.elim
  | ex c fs => rw [eg] at hm; exact fun e o F' H' q s xr => hm e o F' H' (bq_stC q) xr
  | no => rw [eg] at hm; exact hm.elim
theorem spM_start {n : Nat} {vs : List V} {H : Hp} {Q : VK} {E : XK} (h : spM K ca n (runM N.length g) vs H Q E) : ∃ F p, tS K (.top ca ⟨F, H, some p, none⟩ E false) [0] own' [] g { nx := fun _ H' => Q .non H', rt := Q } (L2.start N vs) H := by
  obtain ⟨F, d0, ds, p, vs', ev, pre, hF, O, r, hl, hm⟩ := h
  refine ⟨F, p, ?_⟩
  subst ev
  have fin : ∀ {d : D} {v : V} {e : En} {F' H' : Hp}, Bq ca ⟨F, H, some p, none⟩ F' H' → MutF K ca ⟨F, H, some p, none⟩ F' H' e → Rep K ca F' d v → (∀ r, lastD d e = .ok r → ∀ v F' H', StM ca.T p F H F' H' → OwO K ca F' H' r.2 p → Rep K ca F' r.1 v → Q v H') → Q v H' := fun {d v e F' H'} q m rv hm => by
    obtain ⟨dm, h1, h2⟩ := m p rfl
    exact hm (d, dm) (by unfold lastD; rw [h1]) v F' H' (bq_stM q) h2 rv
  refine ⟨startE N.length (d0 :: ds), F, re_startM pre hF O r, ?_⟩
  unfold runM at hm
  cases eg : g (startE N.length (d0 :: ds)) with
  | nx e =>
    rw [eg] at hm
    intro σ' F' H' hR s
    exact fin hR.q hR.mutF .non fun r hr => by
      dsimp only at hm
      rw [hr] at hm
      exact hm
  | rt d e =>
    rw [eg] at hm
    intro v F' H' q m s rv
    exact fin q m rv fun r hr => by
      dsimp only at hm
      rw [hr] at hm
      exact hm
  | bk e => rw [eg] at hm; exact hm.elim
  | ct e => rw [eg] at hm; exact hm.elim
  | ex c fs => rw [eg] at hm; exact fun e o F' H' q s xr => hm e o F' H' (bq_stM q) xr
  | no => rw [eg] at hm; exact hm.elim
theorem fn_MG (T : Fun K x qual st f fd) (S : FnScope N ps (defScope st))
    (hb : ∀ (B : Bs) (cdv : Value), fd.code = cdv → ∀ (A : Around) (outer : List PySem.Env) (s : Shared) (H : Hp) (E : XK), (A.deeper (envOfC qual (defScope st) s.heap.objs.size f cdv)).guards = some [] → Room k (A.deeper (envOfC qual (defScope st) s.heap.objs.size f cdv)) →
      PSs (cxOf (L2.CX P w) P w K mg base N qual (defScope st) f cdv A outer s H E) (defBody st) (tS K (.top ca B E false) [0] own' [] g)) : FnG P w K mg base (k + 1) f fd ps (spM K ca ps.length (runM N.length g)) := by
  refine fnG_of T S (fun vs H Q E ⟨F, d0, ds, p, vs', ev, _, _, _, r, hl, _⟩ => by rw [ev, List.length_cons, ← r.length]; exact hl) fun cdv hc A outer s H vs Q E hg hr h => ?_
  obtain ⟨F, p, z⟩ := spM_start (own' := own') h
  exact ⟨_, hb _ cdv hc A outer s H E hg hr, z⟩
end
section
variable {X : Cx} {C : Cd} {own : List Nat} {es : List Expr} {fs : AF} {x y : Str} {p q pos : Pos} {k n : Nat} {f : Addr} {fd : FuncData} {ps : List Str} {G : List D → R (D × D)}
theorem ev_callMG (i : Nat) (Gf : FnG X.prog X.w X.K X.mg X.base k f fd ps (spM X.K C.ca n G)) (gu : X.A.guards = some []) (hr : Room k X.A) (hm : X.mg x = some (.ref f)) (hk : PySem.W.keepIn X.K (.ref f) = true) (hb : Binds X.K fd ps []) (hx : PX X C) (ha : PA X es (tA X.K C own fs))
    (hi : own.contains i = true := by rfl) (hN : X.N[i]? = some y := by rfl) (hv : Vis X.env.scope y := by first | exact Or.inl rfl | exact Or.inr (Or.inl rfl) | exact Or.inr (Or.inr rfl)) (hd : (y == ("__debug__" : Str)) = false := by decide)
    (hcd : (y == ("__classdict__" : Str)) = false := by decide)
    (hg : Gl X x := by rfl) (hdb : (x == ("__debug__" : Str)) = false := by decide) (he : starEach (.Name y q :: es) X.env = (false, eval (.Name y q) X.env) :: starEach es X.env := by rfl) (hpl : (backTo pos (starEach es X.env)).any (·.1) = false := by rfl) :
    PE X (.Call (.Name x p) (.Name y q :: es) [] pos) (tE X.K C own (callM i n G fs)) := by
  refine ⟨fun pins s σ H Q I ⟨env, F0, hR, h⟩ => wpAny_Call_Name_kw (ld_glob I hg hm ?_ hdb)⟩
  have hi : i ∈ own := by simpa using hi
  unfold callM at h
  split at h
  · rename_i d00 e0
    obtain ⟨p0, hp0, O0⟩ := hR.ow i d00 hi e0
    refine PySem.W.callWith_K (first := []) (h₀ := X.base) I.ok.mod.kin hk (thn ((pa_cons (pv i hN hv hd hcd) ha he).run pos pins s σ H (fun vs H1 => spM X.K C.ca n G vs H1 Q C.E) I ⟨_, hp0, env, F0, hR, h.bind.imp fun ds e1 F1 H1 hR1 s1 h1 vs r => ?_⟩) fun us s1 ⟨vs, H1, I1, r, q⟩ => ⟨I1.kIn, ?_⟩) he hpl
    · dsimp only at h1
      split at h1
      · rename_i d0 e2
        exact callMOk hR1 hi e2 hp0 r h1
      · exact h1.elim
    · exact run_G Gf gu hr hb hx I1 r q
  · exact h.elim
end
/-- a class named in an except that stands above another one -/
theorem exm_two {K : PySem.W.Frag} {C S : Addr} (b : PySem.W.subIn K (.ref S) (.type "BaseException") = some true) (i : PySem.W.isClsIn K S = true) (t : PySem.W.typeIn K (.ref S) = some (.type "type")) {r : Bool} (s : PySem.W.subIn K (.ref C) (.ref S) = some r) : PySem.W.exmOne K (.ref C) (.ref S) = some r := by
  have i' : (PySem.W.clsIn K S).isSome = true := i
  unfold PySem.W.exmOne PySem.W.kitCls
  simp only [b, i', t, s, beq_self_eq_true, Bool.and_self, if_true]
/-- a class that is named -/
structure XnT (K : PySem.W.Frag) (mg : Str → Option Value) (nm : Str) where
  a : Addr
  g : mg nm = some (.ref a)
/-- the def that calls what it got -/
structure HdT (K : PySem.W.Frag) (mg : Str → Option Value) (nm : Str) (st : Stmt) (ps : List Str) where
  a : Addr
  oc : Value
  kV : Value
  dc : Value
  pm : Value
  cd : Value
  ct : Value
  od : Option Addr
  an : Option Addr
  sl : Array (Option Value)
  lk : K.lookup a = some ⟨oc, od, .func (PySem.W.fnOf nm nm (defArgs st) (defBody st) (defScope st) .none kV dc pm an cd ct), sl⟩
  hc : PySem.W.codeIn K cd nm = true
  kp : PySem.W.keepIn K (.ref a) = true
  g : mg nm = some (.ref a)
  b : Binds K (PySem.W.fnOf nm nm (defArgs st) (defBody st) (defScope st) .none kV dc pm an cd ct) ps []
end Dl

namespace PySem
open Sem (wp)
open AutoSeq1 (wpAny_loadPart')
/-- enumerate of a tuple is made -/
theorem meets_enumT (l : Addr) (xs : Array Value) (n : Nat) (dc : Option Addr) (sl : Array (Option Value)) :
    Meets (Builtin.«enumerate.__new__» ⟨[.type "enumerate", .ref l], []⟩) (fun _ R s => s.heap.get? l = some { cls := .type "tuple", dict := dc, data := .seq xs n, slots := sl } ∧
      R (.ok (.ret (.ref (s.heap.push { cls := .type "tuple_iterator", data := .fields #[.ref l, .int 0 0] }).objs.size)))
        { s with heap := (s.heap.push { cls := .type "tuple_iterator", data := .fields #[.ref l, .int 0 0] }).push { cls := .type "enumerate", data := .fields #[.none, .bool false, .ref s.heap.objs.size, rawInt 0, .none, .none] } }) :=
  .of_wp fun prog w A R s h => by
    obtain ⟨hp, g, d, tk, os⟩ := s
    obtain ⟨hl, h⟩ := h
    have se := sub_enumerate
    have tp : Heap.IsTuple (Shared.heap ⟨hp, g, d, tk, os⟩) l xs := ⟨_, hl, rfl, n, rfl⟩
    wp_walk using wpAny_loadPart' hl
    refine wpAny_stack_any fun st => wpAny_pure ?_
    split
    · rename_i c _ _ _ _ _
      cases (c == Value.type "enumerate") <;> (wp_walk using wpAny_loadPart' hl, wpAny_pyIter_tuple tp; exact ⟨_, rfl, h⟩)
    · wp_walk using wpAny_loadPart' hl, wpAny_pyIter_tuple tp
      exact ⟨_, rfl, h⟩
theorem call_enumT {prog : Program} {w : World} {A : Around} {E : Value → Shared → Prop} {s : Shared} {l : Addr} {xs : Array Value} {Q : Value → Shared → Prop} (tp : s.heap.IsTuple l xs)
    (q : ∀ h', IsEnum h' (s.heap.objs.size + 1) s.heap.objs.size 0 .none → h'.IsTupleIter s.heap.objs.size l 0 → (∀ b o, s.heap.get? b = some o → h'.get? b = some o) → Q (.ref (s.heap.objs.size + 1)) { s with heap := h' }) :
    wpAny (model prog w) A (call (.type "enumerate") [.ref l]) Q E s := by
  obtain ⟨⟨c, dc, dt, sl⟩, hl, hc, n, hd⟩ := tp
  cases (show c = .type "tuple" from hc)
  cases (show dt = .seq xs n from hd)
  refine callType_new F.called_enumerate (by decide) (F.typeCall_enumerate_1 _) (F.newCall_enumerate_1 _) (fun obj => F.args_object_init_2 obj _) F.entry_enumerate_new (meets_enumT l xs n dc sl) ⟨hl, ?_⟩
  have z1 : (s.heap.push { cls := .type "tuple_iterator", data := .fields #[.ref l, .int 0 0] }).objs.size = s.heap.objs.size + 1 := Heap.size_push ..
  show _ ∧ _
  rw [z1]
  have en : IsEnum ((s.heap.push { cls := .type "tuple_iterator", data := .fields #[.ref l, .int 0 0] }).push { cls := .type "enumerate", data := .fields #[.none, .bool false, .ref s.heap.objs.size, rawInt 0, .none, .none] }) (s.heap.objs.size + 1) s.heap.objs.size 0 .none := by
    have z2 := Heap.get?_push_size (s.heap.push { cls := .type "tuple_iterator", data := .fields #[.ref l, .int 0 0] }) (o := { cls := .type "enumerate", data := .fields #[.none, .bool false, .ref s.heap.objs.size, rawInt 0, .none, .none] }) rfl
    rw [z1] at z2
    exact z2
  exact ⟨⟨_, en, rfl⟩, q _ en ⟨_, Heap.get?_push_of_some _ (Heap.get?_push_size _ rfl), rfl, rfl⟩ fun b o x => Heap.get?_push_of_some _ (Heap.get?_push_of_some _ x)⟩
end PySem
namespace Dl
open PySem PySem.Spec PyProof.Rows L2
/-- the tuple at a as it stands at each turn, each item in a new pair -/
def ItEt (K : PySem.W.Frag) (a : Addr) : It where
  go := fun i H => ∃ (xs : List V) (x : V), SqT K H a xs ∧ xs[i]? = some x
  yld := fun i H v H' => ∃ T x, v = .ref T ∧ H T = none ∧ H' = upd H T (.tup [.int (i : Nat), x]) ∧ ∀ xs, SqT K H a xs → xs[i]? = some x
  stop := fun i H => ∃ xs : List V, SqT K H a xs ∧ xs.length ≤ i
theorem turn_enT {P : Program} {w : World} {K : PySem.W.Frag} {elts : List Expr} {kk : Nat} {tpos : Pos} (a e it : Addr) :
    Turn P w K (.Tuple elts kk tpos) (ItEt K a) [e, it] e (fun i h => (∃ old, IsEnum h e it ((i : Nat) : Int) old) ∧ h.IsTupleIter it a i ∧ e ≠ it) where
  mem := List.mem_cons_self
  obj := by
    rintro i h ⟨⟨old, en⟩, ⟨o, ho, _, hd⟩, _⟩ b hb
    rcases List.mem_cons.mp hb with z | z
    · subst z; exact ⟨_, en, fun v q => nomatch q⟩
    · have z := List.mem_singleton.mp z
      subst z
      exact ⟨o, ho, fun v q => by rw [hd] at q; cases q⟩
  keep := by
    rintro i h h' ⟨⟨old, en⟩, ⟨o, ho, r⟩, ne⟩ k
    exact ⟨⟨old, k e List.mem_cons_self _ en⟩, ⟨o, k it (List.mem_cons_of_mem _ List.mem_cons_self) _ ho, r⟩, ne⟩
  item := by
    rintro X rfl rfl rfl hc i pins s σ H E I hf ⟨⟨old, en⟩, hit, ne⟩ ⟨xs, x, hq, hx⟩
    obtain ⟨its, rv, p, _⟩ := I.tuple hq
    obtain ⟨u, hu, ru⟩ := rv.get hx
    have tp : s.heap.IsTuple a its.toArray := p
    have nia : a ≠ it := fun z => by
      obtain ⟨o, ho, c1, _⟩ := tp
      obtain ⟨o2, ho2, c2, _⟩ := hit
      rw [z, ho2] at ho
      cases ho
      exact absurd (c2.symm.trans c1) (by decide)
    have nea : e ≠ a := fun z => by
      obtain ⟨o, ho, c1, _⟩ := tp
      have en' : s.heap.get? e = _ := en
      rw [z, ho] at en'
      have e1 := congrArg Obj.cls (Option.some.inj en')
      exact absurd (show Value.type "tuple" = Value.type "enumerate" from c1.symm.trans e1) (by decide)
    have hel : e < s.heap.objs.size := Heap.lt_size en
    have hil : it < s.heap.objs.size := by obtain ⟨_, q, _⟩ := hit; exact Heap.lt_size q
    have hlt : i < its.toArray.size := by
      have : its[i]? = some u := hu
      simpa using (List.getElem?_eq_some_iff.mp this).1
    refine wpAny_pyNext_enum_itemD (Draws.tuple (A := X.A.in1) (I.ok.hd hc) it a nia its.toArray) en ⟨hit, tp⟩ hlt ne (by simp [ne, nea]) fun y h' tk hy ho st hT hsz hk => ?_
    obtain ⟨hit', tp'⟩ := st
    have ey : y = u := by
      have : its[i]? = some y := by simpa using hy
      rw [hu] at this
      exact (Option.some.inj this).symm
    subst ey
    refine ⟨_, rfl, wpAny_letOwnedTupleGo_enum (s := { s with heap := h', toks := tk + 1 }) ho fun h2 en2 sb => ?_⟩
    have hT2 : h2.get? s.heap.objs.size = some { cls := .type "tuple", data := .seq #[.int i tk, y] } := (sb.2 _ (Nat.ne_of_gt hel)).trans hT
    have new : ObjOk X.prog X.w (upd H s.heap.objs.size (.tup [.int (i : Nat), x])) h2 s.heap.objs.size (.tup [.int (i : Nat), x]) :=
      ⟨by show 2 ≤ sizeLine; decide, [.int i tk, y], .cons ⟨_, rfl⟩ (.cons ru .nil), ⟨_, hT2, rfl, _, rfl⟩⟩
    have I2 : Inv X pins σ (upd H s.heap.objs.size (.tup [.int (i : Nat), x])) { s with heap := h2, toks := tk + 1 } :=
      I.turnedNew (ch := [e, it]) (fun b ob hb q => by
        have n1 : b ≠ e := fun z => hb (z ▸ List.mem_cons_self)
        have n2 : b ≠ it := fun z => hb (z ▸ List.mem_cons_of_mem _ List.mem_cons_self)
        exact (sb.2 b n1).trans (hk b ob n1 n2 q)) hf (Nat.le_refl _) new
    have ei : ((i + 1 : Nat) : Int) = (i : Int) + 1 := by omega
    refine ⟨.ref s.heap.objs.size, _, I2, rfl, ⟨_, x, rfl, I.hok.fresh (Nat.le_refl _), rfl, fun ys hy => by rw [I.tuple_inj hy hq]; exact hx⟩, ⟨⟨y, by rw [ei]; exact en2⟩, hit'.at fun o q => (sb.2 it (Ne.symm ne)).trans q, ne⟩, fun b hb => ?_⟩
    have hb' : b < s.heap.objs.size := by
      rcases List.mem_cons.mp hb with z | z
      · rw [z]; exact hel
      · rw [List.mem_singleton.mp z]; exact hil
    rw [upd_ne (Nat.ne_of_lt hb')]
    exact (hf b hb).1
  done := by
    rintro X rfl rfl rfl hc i pins s σ H E I hf ⟨⟨old, en⟩, hit, ne⟩ ⟨xs, hq, hx⟩
    obtain ⟨its, rv, p, _⟩ := I.tuple hq
    have tp : s.heap.IsTuple a its.toArray := p
    obtain ⟨f0, f1, f2, f3, f4, f5⟩ := hf it (List.mem_cons_of_mem _ List.mem_cons_self)
    have nia : a ≠ it := fun z => by
      obtain ⟨o, ho, c1, _⟩ := tp
      obtain ⟨o2, ho2, c2, _⟩ := hit
      rw [z, ho2] at ho
      cases ho
      exact absurd (c2.symm.trans c1) (by decide)
    have hl := rv.length
    -- the end is one for every place behind the last item
    have hT : s.TypeIs (.ref e) "enumerate" := ⟨_, en, rfl⟩
    unfold pyNext
    refine wpAny_bind (wpAny_attempt (wpAny_callSpecial?_slot (name := Str.ofString "__next__") hT F.slot_enumerate_next (wpAny_call_entry F.slot_enumerate_next hT F.entry_enumerate_next ?_ (F.args_enumerate_next_1 _))))
    show wpAny _ _ (field (.ref e) 2 >>= _) _ _ _
    refine wpAny_bind (wpAny_field en rfl (x := .ref it) rfl ?_)
    refine wpAny_bind (wpAny_nextOf_tuple_end (A := X.A.in1) (I.ok.hd hc) hit tp (by simp; omega) fun h' x he' hx' => ?_)
    obtain ⟨o, ho, hcl⟩ := hx'
    refine wpAny_bind (wpAny_isInstance (T := "StopIteration") (b := true) ⟨o, ho, hcl⟩ isSubtype_stop ?_)
    exact wpAny_pure ⟨rfl, I.turned (t' := s.toks) (fun b o hb q => he' b o hb q) f0 f1 f3 f4 f5⟩
  self := fun A i s Q E st h => let ⟨⟨_, en⟩, _⟩ := st; wpAny_pyIter_enum en h
def iEnA (K : PySem.W.Frag) (ta : TA) : TI := fun σ H R => ta σ H fun vs H1 => ∃ a xs, vs = [.ref a] ∧ ((SqL K H1 a xs ∧ R (Ite K a) H1) ∨ (SqT K H1 a xs ∧ R (ItEt K a) H1))
theorem pi_enA {X : Cx} {e : Expr} {ta : TA} {p pos tpos : Pos} {elts : List Expr} {kk : Nat} (hg : Gl X "enumerate") (hm : X.mg "enumerate" = none) (ha : PA X [e] ta) (hs : starEach [e] X.env = [(false, eval e X.env)] := by rfl) :
    PI X (.Tuple elts kk tpos) (.Call (.Name "enumerate" p) [e] [] pos) (iEnA X.K ta) := by
  refine ⟨fun pins s σ H R I h => Call_ (ld_blt I hg hm boot_enumerate (PyProof.Rows.callWith_type1 (thn (ha.run pos pins s σ H _ I h) fun us s1 ⟨vs, H1, I1, r1, a, xs, ev, q⟩ => ?_) hs rfl))⟩
  subst ev
  obtain ⟨u, eu, ru⟩ := vals1 r1
  subst eu
  obtain rfl : u = Value.ref a := ru
  have fpok : ∀ b ∈ [s1.heap.objs.size + 1, s1.heap.objs.size], FpOk X pins H1 b := fun b hb => by
    have le : s1.heap.objs.size ≤ b := by
      rcases List.mem_cons.mp hb with z | z
      · omega
      · rw [List.mem_singleton.mp z]; exact Nat.le_refl _
    exact I1.fpOk le (I1.hok.fresh le)
  rcases q with ⟨hq, q⟩ | ⟨hq, q⟩
  · obtain ⟨its, rv, p', hz⟩ := I1.list hq
    refine call_enumerate_list p'.isList fun h' en hit hsz hk => wpAny_pyIter_enum en ?_
    exact ⟨_, _, _, _, H1, rfl, I1.kept (t' := s1.toks) hk, turn_enum a (s1.heap.objs.size + 1) s1.heap.objs.size, ⟨⟨.none, en⟩, hit, Nat.succ_ne_self _⟩, fpok, q⟩
  · obtain ⟨its, rv, p', hz⟩ := I1.tuple hq
    refine call_enumT (show s1.heap.IsTuple a its.toArray from p') fun h' en hit hk => wpAny_pyIter_enum en ?_
    exact ⟨_, _, _, _, H1, rfl, I1.kept (t' := s1.toks) hk, turn_enT a (s1.heap.objs.size + 1) s1.heap.objs.size, ⟨⟨.none, en⟩, hit, Nat.succ_ne_self _⟩, fpok, q⟩
def enumP : List D → R (List D)
  | [.lst xs] => .ok (enumL xs)
  | [.tup xs] => .ok (enumL xs)
  | _ => .no
theorem enumP_ne : ∀ x c fs, enumP x ≠ .ex c fs := fun x c fs z => by
  unfold enumP at z
  split at z <;> cases z
section
variable {X : Cx} {C : Cd} {own : List Nat} {a : Expr} {fs : AF} {p pos : Pos}
theorem yl_enT {ca : CA} {F : Hp} {l : Addr} {vs : List V} {xs : List D} (h : SqT X.K F l vs) (r : Reps X.K ca F xs vs) : Yl X.K ca (ItEt X.K l) F (enumL xs) where
  go := fun i H s hi => by
    unfold enumL at hi
    rw [List.length_map, List.length_zipIdx, r.length] at hi
    exact ⟨vs, _, Same.seqT s h, List.getElem?_eq_getElem hi⟩
  stop := fun i H s hi => by
    unfold enumL at hi
    rw [List.length_map, List.length_zipIdx, r.length] at hi
    exact ⟨vs, Same.seqT s h, hi⟩
  yld := fun i H v H' Fc s1 s2 ⟨T, x, ev, hT, eH, q⟩ d hd => by
    subst ev
    subst eH
    unfold enumL at hd
    rw [List.getElem?_map, List.getElem?_zipIdx] at hd
    cases e : xs[i]? with
    | none => rw [e] at hd; cases hd
    | some y =>
      rw [e] at hd
      cases hd
      obtain ⟨u, h1, h2⟩ := r.get e
      have hu := q vs (Same.seqT s2 (Same.seqT s1 h))
      rw [h1] at hu
      cases hu
      have e0 : (0 : Nat) + i = i := by omega
      refine ⟨upd Fc T (.tup [.int (i : Nat), x]), .new s2 hT, .tup (.of upd_same) ?_⟩
      simp only [e0]
      exact .cons (.int _) (.one ((h2.mono s1).mono (same_upd (s2.free hT))))
theorem ei_enumP {elts : List Expr} {kk : Nat} {tpos : Pos} (hm : X.mg "enumerate" = none) (ha : PA X [a] (tA X.K C own fs)) (hg : Gl X "enumerate" := by rfl) (hs : starEach [a] X.env = [(false, eval a X.env)] := by rfl) : PI X (.Tuple elts kk tpos) (.Call (.Name "enumerate" p) [a] [] pos) (tI X.K C own (iArg enumP fs)) :=
  pi_imp (pi_enA hg hm ha hs) fun σ H R ⟨env, F, hR, q⟩ => ⟨env, F, hR, (bindL enumP_ne q).imp fun ds e F1 H1 hR1 s1 ⟨xs, hb, hk⟩ vs r => by
    unfold enumP at hb
    split at hb
    · cases hb
      match vs, r with
      | _, .cons (.lst hq rs) .nil => exact ⟨_, _, rfl, .inl ⟨SqL.of (hR1.q.sub _ _ hq), hk _ (yl_enum (SqL.of hq) rs)⟩⟩
    · cases hb
      match vs, r with
      | _, .cons (.tup hq rs) .nil => exact ⟨_, _, rfl, .inr ⟨Same.seqT hR1.q.sub hq, hk _ (yl_enT hq rs)⟩⟩
    · cases hb⟩
end
@[simp] theorem enumP_lst {xs : List D} : enumP [.lst xs] = .ok (enumL xs) := (rfl)
@[simp] theorem enumP_tup {xs : List D} : enumP [.tup xs] = .ok (enumL xs) := (rfl)
end Dl

namespace Dl
open PySem PySem.Spec PyProof.Rows L2
/-! ### == of lists: where the lengths differ nothing is asked of the items -/
def eqX : D → D → R D
  | .lst xs, .lst ys => if xs.length = ys.length then eqD (.lst xs) (.lst ys) else .ok (.bl false)
  | a, b => eqD a b
theorem eqX_ne : ∀ x y c fs, eqX x y ≠ .ex c fs := fun x y c fs z => by
  unfold eqX at z
  split at z
  · split at z
    · exact eqD_ne _ _ _ _ z
    · cases z
  · exact eqD_ne _ _ _ _ z
theorem oo_eqX {X : Cx} {ca : CA} (hu : X.A.units + 64 < cLine) : OpR X (compareOp .Eq) (r2 X.K ca eqX) := fun pins s σ H x y v u Q I rx ry ⟨F, a, b, d, sub, ra, rb, hg, q⟩ => by
  unfold eqX at hg
  split at hg
  · rename_i xs ys
    split at hg
    · exact oo_eq hu pins s σ H x y v u Q I rx ry ⟨F, _, _, d, sub, ra, rb, hg, q⟩
    · rename_i hn
      cases hg
      cases ra with
      | lst ha rs =>
        cases rb with
        | lst hb rs' =>
          cases rx
          cases ry
          obtain ⟨i1, v1, p1, _⟩ := I.list (SqL.of (sub _ _ ha))
          obtain ⟨i2, v2, p2, _⟩ := I.list (SqL.of (sub _ _ hb))
          refine PySem.SeqAt.eq_list_lengthsAt p1.isList p2.isList ?_ (by omega) ⟨.bl false, H, I, rfl, q _ F H (.refl sub) (.bl false)⟩
          have e1 := v1.length
          have e2 := v2.length
          have e3 := rs.length
          have e4 := rs'.length
          simp only [List.size_toArray, bne_iff_ne, ne_eq]
          omega
  · exact oo_eq hu pins s σ H x y v u Q I rx ry ⟨F, _, _, d, sub, ra, rb, hg, q⟩
@[simp] theorem eqX_nil {xs : List D} : eqX (.lst xs) (.lst []) = .ok (.bl xs.isEmpty) := by
  cases xs with
  | nil => rfl
  | cons x xs => rfl
theorem sx_consO {X : Cx} {ca : CA} {S : L2.St → Hp → Hp → Prop} {j : Nat} {o o1 o2 : Option D} {st : Stmt} {sts : List Stmt} (hS : Stl S) (hj : ∀ σ F H v, S σ F H → S (σ.set j v) F H) (h1 : PS X st (tXO X.K ca S j o1)) (h2 : PSs X sts (tXO X.K ca S j o2)) (ho : o2.or o1 = o := by rfl) : PSs X (st :: sts) (tXO X.K ca S j o) := by
  rw [← ho]
  exact sx_cons hS hj h1 h2
end Dl

namespace Dl
open PySem PySem.Spec PyProof.Rows L2
theorem room65 {k : Nat} {A : Around} (r : Room k A) : A.units + 65 < cLine := by
  have := r.un
  omega
/-! ### running mirrors by simp: what may raise -/
section
variable {α β : Type} {env e : En} {g g1 g2 : SF} {d : D} {c n : Nat} {fs : List (Str × D)}
@[simp] theorem bind_ex' {f : α → R β} : (R.ex c fs : R α).bind f = .ex c fs := (rfl)
@[simp] theorem toS_ex {k : α → SR} : (R.ex c fs : R α).toS k = .ex c fs := (rfl)
@[simp] theorem seq_ex : SR.seq (.ex c fs) g = .ex c fs := (rfl)
@[simp] theorem fin_ex : (SR.ex c fs).fin = .ex c fs := (rfl)
@[simp] theorem finM_ex : (SR.ex c fs).finM = .ex c fs := (rfl)
@[simp] theorem finN_ex : (SR.ex c fs).finN = .ex c fs := (rfl)
@[simp] theorem lp_ex {k : En → SR} : (SR.ex c fs).lp k = .ex c fs := (rfl)
@[simp] theorem lp_no {k : En → SR} : SR.no.lp k = .no := (rfl)
@[simp] theorem raiseS_ap {ns : List Str} {f : AF} : raiseS c n ns f env = (f env).toS fun p => if p.1.length = n then .ex c (ns.zip p.1) else .no := (rfl)
def hdO (g : Nat → List (Str × D) → Option D) (env : En) : R (D × En) → R (D × En)
  | .ok _ => .ok (.non, env)
  | .ex c fs => match g c fs with
    | some d => .ok (d, env)
    | none => .no
  | .no => .no
@[simp] theorem hdF_ap {g : Nat → List (Str × D) → Option D} {fb : EF} : hdF g fb env = hdO g env (fb env) := by
  unfold hdF hdO
  cases fb env <;> rfl
@[simp] theorem hdO_ok {g : Nat → List (Str × D) → Option D} {p : D × En} : hdO g env (.ok p) = .ok (.non, env) := (rfl)
theorem hdO_ex {g : Nat → List (Str × D) → Option D} (h : g c fs = some d) : hdO g env (.ex c fs) = .ok (d, env) := by
  show (match g c fs with
    | some d => R.ok (d, env)
    | none => R.no) = _
  rw [h]
@[simp] theorem aConsL_ap {f : EF} {gs : AF} : aConsL f gs env = (f env).bind fun p => if isLst p.1 = true then (gs p.2).nox.bind fun q => .ok (p.1 :: q.1, q.2) else .no := by
  unfold aConsL
  refine congrArg _ (funext fun p => ?_)
  cases p.1 <;> rfl
@[simp] theorem eDct0_ap : eDct0 env = .ok (.dct [], env) := (rfl)
def SR.finMN : SR → R (D × D)
  | .rt d e => lastD d e
  | .ex c fs => .ex c fs
  | _ => .no
@[simp] theorem finMN_rt : (SR.rt d e).finMN = lastD d e := (rfl)
@[simp] theorem runMN_ap {ds : List D} : runMN n g ds = (g (startE n ds)).finMN := by
  unfold runMN SR.finMN
  cases g (startE n ds) <;> rfl
end
end Dl

namespace Dl
open PySem PySem.Spec PyProof.Rows L2
/-- where the code object of a def and its table stand -/
theorem tabIn_of {K : PySem.W.Frag} {x : Str} {a c P : Addr} {oc ec : Value} {od cx : Option Addr} {fd : FuncData} {sl cs : Array (Option Value)} {vs : Array Value} (h1 : PySem.W.nsIn K mainGlobals x = some (some (.ref a))) (h2 : K.lookup a = some ⟨oc, od, .func fd, sl⟩)
    (hc : fd.code = .ref c) (h3 : K.lookup c = some ⟨ec, cx, .fields vs, cs⟩) (h4 : vs[11]? = some (.ref P)) : PySem.W.tabIn K x = some (c, P) := by
  unfold PySem.W.tabIn
  simp only [h1, h2, hc, h3, h4]
end Dl

namespace Q
open PySem PySem.Spec PyProof.Rows L2 Dl
def subN : Nat → Nat → Option Bool
  | 32, 32 => some true
  | 32, 85 => some true
  | 32, 76 => some false
  | 32, 113 => some false
  | 32, 21 => some false
  | 32, 24 => some false
  | 32, 108 => some false
  | 85, 32 => some false
  | 85, 85 => some true
  | 85, 76 => some false
  | 85, 113 => some false
  | 85, 21 => some false
  | 85, 24 => some false
  | 85, 108 => some false
  | 76, 32 => some true
  | 76, 85 => some true
  | 76, 76 => some true
  | 76, 113 => some false
  | 76, 21 => some false
  | 76, 24 => some false
  | 76, 108 => some false
  | 113, 32 => some false
  | 113, 85 => some true
  | 113, 76 => some false
  | 113, 113 => some true
  | 113, 21 => some false
  | 113, 24 => some false
  | 113, 108 => some false
  | 21, 32 => some true
  | 21, 85 => some true
  | 21, 76 => some false
  | 21, 113 => some false
  | 21, 21 => some true
  | 21, 24 => some false
  | 21, 108 => some false
  | 24, 32 => some false
  | 24, 85 => some true
  | 24, 76 => some false
  | 24, 113 => some false
  | 24, 21 => some false
  | 24, 24 => some true
  | 24, 108 => some false
  | 108, 32 => some true
  | 108, 85 => some true
  | 108, 76 => some false
  | 108, 113 => some false
  | 108, 21 => some false
  | 108, 24 => some false
  | 108, 108 => some true
  | _, _ => none
def subT : Str → Nat → Option Bool := fun _ _ => none
def subG : D → D → Option Bool
  | .ty a, .ty c => kitB a c
  | .cod a, .cod c => subN a c
  | .ty a, .cod c => subT a c
  | _, _ => none
def m__law_hat : SF := (retS (eN lstD (aCons (lcE [1] (iVal (eSl slP (eV 0) pNone (pSome (eC (.int (60)))))) (bName 1) tYes1 (eN intC (aCons (eV 1) aNil))) (aCons (eC (.int (0))) (aCons (eC (.int (0))) aNil)))))
def F__law_hat : List D → R D := runN 2 m__law_hat
def m__law_lot : SF := (seqS (ifS (tB1 (e2 gtP (ixO 0 (eC (.int (2)))) (eC (.int (0))))) (seqS (asgS 2 (e2 (intD modI) (eN intC (aCons (ixO 0 (eC (.int (2)))) aNil)) (eV 1))) (seqS (setS 0 (e2 (intD fdivI) (eN intC (aCons (ixO 0 (eC (.int (2)))) aNil)) (eV 1)) (eC (.int (2)))) (retS (eV 2)))) passS) (seqS (asgS 3 (ixO 0 (eC (.int (1))))) (seqS (setS 0 (e2 addP (eV 3) (eC (.int (1)))) (eC (.int (1)))) (seqS (asgS 4 (e2 addP (e2 mulP (eC (.int (66071))) (eV 3)) (eC (.int (9743))))) (seqS (ifS (tB1 (e2 neD (ixO 0 (eC (.int (0)))) (eN lstD aNil))) (asgS 4 (e2 ixD (ixO 0 (eC (.int (0)))) (e2 (intD modI) (eN intC (aCons (eV 3) aNil)) (eN lenP (aCons (ixO 0 (eC (.int (0)))) aNil))))) passS) (seqS (ifS (tAnd1 (tB1 (e2 ltP (eV 3) (eN lenP (aCons (ixO 0 (eC (.int (0)))) aNil)))) (tB1 (e2 geP (eN absD (aCons (eV 4) aNil)) (e2 (intD powI) (eC (.int (10))) (eC (.int (18))))))) (seqS (asgS 5 (e2 addP (e2 mulP (eC (.int (2))) (e2 (intD subI) (eN absD (aCons (eV 4) aNil)) (e2 (intD powI) (eC (.int (10))) (eC (.int (18)))))) (eN intC (aCons (e2 ltP (eV 4) (eC (.int (0)))) aNil)))) (seqS (setS 0 (e2 (intD fdivI) (eN intC (aCons (eV 5) aNil)) (eV 1)) (eC (.int (2)))) (retS (e2 (intD modI) (eN intC (aCons (eV 5) aNil)) (eV 1))))) passS) (seqS (asgS 6 (e2 (intD modI) (eN intC (aCons (e2 (intD powI) (e2 addP (e2 addP (e2 (intD modI) (eN intC (aCons (eV 4) aNil)) (eC (.int (2147483587)))) (e2 mulP (eC (.int (73013))) (eV 3))) (eC (.int (9743)))) (eC (.int (5)))) aNil)) (eC (.int (2147483629))))) (seqS (asgS 6 (e2 (intD modI) (eN intC (aCons (e2 (intD powI) (e2 addP (e2 addP (e2 mulP (eV 6) (e2 addP (e2 mulP (eC (.int (2))) (eV 3)) (eC (.int (1931))))) (e2 mulP (e2 mulP (eC (.int (66071))) (eV 3)) (eV 3))) (eC (.int (73037)))) (eC (.int (3)))) aNil)) (eC (.int (2147483549))))) (retS (e2 (intD modI) (eN intC (aCons (e2 (intD fdivI) (eV 6) (eC (.int (64)))) aNil)) (eV 1)))))))))))
def F__law_lot : List D → R (D × D) := runM 7 m__law_lot
def m__law_one : SF := (retS (e2 ixD (eV 1) (callM 0 2 F__law_lot (aCons (eN lenP (aCons (eV 1) aNil)) aNil))))
def F__law_one : List D → R (D × D) := runM 2 m__law_one
def m__law_bad : SF := (retS (callM 0 2 F__law_one (aCons (eN lstD (aCons (e2 (intD subI) (eV 1) (eC (.int (1)))) (aCons (e2 addP (eV 2) (eC (.int (1)))) (aCons (eC .non) (aCons (eC (.bl true)) (aCons (eC (.bl false)) (aCons (eN strI (aCons (eV 1) aNil)) (aCons (eN lstD (aCons (eV 1) aNil)) (aCons (eN tupD (aCons (eV 2) aNil)) (aCons (e2 (intD powI) (eC (.int (10))) (eC (.int (25)))) (aCons (e1 negD (e2 (intD powI) (eC (.int (10))) (eC (.int (25))))) (aCons eDct0 (aCons (eC (.str "power")) aNil))))))))))))) aNil)))
def F__law_bad : List D → R (D × D) := runM 3 m__law_bad
def m__law_good : SF := (retS (callM 0 2 F__law_one (aCons (eN lstD (aCons (eV 1) (aCons (eV 2) (aCons (e2 addP (eV 1) (callM 0 2 F__law_lot (aCons (e2 addP (e2 (intD subI) (eV 2) (eV 1)) (eC (.int (1)))) aNil))) aNil)))) aNil)))
def F__law_good : List D → R (D × D) := runM 3 m__law_good
def m__law_within : SF := (retS (eAnd (eN (isiD subG) (aCons (eV 0) (aCons (eC (.ty "int")) aNil))) (eAnd (eNot (eN (isiD subG) (aCons (eV 0) (aCons (eC (.ty "bool")) aNil)))) (eCh (eV 1) (hLink leP (eV 0) (hLast leP (eV 2)))))))
def F__law_within : List D → R D := runD 3 m__law_within
def m__law_spoilt : SF := (seqS (par2S 2 3 (aConsL (lcE [8, 9, 10] (iVal (eV 1)) (bSeq 3 (bCons (bName 8) (bCons (bName 9) (bCons (bName 10) bNil)))) tYes1 (callM 0 3 F__law_good (aCons (eV 9) (aCons (eV 10) aNil)))) (aCons (eC .non) aNil))) (seqS (forStm (iArg rng1D (aCons (callM 0 2 F__law_lot (aCons (eC (.int (3))) aNil)) aNil)) (bName 4) (seqS (asgS 5 (callM 0 2 F__law_lot (aCons (eN lenP (aCons (eV 1) aNil)) aNil))) (setS 2 (callM 0 3 F__law_bad (aCons (e2 ixD (e2 ixD (eV 1) (eV 5)) (eC (.int (1)))) (aCons (e2 ixD (e2 ixD (eV 1) (eV 5)) (eC (.int (2)))) aNil))) (eV 5)))) (seqS (forStm (iArg zipP (aCons (eV 2) (aCons (eV 1) aNil))) (bSeq 2 (bCons (bName 6) (bCons (bName 7) bNil))) (ifS (tAnd1 (tB1 (e2 isD (eV 3) (eC .non))) (tNot1 (tB1 (callF 3 F__law_within (aCons (eV 6) (aCons (e2 ixD (eV 7) (eC (.int (1)))) (aCons (e2 ixD (eV 7) (eC (.int (2)))) aNil))))))) (asgS 3 (eN tupD (aCons (eC (.str "number")) (aCons (e2 ixD (eV 7) (eC (.int (0)))) aNil)))) passS)) (retS (eN tupD (aCons (eV 2) (aCons (eV 3) aNil)))))))
def F__law_spoilt : List D → R (D × D) := runM 11 m__law_spoilt
def g__law_heard : Nat → List (Str × D) → Option D := fun c fs => match c with
  | 9 => (fs.lookup ("part" : Str)).bind fun d0 => some (.tup [(.str "number"), d0])
  | _ => none
def m_is_integer : SF := (retS (eAnd (eN (isiD subG) (aCons (eV 0) (aCons (eC (.ty "int")) aNil))) (eNot (eN (isiD subG) (aCons (eV 0) (aCons (eC (.ty "bool")) aNil))))))
def F_is_integer : List D → R D := runD 1 m_is_integer
def m_is_within : SF := (seqS (ifS (tNot1 (tB1 (callF 1 F_is_integer (aCons (eV 0) aNil)))) (retS (eC (.bl false))) passS) (retS (eAnd (eOr (e2 isD (eV 1) (eC .non)) (e2 geP (eV 0) (eV 1))) (eOr (e2 isD (eV 2) (eC .non)) (e2 leP (eV 0) (eV 2))))))
def F_is_within : List D → R D := runD 3 m_is_within
def m_need_within : SF := (ifS (tNot1 (tB1 (callF 3 F_is_within (aCons (eV 1) (aCons (eV 2) (aCons (eV 3) aNil)))))) (raiseS 9 1 ["part"] (aCons (eV 0) aNil)) passS)
def F_need_within : List D → R D := runD 4 m_need_within
def m_need_numbers : SF := (forStm (iVal (eV 0)) (bSeq 2 (bCons (bName 2) (bCons (bName 3) bNil))) (expS (callF 4 F_need_within (aCons (eV 2) (aCons (eV 3) (aCons (eC (.int (1))) (aCons (eV 1) aNil)))))))
def F_need_numbers : List D → R D := runD 4 m_need_numbers
def m_need_power : SF := (expS (callF 4 F_need_within (aCons (eC (.str "power")) (aCons (eV 0) (aCons (eC (.int (-80))) (aCons (eC (.int (80))) aNil))))))
def F_need_power : List D → R D := runD 1 m_need_power
def m_raised : SF := (seqS (asgS 2 (eC (.int (1)))) (seqS (whS (tB1 (e2 gtP (eV 1) (eC (.int (0))))) (seqS (ifS (tTru (e2 (intD andI) (eV 1) (eC (.int (1))))) (asgS 2 (e2 mulP (eV 2) (eV 0))) passS) (seqS (asgS 0 (e2 mulP (eV 0) (eV 0))) (asgS 1 (e2 (intD shrI) (eV 1) (eC (.int (1))))))) 1000) (retS (eV 2))))
def F_raised : List D → R D := runD 3 m_raised
def m_whole_sum (F_whole_sum : List D → R D) : SF := (seqS (ifS (tB1 (e2 ltP (eV 4) (eC (.int (0))))) (retS (callF 5 F_whole_sum (aCons (e2 mulP (e2 mulP (eV 1) (eV 2)) (eV 3)) (aCons (e2 mulP (e2 mulP (eV 0) (eV 2)) (eV 3)) (aCons (e2 mulP (e2 mulP (eV 0) (eV 1)) (eV 3)) (aCons (e2 mulP (e2 mulP (eV 0) (eV 1)) (eV 2)) (aCons (e1 negD (eV 4)) aNil))))))) passS) (retS (e2 (intD subI) (e2 (intD subI) (e2 addP (callF 2 F_raised (aCons (eV 0) (aCons (eV 4) aNil))) (callF 2 F_raised (aCons (eV 3) (aCons (eV 4) aNil)))) (callF 2 F_raised (aCons (eV 1) (aCons (eV 4) aNil)))) (callF 2 F_raised (aCons (eV 2) (aCons (eV 4) aNil))))))
def FF_whole_sum : Nat → List D → R D
  | 0 => fun _ => .no
  | n + 1 => runD 5 (m_whole_sum (FF_whole_sum n))
def F_whole_sum : List D → R D := FF_whole_sum 2
def m_sign_at : SF := (seqS (expS (callF 2 F_need_numbers (aCons (eN lstD (aCons (eN tupD (aCons (eC (.str "a")) (aCons (eV 0) aNil))) (aCons (eN tupD (aCons (eC (.str "b")) (aCons (eV 1) aNil))) (aCons (eN tupD (aCons (eC (.str "c")) (aCons (eV 2) aNil))) (aCons (eN tupD (aCons (eC (.str "d")) (aCons (eV 3) aNil))) aNil))))) (aCons (eC (.int (1000000))) aNil)))) (seqS (expS (callF 1 F_need_power (aCons (eV 4) aNil))) (seqS (asgS 5 (callF 5 F_whole_sum (aCons (eV 0) (aCons (eV 1) (aCons (eV 2) (aCons (eV 3) (aCons (eV 4) aNil))))))) (seqS (ifS (tB1 (e2 eqD (eV 5) (eC (.int (0))))) (retS (eC (.int (0)))) passS) (retS (eIf (tB1 (e2 gtP (eV 5) (eC (.int (0))))) (eC (.int (1))) (e1 negD (eC (.int (1))))))))))
def F_sign_at : List D → R D := runD 6 m_sign_at
def m_is_by_power : SF := (seqS (ifS (tB1 (e2 eqD (eV 4) (eC (.int (0))))) (retS (e2 eqD (e2 mulP (eV 0) (eV 3)) (e2 mulP (eV 1) (eV 2)))) passS) (retS (e2 eqD (callF 5 F_whole_sum (aCons (eV 0) (aCons (eV 1) (aCons (eV 2) (aCons (eV 3) (aCons (eV 4) aNil)))))) (eC (.int (0))))))
def F_is_by_power : List D → R D := runD 5 m_is_by_power
def m_is_by : SF := (seqS (expS (callF 2 F_need_numbers (aCons (eN lstD (aCons (eN tupD (aCons (eC (.str "a")) (aCons (eV 0) aNil))) (aCons (eN tupD (aCons (eC (.str "b")) (aCons (eV 1) aNil))) (aCons (eN tupD (aCons (eC (.str "c")) (aCons (eV 2) aNil))) (aCons (eN tupD (aCons (eC (.str "d")) (aCons (eV 3) aNil))) aNil))))) (aCons (eC (.int (1000000))) aNil)))) (seqS (expS (callF 1 F_need_power (aCons (eV 4) aNil))) (retS (callF 5 F_is_by_power (aCons (eV 0) (aCons (eV 1) (aCons (eV 2) (aCons (eV 3) (aCons (eV 4) aNil)))))))))
def F_is_by : List D → R D := runD 5 m_is_by
def kg_is_by_0 {α : Type} (us ws : List α) : List α := match us, ws with
  | [], [w0, w1, w2, w3, w4] => [w4, w3, w2, w1, w0]
  | _, _ => []
abbrev kd_is_by_0 (ds : List D) : List D := kg_is_by_0 [] ds
def kg_sign_at_1 {α : Type} (us ws : List α) : List α := match us, ws with
  | [], [w0, w1, w2, w3, w4] => [w1, w3, w4, w0, w2]
  | _, _ => []
abbrev kd_sign_at_1 (ds : List D) : List D := kg_sign_at_1 [] ds
def m__law_fours_right : SF := (seqS (asgS 1 (e2 addP (lcE [11] (iVal (eN tupD (aCons (eC (.str "a")) (aCons (eC (.str "b")) (aCons (eC (.str "c")) (aCons (eC (.str "d")) aNil)))))) (bName 11) tYes1 (eN tupD (aCons (eV 11) (aCons (eC (.int (1))) (aCons (eC (.int (1000000))) aNil))))) (eN lstD (aCons (eN tupD (aCons (eC (.str "power")) (aCons (e1 negD (eC (.int (80)))) (aCons (eC (.int (80))) aNil)))) aNil)))) (seqS (asgG (bSeq 2 (bCons (bName 2) (bCons (bName 3) bNil))) (callM 0 2 F__law_spoilt (aCons (eV 1) aNil))) (seqS (asgG (bSeq 5 (bCons (bName 6) (bCons (bName 7) (bCons (bName 8) (bCons (bName 9) (bCons (bName 10) bNil)))))) (eV 2)) (seqS (ifS (tB1 (e2 neD (lookE (hdF g__law_heard (callF 5 F_sign_at (aCons (eV 6) (aCons (eV 7) (aCons (eV 8) (aCons (eV 9) (aCons (eV 10) aNil)))))))) (eV 3))) (retS (eC (.bl false))) passS) (seqS (ifS (tB1 (e2 neD (lookE (hdF g__law_heard (callK 5 F_is_by kd_is_by_0 (aCons (eV 10) (aCons (eV 9) (aCons (eV 8) (aCons (eV 7) (aCons (eV 6) aNil)))))))) (eV 3))) (retS (eC (.bl false))) passS) (seqS (ifS (tB1 (e2 isnD (eV 3) (eC .non))) (retS (eC (.bl true))) passS) (seqS (par2S 4 5 (aCons (callK 5 F_sign_at kd_sign_at_1 (aCons (eV 9) (aCons (eV 6) (aCons (eV 10) (aCons (eV 7) (aCons (eV 8) aNil)))))) (aCons (callF 5 F_is_by (aCons (eV 6) (aCons (eV 7) (aCons (eV 8) (aCons (eV 9) (aCons (eV 10) aNil)))))) aNil))) (retS (eAnd (eN (isiD subG) (aCons (eV 4) (aCons (eC (.ty "int")) aNil))) (eAnd (eNot (eN (isiD subG) (aCons (eV 4) (aCons (eC (.ty "bool")) aNil)))) (eAnd (e2 (inD false) (eV 4) (eN tupD (aCons (e1 negD (eC (.int (1)))) (aCons (eC (.int (0))) (aCons (eC (.int (1))) aNil))))) (eN (isiD subG) (aCons (eV 5) (aCons (eC (.ty "bool")) aNil))))))))))))))
def F__law_fours_right : List D → R (D × D) := runM 12 m__law_fours_right
def m_fourth_quotient : SF := (seqS (ifS (tB1 (e2 eqD (eV 3) (eC (.int (0))))) (retS (eN tupD (aCons (eC (.int (1))) (aCons (e2 mulP (eV 1) (eV 2)) (aCons (eV 0) aNil))))) passS) (seqS (ifS (tB1 (e2 gtP (eV 3) (eC (.int (0))))) (par3S 4 5 6 (aCons (eV 3) (aCons (e2 (intD subI) (e2 addP (callF 2 F_raised (aCons (eV 1) (aCons (eV 3) aNil))) (callF 2 F_raised (aCons (eV 2) (aCons (eV 3) aNil)))) (callF 2 F_raised (aCons (eV 0) (aCons (eV 3) aNil)))) (aCons (eC (.int (1))) aNil)))) (seqS (par2S 4 5 (aCons (e1 negD (eV 3)) (aCons (callF 2 F_raised (aCons (e2 mulP (e2 mulP (eV 0) (eV 1)) (eV 2)) (aCons (e1 negD (eV 3)) aNil))) aNil))) (asgS 6 (e2 (intD subI) (e2 addP (callF 2 F_raised (aCons (e2 mulP (eV 0) (eV 2)) (aCons (eV 4) aNil))) (callF 2 F_raised (aCons (e2 mulP (eV 0) (eV 1)) (aCons (eV 4) aNil)))) (callF 2 F_raised (aCons (e2 mulP (eV 1) (eV 2)) (aCons (eV 4) aNil))))))) (retS (eIf (tAnd1 (tB1 (e2 gtP (eV 5) (eC (.int (0))))) (tB1 (e2 gtP (eV 6) (eC (.int (0)))))) (eN tupD (aCons (eV 4) (aCons (eV 5) (aCons (eV 6) aNil)))) (eC .non)))))
def F_fourth_quotient : List D → R D := runD 7 m_fourth_quotient
def m_fixed (F_fixed : List D → R D) : SF := (seqS (ifS (tB1 (e1 (isiTD subG [.ty "list", .ty "tuple"]) (eV 0))) (retS (eN tupC (aCons (lcE [1] (iVal (eV 0)) (bName 1) tYes1 (callF 1 F_fixed (aCons (eV 1) aNil))) aNil))) passS) (retS (eV 0)))
def FF_fixed : Nat → List D → R D
  | 0 => fun _ => .no
  | n + 1 => runD 2 (m_fixed (FF_fixed n))
def F_fixed : List D → R D := FF_fixed 3
def m_Denial__init__ : SF := (seqS (fldS 0 [] "word" (eV 1)) (fldS 0 [] "parts" (callF 1 F_fixed (aCons (eV 2) aNil))))
def F_Denial__init__ : List D → R (D × D) := runM 3 m_Denial__init__
def m_NoWhole__init__ : SF := (seqS (expS (callM 0 3 (starD 2 F_Denial__init__) (aCons (eC (.str "nowhole")) (aCons (eV 1) aNil)))) (fldS 0 [] "low" (e2 ixD (eFldO 0 [] "parts") (eC (.int (0))))))
def F_NoWhole__init__ : List D → R (D × D) := runM 2 m_NoWhole__init__
def m_side_of : SF := (seqS (asgG (bSeq 3 (bCons (bName 2) (bCons (bName 3) (bCons (bName 4) bNil)))) (eV 1)) (retS (e2 (intD subI) (e2 mulP (callF 2 F_raised (aCons (eV 0) (aCons (eV 2) aNil))) (eV 4)) (eV 3))))
def F_side_of : List D → R D := runD 5 m_side_of
def m_whole_below : SF := (seqS (asgS 1 (eC (.int (1)))) (seqS (whS (tB1 (e2 leP (callF 2 F_side_of (aCons (eV 1) (aCons (eV 0) aNil))) (eC (.int (0))))) (asgS 1 (e2 mulP (eV 1) (eC (.int (2))))) 1000) (seqS (asgS 2 (e2 (intD fdivI) (eV 1) (eC (.int (2))))) (seqS (whS (tB1 (e2 gtP (e2 (intD subI) (eV 1) (eV 2)) (eC (.int (1))))) (seqS (asgS 3 (e2 (intD fdivI) (e2 addP (eV 2) (eV 1)) (eC (.int (2))))) (ifS (tB1 (e2 leP (callF 2 F_side_of (aCons (eV 3) (aCons (eV 0) aNil))) (eC (.int (0))))) (asgS 2 (eV 3)) (asgS 1 (eV 3)))) 1000) (retS (eV 2))))))
def F_whole_below : List D → R D := runD 4 m_whole_below
def m_Paper__init__ : SF := (seqS (fldS 0 [] "word" (eV 1)) (fldS 0 [] "parts" (callF 1 F_fixed (aCons (eV 2) aNil))))
def F_Paper__init__ : List D → R (D × D) := runM 3 m_Paper__init__
def m_Whole__init__ : SF := (seqS (expS (callM 0 3 (starD 2 F_Paper__init__) (aCons (eC (.str "whole")) (aCons (eV 1) aNil)))) (fldS 0 [] "number" (e2 ixD (eFldO 0 [] "parts") (eC (.int (0))))))
def F_Whole__init__ : List D → R (D × D) := runM 2 m_Whole__init__
def m_fourth_by : SF := (seqS (expS (callF 2 F_need_numbers (aCons (eN lstD (aCons (eN tupD (aCons (eC (.str "a")) (aCons (eV 0) aNil))) (aCons (eN tupD (aCons (eC (.str "b")) (aCons (eV 1) aNil))) (aCons (eN tupD (aCons (eC (.str "c")) (aCons (eV 2) aNil))) aNil)))) (aCons (eC (.int (99))) aNil)))) (seqS (expS (callF 1 F_need_power (aCons (eV 3) aNil))) (seqS (asgS 4 (callF 4 F_fourth_quotient (aCons (eV 0) (aCons (eV 1) (aCons (eV 2) (aCons (eV 3) aNil)))))) (seqS (ifS (tB1 (e2 isD (eV 4) (eC .non))) (retS (makeF 76 2 F_NoWhole__init__ (aCons (eC .non) aNil))) passS) (seqS (asgS 5 (callF 1 F_whole_below (aCons (eV 4) aNil))) (retS (eIf (tB1 (e2 eqD (callF 2 F_side_of (aCons (eV 5) (aCons (eV 4) aNil))) (eC (.int (0))))) (makeF 113 2 F_Whole__init__ (aCons (eV 5) aNil)) (makeF 76 2 F_NoWhole__init__ (aCons (eV 5) aNil)))))))))
def F_fourth_by : List D → R D := runD 6 m_fourth_by
def m_shows_fourth_by : SF := (seqS (expS (callF 2 F_need_numbers (aCons (eN lstD (aCons (eN tupD (aCons (eC (.str "a")) (aCons (eV 0) aNil))) (aCons (eN tupD (aCons (eC (.str "b")) (aCons (eV 1) aNil))) (aCons (eN tupD (aCons (eC (.str "c")) (aCons (eV 2) aNil))) aNil)))) (aCons (eC (.int (99))) aNil)))) (seqS (expS (callF 1 F_need_power (aCons (eV 3) aNil))) (seqS (asgS 5 (callF 4 F_fourth_quotient (aCons (eV 0) (aCons (eV 1) (aCons (eV 2) (aCons (eV 3) aNil)))))) (seqS (ifS (tB1 (e2 clsIsD (eN typeD (aCons (eV 4) aNil)) (eC (.cod 113)))) (seqS (ifS (tOr1 (tB1 (e2 isD (eV 5) (eC .non))) (tNot1 (tB1 (callF 3 F_is_within (aCons (e1 (attrD [] "number") (eV 4)) (aCons (eC (.int (1))) (aCons (eC (.int (1000000))) aNil))))))) (retS (eC (.bl false))) passS) (retS (e2 eqD (callF 2 F_side_of (aCons (e1 (attrD [] "number") (eV 4)) (aCons (eV 5) aNil))) (eC (.int (0)))))) passS) (seqS (ifS (tB1 (e2 clsIsnD (eN typeD (aCons (eV 4) aNil)) (eC (.cod 76)))) (retS (eC (.bl false))) passS) (seqS (ifS (tOr1 (tB1 (e2 isD (eV 5) (eC .non))) (tNot1 (tB1 (callF 3 F_is_within (aCons (e1 (attrD [] "low") (eV 4)) (aCons (eC (.int (0))) (aCons (eC (.int (1000000))) aNil))))))) (retS (eAnd (e2 isD (eV 5) (eC .non)) (e2 isD (e1 (attrD [] "low") (eV 4)) (eC .non)))) passS) (retS (eCh (callF 2 F_side_of (aCons (e1 (attrD [] "low") (eV 4)) (aCons (eV 5) aNil))) (hLink ltP (eC (.int (0))) (hLast ltP (callF 2 F_side_of (aCons (e2 addP (e1 (attrD [] "low") (eV 4)) (eC (.int (1)))) (aCons (eV 5) aNil)))))))))))))
def F_shows_fourth_by : List D → R D := runD 6 m_shows_fourth_by
def kg_fourth_by_2 {α : Type} (us ws : List α) : List α := match us, ws with
  | [], [w0, w1, w2, w3] => [w2, w3, w1, w0]
  | _, _ => []
abbrev kd_fourth_by_2 (ds : List D) : List D := kg_fourth_by_2 [] ds
def m__law_threes_right : SF := (seqS (asgG (bSeq 2 (bCons (bName 1) (bCons (bName 2) bNil))) (callM 0 2 F__law_spoilt (aCons (e2 addP (lcE [8] (iVal (eN tupD (aCons (eC (.str "a")) (aCons (eC (.str "b")) (aCons (eC (.str "c")) aNil))))) (bName 8) tYes1 (eN tupD (aCons (eV 8) (aCons (eC (.int (1))) (aCons (eC (.int (99))) aNil))))) (eN lstD (aCons (eN tupD (aCons (eC (.str "power")) (aCons (e1 negD (eC (.int (80)))) (aCons (eC (.int (80))) aNil)))) aNil))) aNil))) (seqS (asgG (bSeq 4 (bCons (bName 4) (bCons (bName 5) (bCons (bName 6) (bCons (bName 7) bNil))))) (eV 1)) (seqS (ifS (tB1 (e2 neD (lookE (hdF g__law_heard (callF 4 F_fourth_by (aCons (eV 4) (aCons (eV 5) (aCons (eV 6) (aCons (eV 7) aNil))))))) (eV 2))) (retS (eC (.bl false))) passS) (seqS (ifS (tB1 (e2 neD (lookE (hdF g__law_heard (callF 5 F_shows_fourth_by (aCons (eV 4) (aCons (eV 5) (aCons (eV 6) (aCons (eV 7) (aCons (eC .non) aNil)))))))) (eV 2))) (retS (eC (.bl false))) passS) (seqS (ifS (tB1 (e2 isnD (eV 2) (eC .non))) (retS (eC (.bl true))) passS) (seqS (asgS 3 (callK 4 F_fourth_by kd_fourth_by_2 (aCons (eV 7) (aCons (eV 6) (aCons (eV 4) (aCons (eV 5) aNil)))))) (retS (eOr (eN (isiD subG) (aCons (eV 3) (aCons (eC (.cod 113)) aNil))) (eN (isiD subG) (aCons (eV 3) (aCons (eC (.cod 76)) aNil)))))))))))
def F__law_threes_right : List D → R (D × D) := runM 9 m__law_threes_right
def m_whole_fourth : SF := (seqS (asgS 4 (callF 4 F_fourth_quotient (aCons (eV 0) (aCons (eV 1) (aCons (eV 2) (aCons (eV 3) aNil)))))) (seqS (ifS (tB1 (e2 isD (eV 4) (eC .non))) (retS (eC .non)) passS) (seqS (asgS 5 (callF 1 F_whole_below (aCons (eV 4) aNil))) (retS (eIf (tB1 (e2 eqD (callF 2 F_side_of (aCons (eV 5) (aCons (eV 4) aNil))) (eC (.int (0))))) (eV 5) (eC .non))))))
def F_whole_fourth : List D → R D := runD 6 m_whole_fourth
def m_numbers_by : SF := (seqS (expS (callF 2 F_need_numbers (aCons (eN lstD (aCons (eN tupD (aCons (eC (.str "first")) (aCons (eV 0) aNil))) (aCons (eN tupD (aCons (eC (.str "second")) (aCons (eV 1) aNil))) aNil))) (aCons (eC (.int (99))) aNil)))) (seqS (expS (callF 4 F_need_within (aCons (eC (.str "many")) (aCons (eV 2) (aCons (eC (.int (2))) (aCons (eC (.int (12))) aNil)))))) (seqS (expS (callF 1 F_need_power (aCons (eV 3) aNil))) (seqS (asgS 4 (eN lstD (aCons (eV 0) (aCons (eV 1) aNil)))) (seqS (whS (lookT (tB1 (e2 ltP (eN lenP (aCons (eV 4) aNil)) (eV 2)))) (seqS (asgS 5 (callF 4 F_whole_fourth (aCons (ixO 4 (e1 negD (eC (.int (2))))) (aCons (ixO 4 (e1 negD (eC (.int (1))))) (aCons (ixO 4 (e1 negD (eC (.int (1))))) (aCons (eV 3) aNil)))))) (seqS (ifS (tB1 (e2 isD (eV 5) (eC .non))) brkS passS) (expS (mthM 4 appendD (aCons (eV 5) aNil))))) 1000) (retS (eN tupC (aCons (eV 4) aNil))))))))
def F_numbers_by : List D → R D := runD 6 m_numbers_by
def kg_numbers_by_3 {α : Type} (us ws : List α) : List α := match us, ws with
  | [], [w0, w1, w2, w3] => [w3, w2, w1, w0]
  | _, _ => []
abbrev kd_numbers_by_3 (ds : List D) : List D := kg_numbers_by_3 [] ds
def m__law_rows_right : SF := (seqS (asgG (bSeq 2 (bCons (bName 1) (bCons (bName 2) bNil))) (callM 0 2 F__law_spoilt (aCons (eN lstD (aCons (eN tupD (aCons (eC (.str "first")) (aCons (eC (.int (1))) (aCons (eC (.int (99))) aNil)))) (aCons (eN tupD (aCons (eC (.str "second")) (aCons (eC (.int (1))) (aCons (eC (.int (99))) aNil)))) (aCons (eN tupD (aCons (eC (.str "many")) (aCons (eC (.int (2))) (aCons (eC (.int (12))) aNil)))) (aCons (eN tupD (aCons (eC (.str "power")) (aCons (e1 negD (eC (.int (80)))) (aCons (eC (.int (80))) aNil)))) aNil))))) aNil))) (seqS (asgG (bSeq 4 (bCons (bName 4) (bCons (bName 7) (bCons (bName 5) (bCons (bName 6) bNil))))) (eV 1)) (seqS (ifS (tB1 (e2 neD (lookE (hdF g__law_heard (callF 4 F_numbers_by (aCons (eV 4) (aCons (eV 7) (aCons (eV 5) (aCons (eV 6) aNil))))))) (eV 2))) (retS (eC (.bl false))) passS) (seqS (ifS (tB1 (e2 isnD (eV 2) (eC .non))) (retS (eC (.bl true))) passS) (seqS (asgS 3 (callK 4 F_numbers_by kd_numbers_by_3 (aCons (eV 6) (aCons (eV 5) (aCons (eV 7) (aCons (eV 4) aNil)))))) (retS (eAnd (eN (isiD subG) (aCons (eV 3) (aCons (eC (.ty "tuple")) aNil))) (eAnd (eCh (eC (.int (2))) (hLink leP (eN lenP (aCons (eV 3) aNil)) (hLast leP (eV 5)))) (e2 eqD (eSl slP (eV 3) pNone (pSome (eC (.int (2))))) (eN tupD (aCons (eV 4) (aCons (eV 7) aNil))))))))))))
def F__law_rows_right : List D → R (D × D) := runM 8 m__law_rows_right
def m__law_growing : SF := (seqS (asgS 1 (e2 addP (eC (.int (1))) (callM 0 2 F__law_lot (aCons (eC (.int (96))) aNil)))) (seqS (asgS 2 (e2 addP (e2 addP (eV 1) (eC (.int (1)))) (callM 0 2 F__law_lot (aCons (e2 (intD subI) (eC (.int (98))) (eV 1)) aNil)))) (seqS (asgS 3 (e2 addP (eV 2) (callM 0 2 F__law_lot (aCons (e2 (intD subI) (eC (.int (99))) (eV 2)) aNil)))) (retS (eN lstD (aCons (eV 1) (aCons (eV 2) (aCons (eV 3) (aCons (e2 addP (e2 addP (eV 3) (eC (.int (1)))) (callM 0 2 F__law_lot (aCons (e2 (intD subI) (eC (.int (99))) (eV 3)) aNil))) aNil)))))))))
def F__law_growing : List D → R (D × D) := runMN 4 m__law_growing
def m__law_growing_due : SF := (seqS (asgS 1 (eC (.int (1)))) (seqS (forStm (iArg enumP (aCons (eN tupD (aCons (eC (.str "a")) (aCons (eC (.str "b")) (aCons (eC (.str "c")) (aCons (eC (.str "d")) aNil))))) aNil)) (bSeq 2 (bCons (bName 2) (bCons (bName 3) bNil))) (seqS (ifS (tNot1 (tB1 (callF 3 F__law_within (aCons (e2 ixD (eV 0) (eV 2)) (aCons (eV 1) (aCons (eC (.int (99))) aNil)))))) (retS (eN tupD (aCons (eC (.str "number")) (aCons (eV 3) aNil)))) passS) (asgS 1 (e2 addP (e2 ixD (eV 0) (eV 2)) (eN intC (aCons (e2 neD (eV 2) (eC (.int (1)))) aNil)))))) (retS (eC .non))))
def F__law_growing_due : List D → R D := runD 4 m__law_growing_due
def m_Between__init__ : SF := (seqS (expS (callM 0 3 (starD 2 F_Denial__init__) (aCons (eC (.str "between")) (aCons (eV 1) aNil)))) (fldS 0 [] "low" (e2 ixD (eFldO 0 [] "parts") (eC (.int (0))))))
def F_Between__init__ : List D → R (D × D) := runM 2 m_Between__init__
def m_need_growing : SF := (seqS (expS (callF 4 F_need_within (aCons (eC (.str "a")) (aCons (eV 0) (aCons (eC (.int (1))) (aCons (eC (.int (99))) aNil)))))) (seqS (expS (callF 4 F_need_within (aCons (eC (.str "b")) (aCons (eV 1) (aCons (e2 addP (eV 0) (eC (.int (1)))) (aCons (eC (.int (99))) aNil)))))) (seqS (expS (callF 4 F_need_within (aCons (eC (.str "c")) (aCons (eV 2) (aCons (eV 1) (aCons (eC (.int (99))) aNil)))))) (expS (callF 4 F_need_within (aCons (eC (.str "d")) (aCons (eV 3) (aCons (e2 addP (eV 2) (eC (.int (1)))) (aCons (eC (.int (99))) aNil)))))))))
def F_need_growing : List D → R D := runD 4 m_need_growing
def m_ByPower__init__ : SF := (seqS (expS (callM 0 3 (starD 2 F_Paper__init__) (aCons (eC (.str "bypower")) (aCons (eV 1) aNil)))) (fldS 0 [] "power" (e2 ixD (eFldO 0 [] "parts") (eC (.int (0))))))
def F_ByPower__init__ : List D → R (D × D) := runM 2 m_ByPower__init__
def m_power_of : SF := (seqS (expS (callF 4 F_need_growing (aCons (eV 0) (aCons (eV 1) (aCons (eV 2) (aCons (eV 3) aNil)))))) (seqS (ifS (tB1 (e2 eqD (e2 mulP (eV 0) (eV 3)) (e2 mulP (eV 1) (eV 2)))) (retS (makeF 24 2 F_ByPower__init__ (aCons (eC (.int (0))) aNil))) passS) (seqS (asgS 4 (eIf (tB1 (e2 ltP (e2 mulP (eV 0) (eV 3)) (e2 mulP (eV 1) (eV 2)))) (eC (.int (1))) (e1 negD (eC (.int (1)))))) (seqS (asgS 5 (eV 4)) (seqS (asgS 6 (callF 5 F_whole_sum (aCons (eV 0) (aCons (eV 1) (aCons (eV 2) (aCons (eV 3) (aCons (eV 5) aNil))))))) (seqS (whS (tB1 (e2 ltP (eV 6) (eC (.int (0))))) (seqS (asgS 5 (e2 addP (eV 5) (eV 4))) (asgS 6 (callF 5 F_whole_sum (aCons (eV 0) (aCons (eV 1) (aCons (eV 2) (aCons (eV 3) (aCons (eV 5) aNil)))))))) 1000) (seqS (ifS (tB1 (e2 eqD (eV 6) (eC (.int (0))))) (retS (makeF 24 2 F_ByPower__init__ (aCons (eV 5) aNil))) passS) (retS (makeF 21 2 F_Between__init__ (aCons (eIf (tB1 (e2 eqD (eV 4) (eC (.int (1))))) (e2 (intD subI) (eV 5) (eC (.int (1)))) (eV 5)) aNil))))))))))
def F_power_of : List D → R D := runD 7 m_power_of
def m_is_between : SF := (seqS (ifS (tOr1 (tB1 (e2 eqD (e2 mulP (eV 0) (eV 3)) (e2 mulP (eV 1) (eV 2)))) (tB1 (e2 neD (e2 ltP (e2 mulP (eV 0) (eV 3)) (e2 mulP (eV 1) (eV 2))) (e2 geP (eV 4) (eC (.int (0))))))) (retS (eC (.bl false))) passS) (seqS (asgG (bSeq 2 (bCons (bName 5) (bCons (bName 6) bNil))) (eIf (tB1 (e2 geP (eV 4) (eC (.int (0))))) (eN tupD (aCons (eV 4) (aCons (e2 addP (eV 4) (eC (.int (1)))) aNil))) (eN tupD (aCons (e2 addP (eV 4) (eC (.int (1)))) (aCons (eV 4) aNil))))) (retS (eAnd (eOr (e2 eqD (eV 5) (eC (.int (0)))) (e2 ltP (callF 5 F_whole_sum (aCons (eV 0) (aCons (eV 1) (aCons (eV 2) (aCons (eV 3) (aCons (eV 5) aNil)))))) (eC (.int (0))))) (e2 gtP (callF 5 F_whole_sum (aCons (eV 0) (aCons (eV 1) (aCons (eV 2) (aCons (eV 3) (aCons (eV 6) aNil)))))) (eC (.int (0))))))))
def F_is_between : List D → R D := runD 7 m_is_between
def m_shows_power : SF := (seqS (expS (callF 4 F_need_growing (aCons (eV 0) (aCons (eV 1) (aCons (eV 2) (aCons (eV 3) aNil)))))) (seqS (ifS (tB1 (e2 clsIsD (eN typeD (aCons (eV 4) aNil)) (eC (.cod 24)))) (retS (eAnd (callF 3 F_is_within (aCons (e1 (attrD [] "power") (eV 4)) (aCons (eC (.int (-80))) (aCons (eC (.int (80))) aNil)))) (callF 5 F_is_by_power (aCons (eV 0) (aCons (eV 1) (aCons (eV 2) (aCons (eV 3) (aCons (e1 (attrD [] "power") (eV 4)) aNil)))))))) passS) (seqS (ifS (tOr1 (tB1 (e2 clsIsnD (eN typeD (aCons (eV 4) aNil)) (eC (.cod 21)))) (tNot1 (tB1 (callF 3 F_is_within (aCons (e1 (attrD [] "low") (eV 4)) (aCons (eC (.int (-80))) (aCons (e2 (intD subI) (eC (.int (80))) (eC (.int (1)))) aNil))))))) (retS (eC (.bl false))) passS) (retS (callF 5 F_is_between (aCons (eV 0) (aCons (eV 1) (aCons (eV 2) (aCons (eV 3) (aCons (e1 (attrD [] "low") (eV 4)) aNil))))))))))
def F_shows_power : List D → R D := runD 5 m_shows_power
def kg_power_of_4 {α : Type} (us ws : List α) : List α := match us, ws with
  | [], [w0, w1, w2, w3] => [w3, w2, w1, w0]
  | _, _ => []
abbrev kd_power_of_4 (ds : List D) : List D := kg_power_of_4 [] ds
def m__law_powers_right : SF := (seqS (asgS 1 (callM 0 1 F__law_growing aNil)) (seqS (forStm (iArg rng1D (aCons (callM 0 2 F__law_lot (aCons (eC (.int (3))) aNil)) aNil)) (bName 2) (seqS (asgS 3 (callM 0 2 F__law_lot (aCons (eC (.int (4))) aNil))) (setS 1 (callM 0 2 F__law_one (aCons (eN lstD (aCons (callM 0 3 F__law_bad (aCons (eC (.int (1))) (aCons (eC (.int (99))) aNil))) (aCons (ixO 1 (e2 (intD subI) (eV 3) (eC (.int (1))))) (aCons (ixO 1 (e2 (intD modI) (eN intC (aCons (e2 addP (eV 3) (eC (.int (1)))) aNil)) (eC (.int (4))))) (aCons (eC (.int (1))) (aCons (eC (.int (99))) aNil)))))) aNil)) (eV 3)))) (seqS (asgG (bSeq 4 (bCons (bName 6) (bCons (bName 7) (bCons (bName 8) (bCons (bName 9) bNil))))) (eV 1)) (seqS (asgS 4 (callF 1 F__law_growing_due (aCons (eV 1) aNil))) (seqS (ifS (tB1 (e2 neD (lookE (hdF g__law_heard (callF 4 F_power_of (aCons (eV 6) (aCons (eV 7) (aCons (eV 8) (aCons (eV 9) aNil))))))) (eV 4))) (retS (eC (.bl false))) passS) (seqS (ifS (tB1 (e2 neD (lookE (hdF g__law_heard (callF 5 F_shows_power (aCons (eV 6) (aCons (eV 7) (aCons (eV 8) (aCons (eV 9) (aCons (eC (.str "none")) aNil)))))))) (eV 4))) (retS (eC (.bl false))) passS) (seqS (ifS (tB1 (e2 isnD (eV 4) (eC .non))) (retS (eC (.bl true))) passS) (seqS (asgS 5 (callK 4 F_power_of kd_power_of_4 (aCons (eV 9) (aCons (eV 8) (aCons (eV 7) (aCons (eV 6) aNil)))))) (retS (eOr (eN (isiD subG) (aCons (eV 5) (aCons (eC (.cod 24)) aNil))) (eN (isiD subG) (aCons (eV 5) (aCons (eC (.cod 21)) aNil)))))))))))))
def F__law_powers_right : List D → R (D × D) := runM 10 m__law_powers_right
def m_is_list : SF := (retS (e1 (isiTD subG [.ty "list", .ty "tuple"]) (eV 0)))
def F_is_list : List D → R D := runD 1 m_is_list
def m_need_growing_row : SF := (seqS (ifS (tOr1 (tNot1 (tB1 (callF 1 F_is_list (aCons (eV 0) aNil)))) (tNot1 (tCh (eC (.int (3))) (kLink leP (eN lenP (aCons (eV 0) aNil)) (kLast leP (eC (.int (12)))))))) (raiseS 9 1 ["part"] (aCons (eC (.str "numbers")) aNil)) passS) (seqS (asgS 1 (eC (.int (1)))) (forStm (iVal (eV 0)) (bName 2) (seqS (ifS (tNot1 (tB1 (callF 3 F_is_within (aCons (eV 2) (aCons (eV 1) (aCons (eC (.int (99))) aNil)))))) (raiseS 9 1 ["part"] (aCons (eC (.str "numbers")) aNil)) passS) (asgS 1 (e2 addP (eV 2) (eC (.int (1)))))))))
def F_need_growing_row : List D → R D := runD 3 m_need_growing_row
def m_Uneven__init__ : SF := (seqS (expS (callM 0 3 (starD 2 F_Denial__init__) (aCons (eC (.str "uneven")) (aCons (eV 1) aNil)))) (fldS 0 [] "step" (e2 ixD (eFldO 0 [] "parts") (eC (.int (0))))))
def F_Uneven__init__ : List D → R (D × D) := runM 2 m_Uneven__init__
def m_is_step_by : SF := (seqS (asgG (bSeq 3 (bCons (bName 3) (bCons (bName 4) (bCons (bName 5) bNil)))) (eSl slP (eV 0) (pSome (eV 1)) (pSome (e2 addP (eV 1) (eC (.int (3))))))) (retS (callF 5 F_is_by_power (aCons (eV 3) (aCons (eV 4) (aCons (eV 4) (aCons (eV 5) (aCons (eV 2) aNil))))))))
def F_is_step_by : List D → R D := runD 6 m_is_step_by
def m_power_of_row : SF := (seqS (expS (callF 1 F_need_growing_row (aCons (eV 0) aNil))) (seqS (asgS 1 (callF 4 F_power_of (aCons (e2 ixD (eV 0) (eC (.int (0)))) (aCons (e2 ixD (eV 0) (eC (.int (1)))) (aCons (e2 ixD (eV 0) (eC (.int (1)))) (aCons (e2 ixD (eV 0) (eC (.int (2)))) aNil)))))) (seqS (ifS (tB1 (e2 clsIsnD (eN typeD (aCons (eV 1) aNil)) (eC (.cod 24)))) (retS (makeF 108 2 F_Uneven__init__ (aCons (eC (.int (0))) aNil))) passS) (seqS (forStm (iArg rng1D (aCons (e2 (intD subI) (eN lenP (aCons (eV 0) aNil)) (eC (.int (2)))) aNil)) (bName 2) (ifS (tNot1 (tB1 (callF 3 F_is_step_by (aCons (eV 0) (aCons (eV 2) (aCons (e1 (attrD [] "power") (eV 1)) aNil)))))) (retS (makeF 108 2 F_Uneven__init__ (aCons (eV 2) aNil))) passS)) (retS (eV 1))))))
def F_power_of_row : List D → R D := runD 3 m_power_of_row
def m_is_just (F_is_just : List D → R D) : SF := (seqS (ifS (tB1 (eN (isiD subG) (aCons (eV 1) (aCons (eC (.ty "tuple")) aNil)))) (seqS (ifS (tOr1 (tNot1 (tB1 (eN (isiD subG) (aCons (eV 0) (aCons (eC (.ty "tuple")) aNil))))) (tB1 (e2 neD (eN lenP (aCons (eV 0) aNil)) (eN lenP (aCons (eV 1) aNil))))) (retS (eC (.bl false))) passS) (retS (eN allD (aCons (lcE [2, 3] (iArg zipP (aCons (eV 0) (aCons (eV 1) aNil))) (bSeq 2 (bCons (bName 2) (bCons (bName 3) bNil))) tYes1 (callF 2 F_is_just (aCons (eV 2) (aCons (eV 3) aNil)))) aNil)))) passS) (seqS (ifS (tB1 (eN (isiD subG) (aCons (eV 1) (aCons (eC (.ty "str")) aNil)))) (retS (eAnd (eN (isiD subG) (aCons (eV 0) (aCons (eC (.ty "str")) aNil))) (e2 eqD (eV 0) (eV 1)))) passS) (seqS (ifS (tB1 (callF 1 F_is_integer (aCons (eV 1) aNil))) (retS (eAnd (callF 1 F_is_integer (aCons (eV 0) aNil)) (e2 eqD (eV 0) (eV 1)))) passS) (retS (eAnd (e2 isD (eV 0) (eC .non)) (e2 isD (eV 1) (eC .non)))))))
def FF_is_just : Nat → List D → R D
  | 0 => fun _ => .no
  | n + 1 => runD 4 (m_is_just (FF_is_just n))
def F_is_just : List D → R D := FF_is_just 3
def m_shows_power_of_row : SF := (seqS (asgS 2 (callF 1 F_power_of_row (aCons (eV 0) aNil))) (retS (eAnd (e2 clsIsD (eN typeD (aCons (eV 1) aNil)) (eN typeD (aCons (eV 2) aNil))) (callF 2 F_is_just (aCons (e1 (attrD [] "parts") (eV 1)) (aCons (e1 (attrD [] "parts") (eV 2)) aNil))))))
def F_shows_power_of_row : List D → R D := runD 3 m_shows_power_of_row
def kg_power_of_row_5 {α : Type} (us ws : List α) : List α := match us, ws with
  | [], [w0] => [w0]
  | _, _ => []
abbrev kd_power_of_row_5 (ds : List D) : List D := kg_power_of_row_5 [] ds
def m__law_numbers_right : SF := (seqS (asgS 1 (eN sortSetD (aCons (lcE [8] (iArg rng1D (aCons (callM 0 2 F__law_one (aCons (eN lstD (aCons (eC (.int (3))) (aCons (eC (.int (4))) (aCons (eC (.int (5))) (aCons (eC (.int (12))) (aCons (eC (.int (2))) (aCons (eC (.int (16))) aNil))))))) aNil)) aNil)) (bName 8) tYes1 (e2 addP (eC (.int (1))) (callM 0 2 F__law_lot (aCons (eC (.int (99))) aNil)))) aNil))) (seqS (asgS 2 (callM 0 2 F__law_lot (aCons (eC (.int (6))) aNil))) (seqS (ifS (tB1 (e2 eqD (eV 2) (eC (.int (0))))) (setS 1 (callM 0 3 F__law_bad (aCons (eC (.int (1))) (aCons (eC (.int (99))) aNil))) (callM 0 2 F__law_lot (aCons (lookE (eN lenP (aCons (eV 1) aNil))) aNil))) passS) (seqS (ifS (tB1 (e2 eqD (eV 2) (eC (.int (1))))) (expS (mthM 1 insertD (aCons (callM 0 2 F__law_lot (aCons (e2 addP (lookE (eN lenP (aCons (eV 1) aNil))) (eC (.int (1)))) aNil)) (aCons (callM 0 2 F__law_one (aCons (eN lstD (aCons (ixO 1 (eC (.int (0)))) (aCons (ixO 1 (e1 negD (eC (.int (1))))) (aCons (eC (.int (0))) (aCons (eC (.int (100))) aNil))))) aNil)) aNil)))) passS) (seqS (asgS 7 (eIf (tB1 (e2 eqD (eV 2) (eC (.int (2))))) (eN tupC (aCons (eV 1) aNil)) (eV 1))) (seqS (ifS (tB1 (e2 eqD (eV 2) (eC (.int (3))))) (asgS 7 (callM 0 2 F__law_one (aCons (eN lstD (aCons (eC .non) (aCons (eC (.int (5))) (aCons (eC (.str "1 2 3")) (aCons eDct0 (aCons (eN lstD aNil) (aCons (eN tupD (aCons (eC (.int (1))) (aCons (eC (.int (2))) aNil))) (aCons (eSl slP (eV 1) pNone (pSome (eC (.int (2))))) (aCons (eN lstD (aCons (eV 1) aNil)) (aCons (e2 addP (e1 revD (eV 1)) (eN lstD (aCons (eC (.int (0))) aNil))) aNil)))))))))) aNil))) passS) (seqS (asgS 3 (eAnd (e1 (isiTD subG [.ty "list", .ty "tuple"]) (eV 7)) (eCh (eC (.int (3))) (hLink leP (eN lenP (aCons (eV 7) aNil)) (hLast leP (eC (.int (12)))))))) (seqS (asgS 3 (eAnd (eV 3) (e2 eqX (lcE [9] (iVal (eV 7)) (bName 9) (tNot1 (tB1 (callF 3 F__law_within (aCons (eV 9) (aCons (eC (.int (1))) (aCons (eC (.int (99))) aNil)))))) (eV 9)) (eN lstD aNil)))) (seqS (asgS 3 (eAnd (eV 3) (e2 eqX (lcE [10] (iArg rng2D (aCons (eC (.int (1))) (aCons (eN lenP (aCons (eV 7) aNil)) aNil))) (bName 10) (tB1 (e2 geP (e2 ixD (eV 7) (e2 (intD subI) (eV 10) (eC (.int (1))))) (e2 ixD (eV 7) (eV 10)))) (eV 10)) (eN lstD aNil)))) (seqS (par2S 4 5 (aCons (eIf (tTru (eV 3)) (eC .non) (eN tupD (aCons (eC (.str "number")) (aCons (eC (.str "numbers")) aNil)))) (aCons (eN reprR (aCons (eV 7) aNil)) aNil))) (seqS (ifS (tB1 (e2 neD (lookE (hdF g__law_heard (callK 1 F_power_of_row kd_power_of_row_5 (aCons (eV 7) aNil)))) (eV 4))) (retS (eC (.bl false))) passS) (seqS (ifS (tB1 (e2 neD (lookE (hdF g__law_heard (callF 2 F_shows_power_of_row (aCons (eV 7) (aCons (eC (.int (5))) aNil))))) (eV 4))) (retS (eC (.bl false))) passS) (seqS (ifS (tB1 (e2 isnD (eV 4) (eC .non))) (retS (e2 eqD (eN reprR (aCons (eV 7) aNil)) (eV 5))) passS) (seqS (asgS 6 (callF 1 F_power_of_row (aCons (eV 7) aNil))) (retS (eAnd (eOr (eN (isiD subG) (aCons (eV 6) (aCons (eC (.cod 24)) aNil))) (eN (isiD subG) (aCons (eV 6) (aCons (eC (.cod 108)) aNil)))) (e2 eqD (eN reprR (aCons (eV 7) aNil)) (eV 5))))))))))))))))))
def F__law_numbers_right : List D → R (D × D) := runM 11 m__law_numbers_right
def m_law : SF := (seqS (asgS 1 (callF 1 F__law_hat (aCons (eV 0) aNil))) (seqS (forStm (iArg rng1D (aCons (eC (.int (3))) aNil)) (bName 2) (seqS (ifS (tOr1 (tNot1 (tB1 (callM 1 1 F__law_fours_right aNil))) (tOr1 (tNot1 (tB1 (callM 1 1 F__law_threes_right aNil))) (tNot1 (tB1 (callM 1 1 F__law_rows_right aNil))))) (retS (eC (.bl false))) passS) (ifS (tOr1 (tNot1 (tB1 (callM 1 1 F__law_powers_right aNil))) (tNot1 (tB1 (callM 1 1 F__law_numbers_right aNil)))) (retS (eC (.bl false))) passS))) (retS (eC (.bl true)))))
def F_law : List D → R D := runD 3 m_law
end Q

namespace Q
open PySem PySem.Spec PyProof.Rows L2 Dl
def top (i : Nat) : Stmt := PySem.Challenge.pw_fourthlike_k08_numbers_refused_in_order.main.body.getD i (.Pass ⟨0, 0, 0, 0⟩)
abbrev s__law_hat : Stmt := top 53
abbrev n__law_hat : List Str := ["_law_script", "_law_cell"]
theorem sc__law_hat : FnScope ["_law_script", "_law_cell"] ["_law_script"] (defScope s__law_hat) := ⟨rfl, rfl, rfl, by decide +kernel, rfl, by decide +kernel, by decide +kernel⟩
abbrev s__law_lot : Stmt := top 54
abbrev n__law_lot : List Str := ["_law_hat_here", "_law_many", "_law_digit", "_law_at", "_law_cell", "_law_great", "_law_mixed"]
theorem sc__law_lot : FnScope ["_law_hat_here", "_law_many", "_law_digit", "_law_at", "_law_cell", "_law_great", "_law_mixed"] ["_law_hat_here", "_law_many"] (defScope s__law_lot) := ⟨rfl, rfl, rfl, by decide +kernel, rfl, by decide +kernel, by decide +kernel⟩
abbrev s__law_one : Stmt := top 55
abbrev n__law_one : List Str := ["_law_hat_here", "_law_some"]
theorem sc__law_one : FnScope ["_law_hat_here", "_law_some"] ["_law_hat_here", "_law_some"] (defScope s__law_one) := ⟨rfl, rfl, rfl, by decide +kernel, rfl, by decide +kernel, by decide +kernel⟩
abbrev s__law_bad : Stmt := top 59
abbrev n__law_bad : List Str := ["_law_hat_here", "_law_least", "_law_most"]
theorem sc__law_bad : FnScope ["_law_hat_here", "_law_least", "_law_most"] ["_law_hat_here", "_law_least", "_law_most"] (defScope s__law_bad) := ⟨rfl, rfl, rfl, by decide +kernel, rfl, by decide +kernel, by decide +kernel⟩
abbrev s__law_good : Stmt := top 58
abbrev n__law_good : List Str := ["_law_hat_here", "_law_least", "_law_most"]
theorem sc__law_good : FnScope ["_law_hat_here", "_law_least", "_law_most"] ["_law_hat_here", "_law_least", "_law_most"] (defScope s__law_good) := ⟨rfl, rfl, rfl, by decide +kernel, rfl, by decide +kernel, by decide +kernel⟩
abbrev s__law_within : Stmt := top 57
abbrev n__law_within : List Str := ["_law_value", "_law_least", "_law_most"]
theorem sc__law_within : FnScope ["_law_value", "_law_least", "_law_most"] ["_law_value", "_law_least", "_law_most"] (defScope s__law_within) := ⟨rfl, rfl, rfl, by decide +kernel, rfl, by decide +kernel, by decide +kernel⟩
abbrev s__law_spoilt : Stmt := top 60
abbrev n__law_spoilt : List Str := ["_law_hat_here", "_law_bounds", "_law_values", "_law_due", "_law_turn", "_law_at", "_law_value", "_law_bound", "_law_name", "_law_least", "_law_most"]
theorem sc__law_spoilt : FnScope ["_law_hat_here", "_law_bounds", "_law_values", "_law_due", "_law_turn", "_law_at", "_law_value", "_law_bound", "_law_name", "_law_least", "_law_most"] ["_law_hat_here", "_law_bounds"] (defScope s__law_spoilt) := ⟨rfl, rfl, rfl, by decide +kernel, rfl, by decide +kernel, by decide +kernel⟩
abbrev s__law_heard : Stmt := top 56
abbrev n__law_heard : List Str := ["_law_ask", "_law_heard_here", "error"]
theorem sc__law_heard : FnScope ["_law_ask", "_law_heard_here", "error"] ["_law_ask"] (defScope s__law_heard) := ⟨rfl, rfl, rfl, by decide +kernel, rfl, by decide +kernel, by decide +kernel⟩
abbrev s_is_integer : Stmt := top 1
abbrev n_is_integer : List Str := ["value"]
theorem sc_is_integer : FnScope ["value"] ["value"] (defScope s_is_integer) := ⟨rfl, rfl, rfl, by decide +kernel, rfl, by decide +kernel, by decide +kernel⟩
abbrev s_is_within : Stmt := top 2
abbrev n_is_within : List Str := ["value", "least", "most"]
theorem sc_is_within : FnScope ["value", "least", "most"] ["value", "least", "most"] (defScope s_is_within) := ⟨rfl, rfl, rfl, by decide +kernel, rfl, by decide +kernel, by decide +kernel⟩
abbrev s_need_within : Stmt := top 13
abbrev n_need_within : List Str := ["part", "value", "least", "most"]
theorem sc_need_within : FnScope ["part", "value", "least", "most"] ["part", "value", "least", "most"] (defScope s_need_within) := ⟨rfl, rfl, rfl, by decide +kernel, rfl, by decide +kernel, by decide +kernel⟩
abbrev s_need_numbers : Stmt := top 14
abbrev n_need_numbers : List Str := ["named", "most", "part", "value"]
theorem sc_need_numbers : FnScope ["named", "most", "part", "value"] ["named", "most"] (defScope s_need_numbers) := ⟨rfl, rfl, rfl, by decide +kernel, rfl, by decide +kernel, by decide +kernel⟩
abbrev s_need_power : Stmt := top 15
abbrev n_need_power : List Str := ["power"]
theorem sc_need_power : FnScope ["power"] ["power"] (defScope s_need_power) := ⟨rfl, rfl, rfl, by decide +kernel, rfl, by decide +kernel, by decide +kernel⟩
abbrev s_raised : Stmt := top 22
abbrev n_raised : List Str := ["number", "times", "found"]
theorem sc_raised : FnScope ["number", "times", "found"] ["number", "times"] (defScope s_raised) := ⟨rfl, rfl, rfl, by decide +kernel, rfl, by decide +kernel, by decide +kernel⟩
abbrev s_whole_sum : Stmt := top 23
abbrev n_whole_sum : List Str := ["a", "b", "c", "d", "power"]
theorem sc_whole_sum : FnScope ["a", "b", "c", "d", "power"] ["a", "b", "c", "d", "power"] (defScope s_whole_sum) := ⟨rfl, rfl, rfl, by decide +kernel, rfl, by decide +kernel, by decide +kernel⟩
abbrev s_sign_at : Stmt := top 32
abbrev n_sign_at : List Str := ["a", "b", "c", "d", "power", "found"]
theorem sc_sign_at : FnScope ["a", "b", "c", "d", "power", "found"] ["a", "b", "c", "d", "power"] (defScope s_sign_at) := ⟨rfl, rfl, rfl, by decide +kernel, rfl, by decide +kernel, by decide +kernel⟩
abbrev s_is_by_power : Stmt := top 24
abbrev n_is_by_power : List Str := ["a", "b", "c", "d", "power"]
theorem sc_is_by_power : FnScope ["a", "b", "c", "d", "power"] ["a", "b", "c", "d", "power"] (defScope s_is_by_power) := ⟨rfl, rfl, rfl, by decide +kernel, rfl, by decide +kernel, by decide +kernel⟩
abbrev s_is_by : Stmt := top 33
abbrev n_is_by : List Str := ["a", "b", "c", "d", "power"]
theorem sc_is_by : FnScope ["a", "b", "c", "d", "power"] ["a", "b", "c", "d", "power"] (defScope s_is_by) := ⟨rfl, rfl, rfl, by decide +kernel, rfl, by decide +kernel, by decide +kernel⟩
abbrev s__law_fours_right : Stmt := top 61
abbrev n__law_fours_right : List Str := ["_law_hat_here", "_law_bounds", "_law_values", "_law_due", "_law_sign", "_law_told", "_law_a", "_law_b", "_law_c", "_law_d", "_law_power", "_law_name"]
theorem sc__law_fours_right : FnScope ["_law_hat_here", "_law_bounds", "_law_values", "_law_due", "_law_sign", "_law_told", "_law_a", "_law_b", "_law_c", "_law_d", "_law_power", "_law_name"] ["_law_hat_here"] (defScope s__law_fours_right) := ⟨rfl, rfl, rfl, by decide +kernel, rfl, by decide +kernel, by decide +kernel⟩
abbrev s_fourth_quotient : Stmt := top 25
abbrev n_fourth_quotient : List Str := ["a", "b", "c", "power", "times", "top", "bottom"]
theorem sc_fourth_quotient : FnScope ["a", "b", "c", "power", "times", "top", "bottom"] ["a", "b", "c", "power"] (defScope s_fourth_quotient) := ⟨rfl, rfl, rfl, by decide +kernel, rfl, by decide +kernel, by decide +kernel⟩
abbrev s_fixed : Stmt := top 18
abbrev n_fixed : List Str := ["value", "one"]
theorem sc_fixed : FnScope ["value", "one"] ["value"] (defScope s_fixed) := ⟨rfl, rfl, rfl, by decide +kernel, rfl, by decide +kernel, by decide +kernel⟩
abbrev s_Denial__init__ : Stmt := inClass (top 20) 0
abbrev n_Denial__init__ : List Str := ["self", "word", "parts"]
theorem sc_Denial__init__ : FnScope ["self", "word", "parts"] ["self", "word", "parts"] (defScope s_Denial__init__) := ⟨rfl, rfl, rfl, by decide +kernel, rfl, by decide +kernel, by decide +kernel⟩
abbrev s_NoWhole__init__ : Stmt := inClass (top 31) 0
abbrev n_NoWhole__init__ : List Str := ["self", "low"]
theorem sc_NoWhole__init__ : FnScope ["self", "low"] ["self", "low"] (defScope s_NoWhole__init__) := ⟨rfl, rfl, rfl, by decide +kernel, rfl, by decide +kernel, by decide +kernel⟩
abbrev s_side_of : Stmt := top 26
abbrev n_side_of : List Str := ["number", "quotient", "times", "top", "bottom"]
theorem sc_side_of : FnScope ["number", "quotient", "times", "top", "bottom"] ["number", "quotient"] (defScope s_side_of) := ⟨rfl, rfl, rfl, by decide +kernel, rfl, by decide +kernel, by decide +kernel⟩
abbrev s_whole_below : Stmt := top 27
abbrev n_whole_below : List Str := ["quotient", "high", "low", "middle"]
theorem sc_whole_below : FnScope ["quotient", "high", "low", "middle"] ["quotient"] (defScope s_whole_below) := ⟨rfl, rfl, rfl, by decide +kernel, rfl, by decide +kernel, by decide +kernel⟩
abbrev s_Paper__init__ : Stmt := inClass (top 19) 0
abbrev n_Paper__init__ : List Str := ["self", "word", "parts"]
theorem sc_Paper__init__ : FnScope ["self", "word", "parts"] ["self", "word", "parts"] (defScope s_Paper__init__) := ⟨rfl, rfl, rfl, by decide +kernel, rfl, by decide +kernel, by decide +kernel⟩
abbrev s_Whole__init__ : Stmt := inClass (top 30) 0
abbrev n_Whole__init__ : List Str := ["self", "number"]
theorem sc_Whole__init__ : FnScope ["self", "number"] ["self", "number"] (defScope s_Whole__init__) := ⟨rfl, rfl, rfl, by decide +kernel, rfl, by decide +kernel, by decide +kernel⟩
abbrev s_fourth_by : Stmt := top 34
abbrev n_fourth_by : List Str := ["a", "b", "c", "power", "quotient", "low"]
theorem sc_fourth_by : FnScope ["a", "b", "c", "power", "quotient", "low"] ["a", "b", "c", "power"] (defScope s_fourth_by) := ⟨rfl, rfl, rfl, by decide +kernel, rfl, by decide +kernel, by decide +kernel⟩
abbrev s_shows_fourth_by : Stmt := top 48
abbrev n_shows_fourth_by : List Str := ["a", "b", "c", "power", "value", "quotient"]
theorem sc_shows_fourth_by : FnScope ["a", "b", "c", "power", "value", "quotient"] ["a", "b", "c", "power", "value"] (defScope s_shows_fourth_by) := ⟨rfl, rfl, rfl, by decide +kernel, rfl, by decide +kernel, by decide +kernel⟩
abbrev s__law_threes_right : Stmt := top 62
abbrev n__law_threes_right : List Str := ["_law_hat_here", "_law_values", "_law_due", "_law_found", "_law_a", "_law_b", "_law_c", "_law_power", "_law_name"]
theorem sc__law_threes_right : FnScope ["_law_hat_here", "_law_values", "_law_due", "_law_found", "_law_a", "_law_b", "_law_c", "_law_power", "_law_name"] ["_law_hat_here"] (defScope s__law_threes_right) := ⟨rfl, rfl, rfl, by decide +kernel, rfl, by decide +kernel, by decide +kernel⟩
abbrev s_whole_fourth : Stmt := top 28
abbrev n_whole_fourth : List Str := ["a", "b", "c", "power", "quotient", "low"]
theorem sc_whole_fourth : FnScope ["a", "b", "c", "power", "quotient", "low"] ["a", "b", "c", "power"] (defScope s_whole_fourth) := ⟨rfl, rfl, rfl, by decide +kernel, rfl, by decide +kernel, by decide +kernel⟩
abbrev s_numbers_by : Stmt := top 43
abbrev n_numbers_by : List Str := ["first", "second", "many", "power", "found", "number"]
theorem sc_numbers_by : FnScope ["first", "second", "many", "power", "found", "number"] ["first", "second", "many", "power"] (defScope s_numbers_by) := ⟨rfl, rfl, rfl, by decide +kernel, rfl, by decide +kernel, by decide +kernel⟩
abbrev s__law_rows_right : Stmt := top 63
abbrev n__law_rows_right : List Str := ["_law_hat_here", "_law_values", "_law_due", "_law_row", "_law_first", "_law_many", "_law_power", "_law_second"]
theorem sc__law_rows_right : FnScope ["_law_hat_here", "_law_values", "_law_due", "_law_row", "_law_first", "_law_many", "_law_power", "_law_second"] ["_law_hat_here"] (defScope s__law_rows_right) := ⟨rfl, rfl, rfl, by decide +kernel, rfl, by decide +kernel, by decide +kernel⟩
abbrev s__law_growing : Stmt := top 64
abbrev n__law_growing : List Str := ["_law_hat_here", "_law_a", "_law_b", "_law_c"]
theorem sc__law_growing : FnScope ["_law_hat_here", "_law_a", "_law_b", "_law_c"] ["_law_hat_here"] (defScope s__law_growing) := ⟨rfl, rfl, rfl, by decide +kernel, rfl, by decide +kernel, by decide +kernel⟩
abbrev s__law_growing_due : Stmt := top 65
abbrev n__law_growing_due : List Str := ["_law_values", "_law_least", "_law_at", "_law_name"]
theorem sc__law_growing_due : FnScope ["_law_values", "_law_least", "_law_at", "_law_name"] ["_law_values"] (defScope s__law_growing_due) := ⟨rfl, rfl, rfl, by decide +kernel, rfl, by decide +kernel, by decide +kernel⟩
abbrev s_Between__init__ : Stmt := inClass (top 37) 0
abbrev n_Between__init__ : List Str := ["self", "low"]
theorem sc_Between__init__ : FnScope ["self", "low"] ["self", "low"] (defScope s_Between__init__) := ⟨rfl, rfl, rfl, by decide +kernel, rfl, by decide +kernel, by decide +kernel⟩
abbrev s_need_growing : Stmt := top 16
abbrev n_need_growing : List Str := ["a", "b", "c", "d"]
theorem sc_need_growing : FnScope ["a", "b", "c", "d"] ["a", "b", "c", "d"] (defScope s_need_growing) := ⟨rfl, rfl, rfl, by decide +kernel, rfl, by decide +kernel, by decide +kernel⟩
abbrev s_ByPower__init__ : Stmt := inClass (top 36) 0
abbrev n_ByPower__init__ : List Str := ["self", "power"]
theorem sc_ByPower__init__ : FnScope ["self", "power"] ["self", "power"] (defScope s_ByPower__init__) := ⟨rfl, rfl, rfl, by decide +kernel, rfl, by decide +kernel, by decide +kernel⟩
abbrev s_power_of : Stmt := top 38
abbrev n_power_of : List Str := ["a", "b", "c", "d", "way", "power", "found"]
theorem sc_power_of : FnScope ["a", "b", "c", "d", "way", "power", "found"] ["a", "b", "c", "d"] (defScope s_power_of) := ⟨rfl, rfl, rfl, by decide +kernel, rfl, by decide +kernel, by decide +kernel⟩
abbrev s_is_between : Stmt := top 49
abbrev n_is_between : List Str := ["a", "b", "c", "d", "low", "near", "far"]
theorem sc_is_between : FnScope ["a", "b", "c", "d", "low", "near", "far"] ["a", "b", "c", "d", "low"] (defScope s_is_between) := ⟨rfl, rfl, rfl, by decide +kernel, rfl, by decide +kernel, by decide +kernel⟩
abbrev s_shows_power : Stmt := top 50
abbrev n_shows_power : List Str := ["a", "b", "c", "d", "value"]
theorem sc_shows_power : FnScope ["a", "b", "c", "d", "value"] ["a", "b", "c", "d", "value"] (defScope s_shows_power) := ⟨rfl, rfl, rfl, by decide +kernel, rfl, by decide +kernel, by decide +kernel⟩
abbrev s__law_powers_right : Stmt := top 66
abbrev n__law_powers_right : List Str := ["_law_hat_here", "_law_values", "_law_turn", "_law_at", "_law_due", "_law_found", "_law_a", "_law_b", "_law_c", "_law_d"]
theorem sc__law_powers_right : FnScope ["_law_hat_here", "_law_values", "_law_turn", "_law_at", "_law_due", "_law_found", "_law_a", "_law_b", "_law_c", "_law_d"] ["_law_hat_here"] (defScope s__law_powers_right) := ⟨rfl, rfl, rfl, by decide +kernel, rfl, by decide +kernel, by decide +kernel⟩
abbrev s_is_list : Stmt := top 3
abbrev n_is_list : List Str := ["value"]
theorem sc_is_list : FnScope ["value"] ["value"] (defScope s_is_list) := ⟨rfl, rfl, rfl, by decide +kernel, rfl, by decide +kernel, by decide +kernel⟩
abbrev s_need_growing_row : Stmt := top 44
abbrev n_need_growing_row : List Str := ["numbers", "least", "number"]
theorem sc_need_growing_row : FnScope ["numbers", "least", "number"] ["numbers"] (defScope s_need_growing_row) := ⟨rfl, rfl, rfl, by decide +kernel, rfl, by decide +kernel, by decide +kernel⟩
abbrev s_Uneven__init__ : Stmt := inClass (top 42) 0
abbrev n_Uneven__init__ : List Str := ["self", "step"]
theorem sc_Uneven__init__ : FnScope ["self", "step"] ["self", "step"] (defScope s_Uneven__init__) := ⟨rfl, rfl, rfl, by decide +kernel, rfl, by decide +kernel, by decide +kernel⟩
abbrev s_is_step_by : Stmt := top 45
abbrev n_is_step_by : List Str := ["numbers", "step", "power", "x", "y", "z"]
theorem sc_is_step_by : FnScope ["numbers", "step", "power", "x", "y", "z"] ["numbers", "step", "power"] (defScope s_is_step_by) := ⟨rfl, rfl, rfl, by decide +kernel, rfl, by decide +kernel, by decide +kernel⟩
abbrev s_power_of_row : Stmt := top 46
abbrev n_power_of_row : List Str := ["numbers", "found", "step"]
theorem sc_power_of_row : FnScope ["numbers", "found", "step"] ["numbers"] (defScope s_power_of_row) := ⟨rfl, rfl, rfl, by decide +kernel, rfl, by decide +kernel, by decide +kernel⟩
abbrev s_is_just : Stmt := top 4
abbrev n_is_just : List Str := ["value", "wanted", "one", "other"]
theorem sc_is_just : FnScope ["value", "wanted", "one", "other"] ["value", "wanted"] (defScope s_is_just) := ⟨rfl, rfl, rfl, by decide +kernel, rfl, by decide +kernel, by decide +kernel⟩
abbrev s_shows_power_of_row : Stmt := top 51
abbrev n_shows_power_of_row : List Str := ["numbers", "value", "found"]
theorem sc_shows_power_of_row : FnScope ["numbers", "value", "found"] ["numbers", "value"] (defScope s_shows_power_of_row) := ⟨rfl, rfl, rfl, by decide +kernel, rfl, by decide +kernel, by decide +kernel⟩
abbrev s__law_numbers_right : Stmt := top 67
abbrev n__law_numbers_right : List Str := ["_law_hat_here", "_law_numbers", "_law_way", "_law_is_row", "_law_due", "_law_held", "_law_found", "_law_given", "_law_turn", "_law_value", "_law_at"]
theorem sc__law_numbers_right : FnScope ["_law_hat_here", "_law_numbers", "_law_way", "_law_is_row", "_law_due", "_law_held", "_law_found", "_law_given", "_law_turn", "_law_value", "_law_at"] ["_law_hat_here"] (defScope s__law_numbers_right) := ⟨rfl, rfl, rfl, by decide +kernel, rfl, by decide +kernel, by decide +kernel⟩
abbrev s_law : Stmt := top 68
abbrev n_law : List Str := ["_law_script", "_law_hat_here", "_law_lap"]
theorem sc_law : FnScope ["_law_script", "_law_hat_here", "_law_lap"] ["_law_script"] (defScope s_law) := ⟨rfl, rfl, rfl, by decide +kernel, rfl, by decide +kernel, by decide +kernel⟩
abbrev s_BadNumber__init__ : Stmt := inClass (top 7) 0
abbrev n_BadNumber__init__ : List Str := ["self", "part"]
theorem sc_BadNumber__init__ : FnScope ["self", "part"] ["self", "part"] (defScope s_BadNumber__init__) := ⟨rfl, rfl, rfl, by decide +kernel, rfl, by decide +kernel, by decide +kernel⟩
structure ClsT (K : PySem.W.Frag) (mg : Str → Option Value) (nm : Str) where
  a : Addr
  g : mg nm = some (.ref a)
  cl : Cls K a
  kp : PySem.W.keepIn K (.ref a) = true
  ha : PySem.W.findIn K (.ref a) "__class__" = some (some (.builtin "object.__class__"))
  hn : PySem.W.specialIn K (.builtin "object.__class__") "__get__" = some (some (.builtin "getset_descriptor.__get__"))
  ht : PySem.W.takesIn K (.builtin "object.__class__") = some true
  hm : PySem.W.mroIn K a (.type "object") = some true
  ml : PySem.W.makesIn K a = true
structure MetT (K : PySem.W.Frag) (nm qual : Str) (st : Stmt) (ps : List Str) where
  a : Addr
  fd : FuncData
  F : Fun K nm qual st a fd
  fn : PySem.W.isFn K (.ref a) = true
  b : Binds K fd ps []
structure MetS (K : PySem.W.Frag) (nm qual : Str) (st : Stmt) where
  a : Addr
  fd : FuncData
  F : Fun K nm qual st a fd
  fn : PySem.W.isFn K (.ref a) = true
structure FnT (K : PySem.W.Frag) (mg : Str → Option Value) (nm : Str) (st : Stmt) (ps : List Str) where
  a : Addr
  fd : FuncData
  F : Fun K nm nm st a fd
  g : mg nm = some (.ref a)
  b : Binds K fd ps []
structure Txt (K : PySem.W.Frag) (mg : Str → Option Value) where
  f_Denial__init__ : MetS K "__init__" "Denial.__init__" s_Denial__init__
  f_NoWhole__init__ : MetT K "__init__" "NoWhole.__init__" s_NoWhole__init__ ["self", "low"]
  f_Paper__init__ : MetS K "__init__" "Paper.__init__" s_Paper__init__
  f_Whole__init__ : MetT K "__init__" "Whole.__init__" s_Whole__init__ ["self", "number"]
  f_Between__init__ : MetT K "__init__" "Between.__init__" s_Between__init__ ["self", "low"]
  f_ByPower__init__ : MetT K "__init__" "ByPower.__init__" s_ByPower__init__ ["self", "power"]
  f_Uneven__init__ : MetT K "__init__" "Uneven.__init__" s_Uneven__init__ ["self", "step"]
  f_BadNumber__init__ : MetT K "__init__" "BadNumber.__init__" s_BadNumber__init__ ["self", "part"]
  k_Denial : ClsT K mg "Denial"
  k_Paper : ClsT K mg "Paper"
  k_NoWhole : ClsT K mg "NoWhole"
  k_Whole : ClsT K mg "Whole"
  k_Between : ClsT K mg "Between"
  k_ByPower : ClsT K mg "ByPower"
  k_Uneven : ClsT K mg "Uneven"
  na_Denial_low : NoAttr K k_Denial.a "low"
  na_Denial_number : NoAttr K k_Denial.a "number"
  na_Denial_parts : NoAttr K k_Denial.a "parts"
  na_Denial_power : NoAttr K k_Denial.a "power"
  na_Denial_step : NoAttr K k_Denial.a "step"
  na_Denial_word : NoAttr K k_Denial.a "word"
  mk_Denial : Mk K k_Denial.a f_Denial__init__.a
  mc_Denial : Value
  cr_Denial : ClX.CRead K k_Denial.a mc_Denial
  cv_Denial__init__ : ClX.CVal K k_Denial.a mc_Denial "__init__" (.ref f_Denial__init__.a) (.ref f_Denial__init__.a)
  is_Denial_Denial : PySem.W.kitOne K (.ref k_Denial.a) (.ref k_Denial.a) = some true
  is_Denial_Paper : PySem.W.kitOne K (.ref k_Denial.a) (.ref k_Paper.a) = some true
  is_Denial_NoWhole : PySem.W.kitOne K (.ref k_Denial.a) (.ref k_NoWhole.a) = some false
  is_Denial_Whole : PySem.W.kitOne K (.ref k_Denial.a) (.ref k_Whole.a) = some false
  is_Denial_Between : PySem.W.kitOne K (.ref k_Denial.a) (.ref k_Between.a) = some false
  is_Denial_ByPower : PySem.W.kitOne K (.ref k_Denial.a) (.ref k_ByPower.a) = some false
  is_Denial_Uneven : PySem.W.kitOne K (.ref k_Denial.a) (.ref k_Uneven.a) = some false
  na_Paper_low : NoAttr K k_Paper.a "low"
  na_Paper_number : NoAttr K k_Paper.a "number"
  na_Paper_parts : NoAttr K k_Paper.a "parts"
  na_Paper_power : NoAttr K k_Paper.a "power"
  na_Paper_step : NoAttr K k_Paper.a "step"
  na_Paper_word : NoAttr K k_Paper.a "word"
  mk_Paper : Mk K k_Paper.a f_Paper__init__.a
  mc_Paper : Value
  cr_Paper : ClX.CRead K k_Paper.a mc_Paper
  cv_Paper__init__ : ClX.CVal K k_Paper.a mc_Paper "__init__" (.ref f_Paper__init__.a) (.ref f_Paper__init__.a)
  is_Paper_Denial : PySem.W.kitOne K (.ref k_Paper.a) (.ref k_Denial.a) = some false
  is_Paper_Paper : PySem.W.kitOne K (.ref k_Paper.a) (.ref k_Paper.a) = some true
  is_Paper_NoWhole : PySem.W.kitOne K (.ref k_Paper.a) (.ref k_NoWhole.a) = some false
  is_Paper_Whole : PySem.W.kitOne K (.ref k_Paper.a) (.ref k_Whole.a) = some false
  is_Paper_Between : PySem.W.kitOne K (.ref k_Paper.a) (.ref k_Between.a) = some false
  is_Paper_ByPower : PySem.W.kitOne K (.ref k_Paper.a) (.ref k_ByPower.a) = some false
  is_Paper_Uneven : PySem.W.kitOne K (.ref k_Paper.a) (.ref k_Uneven.a) = some false
  na_NoWhole_low : NoAttr K k_NoWhole.a "low"
  na_NoWhole_number : NoAttr K k_NoWhole.a "number"
  na_NoWhole_parts : NoAttr K k_NoWhole.a "parts"
  na_NoWhole_power : NoAttr K k_NoWhole.a "power"
  na_NoWhole_step : NoAttr K k_NoWhole.a "step"
  na_NoWhole_word : NoAttr K k_NoWhole.a "word"
  mk_NoWhole : Mk K k_NoWhole.a f_NoWhole__init__.a
  is_NoWhole_Denial : PySem.W.kitOne K (.ref k_NoWhole.a) (.ref k_Denial.a) = some true
  is_NoWhole_Paper : PySem.W.kitOne K (.ref k_NoWhole.a) (.ref k_Paper.a) = some true
  is_NoWhole_NoWhole : PySem.W.kitOne K (.ref k_NoWhole.a) (.ref k_NoWhole.a) = some true
  is_NoWhole_Whole : PySem.W.kitOne K (.ref k_NoWhole.a) (.ref k_Whole.a) = some false
  is_NoWhole_Between : PySem.W.kitOne K (.ref k_NoWhole.a) (.ref k_Between.a) = some false
  is_NoWhole_ByPower : PySem.W.kitOne K (.ref k_NoWhole.a) (.ref k_ByPower.a) = some false
  is_NoWhole_Uneven : PySem.W.kitOne K (.ref k_NoWhole.a) (.ref k_Uneven.a) = some false
  na_Whole_low : NoAttr K k_Whole.a "low"
  na_Whole_number : NoAttr K k_Whole.a "number"
  na_Whole_parts : NoAttr K k_Whole.a "parts"
  na_Whole_power : NoAttr K k_Whole.a "power"
  na_Whole_step : NoAttr K k_Whole.a "step"
  na_Whole_word : NoAttr K k_Whole.a "word"
  mk_Whole : Mk K k_Whole.a f_Whole__init__.a
  is_Whole_Denial : PySem.W.kitOne K (.ref k_Whole.a) (.ref k_Denial.a) = some false
  is_Whole_Paper : PySem.W.kitOne K (.ref k_Whole.a) (.ref k_Paper.a) = some true
  is_Whole_NoWhole : PySem.W.kitOne K (.ref k_Whole.a) (.ref k_NoWhole.a) = some false
  is_Whole_Whole : PySem.W.kitOne K (.ref k_Whole.a) (.ref k_Whole.a) = some true
  is_Whole_Between : PySem.W.kitOne K (.ref k_Whole.a) (.ref k_Between.a) = some false
  is_Whole_ByPower : PySem.W.kitOne K (.ref k_Whole.a) (.ref k_ByPower.a) = some false
  is_Whole_Uneven : PySem.W.kitOne K (.ref k_Whole.a) (.ref k_Uneven.a) = some false
  na_Between_low : NoAttr K k_Between.a "low"
  na_Between_number : NoAttr K k_Between.a "number"
  na_Between_parts : NoAttr K k_Between.a "parts"
  na_Between_power : NoAttr K k_Between.a "power"
  na_Between_step : NoAttr K k_Between.a "step"
  na_Between_word : NoAttr K k_Between.a "word"
  mk_Between : Mk K k_Between.a f_Between__init__.a
  is_Between_Denial : PySem.W.kitOne K (.ref k_Between.a) (.ref k_Denial.a) = some true
  is_Between_Paper : PySem.W.kitOne K (.ref k_Between.a) (.ref k_Paper.a) = some true
  is_Between_NoWhole : PySem.W.kitOne K (.ref k_Between.a) (.ref k_NoWhole.a) = some false
  is_Between_Whole : PySem.W.kitOne K (.ref k_Between.a) (.ref k_Whole.a) = some false
  is_Between_Between : PySem.W.kitOne K (.ref k_Between.a) (.ref k_Between.a) = some true
  is_Between_ByPower : PySem.W.kitOne K (.ref k_Between.a) (.ref k_ByPower.a) = some false
  is_Between_Uneven : PySem.W.kitOne K (.ref k_Between.a) (.ref k_Uneven.a) = some false
  na_ByPower_low : NoAttr K k_ByPower.a "low"
  na_ByPower_number : NoAttr K k_ByPower.a "number"
  na_ByPower_parts : NoAttr K k_ByPower.a "parts"
  na_ByPower_power : NoAttr K k_ByPower.a "power"
  na_ByPower_step : NoAttr K k_ByPower.a "step"
  na_ByPower_word : NoAttr K k_ByPower.a "word"
  mk_ByPower : Mk K k_ByPower.a f_ByPower__init__.a
  is_ByPower_Denial : PySem.W.kitOne K (.ref k_ByPower.a) (.ref k_Denial.a) = some false
  is_ByPower_Paper : PySem.W.kitOne K (.ref k_ByPower.a) (.ref k_Paper.a) = some true
  is_ByPower_NoWhole : PySem.W.kitOne K (.ref k_ByPower.a) (.ref k_NoWhole.a) = some false
  is_ByPower_Whole : PySem.W.kitOne K (.ref k_ByPower.a) (.ref k_Whole.a) = some false
  is_ByPower_Between : PySem.W.kitOne K (.ref k_ByPower.a) (.ref k_Between.a) = some false
  is_ByPower_ByPower : PySem.W.kitOne K (.ref k_ByPower.a) (.ref k_ByPower.a) = some true
  is_ByPower_Uneven : PySem.W.kitOne K (.ref k_ByPower.a) (.ref k_Uneven.a) = some false
  na_Uneven_low : NoAttr K k_Uneven.a "low"
  na_Uneven_number : NoAttr K k_Uneven.a "number"
  na_Uneven_parts : NoAttr K k_Uneven.a "parts"
  na_Uneven_power : NoAttr K k_Uneven.a "power"
  na_Uneven_step : NoAttr K k_Uneven.a "step"
  na_Uneven_word : NoAttr K k_Uneven.a "word"
  mk_Uneven : Mk K k_Uneven.a f_Uneven__init__.a
  is_Uneven_Denial : PySem.W.kitOne K (.ref k_Uneven.a) (.ref k_Denial.a) = some true
  is_Uneven_Paper : PySem.W.kitOne K (.ref k_Uneven.a) (.ref k_Paper.a) = some true
  is_Uneven_NoWhole : PySem.W.kitOne K (.ref k_Uneven.a) (.ref k_NoWhole.a) = some false
  is_Uneven_Whole : PySem.W.kitOne K (.ref k_Uneven.a) (.ref k_Whole.a) = some false
  is_Uneven_Between : PySem.W.kitOne K (.ref k_Uneven.a) (.ref k_Between.a) = some false
  is_Uneven_ByPower : PySem.W.kitOne K (.ref k_Uneven.a) (.ref k_ByPower.a) = some false
  is_Uneven_Uneven : PySem.W.kitOne K (.ref k_Uneven.a) (.ref k_Uneven.a) = some true
  x_LikeError : XnT K mg "LikeError"
  x_BadNumber : XnT K mg "BadNumber"
  ex_BadNumber : ExnC K x_BadNumber.a f_BadNumber__init__.a ["part"]
  xf_BadNumber : XfC K x_BadNumber.a
  xi_BadNumber : XiC K x_BadNumber.a
  em_BadNumber_LikeError : PySem.W.exmOne K (.ref x_BadNumber.a) (.ref x_LikeError.a) = some true
  ki_BadNumber_BadNumber : PySem.W.kitOne K (.ref x_BadNumber.a) (.ref x_BadNumber.a) = some true
  f__law_hat : FnT K mg "_law_hat" s__law_hat ["_law_script"]
  f__law_lot : FnT K mg "_law_lot" s__law_lot ["_law_hat_here", "_law_many"]
  f__law_one : FnT K mg "_law_one" s__law_one ["_law_hat_here", "_law_some"]
  f__law_bad : FnT K mg "_law_bad" s__law_bad ["_law_hat_here", "_law_least", "_law_most"]
  f__law_good : FnT K mg "_law_good" s__law_good ["_law_hat_here", "_law_least", "_law_most"]
  f__law_within : FnT K mg "_law_within" s__law_within ["_law_value", "_law_least", "_law_most"]
  f__law_spoilt : FnT K mg "_law_spoilt" s__law_spoilt ["_law_hat_here", "_law_bounds"]
  f__law_heard : HdT K mg "_law_heard" s__law_heard ["_law_ask"]
  f_is_integer : FnT K mg "is_integer" s_is_integer ["value"]
  f_is_within : FnT K mg "is_within" s_is_within ["value", "least", "most"]
  f_need_within : FnT K mg "need_within" s_need_within ["part", "value", "least", "most"]
  f_need_numbers : FnT K mg "need_numbers" s_need_numbers ["named", "most"]
  f_need_power : FnT K mg "need_power" s_need_power ["power"]
  f_raised : FnT K mg "raised" s_raised ["number", "times"]
  f_whole_sum : FnT K mg "whole_sum" s_whole_sum ["a", "b", "c", "d", "power"]
  f_sign_at : FnT K mg "sign_at" s_sign_at ["a", "b", "c", "d", "power"]
  f_is_by_power : FnT K mg "is_by_power" s_is_by_power ["a", "b", "c", "d", "power"]
  f_is_by : FnT K mg "is_by" s_is_by ["a", "b", "c", "d", "power"]
  f__law_fours_right : FnT K mg "_law_fours_right" s__law_fours_right ["_law_hat_here"]
  lc__law_fours_right : Addr
  lp__law_fours_right : Addr
  cd__law_fours_right : f__law_fours_right.fd.code = .ref lc__law_fours_right
  tt__law_fours_right : PySem.W.tabIn K "_law_fours_right" = some (lc__law_fours_right, lp__law_fours_right)
  tz__law_fours_right : K.lookup lp__law_fours_right = none
  f_fourth_quotient : FnT K mg "fourth_quotient" s_fourth_quotient ["a", "b", "c", "power"]
  f_fixed : FnT K mg "fixed" s_fixed ["value"]
  f_side_of : FnT K mg "side_of" s_side_of ["number", "quotient"]
  f_whole_below : FnT K mg "whole_below" s_whole_below ["quotient"]
  f_fourth_by : FnT K mg "fourth_by" s_fourth_by ["a", "b", "c", "power"]
  f_shows_fourth_by : FnT K mg "shows_fourth_by" s_shows_fourth_by ["a", "b", "c", "power", "value"]
  f__law_threes_right : FnT K mg "_law_threes_right" s__law_threes_right ["_law_hat_here"]
  lc__law_threes_right : Addr
  lp__law_threes_right : Addr
  cd__law_threes_right : f__law_threes_right.fd.code = .ref lc__law_threes_right
  tt__law_threes_right : PySem.W.tabIn K "_law_threes_right" = some (lc__law_threes_right, lp__law_threes_right)
  tz__law_threes_right : K.lookup lp__law_threes_right = none
  f_whole_fourth : FnT K mg "whole_fourth" s_whole_fourth ["a", "b", "c", "power"]
  f_numbers_by : FnT K mg "numbers_by" s_numbers_by ["first", "second", "many", "power"]
  f__law_rows_right : FnT K mg "_law_rows_right" s__law_rows_right ["_law_hat_here"]
  lc__law_rows_right : Addr
  lp__law_rows_right : Addr
  cd__law_rows_right : f__law_rows_right.fd.code = .ref lc__law_rows_right
  tt__law_rows_right : PySem.W.tabIn K "_law_rows_right" = some (lc__law_rows_right, lp__law_rows_right)
  tz__law_rows_right : K.lookup lp__law_rows_right = none
  f__law_growing : FnT K mg "_law_growing" s__law_growing ["_law_hat_here"]
  f__law_growing_due : FnT K mg "_law_growing_due" s__law_growing_due ["_law_values"]
  f_need_growing : FnT K mg "need_growing" s_need_growing ["a", "b", "c", "d"]
  f_power_of : FnT K mg "power_of" s_power_of ["a", "b", "c", "d"]
  f_is_between : FnT K mg "is_between" s_is_between ["a", "b", "c", "d", "low"]
  f_shows_power : FnT K mg "shows_power" s_shows_power ["a", "b", "c", "d", "value"]
  f__law_powers_right : FnT K mg "_law_powers_right" s__law_powers_right ["_law_hat_here"]
  lc__law_powers_right : Addr
  lp__law_powers_right : Addr
  cd__law_powers_right : f__law_powers_right.fd.code = .ref lc__law_powers_right
  tt__law_powers_right : PySem.W.tabIn K "_law_powers_right" = some (lc__law_powers_right, lp__law_powers_right)
  tz__law_powers_right : K.lookup lp__law_powers_right = none
  f_is_list : FnT K mg "is_list" s_is_list ["value"]
  f_need_growing_row : FnT K mg "need_growing_row" s_need_growing_row ["numbers"]
  f_is_step_by : FnT K mg "is_step_by" s_is_step_by ["numbers", "step", "power"]
  f_power_of_row : FnT K mg "power_of_row" s_power_of_row ["numbers"]
  f_is_just : FnT K mg "is_just" s_is_just ["value", "wanted"]
  f_shows_power_of_row : FnT K mg "shows_power_of_row" s_shows_power_of_row ["numbers", "value"]
  f__law_numbers_right : FnT K mg "_law_numbers_right" s__law_numbers_right ["_law_hat_here"]
  lc__law_numbers_right : Addr
  lp__law_numbers_right : Addr
  cd__law_numbers_right : f__law_numbers_right.fd.code = .ref lc__law_numbers_right
  tt__law_numbers_right : PySem.W.tabIn K "_law_numbers_right" = some (lc__law_numbers_right, lp__law_numbers_right)
  tz__law_numbers_right : K.lookup lp__law_numbers_right = none
  f_law : FnT K mg "law" s_law ["_law_script"]
  t_LEAST_LONG : Tok
  c_LEAST_LONG : mg "LEAST_LONG" = some (.int (3) t_LEAST_LONG)
  t_LEAST_POWER : Tok
  c_LEAST_POWER : mg "LEAST_POWER" = some (.int (-80) t_LEAST_POWER)
  t_MOST_LONG : Tok
  c_MOST_LONG : mg "MOST_LONG" = some (.int (12) t_MOST_LONG)
  t_MOST_NUMBER : Tok
  c_MOST_NUMBER : mg "MOST_NUMBER" = some (.int (1000000) t_MOST_NUMBER)
  t_MOST_POWER : Tok
  c_MOST_POWER : mg "MOST_POWER" = some (.int (80) t_MOST_POWER)
  t_MOST_SMALL : Tok
  c_MOST_SMALL : mg "MOST_SMALL" = some (.int (99) t_MOST_SMALL)
  tnd : [lp__law_fours_right, lp__law_threes_right, lp__law_rows_right, lp__law_powers_right, lp__law_numbers_right].Nodup
  n_abs : mg "abs" = none
  n_all : mg "all" = none
  n_bool : mg "bool" = none
  n_enumerate : mg "enumerate" = none
  n_int : mg "int" = none
  n_isinstance : mg "isinstance" = none
  n_len : mg "len" = none
  n_list : mg "list" = none
  n_range : mg "range" = none
  n_repr : mg "repr" = none
  n_set : mg "set" = none
  n_sorted : mg "sorted" = none
  n_str : mg "str" = none
  n_tuple : mg "tuple" = none
  n_type : mg "type" = none
  n_zip : mg "zip" = none
section
variable {K : PySem.W.Frag} {mg : Str → Option Value} {P : Program} {w : World}
def adOf (T : Txt K mg) : Nat → Addr := fun n => match n with
  | 32 => T.k_Denial.a
  | 85 => T.k_Paper.a
  | 76 => T.k_NoWhole.a
  | 113 => T.k_Whole.a
  | 21 => T.k_Between.a
  | 24 => T.k_ByPower.a
  | 108 => T.k_Uneven.a
  | 53 => T.x_LikeError.a
  | 9 => T.x_BadNumber.a
  | _ => T.k_Denial.a
abbrev okL : Nat → Bool := fun n => ([32, 85, 76, 113, 21, 24, 108] : List Nat).contains n
def caOf (T : Txt K mg) (P : Program) (w : World) : CA := ⟨adOf T, adOf T, [(T.lp__law_fours_right, ((envOfC "_law_fours_right" (defScope s__law_fours_right) 0 0 .none).qual ++ "<lambda>")), (T.lp__law_threes_right, ((envOfC "_law_threes_right" (defScope s__law_threes_right) 0 0 .none).qual ++ "<lambda>")), (T.lp__law_rows_right, ((envOfC "_law_rows_right" (defScope s__law_rows_right) 0 0 .none).qual ++ "<lambda>")), (T.lp__law_powers_right, ((envOfC "_law_powers_right" (defScope s__law_powers_right) 0 0 .none).qual ++ "<lambda>")), (T.lp__law_numbers_right, ((envOfC "_law_numbers_right" (defScope s__law_numbers_right) 0 0 .none).qual ++ "<lambda>"))], P, w, okL⟩
def csOf (T : Txt K mg) : List (Addr × Addr) := [(T.lc__law_fours_right, T.lp__law_fours_right), (T.lc__law_threes_right, T.lp__law_threes_right), (T.lc__law_rows_right, T.lp__law_rows_right), (T.lc__law_powers_right, T.lp__law_powers_right), (T.lc__law_numbers_right, T.lp__law_numbers_right)]
theorem tb__law_fours_right (T : Txt K mg) {base : Heap} (bf : BFa base mg (csOf T)) : LamX.TabB base mg T.lc__law_fours_right T.lp__law_fours_right := bf.tb (T.lc__law_fours_right, T.lp__law_fours_right) (.head _)
theorem mem__law_fours_right (T : Txt K mg) : (T.lp__law_fours_right, ((envOfC "_law_fours_right" (defScope s__law_fours_right) 0 0 .none).qual ++ "<lambda>")) ∈ (caOf T P w).T := .head _
theorem uq__law_fours_right (T : Txt K mg) : ∀ p ∈ (caOf T P w).T, p.1 = T.lp__law_fours_right → p.2 = ((envOfC "_law_fours_right" (defScope s__law_fours_right) 0 0 .none).qual ++ "<lambda>") := tabs_uniq T.tnd (mem__law_fours_right (P := P) (w := w) T)
theorem tb__law_threes_right (T : Txt K mg) {base : Heap} (bf : BFa base mg (csOf T)) : LamX.TabB base mg T.lc__law_threes_right T.lp__law_threes_right := bf.tb (T.lc__law_threes_right, T.lp__law_threes_right) (.tail _ (.head _))
theorem mem__law_threes_right (T : Txt K mg) : (T.lp__law_threes_right, ((envOfC "_law_threes_right" (defScope s__law_threes_right) 0 0 .none).qual ++ "<lambda>")) ∈ (caOf T P w).T := .tail _ (.head _)
theorem uq__law_threes_right (T : Txt K mg) : ∀ p ∈ (caOf T P w).T, p.1 = T.lp__law_threes_right → p.2 = ((envOfC "_law_threes_right" (defScope s__law_threes_right) 0 0 .none).qual ++ "<lambda>") := tabs_uniq T.tnd (mem__law_threes_right (P := P) (w := w) T)
theorem tb__law_rows_right (T : Txt K mg) {base : Heap} (bf : BFa base mg (csOf T)) : LamX.TabB base mg T.lc__law_rows_right T.lp__law_rows_right := bf.tb (T.lc__law_rows_right, T.lp__law_rows_right) (.tail _ (.tail _ (.head _)))
theorem mem__law_rows_right (T : Txt K mg) : (T.lp__law_rows_right, ((envOfC "_law_rows_right" (defScope s__law_rows_right) 0 0 .none).qual ++ "<lambda>")) ∈ (caOf T P w).T := .tail _ (.tail _ (.head _))
theorem uq__law_rows_right (T : Txt K mg) : ∀ p ∈ (caOf T P w).T, p.1 = T.lp__law_rows_right → p.2 = ((envOfC "_law_rows_right" (defScope s__law_rows_right) 0 0 .none).qual ++ "<lambda>") := tabs_uniq T.tnd (mem__law_rows_right (P := P) (w := w) T)
theorem tb__law_powers_right (T : Txt K mg) {base : Heap} (bf : BFa base mg (csOf T)) : LamX.TabB base mg T.lc__law_powers_right T.lp__law_powers_right := bf.tb (T.lc__law_powers_right, T.lp__law_powers_right) (.tail _ (.tail _ (.tail _ (.head _))))
theorem mem__law_powers_right (T : Txt K mg) : (T.lp__law_powers_right, ((envOfC "_law_powers_right" (defScope s__law_powers_right) 0 0 .none).qual ++ "<lambda>")) ∈ (caOf T P w).T := .tail _ (.tail _ (.tail _ (.head _)))
theorem uq__law_powers_right (T : Txt K mg) : ∀ p ∈ (caOf T P w).T, p.1 = T.lp__law_powers_right → p.2 = ((envOfC "_law_powers_right" (defScope s__law_powers_right) 0 0 .none).qual ++ "<lambda>") := tabs_uniq T.tnd (mem__law_powers_right (P := P) (w := w) T)
theorem tb__law_numbers_right (T : Txt K mg) {base : Heap} (bf : BFa base mg (csOf T)) : LamX.TabB base mg T.lc__law_numbers_right T.lp__law_numbers_right := bf.tb (T.lc__law_numbers_right, T.lp__law_numbers_right) (.tail _ (.tail _ (.tail _ (.tail _ (.head _)))))
theorem mem__law_numbers_right (T : Txt K mg) : (T.lp__law_numbers_right, ((envOfC "_law_numbers_right" (defScope s__law_numbers_right) 0 0 .none).qual ++ "<lambda>")) ∈ (caOf T P w).T := .tail _ (.tail _ (.tail _ (.tail _ (.head _))))
theorem uq__law_numbers_right (T : Txt K mg) : ∀ p ∈ (caOf T P w).T, p.1 = T.lp__law_numbers_right → p.2 = ((envOfC "_law_numbers_right" (defScope s__law_numbers_right) 0 0 .none).qual ++ "<lambda>") := tabs_uniq T.tnd (mem__law_numbers_right (P := P) (w := w) T)
theorem mem_all (T : Txt K mg) : ∀ p ∈ (caOf T P w).T, p.1 ∈ (csOf T).map (·.2) := by
  intro p hp
  simp only [caOf, csOf, List.mem_cons, List.not_mem_nil, or_false, List.map_cons, List.map_nil] at hp ⊢
  rcases hp with rfl | rfl | rfl | rfl | rfl <;> simp
theorem fx_BadNumber__init__ {base : Heap} (T : Txt K mg) : FnOk P w K mg base (L2.CX P w) 1 T.f_BadNumber__init__.a T.f_BadNumber__init__.fd ["self", "part"] (spX1 K "part") := fn_X1 T.f_BadNumber__init__.F sc_BadNumber__init__ rfl
theorem okL_cases {n : Nat} (h : okL n = true) : n = 32 ∨ n = 85 ∨ n = 76 ∨ n = 113 ∨ n = 21 ∨ n = 24 ∨ n = 108 := by simpa [okL] using h
theorem clsC (T : Txt K mg) : ClsSet K (caOf T P w) where
  own := fun a h => by
    rcases okL_cases h with rfl | rfl | rfl | rfl | rfl | rfl | rfl
    · exact ⟨T.k_Denial.cl, T.k_Denial.ha, T.k_Denial.hn, T.k_Denial.ht, T.k_Denial.hm, T.k_Denial.ml⟩
    · exact ⟨T.k_Paper.cl, T.k_Paper.ha, T.k_Paper.hn, T.k_Paper.ht, T.k_Paper.hm, T.k_Paper.ml⟩
    · exact ⟨T.k_NoWhole.cl, T.k_NoWhole.ha, T.k_NoWhole.hn, T.k_NoWhole.ht, T.k_NoWhole.hm, T.k_NoWhole.ml⟩
    · exact ⟨T.k_Whole.cl, T.k_Whole.ha, T.k_Whole.hn, T.k_Whole.ht, T.k_Whole.hm, T.k_Whole.ml⟩
    · exact ⟨T.k_Between.cl, T.k_Between.ha, T.k_Between.hn, T.k_Between.ht, T.k_Between.hm, T.k_Between.ml⟩
    · exact ⟨T.k_ByPower.cl, T.k_ByPower.ha, T.k_ByPower.hn, T.k_ByPower.ht, T.k_ByPower.hm, T.k_ByPower.ml⟩
    · exact ⟨T.k_Uneven.cl, T.k_Uneven.ha, T.k_Uneven.hn, T.k_Uneven.ht, T.k_Uneven.hm, T.k_Uneven.ml⟩
  inj := fun a b ha hb e => by
    rcases okL_cases ha with rfl | rfl | rfl | rfl | rfl | rfl | rfl <;> rcases okL_cases hb with rfl | rfl | rfl | rfl | rfl | rfl | rfl
    · rfl
    · exact absurd e.symm (nek T.is_Paper_Denial T.is_Denial_Denial)
    · exact absurd e (nek T.is_Denial_NoWhole T.is_NoWhole_NoWhole)
    · exact absurd e (nek T.is_Denial_Whole T.is_Whole_Whole)
    · exact absurd e (nek T.is_Denial_Between T.is_Between_Between)
    · exact absurd e (nek T.is_Denial_ByPower T.is_ByPower_ByPower)
    · exact absurd e (nek T.is_Denial_Uneven T.is_Uneven_Uneven)
    · exact absurd e (nek T.is_Paper_Denial T.is_Denial_Denial)
    · rfl
    · exact absurd e (nek T.is_Paper_NoWhole T.is_NoWhole_NoWhole)
    · exact absurd e (nek T.is_Paper_Whole T.is_Whole_Whole)
    · exact absurd e (nek T.is_Paper_Between T.is_Between_Between)
    · exact absurd e (nek T.is_Paper_ByPower T.is_ByPower_ByPower)
    · exact absurd e (nek T.is_Paper_Uneven T.is_Uneven_Uneven)
    · exact absurd e.symm (nek T.is_Denial_NoWhole T.is_NoWhole_NoWhole)
    · exact absurd e.symm (nek T.is_Paper_NoWhole T.is_NoWhole_NoWhole)
    · rfl
    · exact absurd e (nek T.is_NoWhole_Whole T.is_Whole_Whole)
    · exact absurd e (nek T.is_NoWhole_Between T.is_Between_Between)
    · exact absurd e (nek T.is_NoWhole_ByPower T.is_ByPower_ByPower)
    · exact absurd e (nek T.is_NoWhole_Uneven T.is_Uneven_Uneven)
    · exact absurd e (nek T.is_Whole_Denial T.is_Denial_Denial)
    · exact absurd e.symm (nek T.is_Paper_Whole T.is_Whole_Whole)
    · exact absurd e (nek T.is_Whole_NoWhole T.is_NoWhole_NoWhole)
    · rfl
    · exact absurd e (nek T.is_Whole_Between T.is_Between_Between)
    · exact absurd e (nek T.is_Whole_ByPower T.is_ByPower_ByPower)
    · exact absurd e (nek T.is_Whole_Uneven T.is_Uneven_Uneven)
    · exact absurd e.symm (nek T.is_Denial_Between T.is_Between_Between)
    · exact absurd e.symm (nek T.is_Paper_Between T.is_Between_Between)
    · exact absurd e (nek T.is_Between_NoWhole T.is_NoWhole_NoWhole)
    · exact absurd e (nek T.is_Between_Whole T.is_Whole_Whole)
    · rfl
    · exact absurd e (nek T.is_Between_ByPower T.is_ByPower_ByPower)
    · exact absurd e (nek T.is_Between_Uneven T.is_Uneven_Uneven)
    · exact absurd e (nek T.is_ByPower_Denial T.is_Denial_Denial)
    · exact absurd e.symm (nek T.is_Paper_ByPower T.is_ByPower_ByPower)
    · exact absurd e (nek T.is_ByPower_NoWhole T.is_NoWhole_NoWhole)
    · exact absurd e (nek T.is_ByPower_Whole T.is_Whole_Whole)
    · exact absurd e (nek T.is_ByPower_Between T.is_Between_Between)
    · rfl
    · exact absurd e (nek T.is_ByPower_Uneven T.is_Uneven_Uneven)
    · exact absurd e.symm (nek T.is_Denial_Uneven T.is_Uneven_Uneven)
    · exact absurd e.symm (nek T.is_Paper_Uneven T.is_Uneven_Uneven)
    · exact absurd e (nek T.is_Uneven_NoWhole T.is_NoWhole_NoWhole)
    · exact absurd e (nek T.is_Uneven_Whole T.is_Whole_Whole)
    · exact absurd e (nek T.is_Uneven_Between T.is_Between_Between)
    · exact absurd e (nek T.is_Uneven_ByPower T.is_ByPower_ByPower)
    · rfl
theorem subG_ok (T : Txt K mg) : TabOk K (caOf T P w) subG := fun t c b h _ _ => by
  unfold subG at h
  split at h
  · exact ⟨_, _, rfl, rfl, kit_ty h⟩
  · unfold subN at h
    split at h
    · cases h; exact ⟨_, _, rfl, rfl, T.is_Denial_Denial⟩
    · cases h; exact ⟨_, _, rfl, rfl, T.is_Denial_Paper⟩
    · cases h; exact ⟨_, _, rfl, rfl, T.is_Denial_NoWhole⟩
    · cases h; exact ⟨_, _, rfl, rfl, T.is_Denial_Whole⟩
    · cases h; exact ⟨_, _, rfl, rfl, T.is_Denial_Between⟩
    · cases h; exact ⟨_, _, rfl, rfl, T.is_Denial_ByPower⟩
    · cases h; exact ⟨_, _, rfl, rfl, T.is_Denial_Uneven⟩
    · cases h; exact ⟨_, _, rfl, rfl, T.is_Paper_Denial⟩
    · cases h; exact ⟨_, _, rfl, rfl, T.is_Paper_Paper⟩
    · cases h; exact ⟨_, _, rfl, rfl, T.is_Paper_NoWhole⟩
    · cases h; exact ⟨_, _, rfl, rfl, T.is_Paper_Whole⟩
    · cases h; exact ⟨_, _, rfl, rfl, T.is_Paper_Between⟩
    · cases h; exact ⟨_, _, rfl, rfl, T.is_Paper_ByPower⟩
    · cases h; exact ⟨_, _, rfl, rfl, T.is_Paper_Uneven⟩
    · cases h; exact ⟨_, _, rfl, rfl, T.is_NoWhole_Denial⟩
    · cases h; exact ⟨_, _, rfl, rfl, T.is_NoWhole_Paper⟩
    · cases h; exact ⟨_, _, rfl, rfl, T.is_NoWhole_NoWhole⟩
    · cases h; exact ⟨_, _, rfl, rfl, T.is_NoWhole_Whole⟩
    · cases h; exact ⟨_, _, rfl, rfl, T.is_NoWhole_Between⟩
    · cases h; exact ⟨_, _, rfl, rfl, T.is_NoWhole_ByPower⟩
    · cases h; exact ⟨_, _, rfl, rfl, T.is_NoWhole_Uneven⟩
    · cases h; exact ⟨_, _, rfl, rfl, T.is_Whole_Denial⟩
    · cases h; exact ⟨_, _, rfl, rfl, T.is_Whole_Paper⟩
    · cases h; exact ⟨_, _, rfl, rfl, T.is_Whole_NoWhole⟩
    · cases h; exact ⟨_, _, rfl, rfl, T.is_Whole_Whole⟩
    · cases h; exact ⟨_, _, rfl, rfl, T.is_Whole_Between⟩
    · cases h; exact ⟨_, _, rfl, rfl, T.is_Whole_ByPower⟩
    · cases h; exact ⟨_, _, rfl, rfl, T.is_Whole_Uneven⟩
    · cases h; exact ⟨_, _, rfl, rfl, T.is_Between_Denial⟩
    · cases h; exact ⟨_, _, rfl, rfl, T.is_Between_Paper⟩
    · cases h; exact ⟨_, _, rfl, rfl, T.is_Between_NoWhole⟩
    · cases h; exact ⟨_, _, rfl, rfl, T.is_Between_Whole⟩
    · cases h; exact ⟨_, _, rfl, rfl, T.is_Between_Between⟩
    · cases h; exact ⟨_, _, rfl, rfl, T.is_Between_ByPower⟩
    · cases h; exact ⟨_, _, rfl, rfl, T.is_Between_Uneven⟩
    · cases h; exact ⟨_, _, rfl, rfl, T.is_ByPower_Denial⟩
    · cases h; exact ⟨_, _, rfl, rfl, T.is_ByPower_Paper⟩
    · cases h; exact ⟨_, _, rfl, rfl, T.is_ByPower_NoWhole⟩
    · cases h; exact ⟨_, _, rfl, rfl, T.is_ByPower_Whole⟩
    · cases h; exact ⟨_, _, rfl, rfl, T.is_ByPower_Between⟩
    · cases h; exact ⟨_, _, rfl, rfl, T.is_ByPower_ByPower⟩
    · cases h; exact ⟨_, _, rfl, rfl, T.is_ByPower_Uneven⟩
    · cases h; exact ⟨_, _, rfl, rfl, T.is_Uneven_Denial⟩
    · cases h; exact ⟨_, _, rfl, rfl, T.is_Uneven_Paper⟩
    · cases h; exact ⟨_, _, rfl, rfl, T.is_Uneven_NoWhole⟩
    · cases h; exact ⟨_, _, rfl, rfl, T.is_Uneven_Whole⟩
    · cases h; exact ⟨_, _, rfl, rfl, T.is_Uneven_Between⟩
    · cases h; exact ⟨_, _, rfl, rfl, T.is_Uneven_ByPower⟩
    · cases h; exact ⟨_, _, rfl, rfl, T.is_Uneven_Uneven⟩
    · cases h
  · cases h
  · cases h
theorem at_low (T : Txt K mg) : ∀ c, (caOf T P w).ok c = true → ([] : List Nat).contains c = false → Cls K ((caOf T P w) c) ∧ NoAttr K ((caOf T P w) c) "low" := fun c h h2 => by
  rcases okL_cases h with rfl | rfl | rfl | rfl | rfl | rfl | rfl
  · exact ⟨T.k_Denial.cl, T.na_Denial_low⟩
  · exact ⟨T.k_Paper.cl, T.na_Paper_low⟩
  · exact ⟨T.k_NoWhole.cl, T.na_NoWhole_low⟩
  · exact ⟨T.k_Whole.cl, T.na_Whole_low⟩
  · exact ⟨T.k_Between.cl, T.na_Between_low⟩
  · exact ⟨T.k_ByPower.cl, T.na_ByPower_low⟩
  · exact ⟨T.k_Uneven.cl, T.na_Uneven_low⟩
theorem at_number (T : Txt K mg) : ∀ c, (caOf T P w).ok c = true → ([] : List Nat).contains c = false → Cls K ((caOf T P w) c) ∧ NoAttr K ((caOf T P w) c) "number" := fun c h h2 => by
  rcases okL_cases h with rfl | rfl | rfl | rfl | rfl | rfl | rfl
  · exact ⟨T.k_Denial.cl, T.na_Denial_number⟩
  · exact ⟨T.k_Paper.cl, T.na_Paper_number⟩
  · exact ⟨T.k_NoWhole.cl, T.na_NoWhole_number⟩
  · exact ⟨T.k_Whole.cl, T.na_Whole_number⟩
  · exact ⟨T.k_Between.cl, T.na_Between_number⟩
  · exact ⟨T.k_ByPower.cl, T.na_ByPower_number⟩
  · exact ⟨T.k_Uneven.cl, T.na_Uneven_number⟩
theorem at_parts (T : Txt K mg) : ∀ c, (caOf T P w).ok c = true → ([] : List Nat).contains c = false → Cls K ((caOf T P w) c) ∧ NoAttr K ((caOf T P w) c) "parts" := fun c h h2 => by
  rcases okL_cases h with rfl | rfl | rfl | rfl | rfl | rfl | rfl
  · exact ⟨T.k_Denial.cl, T.na_Denial_parts⟩
  · exact ⟨T.k_Paper.cl, T.na_Paper_parts⟩
  · exact ⟨T.k_NoWhole.cl, T.na_NoWhole_parts⟩
  · exact ⟨T.k_Whole.cl, T.na_Whole_parts⟩
  · exact ⟨T.k_Between.cl, T.na_Between_parts⟩
  · exact ⟨T.k_ByPower.cl, T.na_ByPower_parts⟩
  · exact ⟨T.k_Uneven.cl, T.na_Uneven_parts⟩
theorem at_power (T : Txt K mg) : ∀ c, (caOf T P w).ok c = true → ([] : List Nat).contains c = false → Cls K ((caOf T P w) c) ∧ NoAttr K ((caOf T P w) c) "power" := fun c h h2 => by
  rcases okL_cases h with rfl | rfl | rfl | rfl | rfl | rfl | rfl
  · exact ⟨T.k_Denial.cl, T.na_Denial_power⟩
  · exact ⟨T.k_Paper.cl, T.na_Paper_power⟩
  · exact ⟨T.k_NoWhole.cl, T.na_NoWhole_power⟩
  · exact ⟨T.k_Whole.cl, T.na_Whole_power⟩
  · exact ⟨T.k_Between.cl, T.na_Between_power⟩
  · exact ⟨T.k_ByPower.cl, T.na_ByPower_power⟩
  · exact ⟨T.k_Uneven.cl, T.na_Uneven_power⟩
theorem at_step (T : Txt K mg) : ∀ c, (caOf T P w).ok c = true → ([] : List Nat).contains c = false → Cls K ((caOf T P w) c) ∧ NoAttr K ((caOf T P w) c) "step" := fun c h h2 => by
  rcases okL_cases h with rfl | rfl | rfl | rfl | rfl | rfl | rfl
  · exact ⟨T.k_Denial.cl, T.na_Denial_step⟩
  · exact ⟨T.k_Paper.cl, T.na_Paper_step⟩
  · exact ⟨T.k_NoWhole.cl, T.na_NoWhole_step⟩
  · exact ⟨T.k_Whole.cl, T.na_Whole_step⟩
  · exact ⟨T.k_Between.cl, T.na_Between_step⟩
  · exact ⟨T.k_ByPower.cl, T.na_ByPower_step⟩
  · exact ⟨T.k_Uneven.cl, T.na_Uneven_step⟩
theorem at_word (T : Txt K mg) : ∀ c, (caOf T P w).ok c = true → ([] : List Nat).contains c = false → Cls K ((caOf T P w) c) ∧ NoAttr K ((caOf T P w) c) "word" := fun c h h2 => by
  rcases okL_cases h with rfl | rfl | rfl | rfl | rfl | rfl | rfl
  · exact ⟨T.k_Denial.cl, T.na_Denial_word⟩
  · exact ⟨T.k_Paper.cl, T.na_Paper_word⟩
  · exact ⟨T.k_NoWhole.cl, T.na_NoWhole_word⟩
  · exact ⟨T.k_Whole.cl, T.na_Whole_word⟩
  · exact ⟨T.k_Between.cl, T.na_Between_word⟩
  · exact ⟨T.k_ByPower.cl, T.na_ByPower_word⟩
  · exact ⟨T.k_Uneven.cl, T.na_Uneven_word⟩
theorem kb_is_by_0 (T : Txt K mg) : KBinds K T.f_is_by.fd ["a", "b", "c", "d", "power"] ["power", "d", "c", "b", "a"] kg_is_by_0 kg_is_by_0 := by
  obtain ⟨oc, od, kV, doc, pm, an, cdv, ct, osl, e, lk, hcd⟩ := T.f_is_by.F.ex
  refine ⟨fun s us ws X hl => ?_, fun {vs us zs ws} h1 h2 => ?_⟩
  · match us, ws, hl with
    | [], [w0, w1, w2, w3, w4], _ =>
      rw [e]
      exact .of_eq rfl
    | [], [], hl => cases hl
    | [], [_], hl => cases hl
    | [], [_, _], hl => cases hl
    | [], [_, _, _], hl => cases hl
    | [], [_, _, _, _], hl => cases hl
    | [], _ :: _ :: _ :: _ :: _ :: _ :: _, hl => cases hl
    | _ :: _, _, hl => cases hl
  · match vs, us, zs, ws, h1, h2 with
    | [], [], [_, _, _, _, _], [_, _, _, _, _], _, .cons z0 (.cons z1 (.cons z2 (.cons z3 (.cons z4 .nil)))) => exact .cons z4 (.cons z3 (.cons z2 (.cons z1 (.cons z0 .nil))))
    | [], [], [], [], _, _ => exact .nil
    | [], [], [_], [_], _, _ => exact .nil
    | [], [], [_, _], [_, _], _, _ => exact .nil
    | [], [], [_, _, _], [_, _, _], _, _ => exact .nil
    | [], [], [_, _, _, _], [_, _, _, _], _, _ => exact .nil
    | [], [], _ :: _ :: _ :: _ :: _ :: _ :: _, _ :: _ :: _ :: _ :: _ :: _ :: _, _, _ => exact .nil
    | _ :: _, _ :: _, _, _, _, _ => exact .nil
theorem kr_is_by_0 {ca : CA} {F : Hp} {ds : List D} {vs : List V} (r : Reps K ca F ds vs) : Reps K ca F (kd_is_by_0 ds) (kg_is_by_0 [] vs) := by
  match ds, vs, r with
  | [_, _, _, _, _], [_, _, _, _, _], .cons z0 (.cons z1 (.cons z2 (.cons z3 (.cons z4 .nil)))) => exact .cons z4 (.cons z3 (.cons z2 (.cons z1 (.cons z0 .nil))))
  | [], [], _ => exact .nil
  | [_], [_], _ => exact .nil
  | [_, _], [_, _], _ => exact .nil
  | [_, _, _], [_, _, _], _ => exact .nil
  | [_, _, _, _], [_, _, _, _], _ => exact .nil
  | _ :: _ :: _ :: _ :: _ :: _ :: _, _ :: _ :: _ :: _ :: _ :: _ :: _, _ => exact .nil
theorem kb_sign_at_1 (T : Txt K mg) : KBinds K T.f_sign_at.fd ["a", "b", "c", "d", "power"] ["d", "a", "power", "b", "c"] kg_sign_at_1 kg_sign_at_1 := by
  obtain ⟨oc, od, kV, doc, pm, an, cdv, ct, osl, e, lk, hcd⟩ := T.f_sign_at.F.ex
  refine ⟨fun s us ws X hl => ?_, fun {vs us zs ws} h1 h2 => ?_⟩
  · match us, ws, hl with
    | [], [w0, w1, w2, w3, w4], _ =>
      rw [e]
      exact .of_eq rfl
    | [], [], hl => cases hl
    | [], [_], hl => cases hl
    | [], [_, _], hl => cases hl
    | [], [_, _, _], hl => cases hl
    | [], [_, _, _, _], hl => cases hl
    | [], _ :: _ :: _ :: _ :: _ :: _ :: _, hl => cases hl
    | _ :: _, _, hl => cases hl
  · match vs, us, zs, ws, h1, h2 with
    | [], [], [_, _, _, _, _], [_, _, _, _, _], _, .cons z0 (.cons z1 (.cons z2 (.cons z3 (.cons z4 .nil)))) => exact .cons z1 (.cons z3 (.cons z4 (.cons z0 (.cons z2 .nil))))
    | [], [], [], [], _, _ => exact .nil
    | [], [], [_], [_], _, _ => exact .nil
    | [], [], [_, _], [_, _], _, _ => exact .nil
    | [], [], [_, _, _], [_, _, _], _, _ => exact .nil
    | [], [], [_, _, _, _], [_, _, _, _], _, _ => exact .nil
    | [], [], _ :: _ :: _ :: _ :: _ :: _ :: _, _ :: _ :: _ :: _ :: _ :: _ :: _, _, _ => exact .nil
    | _ :: _, _ :: _, _, _, _, _ => exact .nil
theorem kr_sign_at_1 {ca : CA} {F : Hp} {ds : List D} {vs : List V} (r : Reps K ca F ds vs) : Reps K ca F (kd_sign_at_1 ds) (kg_sign_at_1 [] vs) := by
  match ds, vs, r with
  | [_, _, _, _, _], [_, _, _, _, _], .cons z0 (.cons z1 (.cons z2 (.cons z3 (.cons z4 .nil)))) => exact .cons z1 (.cons z3 (.cons z4 (.cons z0 (.cons z2 .nil))))
  | [], [], _ => exact .nil
  | [_], [_], _ => exact .nil
  | [_, _], [_, _], _ => exact .nil
  | [_, _, _], [_, _, _], _ => exact .nil
  | [_, _, _, _], [_, _, _, _], _ => exact .nil
  | _ :: _ :: _ :: _ :: _ :: _ :: _, _ :: _ :: _ :: _ :: _ :: _ :: _, _ => exact .nil
theorem kb_fourth_by_2 (T : Txt K mg) : KBinds K T.f_fourth_by.fd ["a", "b", "c", "power"] ["power", "c", "a", "b"] kg_fourth_by_2 kg_fourth_by_2 := by
  obtain ⟨oc, od, kV, doc, pm, an, cdv, ct, osl, e, lk, hcd⟩ := T.f_fourth_by.F.ex
  refine ⟨fun s us ws X hl => ?_, fun {vs us zs ws} h1 h2 => ?_⟩
  · match us, ws, hl with
    | [], [w0, w1, w2, w3], _ =>
      rw [e]
      exact .of_eq rfl
    | [], [], hl => cases hl
    | [], [_], hl => cases hl
    | [], [_, _], hl => cases hl
    | [], [_, _, _], hl => cases hl
    | [], _ :: _ :: _ :: _ :: _ :: _, hl => cases hl
    | _ :: _, _, hl => cases hl
  · match vs, us, zs, ws, h1, h2 with
    | [], [], [_, _, _, _], [_, _, _, _], _, .cons z0 (.cons z1 (.cons z2 (.cons z3 .nil))) => exact .cons z2 (.cons z3 (.cons z1 (.cons z0 .nil)))
    | [], [], [], [], _, _ => exact .nil
    | [], [], [_], [_], _, _ => exact .nil
    | [], [], [_, _], [_, _], _, _ => exact .nil
    | [], [], [_, _, _], [_, _, _], _, _ => exact .nil
    | [], [], _ :: _ :: _ :: _ :: _ :: _, _ :: _ :: _ :: _ :: _ :: _, _, _ => exact .nil
    | _ :: _, _ :: _, _, _, _, _ => exact .nil
theorem kr_fourth_by_2 {ca : CA} {F : Hp} {ds : List D} {vs : List V} (r : Reps K ca F ds vs) : Reps K ca F (kd_fourth_by_2 ds) (kg_fourth_by_2 [] vs) := by
  match ds, vs, r with
  | [_, _, _, _], [_, _, _, _], .cons z0 (.cons z1 (.cons z2 (.cons z3 .nil))) => exact .cons z2 (.cons z3 (.cons z1 (.cons z0 .nil)))
  | [], [], _ => exact .nil
  | [_], [_], _ => exact .nil
  | [_, _], [_, _], _ => exact .nil
  | [_, _, _], [_, _, _], _ => exact .nil
  | _ :: _ :: _ :: _ :: _ :: _, _ :: _ :: _ :: _ :: _ :: _, _ => exact .nil
theorem kb_numbers_by_3 (T : Txt K mg) : KBinds K T.f_numbers_by.fd ["first", "second", "many", "power"] ["power", "many", "second", "first"] kg_numbers_by_3 kg_numbers_by_3 := by
  obtain ⟨oc, od, kV, doc, pm, an, cdv, ct, osl, e, lk, hcd⟩ := T.f_numbers_by.F.ex
  refine ⟨fun s us ws X hl => ?_, fun {vs us zs ws} h1 h2 => ?_⟩
  · match us, ws, hl with
    | [], [w0, w1, w2, w3], _ =>
      rw [e]
      exact .of_eq rfl
    | [], [], hl => cases hl
    | [], [_], hl => cases hl
    | [], [_, _], hl => cases hl
    | [], [_, _, _], hl => cases hl
    | [], _ :: _ :: _ :: _ :: _ :: _, hl => cases hl
    | _ :: _, _, hl => cases hl
  · match vs, us, zs, ws, h1, h2 with
    | [], [], [_, _, _, _], [_, _, _, _], _, .cons z0 (.cons z1 (.cons z2 (.cons z3 .nil))) => exact .cons z3 (.cons z2 (.cons z1 (.cons z0 .nil)))
    | [], [], [], [], _, _ => exact .nil
    | [], [], [_], [_], _, _ => exact .nil
    | [], [], [_, _], [_, _], _, _ => exact .nil
    | [], [], [_, _, _], [_, _, _], _, _ => exact .nil
    | [], [], _ :: _ :: _ :: _ :: _ :: _, _ :: _ :: _ :: _ :: _ :: _, _, _ => exact .nil
    | _ :: _, _ :: _, _, _, _, _ => exact .nil
theorem kr_numbers_by_3 {ca : CA} {F : Hp} {ds : List D} {vs : List V} (r : Reps K ca F ds vs) : Reps K ca F (kd_numbers_by_3 ds) (kg_numbers_by_3 [] vs) := by
  match ds, vs, r with
  | [_, _, _, _], [_, _, _, _], .cons z0 (.cons z1 (.cons z2 (.cons z3 .nil))) => exact .cons z3 (.cons z2 (.cons z1 (.cons z0 .nil)))
  | [], [], _ => exact .nil
  | [_], [_], _ => exact .nil
  | [_, _], [_, _], _ => exact .nil
  | [_, _, _], [_, _, _], _ => exact .nil
  | _ :: _ :: _ :: _ :: _ :: _, _ :: _ :: _ :: _ :: _ :: _, _ => exact .nil
theorem kb_power_of_4 (T : Txt K mg) : KBinds K T.f_power_of.fd ["a", "b", "c", "d"] ["d", "c", "b", "a"] kg_power_of_4 kg_power_of_4 := by
  obtain ⟨oc, od, kV, doc, pm, an, cdv, ct, osl, e, lk, hcd⟩ := T.f_power_of.F.ex
  refine ⟨fun s us ws X hl => ?_, fun {vs us zs ws} h1 h2 => ?_⟩
  · match us, ws, hl with
    | [], [w0, w1, w2, w3], _ =>
      rw [e]
      exact .of_eq rfl
    | [], [], hl => cases hl
    | [], [_], hl => cases hl
    | [], [_, _], hl => cases hl
    | [], [_, _, _], hl => cases hl
    | [], _ :: _ :: _ :: _ :: _ :: _, hl => cases hl
    | _ :: _, _, hl => cases hl
  · match vs, us, zs, ws, h1, h2 with
    | [], [], [_, _, _, _], [_, _, _, _], _, .cons z0 (.cons z1 (.cons z2 (.cons z3 .nil))) => exact .cons z3 (.cons z2 (.cons z1 (.cons z0 .nil)))
    | [], [], [], [], _, _ => exact .nil
    | [], [], [_], [_], _, _ => exact .nil
    | [], [], [_, _], [_, _], _, _ => exact .nil
    | [], [], [_, _, _], [_, _, _], _, _ => exact .nil
    | [], [], _ :: _ :: _ :: _ :: _ :: _, _ :: _ :: _ :: _ :: _ :: _, _, _ => exact .nil
    | _ :: _, _ :: _, _, _, _, _ => exact .nil
theorem kr_power_of_4 {ca : CA} {F : Hp} {ds : List D} {vs : List V} (r : Reps K ca F ds vs) : Reps K ca F (kd_power_of_4 ds) (kg_power_of_4 [] vs) := by
  match ds, vs, r with
  | [_, _, _, _], [_, _, _, _], .cons z0 (.cons z1 (.cons z2 (.cons z3 .nil))) => exact .cons z3 (.cons z2 (.cons z1 (.cons z0 .nil)))
  | [], [], _ => exact .nil
  | [_], [_], _ => exact .nil
  | [_, _], [_, _], _ => exact .nil
  | [_, _, _], [_, _, _], _ => exact .nil
  | _ :: _ :: _ :: _ :: _ :: _, _ :: _ :: _ :: _ :: _ :: _, _ => exact .nil
theorem kb_power_of_row_5 (T : Txt K mg) : KBinds K T.f_power_of_row.fd ["numbers"] ["numbers"] kg_power_of_row_5 kg_power_of_row_5 := by
  obtain ⟨oc, od, kV, doc, pm, an, cdv, ct, osl, e, lk, hcd⟩ := T.f_power_of_row.F.ex
  refine ⟨fun s us ws X hl => ?_, fun {vs us zs ws} h1 h2 => ?_⟩
  · match us, ws, hl with
    | [], [w0], _ =>
      rw [e]
      exact .of_eq rfl
    | [], [], hl => cases hl
    | [], _ :: _ :: _, hl => cases hl
    | _ :: _, _, hl => cases hl
  · match vs, us, zs, ws, h1, h2 with
    | [], [], [_], [_], _, .cons z0 .nil => exact .cons z0 .nil
    | [], [], [], [], _, _ => exact .nil
    | [], [], _ :: _ :: _, _ :: _ :: _, _, _ => exact .nil
    | _ :: _, _ :: _, _, _, _, _ => exact .nil
theorem kr_power_of_row_5 {ca : CA} {F : Hp} {ds : List D} {vs : List V} (r : Reps K ca F ds vs) : Reps K ca F (kd_power_of_row_5 ds) (kg_power_of_row_5 [] vs) := by
  match ds, vs, r with
  | [_], [_], .cons z0 .nil => exact .cons z0 .nil
  | [], [], _ => exact .nil
  | _ :: _ :: _, _ :: _ :: _, _ => exact .nil
end
end Q

namespace Q
open PySem PySem.Spec PyProof.Rows L2 Dl
section
variable {P : Program} {w : World} {K : PySem.W.Frag} {mg : Str → Option Value} {base : Heap}
theorem ok__law_hat (T : Txt K mg) (bf : BFa base mg (csOf T)) : FnOk P w K mg base (L2.CX P w) 1 T.f__law_hat.a T.f__law_hat.fd ["_law_script"] (spN K (caOf T P w) 1 F__law_hat) := by
  exact fn_N (own' := []) T.f__law_hat.F sc__law_hat (fun B hB cdv A outer s H E hr => (sv_one (sv_retL (ev_lst (ea_cons (ev_ice (ev_lc rfl (so := [("_law_cell", 1)]) sc__law_hat.nd (ei_val (ev_slP (ev_v 0) ep_none (ep_some ev_int))) (blkOk_by (N := n__law_hat) (sc := defScope s__law_hat) (by decide +kernel)) (fun B1 hL1 s H Ca cl fp => (eg_name (i := 1) sc__law_hat.nd (.inl (by decide)))) (fun B1 hL1 s H Ca cl fp => ets_nil) (fun B1 hL1 s H Ca cl fp => (ev_callT intC_ne oc_int T.n_int (ea_cons (ev_v 1) ea_nil))) bName_ne)) (ea_cons ev_int (ea_cons ev_int ea_nil)))))))
theorem ok__law_lot (T : Txt K mg) (bf : BFa base mg (csOf T)) : FnOk P w K mg base (L2.CX P w) 1 T.f__law_lot.a T.f__law_lot.fd ["_law_hat_here", "_law_many"] (spM K (caOf T P w) 2 F__law_lot) := by
  exact fn_M (own' := [0]) T.f__law_lot.F sc__law_lot (fun cdv B A outer s H E hr => (sv_cons (sv_if (et_cmp gtP_ne (oo_gtP hr) (ev_ixO 0 ev_int) ev_int) (sv_cons (sv_asg (i := 2) (own' := [0]) sc__law_lot.nd (ev_op (intD_ne modI_ne) oo_mod (ev_callT intC_ne oc_int T.n_int (ea_cons (ev_ixO 0 ev_int) ea_nil)) (ev_v 1)) (.inl (by decide))) (sv_cons (sv_set 0 (ev_op (intD_ne fdivI_ne) oo_fdiv (ev_callT intC_ne oc_int T.n_int (ea_cons (ev_ixO 0 ev_int) ea_nil)) (ev_v 1)) ev_int) (sv_one (sv_ret (ev_v 2))))) sv_nil) (sv_cons (sv_asg (i := 3) (own' := [0]) sc__law_lot.nd (ev_ixO 0 ev_int) (.inl (by decide))) (sv_cons (sv_set 0 (ev_op addP_ne oo_addP (ev_v 3) ev_int) ev_int) (sv_cons (sv_asg (i := 4) (own' := [0]) sc__law_lot.nd (ev_op addP_ne oo_addP (ev_op mulP_ne oo_mulP ev_int (ev_v 3)) ev_int) (.inl (by decide))) (sv_cons (sv_if (et_cmp neD_ne (oo_ne hr.units) (ev_ixO 0 ev_int) (ev_ice (ev_lst ea_nil))) (sv_one (sv_asg (i := 4) (own' := [0]) sc__law_lot.nd (ev_ix ixD_ne oo_ix (ev_ixO 0 ev_int) (ev_op (intD_ne modI_ne) oo_mod (ev_callT intC_ne oc_int T.n_int (ea_cons (ev_v 3) ea_nil)) (ev_callB lenP_ne oc_lenP T.n_len (ea_cons (ev_ixO 0 ev_int) ea_nil)))) (.inl (by decide)))) sv_nil) (sv_cons (sv_if (PW.pt (ew_and (et_cmp ltP_ne (oo_ltP hr) (ev_v 3) (ev_callB lenP_ne oc_lenP T.n_len (ea_cons (ev_ixO 0 ev_int) ea_nil))) (ew_and1 (et_cmp geP_ne (oo_geP hr) (ev_callB absD_ne oc_abs T.n_abs (ea_cons (ev_v 4) ea_nil)) (ev_op (intD_ne powI_ne) oo_pow ev_int ev_int))))) (sv_cons (sv_asg (i := 5) (own' := [0]) sc__law_lot.nd (ev_op addP_ne oo_addP (ev_op mulP_ne oo_mulP ev_int (ev_op (intD_ne subI_ne) oo_sub (ev_callB absD_ne oc_abs T.n_abs (ea_cons (ev_v 4) ea_nil)) (ev_op (intD_ne powI_ne) oo_pow ev_int ev_int))) (ev_callT intC_ne oc_int T.n_int (ea_cons (ev_cmp ltP_ne (oo_ltP hr) (ev_v 4) ev_int) ea_nil))) (.inl (by decide))) (sv_cons (sv_set 0 (ev_op (intD_ne fdivI_ne) oo_fdiv (ev_callT intC_ne oc_int T.n_int (ea_cons (ev_v 5) ea_nil)) (ev_v 1)) ev_int) (sv_one (sv_ret (ev_op (intD_ne modI_ne) oo_mod (ev_callT intC_ne oc_int T.n_int (ea_cons (ev_v 5) ea_nil)) (ev_v 1)))))) sv_nil) (sv_cons (sv_asg (i := 6) (own' := [0]) sc__law_lot.nd (ev_op (intD_ne modI_ne) oo_mod (ev_callT intC_ne oc_int T.n_int (ea_cons (ev_op (intD_ne powI_ne) oo_pow (ev_op addP_ne oo_addP (ev_op addP_ne oo_addP (ev_op (intD_ne modI_ne) oo_mod (ev_callT intC_ne oc_int T.n_int (ea_cons (ev_v 4) ea_nil)) ev_int) (ev_op mulP_ne oo_mulP ev_int (ev_v 3))) ev_int) ev_int) ea_nil)) ev_int) (.inl (by decide))) (sv_cons (sv_asg (i := 6) (own' := [0]) sc__law_lot.nd (ev_op (intD_ne modI_ne) oo_mod (ev_callT intC_ne oc_int T.n_int (ea_cons (ev_op (intD_ne powI_ne) oo_pow (ev_op addP_ne oo_addP (ev_op addP_ne oo_addP (ev_op mulP_ne oo_mulP (ev_v 6) (ev_op addP_ne oo_addP (ev_op mulP_ne oo_mulP ev_int (ev_v 3)) ev_int)) (ev_op mulP_ne oo_mulP (ev_op mulP_ne oo_mulP ev_int (ev_v 3)) (ev_v 3))) ev_int) ev_int) ea_nil)) ev_int) (.inl (by decide))) (sv_one (sv_ret (ev_op (intD_ne modI_ne) oo_mod (ev_callT intC_ne oc_int T.n_int (ea_cons (ev_op (intD_ne fdivI_ne) oo_fdiv (ev_v 6) ev_int) ea_nil)) (ev_v 1)))))))))))))
theorem ok__law_one (T : Txt K mg) (bf : BFa base mg (csOf T)) : FnOk P w K mg base (L2.CX P w) 4 T.f__law_one.a T.f__law_one.fd ["_law_hat_here", "_law_some"] (spM K (caOf T P w) 2 F__law_one) := by
  have G__law_lot := ok__law_lot (P := P) (w := w) (base := base) T bf
  exact fn_M (own' := [0]) T.f__law_one.F sc__law_one (fun cdv B A outer s H E hr => (sv_one (sv_ret (ev_ix ixD_ne oo_ix (ev_v 1) (ev_callM 0 G__law_lot (hr.mono (by decide)) T.f__law_lot.g T.f__law_lot.F.kp T.f__law_lot.b (pxT tk_of) (ea_cons (ev_callB lenP_ne oc_lenP T.n_len (ea_cons (ev_v 1) ea_nil)) ea_nil))))))
theorem ok__law_bad (T : Txt K mg) (bf : BFa base mg (csOf T)) : FnOk P w K mg base (L2.CX P w) 7 T.f__law_bad.a T.f__law_bad.fd ["_law_hat_here", "_law_least", "_law_most"] (spM K (caOf T P w) 3 F__law_bad) := by
  have G__law_one := ok__law_one (P := P) (w := w) (base := base) T bf
  exact fn_M (own' := [0]) T.f__law_bad.F sc__law_bad (fun cdv B A outer s H E hr => (sv_one (sv_ret (ev_callM 0 G__law_one (hr.mono (by decide)) T.f__law_one.g T.f__law_one.F.kp T.f__law_one.b (pxT tk_of) (ea_cons (ev_ice (ev_lst (ea_cons (ev_op (intD_ne subI_ne) oo_sub (ev_v 1) ev_int) (ea_cons (ev_op addP_ne oo_addP (ev_v 2) ev_int) (ea_cons ev_non (ea_cons ev_bl (ea_cons ev_bl (ea_cons (ev_callT strI_ne oc_str T.n_str (ea_cons (ev_v 1) ea_nil)) (ea_cons (ev_ice (ev_lst (ea_cons (ev_v 1) ea_nil))) (ea_cons (ev_tup (ea_cons (ev_v 2) ea_nil)) (ea_cons (ev_op (intD_ne powI_ne) oo_pow ev_int ev_int) (ea_cons (ev_un negD_ne oo_neg (ev_op (intD_ne powI_ne) oo_pow ev_int ev_int)) (ea_cons (ev_ice ev_dct0) (ea_cons ev_str ea_nil)))))))))))))) ea_nil)))))
theorem ok__law_good (T : Txt K mg) (bf : BFa base mg (csOf T)) : FnOk P w K mg base (L2.CX P w) 7 T.f__law_good.a T.f__law_good.fd ["_law_hat_here", "_law_least", "_law_most"] (spM K (caOf T P w) 3 F__law_good) := by
  have G__law_one := ok__law_one (P := P) (w := w) (base := base) T bf
  have G__law_lot := ok__law_lot (P := P) (w := w) (base := base) T bf
  exact fn_M (own' := [0]) T.f__law_good.F sc__law_good (fun cdv B A outer s H E hr => (sv_one (sv_ret (ev_callM 0 G__law_one (hr.mono (by decide)) T.f__law_one.g T.f__law_one.F.kp T.f__law_one.b (pxT tk_of) (ea_cons (ev_ice (ev_lst (ea_cons (ev_v 1) (ea_cons (ev_v 2) (ea_cons (ev_op addP_ne oo_addP (ev_v 1) (ev_callM 0 G__law_lot (hr.mono (by decide)) T.f__law_lot.g T.f__law_lot.F.kp T.f__law_lot.b (pxT tk_of) (ea_cons (ev_op addP_ne oo_addP (ev_op (intD_ne subI_ne) oo_sub (ev_v 2) (ev_v 1)) ev_int) ea_nil))) ea_nil))))) ea_nil)))))
theorem ok__law_within (T : Txt K mg) (bf : BFa base mg (csOf T)) : FnOk P w K mg base (L2.CX P w) 1 T.f__law_within.a T.f__law_within.fd ["_law_value", "_law_least", "_law_most"] (spD K (caOf T P w) 3 F__law_within) := by
  exact fn_D (own' := []) T.f__law_within.F sc__law_within (fun B hB cdv A outer s H E hr => (sv_one (sv_ret (ev_and (ev_callB isiD_ne (oc_isi (clsC T) (subG_ok T)) T.n_isinstance (ea_cons (ev_v 0) (ea_cons (ev_k (pe_bltn (v := .ty "int") (by rfl) T.n_int (by decide +kernel) rfl) fun _ => .ty _) ea_nil))) (ev_and (ev_not (ev_callB isiD_ne (oc_isi (clsC T) (subG_ok T)) T.n_isinstance (ea_cons (ev_v 0) (ea_cons (ev_k (pe_bltn (v := .ty "bool") (by rfl) T.n_bool (by decide +kernel) rfl) fun _ => .ty _) ea_nil)))) (ev_and1 (ev_ch (ev_v 1) (ec_link leP_ne (oo_leP hr) (ev_v 0) (ec_last leP_ne (oo_leP hr) (ev_v 2))))))))))
theorem ok__law_spoilt (T : Txt K mg) (bf : BFa base mg (csOf T)) : FnOk P w K mg base (L2.CX P w) 10 T.f__law_spoilt.a T.f__law_spoilt.fd ["_law_hat_here", "_law_bounds"] (spM K (caOf T P w) 2 F__law_spoilt) := by
  have G__law_lot := ok__law_lot (P := P) (w := w) (base := base) T bf
  have G__law_bad := ok__law_bad (P := P) (w := w) (base := base) T bf
  have G__law_good := ok__law_good (P := P) (w := w) (base := base) T bf
  have G__law_within := ok__law_within (P := P) (w := w) (base := base) T bf
  exact fn_M (own' := [0]) T.f__law_spoilt.F sc__law_spoilt (fun cdv B A outer s H E hr => (sv_cons (sv_par2F (i := 2) (j := 3) (k1 := true) (k2 := false) (own' := [2, 0]) rfl sc__law_spoilt.nd (eaf_N (ev_lc rfl (so := [("_law_name", 8), ("_law_least", 9), ("_law_most", 10)]) sc__law_spoilt.nd (ei_val (ev_v 1)) (blkOk_by (N := n__law_spoilt) (sc := defScope s__law_spoilt) (by decide +kernel)) (fun B1 hL1 s H Ca cl fp => (eg_seq rfl (egs_cons (eg_name (i := 8) sc__law_spoilt.nd (.inl (by decide))) (egs_cons (eg_name (i := 9) sc__law_spoilt.nd (.inl (by decide))) (egs_cons (eg_name (i := 10) sc__law_spoilt.nd (.inl (by decide))) egs_nil))))) (fun B1 hL1 s H Ca cl fp => ets_nil) (fun B1 hL1 s H Ca cl fp => (ev_callM 0 G__law_good (hr.mono (by decide)) T.f__law_good.g T.f__law_good.F.kp T.f__law_good.b pxF (ea_cons (ev_v 9) (ea_cons (ev_v 10) ea_nil)))) (bSeq_ne (bCons_ne bName_ne (bCons_ne bName_ne (bCons_ne bName_ne bNil_ne))))) (fun B2 hF2 => (eaf_E ev_non eaf_nil))) (.inl (by decide)) (.inl (by decide))) (sv_cons (sv_for ps_of rfl (ei_range1 T.n_range (ea_cons (ev_callM 0 G__law_lot (hr.mono (by decide)) T.f__law_lot.g T.f__law_lot.F.kp T.f__law_lot.b (pxT tk_of) (ea_cons ev_int ea_nil)) ea_nil)) (eg_name (i := 4) sc__law_spoilt.nd (.inl (by decide))) bName_ne (sv_cons (sv_asg (i := 5) (own' := [2, 0]) sc__law_spoilt.nd (ev_callM 0 G__law_lot (hr.mono (by decide)) T.f__law_lot.g T.f__law_lot.F.kp T.f__law_lot.b (pxT tk_of) (ea_cons (ev_callB lenP_ne oc_lenP T.n_len (ea_cons (ev_v 1) ea_nil)) ea_nil)) (.inl (by decide))) (sv_one (sv_set 2 (ev_callM 0 G__law_bad (hr.mono (by decide)) T.f__law_bad.g T.f__law_bad.F.kp T.f__law_bad.b (pxT tk_of) (ea_cons (ev_ix ixD_ne oo_ix (ev_ix ixD_ne oo_ix (ev_v 1) (ev_v 5)) ev_int) (ea_cons (ev_ix ixD_ne oo_ix (ev_ix ixD_ne oo_ix (ev_v 1) (ev_v 5)) ev_int) ea_nil))) (ev_v 5))))) (sv_cons (sv_fz (own1 := [0]) 2 (sv_for ps_of rfl (ei_zipP T.n_zip (ea_cons (ev_v 2) (ea_cons (ev_v 1) ea_nil))) (eg_seq rfl (egs_cons (eg_name (i := 6) sc__law_spoilt.nd (.inl (by decide))) (egs_cons (eg_name (i := 7) sc__law_spoilt.nd (.inl (by decide))) egs_nil))) (bSeq_ne (bCons_ne bName_ne (bCons_ne bName_ne bNil_ne))) (sv_one (sv_if (PW.pt (ew_and (et_cmp isD_ne oo_is (ev_v 3) ev_non) (ew_and1 (et_not (et_val (ev_call G__law_within (hr.mono (by decide)) T.f__law_within.g T.f__law_within.F.kp T.f__law_within.b (pxT tk_of) (ea_cons (ev_v 6) (ea_cons (ev_ix ixD_ne oo_ix (ev_v 7) ev_int) (ea_cons (ev_ix ixD_ne oo_ix (ev_v 7) ev_int) ea_nil))))))))) (sv_one (sv_asg (i := 3) (own' := [0]) sc__law_spoilt.nd (ev_tup (ea_cons ev_str (ea_cons (ev_ix ixD_ne oo_ix (ev_v 7) ev_int) ea_nil))) (.inl (by decide)))) sv_nil))) (.inl (by decide))) (sv_one (sv_ret (ev_tup (ea_cons (ev_v 2) (ea_cons (ev_v 3) ea_nil)))))))))
theorem gv__law_heard (T : Txt K mg) {q : Str} (X : Cx) (hK : X.K = K) (hm : X.mg = mg) (hP : X.prog = P) (hw : X.w = w) : LamX.GivesTo X n__law_heard "_law_heard" (defScope s__law_heard) T.f__law_heard.a T.f__law_heard.cd (defBody s__law_heard) "_law_ask" q (THd X.K (caOf T P w) g__law_heard) := by
  subst hK hm hP hw
  exact
  heard_gives (i := 2) sc__law_heard.nd rfl rfl (by decide) rfl rfl (fun _ => rfl) (by decide) (fun _ => rfl) (fun s H => ⟨rfl, rfl, .inl T.x_LikeError.g⟩) rfl rfl
    (fun c fs d h => by
      unfold g__law_heard at h
      split at h
      · exact T.em_BadNumber_LikeError
      · cases h)
    (fun s H a oe cls dic pn c fs d hz hf h => by
      unfold g__law_heard at h
      split at h
      · obtain ⟨d0, h0, h⟩ := Option.bind_eq_some_iff.mp h
        cases h
        exact (sx_consO SE.stl (SE.set (by decide)) (sx_asg sc__law_heard.nd (ex_if SE.stl (ex_test (ex_isi T.xi_BadNumber hz hf T.ki_BadNumber_BadNumber (pe_glob (v := .ref T.x_BadNumber.a) rfl T.x_BadNumber.g rfl) (fun _ r => r) T.n_isinstance)) (fun _ => (ex_tup SE.stl (ex_cons SE.stl (ex_k SE.stl pe_str fun _ => .str _) (ex_cons SE.stl (ex_fld T.xf_BadNumber (T.ex_BadNumber.no "part" (by decide)) hz hf h0) (ex_nil SE.stl))) (by show 2 ≤ sizeLine; rw [sizeLine_eq]; decide))) (fun z => nomatch z))) (sx_nil SE.stl))
      · cases h)
theorem ok_is_integer (T : Txt K mg) (bf : BFa base mg (csOf T)) : FnOk P w K mg base (L2.CX P w) 1 T.f_is_integer.a T.f_is_integer.fd ["value"] (spD K (caOf T P w) 1 F_is_integer) := by
  exact fn_D (own' := []) T.f_is_integer.F sc_is_integer (fun B hB cdv A outer s H E hr => (sv_one (sv_ret (ev_and (ev_callB isiD_ne (oc_isi (clsC T) (subG_ok T)) T.n_isinstance (ea_cons (ev_v 0) (ea_cons (ev_k (pe_bltn (v := .ty "int") (by rfl) T.n_int (by decide +kernel) rfl) fun _ => .ty _) ea_nil))) (ev_and1 (ev_not (ev_callB isiD_ne (oc_isi (clsC T) (subG_ok T)) T.n_isinstance (ea_cons (ev_v 0) (ea_cons (ev_k (pe_bltn (v := .ty "bool") (by rfl) T.n_bool (by decide +kernel) rfl) fun _ => .ty _) ea_nil)))))))))
theorem ok_is_within (T : Txt K mg) (bf : BFa base mg (csOf T)) : FnOk P w K mg base (L2.CX P w) 4 T.f_is_within.a T.f_is_within.fd ["value", "least", "most"] (spD K (caOf T P w) 3 F_is_within) := by
  have G_is_integer := ok_is_integer (P := P) (w := w) (base := base) T bf
  exact fn_D (own' := []) T.f_is_within.F sc_is_within (fun B hB cdv A outer s H E hr => (sv_cons (sv_if (et_not (et_val (ev_call G_is_integer (hr.mono (by decide)) T.f_is_integer.g T.f_is_integer.F.kp T.f_is_integer.b (pxT tk_of) (ea_cons (ev_v 0) ea_nil)))) (sv_one (sv_ret ev_bl)) sv_nil) (sv_one (sv_ret (ev_and (ev_or (ev_cmp isD_ne oo_is (ev_v 1) ev_non) (ev_and1 (ev_cmp geP_ne (oo_geP hr) (ev_v 0) (ev_v 1)))) (ev_and1 (ev_or (ev_cmp isD_ne oo_is (ev_v 2) ev_non) (ev_and1 (ev_cmp leP_ne (oo_leP hr) (ev_v 0) (ev_v 2))))))))))
theorem ok_need_within (T : Txt K mg) (bf : BFa base mg (csOf T)) : FnOk P w K mg base (L2.CX P w) 7 T.f_need_within.a T.f_need_within.fd ["part", "value", "least", "most"] (spD K (caOf T P w) 4 F_need_within) := by
  have G_is_within := ok_is_within (P := P) (w := w) (base := base) T bf
  exact fn_D (own' := []) T.f_need_within.F sc_need_within (fun B hB cdv A outer s H E hr => (sv_one (sv_if (et_not (et_val (ev_call G_is_within (hr.mono (by decide)) T.f_is_within.g T.f_is_within.F.kp T.f_is_within.b (pxT tk_of) (ea_cons (ev_v 1) (ea_cons (ev_v 2) (ea_cons (ev_v 3) ea_nil)))))) (sv_one (sv_raise1 (c := 9) T.ex_BadNumber (fx_BadNumber__init__ T) rfl (hr.mono (by decide)) T.f_BadNumber__init__.b T.x_BadNumber.g tk_of passL (ea_cons (ev_v 0) ea_nil))) sv_nil)))
theorem ok_need_numbers (T : Txt K mg) (bf : BFa base mg (csOf T)) : FnOk P w K mg base (L2.CX P w) 10 T.f_need_numbers.a T.f_need_numbers.fd ["named", "most"] (spD K (caOf T P w) 2 F_need_numbers) := by
  have G_need_within := ok_need_within (P := P) (w := w) (base := base) T bf
  exact fn_D (own' := []) T.f_need_numbers.F sc_need_numbers (fun B hB cdv A outer s H E hr => (sv_one (sv_for ps_of rfl (ei_val (ev_v 0)) (eg_seq rfl (egs_cons (eg_name (i := 2) sc_need_numbers.nd (.inl (by decide))) (egs_cons (eg_name (i := 3) sc_need_numbers.nd (.inl (by decide))) egs_nil))) (bSeq_ne (bCons_ne bName_ne (bCons_ne bName_ne bNil_ne))) (sv_one (sv_expr (ev_call G_need_within (hr.mono (by decide)) T.f_need_within.g T.f_need_within.F.kp T.f_need_within.b (pxT tk_of) (ea_cons (ev_v 2) (ea_cons (ev_v 3) (ea_cons ev_int (ea_cons (ev_v 1) ea_nil))))))))))
end
end Q

namespace Q
open PySem PySem.Spec PyProof.Rows L2 Dl
section
variable {P : Program} {w : World} {K : PySem.W.Frag} {mg : Str → Option Value} {base : Heap}
theorem ok_need_power (T : Txt K mg) (bf : BFa base mg (csOf T)) : FnOk P w K mg base (L2.CX P w) 10 T.f_need_power.a T.f_need_power.fd ["power"] (spD K (caOf T P w) 1 F_need_power) := by
  have G_need_within := ok_need_within (P := P) (w := w) (base := base) T bf
  exact fn_D (own' := []) T.f_need_power.F sc_need_power (fun B hB cdv A outer s H E hr => (sv_one (sv_expr (ev_call G_need_within (hr.mono (by decide)) T.f_need_within.g T.f_need_within.F.kp T.f_need_within.b (pxT tk_of) (ea_cons ev_str (ea_cons (ev_v 0) (ea_cons (ev_k (pe_glob (v := .int (-80)) rfl T.c_LEAST_POWER ⟨_, rfl⟩) fun _ => .int _) (ea_cons (ev_k (pe_glob (v := .int (80)) rfl T.c_MOST_POWER ⟨_, rfl⟩) fun _ => .int _) ea_nil))))))))
theorem ok_raised (T : Txt K mg) (bf : BFa base mg (csOf T)) : FnOk P w K mg base (L2.CX P w) 1 T.f_raised.a T.f_raised.fd ["number", "times"] (spD K (caOf T P w) 2 F_raised) := by
  exact fn_D (own' := []) T.f_raised.F sc_raised (fun B hB cdv A outer s H E hr => (sv_cons (sv_asg (i := 2) (own' := []) sc_raised.nd ev_int (.inl (by decide))) (sv_cons (sv_while 1000 ps_of (et_cmp gtP_ne (oo_gtP hr) (ev_v 1) ev_int) (sv_cons (sv_if (et_tru (ev_op (intD_ne andI_ne) oo_and (ev_v 1) ev_int)) (sv_one (sv_asg (i := 2) (own' := []) sc_raised.nd (ev_op mulP_ne oo_mulP (ev_v 2) (ev_v 0)) (.inl (by decide)))) sv_nil) (sv_cons (sv_asg (i := 0) (own' := []) sc_raised.nd (ev_op mulP_ne oo_mulP (ev_v 0) (ev_v 0)) (.inr hB)) (sv_one (sv_asg (i := 1) (own' := []) sc_raised.nd (ev_op (intD_ne shrI_ne) oo_shr (ev_v 1) ev_int) (.inl (by decide))))))) (sv_one (sv_ret (ev_v 2))))))
theorem okn_whole_sum (T : Txt K mg) (bf : BFa base mg (csOf T)) : ∀ n : Nat, n ≤ 60 → FnOk P w K mg base (L2.CX P w) (4 + n) T.f_whole_sum.a T.f_whole_sum.fd ["a", "b", "c", "d", "power"] (spD K (caOf T P w) 5 (FF_whole_sum n))
  | 0, _ => T.f_whole_sum.F.okX sc_whole_sum (fun vs H Q E ⟨_, _, _, _, _, h⟩ => h.elim) (fun _ _ _ _ _ _ _ _ _ ⟨_, _, _, _, _, h⟩ => h.elim)
  | n + 1, hn => by
    have G_raised := ok_raised (P := P) (w := w) (base := base) T bf
    have G_whole_sum := okn_whole_sum T bf n (by omega)
    exact fn_D (own' := []) T.f_whole_sum.F sc_whole_sum (fun B hB cdv A outer s H E hr => (sv_cons (sv_if (et_cmp ltP_ne (oo_ltP hr) (ev_v 4) ev_int) (sv_one (sv_ret (ev_call G_whole_sum (hr.mono (Nat.le_refl _)) T.f_whole_sum.g T.f_whole_sum.F.kp T.f_whole_sum.b (pxT tk_of) (ea_cons (ev_op mulP_ne oo_mulP (ev_op mulP_ne oo_mulP (ev_v 1) (ev_v 2)) (ev_v 3)) (ea_cons (ev_op mulP_ne oo_mulP (ev_op mulP_ne oo_mulP (ev_v 0) (ev_v 2)) (ev_v 3)) (ea_cons (ev_op mulP_ne oo_mulP (ev_op mulP_ne oo_mulP (ev_v 0) (ev_v 1)) (ev_v 3)) (ea_cons (ev_op mulP_ne oo_mulP (ev_op mulP_ne oo_mulP (ev_v 0) (ev_v 1)) (ev_v 2)) (ea_cons (ev_un negD_ne oo_neg (ev_v 4)) ea_nil)))))))) sv_nil) (sv_one (sv_ret (ev_op (intD_ne subI_ne) oo_sub (ev_op (intD_ne subI_ne) oo_sub (ev_op addP_ne oo_addP (ev_call G_raised (hr.mono (by simp only [Nat.add_eq]; omega)) T.f_raised.g T.f_raised.F.kp T.f_raised.b (pxT tk_of) (ea_cons (ev_v 0) (ea_cons (ev_v 4) ea_nil))) (ev_call G_raised (hr.mono (by simp only [Nat.add_eq]; omega)) T.f_raised.g T.f_raised.F.kp T.f_raised.b (pxT tk_of) (ea_cons (ev_v 3) (ea_cons (ev_v 4) ea_nil)))) (ev_call G_raised (hr.mono (by simp only [Nat.add_eq]; omega)) T.f_raised.g T.f_raised.F.kp T.f_raised.b (pxT tk_of) (ea_cons (ev_v 1) (ea_cons (ev_v 4) ea_nil)))) (ev_call G_raised (hr.mono (by simp only [Nat.add_eq]; omega)) T.f_raised.g T.f_raised.F.kp T.f_raised.b (pxT tk_of) (ea_cons (ev_v 2) (ea_cons (ev_v 4) ea_nil))))))))
theorem ok_whole_sum (T : Txt K mg) (bf : BFa base mg (csOf T)) : FnOk P w K mg base (L2.CX P w) 6 T.f_whole_sum.a T.f_whole_sum.fd ["a", "b", "c", "d", "power"] (spD K (caOf T P w) 5 F_whole_sum) := okn_whole_sum T bf 2 (by decide)
theorem ok_sign_at (T : Txt K mg) (bf : BFa base mg (csOf T)) : FnOk P w K mg base (L2.CX P w) 13 T.f_sign_at.a T.f_sign_at.fd ["a", "b", "c", "d", "power"] (spD K (caOf T P w) 5 F_sign_at) := by
  have G_need_numbers := ok_need_numbers (P := P) (w := w) (base := base) T bf
  have G_need_power := ok_need_power (P := P) (w := w) (base := base) T bf
  have G_whole_sum := ok_whole_sum (P := P) (w := w) (base := base) T bf
  exact fn_D (own' := []) T.f_sign_at.F sc_sign_at (fun B hB cdv A outer s H E hr => (sv_cons (sv_expr (ev_call G_need_numbers (hr.mono (by decide)) T.f_need_numbers.g T.f_need_numbers.F.kp T.f_need_numbers.b (pxT tk_of) (ea_cons (ev_ice (ev_lst (ea_cons (ev_tup (ea_cons ev_str (ea_cons (ev_v 0) ea_nil))) (ea_cons (ev_tup (ea_cons ev_str (ea_cons (ev_v 1) ea_nil))) (ea_cons (ev_tup (ea_cons ev_str (ea_cons (ev_v 2) ea_nil))) (ea_cons (ev_tup (ea_cons ev_str (ea_cons (ev_v 3) ea_nil))) ea_nil)))))) (ea_cons (ev_k (pe_glob (v := .int (1000000)) rfl T.c_MOST_NUMBER ⟨_, rfl⟩) fun _ => .int _) ea_nil)))) (sv_cons (sv_expr (ev_call G_need_power (hr.mono (by decide)) T.f_need_power.g T.f_need_power.F.kp T.f_need_power.b (pxT tk_of) (ea_cons (ev_v 4) ea_nil))) (sv_cons (sv_asg (i := 5) (own' := []) sc_sign_at.nd (ev_call G_whole_sum (hr.mono (by decide)) T.f_whole_sum.g T.f_whole_sum.F.kp T.f_whole_sum.b (pxT tk_of) (ea_cons (ev_v 0) (ea_cons (ev_v 1) (ea_cons (ev_v 2) (ea_cons (ev_v 3) (ea_cons (ev_v 4) ea_nil)))))) (.inl (by decide))) (sv_cons (sv_if (et_cmp eqD_ne (oo_eq hr.units) (ev_v 5) ev_int) (sv_one (sv_ret ev_int)) sv_nil) (sv_one (sv_ret (ev_if (et_cmp gtP_ne (oo_gtP hr) (ev_v 5) ev_int) ev_int (ev_un negD_ne oo_neg ev_int)))))))))
theorem ok_is_by_power (T : Txt K mg) (bf : BFa base mg (csOf T)) : FnOk P w K mg base (L2.CX P w) 9 T.f_is_by_power.a T.f_is_by_power.fd ["a", "b", "c", "d", "power"] (spD K (caOf T P w) 5 F_is_by_power) := by
  have G_whole_sum := ok_whole_sum (P := P) (w := w) (base := base) T bf
  exact fn_D (own' := []) T.f_is_by_power.F sc_is_by_power (fun B hB cdv A outer s H E hr => (sv_cons (sv_if (et_cmp eqD_ne (oo_eq hr.units) (ev_v 4) ev_int) (sv_one (sv_ret (ev_cmp eqD_ne (oo_eq hr.units) (ev_op mulP_ne oo_mulP (ev_v 0) (ev_v 3)) (ev_op mulP_ne oo_mulP (ev_v 1) (ev_v 2))))) sv_nil) (sv_one (sv_ret (ev_cmp eqD_ne (oo_eq hr.units) (ev_call G_whole_sum (hr.mono (by decide)) T.f_whole_sum.g T.f_whole_sum.F.kp T.f_whole_sum.b (pxT tk_of) (ea_cons (ev_v 0) (ea_cons (ev_v 1) (ea_cons (ev_v 2) (ea_cons (ev_v 3) (ea_cons (ev_v 4) ea_nil)))))) ev_int)))))
theorem ok_is_by (T : Txt K mg) (bf : BFa base mg (csOf T)) : FnOk P w K mg base (L2.CX P w) 13 T.f_is_by.a T.f_is_by.fd ["a", "b", "c", "d", "power"] (spD K (caOf T P w) 5 F_is_by) := by
  have G_need_numbers := ok_need_numbers (P := P) (w := w) (base := base) T bf
  have G_need_power := ok_need_power (P := P) (w := w) (base := base) T bf
  have G_is_by_power := ok_is_by_power (P := P) (w := w) (base := base) T bf
  exact fn_D (own' := []) T.f_is_by.F sc_is_by (fun B hB cdv A outer s H E hr => (sv_cons (sv_expr (ev_call G_need_numbers (hr.mono (by decide)) T.f_need_numbers.g T.f_need_numbers.F.kp T.f_need_numbers.b (pxT tk_of) (ea_cons (ev_ice (ev_lst (ea_cons (ev_tup (ea_cons ev_str (ea_cons (ev_v 0) ea_nil))) (ea_cons (ev_tup (ea_cons ev_str (ea_cons (ev_v 1) ea_nil))) (ea_cons (ev_tup (ea_cons ev_str (ea_cons (ev_v 2) ea_nil))) (ea_cons (ev_tup (ea_cons ev_str (ea_cons (ev_v 3) ea_nil))) ea_nil)))))) (ea_cons (ev_k (pe_glob (v := .int (1000000)) rfl T.c_MOST_NUMBER ⟨_, rfl⟩) fun _ => .int _) ea_nil)))) (sv_cons (sv_expr (ev_call G_need_power (hr.mono (by decide)) T.f_need_power.g T.f_need_power.F.kp T.f_need_power.b (pxT tk_of) (ea_cons (ev_v 4) ea_nil))) (sv_one (sv_ret (ev_call G_is_by_power (hr.mono (by decide)) T.f_is_by_power.g T.f_is_by_power.F.kp T.f_is_by_power.b (pxT tk_of) (ea_cons (ev_v 0) (ea_cons (ev_v 1) (ea_cons (ev_v 2) (ea_cons (ev_v 3) (ea_cons (ev_v 4) ea_nil)))))))))))
theorem ok__law_fours_right (T : Txt K mg) (bf : BFa base mg (csOf T)) : FnOk P w K mg base (L2.CX P w) 16 T.f__law_fours_right.a T.f__law_fours_right.fd ["_law_hat_here"] (spM K (caOf T P w) 1 F__law_fours_right) := by
  have G__law_spoilt := ok__law_spoilt (P := P) (w := w) (base := base) T bf
  have G_sign_at := ok_sign_at (P := P) (w := w) (base := base) T bf
  have G_is_by := ok_is_by (P := P) (w := w) (base := base) T bf
  exact fn_MC (own' := [0]) T.f__law_fours_right.F T.cd__law_fours_right sc__law_fours_right (fun B A outer s H E hr => (sv_cons (sv_asg (i := 1) (own' := [0]) sc__law_fours_right.nd (ev_op addP_ne oo_addP (ev_ice (ev_lc rfl (so := [("_law_name", 11)]) sc__law_fours_right.nd (ei_val (ev_tup (ea_cons ev_str (ea_cons ev_str (ea_cons ev_str (ea_cons ev_str ea_nil)))))) (blkOk_by (N := n__law_fours_right) (sc := defScope s__law_fours_right) (by decide +kernel)) (fun B1 hL1 s H Ca cl fp => (eg_name (i := 11) sc__law_fours_right.nd (.inl (by decide)))) (fun B1 hL1 s H Ca cl fp => ets_nil) (fun B1 hL1 s H Ca cl fp => (ev_tup (ea_cons (ev_v 11) (ea_cons ev_int (ea_cons ev_int ea_nil))))) bName_ne)) (ev_ice (ev_lst (ea_cons (ev_tup (ea_cons ev_str (ea_cons (ev_un negD_ne oo_neg ev_int) (ea_cons ev_int ea_nil)))) ea_nil)))) (.inl (by decide))) (sv_cons (sv_tgt (ev_callM 0 G__law_spoilt (hr.mono (by decide)) T.f__law_spoilt.g T.f__law_spoilt.F.kp T.f__law_spoilt.b (pxT tk_of) (ea_cons (ev_v 1) ea_nil)) (eg_seq rfl (egs_cons (eg_name (i := 2) sc__law_fours_right.nd (.inl (by decide))) (egs_cons (eg_name (i := 3) sc__law_fours_right.nd (.inl (by decide))) egs_nil))) (bSeq_ne (bCons_ne bName_ne (bCons_ne bName_ne bNil_ne)))) (sv_cons (sv_tgt (ev_v 2) (eg_seq rfl (egs_cons (eg_name (i := 6) sc__law_fours_right.nd (.inl (by decide))) (egs_cons (eg_name (i := 7) sc__law_fours_right.nd (.inl (by decide))) (egs_cons (eg_name (i := 8) sc__law_fours_right.nd (.inl (by decide))) (egs_cons (eg_name (i := 9) sc__law_fours_right.nd (.inl (by decide))) (egs_cons (eg_name (i := 10) sc__law_fours_right.nd (.inl (by decide))) egs_nil)))))) (bSeq_ne (bCons_ne bName_ne (bCons_ne bName_ne (bCons_ne bName_ne (bCons_ne bName_ne (bCons_ne bName_ne bNil_ne))))))) (sv_cons (sv_if (et_cmp neD_ne (oo_ne hr.units) (ev_look (fun B2 hK2 => (ev_heard (k := 13) rfl T.f__law_heard.g T.f__law_heard.kp T.f__law_heard.lk T.f__law_heard.hc T.f__law_heard.b sc__law_heard rfl (.inl rfl) (gv__law_heard T _ rfl rfl rfl rfl) (tb__law_fours_right T bf) rfl (mem__law_fours_right T) (uq__law_fours_right T) (hr.mono (by decide)) (LamX.lamS_by (sc := defScope s__law_fours_right) (by decide +kernel)) rfl (fun _ _ _ _ _ => rfl) (fun A outer s H E f c' hr B hm => (ev_call G_sign_at (hr.mono (by decide)) T.f_sign_at.g T.f_sign_at.F.kp T.f_sign_at.b (pxT (takes_of rfl rfl rfl rfl)) (ea_cons (ev_v 6) (ea_cons (ev_v 7) (ea_cons (ev_v 8) (ea_cons (ev_v 9) (ea_cons (ev_v 10) ea_nil)))))))))) (ev_v 3)) (sv_one (sv_ret ev_bl)) sv_nil) (sv_cons (sv_if (et_cmp neD_ne (oo_ne hr.units) (ev_look (fun B3 hK3 => (ev_heard (k := 13) rfl T.f__law_heard.g T.f__law_heard.kp T.f__law_heard.lk T.f__law_heard.hc T.f__law_heard.b sc__law_heard rfl (.inl rfl) (gv__law_heard T _ rfl rfl rfl rfl) (tb__law_fours_right T bf) rfl (mem__law_fours_right T) (uq__law_fours_right T) (hr.mono (by decide)) (LamX.lamS_by (sc := defScope s__law_fours_right) (by decide +kernel)) rfl (fun _ _ _ _ _ => rfl) (fun A outer s H E f c' hr B hm => (ev_callK G_is_by (hr.mono (by decide)) T.f_is_by.g T.f_is_by.F.kp (kb_is_by_0 T) (fun F ds vs r => kr_is_by_0 r) (pxT (takes_of rfl rfl rfl rfl)) (ek_cons (ev_v 10) (ek_cons (ev_v 9) (ek_cons (ev_v 8) (ek_cons (ev_v 7) (ek_cons (ev_v 6) ek_nil)))))))))) (ev_v 3)) (sv_one (sv_ret ev_bl)) sv_nil) (sv_cons (sv_if (et_cmp isnD_ne oo_isn (ev_v 3) ev_non) (sv_one (sv_ret ev_bl)) sv_nil) (sv_cons (sv_par2 (i := 4) (j := 5) (own' := [0]) rfl sc__law_fours_right.nd (ea_cons (ev_callK G_sign_at (hr.mono (by decide)) T.f_sign_at.g T.f_sign_at.F.kp (kb_sign_at_1 T) (fun F ds vs r => kr_sign_at_1 r) (pxT tk_of) (ek_cons (ev_v 9) (ek_cons (ev_v 6) (ek_cons (ev_v 10) (ek_cons (ev_v 7) (ek_cons (ev_v 8) ek_nil)))))) (ea_cons (ev_call G_is_by (hr.mono (by decide)) T.f_is_by.g T.f_is_by.F.kp T.f_is_by.b (pxT tk_of) (ea_cons (ev_v 6) (ea_cons (ev_v 7) (ea_cons (ev_v 8) (ea_cons (ev_v 9) (ea_cons (ev_v 10) ea_nil)))))) ea_nil)) (.inl (by decide)) (.inl (by decide))) (sv_one (sv_ret (ev_and (ev_callB isiD_ne (oc_isi (clsC T) (subG_ok T)) T.n_isinstance (ea_cons (ev_v 4) (ea_cons (ev_k (pe_bltn (v := .ty "int") (by rfl) T.n_int (by decide +kernel) rfl) fun _ => .ty _) ea_nil))) (ev_and (ev_not (ev_callB isiD_ne (oc_isi (clsC T) (subG_ok T)) T.n_isinstance (ea_cons (ev_v 4) (ea_cons (ev_k (pe_bltn (v := .ty "bool") (by rfl) T.n_bool (by decide +kernel) rfl) fun _ => .ty _) ea_nil)))) (ev_and (ev_cmp inD_ne (oo_in (room65 hr)) (ev_v 4) (ev_tup (ea_cons (ev_un negD_ne oo_neg ev_int) (ea_cons ev_int (ea_cons ev_int ea_nil))))) (ev_and1 (ev_callB isiD_ne (oc_isi (clsC T) (subG_ok T)) T.n_isinstance (ea_cons (ev_v 5) (ea_cons (ev_k (pe_bltn (v := .ty "bool") (by rfl) T.n_bool (by decide +kernel) rfl) fun _ => .ty _) ea_nil)))))))))))))))))
theorem ok_fourth_quotient (T : Txt K mg) (bf : BFa base mg (csOf T)) : FnOk P w K mg base (L2.CX P w) 4 T.f_fourth_quotient.a T.f_fourth_quotient.fd ["a", "b", "c", "power"] (spD K (caOf T P w) 4 F_fourth_quotient) := by
  have G_raised := ok_raised (P := P) (w := w) (base := base) T bf
  exact fn_D (own' := []) T.f_fourth_quotient.F sc_fourth_quotient (fun B hB cdv A outer s H E hr => (sv_cons (sv_if (et_cmp eqD_ne (oo_eq hr.units) (ev_v 3) ev_int) (sv_one (sv_ret (ev_tup (ea_cons ev_int (ea_cons (ev_op mulP_ne oo_mulP (ev_v 1) (ev_v 2)) (ea_cons (ev_v 0) ea_nil)))))) sv_nil) (sv_cons (sv_if (et_cmp gtP_ne (oo_gtP hr) (ev_v 3) ev_int) (sv_one (sv_par3 (i := 4) (j := 5) (l := 6) (own' := []) rfl sc_fourth_quotient.nd (ea_cons (ev_v 3) (ea_cons (ev_op (intD_ne subI_ne) oo_sub (ev_op addP_ne oo_addP (ev_call G_raised (hr.mono (by decide)) T.f_raised.g T.f_raised.F.kp T.f_raised.b (pxT tk_of) (ea_cons (ev_v 1) (ea_cons (ev_v 3) ea_nil))) (ev_call G_raised (hr.mono (by decide)) T.f_raised.g T.f_raised.F.kp T.f_raised.b (pxT tk_of) (ea_cons (ev_v 2) (ea_cons (ev_v 3) ea_nil)))) (ev_call G_raised (hr.mono (by decide)) T.f_raised.g T.f_raised.F.kp T.f_raised.b (pxT tk_of) (ea_cons (ev_v 0) (ea_cons (ev_v 3) ea_nil)))) (ea_cons ev_int ea_nil))) (.inl (by decide)) (.inl (by decide)) (.inl (by decide)))) (sv_cons (sv_par2 (i := 4) (j := 5) (own' := []) rfl sc_fourth_quotient.nd (ea_cons (ev_un negD_ne oo_neg (ev_v 3)) (ea_cons (ev_call G_raised (hr.mono (by decide)) T.f_raised.g T.f_raised.F.kp T.f_raised.b (pxT tk_of) (ea_cons (ev_op mulP_ne oo_mulP (ev_op mulP_ne oo_mulP (ev_v 0) (ev_v 1)) (ev_v 2)) (ea_cons (ev_un negD_ne oo_neg (ev_v 3)) ea_nil))) ea_nil)) (.inl (by decide)) (.inl (by decide))) (sv_one (sv_asg (i := 6) (own' := []) sc_fourth_quotient.nd (ev_op (intD_ne subI_ne) oo_sub (ev_op addP_ne oo_addP (ev_call G_raised (hr.mono (by decide)) T.f_raised.g T.f_raised.F.kp T.f_raised.b (pxT tk_of) (ea_cons (ev_op mulP_ne oo_mulP (ev_v 0) (ev_v 2)) (ea_cons (ev_v 4) ea_nil))) (ev_call G_raised (hr.mono (by decide)) T.f_raised.g T.f_raised.F.kp T.f_raised.b (pxT tk_of) (ea_cons (ev_op mulP_ne oo_mulP (ev_v 0) (ev_v 1)) (ea_cons (ev_v 4) ea_nil)))) (ev_call G_raised (hr.mono (by decide)) T.f_raised.g T.f_raised.F.kp T.f_raised.b (pxT tk_of) (ea_cons (ev_op mulP_ne oo_mulP (ev_v 1) (ev_v 2)) (ea_cons (ev_v 4) ea_nil)))) (.inl (by decide)))))) (sv_one (sv_ret (ev_if (PW.pt (ew_and (et_cmp gtP_ne (oo_gtP hr) (ev_v 5) ev_int) (ew_and1 (et_cmp gtP_ne (oo_gtP hr) (ev_v 6) ev_int)))) (ev_tup (ea_cons (ev_v 4) (ea_cons (ev_v 5) (ea_cons (ev_v 6) ea_nil)))) ev_non))))))
theorem okn_fixed (T : Txt K mg) (bf : BFa base mg (csOf T)) : ∀ n : Nat, n ≤ 60 → FnOk P w K mg base (L2.CX P w) (1 + n) T.f_fixed.a T.f_fixed.fd ["value"] (spD K (caOf T P w) 1 (FF_fixed n))
  | 0, _ => T.f_fixed.F.okX sc_fixed (fun vs H Q E ⟨_, _, _, _, _, h⟩ => h.elim) (fun _ _ _ _ _ _ _ _ _ ⟨_, _, _, _, _, h⟩ => h.elim)
  | n + 1, hn => by
    have G_fixed := okn_fixed T bf n (by omega)
    exact fn_D (own' := []) T.f_fixed.F sc_fixed (fun B hB cdv A outer s H E hr => (sv_cons (sv_if (et_val (ev_isiT (cs := [.ty "list", .ty "tuple"]) (clsC T) (subG_ok T) (fun _ => (.cons (.ty _) (.cons (.ty _) .nil))) (by show 2 ≤ sizeLine; rw [sizeLine_eq]; decide) T.n_isinstance (ev_v 0) (pc_cons (pe_bltn (v := .ty "list") (by rfl) T.n_list (by decide +kernel) rfl) (pc_cons (pe_bltn (v := .ty "tuple") (by rfl) T.n_tuple (by decide +kernel) rfl) pc_nil)))) (sv_one (sv_ret (ev_callT tupC_ne oc_tuple T.n_tuple (ea_cons (ev_ice (ev_lc rfl (so := [("one", 1)]) sc_fixed.nd (ei_val (ev_v 0)) (blkOk_by (N := n_fixed) (sc := defScope s_fixed) (by decide +kernel)) (fun B1 hL1 s H Ca cl fp => (eg_name (i := 1) sc_fixed.nd (.inl (by decide)))) (fun B1 hL1 s H Ca cl fp => ets_nil) (fun B1 hL1 s H Ca cl fp => (ev_call G_fixed (hr.mono (Nat.le_refl _)) T.f_fixed.g T.f_fixed.F.kp T.f_fixed.b pxF (ea_cons (ev_v 1) ea_nil))) bName_ne)) ea_nil)))) sv_nil) (sv_one (sv_ret (ev_v 0)))))
theorem ok_fixed (T : Txt K mg) (bf : BFa base mg (csOf T)) : FnOk P w K mg base (L2.CX P w) 4 T.f_fixed.a T.f_fixed.fd ["value"] (spD K (caOf T P w) 1 F_fixed) := okn_fixed T bf 3 (by decide)
theorem ok_Denial__init__ {n : Nat} (T : Txt K mg) (bf : BFa base mg (csOf T)) : FnR P w K mg base (L2.CX P w) 7 T.f_Denial__init__.a (spM K (caOf T P w) n (starD 2 F_Denial__init__)) := by
  have G_fixed := ok_fixed (P := P) (w := w) (base := base) T bf
  exact fn_Ms (own' := [0]) (ps := ["self", "word"]) (pv := "parts") T.f_Denial__init__.F sc_Denial__init__ (by decide) (fun kV doc pm an cdv ct => StX.bind_star2 (B := fun us => bindArgs (PySem.W.fnOf "__init__" "Denial.__init__" (defArgs s_Denial__init__) (defBody s_Denial__init__) (defScope s_Denial__init__) .none kV doc pm an cdv ct) ⟨us, []⟩) (fun _ _ => rfl) (fun _ _ _ _ => rfl)) (fun cdv B A outer s H E hr => (sv_cons (sv_fld 0 (at_word T) (ev_v 1)) (sv_one (sv_fld 0 (at_parts T) (ev_call G_fixed (hr.mono (by decide)) T.f_fixed.g T.f_fixed.F.kp T.f_fixed.b (pxT tk_of) (ea_cons (ev_v 2) ea_nil))))))
theorem ok_NoWhole__init__ (T : Txt K mg) (bf : BFa base mg (csOf T)) : FnOk P w K mg base (L2.CX P w) 10 T.f_NoWhole__init__.a T.f_NoWhole__init__.fd ["self", "low"] (spM K (caOf T P w) 2 F_NoWhole__init__) := by
  have G_Denial__init__ := fun {n : Nat} => ok_Denial__init__ (P := P) (w := w) (base := base) (n := n) T bf
  exact fn_M (own' := [0]) T.f_NoWhole__init__.F sc_NoWhole__init__ (fun cdv B A outer s H E hr => (sv_cons (sv_expr (ev_cfn 0 (pe_glob (v := .ref T.k_Denial.a) rfl T.k_Denial.g rfl) T.cr_Denial T.cv_Denial__init__ T.f_Denial__init__.F.kp G_Denial__init__ (hr.mono (by decide)) (pxT tk_of) (ea_cons ev_str (ea_cons (ev_v 1) ea_nil)))) (sv_one (sv_fld 0 (at_low T) (ev_ix ixD_ne oo_ix (ev_fldO 0 (at_parts T)) ev_int)))))
theorem ok_side_of (T : Txt K mg) (bf : BFa base mg (csOf T)) : FnOk P w K mg base (L2.CX P w) 4 T.f_side_of.a T.f_side_of.fd ["number", "quotient"] (spD K (caOf T P w) 2 F_side_of) := by
  have G_raised := ok_raised (P := P) (w := w) (base := base) T bf
  exact fn_D (own' := []) T.f_side_of.F sc_side_of (fun B hB cdv A outer s H E hr => (sv_cons (sv_tgt (ev_v 1) (eg_seq rfl (egs_cons (eg_name (i := 2) sc_side_of.nd (.inl (by decide))) (egs_cons (eg_name (i := 3) sc_side_of.nd (.inl (by decide))) (egs_cons (eg_name (i := 4) sc_side_of.nd (.inl (by decide))) egs_nil)))) (bSeq_ne (bCons_ne bName_ne (bCons_ne bName_ne (bCons_ne bName_ne bNil_ne))))) (sv_one (sv_ret (ev_op (intD_ne subI_ne) oo_sub (ev_op mulP_ne oo_mulP (ev_call G_raised (hr.mono (by decide)) T.f_raised.g T.f_raised.F.kp T.f_raised.b (pxT tk_of) (ea_cons (ev_v 0) (ea_cons (ev_v 2) ea_nil))) (ev_v 4)) (ev_v 3))))))
end
end Q

namespace Q
open PySem PySem.Spec PyProof.Rows L2 Dl
section
variable {P : Program} {w : World} {K : PySem.W.Frag} {mg : Str → Option Value} {base : Heap}
theorem ok_whole_below (T : Txt K mg) (bf : BFa base mg (csOf T)) : FnOk P w K mg base (L2.CX P w) 7 T.f_whole_below.a T.f_whole_below.fd ["quotient"] (spD K (caOf T P w) 1 F_whole_below) := by
  have G_side_of := ok_side_of (P := P) (w := w) (base := base) T bf
  exact fn_D (own' := []) T.f_whole_below.F sc_whole_below (fun B hB cdv A outer s H E hr => (sv_cons (sv_asg (i := 1) (own' := []) sc_whole_below.nd ev_int (.inl (by decide))) (sv_cons (sv_while 1000 ps_of (et_cmp leP_ne (oo_leP hr) (ev_call G_side_of (hr.mono (by decide)) T.f_side_of.g T.f_side_of.F.kp T.f_side_of.b (pxT tk_of) (ea_cons (ev_v 1) (ea_cons (ev_v 0) ea_nil))) ev_int) (sv_one (sv_asg (i := 1) (own' := []) sc_whole_below.nd (ev_op mulP_ne oo_mulP (ev_v 1) ev_int) (.inl (by decide))))) (sv_cons (sv_asg (i := 2) (own' := []) sc_whole_below.nd (ev_op (intD_ne fdivI_ne) oo_fdiv (ev_v 1) ev_int) (.inl (by decide))) (sv_cons (sv_while 1000 ps_of (et_cmp gtP_ne (oo_gtP hr) (ev_op (intD_ne subI_ne) oo_sub (ev_v 1) (ev_v 2)) ev_int) (sv_cons (sv_asg (i := 3) (own' := []) sc_whole_below.nd (ev_op (intD_ne fdivI_ne) oo_fdiv (ev_op addP_ne oo_addP (ev_v 2) (ev_v 1)) ev_int) (.inl (by decide))) (sv_one (sv_if (et_cmp leP_ne (oo_leP hr) (ev_call G_side_of (hr.mono (by decide)) T.f_side_of.g T.f_side_of.F.kp T.f_side_of.b (pxT tk_of) (ea_cons (ev_v 3) (ea_cons (ev_v 0) ea_nil))) ev_int) (sv_one (sv_asg (i := 2) (own' := []) sc_whole_below.nd (ev_v 3) (.inl (by decide)))) (sv_one (sv_asg (i := 1) (own' := []) sc_whole_below.nd (ev_v 3) (.inl (by decide)))))))) (sv_one (sv_ret (ev_v 2))))))))
theorem ok_Paper__init__ {n : Nat} (T : Txt K mg) (bf : BFa base mg (csOf T)) : FnR P w K mg base (L2.CX P w) 7 T.f_Paper__init__.a (spM K (caOf T P w) n (starD 2 F_Paper__init__)) := by
  have G_fixed := ok_fixed (P := P) (w := w) (base := base) T bf
  exact fn_Ms (own' := [0]) (ps := ["self", "word"]) (pv := "parts") T.f_Paper__init__.F sc_Paper__init__ (by decide) (fun kV doc pm an cdv ct => StX.bind_star2 (B := fun us => bindArgs (PySem.W.fnOf "__init__" "Paper.__init__" (defArgs s_Paper__init__) (defBody s_Paper__init__) (defScope s_Paper__init__) .none kV doc pm an cdv ct) ⟨us, []⟩) (fun _ _ => rfl) (fun _ _ _ _ => rfl)) (fun cdv B A outer s H E hr => (sv_cons (sv_fld 0 (at_word T) (ev_v 1)) (sv_one (sv_fld 0 (at_parts T) (ev_call G_fixed (hr.mono (by decide)) T.f_fixed.g T.f_fixed.F.kp T.f_fixed.b (pxT tk_of) (ea_cons (ev_v 2) ea_nil))))))
theorem ok_Whole__init__ (T : Txt K mg) (bf : BFa base mg (csOf T)) : FnOk P w K mg base (L2.CX P w) 10 T.f_Whole__init__.a T.f_Whole__init__.fd ["self", "number"] (spM K (caOf T P w) 2 F_Whole__init__) := by
  have G_Paper__init__ := fun {n : Nat} => ok_Paper__init__ (P := P) (w := w) (base := base) (n := n) T bf
  exact fn_M (own' := [0]) T.f_Whole__init__.F sc_Whole__init__ (fun cdv B A outer s H E hr => (sv_cons (sv_expr (ev_cfn 0 (pe_glob (v := .ref T.k_Paper.a) rfl T.k_Paper.g rfl) T.cr_Paper T.cv_Paper__init__ T.f_Paper__init__.F.kp G_Paper__init__ (hr.mono (by decide)) (pxT tk_of) (ea_cons ev_str (ea_cons (ev_v 1) ea_nil)))) (sv_one (sv_fld 0 (at_number T) (ev_ix ixD_ne oo_ix (ev_fldO 0 (at_parts T)) ev_int)))))
theorem ok_fourth_by (T : Txt K mg) (bf : BFa base mg (csOf T)) : FnOk P w K mg base (L2.CX P w) 13 T.f_fourth_by.a T.f_fourth_by.fd ["a", "b", "c", "power"] (spD K (caOf T P w) 4 F_fourth_by) := by
  have G_need_numbers := ok_need_numbers (P := P) (w := w) (base := base) T bf
  have G_need_power := ok_need_power (P := P) (w := w) (base := base) T bf
  have G_fourth_quotient := ok_fourth_quotient (P := P) (w := w) (base := base) T bf
  have G_NoWhole__init__ := ok_NoWhole__init__ (P := P) (w := w) (base := base) T bf
  have G_whole_below := ok_whole_below (P := P) (w := w) (base := base) T bf
  have G_Whole__init__ := ok_Whole__init__ (P := P) (w := w) (base := base) T bf
  have G_side_of := ok_side_of (P := P) (w := w) (base := base) T bf
  exact fn_D (own' := []) T.f_fourth_by.F sc_fourth_by (fun B hB cdv A outer s H E hr => (sv_cons (sv_expr (ev_call G_need_numbers (hr.mono (by decide)) T.f_need_numbers.g T.f_need_numbers.F.kp T.f_need_numbers.b (pxT tk_of) (ea_cons (ev_ice (ev_lst (ea_cons (ev_tup (ea_cons ev_str (ea_cons (ev_v 0) ea_nil))) (ea_cons (ev_tup (ea_cons ev_str (ea_cons (ev_v 1) ea_nil))) (ea_cons (ev_tup (ea_cons ev_str (ea_cons (ev_v 2) ea_nil))) ea_nil))))) (ea_cons (ev_k (pe_glob (v := .int (99)) rfl T.c_MOST_SMALL ⟨_, rfl⟩) fun _ => .int _) ea_nil)))) (sv_cons (sv_expr (ev_call G_need_power (hr.mono (by decide)) T.f_need_power.g T.f_need_power.F.kp T.f_need_power.b (pxT tk_of) (ea_cons (ev_v 3) ea_nil))) (sv_cons (sv_asg (i := 4) (own' := []) sc_fourth_by.nd (ev_call G_fourth_quotient (hr.mono (by decide)) T.f_fourth_quotient.g T.f_fourth_quotient.F.kp T.f_fourth_quotient.b (pxT tk_of) (ea_cons (ev_v 0) (ea_cons (ev_v 1) (ea_cons (ev_v 2) (ea_cons (ev_v 3) ea_nil))))) (.inl (by decide))) (sv_cons (sv_if (et_cmp isD_ne oo_is (ev_v 4) ev_non) (sv_one (sv_ret (ev_ice (ev_make (c := 76) T.mk_NoWhole G_NoWhole__init__ (hr.mono (by decide)) T.k_NoWhole.g T.f_NoWhole__init__.b (pxT tk_of) (ea_cons ev_non ea_nil))))) sv_nil) (sv_cons (sv_asg (i := 5) (own' := []) sc_fourth_by.nd (ev_call G_whole_below (hr.mono (by decide)) T.f_whole_below.g T.f_whole_below.F.kp T.f_whole_below.b (pxT tk_of) (ea_cons (ev_v 4) ea_nil)) (.inl (by decide))) (sv_one (sv_ret (ev_if (et_cmp eqD_ne (oo_eq hr.units) (ev_call G_side_of (hr.mono (by decide)) T.f_side_of.g T.f_side_of.F.kp T.f_side_of.b (pxT tk_of) (ea_cons (ev_v 5) (ea_cons (ev_v 4) ea_nil))) ev_int) (ev_ice (ev_make (c := 113) T.mk_Whole G_Whole__init__ (hr.mono (by decide)) T.k_Whole.g T.f_Whole__init__.b (pxT tk_of) (ea_cons (ev_v 5) ea_nil))) (ev_ice (ev_make (c := 76) T.mk_NoWhole G_NoWhole__init__ (hr.mono (by decide)) T.k_NoWhole.g T.f_NoWhole__init__.b (pxT tk_of) (ea_cons (ev_v 5) ea_nil))))))))))))
theorem ok_shows_fourth_by (T : Txt K mg) (bf : BFa base mg (csOf T)) : FnOk P w K mg base (L2.CX P w) 13 T.f_shows_fourth_by.a T.f_shows_fourth_by.fd ["a", "b", "c", "power", "value"] (spD K (caOf T P w) 5 F_shows_fourth_by) := by
  have G_need_numbers := ok_need_numbers (P := P) (w := w) (base := base) T bf
  have G_need_power := ok_need_power (P := P) (w := w) (base := base) T bf
  have G_fourth_quotient := ok_fourth_quotient (P := P) (w := w) (base := base) T bf
  have G_side_of := ok_side_of (P := P) (w := w) (base := base) T bf
  have G_is_within := ok_is_within (P := P) (w := w) (base := base) T bf
  exact fn_D (own' := []) T.f_shows_fourth_by.F sc_shows_fourth_by (fun B hB cdv A outer s H E hr => (sv_cons (sv_expr (ev_call G_need_numbers (hr.mono (by decide)) T.f_need_numbers.g T.f_need_numbers.F.kp T.f_need_numbers.b (pxT tk_of) (ea_cons (ev_ice (ev_lst (ea_cons (ev_tup (ea_cons ev_str (ea_cons (ev_v 0) ea_nil))) (ea_cons (ev_tup (ea_cons ev_str (ea_cons (ev_v 1) ea_nil))) (ea_cons (ev_tup (ea_cons ev_str (ea_cons (ev_v 2) ea_nil))) ea_nil))))) (ea_cons (ev_k (pe_glob (v := .int (99)) rfl T.c_MOST_SMALL ⟨_, rfl⟩) fun _ => .int _) ea_nil)))) (sv_cons (sv_expr (ev_call G_need_power (hr.mono (by decide)) T.f_need_power.g T.f_need_power.F.kp T.f_need_power.b (pxT tk_of) (ea_cons (ev_v 3) ea_nil))) (sv_cons (sv_asg (i := 5) (own' := []) sc_shows_fourth_by.nd (ev_call G_fourth_quotient (hr.mono (by decide)) T.f_fourth_quotient.g T.f_fourth_quotient.F.kp T.f_fourth_quotient.b (pxT tk_of) (ea_cons (ev_v 0) (ea_cons (ev_v 1) (ea_cons (ev_v 2) (ea_cons (ev_v 3) ea_nil))))) (.inl (by decide))) (sv_cons (sv_if (et_cmp clsIsD_ne (oo_clsIs (clsC T)) (ev_callT typeD_ne oc_type T.n_type (ea_cons (ev_v 4) ea_nil)) (ev_k (pe_glob (v := .ref T.k_Whole.a) rfl T.k_Whole.g rfl) fun _ => .cod 113 rfl)) (sv_cons (sv_if (PW.pt (ew_or (et_cmp isD_ne oo_is (ev_v 5) ev_non) (ew_or1 (et_not (et_val (ev_call G_is_within (hr.mono (by decide)) T.f_is_within.g T.f_is_within.F.kp T.f_is_within.b (pxT tk_of) (ea_cons (ev_fld (at_number T) (ev_v 4)) (ea_cons ev_int (ea_cons (ev_k (pe_glob (v := .int (1000000)) rfl T.c_MOST_NUMBER ⟨_, rfl⟩) fun _ => .int _) ea_nil))))))))) (sv_one (sv_ret ev_bl)) sv_nil) (sv_one (sv_ret (ev_cmp eqD_ne (oo_eq hr.units) (ev_call G_side_of (hr.mono (by decide)) T.f_side_of.g T.f_side_of.F.kp T.f_side_of.b (pxT tk_of) (ea_cons (ev_fld (at_number T) (ev_v 4)) (ea_cons (ev_v 5) ea_nil))) ev_int)))) sv_nil) (sv_cons (sv_if (et_cmp clsIsnD_ne (oo_clsIsn (clsC T)) (ev_callT typeD_ne oc_type T.n_type (ea_cons (ev_v 4) ea_nil)) (ev_k (pe_glob (v := .ref T.k_NoWhole.a) rfl T.k_NoWhole.g rfl) fun _ => .cod 76 rfl)) (sv_one (sv_ret ev_bl)) sv_nil) (sv_cons (sv_if (PW.pt (ew_or (et_cmp isD_ne oo_is (ev_v 5) ev_non) (ew_or1 (et_not (et_val (ev_call G_is_within (hr.mono (by decide)) T.f_is_within.g T.f_is_within.F.kp T.f_is_within.b (pxT tk_of) (ea_cons (ev_fld (at_low T) (ev_v 4)) (ea_cons ev_int (ea_cons (ev_k (pe_glob (v := .int (1000000)) rfl T.c_MOST_NUMBER ⟨_, rfl⟩) fun _ => .int _) ea_nil))))))))) (sv_one (sv_ret (ev_and (ev_cmp isD_ne oo_is (ev_v 5) ev_non) (ev_and1 (ev_cmp isD_ne oo_is (ev_fld (at_low T) (ev_v 4)) ev_non))))) sv_nil) (sv_one (sv_ret (ev_ch (ev_call G_side_of (hr.mono (by decide)) T.f_side_of.g T.f_side_of.F.kp T.f_side_of.b (pxT tk_of) (ea_cons (ev_fld (at_low T) (ev_v 4)) (ea_cons (ev_v 5) ea_nil))) (ec_link ltP_ne (oo_ltP hr) ev_int (ec_last ltP_ne (oo_ltP hr) (ev_call G_side_of (hr.mono (by decide)) T.f_side_of.g T.f_side_of.F.kp T.f_side_of.b (pxT tk_of) (ea_cons (ev_op addP_ne oo_addP (ev_fld (at_low T) (ev_v 4)) ev_int) (ea_cons (ev_v 5) ea_nil)))))))))))))))
theorem ok__law_threes_right (T : Txt K mg) (bf : BFa base mg (csOf T)) : FnOk P w K mg base (L2.CX P w) 16 T.f__law_threes_right.a T.f__law_threes_right.fd ["_law_hat_here"] (spM K (caOf T P w) 1 F__law_threes_right) := by
  have G__law_spoilt := ok__law_spoilt (P := P) (w := w) (base := base) T bf
  have G_fourth_by := ok_fourth_by (P := P) (w := w) (base := base) T bf
  have G_shows_fourth_by := ok_shows_fourth_by (P := P) (w := w) (base := base) T bf
  exact fn_MC (own' := [0]) T.f__law_threes_right.F T.cd__law_threes_right sc__law_threes_right (fun B A outer s H E hr => (sv_cons (sv_tgt (ev_callM 0 G__law_spoilt (hr.mono (by decide)) T.f__law_spoilt.g T.f__law_spoilt.F.kp T.f__law_spoilt.b (pxT tk_of) (ea_cons (ev_op addP_ne oo_addP (ev_ice (ev_lc rfl (so := [("_law_name", 8)]) sc__law_threes_right.nd (ei_val (ev_tup (ea_cons ev_str (ea_cons ev_str (ea_cons ev_str ea_nil))))) (blkOk_by (N := n__law_threes_right) (sc := defScope s__law_threes_right) (by decide +kernel)) (fun B1 hL1 s H Ca cl fp => (eg_name (i := 8) sc__law_threes_right.nd (.inl (by decide)))) (fun B1 hL1 s H Ca cl fp => ets_nil) (fun B1 hL1 s H Ca cl fp => (ev_tup (ea_cons (ev_v 8) (ea_cons ev_int (ea_cons ev_int ea_nil))))) bName_ne)) (ev_ice (ev_lst (ea_cons (ev_tup (ea_cons ev_str (ea_cons (ev_un negD_ne oo_neg ev_int) (ea_cons ev_int ea_nil)))) ea_nil)))) ea_nil)) (eg_seq rfl (egs_cons (eg_name (i := 1) sc__law_threes_right.nd (.inl (by decide))) (egs_cons (eg_name (i := 2) sc__law_threes_right.nd (.inl (by decide))) egs_nil))) (bSeq_ne (bCons_ne bName_ne (bCons_ne bName_ne bNil_ne)))) (sv_cons (sv_tgt (ev_v 1) (eg_seq rfl (egs_cons (eg_name (i := 4) sc__law_threes_right.nd (.inl (by decide))) (egs_cons (eg_name (i := 5) sc__law_threes_right.nd (.inl (by decide))) (egs_cons (eg_name (i := 6) sc__law_threes_right.nd (.inl (by decide))) (egs_cons (eg_name (i := 7) sc__law_threes_right.nd (.inl (by decide))) egs_nil))))) (bSeq_ne (bCons_ne bName_ne (bCons_ne bName_ne (bCons_ne bName_ne (bCons_ne bName_ne bNil_ne)))))) (sv_cons (sv_if (et_cmp neD_ne (oo_ne hr.units) (ev_look (fun B2 hK2 => (ev_heard (k := 13) rfl T.f__law_heard.g T.f__law_heard.kp T.f__law_heard.lk T.f__law_heard.hc T.f__law_heard.b sc__law_heard rfl (.inl rfl) (gv__law_heard T _ rfl rfl rfl rfl) (tb__law_threes_right T bf) rfl (mem__law_threes_right T) (uq__law_threes_right T) (hr.mono (by decide)) (LamX.lamS_by (sc := defScope s__law_threes_right) (by decide +kernel)) rfl (fun _ _ _ _ _ => rfl) (fun A outer s H E f c' hr B hm => (ev_call G_fourth_by (hr.mono (by decide)) T.f_fourth_by.g T.f_fourth_by.F.kp T.f_fourth_by.b (pxT (takes_of rfl rfl rfl rfl)) (ea_cons (ev_v 4) (ea_cons (ev_v 5) (ea_cons (ev_v 6) (ea_cons (ev_v 7) ea_nil))))))))) (ev_v 2)) (sv_one (sv_ret ev_bl)) sv_nil) (sv_cons (sv_if (et_cmp neD_ne (oo_ne hr.units) (ev_look (fun B3 hK3 => (ev_heard (k := 13) rfl T.f__law_heard.g T.f__law_heard.kp T.f__law_heard.lk T.f__law_heard.hc T.f__law_heard.b sc__law_heard rfl (.inl rfl) (gv__law_heard T _ rfl rfl rfl rfl) (tb__law_threes_right T bf) rfl (mem__law_threes_right T) (uq__law_threes_right T) (hr.mono (by decide)) (LamX.lamS_by (sc := defScope s__law_threes_right) (by decide +kernel)) rfl (fun _ _ _ _ _ => rfl) (fun A outer s H E f c' hr B hm => (ev_call G_shows_fourth_by (hr.mono (by decide)) T.f_shows_fourth_by.g T.f_shows_fourth_by.F.kp T.f_shows_fourth_by.b (pxT (takes_of rfl rfl rfl rfl)) (ea_cons (ev_v 4) (ea_cons (ev_v 5) (ea_cons (ev_v 6) (ea_cons (ev_v 7) (ea_cons ev_non ea_nil)))))))))) (ev_v 2)) (sv_one (sv_ret ev_bl)) sv_nil) (sv_cons (sv_if (et_cmp isnD_ne oo_isn (ev_v 2) ev_non) (sv_one (sv_ret ev_bl)) sv_nil) (sv_cons (sv_asg (i := 3) (own' := [0]) sc__law_threes_right.nd (ev_callK G_fourth_by (hr.mono (by decide)) T.f_fourth_by.g T.f_fourth_by.F.kp (kb_fourth_by_2 T) (fun F ds vs r => kr_fourth_by_2 r) (pxT tk_of) (ek_cons (ev_v 7) (ek_cons (ev_v 6) (ek_cons (ev_v 4) (ek_cons (ev_v 5) ek_nil))))) (.inl (by decide))) (sv_one (sv_ret (ev_or (ev_callB isiD_ne (oc_isi (clsC T) (subG_ok T)) T.n_isinstance (ea_cons (ev_v 3) (ea_cons (ev_k (pe_glob (v := .ref T.k_Whole.a) rfl T.k_Whole.g rfl) fun _ => .cod 113 rfl) ea_nil))) (ev_and1 (ev_callB isiD_ne (oc_isi (clsC T) (subG_ok T)) T.n_isinstance (ea_cons (ev_v 3) (ea_cons (ev_k (pe_glob (v := .ref T.k_NoWhole.a) rfl T.k_NoWhole.g rfl) fun _ => .cod 76 rfl) ea_nil))))))))))))))
theorem ok_whole_fourth (T : Txt K mg) (bf : BFa base mg (csOf T)) : FnOk P w K mg base (L2.CX P w) 10 T.f_whole_fourth.a T.f_whole_fourth.fd ["a", "b", "c", "power"] (spD K (caOf T P w) 4 F_whole_fourth) := by
  have G_fourth_quotient := ok_fourth_quotient (P := P) (w := w) (base := base) T bf
  have G_whole_below := ok_whole_below (P := P) (w := w) (base := base) T bf
  have G_side_of := ok_side_of (P := P) (w := w) (base := base) T bf
  exact fn_D (own' := []) T.f_whole_fourth.F sc_whole_fourth (fun B hB cdv A outer s H E hr => (sv_cons (sv_asg (i := 4) (own' := []) sc_whole_fourth.nd (ev_call G_fourth_quotient (hr.mono (by decide)) T.f_fourth_quotient.g T.f_fourth_quotient.F.kp T.f_fourth_quotient.b (pxT tk_of) (ea_cons (ev_v 0) (ea_cons (ev_v 1) (ea_cons (ev_v 2) (ea_cons (ev_v 3) ea_nil))))) (.inl (by decide))) (sv_cons (sv_if (et_cmp isD_ne oo_is (ev_v 4) ev_non) (sv_one (sv_ret ev_non)) sv_nil) (sv_cons (sv_asg (i := 5) (own' := []) sc_whole_fourth.nd (ev_call G_whole_below (hr.mono (by decide)) T.f_whole_below.g T.f_whole_below.F.kp T.f_whole_below.b (pxT tk_of) (ea_cons (ev_v 4) ea_nil)) (.inl (by decide))) (sv_one (sv_ret (ev_if (et_cmp eqD_ne (oo_eq hr.units) (ev_call G_side_of (hr.mono (by decide)) T.f_side_of.g T.f_side_of.F.kp T.f_side_of.b (pxT tk_of) (ea_cons (ev_v 5) (ea_cons (ev_v 4) ea_nil))) ev_int) (ev_v 5) ev_non)))))))
theorem ok_numbers_by (T : Txt K mg) (bf : BFa base mg (csOf T)) : FnOk P w K mg base (L2.CX P w) 13 T.f_numbers_by.a T.f_numbers_by.fd ["first", "second", "many", "power"] (spD K (caOf T P w) 4 F_numbers_by) := by
  have G_need_numbers := ok_need_numbers (P := P) (w := w) (base := base) T bf
  have G_need_within := ok_need_within (P := P) (w := w) (base := base) T bf
  have G_need_power := ok_need_power (P := P) (w := w) (base := base) T bf
  have G_whole_fourth := ok_whole_fourth (P := P) (w := w) (base := base) T bf
  exact fn_D (own' := []) T.f_numbers_by.F sc_numbers_by (fun B hB cdv A outer s H E hr => (sv_cons (sv_expr (ev_call G_need_numbers (hr.mono (by decide)) T.f_need_numbers.g T.f_need_numbers.F.kp T.f_need_numbers.b (pxT tk_of) (ea_cons (ev_ice (ev_lst (ea_cons (ev_tup (ea_cons ev_str (ea_cons (ev_v 0) ea_nil))) (ea_cons (ev_tup (ea_cons ev_str (ea_cons (ev_v 1) ea_nil))) ea_nil)))) (ea_cons (ev_k (pe_glob (v := .int (99)) rfl T.c_MOST_SMALL ⟨_, rfl⟩) fun _ => .int _) ea_nil)))) (sv_cons (sv_expr (ev_call G_need_within (hr.mono (by decide)) T.f_need_within.g T.f_need_within.F.kp T.f_need_within.b (pxT tk_of) (ea_cons ev_str (ea_cons (ev_v 2) (ea_cons ev_int (ea_cons (ev_k (pe_glob (v := .int (12)) rfl T.c_MOST_LONG ⟨_, rfl⟩) fun _ => .int _) ea_nil)))))) (sv_cons (sv_expr (ev_call G_need_power (hr.mono (by decide)) T.f_need_power.g T.f_need_power.F.kp T.f_need_power.b (pxT tk_of) (ea_cons (ev_v 3) ea_nil))) (sv_cons (sv_asgN (i := 4) (own' := [4]) sc_numbers_by.nd (ev_lst (ea_cons (ev_v 0) (ea_cons (ev_v 1) ea_nil))) (.inl (by decide))) (sv_cons (sv_while 1000 ps_of (et_look (fun B1 hK1 => (et_cmp ltP_ne (oo_ltP hr) (ev_callB lenP_ne oc_lenP T.n_len (ea_cons (ev_v 4) ea_nil)) (ev_v 2)))) (sv_cons (sv_asg (i := 5) (own' := [4]) sc_numbers_by.nd (ev_call G_whole_fourth (hr.mono (by decide)) T.f_whole_fourth.g T.f_whole_fourth.F.kp T.f_whole_fourth.b (pxT tk_of) (ea_cons (ev_ixO 4 (ev_un negD_ne oo_neg ev_int)) (ea_cons (ev_ixO 4 (ev_un negD_ne oo_neg ev_int)) (ea_cons (ev_ixO 4 (ev_un negD_ne oo_neg ev_int)) (ea_cons (ev_v 3) ea_nil))))) (.inl (by decide))) (sv_cons (sv_if (et_cmp isD_ne oo_is (ev_v 5) ev_non) (sv_one sv_brk) sv_nil) (sv_one (sv_expr (ev_mth 4 PySem.F.plainAttrs_list PySem.F.slot_list_append PySem.F.type_list_append om_append (ea_cons (ev_v 5) ea_nil))))))) (sv_one (sv_fz (own1 := []) 4 (sv_ret (ev_callT tupC_ne oc_tuple T.n_tuple (ea_cons (ev_v 4) ea_nil))) (.inl (by decide))))))))))
theorem ok__law_rows_right (T : Txt K mg) (bf : BFa base mg (csOf T)) : FnOk P w K mg base (L2.CX P w) 16 T.f__law_rows_right.a T.f__law_rows_right.fd ["_law_hat_here"] (spM K (caOf T P w) 1 F__law_rows_right) := by
  have G__law_spoilt := ok__law_spoilt (P := P) (w := w) (base := base) T bf
  have G_numbers_by := ok_numbers_by (P := P) (w := w) (base := base) T bf
  exact fn_MC (own' := [0]) T.f__law_rows_right.F T.cd__law_rows_right sc__law_rows_right (fun B A outer s H E hr => (sv_cons (sv_tgt (ev_callM 0 G__law_spoilt (hr.mono (by decide)) T.f__law_spoilt.g T.f__law_spoilt.F.kp T.f__law_spoilt.b (pxT tk_of) (ea_cons (ev_ice (ev_lst (ea_cons (ev_tup (ea_cons ev_str (ea_cons ev_int (ea_cons ev_int ea_nil)))) (ea_cons (ev_tup (ea_cons ev_str (ea_cons ev_int (ea_cons ev_int ea_nil)))) (ea_cons (ev_tup (ea_cons ev_str (ea_cons ev_int (ea_cons ev_int ea_nil)))) (ea_cons (ev_tup (ea_cons ev_str (ea_cons (ev_un negD_ne oo_neg ev_int) (ea_cons ev_int ea_nil)))) ea_nil)))))) ea_nil)) (eg_seq rfl (egs_cons (eg_name (i := 1) sc__law_rows_right.nd (.inl (by decide))) (egs_cons (eg_name (i := 2) sc__law_rows_right.nd (.inl (by decide))) egs_nil))) (bSeq_ne (bCons_ne bName_ne (bCons_ne bName_ne bNil_ne)))) (sv_cons (sv_tgt (ev_v 1) (eg_seq rfl (egs_cons (eg_name (i := 4) sc__law_rows_right.nd (.inl (by decide))) (egs_cons (eg_name (i := 7) sc__law_rows_right.nd (.inl (by decide))) (egs_cons (eg_name (i := 5) sc__law_rows_right.nd (.inl (by decide))) (egs_cons (eg_name (i := 6) sc__law_rows_right.nd (.inl (by decide))) egs_nil))))) (bSeq_ne (bCons_ne bName_ne (bCons_ne bName_ne (bCons_ne bName_ne (bCons_ne bName_ne bNil_ne)))))) (sv_cons (sv_if (et_cmp neD_ne (oo_ne hr.units) (ev_look (fun B1 hK1 => (ev_heard (k := 13) rfl T.f__law_heard.g T.f__law_heard.kp T.f__law_heard.lk T.f__law_heard.hc T.f__law_heard.b sc__law_heard rfl (.inl rfl) (gv__law_heard T _ rfl rfl rfl rfl) (tb__law_rows_right T bf) rfl (mem__law_rows_right T) (uq__law_rows_right T) (hr.mono (by decide)) (LamX.lamS_by (sc := defScope s__law_rows_right) (by decide +kernel)) rfl (fun _ _ _ _ _ => rfl) (fun A outer s H E f c' hr B hm => (ev_call G_numbers_by (hr.mono (by decide)) T.f_numbers_by.g T.f_numbers_by.F.kp T.f_numbers_by.b (pxT (takes_of rfl rfl rfl rfl)) (ea_cons (ev_v 4) (ea_cons (ev_v 7) (ea_cons (ev_v 5) (ea_cons (ev_v 6) ea_nil))))))))) (ev_v 2)) (sv_one (sv_ret ev_bl)) sv_nil) (sv_cons (sv_if (et_cmp isnD_ne oo_isn (ev_v 2) ev_non) (sv_one (sv_ret ev_bl)) sv_nil) (sv_cons (sv_asg (i := 3) (own' := [0]) sc__law_rows_right.nd (ev_callK G_numbers_by (hr.mono (by decide)) T.f_numbers_by.g T.f_numbers_by.F.kp (kb_numbers_by_3 T) (fun F ds vs r => kr_numbers_by_3 r) (pxT tk_of) (ek_cons (ev_v 6) (ek_cons (ev_v 5) (ek_cons (ev_v 7) (ek_cons (ev_v 4) ek_nil))))) (.inl (by decide))) (sv_one (sv_ret (ev_and (ev_callB isiD_ne (oc_isi (clsC T) (subG_ok T)) T.n_isinstance (ea_cons (ev_v 3) (ea_cons (ev_k (pe_bltn (v := .ty "tuple") (by rfl) T.n_tuple (by decide +kernel) rfl) fun _ => .ty _) ea_nil))) (ev_and (ev_ch ev_int (ec_link leP_ne (oo_leP hr) (ev_callB lenP_ne oc_lenP T.n_len (ea_cons (ev_v 3) ea_nil)) (ec_last leP_ne (oo_leP hr) (ev_v 5)))) (ev_and1 (ev_cmp eqD_ne (oo_eq hr.units) (ev_slP (ev_v 3) ep_none (ep_some ev_int)) (ev_tup (ea_cons (ev_v 4) (ea_cons (ev_v 7) ea_nil)))))))))))))))
theorem ok__law_growing (T : Txt K mg) (bf : BFa base mg (csOf T)) : FnOk P w K mg base (L2.CX P w) 4 T.f__law_growing.a T.f__law_growing.fd ["_law_hat_here"] (spMN K (caOf T P w) 1 F__law_growing) := by
  have G__law_lot := ok__law_lot (P := P) (w := w) (base := base) T bf
  exact fn_MN (own' := [0]) T.f__law_growing.F sc__law_growing (fun B cdv A outer s H E hr => (sv_cons (sv_asg (i := 1) (own' := [0]) sc__law_growing.nd (ev_op addP_ne oo_addP ev_int (ev_callM 0 G__law_lot (hr.mono (by decide)) T.f__law_lot.g T.f__law_lot.F.kp T.f__law_lot.b (pxT tk_of) (ea_cons ev_int ea_nil))) (.inl (by decide))) (sv_cons (sv_asg (i := 2) (own' := [0]) sc__law_growing.nd (ev_op addP_ne oo_addP (ev_op addP_ne oo_addP (ev_v 1) ev_int) (ev_callM 0 G__law_lot (hr.mono (by decide)) T.f__law_lot.g T.f__law_lot.F.kp T.f__law_lot.b (pxT tk_of) (ea_cons (ev_op (intD_ne subI_ne) oo_sub ev_int (ev_v 1)) ea_nil))) (.inl (by decide))) (sv_cons (sv_asg (i := 3) (own' := [0]) sc__law_growing.nd (ev_op addP_ne oo_addP (ev_v 2) (ev_callM 0 G__law_lot (hr.mono (by decide)) T.f__law_lot.g T.f__law_lot.F.kp T.f__law_lot.b (pxT tk_of) (ea_cons (ev_op (intD_ne subI_ne) oo_sub ev_int (ev_v 2)) ea_nil))) (.inl (by decide))) (sv_one (sv_retL (ev_lst (ea_cons (ev_v 1) (ea_cons (ev_v 2) (ea_cons (ev_v 3) (ea_cons (ev_op addP_ne oo_addP (ev_op addP_ne oo_addP (ev_v 3) ev_int) (ev_callM 0 G__law_lot (hr.mono (by decide)) T.f__law_lot.g T.f__law_lot.F.kp T.f__law_lot.b (pxT tk_of) (ea_cons (ev_op (intD_ne subI_ne) oo_sub ev_int (ev_v 3)) ea_nil))) ea_nil)))))))))))
theorem ok__law_growing_due (T : Txt K mg) (bf : BFa base mg (csOf T)) : FnOk P w K mg base (L2.CX P w) 4 T.f__law_growing_due.a T.f__law_growing_due.fd ["_law_values"] (spD K (caOf T P w) 1 F__law_growing_due) := by
  have G__law_within := ok__law_within (P := P) (w := w) (base := base) T bf
  exact fn_D (own' := []) T.f__law_growing_due.F sc__law_growing_due (fun B hB cdv A outer s H E hr => (sv_cons (sv_asg (i := 1) (own' := []) sc__law_growing_due.nd ev_int (.inl (by decide))) (sv_cons (sv_for ps_of rfl (ei_enumP T.n_enumerate (ea_cons (ev_tup (ea_cons ev_str (ea_cons ev_str (ea_cons ev_str (ea_cons ev_str ea_nil))))) ea_nil)) (eg_seq rfl (egs_cons (eg_name (i := 2) sc__law_growing_due.nd (.inl (by decide))) (egs_cons (eg_name (i := 3) sc__law_growing_due.nd (.inl (by decide))) egs_nil))) (bSeq_ne (bCons_ne bName_ne (bCons_ne bName_ne bNil_ne))) (sv_cons (sv_if (et_not (et_val (ev_call G__law_within (hr.mono (by decide)) T.f__law_within.g T.f__law_within.F.kp T.f__law_within.b (pxT tk_of) (ea_cons (ev_ix ixD_ne oo_ix (ev_v 0) (ev_v 2)) (ea_cons (ev_v 1) (ea_cons ev_int ea_nil)))))) (sv_one (sv_ret (ev_tup (ea_cons ev_str (ea_cons (ev_v 3) ea_nil))))) sv_nil) (sv_one (sv_asg (i := 1) (own' := []) sc__law_growing_due.nd (ev_op addP_ne oo_addP (ev_ix ixD_ne oo_ix (ev_v 0) (ev_v 2)) (ev_callT intC_ne oc_int T.n_int (ea_cons (ev_cmp neD_ne (oo_ne hr.units) (ev_v 2) ev_int) ea_nil))) (.inl (by decide)))))) (sv_one (sv_ret ev_non)))))
theorem ok_Between__init__ (T : Txt K mg) (bf : BFa base mg (csOf T)) : FnOk P w K mg base (L2.CX P w) 10 T.f_Between__init__.a T.f_Between__init__.fd ["self", "low"] (spM K (caOf T P w) 2 F_Between__init__) := by
  have G_Denial__init__ := fun {n : Nat} => ok_Denial__init__ (P := P) (w := w) (base := base) (n := n) T bf
  exact fn_M (own' := [0]) T.f_Between__init__.F sc_Between__init__ (fun cdv B A outer s H E hr => (sv_cons (sv_expr (ev_cfn 0 (pe_glob (v := .ref T.k_Denial.a) rfl T.k_Denial.g rfl) T.cr_Denial T.cv_Denial__init__ T.f_Denial__init__.F.kp G_Denial__init__ (hr.mono (by decide)) (pxT tk_of) (ea_cons ev_str (ea_cons (ev_v 1) ea_nil)))) (sv_one (sv_fld 0 (at_low T) (ev_ix ixD_ne oo_ix (ev_fldO 0 (at_parts T)) ev_int)))))
end
end Q

namespace Q
open PySem PySem.Spec PyProof.Rows L2 Dl
section
variable {P : Program} {w : World} {K : PySem.W.Frag} {mg : Str → Option Value} {base : Heap}
theorem ok_need_growing (T : Txt K mg) (bf : BFa base mg (csOf T)) : FnOk P w K mg base (L2.CX P w) 10 T.f_need_growing.a T.f_need_growing.fd ["a", "b", "c", "d"] (spD K (caOf T P w) 4 F_need_growing) := by
  have G_need_within := ok_need_within (P := P) (w := w) (base := base) T bf
  exact fn_D (own' := []) T.f_need_growing.F sc_need_growing (fun B hB cdv A outer s H E hr => (sv_cons (sv_expr (ev_call G_need_within (hr.mono (by decide)) T.f_need_within.g T.f_need_within.F.kp T.f_need_within.b (pxT tk_of) (ea_cons ev_str (ea_cons (ev_v 0) (ea_cons ev_int (ea_cons (ev_k (pe_glob (v := .int (99)) rfl T.c_MOST_SMALL ⟨_, rfl⟩) fun _ => .int _) ea_nil)))))) (sv_cons (sv_expr (ev_call G_need_within (hr.mono (by decide)) T.f_need_within.g T.f_need_within.F.kp T.f_need_within.b (pxT tk_of) (ea_cons ev_str (ea_cons (ev_v 1) (ea_cons (ev_op addP_ne oo_addP (ev_v 0) ev_int) (ea_cons (ev_k (pe_glob (v := .int (99)) rfl T.c_MOST_SMALL ⟨_, rfl⟩) fun _ => .int _) ea_nil)))))) (sv_cons (sv_expr (ev_call G_need_within (hr.mono (by decide)) T.f_need_within.g T.f_need_within.F.kp T.f_need_within.b (pxT tk_of) (ea_cons ev_str (ea_cons (ev_v 2) (ea_cons (ev_v 1) (ea_cons (ev_k (pe_glob (v := .int (99)) rfl T.c_MOST_SMALL ⟨_, rfl⟩) fun _ => .int _) ea_nil)))))) (sv_one (sv_expr (ev_call G_need_within (hr.mono (by decide)) T.f_need_within.g T.f_need_within.F.kp T.f_need_within.b (pxT tk_of) (ea_cons ev_str (ea_cons (ev_v 3) (ea_cons (ev_op addP_ne oo_addP (ev_v 2) ev_int) (ea_cons (ev_k (pe_glob (v := .int (99)) rfl T.c_MOST_SMALL ⟨_, rfl⟩) fun _ => .int _) ea_nil)))))))))))
theorem ok_ByPower__init__ (T : Txt K mg) (bf : BFa base mg (csOf T)) : FnOk P w K mg base (L2.CX P w) 10 T.f_ByPower__init__.a T.f_ByPower__init__.fd ["self", "power"] (spM K (caOf T P w) 2 F_ByPower__init__) := by
  have G_Paper__init__ := fun {n : Nat} => ok_Paper__init__ (P := P) (w := w) (base := base) (n := n) T bf
  exact fn_M (own' := [0]) T.f_ByPower__init__.F sc_ByPower__init__ (fun cdv B A outer s H E hr => (sv_cons (sv_expr (ev_cfn 0 (pe_glob (v := .ref T.k_Paper.a) rfl T.k_Paper.g rfl) T.cr_Paper T.cv_Paper__init__ T.f_Paper__init__.F.kp G_Paper__init__ (hr.mono (by decide)) (pxT tk_of) (ea_cons ev_str (ea_cons (ev_v 1) ea_nil)))) (sv_one (sv_fld 0 (at_power T) (ev_ix ixD_ne oo_ix (ev_fldO 0 (at_parts T)) ev_int)))))
theorem ok_power_of (T : Txt K mg) (bf : BFa base mg (csOf T)) : FnOk P w K mg base (L2.CX P w) 13 T.f_power_of.a T.f_power_of.fd ["a", "b", "c", "d"] (spD K (caOf T P w) 4 F_power_of) := by
  have G_Between__init__ := ok_Between__init__ (P := P) (w := w) (base := base) T bf
  have G_need_growing := ok_need_growing (P := P) (w := w) (base := base) T bf
  have G_ByPower__init__ := ok_ByPower__init__ (P := P) (w := w) (base := base) T bf
  have G_whole_sum := ok_whole_sum (P := P) (w := w) (base := base) T bf
  exact fn_D (own' := []) T.f_power_of.F sc_power_of (fun B hB cdv A outer s H E hr => (sv_cons (sv_expr (ev_call G_need_growing (hr.mono (by decide)) T.f_need_growing.g T.f_need_growing.F.kp T.f_need_growing.b (pxT tk_of) (ea_cons (ev_v 0) (ea_cons (ev_v 1) (ea_cons (ev_v 2) (ea_cons (ev_v 3) ea_nil)))))) (sv_cons (sv_if (et_cmp eqD_ne (oo_eq hr.units) (ev_op mulP_ne oo_mulP (ev_v 0) (ev_v 3)) (ev_op mulP_ne oo_mulP (ev_v 1) (ev_v 2))) (sv_one (sv_ret (ev_ice (ev_make (c := 24) T.mk_ByPower G_ByPower__init__ (hr.mono (by decide)) T.k_ByPower.g T.f_ByPower__init__.b (pxT tk_of) (ea_cons ev_int ea_nil))))) sv_nil) (sv_cons (sv_asg (i := 4) (own' := []) sc_power_of.nd (ev_if (et_cmp ltP_ne (oo_ltP hr) (ev_op mulP_ne oo_mulP (ev_v 0) (ev_v 3)) (ev_op mulP_ne oo_mulP (ev_v 1) (ev_v 2))) ev_int (ev_un negD_ne oo_neg ev_int)) (.inl (by decide))) (sv_cons (sv_asg (i := 5) (own' := []) sc_power_of.nd (ev_v 4) (.inl (by decide))) (sv_cons (sv_asg (i := 6) (own' := []) sc_power_of.nd (ev_call G_whole_sum (hr.mono (by decide)) T.f_whole_sum.g T.f_whole_sum.F.kp T.f_whole_sum.b (pxT tk_of) (ea_cons (ev_v 0) (ea_cons (ev_v 1) (ea_cons (ev_v 2) (ea_cons (ev_v 3) (ea_cons (ev_v 5) ea_nil)))))) (.inl (by decide))) (sv_cons (sv_while 1000 ps_of (et_cmp ltP_ne (oo_ltP hr) (ev_v 6) ev_int) (sv_cons (sv_asg (i := 5) (own' := []) sc_power_of.nd (ev_op addP_ne oo_addP (ev_v 5) (ev_v 4)) (.inl (by decide))) (sv_one (sv_asg (i := 6) (own' := []) sc_power_of.nd (ev_call G_whole_sum (hr.mono (by decide)) T.f_whole_sum.g T.f_whole_sum.F.kp T.f_whole_sum.b (pxT tk_of) (ea_cons (ev_v 0) (ea_cons (ev_v 1) (ea_cons (ev_v 2) (ea_cons (ev_v 3) (ea_cons (ev_v 5) ea_nil)))))) (.inl (by decide)))))) (sv_cons (sv_if (et_cmp eqD_ne (oo_eq hr.units) (ev_v 6) ev_int) (sv_one (sv_ret (ev_ice (ev_make (c := 24) T.mk_ByPower G_ByPower__init__ (hr.mono (by decide)) T.k_ByPower.g T.f_ByPower__init__.b (pxT tk_of) (ea_cons (ev_v 5) ea_nil))))) sv_nil) (sv_one (sv_ret (ev_ice (ev_make (c := 21) T.mk_Between G_Between__init__ (hr.mono (by decide)) T.k_Between.g T.f_Between__init__.b (pxT tk_of) (ea_cons (ev_if (et_cmp eqD_ne (oo_eq hr.units) (ev_v 4) ev_int) (ev_op (intD_ne subI_ne) oo_sub (ev_v 5) ev_int) (ev_v 5)) ea_nil)))))))))))))
theorem ok_is_between (T : Txt K mg) (bf : BFa base mg (csOf T)) : FnOk P w K mg base (L2.CX P w) 9 T.f_is_between.a T.f_is_between.fd ["a", "b", "c", "d", "low"] (spD K (caOf T P w) 5 F_is_between) := by
  have G_whole_sum := ok_whole_sum (P := P) (w := w) (base := base) T bf
  exact fn_D (own' := []) T.f_is_between.F sc_is_between (fun B hB cdv A outer s H E hr => (sv_cons (sv_if (PW.pt (ew_or (et_cmp eqD_ne (oo_eq hr.units) (ev_op mulP_ne oo_mulP (ev_v 0) (ev_v 3)) (ev_op mulP_ne oo_mulP (ev_v 1) (ev_v 2))) (ew_or1 (et_cmp neD_ne (oo_ne hr.units) (ev_cmp ltP_ne (oo_ltP hr) (ev_op mulP_ne oo_mulP (ev_v 0) (ev_v 3)) (ev_op mulP_ne oo_mulP (ev_v 1) (ev_v 2))) (ev_cmp geP_ne (oo_geP hr) (ev_v 4) ev_int))))) (sv_one (sv_ret ev_bl)) sv_nil) (sv_cons (sv_tgt (ev_if (et_cmp geP_ne (oo_geP hr) (ev_v 4) ev_int) (ev_tup (ea_cons (ev_v 4) (ea_cons (ev_op addP_ne oo_addP (ev_v 4) ev_int) ea_nil))) (ev_tup (ea_cons (ev_op addP_ne oo_addP (ev_v 4) ev_int) (ea_cons (ev_v 4) ea_nil)))) (eg_seq rfl (egs_cons (eg_name (i := 5) sc_is_between.nd (.inl (by decide))) (egs_cons (eg_name (i := 6) sc_is_between.nd (.inl (by decide))) egs_nil))) (bSeq_ne (bCons_ne bName_ne (bCons_ne bName_ne bNil_ne)))) (sv_one (sv_ret (ev_and (ev_or (ev_cmp eqD_ne (oo_eq hr.units) (ev_v 5) ev_int) (ev_and1 (ev_cmp ltP_ne (oo_ltP hr) (ev_call G_whole_sum (hr.mono (by decide)) T.f_whole_sum.g T.f_whole_sum.F.kp T.f_whole_sum.b (pxT tk_of) (ea_cons (ev_v 0) (ea_cons (ev_v 1) (ea_cons (ev_v 2) (ea_cons (ev_v 3) (ea_cons (ev_v 5) ea_nil)))))) ev_int))) (ev_and1 (ev_cmp gtP_ne (oo_gtP hr) (ev_call G_whole_sum (hr.mono (by decide)) T.f_whole_sum.g T.f_whole_sum.F.kp T.f_whole_sum.b (pxT tk_of) (ea_cons (ev_v 0) (ea_cons (ev_v 1) (ea_cons (ev_v 2) (ea_cons (ev_v 3) (ea_cons (ev_v 6) ea_nil)))))) ev_int))))))))
theorem ok_shows_power (T : Txt K mg) (bf : BFa base mg (csOf T)) : FnOk P w K mg base (L2.CX P w) 13 T.f_shows_power.a T.f_shows_power.fd ["a", "b", "c", "d", "value"] (spD K (caOf T P w) 5 F_shows_power) := by
  have G_need_growing := ok_need_growing (P := P) (w := w) (base := base) T bf
  have G_is_between := ok_is_between (P := P) (w := w) (base := base) T bf
  have G_is_within := ok_is_within (P := P) (w := w) (base := base) T bf
  have G_is_by_power := ok_is_by_power (P := P) (w := w) (base := base) T bf
  exact fn_D (own' := []) T.f_shows_power.F sc_shows_power (fun B hB cdv A outer s H E hr => (sv_cons (sv_expr (ev_call G_need_growing (hr.mono (by decide)) T.f_need_growing.g T.f_need_growing.F.kp T.f_need_growing.b (pxT tk_of) (ea_cons (ev_v 0) (ea_cons (ev_v 1) (ea_cons (ev_v 2) (ea_cons (ev_v 3) ea_nil)))))) (sv_cons (sv_if (et_cmp clsIsD_ne (oo_clsIs (clsC T)) (ev_callT typeD_ne oc_type T.n_type (ea_cons (ev_v 4) ea_nil)) (ev_k (pe_glob (v := .ref T.k_ByPower.a) rfl T.k_ByPower.g rfl) fun _ => .cod 24 rfl)) (sv_one (sv_ret (ev_and (ev_call G_is_within (hr.mono (by decide)) T.f_is_within.g T.f_is_within.F.kp T.f_is_within.b (pxT tk_of) (ea_cons (ev_fld (at_power T) (ev_v 4)) (ea_cons (ev_k (pe_glob (v := .int (-80)) rfl T.c_LEAST_POWER ⟨_, rfl⟩) fun _ => .int _) (ea_cons (ev_k (pe_glob (v := .int (80)) rfl T.c_MOST_POWER ⟨_, rfl⟩) fun _ => .int _) ea_nil)))) (ev_and1 (ev_call G_is_by_power (hr.mono (by decide)) T.f_is_by_power.g T.f_is_by_power.F.kp T.f_is_by_power.b (pxT tk_of) (ea_cons (ev_v 0) (ea_cons (ev_v 1) (ea_cons (ev_v 2) (ea_cons (ev_v 3) (ea_cons (ev_fld (at_power T) (ev_v 4)) ea_nil)))))))))) sv_nil) (sv_cons (sv_if (PW.pt (ew_or (et_cmp clsIsnD_ne (oo_clsIsn (clsC T)) (ev_callT typeD_ne oc_type T.n_type (ea_cons (ev_v 4) ea_nil)) (ev_k (pe_glob (v := .ref T.k_Between.a) rfl T.k_Between.g rfl) fun _ => .cod 21 rfl)) (ew_or1 (et_not (et_val (ev_call G_is_within (hr.mono (by decide)) T.f_is_within.g T.f_is_within.F.kp T.f_is_within.b (pxT tk_of) (ea_cons (ev_fld (at_low T) (ev_v 4)) (ea_cons (ev_k (pe_glob (v := .int (-80)) rfl T.c_LEAST_POWER ⟨_, rfl⟩) fun _ => .int _) (ea_cons (ev_op (intD_ne subI_ne) oo_sub (ev_k (pe_glob (v := .int (80)) rfl T.c_MOST_POWER ⟨_, rfl⟩) fun _ => .int _) ev_int) ea_nil))))))))) (sv_one (sv_ret ev_bl)) sv_nil) (sv_one (sv_ret (ev_call G_is_between (hr.mono (by decide)) T.f_is_between.g T.f_is_between.F.kp T.f_is_between.b (pxT tk_of) (ea_cons (ev_v 0) (ea_cons (ev_v 1) (ea_cons (ev_v 2) (ea_cons (ev_v 3) (ea_cons (ev_fld (at_low T) (ev_v 4)) ea_nil))))))))))))
theorem ok__law_powers_right (T : Txt K mg) (bf : BFa base mg (csOf T)) : FnOk P w K mg base (L2.CX P w) 16 T.f__law_powers_right.a T.f__law_powers_right.fd ["_law_hat_here"] (spM K (caOf T P w) 1 F__law_powers_right) := by
  have G__law_growing := ok__law_growing (P := P) (w := w) (base := base) T bf
  have G__law_growing_due := ok__law_growing_due (P := P) (w := w) (base := base) T bf
  have G_power_of := ok_power_of (P := P) (w := w) (base := base) T bf
  have G__law_lot := ok__law_lot (P := P) (w := w) (base := base) T bf
  have G__law_one := ok__law_one (P := P) (w := w) (base := base) T bf
  have G__law_bad := ok__law_bad (P := P) (w := w) (base := base) T bf
  have G_shows_power := ok_shows_power (P := P) (w := w) (base := base) T bf
  exact fn_MC (own' := [0]) T.f__law_powers_right.F T.cd__law_powers_right sc__law_powers_right (fun B A outer s H E hr => (sv_cons (sv_asgN (i := 1) (own' := [1, 0]) sc__law_powers_right.nd (ev_callMN 0 G__law_growing (hr.mono (by decide)) T.f__law_growing.g T.f__law_growing.F.kp T.f__law_growing.b (pxT tk_of) ea_nil) (.inl (by decide))) (sv_cons (sv_for ps_of rfl (ei_range1 T.n_range (ea_cons (ev_callM 0 G__law_lot (hr.mono (by decide)) T.f__law_lot.g T.f__law_lot.F.kp T.f__law_lot.b (pxT tk_of) (ea_cons ev_int ea_nil)) ea_nil)) (eg_name (i := 2) sc__law_powers_right.nd (.inl (by decide))) bName_ne (sv_cons (sv_asg (i := 3) (own' := [1, 0]) sc__law_powers_right.nd (ev_callM 0 G__law_lot (hr.mono (by decide)) T.f__law_lot.g T.f__law_lot.F.kp T.f__law_lot.b (pxT tk_of) (ea_cons ev_int ea_nil)) (.inl (by decide))) (sv_one (sv_set 1 (ev_callM 0 G__law_one (hr.mono (by decide)) T.f__law_one.g T.f__law_one.F.kp T.f__law_one.b (pxT tk_of) (ea_cons (ev_ice (ev_lst (ea_cons (ev_callM 0 G__law_bad (hr.mono (by decide)) T.f__law_bad.g T.f__law_bad.F.kp T.f__law_bad.b (pxT tk_of) (ea_cons ev_int (ea_cons ev_int ea_nil))) (ea_cons (ev_ixO 1 (ev_op (intD_ne subI_ne) oo_sub (ev_v 3) ev_int)) (ea_cons (ev_ixO 1 (ev_op (intD_ne modI_ne) oo_mod (ev_callT intC_ne oc_int T.n_int (ea_cons (ev_op addP_ne oo_addP (ev_v 3) ev_int) ea_nil)) ev_int)) (ea_cons ev_int (ea_cons ev_int ea_nil))))))) ea_nil)) (ev_v 3))))) (sv_cons (sv_fz (own1 := [0]) 1 (sv_tgt (ev_v 1) (eg_seq rfl (egs_cons (eg_name (i := 6) sc__law_powers_right.nd (.inl (by decide))) (egs_cons (eg_name (i := 7) sc__law_powers_right.nd (.inl (by decide))) (egs_cons (eg_name (i := 8) sc__law_powers_right.nd (.inl (by decide))) (egs_cons (eg_name (i := 9) sc__law_powers_right.nd (.inl (by decide))) egs_nil))))) (bSeq_ne (bCons_ne bName_ne (bCons_ne bName_ne (bCons_ne bName_ne (bCons_ne bName_ne bNil_ne)))))) (.inl (by decide))) (sv_cons (sv_asg (i := 4) (own' := [0]) sc__law_powers_right.nd (ev_call G__law_growing_due (hr.mono (by decide)) T.f__law_growing_due.g T.f__law_growing_due.F.kp T.f__law_growing_due.b (pxT tk_of) (ea_cons (ev_v 1) ea_nil)) (.inl (by decide))) (sv_cons (sv_if (et_cmp neD_ne (oo_ne hr.units) (ev_look (fun B1 hK1 => (ev_heard (k := 13) rfl T.f__law_heard.g T.f__law_heard.kp T.f__law_heard.lk T.f__law_heard.hc T.f__law_heard.b sc__law_heard rfl (.inl rfl) (gv__law_heard T _ rfl rfl rfl rfl) (tb__law_powers_right T bf) rfl (mem__law_powers_right T) (uq__law_powers_right T) (hr.mono (by decide)) (LamX.lamS_by (sc := defScope s__law_powers_right) (by decide +kernel)) rfl (fun _ _ _ _ _ => rfl) (fun A outer s H E f c' hr B hm => (ev_call G_power_of (hr.mono (by decide)) T.f_power_of.g T.f_power_of.F.kp T.f_power_of.b (pxT (takes_of rfl rfl rfl rfl)) (ea_cons (ev_v 6) (ea_cons (ev_v 7) (ea_cons (ev_v 8) (ea_cons (ev_v 9) ea_nil))))))))) (ev_v 4)) (sv_one (sv_ret ev_bl)) sv_nil) (sv_cons (sv_if (et_cmp neD_ne (oo_ne hr.units) (ev_look (fun B2 hK2 => (ev_heard (k := 13) rfl T.f__law_heard.g T.f__law_heard.kp T.f__law_heard.lk T.f__law_heard.hc T.f__law_heard.b sc__law_heard rfl (.inl rfl) (gv__law_heard T _ rfl rfl rfl rfl) (tb__law_powers_right T bf) rfl (mem__law_powers_right T) (uq__law_powers_right T) (hr.mono (by decide)) (LamX.lamS_by (sc := defScope s__law_powers_right) (by decide +kernel)) rfl (fun _ _ _ _ _ => rfl) (fun A outer s H E f c' hr B hm => (ev_call G_shows_power (hr.mono (by decide)) T.f_shows_power.g T.f_shows_power.F.kp T.f_shows_power.b (pxT (takes_of rfl rfl rfl rfl)) (ea_cons (ev_v 6) (ea_cons (ev_v 7) (ea_cons (ev_v 8) (ea_cons (ev_v 9) (ea_cons ev_str ea_nil)))))))))) (ev_v 4)) (sv_one (sv_ret ev_bl)) sv_nil) (sv_cons (sv_if (et_cmp isnD_ne oo_isn (ev_v 4) ev_non) (sv_one (sv_ret ev_bl)) sv_nil) (sv_cons (sv_asg (i := 5) (own' := [0]) sc__law_powers_right.nd (ev_callK G_power_of (hr.mono (by decide)) T.f_power_of.g T.f_power_of.F.kp (kb_power_of_4 T) (fun F ds vs r => kr_power_of_4 r) (pxT tk_of) (ek_cons (ev_v 9) (ek_cons (ev_v 8) (ek_cons (ev_v 7) (ek_cons (ev_v 6) ek_nil))))) (.inl (by decide))) (sv_one (sv_ret (ev_or (ev_callB isiD_ne (oc_isi (clsC T) (subG_ok T)) T.n_isinstance (ea_cons (ev_v 5) (ea_cons (ev_k (pe_glob (v := .ref T.k_ByPower.a) rfl T.k_ByPower.g rfl) fun _ => .cod 24 rfl) ea_nil))) (ev_and1 (ev_callB isiD_ne (oc_isi (clsC T) (subG_ok T)) T.n_isinstance (ea_cons (ev_v 5) (ea_cons (ev_k (pe_glob (v := .ref T.k_Between.a) rfl T.k_Between.g rfl) fun _ => .cod 21 rfl) ea_nil))))))))))))))))
theorem ok_is_list (T : Txt K mg) (bf : BFa base mg (csOf T)) : FnOk P w K mg base (L2.CX P w) 1 T.f_is_list.a T.f_is_list.fd ["value"] (spD K (caOf T P w) 1 F_is_list) := by
  exact fn_D (own' := []) T.f_is_list.F sc_is_list (fun B hB cdv A outer s H E hr => (sv_one (sv_ret (ev_isiT (cs := [.ty "list", .ty "tuple"]) (clsC T) (subG_ok T) (fun _ => (.cons (.ty _) (.cons (.ty _) .nil))) (by show 2 ≤ sizeLine; rw [sizeLine_eq]; decide) T.n_isinstance (ev_v 0) (pc_cons (pe_bltn (v := .ty "list") (by rfl) T.n_list (by decide +kernel) rfl) (pc_cons (pe_bltn (v := .ty "tuple") (by rfl) T.n_tuple (by decide +kernel) rfl) pc_nil))))))
theorem ok_need_growing_row (T : Txt K mg) (bf : BFa base mg (csOf T)) : FnOk P w K mg base (L2.CX P w) 7 T.f_need_growing_row.a T.f_need_growing_row.fd ["numbers"] (spD K (caOf T P w) 1 F_need_growing_row) := by
  have G_is_list := ok_is_list (P := P) (w := w) (base := base) T bf
  have G_is_within := ok_is_within (P := P) (w := w) (base := base) T bf
  exact fn_D (own' := []) T.f_need_growing_row.F sc_need_growing_row (fun B hB cdv A outer s H E hr => (sv_cons (sv_if (PW.pt (ew_or (et_not (et_val (ev_call G_is_list (hr.mono (by decide)) T.f_is_list.g T.f_is_list.F.kp T.f_is_list.b (pxT tk_of) (ea_cons (ev_v 0) ea_nil)))) (ew_or1 (et_not (et_ch (ev_k (pe_glob (v := .int (3)) rfl T.c_LEAST_LONG ⟨_, rfl⟩) fun _ => .int _) (ek_link leP_ne (oo_leP hr) (ev_callB lenP_ne oc_lenP T.n_len (ea_cons (ev_v 0) ea_nil)) (ek_last leP_ne (oo_leP hr) (ev_k (pe_glob (v := .int (12)) rfl T.c_MOST_LONG ⟨_, rfl⟩) fun _ => .int _)))))))) (sv_one (sv_raise1 (c := 9) T.ex_BadNumber (fx_BadNumber__init__ T) rfl (hr.mono (by decide)) T.f_BadNumber__init__.b T.x_BadNumber.g tk_of passL (ea_cons ev_str ea_nil))) sv_nil) (sv_cons (sv_asg (i := 1) (own' := []) sc_need_growing_row.nd ev_int (.inl (by decide))) (sv_one (sv_for ps_of rfl (ei_val (ev_v 0)) (eg_name (i := 2) sc_need_growing_row.nd (.inl (by decide))) bName_ne (sv_cons (sv_if (et_not (et_val (ev_call G_is_within (hr.mono (by decide)) T.f_is_within.g T.f_is_within.F.kp T.f_is_within.b (pxT tk_of) (ea_cons (ev_v 2) (ea_cons (ev_v 1) (ea_cons (ev_k (pe_glob (v := .int (99)) rfl T.c_MOST_SMALL ⟨_, rfl⟩) fun _ => .int _) ea_nil)))))) (sv_one (sv_raise1 (c := 9) T.ex_BadNumber (fx_BadNumber__init__ T) rfl (hr.mono (by decide)) T.f_BadNumber__init__.b T.x_BadNumber.g tk_of passL (ea_cons ev_str ea_nil))) sv_nil) (sv_one (sv_asg (i := 1) (own' := []) sc_need_growing_row.nd (ev_op addP_ne oo_addP (ev_v 2) ev_int) (.inl (by decide))))))))))
theorem ok_Uneven__init__ (T : Txt K mg) (bf : BFa base mg (csOf T)) : FnOk P w K mg base (L2.CX P w) 10 T.f_Uneven__init__.a T.f_Uneven__init__.fd ["self", "step"] (spM K (caOf T P w) 2 F_Uneven__init__) := by
  have G_Denial__init__ := fun {n : Nat} => ok_Denial__init__ (P := P) (w := w) (base := base) (n := n) T bf
  exact fn_M (own' := [0]) T.f_Uneven__init__.F sc_Uneven__init__ (fun cdv B A outer s H E hr => (sv_cons (sv_expr (ev_cfn 0 (pe_glob (v := .ref T.k_Denial.a) rfl T.k_Denial.g rfl) T.cr_Denial T.cv_Denial__init__ T.f_Denial__init__.F.kp G_Denial__init__ (hr.mono (by decide)) (pxT tk_of) (ea_cons ev_str (ea_cons (ev_v 1) ea_nil)))) (sv_one (sv_fld 0 (at_step T) (ev_ix ixD_ne oo_ix (ev_fldO 0 (at_parts T)) ev_int)))))
theorem ok_is_step_by (T : Txt K mg) (bf : BFa base mg (csOf T)) : FnOk P w K mg base (L2.CX P w) 12 T.f_is_step_by.a T.f_is_step_by.fd ["numbers", "step", "power"] (spD K (caOf T P w) 3 F_is_step_by) := by
  have G_is_by_power := ok_is_by_power (P := P) (w := w) (base := base) T bf
  exact fn_D (own' := []) T.f_is_step_by.F sc_is_step_by (fun B hB cdv A outer s H E hr => (sv_cons (sv_tgt (ev_slP (ev_v 0) (ep_some (ev_v 1)) (ep_some (ev_op addP_ne oo_addP (ev_v 1) ev_int))) (eg_seq rfl (egs_cons (eg_name (i := 3) sc_is_step_by.nd (.inl (by decide))) (egs_cons (eg_name (i := 4) sc_is_step_by.nd (.inl (by decide))) (egs_cons (eg_name (i := 5) sc_is_step_by.nd (.inl (by decide))) egs_nil)))) (bSeq_ne (bCons_ne bName_ne (bCons_ne bName_ne (bCons_ne bName_ne bNil_ne))))) (sv_one (sv_ret (ev_call G_is_by_power (hr.mono (by decide)) T.f_is_by_power.g T.f_is_by_power.F.kp T.f_is_by_power.b (pxT tk_of) (ea_cons (ev_v 3) (ea_cons (ev_v 4) (ea_cons (ev_v 4) (ea_cons (ev_v 5) (ea_cons (ev_v 2) ea_nil))))))))))
theorem ok_power_of_row (T : Txt K mg) (bf : BFa base mg (csOf T)) : FnOk P w K mg base (L2.CX P w) 16 T.f_power_of_row.a T.f_power_of_row.fd ["numbers"] (spD K (caOf T P w) 1 F_power_of_row) := by
  have G_need_growing_row := ok_need_growing_row (P := P) (w := w) (base := base) T bf
  have G_power_of := ok_power_of (P := P) (w := w) (base := base) T bf
  have G_Uneven__init__ := ok_Uneven__init__ (P := P) (w := w) (base := base) T bf
  have G_is_step_by := ok_is_step_by (P := P) (w := w) (base := base) T bf
  exact fn_D (own' := []) T.f_power_of_row.F sc_power_of_row (fun B hB cdv A outer s H E hr => (sv_cons (sv_expr (ev_call G_need_growing_row (hr.mono (by decide)) T.f_need_growing_row.g T.f_need_growing_row.F.kp T.f_need_growing_row.b (pxT tk_of) (ea_cons (ev_v 0) ea_nil))) (sv_cons (sv_asg (i := 1) (own' := []) sc_power_of_row.nd (ev_call G_power_of (hr.mono (by decide)) T.f_power_of.g T.f_power_of.F.kp T.f_power_of.b (pxT tk_of) (ea_cons (ev_ix ixD_ne oo_ix (ev_v 0) ev_int) (ea_cons (ev_ix ixD_ne oo_ix (ev_v 0) ev_int) (ea_cons (ev_ix ixD_ne oo_ix (ev_v 0) ev_int) (ea_cons (ev_ix ixD_ne oo_ix (ev_v 0) ev_int) ea_nil))))) (.inl (by decide))) (sv_cons (sv_if (et_cmp clsIsnD_ne (oo_clsIsn (clsC T)) (ev_callT typeD_ne oc_type T.n_type (ea_cons (ev_v 1) ea_nil)) (ev_k (pe_glob (v := .ref T.k_ByPower.a) rfl T.k_ByPower.g rfl) fun _ => .cod 24 rfl)) (sv_one (sv_ret (ev_ice (ev_make (c := 108) T.mk_Uneven G_Uneven__init__ (hr.mono (by decide)) T.k_Uneven.g T.f_Uneven__init__.b (pxT tk_of) (ea_cons ev_int ea_nil))))) sv_nil) (sv_cons (sv_for ps_of rfl (ei_range1 T.n_range (ea_cons (ev_op (intD_ne subI_ne) oo_sub (ev_callB lenP_ne oc_lenP T.n_len (ea_cons (ev_v 0) ea_nil)) ev_int) ea_nil)) (eg_name (i := 2) sc_power_of_row.nd (.inl (by decide))) bName_ne (sv_one (sv_if (et_not (et_val (ev_call G_is_step_by (hr.mono (by decide)) T.f_is_step_by.g T.f_is_step_by.F.kp T.f_is_step_by.b (pxT tk_of) (ea_cons (ev_v 0) (ea_cons (ev_v 2) (ea_cons (ev_fld (at_power T) (ev_v 1)) ea_nil)))))) (sv_one (sv_ret (ev_ice (ev_make (c := 108) T.mk_Uneven G_Uneven__init__ (hr.mono (by decide)) T.k_Uneven.g T.f_Uneven__init__.b (pxT tk_of) (ea_cons (ev_v 2) ea_nil))))) sv_nil))) (sv_one (sv_ret (ev_v 1))))))))
theorem okn_is_just (T : Txt K mg) (bf : BFa base mg (csOf T)) : ∀ n : Nat, n ≤ 60 → FnOk P w K mg base (L2.CX P w) (4 + n) T.f_is_just.a T.f_is_just.fd ["value", "wanted"] (spD K (caOf T P w) 2 (FF_is_just n))
  | 0, _ => T.f_is_just.F.okX sc_is_just (fun vs H Q E ⟨_, _, _, _, _, h⟩ => h.elim) (fun _ _ _ _ _ _ _ _ _ ⟨_, _, _, _, _, h⟩ => h.elim)
  | n + 1, hn => by
    have G_is_integer := ok_is_integer (P := P) (w := w) (base := base) T bf
    have G_is_just := okn_is_just T bf n (by omega)
    exact fn_D (own' := []) T.f_is_just.F sc_is_just (fun B hB cdv A outer s H E hr => (sv_cons (sv_if (et_val (ev_callB isiD_ne (oc_isi (clsC T) (subG_ok T)) T.n_isinstance (ea_cons (ev_v 1) (ea_cons (ev_k (pe_bltn (v := .ty "tuple") (by rfl) T.n_tuple (by decide +kernel) rfl) fun _ => .ty _) ea_nil)))) (sv_cons (sv_if (PW.pt (ew_or (et_not (et_val (ev_callB isiD_ne (oc_isi (clsC T) (subG_ok T)) T.n_isinstance (ea_cons (ev_v 0) (ea_cons (ev_k (pe_bltn (v := .ty "tuple") (by rfl) T.n_tuple (by decide +kernel) rfl) fun _ => .ty _) ea_nil))))) (ew_or1 (et_cmp neD_ne (oo_ne hr.units) (ev_callB lenP_ne oc_lenP T.n_len (ea_cons (ev_v 0) ea_nil)) (ev_callB lenP_ne oc_lenP T.n_len (ea_cons (ev_v 1) ea_nil)))))) (sv_one (sv_ret ev_bl)) sv_nil) (sv_one (sv_ret (ev_callB allD_ne (oc_all rfl) T.n_all (ea_cons (ev_ice (ev_lc rfl (so := [("one", 2), ("other", 3)]) sc_is_just.nd (ei_zipP T.n_zip (ea_cons (ev_v 0) (ea_cons (ev_v 1) ea_nil))) (blkOk_by (N := n_is_just) (sc := defScope s_is_just) (by decide +kernel)) (fun B1 hL1 s H Ca cl fp => (eg_seq rfl (egs_cons (eg_name (i := 2) sc_is_just.nd (.inl (by decide))) (egs_cons (eg_name (i := 3) sc_is_just.nd (.inl (by decide))) egs_nil)))) (fun B1 hL1 s H Ca cl fp => ets_nil) (fun B1 hL1 s H Ca cl fp => (ev_call G_is_just (hr.mono (Nat.le_refl _)) T.f_is_just.g T.f_is_just.F.kp T.f_is_just.b pxF (ea_cons (ev_v 2) (ea_cons (ev_v 3) ea_nil)))) (bSeq_ne (bCons_ne bName_ne (bCons_ne bName_ne bNil_ne))))) ea_nil))))) sv_nil) (sv_cons (sv_if (et_val (ev_callB isiD_ne (oc_isi (clsC T) (subG_ok T)) T.n_isinstance (ea_cons (ev_v 1) (ea_cons (ev_k (pe_bltn (v := .ty "str") (by rfl) T.n_str (by decide +kernel) rfl) fun _ => .ty _) ea_nil)))) (sv_one (sv_ret (ev_and (ev_callB isiD_ne (oc_isi (clsC T) (subG_ok T)) T.n_isinstance (ea_cons (ev_v 0) (ea_cons (ev_k (pe_bltn (v := .ty "str") (by rfl) T.n_str (by decide +kernel) rfl) fun _ => .ty _) ea_nil))) (ev_and1 (ev_cmp eqD_ne (oo_eq hr.units) (ev_v 0) (ev_v 1)))))) sv_nil) (sv_cons (sv_if (et_val (ev_call G_is_integer (hr.mono (by simp only [Nat.add_eq]; omega)) T.f_is_integer.g T.f_is_integer.F.kp T.f_is_integer.b (pxT tk_of) (ea_cons (ev_v 1) ea_nil))) (sv_one (sv_ret (ev_and (ev_call G_is_integer (hr.mono (by simp only [Nat.add_eq]; omega)) T.f_is_integer.g T.f_is_integer.F.kp T.f_is_integer.b (pxT tk_of) (ea_cons (ev_v 0) ea_nil)) (ev_and1 (ev_cmp eqD_ne (oo_eq hr.units) (ev_v 0) (ev_v 1)))))) sv_nil) (sv_one (sv_ret (ev_and (ev_cmp isD_ne oo_is (ev_v 0) ev_non) (ev_and1 (ev_cmp isD_ne oo_is (ev_v 1) ev_non)))))))))
theorem ok_is_just (T : Txt K mg) (bf : BFa base mg (csOf T)) : FnOk P w K mg base (L2.CX P w) 7 T.f_is_just.a T.f_is_just.fd ["value", "wanted"] (spD K (caOf T P w) 2 F_is_just) := okn_is_just T bf 3 (by decide)
end
end Q

namespace Q
open PySem PySem.Spec PyProof.Rows L2 Dl
section
variable {P : Program} {w : World} {K : PySem.W.Frag} {mg : Str → Option Value} {base : Heap}
theorem ok_shows_power_of_row (T : Txt K mg) (bf : BFa base mg (csOf T)) : FnOk P w K mg base (L2.CX P w) 19 T.f_shows_power_of_row.a T.f_shows_power_of_row.fd ["numbers", "value"] (spD K (caOf T P w) 2 F_shows_power_of_row) := by
  have G_power_of_row := ok_power_of_row (P := P) (w := w) (base := base) T bf
  have G_is_just := ok_is_just (P := P) (w := w) (base := base) T bf
  exact fn_D (own' := []) T.f_shows_power_of_row.F sc_shows_power_of_row (fun B hB cdv A outer s H E hr => (sv_cons (sv_asg (i := 2) (own' := []) sc_shows_power_of_row.nd (ev_call G_power_of_row (hr.mono (by decide)) T.f_power_of_row.g T.f_power_of_row.F.kp T.f_power_of_row.b (pxT tk_of) (ea_cons (ev_v 0) ea_nil)) (.inl (by decide))) (sv_one (sv_ret (ev_and (ev_cmp clsIsD_ne (oo_clsIs (clsC T)) (ev_callT typeD_ne oc_type T.n_type (ea_cons (ev_v 1) ea_nil)) (ev_callT typeD_ne oc_type T.n_type (ea_cons (ev_v 2) ea_nil))) (ev_and1 (ev_call G_is_just (hr.mono (by decide)) T.f_is_just.g T.f_is_just.F.kp T.f_is_just.b (pxT tk_of) (ea_cons (ev_fld (at_parts T) (ev_v 1)) (ea_cons (ev_fld (at_parts T) (ev_v 2)) ea_nil)))))))))
theorem ok__law_numbers_right (T : Txt K mg) (bf : BFa base mg (csOf T)) : FnG P w K mg base 22 T.f__law_numbers_right.a T.f__law_numbers_right.fd ["_law_hat_here"] (spM K (caOf T P w) 1 F__law_numbers_right) := by
  have G__law_lot := ok__law_lot (P := P) (w := w) (base := base) T bf
  have G_power_of_row := ok_power_of_row (P := P) (w := w) (base := base) T bf
  have G__law_bad := ok__law_bad (P := P) (w := w) (base := base) T bf
  have G__law_one := ok__law_one (P := P) (w := w) (base := base) T bf
  have G_shows_power_of_row := ok_shows_power_of_row (P := P) (w := w) (base := base) T bf
  have G__law_within := ok__law_within (P := P) (w := w) (base := base) T bf
  exact fn_MG (own' := [0]) T.f__law_numbers_right.F sc__law_numbers_right (fun B cdv hcd A outer s H E gu hr => (sv_cons (sv_asgN (i := 1) (own' := [1, 0]) sc__law_numbers_right.nd (ev_sortSet rfl T.n_sorted T.n_set (ea_cons (ev_ice (ev_lc rfl (so := [("_law_turn", 8)]) sc__law_numbers_right.nd (ei_range1 T.n_range (ea_cons (ev_callM 0 G__law_one (hr.mono (by decide)) T.f__law_one.g T.f__law_one.F.kp T.f__law_one.b (pxT tk_of) (ea_cons (ev_ice (ev_lst (ea_cons ev_int (ea_cons ev_int (ea_cons ev_int (ea_cons ev_int (ea_cons ev_int (ea_cons ev_int ea_nil)))))))) ea_nil)) ea_nil)) (blkOk_by (N := n__law_numbers_right) (sc := defScope s__law_numbers_right) (by decide +kernel)) (fun B1 hL1 s H Ca cl fp => (eg_name (i := 8) sc__law_numbers_right.nd (.inl (by decide)))) (fun B1 hL1 s H Ca cl fp => ets_nil) (fun B1 hL1 s H Ca cl fp => (ev_op addP_ne oo_addP ev_int (ev_callM 0 G__law_lot (hr.mono (by decide)) T.f__law_lot.g T.f__law_lot.F.kp T.f__law_lot.b pxF (ea_cons ev_int ea_nil)))) bName_ne)) ea_nil)) (.inl (by decide))) (sv_cons (sv_asg (i := 2) (own' := [1, 0]) sc__law_numbers_right.nd (ev_callM 0 G__law_lot (hr.mono (by decide)) T.f__law_lot.g T.f__law_lot.F.kp T.f__law_lot.b (pxT tk_of) (ea_cons ev_int ea_nil)) (.inl (by decide))) (sv_cons (sv_if (et_cmp eqD_ne (oo_eq hr.units) (ev_v 2) ev_int) (sv_one (sv_set 1 (ev_callM 0 G__law_bad (hr.mono (by decide)) T.f__law_bad.g T.f__law_bad.F.kp T.f__law_bad.b (pxT tk_of) (ea_cons ev_int (ea_cons ev_int ea_nil))) (ev_callM 0 G__law_lot (hr.mono (by decide)) T.f__law_lot.g T.f__law_lot.F.kp T.f__law_lot.b (pxT tk_of) (ea_cons (ev_look (fun B2 hK2 => (ev_callB lenP_ne oc_lenP T.n_len (ea_cons (ev_v 1) ea_nil)))) ea_nil)))) sv_nil) (sv_cons (sv_if (et_cmp eqD_ne (oo_eq hr.units) (ev_v 2) ev_int) (sv_one (sv_expr (ev_mth 1 PySem.F.plainAttrs_list PySem.F.slot_list_insert PySem.F.type_list_insert om_insert (ea_cons (ev_callM 0 G__law_lot (hr.mono (by decide)) T.f__law_lot.g T.f__law_lot.F.kp T.f__law_lot.b (pxT tk_of) (ea_cons (ev_op addP_ne oo_addP (ev_look (fun B3 hK3 => (ev_callB lenP_ne oc_lenP T.n_len (ea_cons (ev_v 1) ea_nil)))) ev_int) ea_nil)) (ea_cons (ev_callM 0 G__law_one (hr.mono (by decide)) T.f__law_one.g T.f__law_one.F.kp T.f__law_one.b (pxT tk_of) (ea_cons (ev_ice (ev_lst (ea_cons (ev_ixO 1 ev_int) (ea_cons (ev_ixO 1 (ev_un negD_ne oo_neg ev_int)) (ea_cons ev_int (ea_cons ev_int ea_nil)))))) ea_nil)) ea_nil))))) sv_nil) (sv_cons (sv_fz (own1 := [0]) 1 (sv_asg (i := 7) (own' := [0]) sc__law_numbers_right.nd (ev_if (et_cmp eqD_ne (oo_eq hr.units) (ev_v 2) ev_int) (ev_callT tupC_ne oc_tuple T.n_tuple (ea_cons (ev_v 1) ea_nil)) (ev_v 1)) (.inl (by decide))) (.inl (by decide))) (sv_cons (sv_if (et_cmp eqD_ne (oo_eq hr.units) (ev_v 2) ev_int) (sv_one (sv_asg (i := 7) (own' := [0]) sc__law_numbers_right.nd (ev_callM 0 G__law_one (hr.mono (by decide)) T.f__law_one.g T.f__law_one.F.kp T.f__law_one.b (pxT tk_of) (ea_cons (ev_ice (ev_lst (ea_cons ev_non (ea_cons ev_int (ea_cons ev_str (ea_cons (ev_ice ev_dct0) (ea_cons (ev_ice (ev_lst ea_nil)) (ea_cons (ev_tup (ea_cons ev_int (ea_cons ev_int ea_nil))) (ea_cons (ev_slP (ev_v 1) ep_none (ep_some ev_int)) (ea_cons (ev_ice (ev_lst (ea_cons (ev_v 1) ea_nil))) (ea_cons (ev_op addP_ne oo_addP (ev_ice (ev_rev (ev_v 1))) (ev_ice (ev_lst (ea_cons ev_int ea_nil)))) ea_nil))))))))))) ea_nil)) (.inl (by decide)))) sv_nil) (sv_cons (sv_asg (i := 3) (own' := [0]) sc__law_numbers_right.nd (ev_and (ev_isiT (cs := [.ty "list", .ty "tuple"]) (clsC T) (subG_ok T) (fun _ => (.cons (.ty _) (.cons (.ty _) .nil))) (by show 2 ≤ sizeLine; rw [sizeLine_eq]; decide) T.n_isinstance (ev_v 7) (pc_cons (pe_bltn (v := .ty "list") (by rfl) T.n_list (by decide +kernel) rfl) (pc_cons (pe_bltn (v := .ty "tuple") (by rfl) T.n_tuple (by decide +kernel) rfl) pc_nil))) (ev_and1 (ev_ch ev_int (ec_link leP_ne (oo_leP hr) (ev_callB lenP_ne oc_lenP T.n_len (ea_cons (ev_v 7) ea_nil)) (ec_last leP_ne (oo_leP hr) ev_int))))) (.inl (by decide))) (sv_cons (sv_asg (i := 3) (own' := [0]) sc__law_numbers_right.nd (ev_and (ev_v 3) (ev_and1 (ev_cmp eqX_ne (oo_eqX hr.units) (ev_ice (ev_lc rfl (so := [("_law_value", 9)]) sc__law_numbers_right.nd (ei_val (ev_v 7)) (blkOk_by (N := n__law_numbers_right) (sc := defScope s__law_numbers_right) (by decide +kernel)) (fun B4 hL4 s H Ca cl fp => (eg_name (i := 9) sc__law_numbers_right.nd (.inl (by decide)))) (fun B4 hL4 s H Ca cl fp => (ets_one (et_not (et_val (ev_call G__law_within (hr.mono (by decide)) T.f__law_within.g T.f__law_within.F.kp T.f__law_within.b pxF (ea_cons (ev_v 9) (ea_cons ev_int (ea_cons ev_int ea_nil)))))))) (fun B4 hL4 s H Ca cl fp => (ev_v 9)) bName_ne)) (ev_ice (ev_lst ea_nil))))) (.inl (by decide))) (sv_cons (sv_asg (i := 3) (own' := [0]) sc__law_numbers_right.nd (ev_and (ev_v 3) (ev_and1 (ev_cmp eqX_ne (oo_eqX hr.units) (ev_ice (ev_lc rfl (so := [("_law_at", 10)]) sc__law_numbers_right.nd (ei_range2 T.n_range (ea_cons ev_int (ea_cons (ev_callB lenP_ne oc_lenP T.n_len (ea_cons (ev_v 7) ea_nil)) ea_nil))) (blkOk_by (N := n__law_numbers_right) (sc := defScope s__law_numbers_right) (by decide +kernel)) (fun B5 hL5 s H Ca cl fp => (eg_name (i := 10) sc__law_numbers_right.nd (.inl (by decide)))) (fun B5 hL5 s H Ca cl fp => (ets_one (et_cmp geP_ne (oo_geP hr) (ev_ix ixD_ne oo_ix (ev_v 7) (ev_op (intD_ne subI_ne) oo_sub (ev_v 10) ev_int)) (ev_ix ixD_ne oo_ix (ev_v 7) (ev_v 10))))) (fun B5 hL5 s H Ca cl fp => (ev_v 10)) bName_ne)) (ev_ice (ev_lst ea_nil))))) (.inl (by decide))) (sv_cons (sv_par2 (i := 4) (j := 5) (own' := [0]) rfl sc__law_numbers_right.nd (ea_cons (ev_if (et_tru (ev_v 3)) ev_non (ev_tup (ea_cons ev_str (ea_cons ev_str ea_nil)))) (ea_cons (ev_callB reprR_ne (oc_reprR gu hr bf.sy) T.n_repr (ea_cons (ev_v 7) ea_nil)) ea_nil)) (.inl (by decide)) (.inl (by decide))) (sv_cons (sv_if (et_cmp neD_ne (oo_ne hr.units) (ev_look (fun B6 hK6 => (ev_heard (k := 16) rfl T.f__law_heard.g T.f__law_heard.kp T.f__law_heard.lk T.f__law_heard.hc T.f__law_heard.b sc__law_heard rfl (.inl rfl) (gv__law_heard T _ rfl rfl rfl rfl) (tb__law_numbers_right T bf) (hcd.symm.trans T.cd__law_numbers_right) (mem__law_numbers_right T) (uq__law_numbers_right T) (hr.mono (by decide)) (LamX.lamS_by (sc := defScope s__law_numbers_right) (by decide +kernel)) rfl (fun _ _ _ _ _ => rfl) (fun A outer s H E f c' hr B hm => (ev_callK G_power_of_row (hr.mono (by decide)) T.f_power_of_row.g T.f_power_of_row.F.kp (kb_power_of_row_5 T) (fun F ds vs r => kr_power_of_row_5 r) (pxT (takes_of rfl rfl rfl rfl)) (ek_cons (ev_v 7) ek_nil)))))) (ev_v 4)) (sv_one (sv_ret ev_bl)) sv_nil) (sv_cons (sv_if (et_cmp neD_ne (oo_ne hr.units) (ev_look (fun B7 hK7 => (ev_heard (k := 19) rfl T.f__law_heard.g T.f__law_heard.kp T.f__law_heard.lk T.f__law_heard.hc T.f__law_heard.b sc__law_heard rfl (.inl rfl) (gv__law_heard T _ rfl rfl rfl rfl) (tb__law_numbers_right T bf) (hcd.symm.trans T.cd__law_numbers_right) (mem__law_numbers_right T) (uq__law_numbers_right T) (hr.mono (by decide)) (LamX.lamS_by (sc := defScope s__law_numbers_right) (by decide +kernel)) rfl (fun _ _ _ _ _ => rfl) (fun A outer s H E f c' hr B hm => (ev_call G_shows_power_of_row (hr.mono (by decide)) T.f_shows_power_of_row.g T.f_shows_power_of_row.F.kp T.f_shows_power_of_row.b (pxT (takes_of rfl rfl rfl rfl)) (ea_cons (ev_v 7) (ea_cons ev_int ea_nil))))))) (ev_v 4)) (sv_one (sv_ret ev_bl)) sv_nil) (sv_cons (sv_if (et_cmp isnD_ne oo_isn (ev_v 4) ev_non) (sv_one (sv_ret (ev_cmp eqD_ne (oo_eq hr.units) (ev_callB reprR_ne (oc_reprR gu hr bf.sy) T.n_repr (ea_cons (ev_v 7) ea_nil)) (ev_v 5)))) sv_nil) (sv_cons (sv_asg (i := 6) (own' := [0]) sc__law_numbers_right.nd (ev_call G_power_of_row (hr.mono (by decide)) T.f_power_of_row.g T.f_power_of_row.F.kp T.f_power_of_row.b (pxT tk_of) (ea_cons (ev_v 7) ea_nil)) (.inl (by decide))) (sv_one (sv_ret (ev_and (ev_or (ev_callB isiD_ne (oc_isi (clsC T) (subG_ok T)) T.n_isinstance (ea_cons (ev_v 6) (ea_cons (ev_k (pe_glob (v := .ref T.k_ByPower.a) rfl T.k_ByPower.g rfl) fun _ => .cod 24 rfl) ea_nil))) (ev_and1 (ev_callB isiD_ne (oc_isi (clsC T) (subG_ok T)) T.n_isinstance (ea_cons (ev_v 6) (ea_cons (ev_k (pe_glob (v := .ref T.k_Uneven.a) rfl T.k_Uneven.g rfl) fun _ => .cod 108 rfl) ea_nil))))) (ev_and1 (ev_cmp eqD_ne (oo_eq hr.units) (ev_callB reprR_ne (oc_reprR gu hr bf.sy) T.n_repr (ea_cons (ev_v 7) ea_nil)) (ev_v 5)))))))))))))))))))))
theorem ok_law (T : Txt K mg) (bf : BFa base mg (csOf T)) : FnG P w K mg base 25 T.f_law.a T.f_law.fd ["_law_script"] (spD K (caOf T P w) 1 F_law) := by
  have G__law_hat := ok__law_hat (P := P) (w := w) (base := base) T bf
  have G__law_fours_right := ok__law_fours_right (P := P) (w := w) (base := base) T bf
  have G__law_threes_right := ok__law_threes_right (P := P) (w := w) (base := base) T bf
  have G__law_rows_right := ok__law_rows_right (P := P) (w := w) (base := base) T bf
  have G__law_powers_right := ok__law_powers_right (P := P) (w := w) (base := base) T bf
  have G__law_numbers_right := ok__law_numbers_right (P := P) (w := w) (base := base) T bf
  exact fn_DG2 (own' := [1]) T.f_law.F sc_law (fun B hB cdv hcd A outer s H E gu hr => (sv_cons (sv_asgN (i := 1) (own' := [1]) sc_law.nd (ev_callN G__law_hat (hr.mono (by decide)) T.f__law_hat.g T.f__law_hat.F.kp T.f__law_hat.b (pxT tk_of) (ea_cons (ev_v 0) ea_nil)) (.inl (by decide))) (sv_cons (sv_for ps_of rfl (ei_range1 T.n_range (ea_cons ev_int ea_nil)) (eg_name (i := 2) sc_law.nd (.inl (by decide))) bName_ne (sv_cons (sv_if (PW.pt (ew_or (et_not (et_val (ev_callM 1 G__law_fours_right (hr.mono (by decide)) T.f__law_fours_right.g T.f__law_fours_right.F.kp T.f__law_fours_right.b (pxT tk_of) ea_nil))) (ew_or (et_not (et_val (ev_callM 1 G__law_threes_right (hr.mono (by decide)) T.f__law_threes_right.g T.f__law_threes_right.F.kp T.f__law_threes_right.b (pxT tk_of) ea_nil))) (ew_or1 (et_not (et_val (ev_callM 1 G__law_rows_right (hr.mono (by decide)) T.f__law_rows_right.g T.f__law_rows_right.F.kp T.f__law_rows_right.b (pxT tk_of) ea_nil))))))) (sv_one (sv_ret ev_bl)) sv_nil) (sv_one (sv_if (PW.pt (ew_or (et_not (et_val (ev_callM 1 G__law_powers_right (hr.mono (by decide)) T.f__law_powers_right.g T.f__law_powers_right.F.kp T.f__law_powers_right.b (pxT tk_of) ea_nil))) (ew_or1 (et_not (et_val (ev_callMG 1 G__law_numbers_right gu (hr.mono (by decide)) T.f__law_numbers_right.g T.f__law_numbers_right.F.kp T.f__law_numbers_right.b (pxT tk_of) ea_nil)))))) (sv_one (sv_ret ev_bl)) sv_nil)))) (sv_one (sv_ret ev_bl)))))
end
end Q

namespace Q
open PySem PySem.Spec PyProof.Rows L2 Dl
def Hat (n : Nat) (d : D) : Prop := ∃ (ns : List Int) (a r : Int), d = .lst [.lst (ns.map .int), .int a, .int r] ∧ 0 ≤ a ∧ a ≤ n ∧ 0 ≤ r ∧ ns.length ≤ 60
theorem atI_mod {ns : List Int} (h : ns ≠ []) {a : Int} (ha : 0 ≤ a) : ∃ c, atI (ns.map D.int) (a % ns.length) = some (.int c) := by
  have hp : 0 < ns.length := List.length_pos_iff.mpr h
  have h1 : a % (ns.length : Int) = ((a % (ns.length : Int)).toNat : Int) := by
    have := Int.emod_nonneg a (show (ns.length : Int) ≠ 0 by omega)
    omega
  have h2 : (a % (ns.length : Int)).toNat < ns.length := by
    have := Int.emod_lt_of_pos a (show 0 < (ns.length : Int) by omega)
    omega
  rw [atI_nat h1, List.getElem?_map, List.getElem?_eq_getElem h2]
  exact ⟨_, rfl⟩
theorem lot_ok {n : Nat} {d : D} {m : Int} (h : Hat n d) (hn : n ≤ 1000000) (hm : 0 < m) (hm2 : m < 1073741824) : ∃ k d', F__law_lot [d, .int m] = .ok (.int k, d') ∧ 0 ≤ k ∧ k < m ∧ Hat (n + 1) d' := by
  obtain ⟨ns, a, r, rfl, ha, ha2, hr, hl⟩ := h
  have s2 : ∀ a x : D, setIx [.lst (ns.map .int), a, .int r] 2 x = .ok (.lst [.lst (ns.map .int), a, x]) := fun a x => setIx_nat (k := 2) rfl (by simp)
  have s1 : ∀ x : D, setIx [.lst (ns.map .int), .int a, .int r] 1 x = .ok (.lst [.lst (ns.map .int), x, .int r]) := fun x => setIx_nat (k := 1) rfl (by simp)
  by_cases h0 : 0 < r
  · refine ⟨r % m, .lst [.lst (ns.map .int), .int a, .int (r / m)], ?_, Int.emod_nonneg _ (by omega), Int.emod_lt_of_pos _ hm, ns, a, r / m, rfl, ha, by omega, Int.ediv_nonneg hr (by omega), hl⟩
    simp [F__law_lot, m__law_lot, h0, hm, hm2, s2]
  · obtain ⟨c, hc⟩ : ∃ c : Int, (ns = [] → c = 66071 * a + 9743) ∧ (ns ≠ [] → atI (ns.map D.int) (a % ns.length) = some (.int c)) := by
      by_cases hns : ns = []
      · exact ⟨_, fun _ => rfl, fun z => absurd hns z⟩
      · obtain ⟨c, e⟩ := atI_mod hns ha
        exact ⟨c, fun z => absurd z hns, fun _ => e⟩
    have hmod := fun x : Int => And.intro (Int.emod_nonneg x (show m ≠ 0 by omega)) (Int.emod_lt_of_pos x hm)
    have hdiv := fun (x : Int) (hx : 0 ≤ x) => Int.ediv_nonneg hx (show 0 ≤ m by omega)
    have c1 : (c % 2147483587 + 73013 * a + 9743).natAbs < 18446744073709551616 := by
      have := Int.emod_lt_of_pos c (show (0 : Int) < 2147483587 by decide)
      have := Int.emod_nonneg c (show (2147483587 : Int) ≠ 0 by decide)
      omega
    have c2 : ∀ z : Int, ((z % 2147483629) * (2 * a + 1931) + 66071 * a * a + 73037).natAbs < 18446744073709551616 := fun z => by
      have h1 := Int.emod_lt_of_pos z (show (0 : Int) < 2147483629 by decide)
      have h2 := Int.emod_nonneg z (show (2147483629 : Int) ≠ 0 by decide)
      generalize z % 2147483629 = y at h1 h2
      have h3 : y * (2 * a + 1931) ≤ 2147483629 * 2001931 := Int.mul_le_mul (by omega) (by omega) (by omega) (by omega)
      have h4 : 0 ≤ y * (2 * a + 1931) := Int.mul_nonneg h2 (by omega)
      have h5 : 66071 * a * a ≤ 66071000000 * 1000000 := Int.mul_le_mul (by omega) (by omega) ha (by omega)
      have h6 : 0 ≤ 66071 * a * a := Int.mul_nonneg (by omega) ha
      omega
    have z0 : (66071 * a).natAbs < 18446744073709551616 := by omega
    have z1 : ∀ y : Int, (y % 2147483629).natAbs < 18446744073709551616 := fun y => by omega
    have y1 := fun (y j : Int) => mulP_int (i := y % 2147483629) (j := j) (.inl (z1 y))
    have y0 := mulP_int (i := 66071 * a) (j := a) (.inl z0)
    by_cases hg : a < ns.length ∧ 1000000000000000000 ≤ (if c < 0 then -c else c)
    · refine ⟨(2 * ((if c < 0 then -c else c) - 1000000000000000000) + (if c < 0 then 1 else 0)) % m, .lst [.lst (ns.map .int), .int (a + 1), .int ((2 * ((if c < 0 then -c else c) - 1000000000000000000) + (if c < 0 then 1 else 0)) / m)], ?_, (hmod _).1, (hmod _).2, ns, a + 1, _, rfl, by omega, by omega, hdiv _ (by split <;> omega), hl⟩
      have hns : ns ≠ [] := fun z => by rw [z] at hg; simp at hg; omega
      have hlp : (0 : Int) < ns.length := by omega
      simp [F__law_lot, m__law_lot, h0, hm, hm2, s2, s1, hns, hc.2 hns, hg.1, hg.2, hlp]
    · refine ⟨(((((c % 2147483587 + 73013 * a + 9743) ^ 5) % 2147483629) * (2 * a + 1931) + 66071 * a * a + 73037) ^ 3 % 2147483549 / 64) % m, .lst [.lst (ns.map .int), .int (a + 1), .int r], ?_, (hmod _).1, (hmod _).2, ns, a + 1, r, rfl, by omega, by omega, hr, hl⟩
      by_cases hns : ns = []
      · subst hns
        have e := hc.1 rfl
        subst e
        have hla : ¬ a < 0 := by omega
        simp only [List.map_nil] at s1 s2
        simp [F__law_lot, m__law_lot, h0, hm, hm2, s2, s1, hla, y1, y0, c1, c2]
      · have hlp : (0 : Int) < ns.length := by
          have := List.length_pos_iff.mpr hns
          omega
        have hg2 : a < ns.length → ¬ 1000000000000000000 ≤ (if c < 0 then -c else c) := fun z w => hg ⟨z, w⟩
        by_cases hla : a < ns.length
        · simp [F__law_lot, m__law_lot, h0, hm, hm2, s2, s1, hns, hc.2 hns, hla, hg2 hla, hlp, y1, y0, c1, c2]
        · simp [F__law_lot, m__law_lot, h0, hm, hm2, s2, s1, hns, hc.2 hns, hla, hlp, y1, y0, c1, c2]
theorem Hat.up {n m : Nat} {d : D} (h : Hat n d) (hm : n ≤ m) : Hat m d := by
  obtain ⟨ns, a, r, e, h1, h2, h3⟩ := h
  exact ⟨ns, a, r, e, h1, by omega, h3⟩
theorem atI_ok {xs : List D} {k : Int} (h0 : 0 ≤ k) (h1 : k < xs.length) : ∃ x, atI xs k = some x ∧ x ∈ xs := by
  have e : k = (k.toNat : Int) := by omega
  have hl : k.toNat < xs.length := by omega
  rw [atI_nat e, List.getElem?_eq_getElem hl]
  exact ⟨_, rfl, List.getElem_mem hl⟩
theorem one_ok {n : Nat} {d : D} {xs : List D} (h : Hat n d) (hn : n ≤ 1000000) (hx : 0 < xs.length) (hl : xs.length < 1000) : ∃ x d', F__law_one [d, .lst xs] = .ok (x, d') ∧ x ∈ xs ∧ Hat (n + 1) d' := by
  obtain ⟨k, d', e, h0, h1, h2⟩ := lot_ok (m := xs.length) h hn (by omega) (by omega)
  obtain ⟨x, ex, hm⟩ := atI_ok h0 h1
  exact ⟨x, d', by simp [F__law_one, m__law_one, e, ex], hm, h2⟩
end Q

namespace K9
def sum0 (a b c d : Int) (p : Nat) : Int := a ^ p + d ^ p - b ^ p - c ^ p
/-- .. at any power, in whole numbers -/
def wsum (a b c d p : Int) : Int := if p < 0 then sum0 (b * c * d) (a * c * d) (a * b * d) (a * b * c) (-p).toNat else sum0 a b c d p.toNat
/-! ### powers of whole numbers -/
theorem ipow_pos {x : Int} (h : 0 < x) : ∀ n : Nat, 0 < x ^ n
  | 0 => by rw [Int.pow_zero]; decide
  | n + 1 => by rw [Int.pow_succ]; exact Int.mul_pos (ipow_pos h n) h
theorem ipow_le {x y : Int} (h0 : 0 < x) (h : x ≤ y) : ∀ n : Nat, x ^ n ≤ y ^ n
  | 0 => by rw [Int.pow_zero, Int.pow_zero]; decide
  | n + 1 => by
    rw [Int.pow_succ, Int.pow_succ]
    exact Int.mul_le_mul (ipow_le h0 h n) h (by omega) (Int.le_of_lt (ipow_pos (by omega) n))
theorem diff_hi {x y : Int} (h0 : 0 < x) (h : x ≤ y) : ∀ n : Nat, y ^ (n + 1) - x ^ (n + 1) ≤ ((n : Int) + 1) * ((y - x) * y ^ n)
  | 0 => by
    rw [Int.pow_succ, Int.pow_succ, Int.pow_zero, Int.pow_zero]
    omega
  | n + 1 => by
    have ih := diff_hi h0 h n
    have e : y ^ (n + 1 + 1) - x ^ (n + 1 + 1) = (y ^ (n + 1) - x ^ (n + 1)) * y + (y - x) * x ^ (n + 1) := by
      rw [Int.pow_succ y (n + 1), Int.pow_succ x (n + 1), Int.sub_mul, Int.sub_mul, Int.mul_comm x (x ^ (n + 1))]
      rw [Int.mul_comm (x ^ (n + 1)) y]
      omega
    have h1 : (y ^ (n + 1) - x ^ (n + 1)) * y ≤ ((n : Int) + 1) * ((y - x) * y ^ n) * y := Int.mul_le_mul_of_nonneg_right ih (by omega)
    have h2 : (y - x) * x ^ (n + 1) ≤ (y - x) * y ^ (n + 1) := Int.mul_le_mul_of_nonneg_left (ipow_le h0 h _) (by omega)
    have e2 : ((n : Int) + 1) * ((y - x) * y ^ n) * y = ((n : Int) + 1) * ((y - x) * y ^ (n + 1)) := by
      rw [Int.pow_succ, Int.mul_assoc, Int.mul_assoc]
    have e3 : (((n + 1 : Nat) : Int) + 1) * ((y - x) * y ^ (n + 1)) = ((n : Int) + 1) * ((y - x) * y ^ (n + 1)) + (y - x) * y ^ (n + 1) := by
      rw [show (((n + 1 : Nat) : Int) + 1) = ((n : Int) + 1) + 1 by omega, Int.add_mul, Int.one_mul]
    omega
theorem diff_lo {x y : Int} (h0 : 0 < x) (h : x ≤ y) : ∀ n : Nat, ((n : Int) + 1) * ((y - x) * x ^ n) ≤ y ^ (n + 1) - x ^ (n + 1)
  | 0 => by
    rw [Int.pow_succ, Int.pow_succ, Int.pow_zero, Int.pow_zero]
    omega
  | n + 1 => by
    have ih := diff_lo h0 h n
    have e : y ^ (n + 1 + 1) - x ^ (n + 1 + 1) = (y ^ (n + 1) - x ^ (n + 1)) * x + (y - x) * y ^ (n + 1) := by
      rw [Int.pow_succ y (n + 1), Int.pow_succ x (n + 1), Int.sub_mul, Int.sub_mul, Int.mul_comm y (y ^ (n + 1))]
      rw [Int.mul_comm (y ^ (n + 1)) x]
      omega
    have h1 : ((n : Int) + 1) * ((y - x) * x ^ n) * x ≤ (y ^ (n + 1) - x ^ (n + 1)) * x := Int.mul_le_mul_of_nonneg_right ih (by omega)
    have h2 : (y - x) * x ^ (n + 1) ≤ (y - x) * y ^ (n + 1) := Int.mul_le_mul_of_nonneg_left (ipow_le h0 h _) (by omega)
    have e2 : ((n : Int) + 1) * ((y - x) * x ^ n) * x = ((n : Int) + 1) * ((y - x) * x ^ (n + 1)) := by
      rw [Int.pow_succ, Int.mul_assoc, Int.mul_assoc]
    have e3 : (((n + 1 : Nat) : Int) + 1) * ((y - x) * x ^ (n + 1)) = ((n : Int) + 1) * ((y - x) * x ^ (n + 1)) + (y - x) * x ^ (n + 1) := by
      rw [show (((n + 1 : Nat) : Int) + 1) = ((n : Int) + 1) + 1 by omega, Int.add_mul, Int.one_mul]
    omega
/-- four growing numbers -/
structure Gr (a b c d : Int) : Prop where
  ga : 0 < a
  gb : a < b
  gc : b ≤ c
  gd : c < d
theorem sum_step {a b c d : Int} (g : Gr a b c d) (n : Nat) (h : 0 ≤ sum0 a b c d (n + 1)) : 0 < sum0 a b c d (n + 1 + 1) := by
  have ga := g.ga
  have gb := g.gb
  have gc := g.gc
  have gd := g.gd
  unfold sum0 at h ⊢
  have hi := diff_hi (x := c) (y := d) (by omega) (by omega) n
  have lo := diff_lo (x := a) (y := b) ga (by omega) n
  have pa := ipow_pos ga n
  have pd := ipow_pos (show 0 < d by omega) n
  have ba : a ^ (n + 1) < b ^ (n + 1) := by
    have : 0 < ((n : Int) + 1) * ((b - a) * a ^ n) := Int.mul_pos (by omega) (Int.mul_pos (by omega) pa)
    omega
  have ed : d ^ (n + 1 + 1) - c ^ (n + 1 + 1) = (d ^ (n + 1) - c ^ (n + 1)) * c + (d - c) * d ^ (n + 1) := by
    rw [Int.pow_succ d (n + 1), Int.pow_succ c (n + 1), Int.sub_mul, Int.sub_mul, Int.mul_comm d (d ^ (n + 1))]
    rw [Int.mul_comm (d ^ (n + 1)) c]
    omega
  have eb : b ^ (n + 1 + 1) - a ^ (n + 1 + 1) = (b ^ (n + 1) - a ^ (n + 1)) * b + (b - a) * a ^ (n + 1) := by
    rw [Int.pow_succ b (n + 1), Int.pow_succ a (n + 1), Int.sub_mul, Int.sub_mul, Int.mul_comm a (a ^ (n + 1))]
    rw [Int.mul_comm (a ^ (n + 1)) b]
    omega
  have k1 : (b ^ (n + 1) - a ^ (n + 1)) * b ≤ (d ^ (n + 1) - c ^ (n + 1)) * c := Int.mul_le_mul (by omega) gc (by omega) (by omega)
  have k2 : (b - a) * a ^ n ≤ (d - c) * d ^ n := by
    have h3 : ((n : Int) + 1) * ((b - a) * a ^ n) ≤ ((n : Int) + 1) * ((d - c) * d ^ n) := by omega
    exact Int.le_of_mul_le_mul_left h3 (by omega)
  have pba : 0 < (b - a) * a ^ n := Int.mul_pos (by omega) pa
  have k3 : (b - a) * a ^ (n + 1) < (d - c) * d ^ (n + 1) := by
    rw [Int.pow_succ, Int.pow_succ, ← Int.mul_assoc, ← Int.mul_assoc]
    have t1 : (b - a) * a ^ n * a < (b - a) * a ^ n * d := Int.mul_lt_mul_of_pos_left (by omega) pba
    have t2 : (b - a) * a ^ n * d ≤ (d - c) * d ^ n * d := Int.mul_le_mul_of_nonneg_right k2 (by omega)
    omega
  omega
theorem two_more : ∀ k : Fin 99, 2 * ((k.val : Int)) ^ 69 ≤ ((k.val : Int) + 1) ^ 69 := by decide +kernel
theorem twice {x y : Int} (h0 : 0 < x) (h : x < y) (h9 : y ≤ 99) : 2 * x ^ 69 ≤ y ^ 69 := by
  have e := two_more ⟨x.toNat, by omega⟩
  have ex : ((x.toNat : Nat) : Int) = x := by omega
  simp only [ex] at e
  have := ipow_le (x := x + 1) (y := y) (by omega) (by omega) 69
  omega
theorem far_up {a b c d : Int} (g : Gr a b c d) (h9 : d ≤ 99) : 0 < sum0 a b c d 69 := by
  have ga := g.ga
  have gb := g.gb
  have gc := g.gc
  have gd := g.gd
  unfold sum0
  have h1 := twice (x := c) (y := d) (by omega) gd h9
  have h2 := ipow_le (x := b) (y := c) (by omega) gc 69
  have h3 := ipow_pos ga 69
  omega
/-- the four whose powers are those below 0 -/
theorem Gr.low {a b c d : Int} (g : Gr a b c d) : Gr (a * b * c) (a * b * d) (a * c * d) (b * c * d) := by
  have ga := g.ga
  have gb := g.gb
  have gc := g.gc
  have gd := g.gd
  have ab : 0 < a * b := Int.mul_pos ga (by omega)
  have cd : 0 < c * d := Int.mul_pos (by omega) (by omega)
  have ad : 0 < a * d := Int.mul_pos ga (by omega)
  refine ⟨Int.mul_pos ab (by omega), Int.mul_lt_mul_of_pos_left gd ab, ?_, ?_⟩
  · rw [show a * b * d = b * (a * d) by ac_rfl, show a * c * d = c * (a * d) by ac_rfl]
    exact Int.mul_le_mul_of_nonneg_right gc (by omega)
  · rw [Int.mul_assoc, Int.mul_assoc]
    exact Int.mul_lt_mul_of_pos_right gb cd
theorem wsum_up (a b c d : Int) (n : Nat) : wsum a b c d (n : Int) = sum0 a b c d n := by
  unfold wsum
  rw [if_neg (by omega)]
  rfl
theorem wsum_down (a b c d : Int) (n : Nat) (h : 1 ≤ n) : wsum a b c d (-(n : Int)) = sum0 (a * b * c) (a * b * d) (a * c * d) (b * c * d) n := by
  unfold wsum
  rw [if_pos (by omega), show (- -(n : Int)).toNat = n by omega]
  unfold sum0
  omega
theorem far_down {a b c d : Int} (g : Gr a b c d) (h9 : d ≤ 99) : 0 < sum0 (a * b * c) (a * b * d) (a * c * d) (b * c * d) 69 := by
  have ga := g.ga
  have gb := g.gb
  have gc := g.gc
  have gd := g.gd
  have gl := g.low
  unfold sum0
  have h1 := twice (x := a) (y := b) ga gb (by omega)
  have cd : 0 < (c * d) ^ 69 := ipow_pos (Int.mul_pos (by omega) (by omega)) 69
  have h2 : 2 * a ^ 69 * (c * d) ^ 69 ≤ b ^ 69 * (c * d) ^ 69 := Int.mul_le_mul_of_nonneg_right h1 (by omega)
  rw [Int.mul_assoc, ← Int.mul_pow, ← Int.mul_pow, ← Int.mul_assoc, ← Int.mul_assoc] at h2
  have h3 := ipow_le (x := a * b * d) (y := a * c * d) (by have := gl.ga; have := gl.gb; omega) gl.gc 69
  have h4 := ipow_pos gl.ga 69
  omega
/-! ### the first power at which a sum is not below 0 -/
end K9

namespace Q
open PySem PySem.Spec PyProof.Rows L2 Dl
theorem natAbs_mul_lt {i j : Int} {a b : Nat} (h1 : i.natAbs < 2 ^ a) (h2 : j.natAbs < 2 ^ b) : (i * j).natAbs < 2 ^ (a + b) := by
  rw [Int.natAbs_mul, Nat.pow_add]
  exact Nat.mul_lt_mul'' h1 h2
theorem natAbs_up {i : Int} {a b : Nat} (h : i.natAbs < 2 ^ a) (hab : a ≤ b) : i.natAbs < 2 ^ b := Nat.lt_of_lt_of_le h (Nat.pow_le_pow_right (by decide) hab)
theorem and1 (m : Nat) : Builtin.bitAnd (m : Int) 1 = ((m % 2 : Nat) : Int) := by
  rw [PyProof.Rows.bitAnd_m1]
  omega
theorem sq_pow (b : Int) : ∀ n : Nat, (b * b) ^ n = b ^ (2 * n)
  | 0 => by simp
  | n + 1 => by
    rw [Int.pow_succ, sq_pow b n, show 2 * (n + 1) = 2 * n + 1 + 1 by omega, Int.pow_succ, Int.pow_succ, Int.mul_assoc]
theorem raised_lp : ∀ (k m : Nat), m < 2 ^ k → ∀ (b f : Int) (x y : Nat), f.natAbs < 2 ^ x → b.natAbs < 2 ^ y → x + y * m ≤ 200000 → y * (2 * m) ≤ 400000 →
    ∃ z, whS (tB1 (e2 gtP (eV 1) (eC (.int (0))))) (seqS (ifS (tTru (e2 (Dl.intD andI) (eV 1) (eC (.int (1))))) (asgS 2 (e2 mulP (eV 2) (eV 0))) passS) (seqS (asgS 0 (e2 mulP (eV 0) (eV 0))) (asgS 1 (e2 (Dl.intD shrI) (eV 1) (eC (.int (1))))))) (k + 1)
      [some (.int b), some (.int m), some (.int f)] = .nx [some (.int z), some (.int 0), some (.int (f * b ^ m))] := by
  intro k
  induction k with
  | zero =>
    intro m hm b f x y _ _ _ _
    have : m = 0 := by simpa using hm
    subst this
    exact ⟨b, by rw [whS_succ]; simp⟩
  | succ k ih =>
    intro m hm b f x y hf hb h1 h2
    by_cases h0 : m = 0
    · subst h0
      exact ⟨b, by rw [whS_succ]; simp⟩
    · have hpos : (0 : Int) < m := by omega
      have hp0 : 0 < m := by omega
      have hy : y ≤ y * m := Nat.le_mul_of_pos_right _ (by omega)
      have hy2 : y * (2 * m) = 2 * (y * m) := by rw [Nat.mul_left_comm]
      have hbb : mulP (.int b) (.int b) = .ok (.int (b * b)) := mulP_bits (natAbs_up hb (by omega)) (natAbs_up hb (by omega))
      have hfb : mulP (.int f) (.int b) = .ok (.int (f * b)) := mulP_bits (natAbs_up hf (by omega)) (natAbs_up hb (by omega))
      have sh : shrI (m : Int) 1 = .ok ((m / 2 : Nat) : Int) := by
        unfold shrI
        rw [if_pos (by decide)]
        have e2 : (2 : Int) ^ (1 : Int).toNat = 2 := by decide
        rw [e2]
        congr 1
      have hm2 : m / 2 < 2 ^ k := by rw [Nat.pow_succ] at hm; omega
      have hb2 := natAbs_mul_lt hb hb
      have e3 : (y + y) * (m / 2) + y * (m % 2) = y * m := by
        have h := Nat.div_add_mod m 2
        calc (y + y) * (m / 2) + y * (m % 2) = y * (2 * (m / 2) + m % 2) := by rw [Nat.mul_add, ← Nat.two_mul, Nat.mul_comm 2 y, Nat.mul_assoc]
          _ = y * m := by rw [h]
      have a1 : Dl.intD andI (.int (m : Int)) (.int 1) = .ok (.int ((m % 2 : Nat) : Int)) := by
        rw [intD_int]
        unfold andI
        rw [and1]
        rfl
      have pw : ∀ g : Int, g * (b * b) ^ (m / 2) = g * b ^ (2 * (m / 2)) := fun g => by
        rw [sq_pow]
      rcases Nat.mod_two_eq_zero_or_one m with hmod | hmod
      · rw [hmod] at a1 e3
        obtain ⟨z, ez⟩ := ih (m / 2) hm2 (b * b) f x (y + y) hf hb2 (by omega) (by rw [Nat.mul_left_comm]; omega)
        refine ⟨z, ?_⟩
        rw [whS_succ]
        simp [hpos, hp0, a1, hbb, sh]
        rw [show ((m : Int) / 2) = ((m / 2 : Nat) : Int) by omega]
        rw [ez, pw, show 2 * (m / 2) = m by omega]
      · rw [hmod] at a1 e3
        obtain ⟨z, ez⟩ := ih (m / 2) hm2 (b * b) (f * b) (x + y) (y + y) (natAbs_mul_lt hf hb) hb2 (by omega) (by rw [Nat.mul_left_comm]; omega)
        refine ⟨z, ?_⟩
        rw [whS_succ]
        simp [hpos, hp0, a1, hbb, hfb, sh]
        rw [show ((m : Int) / 2) = ((m / 2 : Nat) : Int) by omega]
        have eb : b ^ m = b * b ^ (2 * (m / 2)) := by
          rw [show b ^ m = b ^ (2 * (m / 2) + 1) by congr 1; omega, Int.pow_succ, Int.mul_comm]
        rw [ez, pw, eb, Int.mul_assoc]
theorem raised_ok {b : Int} {m : Nat} {y : Nat} (hb : b.natAbs < 2 ^ y) (h : y * m ≤ 190000) (hm : m < 2 ^ 200) : F_raised [.int b, .int m] = .ok (.int (b ^ m)) := by
  obtain ⟨z, e⟩ := raised_lp 999 m (Nat.lt_of_lt_of_le hm (Nat.pow_le_pow_right (by decide) (by decide))) b 1 1 y (by decide) hb (by omega) (by rw [Nat.mul_left_comm]; omega)
  rw [Int.one_mul] at e
  simp [F_raised, m_raised]
  rw [e]
  simp
theorem raised_neg {b n : Int} (h : n ≤ 0) : F_raised [.int b, .int n] = .ok (.int 1) := by
  have h' : ¬ 0 < n := by omega
  simp [F_raised, m_raised, whS_succ, h']
theorem rng_len (lo : Int) (n : Nat) : (rng lo n).length = n := by simp [rng]
theorem rng1_ok {m : Nat} (h : m < 1000000000000000000) : rng1D [.int (m : Int)] = .ok (rng 0 m) := by
  rw [rng1D_ap, if_pos (by omega)]
  rfl
end Q

namespace Q
open PySem PySem.Spec PyProof.Rows L2 Dl
theorem ipow_nn {m : Int} (h : 0 ≤ m) : ∀ t : Nat, 0 ≤ m ^ t
  | 0 => by simp
  | t + 1 => by rw [Int.pow_succ]; exact Int.mul_nonneg (ipow_nn h t) h
theorem ipow_le {m n : Int} (h : 0 ≤ m) (hmn : m ≤ n) : ∀ t : Nat, m ^ t ≤ n ^ t
  | 0 => by simp
  | t + 1 => by rw [Int.pow_succ, Int.pow_succ]; exact Int.mul_le_mul (ipow_le h hmn t) hmn h (ipow_nn (Int.le_trans h hmn) t)
theorem ipow_pos {m : Int} (h : 0 < m) : ∀ t : Nat, 0 < m ^ t
  | 0 => by simp
  | t + 1 => by rw [Int.pow_succ]; exact Int.mul_pos (ipow_pos h t) h
theorem ipow_bits {m : Int} {y : Nat} (h : m.natAbs < 2 ^ y) (t : Nat) (ht : 0 < t) : (m ^ t).natAbs < 2 ^ (y * t) := by
  rw [Int.natAbs_pow, Nat.pow_mul]
  exact Nat.pow_lt_pow_left h (by omega)
def side (t : Nat) (top bot n : Int) : Int := n ^ t * bot - top
theorem side_mono {t : Nat} {top bot m n : Int} (hb : 0 < bot) (h : 0 ≤ m) (hmn : m ≤ n) : side t top bot m ≤ side t top bot n := by
  have := Int.mul_le_mul_of_nonneg_right (ipow_le h hmn t) (Int.le_of_lt hb)
  unfold side
  omega
/-- the bounds of all that is met -/
structure Fit (t : Nat) (top bot : Int) : Prop where
  t1 : 1 ≤ t
  t2 : t ≤ 80
  tp : 0 < top
  bp : 0 < bot
  bb : bot.natAbs < 2 ^ 40000
  up : 0 < side t top bot (2 ^ 200)
section
variable {t : Nat} {top bot : Int}
theorem two_bits (k : Nat) : ((2 : Int) ^ k).natAbs < 2 ^ (k + 1) := by
  rw [Int.natAbs_pow]
  exact Nat.pow_lt_pow_right (by decide) (by omega)
theorem side_ok (f : Fit t top bot) {n : Int} (hn : n.natAbs < 2 ^ 300) : F_side_of [.int n, .tup [.int t, .int top, .int bot]] = .ok (.int (side t top bot n)) := by
  have h80 := f.t2
  have r := raised_ok (m := t) hn (by omega) (Nat.lt_of_le_of_lt h80 (by decide))
  have mm : mulP (.int (n ^ t)) (.int bot) = .ok (.int (n ^ t * bot)) := mulP_bits (natAbs_up (ipow_bits hn t f.t1) (by omega)) (natAbs_up f.bb (by omega))
  simp [F_side_of, m_side_of, r, mm, side]
theorem dbl_lp (f : Fit t top bot) : ∀ (k i : Nat), i + k = 200 → (i = 0 ∨ side t top bot (2 ^ (i - 1)) ≤ 0) → ∀ n, k < n →
    ∃ j, j ≤ 200 ∧ (j = 0 ∨ side t top bot (2 ^ (j - 1)) ≤ 0) ∧ 0 < side t top bot (2 ^ j) ∧
      whS (tB1 (e2 leP (callF 2 F_side_of (aCons (eV 1) (aCons (eV 0) aNil))) (eC (.int (0))))) (asgS 1 (e2 mulP (eV 1) (eC (.int (2))))) n [some (.tup [.int t, .int top, .int bot]), some (.int (2 ^ i)), none, none] = .nx [some (.tup [.int t, .int top, .int bot]), some (.int (2 ^ j)), none, none] := by
  intro k
  induction k with
  | zero =>
    intro i hi hs n hn
    have : i = 200 := by omega
    subst this
    obtain ⟨n, rfl⟩ : ∃ k, n = k + 1 := ⟨n - 1, by omega⟩
    have h1 := side_ok f (n := 2 ^ 200) (Nat.lt_of_lt_of_le (two_bits 200) (Nat.pow_le_pow_right (by decide) (by decide)))
    refine ⟨200, Nat.le_refl _, hs, f.up, ?_⟩
    have h2 : ¬ side t top bot (2 ^ 200) ≤ 0 := by have := f.up; omega
    generalize (2 : Int) ^ 200 = z at h1 h2
    rw [whS_succ]
    simp [h1, h2]
  | succ k ih =>
    intro i hi hs n hn
    obtain ⟨n, rfl⟩ : ∃ k, n = k + 1 := ⟨n - 1, by omega⟩
    have h1 := side_ok f (n := 2 ^ i) (Nat.lt_of_lt_of_le (two_bits i) (Nat.pow_le_pow_right (by decide) (by omega)))
    by_cases h : side t top bot (2 ^ i) ≤ 0
    · obtain ⟨j, hj, h2, h3, e⟩ := ih (i + 1) (by omega) (.inr (by simpa using h)) n (by omega)
      refine ⟨j, hj, h2, h3, ?_⟩
      have mm : mulP (.int (2 ^ i)) (.int 2) = .ok (.int (2 ^ i * 2)) := mulP_int (.inr (.inl (by decide)))
      rw [Int.pow_succ] at e
      generalize (2 : Int) ^ i = z at *
      rw [whS_succ]
      simp [h1, h, mm, e]
    · refine ⟨i, by omega, hs, by omega, ?_⟩
      generalize (2 : Int) ^ i = z at *
      rw [whS_succ]
      simp [h1, h]
theorem mid_lp (f : Fit t top bot) : ∀ (k : Nat) (lo hi : Int) (o : Option D), 0 ≤ lo → lo < hi → hi - lo ≤ 2 ^ k → hi.natAbs < 2 ^ 300 → (lo = 0 ∨ side t top bot lo ≤ 0) → 0 < side t top bot hi → ∀ n, k < n →
    ∃ lo' hi' o', 0 ≤ lo' ∧ (lo' = 0 ∨ side t top bot lo' ≤ 0) ∧ 0 < side t top bot (lo' + 1) ∧
      whS (tB1 (e2 gtP (e2 (Dl.intD subI) (eV 1) (eV 2)) (eC (.int (1))))) (seqS (asgS 3 (e2 (Dl.intD fdivI) (e2 addP (eV 2) (eV 1)) (eC (.int (2))))) (ifS (tB1 (e2 leP (callF 2 F_side_of (aCons (eV 3) (aCons (eV 0) aNil))) (eC (.int (0))))) (asgS 2 (eV 3)) (asgS 1 (eV 3)))) n
        [some (.tup [.int t, .int top, .int bot]), some (.int hi), some (.int lo), o] = .nx [some (.tup [.int t, .int top, .int bot]), some (.int hi'), some (.int lo'), o'] := by
  intro k
  induction k with
  | zero =>
    intro lo hi o h0 h1 h2 h3 h4 h5 n hn
    obtain ⟨n, rfl⟩ : ∃ k, n = k + 1 := ⟨n - 1, by omega⟩
    have e : hi = lo + 1 := by have : (2 : Int) ^ 0 = 1 := rfl; omega
    subst e
    refine ⟨lo, lo + 1, o, h0, h4, h5, ?_⟩
    rw [whS_succ]
    simp [show ¬ (1 : Int) < lo + 1 - lo by omega]
  | succ k ih =>
    intro lo hi o h0 h1 h2 h3 h4 h5 n hn
    obtain ⟨n, rfl⟩ : ∃ k, n = k + 1 := ⟨n - 1, by omega⟩
    by_cases hc : 1 < hi - lo
    · have hm := side_ok f (n := (lo + hi) / 2) (by omega)
      have hp : (2 : Int) ^ (k + 1) = 2 * 2 ^ k := by rw [Int.pow_succ, Int.mul_comm]
      by_cases hs : side t top bot ((lo + hi) / 2) ≤ 0
      · obtain ⟨lo', hi', o', g1, g2, g3, g4⟩ := ih ((lo + hi) / 2) hi (some (.int ((lo + hi) / 2))) (by omega) (by omega) (by omega) h3 (.inr hs) h5 n (by omega)
        refine ⟨lo', hi', o', g1, g2, g3, ?_⟩
        rw [whS_succ]
        simp [hc, hm, hs, g4]
      · obtain ⟨lo', hi', o', g1, g2, g3, g4⟩ := ih lo ((lo + hi) / 2) (some (.int ((lo + hi) / 2))) h0 (by omega) (by omega) (by omega) h4 (by omega) n (by omega)
        refine ⟨lo', hi', o', g1, g2, g3, ?_⟩
        rw [whS_succ]
        simp [hc, hm, hs, g4]
    · have e : hi = lo + 1 := by omega
      subst e
      refine ⟨lo, lo + 1, o, h0, h4, h5, ?_⟩
      rw [whS_succ]
      simp [hc]
/-- the integer below the root -/
structure Low (t : Nat) (top bot lo : Int) : Prop where
  nn : 0 ≤ lo
  le : lo = 0 ∨ side t top bot lo ≤ 0
  up : 0 < side t top bot (lo + 1)
theorem Low.uniq (hb : 0 < bot) {a b : Int} (h : Low t top bot a) (h' : Low t top bot b) : a = b := by
  have key : ∀ {a b : Int}, Low t top bot a → Low t top bot b → ¬ a < b := fun {a b} h h' z => by
    have h1 := side_mono (t := t) (top := top) hb (show 0 ≤ a + 1 by have := h.nn; omega) (show a + 1 ≤ b by omega)
    have := h.up
    have := h'.nn
    have := h.nn
    rcases h'.le with e | e <;> omega
  have := key h h'
  have := key h' h
  omega
theorem below_ok (f : Fit t top bot) : ∃ lo, F_whole_below [.tup [.int t, .int top, .int bot]] = .ok (.int lo) ∧ Low t top bot lo ∧ lo.natAbs < 2 ^ 300 := by
  obtain ⟨j, hj, h1, h2, e1⟩ := dbl_lp f 200 0 rfl (.inl rfl) 1000 (by decide)
  have bits : ((2 : Int) ^ j).natAbs < 2 ^ 300 := Nat.lt_of_lt_of_le (two_bits j) (Nat.pow_le_pow_right (by decide) (by omega))
  have pos : (0 : Int) < 2 ^ j := ipow_pos (by decide) j
  have hle : (2 : Int) ^ j - 2 ^ j / 2 ≤ 2 ^ 200 := by
    have : (2 : Int) ^ j ≤ 2 ^ 200 := by exact_mod_cast Nat.pow_le_pow_right (show 0 < 2 by decide) hj
    omega
  have hlo : (2 : Int) ^ j / 2 = 0 ∨ side t top bot (2 ^ j / 2) ≤ 0 := by
    rcases h1 with e | e
    · subst e; exact .inl rfl
    · by_cases z : j = 0
      · subst z; exact .inl rfl
      · refine .inr ?_
        have : (2 : Int) ^ j / 2 = 2 ^ (j - 1) := by
          rw [show (2 : Int) ^ j = 2 ^ (j - 1) * 2 by rw [← Int.pow_succ]; congr 1; omega]
          omega
        rw [this]; exact e
  obtain ⟨lo, hi, o, g1, g2, g3, e2⟩ := mid_lp f 200 (2 ^ j / 2) (2 ^ j) none (by omega) (by omega) hle bits hlo h2 1000 (by decide)
  rw [show (2 : Int) ^ 0 = 1 from rfl] at e1
  refine ⟨lo, ?_, ⟨g1, g2, g3⟩, ?_⟩
  · generalize (2 : Int) ^ j = z at *
    simp [F_whole_below, m_whole_below, e1, e2]
  · have up : lo < 2 ^ 200 := by
      rcases Int.lt_or_le lo (2 ^ 200) with z | z
      · exact z
      · have q1 : (0 : Int) < 2 ^ 200 := ipow_pos (by decide) 200
        have := side_mono (t := t) (top := top) f.bp (Int.le_of_lt q1) z
        have := f.up
        rcases g2 with e | e <;> omega
    have : (2 : Int) ^ 200 = ((2 ^ 200 : Nat) : Int) := by norm_cast
    have h3 : (2 : Nat) ^ 200 ≤ 2 ^ 300 := Nat.pow_le_pow_right (by decide) (by decide)
    omega
end
end Q

namespace Q
open PySem PySem.Spec PyProof.Rows L2 Dl
/-! what is asked of the next number -/
def pw (p : Int) : Nat := p.natAbs
def Tt (p : Int) : Nat := if p = 0 then 1 else p.natAbs
def TopN (a b p : Int) : Int := if p = 0 then b * b else if 0 < p then b ^ p.natAbs + b ^ p.natAbs - a ^ p.natAbs else (a * b * b) ^ p.natAbs
def Bot (a b p : Int) : Int := if p = 0 then a else if 0 < p then 1 else (a * b) ^ p.natAbs + (a * b) ^ p.natAbs - (b * b) ^ p.natAbs
structure Sm (a b p : Int) : Prop where
  a0 : 0 < a
  b0 : 0 < b
  a1 : a < 2 ^ 68
  b1 : b < 2 ^ 68
  p0 : -80 ≤ p
  p1 : p ≤ 80
section
variable {a b p : Int}
theorem nat_bits {x : Int} {k : Nat} (h0 : 0 ≤ x) (h : x < 2 ^ k) : x.natAbs < 2 ^ k := by
  have : ((2 ^ k : Nat) : Int) = (2 : Int) ^ k := by norm_cast
  omega
theorem quot_ok (s : Sm a b p) : F_fourth_quotient [.int a, .int b, .int b, .int p] = .ok (if 0 < TopN a b p ∧ 0 < Bot a b p then .tup [.int (Tt p), .int (TopN a b p), .int (Bot a b p)] else .non) := by
  have ha := nat_bits (Int.le_of_lt s.a0) s.a1
  have hb := nat_bits (Int.le_of_lt s.b0) s.b1
  have line3 : 3 ≤ sizeLine := line_le (by decide)
  have p0 := s.p0
  have p1 := s.p1
  have m1 : mulP (.int b) (.int b) = .ok (.int (b * b)) := mulP_bits (natAbs_up hb (by decide)) (natAbs_up hb (by decide))
  have m2 : mulP (.int a) (.int b) = .ok (.int (a * b)) := mulP_bits (natAbs_up ha (by decide)) (natAbs_up hb (by decide))
  have m3 : mulP (.int (a * b)) (.int b) = .ok (.int (a * b * b)) := mulP_bits (natAbs_up (natAbs_mul_lt ha hb) (by decide)) (natAbs_up hb (by decide))
  have bb := natAbs_mul_lt hb hb
  have ab := natAbs_mul_lt ha hb
  have abb := natAbs_mul_lt ab hb
  by_cases h0 : p = 0
  · subst h0
    have : 0 < b * b := Int.mul_pos s.b0 s.b0
    simp [F_fourth_quotient, m_fourth_quotient, m1, line3, TopN, Bot, Tt, this, s.a0]
  · have hq8 : p.natAbs ≤ 80 := by omega
    have r := fun {x : Int} {y : Nat} (hx : x.natAbs < 2 ^ y) (hy2 : y ≤ 300) => raised_ok (m := p.natAbs) hx (by
      have := Nat.mul_le_mul hy2 hq8
      omega) (Nat.lt_of_le_of_lt hq8 (by decide))
    by_cases h1 : 0 < p
    · have hp : p = (p.natAbs : Int) := by omega
      have ra := r ha (by decide)
      have rb := r hb (by decide)
      rw [← hp] at ra rb
      by_cases ht : a ^ p.natAbs < b ^ p.natAbs + b ^ p.natAbs
      · simp [F_fourth_quotient, m_fourth_quotient, h0, h1, ra, rb, line3, TopN, Bot, Tt, ht, ← hp]
      · simp [F_fourth_quotient, m_fourth_quotient, h0, h1, ra, rb, line3, TopN, Bot, Tt, ht]
    · have hp : -p = (p.natAbs : Int) := by omega
      have rbb := r bb (by decide)
      have rab := r ab (by decide)
      have rabb := r abb (by decide)
      rw [← hp] at rbb rab rabb
      have hpos : 0 < (a * b * b) ^ p.natAbs := ipow_pos (Int.mul_pos (Int.mul_pos s.a0 s.b0) s.b0) _
      by_cases ht : (b * b) ^ p.natAbs < (a * b) ^ p.natAbs + (a * b) ^ p.natAbs
      · simp [F_fourth_quotient, m_fourth_quotient, h0, h1, m1, m2, m3, rbb, rab, rabb, line3, TopN, Bot, Tt, ht, hpos, ← hp]
      · simp [F_fourth_quotient, m_fourth_quotient, h0, h1, m1, m2, m3, rbb, rab, rabb, line3, TopN, Bot, Tt, ht, hpos]
end
end Q

namespace Q
open PySem PySem.Spec PyProof.Rows L2 Dl
theorem ipow_lt {m n : Int} (h : 0 ≤ m) (hmn : m < n) : ∀ q : Nat, 1 ≤ q → m ^ q < n ^ q
  | 0, z => absurd z (by decide)
  | 1, _ => by rw [Int.pow_succ, Int.pow_succ, Int.pow_zero, Int.pow_zero, Int.one_mul, Int.one_mul]; exact hmn
  | q + 2, _ => by
    have ih := ipow_lt h hmn (q + 1) (by omega)
    rw [Int.pow_succ m, Int.pow_succ n]
    have h1 : m ^ (q + 1) * m ≤ n ^ (q + 1) * m := Int.mul_le_mul_of_nonneg_right (Int.le_of_lt ih) h
    have h2 : n ^ (q + 1) * m < n ^ (q + 1) * n := Int.mul_lt_mul_of_pos_left hmn (ipow_pos (by omega) _)
    omega
theorem two_pow_le {y : Int} (hy : 0 ≤ y) : ∀ q : Nat, 1 ≤ q → 2 * y ^ q ≤ (2 * y) ^ q
  | 0, z => absurd z (by decide)
  | q + 1, _ => by
    have h1 := Int.mul_le_mul_of_nonneg_right (ipow_le hy (show y ≤ 2 * y by omega) q) (show 0 ≤ 2 * y by omega)
    rw [Int.pow_succ, Int.pow_succ]
    have : y ^ q * (2 * y) = 2 * (y ^ q * y) := by rw [Int.mul_left_comm]
    omega
theorem mul_pow' (a b : Int) : ∀ q : Nat, (a * b) ^ q = a ^ q * b ^ q
  | 0 => by simp
  | q + 1 => by
    rw [Int.pow_succ, mul_pow' a b q, Int.pow_succ, Int.pow_succ, Int.mul_assoc, Int.mul_assoc, Int.mul_left_comm (b ^ q)]
structure Iv (p : Int) (i : Nat) (x y : Int) : Prop where
  x0 : 0 < x
  y0 : 0 < y
  x1 : x ≤ 99 ^ i
  y1 : y ≤ 99 ^ i
  p0 : -80 ≤ p
  p1 : p ≤ 80
  i1 : 1 ≤ i
  z : p = 0 → y ≤ 99 * x
  n : p < 0 → ∃ d e f : Int, (0 < d ∧ 0 < e ∧ 0 < f) ∧ d ≤ (99 ^ 2) ^ p.natAbs ∧ x ^ p.natAbs * e = d ∧ y ^ p.natAbs * f = d
theorem iv_start {p x y : Int} (hx : 1 ≤ x ∧ x ≤ 99) (hy : 1 ≤ y ∧ y ≤ 99) (hp : -80 ≤ p ∧ p ≤ 80) : Iv p 1 x y where
  x0 := by omega
  y0 := by omega
  x1 := by simp; omega
  y1 := by simp; omega
  p0 := hp.1
  p1 := hp.2
  i1 := Nat.le_refl _
  z := fun _ => by omega
  n := fun _ => ⟨(x * y) ^ p.natAbs, y ^ p.natAbs, x ^ p.natAbs, ⟨ipow_pos (Int.mul_pos (by omega) (by omega)) _, ipow_pos (by omega) _, ipow_pos (by omega) _⟩,
    ipow_le (Int.mul_nonneg (by omega) (by omega)) (by
      have : x * y ≤ 99 * 99 := Int.mul_le_mul hx.2 hy.2 (by omega) (by omega)
      have e : (99 : Int) ^ 2 = 9801 := by decide
      omega) _, by rw [mul_pow'], by rw [mul_pow', Int.mul_comm]⟩
theorem pow99 {i : Nat} (h : i ≤ 10) : (99 : Int) ^ i ≤ 99 ^ 10 := by exact_mod_cast Nat.pow_le_pow_right (show 0 < 99 by decide) h
theorem Iv.sm {p x y : Int} {i : Nat} (h : Iv p i x y) (hi : i ≤ 10) : Sm x y p := by
  have e := pow99 hi
  have e2 : (99 : Int) ^ 10 < 2 ^ 68 := by decide
  exact ⟨h.x0, h.y0, Int.lt_of_le_of_lt (Int.le_trans h.x1 e) e2, Int.lt_of_le_of_lt (Int.le_trans h.y1 e) e2, h.p0, h.p1⟩
theorem top_small {p x y : Int} (x0 : 0 < x) (y0 : 0 < y) (hb : 0 < Bot x y p) : 0 < side (Tt p) (TopN x y p) (Bot x y p) (x * y * y + 2 * y + 2) := by
  have hxy : 0 < x * y := Int.mul_pos x0 y0
  have hxyy : 0 < x * y * y := Int.mul_pos hxy y0
  unfold side
  unfold Bot at hb
  by_cases h0 : p = 0
  · subst h0
    simp only [Tt, TopN, Bot, if_true]
    rw [Int.pow_succ, Int.pow_zero, Int.one_mul]
    have h1 : (x * y * y + 2 * y + 2) * x = x * y * y * x + (2 * y + 2) * x := by rw [Int.add_assoc, Int.add_mul]
    have h2 : 0 < (2 * y + 2) * x := Int.mul_pos (by omega) x0
    have h3 : y * y ≤ x * y * y * x := by
      have : x * y * y * x = y * y * (x * x) := by rw [Int.mul_assoc x y y, Int.mul_comm x (y * y), Int.mul_assoc]
      rw [this]
      have h4 : 1 ≤ x * x := Int.mul_pos x0 x0
      have := Int.mul_le_mul_of_nonneg_left h4 (show 0 ≤ y * y from Int.le_of_lt (Int.mul_pos y0 y0))
      omega
    omega
  · have q1 : 1 ≤ p.natAbs := by omega
    by_cases h1 : 0 < p
    · simp only [Tt, TopN, Bot, if_neg h0, if_pos h1]
      have a1 := two_pow_le (Int.le_of_lt y0) p.natAbs q1
      have a2 := ipow_le (show 0 ≤ 2 * y by omega) (show 2 * y ≤ x * y * y + 2 * y + 2 by omega) p.natAbs
      have a3 := ipow_pos x0 p.natAbs
      omega
    · simp only [Tt, TopN, Bot, if_neg h0, if_neg h1] at hb ⊢
      have a1 := ipow_lt (Int.le_of_lt hxyy) (show x * y * y < x * y * y + 2 * y + 2 by omega) p.natAbs q1
      have a2 := ipow_pos (show 0 < x * y * y + 2 * y + 2 by omega) p.natAbs
      generalize (x * y) ^ p.natAbs + (x * y) ^ p.natAbs - (y * y) ^ p.natAbs = B at hb ⊢
      generalize (x * y * y + 2 * y + 2) ^ p.natAbs = H at a1 a2 ⊢
      have := Int.mul_le_mul_of_nonneg_left (show 1 ≤ B by omega) (Int.le_of_lt a2)
      omega
theorem fit_of {p x y : Int} {i : Nat} (h : Iv p i x y) (hi : i ≤ 10) (ht : 0 < TopN x y p) (hb : 0 < Bot x y p) : Fit (Tt p) (TopN x y p) (Bot x y p) ∧ (x * y * y + 2 * y + 2).natAbs < 2 ^ 300 ∧ x * y * y + 2 * y + 2 ≤ 2 ^ 200 := by
  have s := h.sm hi
  have ha := nat_bits (Int.le_of_lt s.a0) s.a1
  have hbb := nat_bits (Int.le_of_lt s.b0) s.b1
  have e := pow99 hi
  have hx := Int.le_trans h.x1 e
  have hy := Int.le_trans h.y1 e
  have x0 := h.x0
  have y0 := h.y0
  have xy : x * y ≤ 99 ^ 10 * 99 ^ 10 := Int.mul_le_mul hx hy (by omega) (by decide)
  have xyy : x * y * y ≤ 99 ^ 10 * 99 ^ 10 * 99 ^ 10 := Int.mul_le_mul xy hy (by omega) (by decide)
  have z0 : 0 < x * y * y := Int.mul_pos (Int.mul_pos x0 y0) y0
  have big : x * y * y + 2 * y + 2 ≤ 2 ^ 200 := by
    have : (99 : Int) ^ 10 * 99 ^ 10 * 99 ^ 10 + 2 * 99 ^ 10 + 2 ≤ 2 ^ 200 := by decide
    omega
  have big2 : (x * y * y + 2 * y + 2).natAbs < 2 ^ 300 := nat_bits (by omega) (Int.lt_of_le_of_lt big (by decide))
  have p0 := h.p0
  have p1 := h.p1
  refine ⟨⟨?_, ?_, ht, hb, ?_, Int.lt_of_lt_of_le (top_small x0 y0 hb) (side_mono hb (by omega) big)⟩, big2, big⟩
  · unfold Tt; split <;> omega
  · unfold Tt; split <;> omega
  · unfold Bot
    split
    · exact natAbs_up ha (by decide)
    · split
      · exact Nat.lt_of_lt_of_le (show (1 : Int).natAbs < 2 ^ 1 by decide) (Nat.pow_le_pow_right (by decide) (by decide))
      · rename_i h0 h1
        have b1 := ipow_bits (natAbs_mul_lt ha hbb) p.natAbs (by omega)
        have b2 := ipow_bits (natAbs_mul_lt hbb hbb) p.natAbs (by omega)
        have b3 : (68 + 68) * p.natAbs ≤ 39990 := by omega
        have c1 := natAbs_up b1 b3
        have c2 := natAbs_up b2 b3
        have c3 : (2 : Nat) ^ 40000 = 2 ^ 39990 * 1024 := by rw [show (40000 : Nat) = 39990 + 10 from rfl, Nat.pow_add]
        rw [c3]
        generalize (2 : Nat) ^ 39990 = Z at c1 c2 ⊢
        generalize (x * y) ^ p.natAbs = u at c1 ⊢
        generalize (y * y) ^ p.natAbs = v at c2 ⊢
        omega
theorem iv_next {p x y n : Int} {i : Nat} (h : Iv p i x y) (hn : 0 < n) (e : n ^ Tt p * Bot x y p = TopN x y p) : Iv p (i + 1) y n := by
  have x0 := h.x0
  have y0 := h.y0
  have i1 := h.i1
  have up : (99 : Int) ^ (i + 1) = 99 ^ i * 99 := Int.pow_succ ..
  have pos : (0 : Int) < 99 ^ i := ipow_pos (by decide) _
  have y1 := h.y1
  by_cases h0 : p = 0
  · subst h0
    have hz := h.z rfl
    simp only [Tt, Bot, TopN, if_true] at e
    rw [Int.pow_succ, Int.pow_zero, Int.one_mul] at e
    have hn9 : n ≤ 99 * y := by
      rcases Int.lt_or_le (99 * y) n with c | c
      · have a1 := Int.mul_le_mul_of_nonneg_right hz (Int.le_of_lt y0)
        have a2 := Int.mul_le_mul_of_nonneg_right (show 99 * y + 1 ≤ n by omega) (Int.le_of_lt x0)
        have a3 : (99 * y + 1) * x = 99 * x * y + x := by rw [Int.add_mul, Int.one_mul, Int.mul_assoc, Int.mul_comm y x, Int.mul_assoc]
        omega
      · exact c
    exact ⟨y0, hn, by omega, by omega, h.p0, h.p1, by omega, fun _ => hn9, fun z => absurd z (by decide)⟩
  · have q1 : 1 ≤ p.natAbs := by omega
    by_cases h1 : 0 < p
    · simp only [Tt, Bot, TopN, if_neg h0, if_pos h1] at e
      have hn2 : n ≤ 2 * y := by
        rcases Int.lt_or_le (2 * y) n with c | c
        · have a1 := two_pow_le (Int.le_of_lt y0) p.natAbs q1
          have a2 := ipow_le (show 0 ≤ 2 * y by omega) (Int.le_of_lt c) p.natAbs
          have a3 := ipow_pos x0 p.natAbs
          omega
        · exact c
      exact ⟨y0, hn, by omega, by omega, h.p0, h.p1, by omega, fun z => absurd z h0, fun z => absurd h1 (by omega)⟩
    · simp only [Tt, Bot, TopN, if_neg h0, if_neg h1] at e
      obtain ⟨d, u, v, ⟨d0, u0, v0⟩, hd, hu, hv⟩ := h.n (by omega)
      have X0 := ipow_pos x0 p.natAbs
      have Y0 := ipow_pos y0 p.natAbs
      have N0 := ipow_pos hn p.natAbs
      rw [mul_pow' x y, mul_pow' y y, mul_pow' (x * y) y, mul_pow' x y] at e
      have fin : n ^ p.natAbs * (2 * v - u) = d := by
        generalize x ^ p.natAbs = X at e hu X0
        generalize y ^ p.natAbs = Y at e hv Y0
        generalize n ^ p.natAbs = N at e N0
        have e1 : N * (2 * X - Y) = X * Y := by
          have : N * (2 * X - Y) * Y = X * Y * Y := by
            rw [← e, Int.mul_assoc N]
            congr 1
            rw [Int.sub_mul, Int.mul_assoc, Int.two_mul]
          exact Int.eq_of_mul_eq_mul_right (by omega) this
        have e2 : N * (2 * v - u) * d = d * d := by
          have : N * (2 * X - Y) * (u * v) = X * u * (Y * v) := by
            rw [e1, Int.mul_assoc, Int.mul_left_comm Y, ← Int.mul_assoc]
          rw [hu, hv] at this
          rw [← this, Int.mul_assoc, Int.mul_assoc]
          congr 1
          rw [Int.sub_mul, Int.sub_mul]
          have a1 : 2 * X * (u * v) = 2 * v * d := by rw [← hu, ← Int.mul_assoc, Int.mul_assoc 2 X u, Int.mul_assoc 2 (X * u), Int.mul_comm (X * u) v, ← Int.mul_assoc]
          have a2 : Y * (u * v) = u * d := by rw [← hv, Int.mul_left_comm]
          rw [a1, a2]
        exact Int.eq_of_mul_eq_mul_right (by omega) e2
      have w0 : 0 < 2 * v - u := by
        rcases Int.lt_or_le 0 (2 * v - u) with c | c
        · exact c
        · have := Int.mul_nonpos_of_nonneg_of_nonpos (Int.le_of_lt N0) c
          omega
      have hn2 : n ≤ 99 ^ 2 := by
        rcases Int.lt_or_le (99 ^ 2) n with c | c
        · have a1 := ipow_lt (show (0 : Int) ≤ 99 ^ 2 by decide) c p.natAbs q1
          have a2 := Int.mul_le_mul_of_nonneg_left (show 1 ≤ 2 * v - u by omega) (Int.le_of_lt N0)
          omega
        · exact c
      have h99 : (99 : Int) ^ 2 ≤ 99 ^ (i + 1) := by exact_mod_cast Nat.pow_le_pow_right (show 0 < 99 by decide) (show 2 ≤ i + 1 by omega)
      exact ⟨y0, hn, by omega, by omega, h.p0, h.p1, by omega, fun z => absurd z h0, fun _ => ⟨d, v, 2 * v - u, ⟨d0, v0, w0⟩, hd, hv, fin⟩⟩
def oD : Option Int → D
  | none => .non
  | some n => .int n
theorem step_ok {p x y : Int} {i : Nat} (h : Iv p i x y) (hi : i ≤ 10) : ∃ r : Option Int, F_whole_fourth [.int x, .int y, .int y, .int p] = .ok (oD r) ∧ ∀ n, r = some n → Iv p (i + 1) y n := by
  have s := h.sm hi
  have q := quot_ok s
  by_cases hc : 0 < TopN x y p ∧ 0 < Bot x y p
  · rw [if_pos hc] at q
    obtain ⟨f, big, big2⟩ := fit_of h hi hc.1 hc.2
    obtain ⟨lo, e1, L1, lb⟩ := below_ok f
    have sd := side_ok f lb
    by_cases hz : side (Tt p) (TopN x y p) (Bot x y p) lo = 0
    · have l0 : 0 < lo := by
        rcases Int.lt_or_le 0 lo with c | c
        · exact c
        · have : lo = 0 := by have := L1.nn; omega
          unfold side at hz
          rw [this, Int.zero_pow (by have := f.t1; omega), Int.zero_mul] at hz
          omega
      refine ⟨some lo, ?_, fun n en => ?_⟩
      · simp [F_whole_fourth, m_whole_fourth, q, e1, sd, hz, isD, oD]
      · cases en
        exact iv_next h l0 (by unfold side at hz; omega)
    · refine ⟨none, ?_, fun n en => by cases en⟩
      simp [F_whole_fourth, m_whole_fourth, q, e1, sd, hz, isD, oD]
  · rw [if_neg hc] at q
    refine ⟨none, ?_, fun n en => by cases en⟩
    simp [F_whole_fourth, m_whole_fourth, q, oD]
end Q

namespace Q
open PySem PySem.Spec PyProof.Rows L2 Dl
theorem atI_neg {α : Type} {xs : List α} {k : Nat} {i : Int} (h : i = -((k + 1 : Nat) : Int)) (hk : k < xs.length) : atI xs i = xs[xs.length - 1 - k]? := by
  subst h
  unfold atI ixN
  rw [if_neg (by omega), if_pos (by omega)]
  show xs[_]? = _
  congr 1
  omega
theorem last2 (pre : List Int) (x y : Int) : atI (pre.map D.int ++ [.int x, .int y]) (-2) = some (.int x) ∧ atI (pre.map D.int ++ [.int x, .int y]) (-1) = some (.int y) := by
  constructor
  · rw [atI_neg (i := -2) (k := 1) rfl (by simp)]
    simp
  · rw [atI_neg (i := -1) (k := 0) rfl (by simp)]
    simp
theorem gone_lp {p : Int} {f' s' : Option D} : ∀ (k i : Nat) (x y : Int) (pre : List Int) (o' : Option D) (n : Nat), Iv p i x y → i + k ≤ 11 → k < n → pre.length + 2 + k ≤ 100 →
    ∃ (tl : List Int) (o2 : Option D), tl.length ≤ k ∧
      whS (lookT (tB1 (e2 ltP (eN lenP (aCons (eV 4) aNil)) (eV 2)))) (seqS (asgS 5 (callF 4 F_whole_fourth (aCons (ixO 4 (e1 negD (eC (.int (2))))) (aCons (ixO 4 (e1 negD (eC (.int (1))))) (aCons (ixO 4 (e1 negD (eC (.int (1))))) (aCons (eV 3) aNil)))))) (seqS (ifS (tB1 (e2 isD (eV 5) (eC .non))) brkS passS) (expS (mthM 4 appendD (aCons (eV 5) aNil)))))
        n [f', s', some (.int (pre.length + 2 + k : Nat)), some (.int p), some (.lst (pre.map D.int ++ [.int x, .int y])), o'] = .nx [f', s', some (.int (pre.length + 2 + k : Nat)), some (.int p), some (.lst (pre.map D.int ++ [.int x, .int y] ++ tl.map D.int)), o2] := by
  intro k
  induction k with
  | zero =>
    intro i x y pre o' n h hi hn hl
    obtain ⟨n, rfl⟩ : ∃ k, n = k + 1 := ⟨n - 1, by omega⟩
    refine ⟨[], o', Nat.le_refl _, ?_⟩
    rw [whS_succ]; simp
  | succ k ih =>
    intro i x y pre o' n h hi hn hl
    obtain ⟨n, rfl⟩ : ∃ k, n = k + 1 := ⟨n - 1, by omega⟩
    obtain ⟨l2, l1⟩ := last2 pre x y
    obtain ⟨r, e1, hr⟩ := step_ok h (by omega)
    have hlt2 : pre.length + 1 + 1 < pre.length + 2 + (k + 1) := by omega
    cases r with
    | none =>
      refine ⟨[], some .non, Nat.zero_le _, ?_⟩
      rw [whS_succ]
      simp [l1, l2, e1, oD]
      omega
    | some z =>
      have line : pre.length + 2 < sizeLine := line_lt (by omega)
      have line' : pre.length + 1 + 1 < sizeLine := line
      obtain ⟨tl, o2, q1, q3⟩ := ih (i + 1) y z (pre ++ [x]) (some (.int z)) n (hr z rfl) (by omega) (by omega) (by simp; omega)
      refine ⟨z :: tl, o2, by simpa using q1, ?_⟩
      rw [whS_succ]
      have ek : (pre ++ [x]).length + 2 + k = pre.length + 2 + (k + 1) := by simp; omega
      rw [ek] at q3
      have hd : decide ((pre.length : Int) + 1 + 1 < ((pre.length + 2 + (k + 1) : Nat) : Int)) = true := decide_eq_true (by omega)
      simp at q3
      simp [l1, l2, e1, oD, line, line']
      rw [if_pos (by omega)]
      exact q3
end Q

namespace Q
open PySem PySem.Spec PyProof.Rows L2 Dl
/-! what any value is -/
def Sv : D → Bool
  | .non => true
  | .bl _ => true
  | .int _ => true
  | .str _ => true
  | .lst _ => true
  | .tup _ => true
  | .dct _ => true
  | _ => false
def isI : D → Bool
  | .int _ => true
  | _ => false
def wi (l m : Int) : D → Bool
  | .int v => decide (l ≤ v) && decide (v ≤ m)
  | _ => false
theorem int_ok {v : D} (h : Sv v = true) : F_is_integer [v] = .ok (.bl (isI v)) := by
  cases v <;> first | rfl | cases h
theorem within_ok {v : D} {l m : Int} (h : Sv v = true) : F_is_within [v, .int l, .int m] = .ok (.bl (wi l m v)) := by
  have e := int_ok h
  cases v <;> simp [F_is_within, m_is_within, e, isI, wi] at e ⊢
  rename_i i
  by_cases h : l ≤ i <;> simp [h, isD]
theorem lwithin_ok {v : D} {l m : Int} (h : Sv v = true) : F__law_within [v, .int l, .int m] = .ok (.bl (wi l m v)) := by
  cases v <;> first | rfl | cases h | skip
  rename_i i
  have e1 : isiD subG [.int i, .ty "int"] = .ok (.bl true) := rfl
  have e2 : isiD subG [.int i, .ty "bool"] = .ok (.bl false) := rfl
  by_cases h : l ≤ i <;> simp [F__law_within, m__law_within, e1, e2, h, wi]
theorem need_ok {x v : D} {l m : Int} (h : Sv v = true) : F_need_within [x, v, .int l, .int m] = if wi l m v = true then .ok .non else .ex 9 [("part", x)] := by
  cases w : wi l m v <;> simp [F_need_within, m_need_within, within_ok h, w]
/-- the first value that is not within -/
def bad : List (Str × Int × Int) → List D → Option Str
  | b :: bs, v :: vs => if wi b.2.1 b.2.2 v = true then bad bs vs else some b.1
  | _, _ => none
def exO : Option Str → R D
  | none => .ok .non
  | some n => .ex 9 [("part", .str n)]
def dueD : Option Str → D
  | none => .non
  | some n => .tup [.str "number", .str n]
theorem numbers_need {m : Int} {e2 e3 : Option D} {nv : D} : ∀ (ns : List Str) (vs : List D), ns.length = vs.length → (∀ v ∈ vs, Sv v = true) → ∀ o3 o4 : Option D, ∃ o5 o6 : Option D,
    forS (bSeq 2 (bCons (bName 2) (bCons (bName 3) bNil))) (expS (callF 4 F_need_within (aCons (eV 2) (aCons (eV 3) (aCons (eC (.int (1))) (aCons (eV 1) aNil)))))) ((ns.zip vs).map fun p => .tup [.str p.1, p.2]) [some nv, some (.int m), o3, o4]
      = match bad (ns.map fun n => (n, 1, m)) vs with
        | none => .nx [some nv, some (.int m), o5, o6]
        | some n => .ex 9 [("part", .str n)]
  | [], [], _, _, o3, o4 => ⟨o3, o4, by simp [forS_nil, bad]⟩
  | n :: ns, v :: vs, hl, hs, o3, o4 => by
    have h1 := hs v List.mem_cons_self
    obtain ⟨o5, o6, e⟩ := numbers_need (m := m) (e2 := e2) (e3 := e3) (nv := nv) ns vs (by simpa using hl) (fun u hu => hs u (List.mem_cons_of_mem _ hu)) (some (.str n)) (some v)
    refine ⟨o5, o6, ?_⟩
    rw [List.zip_cons_cons, List.map_cons, forS_cons]
    cases w : wi 1 m v <;> simp [need_ok h1, w, bad, e]
theorem F_need_numbers_ok {m : Int} (ns : List Str) (vs : List D) (hl : ns.length = vs.length) (hs : ∀ v ∈ vs, Sv v = true) : F_need_numbers [.lst ((ns.zip vs).map fun p => .tup [.str p.1, p.2]), .int m] = exO (bad (ns.map fun n => (n, 1, m)) vs) := by
  obtain ⟨o5, o6, e⟩ := numbers_need (m := m) (e2 := none) (e3 := none) (nv := .lst ((ns.zip vs).map fun p => .tup [.str p.1, p.2])) ns vs hl hs none none
  simp [F_need_numbers, m_need_numbers, e]
  cases bad (ns.map fun n => (n, 1, m)) vs <;> simp [exO]
theorem F_need_power_ok {v : D} (h : Sv v = true) : F_need_power [v] = exO (bad [("power", -80, 80)] [v]) := by
  cases w : wi (-80) 80 v <;> simp [F_need_power, m_need_power, need_ok h, w, bad, exO]
theorem bad_app : ∀ (bs bs' : List (Str × Int × Int)) (vs vs' : List D), bs.length = vs.length → bad (bs ++ bs') (vs ++ vs') = (bad bs vs).or (bad bs' vs')
  | [], bs', [], vs', _ => rfl
  | b :: bs, bs', v :: vs, vs', h => by
    show (if wi b.2.1 b.2.2 v = true then bad (bs ++ bs') (vs ++ vs') else some b.1) = (if wi b.2.1 b.2.2 v = true then bad bs vs else some b.1).or _
    rw [bad_app bs bs' vs vs' (by simpa using h)]
    cases wi b.2.1 b.2.2 v <;> simp
theorem wi_int {l m : Int} {v : D} (h : wi l m v = true) : ∃ i : Int, v = .int i ∧ l ≤ i ∧ i ≤ m := by
  cases v <;> first | cases h | skip
  rename_i i
  simp [wi] at h
  exact ⟨i, rfl, h⟩
theorem bad_cons_none {b : Str × Int × Int} {bs : List (Str × Int × Int)} {v : D} {vs : List D} (h : bad (b :: bs) (v :: vs) = none) : wi b.2.1 b.2.2 v = true ∧ bad bs vs = none := by
  unfold bad at h
  cases w : wi b.2.1 b.2.2 v
  · rw [w] at h; simp at h
  · rw [w] at h; simpa using h
/-! what is heard -/
theorem g_bad (n : Str) : g__law_heard 9 [("part", .str n)] = some (dueD (some n)) := rfl
theorem heard_of {env : En} {r : R (D × En)} {o : Option Str} (h : (o = none ∧ ∃ p, r = .ok p) ∨ ∃ n, o = some n ∧ r = .ex 9 [("part", .str n)]) : hdO g__law_heard env r = .ok (dueD o, env) := by
  rcases h with ⟨rfl, p, rfl⟩ | ⟨n, rfl, rfl⟩
  · rfl
  · rfl
theorem imm_due (o : Option Str) : immD (dueD o) = true := by cases o <;> rfl
/-- names that can be told -/
def Nm (o : Option Str) : Prop := ∀ n, o = some n → PyData.canLay0 (.str n) = true
theorem bad_nm : ∀ {bs : List (Str × Int × Int)} {vs : List D}, (∀ b ∈ bs, PyData.canLay0 (.str b.1) = true) → Nm (bad bs vs)
  | [], _, _ => fun n h => by unfold bad at h; cases h
  | _ :: _, [], _ => fun n h => by unfold bad at h; cases h
  | b :: bs, v :: vs, hb => fun n h => by
    unfold bad at h
    split at h
    · exact bad_nm (fun b hb' => hb b (List.mem_cons_of_mem _ hb')) n h
    · cases h; exact hb _ List.mem_cons_self
theorem shp_due {n : Str} (h : PyData.canLay0 (.str n) = true) : shpD (dueD (some n)) = some (.tuple [.str "number", .str n]) := by
  have e : pyD (dueD (some n)) = some (.tuple [.str "number", .str n]) := rfl
  have s : SeqAt.shaped (.tuple [.str "number", .str n]) = true := by
    have d : PyData.depth (.tuple [.str "number", .str n]) ≤ 64 := by simp [PyData.depth, PyData.depthAll]
    have c : PyData.canLay0 (.str ("number" : Str)) = true := by decide +kernel
    simp only [SeqAt.shaped, PyData.canLay0, PyData.canLayAll0] at h c ⊢
    rw [h, c, decide_eq_true d]
    rfl
  unfold shpD
  rw [e]
  exact if_pos s
theorem ne_due {o : Option Str} (h : Nm o) : neD (dueD o) (dueD o) = .ok (.bl false) := by
  cases o with
  | none => rfl
  | some n =>
    show neDp _ _ = _
    unfold neDp
    rw [shp_due (h n rfl)]
    show R.ok (D.bl (!(((("number" : Str) == "number") && (n == n && true))))) = _
    simp
theorem isn_due (o : Option Str) : isnD (dueD o) .non = .ok (.bl o.isSome) := by cases o <;> rfl
end Q

namespace Q
open PySem PySem.Spec PyProof.Rows L2 Dl
theorem good_ok {n : Nat} {d : D} {l m : Int} (h : Hat n d) (hn : n ≤ 900000) (hl : l ≤ m) (hm : m - l < 1000000000) : ∃ v d', F__law_good [d, .int l, .int m] = .ok (.int v, d') ∧ (l ≤ v ∧ v ≤ m) ∧ Hat (n + 2) d' := by
  obtain ⟨k, d1, e1, a1, b1, g1⟩ := lot_ok (m := m - l + 1) h (by omega) (by omega) (by omega)
  obtain ⟨x, d2, e2, hx, g2⟩ := one_ok (xs := [.int l, .int m, .int (l + k)]) g1 (by omega) (by simp) (by simp)
  have line3 : 3 ≤ sizeLine := line_le (by decide)
  simp only [List.mem_cons, List.not_mem_nil, or_false] at hx
  rcases hx with rfl | rfl | rfl
  · exact ⟨l, d2, by simp [F__law_good, m__law_good, e1, e2, line3], by omega, g2⟩
  · exact ⟨m, d2, by simp [F__law_good, m__law_good, e1, e2, line3], by omega, g2⟩
  · exact ⟨l + k, d2, by simp [F__law_good, m__law_good, e1, e2, line3], by omega, g2⟩
def badL (l m : Int) : List D := [.int (l - 1), .int (m + 1), .non, .bl true, .bl false, .str (toString l), .lst [.int l], .tup [.int m], .int (10 ^ 25), .int (-10 ^ 25), .dct [], .str "power"]
theorem bad_sv {l m : Int} {v : D} (h : v ∈ badL l m) : Sv v = true := by
  unfold badL at h
  simp only [List.mem_cons, List.not_mem_nil, or_false] at h
  rcases h with rfl | rfl | rfl | rfl | rfl | rfl | rfl | rfl | rfl | rfl | rfl | rfl <;> rfl
theorem bad_ok {n : Nat} {d : D} {l m : Int} (h : Hat n d) (hn : n ≤ 900000) (hl : -1000000 ≤ l ∧ l ≤ 1000000) : ∃ v d', F__law_bad [d, .int l, .int m] = .ok (v, d') ∧ v ∈ badL l m ∧ Hat (n + 1) d' := by
  obtain ⟨x, d2, e2, hx, g2⟩ := one_ok (xs := badL l m) h (by omega) (by simp [badL]) (by simp [badL])
  have line12 : 12 ≤ sizeLine := line_le (by decide)
  have line1 : 1 ≤ sizeLine := line_le (by decide)
  have lg : l.natAbs.log2 < 1920 := Nat.lt_trans (log2_lt_of (k := 20) (by omega) (by decide)) (by decide)
  have es : strI [.int l] = .ok (.str (toString l)) := by
    unfold strI
    exact if_pos lg
  have ep : intD powI (.int 10) (.int 25) = .ok (.int (10 ^ 25)) := rfl
  refine ⟨x, d2, ?_, hx, g2⟩
  unfold badL at e2
  simp at e2
  simp [F__law_bad, m__law_bad, line12, line1, es, e2]
abbrev Bd := Str × Int × Int
def bdD (b : Bd) : D := .tup [.str b.1, .int b.2.1, .int b.2.2]
structure SB (b : Bd) : Prop where
  l : -1000000 ≤ b.2.1
  m : b.2.1 ≤ b.2.2
  u : b.2.2 ≤ 1000000
/-- the good values -/
theorem goods_lp {b v2 v3 v4 v5 v6 v7 : Option D} : ∀ (bs : List Bd) (acc : List D) (n : Nat) (d : D), Hat n d → n + 2 * bs.length ≤ 800000 → (∀ b ∈ bs, SB b) → acc.length + bs.length ≤ 1000 →
    ∃ (vs : List D) (d' : D), vs.length = bs.length ∧ (∀ v ∈ vs, Sv v = true) ∧ Hat (n + 2 * bs.length) d' ∧
      lcF [8, 9, 10] (bSeq 3 (bCons (bName 8) (bCons (bName 9) (bCons (bName 10) bNil)))) tYes1 (callM 0 3 F__law_good (aCons (eV 9) (aCons (eV 10) aNil))) (bs.map bdD) acc [some d, b, v2, v3, v4, v5, v6, v7, none, none, none]
        = .ok (acc ++ vs, [some d', b, v2, v3, v4, v5, v6, v7, none, none, none]) := by
  intro bs
  induction bs with
  | nil =>
    intro acc n d h hn hb hl
    exact ⟨[], d, rfl, fun v hv => absurd hv List.not_mem_nil, h, by rw [List.append_nil]; rfl⟩
  | cons x bs ih =>
    intro acc n d h hn hb hl
    simp only [List.length_cons] at hn hl
    have sx := hb x List.mem_cons_self
    obtain ⟨v, d1, e1, _, g1⟩ := good_ok h (by omega) sx.m (by have := sx.l; have := sx.u; omega)
    obtain ⟨vs, d', hvl, hvs, g2, e2⟩ := ih (acc ++ [.int v]) (n + 2) d1 g1 (by omega) (fun b hb' => hb b (List.mem_cons_of_mem _ hb')) (by simp; omega)
    have line : acc.length < sizeLine := line_lt (by omega)
    refine ⟨.int v :: vs, d', by simp [hvl], fun u hu => ?_, g2.up (by simp only [List.length_cons]; omega), ?_⟩
    · rcases List.mem_cons.mp hu with z | z
      · rw [z]; rfl
      · exact hvs u z
    · rw [List.map_cons, lcF_cons]
      simp [bdD, e1, line, wipeE]
      simpa [bdD] using e2
/-- some of them spoilt -/
theorem spoil_lp {o6 o7 : Option D} {bs : List Bd} (hb : ∀ b ∈ bs, SB b) (hb0 : 0 < bs.length) (hbl : bs.length < 1000) : ∀ (ts : List D) (vs : List D) (n : Nat) (d : D) (o4 o5 : Option D), Hat n d → n + 2 * ts.length ≤ 800000 → vs.length = bs.length → (∀ v ∈ vs, Sv v = true) →
    ∃ (vs' : List D) (d' : D) (p4 p5 : Option D), vs'.length = bs.length ∧ (∀ v ∈ vs', Sv v = true) ∧ Hat (n + 2 * ts.length) d' ∧
      forS (bName 4) (seqS (asgS 5 (callM 0 2 F__law_lot (aCons (eN lenP (aCons (eV 1) aNil)) aNil))) (setS 2 (callM 0 3 F__law_bad (aCons (e2 ixD (e2 ixD (eV 1) (eV 5)) (eC (.int (1)))) (aCons (e2 ixD (e2 ixD (eV 1) (eV 5)) (eC (.int (2)))) aNil))) (eV 5))) ts
        [some d, some (.lst (bs.map bdD)), some (.lst vs), some .non, o4, o5, o6, o7, none, none, none] = .nx [some d', some (.lst (bs.map bdD)), some (.lst vs'), some .non, p4, p5, o6, o7, none, none, none] := by
  intro ts
  induction ts with
  | nil =>
    intro vs n d o4 o5 h hn hv hs
    exact ⟨vs, d, o4, o5, hv, hs, h, rfl⟩
  | cons t ts ih =>
    intro vs n d o4 o5 h hn hv hs
    simp only [List.length_cons] at hn
    obtain ⟨k, d1, e1, a1, b1, g1⟩ := lot_ok (m := bs.length) h (by omega) (by omega) (by omega)
    obtain ⟨q, rfl⟩ : ∃ q : Nat, k = q := ⟨k.toNat, by omega⟩
    have hq : q < bs.length := by omega
    have eb : atI (bs.map bdD) (q : Int) = some (bdD bs[q]) := by
      rw [atI_nat rfl, List.getElem?_map, List.getElem?_eq_getElem hq]
      rfl
    have sx := hb bs[q] (List.getElem_mem hq)
    obtain ⟨v, d2, e2, hbv, g2⟩ := bad_ok (m := bs[q].2.2) g1 (by omega) ⟨sx.l, Int.le_trans sx.m sx.u⟩
    have es : setIx vs (q : Int) v = .ok (.lst (vs.set q v)) := setIx_nat rfl (by omega)
    obtain ⟨vs', d', p4, p5, h1, h2, g3, e3⟩ := ih (vs.set q v) (n + 2) d2 (some t) (some (.int q)) g2 (by omega) (by rw [List.length_set]; exact hv) (fun u hu => by
      rcases List.mem_or_eq_of_mem_set hu with z | z
      · exact hs u z
      · rw [z]; exact bad_sv hbv)
    refine ⟨vs', d', p4, p5, h1, h2, g3.up (by simp only [List.length_cons]; omega), ?_⟩
    rw [forS_cons]
    simp only [bdD] at eb
    simp [e1, eb, e2, es, bdD]
    simpa [bdD] using e3
/-- the error that is due -/
theorem due_lp {d b v o4 o5 : Option D} : ∀ (bs : List Bd) (vs : List D) (x : Option Str) (o6 o7 : Option D), vs.length = bs.length → (∀ v ∈ vs, Sv v = true) →
    ∃ p6 p7 : Option D, forS (bSeq 2 (bCons (bName 6) (bCons (bName 7) bNil))) (ifS (tAnd1 (tB1 (e2 isD (eV 3) (eC .non))) (tNot1 (tB1 (callF 3 F__law_within (aCons (eV 6) (aCons (e2 ixD (eV 7) (eC (.int (1)))) (aCons (e2 ixD (eV 7) (eC (.int (2)))) aNil))))))) (asgS 3 (eN tupD (aCons (eC (.str "number")) (aCons (e2 ixD (eV 7) (eC (.int (0)))) aNil)))) passS)
        ((vs.zip (bs.map bdD)).map fun p => .tup [p.1, p.2]) [d, b, v, some (dueD x), o4, o5, o6, o7, none, none, none] = .nx [d, b, v, some (dueD (x.or (bad bs vs))), o4, o5, p6, p7, none, none, none] := by
  intro bs
  induction bs with
  | nil =>
    intro vs x o6 o7 hl hs
    have : vs = [] := List.eq_nil_of_length_eq_zero hl
    subst this
    exact ⟨o6, o7, by cases x <;> rfl⟩
  | cons y bs ih =>
    intro vs x o6 o7 hl hs
    obtain ⟨u, vs, rfl⟩ : ∃ u us, vs = u :: us := by
      cases vs with
      | nil => cases hl
      | cons a b => exact ⟨a, b, rfl⟩
    have hu := hs u List.mem_cons_self
    have line2 : 2 ≤ sizeLine := line_le (by decide)
    have hl' : vs.length = bs.length := by simpa using hl
    have hs' : ∀ v ∈ vs, Sv v = true := fun w hw => hs w (List.mem_cons_of_mem _ hw)
    rw [List.map_cons, List.zip_cons_cons, List.map_cons, forS_cons]
    cases x with
    | some n =>
      obtain ⟨p6, p7, e⟩ := ih vs (some n) (some u) (some (bdD y)) hl' hs'
      refine ⟨p6, p7, ?_⟩
      have i1 : isD (dueD (some n)) .non = .ok (.bl false) := rfl
      simp [i1]
      simpa using e
    | none =>
      have i1 : isD (dueD none) .non = .ok (.bl true) := rfl
      cases w : wi y.2.1 y.2.2 u with
      | true =>
        obtain ⟨p6, p7, e⟩ := ih vs none (some u) (some (bdD y)) hl' hs'
        refine ⟨p6, p7, ?_⟩
        simp [i1, bdD, lwithin_ok hu, w, bad]
        simpa [bdD] using e
      | false =>
        obtain ⟨p6, p7, e⟩ := ih vs (some y.1) (some u) (some (bdD y)) hl' hs'
        refine ⟨p6, p7, ?_⟩
        simp [i1, bdD, lwithin_ok hu, w, bad, line2]
        simpa [bdD, dueD] using e
theorem spoilt_ok {n : Nat} {d : D} (h : Hat n d) (hn : n ≤ 700000) (bs : List Bd) (hb : ∀ b ∈ bs, SB b) (hb0 : 0 < bs.length) (hbl : bs.length < 100) :
    ∃ (vs : List D) (d' : D), vs.length = bs.length ∧ (∀ v ∈ vs, Sv v = true) ∧ Hat (n + 300) d' ∧ F__law_spoilt [d, .lst (bs.map bdD)] = .ok (.tup [.lst vs, dueD (bad bs vs)], d') := by
  obtain ⟨vs, d1, l1, s1, g1, e1⟩ := goods_lp (b := some (.lst (bs.map bdD))) (v2 := none) (v3 := none) (v4 := none) (v5 := none) (v6 := none) (v7 := none) bs [] n d h (by omega) hb (by simp; omega)
  obtain ⟨k, d2, e2, a2, b2, g2⟩ := lot_ok (m := 3) g1 (by omega) (by decide) (by decide)
  obtain ⟨q, rfl⟩ : ∃ q : Nat, k = q := ⟨k.toNat, by omega⟩
  have hr : rng1D [.int (q : Int)] = .ok (rng 0 q) := rng1_ok (by omega)
  obtain ⟨vs', d3, p4, p5, l3, s3, g3, e3⟩ := spoil_lp (o6 := none) (o7 := none) hb hb0 (by omega) (rng 0 q) vs (n + 2 * bs.length + 1) d2 none none g2 (by rw [rng_len]; omega) l1 s1
  obtain ⟨p6, p7, e4⟩ := due_lp (d := some d3) (b := some (.lst (bs.map bdD))) (v := some (.lst vs')) (o4 := p4) (o5 := p5) bs vs' none none none l3 s3
  have line2 : 2 ≤ sizeLine := line_le (by decide)
  rw [rng_len] at g3
  have ez : zipP [.lst vs', .lst (bs.map bdD)] = .ok ((vs'.zip (bs.map bdD)).map fun p => .tup [p.1, p.2]) := rfl
  have i0 : dueD none = .non := rfl
  refine ⟨vs', d3, l3, s3, g3.up (by omega), ?_⟩
  simp only [i0, Option.none_or] at e4
  simp [F__law_spoilt, m__law_spoilt, wipeE, e1, backE, e2, hr, e3, ez, e4, line2, -rng1D_ap]
end Q

namespace Q
open PySem PySem.Spec PyProof.Rows L2 Dl
open K9 (sum0 wsum)
theorem bits20 {v : Int} (h0 : 1 ≤ v) (h : v ≤ 1000000) : v.natAbs < 2 ^ 20 := by omega
theorem sum_up {a b c d : Int} {k q : Nat} (ha : a.natAbs < 2 ^ k) (hb : b.natAbs < 2 ^ k) (hc : c.natAbs < 2 ^ k) (hd : d.natAbs < 2 ^ k) (hk : k ≤ 300) (hq : q ≤ 100) (n : Nat) : FF_whole_sum (n + 1) [.int a, .int b, .int c, .int d, .int q] = .ok (.int (sum0 a b c d q)) := by
  have r := fun {v : Int} (hv : v.natAbs < 2 ^ k) => raised_ok (m := q) hv (by have := Nat.mul_le_mul hk hq; omega) (Nat.lt_of_le_of_lt hq (by decide))
  have h0 : ¬ ((q : Int) < 0) := by omega
  simp [FF_whole_sum, m_whole_sum, r ha, r hb, r hc, r hd, h0, sum0]
theorem whole_ok {a b c d p : Int} (ha : 1 ≤ a ∧ a ≤ 1000000) (hb : 1 ≤ b ∧ b ≤ 1000000) (hc : 1 ≤ c ∧ c ≤ 1000000) (hd : 1 ≤ d ∧ d ≤ 1000000) (hp : -100 ≤ p ∧ p ≤ 100) : F_whole_sum [.int a, .int b, .int c, .int d, .int p] = .ok (.int (wsum a b c d p)) := by
  have A := bits20 ha.1 ha.2
  have B := bits20 hb.1 hb.2
  have C := bits20 hc.1 hc.2
  have E := bits20 hd.1 hd.2
  by_cases h : p < 0
  · obtain ⟨q, hq⟩ : ∃ q : Nat, p = -(q : Int) := ⟨p.natAbs, by omega⟩
    have hq2 : (-p).toNat = q := by omega
    have mm := fun {u v : Int} {s : Nat} (hu : u.natAbs < 2 ^ s) (hs : s ≤ 60) => mulP_int (i := u) (j := v) (.inl (natAbs_up hu (show s ≤ 64 by omega)))
    have e : (-p) = (q : Int) := by omega
    have main := sum_up (k := 60) (q := q) (natAbs_mul_lt (natAbs_mul_lt B C) E) (natAbs_mul_lt (natAbs_mul_lt A C) E) (natAbs_mul_lt (natAbs_mul_lt A B) E) (natAbs_mul_lt (natAbs_mul_lt A B) C) (by decide) (by omega) 0
    have bc := natAbs_mul_lt B C
    have ac := natAbs_mul_lt A C
    have ab := natAbs_mul_lt A B
    unfold F_whole_sum
    rw [FF_whole_sum]
    simp [m_whole_sum, h, mm B, mm A, mm bc, mm ac, mm ab, e, main]
    unfold wsum
    rw [if_pos h, hq2]
  · obtain ⟨q, hq⟩ : ∃ q : Nat, p = (q : Int) := ⟨p.natAbs, by omega⟩
    subst hq
    unfold F_whole_sum
    rw [sum_up A B C E (by decide) (by omega) 1, K9.wsum_up]
/-- what a call that asks its values comes to -/
def Asks (o : Option Str) (r : R D) (P : D → Prop) : Prop := (o = none ∧ ∃ d, P d ∧ r = .ok d) ∨ ∃ n, o = some n ∧ r = .ex 9 [("part", .str n)]
abbrev fb : List Bd := [("a", 1, 1000000), ("b", 1, 1000000), ("c", 1, 1000000), ("d", 1, 1000000), ("power", -80, 80)]
theorem fours_of {v1 v2 v3 v4 v5 : D} (h : bad fb [v1, v2, v3, v4, v5] = none) : ∃ a b c d p : Int, v1 = .int a ∧ v2 = .int b ∧ v3 = .int c ∧ v4 = .int d ∧ v5 = .int p ∧ (1 ≤ a ∧ a ≤ 1000000) ∧ (1 ≤ b ∧ b ≤ 1000000) ∧ (1 ≤ c ∧ c ≤ 1000000) ∧ (1 ≤ d ∧ d ≤ 1000000) ∧ (-80 ≤ p ∧ p ≤ 80) := by
  obtain ⟨h1, h⟩ := bad_cons_none h
  obtain ⟨h2, h⟩ := bad_cons_none h
  obtain ⟨h3, h⟩ := bad_cons_none h
  obtain ⟨h4, h⟩ := bad_cons_none h
  obtain ⟨h5, h⟩ := bad_cons_none h
  obtain ⟨a, e1, r1⟩ := wi_int h1
  obtain ⟨b, e2, r2⟩ := wi_int h2
  obtain ⟨c, e3, r3⟩ := wi_int h3
  obtain ⟨d, e4, r4⟩ := wi_int h4
  obtain ⟨p, e5, r5⟩ := wi_int h5
  exact ⟨a, b, c, d, p, e1, e2, e3, e4, e5, r1, r2, r3, r4, r5⟩
section
variable {v1 v2 v3 v4 v5 : D}
theorem fours_need (s1 : Sv v1 = true) (s2 : Sv v2 = true) (s3 : Sv v3 = true) (s4 : Sv v4 = true) : F_need_numbers [.lst [.tup [.str "a", v1], .tup [.str "b", v2], .tup [.str "c", v3], .tup [.str "d", v4]], .int 1000000] = exO (bad [("a", 1, 1000000), ("b", 1, 1000000), ("c", 1, 1000000), ("d", 1, 1000000)] [v1, v2, v3, v4]) :=
  F_need_numbers_ok ["a", "b", "c", "d"] [v1, v2, v3, v4] rfl fun v hv => by
    simp only [List.mem_cons, List.not_mem_nil, or_false] at hv
    rcases hv with rfl | rfl | rfl | rfl <;> assumption
theorem sign_ok (s1 : Sv v1 = true) (s2 : Sv v2 = true) (s3 : Sv v3 = true) (s4 : Sv v4 = true) (s5 : Sv v5 = true) : Asks (bad fb [v1, v2, v3, v4, v5]) (F_sign_at [v1, v2, v3, v4, v5]) fun d => ∃ s : Int, (s = -1 ∨ s = 0 ∨ s = 1) ∧ d = .int s := by
  have nn := fours_need s1 s2 s3 s4
  have np := F_need_power_ok s5
  have e := bad_app [("a", 1, 1000000), ("b", 1, 1000000), ("c", 1, 1000000), ("d", 1, 1000000)] [("power", -80, 80)] [v1, v2, v3, v4] [v5] rfl
  have line2 : 2 ≤ sizeLine := line_le (by decide)
  have line4 : 4 ≤ sizeLine := line_le (by decide)
  simp only [List.cons_append, List.nil_append] at e
  cases h1 : bad [("a", 1, 1000000), ("b", 1, 1000000), ("c", 1, 1000000), ("d", 1, 1000000)] [v1, v2, v3, v4] with
  | some n =>
    rw [h1] at nn e
    exact .inr ⟨n, e, by simp [F_sign_at, m_sign_at, line2, line4, nn, exO]⟩
  | none =>
    rw [h1] at nn e
    cases h2 : bad [("power", -80, 80)] [v5] with
    | some n =>
      rw [h2] at np e
      exact .inr ⟨n, e, by simp [F_sign_at, m_sign_at, line2, line4, nn, np, exO]⟩
    | none =>
      rw [h2] at np e
      obtain ⟨a, b, c, d, p, rfl, rfl, rfl, rfl, rfl, r1, r2, r3, r4, r5⟩ := fours_of e
      have w := whole_ok r1 r2 r3 r4 (show -100 ≤ p ∧ p ≤ 100 by omega)
      refine .inl ⟨e, ?_⟩
      by_cases z : wsum a b c d p = 0
      · exact ⟨.int 0, ⟨0, by omega, rfl⟩, by simp [F_sign_at, m_sign_at, line2, line4, nn, np, exO, w, z]⟩
      · by_cases z2 : 0 < wsum a b c d p
        · exact ⟨.int 1, ⟨1, by omega, rfl⟩, by simp [F_sign_at, m_sign_at, line2, line4, nn, np, exO, w, z, z2]⟩
        · exact ⟨.int (-1), ⟨-1, by omega, rfl⟩, by simp [F_sign_at, m_sign_at, line2, line4, nn, np, exO, w, z, z2]⟩
theorem by_ok {a b c d p : Int} (r1 : 1 ≤ a ∧ a ≤ 1000000) (r2 : 1 ≤ b ∧ b ≤ 1000000) (r3 : 1 ≤ c ∧ c ≤ 1000000) (r4 : 1 ≤ d ∧ d ≤ 1000000) (r5 : -80 ≤ p ∧ p ≤ 80) : ∃ k, F_is_by_power [.int a, .int b, .int c, .int d, .int p] = .ok (.bl k) := by
  have w := whole_ok r1 r2 r3 r4 (show -100 ≤ p ∧ p ≤ 100 by omega)
  have m1 : mulP (.int a) (.int d) = .ok (.int (a * d)) := mulP_int (.inl (natAbs_up (bits20 r1.1 r1.2) (by decide)))
  have m2 : mulP (.int b) (.int c) = .ok (.int (b * c)) := mulP_int (.inl (natAbs_up (bits20 r2.1 r2.2) (by decide)))
  by_cases h : p = 0
  · exact ⟨_, by simp [F_is_by_power, m_is_by_power, h, m1, m2]; rfl⟩
  · exact ⟨_, by simp [F_is_by_power, m_is_by_power, h, w]; rfl⟩
theorem isby_ok (s1 : Sv v1 = true) (s2 : Sv v2 = true) (s3 : Sv v3 = true) (s4 : Sv v4 = true) (s5 : Sv v5 = true) : Asks (bad fb [v1, v2, v3, v4, v5]) (F_is_by [v1, v2, v3, v4, v5]) fun d => ∃ k, d = .bl k := by
  have nn := fours_need s1 s2 s3 s4
  have np := F_need_power_ok s5
  have e := bad_app [("a", 1, 1000000), ("b", 1, 1000000), ("c", 1, 1000000), ("d", 1, 1000000)] [("power", -80, 80)] [v1, v2, v3, v4] [v5] rfl
  have line2 : 2 ≤ sizeLine := line_le (by decide)
  have line4 : 4 ≤ sizeLine := line_le (by decide)
  simp only [List.cons_append, List.nil_append] at e
  cases h1 : bad [("a", 1, 1000000), ("b", 1, 1000000), ("c", 1, 1000000), ("d", 1, 1000000)] [v1, v2, v3, v4] with
  | some n =>
    rw [h1] at nn e
    exact .inr ⟨n, e, by simp [F_is_by, m_is_by, line2, line4, nn, exO]⟩
  | none =>
    rw [h1] at nn e
    cases h2 : bad [("power", -80, 80)] [v5] with
    | some n =>
      rw [h2] at np e
      exact .inr ⟨n, e, by simp [F_is_by, m_is_by, line2, line4, nn, np, exO]⟩
    | none =>
      rw [h2] at np e
      obtain ⟨a, b, c, d, p, rfl, rfl, rfl, rfl, rfl, r1, r2, r3, r4, r5⟩ := fours_of e
      obtain ⟨k, w⟩ := by_ok r1 r2 r3 r4 r5
      exact .inl ⟨e, .bl k, ⟨k, rfl⟩, by simp [F_is_by, m_is_by, line2, line4, nn, np, exO, w]⟩
end
theorem due0 : dueD none = .non := rfl
theorem ne_non : neD .non .non = .ok (.bl false) := rfl
theorem isn_non : isnD .non .non = .ok (.bl false) := rfl
theorem imm_non : immD .non = true := rfl
theorem len5 {vs : List D} (h : vs.length = 5) : ∃ a b c d e, vs = [a, b, c, d, e] := by
  match vs, h with
  | [a, b, c, d, e], _ => exact ⟨a, b, c, d, e, rfl⟩
theorem len4 {vs : List D} (h : vs.length = 4) : ∃ a b c d, vs = [a, b, c, d] := by
  match vs, h with
  | [a, b, c, d], _ => exact ⟨a, b, c, d, rfl⟩
/-- what is heard of a call -/
theorem Asks.hd {o : Option Str} {r : R D} {P : D → Prop} {env : En} (h : Asks o r P) : hdO g__law_heard env (r.bind fun d => .ok (d, env)) = .ok (dueD o, env) := by
  rcases h with ⟨rfl, d, _, rfl⟩ | ⟨n, rfl, rfl⟩
  · rfl
  · rfl
theorem fours_ok {n : Nat} {d : D} (h : Hat n d) (hn : n ≤ 600000) : ∃ d', F__law_fours_right [d] = .ok (.bl true, d') ∧ Hat (n + 300) d' := by
  obtain ⟨vs, d', hl, hs, hg, e⟩ := spoilt_ok h (by omega) fb (fun b hb => by
    simp only [List.mem_cons, List.not_mem_nil, or_false] at hb
    rcases hb with rfl | rfl | rfl | rfl | rfl <;> exact ⟨by decide, by decide, by decide⟩) (by decide) (by decide)
  obtain ⟨v1, v2, v3, v4, v5, rfl⟩ := len5 hl
  have s1 := hs v1 (by simp)
  have s2 := hs v2 (by simp)
  have s3 := hs v3 (by simp)
  have s4 := hs v4 (by simp)
  have s5 := hs v5 (by simp)
  have A1 := sign_ok s1 s2 s3 s4 s5
  have A2 := isby_ok s1 s2 s3 s4 s5
  have nm : Nm (bad fb [v1, v2, v3, v4, v5]) := bad_nm fun b hb => by
    simp only [List.mem_cons, List.not_mem_nil, or_false] at hb
    rcases hb with rfl | rfl | rfl | rfl | rfl <;> decide +kernel
  have n1 := ne_due nm
  have n2 := isn_due (bad fb [v1, v2, v3, v4, v5])
  have i1 := imm_due (bad fb [v1, v2, v3, v4, v5])
  refine ⟨d', ?_, hg⟩
  have line : ∀ k, k ≤ 10 → k ≤ sizeLine := fun k hk => line_le (by omega)
  have lins : ∀ k, k < 10 → k < sizeLine := fun k hk => line_lt (by omega)
  have hd1 := fun env : En => A1.hd (env := env)
  have hd2 := fun env : En => A2.hd (env := env)
  have lc : ∀ (env : En), True := fun _ => trivial
  simp only [bdD, fb, List.map_cons, List.map_nil] at e
  generalize ho : bad fb [v1, v2, v3, v4, v5] = o at *
  cases o with
  | some nn =>
    simp [F__law_fours_right, m__law_fours_right, lcF_cons, lcF_nil, wipeE, backE, line, lins, e, hd1, hd2, i1, n1, n2, kg_is_by_0]
  | none =>
    rcases A1 with ⟨_, q1, ⟨s, hs, rfl⟩, f1⟩ | ⟨_, z, _⟩
    · rcases A2 with ⟨_, q2, ⟨k, rfl⟩, f2⟩ | ⟨_, z, _⟩
      · have t1 : isiD subG [.int s, .ty "int"] = .ok (.bl true) := rfl
        have t2 : isiD subG [.int s, .ty "bool"] = .ok (.bl false) := rfl
        have t3 : isiD subG [.bl k, .ty "bool"] = .ok (.bl true) := rfl
        have t4 : inD false (.int s) (.tup [.int (-1), .int 0, .int 1]) = .ok (.bl true) := by rcases hs with rfl | rfl | rfl <;> rfl
        simp [F__law_fours_right, m__law_fours_right, lcF_cons, lcF_nil, wipeE, backE, line, lins, e, hd1, hd2, i1, n1, n2, kg_is_by_0, kg_sign_at_1, f1, f2, t1, t2, t3, t4, due0, ne_non, isn_non, imm_non]
      · cases z
    · cases z
end Q

namespace Q
open PySem PySem.Spec PyProof.Rows L2 Dl
/-! the fourth of three numbers -/
def To (a b c p : Int) : Int := if p = 0 then b * c else if 0 < p then b ^ p.natAbs + c ^ p.natAbs - a ^ p.natAbs else (a * b * c) ^ p.natAbs
def Bo (a b c p : Int) : Int := if p = 0 then a else if 0 < p then 1 else (a * c) ^ p.natAbs + (a * b) ^ p.natAbs - (b * c) ^ p.natAbs
theorem bits7 {v : Int} (h0 : 1 ≤ v) (h : v ≤ 99) : v.natAbs < 2 ^ 7 := by omega
structure S3 (a b c p : Int) : Prop where
  a : 1 ≤ a ∧ a ≤ 99
  b : 1 ≤ b ∧ b ≤ 99
  c : 1 ≤ c ∧ c ≤ 99
  p : -80 ≤ p ∧ p ≤ 80
section
variable {a b c p : Int}
theorem quo_ok (s : S3 a b c p) : F_fourth_quotient [.int a, .int b, .int c, .int p] = .ok (if 0 < To a b c p ∧ 0 < Bo a b c p then .tup [.int (Tt p), .int (To a b c p), .int (Bo a b c p)] else .non) := by
  have ha := bits7 s.a.1 s.a.2
  have hb := bits7 s.b.1 s.b.2
  have hc := bits7 s.c.1 s.c.2
  have a0 : 0 < a := by have := s.a; omega
  have b0 : 0 < b := by have := s.b; omega
  have c0 : 0 < c := by have := s.c; omega
  have line3 : 3 ≤ sizeLine := line_le (by decide)
  have p0 := s.p.1
  have p1 := s.p.2
  have m1 : mulP (.int b) (.int c) = .ok (.int (b * c)) := mulP_bits (natAbs_up hb (by decide)) (natAbs_up hc (by decide))
  have m2 : mulP (.int a) (.int b) = .ok (.int (a * b)) := mulP_bits (natAbs_up ha (by decide)) (natAbs_up hb (by decide))
  have m4 : mulP (.int a) (.int c) = .ok (.int (a * c)) := mulP_bits (natAbs_up ha (by decide)) (natAbs_up hc (by decide))
  have m3 : mulP (.int (a * b)) (.int c) = .ok (.int (a * b * c)) := mulP_bits (natAbs_up (natAbs_mul_lt ha hb) (by decide)) (natAbs_up hc (by decide))
  have bc := natAbs_mul_lt hb hc
  have ab := natAbs_mul_lt ha hb
  have ac := natAbs_mul_lt ha hc
  have abc := natAbs_mul_lt ab hc
  by_cases h0 : p = 0
  · subst h0
    have : 0 < b * c := Int.mul_pos b0 c0
    simp [F_fourth_quotient, m_fourth_quotient, m1, line3, To, Bo, Tt, this, a0]
  · have hq8 : p.natAbs ≤ 80 := by omega
    have r := fun {x : Int} {y : Nat} (hx : x.natAbs < 2 ^ y) (hy2 : y ≤ 300) => raised_ok (m := p.natAbs) hx (by
      have := Nat.mul_le_mul hy2 hq8
      omega) (Nat.lt_of_le_of_lt hq8 (by decide))
    by_cases h1 : 0 < p
    · have hp : p = (p.natAbs : Int) := by omega
      have ra := r ha (by decide)
      have rb := r hb (by decide)
      have rc := r hc (by decide)
      rw [← hp] at ra rb rc
      by_cases ht : a ^ p.natAbs < b ^ p.natAbs + c ^ p.natAbs
      · simp [F_fourth_quotient, m_fourth_quotient, h0, h1, ra, rb, rc, line3, To, Bo, Tt, ht, ← hp]
      · simp [F_fourth_quotient, m_fourth_quotient, h0, h1, ra, rb, rc, line3, To, Bo, Tt, ht]
    · have hp : -p = (p.natAbs : Int) := by omega
      have rbc := r bc (by decide)
      have rab := r ab (by decide)
      have rac := r ac (by decide)
      have rabc := r abc (by decide)
      rw [← hp] at rbc rab rac rabc
      have hpos : 0 < (a * b * c) ^ p.natAbs := ipow_pos (Int.mul_pos (Int.mul_pos a0 b0) c0) _
      by_cases ht : (b * c) ^ p.natAbs < (a * c) ^ p.natAbs + (a * b) ^ p.natAbs
      · simp [F_fourth_quotient, m_fourth_quotient, h0, h1, m1, m2, m3, m4, rbc, rab, rac, rabc, line3, To, Bo, Tt, ht, hpos, ← hp]
      · simp [F_fourth_quotient, m_fourth_quotient, h0, h1, m1, m2, m3, m4, rbc, rab, rac, rabc, line3, To, Bo, Tt, ht, hpos]
theorem two200 : (2 : Int) ^ 200 = ((2 ^ 200 : Nat) : Int) := by norm_cast
theorem big200 : (100000000 : Int) < 2 ^ 200 := by decide
theorem fit3 (s : S3 a b c p) (ht : 0 < To a b c p) (hb : 0 < Bo a b c p) : Fit (Tt p) (To a b c p) (Bo a b c p) := by
  have p0 := s.p.1
  have p1 := s.p.2
  have a1 := s.a
  have b1 := s.b
  have c1 := s.c
  have t1 : 1 ≤ Tt p := by unfold Tt; split <;> omega
  refine ⟨t1, by unfold Tt; split <;> omega, ht, hb, ?_, ?_⟩
  · unfold Bo at hb ⊢
    by_cases h0 : p = 0
    · rw [if_pos h0] at hb ⊢
      exact natAbs_up (bits7 a1.1 a1.2) (by decide)
    · rw [if_neg h0] at hb ⊢
      by_cases h1 : 0 < p
      · rw [if_pos h1]; decide
      · rw [if_neg h1] at hb ⊢
        have q1 : 1 ≤ p.natAbs := by omega
        have ac := ipow_bits (natAbs_mul_lt (bits7 a1.1 a1.2) (bits7 c1.1 c1.2)) p.natAbs q1
        have ab := ipow_bits (natAbs_mul_lt (bits7 a1.1 a1.2) (bits7 b1.1 b1.2)) p.natAbs q1
        have u1 := natAbs_up ac (show (7 + 7) * p.natAbs ≤ 1120 by omega)
        have u2 := natAbs_up ab (show (7 + 7) * p.natAbs ≤ 1120 by omega)
        have bc : 0 < (b * c) ^ p.natAbs := ipow_pos (Int.mul_pos (by omega) (by omega)) _
        have up : ((a * c) ^ p.natAbs + (a * b) ^ p.natAbs - (b * c) ^ p.natAbs).natAbs < 2 ^ 1121 := by
          have : (2 : Nat) ^ 1121 = 2 ^ 1120 + 2 ^ 1120 := by rw [Nat.pow_succ, Nat.mul_two]
          omega
        exact natAbs_up up (by decide)
  · unfold side
    have z : (0 : Int) < 2 ^ 200 := by have := big200; omega
    have zp : (0 : Int) < (2 ^ 200) ^ Tt p := ipow_pos z _
    have le : (2 ^ 200) ^ Tt p ≤ (2 ^ 200) ^ Tt p * Bo a b c p := by
      have := Int.mul_le_mul_of_nonneg_left (show (1 : Int) ≤ Bo a b c p by omega) (Int.le_of_lt zp)
      rw [Int.mul_one] at this
      exact this
    suffices h : To a b c p < (2 ^ 200) ^ Tt p by omega
    have bg := big200
    unfold To Tt
    by_cases h0 : p = 0
    · rw [if_pos h0, if_pos h0]
      have : b * c ≤ 99 * 99 := Int.mul_le_mul b1.2 c1.2 (by omega) (by omega)
      simp only [Int.pow_one]
      omega
    · rw [if_neg h0, if_neg h0]
      by_cases h1 : 0 < p
      · rw [if_pos h1]
        have q1 : 1 ≤ p.natAbs := by omega
        have e1 := ipow_le (m := b) (n := 99) (by omega) b1.2 p.natAbs
        have e2 := ipow_le (m := c) (n := 99) (by omega) c1.2 p.natAbs
        have e3 := ipow_pos (m := a) (by omega) p.natAbs
        have e4 := two_pow_le (y := 99) (by decide) p.natAbs q1
        have e5 := ipow_lt (m := 2 * 99) (n := 2 ^ 200) (by decide) (by omega) p.natAbs q1
        omega
      · rw [if_neg h1]
        have q1 : 1 ≤ p.natAbs := by omega
        have e1 : a * b ≤ 99 * 99 := Int.mul_le_mul a1.2 b1.2 (by omega) (by omega)
        have e2 : a * b * c ≤ 99 * 99 * 99 := Int.mul_le_mul e1 c1.2 (by omega) (by omega)
        have e0 : 0 ≤ a * b * c := Int.mul_nonneg (Int.mul_nonneg (by omega) (by omega)) (by omega)
        exact ipow_lt e0 (by omega) p.natAbs q1
end
theorem init_nowhole (v : Int) : F_NoWhole__init__ [.ins 76 [], .int v] = .ok (.non, .ins 76 [("word", .str "nowhole"), ("parts", .tup [.int v]), ("low", .int v)]) := by rfl
theorem init_nowhole0 : F_NoWhole__init__ [.ins 76 [], .non] = .ok (.non, .ins 76 [("word", .str "nowhole"), ("parts", .tup [.non]), ("low", .non)]) := by rfl
theorem init_whole (v : Int) : F_Whole__init__ [.ins 113 [], .int v] = .ok (.non, .ins 113 [("word", .str "whole"), ("parts", .tup [.int v]), ("number", .int v)]) := by rfl
abbrev tb : List Bd := [("a", 1, 99), ("b", 1, 99), ("c", 1, 99), ("power", -80, 80)]
section
variable {v1 v2 v3 v4 : D}
theorem threes_of (h : bad tb [v1, v2, v3, v4] = none) : ∃ a b c p : Int, v1 = .int a ∧ v2 = .int b ∧ v3 = .int c ∧ v4 = .int p ∧ S3 a b c p := by
  obtain ⟨h1, h⟩ := bad_cons_none h
  obtain ⟨h2, h⟩ := bad_cons_none h
  obtain ⟨h3, h⟩ := bad_cons_none h
  obtain ⟨h4, h⟩ := bad_cons_none h
  obtain ⟨a, e1, r1⟩ := wi_int h1
  obtain ⟨b, e2, r2⟩ := wi_int h2
  obtain ⟨c, e3, r3⟩ := wi_int h3
  obtain ⟨p, e4, r4⟩ := wi_int h4
  exact ⟨a, b, c, p, e1, e2, e3, e4, r1, r2, r3, r4⟩
theorem threes_need (s1 : Sv v1 = true) (s2 : Sv v2 = true) (s3 : Sv v3 = true) : F_need_numbers [.lst [.tup [.str "a", v1], .tup [.str "b", v2], .tup [.str "c", v3]], .int 99] = exO (bad [("a", 1, 99), ("b", 1, 99), ("c", 1, 99)] [v1, v2, v3]) :=
  F_need_numbers_ok ["a", "b", "c"] [v1, v2, v3] rfl fun v hv => by
    simp only [List.mem_cons, List.not_mem_nil, or_false] at hv
    rcases hv with rfl | rfl | rfl <;> assumption
theorem fourth_ok (s1 : Sv v1 = true) (s2 : Sv v2 = true) (s3 : Sv v3 = true) (s4 : Sv v4 = true) : Asks (bad tb [v1, v2, v3, v4]) (F_fourth_by [v1, v2, v3, v4]) fun d => (∃ fs, d = .ins 113 fs) ∨ ∃ fs, d = .ins 76 fs := by
  have nn := threes_need s1 s2 s3
  have np := F_need_power_ok s4
  have e := bad_app [("a", 1, 99), ("b", 1, 99), ("c", 1, 99)] [("power", -80, 80)] [v1, v2, v3] [v4] rfl
  have line2 : 2 ≤ sizeLine := line_le (by decide)
  have line3 : 3 ≤ sizeLine := line_le (by decide)
  simp only [List.cons_append, List.nil_append] at e
  cases h1 : bad [("a", 1, 99), ("b", 1, 99), ("c", 1, 99)] [v1, v2, v3] with
  | some n =>
    rw [h1] at nn e
    exact .inr ⟨n, e, by simp [F_fourth_by, m_fourth_by, line2, line3, nn, exO]⟩
  | none =>
    rw [h1] at nn e
    cases h2 : bad [("power", -80, 80)] [v4] with
    | some n =>
      rw [h2] at np e
      exact .inr ⟨n, e, by simp [F_fourth_by, m_fourth_by, line2, line3, nn, np, exO]⟩
    | none =>
      rw [h2] at np e
      obtain ⟨a, b, c, p, rfl, rfl, rfl, rfl, s⟩ := threes_of e
      have q := quo_ok s
      by_cases hc : 0 < To a b c p ∧ 0 < Bo a b c p
      · rw [if_pos hc] at q
        have f := fit3 s hc.1 hc.2
        obtain ⟨lo, e1, L1, lb⟩ := below_ok f
        have sd := side_ok f lb
        by_cases z : side (Tt p) (To a b c p) (Bo a b c p) lo = 0
        · exact .inl ⟨e, _, .inl ⟨_, rfl⟩, by simp [F_fourth_by, m_fourth_by, line2, line3, nn, np, exO, q, e1, sd, z, isD, init_whole]; rfl⟩
        · exact .inl ⟨e, _, .inr ⟨_, rfl⟩, by simp [F_fourth_by, m_fourth_by, line2, line3, nn, np, exO, q, e1, sd, z, isD, init_nowhole]; rfl⟩
      · rw [if_neg hc] at q
        exact .inl ⟨e, _, .inr ⟨_, rfl⟩, by simp [F_fourth_by, m_fourth_by, line2, line3, nn, np, exO, q, init_nowhole0]; rfl⟩
theorem shows3_ok (s1 : Sv v1 = true) (s2 : Sv v2 = true) (s3 : Sv v3 = true) (s4 : Sv v4 = true) : Asks (bad tb [v1, v2, v3, v4]) (F_shows_fourth_by [v1, v2, v3, v4, .non]) fun _ => True := by
  have nn := threes_need s1 s2 s3
  have np := F_need_power_ok s4
  have e := bad_app [("a", 1, 99), ("b", 1, 99), ("c", 1, 99)] [("power", -80, 80)] [v1, v2, v3] [v4] rfl
  have line2 : 2 ≤ sizeLine := line_le (by decide)
  have line3 : 3 ≤ sizeLine := line_le (by decide)
  simp only [List.cons_append, List.nil_append] at e
  cases h1 : bad [("a", 1, 99), ("b", 1, 99), ("c", 1, 99)] [v1, v2, v3] with
  | some n =>
    rw [h1] at nn e
    exact .inr ⟨n, e, by simp [F_shows_fourth_by, m_shows_fourth_by, line2, line3, nn, exO]⟩
  | none =>
    rw [h1] at nn e
    cases h2 : bad [("power", -80, 80)] [v4] with
    | some n =>
      rw [h2] at np e
      exact .inr ⟨n, e, by simp [F_shows_fourth_by, m_shows_fourth_by, line2, line3, nn, np, exO]⟩
    | none =>
      rw [h2] at np e
      obtain ⟨a, b, c, p, rfl, rfl, rfl, rfl, s⟩ := threes_of e
      have q := quo_ok s
      have t1 : typeD [.non] = .ok (.ty "NoneType") := rfl
      have t2 : clsIsD (.ty "NoneType") (.cod 113) = .ok (.bl false) := rfl
      have t3 : clsIsnD (.ty "NoneType") (.cod 76) = .ok (.bl true) := rfl
      exact .inl ⟨e, .bl false, trivial, by simp [F_shows_fourth_by, m_shows_fourth_by, line2, line3, nn, np, exO, q, t1, t2, t3]⟩
end
theorem threes_ok {n : Nat} {d : D} (h : Hat n d) (hn : n ≤ 600000) : ∃ d', F__law_threes_right [d] = .ok (.bl true, d') ∧ Hat (n + 300) d' := by
  obtain ⟨vs, d', hl, hs, hg, e⟩ := spoilt_ok h (by omega) tb (fun b hb => by
    simp only [List.mem_cons, List.not_mem_nil, or_false] at hb
    rcases hb with rfl | rfl | rfl | rfl <;> exact ⟨by decide, by decide, by decide⟩) (by decide) (by decide)
  obtain ⟨v1, v2, v3, v4, rfl⟩ := len4 hl
  have s1 := hs v1 (by simp)
  have s2 := hs v2 (by simp)
  have s3 := hs v3 (by simp)
  have s4 := hs v4 (by simp)
  have A1 := fourth_ok s1 s2 s3 s4
  have A2 := shows3_ok s1 s2 s3 s4
  have nm : Nm (bad tb [v1, v2, v3, v4]) := bad_nm fun b hb => by
    simp only [List.mem_cons, List.not_mem_nil, or_false] at hb
    rcases hb with rfl | rfl | rfl | rfl <;> decide +kernel
  have n1 := ne_due nm
  have n2 := isn_due (bad tb [v1, v2, v3, v4])
  have i1 := imm_due (bad tb [v1, v2, v3, v4])
  refine ⟨d', ?_, hg⟩
  have line : ∀ k, k ≤ 10 → k ≤ sizeLine := fun k hk => line_le (by omega)
  have lins : ∀ k, k < 10 → k < sizeLine := fun k hk => line_lt (by omega)
  have hd1 := fun env : En => A1.hd (env := env)
  have hd2 := fun env : En => A2.hd (env := env)
  simp only [bdD, tb, List.map_cons, List.map_nil] at e
  generalize ho : bad tb [v1, v2, v3, v4] = o at *
  cases o with
  | some nn =>
    simp [F__law_threes_right, m__law_threes_right, lcF_cons, lcF_nil, wipeE, backE, line, lins, e, hd1, hd2, i1, n1, n2]
  | none =>
    rcases A1 with ⟨_, q1, hq, f1⟩ | ⟨_, z, _⟩
    · rcases A2 with ⟨_, q2, _, f2⟩ | ⟨_, z, _⟩
      · rcases hq with ⟨fs, rfl⟩ | ⟨fs, rfl⟩
        · have t1 : isiD subG [.ins 113 fs, .cod 113] = .ok (.bl true) := rfl
          simp [F__law_threes_right, m__law_threes_right, lcF_cons, lcF_nil, wipeE, backE, line, lins, e, hd1, hd2, i1, n1, n2, kg_fourth_by_2, f1, f2, t1, due0, ne_non, isn_non, imm_non]
        · have t1 : isiD subG [.ins 76 fs, .cod 113] = .ok (.bl false) := rfl
          have t2 : isiD subG [.ins 76 fs, .cod 76] = .ok (.bl true) := rfl
          simp [F__law_threes_right, m__law_threes_right, lcF_cons, lcF_nil, wipeE, backE, line, lins, e, hd1, hd2, i1, n1, n2, kg_fourth_by_2, f1, f2, t1, t2, due0, ne_non, isn_non, imm_non]
      · cases z
    · cases z
/-! rows -/
theorem cut_take {α : Type} (L : List α) (k : Nat) : cutL L none (some (k : Int)) = L.take k := by
  unfold cutL
  rw [HT.sIx_nat, HT.sIx_none, List.drop_zero, Nat.sub_zero]
  by_cases h : k ≤ L.length
  · rw [Nat.min_eq_left h]
  · rw [Nat.min_eq_right (by omega), List.take_of_length_le (Nat.le_refl _), List.take_of_length_le (by omega)]
abbrev rb : List Bd := [("first", 1, 99), ("second", 1, 99), ("many", 2, 12), ("power", -80, 80)]
section
variable {v1 v2 v3 v4 : D}
theorem rows_of (h : bad rb [v1, v2, v3, v4] = none) : ∃ a b m p : Int, v1 = .int a ∧ v2 = .int b ∧ v3 = .int m ∧ v4 = .int p ∧ (1 ≤ a ∧ a ≤ 99) ∧ (1 ≤ b ∧ b ≤ 99) ∧ (2 ≤ m ∧ m ≤ 12) ∧ (-80 ≤ p ∧ p ≤ 80) := by
  obtain ⟨h1, h⟩ := bad_cons_none h
  obtain ⟨h2, h⟩ := bad_cons_none h
  obtain ⟨h3, h⟩ := bad_cons_none h
  obtain ⟨h4, h⟩ := bad_cons_none h
  obtain ⟨a, e1, r1⟩ := wi_int h1
  obtain ⟨b, e2, r2⟩ := wi_int h2
  obtain ⟨c, e3, r3⟩ := wi_int h3
  obtain ⟨p, e4, r4⟩ := wi_int h4
  exact ⟨a, b, c, p, e1, e2, e3, e4, r1, r2, r3, r4⟩
theorem rows_need (s1 : Sv v1 = true) (s2 : Sv v2 = true) : F_need_numbers [.lst [.tup [.str "first", v1], .tup [.str "second", v2]], .int 99] = exO (bad [("first", 1, 99), ("second", 1, 99)] [v1, v2]) :=
  F_need_numbers_ok ["first", "second"] [v1, v2] rfl fun v hv => by
    simp only [List.mem_cons, List.not_mem_nil, or_false] at hv
    rcases hv with rfl | rfl <;> assumption
theorem numbers_ok (s1 : Sv v1 = true) (s2 : Sv v2 = true) (s3 : Sv v3 = true) (s4 : Sv v4 = true) : Asks (bad rb [v1, v2, v3, v4]) (F_numbers_by [v1, v2, v3, v4]) fun d => ∃ (f s : Int) (many : Nat) (tl : List Int), v1 = .int f ∧ v2 = .int s ∧ v3 = .int many ∧ tl.length + 2 ≤ many ∧ many ≤ 12 ∧ d = .tup (.int f :: .int s :: tl.map D.int) := by
  have nn := rows_need s1 s2
  have nw := need_ok (x := .str "many") (l := 2) (m := 12) s3
  have np := F_need_power_ok s4
  have e := bad_app [("first", 1, 99), ("second", 1, 99)] [("many", 2, 12), ("power", -80, 80)] [v1, v2] [v3, v4] rfl
  have line2 : 2 ≤ sizeLine := line_le (by decide)
  simp only [List.cons_append, List.nil_append] at e
  cases h1 : bad [("first", 1, 99), ("second", 1, 99)] [v1, v2] with
  | some n =>
    rw [h1] at nn e
    exact .inr ⟨n, e, by simp [F_numbers_by, m_numbers_by, line2, nn, exO]⟩
  | none =>
    rw [h1] at nn e
    rw [Option.none_or] at e
    unfold bad at e
    dsimp only at e
    cases h3 : wi 2 12 v3 with
    | false =>
      rw [h3] at nw e
      exact .inr ⟨"many", e, by simp [F_numbers_by, m_numbers_by, line2, nn, exO, nw]⟩
    | true =>
      rw [h3] at nw e
      rw [if_pos rfl] at e nw
      cases h2 : bad [("power", -80, 80)] [v4] with
      | some n =>
        rw [h2] at np e
        exact .inr ⟨n, e, by simp [F_numbers_by, m_numbers_by, line2, nn, nw, np, exO]⟩
      | none =>
        rw [h2] at np e
        obtain ⟨f, s, m, p, rfl, rfl, rfl, rfl, hf, hs, hm, hp⟩ := rows_of e
        obtain ⟨many, rfl⟩ : ∃ q : Nat, m = q := ⟨m.toNat, by omega⟩
        obtain ⟨tl, o2, l1, w⟩ := gone_lp (p := p) (f' := some (.int f)) (s' := some (.int s)) (many - 2) 1 f s [] none 1000 (iv_start hf hs hp) (by omega) (by omega) (by simp; omega)
        have em : (([] : List Int).length + 2 + (many - 2) : Nat) = many := by simp; omega
        rw [em] at w
        simp at w
        refine .inl ⟨e, _, ⟨f, s, many, tl, rfl, rfl, rfl, by omega, by omega, rfl⟩, ?_⟩
        simp [F_numbers_by, m_numbers_by, nn, nw, np, exO, line2]
        rw [w]
        simp
end
theorem rows_ok {n : Nat} {d : D} (h : Hat n d) (hn : n ≤ 600000) : ∃ d', F__law_rows_right [d] = .ok (.bl true, d') ∧ Hat (n + 300) d' := by
  obtain ⟨vs, d', hl, hs, hg, e⟩ := spoilt_ok h (by omega) rb (fun b hb => by
    simp only [List.mem_cons, List.not_mem_nil, or_false] at hb
    rcases hb with rfl | rfl | rfl | rfl <;> exact ⟨by decide, by decide, by decide⟩) (by decide) (by decide)
  obtain ⟨v1, v2, v3, v4, rfl⟩ := len4 hl
  have s1 := hs v1 (by simp)
  have s2 := hs v2 (by simp)
  have s3 := hs v3 (by simp)
  have s4 := hs v4 (by simp)
  have A1 := numbers_ok s1 s2 s3 s4
  have nm : Nm (bad rb [v1, v2, v3, v4]) := bad_nm fun b hb => by
    simp only [List.mem_cons, List.not_mem_nil, or_false] at hb
    rcases hb with rfl | rfl | rfl | rfl <;> decide +kernel
  have n1 := ne_due nm
  have n2 := isn_due (bad rb [v1, v2, v3, v4])
  have i1 := imm_due (bad rb [v1, v2, v3, v4])
  refine ⟨d', ?_, hg⟩
  have line : ∀ k, k ≤ 10 → k ≤ sizeLine := fun k hk => line_le (by omega)
  have lins : ∀ k, k < 10 → k < sizeLine := fun k hk => line_lt (by omega)
  have hd1 := fun env : En => A1.hd (env := env)
  simp only [bdD, rb, List.map_cons, List.map_nil] at e
  generalize ho : bad rb [v1, v2, v3, v4] = o at *
  cases o with
  | some nn =>
    simp [F__law_rows_right, m__law_rows_right, line, lins, e, hd1, i1, n1, n2]
  | none =>
    rcases A1 with ⟨_, q1, ⟨f, s, many, tl, rfl, rfl, rfl, l1, l2, rfl⟩, f1⟩ | ⟨_, z, _⟩
    · have t1 : isiD subG [.tup (.int f :: .int s :: tl.map D.int), .ty "tuple"] = .ok (.bl true) := rfl
      have t2 : eqD (.tup [.int f, .int s]) (.tup [.int f, .int s]) = .ok (.bl true) := by
        have := shpD_tup (ns := [f, s])
        simp only [List.map_cons, List.map_nil] at this
        unfold eqD eqDp
        simp only [this]
        show R.ok (D.bl ((f == f) && ((s == s) && true))) = _
        simp
      have t3 : cutL (D.int f :: D.int s :: tl.map D.int) none (some 2) = [.int f, .int s] := by
        show cutL _ none (some ((2 : Nat) : Int)) = _
        rw [cut_take]
        rfl
      have t4 : (2 : Int) ≤ ((tl.length : Int) + 1 + 1) := by omega
      have t5 : ((tl.length : Int) + 1 + 1) ≤ (many : Int) := by omega
      simp [F__law_rows_right, m__law_rows_right, line, lins, e, hd1, i1, n1, n2, kg_numbers_by_3, f1, t1, t2, t3, t4, t5, due0, ne_non, isn_non, imm_non]
    · cases z
end Q

namespace Q
open PySem PySem.Spec PyProof.Rows L2 Dl
open K9 (sum0 wsum)
/-! the power of four growing numbers -/
structure Fo (a b c d : Int) : Prop where
  a0 : 1 ≤ a
  ab : a + 1 ≤ b
  bc : b ≤ c
  cd : c + 1 ≤ d
  d9 : d ≤ 99
def Fw (w a b c d : Int) (j : Nat) : Int := wsum a b c d (w * j)
structure First (F : Nat → Int) (m : Nat) : Prop where
  m1 : 1 ≤ m
  m2 : m ≤ 69
  ge : 0 ≤ F m
  lt : ∀ j, 1 ≤ j → j < m → F j < 0
theorem first_ex (F : Nat → Int) : ∀ k j : Nat, 1 ≤ j → j + k = 69 → 0 ≤ F 69 → (∀ i, 1 ≤ i → i < j → F i < 0) → ∃ m, First F m
  | 0, j, h1, h2, h3, h4 => ⟨69, by decide, Nat.le_refl _, h3, fun i a b => h4 i a (by omega)⟩
  | k + 1, j, h1, h2, h3, h4 => by
    by_cases h : 0 ≤ F j
    · exact ⟨j, h1, by omega, h, h4⟩
    · refine first_ex F k (j + 1) (by omega) (by omega) h3 fun i a b => ?_
      by_cases e : i = j
      · rw [e]; omega
      · exact h4 i a (by omega)
section
variable {a b c d w : Int} {m : Nat}
theorem Fo.first (h : Fo a b c d) (hw : w = 1 ∨ w = -1) : ∃ m, First (Fw w a b c d) m := by
  have g : K9.Gr a b c d := ⟨by have := h.a0; omega, by have := h.ab; omega, h.bc, by have := h.cd; omega⟩
  refine first_ex _ 68 1 (Nat.le_refl _) rfl ?_ fun i a b => by omega
  unfold Fw
  rcases hw with e | e
  · subst e
    rw [Int.one_mul, K9.wsum_up]
    exact Int.le_of_lt (K9.far_up g h.d9)
  · subst e
    rw [show (-1 : Int) * ((69 : Nat) : Int) = -((69 : Nat) : Int) by decide, K9.wsum_down _ _ _ _ _ (by decide)]
    exact Int.le_of_lt (K9.far_down g h.d9)
theorem pow_lp (h : Fo a b c d) (hw : w = 1 ∨ w = -1) (f : First (Fw w a b c d) m) : ∀ (k j : Nat), j + k = m → 1 ≤ j → ∀ n, k < n →
    whS (tB1 (e2 ltP (eV 6) (eC (.int (0))))) (seqS (asgS 5 (e2 addP (eV 5) (eV 4))) (asgS 6 (callF 5 F_whole_sum (aCons (eV 0) (aCons (eV 1) (aCons (eV 2) (aCons (eV 3) (aCons (eV 5) aNil)))))))) n
      [some (.int a), some (.int b), some (.int c), some (.int d), some (.int w), some (.int (w * j)), some (.int (Fw w a b c d j))] =
      .nx [some (.int a), some (.int b), some (.int c), some (.int d), some (.int w), some (.int (w * m)), some (.int (Fw w a b c d m))] := by
  have h0 := h.a0
  have h1 := h.ab
  have h2 := h.bc
  have h3 := h.cd
  have h4 := h.d9
  have f2 := f.m2
  intro k
  induction k with
  | zero =>
    intro j hj hj1 n hn
    obtain ⟨n, rfl⟩ : ∃ k, n = k + 1 := ⟨n - 1, by omega⟩
    have : j = m := by omega
    subst this
    have : ¬ Fw w a b c d j < 0 := by have := f.ge; omega
    rw [whS_succ]
    simp [this]
  | succ k ih =>
    intro j hj hj1 n hn
    obtain ⟨n, rfl⟩ : ∃ k, n = k + 1 := ⟨n - 1, by omega⟩
    have lt := f.lt j hj1 (by omega)
    have e := ih (j + 1) (by omega) (by omega) n (by omega)
    have ew : w * ((j + 1 : Nat) : Int) = w * j + w := by rw [Int.natCast_add, Int.mul_add]; simp
    have ws := whole_ok (a := a) (b := b) (c := c) (d := d) (p := w * j + w) (by omega) (by omega) (by omega) (by omega) (by rcases hw with e | e <;> subst e <;> omega)
    rw [whS_succ]
    simp [lt, ws]
    unfold Fw at e ⊢
    rw [ew] at e
    exact e
end
def byP (v : Int) : D := .ins 24 [("word", .str "bypower"), ("parts", .tup [.int v]), ("power", .int v)]
def betw (v : Int) : D := .ins 21 [("word", .str "between"), ("parts", .tup [.int v]), ("low", .int v)]
theorem init_bypower (v : Int) : F_ByPower__init__ [.ins 24 [], .int v] = .ok (.non, byP v) := by rfl
theorem init_between (v : Int) : F_Between__init__ [.ins 21 [], .int v] = .ok (.non, betw v) := by rfl
/-- what need_growing makes of four values -/
def gro (v1 v2 v3 v4 : D) : Option Str → Prop
  | none => ∃ a b c d : Int, v1 = .int a ∧ v2 = .int b ∧ v3 = .int c ∧ v4 = .int d ∧ Fo a b c d
  | some n => (n = "a" ∧ wi 1 99 v1 = false) ∨ (n = "b" ∧ ∃ a : Int, v1 = .int a ∧ wi 1 99 v1 = true ∧ wi (a + 1) 99 v2 = false) ∨
      (n = "c" ∧ ∃ a b : Int, v1 = .int a ∧ v2 = .int b ∧ wi 1 99 v1 = true ∧ wi (a + 1) 99 v2 = true ∧ wi b 99 v3 = false) ∨
      (n = "d" ∧ ∃ a b c : Int, v1 = .int a ∧ v2 = .int b ∧ v3 = .int c ∧ wi 1 99 v1 = true ∧ wi (a + 1) 99 v2 = true ∧ wi b 99 v3 = true ∧ wi (c + 1) 99 v4 = false)
theorem gro_ex (v1 v2 v3 v4 : D) : ∃ o, gro v1 v2 v3 v4 o := by
  cases h1 : wi 1 99 v1 with
  | false => exact ⟨some "a", .inl ⟨rfl, h1⟩⟩
  | true =>
    obtain ⟨a, rfl, ra⟩ := wi_int h1
    cases h2 : wi (a + 1) 99 v2 with
    | false => exact ⟨some "b", .inr (.inl ⟨rfl, a, rfl, h1, h2⟩)⟩
    | true =>
      obtain ⟨b, rfl, rb⟩ := wi_int h2
      cases h3 : wi b 99 v3 with
      | false => exact ⟨some "c", .inr (.inr (.inl ⟨rfl, a, b, rfl, rfl, h1, h2, h3⟩))⟩
      | true =>
        obtain ⟨c, rfl, rc⟩ := wi_int h3
        cases h4 : wi (c + 1) 99 v4 with
        | false => exact ⟨some "d", .inr (.inr (.inr ⟨rfl, a, b, c, rfl, rfl, rfl, h1, h2, h3, h4⟩))⟩
        | true =>
          obtain ⟨d, rfl, rd⟩ := wi_int h4
          exact ⟨none, a, b, c, d, rfl, rfl, rfl, rfl, ra.1, rb.1, rc.1, rd.1, rd.2⟩
section
variable {v1 v2 v3 v4 : D} {o : Option Str}
theorem wi_of {l m v : Int} (h : l ≤ v ∧ v ≤ m) : wi l m (.int v) = true := by simp [wi, h.1, h.2]
theorem growing_need (s1 : Sv v1 = true) (s2 : Sv v2 = true) (s3 : Sv v3 = true) (s4 : Sv v4 = true) (h : gro v1 v2 v3 v4 o) : F_need_growing [v1, v2, v3, v4] = exO o := by
  have n1 := fun x l m => need_ok (x := x) (l := l) (m := m) s1
  have n2 := fun x l m => need_ok (x := x) (l := l) (m := m) s2
  have n3 := fun x l m => need_ok (x := x) (l := l) (m := m) s3
  have n4 := fun x l m => need_ok (x := x) (l := l) (m := m) s4
  cases o with
  | none =>
    obtain ⟨a, b, c, d, rfl, rfl, rfl, rfl, f⟩ := h
    have h0 := f.a0
    have h1 := f.ab
    have h2 := f.bc
    have h3 := f.cd
    have h4 := f.d9
    have w1 := wi_of (l := 1) (m := 99) (v := a) (by omega)
    have w2 := wi_of (l := a + 1) (m := 99) (v := b) (by omega)
    have w3 := wi_of (l := b) (m := 99) (v := c) (by omega)
    have w4 := wi_of (l := c + 1) (m := 99) (v := d) (by omega)
    simp [F_need_growing, m_need_growing, n1, n2, n3, n4, w1, w2, w3, w4, exO]
  | some n =>
    rcases h with ⟨rfl, h1⟩ | ⟨rfl, a, rfl, h1, h2⟩ | ⟨rfl, a, b, rfl, rfl, h1, h2, h3⟩ | ⟨rfl, a, b, c, rfl, rfl, rfl, h1, h2, h3, h4⟩
    · simp [F_need_growing, m_need_growing, n1, h1, exO]
    · simp [F_need_growing, m_need_growing, n1, n2, h1, h2, exO]
    · simp [F_need_growing, m_need_growing, n1, n2, n3, h1, h2, h3, exO]
    · simp [F_need_growing, m_need_growing, n1, n2, n3, n4, h1, h2, h3, h4, exO]
theorem power_ok {a b c d : Int} (h : Fo a b c d) : ∃ q : D, ((∃ p : Int, (-80 ≤ p ∧ p ≤ 80) ∧ q = byP p) ∨ (∃ v, q = betw v)) ∧ F_power_of [.int a, .int b, .int c, .int d] = .ok q := by
  have h0 := h.a0
  have h1 := h.ab
  have h2 := h.bc
  have h3 := h.cd
  have h4 := h.d9
  have m1 : mulP (.int a) (.int d) = .ok (.int (a * d)) := mulP_int (.inl (natAbs_up (bits7 (v := a) (by omega) (by omega)) (by decide)))
  have m2 : mulP (.int b) (.int c) = .ok (.int (b * c)) := mulP_int (.inl (natAbs_up (bits7 (v := b) (by omega) (by omega)) (by decide)))
  have ng : F_need_growing [.int a, .int b, .int c, .int d] = .ok .non := growing_need (o := none) rfl rfl rfl rfl ⟨a, b, c, d, rfl, rfl, rfl, rfl, h⟩
  by_cases hp : a * d = b * c
  · exact ⟨byP 0, .inl ⟨0, by omega, rfl⟩, by simp [F_power_of, m_power_of, ng, m1, m2, hp, init_bypower]⟩
  · obtain ⟨w, hw, hw2⟩ : ∃ w : Int, (w = 1 ∨ w = -1) ∧ (if a * d < b * c then (1 : Int) else -1) = w := by
      by_cases z : a * d < b * c
      · exact ⟨1, .inl rfl, if_pos z⟩
      · exact ⟨-1, .inr rfl, if_neg z⟩
    obtain ⟨m, f⟩ := h.first hw
    have fm1 := f.m1
    have fm2 := f.m2
    have e2 := pow_lp h hw f (m - 1) 1 (by omega) (Nat.le_refl _) 1000 (by omega)
    have ws := whole_ok (a := a) (b := b) (c := c) (d := d) (p := w) (by omega) (by omega) (by omega) (by omega) (by omega)
    have fw1 : Fw w a b c d 1 = wsum a b c d w := by unfold Fw; rw [show w * ((1 : Nat) : Int) = w by simp]
    rw [fw1] at e2
    simp only [Int.natCast_one, Int.mul_one] at e2
    have hwm : -80 ≤ w * m ∧ w * m ≤ 80 := by rcases hw with e | e <;> subst e <;> omega
    by_cases z : a * d < b * c
    · rw [if_pos z] at hw2
      subst hw2
      by_cases hz : Fw 1 a b c d m = 0
      · refine ⟨byP (1 * m), .inl ⟨_, hwm, rfl⟩, ?_⟩
        simp [F_power_of, m_power_of, ng, m1, m2, hp, z, ws]
        simp at e2
        rw [e2]
        simp [hz, init_bypower]
      · refine ⟨betw (1 * m - 1), .inr ⟨_, rfl⟩, ?_⟩
        simp [F_power_of, m_power_of, ng, m1, m2, hp, z, ws]
        simp at e2
        rw [e2]
        simp [hz, init_between]
    · rw [if_neg z] at hw2
      subst hw2
      by_cases hz : Fw (-1) a b c d m = 0
      · refine ⟨byP (-1 * m), .inl ⟨_, hwm, rfl⟩, ?_⟩
        simp [F_power_of, m_power_of, ng, m1, m2, hp, z, ws]
        simp at e2
        rw [e2]
        simp [hz, init_bypower]
      · refine ⟨betw (-1 * m), .inr ⟨_, rfl⟩, ?_⟩
        simp [F_power_of, m_power_of, ng, m1, m2, hp, z, ws]
        simp at e2
        rw [e2]
        simp [hz, init_between]
theorem powerA (s1 : Sv v1 = true) (s2 : Sv v2 = true) (s3 : Sv v3 = true) (s4 : Sv v4 = true) (h : gro v1 v2 v3 v4 o) : Asks o (F_power_of [v1, v2, v3, v4]) fun q => (∃ p : Int, q = byP p) ∨ (∃ v, q = betw v) := by
  have g := growing_need s1 s2 s3 s4 h
  cases o with
  | none =>
    obtain ⟨a, b, c, d, rfl, rfl, rfl, rfl, f⟩ := h
    obtain ⟨q, hq, e⟩ := power_ok f
    exact .inl ⟨rfl, q, hq.imp (fun ⟨p, _, e⟩ => ⟨p, e⟩) id, e⟩
  | some n => exact .inr ⟨n, rfl, by simp [F_power_of, m_power_of, g, exO]⟩
theorem showsA (s1 : Sv v1 = true) (s2 : Sv v2 = true) (s3 : Sv v3 = true) (s4 : Sv v4 = true) (h : gro v1 v2 v3 v4 o) : Asks o (F_shows_power [v1, v2, v3, v4, .str "none"]) fun _ => True := by
  have g := growing_need s1 s2 s3 s4 h
  cases o with
  | none =>
    have t1 : typeD [.str "none"] = .ok (.ty "str") := rfl
    have t2 : clsIsD (.ty "str") (.cod 24) = .ok (.bl false) := rfl
    have t3 : clsIsnD (.ty "str") (.cod 21) = .ok (.bl true) := rfl
    exact .inl ⟨rfl, .bl false, trivial, by simp [F_shows_power, m_shows_power, g, exO, t1, t2, t3]⟩
  | some n => exact .inr ⟨n, rfl, by simp [F_shows_power, m_shows_power, g, exO]⟩
theorem due_growing (s1 : Sv v1 = true) (s2 : Sv v2 = true) (s3 : Sv v3 = true) (s4 : Sv v4 = true) (h : gro v1 v2 v3 v4 o) : F__law_growing_due [.lst [v1, v2, v3, v4]] = .ok (dueD o) := by
  have n1 := fun l m => lwithin_ok (l := l) (m := m) s1
  have n2 := fun l m => lwithin_ok (l := l) (m := m) s2
  have n3 := fun l m => lwithin_ok (l := l) (m := m) s3
  have n4 := fun l m => lwithin_ok (l := l) (m := m) s4
  have line4 : 4 ≤ sizeLine := line_le (by decide)
  have line2 : 2 ≤ sizeLine := line_le (by decide)
  have en : enumL [.str "a", .str "b", .str "c", .str "d"] = [.tup [.int 0, .str "a"], .tup [.int 1, .str "b"], .tup [.int 2, .str "c"], .tup [.int 3, .str "d"]] := rfl
  have a3 : ∀ {a b c d : D}, atI [a, b, c, d] 3 = some d := atI_nat (k := 3) rfl
  cases o with
  | none =>
    obtain ⟨a, b, c, d, rfl, rfl, rfl, rfl, f⟩ := h
    have h0 := f.a0
    have h1 := f.ab
    have h2 := f.bc
    have h3 := f.cd
    have h4 := f.d9
    have w1 := wi_of (l := 1) (m := 99) (v := a) (by omega)
    have w2 := wi_of (l := a + 1) (m := 99) (v := b) (by omega)
    have w3 := wi_of (l := b) (m := 99) (v := c) (by omega)
    have w4 := wi_of (l := c + 1) (m := 99) (v := d) (by omega)
    simp [F__law_growing_due, m__law_growing_due, line4, line2, en, forS_cons, forS_nil, n1, n2, n3, n4, w1, w2, w3, w4, a3, due0]
  | some n =>
    rcases h with ⟨rfl, h1⟩ | ⟨rfl, a, rfl, h1, h2⟩ | ⟨rfl, a, b, rfl, rfl, h1, h2, h3⟩ | ⟨rfl, a, b, c, rfl, rfl, rfl, h1, h2, h3, h4⟩
    · simp [F__law_growing_due, m__law_growing_due, line4, line2, en, forS_cons, forS_nil, n1, h1, dueD]
    · simp [F__law_growing_due, m__law_growing_due, line4, line2, en, forS_cons, forS_nil, n1, n2, h1, h2, dueD]
    · simp [F__law_growing_due, m__law_growing_due, line4, line2, en, forS_cons, forS_nil, n1, n2, n3, h1, h2, h3, dueD]
    · simp [F__law_growing_due, m__law_growing_due, line4, line2, en, forS_cons, forS_nil, n1, n2, n3, n4, h1, h2, h3, h4, a3, dueD]
theorem gro_nm (h : gro v1 v2 v3 v4 o) : Nm o := fun n e => by
  subst e
  rcases h with ⟨rfl, _⟩ | ⟨rfl, _⟩ | ⟨rfl, _⟩ | ⟨rfl, _⟩ <;> decide +kernel
end
theorem growing_ok {n : Nat} {d : D} (h : Hat n d) (hn : n ≤ 900000) : ∃ (v1 v2 v3 v4 : Int) (d' : D), F__law_growing [d] = .ok (.lst [.int v1, .int v2, .int v3, .int v4], d') ∧ Hat (n + 4) d' := by
  obtain ⟨k1, d1, e1, a1, b1, g1⟩ := lot_ok (m := 96) h (by omega) (by decide) (by decide)
  obtain ⟨k2, d2, e2, a2, b2, g2⟩ := lot_ok (m := 98 - (1 + k1)) g1 (by omega) (by omega) (by omega)
  obtain ⟨k3, d3, e3, a3, b3, g3⟩ := lot_ok (m := 99 - (1 + k1 + 1 + k2)) g2 (by omega) (by omega) (by omega)
  obtain ⟨k4, d4, e4, a4, b4, g4⟩ := lot_ok (m := 99 - (1 + k1 + 1 + k2 + k3)) g3 (by omega) (by omega) (by omega)
  have line4 : 4 ≤ sizeLine := line_le (by decide)
  exact ⟨1 + k1, 1 + k1 + 1 + k2, 1 + k1 + 1 + k2 + k3, 1 + k1 + 1 + k2 + k3 + 1 + k4, d4, by simp [F__law_growing, m__law_growing, e1, e2, e3, e4, line4], g4⟩
theorem turn_lp {o4 o5 o6 o7 o8 o9 : Option D} : ∀ (ts : List D) (n : Nat) (d v1 v2 v3 v4 : D) (o2 o3 : Option D), Hat n d → n + 4 * ts.length ≤ 800000 → Sv v1 = true → Sv v2 = true → Sv v3 = true → Sv v4 = true →
    ∃ (d' u1 u2 u3 u4 : D) (p2 p3 : Option D), Hat (n + 4 * ts.length) d' ∧ (Sv u1 = true ∧ Sv u2 = true ∧ Sv u3 = true ∧ Sv u4 = true) ∧
      forS (bName 2) (seqS (asgS 3 (callM 0 2 F__law_lot (aCons (eC (.int (4))) aNil))) (setS 1 (callM 0 2 F__law_one (aCons (eN lstD (aCons (callM 0 3 F__law_bad (aCons (eC (.int (1))) (aCons (eC (.int (99))) aNil))) (aCons (ixO 1 (e2 (Dl.intD subI) (eV 3) (eC (.int (1))))) (aCons (ixO 1 (e2 (Dl.intD modI) (eN intC (aCons (e2 addP (eV 3) (eC (.int (1)))) aNil)) (eC (.int (4))))) (aCons (eC (.int (1))) (aCons (eC (.int (99))) aNil)))))) aNil)) (eV 3))) ts
        [some d, some (.lst [v1, v2, v3, v4]), o2, o3, o4, o5, o6, o7, o8, o9] = .nx [some d', some (.lst [u1, u2, u3, u4]), p2, p3, o4, o5, o6, o7, o8, o9] := by
  intro ts
  induction ts with
  | nil =>
    intro n d v1 v2 v3 v4 o2 o3 h hn s1 s2 s3 s4
    exact ⟨d, v1, v2, v3, v4, o2, o3, h, ⟨s1, s2, s3, s4⟩, rfl⟩
  | cons t ts ih =>
    intro n d v1 v2 v3 v4 o2 o3 h hn s1 s2 s3 s4
    simp only [List.length_cons] at hn
    obtain ⟨k, d1, e1, a1, b1, g1⟩ := lot_ok (m := 4) h (by omega) (by decide) (by decide)
    obtain ⟨x, d2, e2, hx, g2⟩ := bad_ok (l := 1) (m := 99) g1 (by omega) (by omega)
    have line5 : 5 ≤ sizeLine := line_le (by decide)
    have a3 : ∀ {a b c d : D}, atI [a, b, c, d] 3 = some d := atI_nat (k := 3) rfl
    have am : ∀ {a b c d : D}, atI [a, b, c, d] (-1) = some d := by
      intro a b c d
      rw [atI_neg (i := -1) (k := 0) rfl (by simp)]
      rfl
    have sx := bad_sv hx
    have hk : k = 0 ∨ k = 1 ∨ k = 2 ∨ k = 3 := by omega
    rcases hk with rfl | rfl | rfl | rfl
    · obtain ⟨y, d3, e3, hy, g3⟩ := one_ok (xs := [x, v4, v2, .int 1, .int 99]) g2 (by omega) (by simp) (by simp)
      have sy : Sv y = true := by
        simp only [List.mem_cons, List.not_mem_nil, or_false] at hy
        rcases hy with rfl | rfl | rfl | rfl | rfl <;> first | assumption | rfl
      have es : setIx [v1, v2, v3, v4] 0 y = .ok (.lst [y, v2, v3, v4]) := setIx_nat (k := 0) rfl (by simp)
      obtain ⟨d', u1, u2, u3, u4, p2, p3, g4, hs, e4⟩ := ih (n + 3) d3 y v2 v3 v4 (some t) (some (.int 0)) g3 (by omega) sy s2 s3 s4
      refine ⟨d', u1, u2, u3, u4, p2, p3, g4.up (by simp only [List.length_cons]; omega), hs, ?_⟩
      rw [forS_cons]
      simp [e1, e2, e3, es, line5, am]
      simpa using e4
    · obtain ⟨y, d3, e3, hy, g3⟩ := one_ok (xs := [x, v1, v3, .int 1, .int 99]) g2 (by omega) (by simp) (by simp)
      have sy : Sv y = true := by
        simp only [List.mem_cons, List.not_mem_nil, or_false] at hy
        rcases hy with rfl | rfl | rfl | rfl | rfl <;> first | assumption | rfl
      have es : setIx [v1, v2, v3, v4] 1 y = .ok (.lst [v1, y, v3, v4]) := setIx_nat (k := 1) rfl (by simp)
      obtain ⟨d', u1, u2, u3, u4, p2, p3, g4, hs, e4⟩ := ih (n + 3) d3 v1 y v3 v4 (some t) (some (.int 1)) g3 (by omega) s1 sy s3 s4
      refine ⟨d', u1, u2, u3, u4, p2, p3, g4.up (by simp only [List.length_cons]; omega), hs, ?_⟩
      rw [forS_cons]
      simp [e1, e2, e3, es, line5]
      simpa using e4
    · obtain ⟨y, d3, e3, hy, g3⟩ := one_ok (xs := [x, v2, v4, .int 1, .int 99]) g2 (by omega) (by simp) (by simp)
      have sy : Sv y = true := by
        simp only [List.mem_cons, List.not_mem_nil, or_false] at hy
        rcases hy with rfl | rfl | rfl | rfl | rfl <;> first | assumption | rfl
      have es : setIx [v1, v2, v3, v4] 2 y = .ok (.lst [v1, v2, y, v4]) := setIx_nat (k := 2) rfl (by simp)
      obtain ⟨d', u1, u2, u3, u4, p2, p3, g4, hs, e4⟩ := ih (n + 3) d3 v1 v2 y v4 (some t) (some (.int 2)) g3 (by omega) s1 s2 sy s4
      refine ⟨d', u1, u2, u3, u4, p2, p3, g4.up (by simp only [List.length_cons]; omega), hs, ?_⟩
      rw [forS_cons]
      simp [e1, e2, e3, es, line5, a3]
      simpa using e4
    · obtain ⟨y, d3, e3, hy, g3⟩ := one_ok (xs := [x, v3, v1, .int 1, .int 99]) g2 (by omega) (by simp) (by simp)
      have sy : Sv y = true := by
        simp only [List.mem_cons, List.not_mem_nil, or_false] at hy
        rcases hy with rfl | rfl | rfl | rfl | rfl <;> first | assumption | rfl
      have es : setIx [v1, v2, v3, v4] 3 y = .ok (.lst [v1, v2, v3, y]) := setIx_nat (k := 3) rfl (by simp)
      obtain ⟨d', u1, u2, u3, u4, p2, p3, g4, hs, e4⟩ := ih (n + 3) d3 v1 v2 v3 y (some t) (some (.int 3)) g3 (by omega) s1 s2 s3 sy
      refine ⟨d', u1, u2, u3, u4, p2, p3, g4.up (by simp only [List.length_cons]; omega), hs, ?_⟩
      rw [forS_cons]
      simp [e1, e2, e3, es, line5]
      simpa using e4
theorem powers_ok {n : Nat} {d : D} (h : Hat n d) (hn : n ≤ 600000) : ∃ d', F__law_powers_right [d] = .ok (.bl true, d') ∧ Hat (n + 300) d' := by
  obtain ⟨w1, w2, w3, w4, d1, e1, g1⟩ := growing_ok h (by omega)
  obtain ⟨k, d2, e2, a2, b2, g2⟩ := lot_ok (m := 3) g1 (by omega) (by decide) (by decide)
  obtain ⟨q, rfl⟩ : ∃ q : Nat, k = q := ⟨k.toNat, by omega⟩
  have hr : rng1D [.int (q : Int)] = .ok (rng 0 q) := rng1_ok (by omega)
  obtain ⟨d3, v1, v2, v3, v4, p2, p3, g3, ⟨s1, s2, s3, s4⟩, e3⟩ := turn_lp (o4 := none) (o5 := none) (o6 := none) (o7 := none) (o8 := none) (o9 := none) (rng 0 q) (n + 4 + 1) d2 (.int w1) (.int w2) (.int w3) (.int w4) none none g2 (by rw [rng_len]; omega) rfl rfl rfl rfl
  rw [rng_len] at g3
  obtain ⟨o, ho⟩ := gro_ex v1 v2 v3 v4
  have A1 := powerA s1 s2 s3 s4 ho
  have A2 := showsA s1 s2 s3 s4 ho
  have gd := due_growing s1 s2 s3 s4 ho
  have nm := gro_nm ho
  have n1 := ne_due nm
  have n2 := isn_due o
  have i1 := imm_due o
  have hd1 := fun env : En => A1.hd (env := env)
  have hd2 := fun env : En => A2.hd (env := env)
  refine ⟨d3, ?_, g3.up (by omega)⟩
  cases o with
  | some nn =>
    simp [F__law_powers_right, m__law_powers_right, e1, e2, hr, e3, gd, hd1, hd2, i1, n1, n2, -rng1D_ap]
  | none =>
    rcases A1 with ⟨_, q1, hq, f1⟩ | ⟨_, z, _⟩
    · rcases A2 with ⟨_, q2, _, f2⟩ | ⟨_, z, _⟩
      · rcases hq with ⟨p, rfl⟩ | ⟨p, rfl⟩
        · have t1 : isiD subG [byP p, .cod 24] = .ok (.bl true) := rfl
          simp [F__law_powers_right, m__law_powers_right, e1, e2, hr, e3, gd, hd1, hd2, i1, n1, n2, kg_power_of_4, f1, f2, t1, due0, ne_non, isn_non, imm_non, -rng1D_ap]
        · have t1 : isiD subG [betw p, .cod 24] = .ok (.bl false) := rfl
          have t2 : isiD subG [betw p, .cod 21] = .ok (.bl true) := rfl
          simp [F__law_powers_right, m__law_powers_right, e1, e2, hr, e3, gd, hd1, hd2, i1, n1, n2, kg_power_of_4, f1, f2, t1, t2, due0, ne_non, isn_non, imm_non, -rng1D_ap]
      · cases z
    · cases z
end Q

namespace Q
open PySem PySem.Spec PyProof.Rows L2 Dl
open K9 (sum0 wsum)
/-! rows of numbers -/
def Sq (d : D) (xs : List D) : Prop := d = .lst xs ∨ d = .tup xs
def asc : Int → List D → Bool
  | _, [] => true
  | lo, .int v :: vs => decide (lo ≤ v) && decide (v ≤ 99) && asc (v + 1) vs
  | _, _ => false
def rowB (xs : List D) : Bool := decide (3 ≤ xs.length) && decide (xs.length ≤ 12) && asc 1 xs
def noO (b : Bool) : Option Str := if b then none else some "numbers"
theorem asc_cons {lo : Int} {v : D} {vs : List D} : asc lo (v :: vs) = true → ∃ i : Int, v = .int i ∧ (lo ≤ i ∧ i ≤ 99) ∧ asc (i + 1) vs = true := by
  intro h
  cases v <;> first | (unfold asc at h; cases h; done) | skip
  rename_i i
  unfold asc at h
  simp only [Bool.and_eq_true, decide_eq_true_eq] at h
  exact ⟨i, rfl, h.1, h.2⟩
theorem asc_wi {lo : Int} {v : D} {vs : List D} (h : asc lo (v :: vs) = false) : wi lo 99 v = false ∨ ∃ i : Int, v = .int i ∧ wi lo 99 v = true ∧ asc (i + 1) vs = false := by
  cases w : wi lo 99 v with
  | false => exact .inl rfl
  | true =>
    obtain ⟨i, rfl, r⟩ := wi_int w
    refine .inr ⟨i, rfl, rfl, ?_⟩
    unfold asc at h
    simpa [r.1, r.2] using h
theorem asc_ints : ∀ {xs : List D} {lo : Int}, asc lo xs = true → ∃ L : List Int, xs = L.map D.int ∧ ∀ v ∈ L, lo ≤ v ∧ v ≤ 99
  | [], _, _ => ⟨[], rfl, fun v hv => absurd hv List.not_mem_nil⟩
  | _ :: xs, lo, h => by
    obtain ⟨i, rfl, r, h⟩ := asc_cons h
    obtain ⟨L, rfl, hl⟩ := asc_ints h
    refine ⟨i :: L, rfl, fun v hv => ?_⟩
    rcases List.mem_cons.mp hv with e | e
    · rw [e]; exact r
    · have := hl v e; omega
theorem grow_lp {d : D} : ∀ (xs : List D) (lo : Int) (o : Option D), (∀ v ∈ xs, Sv v = true) →
    ((asc lo xs = true ∧ ∃ q q', forS (bName 2) (seqS (ifS (tNot1 (tB1 (callF 3 F_is_within (aCons (eV 2) (aCons (eV 1) (aCons (eC (.int (99))) aNil)))))) (raiseS 9 1 ["part"] (aCons (eC (.str "numbers")) aNil)) passS) (asgS 1 (e2 addP (eV 2) (eC (.int (1)))))) xs [some d, some (.int lo), o] = .nx [some d, q, q']) ∨
     (asc lo xs = false ∧ forS (bName 2) (seqS (ifS (tNot1 (tB1 (callF 3 F_is_within (aCons (eV 2) (aCons (eV 1) (aCons (eC (.int (99))) aNil)))))) (raiseS 9 1 ["part"] (aCons (eC (.str "numbers")) aNil)) passS) (asgS 1 (e2 addP (eV 2) (eC (.int (1)))))) xs [some d, some (.int lo), o] = .ex 9 [("part", .str "numbers")])) := by
  intro xs
  induction xs with
  | nil => exact fun lo o _ => .inl ⟨rfl, _, _, forS_nil⟩
  | cons v vs ih =>
    intro lo o hs
    have hv := hs v List.mem_cons_self
    cases w : wi lo 99 v with
    | false =>
      refine .inr ⟨?_, ?_⟩
      · cases e : asc lo (v :: vs) with
        | false => rfl
        | true =>
          obtain ⟨i, rfl, r, _⟩ := asc_cons e
          rw [wi_of r] at w
          cases w
      · rw [forS_cons]
        simp [within_ok hv, w]
    | true =>
      obtain ⟨i, rfl, r⟩ := wi_int w
      have ea : asc lo (.int i :: vs) = asc (i + 1) vs := by
        show (decide (lo ≤ i) && decide (i ≤ 99) && asc (i + 1) vs) = _
        simp [r.1, r.2]
      rw [ea]
      rcases ih (i + 1) (some (.int i)) (fun u hu => hs u (List.mem_cons_of_mem _ hu)) with ⟨h1, q, q', e⟩ | ⟨h1, e⟩
      · refine .inl ⟨h1, q, q', ?_⟩
        rw [forS_cons]
        simp [within_ok hv, w, e]
      · refine .inr ⟨h1, ?_⟩
        rw [forS_cons]
        simp [within_ok hv, w, e]
theorem sq_len {d : D} {xs : List D} (h : Sq d xs) : lenP [d] = .ok (.int xs.length) := by rcases h with e | e <;> subst e <;> simp
theorem sq_val {d : D} {xs : List D} (h : Sq d xs) : valD d = .ok xs := by rcases h with e | e <;> subst e <;> rfl
theorem sq_lst {d : D} {xs : List D} (h : Sq d xs) : F_is_list [d] = .ok (.bl true) := by rcases h with e | e <;> subst e <;> rfl
theorem sq_ix {d : D} {xs : List D} (h : Sq d xs) (i : Int) : ixD d (.int i) = .ofOpt (atI xs i) := by rcases h with e | e <;> subst e <;> rfl
theorem grow_seq {d : D} {xs : List D} (h : Sq d xs) (hs : ∀ v ∈ xs, Sv v = true) : F_need_growing_row [d] = exO (noO (rowB xs)) := by
  have il := sq_lst h
  have ld := sq_len h
  have vd := sq_val h
  by_cases h3 : 3 ≤ xs.length
  · by_cases h12 : xs.length ≤ 12
    · have a3 : (3 : Int) ≤ xs.length := by omega
      have a12 : (xs.length : Int) ≤ 12 := by omega
      have er : rowB xs = asc 1 xs := by simp [rowB, h3, h12]
      rcases grow_lp (d := d) xs 1 none hs with ⟨h1, q, q', e⟩ | ⟨h1, e⟩
      · simp [F_need_growing_row, m_need_growing_row, il, ld, vd, a3, a12]
        rw [e, er, h1]
        rfl
      · simp [F_need_growing_row, m_need_growing_row, il, ld, vd, a3, a12]
        rw [e, er, h1]
        rfl
    · have a3 : (3 : Int) ≤ xs.length := by omega
      have a12 : ¬ (xs.length : Int) ≤ 12 := by omega
      have er : rowB xs = false := by simp [rowB, h12]
      simp [F_need_growing_row, m_need_growing_row, il, ld, a3, a12, er, noO, exO]
  · have a3 : ¬ (3 : Int) ≤ xs.length := by omega
    have er : rowB xs = false := by simp [rowB, h3]
    simp [F_need_growing_row, m_need_growing_row, il, ld, a3, er, noO, exO]
/-- what is no list and no tuple -/
def noSeq (d : D) : Prop := d = .non ∨ (∃ i, d = .int i) ∨ (∃ z, d = .str z) ∨ d = .dct []
theorem grow_no {d : D} (h : noSeq d) : F_need_growing_row [d] = exO (noO false) := by
  have il : F_is_list [d] = .ok (.bl false) := by rcases h with rfl | ⟨i, rfl⟩ | ⟨z, rfl⟩ | rfl <;> rfl
  simp [F_need_growing_row, m_need_growing_row, il, noO, exO]
theorem rng_succ (j : Int) (K : Nat) : rng j (K + 1) = .int j :: rng (j + 1) K := by
  unfold rng
  rw [List.range_succ_eq_map, List.map_cons, List.map_map]
  congr 1
  · simp
  · apply List.map_congr_left
    intro i _
    show D.int (j + ((i + 1 : Nat) : Int)) = D.int (j + 1 + (i : Int))
    congr 1
    omega
theorem cut3 {L : List Int} {k : Nat} (h : k + 3 ≤ L.length) : ∃ x y z, x ∈ L ∧ y ∈ L ∧ z ∈ L ∧ cutL (L.map D.int) (some (k : Int)) (some ((k : Int) + 3)) = [.int x, .int y, .int z] := by
  have e : cutL (L.map D.int) (some (k : Int)) (some ((k : Int) + 3)) = ((L.drop k).take 3).map D.int := by
    unfold cutL
    rw [List.length_map, show ((k : Int) + 3) = ((k + 3 : Nat) : Int) by omega, HT.sIx_nat, HT.sIx_nat, Nat.min_eq_left (by omega), Nat.min_eq_left (by omega), show k + 3 - k = 3 by omega, List.map_take, List.map_drop]
  rw [e]
  have hl : 3 ≤ (L.drop k).length := by rw [List.length_drop]; omega
  match hd : L.drop k, hl with
  | x :: y :: z :: r, _ =>
    have mem : ∀ v ∈ x :: y :: z :: r, v ∈ L := fun v hv => List.mem_of_mem_drop (hd ▸ hv)
    exact ⟨x, y, z, mem x (by simp), mem y (by simp), mem z (by simp), rfl⟩
def unev (v : Int) : D := .ins 108 [("word", .str "uneven"), ("parts", .tup [.int v]), ("step", .int v)]
theorem init_uneven (v : Int) : F_Uneven__init__ [.ins 108 [], .int v] = .ok (.non, unev v) := by rfl
theorem steps_ok {L : List Int} (h : ∀ v ∈ L, 1 ≤ v ∧ v ≤ 99) {d : D} (hd : Sq d (L.map D.int)) {k : Nat} (hk : k + 3 ≤ L.length) {p : Int} (hp : -80 ≤ p ∧ p ≤ 80) : ∃ b, F_is_step_by [d, .int k, .int p] = .ok (.bl b) := by
  obtain ⟨x, y, z, hx, hy, hz, ec⟩ := cut3 hk
  have rx := h x hx
  have ry := h y hy
  have rz := h z hz
  obtain ⟨b, e⟩ := by_ok (a := x) (b := y) (c := y) (d := z) (p := p) (by omega) (by omega) (by omega) (by omega) hp
  exact ⟨b, by rcases hd with e | e <;> subst e <;> simp [F_is_step_by, m_is_step_by, ec, e]⟩
theorem row_lp {L : List Int} (h : ∀ v ∈ L, 1 ≤ v ∧ v ≤ 99) {d : D} (hd : Sq d (L.map D.int)) {p : Int} (hp : -80 ≤ p ∧ p ≤ 80) : ∀ (K j : Nat) (o : Option D), j + K + 2 = L.length →
    (∃ q, forS (bName 2) (ifS (tNot1 (tB1 (callF 3 F_is_step_by (aCons (eV 0) (aCons (eV 2) (aCons (e1 (attrD [] "power") (eV 1)) aNil)))))) (retS (makeF 108 2 F_Uneven__init__ (aCons (eV 2) aNil))) passS) (rng j K) [some d, some (byP p), o] = .nx [some d, some (byP p), q]) ∨
    ∃ (s : Nat) (E : En), forS (bName 2) (ifS (tNot1 (tB1 (callF 3 F_is_step_by (aCons (eV 0) (aCons (eV 2) (aCons (e1 (attrD [] "power") (eV 1)) aNil)))))) (retS (makeF 108 2 F_Uneven__init__ (aCons (eV 2) aNil))) passS) (rng j K) [some d, some (byP p), o] = .rt (unev s) E := by
  have at_ : attrD [] "power" (byP p) = .ok (.int p) := by rfl
  intro K
  induction K with
  | zero =>
    intro j o e
    exact .inl ⟨o, forS_nil⟩
  | succ K ih =>
    intro j o e
    obtain ⟨b, e1⟩ := steps_ok h hd (k := j) (by omega) hp
    rw [rng_succ, forS_cons]
    cases b with
    | true =>
      have next := ih (j + 1) (some (.int (j : Int))) (by omega)
      rw [show ((j + 1 : Nat) : Int) = (j : Int) + 1 by omega] at next
      simp [at_, e1]
      simpa using next
    | false =>
      refine .inr ⟨j, [some d, some (byP p), some (.int j)], ?_⟩
      simp [at_, e1, init_uneven]
def isPap (q : D) : Prop := (∃ p, q = byP p) ∨ ∃ s, q = unev s
theorem row_val {d : D} {xs : List D} (h : Sq d xs) (hs : ∀ v ∈ xs, Sv v = true) (hr : rowB xs = true) : ∃ q, isPap q ∧ F_power_of_row [d] = .ok q := by
  have g := grow_seq h hs
  rw [hr] at g
  have hr' := hr
  unfold rowB at hr'
  simp only [Bool.and_eq_true, decide_eq_true_eq] at hr'
  obtain ⟨⟨l3, l12⟩, ha⟩ := hr'
  obtain ⟨L, eL, hL⟩ := asc_ints ha
  subst eL
  rw [List.length_map] at l3 l12
  obtain ⟨x, y, z, r, rfl⟩ : ∃ x y z r, L = x :: y :: z :: r := by
    match L, l3 with
    | x :: y :: z :: r, _ => exact ⟨x, y, z, r, rfl⟩
  have fo : Fo x y y z := by
    obtain ⟨_, e1, r1, ha⟩ := asc_cons ha
    cases e1
    obtain ⟨_, e1, r2, ha⟩ := asc_cons ha
    cases e1
    obtain ⟨_, e1, r3, ha⟩ := asc_cons ha
    cases e1
    exact ⟨r1.1, r2.1, Int.le_refl _, r3.1, r3.2⟩
  obtain ⟨q, hq, e⟩ := power_ok fo
  have j0 := sq_ix h 0
  have j1 := sq_ix h 1
  have j2 := sq_ix h 2
  simp at j0 j1 j2
  have ld := sq_len h
  rw [List.length_map] at ld
  rcases hq with ⟨p, hp, rfl⟩ | ⟨v, rfl⟩
  · have ty : typeD [byP p] = .ok (.cod 24) := rfl
    have r1 : rng1D [.int (((x :: y :: z :: r).length : Int) - 2)] = .ok (rng 0 ((x :: y :: z :: r).length - 2)) := by
      rw [rng1D_ap, if_pos (by simp only [List.length_cons] at l12 ⊢; omega)]
      congr 2
      simp only [List.length_cons]
      omega
    rcases row_lp hL h hp ((x :: y :: z :: r).length - 2) 0 none (by omega) with ⟨u, c⟩ | ⟨s, E, c⟩
    · refine ⟨byP p, .inl ⟨p, rfl⟩, ?_⟩
      generalize (x :: y :: z :: r).length = n at *
      simp [F_power_of_row, m_power_of_row, g, noO, exO, j0, j1, j2, e, ty, ld, r1, -rng1D_ap]
      simp at c
      rw [c]
      simp
    · refine ⟨unev s, .inr ⟨s, rfl⟩, ?_⟩
      generalize (x :: y :: z :: r).length = n at *
      simp [F_power_of_row, m_power_of_row, g, noO, exO, j0, j1, j2, e, ty, ld, r1, -rng1D_ap]
      simp at c
      rw [c]
      simp
  · have ty : typeD [betw v] = .ok (.cod 21) := rfl
    exact ⟨unev 0, .inr ⟨0, rfl⟩, by simp [F_power_of_row, m_power_of_row, g, noO, exO, j0, j1, j2, e, ty, init_uneven]⟩
/-- what is asked of a row of numbers -/
structure Rw (d : D) (b : Bool) : Prop where
  g : F_need_growing_row [d] = exO (noO b)
  v : b = true → ∃ q, isPap q ∧ F_power_of_row [d] = .ok q
theorem Rw.pow {d : D} {b : Bool} (h : Rw d b) : Asks (noO b) (F_power_of_row [d]) isPap := by
  cases b with
  | true =>
    obtain ⟨q, hq, e⟩ := h.v rfl
    exact .inl ⟨rfl, q, hq, e⟩
  | false => exact .inr ⟨"numbers", rfl, by simp [F_power_of_row, m_power_of_row, h.g, noO, exO]⟩
theorem Rw.shows {d : D} {b : Bool} (h : Rw d b) : Asks (noO b) (F_shows_power_of_row [d, .int 5]) fun _ => True := by
  rcases h.pow with ⟨e, q, hq, f⟩ | ⟨n, e, f⟩
  · have t : typeD [.int 5] = .ok (.ty "int") := rfl
    refine .inl ⟨e, .bl false, trivial, ?_⟩
    rcases hq with ⟨p, rfl⟩ | ⟨s, rfl⟩
    · have t1 : typeD [byP p] = .ok (.cod 24) := rfl
      have t2 : clsIsD (.ty "int") (.cod 24) = .ok (.bl false) := rfl
      simp [F_shows_power_of_row, m_shows_power_of_row, f, t, t1, t2]
    · have t1 : typeD [unev s] = .ok (.cod 108) := rfl
      have t2 : clsIsD (.ty "int") (.cod 108) = .ok (.bl false) := rfl
      simp [F_shows_power_of_row, m_shows_power_of_row, f, t, t1, t2]
  · exact .inr ⟨n, e, by simp [F_shows_power_of_row, m_shows_power_of_row, f]⟩
theorem rw_seq {d : D} {xs : List D} (h : Sq d xs) (hs : ∀ v ∈ xs, Sv v = true) : Rw d (rowB xs) := ⟨grow_seq h hs, fun e => row_val h hs e⟩
theorem rw_no {d : D} (h : noSeq d) : Rw d false := ⟨grow_no h, fun e => by cases e⟩
end Q

namespace Q
open PySem PySem.Spec PyProof.Rows L2 Dl
/-! repr -/
/-- it can be shown, and is small -/
def Rp (d : D) : Prop := ∃ e, pyR d = some e ∧ PyData.showable e = true ∧ PyData.depth e ≤ 2 ∧ PyData.leavesShort 1921 e = true ∧ PyData.bulk e ≤ 60
def Rps (xs : List D) : Prop := ∃ es, pyRs xs = some es ∧ PyData.showableAll es = true ∧ PyData.depthAll es ≤ 2 ∧ PyData.leavesShortAll 1921 es = true ∧ PyData.bulkAll es ≤ 61 * xs.length
theorem rps_of : ∀ {xs : List D}, (∀ x ∈ xs, Rp x) → Rps xs
  | [], _ => ⟨[], rfl, rfl, by decide, rfl, by decide⟩
  | x :: xs, h => by
    obtain ⟨e, p1, p2, p3, p4, p5⟩ := h x List.mem_cons_self
    obtain ⟨es, q1, q2, q3, q4, q5⟩ := rps_of fun y hy => h y (List.mem_cons_of_mem _ hy)
    refine ⟨e :: es, by simp [pyRs, p1, q1], ?_, ?_, ?_, ?_⟩
    · show (PyData.showable e && PyData.showableAll es) = true
      rw [p2, q2]; rfl
    · show max (PyData.depth e) (PyData.depthAll es) ≤ 2
      omega
    · show (PyData.leavesShort 1921 e && PyData.leavesShortAll 1921 es) = true
      rw [p4, q4]; rfl
    · show PyData.bulk e + 1 + PyData.bulkAll es ≤ _
      rw [List.length_cons]
      omega
theorem shown_of {d : D} {e : PyData} (h1 : pyR d = some e) (h2 : PyData.showable e = true) (h3 : PyData.depth e ≤ 3) (h4 : PyData.leavesShort 1921 e = true) (h5 : PyData.bulk e ≤ 6200) : ∃ z, reprR [d] = .ok (.str z) := by
  refine ⟨PyData.shown e, ?_⟩
  have le := PyData.shown_le_bulk 1921 (by decide) e h4
  simp only [reprR, h1]
  refine if_pos ⟨h2, by omega, ?_⟩
  rw [sizeLine_eq]
  have : (1921 + 2) * PyData.bulk e ≤ (1921 + 2) * 6200 := Nat.mul_le_mul_left _ h5
  omega
theorem repr_seq {d : D} {xs : List D} (h : Sq d xs) (hl : xs.length ≤ 100) (hs : ∀ x ∈ xs, Rp x) : ∃ z, reprR [d] = .ok (.str z) := by
  obtain ⟨es, q1, q2, q3, q4, q5⟩ := rps_of hs
  rcases h with rfl | rfl
  · refine shown_of (e := .list es) ?_ q2 ?_ q4 ?_
    · show (pyRs xs).map PyData.list = _
      rw [q1]; rfl
    · show PyData.depthAll es + 1 ≤ 3
      omega
    · show PyData.bulkAll es ≤ 6200
      omega
  · refine shown_of (e := .tuple es) ?_ q2 ?_ q4 ?_
    · show (pyRs xs).map PyData.tuple = _
      rw [q1]; rfl
    · show PyData.depthAll es + 1 ≤ 3
      omega
    · show PyData.bulkAll es ≤ 6200
      omega
theorem text_len {z : String} {n : Nat} (h : z.length ≤ n) : (Str.ofString z).length ≤ n := by rw [PySem.ofString_length]; exact h
theorem rp_int {v : Int} (h : v.natAbs < 2 ^ 100) : Rp (.int v) := by
  have hv : v.natAbs.log2 < 1920 := Nat.lt_of_lt_of_le (log2_lt_of h (by decide)) (by decide)
  have ht := int_text_length_le (a := v) (k := 1920) (by decide) hv
  exact ⟨.int v, rfl, decide_eq_true hv, (show (0 : Nat) ≤ 2 by decide), decide_eq_true (text_len ht), (show (0 : Nat) ≤ 60 by decide)⟩
theorem rp_bad {v : D} (h : v ∈ badL 1 99) : Rp v := by
  unfold badL at h
  simp only [List.mem_cons, List.not_mem_nil, or_false] at h
  rcases h with rfl | rfl | rfl | rfl | rfl | rfl | rfl | rfl | rfl | rfl | rfl | rfl
  · exact rp_int (by decide)
  · exact rp_int (by decide)
  · exact ⟨_, rfl, rfl, by decide, rfl, by decide⟩
  · exact ⟨_, rfl, rfl, by decide, rfl, by decide⟩
  · exact ⟨_, rfl, rfl, by decide, rfl, by decide⟩
  · exact ⟨.str (toString (1 : Int)), rfl, rfl, by decide, by decide +kernel, by decide +kernel⟩
  · exact ⟨.list [.int 1], rfl, by decide +kernel, by decide, by decide +kernel, by decide⟩
  · exact ⟨.tuple [.int 99], rfl, by decide +kernel, by decide, by decide +kernel, by decide⟩
  · exact rp_int (by decide)
  · exact rp_int (by decide)
  · exact ⟨.dict [], rfl, rfl, by decide, rfl, by decide⟩
  · exact ⟨.str "power", rfl, rfl, by decide, by decide +kernel, by decide +kernel⟩
theorem rp_nest {L : List Int} (hl : L.length ≤ 50) (h : ∀ v ∈ L, v.natAbs < 2 ^ 100) : Rp (.lst (L.map D.int)) := by
  have key : ∀ {L : List Int}, (∀ v ∈ L, v.natAbs < 2 ^ 100) → pyRs (L.map D.int) = some (L.map PyData.int) ∧ PyData.showableAll (L.map PyData.int) = true ∧ PyData.depthAll (L.map PyData.int) = 0 ∧ PyData.leavesShortAll 1921 (L.map PyData.int) = true ∧ PyData.bulkAll (L.map PyData.int) = L.length := by
    intro L
    induction L with
    | nil => exact fun _ => ⟨rfl, rfl, rfl, rfl, rfl⟩
    | cons v L ih =>
      intro h
      obtain ⟨a, b, c, d, e⟩ := ih fun u hu => h u (List.mem_cons_of_mem _ hu)
      have hv : v.natAbs.log2 < 1920 := Nat.lt_of_lt_of_le (log2_lt_of (h v List.mem_cons_self) (by decide)) (by decide)
      have ht := int_text_length_le (a := v) (k := 1920) (by decide) hv
      refine ⟨by simp [pyRs, pyR, a], ?_, ?_, ?_, ?_⟩
      · show (decide (v.natAbs.log2 < 1920) && PyData.showableAll (L.map PyData.int)) = true
        rw [b, decide_eq_true hv]; rfl
      · show max 0 (PyData.depthAll (L.map PyData.int)) = 0
        rw [c]; rfl
      · show (decide ((PyData.shown (.int v)).length ≤ 1921) && PyData.leavesShortAll 1921 (L.map PyData.int)) = true
        rw [d, decide_eq_true (show (PyData.shown (.int v)).length ≤ 1921 from text_len ht)]; rfl
      · show 0 + 1 + PyData.bulkAll (L.map PyData.int) = _
        rw [e, List.length_cons]; omega
  obtain ⟨a, b, c, d, e⟩ := key h
  refine ⟨.list (L.map PyData.int), ?_, b, ?_, d, ?_⟩
  · show (pyRs (L.map D.int)).map PyData.list = _
    rw [a]; rfl
  · show PyData.depthAll (L.map PyData.int) + 1 ≤ 2
    rw [c]; decide
  · show PyData.bulkAll (L.map PyData.int) ≤ 60
    rw [e]; omega
theorem repr_rp {d : D} (h : Rp d) : ∃ z, reprR [d] = .ok (.str z) := by
  obtain ⟨e, h1, h2, h3, h4, h5⟩ := h
  exact shown_of h1 h2 (by omega) h4 (by omega)
end Q

namespace Q
open PySem PySem.Spec PyProof.Rows L2 Dl
/-! is it a row, as the law asks -/
def srow0 : SF := (asgS 3 (eAnd (e1 (isiTD subG [.ty "list", .ty "tuple"]) (eV 7)) (eCh (eC (.int (3))) (hLink leP (eN lenP (aCons (eV 7) aNil)) (hLast leP (eC (.int (12))))))))
def srow1 : SF := (asgS 3 (eAnd (eV 3) (e2 eqX (lcE [9] (iVal (eV 7)) (bName 9) (tNot1 (tB1 (callF 3 F__law_within (aCons (eV 9) (aCons (eC (.int (1))) (aCons (eC (.int (99))) aNil)))))) (eV 9)) (eN lstD aNil))))
def srow2 : SF := (asgS 3 (eAnd (eV 3) (e2 eqX (lcE [10] (iArg rng2D (aCons (eC (.int (1))) (aCons (eN lenP (aCons (eV 7) aNil)) aNil))) (bName 10) (tB1 (e2 geP (e2 ixD (eV 7) (e2 (Dl.intD subI) (eV 10) (eC (.int (1))))) (e2 ixD (eV 7) (eV 10)))) (eV 10)) (eN lstD aNil))))
def rest : SF := (seqS (par2S 4 5 (aCons (eIf (tTru (eV 3)) (eC .non) (eN tupD (aCons (eC (.str "number")) (aCons (eC (.str "numbers")) aNil)))) (aCons (eN reprR (aCons (eV 7) aNil)) aNil))) (seqS (ifS (tB1 (e2 neD (lookE (hdF g__law_heard (callK 1 F_power_of_row kd_power_of_row_5 (aCons (eV 7) aNil)))) (eV 4))) (retS (eC (.bl false))) passS) (seqS (ifS (tB1 (e2 neD (lookE (hdF g__law_heard (callF 2 F_shows_power_of_row (aCons (eV 7) (aCons (eC (.int (5))) aNil))))) (eV 4))) (retS (eC (.bl false))) passS) (seqS (ifS (tB1 (e2 isnD (eV 4) (eC .non))) (retS (e2 eqD (eN reprR (aCons (eV 7) aNil)) (eV 5))) passS) (seqS (asgS 6 (callF 1 F_power_of_row (aCons (eV 7) aNil))) (retS (eAnd (eOr (eN (isiD subG) (aCons (eV 6) (aCons (eC (.cod 24)) aNil))) (eN (isiD subG) (aCons (eV 6) (aCons (eC (.cod 108)) aNil)))) (e2 eqD (eN reprR (aCons (eV 7) aNil)) (eV 5)))))))))
theorem numbers_eq : m__law_numbers_right = (seqS (asgS 1 (eN sortSetD (aCons (lcE [8] (iArg rng1D (aCons (callM 0 2 F__law_one (aCons (eN lstD (aCons (eC (.int (3))) (aCons (eC (.int (4))) (aCons (eC (.int (5))) (aCons (eC (.int (12))) (aCons (eC (.int (2))) (aCons (eC (.int (16))) aNil))))))) aNil)) aNil)) (bName 8) tYes1 (e2 addP (eC (.int (1))) (callM 0 2 F__law_lot (aCons (eC (.int (99))) aNil)))) aNil))) (seqS (asgS 2 (callM 0 2 F__law_lot (aCons (eC (.int (6))) aNil))) (seqS (ifS (tB1 (e2 eqD (eV 2) (eC (.int (0))))) (setS 1 (callM 0 3 F__law_bad (aCons (eC (.int (1))) (aCons (eC (.int (99))) aNil))) (callM 0 2 F__law_lot (aCons (lookE (eN lenP (aCons (eV 1) aNil))) aNil))) passS) (seqS (ifS (tB1 (e2 eqD (eV 2) (eC (.int (1))))) (expS (mthM 1 insertD (aCons (callM 0 2 F__law_lot (aCons (e2 addP (lookE (eN lenP (aCons (eV 1) aNil))) (eC (.int (1)))) aNil)) (aCons (callM 0 2 F__law_one (aCons (eN lstD (aCons (ixO 1 (eC (.int (0)))) (aCons (ixO 1 (e1 negD (eC (.int (1))))) (aCons (eC (.int (0))) (aCons (eC (.int (100))) aNil))))) aNil)) aNil)))) passS) (seqS (asgS 7 (eIf (tB1 (e2 eqD (eV 2) (eC (.int (2))))) (eN tupC (aCons (eV 1) aNil)) (eV 1))) (seqS (ifS (tB1 (e2 eqD (eV 2) (eC (.int (3))))) (asgS 7 (callM 0 2 F__law_one (aCons (eN lstD (aCons (eC .non) (aCons (eC (.int (5))) (aCons (eC (.str "1 2 3")) (aCons eDct0 (aCons (eN lstD aNil) (aCons (eN tupD (aCons (eC (.int (1))) (aCons (eC (.int (2))) aNil))) (aCons (eSl slP (eV 1) pNone (pSome (eC (.int (2))))) (aCons (eN lstD (aCons (eV 1) aNil)) (aCons (e2 addP (e1 revD (eV 1)) (eN lstD (aCons (eC (.int (0))) aNil))) aNil)))))))))) aNil))) passS) (seqS srow0 (seqS srow1 (seqS srow2 rest))))))))) := rfl
section
variable {a0 a1 a2 a3 a4 a5 a6 a7 a8 a9 a10 : Option D}
theorem lc2 : ∀ (xs acc : List D), (∀ v ∈ xs, Sv v = true) → acc.length + xs.length ≤ 1000 →
    lcF [9] (bName 9) (tNot1 (tB1 (callF 3 F__law_within (aCons (eV 9) (aCons (eC (.int (1))) (aCons (eC (.int (99))) aNil)))))) (eV 9) xs acc [a0, a1, a2, a3, a4, a5, a6, a7, a8, none, a10] = .ok (acc ++ xs.filter (fun v => !wi 1 99 v), [a0, a1, a2, a3, a4, a5, a6, a7, a8, none, a10])
  | [], acc, _, _ => by simp [lcF_nil]
  | v :: vs, acc, hs, hl => by
    have hv := hs v List.mem_cons_self
    simp only [List.length_cons] at hl
    have line : acc.length < sizeLine := line_lt (by omega)
    rw [lcF_cons]
    cases w : wi 1 99 v with
    | true =>
      have e := lc2 vs acc (fun u hu => hs u (List.mem_cons_of_mem _ hu)) (by omega)
      simp [lwithin_ok hv, w, wipeE, e]
    | false =>
      have e := lc2 vs (acc ++ [v]) (fun u hu => hs u (List.mem_cons_of_mem _ hu)) (by simp; omega)
      simp [lwithin_ok hv, w, wipeE, e, line]
def adj : List Int → Bool
  | x :: y :: r => decide (x < y) && adj (y :: r)
  | _ => true
theorem lc3 {gv : D} {L : List Int} (h : Sq gv (L.map D.int)) (hL : L.length ≤ 100) : ∀ (K j : Nat) (acc : List D), 1 ≤ j → j + K = L.length → acc.length + K ≤ 1000 →
    ∃ bs : List D, bs.isEmpty = adj (L.drop (j - 1)) ∧
    lcF [10] (bName 10) (tB1 (e2 geP (e2 ixD (eV 7) (e2 (Dl.intD subI) (eV 10) (eC (.int (1))))) (e2 ixD (eV 7) (eV 10)))) (eV 10) (rng j K) acc [a0, a1, a2, a3, a4, a5, a6, some gv, a8, a9, none] = .ok (acc ++ bs, [a0, a1, a2, a3, a4, a5, a6, some gv, a8, a9, none]) := by
  intro K
  induction K with
  | zero =>
    intro j acc hj he hl
    refine ⟨[], ?_, by simp [rng, lcF_nil]⟩
    have : L.drop (j - 1) = [L[j - 1]'(by omega)] := by
      rw [List.drop_eq_getElem_cons (by omega), show j - 1 + 1 = L.length by omega, List.drop_length]
    rw [this]
    rfl
  | succ K ih =>
    intro j acc hj he hl
    have i1 : atI (L.map D.int) ((j : Int) - 1) = some (.int (L[j - 1]'(by omega))) := by
      rw [atI_nat (k := j - 1) (by omega), List.getElem?_map, List.getElem?_eq_getElem (by omega)]
      rfl
    have i2 : atI (L.map D.int) (j : Int) = some (.int (L[j]'(by omega))) := by
      rw [atI_nat (k := j) rfl, List.getElem?_map, List.getElem?_eq_getElem (by omega)]
      rfl
    have x1 := sq_ix h ((j : Int) - 1)
    have x2 := sq_ix h (j : Int)
    rw [i1] at x1
    rw [i2] at x2
    have line : acc.length < sizeLine := line_lt (by omega)
    have ed : L.drop (j - 1) = L[j - 1]'(by omega) :: L[j]'(by omega) :: L.drop (j + 1) := by
      rw [List.drop_eq_getElem_cons (by omega), show j - 1 + 1 = j by omega, List.drop_eq_getElem_cons (by omega)]
    have ed2 : L.drop (j + 1 - 1) = L[j]'(by omega) :: L.drop (j + 1) := by
      rw [show j + 1 - 1 = j by omega, List.drop_eq_getElem_cons (by omega)]
    have e1 : (((j + 1 : Nat)) : Int) = (j : Int) + 1 := by omega
    rw [rng_succ, lcF_cons]
    by_cases c : L[j]'(by omega) ≤ L[j - 1]'(by omega)
    · obtain ⟨bs, hb, e⟩ := ih (j + 1) (acc ++ [.int j]) (by omega) (by omega) (by simp; omega)
      rw [e1] at e
      refine ⟨.int j :: bs, ?_, ?_⟩
      · rw [ed]
        show false = (decide _ && _)
        rw [decide_eq_false (by omega)]
        rfl
      · simp [x1, x2, c, wipeE, line, e]
    · obtain ⟨bs, hb, e⟩ := ih (j + 1) acc (by omega) (by omega) (by omega)
      rw [e1] at e
      refine ⟨bs, ?_, ?_⟩
      · rw [hb, ed, ed2]
        show _ = (decide _ && _)
        rw [decide_eq_true (by omega)]
        rfl
      · simp [x1, x2, c, wipeE, e]
theorem asc_adj : ∀ (L : List Int) (lo : Int), (∀ v ∈ L, lo ≤ v ∧ v ≤ 99) → asc lo (L.map D.int) = adj L
  | [], _, _ => rfl
  | [x], lo, h => by
    have := h x List.mem_cons_self
    show (decide (lo ≤ x) && decide (x ≤ 99) && true) = true
    simp [this.1, this.2]
  | x :: y :: r, lo, h => by
    have hx := h x List.mem_cons_self
    have hy := h y (List.mem_cons_of_mem _ List.mem_cons_self)
    show (decide (lo ≤ x) && decide (x ≤ 99) && asc (x + 1) ((y :: r).map D.int)) = (decide (x < y) && adj (y :: r))
    simp only [hx.1, hx.2, decide_true, Bool.true_and]
    by_cases c : x < y
    · rw [decide_eq_true c, Bool.true_and]
      have h' : ∀ v ∈ y :: r, lo ≤ v ∧ v ≤ 99 := fun v hv => h v (List.mem_cons_of_mem _ hv)
      rw [← asc_adj (y :: r) lo h']
      show (decide (x + 1 ≤ y) && decide (y ≤ 99) && asc (y + 1) (r.map D.int)) = (decide (lo ≤ y) && decide (y ≤ 99) && asc (y + 1) (r.map D.int))
      rw [decide_eq_true (show x + 1 ≤ y by omega), decide_eq_true hy.1]
    · rw [decide_eq_false c]
      show (decide (x + 1 ≤ y) && decide (y ≤ 99) && asc (y + 1) (r.map D.int)) = _
      rw [decide_eq_false (by omega)]
      rfl
theorem all_ints : ∀ {xs : List D}, (xs.filter fun v => !wi 1 99 v).isEmpty = true → ∃ L : List Int, xs = L.map D.int ∧ ∀ v ∈ L, 1 ≤ v ∧ v ≤ 99
  | [], _ => ⟨[], rfl, fun v hv => absurd hv List.not_mem_nil⟩
  | v :: vs, h => by
    rw [List.filter_cons] at h
    cases w : wi 1 99 v with
    | false => rw [w] at h; simp at h
    | true =>
      rw [w] at h
      obtain ⟨i, rfl, r⟩ := wi_int w
      obtain ⟨L, rfl, hl⟩ := all_ints (xs := vs) (by simpa using h)
      refine ⟨i :: L, rfl, fun u hu => ?_⟩
      rcases List.mem_cons.mp hu with e | e
      · rw [e]; exact r
      · exact hl u e
theorem isit_seq {d : D} {xs : List D} (h : Sq d xs) : isiTD subG [.ty "list", .ty "tuple"] d = .ok (.bl true) := by rcases h with e | e <;> subst e <;> rfl
theorem isit_no {d : D} (h : noSeq d) : isiTD subG [.ty "list", .ty "tuple"] d = .ok (.bl false) := by rcases h with rfl | ⟨i, rfl⟩ | ⟨z, rfl⟩ | rfl <;> rfl
/-- the three rows that ask whether it is a row -/
theorem srow_no {gv : D} (h : noSeq gv) : SR.seq (SR.seq (srow0 [a0, a1, a2, a3, a4, a5, a6, some gv, none, none, none]) srow1) srow2 = .nx [a0, a1, a2, some (.bl false), a4, a5, a6, some gv, none, none, none] := by
  have e := isit_no h
  simp [srow0, srow1, srow2, e]
theorem srow_seq {gv : D} {xs : List D} (h : Sq gv xs) (hs : ∀ v ∈ xs, Sv v = true) (hl : xs.length ≤ 100) : SR.seq (SR.seq (srow0 [a0, a1, a2, a3, a4, a5, a6, some gv, none, none, none]) srow1) srow2 = .nx [a0, a1, a2, some (.bl (rowB xs)), a4, a5, a6, some gv, none, none, none] := by
  have e := isit_seq h
  have ld := sq_len h
  have vd := sq_val h
  have line0 : 0 ≤ sizeLine := line_le (by decide)
  by_cases h3 : 3 ≤ xs.length
  · have a3' : (3 : Int) ≤ xs.length := by omega
    by_cases h12 : xs.length ≤ 12
    · have a12 : (xs.length : Int) ≤ 12 := by omega
      have f2 := lc2 (a0 := a0) (a1 := a1) (a2 := a2) (a3 := some (.bl true)) (a4 := a4) (a5 := a5) (a6 := a6) (a7 := some gv) (a8 := none) (a10 := none) xs [] hs (by simp; omega)
      cases c : (xs.filter fun v => !wi 1 99 v).isEmpty with
      | false =>
        have er : rowB xs = false := by
          cases z : rowB xs with
          | false => rfl
          | true =>
            unfold rowB at z
            simp only [Bool.and_eq_true] at z
            obtain ⟨L, rfl, hL⟩ := asc_ints z.2
            have : (L.map D.int).filter (fun v => !wi 1 99 v) = [] := by
              rw [List.filter_eq_nil_iff]
              intro v hv
              obtain ⟨i, hi, rfl⟩ := List.mem_map.mp hv
              rw [wi_of (hL i hi)]
              decide
            rw [this] at c
            cases c
        simp [srow0, srow1, srow2, e, ld, vd, a3', a12, wipeE, f2, backE, c, er, line0]
      | true =>
        obtain ⟨L, rfl, hL⟩ := all_ints c
        rw [List.length_map] at hl h3 h12 a3' a12 ld
        have er : rowB (L.map D.int) = adj L := by
          unfold rowB
          rw [List.length_map, decide_eq_true h3, decide_eq_true h12, asc_adj L 1 hL]
          rfl
        obtain ⟨bs, hb, f3⟩ := lc3 (a0 := a0) (a1 := a1) (a2 := a2) (a3 := some (.bl true)) (a4 := a4) (a5 := a5) (a6 := a6) (a8 := none) (a9 := none) h hl (L.length - 1) 1 [] (Nat.le_refl _) (by omega) (by simp; omega)
        have r2 : rng2D [.int 1, .int (L.length : Int)] = .ok (rng 1 (L.length - 1)) := by
          rw [rng2D_ap, if_pos (by omega)]
          congr 2
          omega
        simp only [Int.natCast_one] at f3
        rw [show L.drop (1 - 1) = L from rfl] at hb
        simp [srow0, srow1, srow2, e, ld, vd, a3', a12, wipeE, f2, backE, c, line0, r2, f3, er, hb, -rng2D_ap]
    · have a12 : ¬ (xs.length : Int) ≤ 12 := by omega
      have er : rowB xs = false := by simp [rowB, h12]
      simp [srow0, srow1, srow2, e, ld, a3', a12, er]
  · have a3' : ¬ (3 : Int) ≤ xs.length := by omega
    have er : rowB xs = false := by simp [rowB, h3]
    simp [srow0, srow1, srow2, e, ld, a3', er]
/-- what follows -/
theorem rest_ok {gv d : D} {b : Bool} (h : Rw gv b) (hp : ∃ z, reprR [gv] = .ok (.str z)) : ∃ E, rest [some d, a1, a2, some (.bl b), a4, a5, a6, some gv, none, none, none] = .rt (.bl true) (some d :: E) := by
  obtain ⟨z, ez⟩ := hp
  have A1 := h.pow
  have A2 := h.shows
  have nm : Nm (noO b) := fun n e => by
    cases b with
    | true => cases e
    | false => cases e; decide +kernel
  have n1 := ne_due nm
  have n2 := isn_due (noO b)
  have i1 := imm_due (noO b)
  have hd1 := fun env : En => A1.hd (env := env)
  have hd2 := fun env : En => A2.hd (env := env)
  have line2 : 2 ≤ sizeLine := line_le (by decide)
  cases b with
  | false =>
    have nd : dueD (noO false) = .tup [.str "number", .str "numbers"] := rfl
    rw [nd] at n1 n2 i1 hd1 hd2
    rw [show (noO false).isSome = true from rfl] at n2
    refine ⟨[a1, a2, some (.bl false), some (.tup [.str "number", .str "numbers"]), some (.str z), a6, some gv, none, none, none], ?_⟩
    simp [rest, ez, line2, kg_power_of_row_5, hd1, hd2, i1, n1, n2]
  | true =>
    have nd : dueD (noO true) = .non := rfl
    rw [nd] at n1 n2 i1 hd1 hd2
    rw [show (noO true).isSome = false from rfl] at n2
    rcases A1 with ⟨_, q, hq, f1⟩ | ⟨_, w, _⟩
    · rcases hq with ⟨p, rfl⟩ | ⟨s, rfl⟩
      · have t1 : isiD subG [byP p, .cod 24] = .ok (.bl true) := rfl
        refine ⟨[a1, a2, some (.bl true), some .non, some (.str z), some (byP p), some gv, none, none, none], ?_⟩
        simp [rest, ez, line2, kg_power_of_row_5, hd2, f1, i1, n1, n2, t1]
      · have t1 : isiD subG [unev s, .cod 24] = .ok (.bl false) := rfl
        have t2 : isiD subG [unev s, .cod 108] = .ok (.bl true) := rfl
        refine ⟨[a1, a2, some (.bl true), some .non, some (.str z), some (unev s), some gv, none, none, none], ?_⟩
        simp [rest, ez, line2, kg_power_of_row_5, hd2, f1, i1, n1, n2, t1, t2]
    · cases w
end
end Q

namespace Q
open PySem PySem.Spec PyProof.Rows L2 Dl
/-! the row that is given -/
theorem seq_assoc (s : SR) (f g : SF) : s.seq (seqS f g) = (s.seq f).seq g := by cases s <;> simp
def Giv (d : D) : Prop := (∃ xs, Sq d xs ∧ (∀ v ∈ xs, Sv v = true) ∧ (∀ v ∈ xs, Rp v) ∧ xs.length ≤ 100) ∨ (noSeq d ∧ Rp d)
def tailF : SF := seqS srow0 (seqS srow1 (seqS srow2 rest))
theorem tail_ok {gv d : D} {a1 a2 a3 a4 a5 a6 : Option D} (h : Giv gv) : ∃ E, tailF [some d, a1, a2, a3, a4, a5, a6, some gv, none, none, none] = .rt (.bl true) (some d :: E) := by
  have go : ∀ b, SR.seq (SR.seq (srow0 [some d, a1, a2, a3, a4, a5, a6, some gv, none, none, none]) srow1) srow2 = .nx [some d, a1, a2, some (.bl b), a4, a5, a6, some gv, none, none, none] → Rw gv b → (∃ z, reprR [gv] = .ok (.str z)) → ∃ E, tailF [some d, a1, a2, a3, a4, a5, a6, some gv, none, none, none] = .rt (.bl true) (some d :: E) := fun b e hr hp => by
    obtain ⟨E, e2⟩ := rest_ok (a1 := a1) (a2 := a2) (a4 := a4) (a5 := a5) (a6 := a6) (d := d) hr hp
    refine ⟨E, ?_⟩
    unfold tailF
    rw [seqS_ap, seq_assoc, seq_assoc, e]
    exact e2
  rcases h with ⟨xs, h, hs, hp, hl⟩ | ⟨h, hp⟩
  · exact go _ (srow_seq h hs hl) (rw_seq h hs) (repr_seq h hl hp)
  · exact go _ (srow_no h) (rw_no h) (repr_rp hp)
theorem draw_lp : ∀ (xs : List D) (acc : List D) (n : Nat) (d : D), Hat n d → n + xs.length ≤ 800000 → acc.length + xs.length ≤ 1000 →
    ∃ (L : List Int) (d' : D), L.length = xs.length ∧ (∀ v ∈ L, 1 ≤ v ∧ v ≤ 99) ∧ Hat (n + xs.length) d' ∧
      lcF [8] (bName 8) tYes1 (e2 addP (eC (.int (1))) (callM 0 2 F__law_lot (aCons (eC (.int (99))) aNil))) xs acc [some d, none, none, none, none, none, none, none, none, none, none]
        = .ok (acc ++ L.map D.int, [some d', none, none, none, none, none, none, none, none, none, none]) := by
  intro xs
  induction xs with
  | nil =>
    intro acc n d h hn hl
    exact ⟨[], d, rfl, fun v hv => absurd hv List.not_mem_nil, h, by rw [List.map_nil, List.append_nil]; rfl⟩
  | cons x xs ih =>
    intro acc n d h hn hl
    simp only [List.length_cons] at hn hl
    obtain ⟨k, d1, e1, k0, k1, g1⟩ := lot_ok (m := 99) h (by omega) (by decide) (by decide)
    obtain ⟨L, d', hL, hb, g2, e2⟩ := ih (acc ++ [.int (1 + k)]) (n + 1) d1 g1 (by omega) (by simp; omega)
    have line : acc.length < sizeLine := line_lt (by omega)
    refine ⟨(1 + k) :: L, d', by simp [hL], fun u hu => ?_, g2.up (by simp only [List.length_cons]; omega), ?_⟩
    · rcases List.mem_cons.mp hu with z | z
      · omega
      · exact hb u z
    · rw [lcF_cons]
      simp [e1, line, wipeE]
      simpa using e2
theorem intsD_map : ∀ L : List Int, intsD (L.map D.int) = some L
  | [] => rfl
  | v :: L => by
    show (intsD (L.map D.int)).map (v :: ·) = _
    rw [intsD_map L]
    rfl
theorem sortSet_ok {L : List Int} (h : L.length < 63) : sortSetD [.lst (L.map D.int)] = .ok (.lst ((sortU L).map D.int)) := by
  show (R.ofOpt (intsD (L.map D.int))).bind _ = _
  rw [intsD_map]
  show (if L.length < 63 then R.ok (D.lst ((sortU L).map .int)) else .no) = _
  rw [if_pos h]
theorem lenU : ∀ l : List Int, (sortU l).length ≤ l.length := by
  have ins : ∀ (x : Int) (l : List Int), (insU x l).length ≤ l.length + 1 := by
    intro x l
    induction l with
    | nil => exact Nat.le_refl _
    | cons y l ih =>
      unfold insU
      split
      · exact Nat.le_refl _
      · split
        · simp
        · simp only [List.length_cons]; omega
  intro l
  induction l with
  | nil => exact Nat.le_refl _
  | cons x r ih =>
    have := ins x (sortU r)
    show (insU x (sortU r)).length ≤ _
    rw [List.length_cons]
    omega
def GI (v : D) : Prop := Sv v = true ∧ Rp v
theorem gi_int {v : Int} (h : v.natAbs < 2 ^ 100) : GI (.int v) := ⟨rfl, rp_int h⟩
theorem giv_seq {gv : D} {xs : List D} (h : Sq gv xs) (hs : ∀ v ∈ xs, GI v) (hl : xs.length ≤ 100) : Giv gv := .inl ⟨xs, h, fun v hv => (hs v hv).1, fun v hv => (hs v hv).2, hl⟩
theorem tbn {x : Int} (h : 1 ≤ x ∧ x ≤ 99) : x.natAbs < 2 ^ 100 := by omega
theorem numbers_ok' {n : Nat} {d : D} (h : Hat n d) (hn : n ≤ 600000) : ∃ d', F__law_numbers_right [d] = .ok (.bl true, d') ∧ Hat (n + 300) d' := by
  have line6 : 6 ≤ sizeLine := line_le (by decide)
  have line9 : 9 ≤ sizeLine := line_le (by decide)
  have line4 : 4 ≤ sizeLine := line_le (by decide)
  have line2 : 2 ≤ sizeLine := line_le (by decide)
  have line1 : 1 ≤ sizeLine := line_le (by decide)
  have line0 : 0 ≤ sizeLine := line_le (by decide)
  obtain ⟨c, d1, e1, hc, g1⟩ := one_ok (xs := [.int 3, .int 4, .int 5, .int 12, .int 2, .int 16]) h (by omega) (by decide) (by decide)
  obtain ⟨k, rfl, k0, k1⟩ : ∃ k : Nat, c = .int k ∧ 2 ≤ k ∧ k ≤ 16 := by
    simp only [List.mem_cons, List.not_mem_nil, or_false] at hc
    rcases hc with rfl | rfl | rfl | rfl | rfl | rfl
    · exact ⟨3, rfl, by decide, by decide⟩
    · exact ⟨4, rfl, by decide, by decide⟩
    · exact ⟨5, rfl, by decide, by decide⟩
    · exact ⟨12, rfl, by decide, by decide⟩
    · exact ⟨2, rfl, by decide, by decide⟩
    · exact ⟨16, rfl, by decide, by decide⟩
  have hr : rng1D [.int (k : Int)] = .ok (rng 0 k) := rng1_ok (by omega)
  obtain ⟨L, d2, hL, hb, g2, e2⟩ := draw_lp (rng 0 k) [] (n + 1) d1 g1 (by rw [rng_len]; omega) (by rw [rng_len]; simp; omega)
  rw [rng_len] at hL g2
  have es := sortSet_ok (L := L) (by omega)
  obtain ⟨N, hN⟩ : ∃ N, N = sortU L := ⟨_, rfl⟩
  rw [← hN] at es
  have hb' : ∀ v ∈ N, 1 ≤ v ∧ v ≤ 99 := fun v hv => hb v ((sortU_mem v L).mp (hN ▸ hv))
  have hl16 : N.length ≤ 16 := by have := lenU L; rw [hN]; omega
  have hl0 : 0 < N.length := by
    cases L with
    | nil => simp at hL; omega
    | cons x L =>
      have : x ∈ N := by rw [hN, sortU_mem]; exact List.mem_cons_self
      exact List.length_pos_of_mem this
  have hgi : ∀ v ∈ N.map D.int, GI v := fun v hv => by
    obtain ⟨i, hi, rfl⟩ := List.mem_map.mp hv
    exact gi_int (tbn (hb' i hi))
  obtain ⟨w, d3, e3, w0, w1, g3⟩ := lot_ok (m := 6) g2 (by omega) (by decide) (by decide)
  rw [List.nil_append] at e2
  have fin : ∀ (d' : D) (m : Nat) (E : En), m ≤ 100 → Hat (n + m) d' → m__law_numbers_right [some d, none, none, none, none, none, none, none, none, none, none] = .rt (.bl true) (some d' :: E) → ∃ d', F__law_numbers_right [d] = .ok (.bl true, d') ∧ Hat (n + 300) d' := fun d' m E hm hg e => by
    refine ⟨d', ?_, hg.up (by omega)⟩
    show (m__law_numbers_right [some d, none, none, none, none, none, none, none, none, none, none]).finM = _
    rw [e]
    rfl
  have ht := fun (gv d : D) (a1 a2 a3 a4 a5 a6 : Option D) (hg : Giv gv) => tail_ok (d := d) (a1 := a1) (a2 := a2) (a3 := a3) (a4 := a4) (a5 := a5) (a6 := a6) hg
  rw [numbers_eq] at fin
  have et : seqS srow0 (seqS srow1 (seqS srow2 rest)) = tailF := rfl
  rw [et] at fin
  have plain : Giv (.lst (N.map D.int)) := giv_seq (.inl rfl) hgi (by simp; omega)
  have wc : w = 0 ∨ w = 1 ∨ w = 2 ∨ w = 3 ∨ w = 4 ∨ w = 5 := by omega
  rcases wc with rfl | rfl | rfl | rfl | rfl | rfl
  · obtain ⟨v, d4, e4, hv, g4⟩ := bad_ok (l := 1) (m := 99) g3 (by omega) ⟨by decide, by decide⟩
    obtain ⟨j, d5, e5, j0, j1, g5⟩ := lot_ok (m := N.length) g4 (by omega) (by omega) (by omega)
    obtain ⟨q, rfl⟩ : ∃ q : Nat, j = q := ⟨j.toNat, by omega⟩
    have ex : setIx (N.map D.int) (q : Int) v = .ok (.lst ((N.map D.int).set q v)) := setIx_nat rfl (by simp; omega)
    have hg : Giv (.lst ((N.map D.int).set q v)) := giv_seq (.inl rfl) (fun u hu => by
      rcases List.mem_or_eq_of_mem_set hu with z | z
      · exact hgi u z
      · rw [z]; exact ⟨bad_sv hv, rp_bad hv⟩) (by simp; omega)
    obtain ⟨E, e6⟩ := ht _ d5 (some (.lst ((N.map D.int).set q v))) (some (.int 0)) none none none none hg
    refine fin d5 (1 + k + 1 + 1 + 1) E (by omega) (g5.up (by omega)) ?_
    simp [e1, line6, hr, wipeE, e2, backE, es, e3, e4, e5, ex, -rng1D_ap]
    exact e6
  · obtain ⟨x, hx⟩ : ∃ x, atI (N.map D.int) 0 = some (.int x) ∧ x ∈ N := by
      refine ⟨N[0]'hl0, ?_, List.getElem_mem hl0⟩
      rw [atI_nat (k := 0) (by decide), List.getElem?_map, List.getElem?_eq_getElem hl0]
      rfl
    obtain ⟨y, hy⟩ : ∃ y, atI (N.map D.int) (-1) = some (.int y) ∧ y ∈ N := by
      refine ⟨N[N.length - 1]'(by omega), ?_, List.getElem_mem _⟩
      rw [atI_neg (k := 0) (by decide) (by simp; omega), List.length_map, Nat.sub_zero, List.getElem?_map, List.getElem?_eq_getElem (by omega)]
      rfl
    obtain ⟨j, d4, e4, j0, j1, g4⟩ := lot_ok (m := (N.length : Int) + 1) g3 (by omega) (by omega) (by omega)
    obtain ⟨q, rfl⟩ : ∃ q : Nat, j = q := ⟨j.toNat, by omega⟩
    obtain ⟨v, d5, e5, hv, g5⟩ := one_ok (xs := [.int x, .int y, .int 0, .int 100]) g4 (by omega) (by simp) (by simp)
    have gv : GI v := by
      simp only [List.mem_cons, List.not_mem_nil, or_false] at hv
      rcases hv with rfl | rfl | rfl | rfl
      · exact gi_int (tbn (hb' x hx.2))
      · exact gi_int (tbn (hb' y hy.2))
      · exact gi_int (by decide)
      · exact gi_int (by decide)
    have ei : insertD (.lst (N.map D.int)) [.int (q : Int), v] = .ok (.non, .lst ((N.map D.int).take q ++ [v] ++ (N.map D.int).drop q)) := by
      show (if _ then _ else _) = _
      rw [if_pos ⟨by simp; exact line_lt (by omega), by omega, by omega⟩]
      rfl
    have hg : Giv (.lst ((N.map D.int).take q ++ [v] ++ (N.map D.int).drop q)) := giv_seq (.inl rfl) (fun u hu => by
      rcases List.mem_append.mp hu with z | z
      · rcases List.mem_append.mp z with z | z
        · exact hgi u (List.mem_of_mem_take z)
        · rw [List.mem_singleton.mp z]; exact gv
      · exact hgi u (List.mem_of_mem_drop z)) (by simp; omega)
    obtain ⟨E, e6⟩ := ht _ d5 (some (.lst ((N.map D.int).take q ++ [v] ++ (N.map D.int).drop q))) (some (.int 1)) none none none none hg
    refine fin d5 (1 + k + 1 + 1 + 1) E (by omega) (g5.up (by omega)) ?_
    have im : immD (.int (N.length : Int)) = true := rfl
    simp [e1, line6, hr, wipeE, e2, backE, es, e3, im, e4, hx.1, hy.1, line4, e5, ei, -rng1D_ap]
    simpa using e6
  · have hg : Giv (.tup (N.map D.int)) := giv_seq (.inr rfl) hgi (by simp; omega)
    obtain ⟨E, e6⟩ := ht _ d3 (some (.lst (N.map D.int))) (some (.int 2)) none none none none hg
    refine fin d3 (1 + k + 1) E (by omega) (g3.up (by omega)) ?_
    simp [e1, line6, hr, wipeE, e2, backE, es, e3, -rng1D_ap]
    exact e6
  · obtain ⟨v, d4, e4, hv, g4⟩ := one_ok (xs := [.non, .int 5, .str "1 2 3", .dct [], .lst [], .tup [.int 1, .int 2], .lst (cutL (N.map D.int) none (some 2)), .lst [.lst (N.map D.int)], .lst ((N.map D.int).reverse ++ [.int 0])]) g3 (by omega) (by simp) (by simp)
    have hg : Giv v := by
      simp only [List.mem_cons, List.not_mem_nil, or_false] at hv
      rcases hv with rfl | rfl | rfl | rfl | rfl | rfl | rfl | rfl | rfl
      · exact .inr ⟨.inl rfl, ⟨_, rfl, rfl, by decide, rfl, by decide⟩⟩
      · exact .inr ⟨.inr (.inl ⟨5, rfl⟩), rp_int (by decide)⟩
      · exact .inr ⟨.inr (.inr (.inl ⟨_, rfl⟩)), ⟨.str "1 2 3", rfl, rfl, by decide, by decide +kernel, by decide +kernel⟩⟩
      · exact .inr ⟨.inr (.inr (.inr rfl)), ⟨.dict [], rfl, rfl, by decide, rfl, by decide⟩⟩
      · exact giv_seq (xs := []) (.inl rfl) (fun u hu => absurd hu List.not_mem_nil) (by decide)
      · exact giv_seq (xs := [.int 1, .int 2]) (.inr rfl) (fun u hu => by
          simp only [List.mem_cons, List.not_mem_nil, or_false] at hu
          rcases hu with rfl | rfl
          · exact gi_int (by decide)
          · exact gi_int (by decide)) (by decide)
      · exact giv_seq (.inl rfl) (fun u hu => hgi u (List.mem_of_mem_drop (List.mem_of_mem_take hu))) (by unfold cutL; rw [List.length_take, List.length_drop, List.length_map]; omega)
      · exact giv_seq (xs := [.lst (N.map D.int)]) (.inl rfl) (fun u hu => by
          rw [List.mem_singleton.mp hu]
          exact ⟨rfl, rp_nest (by omega) fun v hv => tbn (hb' v hv)⟩) (by simp)
      · exact giv_seq (.inl rfl) (fun u hu => by
          rcases List.mem_append.mp hu with z | z
          · exact hgi u (List.mem_reverse.mp z)
          · rw [List.mem_singleton.mp z]; exact gi_int (by decide)) (by simp; omega)
    obtain ⟨E, e6⟩ := ht _ d4 (some (.lst (N.map D.int))) (some (.int 3)) none none none none hg
    have lineN : N.length + 1 ≤ sizeLine := line_le (by omega)
    have er : revD (.lst (N.map D.int)) = .ok (.lst (N.map D.int).reverse) := rfl
    refine fin d4 (1 + k + 1 + 1) E (by omega) (g4.up (by omega)) ?_
    simp [e1, line6, hr, wipeE, e2, backE, es, e3, e4, er, line0, line1, line2, line9, lineN, -rng1D_ap]
    exact e6
  · obtain ⟨E, e6⟩ := ht _ d3 (some (.lst (N.map D.int))) (some (.int 4)) none none none none plain
    refine fin d3 (1 + k + 1) E (by omega) (g3.up (by omega)) ?_
    simp [e1, line6, hr, wipeE, e2, backE, es, e3, -rng1D_ap]
    exact e6
  · obtain ⟨E, e6⟩ := ht _ d3 (some (.lst (N.map D.int))) (some (.int 5)) none none none none plain
    refine fin d3 (1 + k + 1) E (by omega) (g3.up (by omega)) ?_
    simp [e1, line6, hr, wipeE, e2, backE, es, e3, -rng1D_ap]
    exact e6
end Q

namespace Q
open PySem PySem.Spec PyProof.Rows L2 Dl
theorem cutL_map {L : List Int} {lo hi : Option Int} : cutL (L.map D.int) lo hi = (cutL L lo hi).map D.int := by
  unfold cutL
  rw [List.length_map, List.map_take, List.map_drop]
theorem hat_lp : ∀ (ns : List Int) (acc : List D) (a0 : Option D), acc.length + ns.length ≤ 100 → lcF [1] (bName 1) tYes1 (eN intC (aCons (eV 1) aNil)) (ns.map .int) acc [a0, none] = .ok (acc ++ ns.map D.int, [a0, none]) := by
  intro ns
  induction ns with
  | nil => intro acc a0 _; rw [List.map_nil, lcF_nil]; simp
  | cons v ns ih =>
    intro acc a0 h
    rw [List.length_cons] at h
    have line : acc.length < sizeLine := line_lt (by omega)
    have e := ih (acc ++ [.int v]) a0 (by simp; omega)
    rw [List.map_cons, lcF_cons]
    simp [line, wipeE, e]
theorem hat_ok (ns : List Int) : ∃ d, F__law_hat [.fro (ns.map .int)] = .ok d ∧ Hat 0 d := by
  have line3 : 3 ≤ sizeLine := line_le (by decide)
  have ec : cutL (ns.map D.int) none (some 60) = (ns.take 60).map D.int := by
    rw [cutL_map]
    congr 1
    unfold cutL
    rw [show (some (60 : Int)) = some ((60 : Nat) : Int) from rfl, HT.sIx_nat, HT.sIx_none, List.drop_zero, Nat.sub_zero]
    by_cases h : 60 ≤ ns.length
    · rw [Nat.min_eq_left h]
    · rw [Nat.min_eq_right (by omega), List.take_of_length_le (Nat.le_refl _), List.take_of_length_le (by omega)]
  have l60 : (ns.take 60).length ≤ 60 := by rw [List.length_take]; omega
  have e := hat_lp (ns.take 60) [] (some (.fro (ns.map .int))) (by simp; omega)
  refine ⟨.lst [.lst ((ns.take 60).map .int), .int 0, .int 0], ?_, ns.take 60, 0, 0, rfl, Int.le_refl _, by omega, Int.le_refl _, l60⟩
  rw [List.nil_append] at e
  simp only [F__law_hat, m__law_hat, runN_ap, startE_ap, List.map_cons, List.map_nil, List.length_cons, List.length_nil, List.replicate, List.cons_append, List.nil_append, retS_ap, eN_ap, aCons_ap, lcE_ap, iVal_ap, eSl_ap, eV_ap, List.getElem?_cons_zero, oV_ap, bind_ok', pNone_ap, pSome_ap, eC_ap, intO_ap, slP_fro, ec, valD_lst, wipeE, List.set_cons_succ, List.set_cons_zero, e, nox_ok, backE, aNil_ap]
  simp [line3]
def lapBody : SF := (seqS (ifS (tOr1 (tNot1 (tB1 (callM 1 1 F__law_fours_right aNil))) (tOr1 (tNot1 (tB1 (callM 1 1 F__law_threes_right aNil))) (tNot1 (tB1 (callM 1 1 F__law_rows_right aNil))))) (retS (eC (.bl false))) passS) (ifS (tOr1 (tNot1 (tB1 (callM 1 1 F__law_powers_right aNil))) (tNot1 (tB1 (callM 1 1 F__law_numbers_right aNil)))) (retS (eC (.bl false))) passS))
theorem m_law_eq : m_law = (seqS (asgS 1 (callF 1 F__law_hat (aCons (eV 0) aNil))) (seqS (forStm (iArg rng1D (aCons (eC (.int (3))) aNil)) (bName 2) lapBody) (retS (eC (.bl true))))) := rfl
theorem lap_ok {n : Nat} {d : D} {a0 a2 : Option D} (h : Hat n d) (hn : n ≤ 100000) : ∃ d', Hat (n + 1500) d' ∧ lapBody [a0, some d, a2] = .nx [a0, some d', a2] := by
  obtain ⟨d1, e1, g1⟩ := fours_ok h (by omega)
  obtain ⟨d2, e2, g2⟩ := threes_ok g1 (by omega)
  obtain ⟨d3, e3, g3⟩ := rows_ok g2 (by omega)
  obtain ⟨d4, e4, g4⟩ := powers_ok g3 (by omega)
  obtain ⟨d5, e5, g5⟩ := numbers_ok' g4 (by omega)
  refine ⟨d5, g5.up (by omega), ?_⟩
  simp [lapBody, e1, e2, e3, e4, e5]
theorem laps : ∀ (xs : List D) (n : Nat) (d : D) (a0 o2 : Option D), Hat n d → n + 1500 * xs.length ≤ 100000 →
    ∃ E, forS (bName 2) lapBody xs [a0, some d, o2] = .nx E := by
  intro xs
  induction xs with
  | nil => exact fun n d a0 o2 h hn => ⟨_, forS_nil⟩
  | cons x xs ih =>
    intro n d a0 o2 h hn
    rw [List.length_cons] at hn
    obtain ⟨d', h', e⟩ := lap_ok h (by omega) (a0 := a0) (a2 := some x)
    obtain ⟨E, e2⟩ := ih (n + 1500) d' a0 (some x) h' (by omega)
    refine ⟨E, ?_⟩
    rw [forS_cons]
    simp only [bName_ap, toS_ok, List.set_cons_succ, List.set_cons_zero, e, lp_nx]
    exact e2
theorem law_true (ns : List Int) (h : ns.length ≤ 63) : F_law [.fro (ns.map .int)] = .ok (.bl true) := by
  obtain ⟨d, e, hd⟩ := hat_ok ns
  obtain ⟨E, e2⟩ := laps (rng 0 3) 0 d (some (.fro (ns.map .int))) none hd (by rw [rng_len]; omega)
  have r3 : rng1D [.int 3] = .ok (rng 0 3) := rfl
  unfold F_law
  rw [m_law_eq]
  simp [e, r3, -rng1D_ap]
  rw [e2]
  simp
end Q

namespace Q
open PySem PySem.Spec PyProof.Rows L2 Dl
def mk_txt {K : PySem.W.Frag} {h : Heap} {mg : Str → Option Value} (X : K.In h) (G : h.Ns mainGlobals mg)
    {a_Denial__init__ : Addr} {od_Denial__init__ an_Denial__init__ : Option Addr} {sl_Denial__init__ : Array (Option Value)} {oc_Denial__init__ kV_Denial__init__ dc_Denial__init__ pm_Denial__init__ cd_Denial__init__ ct_Denial__init__ : Value}
    {a_NoWhole__init__ : Addr} {od_NoWhole__init__ an_NoWhole__init__ : Option Addr} {sl_NoWhole__init__ : Array (Option Value)} {oc_NoWhole__init__ kV_NoWhole__init__ dc_NoWhole__init__ pm_NoWhole__init__ cd_NoWhole__init__ ct_NoWhole__init__ : Value}
    {a_Paper__init__ : Addr} {od_Paper__init__ an_Paper__init__ : Option Addr} {sl_Paper__init__ : Array (Option Value)} {oc_Paper__init__ kV_Paper__init__ dc_Paper__init__ pm_Paper__init__ cd_Paper__init__ ct_Paper__init__ : Value}
    {a_Whole__init__ : Addr} {od_Whole__init__ an_Whole__init__ : Option Addr} {sl_Whole__init__ : Array (Option Value)} {oc_Whole__init__ kV_Whole__init__ dc_Whole__init__ pm_Whole__init__ cd_Whole__init__ ct_Whole__init__ : Value}
    {a_Between__init__ : Addr} {od_Between__init__ an_Between__init__ : Option Addr} {sl_Between__init__ : Array (Option Value)} {oc_Between__init__ kV_Between__init__ dc_Between__init__ pm_Between__init__ cd_Between__init__ ct_Between__init__ : Value}
    {a_ByPower__init__ : Addr} {od_ByPower__init__ an_ByPower__init__ : Option Addr} {sl_ByPower__init__ : Array (Option Value)} {oc_ByPower__init__ kV_ByPower__init__ dc_ByPower__init__ pm_ByPower__init__ cd_ByPower__init__ ct_ByPower__init__ : Value}
    {a_Uneven__init__ : Addr} {od_Uneven__init__ an_Uneven__init__ : Option Addr} {sl_Uneven__init__ : Array (Option Value)} {oc_Uneven__init__ kV_Uneven__init__ dc_Uneven__init__ pm_Uneven__init__ cd_Uneven__init__ ct_Uneven__init__ : Value}
    {a_BadNumber__init__ : Addr} {od_BadNumber__init__ an_BadNumber__init__ : Option Addr} {sl_BadNumber__init__ : Array (Option Value)} {oc_BadNumber__init__ kV_BadNumber__init__ dc_BadNumber__init__ pm_BadNumber__init__ cd_BadNumber__init__ ct_BadNumber__init__ : Value}
    {a_Denial : Addr} (h1_Denial : PySem.W.nsIn K mainGlobals "Denial" = some (some (.ref a_Denial)))
    {a_Paper : Addr} (h1_Paper : PySem.W.nsIn K mainGlobals "Paper" = some (some (.ref a_Paper)))
    {a_NoWhole : Addr} (h1_NoWhole : PySem.W.nsIn K mainGlobals "NoWhole" = some (some (.ref a_NoWhole)))
    {a_Whole : Addr} (h1_Whole : PySem.W.nsIn K mainGlobals "Whole" = some (some (.ref a_Whole)))
    {a_Between : Addr} (h1_Between : PySem.W.nsIn K mainGlobals "Between" = some (some (.ref a_Between)))
    {a_ByPower : Addr} (h1_ByPower : PySem.W.nsIn K mainGlobals "ByPower" = some (some (.ref a_ByPower)))
    {a_Uneven : Addr} (h1_Uneven : PySem.W.nsIn K mainGlobals "Uneven" = some (some (.ref a_Uneven)))
    (h0_Denial__init__ : PySem.W.isFn K (.ref a_Denial__init__) = true)
    (h2_Denial__init__ : K.lookup a_Denial__init__ = some ⟨oc_Denial__init__, od_Denial__init__, .func (PySem.W.fnOf "__init__" "Denial.__init__" (defArgs s_Denial__init__) (defBody s_Denial__init__) (defScope s_Denial__init__) .none kV_Denial__init__ dc_Denial__init__ pm_Denial__init__ an_Denial__init__ cd_Denial__init__ ct_Denial__init__), sl_Denial__init__⟩)
    (h3_Denial__init__ : PySem.W.codeIn K cd_Denial__init__ "Denial.__init__" = true)
    (h4_Denial__init__ : PySem.W.keepIn K (.ref a_Denial__init__) = true)
    (h0_NoWhole__init__ : PySem.W.isFn K (.ref a_NoWhole__init__) = true)
    (h2_NoWhole__init__ : K.lookup a_NoWhole__init__ = some ⟨oc_NoWhole__init__, od_NoWhole__init__, .func (PySem.W.fnOf "__init__" "NoWhole.__init__" (defArgs s_NoWhole__init__) (defBody s_NoWhole__init__) (defScope s_NoWhole__init__) .none kV_NoWhole__init__ dc_NoWhole__init__ pm_NoWhole__init__ an_NoWhole__init__ cd_NoWhole__init__ ct_NoWhole__init__), sl_NoWhole__init__⟩)
    (h3_NoWhole__init__ : PySem.W.codeIn K cd_NoWhole__init__ "NoWhole.__init__" = true)
    (h4_NoWhole__init__ : PySem.W.keepIn K (.ref a_NoWhole__init__) = true)
    (h0_Paper__init__ : PySem.W.isFn K (.ref a_Paper__init__) = true)
    (h2_Paper__init__ : K.lookup a_Paper__init__ = some ⟨oc_Paper__init__, od_Paper__init__, .func (PySem.W.fnOf "__init__" "Paper.__init__" (defArgs s_Paper__init__) (defBody s_Paper__init__) (defScope s_Paper__init__) .none kV_Paper__init__ dc_Paper__init__ pm_Paper__init__ an_Paper__init__ cd_Paper__init__ ct_Paper__init__), sl_Paper__init__⟩)
    (h3_Paper__init__ : PySem.W.codeIn K cd_Paper__init__ "Paper.__init__" = true)
    (h4_Paper__init__ : PySem.W.keepIn K (.ref a_Paper__init__) = true)
    (h0_Whole__init__ : PySem.W.isFn K (.ref a_Whole__init__) = true)
    (h2_Whole__init__ : K.lookup a_Whole__init__ = some ⟨oc_Whole__init__, od_Whole__init__, .func (PySem.W.fnOf "__init__" "Whole.__init__" (defArgs s_Whole__init__) (defBody s_Whole__init__) (defScope s_Whole__init__) .none kV_Whole__init__ dc_Whole__init__ pm_Whole__init__ an_Whole__init__ cd_Whole__init__ ct_Whole__init__), sl_Whole__init__⟩)
    (h3_Whole__init__ : PySem.W.codeIn K cd_Whole__init__ "Whole.__init__" = true)
    (h4_Whole__init__ : PySem.W.keepIn K (.ref a_Whole__init__) = true)
    (h0_Between__init__ : PySem.W.isFn K (.ref a_Between__init__) = true)
    (h2_Between__init__ : K.lookup a_Between__init__ = some ⟨oc_Between__init__, od_Between__init__, .func (PySem.W.fnOf "__init__" "Between.__init__" (defArgs s_Between__init__) (defBody s_Between__init__) (defScope s_Between__init__) .none kV_Between__init__ dc_Between__init__ pm_Between__init__ an_Between__init__ cd_Between__init__ ct_Between__init__), sl_Between__init__⟩)
    (h3_Between__init__ : PySem.W.codeIn K cd_Between__init__ "Between.__init__" = true)
    (h4_Between__init__ : PySem.W.keepIn K (.ref a_Between__init__) = true)
    (h0_ByPower__init__ : PySem.W.isFn K (.ref a_ByPower__init__) = true)
    (h2_ByPower__init__ : K.lookup a_ByPower__init__ = some ⟨oc_ByPower__init__, od_ByPower__init__, .func (PySem.W.fnOf "__init__" "ByPower.__init__" (defArgs s_ByPower__init__) (defBody s_ByPower__init__) (defScope s_ByPower__init__) .none kV_ByPower__init__ dc_ByPower__init__ pm_ByPower__init__ an_ByPower__init__ cd_ByPower__init__ ct_ByPower__init__), sl_ByPower__init__⟩)
    (h3_ByPower__init__ : PySem.W.codeIn K cd_ByPower__init__ "ByPower.__init__" = true)
    (h4_ByPower__init__ : PySem.W.keepIn K (.ref a_ByPower__init__) = true)
    (h0_Uneven__init__ : PySem.W.isFn K (.ref a_Uneven__init__) = true)
    (h2_Uneven__init__ : K.lookup a_Uneven__init__ = some ⟨oc_Uneven__init__, od_Uneven__init__, .func (PySem.W.fnOf "__init__" "Uneven.__init__" (defArgs s_Uneven__init__) (defBody s_Uneven__init__) (defScope s_Uneven__init__) .none kV_Uneven__init__ dc_Uneven__init__ pm_Uneven__init__ an_Uneven__init__ cd_Uneven__init__ ct_Uneven__init__), sl_Uneven__init__⟩)
    (h3_Uneven__init__ : PySem.W.codeIn K cd_Uneven__init__ "Uneven.__init__" = true)
    (h4_Uneven__init__ : PySem.W.keepIn K (.ref a_Uneven__init__) = true)
    (h0_BadNumber__init__ : PySem.W.isFn K (.ref a_BadNumber__init__) = true)
    (h2_BadNumber__init__ : K.lookup a_BadNumber__init__ = some ⟨oc_BadNumber__init__, od_BadNumber__init__, .func (PySem.W.fnOf "__init__" "BadNumber.__init__" (defArgs s_BadNumber__init__) (defBody s_BadNumber__init__) (defScope s_BadNumber__init__) .none kV_BadNumber__init__ dc_BadNumber__init__ pm_BadNumber__init__ an_BadNumber__init__ cd_BadNumber__init__ ct_BadNumber__init__), sl_BadNumber__init__⟩)
    (h3_BadNumber__init__ : PySem.W.codeIn K cd_BadNumber__init__ "BadNumber.__init__" = true)
    (h4_BadNumber__init__ : PySem.W.keepIn K (.ref a_BadNumber__init__) = true)
    (pg_Denial : PySem.W.plainGet K a_Denial Str.empty = true)
    (hd_Denial : PySem.W.hasDictIn K a_Denial = true)
    (po_Denial : PySem.W.plainOver K a_Denial = true)
    (sa_Denial : PySem.W.findIn K (.ref a_Denial) "__setattr__" = some (some (.builtin "object.__setattr__")))
    (mk_Denial : PySem.W.makesIn K a_Denial = true)
    (kc_Denial : PySem.W.keepIn K (.ref a_Denial) = true)
    (ha_Denial : PySem.W.findIn K (.ref a_Denial) "__class__" = some (some (.builtin "object.__class__")))
    (hm_Denial : PySem.W.mroIn K a_Denial (.type "object") = some true)
    (na_Denial_low : PySem.W.findIn K (.ref a_Denial) "low" = some none)
    (na_Denial_number : PySem.W.findIn K (.ref a_Denial) "number" = some none)
    (na_Denial_parts : PySem.W.findIn K (.ref a_Denial) "parts" = some none)
    (na_Denial_power : PySem.W.findIn K (.ref a_Denial) "power" = some none)
    (na_Denial_step : PySem.W.findIn K (.ref a_Denial) "step" = some none)
    (na_Denial_word : PySem.W.findIn K (.ref a_Denial) "word" = some none)
    (mi_Denial : PySem.W.findIn K (.ref a_Denial) "__init__" = some (some (.ref a_Denial__init__)))
    (r1_Denial : PySem.W.readsIn K a_Denial (.type "type") = true)
    (r2_Denial : PySem.W.specialIn K (.ref a_Denial) "__getattribute__" = some (some (.builtin "type.__getattribute__")))
    (r3_Denial__init__ : PySem.W.findCls K (.ref a_Denial) (.type "type") "__init__" = some (.val (.ref a_Denial__init__)))
    (is_Denial_Denial : PySem.W.kitOne K (.ref a_Denial) (.ref a_Denial) = some true)
    (is_Denial_Paper : PySem.W.kitOne K (.ref a_Denial) (.ref a_Paper) = some true)
    (is_Denial_NoWhole : PySem.W.kitOne K (.ref a_Denial) (.ref a_NoWhole) = some false)
    (is_Denial_Whole : PySem.W.kitOne K (.ref a_Denial) (.ref a_Whole) = some false)
    (is_Denial_Between : PySem.W.kitOne K (.ref a_Denial) (.ref a_Between) = some false)
    (is_Denial_ByPower : PySem.W.kitOne K (.ref a_Denial) (.ref a_ByPower) = some false)
    (is_Denial_Uneven : PySem.W.kitOne K (.ref a_Denial) (.ref a_Uneven) = some false)
    (pg_Paper : PySem.W.plainGet K a_Paper Str.empty = true)
    (hd_Paper : PySem.W.hasDictIn K a_Paper = true)
    (po_Paper : PySem.W.plainOver K a_Paper = true)
    (sa_Paper : PySem.W.findIn K (.ref a_Paper) "__setattr__" = some (some (.builtin "object.__setattr__")))
    (mk_Paper : PySem.W.makesIn K a_Paper = true)
    (kc_Paper : PySem.W.keepIn K (.ref a_Paper) = true)
    (ha_Paper : PySem.W.findIn K (.ref a_Paper) "__class__" = some (some (.builtin "object.__class__")))
    (hm_Paper : PySem.W.mroIn K a_Paper (.type "object") = some true)
    (na_Paper_low : PySem.W.findIn K (.ref a_Paper) "low" = some none)
    (na_Paper_number : PySem.W.findIn K (.ref a_Paper) "number" = some none)
    (na_Paper_parts : PySem.W.findIn K (.ref a_Paper) "parts" = some none)
    (na_Paper_power : PySem.W.findIn K (.ref a_Paper) "power" = some none)
    (na_Paper_step : PySem.W.findIn K (.ref a_Paper) "step" = some none)
    (na_Paper_word : PySem.W.findIn K (.ref a_Paper) "word" = some none)
    (mi_Paper : PySem.W.findIn K (.ref a_Paper) "__init__" = some (some (.ref a_Paper__init__)))
    (r1_Paper : PySem.W.readsIn K a_Paper (.type "type") = true)
    (r2_Paper : PySem.W.specialIn K (.ref a_Paper) "__getattribute__" = some (some (.builtin "type.__getattribute__")))
    (r3_Paper__init__ : PySem.W.findCls K (.ref a_Paper) (.type "type") "__init__" = some (.val (.ref a_Paper__init__)))
    (is_Paper_Denial : PySem.W.kitOne K (.ref a_Paper) (.ref a_Denial) = some false)
    (is_Paper_Paper : PySem.W.kitOne K (.ref a_Paper) (.ref a_Paper) = some true)
    (is_Paper_NoWhole : PySem.W.kitOne K (.ref a_Paper) (.ref a_NoWhole) = some false)
    (is_Paper_Whole : PySem.W.kitOne K (.ref a_Paper) (.ref a_Whole) = some false)
    (is_Paper_Between : PySem.W.kitOne K (.ref a_Paper) (.ref a_Between) = some false)
    (is_Paper_ByPower : PySem.W.kitOne K (.ref a_Paper) (.ref a_ByPower) = some false)
    (is_Paper_Uneven : PySem.W.kitOne K (.ref a_Paper) (.ref a_Uneven) = some false)
    (pg_NoWhole : PySem.W.plainGet K a_NoWhole Str.empty = true)
    (hd_NoWhole : PySem.W.hasDictIn K a_NoWhole = true)
    (po_NoWhole : PySem.W.plainOver K a_NoWhole = true)
    (sa_NoWhole : PySem.W.findIn K (.ref a_NoWhole) "__setattr__" = some (some (.builtin "object.__setattr__")))
    (mk_NoWhole : PySem.W.makesIn K a_NoWhole = true)
    (kc_NoWhole : PySem.W.keepIn K (.ref a_NoWhole) = true)
    (ha_NoWhole : PySem.W.findIn K (.ref a_NoWhole) "__class__" = some (some (.builtin "object.__class__")))
    (hm_NoWhole : PySem.W.mroIn K a_NoWhole (.type "object") = some true)
    (na_NoWhole_low : PySem.W.findIn K (.ref a_NoWhole) "low" = some none)
    (na_NoWhole_number : PySem.W.findIn K (.ref a_NoWhole) "number" = some none)
    (na_NoWhole_parts : PySem.W.findIn K (.ref a_NoWhole) "parts" = some none)
    (na_NoWhole_power : PySem.W.findIn K (.ref a_NoWhole) "power" = some none)
    (na_NoWhole_step : PySem.W.findIn K (.ref a_NoWhole) "step" = some none)
    (na_NoWhole_word : PySem.W.findIn K (.ref a_NoWhole) "word" = some none)
    (mi_NoWhole : PySem.W.findIn K (.ref a_NoWhole) "__init__" = some (some (.ref a_NoWhole__init__)))
    (is_NoWhole_Denial : PySem.W.kitOne K (.ref a_NoWhole) (.ref a_Denial) = some true)
    (is_NoWhole_Paper : PySem.W.kitOne K (.ref a_NoWhole) (.ref a_Paper) = some true)
    (is_NoWhole_NoWhole : PySem.W.kitOne K (.ref a_NoWhole) (.ref a_NoWhole) = some true)
    (is_NoWhole_Whole : PySem.W.kitOne K (.ref a_NoWhole) (.ref a_Whole) = some false)
    (is_NoWhole_Between : PySem.W.kitOne K (.ref a_NoWhole) (.ref a_Between) = some false)
    (is_NoWhole_ByPower : PySem.W.kitOne K (.ref a_NoWhole) (.ref a_ByPower) = some false)
    (is_NoWhole_Uneven : PySem.W.kitOne K (.ref a_NoWhole) (.ref a_Uneven) = some false)
    (pg_Whole : PySem.W.plainGet K a_Whole Str.empty = true)
    (hd_Whole : PySem.W.hasDictIn K a_Whole = true)
    (po_Whole : PySem.W.plainOver K a_Whole = true)
    (sa_Whole : PySem.W.findIn K (.ref a_Whole) "__setattr__" = some (some (.builtin "object.__setattr__")))
    (mk_Whole : PySem.W.makesIn K a_Whole = true)
    (kc_Whole : PySem.W.keepIn K (.ref a_Whole) = true)
    (ha_Whole : PySem.W.findIn K (.ref a_Whole) "__class__" = some (some (.builtin "object.__class__")))
    (hm_Whole : PySem.W.mroIn K a_Whole (.type "object") = some true)
    (na_Whole_low : PySem.W.findIn K (.ref a_Whole) "low" = some none)
    (na_Whole_number : PySem.W.findIn K (.ref a_Whole) "number" = some none)
    (na_Whole_parts : PySem.W.findIn K (.ref a_Whole) "parts" = some none)
    (na_Whole_power : PySem.W.findIn K (.ref a_Whole) "power" = some none)
    (na_Whole_step : PySem.W.findIn K (.ref a_Whole) "step" = some none)
    (na_Whole_word : PySem.W.findIn K (.ref a_Whole) "word" = some none)
    (mi_Whole : PySem.W.findIn K (.ref a_Whole) "__init__" = some (some (.ref a_Whole__init__)))
    (is_Whole_Denial : PySem.W.kitOne K (.ref a_Whole) (.ref a_Denial) = some false)
    (is_Whole_Paper : PySem.W.kitOne K (.ref a_Whole) (.ref a_Paper) = some true)
    (is_Whole_NoWhole : PySem.W.kitOne K (.ref a_Whole) (.ref a_NoWhole) = some false)
    (is_Whole_Whole : PySem.W.kitOne K (.ref a_Whole) (.ref a_Whole) = some true)
    (is_Whole_Between : PySem.W.kitOne K (.ref a_Whole) (.ref a_Between) = some false)
    (is_Whole_ByPower : PySem.W.kitOne K (.ref a_Whole) (.ref a_ByPower) = some false)
    (is_Whole_Uneven : PySem.W.kitOne K (.ref a_Whole) (.ref a_Uneven) = some false)
    (pg_Between : PySem.W.plainGet K a_Between Str.empty = true)
    (hd_Between : PySem.W.hasDictIn K a_Between = true)
    (po_Between : PySem.W.plainOver K a_Between = true)
    (sa_Between : PySem.W.findIn K (.ref a_Between) "__setattr__" = some (some (.builtin "object.__setattr__")))
    (mk_Between : PySem.W.makesIn K a_Between = true)
    (kc_Between : PySem.W.keepIn K (.ref a_Between) = true)
    (ha_Between : PySem.W.findIn K (.ref a_Between) "__class__" = some (some (.builtin "object.__class__")))
    (hm_Between : PySem.W.mroIn K a_Between (.type "object") = some true)
    (na_Between_low : PySem.W.findIn K (.ref a_Between) "low" = some none)
    (na_Between_number : PySem.W.findIn K (.ref a_Between) "number" = some none)
    (na_Between_parts : PySem.W.findIn K (.ref a_Between) "parts" = some none)
    (na_Between_power : PySem.W.findIn K (.ref a_Between) "power" = some none)
    (na_Between_step : PySem.W.findIn K (.ref a_Between) "step" = some none)
    (na_Between_word : PySem.W.findIn K (.ref a_Between) "word" = some none)
    (mi_Between : PySem.W.findIn K (.ref a_Between) "__init__" = some (some (.ref a_Between__init__)))
    (is_Between_Denial : PySem.W.kitOne K (.ref a_Between) (.ref a_Denial) = some true)
    (is_Between_Paper : PySem.W.kitOne K (.ref a_Between) (.ref a_Paper) = some true)
    (is_Between_NoWhole : PySem.W.kitOne K (.ref a_Between) (.ref a_NoWhole) = some false)
    (is_Between_Whole : PySem.W.kitOne K (.ref a_Between) (.ref a_Whole) = some false)
    (is_Between_Between : PySem.W.kitOne K (.ref a_Between) (.ref a_Between) = some true)
    (is_Between_ByPower : PySem.W.kitOne K (.ref a_Between) (.ref a_ByPower) = some false)
    (is_Between_Uneven : PySem.W.kitOne K (.ref a_Between) (.ref a_Uneven) = some false)
    (pg_ByPower : PySem.W.plainGet K a_ByPower Str.empty = true)
    (hd_ByPower : PySem.W.hasDictIn K a_ByPower = true)
    (po_ByPower : PySem.W.plainOver K a_ByPower = true)
    (sa_ByPower : PySem.W.findIn K (.ref a_ByPower) "__setattr__" = some (some (.builtin "object.__setattr__")))
    (mk_ByPower : PySem.W.makesIn K a_ByPower = true)
    (kc_ByPower : PySem.W.keepIn K (.ref a_ByPower) = true)
    (ha_ByPower : PySem.W.findIn K (.ref a_ByPower) "__class__" = some (some (.builtin "object.__class__")))
    (hm_ByPower : PySem.W.mroIn K a_ByPower (.type "object") = some true)
    (na_ByPower_low : PySem.W.findIn K (.ref a_ByPower) "low" = some none)
    (na_ByPower_number : PySem.W.findIn K (.ref a_ByPower) "number" = some none)
    (na_ByPower_parts : PySem.W.findIn K (.ref a_ByPower) "parts" = some none)
    (na_ByPower_power : PySem.W.findIn K (.ref a_ByPower) "power" = some none)
    (na_ByPower_step : PySem.W.findIn K (.ref a_ByPower) "step" = some none)
    (na_ByPower_word : PySem.W.findIn K (.ref a_ByPower) "word" = some none)
    (mi_ByPower : PySem.W.findIn K (.ref a_ByPower) "__init__" = some (some (.ref a_ByPower__init__)))
    (is_ByPower_Denial : PySem.W.kitOne K (.ref a_ByPower) (.ref a_Denial) = some false)
    (is_ByPower_Paper : PySem.W.kitOne K (.ref a_ByPower) (.ref a_Paper) = some true)
    (is_ByPower_NoWhole : PySem.W.kitOne K (.ref a_ByPower) (.ref a_NoWhole) = some false)
    (is_ByPower_Whole : PySem.W.kitOne K (.ref a_ByPower) (.ref a_Whole) = some false)
    (is_ByPower_Between : PySem.W.kitOne K (.ref a_ByPower) (.ref a_Between) = some false)
    (is_ByPower_ByPower : PySem.W.kitOne K (.ref a_ByPower) (.ref a_ByPower) = some true)
    (is_ByPower_Uneven : PySem.W.kitOne K (.ref a_ByPower) (.ref a_Uneven) = some false)
    (pg_Uneven : PySem.W.plainGet K a_Uneven Str.empty = true)
    (hd_Uneven : PySem.W.hasDictIn K a_Uneven = true)
    (po_Uneven : PySem.W.plainOver K a_Uneven = true)
    (sa_Uneven : PySem.W.findIn K (.ref a_Uneven) "__setattr__" = some (some (.builtin "object.__setattr__")))
    (mk_Uneven : PySem.W.makesIn K a_Uneven = true)
    (kc_Uneven : PySem.W.keepIn K (.ref a_Uneven) = true)
    (ha_Uneven : PySem.W.findIn K (.ref a_Uneven) "__class__" = some (some (.builtin "object.__class__")))
    (hm_Uneven : PySem.W.mroIn K a_Uneven (.type "object") = some true)
    (na_Uneven_low : PySem.W.findIn K (.ref a_Uneven) "low" = some none)
    (na_Uneven_number : PySem.W.findIn K (.ref a_Uneven) "number" = some none)
    (na_Uneven_parts : PySem.W.findIn K (.ref a_Uneven) "parts" = some none)
    (na_Uneven_power : PySem.W.findIn K (.ref a_Uneven) "power" = some none)
    (na_Uneven_step : PySem.W.findIn K (.ref a_Uneven) "step" = some none)
    (na_Uneven_word : PySem.W.findIn K (.ref a_Uneven) "word" = some none)
    (mi_Uneven : PySem.W.findIn K (.ref a_Uneven) "__init__" = some (some (.ref a_Uneven__init__)))
    (is_Uneven_Denial : PySem.W.kitOne K (.ref a_Uneven) (.ref a_Denial) = some true)
    (is_Uneven_Paper : PySem.W.kitOne K (.ref a_Uneven) (.ref a_Paper) = some true)
    (is_Uneven_NoWhole : PySem.W.kitOne K (.ref a_Uneven) (.ref a_NoWhole) = some false)
    (is_Uneven_Whole : PySem.W.kitOne K (.ref a_Uneven) (.ref a_Whole) = some false)
    (is_Uneven_Between : PySem.W.kitOne K (.ref a_Uneven) (.ref a_Between) = some false)
    (is_Uneven_ByPower : PySem.W.kitOne K (.ref a_Uneven) (.ref a_ByPower) = some false)
    (is_Uneven_Uneven : PySem.W.kitOne K (.ref a_Uneven) (.ref a_Uneven) = some true)
    (hn_ : PySem.W.specialIn K (.builtin "object.__class__") "__get__" = some (some (.builtin "getset_descriptor.__get__")))
    (ht_ : PySem.W.takesIn K (.builtin "object.__class__") = some true)
    {a_LikeError : Addr} (h1_LikeError : PySem.W.nsIn K mainGlobals "LikeError" = some (some (.ref a_LikeError)))
    {a_BadNumber : Addr} (h1_BadNumber : PySem.W.nsIn K mainGlobals "BadNumber" = some (some (.ref a_BadNumber)))
    {nm_BadNumber q_BadNumber : Str} {N_BadNumber : Addr} {bs_BadNumber : List Value} {sn_BadNumber : List Str} {su_BadNumber : List Value} {ab_BadNumber : Bool} {co_BadNumber : Option Bool} {dd_BadNumber : Option Addr} {k0_BadNumber k1_BadNumber k2_BadNumber k3_BadNumber k5_BadNumber : Option Value}
    (xL_BadNumber : K.lookup a_BadNumber = some (excClassObj nm_BadNumber q_BadNumber a_BadNumber N_BadNumber bs_BadNumber [.ref a_LikeError, .type "ValueError", .type "Exception", .type "BaseException", .type "object"] true sn_BadNumber su_BadNumber ab_BadNumber co_BadNumber dd_BadNumber k0_BadNumber k1_BadNumber k2_BadNumber k3_BadNumber k5_BadNumber "ValueError.__new__"))
    (xs_BadNumber : PySem.W.findIn K (.ref a_BadNumber) "__setattr__" = some (some (.builtin "object.__setattr__")))
    (xb_BadNumber : PySem.W.subIn K (.ref a_BadNumber) (.type "BaseException") = some true)
    (xt_BadNumber : PySem.W.typeIn K (.ref a_BadNumber) = some (.type "type"))
    (xk_BadNumber : PySem.W.keepIn K (.ref a_BadNumber) = true)
    (xga_BadNumber : PySem.W.findIn K (.ref a_BadNumber) "__getattribute__" = some (some (.builtin "BaseException.__getattribute__")))
    (xgg_BadNumber : PySem.W.findIn K (.ref a_BadNumber) "__getattr__" = some none)
    (xhd_BadNumber : PySem.W.hasDictIn K a_BadNumber = true)
    (xcl_BadNumber : PySem.W.isClsIn K a_BadNumber = true)
    (xca_BadNumber : PySem.W.findIn K (.ref a_BadNumber) "__class__" = some (some (.builtin "object.__class__")))
    (xmr_BadNumber : PySem.W.mroIn K a_BadNumber (.type "object") = some true)
    (xi_BadNumber : PySem.W.findIn K (.ref a_BadNumber) "__init__" = some (some (.ref a_BadNumber__init__)))
    (xti_BadNumber : PySem.W.typeIn K (.ref a_BadNumber__init__) = some (.type "function"))
    (xn_BadNumber_part : PySem.W.findIn K (.ref a_BadNumber) "part" = some none)
    (yb_LikeError : PySem.W.subIn K (.ref a_LikeError) (.type "BaseException") = some true)
    (yi_LikeError : PySem.W.isClsIn K a_LikeError = true)
    (yt_LikeError : PySem.W.typeIn K (.ref a_LikeError) = some (.type "type"))
    (ys_BadNumber_LikeError : PySem.W.subIn K (.ref a_BadNumber) (.ref a_LikeError) = some true)
    (is_xBadNumber_BadNumber : PySem.W.kitOne K (.ref a_BadNumber) (.ref a_BadNumber) = some true)
    {a__law_hat : Addr} {od__law_hat an__law_hat : Option Addr} {sl__law_hat : Array (Option Value)} {oc__law_hat kV__law_hat dc__law_hat pm__law_hat cd__law_hat ct__law_hat : Value}
    (h1__law_hat : PySem.W.nsIn K mainGlobals "_law_hat" = some (some (.ref a__law_hat)))
    (h2__law_hat : K.lookup a__law_hat = some ⟨oc__law_hat, od__law_hat, .func (PySem.W.fnOf "_law_hat" "_law_hat" (defArgs s__law_hat) (defBody s__law_hat) (defScope s__law_hat) .none kV__law_hat dc__law_hat pm__law_hat an__law_hat cd__law_hat ct__law_hat), sl__law_hat⟩)
    (h3__law_hat : PySem.W.codeIn K cd__law_hat "_law_hat" = true)
    (h4__law_hat : PySem.W.keepIn K (.ref a__law_hat) = true)
    {a__law_lot : Addr} {od__law_lot an__law_lot : Option Addr} {sl__law_lot : Array (Option Value)} {oc__law_lot kV__law_lot dc__law_lot pm__law_lot cd__law_lot ct__law_lot : Value}
    (h1__law_lot : PySem.W.nsIn K mainGlobals "_law_lot" = some (some (.ref a__law_lot)))
    (h2__law_lot : K.lookup a__law_lot = some ⟨oc__law_lot, od__law_lot, .func (PySem.W.fnOf "_law_lot" "_law_lot" (defArgs s__law_lot) (defBody s__law_lot) (defScope s__law_lot) .none kV__law_lot dc__law_lot pm__law_lot an__law_lot cd__law_lot ct__law_lot), sl__law_lot⟩)
    (h3__law_lot : PySem.W.codeIn K cd__law_lot "_law_lot" = true)
    (h4__law_lot : PySem.W.keepIn K (.ref a__law_lot) = true)
    {a__law_one : Addr} {od__law_one an__law_one : Option Addr} {sl__law_one : Array (Option Value)} {oc__law_one kV__law_one dc__law_one pm__law_one cd__law_one ct__law_one : Value}
    (h1__law_one : PySem.W.nsIn K mainGlobals "_law_one" = some (some (.ref a__law_one)))
    (h2__law_one : K.lookup a__law_one = some ⟨oc__law_one, od__law_one, .func (PySem.W.fnOf "_law_one" "_law_one" (defArgs s__law_one) (defBody s__law_one) (defScope s__law_one) .none kV__law_one dc__law_one pm__law_one an__law_one cd__law_one ct__law_one), sl__law_one⟩)
    (h3__law_one : PySem.W.codeIn K cd__law_one "_law_one" = true)
    (h4__law_one : PySem.W.keepIn K (.ref a__law_one) = true)
    {a__law_bad : Addr} {od__law_bad an__law_bad : Option Addr} {sl__law_bad : Array (Option Value)} {oc__law_bad kV__law_bad dc__law_bad pm__law_bad cd__law_bad ct__law_bad : Value}
    (h1__law_bad : PySem.W.nsIn K mainGlobals "_law_bad" = some (some (.ref a__law_bad)))
    (h2__law_bad : K.lookup a__law_bad = some ⟨oc__law_bad, od__law_bad, .func (PySem.W.fnOf "_law_bad" "_law_bad" (defArgs s__law_bad) (defBody s__law_bad) (defScope s__law_bad) .none kV__law_bad dc__law_bad pm__law_bad an__law_bad cd__law_bad ct__law_bad), sl__law_bad⟩)
    (h3__law_bad : PySem.W.codeIn K cd__law_bad "_law_bad" = true)
    (h4__law_bad : PySem.W.keepIn K (.ref a__law_bad) = true)
    {a__law_good : Addr} {od__law_good an__law_good : Option Addr} {sl__law_good : Array (Option Value)} {oc__law_good kV__law_good dc__law_good pm__law_good cd__law_good ct__law_good : Value}
    (h1__law_good : PySem.W.nsIn K mainGlobals "_law_good" = some (some (.ref a__law_good)))
    (h2__law_good : K.lookup a__law_good = some ⟨oc__law_good, od__law_good, .func (PySem.W.fnOf "_law_good" "_law_good" (defArgs s__law_good) (defBody s__law_good) (defScope s__law_good) .none kV__law_good dc__law_good pm__law_good an__law_good cd__law_good ct__law_good), sl__law_good⟩)
    (h3__law_good : PySem.W.codeIn K cd__law_good "_law_good" = true)
    (h4__law_good : PySem.W.keepIn K (.ref a__law_good) = true)
    {a__law_within : Addr} {od__law_within an__law_within : Option Addr} {sl__law_within : Array (Option Value)} {oc__law_within kV__law_within dc__law_within pm__law_within cd__law_within ct__law_within : Value}
    (h1__law_within : PySem.W.nsIn K mainGlobals "_law_within" = some (some (.ref a__law_within)))
    (h2__law_within : K.lookup a__law_within = some ⟨oc__law_within, od__law_within, .func (PySem.W.fnOf "_law_within" "_law_within" (defArgs s__law_within) (defBody s__law_within) (defScope s__law_within) .none kV__law_within dc__law_within pm__law_within an__law_within cd__law_within ct__law_within), sl__law_within⟩)
    (h3__law_within : PySem.W.codeIn K cd__law_within "_law_within" = true)
    (h4__law_within : PySem.W.keepIn K (.ref a__law_within) = true)
    {a__law_spoilt : Addr} {od__law_spoilt an__law_spoilt : Option Addr} {sl__law_spoilt : Array (Option Value)} {oc__law_spoilt kV__law_spoilt dc__law_spoilt pm__law_spoilt cd__law_spoilt ct__law_spoilt : Value}
    (h1__law_spoilt : PySem.W.nsIn K mainGlobals "_law_spoilt" = some (some (.ref a__law_spoilt)))
    (h2__law_spoilt : K.lookup a__law_spoilt = some ⟨oc__law_spoilt, od__law_spoilt, .func (PySem.W.fnOf "_law_spoilt" "_law_spoilt" (defArgs s__law_spoilt) (defBody s__law_spoilt) (defScope s__law_spoilt) .none kV__law_spoilt dc__law_spoilt pm__law_spoilt an__law_spoilt cd__law_spoilt ct__law_spoilt), sl__law_spoilt⟩)
    (h3__law_spoilt : PySem.W.codeIn K cd__law_spoilt "_law_spoilt" = true)
    (h4__law_spoilt : PySem.W.keepIn K (.ref a__law_spoilt) = true)
    {a__law_heard : Addr} {od__law_heard an__law_heard : Option Addr} {sl__law_heard : Array (Option Value)} {oc__law_heard kV__law_heard dc__law_heard pm__law_heard cd__law_heard ct__law_heard : Value}
    (h1__law_heard : PySem.W.nsIn K mainGlobals "_law_heard" = some (some (.ref a__law_heard)))
    (h2__law_heard : K.lookup a__law_heard = some ⟨oc__law_heard, od__law_heard, .func (PySem.W.fnOf "_law_heard" "_law_heard" (defArgs s__law_heard) (defBody s__law_heard) (defScope s__law_heard) .none kV__law_heard dc__law_heard pm__law_heard an__law_heard cd__law_heard ct__law_heard), sl__law_heard⟩)
    (h3__law_heard : PySem.W.codeIn K cd__law_heard "_law_heard" = true)
    (h4__law_heard : PySem.W.keepIn K (.ref a__law_heard) = true)
    {a_is_integer : Addr} {od_is_integer an_is_integer : Option Addr} {sl_is_integer : Array (Option Value)} {oc_is_integer kV_is_integer dc_is_integer pm_is_integer cd_is_integer ct_is_integer : Value}
    (h1_is_integer : PySem.W.nsIn K mainGlobals "is_integer" = some (some (.ref a_is_integer)))
    (h2_is_integer : K.lookup a_is_integer = some ⟨oc_is_integer, od_is_integer, .func (PySem.W.fnOf "is_integer" "is_integer" (defArgs s_is_integer) (defBody s_is_integer) (defScope s_is_integer) .none kV_is_integer dc_is_integer pm_is_integer an_is_integer cd_is_integer ct_is_integer), sl_is_integer⟩)
    (h3_is_integer : PySem.W.codeIn K cd_is_integer "is_integer" = true)
    (h4_is_integer : PySem.W.keepIn K (.ref a_is_integer) = true)
    {a_is_within : Addr} {od_is_within an_is_within : Option Addr} {sl_is_within : Array (Option Value)} {oc_is_within kV_is_within dc_is_within pm_is_within cd_is_within ct_is_within : Value}
    (h1_is_within : PySem.W.nsIn K mainGlobals "is_within" = some (some (.ref a_is_within)))
    (h2_is_within : K.lookup a_is_within = some ⟨oc_is_within, od_is_within, .func (PySem.W.fnOf "is_within" "is_within" (defArgs s_is_within) (defBody s_is_within) (defScope s_is_within) .none kV_is_within dc_is_within pm_is_within an_is_within cd_is_within ct_is_within), sl_is_within⟩)
    (h3_is_within : PySem.W.codeIn K cd_is_within "is_within" = true)
    (h4_is_within : PySem.W.keepIn K (.ref a_is_within) = true)
    {a_need_within : Addr} {od_need_within an_need_within : Option Addr} {sl_need_within : Array (Option Value)} {oc_need_within kV_need_within dc_need_within pm_need_within cd_need_within ct_need_within : Value}
    (h1_need_within : PySem.W.nsIn K mainGlobals "need_within" = some (some (.ref a_need_within)))
    (h2_need_within : K.lookup a_need_within = some ⟨oc_need_within, od_need_within, .func (PySem.W.fnOf "need_within" "need_within" (defArgs s_need_within) (defBody s_need_within) (defScope s_need_within) .none kV_need_within dc_need_within pm_need_within an_need_within cd_need_within ct_need_within), sl_need_within⟩)
    (h3_need_within : PySem.W.codeIn K cd_need_within "need_within" = true)
    (h4_need_within : PySem.W.keepIn K (.ref a_need_within) = true)
    {a_need_numbers : Addr} {od_need_numbers an_need_numbers : Option Addr} {sl_need_numbers : Array (Option Value)} {oc_need_numbers kV_need_numbers dc_need_numbers pm_need_numbers cd_need_numbers ct_need_numbers : Value}
    (h1_need_numbers : PySem.W.nsIn K mainGlobals "need_numbers" = some (some (.ref a_need_numbers)))
    (h2_need_numbers : K.lookup a_need_numbers = some ⟨oc_need_numbers, od_need_numbers, .func (PySem.W.fnOf "need_numbers" "need_numbers" (defArgs s_need_numbers) (defBody s_need_numbers) (defScope s_need_numbers) .none kV_need_numbers dc_need_numbers pm_need_numbers an_need_numbers cd_need_numbers ct_need_numbers), sl_need_numbers⟩)
    (h3_need_numbers : PySem.W.codeIn K cd_need_numbers "need_numbers" = true)
    (h4_need_numbers : PySem.W.keepIn K (.ref a_need_numbers) = true)
    {a_need_power : Addr} {od_need_power an_need_power : Option Addr} {sl_need_power : Array (Option Value)} {oc_need_power kV_need_power dc_need_power pm_need_power cd_need_power ct_need_power : Value}
    (h1_need_power : PySem.W.nsIn K mainGlobals "need_power" = some (some (.ref a_need_power)))
    (h2_need_power : K.lookup a_need_power = some ⟨oc_need_power, od_need_power, .func (PySem.W.fnOf "need_power" "need_power" (defArgs s_need_power) (defBody s_need_power) (defScope s_need_power) .none kV_need_power dc_need_power pm_need_power an_need_power cd_need_power ct_need_power), sl_need_power⟩)
    (h3_need_power : PySem.W.codeIn K cd_need_power "need_power" = true)
    (h4_need_power : PySem.W.keepIn K (.ref a_need_power) = true)
    {a_raised : Addr} {od_raised an_raised : Option Addr} {sl_raised : Array (Option Value)} {oc_raised kV_raised dc_raised pm_raised cd_raised ct_raised : Value}
    (h1_raised : PySem.W.nsIn K mainGlobals "raised" = some (some (.ref a_raised)))
    (h2_raised : K.lookup a_raised = some ⟨oc_raised, od_raised, .func (PySem.W.fnOf "raised" "raised" (defArgs s_raised) (defBody s_raised) (defScope s_raised) .none kV_raised dc_raised pm_raised an_raised cd_raised ct_raised), sl_raised⟩)
    (h3_raised : PySem.W.codeIn K cd_raised "raised" = true)
    (h4_raised : PySem.W.keepIn K (.ref a_raised) = true)
    {a_whole_sum : Addr} {od_whole_sum an_whole_sum : Option Addr} {sl_whole_sum : Array (Option Value)} {oc_whole_sum kV_whole_sum dc_whole_sum pm_whole_sum cd_whole_sum ct_whole_sum : Value}
    (h1_whole_sum : PySem.W.nsIn K mainGlobals "whole_sum" = some (some (.ref a_whole_sum)))
    (h2_whole_sum : K.lookup a_whole_sum = some ⟨oc_whole_sum, od_whole_sum, .func (PySem.W.fnOf "whole_sum" "whole_sum" (defArgs s_whole_sum) (defBody s_whole_sum) (defScope s_whole_sum) .none kV_whole_sum dc_whole_sum pm_whole_sum an_whole_sum cd_whole_sum ct_whole_sum), sl_whole_sum⟩)
    (h3_whole_sum : PySem.W.codeIn K cd_whole_sum "whole_sum" = true)
    (h4_whole_sum : PySem.W.keepIn K (.ref a_whole_sum) = true)
    {a_sign_at : Addr} {od_sign_at an_sign_at : Option Addr} {sl_sign_at : Array (Option Value)} {oc_sign_at kV_sign_at dc_sign_at pm_sign_at cd_sign_at ct_sign_at : Value}
    (h1_sign_at : PySem.W.nsIn K mainGlobals "sign_at" = some (some (.ref a_sign_at)))
    (h2_sign_at : K.lookup a_sign_at = some ⟨oc_sign_at, od_sign_at, .func (PySem.W.fnOf "sign_at" "sign_at" (defArgs s_sign_at) (defBody s_sign_at) (defScope s_sign_at) .none kV_sign_at dc_sign_at pm_sign_at an_sign_at cd_sign_at ct_sign_at), sl_sign_at⟩)
    (h3_sign_at : PySem.W.codeIn K cd_sign_at "sign_at" = true)
    (h4_sign_at : PySem.W.keepIn K (.ref a_sign_at) = true)
    {a_is_by_power : Addr} {od_is_by_power an_is_by_power : Option Addr} {sl_is_by_power : Array (Option Value)} {oc_is_by_power kV_is_by_power dc_is_by_power pm_is_by_power cd_is_by_power ct_is_by_power : Value}
    (h1_is_by_power : PySem.W.nsIn K mainGlobals "is_by_power" = some (some (.ref a_is_by_power)))
    (h2_is_by_power : K.lookup a_is_by_power = some ⟨oc_is_by_power, od_is_by_power, .func (PySem.W.fnOf "is_by_power" "is_by_power" (defArgs s_is_by_power) (defBody s_is_by_power) (defScope s_is_by_power) .none kV_is_by_power dc_is_by_power pm_is_by_power an_is_by_power cd_is_by_power ct_is_by_power), sl_is_by_power⟩)
    (h3_is_by_power : PySem.W.codeIn K cd_is_by_power "is_by_power" = true)
    (h4_is_by_power : PySem.W.keepIn K (.ref a_is_by_power) = true)
    {a_is_by : Addr} {od_is_by an_is_by : Option Addr} {sl_is_by : Array (Option Value)} {oc_is_by kV_is_by dc_is_by pm_is_by cd_is_by ct_is_by : Value}
    (h1_is_by : PySem.W.nsIn K mainGlobals "is_by" = some (some (.ref a_is_by)))
    (h2_is_by : K.lookup a_is_by = some ⟨oc_is_by, od_is_by, .func (PySem.W.fnOf "is_by" "is_by" (defArgs s_is_by) (defBody s_is_by) (defScope s_is_by) .none kV_is_by dc_is_by pm_is_by an_is_by cd_is_by ct_is_by), sl_is_by⟩)
    (h3_is_by : PySem.W.codeIn K cd_is_by "is_by" = true)
    (h4_is_by : PySem.W.keepIn K (.ref a_is_by) = true)
    {a__law_fours_right lc__law_fours_right lp__law_fours_right : Addr} {od__law_fours_right an__law_fours_right : Option Addr} {sl__law_fours_right : Array (Option Value)} {oc__law_fours_right kV__law_fours_right dc__law_fours_right pm__law_fours_right ct__law_fours_right : Value}
    (h1__law_fours_right : PySem.W.nsIn K mainGlobals "_law_fours_right" = some (some (.ref a__law_fours_right)))
    (h2__law_fours_right : K.lookup a__law_fours_right = some ⟨oc__law_fours_right, od__law_fours_right, .func (PySem.W.fnOf "_law_fours_right" "_law_fours_right" (defArgs s__law_fours_right) (defBody s__law_fours_right) (defScope s__law_fours_right) .none kV__law_fours_right dc__law_fours_right pm__law_fours_right an__law_fours_right (.ref lc__law_fours_right) ct__law_fours_right), sl__law_fours_right⟩)
    (h3__law_fours_right : PySem.W.codeIn K (.ref lc__law_fours_right) "_law_fours_right" = true)
    (h4__law_fours_right : PySem.W.keepIn K (.ref a__law_fours_right) = true)
    {ce__law_fours_right : Value} {cx__law_fours_right : Option Addr} {cv__law_fours_right : Array Value} {cs__law_fours_right : Array (Option Value)}
    (hL__law_fours_right : K.lookup lc__law_fours_right = some ⟨ce__law_fours_right, cx__law_fours_right, .fields cv__law_fours_right, cs__law_fours_right⟩)
    (hv__law_fours_right : cv__law_fours_right[11]? = some (.ref lp__law_fours_right))
    (hz__law_fours_right : K.lookup lp__law_fours_right = none)
    {a_fourth_quotient : Addr} {od_fourth_quotient an_fourth_quotient : Option Addr} {sl_fourth_quotient : Array (Option Value)} {oc_fourth_quotient kV_fourth_quotient dc_fourth_quotient pm_fourth_quotient cd_fourth_quotient ct_fourth_quotient : Value}
    (h1_fourth_quotient : PySem.W.nsIn K mainGlobals "fourth_quotient" = some (some (.ref a_fourth_quotient)))
    (h2_fourth_quotient : K.lookup a_fourth_quotient = some ⟨oc_fourth_quotient, od_fourth_quotient, .func (PySem.W.fnOf "fourth_quotient" "fourth_quotient" (defArgs s_fourth_quotient) (defBody s_fourth_quotient) (defScope s_fourth_quotient) .none kV_fourth_quotient dc_fourth_quotient pm_fourth_quotient an_fourth_quotient cd_fourth_quotient ct_fourth_quotient), sl_fourth_quotient⟩)
    (h3_fourth_quotient : PySem.W.codeIn K cd_fourth_quotient "fourth_quotient" = true)
    (h4_fourth_quotient : PySem.W.keepIn K (.ref a_fourth_quotient) = true)
    {a_fixed : Addr} {od_fixed an_fixed : Option Addr} {sl_fixed : Array (Option Value)} {oc_fixed kV_fixed dc_fixed pm_fixed cd_fixed ct_fixed : Value}
    (h1_fixed : PySem.W.nsIn K mainGlobals "fixed" = some (some (.ref a_fixed)))
    (h2_fixed : K.lookup a_fixed = some ⟨oc_fixed, od_fixed, .func (PySem.W.fnOf "fixed" "fixed" (defArgs s_fixed) (defBody s_fixed) (defScope s_fixed) .none kV_fixed dc_fixed pm_fixed an_fixed cd_fixed ct_fixed), sl_fixed⟩)
    (h3_fixed : PySem.W.codeIn K cd_fixed "fixed" = true)
    (h4_fixed : PySem.W.keepIn K (.ref a_fixed) = true)
    {a_side_of : Addr} {od_side_of an_side_of : Option Addr} {sl_side_of : Array (Option Value)} {oc_side_of kV_side_of dc_side_of pm_side_of cd_side_of ct_side_of : Value}
    (h1_side_of : PySem.W.nsIn K mainGlobals "side_of" = some (some (.ref a_side_of)))
    (h2_side_of : K.lookup a_side_of = some ⟨oc_side_of, od_side_of, .func (PySem.W.fnOf "side_of" "side_of" (defArgs s_side_of) (defBody s_side_of) (defScope s_side_of) .none kV_side_of dc_side_of pm_side_of an_side_of cd_side_of ct_side_of), sl_side_of⟩)
    (h3_side_of : PySem.W.codeIn K cd_side_of "side_of" = true)
    (h4_side_of : PySem.W.keepIn K (.ref a_side_of) = true)
    {a_whole_below : Addr} {od_whole_below an_whole_below : Option Addr} {sl_whole_below : Array (Option Value)} {oc_whole_below kV_whole_below dc_whole_below pm_whole_below cd_whole_below ct_whole_below : Value}
    (h1_whole_below : PySem.W.nsIn K mainGlobals "whole_below" = some (some (.ref a_whole_below)))
    (h2_whole_below : K.lookup a_whole_below = some ⟨oc_whole_below, od_whole_below, .func (PySem.W.fnOf "whole_below" "whole_below" (defArgs s_whole_below) (defBody s_whole_below) (defScope s_whole_below) .none kV_whole_below dc_whole_below pm_whole_below an_whole_below cd_whole_below ct_whole_below), sl_whole_below⟩)
    (h3_whole_below : PySem.W.codeIn K cd_whole_below "whole_below" = true)
    (h4_whole_below : PySem.W.keepIn K (.ref a_whole_below) = true)
    {a_fourth_by : Addr} {od_fourth_by an_fourth_by : Option Addr} {sl_fourth_by : Array (Option Value)} {oc_fourth_by kV_fourth_by dc_fourth_by pm_fourth_by cd_fourth_by ct_fourth_by : Value}
    (h1_fourth_by : PySem.W.nsIn K mainGlobals "fourth_by" = some (some (.ref a_fourth_by)))
    (h2_fourth_by : K.lookup a_fourth_by = some ⟨oc_fourth_by, od_fourth_by, .func (PySem.W.fnOf "fourth_by" "fourth_by" (defArgs s_fourth_by) (defBody s_fourth_by) (defScope s_fourth_by) .none kV_fourth_by dc_fourth_by pm_fourth_by an_fourth_by cd_fourth_by ct_fourth_by), sl_fourth_by⟩)
    (h3_fourth_by : PySem.W.codeIn K cd_fourth_by "fourth_by" = true)
    (h4_fourth_by : PySem.W.keepIn K (.ref a_fourth_by) = true)
    {a_shows_fourth_by : Addr} {od_shows_fourth_by an_shows_fourth_by : Option Addr} {sl_shows_fourth_by : Array (Option Value)} {oc_shows_fourth_by kV_shows_fourth_by dc_shows_fourth_by pm_shows_fourth_by cd_shows_fourth_by ct_shows_fourth_by : Value}
    (h1_shows_fourth_by : PySem.W.nsIn K mainGlobals "shows_fourth_by" = some (some (.ref a_shows_fourth_by)))
    (h2_shows_fourth_by : K.lookup a_shows_fourth_by = some ⟨oc_shows_fourth_by, od_shows_fourth_by, .func (PySem.W.fnOf "shows_fourth_by" "shows_fourth_by" (defArgs s_shows_fourth_by) (defBody s_shows_fourth_by) (defScope s_shows_fourth_by) .none kV_shows_fourth_by dc_shows_fourth_by pm_shows_fourth_by an_shows_fourth_by cd_shows_fourth_by ct_shows_fourth_by), sl_shows_fourth_by⟩)
    (h3_shows_fourth_by : PySem.W.codeIn K cd_shows_fourth_by "shows_fourth_by" = true)
    (h4_shows_fourth_by : PySem.W.keepIn K (.ref a_shows_fourth_by) = true)
    {a__law_threes_right lc__law_threes_right lp__law_threes_right : Addr} {od__law_threes_right an__law_threes_right : Option Addr} {sl__law_threes_right : Array (Option Value)} {oc__law_threes_right kV__law_threes_right dc__law_threes_right pm__law_threes_right ct__law_threes_right : Value}
    (h1__law_threes_right : PySem.W.nsIn K mainGlobals "_law_threes_right" = some (some (.ref a__law_threes_right)))
    (h2__law_threes_right : K.lookup a__law_threes_right = some ⟨oc__law_threes_right, od__law_threes_right, .func (PySem.W.fnOf "_law_threes_right" "_law_threes_right" (defArgs s__law_threes_right) (defBody s__law_threes_right) (defScope s__law_threes_right) .none kV__law_threes_right dc__law_threes_right pm__law_threes_right an__law_threes_right (.ref lc__law_threes_right) ct__law_threes_right), sl__law_threes_right⟩)
    (h3__law_threes_right : PySem.W.codeIn K (.ref lc__law_threes_right) "_law_threes_right" = true)
    (h4__law_threes_right : PySem.W.keepIn K (.ref a__law_threes_right) = true)
    {ce__law_threes_right : Value} {cx__law_threes_right : Option Addr} {cv__law_threes_right : Array Value} {cs__law_threes_right : Array (Option Value)}
    (hL__law_threes_right : K.lookup lc__law_threes_right = some ⟨ce__law_threes_right, cx__law_threes_right, .fields cv__law_threes_right, cs__law_threes_right⟩)
    (hv__law_threes_right : cv__law_threes_right[11]? = some (.ref lp__law_threes_right))
    (hz__law_threes_right : K.lookup lp__law_threes_right = none)
    {a_whole_fourth : Addr} {od_whole_fourth an_whole_fourth : Option Addr} {sl_whole_fourth : Array (Option Value)} {oc_whole_fourth kV_whole_fourth dc_whole_fourth pm_whole_fourth cd_whole_fourth ct_whole_fourth : Value}
    (h1_whole_fourth : PySem.W.nsIn K mainGlobals "whole_fourth" = some (some (.ref a_whole_fourth)))
    (h2_whole_fourth : K.lookup a_whole_fourth = some ⟨oc_whole_fourth, od_whole_fourth, .func (PySem.W.fnOf "whole_fourth" "whole_fourth" (defArgs s_whole_fourth) (defBody s_whole_fourth) (defScope s_whole_fourth) .none kV_whole_fourth dc_whole_fourth pm_whole_fourth an_whole_fourth cd_whole_fourth ct_whole_fourth), sl_whole_fourth⟩)
    (h3_whole_fourth : PySem.W.codeIn K cd_whole_fourth "whole_fourth" = true)
    (h4_whole_fourth : PySem.W.keepIn K (.ref a_whole_fourth) = true)
    {a_numbers_by : Addr} {od_numbers_by an_numbers_by : Option Addr} {sl_numbers_by : Array (Option Value)} {oc_numbers_by kV_numbers_by dc_numbers_by pm_numbers_by cd_numbers_by ct_numbers_by : Value}
    (h1_numbers_by : PySem.W.nsIn K mainGlobals "numbers_by" = some (some (.ref a_numbers_by)))
    (h2_numbers_by : K.lookup a_numbers_by = some ⟨oc_numbers_by, od_numbers_by, .func (PySem.W.fnOf "numbers_by" "numbers_by" (defArgs s_numbers_by) (defBody s_numbers_by) (defScope s_numbers_by) .none kV_numbers_by dc_numbers_by pm_numbers_by an_numbers_by cd_numbers_by ct_numbers_by), sl_numbers_by⟩)
    (h3_numbers_by : PySem.W.codeIn K cd_numbers_by "numbers_by" = true)
    (h4_numbers_by : PySem.W.keepIn K (.ref a_numbers_by) = true)
    {a__law_rows_right lc__law_rows_right lp__law_rows_right : Addr} {od__law_rows_right an__law_rows_right : Option Addr} {sl__law_rows_right : Array (Option Value)} {oc__law_rows_right kV__law_rows_right dc__law_rows_right pm__law_rows_right ct__law_rows_right : Value}
    (h1__law_rows_right : PySem.W.nsIn K mainGlobals "_law_rows_right" = some (some (.ref a__law_rows_right)))
    (h2__law_rows_right : K.lookup a__law_rows_right = some ⟨oc__law_rows_right, od__law_rows_right, .func (PySem.W.fnOf "_law_rows_right" "_law_rows_right" (defArgs s__law_rows_right) (defBody s__law_rows_right) (defScope s__law_rows_right) .none kV__law_rows_right dc__law_rows_right pm__law_rows_right an__law_rows_right (.ref lc__law_rows_right) ct__law_rows_right), sl__law_rows_right⟩)
    (h3__law_rows_right : PySem.W.codeIn K (.ref lc__law_rows_right) "_law_rows_right" = true)
    (h4__law_rows_right : PySem.W.keepIn K (.ref a__law_rows_right) = true)
    {ce__law_rows_right : Value} {cx__law_rows_right : Option Addr} {cv__law_rows_right : Array Value} {cs__law_rows_right : Array (Option Value)}
    (hL__law_rows_right : K.lookup lc__law_rows_right = some ⟨ce__law_rows_right, cx__law_rows_right, .fields cv__law_rows_right, cs__law_rows_right⟩)
    (hv__law_rows_right : cv__law_rows_right[11]? = some (.ref lp__law_rows_right))
    (hz__law_rows_right : K.lookup lp__law_rows_right = none)
    {a__law_growing : Addr} {od__law_growing an__law_growing : Option Addr} {sl__law_growing : Array (Option Value)} {oc__law_growing kV__law_growing dc__law_growing pm__law_growing cd__law_growing ct__law_growing : Value}
    (h1__law_growing : PySem.W.nsIn K mainGlobals "_law_growing" = some (some (.ref a__law_growing)))
    (h2__law_growing : K.lookup a__law_growing = some ⟨oc__law_growing, od__law_growing, .func (PySem.W.fnOf "_law_growing" "_law_growing" (defArgs s__law_growing) (defBody s__law_growing) (defScope s__law_growing) .none kV__law_growing dc__law_growing pm__law_growing an__law_growing cd__law_growing ct__law_growing), sl__law_growing⟩)
    (h3__law_growing : PySem.W.codeIn K cd__law_growing "_law_growing" = true)
    (h4__law_growing : PySem.W.keepIn K (.ref a__law_growing) = true)
    {a__law_growing_due : Addr} {od__law_growing_due an__law_growing_due : Option Addr} {sl__law_growing_due : Array (Option Value)} {oc__law_growing_due kV__law_growing_due dc__law_growing_due pm__law_growing_due cd__law_growing_due ct__law_growing_due : Value}
    (h1__law_growing_due : PySem.W.nsIn K mainGlobals "_law_growing_due" = some (some (.ref a__law_growing_due)))
    (h2__law_growing_due : K.lookup a__law_growing_due = some ⟨oc__law_growing_due, od__law_growing_due, .func (PySem.W.fnOf "_law_growing_due" "_law_growing_due" (defArgs s__law_growing_due) (defBody s__law_growing_due) (defScope s__law_growing_due) .none kV__law_growing_due dc__law_growing_due pm__law_growing_due an__law_growing_due cd__law_growing_due ct__law_growing_due), sl__law_growing_due⟩)
    (h3__law_growing_due : PySem.W.codeIn K cd__law_growing_due "_law_growing_due" = true)
    (h4__law_growing_due : PySem.W.keepIn K (.ref a__law_growing_due) = true)
    {a_need_growing : Addr} {od_need_growing an_need_growing : Option Addr} {sl_need_growing : Array (Option Value)} {oc_need_growing kV_need_growing dc_need_growing pm_need_growing cd_need_growing ct_need_growing : Value}
    (h1_need_growing : PySem.W.nsIn K mainGlobals "need_growing" = some (some (.ref a_need_growing)))
    (h2_need_growing : K.lookup a_need_growing = some ⟨oc_need_growing, od_need_growing, .func (PySem.W.fnOf "need_growing" "need_growing" (defArgs s_need_growing) (defBody s_need_growing) (defScope s_need_growing) .none kV_need_growing dc_need_growing pm_need_growing an_need_growing cd_need_growing ct_need_growing), sl_need_growing⟩)
    (h3_need_growing : PySem.W.codeIn K cd_need_growing "need_growing" = true)
    (h4_need_growing : PySem.W.keepIn K (.ref a_need_growing) = true)
    {a_power_of : Addr} {od_power_of an_power_of : Option Addr} {sl_power_of : Array (Option Value)} {oc_power_of kV_power_of dc_power_of pm_power_of cd_power_of ct_power_of : Value}
    (h1_power_of : PySem.W.nsIn K mainGlobals "power_of" = some (some (.ref a_power_of)))
    (h2_power_of : K.lookup a_power_of = some ⟨oc_power_of, od_power_of, .func (PySem.W.fnOf "power_of" "power_of" (defArgs s_power_of) (defBody s_power_of) (defScope s_power_of) .none kV_power_of dc_power_of pm_power_of an_power_of cd_power_of ct_power_of), sl_power_of⟩)
    (h3_power_of : PySem.W.codeIn K cd_power_of "power_of" = true)
    (h4_power_of : PySem.W.keepIn K (.ref a_power_of) = true)
    {a_is_between : Addr} {od_is_between an_is_between : Option Addr} {sl_is_between : Array (Option Value)} {oc_is_between kV_is_between dc_is_between pm_is_between cd_is_between ct_is_between : Value}
    (h1_is_between : PySem.W.nsIn K mainGlobals "is_between" = some (some (.ref a_is_between)))
    (h2_is_between : K.lookup a_is_between = some ⟨oc_is_between, od_is_between, .func (PySem.W.fnOf "is_between" "is_between" (defArgs s_is_between) (defBody s_is_between) (defScope s_is_between) .none kV_is_between dc_is_between pm_is_between an_is_between cd_is_between ct_is_between), sl_is_between⟩)
    (h3_is_between : PySem.W.codeIn K cd_is_between "is_between" = true)
    (h4_is_between : PySem.W.keepIn K (.ref a_is_between) = true)
    {a_shows_power : Addr} {od_shows_power an_shows_power : Option Addr} {sl_shows_power : Array (Option Value)} {oc_shows_power kV_shows_power dc_shows_power pm_shows_power cd_shows_power ct_shows_power : Value}
    (h1_shows_power : PySem.W.nsIn K mainGlobals "shows_power" = some (some (.ref a_shows_power)))
    (h2_shows_power : K.lookup a_shows_power = some ⟨oc_shows_power, od_shows_power, .func (PySem.W.fnOf "shows_power" "shows_power" (defArgs s_shows_power) (defBody s_shows_power) (defScope s_shows_power) .none kV_shows_power dc_shows_power pm_shows_power an_shows_power cd_shows_power ct_shows_power), sl_shows_power⟩)
    (h3_shows_power : PySem.W.codeIn K cd_shows_power "shows_power" = true)
    (h4_shows_power : PySem.W.keepIn K (.ref a_shows_power) = true)
    {a__law_powers_right lc__law_powers_right lp__law_powers_right : Addr} {od__law_powers_right an__law_powers_right : Option Addr} {sl__law_powers_right : Array (Option Value)} {oc__law_powers_right kV__law_powers_right dc__law_powers_right pm__law_powers_right ct__law_powers_right : Value}
    (h1__law_powers_right : PySem.W.nsIn K mainGlobals "_law_powers_right" = some (some (.ref a__law_powers_right)))
    (h2__law_powers_right : K.lookup a__law_powers_right = some ⟨oc__law_powers_right, od__law_powers_right, .func (PySem.W.fnOf "_law_powers_right" "_law_powers_right" (defArgs s__law_powers_right) (defBody s__law_powers_right) (defScope s__law_powers_right) .none kV__law_powers_right dc__law_powers_right pm__law_powers_right an__law_powers_right (.ref lc__law_powers_right) ct__law_powers_right), sl__law_powers_right⟩)
    (h3__law_powers_right : PySem.W.codeIn K (.ref lc__law_powers_right) "_law_powers_right" = true)
    (h4__law_powers_right : PySem.W.keepIn K (.ref a__law_powers_right) = true)
    {ce__law_powers_right : Value} {cx__law_powers_right : Option Addr} {cv__law_powers_right : Array Value} {cs__law_powers_right : Array (Option Value)}
    (hL__law_powers_right : K.lookup lc__law_powers_right = some ⟨ce__law_powers_right, cx__law_powers_right, .fields cv__law_powers_right, cs__law_powers_right⟩)
    (hv__law_powers_right : cv__law_powers_right[11]? = some (.ref lp__law_powers_right))
    (hz__law_powers_right : K.lookup lp__law_powers_right = none)
    {a_is_list : Addr} {od_is_list an_is_list : Option Addr} {sl_is_list : Array (Option Value)} {oc_is_list kV_is_list dc_is_list pm_is_list cd_is_list ct_is_list : Value}
    (h1_is_list : PySem.W.nsIn K mainGlobals "is_list" = some (some (.ref a_is_list)))
    (h2_is_list : K.lookup a_is_list = some ⟨oc_is_list, od_is_list, .func (PySem.W.fnOf "is_list" "is_list" (defArgs s_is_list) (defBody s_is_list) (defScope s_is_list) .none kV_is_list dc_is_list pm_is_list an_is_list cd_is_list ct_is_list), sl_is_list⟩)
    (h3_is_list : PySem.W.codeIn K cd_is_list "is_list" = true)
    (h4_is_list : PySem.W.keepIn K (.ref a_is_list) = true)
    {a_need_growing_row : Addr} {od_need_growing_row an_need_growing_row : Option Addr} {sl_need_growing_row : Array (Option Value)} {oc_need_growing_row kV_need_growing_row dc_need_growing_row pm_need_growing_row cd_need_growing_row ct_need_growing_row : Value}
    (h1_need_growing_row : PySem.W.nsIn K mainGlobals "need_growing_row" = some (some (.ref a_need_growing_row)))
    (h2_need_growing_row : K.lookup a_need_growing_row = some ⟨oc_need_growing_row, od_need_growing_row, .func (PySem.W.fnOf "need_growing_row" "need_growing_row" (defArgs s_need_growing_row) (defBody s_need_growing_row) (defScope s_need_growing_row) .none kV_need_growing_row dc_need_growing_row pm_need_growing_row an_need_growing_row cd_need_growing_row ct_need_growing_row), sl_need_growing_row⟩)
    (h3_need_growing_row : PySem.W.codeIn K cd_need_growing_row "need_growing_row" = true)
    (h4_need_growing_row : PySem.W.keepIn K (.ref a_need_growing_row) = true)
    {a_is_step_by : Addr} {od_is_step_by an_is_step_by : Option Addr} {sl_is_step_by : Array (Option Value)} {oc_is_step_by kV_is_step_by dc_is_step_by pm_is_step_by cd_is_step_by ct_is_step_by : Value}
    (h1_is_step_by : PySem.W.nsIn K mainGlobals "is_step_by" = some (some (.ref a_is_step_by)))
    (h2_is_step_by : K.lookup a_is_step_by = some ⟨oc_is_step_by, od_is_step_by, .func (PySem.W.fnOf "is_step_by" "is_step_by" (defArgs s_is_step_by) (defBody s_is_step_by) (defScope s_is_step_by) .none kV_is_step_by dc_is_step_by pm_is_step_by an_is_step_by cd_is_step_by ct_is_step_by), sl_is_step_by⟩)
    (h3_is_step_by : PySem.W.codeIn K cd_is_step_by "is_step_by" = true)
    (h4_is_step_by : PySem.W.keepIn K (.ref a_is_step_by) = true)
    {a_power_of_row : Addr} {od_power_of_row an_power_of_row : Option Addr} {sl_power_of_row : Array (Option Value)} {oc_power_of_row kV_power_of_row dc_power_of_row pm_power_of_row cd_power_of_row ct_power_of_row : Value}
    (h1_power_of_row : PySem.W.nsIn K mainGlobals "power_of_row" = some (some (.ref a_power_of_row)))
    (h2_power_of_row : K.lookup a_power_of_row = some ⟨oc_power_of_row, od_power_of_row, .func (PySem.W.fnOf "power_of_row" "power_of_row" (defArgs s_power_of_row) (defBody s_power_of_row) (defScope s_power_of_row) .none kV_power_of_row dc_power_of_row pm_power_of_row an_power_of_row cd_power_of_row ct_power_of_row), sl_power_of_row⟩)
    (h3_power_of_row : PySem.W.codeIn K cd_power_of_row "power_of_row" = true)
    (h4_power_of_row : PySem.W.keepIn K (.ref a_power_of_row) = true)
    {a_is_just : Addr} {od_is_just an_is_just : Option Addr} {sl_is_just : Array (Option Value)} {oc_is_just kV_is_just dc_is_just pm_is_just cd_is_just ct_is_just : Value}
    (h1_is_just : PySem.W.nsIn K mainGlobals "is_just" = some (some (.ref a_is_just)))
    (h2_is_just : K.lookup a_is_just = some ⟨oc_is_just, od_is_just, .func (PySem.W.fnOf "is_just" "is_just" (defArgs s_is_just) (defBody s_is_just) (defScope s_is_just) .none kV_is_just dc_is_just pm_is_just an_is_just cd_is_just ct_is_just), sl_is_just⟩)
    (h3_is_just : PySem.W.codeIn K cd_is_just "is_just" = true)
    (h4_is_just : PySem.W.keepIn K (.ref a_is_just) = true)
    {a_shows_power_of_row : Addr} {od_shows_power_of_row an_shows_power_of_row : Option Addr} {sl_shows_power_of_row : Array (Option Value)} {oc_shows_power_of_row kV_shows_power_of_row dc_shows_power_of_row pm_shows_power_of_row cd_shows_power_of_row ct_shows_power_of_row : Value}
    (h1_shows_power_of_row : PySem.W.nsIn K mainGlobals "shows_power_of_row" = some (some (.ref a_shows_power_of_row)))
    (h2_shows_power_of_row : K.lookup a_shows_power_of_row = some ⟨oc_shows_power_of_row, od_shows_power_of_row, .func (PySem.W.fnOf "shows_power_of_row" "shows_power_of_row" (defArgs s_shows_power_of_row) (defBody s_shows_power_of_row) (defScope s_shows_power_of_row) .none kV_shows_power_of_row dc_shows_power_of_row pm_shows_power_of_row an_shows_power_of_row cd_shows_power_of_row ct_shows_power_of_row), sl_shows_power_of_row⟩)
    (h3_shows_power_of_row : PySem.W.codeIn K cd_shows_power_of_row "shows_power_of_row" = true)
    (h4_shows_power_of_row : PySem.W.keepIn K (.ref a_shows_power_of_row) = true)
    {a__law_numbers_right lc__law_numbers_right lp__law_numbers_right : Addr} {od__law_numbers_right an__law_numbers_right : Option Addr} {sl__law_numbers_right : Array (Option Value)} {oc__law_numbers_right kV__law_numbers_right dc__law_numbers_right pm__law_numbers_right ct__law_numbers_right : Value}
    (h1__law_numbers_right : PySem.W.nsIn K mainGlobals "_law_numbers_right" = some (some (.ref a__law_numbers_right)))
    (h2__law_numbers_right : K.lookup a__law_numbers_right = some ⟨oc__law_numbers_right, od__law_numbers_right, .func (PySem.W.fnOf "_law_numbers_right" "_law_numbers_right" (defArgs s__law_numbers_right) (defBody s__law_numbers_right) (defScope s__law_numbers_right) .none kV__law_numbers_right dc__law_numbers_right pm__law_numbers_right an__law_numbers_right (.ref lc__law_numbers_right) ct__law_numbers_right), sl__law_numbers_right⟩)
    (h3__law_numbers_right : PySem.W.codeIn K (.ref lc__law_numbers_right) "_law_numbers_right" = true)
    (h4__law_numbers_right : PySem.W.keepIn K (.ref a__law_numbers_right) = true)
    {ce__law_numbers_right : Value} {cx__law_numbers_right : Option Addr} {cv__law_numbers_right : Array Value} {cs__law_numbers_right : Array (Option Value)}
    (hL__law_numbers_right : K.lookup lc__law_numbers_right = some ⟨ce__law_numbers_right, cx__law_numbers_right, .fields cv__law_numbers_right, cs__law_numbers_right⟩)
    (hv__law_numbers_right : cv__law_numbers_right[11]? = some (.ref lp__law_numbers_right))
    (hz__law_numbers_right : K.lookup lp__law_numbers_right = none)
    {a_law : Addr} {od_law an_law : Option Addr} {sl_law : Array (Option Value)} {oc_law kV_law dc_law pm_law cd_law ct_law : Value}
    (h1_law : PySem.W.nsIn K mainGlobals "law" = some (some (.ref a_law)))
    (h2_law : K.lookup a_law = some ⟨oc_law, od_law, .func (PySem.W.fnOf "law" "law" (defArgs s_law) (defBody s_law) (defScope s_law) .none kV_law dc_law pm_law an_law cd_law ct_law), sl_law⟩)
    (h3_law : PySem.W.codeIn K cd_law "law" = true)
    (h4_law : PySem.W.keepIn K (.ref a_law) = true)
    {t_LEAST_LONG : Tok} (z_LEAST_LONG : PySem.W.nsIn K mainGlobals "LEAST_LONG" = some (some (.int (3) t_LEAST_LONG)))
    {t_LEAST_POWER : Tok} (z_LEAST_POWER : PySem.W.nsIn K mainGlobals "LEAST_POWER" = some (some (.int (-80) t_LEAST_POWER)))
    {t_MOST_LONG : Tok} (z_MOST_LONG : PySem.W.nsIn K mainGlobals "MOST_LONG" = some (some (.int (12) t_MOST_LONG)))
    {t_MOST_NUMBER : Tok} (z_MOST_NUMBER : PySem.W.nsIn K mainGlobals "MOST_NUMBER" = some (some (.int (1000000) t_MOST_NUMBER)))
    {t_MOST_POWER : Tok} (z_MOST_POWER : PySem.W.nsIn K mainGlobals "MOST_POWER" = some (some (.int (80) t_MOST_POWER)))
    {t_MOST_SMALL : Tok} (z_MOST_SMALL : PySem.W.nsIn K mainGlobals "MOST_SMALL" = some (some (.int (99) t_MOST_SMALL)))
    (ndT : [lp__law_fours_right, lp__law_threes_right, lp__law_rows_right, lp__law_powers_right, lp__law_numbers_right].Nodup)
    (z_abs : PySem.W.nsIn K mainGlobals "abs" = some none)
    (z_all : PySem.W.nsIn K mainGlobals "all" = some none)
    (z_bool : PySem.W.nsIn K mainGlobals "bool" = some none)
    (z_enumerate : PySem.W.nsIn K mainGlobals "enumerate" = some none)
    (z_int : PySem.W.nsIn K mainGlobals "int" = some none)
    (z_isinstance : PySem.W.nsIn K mainGlobals "isinstance" = some none)
    (z_len : PySem.W.nsIn K mainGlobals "len" = some none)
    (z_list : PySem.W.nsIn K mainGlobals "list" = some none)
    (z_range : PySem.W.nsIn K mainGlobals "range" = some none)
    (z_repr : PySem.W.nsIn K mainGlobals "repr" = some none)
    (z_set : PySem.W.nsIn K mainGlobals "set" = some none)
    (z_sorted : PySem.W.nsIn K mainGlobals "sorted" = some none)
    (z_str : PySem.W.nsIn K mainGlobals "str" = some none)
    (z_tuple : PySem.W.nsIn K mainGlobals "tuple" = some none)
    (z_type : PySem.W.nsIn K mainGlobals "type" = some none)
    (z_zip : PySem.W.nsIn K mainGlobals "zip" = some none) : Txt K mg where
  f_Denial__init__ := ⟨a_Denial__init__, _, fun_mk (st := s_Denial__init__) h2_Denial__init__ h3_Denial__init__ h4_Denial__init__, h0_Denial__init__⟩
  f_NoWhole__init__ := ⟨a_NoWhole__init__, _, fun_mk (st := s_NoWhole__init__) h2_NoWhole__init__ h3_NoWhole__init__ h4_NoWhole__init__, h0_NoWhole__init__, (fun_mk (st := s_NoWhole__init__) h2_NoWhole__init__ h3_NoWhole__init__ h4_NoWhole__init__).binds fun _ _ _ _ _ _ us hl => match us, hl with | [_, _], _ => rfl⟩
  f_Paper__init__ := ⟨a_Paper__init__, _, fun_mk (st := s_Paper__init__) h2_Paper__init__ h3_Paper__init__ h4_Paper__init__, h0_Paper__init__⟩
  f_Whole__init__ := ⟨a_Whole__init__, _, fun_mk (st := s_Whole__init__) h2_Whole__init__ h3_Whole__init__ h4_Whole__init__, h0_Whole__init__, (fun_mk (st := s_Whole__init__) h2_Whole__init__ h3_Whole__init__ h4_Whole__init__).binds fun _ _ _ _ _ _ us hl => match us, hl with | [_, _], _ => rfl⟩
  f_Between__init__ := ⟨a_Between__init__, _, fun_mk (st := s_Between__init__) h2_Between__init__ h3_Between__init__ h4_Between__init__, h0_Between__init__, (fun_mk (st := s_Between__init__) h2_Between__init__ h3_Between__init__ h4_Between__init__).binds fun _ _ _ _ _ _ us hl => match us, hl with | [_, _], _ => rfl⟩
  f_ByPower__init__ := ⟨a_ByPower__init__, _, fun_mk (st := s_ByPower__init__) h2_ByPower__init__ h3_ByPower__init__ h4_ByPower__init__, h0_ByPower__init__, (fun_mk (st := s_ByPower__init__) h2_ByPower__init__ h3_ByPower__init__ h4_ByPower__init__).binds fun _ _ _ _ _ _ us hl => match us, hl with | [_, _], _ => rfl⟩
  f_Uneven__init__ := ⟨a_Uneven__init__, _, fun_mk (st := s_Uneven__init__) h2_Uneven__init__ h3_Uneven__init__ h4_Uneven__init__, h0_Uneven__init__, (fun_mk (st := s_Uneven__init__) h2_Uneven__init__ h3_Uneven__init__ h4_Uneven__init__).binds fun _ _ _ _ _ _ us hl => match us, hl with | [_, _], _ => rfl⟩
  f_BadNumber__init__ := ⟨a_BadNumber__init__, _, fun_mk (st := s_BadNumber__init__) h2_BadNumber__init__ h3_BadNumber__init__ h4_BadNumber__init__, h0_BadNumber__init__, (fun_mk (st := s_BadNumber__init__) h2_BadNumber__init__ h3_BadNumber__init__ h4_BadNumber__init__).binds fun _ _ _ _ _ _ us hl => match us, hl with | [_, _], _ => rfl⟩
  k_Denial := ⟨a_Denial, PySem.W.mg_of X G h1_Denial, ⟨pg_Denial, hd_Denial, po_Denial, sa_Denial⟩, kc_Denial, ha_Denial, hn_, ht_, hm_Denial, mk_Denial⟩
  na_Denial_low := na_Denial_low
  na_Denial_number := na_Denial_number
  na_Denial_parts := na_Denial_parts
  na_Denial_power := na_Denial_power
  na_Denial_step := na_Denial_step
  na_Denial_word := na_Denial_word
  mk_Denial := ⟨mk_Denial, mi_Denial, h0_Denial__init__, kc_Denial⟩
  mc_Denial := .type "type"
  cr_Denial := ⟨r1_Denial, r2_Denial⟩
  cv_Denial__init__ := ⟨r3_Denial__init__, rfl⟩
  is_Denial_Denial := is_Denial_Denial
  is_Denial_Paper := is_Denial_Paper
  is_Denial_NoWhole := is_Denial_NoWhole
  is_Denial_Whole := is_Denial_Whole
  is_Denial_Between := is_Denial_Between
  is_Denial_ByPower := is_Denial_ByPower
  is_Denial_Uneven := is_Denial_Uneven
  k_Paper := ⟨a_Paper, PySem.W.mg_of X G h1_Paper, ⟨pg_Paper, hd_Paper, po_Paper, sa_Paper⟩, kc_Paper, ha_Paper, hn_, ht_, hm_Paper, mk_Paper⟩
  na_Paper_low := na_Paper_low
  na_Paper_number := na_Paper_number
  na_Paper_parts := na_Paper_parts
  na_Paper_power := na_Paper_power
  na_Paper_step := na_Paper_step
  na_Paper_word := na_Paper_word
  mk_Paper := ⟨mk_Paper, mi_Paper, h0_Paper__init__, kc_Paper⟩
  mc_Paper := .type "type"
  cr_Paper := ⟨r1_Paper, r2_Paper⟩
  cv_Paper__init__ := ⟨r3_Paper__init__, rfl⟩
  is_Paper_Denial := is_Paper_Denial
  is_Paper_Paper := is_Paper_Paper
  is_Paper_NoWhole := is_Paper_NoWhole
  is_Paper_Whole := is_Paper_Whole
  is_Paper_Between := is_Paper_Between
  is_Paper_ByPower := is_Paper_ByPower
  is_Paper_Uneven := is_Paper_Uneven
  k_NoWhole := ⟨a_NoWhole, PySem.W.mg_of X G h1_NoWhole, ⟨pg_NoWhole, hd_NoWhole, po_NoWhole, sa_NoWhole⟩, kc_NoWhole, ha_NoWhole, hn_, ht_, hm_NoWhole, mk_NoWhole⟩
  na_NoWhole_low := na_NoWhole_low
  na_NoWhole_number := na_NoWhole_number
  na_NoWhole_parts := na_NoWhole_parts
  na_NoWhole_power := na_NoWhole_power
  na_NoWhole_step := na_NoWhole_step
  na_NoWhole_word := na_NoWhole_word
  mk_NoWhole := ⟨mk_NoWhole, mi_NoWhole, h0_NoWhole__init__, kc_NoWhole⟩
  is_NoWhole_Denial := is_NoWhole_Denial
  is_NoWhole_Paper := is_NoWhole_Paper
  is_NoWhole_NoWhole := is_NoWhole_NoWhole
  is_NoWhole_Whole := is_NoWhole_Whole
  is_NoWhole_Between := is_NoWhole_Between
  is_NoWhole_ByPower := is_NoWhole_ByPower
  is_NoWhole_Uneven := is_NoWhole_Uneven
  k_Whole := ⟨a_Whole, PySem.W.mg_of X G h1_Whole, ⟨pg_Whole, hd_Whole, po_Whole, sa_Whole⟩, kc_Whole, ha_Whole, hn_, ht_, hm_Whole, mk_Whole⟩
  na_Whole_low := na_Whole_low
  na_Whole_number := na_Whole_number
  na_Whole_parts := na_Whole_parts
  na_Whole_power := na_Whole_power
  na_Whole_step := na_Whole_step
  na_Whole_word := na_Whole_word
  mk_Whole := ⟨mk_Whole, mi_Whole, h0_Whole__init__, kc_Whole⟩
  is_Whole_Denial := is_Whole_Denial
  is_Whole_Paper := is_Whole_Paper
  is_Whole_NoWhole := is_Whole_NoWhole
  is_Whole_Whole := is_Whole_Whole
  is_Whole_Between := is_Whole_Between
  is_Whole_ByPower := is_Whole_ByPower
  is_Whole_Uneven := is_Whole_Uneven
  k_Between := ⟨a_Between, PySem.W.mg_of X G h1_Between, ⟨pg_Between, hd_Between, po_Between, sa_Between⟩, kc_Between, ha_Between, hn_, ht_, hm_Between, mk_Between⟩
  na_Between_low := na_Between_low
  na_Between_number := na_Between_number
  na_Between_parts := na_Between_parts
  na_Between_power := na_Between_power
  na_Between_step := na_Between_step
  na_Between_word := na_Between_word
  mk_Between := ⟨mk_Between, mi_Between, h0_Between__init__, kc_Between⟩
  is_Between_Denial := is_Between_Denial
  is_Between_Paper := is_Between_Paper
  is_Between_NoWhole := is_Between_NoWhole
  is_Between_Whole := is_Between_Whole
  is_Between_Between := is_Between_Between
  is_Between_ByPower := is_Between_ByPower
  is_Between_Uneven := is_Between_Uneven
  k_ByPower := ⟨a_ByPower, PySem.W.mg_of X G h1_ByPower, ⟨pg_ByPower, hd_ByPower, po_ByPower, sa_ByPower⟩, kc_ByPower, ha_ByPower, hn_, ht_, hm_ByPower, mk_ByPower⟩
  na_ByPower_low := na_ByPower_low
  na_ByPower_number := na_ByPower_number
  na_ByPower_parts := na_ByPower_parts
  na_ByPower_power := na_ByPower_power
  na_ByPower_step := na_ByPower_step
  na_ByPower_word := na_ByPower_word
  mk_ByPower := ⟨mk_ByPower, mi_ByPower, h0_ByPower__init__, kc_ByPower⟩
  is_ByPower_Denial := is_ByPower_Denial
  is_ByPower_Paper := is_ByPower_Paper
  is_ByPower_NoWhole := is_ByPower_NoWhole
  is_ByPower_Whole := is_ByPower_Whole
  is_ByPower_Between := is_ByPower_Between
  is_ByPower_ByPower := is_ByPower_ByPower
  is_ByPower_Uneven := is_ByPower_Uneven
  k_Uneven := ⟨a_Uneven, PySem.W.mg_of X G h1_Uneven, ⟨pg_Uneven, hd_Uneven, po_Uneven, sa_Uneven⟩, kc_Uneven, ha_Uneven, hn_, ht_, hm_Uneven, mk_Uneven⟩
  na_Uneven_low := na_Uneven_low
  na_Uneven_number := na_Uneven_number
  na_Uneven_parts := na_Uneven_parts
  na_Uneven_power := na_Uneven_power
  na_Uneven_step := na_Uneven_step
  na_Uneven_word := na_Uneven_word
  mk_Uneven := ⟨mk_Uneven, mi_Uneven, h0_Uneven__init__, kc_Uneven⟩
  is_Uneven_Denial := is_Uneven_Denial
  is_Uneven_Paper := is_Uneven_Paper
  is_Uneven_NoWhole := is_Uneven_NoWhole
  is_Uneven_Whole := is_Uneven_Whole
  is_Uneven_Between := is_Uneven_Between
  is_Uneven_ByPower := is_Uneven_ByPower
  is_Uneven_Uneven := is_Uneven_Uneven
  x_LikeError := ⟨a_LikeError, PySem.W.mg_of X G h1_LikeError⟩
  x_BadNumber := ⟨a_BadNumber, PySem.W.mg_of X G h1_BadNumber⟩
  ex_BadNumber := ⟨⟨⟨nm_BadNumber, q_BadNumber, N_BadNumber, bs_BadNumber, _, sn_BadNumber, su_BadNumber, ab_BadNumber, co_BadNumber, dd_BadNumber, k0_BadNumber, k1_BadNumber, k2_BadNumber, k3_BadNumber, k5_BadNumber, xL_BadNumber, rfl⟩, xs_BadNumber, xb_BadNumber, xt_BadNumber, xk_BadNumber⟩, xi_BadNumber, xti_BadNumber, fun f hf => by simp only [List.mem_cons, List.not_mem_nil, or_false] at hf; rcases hf with rfl <;> first | exact xn_BadNumber_part⟩
  xf_BadNumber := ⟨xga_BadNumber, xgg_BadNumber, xb_BadNumber, xhd_BadNumber⟩
  xi_BadNumber := ⟨xcl_BadNumber, xga_BadNumber, xgg_BadNumber, xb_BadNumber, xca_BadNumber, hn_, ht_, xmr_BadNumber⟩
  em_BadNumber_LikeError := exm_two yb_LikeError yi_LikeError yt_LikeError ys_BadNumber_LikeError
  ki_BadNumber_BadNumber := is_xBadNumber_BadNumber
  f__law_hat := ⟨a__law_hat, _, fun_mk (st := s__law_hat) h2__law_hat h3__law_hat h4__law_hat, PySem.W.mg_of X G h1__law_hat, (fun_mk (st := s__law_hat) h2__law_hat h3__law_hat h4__law_hat).binds fun _ _ _ _ _ _ us hl => match us, hl with | [_], _ => rfl⟩
  f__law_lot := ⟨a__law_lot, _, fun_mk (st := s__law_lot) h2__law_lot h3__law_lot h4__law_lot, PySem.W.mg_of X G h1__law_lot, (fun_mk (st := s__law_lot) h2__law_lot h3__law_lot h4__law_lot).binds fun _ _ _ _ _ _ us hl => match us, hl with | [_, _], _ => rfl⟩
  f__law_one := ⟨a__law_one, _, fun_mk (st := s__law_one) h2__law_one h3__law_one h4__law_one, PySem.W.mg_of X G h1__law_one, (fun_mk (st := s__law_one) h2__law_one h3__law_one h4__law_one).binds fun _ _ _ _ _ _ us hl => match us, hl with | [_, _], _ => rfl⟩
  f__law_bad := ⟨a__law_bad, _, fun_mk (st := s__law_bad) h2__law_bad h3__law_bad h4__law_bad, PySem.W.mg_of X G h1__law_bad, (fun_mk (st := s__law_bad) h2__law_bad h3__law_bad h4__law_bad).binds fun _ _ _ _ _ _ us hl => match us, hl with | [_, _, _], _ => rfl⟩
  f__law_good := ⟨a__law_good, _, fun_mk (st := s__law_good) h2__law_good h3__law_good h4__law_good, PySem.W.mg_of X G h1__law_good, (fun_mk (st := s__law_good) h2__law_good h3__law_good h4__law_good).binds fun _ _ _ _ _ _ us hl => match us, hl with | [_, _, _], _ => rfl⟩
  f__law_within := ⟨a__law_within, _, fun_mk (st := s__law_within) h2__law_within h3__law_within h4__law_within, PySem.W.mg_of X G h1__law_within, (fun_mk (st := s__law_within) h2__law_within h3__law_within h4__law_within).binds fun _ _ _ _ _ _ us hl => match us, hl with | [_, _, _], _ => rfl⟩
  f__law_spoilt := ⟨a__law_spoilt, _, fun_mk (st := s__law_spoilt) h2__law_spoilt h3__law_spoilt h4__law_spoilt, PySem.W.mg_of X G h1__law_spoilt, (fun_mk (st := s__law_spoilt) h2__law_spoilt h3__law_spoilt h4__law_spoilt).binds fun _ _ _ _ _ _ us hl => match us, hl with | [_, _], _ => rfl⟩
  f__law_heard := ⟨a__law_heard, oc__law_heard, kV__law_heard, dc__law_heard, pm__law_heard, cd__law_heard, ct__law_heard, od__law_heard, an__law_heard, sl__law_heard, h2__law_heard, h3__law_heard, h4__law_heard, PySem.W.mg_of X G h1__law_heard, (fun_mk (st := s__law_heard) h2__law_heard h3__law_heard h4__law_heard).binds fun _ _ _ _ _ _ us hl => match us, hl with | [_], _ => rfl⟩
  f_is_integer := ⟨a_is_integer, _, fun_mk (st := s_is_integer) h2_is_integer h3_is_integer h4_is_integer, PySem.W.mg_of X G h1_is_integer, (fun_mk (st := s_is_integer) h2_is_integer h3_is_integer h4_is_integer).binds fun _ _ _ _ _ _ us hl => match us, hl with | [_], _ => rfl⟩
  f_is_within := ⟨a_is_within, _, fun_mk (st := s_is_within) h2_is_within h3_is_within h4_is_within, PySem.W.mg_of X G h1_is_within, (fun_mk (st := s_is_within) h2_is_within h3_is_within h4_is_within).binds fun _ _ _ _ _ _ us hl => match us, hl with | [_, _, _], _ => rfl⟩
  f_need_within := ⟨a_need_within, _, fun_mk (st := s_need_within) h2_need_within h3_need_within h4_need_within, PySem.W.mg_of X G h1_need_within, (fun_mk (st := s_need_within) h2_need_within h3_need_within h4_need_within).binds fun _ _ _ _ _ _ us hl => match us, hl with | [_, _, _, _], _ => rfl⟩
  f_need_numbers := ⟨a_need_numbers, _, fun_mk (st := s_need_numbers) h2_need_numbers h3_need_numbers h4_need_numbers, PySem.W.mg_of X G h1_need_numbers, (fun_mk (st := s_need_numbers) h2_need_numbers h3_need_numbers h4_need_numbers).binds fun _ _ _ _ _ _ us hl => match us, hl with | [_, _], _ => rfl⟩
  f_need_power := ⟨a_need_power, _, fun_mk (st := s_need_power) h2_need_power h3_need_power h4_need_power, PySem.W.mg_of X G h1_need_power, (fun_mk (st := s_need_power) h2_need_power h3_need_power h4_need_power).binds fun _ _ _ _ _ _ us hl => match us, hl with | [_], _ => rfl⟩
  f_raised := ⟨a_raised, _, fun_mk (st := s_raised) h2_raised h3_raised h4_raised, PySem.W.mg_of X G h1_raised, (fun_mk (st := s_raised) h2_raised h3_raised h4_raised).binds fun _ _ _ _ _ _ us hl => match us, hl with | [_, _], _ => rfl⟩
  f_whole_sum := ⟨a_whole_sum, _, fun_mk (st := s_whole_sum) h2_whole_sum h3_whole_sum h4_whole_sum, PySem.W.mg_of X G h1_whole_sum, (fun_mk (st := s_whole_sum) h2_whole_sum h3_whole_sum h4_whole_sum).binds fun _ _ _ _ _ _ us hl => match us, hl with | [_, _, _, _, _], _ => rfl⟩
  f_sign_at := ⟨a_sign_at, _, fun_mk (st := s_sign_at) h2_sign_at h3_sign_at h4_sign_at, PySem.W.mg_of X G h1_sign_at, (fun_mk (st := s_sign_at) h2_sign_at h3_sign_at h4_sign_at).binds fun _ _ _ _ _ _ us hl => match us, hl with | [_, _, _, _, _], _ => rfl⟩
  f_is_by_power := ⟨a_is_by_power, _, fun_mk (st := s_is_by_power) h2_is_by_power h3_is_by_power h4_is_by_power, PySem.W.mg_of X G h1_is_by_power, (fun_mk (st := s_is_by_power) h2_is_by_power h3_is_by_power h4_is_by_power).binds fun _ _ _ _ _ _ us hl => match us, hl with | [_, _, _, _, _], _ => rfl⟩
  f_is_by := ⟨a_is_by, _, fun_mk (st := s_is_by) h2_is_by h3_is_by h4_is_by, PySem.W.mg_of X G h1_is_by, (fun_mk (st := s_is_by) h2_is_by h3_is_by h4_is_by).binds fun _ _ _ _ _ _ us hl => match us, hl with | [_, _, _, _, _], _ => rfl⟩
  f__law_fours_right := ⟨a__law_fours_right, _, fun_mk (st := s__law_fours_right) h2__law_fours_right h3__law_fours_right h4__law_fours_right, PySem.W.mg_of X G h1__law_fours_right, (fun_mk (st := s__law_fours_right) h2__law_fours_right h3__law_fours_right h4__law_fours_right).binds fun _ _ _ _ _ _ us hl => match us, hl with | [_], _ => rfl⟩
  lc__law_fours_right := lc__law_fours_right
  lp__law_fours_right := lp__law_fours_right
  cd__law_fours_right := rfl
  tt__law_fours_right := tabIn_of h1__law_fours_right h2__law_fours_right rfl hL__law_fours_right hv__law_fours_right
  tz__law_fours_right := hz__law_fours_right
  f_fourth_quotient := ⟨a_fourth_quotient, _, fun_mk (st := s_fourth_quotient) h2_fourth_quotient h3_fourth_quotient h4_fourth_quotient, PySem.W.mg_of X G h1_fourth_quotient, (fun_mk (st := s_fourth_quotient) h2_fourth_quotient h3_fourth_quotient h4_fourth_quotient).binds fun _ _ _ _ _ _ us hl => match us, hl with | [_, _, _, _], _ => rfl⟩
  f_fixed := ⟨a_fixed, _, fun_mk (st := s_fixed) h2_fixed h3_fixed h4_fixed, PySem.W.mg_of X G h1_fixed, (fun_mk (st := s_fixed) h2_fixed h3_fixed h4_fixed).binds fun _ _ _ _ _ _ us hl => match us, hl with | [_], _ => rfl⟩
  f_side_of := ⟨a_side_of, _, fun_mk (st := s_side_of) h2_side_of h3_side_of h4_side_of, PySem.W.mg_of X G h1_side_of, (fun_mk (st := s_side_of) h2_side_of h3_side_of h4_side_of).binds fun _ _ _ _ _ _ us hl => match us, hl with | [_, _], _ => rfl⟩
  f_whole_below := ⟨a_whole_below, _, fun_mk (st := s_whole_below) h2_whole_below h3_whole_below h4_whole_below, PySem.W.mg_of X G h1_whole_below, (fun_mk (st := s_whole_below) h2_whole_below h3_whole_below h4_whole_below).binds fun _ _ _ _ _ _ us hl => match us, hl with | [_], _ => rfl⟩
  f_fourth_by := ⟨a_fourth_by, _, fun_mk (st := s_fourth_by) h2_fourth_by h3_fourth_by h4_fourth_by, PySem.W.mg_of X G h1_fourth_by, (fun_mk (st := s_fourth_by) h2_fourth_by h3_fourth_by h4_fourth_by).binds fun _ _ _ _ _ _ us hl => match us, hl with | [_, _, _, _], _ => rfl⟩
  f_shows_fourth_by := ⟨a_shows_fourth_by, _, fun_mk (st := s_shows_fourth_by) h2_shows_fourth_by h3_shows_fourth_by h4_shows_fourth_by, PySem.W.mg_of X G h1_shows_fourth_by, (fun_mk (st := s_shows_fourth_by) h2_shows_fourth_by h3_shows_fourth_by h4_shows_fourth_by).binds fun _ _ _ _ _ _ us hl => match us, hl with | [_, _, _, _, _], _ => rfl⟩
  f__law_threes_right := ⟨a__law_threes_right, _, fun_mk (st := s__law_threes_right) h2__law_threes_right h3__law_threes_right h4__law_threes_right, PySem.W.mg_of X G h1__law_threes_right, (fun_mk (st := s__law_threes_right) h2__law_threes_right h3__law_threes_right h4__law_threes_right).binds fun _ _ _ _ _ _ us hl => match us, hl with | [_], _ => rfl⟩
  lc__law_threes_right := lc__law_threes_right
  lp__law_threes_right := lp__law_threes_right
  cd__law_threes_right := rfl
  tt__law_threes_right := tabIn_of h1__law_threes_right h2__law_threes_right rfl hL__law_threes_right hv__law_threes_right
  tz__law_threes_right := hz__law_threes_right
  f_whole_fourth := ⟨a_whole_fourth, _, fun_mk (st := s_whole_fourth) h2_whole_fourth h3_whole_fourth h4_whole_fourth, PySem.W.mg_of X G h1_whole_fourth, (fun_mk (st := s_whole_fourth) h2_whole_fourth h3_whole_fourth h4_whole_fourth).binds fun _ _ _ _ _ _ us hl => match us, hl with | [_, _, _, _], _ => rfl⟩
  f_numbers_by := ⟨a_numbers_by, _, fun_mk (st := s_numbers_by) h2_numbers_by h3_numbers_by h4_numbers_by, PySem.W.mg_of X G h1_numbers_by, (fun_mk (st := s_numbers_by) h2_numbers_by h3_numbers_by h4_numbers_by).binds fun _ _ _ _ _ _ us hl => match us, hl with | [_, _, _, _], _ => rfl⟩
  f__law_rows_right := ⟨a__law_rows_right, _, fun_mk (st := s__law_rows_right) h2__law_rows_right h3__law_rows_right h4__law_rows_right, PySem.W.mg_of X G h1__law_rows_right, (fun_mk (st := s__law_rows_right) h2__law_rows_right h3__law_rows_right h4__law_rows_right).binds fun _ _ _ _ _ _ us hl => match us, hl with | [_], _ => rfl⟩
  lc__law_rows_right := lc__law_rows_right
  lp__law_rows_right := lp__law_rows_right
  cd__law_rows_right := rfl
  tt__law_rows_right := tabIn_of h1__law_rows_right h2__law_rows_right rfl hL__law_rows_right hv__law_rows_right
  tz__law_rows_right := hz__law_rows_right
  f__law_growing := ⟨a__law_growing, _, fun_mk (st := s__law_growing) h2__law_growing h3__law_growing h4__law_growing, PySem.W.mg_of X G h1__law_growing, (fun_mk (st := s__law_growing) h2__law_growing h3__law_growing h4__law_growing).binds fun _ _ _ _ _ _ us hl => match us, hl with | [_], _ => rfl⟩
  f__law_growing_due := ⟨a__law_growing_due, _, fun_mk (st := s__law_growing_due) h2__law_growing_due h3__law_growing_due h4__law_growing_due, PySem.W.mg_of X G h1__law_growing_due, (fun_mk (st := s__law_growing_due) h2__law_growing_due h3__law_growing_due h4__law_growing_due).binds fun _ _ _ _ _ _ us hl => match us, hl with | [_], _ => rfl⟩
  f_need_growing := ⟨a_need_growing, _, fun_mk (st := s_need_growing) h2_need_growing h3_need_growing h4_need_growing, PySem.W.mg_of X G h1_need_growing, (fun_mk (st := s_need_growing) h2_need_growing h3_need_growing h4_need_growing).binds fun _ _ _ _ _ _ us hl => match us, hl with | [_, _, _, _], _ => rfl⟩
  f_power_of := ⟨a_power_of, _, fun_mk (st := s_power_of) h2_power_of h3_power_of h4_power_of, PySem.W.mg_of X G h1_power_of, (fun_mk (st := s_power_of) h2_power_of h3_power_of h4_power_of).binds fun _ _ _ _ _ _ us hl => match us, hl with | [_, _, _, _], _ => rfl⟩
  f_is_between := ⟨a_is_between, _, fun_mk (st := s_is_between) h2_is_between h3_is_between h4_is_between, PySem.W.mg_of X G h1_is_between, (fun_mk (st := s_is_between) h2_is_between h3_is_between h4_is_between).binds fun _ _ _ _ _ _ us hl => match us, hl with | [_, _, _, _, _], _ => rfl⟩
  f_shows_power := ⟨a_shows_power, _, fun_mk (st := s_shows_power) h2_shows_power h3_shows_power h4_shows_power, PySem.W.mg_of X G h1_shows_power, (fun_mk (st := s_shows_power) h2_shows_power h3_shows_power h4_shows_power).binds fun _ _ _ _ _ _ us hl => match us, hl with | [_, _, _, _, _], _ => rfl⟩
  f__law_powers_right := ⟨a__law_powers_right, _, fun_mk (st := s__law_powers_right) h2__law_powers_right h3__law_powers_right h4__law_powers_right, PySem.W.mg_of X G h1__law_powers_right, (fun_mk (st := s__law_powers_right) h2__law_powers_right h3__law_powers_right h4__law_powers_right).binds fun _ _ _ _ _ _ us hl => match us, hl with | [_], _ => rfl⟩
  lc__law_powers_right := lc__law_powers_right
  lp__law_powers_right := lp__law_powers_right
  cd__law_powers_right := rfl
  tt__law_powers_right := tabIn_of h1__law_powers_right h2__law_powers_right rfl hL__law_powers_right hv__law_powers_right
  tz__law_powers_right := hz__law_powers_right
  f_is_list := ⟨a_is_list, _, fun_mk (st := s_is_list) h2_is_list h3_is_list h4_is_list, PySem.W.mg_of X G h1_is_list, (fun_mk (st := s_is_list) h2_is_list h3_is_list h4_is_list).binds fun _ _ _ _ _ _ us hl => match us, hl with | [_], _ => rfl⟩
  f_need_growing_row := ⟨a_need_growing_row, _, fun_mk (st := s_need_growing_row) h2_need_growing_row h3_need_growing_row h4_need_growing_row, PySem.W.mg_of X G h1_need_growing_row, (fun_mk (st := s_need_growing_row) h2_need_growing_row h3_need_growing_row h4_need_growing_row).binds fun _ _ _ _ _ _ us hl => match us, hl with | [_], _ => rfl⟩
  f_is_step_by := ⟨a_is_step_by, _, fun_mk (st := s_is_step_by) h2_is_step_by h3_is_step_by h4_is_step_by, PySem.W.mg_of X G h1_is_step_by, (fun_mk (st := s_is_step_by) h2_is_step_by h3_is_step_by h4_is_step_by).binds fun _ _ _ _ _ _ us hl => match us, hl with | [_, _, _], _ => rfl⟩
  f_power_of_row := ⟨a_power_of_row, _, fun_mk (st := s_power_of_row) h2_power_of_row h3_power_of_row h4_power_of_row, PySem.W.mg_of X G h1_power_of_row, (fun_mk (st := s_power_of_row) h2_power_of_row h3_power_of_row h4_power_of_row).binds fun _ _ _ _ _ _ us hl => match us, hl with | [_], _ => rfl⟩
  f_is_just := ⟨a_is_just, _, fun_mk (st := s_is_just) h2_is_just h3_is_just h4_is_just, PySem.W.mg_of X G h1_is_just, (fun_mk (st := s_is_just) h2_is_just h3_is_just h4_is_just).binds fun _ _ _ _ _ _ us hl => match us, hl with | [_, _], _ => rfl⟩
  f_shows_power_of_row := ⟨a_shows_power_of_row, _, fun_mk (st := s_shows_power_of_row) h2_shows_power_of_row h3_shows_power_of_row h4_shows_power_of_row, PySem.W.mg_of X G h1_shows_power_of_row, (fun_mk (st := s_shows_power_of_row) h2_shows_power_of_row h3_shows_power_of_row h4_shows_power_of_row).binds fun _ _ _ _ _ _ us hl => match us, hl with | [_, _], _ => rfl⟩
  f__law_numbers_right := ⟨a__law_numbers_right, _, fun_mk (st := s__law_numbers_right) h2__law_numbers_right h3__law_numbers_right h4__law_numbers_right, PySem.W.mg_of X G h1__law_numbers_right, (fun_mk (st := s__law_numbers_right) h2__law_numbers_right h3__law_numbers_right h4__law_numbers_right).binds fun _ _ _ _ _ _ us hl => match us, hl with | [_], _ => rfl⟩
  lc__law_numbers_right := lc__law_numbers_right
  lp__law_numbers_right := lp__law_numbers_right
  cd__law_numbers_right := rfl
  tt__law_numbers_right := tabIn_of h1__law_numbers_right h2__law_numbers_right rfl hL__law_numbers_right hv__law_numbers_right
  tz__law_numbers_right := hz__law_numbers_right
  f_law := ⟨a_law, _, fun_mk (st := s_law) h2_law h3_law h4_law, PySem.W.mg_of X G h1_law, (fun_mk (st := s_law) h2_law h3_law h4_law).binds fun _ _ _ _ _ _ us hl => match us, hl with | [_], _ => rfl⟩
  t_LEAST_LONG := t_LEAST_LONG
  c_LEAST_LONG := PySem.W.mg_of X G z_LEAST_LONG
  t_LEAST_POWER := t_LEAST_POWER
  c_LEAST_POWER := PySem.W.mg_of X G z_LEAST_POWER
  t_MOST_LONG := t_MOST_LONG
  c_MOST_LONG := PySem.W.mg_of X G z_MOST_LONG
  t_MOST_NUMBER := t_MOST_NUMBER
  c_MOST_NUMBER := PySem.W.mg_of X G z_MOST_NUMBER
  t_MOST_POWER := t_MOST_POWER
  c_MOST_POWER := PySem.W.mg_of X G z_MOST_POWER
  t_MOST_SMALL := t_MOST_SMALL
  c_MOST_SMALL := PySem.W.mg_of X G z_MOST_SMALL
  tnd := ndT
  n_abs := PySem.W.mg_none_of X G z_abs
  n_all := PySem.W.mg_none_of X G z_all
  n_bool := PySem.W.mg_none_of X G z_bool
  n_enumerate := PySem.W.mg_none_of X G z_enumerate
  n_int := PySem.W.mg_none_of X G z_int
  n_isinstance := PySem.W.mg_none_of X G z_isinstance
  n_len := PySem.W.mg_none_of X G z_len
  n_list := PySem.W.mg_none_of X G z_list
  n_range := PySem.W.mg_none_of X G z_range
  n_repr := PySem.W.mg_none_of X G z_repr
  n_set := PySem.W.mg_none_of X G z_set
  n_sorted := PySem.W.mg_none_of X G z_sorted
  n_str := PySem.W.mg_none_of X G z_str
  n_tuple := PySem.W.mg_none_of X G z_tuple
  n_type := PySem.W.mg_none_of X G z_type
  n_zip := PySem.W.mg_none_of X G z_zip
theorem all_mk {q : Program} {lo : List Str} {mean : ExcName → Option Value} {l : PySem.W.OpenLaw} {w : World} {K : PySem.W.Frag} {mg mb : Str → Option Value} {fa : Addr} {h : Heap} (TP : Top q lo mean mg mb h) (X : K.In h) (qr : ∀ x ∈ (["_law_fours_right", "_law_threes_right", "_law_rows_right", "_law_powers_right", "_law_numbers_right"] : List Str), ((recsOf q).any fun e => e.name == x) = true) (T : Txt K mg) (hfa : mg "law" = some (.ref fa)) :
    ∃ (fd : FuncData) (cs : List (Addr × Addr)), (∀ (s : Shared) (u : Value), BindsTo s fd ⟨[u], []⟩ [("_law_script", u)]) ∧ (∀ p ∈ cs, PySem.W.CodeHd h p.1 p.2 ∧ h.get? p.2 = some (PySem.W.tabObj #[])) ∧ (∀ p ∈ cs, K.lookup p.2 = none) ∧
      ∀ base : Heap, K.In base → base.Ns mainGlobals mg → BFa base mg cs → FnG l.prog w K mg base 25 fa fd ["_law_script"] (spLawT K cs) := by
  have e := hfa.symm.trans T.f_law.g
  cases e
  refine ⟨T.f_law.fd, csOf T, fun s v => ?_, fun p hp => ?_, fun p hp => ?_, fun base _ _ bf => (ok_law T bf).weak fun vs H Q E h => ?_⟩
  · obtain ⟨oc, od, kV, doc, pm, an, cdv, ct, osl, e, lk, hcd⟩ := T.f_law.F.ex
    rw [e]
    exact .of_eq rfl
  · simp only [csOf, List.mem_cons, List.not_mem_nil, or_false] at hp
    rcases hp with rfl | rfl | rfl | rfl | rfl
    · exact tab_at TP X (qr "_law_fours_right" (by simp)) T.tt__law_fours_right
    · exact tab_at TP X (qr "_law_threes_right" (by simp)) T.tt__law_threes_right
    · exact tab_at TP X (qr "_law_rows_right" (by simp)) T.tt__law_rows_right
    · exact tab_at TP X (qr "_law_powers_right" (by simp)) T.tt__law_powers_right
    · exact tab_at TP X (qr "_law_numbers_right" (by simp)) T.tt__law_numbers_right
  · simp only [csOf, List.mem_cons, List.not_mem_nil, or_false] at hp
    rcases hp with rfl | rfl | rfl | rfl | rfl
    · exact T.tz__law_fours_right
    · exact T.tz__law_threes_right
    · exact T.tz__law_rows_right
    · exact T.tz__law_powers_right
    · exact T.tz__law_numbers_right
  · obtain ⟨a, ns, hl, rfl, only, tb, seq, q⟩ := h
    exact law_spT (mem_all T) (law_true ns hl) tb seq q
end Q
open PySem PySem.W PyProof.Rows
set_option maxHeartbeats 0 in
theorem PySem.Challenge.cw_fourthlike_k08_numbers_refused_in_order_holds : PySem.Challenge.rw_fourthlike_k08_numbers_refused_in_order.Holds := by
  w_on; o_law; k_head; (case hw => w_witness2)
  k_fill
  refine Dl.walk_GT (l := PySem.Challenge.rw_fourthlike_k08_numbers_refused_in_order) (k := 25) (x := "_law_script") rfl rfl ⟨rfl, by decide, by decide⟩ (by decide +kernel) (fun w h Y => PySem.W.km_in_of Y) ?F
  case F =>
    intro w lo mean mg mb fa h TP KX G hmg
    refine Q.all_mk TP KX ?qr ?T hmg
    case qr => intro x hx; simp only [List.mem_cons, List.not_mem_nil, or_false] at hx; rcases hx with rfl | rfl | rfl | rfl | rfl <;> decide +kernel
    case T =>
      refine' Q.mk_txt KX G ?h1_Denial ?h1_Paper ?h1_NoWhole ?h1_Whole ?h1_Between ?h1_ByPower ?h1_Uneven ?h0_Denial__init__ ?h2_Denial__init__ ?h3_Denial__init__ ?h4_Denial__init__ ?h0_NoWhole__init__ ?h2_NoWhole__init__ ?h3_NoWhole__init__ ?h4_NoWhole__init__ ?h0_Paper__init__ ?h2_Paper__init__ ?h3_Paper__init__ ?h4_Paper__init__ ?h0_Whole__init__ ?h2_Whole__init__ ?h3_Whole__init__ ?h4_Whole__init__ ?h0_Between__init__ ?h2_Between__init__ ?h3_Between__init__ ?h4_Between__init__ ?h0_ByPower__init__ ?h2_ByPower__init__ ?h3_ByPower__init__ ?h4_ByPower__init__ ?h0_Uneven__init__ ?h2_Uneven__init__ ?h3_Uneven__init__ ?h4_Uneven__init__ ?h0_BadNumber__init__ ?h2_BadNumber__init__ ?h3_BadNumber__init__ ?h4_BadNumber__init__ ?pg_Denial ?hd_Denial ?po_Denial ?sa_Denial ?mk_Denial ?kc_Denial ?ha_Denial ?hm_Denial ?na_Denial_low ?na_Denial_number ?na_Denial_parts ?na_Denial_power ?na_Denial_step ?na_Denial_word ?mi_Denial ?r1_Denial ?r2_Denial ?r3_Denial__init__ ?is_Denial_Denial ?is_Denial_Paper ?is_Denial_NoWhole ?is_Denial_Whole ?is_Denial_Between ?is_Denial_ByPower ?is_Denial_Uneven ?pg_Paper ?hd_Paper ?po_Paper ?sa_Paper ?mk_Paper ?kc_Paper ?ha_Paper ?hm_Paper ?na_Paper_low ?na_Paper_number ?na_Paper_parts ?na_Paper_power ?na_Paper_step ?na_Paper_word ?mi_Paper ?r1_Paper ?r2_Paper ?r3_Paper__init__ ?is_Paper_Denial ?is_Paper_Paper ?is_Paper_NoWhole ?is_Paper_Whole ?is_Paper_Between ?is_Paper_ByPower ?is_Paper_Uneven ?pg_NoWhole ?hd_NoWhole ?po_NoWhole ?sa_NoWhole ?mk_NoWhole ?kc_NoWhole ?ha_NoWhole ?hm_NoWhole ?na_NoWhole_low ?na_NoWhole_number ?na_NoWhole_parts ?na_NoWhole_power ?na_NoWhole_step ?na_NoWhole_word ?mi_NoWhole ?is_NoWhole_Denial ?is_NoWhole_Paper ?is_NoWhole_NoWhole ?is_NoWhole_Whole ?is_NoWhole_Between ?is_NoWhole_ByPower ?is_NoWhole_Uneven ?pg_Whole ?hd_Whole ?po_Whole ?sa_Whole ?mk_Whole ?kc_Whole ?ha_Whole ?hm_Whole ?na_Whole_low ?na_Whole_number ?na_Whole_parts ?na_Whole_power ?na_Whole_step ?na_Whole_word ?mi_Whole ?is_Whole_Denial ?is_Whole_Paper ?is_Whole_NoWhole ?is_Whole_Whole ?is_Whole_Between ?is_Whole_ByPower ?is_Whole_Uneven ?pg_Between ?hd_Between ?po_Between ?sa_Between ?mk_Between ?kc_Between ?ha_Between ?hm_Between ?na_Between_low ?na_Between_number ?na_Between_parts ?na_Between_power ?na_Between_step ?na_Between_word ?mi_Between ?is_Between_Denial ?is_Between_Paper ?is_Between_NoWhole ?is_Between_Whole ?is_Between_Between ?is_Between_ByPower ?is_Between_Uneven ?pg_ByPower ?hd_ByPower ?po_ByPower ?sa_ByPower ?mk_ByPower ?kc_ByPower ?ha_ByPower ?hm_ByPower ?na_ByPower_low ?na_ByPower_number ?na_ByPower_parts ?na_ByPower_power ?na_ByPower_step ?na_ByPower_word ?mi_ByPower ?is_ByPower_Denial ?is_ByPower_Paper ?is_ByPower_NoWhole ?is_ByPower_Whole ?is_ByPower_Between ?is_ByPower_ByPower ?is_ByPower_Uneven ?pg_Uneven ?hd_Uneven ?po_Uneven ?sa_Uneven ?mk_Uneven ?kc_Uneven ?ha_Uneven ?hm_Uneven ?na_Uneven_low ?na_Uneven_number ?na_Uneven_parts ?na_Uneven_power ?na_Uneven_step ?na_Uneven_word ?mi_Uneven ?is_Uneven_Denial ?is_Uneven_Paper ?is_Uneven_NoWhole ?is_Uneven_Whole ?is_Uneven_Between ?is_Uneven_ByPower ?is_Uneven_Uneven ?hn_ ?ht_ ?h1_LikeError ?h1_BadNumber ?xL_BadNumber ?xs_BadNumber ?xb_BadNumber ?xt_BadNumber ?xk_BadNumber ?xga_BadNumber ?xgg_BadNumber ?xhd_BadNumber ?xcl_BadNumber ?xca_BadNumber ?xmr_BadNumber ?xi_BadNumber ?xti_BadNumber ?xn_BadNumber_part ?yb_LikeError ?yi_LikeError ?yt_LikeError ?ys_BadNumber_LikeError ?is_xBadNumber_BadNumber ?h1__law_hat ?h2__law_hat ?h3__law_hat ?h4__law_hat ?h1__law_lot ?h2__law_lot ?h3__law_lot ?h4__law_lot ?h1__law_one ?h2__law_one ?h3__law_one ?h4__law_one ?h1__law_bad ?h2__law_bad ?h3__law_bad ?h4__law_bad ?h1__law_good ?h2__law_good ?h3__law_good ?h4__law_good ?h1__law_within ?h2__law_within ?h3__law_within ?h4__law_within ?h1__law_spoilt ?h2__law_spoilt ?h3__law_spoilt ?h4__law_spoilt ?h1__law_heard ?h2__law_heard ?h3__law_heard ?h4__law_heard ?h1_is_integer ?h2_is_integer ?h3_is_integer ?h4_is_integer ?h1_is_within ?h2_is_within ?h3_is_within ?h4_is_within ?h1_need_within ?h2_need_within ?h3_need_within ?h4_need_within ?h1_need_numbers ?h2_need_numbers ?h3_need_numbers ?h4_need_numbers ?h1_need_power ?h2_need_power ?h3_need_power ?h4_need_power ?h1_raised ?h2_raised ?h3_raised ?h4_raised ?h1_whole_sum ?h2_whole_sum ?h3_whole_sum ?h4_whole_sum ?h1_sign_at ?h2_sign_at ?h3_sign_at ?h4_sign_at ?h1_is_by_power ?h2_is_by_power ?h3_is_by_power ?h4_is_by_power ?h1_is_by ?h2_is_by ?h3_is_by ?h4_is_by ?h1__law_fours_right ?h2__law_fours_right ?h3__law_fours_right ?h4__law_fours_right ?hL__law_fours_right ?hv__law_fours_right ?hz__law_fours_right ?h1_fourth_quotient ?h2_fourth_quotient ?h3_fourth_quotient ?h4_fourth_quotient ?h1_fixed ?h2_fixed ?h3_fixed ?h4_fixed ?h1_side_of ?h2_side_of ?h3_side_of ?h4_side_of ?h1_whole_below ?h2_whole_below ?h3_whole_below ?h4_whole_below ?h1_fourth_by ?h2_fourth_by ?h3_fourth_by ?h4_fourth_by ?h1_shows_fourth_by ?h2_shows_fourth_by ?h3_shows_fourth_by ?h4_shows_fourth_by ?h1__law_threes_right ?h2__law_threes_right ?h3__law_threes_right ?h4__law_threes_right ?hL__law_threes_right ?hv__law_threes_right ?hz__law_threes_right ?h1_whole_fourth ?h2_whole_fourth ?h3_whole_fourth ?h4_whole_fourth ?h1_numbers_by ?h2_numbers_by ?h3_numbers_by ?h4_numbers_by ?h1__law_rows_right ?h2__law_rows_right ?h3__law_rows_right ?h4__law_rows_right ?hL__law_rows_right ?hv__law_rows_right ?hz__law_rows_right ?h1__law_growing ?h2__law_growing ?h3__law_growing ?h4__law_growing ?h1__law_growing_due ?h2__law_growing_due ?h3__law_growing_due ?h4__law_growing_due ?h1_need_growing ?h2_need_growing ?h3_need_growing ?h4_need_growing ?h1_power_of ?h2_power_of ?h3_power_of ?h4_power_of ?h1_is_between ?h2_is_between ?h3_is_between ?h4_is_between ?h1_shows_power ?h2_shows_power ?h3_shows_power ?h4_shows_power ?h1__law_powers_right ?h2__law_powers_right ?h3__law_powers_right ?h4__law_powers_right ?hL__law_powers_right ?hv__law_powers_right ?hz__law_powers_right ?h1_is_list ?h2_is_list ?h3_is_list ?h4_is_list ?h1_need_growing_row ?h2_need_growing_row ?h3_need_growing_row ?h4_need_growing_row ?h1_is_step_by ?h2_is_step_by ?h3_is_step_by ?h4_is_step_by ?h1_power_of_row ?h2_power_of_row ?h3_power_of_row ?h4_power_of_row ?h1_is_just ?h2_is_just ?h3_is_just ?h4_is_just ?h1_shows_power_of_row ?h2_shows_power_of_row ?h3_shows_power_of_row ?h4_shows_power_of_row ?h1__law_numbers_right ?h2__law_numbers_right ?h3__law_numbers_right ?h4__law_numbers_right ?hL__law_numbers_right ?hv__law_numbers_right ?hz__law_numbers_right ?h1_law ?h2_law ?h3_law ?h4_law ?z_LEAST_LONG ?z_LEAST_POWER ?z_MOST_LONG ?z_MOST_NUMBER ?z_MOST_POWER ?z_MOST_SMALL ?ndT ?z_abs ?z_all ?z_bool ?z_enumerate ?z_int ?z_isinstance ?z_len ?z_list ?z_range ?z_repr ?z_set ?z_sorted ?z_str ?z_tuple ?z_type ?z_zip
      (case h1_Denial => k_is)
      (case h1_Paper => k_is)
      (case h1_NoWhole => k_is)
      (case h1_Whole => k_is)
      (case h1_Between => k_is)
      (case h1_ByPower => k_is)
      (case h1_Uneven => k_is)
      (case h1_LikeError => k_is)
      (case h1_BadNumber => k_is)
      (case h1__law_hat => k_is)
      (case h1__law_lot => k_is)
      (case h1__law_one => k_is)
      (case h1__law_bad => k_is)
      (case h1__law_good => k_is)
      (case h1__law_within => k_is)
      (case h1__law_spoilt => k_is)
      (case h1__law_heard => k_is)
      (case h1_is_integer => k_is)
      (case h1_is_within => k_is)
      (case h1_need_within => k_is)
      (case h1_need_numbers => k_is)
      (case h1_need_power => k_is)
      (case h1_raised => k_is)
      (case h1_whole_sum => k_is)
      (case h1_sign_at => k_is)
      (case h1_is_by_power => k_is)
      (case h1_is_by => k_is)
      (case h1__law_fours_right => k_is)
      (case h1_fourth_quotient => k_is)
      (case h1_fixed => k_is)
      (case h1_side_of => k_is)
      (case h1_whole_below => k_is)
      (case h1_fourth_by => k_is)
      (case h1_shows_fourth_by => k_is)
      (case h1__law_threes_right => k_is)
      (case h1_whole_fourth => k_is)
      (case h1_numbers_by => k_is)
      (case h1__law_rows_right => k_is)
      (case h1__law_growing => k_is)
      (case h1__law_growing_due => k_is)
      (case h1_need_growing => k_is)
      (case h1_power_of => k_is)
      (case h1_is_between => k_is)
      (case h1_shows_power => k_is)
      (case h1__law_powers_right => k_is)
      (case h1_is_list => k_is)
      (case h1_need_growing_row => k_is)
      (case h1_is_step_by => k_is)
      (case h1_power_of_row => k_is)
      (case h1_is_just => k_is)
      (case h1_shows_power_of_row => k_is)
      (case h1__law_numbers_right => k_is)
      (case h1_law => k_is)
      (case mi_Denial => k_is)
      (case r3_Denial__init__ => k_is)
      (case mi_Paper => k_is)
      (case r3_Paper__init__ => k_is)
      (case mi_NoWhole => k_is)
      (case mi_Whole => k_is)
      (case mi_Between => k_is)
      (case mi_ByPower => k_is)
      (case mi_Uneven => k_is)
      (case xi_BadNumber => k_is)
      (case h2_Denial__init__ => k_is)
      (case h2_NoWhole__init__ => k_is)
      (case h2_Paper__init__ => k_is)
      (case h2_Whole__init__ => k_is)
      (case h2_Between__init__ => k_is)
      (case h2_ByPower__init__ => k_is)
      (case h2_Uneven__init__ => k_is)
      (case h2_BadNumber__init__ => k_is)
      (case h2__law_hat => k_is)
      (case h2__law_lot => k_is)
      (case h2__law_one => k_is)
      (case h2__law_bad => k_is)
      (case h2__law_good => k_is)
      (case h2__law_within => k_is)
      (case h2__law_spoilt => k_is)
      (case h2__law_heard => k_is)
      (case h2_is_integer => k_is)
      (case h2_is_within => k_is)
      (case h2_need_within => k_is)
      (case h2_need_numbers => k_is)
      (case h2_need_power => k_is)
      (case h2_raised => k_is)
      (case h2_whole_sum => k_is)
      (case h2_sign_at => k_is)
      (case h2_is_by_power => k_is)
      (case h2_is_by => k_is)
      (case h2__law_fours_right => k_is)
      (case h2_fourth_quotient => k_is)
      (case h2_fixed => k_is)
      (case h2_side_of => k_is)
      (case h2_whole_below => k_is)
      (case h2_fourth_by => k_is)
      (case h2_shows_fourth_by => k_is)
      (case h2__law_threes_right => k_is)
      (case h2_whole_fourth => k_is)
      (case h2_numbers_by => k_is)
      (case h2__law_rows_right => k_is)
      (case h2__law_growing => k_is)
      (case h2__law_growing_due => k_is)
      (case h2_need_growing => k_is)
      (case h2_power_of => k_is)
      (case h2_is_between => k_is)
      (case h2_shows_power => k_is)
      (case h2__law_powers_right => k_is)
      (case h2_is_list => k_is)
      (case h2_need_growing_row => k_is)
      (case h2_is_step_by => k_is)
      (case h2_power_of_row => k_is)
      (case h2_is_just => k_is)
      (case h2_shows_power_of_row => k_is)
      (case h2__law_numbers_right => k_is)
      (case h2_law => k_is)
      (case h0_Denial__init__ => k_is)
      (case h3_Denial__init__ => k_is)
      (case h4_Denial__init__ => k_is)
      (case h0_NoWhole__init__ => k_is)
      (case h3_NoWhole__init__ => k_is)
      (case h4_NoWhole__init__ => k_is)
      (case h0_Paper__init__ => k_is)
      (case h3_Paper__init__ => k_is)
      (case h4_Paper__init__ => k_is)
      (case h0_Whole__init__ => k_is)
      (case h3_Whole__init__ => k_is)
      (case h4_Whole__init__ => k_is)
      (case h0_Between__init__ => k_is)
      (case h3_Between__init__ => k_is)
      (case h4_Between__init__ => k_is)
      (case h0_ByPower__init__ => k_is)
      (case h3_ByPower__init__ => k_is)
      (case h4_ByPower__init__ => k_is)
      (case h0_Uneven__init__ => k_is)
      (case h3_Uneven__init__ => k_is)
      (case h4_Uneven__init__ => k_is)
      (case h0_BadNumber__init__ => k_is)
      (case h3_BadNumber__init__ => k_is)
      (case h4_BadNumber__init__ => k_is)
      (case pg_Denial => k_is)
      (case hd_Denial => k_is)
      (case po_Denial => k_is)
      (case sa_Denial => k_is)
      (case mk_Denial => k_is)
      (case kc_Denial => k_is)
      (case ha_Denial => k_is)
      (case hm_Denial => k_is)
      (case na_Denial_low => k_is)
      (case na_Denial_number => k_is)
      (case na_Denial_parts => k_is)
      (case na_Denial_power => k_is)
      (case na_Denial_step => k_is)
      (case na_Denial_word => k_is)
      (case r1_Denial => k_is)
      (case r2_Denial => k_is)
      (case is_Denial_Denial => kit_is)
      (case is_Denial_Paper => kit_is)
      (case is_Denial_NoWhole => kit_is)
      (case is_Denial_Whole => kit_is)
      (case is_Denial_Between => kit_is)
      (case is_Denial_ByPower => kit_is)
      (case is_Denial_Uneven => kit_is)
      (case pg_Paper => k_is)
      (case hd_Paper => k_is)
      (case po_Paper => k_is)
      (case sa_Paper => k_is)
      (case mk_Paper => k_is)
      (case kc_Paper => k_is)
      (case ha_Paper => k_is)
      (case hm_Paper => k_is)
      (case na_Paper_low => k_is)
      (case na_Paper_number => k_is)
      (case na_Paper_parts => k_is)
      (case na_Paper_power => k_is)
      (case na_Paper_step => k_is)
      (case na_Paper_word => k_is)
      (case r1_Paper => k_is)
      (case r2_Paper => k_is)
      (case is_Paper_Denial => kit_is)
      (case is_Paper_Paper => kit_is)
      (case is_Paper_NoWhole => kit_is)
      (case is_Paper_Whole => kit_is)
      (case is_Paper_Between => kit_is)
      (case is_Paper_ByPower => kit_is)
      (case is_Paper_Uneven => kit_is)
      (case pg_NoWhole => k_is)
      (case hd_NoWhole => k_is)
      (case po_NoWhole => k_is)
      (case sa_NoWhole => k_is)
      (case mk_NoWhole => k_is)
      (case kc_NoWhole => k_is)
      (case ha_NoWhole => k_is)
      (case hm_NoWhole => k_is)
      (case na_NoWhole_low => k_is)
      (case na_NoWhole_number => k_is)
      (case na_NoWhole_parts => k_is)
      (case na_NoWhole_power => k_is)
      (case na_NoWhole_step => k_is)
      (case na_NoWhole_word => k_is)
      (case is_NoWhole_Denial => kit_is)
      (case is_NoWhole_Paper => kit_is)
      (case is_NoWhole_NoWhole => kit_is)
      (case is_NoWhole_Whole => kit_is)
      (case is_NoWhole_Between => kit_is)
      (case is_NoWhole_ByPower => kit_is)
      (case is_NoWhole_Uneven => kit_is)
      (case pg_Whole => k_is)
      (case hd_Whole => k_is)
      (case po_Whole => k_is)
      (case sa_Whole => k_is)
      (case mk_Whole => k_is)
      (case kc_Whole => k_is)
      (case ha_Whole => k_is)
      (case hm_Whole => k_is)
      (case na_Whole_low => k_is)
      (case na_Whole_number => k_is)
      (case na_Whole_parts => k_is)
      (case na_Whole_power => k_is)
      (case na_Whole_step => k_is)
      (case na_Whole_word => k_is)
      (case is_Whole_Denial => kit_is)
      (case is_Whole_Paper => kit_is)
      (case is_Whole_NoWhole => kit_is)
      (case is_Whole_Whole => kit_is)
      (case is_Whole_Between => kit_is)
      (case is_Whole_ByPower => kit_is)
      (case is_Whole_Uneven => kit_is)
      (case pg_Between => k_is)
      (case hd_Between => k_is)
      (case po_Between => k_is)
      (case sa_Between => k_is)
      (case mk_Between => k_is)
      (case kc_Between => k_is)
      (case ha_Between => k_is)
      (case hm_Between => k_is)
      (case na_Between_low => k_is)
      (case na_Between_number => k_is)
      (case na_Between_parts => k_is)
      (case na_Between_power => k_is)
      (case na_Between_step => k_is)
      (case na_Between_word => k_is)
      (case is_Between_Denial => kit_is)
      (case is_Between_Paper => kit_is)
      (case is_Between_NoWhole => kit_is)
      (case is_Between_Whole => kit_is)
      (case is_Between_Between => kit_is)
      (case is_Between_ByPower => kit_is)
      (case is_Between_Uneven => kit_is)
      (case pg_ByPower => k_is)
      (case hd_ByPower => k_is)
      (case po_ByPower => k_is)
      (case sa_ByPower => k_is)
      (case mk_ByPower => k_is)
      (case kc_ByPower => k_is)
      (case ha_ByPower => k_is)
      (case hm_ByPower => k_is)
      (case na_ByPower_low => k_is)
      (case na_ByPower_number => k_is)
      (case na_ByPower_parts => k_is)
      (case na_ByPower_power => k_is)
      (case na_ByPower_step => k_is)
      (case na_ByPower_word => k_is)
      (case is_ByPower_Denial => kit_is)
      (case is_ByPower_Paper => kit_is)
      (case is_ByPower_NoWhole => kit_is)
      (case is_ByPower_Whole => kit_is)
      (case is_ByPower_Between => kit_is)
      (case is_ByPower_ByPower => kit_is)
      (case is_ByPower_Uneven => kit_is)
      (case pg_Uneven => k_is)
      (case hd_Uneven => k_is)
      (case po_Uneven => k_is)
      (case sa_Uneven => k_is)
      (case mk_Uneven => k_is)
      (case kc_Uneven => k_is)
      (case ha_Uneven => k_is)
      (case hm_Uneven => k_is)
      (case na_Uneven_low => k_is)
      (case na_Uneven_number => k_is)
      (case na_Uneven_parts => k_is)
      (case na_Uneven_power => k_is)
      (case na_Uneven_step => k_is)
      (case na_Uneven_word => k_is)
      (case is_Uneven_Denial => kit_is)
      (case is_Uneven_Paper => kit_is)
      (case is_Uneven_NoWhole => kit_is)
      (case is_Uneven_Whole => kit_is)
      (case is_Uneven_Between => kit_is)
      (case is_Uneven_ByPower => kit_is)
      (case is_Uneven_Uneven => kit_is)
      (case hn_ => k_is)
      (case ht_ => k_is)
      (case xL_BadNumber => k_is)
      (case xs_BadNumber => k_is)
      (case xb_BadNumber => k_is)
      (case xt_BadNumber => k_is)
      (case xk_BadNumber => k_is)
      (case xga_BadNumber => k_is)
      (case xgg_BadNumber => k_is)
      (case xhd_BadNumber => k_is)
      (case xcl_BadNumber => k_is)
      (case xca_BadNumber => k_is)
      (case xmr_BadNumber => k_is)
      (case xti_BadNumber => k_is)
      (case xn_BadNumber_part => k_is)
      (case yb_LikeError => k_is)
      (case yi_LikeError => k_is)
      (case yt_LikeError => k_is)
      (case ys_BadNumber_LikeError => k_is)
      (case is_xBadNumber_BadNumber => kit_is)
      (case h3__law_hat => k_is)
      (case h4__law_hat => k_is)
      (case h3__law_lot => k_is)
      (case h4__law_lot => k_is)
      (case h3__law_one => k_is)
      (case h4__law_one => k_is)
      (case h3__law_bad => k_is)
      (case h4__law_bad => k_is)
      (case h3__law_good => k_is)
      (case h4__law_good => k_is)
      (case h3__law_within => k_is)
      (case h4__law_within => k_is)
      (case h3__law_spoilt => k_is)
      (case h4__law_spoilt => k_is)
      (case h3__law_heard => k_is)
      (case h4__law_heard => k_is)
      (case h3_is_integer => k_is)
      (case h4_is_integer => k_is)
      (case h3_is_within => k_is)
      (case h4_is_within => k_is)
      (case h3_need_within => k_is)
      (case h4_need_within => k_is)
      (case h3_need_numbers => k_is)
      (case h4_need_numbers => k_is)
      (case h3_need_power => k_is)
      (case h4_need_power => k_is)
      (case h3_raised => k_is)
      (case h4_raised => k_is)
      (case h3_whole_sum => k_is)
      (case h4_whole_sum => k_is)
      (case h3_sign_at => k_is)
      (case h4_sign_at => k_is)
      (case h3_is_by_power => k_is)
      (case h4_is_by_power => k_is)
      (case h3_is_by => k_is)
      (case h4_is_by => k_is)
      (case h3__law_fours_right => k_is)
      (case h4__law_fours_right => k_is)
      (case hL__law_fours_right => k_is)
      (case h3_fourth_quotient => k_is)
      (case h4_fourth_quotient => k_is)
      (case h3_fixed => k_is)
      (case h4_fixed => k_is)
      (case h3_side_of => k_is)
      (case h4_side_of => k_is)
      (case h3_whole_below => k_is)
      (case h4_whole_below => k_is)
      (case h3_fourth_by => k_is)
      (case h4_fourth_by => k_is)
      (case h3_shows_fourth_by => k_is)
      (case h4_shows_fourth_by => k_is)
      (case h3__law_threes_right => k_is)
      (case h4__law_threes_right => k_is)
      (case hL__law_threes_right => k_is)
      (case h3_whole_fourth => k_is)
      (case h4_whole_fourth => k_is)
      (case h3_numbers_by => k_is)
      (case h4_numbers_by => k_is)
      (case h3__law_rows_right => k_is)
      (case h4__law_rows_right => k_is)
      (case hL__law_rows_right => k_is)
      (case h3__law_growing => k_is)
      (case h4__law_growing => k_is)
      (case h3__law_growing_due => k_is)
      (case h4__law_growing_due => k_is)
      (case h3_need_growing => k_is)
      (case h4_need_growing => k_is)
      (case h3_power_of => k_is)
      (case h4_power_of => k_is)
      (case h3_is_between => k_is)
      (case h4_is_between => k_is)
      (case h3_shows_power => k_is)
      (case h4_shows_power => k_is)
      (case h3__law_powers_right => k_is)
      (case h4__law_powers_right => k_is)
      (case hL__law_powers_right => k_is)
      (case h3_is_list => k_is)
      (case h4_is_list => k_is)
      (case h3_need_growing_row => k_is)
      (case h4_need_growing_row => k_is)
      (case h3_is_step_by => k_is)
      (case h4_is_step_by => k_is)
      (case h3_power_of_row => k_is)
      (case h4_power_of_row => k_is)
      (case h3_is_just => k_is)
      (case h4_is_just => k_is)
      (case h3_shows_power_of_row => k_is)
      (case h4_shows_power_of_row => k_is)
      (case h3__law_numbers_right => k_is)
      (case h4__law_numbers_right => k_is)
      (case hL__law_numbers_right => k_is)
      (case h3_law => k_is)
      (case h4_law => k_is)
      (case z_LEAST_LONG => k_is)
      (case z_LEAST_POWER => k_is)
      (case z_MOST_LONG => k_is)
      (case z_MOST_NUMBER => k_is)
      (case z_MOST_POWER => k_is)
      (case z_MOST_SMALL => k_is)
      (case z_abs => k_is)
      (case z_all => k_is)
      (case z_bool => k_is)
      (case z_enumerate => k_is)
      (case z_int => k_is)
      (case z_isinstance => k_is)
      (case z_len => k_is)
      (case z_list => k_is)
      (case z_range => k_is)
      (case z_repr => k_is)
      (case z_set => k_is)
      (case z_sorted => k_is)
      (case z_str => k_is)
      (case z_tuple => k_is)
      (case z_type => k_is)
      (case z_zip => k_is)
      (case hv__law_fours_right => rfl)
      (case hz__law_fours_right => rfl)
      (case hv__law_threes_right => rfl)
      (case hz__law_threes_right => rfl)
      (case hv__law_rows_right => rfl)
      (case hz__law_rows_right => rfl)
      (case hv__law_powers_right => rfl)
      (case hz__law_powers_right => rfl)
      (case hv__law_numbers_right => rfl)
      (case hz__law_numbers_right => rfl)
      (case ndT => decide)

