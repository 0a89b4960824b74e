import PyProof.Rows.All
import Wide.All
import OpenK.AllK
import Wide.FinOn
import HandS.ForMost
import HandS.IsInst
import HandS.Wide
import HandS.WideBits
import HandS.Style
import HandS.TryOnly
import HandS.More
import HandS.ClsMeth
import HandS.Star
import HandS.OwnEq
import HandS.SortInts
import HandS.TupAny
import HandS.Deep
import HandS.Codes
import HandS.Flow
import KE.KEqSeq
import KE.RegKIsAll
import PyProof.InstNe
import HandS.RaiseMore
import HandS.SetFor
import HandS.Records
import HandS.MakeKwOnly
import HandS.WordsExc
import HandS.Lambda
import HandS.CallSlots
import HandS.SetKeys
import HandS.TupLe
import HandS.Zip
import HandS.Ends
import PyProof.ReprRoads
import HandS.Strs
import PyProof.Rows.Range3
import PySem.Challenge.RW_fourthlike_k23_rows_of_numbers_by_one_po
import PyProof.ReprBulk
import PyProof.FitsInt
set_option Elab.async false
set_option linter.all false
set_option maxRecDepth 100000
set_option maxHeartbeats 4000000
namespace Dl
open PySem PySem.Spec PyProof.Rows L2

/-! ### data -/
inductive D where
  | non | bl (b : Bool) | int (i : Int) | str (z : Str)
  | tup (xs : List D) | lst (xs : List D)
  /-- a list that is only read (the script) -/
  | fro (xs : List D)
  | ins (c : Nat) (fs : List (Str × D))
  | cod (k : Nat) | ty (n : String)
  /-- a dict, a set, a def -/
  | dct (kvs : List (D × D)) | set (xs : List D) | fn (k : Nat)

/-- where the classes stand, where the defs stand, and the tables of code objects (of the defs that make lambdas) -/
structure CA where
  at_ : Nat → Addr
  fn_ : Nat → Addr
  T : List (Addr × Str)
  P : Program
  w : World
  /-- the classes that are known -/
  ok : Nat → Bool
instance : CoeFun CA (fun _ => Nat → Addr) := ⟨CA.at_⟩
/-- the keys of a dict -/
def kD : Key → D
  | .inl i => .int i
  | .inr z => .str z
def ktD (ks : List Key) : D := .tup (ks.map kD)
mutual
inductive Rep (K : PySem.W.Frag) (ca : CA) (F : Hp) : D → V → Prop
  | non : Rep K ca F .non .non
  | bl (b : Bool) : Rep K ca F (.bl b) (.bl b)
  | int (i : Int) : Rep K ca F (.int i) (.int i)
  | str (z : Str) : Rep K ca F (.str z) (.str z)
  | tup {xs : List D} {p : Addr} {vs : List V} : SqT K F p vs → Reps K ca F xs vs → Rep K ca F (.tup xs) (.ref p)
  | lst {xs : List D} {p : Addr} {vs : List V} : F p = some (.lst vs) → Reps K ca F xs vs → Rep K ca F (.lst xs) (.ref p)
  | fro {xs : List D} {p : Addr} {vs : List V} : SqL K F p vs → Reps K ca F xs vs → Rep K ca F (.fro xs) (.ref p)
  | ins {c : Nat} {fs : List (Str × D)} {p dx : Addr} {gs : List (Str × V)} : F p = some (.ins (ca c) dx gs) → RepF K ca F fs gs → ca.ok c = true → Rep K ca F (.ins c fs) (.ref p)
  | cod (k : Nat) : ca.ok k = true → Rep K ca F (.cod k) (.ref (ca k))
  | ty (n : String) : Rep K ca F (.ty n) (.ty n)
  | fn (k : Nat) : Rep K ca F (.fn k) (.ref (ca.fn_ k))
  | dK {kvs : List (D × D)} {p : Addr} {ws : List (Key × V)} : F p = some (.dK ws) → kvs.map (·.1) = ws.map (fun x => kD x.1) → Reps K ca F (kvs.map (·.2)) (ws.map (·.2)) → Rep K ca F (.dct kvs) (.ref p)
  | dT {kvs : List (D × D)} {p : Addr} {ws : List (List Key × V)} : F p = some (.dT ws) → kvs.map (·.1) = ws.map (fun x => ktD x.1) → Reps K ca F (kvs.map (·.2)) (ws.map (·.2)) → Rep K ca F (.dct kvs) (.ref p)
  | setK {ks : List Key} {p : Addr} {n : Nat} {S : Key → Bool} : F p = some (SetK ca.P ca.w p S n) → ks.Nodup → n = ks.length → (∀ k, S k = true ↔ k ∈ ks) → Rep K ca F (.set (ks.map kD)) (.ref p)
inductive Reps (K : PySem.W.Frag) (ca : CA) (F : Hp) : List D → List V → Prop
  | nil : Reps K ca F [] []
  | cons {d : D} {v : V} {ds : List D} {vs : List V} : Rep K ca F d v → Reps K ca F ds vs → Reps K ca F (d :: ds) (v :: vs)
inductive RepF (K : PySem.W.Frag) (ca : CA) (F : Hp) : List (Str × D) → List (Str × V) → Prop
  | nil : RepF K ca F [] []
  | cons {n : Str} {d : D} {v : V} {ds : List (Str × D)} {vs : List (Str × V)} : Rep K ca F d v → RepF K ca F ds vs → RepF K ca F ((n, d) :: ds) ((n, v) :: vs)
end

theorem Same.seqT {K : PySem.W.Frag} {H H' : Hp} {a : Addr} {xs : List V} (e : Same H H') (h : SqT K H a xs) : SqT K H' a xs := by
  rcases h with (h | ⟨o, h⟩) | h
  · exact .inl (.inl (e _ _ h))
  · exact .inl (.inr ⟨o, e _ _ h⟩)
  · exact .inr h
theorem same_upd {H : Hp} {p : Addr} {o : HO} (h : H p = none) : Same H (upd H p o) := fun b x e => by
  rw [upd_ne (ne_of_none e h)]
  exact e
section
variable {K : PySem.W.Frag} {ca : CA} {F F' : Hp}
mutual
theorem Rep.mono (s : Same F F') : ∀ {d : D} {v : V}, Rep K ca F d v → Rep K ca F' d v
  | _, _, .non => .non
  | _, _, .bl b => .bl b
  | _, _, .int i => .int i
  | _, _, .str z => .str z
  | _, _, .tup h r => .tup (Same.seqT s h) (Reps.mono s r)
  | _, _, .lst h r => .lst (s _ _ h) (Reps.mono s r)
  | _, _, .fro h r => .fro (s.seq h) (Reps.mono s r)
  | _, _, .ins h r e => .ins (s _ _ h) (RepF.mono s r) e
  | _, _, .cod k e => .cod k e
  | _, _, .ty n => .ty n
  | _, _, .fn k => .fn k
  | _, _, .dK h e r => .dK (s _ _ h) e (Reps.mono s r)
  | _, _, .dT h e r => .dT (s _ _ h) e (Reps.mono s r)
  | _, _, .setK h a b c => .setK (s _ _ h) a b c
theorem Reps.mono (s : Same F F') : ∀ {d : List D} {v : List V}, Reps K ca F d v → Reps K ca F' d v
  | _, _, .nil => .nil
  | _, _, .cons r rs => .cons (r.mono s) (Reps.mono s rs)
theorem RepF.mono (s : Same F F') : ∀ {d : List (Str × D)} {v : List (Str × V)}, RepF K ca F d v → RepF K ca F' d v
  | _, _, .nil => .nil
  | _, _, .cons r rs => .cons (r.mono s) (RepF.mono s rs)
end
theorem Reps.length : ∀ {ds : List D} {vs : List V}, Reps K ca F ds vs → ds.length = vs.length
  | _, _, .nil => rfl
  | _, _, .cons _ rs => by rw [List.length_cons, List.length_cons, rs.length]
theorem Reps.append : ∀ {ds es : List D} {vs ws : List V}, Reps K ca F ds vs → Reps K ca F es ws → Reps K ca F (ds ++ es) (vs ++ ws)
  | _, _, _, _, .nil, q => q
  | _, _, _, _, .cons r rs, q => .cons r (Reps.append rs q)
theorem Reps.one {d : D} {v : V} (r : Rep K ca F d v) : Reps K ca F [d] [v] := .cons r .nil
theorem Reps.get : ∀ {ds : List D} {vs : List V} {i : Nat} {d : D}, Reps K ca F ds vs → ds[i]? = some d → ∃ v, vs[i]? = some v ∧ Rep K ca F d v
  | _, _, _, _, .nil, e => by simp at e
  | _, _, 0, _, .cons r _, e => by simp at e; subst e; exact ⟨_, rfl, r⟩
  | _, _, i + 1, _, .cons _ t, e => by
    obtain ⟨u, h1, h2⟩ := Reps.get (i := i) t (by simpa using e)
    exact ⟨u, by simpa using h1, h2⟩
theorem Reps.get' : ∀ {ds : List D} {vs : List V} {i : Nat} {v : V}, Reps K ca F ds vs → vs[i]? = some v → ∃ d, ds[i]? = some d ∧ Rep K ca F d v
  | _, _, _, _, .nil, e => by simp at e
  | _, _, 0, _, .cons r _, e => by simp at e; subst e; exact ⟨_, rfl, r⟩
  | _, _, i + 1, _, .cons _ t, e => by
    obtain ⟨u, h1, h2⟩ := Reps.get' (i := i) t (by simpa using e)
    exact ⟨u, by simpa using h1, h2⟩
theorem Reps.set {d : D} {v : V} (r : Rep K ca F d v) : ∀ {ds : List D} {vs : List V} (i : Nat), Reps K ca F ds vs → Reps K ca F (ds.set i d) (vs.set i v)
  | _, _, _, .nil => .nil
  | _, _, 0, .cons _ t => .cons r t
  | _, _, i + 1, .cons q t => .cons q (Reps.set r i t)
theorem Reps.take : ∀ {ds : List D} {vs : List V} (n : Nat), Reps K ca F ds vs → Reps K ca F (ds.take n) (vs.take n)
  | _, _, 0, _ => .nil
  | _, _, _ + 1, .nil => .nil
  | _, _, n + 1, .cons r t => .cons r (Reps.take n t)
theorem Reps.drop : ∀ {ds : List D} {vs : List V} (n : Nat), Reps K ca F ds vs → Reps K ca F (ds.drop n) (vs.drop n)
  | _, _, 0, r => r
  | _, _, _ + 1, .nil => .nil
  | _, _, n + 1, .cons _ t => Reps.drop n t
theorem Reps.reverse : ∀ {ds : List D} {vs : List V}, Reps K ca F ds vs → Reps K ca F ds.reverse vs.reverse
  | _, _, .nil => .nil
  | _, _, .cons r t => by
    rw [List.reverse_cons, List.reverse_cons]
    exact (Reps.reverse t).append (.one r)
theorem Reps.ints : ∀ {ns : List Int} {vs : List V}, Reps K ca F (ns.map D.int) vs → vs = ns.map V.int
  | [], _, h => by cases h; rfl
  | n :: ns, _, h => by
    cases h with
    | cons r t => cases r; rw [Reps.ints t]; rfl
theorem Reps.ofInts : ∀ (ns : List Int), Reps K ca F (ns.map D.int) (ns.map V.int)
  | [] => .nil
  | n :: ns => .cons (.int n) (Reps.ofInts ns)
theorem RepF.lookup {f : Str} : ∀ {ds : List (Str × D)} {vs : List (Str × V)} {d : D}, RepF K ca F ds vs → ds.lookup f = some d → ∃ v, vs.lookup f = some v ∧ Rep K ca F d v
  | _, _, _, .nil, e => by simp at e
  | (n, d') :: ds, (_, v') :: vs, d, .cons r rs, e => by
    rw [List.lookup_cons] at e ⊢
    by_cases h : (f == n) = true
    · rw [h] at e ⊢
      cases e
      exact ⟨_, rfl, r⟩
    · rw [Bool.eq_false_iff.mpr h] at e ⊢
      exact rs.lookup e
theorem RepF.none {f : Str} : ∀ {ds : List (Str × D)} {vs : List (Str × V)}, RepF K ca F ds vs → ds.lookup f = Option.none → vs.lookup f = Option.none
  | _, _, .nil, _ => rfl
  | (n, d') :: ds, (_, v') :: vs, .cons r rs, e => by
    rw [List.lookup_cons] at e ⊢
    by_cases h : (f == n) = true
    · rw [h] at e
      cases e
    · rw [Bool.eq_false_iff.mpr h] at e ⊢
      exact rs.none e
theorem RepF.length : ∀ {ds : List (Str × D)} {vs : List (Str × V)}, RepF K ca F ds vs → ds.length = vs.length
  | _, _, .nil => rfl
  | _, _, .cons _ rs => by rw [List.length_cons, List.length_cons, rs.length]
end

/-! ### answers -/
inductive R (α : Type) where
  | ok (a : α) | ex (c : Nat) (fs : List (Str × D)) | no
def R.bind {α β : Type} (r : R α) (f : α → R β) : R β := match r with
  | .ok a => f a
  | .ex c fs => .ex c fs
  | .no => .no
theorem R.bind_ok {α β : Type} (a : α) (f : α → R β) : (R.ok a).bind f = f a := rfl
theorem R.bind_no {α β : Type} (f : α → R β) : (R.no : R α).bind f = .no := rfl
theorem R.bind_ex {α β : Type} (c : Nat) (fs : List (Str × D)) (f : α → R β) : (R.ex c fs : R α).bind f = .ex c fs := rfl
def R.ofOpt {α : Type} : Option α → R α
  | some a => .ok a
  | none => .no

/-! ### the state of a body: locals as data; own: the slots that hold an object of one's own, which may be changed -/
abbrev En := List (Option D)
structure Bs where
  F : Hp
  H : Hp
  m : Option Addr
  /-- slot 0 holds a lambda that was handed over: its object, its code object, its name -/
  l : Option (Addr × Addr × Str)
/-- slot 0 is stored by no statement -/
def Bs.free0 (B : Bs) : Prop := B.m = none ∧ B.l = none
structure Bq (ca : CA) (B : Bs) (F H : Hp) : Prop where
  sub : Same F H
  sF : Same B.F F
  sH : ∀ p o, B.H p = some o → B.m ≠ some p → (∀ ps, o ≠ .tbl ps) → H p = some o
  nw : ∀ p, F p ≠ none → B.F p ≠ none ∨ B.H p = none
  mp : ∀ p, B.m = some p → H p ≠ none ∧ F p = none
  kt : ∀ p, B.H p ≠ none → H p ≠ none
  tb : LamX.Tabs ca.T H
  nt : ∀ p ps, F p ≠ some (.tbl ps)
/-- an object of one's own at p, worth d -/
def OwO (K : PySem.W.Frag) (ca : CA) (F H : Hp) (d : D) (p : Addr) : Prop := match d with
  | .lst xs => ∃ vs, H p = some (.lst vs) ∧ Reps K ca F xs vs
  | .ins c fs => ∃ dx gs, H p = some (.ins (ca c) dx gs) ∧ RepF K ca F fs gs ∧ ca.ok c = true
  | .dct kvs => (∃ ws : List (Key × V), H p = some (.dK ws) ∧ kvs.map (·.1) = ws.map (fun x => kD x.1) ∧ Reps K ca F (kvs.map (·.2)) (ws.map (·.2))) ∨
      (∃ ws : List (List Key × V), H p = some (.dT ws) ∧ kvs.map (·.1) = ws.map (fun x => ktD x.1) ∧ Reps K ca F (kvs.map (·.2)) (ws.map (·.2)))
  | .set xs => ∃ (ks : List Key) (n : Nat) (S : Key → Bool), xs = ks.map kD ∧ H p = some (SetK ca.P ca.w p S n) ∧ ks.Nodup ∧ n = ks.length ∧ (∀ k, S k = true ↔ k ∈ ks)
  | _ => False
structure Ow (K : PySem.W.Frag) (ca : CA) (B : Bs) (F H : Hp) (d : D) (p : Addr) : Prop where
  o : OwO K ca F H d p
  f : F p = none
  b : B.H p = none ∨ B.m = some p
structure RE (K : PySem.W.Frag) (ca : CA) (B : Bs) (own : List Nat) (env : En) (σ : L2.St) (F H : Hp) : Prop where
  q : Bq ca B F H
  len : σ.length = env.length
  fr : ∀ i d, i ∉ own → env[i]? = some (some d) → ∃ v, σ[i]? = some (some v) ∧ Rep K ca F d v
  ow : ∀ i d, i ∈ own → env[i]? = some (some d) → ∃ p, σ[i]? = some (some (.ref p)) ∧ Ow K ca B F H d p
  ne : ∀ i j p d e, i ∈ own → j ∈ own → i ≠ j → env[i]? = some (some d) → env[j]? = some (some e) → σ[i]? = some (some (.ref p)) → σ[j]? ≠ some (some (.ref p))
  mt : ∀ p, B.m = some p → 0 ∈ own ∧ σ[0]? = some (some (.ref p)) ∧ ∃ d, env[0]? = some (some d)
  lm : ∀ q, B.l = some q → env[0]? = some none ∧ σ[0]? = some (some (.ref q.1)) ∧ H q.2.1 = some (LamX.CodeO q.2.1 q.2.2)

/-- a step that lays new objects alone -/
structure Stp (F H F' H' : Hp) : Prop where
  sub : Same F' H'
  sF : Same F F'
  sH : Same H H'
  nw : ∀ p, F' p ≠ none → F p ≠ none ∨ H p = none
  nt : ∀ p ps, F' p = some (.tbl ps) → F p = some (.tbl ps)
section
variable {K : PySem.W.Frag} {ca : CA} {B : Bs} {own : List Nat} {env : En} {σ : L2.St} {F H F' H' F2 H2 : Hp}
theorem Stp.refl (h : Same F H) : Stp F H F H := ⟨h, Same.refl _, Same.refl _, fun _ h => .inl h, fun _ _ h => h⟩
theorem Stp.trans (a : Stp F H F' H') (b : Stp F' H' F2 H2) : Stp F H F2 H2 :=
  ⟨b.sub, a.sF.trans b.sF, a.sH.trans b.sH, fun p h => by
    rcases b.nw p h with z | z
    · exact a.nw p z
    · exact .inr (a.sH.free z), fun p ps h => a.nt p ps (b.nt p ps h)⟩
theorem Stp.new {p : Addr} {o : HO} (h : Same F H) (hp : H p = none) (ho : ∀ ps, o ≠ .tbl ps := by exact fun _ z => nomatch z) : Stp F H (upd F p o) (upd H p o) := by
  have hF : F p = none := h.free hp
  refine ⟨fun b x e => ?_, same_upd hF, same_upd hp, fun q hq => ?_, fun q ps hq => ?_⟩
  · by_cases hb : b = p
    · subst hb
      rw [upd_same] at e ⊢
      exact e
    · rw [upd_ne hb] at e ⊢
      exact h _ _ e
  · by_cases hb : q = p
    · subst hb
      exact .inr hp
    · rw [upd_ne hb] at hq
      exact .inl hq
  · by_cases hb : q = p
    · subst hb
      rw [upd_same] at hq
      exact absurd (Option.some.inj hq) (ho ps)
    · rw [upd_ne hb] at hq
      exact hq
/-- what an own object's worth leans on -/
theorem OwO.move {d : D} {p : Addr} (h : OwO K ca F H d p) (hp : ∀ o, H p = some o → H' p = some o) (s : Same F F') : OwO K ca F' H' d p := by
  cases d with
  | lst xs =>
    obtain ⟨vs, h1, h2⟩ := h
    exact ⟨vs, hp _ h1, h2.mono s⟩
  | ins c fs =>
    obtain ⟨dx, gs, h1, h2, h3⟩ := h
    exact ⟨dx, gs, hp _ h1, h2.mono s, h3⟩
  | dct kvs =>
    rcases h with ⟨ws, h1, e, h2⟩ | ⟨ws, h1, e, h2⟩
    · exact .inl ⟨ws, hp _ h1, e, h2.mono s⟩
    · exact .inr ⟨ws, hp _ h1, e, h2.mono s⟩
  | set xs =>
    obtain ⟨ks, n, S, e, h1, h2⟩ := h
    exact ⟨ks, n, S, e, hp _ h1, h2⟩
  | _ => exact h.elim
theorem OwO.ntbl {d : D} {p : Addr} (h : OwO K ca F H d p) : ∀ ps, H p ≠ some (.tbl ps) := by
  cases d with
  | lst xs => obtain ⟨vs, h1, h2⟩ := h; intro ps z; rw [h1] at z; cases z
  | ins c fs => obtain ⟨dx, gs, h1, h2, h3⟩ := h; intro ps z; rw [h1] at z; cases z
  | dct kvs =>
    rcases h with ⟨ws, h1, e, h2⟩ | ⟨ws, h1, e, h2⟩
    · intro ps z; rw [h1] at z; cases z
    · intro ps z; rw [h1] at z; cases z
  | set xs => obtain ⟨ks, n, S, e, h1, h2⟩ := h; intro ps z; rw [h1] at z; unfold SetK at z; cases z
  | _ => exact h.elim
theorem setK_ne_code {P : Program} {w : World} {a : Addr} {S : Key → Bool} {n : Nat} {q : Str} (h : SetK P w a S n = LamX.CodeO a q) : False := by
  unfold SetK LamX.CodeO at h
  injection h with h
  let o : Obj := { cls := .none, data := .fields #[.none, .str q 0] }
  let hp : Heap := { objs := Array.replicate (a + 1) o }
  have ho : hp.get? a = some o := Heap.get?_some_iff.mpr ⟨by simp [hp], rfl⟩
  have h1 := congrFun h hp
  have h2 : hp.SetOf (mixKind P w) a S n := by
    rw [h1]
    exact ⟨o, _, _, ho, rfl, rfl⟩
  obtain ⟨o', es, ep, t, e, c⟩ := h2
  rw [ho] at e
  cases e
  simp [o] at c
theorem OwO.ncode {d : D} {p : Addr} (h : OwO K ca F H d p) (q : Str) : H p ≠ some (LamX.CodeO p q) := by
  cases d with
  | lst xs => obtain ⟨vs, h1, h2⟩ := h; intro z; rw [h1] at z; unfold LamX.CodeO at z; cases z
  | ins c fs => obtain ⟨dx, gs, h1, h2, h3⟩ := h; intro z; rw [h1] at z; unfold LamX.CodeO at z; cases z
  | dct kvs =>
    rcases h with ⟨ws, h1, e, h2⟩ | ⟨ws, h1, e, h2⟩
    · intro z; rw [h1] at z; unfold LamX.CodeO at z; cases z
    · intro z; rw [h1] at z; unfold LamX.CodeO at z; cases z
  | set xs =>
    obtain ⟨ks, n, S, e, h1, h2⟩ := h
    intro z
    rw [h1] at z
    exact setK_ne_code (Option.some.inj z)
  | _ => exact h.elim
theorem OwO.step {d : D} {p : Addr} (h : OwO K ca F H d p) (s : Stp F H F' H') : OwO K ca F' H' d p := h.move (fun o e => s.sH _ _ e) s.sF
theorem OwO.there {d : D} {p : Addr} (h : OwO K ca F H d p) : H p ≠ none := by
  cases d with
  | lst xs => obtain ⟨vs, h1, h2⟩ := h; intro z; rw [h1] at z; cases z
  | ins c fs => obtain ⟨dx, gs, h1, h2, h3⟩ := h; intro z; rw [h1] at z; cases z
  | dct kvs =>
    rcases h with ⟨ws, h1, e, h2⟩ | ⟨ws, h1, e, h2⟩
    · intro z; rw [h1] at z; cases z
    · intro z; rw [h1] at z; cases z
  | set xs => obtain ⟨ks, n, S, e, h1, h2⟩ := h; intro z; rw [h1] at z; cases z
  | _ => exact h.elim
theorem Ow.step {d : D} {p : Addr} (h : Ow K ca B F H d p) (s : Stp F H F' H') : Ow K ca B F' H' d p := by
  refine ⟨h.o.step s, ?_, h.b⟩
  cases e : F' p with
  | none => rfl
  | some o =>
    rcases s.nw p (by rw [e]; exact fun z => nomatch z) with z | z
    · exact absurd h.f z
    · exact absurd z h.o.there
theorem OwO.mono {d : D} {p : Addr} (h : OwO K ca F H d p) (s : Same F F') : OwO K ca F' H d p := h.move (fun _ e => e) s
/-- laid down: it is changed no more -/
theorem OwO.rep {d : D} {p : Addr} (h : OwO K ca F H d p) (hf : F p = none) : ∃ o, H p = some o ∧ (∀ ps, o ≠ .tbl ps) ∧ Rep K ca (upd F p o) d (.ref p) := by
  cases d with
  | lst xs =>
    obtain ⟨vs, h1, h2⟩ := h
    exact ⟨_, h1, (fun _ z => nomatch z), .lst upd_same (h2.mono (same_upd hf))⟩
  | ins c fs =>
    obtain ⟨dx, gs, h1, h2, h3⟩ := h
    exact ⟨_, h1, (fun _ z => nomatch z), .ins upd_same (h2.mono (same_upd hf)) h3⟩
  | dct kvs =>
    rcases h with ⟨ws, h1, e, h2⟩ | ⟨ws, h1, e, h2⟩
    · exact ⟨_, h1, (fun _ z => nomatch z), .dK upd_same e (h2.mono (same_upd hf))⟩
    · exact ⟨_, h1, (fun _ z => nomatch z), .dT upd_same e (h2.mono (same_upd hf))⟩
  | set xs =>
    obtain ⟨ks, n, S, e, h1, h2, h3, h4⟩ := h
    subst e
    exact ⟨_, h1, fun _ z => (by unfold SetK at z; cases z), .setK upd_same h2 h3 h4⟩
  | _ => exact h.elim
theorem Stp.keepF {p : Addr} (s : Stp F H F' H') (h1 : H p ≠ none) (h2 : F p = none) : F' p = none := by
  cases e : F' p with
  | none => rfl
  | some o =>
    rcases s.nw p (by rw [e]; exact fun z => nomatch z) with z | z
    · exact absurd h2 z
    · exact absurd z h1
theorem Same.some {H H' : Hp} (s : Same H H') {p : Addr} (h : H p ≠ none) : H' p ≠ none := by
  cases e : H p with
  | none => exact absurd e h
  | some o => rw [s _ _ e]; exact fun z => nomatch z
theorem Bq.step (h : Bq ca B F H) (s : Stp F H F' H') : Bq ca B F' H' where
  sub := s.sub
  sF := h.sF.trans s.sF
  sH := fun p o e n t => s.sH _ _ (h.sH p o e n t)
  mp := fun p e => ⟨Same.some s.sH (h.mp p e).1, s.keepF (h.mp p e).1 (h.mp p e).2⟩
  nw := fun p hp => by
    rcases s.nw p hp with z | z
    · exact h.nw p z
    · cases e : B.H p with
      | none => exact .inr rfl
      | some o => exact absurd z (h.kt p (by rw [e]; exact fun w => nomatch w))
  kt := fun p e => Same.some s.sH (h.kt p e)
  tb := h.tb.ext s.sH
  nt := fun p ps e => h.nt p ps (s.nt p ps e)
theorem RE.step (h : RE K ca B own env σ F H) (s : Stp F H F' H') : RE K ca B own env σ F' H' where
  q := h.q.step s
  len := h.len
  fr := fun i d n e => let ⟨v, h1, h2⟩ := h.fr i d n e; ⟨v, h1, h2.mono s.sF⟩
  ow := fun i d n e => let ⟨p, h1, h2⟩ := h.ow i d n e; ⟨p, h1, h2.step s⟩
  ne := h.ne
  mt := h.mt
  lm := fun q e => let ⟨a, b, c⟩ := h.lm q e; ⟨a, b, s.sH _ _ c⟩
/-- a step in which tables of code objects may have grown -/
structure StC (T : List (Addr × Str)) (F H F' H' : Hp) : Prop where
  sub : Same F' H'
  sF : Same F F'
  sH : LamX.ExtN H H'
  nw : ∀ p, F' p ≠ none → F p ≠ none ∨ H p = none
  nt : ∀ p ps, F' p = some (.tbl ps) → F p = some (.tbl ps)
  kt : ∀ p, H p ≠ none → H' p ≠ none
  tb : LamX.Tabs T H'
theorem Stp.stC {T : List (Addr × Str)} (s : Stp F H F' H') (t : LamX.Tabs T H) : StC T F H F' H' := ⟨s.sub, s.sF, LamX.ExtN.of s.sH, s.nw, s.nt, fun p e => Same.some s.sH e, t.ext s.sH⟩
theorem StC.keepF {T : List (Addr × Str)} {p : Addr} (s : StC T F H F' H') (h1 : H p ≠ none) (h2 : F p = none) : F' p = none := by
  cases e : F' p with
  | none => rfl
  | some o =>
    rcases s.nw p (by rw [e]; exact fun z => nomatch z) with z | z
    · exact absurd h2 z
    · exact absurd z h1
theorem Bq.stepC (h : Bq ca B F H) (s : StC ca.T F H F' H') : Bq ca B F' H' where
  sub := s.sub
  sF := h.sF.trans s.sF
  sH := fun p o e n t => s.sH _ _ (h.sH p o e n t) t
  mp := fun p e => ⟨s.kt p (h.mp p e).1, s.keepF (h.mp p e).1 (h.mp p e).2⟩
  nw := fun p hp => by
    rcases s.nw p hp with z | z
    · exact h.nw p z
    · cases e : B.H p with
      | none => exact .inr rfl
      | some o => exact absurd z (h.kt p (by rw [e]; exact fun w => nomatch w))
  kt := fun p e => s.kt p (h.kt p e)
  tb := s.tb
  nt := fun p ps e => h.nt p ps (s.nt p ps e)
theorem Ow.stepC {d : D} {p : Addr} (h : Ow K ca B F H d p) (s : StC ca.T F H F' H') : Ow K ca B F' H' d p :=
  ⟨h.o.move (fun o e => s.sH _ _ e fun ps z => h.o.ntbl ps (by rw [e, z])) s.sF, s.keepF h.o.there h.f, h.b⟩
theorem RE.stepC (h : RE K ca B own env σ F H) (s : StC ca.T F H F' H') : RE K ca B own env σ F' H' where
  q := h.q.stepC s
  len := h.len
  fr := fun i d n e => let ⟨v, h1, h2⟩ := h.fr i d n e; ⟨v, h1, h2.mono s.sF⟩
  ow := fun i d n e => let ⟨p, h1, h2⟩ := h.ow i d n e; ⟨p, h1, h2.stepC s⟩
  ne := h.ne
  mt := h.mt
  lm := fun q e => let ⟨a, b, c⟩ := h.lm q e; ⟨a, b, s.sH _ _ c fun ps z => LamX.codeO_ne ps z⟩
/-- the object in slot i is laid down -/
theorem RE.freeze {i : Nat} {own' : List Nat} (h : RE K ca B own env σ F H) (hi : i ≠ 0 ∨ B.free0) (ho : own.filter (fun j => j != i) = own') : ∃ F', Same F F' ∧ RE K ca B own' env σ F' H := by
  have mem : ∀ j, j ∈ own' ↔ j ∈ own ∧ j ≠ i := fun j => by
    rw [← ho, List.mem_filter]
    simp
  by_cases hin : i ∈ own
  · cases e : env[i]? with
    | none =>
      refine ⟨F, Same.refl _, h.q, h.len, fun j d n ej => ?_, fun j d m ej => h.ow j d ((mem j).mp m).1 ej, fun j k p d e' a b => h.ne j k p d e' ((mem j).mp a).1 ((mem k).mp b).1, fun p q => ?_, h.lm⟩
      · by_cases hj : j = i
        · subst hj; rw [e] at ej; cases ej
        · exact h.fr j d (fun z => n ((mem j).mpr ⟨z, hj⟩)) ej
      · obtain ⟨m0, m1, m2⟩ := h.mt p q
        refine ⟨(mem 0).mpr ⟨m0, ?_⟩, m1, m2⟩
        rcases hi with z | z
        · exact Ne.symm z
        · rw [z.1] at q; cases q
    | some od =>
      cases od with
      | none =>
        refine ⟨F, Same.refl _, h.q, h.len, fun j d n ej => ?_, fun j d m ej => h.ow j d ((mem j).mp m).1 ej, fun j k p d e' a b => h.ne j k p d e' ((mem j).mp a).1 ((mem k).mp b).1, fun p q => ?_, h.lm⟩
        · by_cases hj : j = i
          · subst hj; rw [e] at ej; cases ej
          · exact h.fr j d (fun z => n ((mem j).mpr ⟨z, hj⟩)) ej
        · obtain ⟨m0, m1, m2⟩ := h.mt p q
          refine ⟨(mem 0).mpr ⟨m0, ?_⟩, m1, m2⟩
          rcases hi with z | z
          · exact Ne.symm z
          · rw [z.1] at q; cases q
      | some d =>
        obtain ⟨p, hp, O⟩ := h.ow i d hin e
        obtain ⟨o, ho', nto, r⟩ := O.o.rep O.f
        have sF : Same F (upd F p o) := same_upd O.f
        have notm : B.m ≠ some p := fun z => by
          obtain ⟨m0, m1, d0, m2⟩ := h.mt p z
          rcases hi with w | w
          · exact h.ne i 0 p d d0 hin m0 w e m2 hp m1
          · rw [w.1] at z; cases z
        refine ⟨upd F p o, sF, ⟨fun q u hq => ?_, h.q.sF.trans sF, h.q.sH, fun q hq => ?_, fun q hq => ⟨(h.q.mp q hq).1, ?_⟩, h.q.kt, h.q.tb, fun q ps hq => ?_⟩, h.len, fun j d' n ej => ?_, fun j d' m ej => ?_, fun j k q d' e' a b => h.ne j k q d' e' ((mem j).mp a).1 ((mem k).mp b).1, fun q hq => ?_, h.lm⟩
        · by_cases hb : q = p
          · subst hb; rw [upd_same] at hq; cases hq; exact ho'
          · rw [upd_ne hb] at hq; exact h.q.sub q u hq
        · by_cases hb : q = p
          · subst hb
            rcases O.b with z | z
            · exact .inr z
            · exact absurd z notm
          · rw [upd_ne hb] at hq; exact h.q.nw q hq
        · by_cases hb : q = p
          · subst hb; exact absurd hq notm
          · rw [upd_ne hb]; exact (h.q.mp q hq).2
        · by_cases hb : q = p
          · subst hb; rw [upd_same] at hq; exact nto ps (Option.some.inj hq)
          · rw [upd_ne hb] at hq; exact h.q.nt q ps hq
        · by_cases hj : j = i
          · subst hj; rw [e] at ej; cases ej; exact ⟨_, hp, r⟩
          · obtain ⟨v, h1, h2⟩ := h.fr j d' (fun z => n ((mem j).mpr ⟨z, hj⟩)) ej
            exact ⟨v, h1, h2.mono sF⟩
        · obtain ⟨mj, nj⟩ := (mem j).mp m
          obtain ⟨q, hq, O'⟩ := h.ow j d' mj ej
          have hb : q ≠ p := fun z => h.ne i j p d d' hin mj (Ne.symm nj) e ej hp (z ▸ hq)
          exact ⟨q, hq, O'.o.mono sF, by rw [upd_ne hb]; exact O'.f, O'.b⟩
        · obtain ⟨m0, m1, m2⟩ := h.mt q hq
          refine ⟨(mem 0).mpr ⟨m0, ?_⟩, m1, m2⟩
          rcases hi with z | z
          · exact Ne.symm z
          · rw [z.1] at hq; cases hq
  · have e : own' = own := by
      rw [← ho]
      exact List.filter_eq_self.mpr fun j hj => by
        have : j ≠ i := fun z => hin (z ▸ hj)
        simpa using this
    subst e
    exact ⟨F, Same.refl _, h⟩
/-- a value that stands still is stored -/
theorem RE.put {i : Nat} {d : D} {v : V} {own' : List Nat} (h : RE K ca B own env σ F H) (r : Rep K ca F d v) (hi : i ≠ 0 ∨ B.free0) (ho : own.filter (fun j => j != i) = own') : RE K ca B own' (env.set i (some d)) (σ.set i (some v)) F H := by
  have mem : ∀ j, j ∈ own' ↔ j ∈ own ∧ j ≠ i := fun j => by
    rw [← ho, List.mem_filter]
    simp
  have get : ∀ {j d'}, (env.set i (some d))[j]? = some (some d') → (j = i ∧ d' = d ∧ i < env.length) ∨ (j ≠ i ∧ env[j]? = some (some d')) := fun {j d'} e => by
    by_cases hj : j = i
    · subst hj
      by_cases hl : j < env.length
      · rw [List.getElem?_set_self hl] at e
        cases e
        exact .inl ⟨rfl, rfl, hl⟩
      · rw [List.getElem?_eq_none (by rw [List.length_set]; omega)] at e
        cases e
    · rw [List.getElem?_set_ne (Ne.symm hj)] at e
      exact .inr ⟨hj, e⟩
  refine ⟨h.q, by rw [List.length_set, List.length_set]; exact h.len, fun j d' n e => ?_, fun j d' m e => ?_, fun j k p d' e' a b n e1 e2 s1 s2 => ?_, fun p hp => ?_, fun q hq => ?_⟩
  · rcases get e with ⟨rfl, rfl, hl⟩ | ⟨hj, e⟩
    · exact ⟨v, List.getElem?_set_self (by rw [h.len]; exact hl), r⟩
    · obtain ⟨u, h1, h2⟩ := h.fr j d' (fun z => n ((mem j).mpr ⟨z, hj⟩)) e
      exact ⟨u, by rw [List.getElem?_set_ne (Ne.symm hj)]; exact h1, h2⟩
  · obtain ⟨mj, nj⟩ := (mem j).mp m
    rcases get e with ⟨z, _, _⟩ | ⟨hj, e⟩
    · exact absurd z nj
    · obtain ⟨p, h1, h2⟩ := h.ow j d' mj e
      exact ⟨p, by rw [List.getElem?_set_ne (Ne.symm nj)]; exact h1, h2⟩
  · obtain ⟨mj, nj⟩ := (mem j).mp a
    obtain ⟨mk, nk⟩ := (mem k).mp b
    rw [List.getElem?_set_ne (Ne.symm nj)] at e1 s1
    rw [List.getElem?_set_ne (Ne.symm nk)] at e2 s2
    exact h.ne j k p d' e' mj mk n e1 e2 s1 s2
  · obtain ⟨m0, m1, d0, m2⟩ := h.mt p hp
    have z : (0 : Nat) ≠ i := by
      rcases hi with z | z
      · exact Ne.symm z
      · rw [z.1] at hp; cases hp
    exact ⟨(mem 0).mpr ⟨m0, z⟩, by rw [List.getElem?_set_ne (Ne.symm z)]; exact m1, d0, by rw [List.getElem?_set_ne (Ne.symm z)]; exact m2⟩
  · obtain ⟨l0, l1, l2⟩ := h.lm q hq
    have z : (0 : Nat) ≠ i := by
      rcases hi with z | z
      · exact Ne.symm z
      · rw [z.2] at hq; cases hq
    exact ⟨by rw [List.getElem?_set_ne (Ne.symm z)]; exact l0, by rw [List.getElem?_set_ne (Ne.symm z)]; exact l1, l2⟩
/-- a new object of one's own is stored -/
theorem RE.putO {i : Nat} {d : D} {p : Addr} {own' : List Nat} (h : RE K ca B own env σ F H) (O : Ow K ca B F H d p) (fr : ∀ j e, j ∈ own → env[j]? = some (some e) → σ[j]? ≠ some (some (.ref p))) (hi : i ≠ 0 ∨ B.free0) (ho : i :: own.filter (fun j => j != i) = own') :
    RE K ca B own' (env.set i (some d)) (σ.set i (some (.ref p))) F H := by
  have mem : ∀ j, j ∈ own' ↔ j = i ∨ (j ∈ own ∧ j ≠ i) := fun j => by
    rw [← ho, List.mem_cons, List.mem_filter]
    simp
  have get : ∀ {j d'}, (env.set i (some d))[j]? = some (some d') → (j = i ∧ d' = d ∧ i < env.length) ∨ (j ≠ i ∧ env[j]? = some (some d')) := fun {j d'} e => by
    by_cases hj : j = i
    · subst hj
      by_cases hl : j < env.length
      · rw [List.getElem?_set_self hl] at e
        cases e
        exact .inl ⟨rfl, rfl, hl⟩
      · rw [List.getElem?_eq_none (by rw [List.length_set]; omega)] at e
        cases e
    · rw [List.getElem?_set_ne (Ne.symm hj)] at e
      exact .inr ⟨hj, e⟩
  refine ⟨h.q, by rw [List.length_set, List.length_set]; exact h.len, fun j d' n e => ?_, fun j d' m e => ?_, fun j k q d' e' a b n e1 e2 s1 s2 => ?_, fun q hp => ?_, fun q hq => ?_⟩
  · rcases get e with ⟨rfl, rfl, hl⟩ | ⟨hj, e⟩
    · exact absurd ((mem j).mpr (.inl rfl)) n
    · obtain ⟨u, h1, h2⟩ := h.fr j d' (fun z => n ((mem j).mpr (.inr ⟨z, hj⟩))) e
      exact ⟨u, by rw [List.getElem?_set_ne (Ne.symm hj)]; exact h1, h2⟩
  · rcases get e with ⟨rfl, rfl, hl⟩ | ⟨hj, e⟩
    · exact ⟨p, List.getElem?_set_self (by rw [h.len]; exact hl), O⟩
    · rcases (mem j).mp m with z | ⟨mj, nj⟩
      · exact absurd z hj
      obtain ⟨q, h1, h2⟩ := h.ow j d' mj e
      exact ⟨q, by rw [List.getElem?_set_ne (Ne.symm hj)]; exact h1, h2⟩
  · rcases get e1 with ⟨rfl, rfl, hl⟩ | ⟨hj, g1⟩
    · rcases get e2 with ⟨rfl, rfl, _⟩ | ⟨hk, g2⟩
      · exact n rfl
      · rcases (mem k).mp b with z | ⟨mk, nk⟩
        · exact hk z
        rw [List.getElem?_set_self (by rw [h.len]; exact hl)] at s1
        cases s1
        rw [List.getElem?_set_ne (Ne.symm hk)] at s2
        exact fr k e' mk g2 s2
    · rcases (mem j).mp a with z | ⟨mj, nj⟩
      · exact hj z
      rw [List.getElem?_set_ne (Ne.symm hj)] at s1
      rcases get e2 with ⟨rfl, rfl, hl⟩ | ⟨hk, g2⟩
      · rw [List.getElem?_set_self (by rw [h.len]; exact hl)] at s2
        cases s2
        exact fr j d' mj g1 s1
      · rcases (mem k).mp b with z | ⟨mk, nk⟩
        · exact hk z
        rw [List.getElem?_set_ne (Ne.symm hk)] at s2
        exact h.ne j k q d' e' mj mk n g1 g2 s1 s2
  · obtain ⟨m0, m1, d0, m2⟩ := h.mt q hp
    have z : (0 : Nat) ≠ i := by
      rcases hi with z | z
      · exact Ne.symm z
      · rw [z.1] at hp; cases hp
    exact ⟨(mem 0).mpr (.inr ⟨m0, z⟩), by rw [List.getElem?_set_ne (Ne.symm z)]; exact m1, d0, by rw [List.getElem?_set_ne (Ne.symm z)]; exact m2⟩
  · obtain ⟨l0, l1, l2⟩ := h.lm q hq
    have z : (0 : Nat) ≠ i := by
      rcases hi with z | z
      · exact Ne.symm z
      · rw [z.2] at hq; cases hq
    exact ⟨by rw [List.getElem?_set_ne (Ne.symm z)]; exact l0, by rw [List.getElem?_set_ne (Ne.symm z)]; exact l1, l2⟩
/-- the object in slot i is changed -/
theorem RE.chg {i : Nat} {d d' : D} {p : Addr} {o : HO} (h : RE K ca B own env σ F H) (hi : i ∈ own) (he : env[i]? = some (some d)) (hp : σ[i]? = some (some (.ref p))) (ho : OwO K ca F (upd H p o) d' p) : RE K ca B own (env.set i (some d')) σ F (upd H p o) := by
  obtain ⟨p', hp', O⟩ := h.ow i d hi he
  rw [hp] at hp'
  cases hp'
  have ncod : ∀ {q : Addr} {n : Str}, H q = some (LamX.CodeO q n) → q = p → False := fun {q n} e z => by
    subst z
    exact O.o.ncode _ e
  have get : ∀ {j e}, (env.set i (some d'))[j]? = some (some e) → (j = i ∧ e = d') ∨ (j ≠ i ∧ env[j]? = some (some e)) := fun {j e} q => by
    by_cases hj : j = i
    · subst hj
      rw [List.getElem?_set_self (List.getElem?_eq_some_iff.mp he).1] at q
      cases q
      exact .inl ⟨rfl, rfl⟩
    · rw [List.getElem?_set_ne (Ne.symm hj)] at q
      exact .inr ⟨hj, q⟩
  have got : ∀ {j e}, (env.set i (some d'))[j]? = some (some e) → ∃ e0, env[j]? = some (some e0) := fun {j e} q => by
    rcases get q with ⟨rfl, rfl⟩ | ⟨_, z⟩
    · exact ⟨_, he⟩
    · exact ⟨_, z⟩
  have keep : ∀ q u, F q = some u → q ≠ p := fun q u hq z => by rw [z, O.f] at hq; cases hq
  have thr : ∀ q, H q ≠ none → upd H p o q ≠ none := fun q hq => by
    by_cases hb : q = p
    · subst hb; rw [upd_same]; exact fun z => nomatch z
    · rw [upd_ne hb]; exact hq
  refine ⟨⟨fun q u hq => by rw [upd_ne (keep q u hq)]; exact h.q.sub q u hq, h.q.sF, fun q u hq n t => ?_, h.q.nw, fun q hq => ⟨?_, (h.q.mp q hq).2⟩, fun q hq => thr q (h.q.kt q hq), ?_, h.q.nt⟩, by rw [List.length_set]; exact h.len, fun j e n q => ?_, fun j e m q => ?_, fun j k q e e' a b n e1 e2 => ?_, fun q hq => ?_, fun q hq => ?_⟩
  · have hb : q ≠ p := fun z => by
      subst z
      rcases O.b with w | w
      · rw [hq] at w; cases w
      · exact n w
    rw [upd_ne hb]
    exact h.q.sH q u hq n t
  · by_cases hb : q = p
    · subst hb; rw [upd_same]; exact fun z => nomatch z
    · rw [upd_ne hb]; exact (h.q.mp q hq).1
  · intro pr hpr
    obtain ⟨ps, t1, t2, t3⟩ := h.q.tb pr hpr
    have hb : pr.1 ≠ p := fun z => O.o.ntbl ps (z ▸ t1)
    refine ⟨ps, by rw [upd_ne hb]; exact t1, t2, fun pos cv hc => ?_⟩
    obtain ⟨c, e1, e2⟩ := t3 pos cv hc
    exact ⟨c, e1, by rw [upd_ne (fun z => ncod e2 z)]; exact e2⟩
  · rcases get q with ⟨rfl, rfl⟩ | ⟨hj, q⟩
    · exact absurd hi n
    · exact h.fr j e n q
  · rcases get q with ⟨rfl, rfl⟩ | ⟨hj, q⟩
    · exact ⟨p, hp, ho, O.f, O.b⟩
    · obtain ⟨r, h1, h2⟩ := h.ow j e m q
      have hb : r ≠ p := fun z => h.ne i j p d e hi m (Ne.symm hj) he q hp (z ▸ h1)
      refine ⟨r, h1, ?_, h2.f, h2.b⟩
      exact h2.o.move (fun u e => by rw [upd_ne hb]; exact e) (Same.refl _)
  · obtain ⟨f1, g1⟩ := got e1
    obtain ⟨f2, g2⟩ := got e2
    exact h.ne j k q f1 f2 a b n g1 g2
  · obtain ⟨m0, m1, d0, m2⟩ := h.mt q hq
    refine ⟨m0, m1, ?_⟩
    by_cases hj : (0 : Nat) = i
    · subst hj
      exact ⟨d', List.getElem?_set_self (List.getElem?_eq_some_iff.mp he).1⟩
    · exact ⟨d0, by rw [List.getElem?_set_ne (Ne.symm hj)]; exact m2⟩
  · obtain ⟨l0, l1, l2⟩ := h.lm q hq
    have z : (0 : Nat) ≠ i := fun z => by rw [← z, l0] at he; cases he
    exact ⟨by rw [List.getElem?_set_ne (Ne.symm z)]; exact l0, l1, by rw [upd_ne (fun z => ncod l2 z)]; exact l2⟩
end
end Dl

namespace Dl
open PySem PySem.Spec PyProof.Rows L2

/-- an exception of the class numbered c with these fields -/
def XR (K : PySem.W.Frag) (ca : CA) (c : Nat) (fs : List (Str × D)) (e : Value) (o : Option Addr) (F : Hp) : Prop :=
  e = .ref (ca c) ∧ ((fs = [] ∧ o = none) ∨ ∃ d gs, o = some d ∧ F d = some (.xd gs) ∧ RepF K ca F fs gs)
theorem XR.mono {K : PySem.W.Frag} {ca : CA} {c : Nat} {fs : List (Str × D)} {e : Value} {o : Option Addr} {F F' : Hp} (h : XR K ca c fs e o F) (s : Same F F') : XR K ca c fs e o F' :=
  ⟨h.1, h.2.imp id fun ⟨d, gs, a, b, r⟩ => ⟨d, gs, a, s _ _ b, r.mono s⟩⟩
structure Cd where
  ca : CA
  B : Bs
  /-- what an exception that leaves finds -/
  E : XK
  /-- what is returned is a new object, the caller's own -/
  nw : Bool
section
variable (K : PySem.W.Frag) (C : Cd) (own : List Nat)
def Pst {α : Type} (r : R (α × En)) (σ : L2.St) (F : Hp) (k : α → En → Hp → Hp → Prop) : Prop := match r with
  | .ok (a, env') => ∀ F' H', RE K C.ca C.B own env' σ F' H' → Same F F' → k a env' F' H'
  | .ex c fs => ∀ e o F' H', Bq C.ca C.B F' H' → Same F F' → XR K C.ca c fs e o F' → C.E e o H'
  | .no => False
def tE (f : En → R (D × En)) : TE := fun σ H Q => ∃ env F, RE K C.ca C.B own env σ F H ∧ Pst K C own (f env) σ F fun d _ F' H' => ∀ v, Rep K C.ca F' d v → Q v H'
def tT (f : En → R (Bool × En)) : TT := fun σ H Q => ∃ env F, RE K C.ca C.B own env σ F H ∧ Pst K C own (f env) σ F fun b _ _ H' => Q b H'
def tA (f : En → R (List D × En)) : TA := fun σ H Q => ∃ env F, RE K C.ca C.B own env σ F H ∧ Pst K C own (f env) σ F fun ds _ F' H' => ∀ vs, Reps K C.ca F' ds vs → Q vs H'
end
section
variable {K : PySem.W.Frag} {C : Cd} {own : List Nat} {α β : Type} {σ : L2.St} {F F' H H' : Hp} {env : En}
theorem Pst.imp {r : R (α × En)} {k k' : α → En → Hp → Hp → Prop} (h : Pst K C own r σ F k) (g : ∀ a e F' H', RE K C.ca C.B own e σ F' H' → Same F F' → k a e F' H' → k' a e F' H') : Pst K C own r σ F k' := by
  cases r with
  | ok p => exact fun F' H' hR s => g _ _ _ _ hR s (h F' H' hR s)
  | ex c fs => exact h
  | no => exact h
theorem Pst.later {r : R (α × En)} {k : α → En → Hp → Hp → Prop} (h : Pst K C own r σ F k) (s : Same F F') : Pst K C own r σ F' k := by
  cases r with
  | ok p => exact fun F2 H2 hR s2 => h F2 H2 hR (s.trans s2)
  | ex c fs => exact fun e o F2 H2 q s2 => h e o F2 H2 q (s.trans s2)
  | no => exact h
theorem Pst.bind {r : R (α × En)} {g : α × En → R (β × En)} {k : β → En → Hp → Hp → Prop} (h : Pst K C own (r.bind g) σ F k) : Pst K C own r σ F fun a e F1 _ => Pst K C own (g (a, e)) σ F1 k := by
  cases r with
  | ok p => exact fun F' H' hR s => (show Pst K C own (g p) σ F k from h).later s
  | ex c fs => exact h
  | no => exact h
theorem Pst.here {a : α} {k : α → En → Hp → Hp → Prop} (h : Pst K C own (.ok (a, env)) σ F k) (hR : RE K C.ca C.B own env σ F H) : k a env F H := h F H hR (Same.refl _)
/-- a step that is known -/
theorem Pst.known {r : R α} {g : α → R (β × En)} {k : β → En → Hp → Hp → Prop} (h : Pst K C own (r.bind g) σ F k) (hr : ∀ c fs, r ≠ .ex c fs) : ∃ a, r = .ok a ∧ Pst K C own (g a) σ F k := by
  cases r with
  | ok a => exact ⟨a, rfl, h⟩
  | ex c fs => exact absurd rfl (hr c fs)
  | no => exact h.elim
end
theorem pe_imp {X : Cx} {e : Expr} {t t' : TE} (h : PE X e t) (g : ∀ σ H Q, t' σ H Q → t σ H Q) : PE X e t' := ⟨fun pins s σ H Q I q => h.run pins s σ H Q I (g _ _ _ q)⟩
theorem pt_imp {X : Cx} {e : Expr} {t t' : TT} (h : PT X e t) (g : ∀ σ H Q, t' σ H Q → t σ H Q) : PT X e t' := ⟨fun pins s σ H Q I q => h.run pins s σ H Q I (g _ _ _ q)⟩
theorem pw_imp {X : Cx} {e : Expr} {t t' : TT} (h : PW X e t) (g : ∀ σ H Q, t' σ H Q → t σ H Q) : PW X e t' := ⟨fun wh pins s σ H Q I q => h.run wh pins s σ H Q I (g _ _ _ q)⟩
theorem pa_imp {X : Cx} {e : List Expr} {t t' : TA} (h : PA X e t) (g : ∀ σ H Q, t' σ H Q → t σ H Q) : PA X e t' := ⟨fun pos pins s σ H Q I q => h.run pos pins s σ H Q I (g _ _ _ q)⟩
theorem ps_imp {X : Cx} {e : Stmt} {t t' : TS} (h : PS X e t) (g : ∀ D σ H, t' D σ H → t D σ H) : PS X e t' := ⟨fun pins s σ H D I q => h.run pins s σ H D I (g _ _ _ q)⟩
theorem pss_imp {X : Cx} {e : List Stmt} {t t' : TS} (h : PSs X e t) (g : ∀ D σ H, t' D σ H → t D σ H) : PSs X e t' := ⟨fun pins s σ H D I q => h.run pins s σ H D I (g _ _ _ q)⟩

/-! ### combinators -/
abbrev EF := En → R (D × En)
abbrev TF := En → R (Bool × En)
abbrev AF := En → R (List D × En)
def eV (i : Nat) : EF := fun env => match env[i]? with
  | some (some d) => .ok (d, env)
  | _ => .no
def eC (d : D) : EF := fun env => .ok (d, env)
def e1 (g : D → R D) (f : EF) : EF := fun env => (f env).bind fun p => (g p.1).bind fun r => .ok (r, p.2)
def e2 (g : D → D → R D) (f1 f2 : EF) : EF := fun env => (f1 env).bind fun p => (f2 p.2).bind fun q => (g p.1 q.1).bind fun r => .ok (r, q.2)
def eN (g : List D → R D) (fs : AF) : EF := fun env => (fs env).bind fun p => (g p.1).bind fun r => .ok (r, p.2)
def aNil : AF := fun env => .ok ([], env)
def aCons (f : EF) (fs : AF) : AF := fun env => (f env).bind fun p => (fs p.2).bind fun q => .ok (p.1 :: q.1, q.2)
def eIf (t : TF) (f1 f2 : EF) : EF := fun env => (t env).bind fun p => if p.1 = true then f1 p.2 else f2 p.2
/-- the truth of a True or False -/
def blD : D → R Bool
  | .bl b => .ok b
  | _ => .no
def tB1 (f : EF) : TF := fun env => (f env).bind fun p => (blD p.1).bind fun b => .ok (b, p.2)
def tNot1 (f : TF) : TF := fun env => (f env).bind fun p => .ok (!p.1, p.2)
def tAnd1 (f g : TF) : TF := fun env => (f env).bind fun p => if p.1 = true then g p.2 else .ok (false, p.2)
def tOr1 (f g : TF) : TF := fun env => (f env).bind fun p => if p.1 = true then .ok (true, p.2) else g p.2
/-- and, or as values: the left ones True or False -/
def eAnd (f g : EF) : EF := fun env => (f env).bind fun p => (blD p.1).bind fun b => if b = true then g p.2 else .ok (.bl false, p.2)
def eOr (f g : EF) : EF := fun env => (f env).bind fun p => (blD p.1).bind fun b => if b = true then .ok (.bl true, p.2) else g p.2
def eNot (f : EF) : EF := fun env => (f env).bind fun p => (blD p.1).bind fun b => .ok (.bl (!b), p.2)

/-! ### readings by value -/
def r2 (K : PySem.W.Frag) (ca : CA) (g : D → D → R D) : R2 := fun x y H Q => ∃ F a b d, Same F H ∧ Rep K ca F a x ∧ Rep K ca F b y ∧ g a b = .ok d ∧ ∀ v F' H', Stp F H F' H' → Rep K ca F' d v → Q v H'
def r1 (K : PySem.W.Frag) (ca : CA) (g : D → R D) : V → Hp → VK → Prop := fun x H Q => ∃ F a d, Same F H ∧ Rep K ca F a x ∧ g a = .ok d ∧ ∀ v F' H', Stp F H F' H' → Rep K ca F' d v → Q v H'
def rN (K : PySem.W.Frag) (ca : CA) (g : List D → R D) : List V → Hp → VK → Prop := fun xs H Q => ∃ F ds d, Same F H ∧ Reps K ca F ds xs ∧ g ds = .ok d ∧ ∀ v F' H', Stp F H F' H' → Rep K ca F' d v → Q v H'

section
variable {X : Cx} {C : Cd} {own : List Nat} {a b c : Expr} {es : List Expr} {pos : Pos} {fa fb : EF} {fs : AF} {ft fu : TF}
theorem noex1 {g : D → R D} {x : D} (h : ∀ a c fs, g a ≠ .ex c fs) : ∀ c fs, g x ≠ .ex c fs := h x

theorem ev_v (i : Nat) {x : Str} (hi : (own.contains i) = false := by rfl) (hN : X.N[i]? = some x := by rfl) (hv : Vis X.env.scope x := by first | exact Or.inl rfl | exact Or.inr (Or.inl rfl) | exact Or.inr (Or.inr rfl)) (hd : (x == ("__debug__" : Str)) = false := by decide)
    (hcd : (x == ("__classdict__" : Str)) = false := by decide) : PE X (.Name x pos) (tE X.K C own (eV i)) :=
  pe_imp (pv i hN hv hd hcd) fun σ H Q ⟨env, F, hR, h⟩ => by
    unfold eV at h
    split at h
    · rename_i d e
      obtain ⟨v, h1, h2⟩ := hR.fr i d (by simpa using hi) e
      exact ⟨v, h1, h.here hR v h2⟩
    · exact h.elim
theorem ev_k {d : D} {v : V} (he : PE X a (tC v)) (r : ∀ F, Rep X.K C.ca F d v) : PE X a (tE X.K C own (eC d)) :=
  pe_imp he fun σ H Q ⟨env, F, hR, h⟩ => h.here hR v (r F)
theorem ev_int {i j} : PE X (.Constant (.int i) j pos) (tE X.K C own (eC (.int i))) := ev_k pe_int fun _ => .int i
theorem ev_bl {b j} : PE X (.Constant (.bool b) j pos) (tE X.K C own (eC (.bl b))) := ev_k pe_bl fun _ => .bl b
theorem ev_non {j} : PE X (.Constant .none j pos) (tE X.K C own (eC .non)) := ev_k pe_non fun _ => .non
theorem ev_str {z j} : PE X (.Constant (.str z) j pos) (tE X.K C own (eC (.str z))) := ev_k pe_str fun _ => .str z

theorem two {β : Type} {g : D → D → R β} {k : β → En → Hp → Hp → Prop} {σ : L2.St} {F H : Hp} {env : En} (hn : ∀ x y c fs, g x y ≠ .ex c fs) (hR : RE X.K C.ca C.B own env σ F H)
    (h : Pst X.K C own ((fa env).bind fun p => (fb p.2).bind fun q => (g p.1 q.1).bind fun r => .ok (r, q.2)) σ F k)
    {r : V → V → Hp → Prop} (hr : ∀ x y v w d F' H' e, g x y = .ok d → RE X.K C.ca C.B own e σ F' H' → Rep X.K C.ca F' x v → Rep X.K C.ca F' y w → (∀ F2 H2, Stp F' H' F2 H2 → k d e F2 H2) → r v w H') :
    tE X.K C own fa σ H fun x H1 => tE X.K C own fb σ H1 fun y H2 => r x y H2 := by
  refine ⟨env, F, hR, h.bind.imp fun x e1 F1 H1 hR1 s1 h1 v rv => ⟨e1, F1, hR1, h1.bind.imp fun y e2 F2 H2 hR2 s2 h2 w rw' => ?_⟩⟩
  obtain ⟨d, hd, h3⟩ := h2.known (hn x y)
  exact hr x y v w d F2 H2 e2 hd hR2 (rv.mono s2) rw' fun F3 H3 st => h3 F3 H3 (hR2.step st) st.sF
theorem ev_op {op : Operator} {g : D → D → R D} (hn : ∀ x y c fs, g x y ≠ .ex c fs) (ho : OpR X (binaryOp op) (r2 X.K C.ca g)) (ha : PE X a (tE X.K C own fa)) (hb : PE X b (tE X.K C own fb)) : PE X (.BinOp a op b pos) (tE X.K C own (e2 g fa fb)) :=
  pe_imp (pe_op ho ha hb) fun σ H Q ⟨env, F, hR, h⟩ => two hn hR h fun x y v w d F' H' e hd hR' rv rw' q => ⟨F', x, y, d, hR'.q.sub, rv, rw', hd, fun u F2 H2 st ru => q F2 H2 st u ru⟩
theorem ev_cmp {op : CmpOp} {g : D → D → R D} (hn : ∀ x y c fs, g x y ≠ .ex c fs) (ho : OpR X (compareOp op) (r2 X.K C.ca g)) (ha : PE X a (tE X.K C own fa)) (hb : PE X b (tE X.K C own fb)) (hm : behindInMarks op b = false := by first | exact nomark _ | rfl) : PE X (.Compare a [op] [b] pos) (tE X.K C own (e2 g fa fb)) :=
  pe_imp (pe_cmpR ho ha hb hm) fun σ H Q ⟨env, F, hR, h⟩ => two hn hR h fun x y v w d F' H' e hd hR' rv rw' q => ⟨F', x, y, d, hR'.q.sub, rv, rw', hd, fun u F2 H2 st ru => q F2 H2 st u ru⟩
theorem ev_ix {g : D → D → R D} (hn : ∀ x y c fs, g x y ≠ .ex c fs) (ho : IxR X (r2 X.K C.ca g)) (ha : PE X a (tE X.K C own fa)) (hb : PE X b (tE X.K C own fb)) (hs : PlainIx b := by exact fun _ _ => rfl) : PE X (.Subscript a b pos) (tE X.K C own (e2 g fa fb)) :=
  pe_imp (pe_ix ho ha hb hs) fun σ H Q ⟨env, F, hR, h⟩ => two hn hR h fun x y v w d F' H' e hd hR' rv rw' q => ⟨F', x, y, d, hR'.q.sub, rv, rw', hd, fun u F2 H2 st ru => q F2 H2 st u ru⟩
theorem ev_un {op : UnaryOp} {g : D → R D} (hn : ∀ x c fs, g x ≠ .ex c fs) (ho : UnR X (unaryOp op) (r1 X.K C.ca g)) (ha : PE X a (tE X.K C own fa)) : PE X (.UnaryOp op a pos) (tE X.K C own (e1 g fa)) :=
  pe_imp (pe_un ho ha) fun σ H Q ⟨env, F, hR, h⟩ => ⟨env, F, hR, h.bind.imp fun x e1 F1 H1 hR1 s1 h1 v rv => by
    obtain ⟨d, hd, h3⟩ := h1.known (hn x)
    exact ⟨F1, x, d, hR1.q.sub, rv, hd, fun u F2 H2 st ru => h3 F2 H2 (hR1.step st) st.sF u ru⟩⟩
theorem ea_nil : PA X [] (tA X.K C own aNil) := pa_imp pa_nil fun σ H Q ⟨env, F, hR, h⟩ => h.here hR [] .nil
theorem ea_cons (ha : PE X a (tE X.K C own fa)) (hr : PA X es (tA X.K C own fs)) (hs : starEach (a :: es) X.env = (false, eval a X.env) :: starEach es X.env := by rfl) : PA X (a :: es) (tA X.K C own (aCons fa fs)) :=
  pa_imp (pa_cons ha hr hs) fun σ H Q ⟨env, F, hR, h⟩ => ⟨env, F, hR, h.bind.imp fun x e1 F1 H1 hR1 s1 h1 v rv => ⟨e1, F1, hR1, h1.bind.imp fun ys e2 F2 H2 hR2 s2 h2 vs rvs => h2.here hR2 (v :: vs) (.cons (rv.mono s2) rvs)⟩⟩
theorem argsN {g : List D → R D} {k : D → En → Hp → Hp → Prop} {σ : L2.St} {F H : Hp} {env : En} (hn : ∀ x c fs, g x ≠ .ex c fs) (hR : RE X.K C.ca C.B own env σ F H)
    (h : Pst X.K C own ((fs env).bind fun p => (g p.1).bind fun r => .ok (r, p.2)) σ F k)
    {r : List V → Hp → Prop} (hr : ∀ xs vs d F' H' e, g xs = .ok d → RE X.K C.ca C.B own e σ F' H' → Reps X.K C.ca F' xs vs → (∀ F2 H2, Stp F' H' F2 H2 → k d e F2 H2) → r vs H') :
    tA X.K C own fs σ H fun vs H1 => r vs H1 := by
  refine ⟨env, F, hR, h.bind.imp fun xs e1 F1 H1 hR1 s1 h1 vs rv => ?_⟩
  obtain ⟨d, hd, h3⟩ := h1.known (hn xs)
  exact hr xs vs d F1 H1 e1 hd hR1 rv fun F3 H3 st => h3 F3 H3 (hR1.step st) st.sF
theorem ev_callB {x : Str} {id : String} {p : Pos} {g : List D → R D} (hn : ∀ x c fs, g x ≠ .ex c fs) (hc : CallR X (.builtin id) (rN X.K C.ca g)) (hm : X.mg x = none) (ha : PA X (a :: es) (tA X.K C own fs)) (hg : Gl X x := by rfl) (hv : bootBuiltins x = some (.builtin id) := by decide +kernel)
    (hx : x ≠ "__name__" := by decide) (hdb : (x == ("__debug__" : Str)) = false := by decide) (he : starEach (a :: es) X.env = (false, eval a X.env) :: starEach es X.env := by rfl) (hpl : (backTo pos (starEach es X.env)).any (·.1) = false := by rfl) :
    PE X (.Call (.Name x p) (a :: es) [] pos) (tE X.K C own (eN g fs)) :=
  pe_imp (pe_callB hc hg hm hv ha hx hdb he hpl) fun σ H Q ⟨env, F, hR, h⟩ => argsN hn hR h fun xs vs d F' H' e hd hR' rv q => ⟨F', xs, d, hR'.q.sub, rv, hd, fun u F2 H2 st ru => q F2 H2 st u ru⟩
theorem ev_callT {x : Str} {T : String} {p : Pos} {g : List D → R D} (hn : ∀ x c fs, g x ≠ .ex c fs) (hc : CallR X (.type T) (rN X.K C.ca g)) (hm : X.mg x = none) (ha : PA X (a :: es) (tA X.K C own fs)) (hg : Gl X x := by rfl) (hv : bootBuiltins x = some (.type T) := by decide +kernel)
    (hx : x ≠ "__name__" := by decide) (hdb : (x == ("__debug__" : Str)) = false := by decide) (he : starEach (a :: es) X.env = (false, eval a X.env) :: starEach es X.env := by rfl) (hpl : (backTo pos (starEach es X.env)).any (·.1) = false := by rfl) :
    PE X (.Call (.Name x p) (a :: es) [] pos) (tE X.K C own (eN g fs)) :=
  pe_imp (pe_callTy hc hg hm hv ha hx hdb he hpl) fun σ H Q ⟨env, F, hR, h⟩ => argsN hn hR h fun xs vs d F' H' e hd hR' rv q => ⟨F', xs, d, hR'.q.sub, rv, hd, fun u F2 H2 st ru => q F2 H2 st u ru⟩

/-! ### tests -/
theorem et_val (h : PE X a (tE X.K C own fa)) (he : ∀ whole, isTrue a X.env whole = (do let v ← whole; standAt a.pos; holding [v] (truthy v)) := by intro _; rfl) : PT X a (tT X.K C own (tB1 fa)) :=
  pt_imp (pt_val h he) fun σ H Q ⟨env, F, hR, h⟩ => ⟨env, F, hR, h.bind.imp fun x e1 F1 H1 hR1 s1 h1 v rv => by
    cases x <;> try exact h1.elim
    cases rv
    exact ⟨_, rfl, h1.here hR1⟩⟩
theorem et_cmp {op : CmpOp} {g : D → D → R D} (hn : ∀ x y c fs, g x y ≠ .ex c fs) (ho : OpR X (compareOp op) (r2 X.K C.ca g)) (ha : PE X a (tE X.K C own fa)) (hb : PE X b (tE X.K C own fb)) (hm : behindInMarks op b = false := by first | exact nomark _ | rfl) : PT X (.Compare a [op] [b] pos) (tT X.K C own (tB1 (e2 g fa fb))) :=
  pt_imp (pt_cmpR ho ha hb hm) fun σ H Q ⟨env, F, hR, h⟩ => by
    have h : Pst X.K C own ((e2 g fa fb env).bind fun p => (blD p.1).bind fun b => .ok (b, p.2)) σ F fun b _ _ H' => Q b H' := h
    refine two (k := fun d e F2 H2 => Pst X.K C own ((blD d).bind fun b => .ok (b, e)) σ F2 fun b _ _ H' => Q b H') hn hR h.bind fun x y v w d F' H' e hd hR' rv rw' q => ⟨F', x, y, d, hR'.q.sub, rv, rw', hd, fun u F2 H2 st ru => ?_⟩
    have q' := q F2 H2 st
    cases d <;> try exact q'.elim
    cases ru
    exact ⟨_, rfl, q'.here (hR'.step st)⟩
theorem et_not (h : PT X a (tT X.K C own ft)) : PT X (.UnaryOp .Not a pos) (tT X.K C own (tNot1 ft)) :=
  pt_imp (pt_not h) fun σ H Q ⟨env, F, hR, h⟩ => ⟨env, F, hR, h.bind.imp fun x e1 F1 H1 hR1 s1 h1 => h1.here hR1⟩
theorem ew_and1 (ha : PT X a (tT X.K C own ft)) : PW X (.BoolOp .And [a] pos) (tT X.K C own ft) := pw_and1 ha
theorem ew_or1 (ha : PT X a (tT X.K C own ft)) : PW X (.BoolOp .Or [a] pos) (tT X.K C own ft) := pw_or1 ha
theorem ew_and {rest : List Expr} (ha : PT X a (tT X.K C own ft)) (hb : PW X (.BoolOp .And (b :: rest) pos) (tT X.K C own fu)) : PW X (.BoolOp .And (a :: b :: rest) pos) (tT X.K C own (tAnd1 ft fu)) :=
  pw_imp (pw_and ha hb) fun σ H Q ⟨env, F, hR, h⟩ => ⟨env, F, hR, h.bind.imp fun x e1 F1 H1 hR1 s1 h1 => by
    cases x with
    | true => exact ⟨e1, F1, hR1, h1⟩
    | false => exact h1.here hR1⟩
theorem ew_or {rest : List Expr} (ha : PT X a (tT X.K C own ft)) (hb : PW X (.BoolOp .Or (b :: rest) pos) (tT X.K C own fu)) : PW X (.BoolOp .Or (a :: b :: rest) pos) (tT X.K C own (tOr1 ft fu)) :=
  pw_imp (pw_or ha hb) fun σ H Q ⟨env, F, hR, h⟩ => ⟨env, F, hR, h.bind.imp fun x e1 F1 H1 hR1 s1 h1 => by
    cases x with
    | true => exact h1.here hR1
    | false => exact ⟨e1, F1, hR1, h1⟩⟩
theorem ev_if (hc : PT X c (tT X.K C own ft)) (ha : PE X a (tE X.K C own fa)) (hb : PE X b (tE X.K C own fb)) : PE X (.IfExp c a b pos) (tE X.K C own (eIf ft fa fb)) :=
  pe_imp (pe_ifExp hc ha hb) fun σ H Q ⟨env, F, hR, h⟩ => ⟨env, F, hR, h.bind.imp fun x e1 F1 H1 hR1 s1 h1 => by
    cases x with
    | true => exact ⟨e1, F1, hR1, h1⟩
    | false => exact ⟨e1, F1, hR1, h1⟩⟩
theorem ev_and1 {op : BoolOp} (ha : PE X a (tE X.K C own fa)) : PE X (.BoolOp op [a] pos) (tE X.K C own fa) := pe_one ha
theorem ev_and {rest : List Expr} (ha : PE X a (tE X.K C own fa)) (hb : PE X (.BoolOp .And (b :: rest) pos) (tE X.K C own fb)) : PE X (.BoolOp .And (a :: b :: rest) pos) (tE X.K C own (eAnd fa fb)) :=
  pe_imp (pe_and ha hb) fun σ H Q ⟨env, F, hR, h⟩ => ⟨env, F, hR, h.bind.imp fun x e1 F1 H1 hR1 s1 h1 v rv => by
    cases x <;> try exact h1.elim
    rename_i k
    cases rv
    refine ⟨k, rfl, ?_⟩
    cases k with
    | true => exact ⟨e1, F1, hR1, h1⟩
    | false => exact h1.here hR1 _ (.bl false)⟩
theorem ev_or {rest : List Expr} (ha : PE X a (tE X.K C own fa)) (hb : PE X (.BoolOp .Or (b :: rest) pos) (tE X.K C own fb)) : PE X (.BoolOp .Or (a :: b :: rest) pos) (tE X.K C own (eOr fa fb)) :=
  pe_imp (pe_or ha hb) fun σ H Q ⟨env, F, hR, h⟩ => ⟨env, F, hR, h.bind.imp fun x e1 F1 H1 hR1 s1 h1 v rv => by
    cases x <;> try exact h1.elim
    rename_i k
    cases rv
    refine ⟨k, rfl, ?_⟩
    cases k with
    | true => exact h1.here hR1 _ (.bl true)
    | false => exact ⟨e1, F1, hR1, h1⟩⟩
theorem ev_not (ha : PE X a (tE X.K C own fa)) : PE X (.UnaryOp .Not a pos) (tE X.K C own (eNot fa)) :=
  pe_imp (pe_not ha) fun σ H Q ⟨env, F, hR, h⟩ => ⟨env, F, hR, h.bind.imp fun x e1 F1 H1 hR1 s1 h1 v rv => by
    cases x <;> try exact h1.elim
    rename_i k
    cases rv
    exact ⟨k, rfl, h1.here hR1 _ (.bl _)⟩⟩
end
end Dl

namespace Dl
open PySem PySem.Spec PyProof.Rows L2

/-! ### statements -/
inductive SR where
  | nx (e : En) | rt (d : D) (e : En) | bk (e : En) | ct (e : En) | ex (c : Nat) (fs : List (Str × D)) | no
def R.toS {α : Type} (r : R α) (k : α → SR) : SR := match r with
  | .ok a => k a
  | .ex c fs => .ex c fs
  | .no => .no
@[simp] theorem R.toS_ok {α : Type} (a : α) (k : α → SR) : (R.ok a).toS k = k a := rfl
@[simp] theorem R.toS_no {α : Type} (k : α → SR) : (R.no : R α).toS k = .no := rfl
abbrev SF := En → SR
def seqS (g1 g2 : SF) : SF := fun env => match g1 env with
  | .nx e => g2 e
  | r => r
def ifS (t : TF) (g1 g2 : SF) : SF := fun env => (t env).toS fun p => if p.1 = true then g1 p.2 else g2 p.2
def asgS (i : Nat) (f : EF) : SF := fun env => (f env).toS fun p => .nx (p.2.set i (some p.1))
def retS (f : EF) : SF := fun env => (f env).toS fun p => .rt p.1 p.2
def retN : SF := fun env => .rt .non env
def expS (f : EF) : SF := fun env => (f env).toS fun p => .nx p.2
def passS : SF := fun env => .nx env
def brkS : SF := fun env => .bk env
def cntS : SF := fun env => .ct env
def neverS : SF := fun _ => .no

def MutF (K : PySem.W.Frag) (ca : CA) (B : Bs) (F H : Hp) (env : En) : Prop := ∀ p, B.m = some p → ∃ d, env[0]? = some (some d) ∧ OwO K ca F H d p
/-- what is returned -/
def RT (K : PySem.W.Frag) (C : Cd) (F H : Hp) (d : D) (v : V) : Prop := match C.nw with
  | true => ∃ p, v = .ref p ∧ F p = none ∧ C.B.H p = none ∧ C.B.m ≠ some p ∧ OwO K C.ca F H d p
  | false => Rep K C.ca F d v
theorem RT.of {K : PySem.W.Frag} {C : Cd} {F H : Hp} {d : D} {v : V} (hw : C.nw = false) (r : Rep K C.ca F d v) : RT K C F H d v := by
  unfold RT
  rw [hw]
  exact r
section
variable (K : PySem.W.Frag) (C : Cd) (own ol : List Nat)
def Sst (r : SR) (F : Hp) (Dn : Ends) : Prop := match r with
  | .nx e => ∀ σ' F' H', RE K C.ca C.B own e σ' F' H' → Same F F' → Dn.nx σ' H'
  | .bk e => ∀ σ' F' H', RE K C.ca C.B ol e σ' F' H' → Same F F' → Dn.bk σ' H'
  | .ct e => ∀ σ' F' H', RE K C.ca C.B ol e σ' F' H' → Same F F' → Dn.ct σ' H'
  | .rt d e => ∀ v F' H', Bq C.ca C.B F' H' → MutF K C.ca C.B F' H' e → Same F F' → RT K C F' H' d v → Dn.rt v H'
  | .ex c fs => ∀ e o F' H', Bq C.ca C.B F' H' → Same F F' → XR K C.ca c fs e o F' → C.E e o H'
  | .no => False
end
def tS (K : PySem.W.Frag) (C : Cd) (own own' ol : List Nat) (g : SF) : TS := fun Dn σ H => ∃ env F, RE K C.ca C.B own env σ F H ∧ Sst K C own' ol (g env) F Dn
section
variable {K : PySem.W.Frag} {C : Cd} {own own' own1 ol : List Nat} {α : Type} {σ : L2.St} {F F' H H' : Hp} {env : En} {Dn : Ends}
theorem Sst.later {r : SR} (h : Sst K C own ol r F Dn) (s : Same F F') : Sst K C own ol r F' Dn := by
  cases r with
  | nx e => exact fun σ' F2 H2 hR s2 => h σ' F2 H2 hR (s.trans s2)
  | bk e => exact fun σ' F2 H2 hR s2 => h σ' F2 H2 hR (s.trans s2)
  | ct e => exact fun σ' F2 H2 hR s2 => h σ' F2 H2 hR (s.trans s2)
  | rt d e => exact fun v F2 H2 b m s2 => h v F2 H2 b m (s.trans s2)
  | ex c fs => exact fun e o F2 H2 q s2 => h e o F2 H2 q (s.trans s2)
  | no => exact h
theorem Sst.bind {r : R (α × En)} {k : α × En → SR} (h : Sst K C own' ol (r.toS k) F Dn) : Pst K C own r σ F fun a e F1 _ => Sst K C own' ol (k (a, e)) F1 Dn := by
  cases r with
  | ok p => exact fun F' H' hR s => (show Sst K C own' ol (k p) F Dn from h).later s
  | ex c fs => exact fun e o F2 H2 q s2 => h e o F2 H2 q s2
  | no => exact h
theorem RE.mutF (h : RE K C.ca C.B own env σ F H) : MutF K C.ca C.B F H env := fun p hp => by
  obtain ⟨m0, m1, d, m2⟩ := h.mt p hp
  obtain ⟨q, h1, h2⟩ := h.ow 0 d m0 m2
  rw [m1] at h1
  cases h1
  exact ⟨d, m2, h2.o⟩
end
section
variable {X : Cx} {C : Cd} {own own' own1 own2 ol : List Nat} {a b c : Expr} {es : List Expr} {st : Stmt} {sts : List Stmt} {pos : Pos} {fa fb : EF} {fs : AF} {ft fu : TF} {g g1 g2 : SF}
theorem sv_nil : PSs X [] (tS X.K C own own ol passS) := pss_imp pss_nil fun Dn σ H ⟨env, F, hR, h⟩ => h σ F H hR (Same.refl _)
theorem sv_cons (h1 : PS X st (tS X.K C own own1 ol g1)) (h2 : PSs X sts (tS X.K C own1 own2 ol g2)) : PSs X (st :: sts) (tS X.K C own own2 ol (seqS g1 g2)) :=
  pss_imp (pss_cons h1 h2) fun Dn σ H ⟨env, F, hR, h⟩ => ⟨env, F, hR, by
    unfold seqS at h
    cases e : g1 env with
    | nx e1 => rw [e] at h; exact fun σ' F' H' hR' s => ⟨e1, F', hR', Sst.later h s⟩
    | bk e1 => rw [e] at h; exact h
    | ct e1 => rw [e] at h; exact h
    | rt d e1 => rw [e] at h; exact h
    | ex c fs => rw [e] at h; exact h
    | no => rw [e] at h; exact h⟩
theorem sv_one (h : PS X st (tS X.K C own own' ol g)) : PSs X [st] (tS X.K C own own' ol g) := pss_one h
theorem sv_if {sa sb : List Stmt} (hc : PT X c (tT X.K C own ft)) (ha : PSs X sa (tS X.K C own own' ol g1)) (hb : PSs X sb (tS X.K C own own' ol g2)) : PS X (.If c sa sb pos) (tS X.K C own own' ol (ifS ft g1 g2)) :=
  ps_imp (ps_if hc ha hb) fun Dn σ H ⟨env, F, hR, h⟩ => ⟨env, F, hR, (Sst.bind h).imp fun x e1 F1 H1 hR1 s1 h1 => by
    cases x with
    | true => exact ⟨e1, F1, hR1, h1⟩
    | false => exact ⟨e1, F1, hR1, h1⟩⟩
theorem sv_asg {i : Nat} {x : Str} {pos' : Pos} (hN : X.N.Nodup) (he : PE X a (tE X.K C own fa)) (hm : i ≠ 0 ∨ C.B.free0) (ho : own.filter (fun j => j != i) = own' := by rfl) (hi : X.N[i]? = some x := by rfl) (hx : Loc X.env.scope x := by first | exact Or.inl rfl | exact Or.inr rfl)
    (hs : swapsWith a (some (.Name x pos')) pos.line X.env = pure false := by rfl) (hf : X.fn x = true ∨ X.env.scope.names.lookup x = some .local := by first | exact .inl rfl | exact .inr rfl | assumption) :
    PS X (.Assign [.Name x pos'] a pos) (tS X.K C own own' ol (asgS i fa)) :=
  ps_imp (ps_set hN hi hx he hs hf) fun Dn σ H ⟨env, F, hR, h⟩ => ⟨env, F, hR, (Sst.bind h).imp fun d e1 F1 H1 hR1 s1 h1 v r => h1 _ F1 H1 (hR1.put r hm ho) (Same.refl _)⟩
theorem sv_ret (he : PE X a (tE X.K C own fa)) (hw : C.nw = false := by rfl) : PS X (.Return (some a) pos) (tS X.K C own own' ol (retS fa)) :=
  ps_imp (ps_ret he) fun Dn σ H ⟨env, F, hR, h⟩ => ⟨env, F, hR, (Sst.bind h).imp fun d e1 F1 H1 hR1 s1 h1 v r => h1 v F1 H1 hR1.q hR1.mutF (Same.refl _) (.of hw r)⟩
theorem sv_retN (hw : C.nw = false := by rfl) : PS X (.Return none pos) (tS X.K C own own' ol retN) :=
  ps_imp ps_retN fun Dn σ H ⟨env, F, hR, h⟩ => h .non F H hR.q hR.mutF (Same.refl _) (.of hw .non)
theorem sv_expr (he : PE X a (tE X.K C own fa)) (hs : swapsWith a none pos.line X.env = pure false := by rfl) : PS X (.Expr a pos) (tS X.K C own own ol (expS fa)) :=
  ps_imp (ps_expr he hs) fun Dn σ H ⟨env, F, hR, h⟩ => ⟨env, F, hR, (Sst.bind h).imp fun d e1 F1 H1 hR1 s1 h1 v r => h1 σ F1 H1 hR1 (Same.refl _)⟩
theorem sv_pass : PS X (.Pass pos) (tS X.K C own own ol passS) := ps_imp ps_pass fun Dn σ H ⟨env, F, hR, h⟩ => h σ F H hR (Same.refl _)
theorem sv_brk : PS X (.Break pos) (tS X.K C own own' own brkS) := ps_imp ps_break fun Dn σ H ⟨env, F, hR, h⟩ => h σ F H hR (Same.refl _)
theorem sv_cnt : PS X (.Continue pos) (tS X.K C own own' own cntS) := ps_imp ps_continue fun Dn σ H ⟨env, F, hR, h⟩ => h σ F H hR (Same.refl _)
theorem sv_never : PS X st (tS X.K C own own' ol neverS) := ps_imp ps_never fun Dn σ H ⟨env, F, hR, h⟩ => h
theorem sv_neverS : PSs X sts (tS X.K C own own' ol neverS) := pss_imp pss_never fun Dn σ H ⟨env, F, hR, h⟩ => h
/-- the object in slot i is laid down ahead -/
theorem sv_fz (i : Nat) (h : PS X st (tS X.K C own1 own' ol g)) (hm : i ≠ 0 ∨ C.B.free0) (ho : own.filter (fun j => j != i) = own1 := by rfl) : PS X st (tS X.K C own own' ol g) :=
  ps_imp h fun Dn σ H ⟨env, F, hR, q⟩ => let ⟨F', s, hR'⟩ := hR.freeze hm ho; ⟨env, F', hR', q.later s⟩
theorem sv_fzS (i : Nat) (h : PSs X sts (tS X.K C own1 own' ol g)) (hm : i ≠ 0 ∨ C.B.free0) (ho : own.filter (fun j => j != i) = own1 := by rfl) : PSs X sts (tS X.K C own own' ol g) :=
  pss_imp h fun Dn σ H ⟨env, F, hR, q⟩ => let ⟨F', s, hR'⟩ := hR.freeze hm ho; ⟨env, F', hR', q.later s⟩
/-- .. behind -/
theorem sv_fzE (i : Nat) (h : PS X st (tS X.K C own own1 ol g)) (hm : i ≠ 0 ∨ C.B.free0) (ho : own1.filter (fun j => j != i) = own' := by rfl) : PS X st (tS X.K C own own' ol g) :=
  ps_imp h fun Dn σ H ⟨env, F, hR, q⟩ => ⟨env, F, hR, by
    cases e : g env with
    | nx e1 =>
      rw [e] at q
      exact fun σ' F' H' hR' s => let ⟨F2, s2, hR2⟩ := hR'.freeze hm ho; q σ' F2 H' hR2 (s.trans s2)
    | bk e1 => rw [e] at q; exact q
    | ct e1 => rw [e] at q; exact q
    | rt d e1 => rw [e] at q; exact q
    | ex c fs => rw [e] at q; exact q
    | no => rw [e] at q; exact q⟩
theorem sv_fzSE (i : Nat) (h : PSs X sts (tS X.K C own own1 ol g)) (hm : i ≠ 0 ∨ C.B.free0) (ho : own1.filter (fun j => j != i) = own' := by rfl) : PSs X sts (tS X.K C own own' ol g) :=
  pss_imp h fun Dn σ H ⟨env, F, hR, q⟩ => ⟨env, F, hR, by
    cases e : g env with
    | nx e1 =>
      rw [e] at q
      exact fun σ' F' H' hR' s => let ⟨F2, s2, hR2⟩ := hR'.freeze hm ho; q σ' F2 H' hR2 (s.trans s2)
    | bk e1 => rw [e] at q; exact q
    | ct e1 => rw [e] at q; exact q
    | rt d e1 => rw [e] at q; exact q
    | ex c fs => rw [e] at q; exact q
    | no => rw [e] at q; exact q⟩
end

/-! ### targets -/
abbrev BF := D → En → R En
abbrev BFs := List D → En → R En
/-- the slots beside ts are as they were -/
def Nar (ts : List Nat) (σ σ' : L2.St) : Prop := σ'.length = σ.length ∧ ∀ j, j ∉ ts → σ'[j]? = σ[j]?
def tG (K : PySem.W.Frag) (C : Cd) (own ts : List Nat) (b : BF) : TG := fun v σ H Q => ∃ env F d env', RE K C.ca C.B own env σ F H ∧ Rep K C.ca F d v ∧ b d env = .ok env' ∧ ∀ σ', RE K C.ca C.B own env' σ' F H → Nar ts σ σ' → Q σ' H
def tGs (K : PySem.W.Frag) (C : Cd) (own ts : List Nat) (b : BFs) : TGs := fun vs σ H Q => ∃ env F ds env', RE K C.ca C.B own env σ F H ∧ Reps K C.ca F ds vs ∧ b ds env = .ok env' ∧ ∀ σ', RE K C.ca C.B own env' σ' F H → Nar ts σ σ' → Q σ' H
theorem pg_imp {X : Cx} {e : Expr} {t t' : TG} (h : PG X e t) (g : ∀ v σ H Q, t' v σ H Q → t v σ H Q) : PG X e t' := ⟨fun pins s σ H v u Q I r q => h.run pins s σ H v u Q I r (g _ _ _ _ q)⟩
theorem pgs_imp {X : Cx} {e : List Expr} {t t' : TGs} (h : PGs X e t) (g : ∀ v σ H Q, t' v σ H Q → t v σ H Q) : PGs X e t' := ⟨fun pins s σ H v u Q I r q => h.run pins s σ H v u Q I r (g _ _ _ _ q)⟩
def bName (i : Nat) : BF := fun d env => .ok (env.set i (some d))
def bNil : BFs := fun ds env => match ds with
  | [] => .ok env
  | _ => .no
def bCons (b : BF) (bs : BFs) : BFs := fun ds env => match ds with
  | d :: r => (b d env).bind fun e => bs r e
  | [] => .no
def bTup (n : Nat) (b : BFs) : BF := fun d env => match d with
  | .tup xs => if xs.length = n then b xs env else .no
  | _ => .no
def bLst (n : Nat) (b : BFs) : BF := fun d env => match d with
  | .lst xs => if xs.length = n then b xs env else .no
  | _ => .no
theorem R.bind_eq_ok {α β : Type} {r : R α} {f : α → R β} {b : β} (h : r.bind f = .ok b) : ∃ a, r = .ok a ∧ f a = .ok b := by
  cases r with
  | ok a => exact ⟨a, rfl, h⟩
  | ex c fs => cases h
  | no => cases h
section
variable {X : Cx} {C : Cd} {own ts ts' : List Nat} {pos : Pos} {b : BF} {bs : BFs}
theorem eg_name {i : Nat} {x : Str} (hN : X.N.Nodup) (hm : i ≠ 0 ∨ C.B.free0) (ho : own.filter (fun j => j != i) = own := by rfl) (hi : X.N[i]? = some x := by rfl) (hx : Loc X.env.scope x := by first | exact Or.inl rfl | exact Or.inr rfl) (hf : X.fn x = true ∨ X.env.scope.names.lookup x = some .local := by first | exact .inl rfl | exact .inr rfl | assumption) :
    PG X (.Name x pos) (tG X.K C own [i] (bName i)) :=
  pg_imp (pg_name hN hi hx hf) fun v σ H Q ⟨env, F, d, env', hR, r, e, q⟩ => by
    cases e
    exact q _ (hR.put r hm ho) ⟨List.length_set, fun j hj => List.getElem?_set_ne (fun z => hj (by rw [z]; exact List.mem_singleton.mpr rfl))⟩
theorem egs_nil : PGs X [] (tGs X.K C own [] bNil) :=
  pgs_imp pgs_nil fun vs σ H Q ⟨env, F, ds, env', hR, r, e, q⟩ => by
    cases r with
    | nil => cases e; exact ⟨rfl, q _ hR ⟨rfl, fun _ _ => rfl⟩⟩
    | cons _ _ => cases e
theorem egs_cons {e : Expr} {es : List Expr} (h1 : PG X e (tG X.K C own ts b)) (h2 : PGs X es (tGs X.K C own ts' bs)) (hs : (assignEach (e :: es) X.env).map (·.2) = assign e X.env :: (assignEach es X.env).map (·.2) := by rfl) : PGs X (e :: es) (tGs X.K C own (ts ++ ts') (bCons b bs)) :=
  pgs_imp (pgs_cons h1 h2 hs) fun vs σ H Q ⟨env, F, ds, env', hR, r, e, q⟩ => by
    cases r with
    | nil => cases e
    | cons r rs =>
      obtain ⟨e1, h1, h2⟩ := R.bind_eq_ok e
      exact ⟨_, _, rfl, env, F, _, e1, hR, r, h1, fun σ' hR' z => ⟨e1, F, _, env', hR', rs, h2, fun σ2 hR2 z2 => q σ2 hR2 ⟨z2.1.trans z.1, fun j hj => (z2.2 j fun w => hj (List.mem_append_right _ w)).trans (z.2 j fun w => hj (List.mem_append_left _ w))⟩⟩⟩
theorem eg_tup {es : List Expr} {k n : Nat} (hc : X.calm = true) (h : PGs X es (tGs X.K C own ts bs)) (hn : (assignEach es X.env).length = n := by rfl) (hst : (assignEach es X.env).findIdx? (·.1) = none := by rfl) : PG X (.Tuple es k pos) (tG X.K C own ts (bTup n bs)) :=
  pg_imp (pg_tup hc h hn hst) fun v σ H Q ⟨env, F, d, env', hR, r, e, q⟩ => by
    unfold bTup at e
    cases r with
    | tup hq rs =>
      dsimp only at e
      split at e
      · rename_i hl
        exact ⟨_, _, rfl, Same.seqT hR.q.sub hq, by rw [← rs.length]; exact hl, env, F, _, env', hR, rs, e, q⟩
      · cases e
    | _ => cases e
theorem eg_lst {es : List Expr} {k n : Nat} (hc : X.calm = true) (h : PGs X es (tGs X.K C own ts bs)) (hn : (assignEach es X.env).length = n := by rfl) (hst : (assignEach es X.env).findIdx? (·.1) = none := by rfl) : PG X (.Tuple es k pos) (tG X.K C own ts (bLst n bs)) :=
  pg_imp (pg_lst hc h hn hst) fun v σ H Q ⟨env, F, d, env', hR, r, e, q⟩ => by
    unfold bLst at e
    cases r with
    | lst hq rs =>
      dsimp only at e
      split at e
      · rename_i hl
        exact ⟨_, _, rfl, SqL.of (hR.q.sub _ _ hq), by rw [← rs.length]; exact hl, env, F, _, env', hR, rs, e, q⟩
      · cases e
    | _ => cases e
end
def asgG (b : BF) (f : EF) : SF := fun env => (f env).toS fun p => (b p.1 p.2).toS fun e => .nx e
section
variable {X : Cx} {C : Cd} {own ol ts : List Nat} {pos : Pos} {b : BF} {tg a : Expr} {fa : EF}
theorem b_noex (h : ∀ d e c fs, b d e ≠ .ex c fs) : True := True.intro
/-- target = value -/
theorem sv_tgt (he : PE X a (tE X.K C own fa)) (hg : PG X tg (tG X.K C own ts b)) (hb : ∀ d e c fs, b d e ≠ .ex c fs) (hs : swapsWithSole [tg] a pos.line X.env = pure false := by rfl) (hw : swappedStores [tg] a X.env = pure none := by rfl)
    (h1 : (assignEach [tg] X.env).map (·.2) = [assign tg X.env] := by rfl) : PS X (.Assign [tg] a pos) (tS X.K C own own ol (asgG b fa)) :=
  ps_imp (ps_asg he hg hs hw h1) fun Dn σ H ⟨env, F, hR, h⟩ => ⟨env, F, hR, (Sst.bind h).imp fun d e1 F1 H1 hR1 s1 h1 v r => by
    dsimp only at h1
    cases e : b d e1 with
    | ok e2 =>
      rw [e] at h1
      exact ⟨e1, F1, d, e2, hR1, r, e, fun σ' hR' _ => h1 σ' F1 H1 hR' (Same.refl _)⟩
    | ex c fs => exact absurd e (hb _ _ _ _)
    | no => rw [e] at h1; exact h1.elim⟩
end
theorem bName_ne {i : Nat} : ∀ d e c fs, bName i d e ≠ .ex c fs := fun _ _ _ _ z => nomatch z
theorem bNil_ne : ∀ d e c fs, bNil d e ≠ .ex c fs := fun d e c fs z => by
  cases d <;> cases z
theorem bCons_ne {b : BF} {bs : BFs} (h : ∀ d e c fs, b d e ≠ .ex c fs) (h2 : ∀ d e c fs, bs d e ≠ .ex c fs) : ∀ d e c fs, bCons b bs d e ≠ .ex c fs := fun d e c fs z => by
  cases d with
  | nil => cases z
  | cons x r =>
    unfold bCons at z
    dsimp only at z
    cases q : b x e with
    | ok e1 => rw [q] at z; exact h2 _ _ _ _ z
    | ex c fs => exact h _ _ _ _ q
    | no => rw [q] at z; cases z
theorem bTup_ne {n : Nat} {bs : BFs} (h2 : ∀ d e c fs, bs d e ≠ .ex c fs) : ∀ d e c fs, bTup n bs d e ≠ .ex c fs := fun d e c fs z => by
  unfold bTup at z
  cases d <;> try cases z
  dsimp only at z
  split at z
  · exact h2 _ _ _ _ z
  · cases z
theorem bLst_ne {n : Nat} {bs : BFs} (h2 : ∀ d e c fs, bs d e ≠ .ex c fs) : ∀ d e c fs, bLst n bs d e ≠ .ex c fs := fun d e c fs z => by
  unfold bLst at z
  cases d <;> try cases z
  dsimp only at z
  split at z
  · exact h2 _ _ _ _ z
  · cases z
end Dl

namespace Dl
open PySem PySem.Spec PyProof.Rows L2

/-! ### what is walked -/
structure Yl (K : PySem.W.Frag) (ca : CA) (J : It) (F : Hp) (xs : List D) : Prop where
  go : ∀ i H, Same F H → i < xs.length → J.go i H
  stop : ∀ i H, Same F H → xs.length ≤ i → J.stop i H
  yld : ∀ i H v H' Fc, Same F Fc → Same Fc H → J.yld i H v H' → ∀ d, xs[i]? = some d → ∃ F', Stp Fc H F' H' ∧ Rep K ca F' d v
def tI (K : PySem.W.Frag) (C : Cd) (own : List Nat) (f : AF) : TI := fun σ H R => ∃ env F, RE K C.ca C.B own env σ F H ∧ Pst K C own (f env) σ F fun xs _ F' H' => ∀ J, Yl K C.ca J F' xs → R J H'
theorem pi_imp {X : Cx} {tg e : Expr} {t t' : TI} (h : PI X tg e t) (g : ∀ σ H R, t' σ H R → t σ H R) : PI X tg e t' := ⟨fun pins s σ H R I q => h.run pins s σ H R I (g _ _ _ q)⟩
/-- what a walk over the value takes, one by one -/
def valD : D → R (List D)
  | .lst xs => .ok xs
  | .fro xs => .ok xs
  | .tup xs => .ok xs
  | .str z => .ok (z.cps.toList.map fun c => .str ⟨#[c]⟩)
  | _ => .no
def iVal (f : EF) : AF := fun env => (f env).bind fun p => (valD p.1).bind fun xs => .ok (xs, p.2)
def rng (lo : Int) (n : Nat) : List D := (List.range n).map fun i => .int (lo + (i : Nat))
def rng1D : List D → R (List D)
  | [.int j] => if (-j).toNat < 4611686018427387904 ∧ j.toNat < 4611686018427387904 then .ok (rng 0 j.toNat) else .no
  | _ => .no
def rng2D : List D → R (List D)
  | [.int i, .int j] => if ((-i).toNat < 4611686018427387904 ∧ i.toNat < 4611686018427387904) ∧ (-j).toNat < 4611686018427387904 ∧ j.toNat < 4611686018427387904 then .ok (rng i (j - i).toNat) else .no
  | _ => .no
def enumL (xs : List D) : List D := xs.zipIdx.map fun p => .tup [.int ((p.2 : Nat) : Int), p.1]
def enumD : List D → R (List D)
  | [.lst xs] => .ok (enumL xs)
  | _ => .no
def zipD : List D → R (List D)
  | [.lst xs, .lst ys] => .ok ((xs.zip ys).map fun p => .tup [p.1, p.2])
  | _ => .no
def iArg (g : List D → R (List D)) (f : AF) : AF := fun env => (f env).bind fun p => (g p.1).bind fun xs => .ok (xs, p.2)
section
variable {X : Cx} {C : Cd} {own : List Nat} {tg a b : Expr} {es : List Expr} {fa : EF} {fs : AF} {p pos : Pos}
theorem yl_list {ca : CA} {F : Hp} {l : Addr} {vs : List V} {xs : List D} (h : SqL X.K F l vs) (r : Reps X.K ca F xs vs) : Yl X.K ca (Itl X.K l) F xs where
  go := fun i H s hi => ⟨vs, vs[i]'(by rw [← r.length]; exact hi), s.seq h, List.getElem?_eq_getElem _⟩
  stop := fun i H s hi => ⟨vs, s.seq h, by rw [← r.length]; exact hi⟩
  yld := fun i H v H' Fc s1 s2 ⟨e, q⟩ d hd => by
    subst e
    obtain ⟨u, h1, h2⟩ := r.get hd
    have := q vs (Same.seq s2 (s1.seq h))
    rw [h1] at this
    cases this
    exact ⟨Fc, .refl s2, h2.mono s1⟩
theorem yl_tup {ca : CA} {F : Hp} {l : Addr} {vs : List V} {xs : List D} (h : SqT X.K F l vs) (r : Reps X.K ca F xs vs) : Yl X.K ca (Itt X.K l) F xs where
  go := fun i H s hi => ⟨vs, vs[i]'(by rw [← r.length]; exact hi), Same.seqT s h, List.getElem?_eq_getElem _⟩
  stop := fun i H s hi => ⟨vs, Same.seqT s h, by rw [← r.length]; exact hi⟩
  yld := fun i H v H' Fc s1 s2 ⟨e, q⟩ d hd => by
    subst e
    obtain ⟨u, h1, h2⟩ := r.get hd
    have := q vs (Same.seqT s2 (Same.seqT s1 h))
    rw [h1] at this
    cases this
    exact ⟨Fc, .refl s2, h2.mono s1⟩
theorem two62 : (2 : Int) ^ 62 = 4611686018427387904 := by decide
theorem two63 : (2 : Int) ^ 63 = 9223372036854775808 := by decide
theorem two27 : (2 : Int) ^ 27 = 134217728 := by decide
theorem bindL {α β : Type} {K : PySem.W.Frag} {r : R (α × En)} {f : α → R β} {σ : L2.St} {F : Hp} {k : β → En → Hp → Hp → Prop} (hn : ∀ x c fs, f x ≠ .ex c fs) (h : Pst K C own (r.bind fun p => (f p.1).bind fun b => .ok (b, p.2)) σ F k) :
    Pst K C own r σ F fun a e F1 H1 => ∃ b, f a = .ok b ∧ k b e F1 H1 :=
  h.bind.imp fun a e F1 H1 hR s h1 => by
    obtain ⟨b, hb, h2⟩ := h1.known (hn a)
    exact ⟨b, hb, h2.here hR⟩
theorem valD_ne : ∀ x c fs, valD x ≠ .ex c fs := fun x c fs z => by cases x <;> cases z
theorem rng1D_ne : ∀ x c fs, rng1D x ≠ .ex c fs := fun x c fs z => by
  unfold rng1D at z
  split at z
  · split at z <;> cases z
  · cases z
theorem rng2D_ne : ∀ x c fs, rng2D x ≠ .ex c fs := fun x c fs z => by
  unfold rng2D at z
  split at z
  · split at z <;> cases z
  · cases z
theorem enumD_ne : ∀ x c fs, enumD x ≠ .ex c fs := fun x c fs z => by
  unfold enumD at z
  split at z <;> cases z
theorem zipD_ne : ∀ x c fs, zipD x ≠ .ex c fs := fun x c fs z => by
  unfold zipD at z
  split at z <;> cases z
theorem pi_val {l : Expr} {tl : TE} (hl : PE X l tl) : PI X tg l (fun σ H R => tl σ H fun v H1 => (∃ a, v = .ref a ∧ ((∃ xs, SqT X.K H1 a xs) ∧ R (Itt X.K a) H1 ∨ (∃ xs, SqL X.K H1 a xs) ∧ R (Itl X.K a) H1)) ∨ ∃ x, v = .str x ∧ R (Its x) H1) := by
  refine ⟨fun pins s σ H R I h => ?_⟩
  -- the value first; then the walk of a constant that is that value
  refine thn (hl.run pins s σ H _ I h) fun v s1 ⟨x, H1, I1, r1, q1⟩ => ?_
  rcases q1 with ⟨a, rfl, q1⟩ | ⟨z, rfl, q1⟩
  · rcases q1 with ⟨⟨xs, hq⟩, q⟩ | ⟨⟨xs, hq⟩, q⟩
    · cases r1
      obtain ⟨its, rv, p, hz⟩ := I1.tuple hq
      refine wpAny_pyIter_tuple (show s1.heap.IsTuple a its.toArray from p) ?_
      refine ⟨s1.heap.objs.size, [s1.heap.objs.size], _, _, H1, rfl, I1.kept (t' := s1.toks) fun b o e => Heap.get?_push_of_some _ e, turn_tuple a _, ⟨_, Heap.get?_push_size _ rfl, rfl, rfl⟩, fun b hb => ?_, q⟩
      have e : b = s1.heap.objs.size := by simpa using hb
      subst e
      exact I1.fpOk (Nat.le_refl _) (I1.hok.fresh (Nat.le_refl _))
    · cases r1
      obtain ⟨its, rv, p, hz⟩ := I1.list hq
      refine wpAny_pyIter_list p.isList ?_
      refine ⟨s1.heap.objs.size, [s1.heap.objs.size], _, _, H1, rfl, I1.kept (t' := s1.toks) fun b o e => Heap.get?_push_of_some _ e, turn_list a _, ⟨_, Heap.get?_push_size _ rfl, rfl, rfl⟩, fun b hb => ?_, q⟩
      have e : b = s1.heap.objs.size := by simpa using hb
      subst e
      exact I1.fpOk (Nat.le_refl _) (I1.hok.fresh (Nat.le_refl _))
  · obtain ⟨t, rfl⟩ := r1
    cases ha : z.cps.all (· < 128)
    · exact wpAny_pyIter_wide ha (pi_one (tk := s1.toks) I1 _ (turn_str _ z t "str_iterator" (.inr rfl)) ⟨_, Heap.get?_push_size _ rfl, rfl, rfl⟩ q1)
    · exact wpAny_pyIter_ascii ha (pi_one (tk := s1.toks) I1 _ (turn_str _ z t "str_ascii_iterator" (.inl rfl)) ⟨_, Heap.get?_push_size _ rfl, rfl, rfl⟩ q1)
theorem yl_str {ca : CA} {F : Hp} {z : Str} : Yl X.K ca (Its z) F (z.cps.toList.map fun c => .str ⟨#[c]⟩) where
  go := fun i H s hi => by
    rw [List.length_map] at hi
    show i < z.cps.size
    simpa using hi
  stop := fun i H s hi => by
    rw [List.length_map] at hi
    show z.cps.size ≤ i
    simpa using hi
  yld := fun i H v H' Fc s1 s2 ⟨e, c, hc, ev⟩ d hd => by
    subst e
    subst ev
    rw [List.getElem?_map, Array.getElem?_toList, hc] at hd
    cases hd
    exact ⟨Fc, .refl s2, .str _⟩
theorem ei_val (h : PE X a (tE X.K C own fa)) : PI X tg a (tI X.K C own (iVal fa)) :=
  pi_imp (pi_val h) fun σ H R ⟨env, F, hR, q⟩ => ⟨env, F, hR, (bindL valD_ne q).imp fun d e F1 H1 hR1 s1 ⟨xs, hb, hk⟩ v r => by
    cases r with
    | lst hq rs =>
      cases hb
      exact .inl ⟨_, rfl, .inr ⟨⟨_, SqL.of (hR1.q.sub _ _ hq)⟩, hk _ (yl_list (SqL.of hq) rs)⟩⟩
    | fro hq rs =>
      cases hb
      exact .inl ⟨_, rfl, .inr ⟨⟨_, Same.seq hR1.q.sub hq⟩, hk _ (yl_list hq rs)⟩⟩
    | tup hq rs =>
      cases hb
      exact .inl ⟨_, rfl, .inl ⟨⟨_, Same.seqT hR1.q.sub hq⟩, hk _ (yl_tup hq rs)⟩⟩
    | str z =>
      cases hb
      exact .inr ⟨z, rfl, hk _ yl_str⟩
    | _ => cases hb⟩
theorem yl_rng {K : PySem.W.Frag} {ca : CA} {F : Hp} {lo : Int} {n : Nat} : Yl K ca (Itr lo n) F (rng lo n) where
  go := fun i H s hi => by unfold rng at hi; rw [List.length_map, List.length_range] at hi; exact hi
  stop := fun i H s hi => by unfold rng at hi; rw [List.length_map, List.length_range] at hi; exact hi
  yld := fun i H v H' Fc s1 s2 ⟨e, ev⟩ d hd => by
    subst e
    subst ev
    unfold rng at hd
    rw [List.getElem?_map] at hd
    by_cases hi : i < n
    · rw [List.getElem?_range hi] at hd
      cases hd
      exact ⟨Fc, .refl s2, .int _⟩
    · rw [List.getElem?_eq_none (by rw [List.length_range]; omega)] at hd
      cases hd
theorem ei_range1 (hm : X.mg "range" = none) (ha : PA X [a] (tA X.K C own fs)) (hg : Gl X "range" := by rfl) (hs : starEach [a] X.env = [(false, eval a X.env)] := by rfl) : PI X tg (.Call (.Name "range" p) [a] [] pos) (tI X.K C own (iArg rng1D fs)) :=
  pi_imp (pi_range1 hg hm ha hs) fun σ H R ⟨env, F, hR, q⟩ => ⟨env, F, hR, (bindL rng1D_ne q).imp fun ds e F1 H1 hR1 s1 ⟨xs, hb, hk⟩ vs r => by
    unfold rng1D at hb
    split at hb
    · rename_i j
      split at hb
      · rename_i hj
        cases hb
        cases r with
        | cons r rs => cases r; cases rs; exact ⟨_, rfl, by rw [two62]; omega, by rw [two62]; omega, hk _ yl_rng⟩
      · cases hb
    · cases hb⟩
theorem ei_range2 (hm : X.mg "range" = none) (ha : PA X [a, b] (tA X.K C own fs)) (hg : Gl X "range" := by rfl) (hs : starEach [a, b] X.env = [(false, eval a X.env), (false, eval b X.env)] := by rfl) (hs2 : starEach [b] X.env = [(false, eval b X.env)] := by rfl) :
    PI X tg (.Call (.Name "range" p) [a, b] [] pos) (tI X.K C own (iArg rng2D fs)) :=
  pi_imp (pi_range2 hg hm ha hs hs2) fun σ H R ⟨env, F, hR, q⟩ => ⟨env, F, hR, (bindL rng2D_ne q).imp fun ds e F1 H1 hR1 s1 ⟨xs, hb, hk⟩ vs r => by
    unfold rng2D at hb
    split at hb
    · rename_i i j
      split at hb
      · rename_i hj
        cases hb
        cases r with
        | cons r rs =>
          cases r
          cases rs with
          | cons r rs => cases r; cases rs; exact ⟨_, _, rfl, by rw [two62]; omega, hk _ yl_rng⟩
      · cases hb
    · cases hb⟩
theorem yl_enum {ca : CA} {F : Hp} {l : Addr} {vs : List V} {xs : List D} (h : SqL X.K F l vs) (r : Reps X.K ca F xs vs) : Yl X.K ca (Ite X.K l) F (enumL xs) where
  go := fun i H s hi => by
    unfold enumL at hi
    rw [List.length_map, List.length_zipIdx] at hi
    exact ⟨vs, vs[i]'(by rw [← r.length]; exact hi), s.seq h, List.getElem?_eq_getElem _⟩
  stop := fun i H s hi => by
    unfold enumL at hi
    rw [List.length_map, List.length_zipIdx] at hi
    exact ⟨vs, s.seq h, by rw [← r.length]; exact hi⟩
  yld := fun i H v H' Fc s1 s2 ⟨T, x, ev, hT, eH, q⟩ d hd => by
    subst ev
    subst eH
    unfold enumL at hd
    rw [List.getElem?_map, List.getElem?_zipIdx] at hd
    cases e : xs[i]? with
    | none => rw [e] at hd; cases hd
    | some y =>
      rw [e] at hd
      cases hd
      obtain ⟨u, h1, h2⟩ := r.get e
      have := q vs (Same.seq s2 (s1.seq h))
      rw [h1] at this
      cases this
      have hF : Fc T = none := s2.free hT
      have e0 : (0 : Nat) + i = i := by omega
      refine ⟨upd Fc T (.tup [.int (i : Nat), x]), .new s2 hT, .tup (.of upd_same) ?_⟩
      simp only [e0]
      exact .cons (.int _) (.one ((h2.mono s1).mono (same_upd hF)))
theorem ei_enum {elts : List Expr} {kk : Nat} {tpos : Pos} (hm : X.mg "enumerate" = none) (ha : PA X [a] (tA X.K C own fs)) (hg : Gl X "enumerate" := by rfl) (hs : starEach [a] X.env = [(false, eval a X.env)] := by rfl) : PI X (.Tuple elts kk tpos) (.Call (.Name "enumerate" p) [a] [] pos) (tI X.K C own (iArg enumD fs)) :=
  pi_imp (pi_enum hg hm ha hs) fun σ H R ⟨env, F, hR, q⟩ => ⟨env, F, hR, (bindL enumD_ne q).imp fun ds e F1 H1 hR1 s1 ⟨xs, hb, hk⟩ vs r => by
    unfold enumD at hb
    split at hb
    · cases hb
      cases r with
      | cons r rs =>
        cases rs
        cases r with
        | lst hq rs => exact ⟨_, _, rfl, SqL.of (hR1.q.sub _ _ hq), hk _ (yl_enum (SqL.of hq) rs)⟩
    · cases hb⟩
theorem yl_zip {ca : CA} {F : Hp} {l m : Addr} {vs ws : List V} {xs ys : List D} (h : SqL X.K F l vs) (r : Reps X.K ca F xs vs) (h' : SqL X.K F m ws) (r' : Reps X.K ca F ys ws) : Yl X.K ca (Itz X.K l m) F ((xs.zip ys).map fun p => .tup [p.1, p.2]) where
  go := fun i H s hi => by
    rw [List.length_map, List.length_zip] at hi
    have h1 := r.length
    have h2 := r'.length
    exact ⟨vs, ws, vs[i]'(by omega), ws[i]'(by omega), s.seq h, s.seq h', List.getElem?_eq_getElem _, List.getElem?_eq_getElem _⟩
  stop := fun i H s hi => by
    rw [List.length_map, List.length_zip] at hi
    have h1 := r.length
    have h2 := r'.length
    exact ⟨vs, ws, s.seq h, s.seq h', by omega⟩
  yld := fun i H v H' Fc s1 s2 hy d hd => by
    obtain ⟨T, x, y, ev, hT, eH, q, q'⟩ := hy
    subst ev
    subst eH
    rw [List.getElem?_map] at hd
    cases e : (xs.zip ys)[i]? with
    | none => rw [e] at hd; cases hd
    | some pr =>
      rw [e] at hd
      cases hd
      obtain ⟨e1, e2⟩ := List.getElem?_zip_eq_some.mp e
      obtain ⟨u, h1, h2⟩ := r.get e1
      obtain ⟨u', h1', h2'⟩ := r'.get e2
      have a1 := q vs (Same.seq s2 (s1.seq h))
      rw [h1] at a1
      cases a1
      have a2 := q' ws (Same.seq s2 (s1.seq h'))
      rw [h1'] at a2
      cases a2
      have hF : Fc T = none := s2.free hT
      exact ⟨upd Fc T (.tup [x, y]), .new s2 hT, .tup (.of upd_same) (.cons ((h2.mono s1).mono (same_upd hF)) (.one ((h2'.mono s1).mono (same_upd hF))))⟩
theorem ei_zip {elts : List Expr} {kk : Nat} {tpos : Pos} (hm : X.mg "zip" = none) (ha : PA X [a, b] (tA X.K C own fs)) (hg : Gl X "zip" := by rfl) (hs : starEach [a, b] X.env = (false, eval a X.env) :: starEach [b] X.env := by rfl) (hs2 : ((backTo pos (starEach [b] X.env)).any (·.1)) = false := by rfl) :
    PI X (.Tuple elts kk tpos) (.Call (.Name "zip" p) [a, b] [] pos) (tI X.K C own (iArg zipD fs)) :=
  pi_imp (pi_zip hg hm ha hs hs2) fun σ H R ⟨env, F, hR, q⟩ => ⟨env, F, hR, (bindL zipD_ne q).imp fun ds e F1 H1 hR1 s1 ⟨xs, hb, hk⟩ vs r => by
    unfold zipD at hb
    split at hb
    · cases hb
      cases r with
      | cons r rs =>
        cases rs with
        | cons r' rs =>
          cases rs
          cases r with
          | lst hq rs =>
            cases r' with
            | lst hq' rs' => exact ⟨_, _, _, _, rfl, SqL.of (hR1.q.sub _ _ hq), SqL.of (hR1.q.sub _ _ hq'), hk _ (yl_zip (SqL.of hq) rs (SqL.of hq') rs')⟩
    · cases hb⟩
end

/-! ### for -/
def forS (b : BF) (g : SF) : List D → En → SR
  | [], e => .nx e
  | x :: xs, e => (b x e).toS fun e1 => match g e1 with
    | .nx e2 => forS b g xs e2
    | .ct e2 => forS b g xs e2
    | .bk e2 => .nx e2
    | .rt d e2 => .rt d e2
    | .ex c fs => .ex c fs
    | .no => .no
def forStm (f : AF) (b : BF) (g : SF) : SF := fun env => (f env).toS fun p => forS b g p.1 p.2
section
variable {X : Cx} {C : Cd} {own ol ts : List Nat} {tg iter c : Expr} {body : List Stmt} {fs : AF} {ft : TF} {b : BF} {g : SF} {pos : Pos}
theorem sv_for (hp : PassesOwn (model X.prog X.w) X.A X.env X.xe) (hc : X.calm = true) (hi : PI X tg iter (tI X.K C own fs)) (hg : PG X tg (tG X.K C own ts b)) (hne : ∀ d e c fs, b d e ≠ .ex c fs) (hb : PSs X body (tS X.K C own own own g))
    (hs : ∀ x, foldedSetIterable iter X.env x = pure x := by intro _; rfl) : PS X (.For tg iter body [] pos) (tS X.K C own own ol (forStm fs b g)) :=
  ps_imp (ps_for hp hc hi hg hb hs) fun Dn σ H ⟨env, F, hR, h⟩ => ⟨env, F, hR, by
    have h' : Sst X.K C own ol ((fs env).toS fun p => forS b g p.1 p.2) F Dn := h
    refine h'.bind.imp fun xs e1 F1 H1 hR1 s1 h1 J hy => ?_
    refine ⟨fun i m σ' H' => m = xs.length - i ∧ i ≤ xs.length ∧ ∃ e F', RE X.K C.ca C.B own e σ' F' H' ∧ Same F1 F' ∧ Sst X.K C own ol (forS b g (xs.drop i) e) F' Dn, ⟨_, rfl, Nat.zero_le _, e1, F1, hR1, Same.refl _, by rw [List.drop_zero]; exact h1⟩, ?_⟩
    rintro i m σ' H' ⟨rfl, hi, e, F', hR', s', h2⟩
    by_cases hlt : i < xs.length
    · refine .inr ⟨hy.go i H' (s'.trans hR'.q.sub) hlt, fun σ2 H2 => ∃ e F2, RE X.K C.ca C.B own e σ2 F2 H2 ∧ Same F1 F2 ∧ Sst X.K C own ol (forS b g (xs.drop (i + 1)) e) F2 Dn, fun σ2 H2 ⟨e2, F2, q1, q2, q3⟩ => ⟨_, by omega, rfl, hlt, e2, F2, q1, q2, q3⟩, fun x H2 hx => ?_⟩
      have hd : xs[i]? = some xs[i] := List.getElem?_eq_getElem hlt
      obtain ⟨F2, st, r⟩ := hy.yld i H' x H2 F' s' hR'.q.sub hx _ hd
      rw [List.drop_eq_getElem_cons hlt] at h2
      unfold forS at h2
      cases eb : b xs[i] e with
      | ex c fs => exact absurd eb (hne _ _ _ _)
      | no => rw [eb] at h2; exact h2.elim
      | ok e2 =>
        rw [eb] at h2
        refine ⟨e, F2, _, e2, hR'.step st, r, eb, fun σ3 hR3 _ => ⟨e2, F2, hR3, ?_⟩⟩
        have h3 := h2.later st.sF
        dsimp only [R.toS_ok] at h3
        cases eg : g e2 with
        | nx e3 => rw [eg] at h3; exact fun σ4 F4 H4 hR4 s4 => ⟨e3, F4, hR4, (s'.trans st.sF).trans s4, h3.later s4⟩
        | ct e3 => rw [eg] at h3; exact fun σ4 F4 H4 hR4 s4 => ⟨e3, F4, hR4, (s'.trans st.sF).trans s4, h3.later s4⟩
        | bk e3 => rw [eg] at h3; exact h3
        | rt d e3 => rw [eg] at h3; exact h3
        | ex c fs => rw [eg] at h3; exact h3
        | no => rw [eg] at h3; exact h3
    · have e0 : i = xs.length := by omega
      rw [e0, List.drop_length] at h2
      exact .inl ⟨hy.stop i H' (s'.trans hR'.q.sub) (by omega), h2 σ' F' H' hR' (Same.refl _)⟩⟩
end

/-! ### while: at most n turns -/
def whS (t : TF) (g : SF) : Nat → En → SR
  | 0, _ => .no
  | n + 1, e => (t e).toS fun p => if p.1 = true then (match g p.2 with
    | .nx e2 => whS t g n e2
    | .ct e2 => whS t g n e2
    | .bk e2 => .nx e2
    | .rt d e2 => .rt d e2
    | .ex c fs => .ex c fs
    | .no => .no) else .nx p.2
section
variable {X : Cx} {C : Cd} {own ol : List Nat} {c : Expr} {body : List Stmt} {ft : TF} {g : SF} {pos : Pos}
theorem sv_while (n : Nat) (hp : PassesOwn (model X.prog X.w) X.A X.env X.xe) (hc : PT X c (tT X.K C own ft)) (hb : PSs X body (tS X.K C own own own g)) : PS X (.While c body [] pos) (tS X.K C own own ol (whS ft g n)) :=
  ps_imp (ps_while hp hc hb) fun Dn σ H ⟨env, F, hR, h⟩ => by
    refine ⟨fun m σ' H' => ∃ e F', RE X.K C.ca C.B own e σ' F' H' ∧ Same F F' ∧ Sst X.K C own ol (whS ft g m e) F' Dn, ⟨n, env, F, hR, Same.refl _, h⟩, ?_⟩
    rintro m σ' H' ⟨e, F', hR', s', h2⟩
    cases m with
    | zero => exact h2.elim
    | succ m =>
      refine ⟨e, F', hR', (Sst.bind (show Sst X.K C own ol ((ft e).toS fun p => _) F' Dn from h2)).imp fun k e1 F1 H1 hR1 s1 h3 => ?_⟩
      cases k with
      | false => exact h3 σ' F1 H1 hR1 (Same.refl _)
      | true =>
        dsimp only at h3
        refine ⟨fun σ2 H2 => ∃ e F2, RE X.K C.ca C.B own e σ2 F2 H2 ∧ Same F F2 ∧ Sst X.K C own ol (whS ft g m e) F2 Dn, fun σ2 H2 q => ⟨m, Nat.lt_succ_self m, q⟩, e1, F1, hR1, ?_⟩
        rw [if_pos rfl] at h3
        cases eg : g e1 with
        | nx e3 => rw [eg] at h3; exact fun σ4 F4 H4 hR4 s4 => ⟨e3, F4, hR4, (s'.trans s1).trans s4, h3.later s4⟩
        | ct e3 => rw [eg] at h3; exact fun σ4 F4 H4 hR4 s4 => ⟨e3, F4, hR4, (s'.trans s1).trans s4, h3.later s4⟩
        | bk e3 => rw [eg] at h3; exact h3
        | rt d e3 => rw [eg] at h3; exact h3
        | ex c fs => rw [eg] at h3; exact h3
        | no => rw [eg] at h3; exact h3
end
end Dl

namespace Dl
open PySem PySem.Spec PyProof.Rows L2

section
variable {K : PySem.W.Frag} {ca : CA} {B : Bs} {own : List Nat} {env env' : En} {σ : L2.St} {F F' H H' : Hp} {p : Addr} {o o' : HO} {d : D}
theorem Bq.fresh (h : Bq ca B F H) (hp : H p = none) : B.H p = none ∧ B.m ≠ some p ∧ B.F p = none := by
  have m : B.m ≠ some p := fun z => (h.mp p z).1 hp
  refine ⟨?_, m, h.sF.free (h.sub.free hp)⟩
  cases e : B.H p with
  | none => rfl
  | some u => exact absurd hp (h.kt p (by rw [e]; exact fun z => nomatch z))
/-- a new object at p, of one's own, in no slot -/
structure Fsh (K : PySem.W.Frag) (ca : CA) (B : Bs) (own : List Nat) (env : En) (σ : L2.St) (F H : Hp) (d : D) (p : Addr) : Prop where
  o : OwO K ca F H d p
  f : F p = none
  b : B.H p = none
  m : B.m ≠ some p
  dis : ∀ j e, j ∈ own → env[j]? = some (some e) → σ[j]? ≠ some (some (.ref p))
theorem Fsh.ow (h : Fsh K ca B own env σ F H d p) : Ow K ca B F H d p := ⟨h.o, h.f, .inl h.b⟩
theorem RE.lay (h : RE K ca B own env σ F H) (hp : H p = none) : RE K ca B own env σ F (upd H p o) ∧ F p = none ∧ B.H p = none ∧ B.m ≠ some p ∧ ∀ j e, j ∈ own → env[j]? = some (some e) → σ[j]? ≠ some (some (.ref p)) := by
  have hF := h.q.sub.free hp
  obtain ⟨b, m, _⟩ := h.q.fresh hp
  refine ⟨h.step ⟨fun q u e => by rw [upd_ne (ne_of_none (h.q.sub _ _ e) hp)]; exact h.q.sub _ _ e, Same.refl _, same_upd hp, fun q hq => .inl hq, fun _ _ z => z⟩, hF, b, m, fun j e hj he z => ?_⟩
  obtain ⟨q, h1, O⟩ := h.ow j e hj he
  rw [h1] at z
  cases z
  exact O.o.there hp
/-- it is laid down -/
theorem RE.ice (h : RE K ca B own env σ F H) (z : Fsh K ca B own env σ F H d p) : ∃ F', Same F F' ∧ RE K ca B own env σ F' H ∧ Rep K ca F' d (.ref p) := by
  obtain ⟨o, ho, nto, r⟩ := z.o.rep z.f
  have sF : Same F (upd F p o) := same_upd z.f
  refine ⟨_, sF, ⟨⟨fun q u e => ?_, h.q.sF.trans sF, h.q.sH, fun q hq => ?_, fun q hq => ⟨(h.q.mp q hq).1, ?_⟩, h.q.kt, h.q.tb, fun q ps hq => ?_⟩, h.len, fun j e n q => ?_, fun j e m q => ?_, h.ne, h.mt, h.lm⟩, r⟩
  · by_cases hb : q = p
    · subst hb; rw [upd_same] at e; cases e; exact ho
    · rw [upd_ne hb] at e; exact h.q.sub q u e
  · by_cases hb : q = p
    · subst hb; exact .inr z.b
    · rw [upd_ne hb] at hq; exact h.q.nw q hq
  · have hb : q ≠ p := fun w => z.m (by rw [← w]; exact hq)
    rw [upd_ne hb]; exact (h.q.mp q hq).2
  · by_cases hb : q = p
    · subst hb; rw [upd_same] at hq; exact nto ps (Option.some.inj hq)
    · rw [upd_ne hb] at hq; exact h.q.nt q ps hq
  · obtain ⟨v, h1, h2⟩ := h.fr j e n q
    exact ⟨v, h1, h2.mono sF⟩
  · obtain ⟨r, h1, O⟩ := h.ow j e m q
    have hb : r ≠ p := fun w => z.dis j e m q (w ▸ h1)
    exact ⟨r, h1, O.o.mono sF, by rw [upd_ne hb]; exact O.f, O.b⟩
abbrev Bs.at (B : Bs) (p : Addr) (o : HO) : Bs := { B with H := upd B.H p o }
structure At (B : Bs) (p : Addr) : Prop where
  b : B.H p = none
  m : B.m ≠ some p
  f : B.F p = none
theorem RE.base' {vs : List V} (h' : RE K ca B own env σ F H) (hF : F p = none) (a : At B p) (dis : ∀ j e, j ∈ own → env[j]? = some (some e) → σ[j]? ≠ some (some (.ref p))) (hp : H p = none ∨ ∃ vs, H p = some (.lst vs)) : RE K ca (B.at p (.lst vs)) own env σ F (upd H p (.lst vs)) := by
  have ntb : ∀ ps, H p ≠ some (.tbl ps) := fun ps z => by
    rcases hp with w | ⟨_, w⟩ <;> rw [w] at z <;> cases z
  have ncd : ∀ {q : Addr} {n : Str}, H q = some (LamX.CodeO q n) → q ≠ p := fun {q n} z e => by
    subst e
    unfold LamX.CodeO at z
    rcases hp with w | ⟨_, w⟩ <;> rw [w] at z <;> cases z
  have kp : ∀ q u, F q = some u → q ≠ p := fun q u e z => by rw [z, hF] at e; cases e
  refine ⟨⟨fun q u e => by rw [upd_ne (kp q u e)]; exact h'.q.sub q u e, h'.q.sF, fun q u e n t => ?_, fun q hq => ?_, fun q hq => ⟨?_, (h'.q.mp q hq).2⟩, fun q hq => ?_, fun pr hpr => ?_, h'.q.nt⟩, h'.len, h'.fr, fun j e hj he => ?_, h'.ne, h'.mt, fun q hq => ?_⟩
  · by_cases hb : q = p
    · subst hb; have e : upd B.H q (.lst vs) q = some u := e; rw [upd_same] at e ⊢; exact e
    · have e : upd B.H p (.lst vs) q = some u := e
      rw [upd_ne hb] at e ⊢
      exact h'.q.sH q u e n t
  · have hb : q ≠ p := fun w => hq (w ▸ hF)
    rcases h'.q.nw q hq with z | z
    · exact .inl z
    · exact .inr (by show upd B.H p (.lst vs) q = none; rw [upd_ne hb]; exact z)
  · have hb : q ≠ p := fun w => a.m (by rw [← w]; exact hq)
    rw [upd_ne hb]; exact (h'.q.mp q hq).1
  · by_cases hb : q = p
    · subst hb; rw [upd_same]; exact fun z => nomatch z
    · have hq : upd B.H p (.lst vs) q ≠ none := hq
      rw [upd_ne hb] at hq ⊢
      exact h'.q.kt q hq
  · obtain ⟨ps, t1, t2, t3⟩ := h'.q.tb pr hpr
    have hb : pr.1 ≠ p := fun z => ntb ps (z ▸ t1)
    refine ⟨ps, by rw [upd_ne hb]; exact t1, t2, fun pos cv hc => ?_⟩
    obtain ⟨c, e1, e2⟩ := t3 pos cv hc
    exact ⟨c, e1, by rw [upd_ne (ncd e2)]; exact e2⟩
  · obtain ⟨r, h1, O⟩ := h'.ow j e hj he
    have hb : r ≠ p := fun w => dis j e hj he (w ▸ h1)
    refine ⟨r, h1, O.o.move (fun u e => by rw [upd_ne hb]; exact e) (Same.refl _), O.f, ?_⟩
    rcases O.b with z | z
    · exact .inl (by show upd B.H p (.lst vs) r = none; rw [upd_ne hb]; exact z)
    · exact .inr z
  · obtain ⟨l0, l1, l2⟩ := h'.lm q hq
    exact ⟨l0, l1, by rw [upd_ne (ncd l2)]; exact l2⟩
theorem RE.base {vs : List V} (h : RE K ca B own env σ F H) (hp : H p = none) : RE K ca (B.at p (.lst vs)) own env σ F (upd H p (.lst vs)) := by
  obtain ⟨h', hF, b, m, dis⟩ := h.lay (o := .lst vs) hp
  exact h.base' hF ⟨b, m, (h.q.fresh hp).2.2⟩ dis (.inl hp)
theorem RE.unbase {vs : List V} (h : RE K ca (B.at p (.lst vs)) own env σ F H) (a : At B p) : RE K ca B own env σ F H ∧ H p = some (.lst vs) ∧ F p = none ∧ ∀ j e, j ∈ own → env[j]? = some (some e) → σ[j]? ≠ some (some (.ref p)) := by
  have hp : H p = some (.lst vs) := h.q.sH p (.lst vs) (by show upd B.H p (.lst vs) p = some (.lst vs); rw [upd_same]) a.m (fun _ z => nomatch z)
  have hF : F p = none := by
    cases e : F p with
    | none => rfl
    | some u =>
      rcases h.q.nw p (by rw [e]; exact fun z => nomatch z) with z | z
      · exact absurd a.f z
      · have z : upd B.H p (.lst vs) p = none := z
        rw [upd_same] at z; cases z
  have up : ∀ q, upd B.H p (.lst vs) q = none → B.H q = none := fun q z => by
    by_cases hb : q = p
    · rw [hb, upd_same] at z; cases z
    · rw [upd_ne hb] at z; exact z
  refine ⟨⟨⟨h.q.sub, h.q.sF, fun q u e n t => ?_, fun q hq => ?_, h.q.mp, fun q hq => ?_, h.q.tb, h.q.nt⟩, h.len, h.fr, fun j e hj he => ?_, h.ne, h.mt, h.lm⟩, hp, hF, fun j e hj he z => ?_⟩
  · have hb : q ≠ p := fun w => by rw [w, a.b] at e; cases e
    exact h.q.sH q u (by show upd B.H p (.lst vs) q = some u; rw [upd_ne hb]; exact e) n t
  · rcases h.q.nw q hq with z | z
    · exact .inl z
    · exact .inr (up q z)
  · exact h.q.kt q fun z => hq (up q z)
  · obtain ⟨r, h1, O⟩ := h.ow j e hj he
    refine ⟨r, h1, O.o, O.f, ?_⟩
    rcases O.b with z | z
    · exact .inl (up r z)
    · exact .inr z
  · obtain ⟨r, h1, O⟩ := h.ow j e hj he
    rw [h1] at z
    cases z
    rcases O.b with z | z
    · have z : upd B.H p (.lst vs) p = none := z
      rw [upd_same] at z; cases z
    · exact a.m z
theorem RE.unset {i : Nat} (h : RE K ca B own env σ F H) (hi : i ∉ own) (h0 : i ≠ 0) : RE K ca B own (env.set i none) (σ.set i none) F H := by
  have get : ∀ {j e}, (env.set i (none : Option D))[j]? = some (some e) → j ≠ i ∧ env[j]? = some (some e) := fun {j e} q => by
    by_cases hj : j = i
    · subst hj
      by_cases hl : j < env.length
      · rw [List.getElem?_set_self hl] at q; cases q
      · rw [List.getElem?_eq_none (by rw [List.length_set]; omega)] at q; cases q
    · rw [List.getElem?_set_ne (Ne.symm hj)] at q
      exact ⟨hj, q⟩
  have kp : ∀ j, j ≠ i → (σ.set i none)[j]? = σ[j]? := fun j hj => List.getElem?_set_ne (Ne.symm hj)
  have ki : ∀ j, j ∈ own → j ≠ i := fun j hj z => hi (z ▸ hj)
  refine ⟨h.q, by rw [List.length_set, List.length_set]; exact h.len, fun j e n q => ?_, fun j e m q => ?_, fun j k q e e' a b n e1 e2 s1 s2 => ?_, fun q hq => ?_, fun q hq => ?_⟩
  · obtain ⟨hj, q⟩ := get q
    rw [kp j hj]
    exact h.fr j e n q
  · obtain ⟨hj, q⟩ := get q
    rw [kp j hj]
    exact h.ow j e m q
  · obtain ⟨hj, e1⟩ := get e1
    obtain ⟨hk, e2⟩ := get e2
    rw [kp j hj] at s1
    rw [kp k hk] at s2
    exact h.ne j k q e e' a b n e1 e2 s1 s2
  · obtain ⟨m0, m1, d0, m2⟩ := h.mt q hq
    exact ⟨m0, by rw [kp 0 (ki 0 m0)]; exact m1, d0, by rw [List.getElem?_set_ne (Ne.symm (ki 0 m0))]; exact m2⟩
  · obtain ⟨l0, l1, l2⟩ := h.lm q hq
    exact ⟨by rw [List.getElem?_set_ne h0]; exact l0, by rw [kp 0 (Ne.symm h0)]; exact l1, l2⟩
def wipeE (env : En) : List Nat → En
  | [] => env
  | v :: vs => (wipeE env vs).set v none
theorem RE.wiped {vs : List Nat} (h : RE K ca B own env σ F H) (hv : ∀ i ∈ vs, i ∉ own) (h0 : ∀ i ∈ vs, i ≠ 0) : RE K ca B own (wipeE env vs) (wipe σ vs) F H := by
  induction vs with
  | nil => exact h
  | cons v vs ih => exact (ih (fun i hi => hv i (List.mem_cons_of_mem _ hi)) (fun i hi => h0 i (List.mem_cons_of_mem _ hi))).unset (hv v List.mem_cons_self) (h0 v List.mem_cons_self)
/-- the slots vs as they were -/
def backE (env0 env : En) : List Nat → En
  | [] => env
  | v :: vs => match env0[v]? with
    | some o => (backE env0 env vs).set v o
    | none => backE env0 env vs
theorem backE_len {env0 env : En} : ∀ {vs : List Nat}, (backE env0 env vs).length = env.length
  | [] => rfl
  | v :: vs => by
    unfold backE
    cases env0[v]? with
    | none => exact backE_len
    | some o => rw [List.length_set]; exact backE_len
theorem backE_out {env0 env : En} {j : Nat} : ∀ {vs : List Nat}, j ∉ vs → (backE env0 env vs)[j]? = env[j]?
  | [], _ => rfl
  | v :: vs, h => by
    have h1 : j ≠ v := fun z => h (z ▸ List.mem_cons_self)
    have h2 : j ∉ vs := fun z => h (List.mem_cons_of_mem _ z)
    unfold backE
    cases env0[v]? with
    | none => exact backE_out h2
    | some o =>
      show ((backE env0 env vs).set v o)[j]? = _
      rw [List.getElem?_set_ne (Ne.symm h1)]; exact backE_out h2
theorem backE_in {env0 env : En} {j : Nat} (hl : env0.length = env.length) : ∀ {vs : List Nat}, j ∈ vs → (backE env0 env vs)[j]? = env0[j]?
  | v :: vs, h => by
    unfold backE
    by_cases hj : j = v
    · subst hj
      cases e : env0[j]? with
      | none =>
        show (backE env0 env vs)[j]? = none
        exact List.getElem?_eq_none (by rw [backE_len, ← hl]; exact List.getElem?_eq_none_iff.mp e)
      | some o =>
        show ((backE env0 env vs).set j o)[j]? = some o
        exact List.getElem?_set_self (by rw [backE_len, ← hl]; exact (List.getElem?_eq_some_iff.mp e).1)
    · have h2 : j ∈ vs := (List.mem_cons.mp h).resolve_left hj
      cases env0[v]? with
      | none => exact backE_in hl h2
      | some o =>
        show ((backE env0 env vs).set v o)[j]? = _
        rw [List.getElem?_set_ne (Ne.symm hj)]; exact backE_in hl h2
theorem RE.back {vs : List Nat} {env0 : En} {F0 H0 : Hp} (h0 : RE K ca B own env0 σ F0 H0) (s : Same F0 F) (h : RE K ca B own env (wipe σ vs) F H) (hv : ∀ i ∈ vs, i ∉ own) (hv0 : ∀ i ∈ vs, i ≠ 0) : RE K ca B own (backE env0 env vs) σ F H := by
  have hl : env0.length = env.length := by rw [← h0.len, ← h.len, wipe_length]
  have out : ∀ j, j ∉ vs → (wipe σ vs)[j]? = σ[j]? := fun j hj => wipe_out hj
  refine ⟨h.q, by rw [backE_len, ← h.len, wipe_length], fun j e n q => ?_, fun j e m q => ?_, fun j k q e e' a b n e1 e2 s1 s2 => ?_, fun q hq => ?_, fun q hq => ?_⟩
  · by_cases hj : j ∈ vs
    · rw [backE_in hl hj] at q
      obtain ⟨v, h1, h2⟩ := h0.fr j e n q
      exact ⟨v, h1, h2.mono s⟩
    · rw [backE_out hj] at q
      rw [← out j hj]
      exact h.fr j e n q
  · have hj : j ∉ vs := fun z => hv j z m
    rw [backE_out hj] at q
    rw [← out j hj]
    exact h.ow j e m q
  · have hj : j ∉ vs := fun z => hv j z a
    have hk : k ∉ vs := fun z => hv k z b
    rw [backE_out hj] at e1
    rw [backE_out hk] at e2
    rw [← out j hj] at s1
    rw [← out k hk] at s2
    exact h.ne j k q e e' a b n e1 e2 s1 s2
  · obtain ⟨m0, m1, d0, m2⟩ := h.mt q hq
    have hj : 0 ∉ vs := fun z => hv 0 z m0
    exact ⟨m0, by rw [← out 0 hj]; exact m1, d0, by rw [backE_out hj]; exact m2⟩
  · obtain ⟨l0, l1, l2⟩ := h.lm q hq
    have hj : 0 ∉ vs := fun z => hv0 0 z rfl
    exact ⟨by rw [backE_out hj]; exact l0, by rw [← out 0 hj]; exact l1, l2⟩
theorem wipe_eq {σ σ' : L2.St} {vs : List Nat} (hl : σ'.length = σ.length) (h : ∀ j, j ∉ vs → σ'[j]? = σ[j]?) : wipe σ' vs = wipe σ vs := by
  apply List.ext_getElem?
  intro j
  by_cases hj : j ∈ vs
  · have hh : ∀ τ : L2.St, (wipe τ vs)[j]? = if j < τ.length then some none else none := fun τ => by
      by_cases hlt : j < τ.length
      · rw [if_pos hlt]
        cases e : (wipe τ vs)[j]? with
        | none => rw [List.getElem?_eq_none_iff, wipe_length] at e; omega
        | some ov =>
          cases ov with
          | none => rfl
          | some v => exact absurd hj (wipe_some e).2
      · rw [if_neg hlt]
        exact List.getElem?_eq_none (by rw [wipe_length]; omega)
    rw [hh, hh, hl]
  · rw [wipe_out hj, wipe_out hj, h j hj]
end

/-! ### a value that is a new object of one's own -/
def tN (K : PySem.W.Frag) (C : Cd) (own : List Nat) (f : EF) : TE := fun σ H Q => ∃ env F, RE K C.ca C.B own env σ F H ∧ Pst K C own (f env) σ F fun d e F' H' => ∀ p, Fsh K C.ca C.B own e σ F' H' d p → Q (.ref p) H'
section
variable {X : Cx} {C : Cd} {own own' ol : List Nat} {a : Expr} {es : List Expr} {fa : EF} {fs : AF} {pos : Pos}
theorem ev_ice (h : PE X a (tN X.K C own fa)) : PE X a (tE X.K C own fa) :=
  pe_imp h fun σ H Q ⟨env, F, hR, q⟩ => ⟨env, F, hR, by
    cases e : fa env with
    | ok p =>
      rw [e] at q
      intro F' H' hR' s p' z
      obtain ⟨F2, s2, hR2, r⟩ := hR'.ice z
      exact q F2 H' hR2 (s.trans s2) _ r
    | ex c fs => rw [e] at q; exact q
    | no => rw [e] at q; exact q⟩
/-- name = a new object of one's own -/
theorem sv_asgN {i : Nat} {x : Str} {pos' : Pos} (hN : X.N.Nodup) (he : PE X a (tN X.K C own fa)) (hm : i ≠ 0 ∨ C.B.free0) (ho : i :: own.filter (fun j => j != i) = own' := by rfl) (hi : X.N[i]? = some x := by rfl) (hx : Loc X.env.scope x := by first | exact Or.inl rfl | exact Or.inr rfl)
    (hs : swapsWith a (some (.Name x pos')) pos.line X.env = pure false := by rfl) (hf : X.fn x = true ∨ X.env.scope.names.lookup x = some .local := by first | exact .inl rfl | exact .inr rfl | assumption) :
    PS X (.Assign [.Name x pos'] a pos) (tS X.K C own own' ol (asgS i fa)) :=
  ps_imp (ps_set hN hi hx he hs hf) fun Dn σ H ⟨env, F, hR, h⟩ => ⟨env, F, hR, (Sst.bind h).imp fun d e1 F1 H1 hR1 s1 h1 p z => h1 _ F1 H1 (hR1.putO z.ow z.dis hm ho) (Same.refl _)⟩
def lenOk (xs : List D) : R (List D) := if xs.length ≤ sizeLine then .ok xs else .no
theorem lenOk_ne : ∀ x c fs, lenOk x ≠ .ex c fs := fun x c fs z => by
  unfold lenOk at z
  split at z <;> cases z
def lstD (xs : List D) : R D := (lenOk xs).bind fun xs => .ok (.lst xs)
def tupD (xs : List D) : R D := (lenOk xs).bind fun xs => .ok (.tup xs)
theorem lstD_ne : ∀ x c fs, lstD x ≠ .ex c fs := fun x c fs z => by
  unfold lstD lenOk at z
  split at z <;> cases z
theorem tupD_ne : ∀ x c fs, tupD x ≠ .ex c fs := fun x c fs z => by
  unfold tupD lenOk at z
  split at z <;> cases z
theorem ev_lst (h : PA X es (tA X.K C own fs)) : PE X (.List es pos) (tN X.K C own (eN lstD fs)) :=
  pe_imp (pe_lst h) fun σ H Q ⟨env, F, hR, q⟩ => ⟨env, F, hR, q.bind.imp fun xs e1 F1 H1 hR1 s1 h1 vs r => by
    obtain ⟨d, hd, h2⟩ := h1.known (lstD_ne xs)
    unfold lstD lenOk at hd
    split at hd
    · rename_i hl
      cases hd
      refine ⟨by rw [← r.length]; exact hl, fun p hp => ?_⟩
      obtain ⟨hR2, hF, b, m, dis⟩ := hR1.lay (o := .lst vs) hp
      exact h2.here hR2 p ⟨⟨vs, upd_same, r⟩, hF, b, m, dis⟩
    · cases hd⟩
theorem ev_tup {k} (h : PA X es (tA X.K C own fs)) : PE X (.Tuple es k pos) (tE X.K C own (eN tupD fs)) :=
  pe_imp (pe_tup h) fun σ H Q ⟨env, F, hR, q⟩ => ⟨env, F, hR, q.bind.imp fun xs e1 F1 H1 hR1 s1 h1 vs r => by
    obtain ⟨d, hd, h2⟩ := h1.known (tupD_ne xs)
    unfold tupD lenOk at hd
    split at hd
    · rename_i hl
      cases hd
      refine ⟨by rw [← r.length]; exact hl, fun p hp => ?_⟩
      have st : Stp F1 H1 (upd F1 p (.tup vs)) (upd H1 p (.tup vs)) := .new hR1.q.sub hp
      exact h2 _ _ (hR1.step st) st.sF _ (.tup (.of upd_same) (r.mono st.sF))
    · cases hd⟩
end

/-! ### comprehensions -/
def R.nox {α : Type} : R α → R α
  | .ok a => .ok a
  | _ => .no
@[simp] theorem R.nox_ok {α : Type} (a : α) : (R.ok a).nox = .ok a := rfl
theorem R.nox_ne {α : Type} {r : R α} {c : Nat} {fs : List (Str × D)} : r.nox ≠ .ex c fs := fun z => by cases r <;> cases z
theorem Pst.nox_ok {K : PySem.W.Frag} {C : Cd} {own : List Nat} {α β : Type} {σ : L2.St} {F : Hp} {r : R (α × En)} {f : α × En → R β} {g : β → R (D × En)} {k : D → En → Hp → Hp → Prop} (h : Pst K C own (((r.bind f).nox).bind g) σ F k) : ∃ p, r = .ok p ∧ Pst K C own ((f p).nox.bind g) σ F k := by
  cases r with
  | ok p => exact ⟨p, rfl, h⟩
  | ex c fs => exact h.elim
  | no => exact h.elim
/-- one clause; t: the tests; at the end all that is made, and the state -/
def lcF (vs : List Nat) (b : BF) (t : TF) (f : EF) : List D → List D → En → R (List D × En)
  | [], acc, e => .ok (acc, e)
  | x :: xs, acc, e => (b x e).bind fun e1 => (t e1).bind fun p => if p.1 = true then (f p.2).bind fun q => if acc.length < sizeLine then lcF vs b t f xs (acc ++ [q.1]) (wipeE q.2 vs) else .no else lcF vs b t f xs acc (wipeE p.2 vs)
def lcE (vs : List Nat) (fi : AF) (b : BF) (t : TF) (f : EF) : EF := fun env => (fi env).bind fun p => (lcF vs b t f p.1 [] (wipeE p.2 vs)).nox.bind fun q => .ok (.lst q.1, backE p.2 q.2 vs)
def tYes1 : TF := fun env => .ok (true, env)
theorem pts_imp {X : Cx} {e : List Expr} {t t' : TT} (h : PTs X e t) (g : ∀ σ H Q, t' σ H Q → t σ H Q) : PTs X e t' := ⟨fun pins s σ H Q I q => h.run pins s σ H Q I (g _ _ _ q)⟩
abbrev Cd.in (C : Cd) (B : Bs) : Cd := ⟨C.ca, B, E0, false⟩
section
variable {X : Cx} {C : Cd} {own ts : List Nat} {tg iter elt c : Expr} {ifs : List Expr} {fi : AF} {b : BF} {ft : TF} {fa : EF} {pos : Pos}
theorem ets_nil : PTs X [] (tT X.K C own tYes1) := pts_imp pts_nil fun σ H Q ⟨env, F, hR, h⟩ => h.here hR
theorem ets_one (h : PT X c (tT X.K C own ft)) : PTs X [c] (tT X.K C own ft) := pts_one h
theorem lc_read {scopeOwn : List (Str × Nat)} {vs : List Nat} (evs : scopeOwn.map (·.2) = vs) (hv : ∀ i ∈ vs, i ∉ own) (hv0 : ∀ i ∈ vs, i ≠ 0) (hts : ∀ i ∈ ts, i ∈ vs) (hne : ∀ d e c fs, b d e ≠ .ex c fs) {σ : L2.St} {H : Hp} {Q : VK}
    (h : tN X.K C own (lcE vs fi b ft fa) σ H Q) :
    tLc (tI X.K C own fi) (fun v σ H Q => ∃ B', (B'.m = C.B.m ∧ B'.l = C.B.l) ∧ tG X.K (C.in B') own ts b v σ H Q) (fun σ H Q => ∃ B', (B'.m = C.B.m ∧ B'.l = C.B.l) ∧ tT X.K (C.in B') own ft σ H Q) (fun σ H Q => ∃ B', (B'.m = C.B.m ∧ B'.l = C.B.l) ∧ tE X.K (C.in B') own fa σ H Q) (scopeOwn.map (·.2)) σ H Q := by
  rw [evs]
  obtain ⟨env, F, hR, h⟩ := h
  refine ⟨env, F, hR, h.bind.imp fun xs e1 F1 H1 hR1 s1 h1 J hy Da hD => ?_⟩
  obtain ⟨bD, mD, fD⟩ := hR1.q.fresh hD
  have at_ : At C.B Da := ⟨bD, mD, fD⟩
  have h1 : Pst X.K C own ((lcF vs b ft fa xs [] (wipeE e1 vs)).nox.bind fun q => .ok (.lst q.1, backE e1 q.2 vs)) σ F1 fun d e F' H' => ∀ p, Fsh X.K C.ca C.B own e σ F' H' d p → Q (.ref p) H' := h1
  refine ⟨fun i m H' => m = xs.length - i ∧ i ≤ xs.length ∧ ∃ e F' acc avs, RE X.K C.ca (C.B.at Da (.lst avs)) own e (wipe σ vs) F' H' ∧ Same F1 F' ∧ Reps X.K C.ca F' acc avs ∧
    Pst X.K C own ((lcF vs b ft fa (xs.drop i) acc e).nox.bind fun q => .ok (.lst q.1, backE e1 q.2 vs)) σ F' (fun d e F' H' => ∀ p, Fsh X.K C.ca C.B own e σ F' H' d p → Q (.ref p) H'),
    ⟨_, rfl, Nat.zero_le _, wipeE e1 vs, F1, [], [], (hR1.wiped hv hv0).base hD, Same.refl _, .nil, by rw [List.drop_zero]; exact h1⟩, ?_⟩
  rintro i m H' ⟨rfl, hi, e, F', acc, avs, hR', s', ra, h2⟩
  obtain ⟨hU, hDH, hDF, dis⟩ := hR'.unbase at_
  by_cases hlt : i < xs.length
  · -- what the next turn is to reach
    have next : ∀ {e4 : En} {σ4 : L2.St} {F4 H4 : Hp} {acc' : List D} {avs' : List V}, RE X.K C.ca (C.B.at Da (.lst avs')) own e4 σ4 F4 H4 → Same F' F4 → wipe σ4 vs = wipe (wipe σ vs) vs → Reps X.K C.ca F4 acc' avs' →
        Pst X.K C own ((lcF vs b ft fa (xs.drop (i + 1)) acc' (wipeE e4 vs)).nox.bind fun q => .ok (.lst q.1, backE e1 q.2 vs)) σ F4 (fun d e F' H' => ∀ p, Fsh X.K C.ca C.B own e σ F' H' d p → Q (.ref p) H') →
        ∃ e F' acc avs, RE X.K C.ca (C.B.at Da (.lst avs)) own e (wipe σ vs) F' H4 ∧ Same F1 F' ∧ Reps X.K C.ca F' acc avs ∧
          Pst X.K C own ((lcF vs b ft fa (xs.drop (i + 1)) acc e).nox.bind fun q => .ok (.lst q.1, backE e1 q.2 vs)) σ F' (fun d e F' H' => ∀ p, Fsh X.K C.ca C.B own e σ F' H' d p → Q (.ref p) H') := fun hR4 s4 hw ra4 h4 => by
      have ww : wipe (wipe σ vs) vs = wipe σ vs := wipe_eq (wipe_length _ _) fun j hj => wipe_out hj
      have := hR4.wiped hv hv0
      rw [hw, ww] at this
      exact ⟨_, _, _, _, this, s'.trans s4, ra4, h4⟩
    refine .inr ⟨hy.go i H' (s'.trans hR'.q.sub) hlt, fun H4 => ∃ e F' acc avs, RE X.K C.ca (C.B.at Da (.lst avs)) own e (wipe σ vs) F' H4 ∧ Same F1 F' ∧ Reps X.K C.ca F' acc avs ∧
      Pst X.K C own ((lcF vs b ft fa (xs.drop (i + 1)) acc e).nox.bind fun q => .ok (.lst q.1, backE e1 q.2 vs)) σ F' (fun d e F' H' => ∀ p, Fsh X.K C.ca C.B own e σ F' H' d p → Q (.ref p) H'),
      fun H4 q => ⟨_, by omega, rfl, hlt, q⟩, fun x H2 hx => ?_⟩
    have hd : xs[i]? = some xs[i] := List.getElem?_eq_getElem hlt
    obtain ⟨F2, st, r⟩ := hy.yld i H' x H2 F' s' hR'.q.sub hx _ hd
    rw [List.drop_eq_getElem_cons hlt] at h2
    unfold lcF at h2
    have ww : wipe (wipe σ vs) vs = wipe σ vs := wipe_eq (wipe_length _ _) fun j hj => wipe_out hj
    have hRw : RE X.K C.ca (C.B.at Da (.lst avs)) own (wipeE e vs) (wipe σ vs) F' H' := by
      have := hR'.wiped hv hv0
      rw [ww] at this
      exact this
    -- the target
    cases eb : b xs[i] e with
    | ex c fs => exact absurd eb (hne _ _ _ _)
    | no => rw [eb] at h2; exact h2.elim
    | ok e2 =>
      rw [eb] at h2
      refine ⟨C.B.at Da (.lst avs), ⟨rfl, rfl⟩, e, F2, _, e2, hR'.step st, r, eb, fun σ3 hR3 hw3 => ?_⟩
      have hw : wipe σ3 vs = wipe (wipe σ vs) vs := wipe_eq hw3.1 fun j hj => hw3.2 j fun z => hj (hts j z)
      obtain ⟨p, ep, h3⟩ := h2.nox_ok
      refine ⟨hw.trans ww, C.B.at Da (.lst avs), ⟨rfl, rfl⟩, e2, F2, hR3, ?_⟩
      rw [ep]
      intro F3 H3 hR4 s3
      obtain ⟨k, e3⟩ := p
      cases k with
      | false => exact next hR4 (st.sF.trans s3) hw (ra.mono (st.sF.trans s3)) (h3.later (st.sF.trans s3))
      | true =>
        dsimp only at h3
        rw [if_pos rfl] at h3
        obtain ⟨q, eq, h4⟩ := h3.nox_ok
        refine ⟨C.B.at Da (.lst avs), ⟨rfl, rfl⟩, e3, F3, hR4, ?_⟩
        rw [eq]
        intro F4 H4 hR5 s4 y ry
        obtain ⟨hU5, hD5, hF5, dis5⟩ := hR5.unbase at_
        have sA := (st.sF.trans s3).trans s4
        by_cases hl : acc.length < sizeLine
        · rw [if_pos hl] at h4
          exact ⟨avs, hD5, by rw [← ra.length]; exact hl, next (hU5.base' hF5 at_ dis5 (.inr ⟨_, hD5⟩)) sA hw ((ra.mono sA).append (.one ry)) (h4.later sA)⟩
        · rw [if_neg hl] at h4; exact h4.elim
  · have e0 : i = xs.length := by omega
    rw [e0, List.drop_length] at h2
    refine .inl ⟨hy.stop i H' (s'.trans hR'.q.sub) (by omega), ?_⟩
    exact h2 F' H' (hR1.back s' hU hv hv0) (Same.refl _) Da ⟨⟨avs, hDH, ra⟩, hDF, bD, mD, fun j ed hj he => by
      have hjv : j ∉ vs := fun z => hv j z hj
      have := dis j ed hj (by rw [backE_out hjv] at he; exact he)
      rw [wipe_out hjv] at this
      exact this⟩
theorem ev_lc {scope : Scope} {so : List (Str × Nat)} {vs : List Nat} (hc : X.calm = true) (hN : X.N.Nodup) (hi : PI X tg iter (tI X.K C own fi)) (ok : BlkOk X.N X.env.scope scope so)
    (hg : ∀ (B : Bs), B.m = C.B.m ∧ B.l = C.B.l → ∀ (s : Shared) (H : Hp) (Ca : Addr) (cl : List (Str × Addr)) (fp : List Addr), PG (X.blk s H scope (compEnvC scope cl Ca X.env) fp) tg (tG X.K (C.in B) own ts b))
    (ht : ∀ (B : Bs), B.m = C.B.m ∧ B.l = C.B.l → ∀ (s : Shared) (H : Hp) (Ca : Addr) (cl : List (Str × Addr)) (fp : List Addr), PTs (X.blk s H scope (compEnvC scope cl Ca X.env) fp) ifs (tT X.K (C.in B) own ft))
    (he : ∀ (B : Bs), B.m = C.B.m ∧ B.l = C.B.l → ∀ (s : Shared) (H : Hp) (Ca : Addr) (cl : List (Str × Addr)) (fp : List Addr), PE (X.blk s H scope (compEnvC scope cl Ca X.env) fp) elt (tE X.K (C.in B) own fa))
    (hne : ∀ d e c fs, b d e ≠ .ex c fs) (evs : so.map (·.2) = vs := by rfl) (hv : ∀ i ∈ vs, i ∉ own := by decide) (hv0 : ∀ i ∈ vs, i ≠ 0 := by decide) (hts : ∀ i ∈ ts, i ∈ vs := by decide) (hs : ∀ x, foldedSetIterable iter X.env x = pure x := by intro _; rfl) :
    PE X (.ListComp elt [⟨tg, iter, ifs, 0⟩] scope pos) (tN X.K C own (lcE vs fi b ft fa)) :=
  pe_imp (pe_lc hc hN hi ok (g := fun v σ H Q => ∃ B', (B'.m = C.B.m ∧ B'.l = C.B.l) ∧ tG X.K (C.in B') own ts b v σ H Q) (tt := fun σ H Q => ∃ B', (B'.m = C.B.m ∧ B'.l = C.B.l) ∧ tT X.K (C.in B') own ft σ H Q) (te := fun σ H Q => ∃ B', (B'.m = C.B.m ∧ B'.l = C.B.l) ∧ tE X.K (C.in B') own fa σ H Q)
    (fun s H Ca cl fp => ⟨fun pins s' σ H' v u Q I r ⟨B', hm, q⟩ => (hg B' hm s H Ca cl fp).run pins s' σ H' v u Q I r q⟩)
    (fun s H Ca cl fp => ⟨fun pins s' σ H' Q I ⟨B', hm, q⟩ => (ht B' hm s H Ca cl fp).run pins s' σ H' Q I q⟩)
    (fun s H Ca cl fp => ⟨fun pins s' σ H' Q I ⟨B', hm, q⟩ => (he B' hm s H Ca cl fp).run pins s' σ H' Q I q⟩) hs) fun σ H Q h => lc_read evs hv hv0 hts hne h
/-- name = [..] on one line -/
theorem sv_setLc {i : Nat} {y : Str} {py : Pos} {spos : Pos} {own' ol : List Nat} {scope : Scope} {so : List (Str × Nat)} {vs : List Nat} (hc : X.calm = true) (hN : X.N.Nodup) (hsw : swapsWith (.ListComp elt [⟨tg, iter, ifs, 0⟩] scope pos) (some (.Name y py)) spos.line X.env = pure true)
    (hi : PI X tg iter (tI X.K C own fi)) (ok : BlkOk X.N X.env.scope scope so)
    (hg : ∀ (B : Bs), B.m = C.B.m ∧ B.l = C.B.l → ∀ (s : Shared) (H : Hp) (Ca : Addr) (cl : List (Str × Addr)) (fp : List Addr), PG (X.blk s H scope (compEnvC scope cl Ca X.env) fp) tg (tG X.K (C.in B) own ts b))
    (ht : ∀ (B : Bs), B.m = C.B.m ∧ B.l = C.B.l → ∀ (s : Shared) (H : Hp) (Ca : Addr) (cl : List (Str × Addr)) (fp : List Addr), PTs (X.blk s H scope (compEnvC scope cl Ca X.env) fp) ifs (tT X.K (C.in B) own ft))
    (he : ∀ (B : Bs), B.m = C.B.m ∧ B.l = C.B.l → ∀ (s : Shared) (H : Hp) (Ca : Addr) (cl : List (Str × Addr)) (fp : List Addr), PE (X.blk s H scope (compEnvC scope cl Ca X.env) fp) elt (tE X.K (C.in B) own fa))
    (hne : ∀ d e c fs, b d e ≠ .ex c fs) (hm : i ≠ 0 ∨ C.B.free0) (ho : i :: own.filter (fun j => j != i) = own' := by rfl) (hy : X.N[i]? = some y := by rfl) (hyl : X.env.scope.names.lookup y = some .local := by rfl)
    (evs : so.map (·.2) = vs := by rfl) (hv : ∀ i ∈ vs, i ∉ own := by decide) (hv0 : ∀ i ∈ vs, i ≠ 0 := by decide) (hts : ∀ i ∈ ts, i ∈ vs := by decide) (hs : ∀ x, foldedSetIterable iter X.env x = pure x := by intro _; rfl) :
    PS X (.Assign [.Name y py] (.ListComp elt [⟨tg, iter, ifs, 0⟩] scope pos) spos) (tS X.K C own own' ol (asgS i (lcE vs fi b ft fa))) :=
  ps_imp (ps_setLc hc hN hy hyl hsw hi ok (g := fun v σ H Q => ∃ B', (B'.m = C.B.m ∧ B'.l = C.B.l) ∧ tG X.K (C.in B') own ts b v σ H Q) (tt := fun σ H Q => ∃ B', (B'.m = C.B.m ∧ B'.l = C.B.l) ∧ tT X.K (C.in B') own ft σ H Q) (te := fun σ H Q => ∃ B', (B'.m = C.B.m ∧ B'.l = C.B.l) ∧ tE X.K (C.in B') own fa σ H Q)
    (fun s H Ca cl fp => ⟨fun pins s' σ H' v u Q I r ⟨B', hm, q⟩ => (hg B' hm s H Ca cl fp).run pins s' σ H' v u Q I r q⟩)
    (fun s H Ca cl fp => ⟨fun pins s' σ H' Q I ⟨B', hm, q⟩ => (ht B' hm s H Ca cl fp).run pins s' σ H' Q I q⟩)
    (fun s H Ca cl fp => ⟨fun pins s' σ H' Q I ⟨B', hm, q⟩ => (he B' hm s H Ca cl fp).run pins s' σ H' Q I q⟩) hs) fun Dn σ H ⟨env, F, hR, h⟩ =>
    lc_read (Q := fun v H' => gName i v σ H' Dn.nx) evs hv hv0 hts hne ⟨env, F, hR, (Sst.bind h).imp fun d e1 F1 H1 hR1 s1 h1 p z => h1 _ F1 H1 (hR1.putO z.ow z.dis hm ho) (Same.refl _)⟩
/-- the same, the list laid down -/
theorem sv_setLcF {i : Nat} {y : Str} {py : Pos} {spos : Pos} {own' ol : List Nat} {scope : Scope} {so : List (Str × Nat)} {vs : List Nat} (hc : X.calm = true) (hN : X.N.Nodup) (hsw : swapsWith (.ListComp elt [⟨tg, iter, ifs, 0⟩] scope pos) (some (.Name y py)) spos.line X.env = pure true)
    (hi : PI X tg iter (tI X.K C own fi)) (ok : BlkOk X.N X.env.scope scope so)
    (hg : ∀ (B : Bs), B.m = C.B.m ∧ B.l = C.B.l → ∀ (s : Shared) (H : Hp) (Ca : Addr) (cl : List (Str × Addr)) (fp : List Addr), PG (X.blk s H scope (compEnvC scope cl Ca X.env) fp) tg (tG X.K (C.in B) own ts b))
    (ht : ∀ (B : Bs), B.m = C.B.m ∧ B.l = C.B.l → ∀ (s : Shared) (H : Hp) (Ca : Addr) (cl : List (Str × Addr)) (fp : List Addr), PTs (X.blk s H scope (compEnvC scope cl Ca X.env) fp) ifs (tT X.K (C.in B) own ft))
    (he : ∀ (B : Bs), B.m = C.B.m ∧ B.l = C.B.l → ∀ (s : Shared) (H : Hp) (Ca : Addr) (cl : List (Str × Addr)) (fp : List Addr), PE (X.blk s H scope (compEnvC scope cl Ca X.env) fp) elt (tE X.K (C.in B) own fa))
    (hne : ∀ d e c fs, b d e ≠ .ex c fs) (hm : i ≠ 0 ∨ C.B.free0) (ho : own.filter (fun j => j != i) = own' := by rfl) (hy : X.N[i]? = some y := by rfl) (hyl : X.env.scope.names.lookup y = some .local := by rfl)
    (evs : so.map (·.2) = vs := by rfl) (hv : ∀ i ∈ vs, i ∉ own := by decide) (hv0 : ∀ i ∈ vs, i ≠ 0 := by decide) (hts : ∀ i ∈ ts, i ∈ vs := by decide) (hs : ∀ x, foldedSetIterable iter X.env x = pure x := by intro _; rfl) :
    PS X (.Assign [.Name y py] (.ListComp elt [⟨tg, iter, ifs, 0⟩] scope pos) spos) (tS X.K C own own' ol (asgS i (lcE vs fi b ft fa))) :=
  ps_imp (ps_setLc hc hN hy hyl hsw hi ok (g := fun v σ H Q => ∃ B', (B'.m = C.B.m ∧ B'.l = C.B.l) ∧ tG X.K (C.in B') own ts b v σ H Q) (tt := fun σ H Q => ∃ B', (B'.m = C.B.m ∧ B'.l = C.B.l) ∧ tT X.K (C.in B') own ft σ H Q) (te := fun σ H Q => ∃ B', (B'.m = C.B.m ∧ B'.l = C.B.l) ∧ tE X.K (C.in B') own fa σ H Q)
    (fun s H Ca cl fp => ⟨fun pins s' σ H' v u Q I r ⟨B', hm, q⟩ => (hg B' hm s H Ca cl fp).run pins s' σ H' v u Q I r q⟩)
    (fun s H Ca cl fp => ⟨fun pins s' σ H' Q I ⟨B', hm, q⟩ => (ht B' hm s H Ca cl fp).run pins s' σ H' Q I q⟩)
    (fun s H Ca cl fp => ⟨fun pins s' σ H' Q I ⟨B', hm, q⟩ => (he B' hm s H Ca cl fp).run pins s' σ H' Q I q⟩) hs) fun Dn σ H ⟨env, F, hR, h⟩ =>
    lc_read (Q := fun v H' => gName i v σ H' Dn.nx) evs hv hv0 hts hne ⟨env, F, hR, (Sst.bind h).imp fun d e1 F1 H1 hR1 s1 h1 p z => by
      obtain ⟨F2, s2, hR2, r⟩ := hR1.ice z
      exact h1 _ F2 H1 (hR2.put r hm ho) s2⟩
end
end Dl

namespace Dl
open PySem PySem.Spec PyProof.Rows L2

/-! ### what a def is worth -/
/-- what stands ahead of a call -/
structure Pre (ca : CA) (F H : Hp) : Prop where
  sub : Same F H
  tb : LamX.Tabs ca.T H
  nt : ∀ p ps, F p ≠ some (.tbl ps)
theorem Bq.pre {ca : CA} {B : Bs} {F H : Hp} (q : Bq ca B F H) : Pre ca F H := ⟨q.sub, q.tb, q.nt⟩
def spD (K : PySem.W.Frag) (ca : CA) (n : Nat) (f : List D → R D) : Sp := fun vs H Q E => ∃ F ds, Pre ca F H ∧ Reps K ca F ds vs ∧ ds.length = n ∧ match f ds with
  | .ok d => ∀ v F' H', StC ca.T F H F' H' → Rep K ca F' d v → Q v H'
  | .ex c fs => ∀ e o F' H', StC ca.T F H F' H' → XR K ca c fs e o F' → E e o H'
  | .no => False
/-- all but the object at p (and the tables) stays -/
structure StM (T : List (Addr × Str)) (p : Addr) (F H F' H' : Hp) : Prop where
  sub : Same F' H'
  sF : Same F F'
  kp : ∀ q o, H q = some o → q ≠ p → (∀ ps, o ≠ .tbl ps) → H' q = some o
  nw : ∀ q, F' q ≠ none → F q ≠ none ∨ H q = none
  nt : ∀ q ps, F' q = some (.tbl ps) → F q = some (.tbl ps)
  kt : ∀ q, H q ≠ none → H' q ≠ none
  tb : LamX.Tabs T H'
  hF : F' p = none
/-- the first argument is an object of the caller's own, which may be changed -/
def spM (K : PySem.W.Frag) (ca : CA) (n : Nat) (f : List D → R (D × D)) : Sp := fun vs H Q E => ∃ F d0 ds p vs', vs = .ref p :: vs' ∧ Pre ca F H ∧ F p = none ∧ OwO K ca F H d0 p ∧ Reps K ca F ds vs' ∧ ds.length + 1 = n ∧ match f (d0 :: ds) with
  | .ok r => ∀ v F' H', StM ca.T p F H F' H' → OwO K ca F' H' r.2 p → Rep K ca F' r.1 v → Q v H'
  | .ex c fs => ∀ e o F' H', StM ca.T p F H F' H' → XR K ca c fs e o F' → E e o H'
  | .no => False
theorem passA {X : Cx} {E : XK} : Passes CX0 X E := fun _ _ _ _ _ _ _ h => h.elim
/-- what is raised here is taken -/
abbrev PX (X : Cx) (C : Cd) : Prop := Passes (L2.CX X.prog X.w) X C.E
theorem pxF {X : Cx} {C : Cd} {B : Bs} : PX X (C.in B) := passL
theorem pxT {X : Cx} {C : Cd} (tk : Takes X (fun e o _ H => C.E e o H)) : PX X C := passes_call tk fun _ _ _ _ h => h
def callF (n : Nat) (F : List D → R D) (fs : AF) : EF := fun env => (fs env).bind fun p => if p.1.length = n then (F p.1).bind fun d => .ok (d, p.2) else .no
def callM (i n : Nat) (F : List D → R (D × D)) (fs : AF) : EF := fun env => match env[i]? with
  | some (some _) => (fs env).bind fun p => match p.2[i]? with
    | some (some d0) => if p.1.length + 1 = n then (F (d0 :: p.1)).nox.bind fun r => .ok (r.1, p.2.set i (some r.2)) else .no
    | _ => .no
  | _ => .no
theorem RE.called {K : PySem.W.Frag} {ca : CA} {B : Bs} {own : List Nat} {env : En} {σ : L2.St} {F F' H H' : Hp} {i : Nat} {p : Addr} {d0 d' : D} (h : RE K ca B own env σ F H) (hi : i ∈ own) (he : env[i]? = some (some d0)) (hp : σ[i]? = some (some (.ref p)))
    (s : StM ca.T p F H F' H') (O' : OwO K ca F' H' d' p) : RE K ca B own (env.set i (some d')) σ F' H' := by
  obtain ⟨p', hp', O⟩ := h.ow i d0 hi he
  rw [hp] at hp'
  cases hp'
  have keepF : ∀ q, H q ≠ none → F q = none → F' q = none := fun q h1 h2 => by
    cases e : F' q with
    | none => rfl
    | some o =>
      rcases s.nw q (by rw [e]; exact fun z => nomatch z) with z | z
      · exact absurd h2 z
      · exact absurd z h1
  have get : ∀ {j e}, (env.set i (some d'))[j]? = some (some e) → (j = i ∧ e = d') ∨ (j ≠ i ∧ env[j]? = some (some e)) := fun {j e} q => by
    by_cases hj : j = i
    · subst hj
      rw [List.getElem?_set_self (List.getElem?_eq_some_iff.mp he).1] at q
      cases q
      exact .inl ⟨rfl, rfl⟩
    · rw [List.getElem?_set_ne (Ne.symm hj)] at q
      exact .inr ⟨hj, q⟩
  have got : ∀ {j e}, (env.set i (some d'))[j]? = some (some e) → ∃ e0, env[j]? = some (some e0) := fun {j e} q => by
    rcases get q with ⟨rfl, rfl⟩ | ⟨_, z⟩
    · exact ⟨_, he⟩
    · exact ⟨_, z⟩
  refine ⟨⟨s.sub, h.q.sF.trans s.sF, fun q u hq n t => ?_, fun q hq => ?_, fun q hq => ⟨s.kt q (h.q.mp q hq).1, keepF q (h.q.mp q hq).1 (h.q.mp q hq).2⟩, fun q hq => s.kt q (h.q.kt q hq), s.tb, fun q ps hq => h.q.nt q ps (s.nt q ps hq)⟩,
    by rw [List.length_set]; exact h.len, fun j e n q => ?_, fun j e m q => ?_, fun j k q e e' a b n e1 e2 => ?_, fun q hq => ?_, fun q hq => ?_⟩
  · have hb : q ≠ p := fun z => by
      subst z
      rcases O.b with w | w
      · rw [hq] at w; cases w
      · exact n w
    exact s.kp q u (h.q.sH q u hq n t) hb t
  · rcases s.nw q hq with z | z
    · exact h.q.nw q z
    · cases e : B.H q with
      | none => exact .inr rfl
      | some u => exact absurd z (h.q.kt q (by rw [e]; exact fun w => nomatch w))
  · rcases get q with ⟨rfl, rfl⟩ | ⟨hj, q⟩
    · exact absurd hi n
    · obtain ⟨v, h1, h2⟩ := h.fr j e n q
      exact ⟨v, h1, h2.mono s.sF⟩
  · rcases get q with ⟨rfl, rfl⟩ | ⟨hj, q⟩
    · exact ⟨p, hp, O', s.hF, O.b⟩
    · obtain ⟨r, h1, h2⟩ := h.ow j e m q
      have hb : r ≠ p := fun z => h.ne i j p d0 e hi m (Ne.symm hj) he q hp (z ▸ h1)
      exact ⟨r, h1, h2.o.move (fun u e => s.kp _ _ e hb fun ps z => h2.o.ntbl ps (by rw [e, z])) s.sF, keepF r h2.o.there h2.f, h2.b⟩
  · obtain ⟨f1, g1⟩ := got e1
    obtain ⟨f2, g2⟩ := got e2
    exact h.ne j k q f1 f2 a b n g1 g2
  · obtain ⟨m0, m1, d1, m2⟩ := h.mt q hq
    refine ⟨m0, m1, ?_⟩
    by_cases hj : (0 : Nat) = i
    · subst hj
      exact ⟨d', List.getElem?_set_self (List.getElem?_eq_some_iff.mp he).1⟩
    · exact ⟨d1, by rw [List.getElem?_set_ne (Ne.symm hj)]; exact m2⟩
  · obtain ⟨l0, l1, l2⟩ := h.lm q hq
    have z : (0 : Nat) ≠ i := fun z => by rw [← z, l0] at he; cases he
    have hb : q.2.1 ≠ p := fun w => O.o.ncode q.2.2 (w ▸ l2)
    exact ⟨by rw [List.getElem?_set_ne (Ne.symm z)]; exact l0, l1, s.kp _ _ l2 hb fun ps w => LamX.codeO_ne ps w⟩
section
variable {X : Cx} {C : Cd} {own : List Nat} {e o : Expr} {es : List Expr} {fo : EF} {fs : AF} {x : Str} {p pos apos : Pos} {CX : CXT} {k n : Nat} {f : Addr} {fd : FuncData} {ps : List Str} {F : List D → R D} {G : List D → R (D × D)}
theorem callOk {σ : L2.St} {F1 H1 : Hp} {env : En} {ds : List D} {vs : List V} {Q : VK} (hR : RE X.K C.ca C.B own env σ F1 H1) (r : Reps X.K C.ca F1 ds vs)
    (h : Pst X.K C own (if ds.length = n then (F ds).bind fun d => .ok (d, env) else .no) σ F1 fun d _ F' H' => ∀ v, Rep X.K C.ca F' d v → Q v H') : spD X.K C.ca n F vs H1 Q C.E := by
  by_cases hn : ds.length = n
  · rw [if_pos hn] at h
    refine ⟨F1, ds, hR.q.pre, r, hn, ?_⟩
    cases e : F ds with
    | ok d => rw [e] at h; exact fun v F' H' st rv => h F' H' (hR.stepC st) st.sF v rv
    | ex c fs => rw [e] at h; exact fun e o F' H' st xr => h e o F' H' (hR.q.stepC st) st.sF xr
    | no => rw [e] at h; exact h
  · rw [if_neg hn] at h; exact h.elim
theorem ev_call (Gf : FnOk X.prog X.w X.K X.mg X.base (L2.CX X.prog X.w) k f fd ps (spD X.K C.ca n F)) (hr : Room k X.A) (hm : X.mg x = some (.ref f)) (hk : PySem.W.keepIn X.K (.ref f) = true) (hb : Binds X.K fd ps []) (hx : PX X C) (ha : PA X (e :: es) (tA X.K C own fs))
    (hg : Gl X x := by rfl) (hdb : (x == ("__debug__" : Str)) = false := by decide) (he : starEach (e :: es) X.env = (false, eval e X.env) :: starEach es X.env := by rfl) (hpl : (backTo pos (starEach es X.env)).any (·.1) = false := by rfl) :
    PE X (.Call (.Name x p) (e :: es) [] pos) (tE X.K C own (callF n F fs)) :=
  pe_imp (pe_callS (E := fun _ => C.E) Gf hr hg hm hk hb (fun σ pins H s e s' I c => hx pins σ H s e s' I c) ha hdb he hpl) fun σ H Q ⟨env, F0, hR, h⟩ => ⟨env, F0, hR, h.bind.imp fun ds e1 F1 H1 hR1 s1 h1 vs r => callOk hR1 r h1⟩
theorem ev_call0 (Gf : FnOk X.prog X.w X.K X.mg X.base (L2.CX X.prog X.w) k f fd ps (spD X.K C.ca n F)) (hr : Room k X.A) (hm : X.mg x = some (.ref f)) (hk : PySem.W.keepIn X.K (.ref f) = true) (hb : Binds X.K fd ps []) (hx : PX X C)
    (hg : Gl X x := by rfl) (hdb : (x == ("__debug__" : Str)) = false := by decide) : PE X (.Call (.Name x p) [] [] pos) (tE X.K C own (callF n F aNil)) :=
  pe_imp (pe_call0 Gf hr hg hm hk hb .nil hx hdb) fun σ H Q ⟨env, F0, hR, h⟩ => callOk hR .nil h
theorem callMOk {i : Nat} {σ : L2.St} {F1 H1 : Hp} {env : En} {d0 : D} {ds : List D} {p0 : Addr} {vs : List V} {Q : VK} (hR : RE X.K C.ca C.B own env σ F1 H1) (hi : i ∈ own) (he : env[i]? = some (some d0)) (hp : σ[i]? = some (some (.ref p0))) (r : Reps X.K C.ca F1 ds vs)
    (h : Pst X.K C own (if ds.length + 1 = n then (G (d0 :: ds)).nox.bind fun r => .ok (r.1, env.set i (some r.2)) else .no) σ F1 fun d _ F' H' => ∀ v, Rep X.K C.ca F' d v → Q v H') {E : XK} : spM X.K C.ca n G (.ref p0 :: vs) H1 Q E := by
  obtain ⟨p1, hp1, O1⟩ := hR.ow i d0 hi he
  rw [hp] at hp1
  cases hp1
  by_cases hn : ds.length + 1 = n
  · rw [if_pos hn] at h
    refine ⟨F1, d0, ds, p0, vs, rfl, hR.q.pre, O1.f, O1.o, r, hn, ?_⟩
    cases eg : G (d0 :: ds) with
    | ok rr => rw [eg] at h; exact fun v F' H' s O' rv => h F' H' (hR.called hi he hp s O') s.sF v rv
    | ex c fs => rw [eg] at h; exact h.elim
    | no => rw [eg] at h; exact h.elim
  · rw [if_neg hn] at h; exact h.elim
theorem ev_callM (i : Nat) {y : Str} {q : Pos} (Gf : FnOk X.prog X.w X.K X.mg X.base (L2.CX X.prog X.w) k f fd ps (spM X.K C.ca n G)) (hr : Room k X.A) (hm : X.mg x = some (.ref f)) (hk : PySem.W.keepIn X.K (.ref f) = true) (hb : Binds X.K fd ps []) (hx : PX X C) (ha : PA X es (tA X.K C own fs))
    (hi : own.contains i = true := by rfl) (hN : X.N[i]? = some y := by rfl) (hv : Vis X.env.scope y := by first | exact Or.inl rfl | exact Or.inr (Or.inl rfl) | exact Or.inr (Or.inr rfl)) (hd : (y == ("__debug__" : Str)) = false := by decide)
    (hcd : (y == ("__classdict__" : Str)) = false := by decide)
    (hg : Gl X x := by rfl) (hdb : (x == ("__debug__" : Str)) = false := by decide) (he : starEach (.Name y q :: es) X.env = (false, eval (.Name y q) X.env) :: starEach es X.env := by rfl) (hpl : (backTo pos (starEach es X.env)).any (·.1) = false := by rfl) :
    PE X (.Call (.Name x p) (.Name y q :: es) [] pos) (tE X.K C own (callM i n G fs)) :=
  pe_imp (pe_callS (E := fun _ => C.E) Gf hr hg hm hk hb (fun σ pins H s e s' I c => hx pins σ H s e s' I c) (pa_cons (pv i hN hv hd hcd) ha he) hdb he hpl) fun σ H Q ⟨env, F0, hR, h⟩ => by
    have hi : i ∈ own := by simpa using hi
    unfold callM at h
    split at h
    · rename_i d00 e0
      obtain ⟨p0, hp0, O0⟩ := hR.ow i d00 hi e0
      refine ⟨_, hp0, env, F0, hR, h.bind.imp fun ds e1 F1 H1 hR1 s1 h1 vs r => ?_⟩
      dsimp only at h1
      split at h1
      · rename_i d0 e2
        exact callMOk hR1 hi e2 hp0 r h1
      · exact h1.elim
    · exact h.elim
end

/-! ### a def by its body -/
def startE (n : Nat) (ds : List D) : En := ds.map some ++ List.replicate (n - ds.length) none
def runD (n : Nat) (g : SF) (ds : List D) : R D := match g (startE n ds) with
  | .nx _ => .ok .non
  | .rt d _ => .ok d
  | .ex c fs => .ex c fs
  | _ => .no
def lastD (d : D) (e : En) : R (D × D) := match e[0]? with
  | some (some m) => .ok (d, m)
  | _ => .no
def runM (n : Nat) (g : SF) (ds : List D) : R (D × D) := match g (startE n ds) with
  | .nx e => lastD .non e
  | .rt d e => lastD d e
  | .ex c fs => .ex c fs
  | _ => .no
section
variable {P : Program} {w : World} {K : PySem.W.Frag} {mg : Str → Option Value} {base : Heap} {ca : CA}
theorem startE_get {n : Nat} {ds : List D} {i : Nat} {d : D} (h : (startE n ds)[i]? = some (some d)) : ds[i]? = some d := by
  unfold startE at h
  by_cases hi : i < ds.length
  · rw [List.getElem?_append_left (by rw [List.length_map]; exact hi), List.getElem?_map] at h
    cases e : ds[i]? with
    | none => rw [e] at h; cases h
    | some x => rw [e] at h; cases h; rfl
  · rw [List.getElem?_append_right (by rw [List.length_map]; omega), List.getElem?_replicate] at h
    split at h <;> cases h
theorem start_get {N : List Str} {vs : List V} {i : Nat} {v : V} (h : vs[i]? = some v) : (L2.start N vs)[i]? = some (some v) := by
  unfold L2.start
  have hi := (List.getElem?_eq_some_iff.mp h).1
  rw [List.getElem?_append_left (by rw [List.length_map]; exact hi), List.getElem?_map, h]
  rfl
theorem start_len {N : List Str} {vs : List V} {ds : List D} (h : ds.length = vs.length) : (L2.start N vs).length = (startE N.length ds).length := by
  unfold L2.start startE
  rw [List.length_append, List.length_append, List.length_map, List.length_map, List.length_replicate, List.length_replicate, h]
/-- the context of a def's body -/
abbrev Cd.top (ca : CA) (B : Bs) (E : XK) (nw : Bool) : Cd := ⟨ca, B, E, nw⟩
theorem tk_of {qual : Str} {st : Stmt} {f : Addr} {N : List Str} {cdv : Value} {A : Around} {outer : List PySem.Env} {s : Shared} {H : Hp} {E : XK} : Takes (cxOf (L2.CX P w) P w K mg base N qual (defScope st) f cdv A outer s H E) (fun e o _ H => E e o H) := takes_of rfl rfl rfl rfl
theorem ps_of {qual : Str} {st : Stmt} {f : Addr} {N : List Str} {cdv : Value} {A : Around} {outer : List PySem.Env} {s : Shared} {H : Hp} {E : XK} : PassesOwn (model (cxOf (L2.CX P w) P w K mg base N qual (defScope st) f cdv A outer s H E).prog (cxOf (L2.CX P w) P w K mg base N qual (defScope st) f cdv A outer s H E).w) (cxOf (L2.CX P w) P w K mg base N qual (defScope st) f cdv A outer s H E).A (cxOf (L2.CX P w) P w K mg base N qual (defScope st) f cdv A outer s H E).env (cxOf (L2.CX P w) P w K mg base N qual (defScope st) f cdv A outer s H E).xe := passes_of rfl
theorem re_start {F H : Hp} {N : List Str} {ds : List D} {vs : List V} (pre : Pre ca F H) (r : Reps K ca F ds vs) : RE K ca ⟨F, H, none, none⟩ [] (startE N.length ds) (L2.start N vs) F H :=
  ⟨⟨pre.sub, Same.refl _, fun p o e _ _ => e, fun p hp => .inl hp, (fun p z => nomatch z), fun _ z => z, pre.tb, pre.nt⟩, start_len r.length, fun i d _ e => by
    obtain ⟨v, h1, h2⟩ := r.get (startE_get e)
    exact ⟨v, start_get h1, h2⟩, fun i d z => absurd z List.not_mem_nil, fun i j p d e z => absurd z List.not_mem_nil, (fun p z => nomatch z), fun p z => nomatch z⟩
theorem bq_stC {F H F' H' : Hp} (q : Bq ca ⟨F, H, none, none⟩ F' H') : StC ca.T F H F' H' := ⟨q.sub, q.sF, fun p o e t => q.sH p o e (fun z => nomatch z) t, q.nw, fun p ps z => absurd z (q.nt p ps), q.kt, q.tb⟩
theorem fn_D {x qual : Str} {st : Stmt} {f : Addr} {fd : FuncData} {N ps : List Str} {k : Nat} {g : SF} {own' : List Nat} (T : Fun K x qual st f fd) (S : FnScope N ps (defScope st))
    (hb : ∀ (B : Bs), B.free0 → ∀ (cdv : Value) (A : Around) (outer : List PySem.Env) (s : Shared) (H : Hp) (E : XK), Room k (A.deeper (envOfC qual (defScope st) s.heap.objs.size f cdv)) →
      PSs (cxOf (L2.CX P w) P w K mg base N qual (defScope st) f cdv A outer s H E) (defBody st) (tS K (.top ca B E false) [] own' [] g)) : FnOk P w K mg base (L2.CX P w) (k + 1) f fd ps (spD K ca ps.length (runD N.length g)) := by
  refine T.okX S (fun vs H Q E ⟨F, ds, _, r, hl, _⟩ => by rw [← r.length]; exact hl) (fun cdv A outer s H vs Q E hr ⟨F, ds, pre, r, hl, hm⟩ => ⟨_, hb ⟨F, H, none, none⟩ ⟨rfl, rfl⟩ cdv A outer s H E hr, ?_⟩)
  refine ⟨startE N.length ds, F, re_start pre r, ?_⟩
  unfold runD at hm
  cases eg : g (startE N.length ds) with
  | nx e => rw [eg] at hm; exact fun σ' F' H' hR s => hm .non F' H' (bq_stC hR.q) .non
  | rt d e => rw [eg] at hm; exact fun v F' H' q m s rv => hm v F' H' (bq_stC q) rv
  | bk e => rw [eg] at hm; exact hm.elim
  | ct e => rw [eg] at hm; exact hm.elim
  | ex c fs => rw [eg] at hm; exact fun e o F' H' q s xr => hm e o F' H' (bq_stC q) xr
  | no => rw [eg] at hm; exact hm.elim
theorem re_startM {F H : Hp} {N : List Str} {d0 : D} {ds : List D} {p : Addr} {vs : List V} (pre : Pre ca F H) (hF : F p = none) (O : OwO K ca F H d0 p) (r : Reps K ca F ds vs) : RE K ca ⟨F, H, some p, none⟩ [0] (startE N.length (d0 :: ds)) (L2.start N (.ref p :: vs)) F H := by
  have hs : (L2.start N (.ref p :: vs))[0]? = some (some (.ref p)) := start_get rfl
  have he : (startE N.length (d0 :: ds))[0]? = some (some d0) := rfl
  refine ⟨⟨pre.sub, Same.refl _, fun p o e _ _ => e, fun p hp => .inl hp, fun q z => by cases z; exact ⟨O.there, hF⟩, fun _ z => z, pre.tb, pre.nt⟩, start_len (by rw [List.length_cons, List.length_cons, r.length]), fun i d hi e => ?_, fun i d hi e => ?_, fun i j q d e a b n => ?_, fun q z => by cases z; exact ⟨List.mem_singleton.mpr rfl, hs, d0, he⟩, fun q z => nomatch z⟩
  · have h1 := startE_get e
    cases i with
    | zero => exact absurd (List.mem_singleton.mpr rfl) hi
    | succ i =>
      obtain ⟨v, h1, h2⟩ := r.get (show ds[i]? = some d from h1)
      exact ⟨v, start_get (by rw [List.getElem?_cons_succ]; exact h1), h2⟩
  · have hi := List.mem_singleton.mp hi
    subst hi
    rw [he] at e
    cases e
    exact ⟨p, hs, O, hF, .inr rfl⟩
  · exact absurd ((List.mem_singleton.mp a).trans (List.mem_singleton.mp b).symm) n
theorem bq_stM {F H F' H' : Hp} {p : Addr} (q : Bq ca ⟨F, H, some p, none⟩ F' H') : StM ca.T p F H F' H' :=
  ⟨q.sub, q.sF, fun a o e n t => q.sH a o e (fun z => n (Option.some.inj z).symm) t, q.nw, fun a ps z => absurd z (q.nt a ps), q.kt, q.tb, (q.mp p rfl).2⟩
theorem body_M {qual : Str} {st : Stmt} {f : Addr} {N : List Str} {n k : Nat} {g : SF} {own' : List Nat} {cdv : Value}
    (hb : ∀ (B : Bs) (A : Around) (outer : List PySem.Env) (s : Shared) (H : Hp) (E : XK), Room k (A.deeper (envOfC qual (defScope st) s.heap.objs.size f cdv)) →
      PSs (cxOf (L2.CX P w) P w K mg base N qual (defScope st) f cdv A outer s H E) (defBody st) (tS K (.top ca B E false) [0] own' [] g)) :
    ∀ (A : Around) (outer : List PySem.Env) (s : Shared) (H : Hp) (vs : List V) (Q : VK) (E : XK), Room k (A.deeper (envOfC qual (defScope st) s.heap.objs.size f cdv)) → spM K ca n (runM N.length g) vs H Q E →
      ∃ t, PSs (cxOf (L2.CX P w) P w K mg base N qual (defScope st) f cdv A outer s H E) (defBody st) t ∧ t { nx := fun _ H' => Q .non H', rt := Q } (L2.start N vs) H := by
  rintro A outer s H vs Q E hr ⟨F, d0, ds, p, vs', ev, pre, hF, O, r, hl, hm⟩
  refine ⟨_, hb ⟨F, H, some p, none⟩ A outer s H E hr, ?_⟩
  subst ev
  have fin : ∀ {d : D} {v : V} {e : En} {F' H' : Hp}, Bq ca ⟨F, H, some p, none⟩ F' H' → MutF K ca ⟨F, H, some p, none⟩ F' H' e → Rep K ca F' d v → (∀ r, lastD d e = .ok r → ∀ v F' H', StM ca.T p F H F' H' → OwO K ca F' H' r.2 p → Rep K ca F' r.1 v → Q v H') → Q v H' := fun {d v e F' H'} q m rv hm => by
    obtain ⟨dm, h1, h2⟩ := m p rfl
    exact hm (d, dm) (by unfold lastD; rw [h1]) v F' H' (bq_stM q) h2 rv
  refine ⟨startE N.length (d0 :: ds), F, re_startM pre hF O r, ?_⟩
  unfold runM at hm
  cases eg : g (startE N.length (d0 :: ds)) with
  | nx e =>
    rw [eg] at hm
    intro σ' F' H' hR s
    refine fin hR.q hR.mutF .non fun r hr => ?_
    dsimp only at hm
    rw [hr] at hm
    exact hm
  | rt d e =>
    rw [eg] at hm
    intro v F' H' q m s rv
    refine fin q m rv fun r hr => ?_
    dsimp only at hm
    rw [hr] at hm
    exact hm
  | bk e => rw [eg] at hm; exact hm.elim
  | ct e => rw [eg] at hm; exact hm.elim
  | ex c fs => rw [eg] at hm; exact fun e o F' H' q s xr => hm e o F' H' (bq_stM q) xr
  | no => rw [eg] at hm; exact hm.elim
theorem fn_M {x qual : Str} {st : Stmt} {f : Addr} {fd : FuncData} {N ps : List Str} {k : Nat} {g : SF} {own' : List Nat} (T : Fun K x qual st f fd) (S : FnScope N ps (defScope st))
    (hb : ∀ (B : Bs) (cdv : Value) (A : Around) (outer : List PySem.Env) (s : Shared) (H : Hp) (E : XK), Room k (A.deeper (envOfC qual (defScope st) s.heap.objs.size f cdv)) →
      PSs (cxOf (L2.CX P w) P w K mg base N qual (defScope st) f cdv A outer s H E) (defBody st) (tS K (.top ca B E false) [0] own' [] g)) : FnOk P w K mg base (L2.CX P w) (k + 1) f fd ps (spM K ca ps.length (runM N.length g)) :=
  T.okX S (fun vs H Q E ⟨F, d0, ds, p, vs', ev, _, _, _, r, hl, _⟩ => by rw [ev, List.length_cons, ← r.length]; exact hl) fun cdv A outer s H vs Q E hr h => body_M (fun B A outer s H E hr => hb B cdv A outer s H E hr) A outer s H vs Q E hr h
end
end Dl

namespace Dl
open PySem PySem.Spec PyProof.Rows L2

/-! ### fields -/
def attrD (cs : List Nat) (f : Str) : D → R D
  | .ins c fs => if cs.contains c = true then .no else R.ofOpt (fs.lookup f)
  | _ => .no
theorem attrD_ne {cs : List Nat} {f : Str} : ∀ x c fs, attrD cs f x ≠ .ex c fs := fun x c fs z => by
  unfold attrD at z
  split at z
  · split at z
    · cases z
    · rename_i fs' _
      cases e : fs'.lookup f with
      | none => rw [e] at z; cases z
      | some d => rw [e] at z; cases z
  · cases z
def putD (f : Str) (v : D) : List (Str × D) → List (Str × D)
  | [] => [(f, v)]
  | (g, x) :: r => if g = f then (g, v) :: r else (g, x) :: putD f v r
theorem RepF.put {K : PySem.W.Frag} {ca : CA} {F : Hp} {f : Str} {d : D} {v : V} (r : Rep K ca F d v) : ∀ {ds : List (Str × D)} {vs : List (Str × V)}, RepF K ca F ds vs → RepF K ca F (putD f d ds) (putF f v vs)
  | _, _, .nil => .cons r .nil
  | (n, d') :: ds, (_, v') :: vs, .cons q qs => by
    unfold putD putF
    by_cases h : n = f
    · rw [if_pos h, if_pos h]; exact .cons r qs
    · rw [if_neg h, if_neg h]; exact .cons q (RepF.put r qs)
/-- self.f, of an object of one's own in slot i -/
def eFldO (i : Nat) (cs : List Nat) (f : Str) : EF := fun env => match env[i]? with
  | some (some d) => (attrD cs f d).bind fun v => .ok (v, env)
  | _ => .no
def fldS (i : Nat) (cs : List Nat) (f : Str) (fa : EF) : SF := fun env => (fa env).toS fun p => match p.2[i]? with
  | some (some (.ins c fs)) => if cs.contains c = false ∧ fs.length < 1000 then .nx (p.2.set i (some (.ins c (putD f p.1 fs)))) else .no
  | _ => .no
section
variable {X : Cx} {C : Cd} {own ol : List Nat} {a e o : Expr} {es : List Expr} {fa : EF} {fs : AF} {x y f : Str} {p q pos pos' apos cpos : Pos} {cs : List Nat}
theorem ev_fld (hA : ∀ c, C.ca.ok c = true → cs.contains c = false → Cls X.K (C.ca c) ∧ NoAttr X.K (C.ca c) f) (ha : PE X a (tE X.K C own fa)) (hb : attributeBase a f X.env (eval a X.env) = eval a X.env := by rfl) : PE X (.Attribute a f pos) (tE X.K C own (e1 (attrD cs f) fa)) :=
  pe_imp (pe_fld ha hb) fun σ H Q ⟨env, F, hR, h⟩ => ⟨env, F, hR, h.bind.imp fun d e1 F1 H1 hR1 s1 h1 v r => by
    obtain ⟨b, hb, h2⟩ := h1.known (attrD_ne d)
    cases r with
    | ins hp rf hk =>
      unfold attrD at hb
      dsimp only at hb
      split at hb
      · cases hb
      · rename_i hc
        cases el : List.lookup f _ with
        | none => rw [el] at hb; cases hb
        | some d =>
          rw [el] at hb
          cases hb
          obtain ⟨u, l1, l2⟩ := rf.lookup el
          have hA1 := hA _ hk (by simpa using hc)
          exact ⟨_, _, _, _, u, rfl, hR1.q.sub _ _ hp, hA1.1, hA1.2, l1, h2.here hR1 u l2⟩
    | _ => cases hb⟩
theorem ev_fldO (i : Nat) (hA : ∀ c, C.ca.ok c = true → cs.contains c = false → Cls X.K (C.ca c) ∧ NoAttr X.K (C.ca c) f) (hi : own.contains i = true := by rfl) (hN : X.N[i]? = some y := by rfl) (hv : Vis X.env.scope y := by first | exact Or.inl rfl | exact Or.inr (Or.inl rfl) | exact Or.inr (Or.inr rfl)) (hd : (y == ("__debug__" : Str)) = false := by decide)
    (hcd : (y == ("__classdict__" : Str)) = false := by decide) (hb : attributeBase (.Name y q) f X.env (eval (.Name y q) X.env) = eval (.Name y q) X.env := by rfl) : PE X (.Attribute (.Name y q) f pos) (tE X.K C own (eFldO i cs f)) :=
  pe_imp (pe_fld (pv i hN hv hd hcd) hb) fun σ H Q ⟨env, F, hR, h⟩ => by
    have hi : i ∈ own := by simpa using hi
    unfold eFldO at h
    split at h
    · rename_i d e0
      obtain ⟨b, hb, h2⟩ := h.known (attrD_ne d)
      obtain ⟨p, hp, O⟩ := hR.ow i d hi e0
      unfold attrD at hb
      split at hb
      · rename_i c fs
        split at hb
        · cases hb
        · rename_i hc
          obtain ⟨dx, gs, a1, rf, hk⟩ := O.o
          cases el : fs.lookup f with
          | none => rw [el] at hb; cases hb
          | some d =>
            rw [el] at hb
            cases hb
            obtain ⟨u, l1, l2⟩ := rf.lookup el
            have hA1 := hA _ hk (by simpa using hc)
            exact ⟨_, hp, _, _, _, _, u, rfl, a1, hA1.1, hA1.2, l1, h2.here hR u l2⟩
      · cases hb
    · exact h.elim
theorem sv_fld (i : Nat) (hA : ∀ c, C.ca.ok c = true → cs.contains c = false → Cls X.K (C.ca c) ∧ NoAttr X.K (C.ca c) f) (ha : PE X a (tE X.K C own fa)) (hi : own.contains i = true := by rfl) (hN : X.N[i]? = some y := by rfl) (hv : Vis X.env.scope y := by first | exact Or.inl rfl | exact Or.inr (Or.inl rfl) | exact Or.inr (Or.inr rfl)) (hd : (y == ("__debug__" : Str)) = false := by decide)
    (hcd : (y == ("__classdict__" : Str)) = false := by decide) (hs : swapsWith a (some (.Attribute (.Name y q) f pos')) pos.line X.env = pure false := by rfl) : PS X (.Assign [.Attribute (.Name y q) f pos'] a pos) (tS X.K C own own ol (fldS i cs f fa)) :=
  ps_imp (ps_fld (pv i hN hv hd hcd) ha hs) fun Dn σ H ⟨env, F, hR, h⟩ => by
    have hi : i ∈ own := by simpa using hi
    refine ⟨env, F, hR, (Sst.bind (show Sst X.K C own ol ((fa env).toS fun p => _) F Dn from h)).imp fun d e1 F1 H1 hR1 s1 h1 v r => ?_⟩
    dsimp only at h1
    split at h1
    · rename_i c fs e0
      split at h1
      · rename_i hc
        obtain ⟨p, hp, O⟩ := hR1.ow i _ hi e0
        obtain ⟨dx, gs, a1, rf, hk⟩ := O.o
        refine ⟨_, hp, _, _, _, _, rfl, a1, (hA c hk hc.1).1, (hA c hk hc.1).2, by rw [← rf.length]; exact hc.2, ?_⟩
        exact h1 σ F1 _ (hR1.chg hi e0 hp ⟨dx, _, upd_same, rf.put r, hk⟩) (Same.refl _)
      · exact h1.elim
    · exact h1.elim
end

/-! ### C(..) -/
def nonD (r : D × D) : R D := match r.1 with
  | .non => .ok r.2
  | _ => .no
def makeF (c n : Nat) (G : List D → R (D × D)) (fs : AF) : EF := fun env => (fs env).bind fun p => if p.1.length + 1 = n then (G (.ins c [] :: p.1)).bind fun r => (nonD r).bind fun d => .ok (d, p.2) else .no
section
variable {X : Cx} {C : Cd} {own : List Nat} {e o : Expr} {es : List Expr} {fs : AF} {x : Str} {p pos apos : Pos} {k n c : Nat} {f : Addr} {fd : FuncData} {ps : List Str} {G : List D → R (D × D)}
theorem makeOk {σ : L2.St} {F1 H1 : Hp} {env : En} {ds : List D} {vs : List V} {Q : VK} {xa dx : Addr} (hk : C.ca.ok c = true) (hR : RE X.K C.ca C.B own env σ F1 H1) (r : Reps X.K C.ca F1 ds vs) (hx : H1 xa = none) (hdx : H1 dx = none) (ne : dx ≠ xa)
    (h : Pst X.K C own (if ds.length + 1 = n then (G (.ins c [] :: ds)).bind fun r => (nonD r).bind fun d => .ok (d, env) else .no) σ F1 fun d e F' H' => ∀ p, Fsh X.K C.ca C.B own e σ F' H' d p → Q (.ref p) H') :
    spM X.K C.ca n G (.ref xa :: vs) (upd (upd H1 dx (.own xa)) xa (.ins (C.ca c) dx [])) (fun v H2 => v = .non ∧ Q (.ref xa) H2) C.E := by
  by_cases hn : ds.length + 1 = n
  · rw [if_pos hn] at h
    have hF1 : F1 xa = none := hR.q.sub.free hx
    have sm : Same H1 (upd (upd H1 dx (.own xa)) xa (.ins (C.ca c) dx [])) := (same_upd hdx).trans (same_upd (by rw [upd_ne (Ne.symm ne)]; exact hx))
    have stc : ∀ {F' H' : Hp}, StM C.ca.T xa F1 (upd (upd H1 dx (.own xa)) xa (.ins (C.ca c) dx [])) F' H' → StC C.ca.T F1 H1 F' H' := fun {F' H'} s =>
      ⟨s.sub, s.sF, fun q o e t => s.kp q o (sm q o e) (ne_of_none e hx) t, fun q hq => by
        rcases s.nw q hq with z | z
        · exact .inl z
        · exact .inr (sm.free z), s.nt, fun q hq => s.kt q (Same.some sm hq), s.tb⟩
    refine ⟨F1, .ins c [], ds, xa, vs, rfl, ⟨hR.q.sub.trans sm, hR.q.tb.ext sm, hR.q.nt⟩, hF1, ⟨dx, [], upd_same, .nil, hk⟩, r, hn, ?_⟩
    cases eg : G (.ins c [] :: ds) with
    | ex c fs => rw [eg] at h; exact fun e o F' H' s xr => h e o F' H' (hR.q.stepC (stc s)) s.sF xr
    | no => rw [eg] at h; exact h.elim
    | ok rr =>
      rw [eg] at h
      obtain ⟨d1, d2⟩ := rr
      intro v F' H' s O' rv
      cases d1 with
      | non =>
        cases rv
        obtain ⟨b, m, _⟩ := hR.q.fresh hx
        refine ⟨rfl, h F' H' (hR.stepC (stc s)) s.sF xa ⟨O', s.hF, b, m, fun j ed hj he z => ?_⟩⟩
        obtain ⟨q, h1, O⟩ := hR.ow j ed hj he
        rw [h1] at z
        cases z
        exact O.o.there hx
      | _ => exact h.elim
  · rw [if_neg hn] at h; exact h.elim
theorem ev_make (M : Mk X.K (C.ca c) f) (Gf : FnOk X.prog X.w X.K X.mg X.base (L2.CX X.prog X.w) k f fd ps (spM X.K C.ca n G)) (hr : Room (k + 1) X.A) (hm : X.mg x = some (.ref (C.ca c))) (hb : Binds X.K fd ps []) (hx : PX X C) (ha : PA X (e :: es) (tA X.K C own fs))
    (hk : C.ca.ok c = true := by rfl) (hg : Gl X x := by rfl) (hdb : (x == ("__debug__" : Str)) = false := by decide) (he : starEach (e :: es) X.env = (false, eval e X.env) :: starEach es X.env := by rfl) (hpl : (backTo pos (starEach es X.env)).any (·.1) = false := by rfl) :
    PE X (.Call (.Name x p) (e :: es) [] pos) (tN X.K C own (makeF c n G fs)) :=
  pe_imp (pe_make M Gf hr hg hm hb .nil hx ha hdb he hpl) fun σ H Q ⟨env, F0, hR, h⟩ => ⟨env, F0, hR, h.bind.imp fun ds e1 F1 H1 hR1 s1 h1 vs r => by
    show ∀ xa dx, H1 xa = none → H1 dx = none → dx ≠ xa → spM X.K C.ca n G (.ref xa :: (vs ++ [])) _ _ _
    intro xa dx hx hdx ne
    rw [List.append_nil]
    exact makeOk hk hR1 r hx hdx ne h1⟩
theorem ev_makeR {sp : Sp} (M : Mk X.K (C.ca c) f) (Gf : FnR X.prog X.w X.K X.mg X.base (L2.CX X.prog X.w) k f (spM X.K C.ca n G)) (hr : Room (k + 1) X.A) (hm : X.mg x = some (.ref (C.ca c))) (hx : PX X C) (ha : PA X (e :: es) (tA X.K C own fs))
    (hk : C.ca.ok c = true := by rfl) (hg : Gl X x := by rfl) (hdb : (x == ("__debug__" : Str)) = false := by decide) (he : starEach (e :: es) X.env = (false, eval e X.env) :: starEach es X.env := by rfl) (hpl : (backTo pos (starEach es X.env)).any (·.1) = false := by rfl) :
    PE X (.Call (.Name x p) (e :: es) [] pos) (tN X.K C own (makeF c n G fs)) :=
  pe_imp (StX.pe_makeR M Gf hr hg hm hx ha hdb he hpl) fun σ H Q ⟨env, F0, hR, h⟩ => ⟨env, F0, hR, h.bind.imp fun ds e1 F1 H1 hR1 s1 h1 vs r => by
    show ∀ xa dx, H1 xa = none → H1 dx = none → dx ≠ xa → spM X.K C.ca n G (.ref xa :: vs) _ _ _
    intro xa dx hx hdx ne
    exact makeOk hk hR1 r hx hdx ne h1⟩
end

/-! ### x.m(..) of a list of one's own -/
def rM (K : PySem.W.Frag) (ca : CA) (g : D → List D → R (D × D)) : V → List V → Hp → VK → Prop := fun x vs H Q => ∃ F p d0 ds r, x = .ref p ∧ Same F H ∧ F p = none ∧ OwO K ca F H d0 p ∧ Reps K ca F ds vs ∧ g d0 ds = .ok r ∧
  ∀ v o, OwO K ca F (upd H p o) r.2 p → Rep K ca F r.1 v → Q v (upd H p o)
def isLst : D → Bool
  | .lst _ => true
  | _ => false
def mthM (i : Nat) (g : D → List D → R (D × D)) (fs : AF) : EF := fun env => match env[i]? with
  | some (some d) => if isLst d = true then (fs env).bind fun p => match p.2[i]? with
    | some (some d0) => (g d0 p.1).nox.bind fun r => .ok (r.1, p.2.set i (some r.2))
    | _ => .no else .no
  | _ => .no
def appendD : D → List D → R (D × D)
  | .lst xs, [y] => if xs.length < sizeLine then .ok (.non, .lst (xs ++ [y])) else .no
  | _, _ => .no
def extendD : D → List D → R (D × D)
  | .lst xs, [.lst ys] => if xs.length + ys.length ≤ sizeLine then .ok (.non, .lst (xs ++ ys)) else .no
  | _, _ => .no
def insertD : D → List D → R (D × D)
  | .lst xs, [.int i, y] => if xs.length < sizeLine ∧ 0 ≤ i ∧ i.toNat < 9223372036854775808 then .ok (.non, .lst (xs.take i.toNat ++ [y] ++ xs.drop i.toNat)) else .no
  | _, _ => .no
def popD : D → List D → R (D × D)
  | .lst xs, [] => match xs[xs.length - 1]? with
    | some y => .ok (y, .lst xs.dropLast)
    | none => .no
  | _, _ => .no
def popAtD : D → List D → R (D × D)
  | .lst xs, [.int i] => if (-i).toNat < 9223372036854775808 ∧ i.toNat < 9223372036854775808 then (match seqIndex? i xs.length with
    | some k => match xs[k]? with
      | some y => .ok (y, .lst (xs.eraseIdx k))
      | none => .no
    | none => .no) else .no
  | _, _ => .no
theorem Reps.eraseIdx {K : PySem.W.Frag} {ca : CA} {F : Hp} : ∀ {ds : List D} {vs : List V} (k : Nat), Reps K ca F ds vs → Reps K ca F (ds.eraseIdx k) (vs.eraseIdx k)
  | _, _, _, .nil => .nil
  | _, _, 0, .cons _ t => t
  | _, _, k + 1, .cons r t => .cons r (Reps.eraseIdx k t)
theorem Reps.dropLast {K : PySem.W.Frag} {ca : CA} {F : Hp} : ∀ {ds : List D} {vs : List V}, Reps K ca F ds vs → Reps K ca F ds.dropLast vs.dropLast
  | _, _, .nil => .nil
  | _, _, .cons r .nil => .nil
  | _, _, .cons r (.cons q t) => .cons r (Reps.dropLast (.cons q t))
section
variable {X : Cx} {ca : CA}
theorem om_append : MtR X "list.append" (rM X.K ca appendD) := fun pins s σ H x vs v us Q I rx rv ⟨F, p, d0, ds, r, ex, sub, hF, O, rs, hg, q⟩ => by
  subst ex
  unfold appendD at hg
  split at hg
  · split at hg
    · rename_i hl
      cases hg
      obtain ⟨ws, a1, a2⟩ := O
      cases rs with
      | cons r rs =>
        cases rs
        exact mt_append pins s σ H _ _ v us Q I rx rv ⟨p, ws, _, rfl, rfl, a1, by rw [← a2.length]; exact hl, q _ _ ⟨_, upd_same, a2.append (.one r)⟩ .non⟩
    · cases hg
  · cases hg
theorem om_extend : MtR X "list.extend" (rM X.K ca extendD) := fun pins s σ H x vs v us Q I rx rv ⟨F, p, d0, ds, r, ex, sub, hF, O, rs, hg, q⟩ => by
  subst ex
  unfold extendD at hg
  split at hg
  · split at hg
    · rename_i hl
      cases hg
      obtain ⟨ws, a1, a2⟩ := O
      cases rs with
      | cons r rs =>
        cases rs
        cases r with
        | lst hq rq =>
          exact mt_extend pins s σ H _ _ v us Q I rx rv ⟨p, _, ws, _, rfl, rfl, a1, sub _ _ hq, by rw [← a2.length, ← rq.length]; exact hl, q _ _ ⟨_, upd_same, a2.append rq⟩ .non⟩
    · cases hg
  · cases hg
theorem om_insert : MtR X "list.insert" (rM X.K ca insertD) := fun pins s σ H x vs v us Q I rx rv ⟨F, p, d0, ds, r, ex, sub, hF, O, rs, hg, q⟩ => by
  subst ex
  unfold insertD at hg
  split at hg
  · split at hg
    · rename_i hl
      cases hg
      obtain ⟨ws, a1, a2⟩ := O
      cases rs with
      | cons r rs =>
        cases r
        cases rs with
        | cons r rs =>
          cases rs
          exact mt_insert pins s σ H _ _ v us Q I rx rv ⟨p, ws, _, _, rfl, rfl, a1, by rw [← a2.length]; exact hl.1, hl.2.1, by rw [two63]; omega, q _ _ ⟨_, upd_same, ((a2.take _).append (.one r)).append (a2.drop _)⟩ .non⟩
    · cases hg
  · cases hg
theorem om_pop : MtR X "list.pop" (rM X.K ca popD) := fun pins s σ H x vs v us Q I rx rv ⟨F, p, d0, ds, r, ex, sub, hF, O, rs, hg, q⟩ => by
  subst ex
  unfold popD at hg
  split at hg
  · split at hg
    · rename_i y hy
      cases hg
      obtain ⟨ws, a1, a2⟩ := O
      cases rs
      obtain ⟨u, h1, h2⟩ := a2.get hy
      exact mt_pop pins s σ H _ _ v us Q I rx rv ⟨p, ws, u, rfl, rfl, a1, by rw [← a2.length]; exact h1, q _ _ ⟨_, upd_same, a2.dropLast⟩ h2⟩
    · cases hg
  · cases hg
theorem om_popAt : MtR X "list.pop" (rM X.K ca popAtD) := fun pins s σ H x vs v us Q I rx rv ⟨F, p, d0, ds, r, ex, sub, hF, O, rs, hg, q⟩ => by
  subst ex
  unfold popAtD at hg
  split at hg
  · split at hg
    · rename_i hl
      split at hg
      · rename_i k hk
        split at hg
        · rename_i y hy
          cases hg
          obtain ⟨ws, a1, a2⟩ := O
          cases rs with
          | cons r rs =>
            cases r
            cases rs
            obtain ⟨u, h1, h2⟩ := a2.get hy
            exact mt_popAt pins s σ H _ _ v us Q I rx rv ⟨p, ws, _, k, u, rfl, rfl, a1, by rw [two63]; omega, by rw [two63]; omega, by rw [← a2.length]; exact hk, h1, q _ _ ⟨_, upd_same, a2.eraseIdx k⟩ h2⟩
        · cases hg
      · cases hg
    · cases hg
  · cases hg
end
section
variable {X : Cx} {C : Cd} {own : List Nat} {e : Expr} {es : List Expr} {fs : AF} {y name : Str} {id : String} {q apos cpos : Pos} {g : D → List D → R (D × D)}
theorem mthOk {i : Nat} {σ : L2.St} {F1 H1 : Hp} {env : En} {p0 : Addr} {ds : List D} {vs : List V} {Q : VK} (hi : i ∈ own) (hR : RE X.K C.ca C.B own env σ F1 H1) (hp : σ[i]? = some (some (.ref p0))) (r : Reps X.K C.ca F1 ds vs)
    (h : Pst X.K C own (match env[i]? with
      | some (some d0) => (g d0 ds).nox.bind fun r => .ok (r.1, env.set i (some r.2))
      | _ => .no) σ F1 fun d _ F' H' => ∀ v, Rep X.K C.ca F' d v → Q v H') : rM X.K C.ca g (.ref p0) vs H1 Q := by
  split at h
  · rename_i d0 e0
    obtain ⟨p1, hp1, O⟩ := hR.ow i d0 hi e0
    rw [hp] at hp1
    cases hp1
    cases eg : g d0 ds with
    | ex c fs => rw [eg] at h; exact h.elim
    | no => rw [eg] at h; exact h.elim
    | ok rr =>
      rw [eg] at h
      exact ⟨F1, p0, d0, ds, rr, rfl, hR.q.sub, O.f, O.o, r, eg, fun v o O' rv => h F1 _ (hR.chg hi e0 hp O') (Same.refl _) v rv⟩
  · exact h.elim
theorem ev_mth (i : Nat) (pa : PlainAttrs "list") (slot : Slot "list" name id) (hty : typeOf (.builtin id) = pure (.type "method_descriptor")) (hm : MtR X id (rM X.K C.ca g)) (ha : PA X (e :: es) (tA X.K C own fs)) (hi : own.contains i = true := by rfl) (hN : X.N[i]? = some y := by rfl) (hv : Vis X.env.scope y := by first | exact Or.inl rfl | exact Or.inr (Or.inl rfl) | exact Or.inr (Or.inr rfl)) (hd : (y == ("__debug__" : Str)) = false := by decide)
    (hcd : (y == ("__classdict__" : Str)) = false := by decide) (hbase : attributeBase (.Name y q) name X.env (eval (.Name y q) X.env) = eval (.Name y q) X.env := by rfl)
    (hfew : ((backTo cpos (starEach (e :: es) X.env)).all (fun x => !x.1) && (backToKw cpos (keywordEach [] X.env)).all (fun x => x.1.isSome)
      && decide ((e :: es).length + ([] : List Keyword).length + (if ([] : List Keyword).isEmpty then 0 else 1) < 30)) = true := by rfl)
    (hline : (apos.endLine == cpos.line) = true := by rfl) (hs : starEach (e :: es) X.env = (false, eval e X.env) :: starEach es X.env := by rfl) (hplain : (backTo cpos (starEach es X.env)).any (·.1) = false := by rfl) :
    PE X (.Call (.Attribute (.Name y q) name apos) (e :: es) [] cpos) (tE X.K C own (mthM i g fs)) :=
  pe_imp (pe_bm pa slot hty hm (pv i hN hv hd hcd) ha hbase hfew hline hs hplain) fun σ H Q ⟨env, F0, hR, h⟩ => by
    have hi : i ∈ own := by simpa using hi
    unfold mthM at h
    split at h
    · rename_i d00 e0
      split at h
      · rename_i hl
        obtain ⟨p0, hp0, O0⟩ := hR.ow i d00 hi e0
        cases d00 <;> try cases hl
        obtain ⟨ws, a1, a2⟩ := O0.o
        exact ⟨_, hp0, .inl ⟨rfl, _, SqL.of a1⟩, env, F0, hR, h.bind.imp fun ds e1 F1 H1 hR1 s1 h1 vs r => mthOk hi hR1 hp0 r h1⟩
      · exact h.elim
    · exact h.elim
theorem ev_mth0 (i : Nat) (pa : PlainAttrs "list") (slot : Slot "list" name id) (hty : typeOf (.builtin id) = pure (.type "method_descriptor")) (hm : MtR X id (rM X.K C.ca g)) (hi : own.contains i = true := by rfl) (hN : X.N[i]? = some y := by rfl) (hv : Vis X.env.scope y := by first | exact Or.inl rfl | exact Or.inr (Or.inl rfl) | exact Or.inr (Or.inr rfl)) (hd : (y == ("__debug__" : Str)) = false := by decide)
    (hcd : (y == ("__classdict__" : Str)) = false := by decide) (hbase : attributeBase (.Name y q) name X.env (eval (.Name y q) X.env) = eval (.Name y q) X.env := by rfl) (hline : (apos.endLine == cpos.line) = true := by rfl) :
    PE X (.Call (.Attribute (.Name y q) name apos) [] [] cpos) (tE X.K C own (mthM i g aNil)) :=
  pe_imp (pe_bm0 pa slot hty hm (pv i hN hv hd hcd) hbase hline) fun σ H Q ⟨env, F0, hR, h⟩ => by
    have hi : i ∈ own := by simpa using hi
    unfold mthM at h
    split at h
    · rename_i d00 e0
      split at h
      · rename_i hl
        obtain ⟨p0, hp0, O0⟩ := hR.ow i d00 hi e0
        cases d00 <;> try cases hl
        obtain ⟨ws, a1, a2⟩ := O0.o
        exact ⟨_, hp0, .inl ⟨rfl, _, SqL.of a1⟩, mthOk hi hR hp0 .nil h⟩
      · exact h.elim
    · exact h.elim
/-- x[i] = v of a list of one's own -/
def setIx (xs : List D) (i : Int) (v : D) : R D := match ixN xs.length i with
  | some j => .ok (.lst (xs.set j v))
  | none => .no
def setS (i : Nat) (fv fi : EF) : SF := fun env => (fv env).toS fun p => match p.2[i]? with
  | some (some _) => (fi p.2).toS fun q => match q.2[i]?, q.1 with
    | some (some (.lst xs)), .int k => (setIx xs k p.1).toS fun d => .nx (q.2.set i (some d))
    | _, _ => .no
  | _ => .no
theorem sv_set {ol : List Nat} {a b : Expr} {fv fi : EF} {pos tpos : Pos} (i : Nat) (ha : PE X a (tE X.K C own fv)) (hb : PE X b (tE X.K C own fi)) (hi : own.contains i = true := by rfl) (hN : X.N[i]? = some y := by rfl) (hv : Vis X.env.scope y := by first | exact Or.inl rfl | exact Or.inr (Or.inl rfl) | exact Or.inr (Or.inr rfl)) (hd : (y == ("__debug__" : Str)) = false := by decide)
    (hcd : (y == ("__classdict__" : Str)) = false := by decide) (hs : swapsWithSole [.Subscript (.Name y q) b tpos] a pos.line X.env = pure false := by rfl) (hw : swappedStores [.Subscript (.Name y q) b tpos] a X.env = pure none := by rfl)
    (h1 : (assignEach [.Subscript (.Name y q) b tpos] X.env).map (·.2) = [assign (.Subscript (.Name y q) b tpos) X.env] := by rfl)
    (hsub : ∀ v, assign (.Subscript (.Name y q) b tpos) X.env v = (do
      let ov ← holding [v] (eval (.Name y q) X.env)
      let iv ← holding [v, ov] (eval b X.env)
      standAt tpos
      holding [v, ov, iv] (setItem ov iv v)
      release [v, ov, iv] []) := by intro _; rfl) :
    PS X (.Assign [.Subscript (.Name y q) b tpos] a pos) (tS X.K C own own ol (setS i fv fi)) :=
  ps_imp (ps_asg ha (pg_sub (pv i hN hv hd hcd) hb set_list hsub) hs hw h1) fun Dn σ H ⟨env, F, hR, h⟩ => by
    have hi : i ∈ own := by simpa using hi
    refine ⟨env, F, hR, (Sst.bind (show Sst X.K C own ol ((fv env).toS fun p => _) F Dn from h)).imp fun d e1 F1 H1 hR1 s1 h1 v r => ?_⟩
    dsimp only at h1
    split at h1
    · rename_i d00 e0
      obtain ⟨p0, hp0, O0⟩ := hR1.ow i d00 hi e0
      refine ⟨_, hp0, e1, F1, hR1, (Sst.bind h1).imp fun kd e2 F2 H2 hR2 s2 h2 iv ri => ?_⟩
      dsimp only at h2
      cases e3 : e2[i]? with
      | none => rw [e3] at h2; exact h2.elim
      | some od =>
        cases od with
        | none => rw [e3] at h2; exact h2.elim
        | some d0 =>
          rw [e3] at h2
          cases d0 <;> try exact h2.elim
          rename_i xs
          cases ri <;> try exact h2.elim
          rename_i k
          obtain ⟨p1, hp1, O⟩ := hR2.ow i _ hi e3
          rw [hp0] at hp1
          cases hp1
          obtain ⟨ws, a1, a2⟩ := O.o
          dsimp only at h2
          unfold setIx at h2
          cases ei : ixN xs.length k with
          | none => rw [ei] at h2; exact h2.elim
          | some j =>
            rw [ei] at h2
            exact ⟨p0, ws, k, j, rfl, rfl, a1, by rw [← a2.length]; exact ei, h2 σ F2 _ (hR2.chg hi e3 hp0 ⟨_, upd_same, Reps.set (r.mono s2) j a2⟩) (Same.refl _)⟩
    · exact h1.elim
end
end Dl

namespace Dl
open PySem PySem.Spec PyProof.Rows L2

/-! ### operators on data -/
def addD : D → D → R D
  | .int i, .int j => .ok (.int (i + j))
  | .str a, .str b => if a.length + b.length ≤ sizeLine then .ok (.str (a ++ b)) else .no
  | .tup xs, .tup ys => if xs.length + ys.length ≤ sizeLine then .ok (.tup (xs ++ ys)) else .no
  | .lst xs, .lst ys => if xs.length + ys.length ≤ sizeLine then .ok (.lst (xs ++ ys)) else .no
  | _, _ => .no
def intD (g : Int → Int → R Int) : D → D → R D
  | .int i, .int j => (g i j).bind fun k => .ok (.int k)
  | _, _ => .no
def subI (i j : Int) : R Int := .ok (i - j)
def mulI (i j : Int) : R Int := if i.natAbs < 2 ^ 64 ∨ j.natAbs < 2 ^ 64 then .ok (i * j) else if i.natAbs.log2 + j.natAbs.log2 < 1000000 then .ok (i * j) else .no
def fdivI (i j : Int) : R Int := if 0 < j ∧ j.toNat < 1073741824 then .ok (i / j) else .no
def modI (i j : Int) : R Int := if 0 < j then .ok (i % j) else .no
def powI (i j : Int) : R Int := if 0 ≤ j ∧ j.toNat ≤ 1000000 ∧ i.natAbs < 2 ^ 64 then .ok (i ^ j.toNat) else .no
def cmpI (p : Int → Int → Bool) : D → D → R D
  | .int i, .int j => .ok (.bl (p i j))
  | _, _ => .no
def ltD : D → D → R D
  | .int i, .int j => .ok (.bl (decide (i < j)))
  | .str a, .str b => .ok (.bl (decide (a.cps.toList < b.cps.toList)))
  | _, _ => .no
def leD : D → D → R D
  | .int i, .int j => .ok (.bl (decide (i ≤ j)))
  | .str a, .str b => .ok (.bl (!decide (b.cps.toList < a.cps.toList)))
  | _, _ => .no
def gtD : D → D → R D
  | .int i, .int j => .ok (.bl (decide (j < i)))
  | .str a, .str b => .ok (.bl (decide (b.cps.toList < a.cps.toList)))
  | _, _ => .no
def geD : D → D → R D
  | .int i, .int j => .ok (.bl (decide (j ≤ i)))
  | .str a, .str b => .ok (.bl (!decide (a.cps.toList < b.cps.toList)))
  | _, _ => .no
mutual
def pyD : D → Option PyData
  | .non => some .none
  | .bl b => some (.bool b)
  | .int i => some (.int i)
  | .str z => some (.str z)
  | .tup xs => (pyDs xs).map .tuple
  | .lst xs => (pyDs xs).map .list
  | .fro xs => (pyDs xs).map .list
  | _ => none
def pyDs : List D → Option (List PyData)
  | [] => some []
  | x :: xs => match pyD x, pyDs xs with
    | some d, some ds => some (d :: ds)
    | _, _ => none
end
def shpD (d : D) : Option PyData := match pyD d with
  | some e => if SeqAt.shaped e = true then some e else none
  | none => none
def eqDp (a b : D) : R D := match shpD a, shpD b with
  | some x, some y => .ok (.bl (PyData.eqv x y))
  | _, _ => .no
def neDp (a b : D) : R D := match shpD a, shpD b with
  | some x, some y => .ok (.bl (!PyData.eqv x y))
  | _, _ => .no
def eqD : D → D → R D
  | .str a, .str b => .ok (.bl (a == b))
  | a, b => eqDp a b
def neD : D → D → R D
  | .str a, .str b => .ok (.bl (!(a == b)))
  | a, b => neDp a b
def isD : D → D → R D
  | .non, .non => .ok (.bl true)
  | _, .non => .ok (.bl false)
  | .bl a, .bl b => .ok (.bl (decide (a = b)))
  | _, _ => .no
def isnD : D → D → R D
  | .non, .non => .ok (.bl false)
  | _, .non => .ok (.bl true)
  | .bl a, .bl b => .ok (.bl (!decide (a = b)))
  | _, _ => .no
def flatD : D → Bool
  | .non => true
  | .bl _ => true
  | .int _ => true
  | .str _ => true
  | _ => false
def eqF : D → D → Bool
  | .non, .non => true
  | .bl a, .bl b => a == b
  | .bl a, .int b => (if a then 1 else 0) == b
  | .int a, .bl b => a == (if b then 1 else 0)
  | .int a, .int b => a == b
  | .str a, .str b => a == b
  | _, _ => false
def hasD (x : D) (xs : List D) : Bool := xs.any fun y => eqF y x
def inD (neg : Bool) : D → D → R D
  | x, .lst xs => if flatD x = true ∧ xs.all flatD = true then .ok (.bl (if neg then !hasD x xs else hasD x xs)) else
      match shpD x, shpD (.lst xs) with
      | some d, some (.list ds) => .ok (.bl (if neg then !ds.any (fun z => PyData.eqv z d) else ds.any (fun z => PyData.eqv z d)))
      | _, _ => .no
  | x, .tup xs => if flatD x = true ∧ xs.all flatD = true then .ok (.bl (if neg then !hasD x xs else hasD x xs)) else .no
  | _, _ => .no
def ixD : D → D → R D
  | .lst xs, .int i => .ofOpt (atI xs i)
  | .fro xs, .int i => .ofOpt (atI xs i)
  | .tup xs, .int i => .ofOpt (atI xs i)
  | .str z, .int i => if z.length ≤ sizeLine then (R.ofOpt (atI z.cps.toList i)).bind fun c => .ok (.str ⟨#[c]⟩) else .no
  | _, _ => .no
def negD : D → R D
  | .int i => .ok (.int (-i))
  | _ => .no
def lenD : List D → R D
  | [.lst xs] => .ok (.int xs.length)
  | [.fro xs] => .ok (.int xs.length)
  | [.tup xs] => .ok (.int xs.length)
  | [.str z] => if z.length ≤ sizeLine then .ok (.int z.length) else .no
  | _ => .no
def intC : List D → R D
  | [.int i] => .ok (.int i)
  | [.bl k] => .ok (.int (if k then 1 else 0))
  | _ => .no
def absD : List D → R D
  | [.int i] => .ok (.int (if i < 0 then -i else i))
  | _ => .no
def max2D : List D → R D
  | [.int i, .int j] => .ok (.int (if j > i then j else i))
  | _ => .no
def min2D : List D → R D
  | [.int i, .int j] => .ok (.int (if j < i then j else i))
  | _ => .no
def strI : List D → R D
  | [.int i] => if i.natAbs.log2 < 1920 then .ok (.str (toString i)) else .no
  | _ => .no
def tupC : List D → R D
  | [.lst xs] => .ok (.tup xs)
  | [.fro xs] => .ok (.tup xs)
  | [.tup xs] => .ok (.tup xs)
  | _ => .no
def lstC : List D → R D
  | [.lst xs] => .ok (.lst xs)
  | [.fro xs] => .ok (.lst xs)
  | [.tup xs] => .ok (.lst xs)
  | _ => .no
def blsD : List D → Option (List Bool)
  | [] => some []
  | .bl b :: r => (blsD r).map (b :: ·)
  | _ => none
def allD : List D → R D
  | [.lst xs] => (R.ofOpt (blsD xs)).bind fun bs => .ok (.bl (bs.all id))
  | _ => .no
def anyD : List D → R D
  | [.lst xs] => (R.ofOpt (blsD xs)).bind fun bs => .ok (.bl (bs.any id))
  | _ => .no
def intsD : List D → Option (List Int)
  | [] => some []
  | .int b :: r => (intsD r).map (b :: ·)
  | _ => none
def sumD : List D → R D
  | [.lst xs] => (R.ofOpt (intsD xs)).bind fun bs => .ok (.int bs.sum)
  | _ => .no
def insI (x : Int) : List Int → List Int
  | [] => [x]
  | y :: r => if x ≤ y then x :: y :: r else y :: insI x r
def sortI : List Int → List Int
  | [] => []
  | x :: r => insI x (sortI r)
def sortD : List D → R D
  | [.lst xs] => (R.ofOpt (intsD xs)).bind fun bs => .ok (.lst ((sortI bs).map .int))
  | _ => .no
def typeD : List D → R D
  | [.ins c _] => .ok (.cod c)
  | [.int _] => .ok (.ty "int")
  | [.str _] => .ok (.ty "str")
  | [.bl _] => .ok (.ty "bool")
  | [.non] => .ok (.ty "NoneType")
  | [.lst _] => .ok (.ty "list")
  | [.fro _] => .ok (.ty "list")
  | [.tup _] => .ok (.ty "tuple")
  | _ => .no
def clsIsD : D → D → R D
  | .cod a, .cod b => .ok (.bl (decide (a = b)))
  | .ty _, .cod _ => .ok (.bl false)
  | _, _ => .no
def clsIsnD : D → D → R D
  | .cod a, .cod b => .ok (.bl (!decide (a = b)))
  | .ty _, .cod _ => .ok (.bl true)
  | _, _ => .no
def tagD : D → Option D
  | .non => some (.ty "NoneType")
  | .bl _ => some (.ty "bool")
  | .int _ => some (.ty "int")
  | .str _ => some (.ty "str")
  | .lst _ => some (.ty "list")
  | .tup _ => some (.ty "tuple")
  | .ins c _ => some (.cod c)
  | .dct _ => some (.ty "dict")
  | _ => none
def clsD : D → Bool
  | .ty _ => true
  | .cod _ => true
  | _ => false
def kindD (tab : D → D → Option Bool) (t : D) : List D → Option Bool
  | [] => some false
  | c :: r => match tab t c with
    | some true => if r.all clsD = true then some true else none
    | some false => kindD tab t r
    | none => none
def isiD (tab : D → D → Option Bool) : List D → R D
  | [x, c] => match tagD x with
    | some t => (R.ofOpt (tab t c)).bind fun b => .ok (.bl b)
    | none => .no
  | _ => .no
/-- isinstance(x, (c1, c2, ..)) -/
def isiTD (tab : D → D → Option Bool) (cs : List D) (x : D) : R D := match tagD x with
    | some t => (R.ofOpt (kindD tab t cs)).bind fun b => .ok (.bl b)
    | none => .no
def tyVal (ca : CA) : D → Option Value
  | .ty n => some (.type n)
  | .cod k => some (.ref (ca k))
  | _ => none
/-- what tab tells is so -/
def TabOk (K : PySem.W.Frag) (ca : CA) (tab : D → D → Option Bool) : Prop := ∀ t c b, tab t c = some b → (∀ k, t = .cod k → ca.ok k = true) → (∀ k, c = .cod k → ca.ok k = true) → ∃ u v, tyVal ca t = some u ∧ tyVal ca c = some v ∧ PySem.W.kitOne K u v = some b
structure ClsI (K : PySem.W.Frag) (C : Addr) : Prop where
  cl : Cls K C
  ha : PySem.W.findIn K (.ref C) "__class__" = some (some (.builtin "object.__class__"))
  hn : PySem.W.specialIn K (.builtin "object.__class__") "__get__" = some (some (.builtin "getset_descriptor.__get__"))
  ht : PySem.W.takesIn K (.builtin "object.__class__") = some true
  hm : PySem.W.mroIn K C (.type "object") = some true
  ml : PySem.W.makesIn K C = true

section
variable {X : Cx} {ca : CA}
theorem ofOpt_ne {α : Type} {o : Option α} {c : Nat} {fs : List (Str × D)} : R.ofOpt o ≠ .ex c fs := fun z => by cases o <;> cases z
theorem ofOpt_eq {α : Type} {o : Option α} {a : α} (h : R.ofOpt o = .ok a) : o = some a := by
  cases o with
  | none => cases h
  | some b => cases h; rfl
theorem bind_ne {α β : Type} {r : R α} {f : α → R β} {c : Nat} {fs : List (Str × D)} (h : r ≠ .ex c fs) (h2 : ∀ a, f a ≠ .ex c fs) : r.bind f ≠ .ex c fs := fun z => by
  cases r with
  | ok a => exact h2 a z
  | ex c' fs' => cases z; exact h rfl
  | no => cases z
theorem addD_ne : ∀ x y c fs, addD x y ≠ .ex c fs := fun x y c fs z => by
  unfold addD at z
  split at z <;> (first | cases z | (split at z <;> cases z))
theorem oo_add : OpR X (binaryOp .Add) (r2 X.K ca addD) := fun pins s σ H x y v u Q I rx ry ⟨F, a, b, d, sub, ra, rb, hg, q⟩ => by
  unfold addD at hg
  split at hg
  · cases hg; cases ra; cases rb
    exact op_add pins s σ H _ _ v u Q I rx ry ⟨_, _, rfl, rfl, q _ F H (.refl sub) (.int _)⟩
  · split at hg
    · rename_i hl
      cases hg; cases ra; cases rb
      exact op_add_str pins s σ H _ _ v u Q I rx ry ⟨_, _, rfl, rfl, hl, q _ F H (.refl sub) (.str _)⟩
    · cases hg
  · split at hg
    · rename_i hl
      cases hg
      cases ra with
      | tup ha rs =>
        cases rb with
        | tup hb rs' =>
          refine op_catA pins s σ H _ _ v u Q I rx ry ⟨_, _, _, _, rfl, rfl, Same.seqT sub ha, Same.seqT sub hb, by rw [← rs.length, ← rs'.length]; exact hl, fun e => ?_, fun e1 e2 => ?_, fun e1 e2 p hp => ?_⟩
          · subst e
            cases rs
            exact q _ F H (.refl sub) (.tup hb rs')
          · subst e2
            cases rs'
            rw [List.append_nil] at q
            exact q _ F H (.refl sub) (.tup ha rs)
          · exact q _ _ _ (Stp.new sub hp) (.tup (.of upd_same) ((rs.append rs').mono (same_upd (sub.free hp))))
    · cases hg
  · split at hg
    · rename_i hl
      cases hg
      cases ra with
      | lst ha rs =>
        cases rb with
        | lst hb rs' =>
          refine op_cat pins s σ H _ _ v u Q I rx ry ⟨_, _, _, _, rfl, rfl, sub _ _ ha, sub _ _ hb, by rw [← rs.length, ← rs'.length]; exact hl, fun p hp => ?_⟩
          exact q _ _ _ (Stp.new sub hp) (.lst upd_same ((rs.append rs').mono (same_upd (sub.free hp))))
    · cases hg
  · cases hg
theorem intD_ne {g : Int → Int → R Int} (h : ∀ i j c fs, g i j ≠ .ex c fs) : ∀ x y c fs, intD g x y ≠ .ex c fs := fun x y c fs z => by
  unfold intD at z
  split at z
  · exact bind_ne (h _ _ _ _) (fun a z => by cases z) z
  · cases z
theorem oo_int {op : Operator} {g : Int → Int → R Int} (h : ∀ (i j k : Int), g i j = .ok k → ∀ pins s σ H (v u : Value) (Q : VK), Inv X pins σ H s → RelV (.int i) v → RelV (.int j) u → Q (.int k) H → wpAny (model X.prog X.w) X.A (binaryOp op v u) (EP X pins σ Q) X.xe s) :
    OpR X (binaryOp op) (r2 X.K ca (intD g)) := fun pins s σ H x y v u Q I rx ry ⟨F, a, b, d, sub, ra, rb, hg, q⟩ => by
  unfold intD at hg
  split at hg
  · rename_i i j
    cases ra; cases rb
    cases e : g i j with
    | ok k =>
      rw [e] at hg
      cases hg
      exact h i j k e pins s σ H v u Q I rx ry (q _ F H (.refl sub) (.int _))
    | ex c fs => rw [e] at hg; cases hg
    | no => rw [e] at hg; cases hg
  · cases hg
theorem subI_ne : ∀ i j c fs, subI i j ≠ .ex c fs := fun _ _ _ _ z => by cases z
theorem mulI_ne : ∀ i j c fs, mulI i j ≠ .ex c fs := fun _ _ _ _ z => by
  unfold mulI at z
  split at z
  · cases z
  · split at z <;> cases z
theorem fdivI_ne : ∀ i j c fs, fdivI i j ≠ .ex c fs := fun _ _ _ _ z => by
  unfold fdivI at z
  split at z <;> cases z
theorem modI_ne : ∀ i j c fs, modI i j ≠ .ex c fs := fun _ _ _ _ z => by
  unfold modI at z
  split at z <;> cases z
theorem powI_ne : ∀ i j c fs, powI i j ≠ .ex c fs := fun _ _ _ _ z => by
  unfold powI at z
  split at z <;> cases z
theorem oo_sub : OpR X (binaryOp .Sub) (r2 X.K ca (intD subI)) := oo_int fun i j k e pins s σ H v u Q I rx ry q => by
  cases e
  exact op_sub pins s σ H _ _ v u Q I rx ry ⟨_, _, rfl, rfl, q⟩
theorem oo_mul : OpR X (binaryOp .Mult) (r2 X.K ca (intD mulI)) := oo_int fun i j k e pins s σ H v u Q I rx ry q => by
  unfold mulI at e
  split at e
  · rename_i h
    cases e
    refine op_mul pins s σ H _ _ v u Q I rx ry ⟨_, _, rfl, rfl, ?_, q⟩
    rcases h with h | h
    · exact .inl ⟨by omega, by omega⟩
    · exact .inr ⟨by omega, by omega⟩
  · split at e
    · rename_i h
      cases e
      exact op_mulW pins s σ H _ _ v u Q I rx ry ⟨_, _, rfl, rfl, h, q⟩
    · cases e
theorem oo_fdiv : OpR X (binaryOp .FloorDiv) (r2 X.K ca (intD fdivI)) := oo_int fun i j k e pins s σ H v u Q I rx ry q => by
  unfold fdivI at e
  split at e
  · rename_i h
    cases e
    exact op_fdiv pins s σ H _ _ v u Q I rx ry ⟨_, _, rfl, rfl, ⟨h.1, by omega⟩, q⟩
  · cases e
theorem oo_mod : OpR X (binaryOp .Mod) (r2 X.K ca (intD modI)) := oo_int fun i j k e pins s σ H v u Q I rx ry q => by
  unfold modI at e
  split at e
  · rename_i h
    cases e
    exact op_mod pins s σ H _ _ v u Q I rx ry ⟨_, _, rfl, rfl, h, q⟩
  · cases e
theorem oo_pow : OpR X (binaryOp .Pow) (r2 X.K ca (intD powI)) := oo_int fun i j k e pins s σ H v u Q I rx ry q => by
  unfold powI at e
  split at e
  · rename_i h
    cases e
    exact op_pow pins s σ H _ _ v u Q I rx ry ⟨_, _, rfl, rfl, ⟨h.1, by omega, h.2.2⟩, q⟩
  · cases e
theorem ltD_ne : ∀ x y c fs, ltD x y ≠ .ex c fs := fun x y c fs z => by unfold ltD at z; split at z <;> cases z
theorem leD_ne : ∀ x y c fs, leD x y ≠ .ex c fs := fun x y c fs z => by unfold leD at z; split at z <;> cases z
theorem gtD_ne : ∀ x y c fs, gtD x y ≠ .ex c fs := fun x y c fs z => by unfold gtD at z; split at z <;> cases z
theorem geD_ne : ∀ x y c fs, geD x y ≠ .ex c fs := fun x y c fs z => by unfold geD at z; split at z <;> cases z
theorem oo_lt : OpR X (compareOp .Lt) (r2 X.K ca ltD) := fun pins s σ H x y v u Q I rx ry ⟨F, a, b, d, sub, ra, rb, hg, q⟩ => by
  unfold ltD at hg
  split at hg
  · cases hg; cases ra; cases rb
    exact op_lt pins s σ H _ _ v u Q I rx ry ⟨_, _, rfl, rfl, q _ F H (.refl sub) (.bl _)⟩
  · cases hg; cases ra; cases rb
    exact op_lt_str pins s σ H _ _ v u Q I rx ry ⟨_, _, rfl, rfl, q _ F H (.refl sub) (.bl _)⟩
  · cases hg
theorem oo_le : OpR X (compareOp .LtE) (r2 X.K ca leD) := fun pins s σ H x y v u Q I rx ry ⟨F, a, b, d, sub, ra, rb, hg, q⟩ => by
  unfold leD at hg
  split at hg
  · cases hg; cases ra; cases rb
    exact op_le pins s σ H _ _ v u Q I rx ry ⟨_, _, rfl, rfl, q _ F H (.refl sub) (.bl _)⟩
  · cases hg; cases ra; cases rb
    exact op_le_str pins s σ H _ _ v u Q I rx ry ⟨_, _, rfl, rfl, q _ F H (.refl sub) (.bl _)⟩
  · cases hg
theorem oo_gt : OpR X (compareOp .Gt) (r2 X.K ca gtD) := fun pins s σ H x y v u Q I rx ry ⟨F, a, b, d, sub, ra, rb, hg, q⟩ => by
  unfold gtD at hg
  split at hg
  · cases hg; cases ra; cases rb
    exact op_gt pins s σ H _ _ v u Q I rx ry ⟨_, _, rfl, rfl, q _ F H (.refl sub) (.bl _)⟩
  · cases hg; cases ra; cases rb
    exact op_gt_str pins s σ H _ _ v u Q I rx ry ⟨_, _, rfl, rfl, q _ F H (.refl sub) (.bl _)⟩
  · cases hg
theorem oo_ge : OpR X (compareOp .GtE) (r2 X.K ca geD) := fun pins s σ H x y v u Q I rx ry ⟨F, a, b, d, sub, ra, rb, hg, q⟩ => by
  unfold geD at hg
  split at hg
  · cases hg; cases ra; cases rb
    exact op_ge pins s σ H _ _ v u Q I rx ry ⟨_, _, rfl, rfl, q _ F H (.refl sub) (.bl _)⟩
  · cases hg; cases ra; cases rb
    exact op_ge_str pins s σ H _ _ v u Q I rx ry ⟨_, _, rfl, rfl, q _ F H (.refl sub) (.bl _)⟩
  · cases hg
mutual
theorem pyD_dp {K : PySem.W.Frag} {F H : Hp} (s : Same F H) : ∀ {d : D} {v : V} {e : PyData}, Rep K ca F d v → pyD d = some e → Dp K H v e
  | _, _, _, .non, h => by cases h; exact .non
  | _, _, _, .bl b, h => by cases h; exact .bl b
  | _, _, _, .int i, h => by cases h; exact .int i
  | _, _, _, .str z, h => by cases h; exact .str z
  | _, _, _, .tup (xs := xs) hp r, h => by
    unfold pyD at h
    cases e : pyDs xs with
    | none => rw [e] at h; cases h
    | some ds => rw [e] at h; cases h; exact .tup (Same.seqT s hp) (pyDs_dp s r e)
  | _, _, _, .lst (xs := xs) hp r, h => by
    unfold pyD at h
    cases e : pyDs xs with
    | none => rw [e] at h; cases h
    | some ds => rw [e] at h; cases h; exact .lst (.of (s _ _ hp)) (pyDs_dp s r e)
  | _, _, _, .fro (xs := xs) hp r, h => by
    unfold pyD at h
    cases e : pyDs xs with
    | none => rw [e] at h; cases h
    | some ds => rw [e] at h; cases h; exact .lst (s.seq hp) (pyDs_dp s r e)
  | _, _, _, .ins _ _ _, h => by cases h
  | _, _, _, .cod _ _, h => by cases h
  | _, _, _, .ty _, h => by cases h
  | _, _, _, .fn _, h => by cases h
  | _, _, _, .dK _ _ _, h => by cases h
  | _, _, _, .dT _ _ _, h => by cases h
  | _, _, _, .setK _ _ _ _, h => by cases h
theorem pyDs_dp {K : PySem.W.Frag} {F H : Hp} (s : Same F H) : ∀ {d : List D} {v : List V} {e : List PyData}, Reps K ca F d v → pyDs d = some e → DpAll K H v e
  | _, _, _, .nil, h => by cases h; exact .nil
  | _, _, _, .cons (d := d) (ds := ds) r rs, h => by
    unfold pyDs at h
    cases e1 : pyD d with
    | none => rw [e1] at h; cases h
    | some x =>
      cases e2 : pyDs ds with
      | none => rw [e1, e2] at h; cases h
      | some xs =>
        rw [e1, e2] at h
        cases h
        exact .cons (pyD_dp s r e1) (pyDs_dp s rs e2)
end
theorem shpD_eq {d : D} {e : PyData} (h : shpD d = some e) : pyD d = some e ∧ SeqAt.shaped e = true := by
  unfold shpD at h
  cases q : pyD d with
  | none => rw [q] at h; cases h
  | some x =>
    rw [q] at h
    dsimp only at h
    split at h
    · rename_i hs
      cases h
      exact ⟨rfl, hs⟩
    · cases h
theorem eqDp_ne : ∀ x y c fs, eqDp x y ≠ .ex c fs := fun x y c fs z => by unfold eqDp at z; split at z <;> cases z
theorem neDp_ne : ∀ x y c fs, neDp x y ≠ .ex c fs := fun x y c fs z => by unfold neDp at z; split at z <;> cases z
theorem eqD_ne : ∀ x y c fs, eqD x y ≠ .ex c fs := fun x y c fs z => by
  unfold eqD at z
  split at z
  · cases z
  · exact eqDp_ne _ _ _ _ z
theorem neD_ne : ∀ x y c fs, neD x y ≠ .ex c fs := fun x y c fs z => by
  unfold neD at z
  split at z
  · cases z
  · exact neDp_ne _ _ _ _ z
theorem dec_strV {a b : Str} : decide (V.str a = V.str b) = (a == b) := by
  rw [Bool.eq_iff_iff]
  simp
theorem oo_eqp (hu : X.A.units + 64 < cLine) : OpR X (compareOp .Eq) (r2 X.K ca eqDp) := fun pins s σ H x y v u Q I rx ry ⟨F, a, b, d, sub, ra, rb, hg, q⟩ => by
  unfold eqDp at hg
  split at hg
  · rename_i p1 p2 e1 e2
    cases hg
    obtain ⟨a1, a2⟩ := shpD_eq e1
    obtain ⟨b1, b2⟩ := shpD_eq e2
    exact op_eqD hu pins s σ H _ _ v u Q I rx ry ⟨_, _, pyD_dp sub ra a1, pyD_dp sub rb b1, a2, b2, q _ F H (.refl sub) (.bl _)⟩
  · cases hg
theorem oo_nep (hu : X.A.units + 64 < cLine) : OpR X (compareOp .NotEq) (r2 X.K ca neDp) := fun pins s σ H x y v u Q I rx ry ⟨F, a, b, d, sub, ra, rb, hg, q⟩ => by
  unfold neDp at hg
  split at hg
  · rename_i p1 p2 e1 e2
    cases hg
    obtain ⟨a1, a2⟩ := shpD_eq e1
    obtain ⟨b1, b2⟩ := shpD_eq e2
    exact op_neD hu pins s σ H _ _ v u Q I rx ry ⟨_, _, pyD_dp sub ra a1, pyD_dp sub rb b1, a2, b2, q _ F H (.refl sub) (.bl _)⟩
  · cases hg
theorem oo_eq (hu : X.A.units + 64 < cLine) : OpR X (compareOp .Eq) (r2 X.K ca eqD) := fun pins s σ H x y v u Q I rx ry ⟨F, a, b, d, sub, ra, rb, hg, q⟩ => by
  unfold eqD at hg
  split at hg
  · cases hg
    cases ra
    cases rb
    exact op_eq pins s σ H _ _ v u Q I rx ry ⟨rfl, by rw [dec_strV]; exact q _ F H (.refl sub) (.bl _)⟩
  · exact oo_eqp hu pins s σ H x y v u Q I rx ry ⟨F, a, b, d, sub, ra, rb, hg, q⟩
theorem oo_ne (hu : X.A.units + 64 < cLine) : OpR X (compareOp .NotEq) (r2 X.K ca neD) := fun pins s σ H x y v u Q I rx ry ⟨F, a, b, d, sub, ra, rb, hg, q⟩ => by
  unfold neD at hg
  split at hg
  · cases hg
    cases ra
    cases rb
    exact op_ne pins s σ H _ _ v u Q I rx ry ⟨rfl, by rw [dec_strV]; exact q _ F H (.refl sub) (.bl _)⟩
  · exact oo_nep hu pins s σ H x y v u Q I rx ry ⟨F, a, b, d, sub, ra, rb, hg, q⟩
theorem isD_ne : ∀ x y c fs, isD x y ≠ .ex c fs := fun x y c fs z => by unfold isD at z; split at z <;> cases z
theorem isnD_ne : ∀ x y c fs, isnD x y ≠ .ex c fs := fun x y c fs z => by unfold isnD at z; split at z <;> cases z
theorem rep_non {K : PySem.W.Frag} {F : Hp} {d : D} {v : V} (r : Rep K ca F d v) (h : d ≠ .non) : v ≠ .non := by
  cases r <;> first | exact absurd rfl h | (intro z; cases z)
theorem oo_is : OpR X (compareOp .Is) (r2 X.K ca isD) := fun pins s σ H x y v u Q I rx ry ⟨F, a, b, d, sub, ra, rb, hg, q⟩ => by
  unfold isD at hg
  split at hg
  · cases hg; cases ra; cases rb
    exact op_isN pins s σ H _ _ v u Q I rx ry ⟨rfl, q _ F H (.refl sub) (.bl _)⟩
  · rename_i hne
    cases hg
    have hx := rep_non ra hne
    cases rb
    refine op_isN pins s σ H _ _ v u Q I rx ry ⟨rfl, ?_⟩
    rw [decide_eq_false hx]
    exact q _ F H (.refl sub) (.bl _)
  · cases hg; cases ra; cases rb
    exact op_is_bl pins s σ H _ _ v u Q I rx ry ⟨_, _, rfl, rfl, q _ F H (.refl sub) (.bl _)⟩
  · cases hg
theorem oo_isn : OpR X (compareOp .IsNot) (r2 X.K ca isnD) := fun pins s σ H x y v u Q I rx ry ⟨F, a, b, d, sub, ra, rb, hg, q⟩ => by
  unfold isnD at hg
  split at hg
  · cases hg; cases ra; cases rb
    exact op_notN pins s σ H _ _ v u Q I rx ry ⟨rfl, q _ F H (.refl sub) (.bl _)⟩
  · rename_i hne
    cases hg
    have hx := rep_non ra hne
    cases rb
    refine op_notN pins s σ H _ _ v u Q I rx ry ⟨rfl, ?_⟩
    rw [decide_eq_false hx]
    exact q _ F H (.refl sub) (.bl _)
  · cases hg; cases ra; cases rb
    exact op_isnot_bl pins s σ H _ _ v u Q I rx ry ⟨_, _, rfl, rfl, q _ F H (.refl sub) (.bl _)⟩
  · cases hg
end
end Dl

namespace Dl
open PySem PySem.Spec PyProof.Rows L2
section
variable {X : Cx} {ca : CA} {K : PySem.W.Frag} {F H : Hp}
theorem flat_rep {d : D} {v : V} (r : Rep K ca F d v) (h : flatD d = true) : flatV v = true := by
  cases r <;> first | rfl | cases h
theorem eqF_rep {a b : D} {v w : V} (r : Rep K ca F a v) (q : Rep K ca F b w) (h1 : flatD a = true) (h2 : flatD b = true) : eqV v w = eqF a b := by
  cases r <;> first | (cases q <;> first | rfl | cases h2) | cases h1
theorem all_flat : ∀ {xs : List D} {vs : List V}, Reps K ca F xs vs → xs.all flatD = true → vs.all flatV = true
  | _, _, .nil, _ => rfl
  | _, _, .cons r rs, h => by
    rw [List.all_cons, Bool.and_eq_true] at h ⊢
    exact ⟨flat_rep r h.1, all_flat rs h.2⟩
theorem has_rep {x : D} {v : V} (r : Rep K ca F x v) (hx : flatD x = true) : ∀ {xs : List D} {vs : List V}, Reps K ca F xs vs → xs.all flatD = true → inV v vs = hasD x xs
  | _, _, .nil, _ => rfl
  | _, _, .cons q qs, h => by
    rw [List.all_cons, Bool.and_eq_true] at h
    unfold inV hasD
    rw [List.any_cons, List.any_cons, eqF_rep q r h.1 hx]
    exact congrArg _ (has_rep r hx qs h.2)
theorem inD_ne {neg : Bool} : ∀ x y c fs, inD neg x y ≠ .ex c fs := fun x y c fs z => by
  unfold inD at z
  split at z
  · split at z
    · cases z
    · split at z <;> cases z
  · split at z <;> cases z
  · cases z
theorem oo_in (hu : X.A.units + 65 < cLine) : OpR X (compareOp .In) (r2 X.K ca (inD false)) := fun pins s σ H x y v u Q I rx ry ⟨F, a, b, d, sub, ra, rb, hg, q⟩ => by
  unfold inD at hg
  split at hg
  · split at hg
    · rename_i hf
      cases hg
      cases rb with
      | lst hb rs =>
        refine op_in_seq pins s σ H _ _ v u Q I rx ry ⟨_, _, rfl, .inl (SqL.of (sub _ _ hb)), flat_rep ra hf.1, all_flat rs hf.2, ?_⟩
        rw [if_neg Bool.false_ne_true, has_rep ra hf.1 rs hf.2]
        exact q _ F H (.refl sub) (.bl _)
    · split at hg
      · rename_i e1 e2
        cases hg
        obtain ⟨a1, a2⟩ := shpD_eq e1
        obtain ⟨b1, b2⟩ := shpD_eq e2
        exact op_inD hu pins s σ H _ _ v u Q I rx ry ⟨_, _, pyD_dp sub ra a1, pyD_dp sub rb b1, a2, b2, q _ F H (.refl sub) (.bl _)⟩
      · cases hg
  · split at hg
    · rename_i hf
      cases hg
      cases rb with
      | tup hb rs =>
        refine op_in_seq pins s σ H _ _ v u Q I rx ry ⟨_, _, rfl, .inr (Same.seqT sub hb), flat_rep ra hf.1, all_flat rs hf.2, ?_⟩
        rw [if_neg Bool.false_ne_true, has_rep ra hf.1 rs hf.2]
        exact q _ F H (.refl sub) (.bl _)
    · cases hg
  · cases hg
theorem oo_nin (hu : X.A.units + 65 < cLine) : OpR X (compareOp .NotIn) (r2 X.K ca (inD true)) := fun pins s σ H x y v u Q I rx ry ⟨F, a, b, d, sub, ra, rb, hg, q⟩ => by
  unfold inD at hg
  split at hg
  · split at hg
    · rename_i hf
      cases hg
      cases rb with
      | lst hb rs =>
        refine op_notIn_seq pins s σ H _ _ v u Q I rx ry ⟨_, _, rfl, .inl (SqL.of (sub _ _ hb)), flat_rep ra hf.1, all_flat rs hf.2, ?_⟩
        rw [if_pos rfl, has_rep ra hf.1 rs hf.2]
        exact q _ F H (.refl sub) (.bl _)
    · split at hg
      · rename_i e1 e2
        cases hg
        obtain ⟨a1, a2⟩ := shpD_eq e1
        obtain ⟨b1, b2⟩ := shpD_eq e2
        exact op_notInD hu pins s σ H _ _ v u Q I rx ry ⟨_, _, pyD_dp sub ra a1, pyD_dp sub rb b1, a2, b2, q _ F H (.refl sub) (.bl _)⟩
      · cases hg
  · split at hg
    · rename_i hf
      cases hg
      cases rb with
      | tup hb rs =>
        refine op_notIn_seq pins s σ H _ _ v u Q I rx ry ⟨_, _, rfl, .inr (Same.seqT sub hb), flat_rep ra hf.1, all_flat rs hf.2, ?_⟩
        rw [if_pos rfl, has_rep ra hf.1 rs hf.2]
        exact q _ F H (.refl sub) (.bl _)
    · cases hg
  · cases hg
/-- x in y of two texts -/
def inStrD (neg : Bool) : D → D → R D
  | .str i, .str j => .ok (.bl (if neg then !(!(Builtin.Str.occurrences j i 0 j.length 1).isEmpty) else !(Builtin.Str.occurrences j i 0 j.length 1).isEmpty))
  | _, _ => .no
theorem atI_rep {xs : List D} {vs : List V} {i : Int} {d : D} (r : Reps K ca F xs vs) (h : atI xs i = some d) : ∃ v, atI vs i = some v ∧ Rep K ca F d v := by
  unfold atI at h ⊢
  rw [← r.length]
  cases e : ixN xs.length i with
  | none => rw [e] at h; cases h
  | some j =>
    rw [e] at h
    exact r.get h
theorem ixD_ne : ∀ x y c fs, ixD x y ≠ .ex c fs := fun x y c fs z => by
  unfold ixD at z
  split at z
  · exact ofOpt_ne z
  · exact ofOpt_ne z
  · exact ofOpt_ne z
  · split at z
    · exact bind_ne ofOpt_ne (fun a z => by cases z) z
    · cases z
  · cases z
theorem oo_ix : IxR X (r2 X.K ca ixD) := fun value slice pins s σ H x y v u Q I rx ry ⟨F, a, b, d, sub, ra, rb, hg, q⟩ hs => by
  unfold ixD at hg
  split at hg
  · have hg := ofOpt_eq hg
    cases rb
    cases ra with
    | lst ha rs =>
      obtain ⟨w, h1, h2⟩ := atI_rep rs hg
      exact ix_list value slice pins s σ H _ _ v u Q I rx ry ⟨_, _, _, _, rfl, rfl, SqL.of (sub _ _ ha), h1, q _ F H (.refl sub) h2⟩ hs
  · have hg := ofOpt_eq hg
    cases rb
    cases ra with
    | fro ha rs =>
      obtain ⟨w, h1, h2⟩ := atI_rep rs hg
      exact ix_list value slice pins s σ H _ _ v u Q I rx ry ⟨_, _, _, _, rfl, rfl, Same.seq sub ha, h1, q _ F H (.refl sub) h2⟩ hs
  · have hg := ofOpt_eq hg
    cases rb
    cases ra with
    | tup ha rs =>
      obtain ⟨w, h1, h2⟩ := atI_rep rs hg
      exact ix_tup value slice pins s σ H _ _ v u Q I rx ry ⟨_, _, _, _, rfl, rfl, Same.seqT sub ha, h1, q _ F H (.refl sub) h2⟩ hs
  · split at hg
    · rename_i hl
      cases ra; cases rb
      obtain ⟨c, hc, he⟩ := R.bind_eq_ok hg
      cases he
      exact ix_str value slice pins s σ H _ _ v u Q I rx ry ⟨_, _, _, rfl, rfl, hl, ofOpt_eq hc, q _ F H (.refl sub) (.str _)⟩ hs
    · cases hg
  · cases hg
theorem negD_ne : ∀ x c fs, negD x ≠ .ex c fs := fun x c fs z => by unfold negD at z; split at z <;> cases z
theorem oo_neg : UnR X (unaryOp .USub) (r1 X.K ca negD) := fun pins s σ H x v Q I rx ⟨F, a, d, sub, ra, hg, q⟩ => by
  unfold negD at hg
  split at hg
  · cases hg; cases ra
    exact un_neg pins s σ H _ v Q I rx ⟨_, rfl, q _ F H (.refl sub) (.int _)⟩
  · cases hg
/-! ### calls -/
theorem lenD_ne : ∀ x c fs, lenD x ≠ .ex c fs := fun x c fs z => by
  unfold lenD at z
  split at z <;> (first | cases z | (split at z <;> cases z))
theorem oc_len : CallR X (.builtin "len") (rN X.K ca lenD) := fun pins s σ H xs us Q I r ⟨F, ds, d, sub, rs, hg, q⟩ => by
  unfold lenD at hg
  split at hg
  · cases hg
    cases rs with
    | cons r1 rs =>
      cases rs
      cases r1 with
      | lst ha ra =>
        refine call_len_seq pins s σ H _ us Q I r ⟨_, _, rfl, .inl (SqL.of (sub _ _ ha)), ?_⟩
        rw [← ra.length]
        exact q _ F H (.refl sub) (.int _)
  · cases hg
    cases rs with
    | cons r1 rs =>
      cases rs
      cases r1 with
      | fro ha ra =>
        refine call_len_seq pins s σ H _ us Q I r ⟨_, _, rfl, .inl (Same.seq sub ha), ?_⟩
        rw [← ra.length]
        exact q _ F H (.refl sub) (.int _)
  · cases hg
    cases rs with
    | cons r1 rs =>
      cases rs
      cases r1 with
      | tup ha ra =>
        refine call_len_seq pins s σ H _ us Q I r ⟨_, _, rfl, .inr (Same.seqT sub ha), ?_⟩
        rw [← ra.length]
        exact q _ F H (.refl sub) (.int _)
  · split at hg
    · rename_i hl
      cases hg
      cases rs with
      | cons r1 rs =>
        cases rs
        cases r1
        exact call_len_str pins s σ H _ us Q I r ⟨_, rfl, hl, q _ F H (.refl sub) (.int _)⟩
    · cases hg
  · cases hg
theorem intC_ne : ∀ x c fs, intC x ≠ .ex c fs := fun x c fs z => by unfold intC at z; split at z <;> cases z
theorem oc_int : CallR X (.type "int") (rN X.K ca intC) := fun pins s σ H xs us Q I r ⟨F, ds, d, sub, rs, hg, q⟩ => by
  unfold intC at hg
  split at hg
  · cases hg
    cases rs with
    | cons r1 rs => cases rs; cases r1; exact call_int1 pins s σ H _ us Q I r (.inl ⟨_, rfl, q _ F H (.refl sub) (.int _)⟩)
  · cases hg
    cases rs with
    | cons r1 rs => cases rs; cases r1; exact call_int1 pins s σ H _ us Q I r (.inr ⟨_, rfl, q _ F H (.refl sub) (.int _)⟩)
  · cases hg
theorem absD_ne : ∀ x c fs, absD x ≠ .ex c fs := fun x c fs z => by unfold absD at z; split at z <;> cases z
theorem oc_abs : CallR X (.builtin "abs") (rN X.K ca absD) := fun pins s σ H xs us Q I r ⟨F, ds, d, sub, rs, hg, q⟩ => by
  unfold absD at hg
  split at hg
  · cases hg
    cases rs with
    | cons r1 rs => cases rs; cases r1; exact call_abs pins s σ H _ us Q I r ⟨_, rfl, q _ F H (.refl sub) (.int _)⟩
  · cases hg
theorem max2D_ne : ∀ x c fs, max2D x ≠ .ex c fs := fun x c fs z => by unfold max2D at z; split at z <;> cases z
theorem min2D_ne : ∀ x c fs, min2D x ≠ .ex c fs := fun x c fs z => by unfold min2D at z; split at z <;> cases z
theorem oc_max2 (hc : X.calm = true) : CallR X (.builtin "max") (rN X.K ca max2D) := fun pins s σ H xs us Q I r ⟨F, ds, d, sub, rs, hg, q⟩ => by
  unfold max2D at hg
  split at hg
  · cases hg
    cases rs with
    | cons r1 rs =>
      cases rs with
      | cons r2 rs => cases rs; cases r1; cases r2; exact call_max2 hc pins s σ H _ us Q I r ⟨_, _, rfl, q _ F H (.refl sub) (.int _)⟩
  · cases hg
theorem oc_min2 (hc : X.calm = true) : CallR X (.builtin "min") (rN X.K ca min2D) := fun pins s σ H xs us Q I r ⟨F, ds, d, sub, rs, hg, q⟩ => by
  unfold min2D at hg
  split at hg
  · cases hg
    cases rs with
    | cons r1 rs =>
      cases rs with
      | cons r2 rs => cases rs; cases r1; cases r2; exact call_min2 hc pins s σ H _ us Q I r ⟨_, _, rfl, q _ F H (.refl sub) (.int _)⟩
  · cases hg
theorem strI_ne : ∀ x c fs, strI x ≠ .ex c fs := fun x c fs z => by
  unfold strI at z
  split at z
  · split at z <;> cases z
  · cases z
theorem oc_str : CallR X (.type "str") (rN X.K ca strI) := fun pins s σ H xs us Q I r ⟨F, ds, d, sub, rs, hg, q⟩ => by
  unfold strI at hg
  split at hg
  · split at hg
    · rename_i hl
      cases hg
      cases rs with
      | cons r1 rs => cases rs; cases r1; exact call_str_int pins s σ H _ us Q I r ⟨_, rfl, hl, q _ F H (.refl sub) (.str _)⟩
    · cases hg
  · cases hg
theorem tupC_ne : ∀ x c fs, tupC x ≠ .ex c fs := fun x c fs z => by unfold tupC at z; split at z <;> cases z
theorem oc_tuple : CallR X (.type "tuple") (rN X.K ca tupC) := fun pins s σ H xs us Q I r ⟨F, ds, d, sub, rs, hg, q⟩ => by
  unfold tupC at hg
  split at hg
  · cases hg
    cases rs with
    | cons r1 rs =>
      cases rs
      cases r1 with
      | lst ha ra => exact call_tuple_of pins s σ H _ us Q I r ⟨_, _, rfl, .inl ⟨SqL.of (sub _ _ ha), fun l hl => q _ _ _ (Stp.new sub hl) (.tup (.of upd_same) (ra.mono (same_upd (sub.free hl))))⟩⟩
  · cases hg
    cases rs with
    | cons r1 rs =>
      cases rs
      cases r1 with
      | fro ha ra => exact call_tuple_of pins s σ H _ us Q I r ⟨_, _, rfl, .inl ⟨Same.seq sub ha, fun l hl => q _ _ _ (Stp.new sub hl) (.tup (.of upd_same) (ra.mono (same_upd (sub.free hl))))⟩⟩
  · cases hg
    cases rs with
    | cons r1 rs =>
      cases rs
      cases r1 with
      | tup ha ra => exact call_tuple_of pins s σ H _ us Q I r ⟨_, _, rfl, .inr ⟨Same.seqT sub ha, q _ F H (.refl sub) (.tup ha ra)⟩⟩
  · cases hg
/-- a call that hands back a new list -/
def rNL (K : PySem.W.Frag) (ca : CA) (g : List D → R D) : List V → Hp → VK → Prop := fun xs H Q => ∃ F ds d, Same F H ∧ Reps K ca F ds xs ∧ g ds = .ok d ∧ ∀ p o, H p = none → OwO K ca F (upd H p o) d p → Q (.ref p) (upd H p o)
theorem lstC_ne : ∀ x c fs, lstC x ≠ .ex c fs := fun x c fs z => by unfold lstC at z; split at z <;> cases z
theorem oc_list : CallR X (.type "list") (rNL X.K ca lstC) := fun pins s σ H xs us Q I r ⟨F, ds, d, sub, rs, hg, q⟩ => by
  unfold lstC at hg
  split at hg
  · cases hg
    cases rs with
    | cons r1 rs =>
      cases rs
      cases r1 with
      | lst ha ra => exact call_list_of pins s σ H _ us Q I r ⟨_, _, rfl, .inl (SqL.of (sub _ _ ha)), fun l hl => q l _ hl ⟨_, upd_same, ra⟩⟩
  · cases hg
    cases rs with
    | cons r1 rs =>
      cases rs
      cases r1 with
      | fro ha ra => exact call_list_of pins s σ H _ us Q I r ⟨_, _, rfl, .inl (Same.seq sub ha), fun l hl => q l _ hl ⟨_, upd_same, ra⟩⟩
  · cases hg
    cases rs with
    | cons r1 rs =>
      cases rs
      cases r1 with
      | tup ha ra => exact call_list_of pins s σ H _ us Q I r ⟨_, _, rfl, .inr (Same.seqT sub ha), fun l hl => q l _ hl ⟨_, upd_same, ra⟩⟩
  · cases hg
theorem blsD_rep : ∀ {xs : List D} {vs : List V} {bs : List Bool}, Reps K ca F xs vs → blsD xs = some bs → vs = bs.map V.bl
  | _, _, _, .nil, h => by cases h; rfl
  | _, _, _, .cons r rs, h => by
    cases r <;> try cases h
    rename_i ds vs b
    unfold blsD at h
    cases e : blsD ds with
    | none => rw [e] at h; cases h
    | some bs => rw [e] at h; cases h; rw [blsD_rep rs e]; rfl
theorem intsD_rep : ∀ {xs : List D} {vs : List V} {bs : List Int}, Reps K ca F xs vs → intsD xs = some bs → vs = bs.map V.int
  | _, _, _, .nil, h => by cases h; rfl
  | _, _, _, .cons r rs, h => by
    cases r <;> try cases h
    rename_i ds vs b
    unfold intsD at h
    cases e : intsD ds with
    | none => rw [e] at h; cases h
    | some bs => rw [e] at h; cases h; rw [intsD_rep rs e]; rfl
theorem allD_ne : ∀ x c fs, allD x ≠ .ex c fs := fun x c fs z => by
  unfold allD at z
  split at z
  · exact bind_ne ofOpt_ne (fun a z => by cases z) z
  · cases z
theorem anyD_ne : ∀ x c fs, anyD x ≠ .ex c fs := fun x c fs z => by
  unfold anyD at z
  split at z
  · exact bind_ne ofOpt_ne (fun a z => by cases z) z
  · cases z
theorem sumD_ne : ∀ x c fs, sumD x ≠ .ex c fs := fun x c fs z => by
  unfold sumD at z
  split at z
  · exact bind_ne ofOpt_ne (fun a z => by cases z) z
  · cases z
theorem sortD_ne : ∀ x c fs, sortD x ≠ .ex c fs := fun x c fs z => by
  unfold sortD at z
  split at z
  · exact bind_ne ofOpt_ne (fun a z => by cases z) z
  · cases z
theorem oc_all (hc : X.calm = true) : CallR X (.builtin "all") (rN X.K ca allD) := fun pins s σ H xs us Q I r ⟨F, ds, d, sub, rs, hg, q⟩ => by
  unfold allD at hg
  split at hg
  · obtain ⟨bs, e1, e2⟩ := R.bind_eq_ok hg
    cases e2
    cases rs with
    | cons r1 rs =>
      cases rs
      cases r1 with
      | lst ha ra =>
        have e := blsD_rep ra (ofOpt_eq e1)
        subst e
        exact cr_all hc pins s σ H _ us Q I r ⟨_, bs, rfl, SqL.of (sub _ _ ha), q _ F H (.refl sub) (.bl _)⟩
  · cases hg
theorem oc_any (hc : X.calm = true) : CallR X (.builtin "any") (rN X.K ca anyD) := fun pins s σ H xs us Q I r ⟨F, ds, d, sub, rs, hg, q⟩ => by
  unfold anyD at hg
  split at hg
  · obtain ⟨bs, e1, e2⟩ := R.bind_eq_ok hg
    cases e2
    cases rs with
    | cons r1 rs =>
      cases rs
      cases r1 with
      | lst ha ra =>
        have e := blsD_rep ra (ofOpt_eq e1)
        subst e
        exact cr_any hc pins s σ H _ us Q I r ⟨_, bs, rfl, SqL.of (sub _ _ ha), q _ F H (.refl sub) (.bl _)⟩
  · cases hg
theorem oc_sum (hc : X.calm = true) : CallR X (.builtin "sum") (rN X.K ca sumD) := fun pins s σ H xs us Q I r ⟨F, ds, d, sub, rs, hg, q⟩ => by
  unfold sumD at hg
  split at hg
  · obtain ⟨bs, e1, e2⟩ := R.bind_eq_ok hg
    cases e2
    cases rs with
    | cons r1 rs =>
      cases rs
      cases r1 with
      | lst ha ra =>
        have e := intsD_rep ra (ofOpt_eq e1)
        subst e
        exact cr_sum hc pins s σ H _ us Q I r ⟨_, bs, rfl, SqL.of (sub _ _ ha), q _ F H (.refl sub) (.int _)⟩
  · cases hg
theorem insI_perm (x : Int) : ∀ l, (insI x l).Perm (x :: l)
  | [] => .refl _
  | y :: r => by
    unfold insI
    split
    · exact .refl _
    · exact ((insI_perm x r).cons y).trans (.swap x y r)
theorem sortI_perm : ∀ l, (sortI l).Perm l
  | [] => .refl _
  | x :: r => (insI_perm x _).trans ((sortI_perm r).cons x)
theorem insI_sorted (x : Int) : ∀ l, l.Pairwise (· ≤ ·) → (insI x l).Pairwise (· ≤ ·)
  | [], _ => by unfold insI; exact List.pairwise_singleton _ _
  | y :: r, h => by
    unfold insI
    split
    · rename_i hxy
      refine List.pairwise_cons.mpr ⟨fun z hz => ?_, h⟩
      rcases List.mem_cons.mp hz with e | e
      · rw [e]; exact hxy
      · exact Int.le_trans hxy ((List.pairwise_cons.mp h).1 z e)
    · rename_i hxy
      refine List.pairwise_cons.mpr ⟨fun z hz => ?_, insI_sorted x r (List.pairwise_cons.mp h).2⟩
      rcases List.mem_cons.mp ((insI_perm x r).mem_iff.mp hz) with e | e
      · rw [e]; omega
      · exact (List.pairwise_cons.mp h).1 z e
theorem sortI_sorted : ∀ l, (sortI l).Pairwise (· ≤ ·)
  | [] => .nil
  | x :: r => insI_sorted x _ (sortI_sorted r)
theorem sorted_uniq : ∀ {a b : List Int}, a.Perm b → a.Pairwise (· ≤ ·) → b.Pairwise (· ≤ ·) → a = b
  | [], b, p, _, _ => (List.nil_perm.mp p).symm
  | x :: a, b, p, h1, h2 => by
    cases b with
    | nil => exact absurd p.symm (by simp)
    | cons y b =>
      have hx := (List.pairwise_cons.mp h1).1
      have hy := (List.pairwise_cons.mp h2).1
      have e : x = y := by
        have a1 : x ∈ y :: b := p.mem_iff.mp List.mem_cons_self
        have a2 : y ∈ x :: a := p.mem_iff.mpr List.mem_cons_self
        have b1 : y ≤ x := by
          rcases List.mem_cons.mp a1 with e | e
          · omega
          · exact hy x e
        have b2 : x ≤ y := by
          rcases List.mem_cons.mp a2 with e | e
          · omega
          · exact hx y e
        omega
      subst e
      rw [sorted_uniq (List.Perm.cons_inv p) (List.pairwise_cons.mp h1).2 (List.pairwise_cons.mp h2).2]
theorem oc_sorted : CallR X (.builtin "sorted") (rNL X.K ca sortD) := fun pins s σ H xs us Q I r ⟨F, ds, d, sub, rs, hg, q⟩ => by
  unfold sortD at hg
  split at hg
  · obtain ⟨bs, e1, e2⟩ := R.bind_eq_ok hg
    cases e2
    cases rs with
    | cons r1 rs =>
      cases rs
      cases r1 with
      | lst ha ra =>
        have e := intsD_rep ra (ofOpt_eq e1)
        subst e
        refine cr_sortedI pins s σ H _ us Q I r ⟨_, bs, rfl, SqL.of (sub _ _ ha), fun ns' p pm srt hp => ?_⟩
        have e := sorted_uniq (pm.trans (sortI_perm bs).symm) srt (sortI_sorted bs)
        subst e
        exact q p _ hp ⟨_, upd_same, Reps.ofInts _⟩
  · cases hg
theorem typeD_ne : ∀ x c fs, typeD x ≠ .ex c fs := fun x c fs z => by unfold typeD at z; split at z <;> cases z
theorem oc_type : CallR X (.type "type") (rN X.K ca typeD) := fun pins s σ H xs us Q I r ⟨F, ds, d, sub, rs, hg, q⟩ => by
  cases rs with
  | nil => cases hg
  | cons r1 rs =>
    cases rs with
    | cons _ _ => cases r1 <;> cases hg
    | nil =>
      cases r1 with
      | non => cases hg; exact call_type1 pins s σ H _ us Q I r ⟨_, _, rfl, .non, q _ F H (.refl sub) (.ty _)⟩
      | bl b => cases hg; exact call_type1 pins s σ H _ us Q I r ⟨_, _, rfl, .bl b, q _ F H (.refl sub) (.ty _)⟩
      | int b => cases hg; exact call_type1 pins s σ H _ us Q I r ⟨_, _, rfl, .int b, q _ F H (.refl sub) (.ty _)⟩
      | str b => cases hg; exact call_type1 pins s σ H _ us Q I r ⟨_, _, rfl, .str b, q _ F H (.refl sub) (.ty _)⟩
      | tup ha ra => cases hg; exact call_type1 pins s σ H _ us Q I r ⟨_, _, rfl, .tup (Same.seqT sub ha), q _ F H (.refl sub) (.ty _)⟩
      | lst ha ra => cases hg; exact call_type1 pins s σ H _ us Q I r ⟨_, _, rfl, .lst (SqL.of (sub _ _ ha)), q _ F H (.refl sub) (.ty _)⟩
      | fro ha ra => cases hg; exact call_type1 pins s σ H _ us Q I r ⟨_, _, rfl, .lst (Same.seq sub ha), q _ F H (.refl sub) (.ty _)⟩
      | ins ha ra hk => cases hg; exact cr_type pins s σ H _ us Q I r ⟨_, _, _, _, rfl, sub _ _ ha, q _ F H (.refl sub) (.cod _ hk)⟩
      | _ => cases hg
theorem clsIsD_ne : ∀ x y c fs, clsIsD x y ≠ .ex c fs := fun x y c fs z => by
  unfold clsIsD at z
  split at z <;> cases z
theorem clsIsnD_ne : ∀ x y c fs, clsIsnD x y ≠ .ex c fs := fun x y c fs z => by
  unfold clsIsnD at z
  split at z <;> cases z
theorem op_isTR : OpR X (compareOp .Is) (fun x y H Q => ∃ m a, x = .ty m ∧ y = .ref a ∧ Q (.bl false) H) := by
  intro pins s σ H x y v u Q I rx ry h
  obtain ⟨m, a, rfl, rfl, q⟩ := h
  cases (show v = Value.type m from rx)
  cases (show u = Value.ref a from ry)
  exact wpAny_is_other rfl (fun z => nomatch z) ⟨.bl false, H, I, rfl, q⟩
theorem op_isnotTR : OpR X (compareOp .IsNot) (fun x y H Q => ∃ m a, x = .ty m ∧ y = .ref a ∧ Q (.bl true) H) := by
  intro pins s σ H x y v u Q I rx ry h
  obtain ⟨m, a, rfl, rfl, q⟩ := h
  cases (show v = Value.type m from rx)
  cases (show u = Value.ref a from ry)
  exact wpAny_isNot_other rfl (fun z => nomatch z) ⟨.bl true, H, I, rfl, q⟩
/-- the classes that are known: they are made by type.__call__, and stand apart -/
structure ClsSet (K : PySem.W.Frag) (ca : CA) : Prop where
  own : ∀ a, ca.ok a = true → ClsI K (ca a)
  inj : ∀ a b, ca.ok a = true → ca.ok b = true → ca a = ca b → a = b
theorem ClsSet.dec (h : ClsSet K ca) {a b : Nat} (ha : ca.ok a = true) (hb : ca.ok b = true) : decide (ca a = ca b) = decide (a = b) := by
  by_cases e : a = b
  · subst e; rw [decide_eq_true rfl, decide_eq_true rfl]
  · rw [decide_eq_false e, decide_eq_false fun z => e (h.inj a b ha hb z)]
theorem oo_clsIs (S : ClsSet X.K ca) : OpR X (compareOp .Is) (r2 X.K ca clsIsD) := fun pins s σ H x y v u Q I rx ry ⟨F, a, b, d, sub, ra, rb, hg, q⟩ => by
  unfold clsIsD at hg
  split at hg
  · cases hg
    cases ra with
    | cod _ h1 =>
      cases rb with
      | cod _ h2 =>
        refine op_is_cls pins s σ H _ _ v u Q I rx ry ⟨_, _, rfl, rfl, .inr ⟨(S.own _ h1).ml, (S.own _ h2).ml⟩, ?_⟩
        rw [S.dec h1 h2]
        exact q _ F H (.refl sub) (.bl _)
  · cases hg; cases ra; cases rb
    exact op_isTR pins s σ H _ _ v u Q I rx ry ⟨_, _, rfl, rfl, q _ F H (.refl sub) (.bl _)⟩
  · cases hg
theorem oo_clsIsn (S : ClsSet X.K ca) : OpR X (compareOp .IsNot) (r2 X.K ca clsIsnD) := fun pins s σ H x y v u Q I rx ry ⟨F, a, b, d, sub, ra, rb, hg, q⟩ => by
  unfold clsIsnD at hg
  split at hg
  · cases hg
    cases ra with
    | cod _ h1 =>
      cases rb with
      | cod _ h2 =>
        refine op_isnot_cls pins s σ H _ _ v u Q I rx ry ⟨_, _, rfl, rfl, .inr ⟨(S.own _ h1).ml, (S.own _ h2).ml⟩, ?_⟩
        rw [S.dec h1 h2]
        exact q _ F H (.refl sub) (.bl _)
  · cases hg; cases ra; cases rb
    exact op_isnotTR pins s σ H _ _ v u Q I rx ry ⟨_, _, rfl, rfl, q _ F H (.refl sub) (.bl _)⟩
  · cases hg
theorem isiD_ne {tab : D → D → Option Bool} : ∀ x c fs, isiD tab x ≠ .ex c fs := fun x c fs z => by
  unfold isiD at z
  split at z
  · split at z
    · exact bind_ne ofOpt_ne (fun a z => by cases z) z
    · cases z
  · cases z
theorem isiTD_ne {tab : D → D → Option Bool} {cs : List D} : ∀ x c fs, isiTD tab cs x ≠ .ex c fs := fun x c fs z => by
  unfold isiTD at z
  split at z
  · exact bind_ne ofOpt_ne (fun a z => by cases z) z
  · cases z
theorem tag_ok {d t : D} {v : V} (r : Rep K ca F d v) (h : tagD d = some t) : ∀ k, t = .cod k → ca.ok k = true := fun k e => by
  subst e
  cases r <;> (first | cases h | skip)
  assumption
theorem cod_ok {d : D} {v : V} (r : Rep K ca F d v) : ∀ k, d = .cod k → ca.ok k = true := fun k e => by
  subst e
  cases r
  assumption
theorem tag_rep (S : ClsSet K ca) (sub : Same F H) {d t : D} {v : V} {u : Value} (r : Rep K ca F d v) (h : tagD d = some t) (ht : tyVal ca t = some u) : TyX K H v u := by
  cases r with
  | non => cases h; cases ht; exact .base .non
  | bl b => cases h; cases ht; exact .base (.bl b)
  | int b => cases h; cases ht; exact .base (.int b)
  | str b => cases h; cases ht; exact .base (.str b)
  | tup ha ra =>
    cases h; cases ht
    rcases Same.seqT sub ha with (z | ⟨o, z⟩) | ⟨o, its, n, z, c, _⟩
    · exact .base (.tup z)
    · exact .fTuple z
    · exact .kTuple z c
  | lst ha ra => cases h; cases ht; exact .base (.lst (sub _ _ ha))
  | ins ha ra hk =>
    cases h; cases ht
    have z := S.own _ hk
    exact .base (.ins (sub _ _ ha) z.cl z.ha z.hn z.ht z.hm)
  | dK ha _ _ => cases h; cases ht; exact .base (.dK (sub _ _ ha))
  | dT ha _ _ => cases h; cases ht; exact .base (.dT (sub _ _ ha))
  | _ => cases h
theorem cls_rep {d : D} {v : V} {u : Value} (r : Rep K ca F d v) (h : tyVal ca d = some u) : ClsV v u := by
  cases r with
  | cod k => cases h; exact .own _
  | ty n => cases h; exact .ty n
  | _ => cases h
theorem cls_all : ∀ {cs : List D} {vs : List V}, Reps K ca F cs vs → cs.all clsD = true → ∃ us, Paired ClsV vs us
  | _, _, .nil, _ => ⟨[], .nil⟩
  | _, _, .cons r rs, h => by
    rw [List.all_cons, Bool.and_eq_true] at h
    obtain ⟨us, p⟩ := cls_all rs h.2
    cases r with
    | cod k hk => exact ⟨_, .cons (.own _) p⟩
    | ty n => exact ⟨_, .cons (.ty n) p⟩
    | _ => cases h.1
theorem kind_rep {tab : D → D → Option Bool} (hT : TabOk K ca tab) {t : D} {ut : Value} (ht : tyVal ca t = some ut) (hto : ∀ k, t = .cod k → ca.ok k = true) : ∀ {cs : List D} {vs : List V} {b : Bool}, Reps K ca F cs vs → kindD tab t cs = some b → ∃ us, Paired ClsV vs us ∧ PySem.W.kitAny K ut us = some b
  | _, _, _, .nil, h => ⟨[], .nil, by cases h; rfl⟩
  | _, _, b, .cons (d := c) r rs, h => by
    unfold kindD at h
    cases e : tab t c with
    | none => rw [e] at h; cases h
    | some k =>
      obtain ⟨u1, u2, h1, h2, h3⟩ := hT t c k e hto (cod_ok r)
      rw [ht] at h1
      cases h1
      rw [e] at h
      cases k with
      | true =>
        dsimp only at h
        split at h
        · rename_i ha
          cases h
          obtain ⟨us, p⟩ := cls_all rs ha
          exact ⟨u2 :: us, .cons (cls_rep r h2) p, by unfold PySem.W.kitAny; rw [h3]⟩
        · cases h
      | false =>
        obtain ⟨us, p, q⟩ := kind_rep hT ht hto rs h
        exact ⟨u2 :: us, .cons (cls_rep r h2) p, by unfold PySem.W.kitAny; rw [h3]; exact q⟩
theorem kind_tag {d t : D} (h : tagD d = some t) : ∃ u, tyVal ca t = some u := by
  cases d with
  | fro _ => cases h
  | cod _ => cases h
  | ty _ => cases h
  | fn _ => cases h
  | set _ => cases h
  | _ => cases h; exact ⟨_, rfl⟩
theorem oc_isi {tab : D → D → Option Bool} (S : ClsSet X.K ca) (hT : TabOk X.K ca tab) : CallR X (.builtin "isinstance") (rN X.K ca (isiD tab)) := fun pins s σ H xs us Q I r ⟨F, ds, d, sub, rs, hg, q⟩ => by
  unfold isiD at hg
  split at hg
  · rename_i x c
    cases et : tagD x with
    | none => rw [et] at hg; cases hg
    | some t =>
      rw [et] at hg
      dsimp only at hg
      obtain ⟨b, e1, e2⟩ := R.bind_eq_ok hg
      cases e2
      cases rs with
      | cons rx rs =>
        cases rs with
        | cons rc rs =>
          cases rs
          obtain ⟨u1, u2, h1, h2, h3⟩ := hT _ _ _ (ofOpt_eq e1) (tag_ok rx et) (cod_ok rc)
          exact call_isi pins s σ H _ us Q I r ⟨_, _, u1, u2, b, rfl, cls_rep rc h2, tag_rep S sub rx et h1, h3, q _ F H (.refl sub) (.bl _)⟩
  · cases hg
end
/-- arguments that are known -/
def tCs (vs : List V) : TA := fun _ H Q => Q vs H
section
variable {X : Cx} {C : Cd} {own : List Nat} {a : Expr} {es : List Expr} {fa : EF} {p pos tpos : Pos}
theorem pc_nil : PA X [] (tCs []) := pa_imp pa_nil fun _ _ _ h => h
theorem pc_cons {v : V} {vs : List V} (ha : PE X a (tC v)) (hr : PA X es (tCs vs)) (hs : starEach (a :: es) X.env = (false, eval a X.env) :: starEach es X.env := by rfl) : PA X (a :: es) (tCs (v :: vs)) := pa_imp (pa_cons ha hr hs) fun _ _ _ h => h
theorem ev_isiT {tab : D → D → Option Bool} {cs : List D} {vs : List V} {k : Nat} (S : ClsSet X.K C.ca) (hT : TabOk X.K C.ca tab) (hcs : ∀ F, Reps X.K C.ca F cs vs) (hl : vs.length ≤ sizeLine) (hm : X.mg "isinstance" = none) (ha : PE X a (tE X.K C own fa)) (hes : PA X es (tCs vs)) (hg : Gl X "isinstance" := by rfl)
    (he : starEach [a, .Tuple es k tpos] X.env = (false, eval a X.env) :: starEach [.Tuple es k tpos] X.env := by rfl) (he2 : starEach [.Tuple es k tpos] X.env = (false, eval (.Tuple es k tpos) X.env) :: starEach [] X.env := by rfl) (hpl : (backTo pos (starEach [.Tuple es k tpos] X.env)).any (·.1) = false := by rfl) :
    PE X (.Call (.Name "isinstance" p) [a, .Tuple es k tpos] [] pos) (tE X.K C own (e1 (isiTD tab cs) fa)) :=
  pe_imp (pe_callB call_isiT hg hm (by decide +kernel) (pa_cons ha (pa_cons (pe_tup hes) pa_nil he2) he) (by decide) (by decide) he hpl) fun σ H Q ⟨env, F, hR, h⟩ => ⟨env, F, hR, h.bind.imp fun d e1 F1 H1 hR1 s1 h1 v r => by
    obtain ⟨b, hb, h2⟩ := h1.known (isiTD_ne d)
    refine ⟨hl, fun p hp => ?_⟩
    unfold isiTD at hb
    cases et : tagD d with
    | none => rw [et] at hb; cases hb
    | some t =>
      rw [et] at hb
      dsimp only at hb
      obtain ⟨k, e1, e2⟩ := R.bind_eq_ok hb
      cases e2
      obtain ⟨ut, hut⟩ := kind_tag (ca := C.ca) et
      obtain ⟨ws, pw, hk⟩ := kind_rep hT hut (tag_ok r et) (hcs F1) (ofOpt_eq e1)
      have hR2 := (hR1.lay (o := .tup vs) hp).1
      exact ⟨v, p, vs, ut, ws, k, rfl, upd_same, pw, tag_rep S hR2.q.sub r et hut, hk, h2.here hR2 _ (.bl _)⟩⟩
end
end Dl

namespace Ru
open PySem PySem.Spec PyProof.Rows L2
/-! ### a op b op c op d .. of any length, as a test and as a value -/
structure PTC (X : Cx) (ops : List CmpOp) (es : List Expr) (t : V → TT) : Prop where
  run : ∀ (pos : Pos) (pins : List (Addr × Obj)) (s : Shared) (σ : L2.St) (H : Hp) (x : V) (v : Value) (Q : Bool → Hp → Prop), Inv X pins σ H s → RelV x v → t x σ H Q → wpAny (model X.prog X.w) X.A (testChain pos v ops (evalEach es X.env)) (TP X pins σ Q) X.xe s
structure PEC (X : Cx) (ops : List CmpOp) (es : List Expr) (t : V → TE) : Prop where
  run : ∀ (pos : Pos) (pins : List (Addr × Obj)) (s : Shared) (σ : L2.St) (H : Hp) (x : V) (v : Value) (Q : VK), Inv X pins σ H s → RelV x v → t x σ H Q → wpAny (model X.prog X.w) X.A (compareChain pos v ops (evalEach es X.env)) (EP X pins σ Q) X.xe s
section
variable {X : Cx} {op op' op1 op2 : CmpOp} {ops : List CmpOp} {r : R2} {a b e e1 e2 : Expr} {es : List Expr} {ta tb : TE} {t : V → TT} {u : V → TE} {pos : Pos}
def cLast (r : R2) (tb : TE) : V → TT := fun x σ H Q => tb σ H fun y H1 => r x y H1 fun z H2 => ∃ k, z = .bl k ∧ Q k H2
def cLink (r : R2) (tb : TE) (t : V → TT) : V → TT := fun x σ H Q => tb σ H fun y H1 => r x y H1 fun z H2 => ∃ k, z = .bl k ∧ if k = true then t y σ H2 Q else Q false H2
def vLast (r : R2) (tb : TE) : V → TE := fun x σ H Q => tb σ H fun y H1 => r x y H1 Q
def vLink (r : R2) (tb : TE) (t : V → TE) : V → TE := fun x σ H Q => tb σ H fun y H1 => r x y H1 fun z H2 => ∃ k, z = .bl k ∧ if k = true then t y σ H2 Q else Q (.bl false) H2
theorem ptc_last (ho : OpR X (compareOp op) r) (hb : PE X b tb) : PTC X [op] [b] (cLast r tb) := by
  refine ⟨fun pos pins s σ H x v Q I rx h => ?_⟩
  show wpAny _ _ (testChain pos v [op] [eval b X.env]) _ _ s
  refine test_last (thn (hb.run pins s σ H _ I h) fun u s1 ⟨y, H1, I1, r1, q1⟩ => thn (ho pins s1 σ H1 x y v u _ I1 rx r1 q1) fun c s2 ⟨z, H2, I2, r2, k, e, q⟩ => ?_)
  subst e
  cases r2
  exact wpAny_truthy_bool ⟨H2, I2, q⟩
theorem ptc_link (ho : OpR X (compareOp op) r) (hb : PE X b tb) (hr : PTC X (op' :: ops) (e :: es) t) : PTC X (op :: op' :: ops) (b :: e :: es) (cLink r tb t) := by
  refine ⟨fun pos pins s σ H x v Q I rx h => ?_⟩
  show wpAny _ _ (testChain pos v (op :: op' :: ops) (eval b X.env :: eval e X.env :: evalEach es X.env)) _ _ s
  refine test_link (thn (hb.run pins s σ H _ I h) fun u s1 ⟨y, H1, I1, r1, q1⟩ => thn (ho pins s1 σ H1 x y v u _ I1 rx r1 q1) fun c s2 ⟨z, H2, I2, r2, k, e, q⟩ => ?_)
  subst e
  cases r2
  refine wpAny_truthy_bool ?_
  cases k with
  | false => exact ite_ff ⟨H2, I2, q⟩
  | true => exact ite_tt (hr.run pos pins s2 σ H2 y u Q I2 r1 q)
theorem pec_last (ho : OpR X (compareOp op) r) (hb : PE X b tb) : PEC X [op] [b] (vLast r tb) := by
  refine ⟨fun pos pins s σ H x v Q I rx h => ?_⟩
  show wpAny _ _ (compareChain pos v [op] [eval b X.env]) _ _ s
  exact chain_last (thn (hb.run pins s σ H _ I h) fun u s1 ⟨y, H1, I1, r1, q1⟩ => ho pins s1 σ H1 x y v u _ I1 rx r1 q1)
theorem pec_link (ho : OpR X (compareOp op) r) (hb : PE X b tb) (hr : PEC X (op' :: ops) (e :: es) u) : PEC X (op :: op' :: ops) (b :: e :: es) (vLink r tb u) := by
  refine ⟨fun pos pins s σ H x v Q I rx h => ?_⟩
  show wpAny _ _ (compareChain pos v (op :: op' :: ops) (eval b X.env :: eval e X.env :: evalEach es X.env)) _ _ s
  refine chain_link (thn (hb.run pins s σ H _ I h) fun u s1 ⟨y, H1, I1, r1, q1⟩ => thn (ho pins s1 σ H1 x y v u _ I1 rx r1 q1) fun c s2 ⟨z, H2, I2, r2, k, e, q⟩ => ?_)
  subst e
  cases r2
  refine wpAny_truthy_bool ?_
  cases k with
  | false => exact ite_ff ⟨.bl false, H2, I2, rfl, q⟩
  | true => exact ite_tt (hr.run pos pins s2 σ H2 y u Q I2 r1 q)
theorem pt_chainN (ha : PE X a ta) (hc : PTC X (op1 :: op2 :: ops) (e1 :: e2 :: es) t) (hm : lastMarks (op1 :: op2 :: ops) (e1 :: e2 :: es) = false := by with_unfolding_all rfl) :
    PT X (.Compare a (op1 :: op2 :: ops) (e1 :: e2 :: es) pos) (fun σ H Q => ta σ H fun x H1 => t x σ H1 Q) :=
  ⟨fun pins s σ H Q I h => isTrue_chain (thn (ha.run pins s σ H _ I h) fun v s1 ⟨x, H1, I1, r1, q1⟩ => hc.run pos pins s1 σ H1 x v Q I1 r1 q1) hm⟩
theorem pe_chainN (ha : PE X a ta) (hc : PEC X (op1 :: op2 :: ops) (e1 :: e2 :: es) u) (hm : lastMarks (op1 :: op2 :: ops) (e1 :: e2 :: es) = false := by with_unfolding_all rfl) :
    PE X (.Compare a (op1 :: op2 :: ops) (e1 :: e2 :: es) pos) (fun σ H Q => ta σ H fun x H1 => u x σ H1 Q) :=
  ⟨fun pins s σ H Q I h => Compare_chain (thn (ha.run pins s σ H _ I h) fun v s1 ⟨x, H1, I1, r1, q1⟩ => hc.run pos pins s1 σ H1 x v Q I1 r1 q1) hm⟩
end
/-- f(k = v, ..) without positional arguments -/
theorem pe_callK0 {X : Cx} {CX : CXT} {k : Nat} {f : Addr} {fd : FuncData} {ps ks : List Str} {sp : Sp} {E : XK} {x : Str} {p pos : Pos} {kws : List Keyword} {tk : TA} {g : List Value → List Value → List Value} {gV : List V → List V → List V}
    (F : FnOk X.prog X.w X.K X.mg X.base CX k f fd ps sp) (hr : Room k X.A) (hg : Gl X x) (hm : X.mg x = some (.ref f)) (hk : PySem.W.keepIn X.K (.ref f) = true) (hb : KBinds X.K fd ps ks g gV) (hx : Passes CX X E)
    (hkw : PK X kws tk) (hall : (backToKw pos (keywordEach kws X.env)).all (·.1.isSome) = true := by rfl) (hks : (backToKw pos (keywordEach kws X.env)).filterMap (·.1) = ks := by rfl)
    (hdb : (x == ("__debug__" : Str)) = false := by decide)
    (hpl : ((backTo pos (starEach [] X.env)).any (·.1) || (backToKw pos (keywordEach kws X.env)).any (·.1.isNone)) = false := by rfl) :
    PE X (.Call (.Name x p) [] kws pos) (tCallK sp gV E tNil tk) := by
  refine ⟨fun pins s σ H Q I h => ?_⟩
  refine wpAny_Call_Name_kw (ld_glob I hg hm ?_ hdb)
  refine PySem.W.callWith_KW0 I.kIn hk hall (thn (hkw.run pos pins s σ H _ I h) fun ws s2 ⟨zs, H2, I2, rz, q2⟩ => ?_) hpl
  rw [hks]
  exact ⟨I2.kIn, run_fnk F hr hb hx I2 .nil rz q2⟩
end Ru
namespace Dl
open PySem PySem.Spec PyProof.Rows L2
/-! ### new lists -/
def r2L (K : PySem.W.Frag) (ca : CA) (g : D → D → R D) : R2 := fun x y H Q => ∃ F a b d, Same F H ∧ Rep K ca F a x ∧ Rep K ca F b y ∧ g a b = .ok d ∧ ∀ p o, H p = none → OwO K ca F (upd H p o) d p → Q (.ref p) (upd H p o)
section
variable {X : Cx} {C : Cd} {own : List Nat} {a b : Expr} {es : List Expr} {pos p : Pos} {fa fb : EF} {fs : AF} {x : Str}
theorem newOk {σ : L2.St} {F H : Hp} {env : En} {d : D} {Q : VK} (hR : RE X.K C.ca C.B own env σ F H) (k : ∀ F' H', RE X.K C.ca C.B own env σ F' H' → Same F F' → ∀ p, Fsh X.K C.ca C.B own env σ F' H' d p → Q (.ref p) H') : ∀ p o, H p = none → OwO X.K C.ca F (upd H p o) d p → Q (.ref p) (upd H p o) := fun p o hp O => by
  obtain ⟨hR2, hF, b, m, dis⟩ := hR.lay (o := o) hp
  exact k F _ hR2 (Same.refl _) p ⟨O, hF, b, m, dis⟩
theorem ev_callBN {id : String} {g : List D → R D} (hn : ∀ x c fs, g x ≠ .ex c fs) (hc : CallR X (.builtin id) (rNL X.K C.ca g)) (hm : X.mg x = none) (ha : PA X (a :: es) (tA X.K C own fs)) (hg : Gl X x := by rfl) (hv : bootBuiltins x = some (.builtin id) := by decide +kernel)
    (hx : x ≠ "__name__" := by decide) (hdb : (x == ("__debug__" : Str)) = false := by decide) (he : starEach (a :: es) X.env = (false, eval a X.env) :: starEach es X.env := by rfl) (hpl : (backTo pos (starEach es X.env)).any (·.1) = false := by rfl) :
    PE X (.Call (.Name x p) (a :: es) [] pos) (tN X.K C own (eN g fs)) :=
  pe_imp (pe_callB hc hg hm hv ha hx hdb he hpl) fun σ H Q ⟨env, F, hR, h⟩ => ⟨env, F, hR, h.bind.imp fun xs e1 F1 H1 hR1 s1 h1 vs rv => by
    obtain ⟨d, hd, h2⟩ := h1.known (hn xs)
    exact ⟨F1, xs, d, hR1.q.sub, rv, hd, newOk hR1 h2⟩⟩
theorem ev_callTN {T : String} {g : List D → R D} (hn : ∀ x c fs, g x ≠ .ex c fs) (hc : CallR X (.type T) (rNL X.K C.ca g)) (hm : X.mg x = none) (ha : PA X (a :: es) (tA X.K C own fs)) (hg : Gl X x := by rfl) (hv : bootBuiltins x = some (.type T) := by decide +kernel)
    (hx : x ≠ "__name__" := by decide) (hdb : (x == ("__debug__" : Str)) = false := by decide) (he : starEach (a :: es) X.env = (false, eval a X.env) :: starEach es X.env := by rfl) (hpl : (backTo pos (starEach es X.env)).any (·.1) = false := by rfl) :
    PE X (.Call (.Name x p) (a :: es) [] pos) (tN X.K C own (eN g fs)) :=
  pe_imp (pe_callTy hc hg hm hv ha hx hdb he hpl) fun σ H Q ⟨env, F, hR, h⟩ => ⟨env, F, hR, h.bind.imp fun xs e1 F1 H1 hR1 s1 h1 vs rv => by
    obtain ⟨d, hd, h2⟩ := h1.known (hn xs)
    exact ⟨F1, xs, d, hR1.q.sub, rv, hd, newOk hR1 h2⟩⟩
theorem ev_opN {op : Operator} {g : D → D → R D} (hn : ∀ x y c fs, g x y ≠ .ex c fs) (ho : OpR X (binaryOp op) (r2L X.K C.ca g)) (ha : PE X a (tE X.K C own fa)) (hb : PE X b (tE X.K C own fb)) : PE X (.BinOp a op b pos) (tN X.K C own (e2 g fa fb)) :=
  pe_imp (pe_op ho ha hb) fun σ H Q ⟨env, F, hR, h⟩ => ⟨env, F, hR, h.bind.imp fun x e1 F1 H1 hR1 s1 h1 v rv => ⟨e1, F1, hR1, h1.bind.imp fun y e2 F2 H2 hR2 s2 h2 w rw' => by
    obtain ⟨d, hd, h3⟩ := h2.known (hn x y)
    exact ⟨F2, x, y, d, hR2.q.sub, rv.mono s2, rw', hd, newOk hR2 h3⟩⟩⟩
def catD : D → D → R D
  | .lst xs, .lst ys => if xs.length + ys.length ≤ sizeLine then .ok (.lst (xs ++ ys)) else .no
  | _, _ => .no
def repD : D → D → R D
  | .lst xs, .int k => if (-k).toNat < 9223372036854775808 ∧ k.toNat < 9223372036854775808 ∧ xs.length * k.toNat ≤ sizeLine then .ok (.lst (List.replicate k.toNat xs).flatten) else .no
  | _, _ => .no
theorem catD_ne : ∀ x y c fs, catD x y ≠ .ex c fs := fun x y c fs z => by
  unfold catD at z
  split at z
  · split at z <;> cases z
  · cases z
theorem repD_ne : ∀ x y c fs, repD x y ≠ .ex c fs := fun x y c fs z => by
  unfold repD at z
  split at z
  · split at z <;> cases z
  · cases z
theorem oo_cat {ca : CA} : OpR X (binaryOp .Add) (r2L X.K ca catD) := fun pins s σ H x y v u Q I rx ry ⟨F, a, b, d, sub, ra, rb, hg, q⟩ => by
  unfold catD at hg
  split at hg
  · split at hg
    · rename_i hl
      cases hg
      cases ra with
      | lst ha rs =>
        cases rb with
        | lst hb rs' => exact op_cat pins s σ H _ _ v u Q I rx ry ⟨_, _, _, _, rfl, rfl, sub _ _ ha, sub _ _ hb, by rw [← rs.length, ← rs'.length]; exact hl, fun p hp => q p _ hp ⟨_, upd_same, rs.append rs'⟩⟩
    · cases hg
  · cases hg
theorem reps_rep {K : PySem.W.Frag} {ca : CA} {F : Hp} {xs : List D} {vs : List V} (r : Reps K ca F xs vs) : ∀ n, Reps K ca F (List.replicate n xs).flatten (List.replicate n vs).flatten
  | 0 => .nil
  | n + 1 => by
    rw [List.replicate_succ, List.replicate_succ, List.flatten_cons, List.flatten_cons]
    exact r.append (reps_rep r n)
theorem oo_rep {ca : CA} : OpR X (binaryOp .Mult) (r2L X.K ca repD) := fun pins s σ H x y v u Q I rx ry ⟨F, a, b, d, sub, ra, rb, hg, q⟩ => by
  unfold repD at hg
  split at hg
  · split at hg
    · rename_i hl
      cases hg
      cases rb
      cases ra with
      | lst ha rs => exact op_rep pins s σ H _ _ v u Q I rx ry ⟨_, _, _, rfl, rfl, sub _ _ ha, by rw [two63]; omega, by rw [two63]; omega, by rw [← rs.length]; exact hl.2.2, fun p hp => q p _ hp ⟨_, upd_same, reps_rep rs _⟩⟩
    · cases hg
  · cases hg
end

/-! ### slices -/
abbrev PF := En → R (Option Int × En)
def pNone : PF := fun env => .ok (none, env)
def intO : D → R (Option Int)
  | .int i => .ok (some i)
  | _ => .no
def pSome (f : EF) : PF := fun env => (f env).bind fun p => (intO p.1).bind fun i => .ok (i, p.2)
def tP (K : PySem.W.Frag) (C : Cd) (own : List Nat) (f : PF) : TO := fun σ H Q => ∃ env F, RE K C.ca C.B own env σ F H ∧ Pst K C own (f env) σ F fun o _ _ H' => Q o H'
def eSl (g : D → Option Int → Option Int → R D) (fa : EF) (fl fu : PF) : EF := fun env => (fa env).bind fun p => (fl p.2).bind fun q => (fu q.2).bind fun r => (g p.1 q.1 r.1).bind fun d => .ok (d, r.2)
def cutL {α : Type} (xs : List α) (lo hi : Option Int) : List α := (xs.drop (HT.sIx xs.length 0 lo)).take (HT.sIx xs.length xs.length hi - HT.sIx xs.length 0 lo)
def slL : D → Option Int → Option Int → R D
  | .lst xs, lo, hi => .ok (.lst (cutL xs lo hi))
  | .fro xs, lo, hi => .ok (.lst (cutL xs lo hi))
  | _, _, _ => .no
def slT : D → Option Int → Option Int → R D
  | .tup xs, lo, hi => .ok (.tup (cutL xs lo hi))
  | .str z, lo, hi => if z.length ≤ sizeLine then .ok (.str (cutS z lo hi)) else .no
  | _, _, _ => .no
theorem slL_ne : ∀ x l h c fs, slL x l h ≠ .ex c fs := fun x l h c fs z => by unfold slL at z; split at z <;> cases z
theorem slT_ne : ∀ x l h c fs, slT x l h ≠ .ex c fs := fun x l h c fs z => by
  unfold slT at z
  split at z
  · cases z
  · split at z <;> cases z
  · cases z
section
variable {X : Cx} {C : Cd} {own : List Nat} {a b : Expr} {lo hi : Option Expr} {p2 pos : Pos} {fa : EF} {fl fu : PF}
theorem po_imp {e : Option Expr} {t t' : TO} (h : PO X e t) (g : ∀ σ H Q, t' σ H Q → t σ H Q) : PO X e t' := ⟨fun pins s σ H Q I q => h.run pins s σ H Q I (g _ _ _ q)⟩
theorem ep_none : PO X none (tP X.K C own pNone) := po_imp po_none fun σ H Q ⟨env, F, hR, h⟩ => h.here hR
theorem ep_some (h : PE X a (tE X.K C own fa)) : PO X (some a) (tP X.K C own (pSome fa)) :=
  po_imp (po_some h) fun σ H Q ⟨env, F, hR, h⟩ => ⟨env, F, hR, h.bind.imp fun d e1 F1 H1 hR1 s1 h1 v r => by
    cases r <;> first | exact h1.elim | exact ⟨_, rfl, h1.here hR1⟩⟩
theorem Reps.cut {K : PySem.W.Frag} {ca : CA} {F : Hp} {xs : List D} {vs : List V} (r : Reps K ca F xs vs) (lo hi : Option Int) : Reps K ca F (cutL xs lo hi) (cutV vs lo hi) := by
  unfold cutL cutV
  rw [← r.length]
  exact (r.drop _).take _
theorem ev_slL (he : PE X a (tE X.K C own fa)) (hl : PO X lo (tP X.K C own fl)) (hu : PO X hi (tP X.K C own fu)) : PE X (.Subscript a (.Slice lo hi none p2) pos) (tN X.K C own (eSl slL fa fl fu)) :=
  pe_imp (pe_slice sl_list he hl hu) fun σ H Q ⟨env, F, hR, h⟩ => ⟨env, F, hR, h.bind.imp fun d e1 F1 H1 hR1 s1 h1 v r => ⟨e1, F1, hR1, h1.bind.imp fun o e2 F2 H2 hR2 s2 h2 => ⟨e2, F2, hR2, h2.bind.imp fun o' e3 F3 H3 hR3 s3 h3 => by
    obtain ⟨k, hk, h4⟩ := h3.known (slL_ne d o o')
    have r := r.mono (s2.trans s3)
    cases r with
    | lst hp rs => cases hk; exact ⟨_, _, rfl, SqL.of (hR3.q.sub _ _ hp), fun p hp' => newOk hR3 h4 p _ hp' ⟨_, upd_same, rs.cut _ _⟩⟩
    | fro hp rs => cases hk; exact ⟨_, _, rfl, Same.seq hR3.q.sub hp, fun p hp' => newOk hR3 h4 p _ hp' ⟨_, upd_same, rs.cut _ _⟩⟩
    | _ => cases hk⟩⟩⟩
theorem cut_whole {xs : List D} {lo hi : Option Int} (h : HT.sIx xs.length 0 lo = 0 ∧ HT.sIx xs.length xs.length hi = xs.length) : cutL xs lo hi = xs := by
  unfold cutL
  rw [h.1, h.2, List.drop_zero, Nat.sub_zero, List.take_length]
theorem ev_slT (he : PE X a (tE X.K C own fa)) (hl : PO X lo (tP X.K C own fl)) (hu : PO X hi (tP X.K C own fu)) : PE X (.Subscript a (.Slice lo hi none p2) pos) (tE X.K C own (eSl slT fa fl fu)) :=
  pe_imp (pe_slice (SlR.or sl_tupA sl_str) he hl hu) fun σ H Q ⟨env, F, hR, h⟩ => ⟨env, F, hR, h.bind.imp fun d e1 F1 H1 hR1 s1 h1 v r => ⟨e1, F1, hR1, h1.bind.imp fun o e2 F2 H2 hR2 s2 h2 => ⟨e2, F2, hR2, h2.bind.imp fun o' e3 F3 H3 hR3 s3 h3 => by
    obtain ⟨k, hk, h4⟩ := h3.known (slT_ne d o o')
    have r := r.mono (s2.trans s3)
    cases r with
    | tup hp rs =>
      cases hk
      refine .inl ⟨_, _, rfl, Same.seqT hR3.q.sub hp, fun hw => ?_, fun hw p hp' => ?_⟩
      · rw [← rs.length] at hw
        rw [cut_whole hw] at h4
        exact h4.here hR3 _ (.tup hp rs)
      · exact h4 _ _ (hR3.step (Stp.new hR3.q.sub hp')) (same_upd (hR3.q.sub.free hp')) _ (.tup (.of upd_same) ((rs.cut _ _).mono (same_upd (hR3.q.sub.free hp'))))
    | str z =>
      unfold slT at hk
      dsimp only at hk
      split at hk
      · rename_i hz
        cases hk
        exact .inr ⟨z, rfl, hz, h4.here hR3 _ (.str _)⟩
      · cases hk
    | _ => cases hk⟩⟩⟩
/-- x[::-1] of a list -/
def revD : D → R D
  | .lst xs => .ok (.lst xs.reverse)
  | .fro xs => .ok (.lst xs.reverse)
  | _ => .no
theorem revD_ne : ∀ x c fs, revD x ≠ .ex c fs := fun x c fs z => by unfold revD at z; split at z <;> cases z
end

/-! ### objects of one's own, read -/
section
variable {X : Cx} {C : Cd} {own : List Nat} {b : Expr} {fb : EF} {x y : Str} {p q pos : Pos}
theorem RE.still {K : PySem.W.Frag} {ca : CA} {B : Bs} {env : En} {σ : L2.St} {F H F' H' Fp : Hp} (h : RE K ca B own env σ F H) (sF : Same F Fp) (st : Stp Fp H F' H') : RE K ca B own env σ F H' :=
  h.step ⟨fun p o e => st.sH _ _ (h.q.sub _ _ e), Same.refl _, st.sH, fun p hp => .inl hp, fun _ _ z => z⟩
def lenO (i : Nat) : EF := fun env => match env[i]? with
  | some (some d) => (lenD [d]).bind fun r => .ok (r, env)
  | _ => .no
theorem lenD_flat {ds : List D} {d : D} (h : lenD ds = .ok d) : ∃ k, d = .int k := by
  unfold lenD at h
  split at h
  · cases h; exact ⟨_, rfl⟩
  · cases h; exact ⟨_, rfl⟩
  · cases h; exact ⟨_, rfl⟩
  · split at h
    · cases h; exact ⟨_, rfl⟩
    · cases h
  · cases h
theorem Ow.view {K : PySem.W.Frag} {ca : CA} {B : Bs} {F H : Hp} {d : D} {p : Addr} (O : Ow K ca B F H d p) (sub : Same F H) : ∃ Fp, Same F Fp ∧ Same Fp H ∧ Rep K ca Fp d (.ref p) := by
  obtain ⟨o, ho, _, r⟩ := O.o.rep O.f
  refine ⟨_, same_upd O.f, fun q u e => ?_, r⟩
  by_cases hb : q = p
  · subst hb; rw [upd_same] at e; cases e; exact ho
  · rw [upd_ne hb] at e; exact sub q u e
theorem ev_lenO (i : Nat) (hm : X.mg "len" = none) (hi : own.contains i = true := by rfl) (hN : X.N[i]? = some y := by rfl) (hv : Vis X.env.scope y := by first | exact Or.inl rfl | exact Or.inr (Or.inl rfl) | exact Or.inr (Or.inr rfl)) (hd : (y == ("__debug__" : Str)) = false := by decide)
    (hcd : (y == ("__classdict__" : Str)) = false := by decide) (hg : Gl X "len" := by rfl) (he : starEach [.Name y q] X.env = (false, eval (.Name y q) X.env) :: starEach [] X.env := by rfl) (hpl : (backTo pos (starEach [] X.env)).any (·.1) = false := by rfl) :
    PE X (.Call (.Name "len" p) [.Name y q] [] pos) (tE X.K C own (lenO i)) :=
  pe_imp (pe_callB (oc_len (ca := C.ca)) hg hm (by decide +kernel) (pa_cons (pv i hN hv hd hcd) pa_nil he) (by decide) (by decide) he hpl) fun σ H Q ⟨env, F, hR, h⟩ => by
    have hi : i ∈ own := by simpa using hi
    unfold lenO at h
    split at h
    · rename_i d e0
      obtain ⟨r, hr, h2⟩ := h.known (lenD_ne [d])
      obtain ⟨p, hp, O⟩ := hR.ow i d hi e0
      obtain ⟨Fp, s1, s2, rp⟩ := O.view hR.q.sub
      obtain ⟨k, rfl⟩ := lenD_flat hr
      exact ⟨_, hp, Fp, [d], _, s2, .one rp, hr, fun v F' H' st rv => by cases rv; exact h2 F H' (hR.still s1 st) (Same.refl _) _ (.int k)⟩
    · exact h.elim
def ixO (i : Nat) (fb : EF) : EF := fun env => match env[i]? with
  | some (some _) => (fb env).bind fun p => match p.2[i]?, p.1 with
    | some (some (.lst xs)), .int k => (R.ofOpt (atI xs k)).bind fun d => .ok (d, p.2)
    | _, _ => .no
  | _ => .no
theorem ev_ixO (i : Nat) (hb : PE X b (tE X.K C own fb)) (hi : own.contains i = true := by rfl) (hN : X.N[i]? = some y := by rfl) (hv : Vis X.env.scope y := by first | exact Or.inl rfl | exact Or.inr (Or.inl rfl) | exact Or.inr (Or.inr rfl)) (hd : (y == ("__debug__" : Str)) = false := by decide)
    (hcd : (y == ("__classdict__" : Str)) = false := by decide) (hs : PlainIx b := by exact fun _ _ => rfl) : PE X (.Subscript (.Name y q) b pos) (tE X.K C own (ixO i fb)) :=
  pe_imp (pe_ix ix_list (pv i hN hv hd hcd) hb hs) fun σ H Q ⟨env, F, hR, h⟩ => by
    have hi : i ∈ own := by simpa using hi
    unfold ixO at h
    split at h
    · rename_i d0 e0
      obtain ⟨p0, hp0, O0⟩ := hR.ow i d0 hi e0
      refine ⟨_, hp0, env, F, hR, h.bind.imp fun kd e1 F1 H1 hR1 s1 h1 iv ri => ?_⟩
      dsimp only at h1
      cases e3 : e1[i]? with
      | none => rw [e3] at h1; exact h1.elim
      | some od =>
        cases od with
        | none => rw [e3] at h1; exact h1.elim
        | some d1 =>
          rw [e3] at h1
          cases d1 <;> try exact h1.elim
          rename_i xs
          cases ri <;> try exact h1.elim
          rename_i k
          obtain ⟨d, hd, h2⟩ := Pst.known h1 (fun c fs => ofOpt_ne)
          obtain ⟨p1, hp1, O⟩ := hR1.ow i _ hi e3
          rw [hp0] at hp1
          cases hp1
          obtain ⟨ws, a1, a2⟩ := O.o
          obtain ⟨w, h3, h4⟩ := atI_rep a2 (ofOpt_eq hd)
          exact ⟨_, _, _, _, rfl, rfl, SqL.of a1, h3, h2.here hR1 _ h4⟩
    · exact h.elim
/-- x == e, x != e, of an object of one's own: the answer True or False -/
def isBl : D → Bool
  | .bl _ => true
  | _ => false
def cmpO (i : Nat) (g : D → D → R D) (fb : EF) : EF := fun env => match env[i]? with
  | some (some _) => (fb env).bind fun p => match p.2[i]? with
    | some (some d) => (g d p.1).nox.bind fun r => if isBl r = true then .ok (r, p.2) else .no
    | _ => .no
  | _ => .no
theorem ev_cmpO (i : Nat) {op : CmpOp} {g : D → D → R D} (ho : OpR X (compareOp op) (r2 X.K C.ca g)) (hb : PE X b (tE X.K C own fb)) (hi : own.contains i = true := by rfl) (hN : X.N[i]? = some y := by rfl) (hv : Vis X.env.scope y := by first | exact Or.inl rfl | exact Or.inr (Or.inl rfl) | exact Or.inr (Or.inr rfl)) (hd : (y == ("__debug__" : Str)) = false := by decide)
    (hcd : (y == ("__classdict__" : Str)) = false := by decide) (hm : behindInMarks op b = false := by first | exact nomark _ | rfl) : PE X (.Compare (.Name y q) [op] [b] pos) (tE X.K C own (cmpO i g fb)) :=
  pe_imp (pe_cmpR ho (pv i hN hv hd hcd) hb hm) fun σ H Q ⟨env, F, hR, h⟩ => by
    have hi : i ∈ own := by simpa using hi
    unfold cmpO at h
    split at h
    · rename_i d0 e0
      obtain ⟨p0, hp0, O0⟩ := hR.ow i d0 hi e0
      refine ⟨_, hp0, env, F, hR, h.bind.imp fun db e1 F1 H1 hR1 s1 h1 w rw' => ?_⟩
      dsimp only at h1
      split at h1
      · rename_i d e3
        obtain ⟨p1, hp1, O⟩ := hR1.ow i _ hi e3
        rw [hp0] at hp1
        cases hp1
        obtain ⟨Fp, t1, t2, rp⟩ := O.view hR1.q.sub
        cases eg : g d db with
        | ex c fs => rw [eg] at h1; exact h1.elim
        | no => rw [eg] at h1; exact h1.elim
        | ok r =>
          rw [eg] at h1
          dsimp only [R.nox_ok, R.bind_ok] at h1
          split at h1
          · cases r <;> rename_i hbl <;> try cases hbl
            exact ⟨Fp, d, db, _, t2, rp, rw'.mono t1, eg, fun v F' H' st rv => by cases rv; exact h1 F1 H' (hR1.still t1 st) (Same.refl _) _ (.bl _)⟩
          · exact h1.elim
      · exact h1.elim
    · exact h.elim
end
end Dl

namespace Ru
open PySem PySem.Spec PyProof.Rows L2
/-! ### C.m(..): a def of a class, read off the class and called with all its arguments -/
section
variable {X : Cx} {pins : List (Addr × Obj)} {σ : L2.St} {H : Hp} {s : Shared} {C g : Addr} {mc : Value} {m : Str} {A : Around} {E0 : Value → Shared → Prop}
theorem getcf_ok {pl : Sem Bool} {Q : Value × List Value → Shared → Prop} (I : Inv X pins σ H s) (r : ClX.CRead X.K C mc) (k : ClX.CVal X.K C mc m (.ref g) (.ref g)) (h : ∀ s', Inv X pins σ H s' → Q (.ref g, []) s') :
    wpAny (model X.prog X.w) A (getMethod (.ref C) m pl) Q E0 s := PySem.W.method_cls I.kIn r.ga (ClX.getcval_ok I r k h)
end
def tCFn (C : Addr) (sp : Sp) (E : XK) (ta : TE) (t : TA) : TE := fun σ H Q => ta σ H fun x H1 => x = .ref C ∧ t σ H1 fun vs H2 => sp vs H2 Q E
theorem pe_cfn {X : Cx} {CX : CXT} {k : Nat} {C g : Addr} {mc : Value} {sp : Sp} {E : XK} {o e : Expr} {es : List Expr} {m : Str} {pos apos : Pos} {ta : TE} {t : TA} {pl : Sem Bool}
    (he : PE X o ta) (r : ClX.CRead X.K C mc) (c : ClX.CVal X.K C mc m (.ref g) (.ref g)) (hk : PySem.W.keepIn X.K (.ref g) = true) (F : FnR X.prog X.w X.K X.mg X.base CX k g sp) (hr : Room k X.A) (hx : Passes CX X E) (ha : PA X (e :: es) t)
    (hst : starEach (e :: es) X.env = (false, eval e X.env) :: starEach es X.env := by rfl) (hpl : (backTo pos (starEach es X.env)).any (·.1) = false := by rfl)
    (ht : eval (.Call (.Attribute o m apos) (e :: es) [] pos) X.env = (do
      let ov ← eval o X.env
      standAt apos.atName
      let (f, first) ← holding [ov] (getMethod ov m pl)
      callWith pos f first (backTo pos (starEach (e :: es) X.env)) (backToKw pos (keywordEach [] X.env))) := by rfl) :
    PE X (.Call (.Attribute o m apos) (e :: es) [] pos) (tCFn C sp E ta t) := by
  refine ⟨fun pins s σ H Q I h => ?_⟩
  refine PySem.W.methodCall_KW (pl := pl) (thn (he.run pins s σ H _ I h) fun u s1 ⟨x, H1, I1, rx, ex, q⟩ => ?_) ht
  subst ex
  obtain rfl : u = Value.ref C := rx
  refine getcf_ok I1 r c fun s2 I2 => ?_
  refine PySem.W.callWith_K (first := []) (h₀ := X.base) I.ok.mod.kin hk (thn (ha.run pos pins s2 σ H1 _ I2 q) fun us s3 ⟨vs, H2, I3, rv, q2⟩ => ⟨I3.kIn, ?_⟩) hst hpl
  exact wpAny_call (run_fnR F hr hx I3 rv q2)
end Ru
namespace Dl
open PySem PySem.Spec PyProof.Rows L2
/-! ### x, y = a, b -/
def par2S (i j : Nat) (fs : AF) : SF := fun env => (fs env).toS fun p => match p.1 with
  | [a, b] => .nx ((p.2.set i (some a)).set j (some b))
  | _ => .no
def par3S (i j l : Nat) (fs : AF) : SF := fun env => (fs env).toS fun p => match p.1 with
  | [a, b, c] => .nx (((p.2.set i (some a)).set j (some b)).set l (some c))
  | _ => .no
section
variable {X : Cx} {C : Cd} {own own' ol : List Nat} {a b c : Expr} {fs : AF} {x y z : Str} {pos : Pos}
theorem sv_par2 {i j : Nat} {px py pt : Pos} {kt k2 pt2} (hc : X.calm = true) (hN : X.N.Nodup) (ha : PA X [a, b] (tA X.K C own fs)) (hm1 : i ≠ 0 ∨ C.B.free0) (hm2 : j ≠ 0 ∨ C.B.free0) (ho : (own.filter (fun k => k != i)).filter (fun k => k != j) = own' := by rfl) (hij : i ≠ j := by decide) (hi : X.N[i]? = some x := by rfl) (hj : X.N[j]? = some y := by rfl)
    (hx : X.env.scope.names.lookup x = some .local := by rfl) (hy : X.env.scope.names.lookup y = some .local := by rfl)
    (hw : swappedStores [.Tuple [.Name x px, .Name y py] kt pt] (.Tuple [a, b] k2 pt2) X.env = pure (some [x, y]) := by rfl)
    (hs : swapsWithSole [.Tuple [.Name x px, .Name y py] kt pt] (.Tuple [a, b] k2 pt2) pos.line X.env = pure false := by rfl) :
    PS X (.Assign [.Tuple [.Name x px, .Name y py] kt pt] (.Tuple [a, b] k2 pt2) pos) (tS X.K C own own' ol (par2S i j fs)) :=
  ps_imp (ps_par hc hN hi hj hij hx hy ha hw hs) fun Dn σ H ⟨env, F, hR, h⟩ => ⟨env, F, hR, (Sst.bind (show Sst X.K C own' ol ((fs env).toS fun p => _) F Dn from h)).imp fun ds e1 F1 H1 hR1 s1 h1 vs r => by
    dsimp only at h1
    split at h1
    · cases r with
      | cons r rs =>
        cases rs with
        | cons r' rs =>
          cases rs
          exact ⟨_, _, rfl, h1 _ F1 H1 ((hR1.put r hm1 rfl).put r' hm2 ho) (Same.refl _)⟩
    · exact h1.elim⟩
theorem sv_par3 {i j l : Nat} {px py pz pt : Pos} {kt k2 pt2} (hc : X.calm = true) (hN : X.N.Nodup) (ha : PA X [a, b, c] (tA X.K C own fs)) (hm1 : i ≠ 0 ∨ C.B.free0) (hm2 : j ≠ 0 ∨ C.B.free0) (hm3 : l ≠ 0 ∨ C.B.free0) (ho : ((own.filter (fun k => k != i)).filter (fun k => k != j)).filter (fun k => k != l) = own' := by rfl)
    (hij : i ≠ j := by decide) (hil : i ≠ l := by decide) (hjl : j ≠ l := by decide) (hi : X.N[i]? = some x := by rfl) (hj : X.N[j]? = some y := by rfl) (hl : X.N[l]? = some z := by rfl)
    (hx : X.env.scope.names.lookup x = some .local := by rfl) (hy : X.env.scope.names.lookup y = some .local := by rfl) (hz : X.env.scope.names.lookup z = some .local := by rfl)
    (hw : swappedStores [.Tuple [.Name x px, .Name y py, .Name z pz] kt pt] (.Tuple [a, b, c] k2 pt2) X.env = pure (some [x, y, z]) := by rfl)
    (hs : swapsWithSole [.Tuple [.Name x px, .Name y py, .Name z pz] kt pt] (.Tuple [a, b, c] k2 pt2) pos.line X.env = pure false := by rfl) :
    PS X (.Assign [.Tuple [.Name x px, .Name y py, .Name z pz] kt pt] (.Tuple [a, b, c] k2 pt2) pos) (tS X.K C own own' ol (par3S i j l fs)) :=
  ps_imp (ps_par3 hc hN hi hj hl hij hil hjl hx hy hz ha hw hs) fun Dn σ H ⟨env, F, hR, h⟩ => ⟨env, F, hR, (Sst.bind (show Sst X.K C own' ol ((fs env).toS fun p => _) F Dn from h)).imp fun ds e1 F1 H1 hR1 s1 h1 vs r => by
    dsimp only at h1
    split at h1
    · cases r with
      | cons r rs =>
        cases rs with
        | cons r' rs =>
          cases rs with
          | cons r2 rs =>
            cases rs
            exact ⟨_, _, _, rfl, h1 _ F1 H1 (((hR1.put r hm1 rfl).put r' hm2 rfl).put r2 hm3 ho) (Same.refl _)⟩
    · exact h1.elim⟩
/-! ### x += e of a local number or text -/
def augS (i : Nat) (g : D → D → R D) (f : EF) : SF := fun env => match env[i]? with
  | some (some d) => (f env).toS fun p => (g d p.1).nox.toS fun r => .nx (p.2.set i (some r))
  | _ => .no
end
/-! ### keywords -/
def callK (n : Nat) (F : List D → R D) (gD : List D → List D) (fk : AF) : EF := fun env => (fk env).bind fun p => if (gD p.1).length = n then (F (gD p.1)).bind fun d => .ok (d, p.2) else .no
def makeK (c n : Nat) (G : List D → R (D × D)) (gD : List D → List D) (fk : AF) : EF := fun env => (fk env).bind fun p => if (gD p.1).length + 1 = n then (G (.ins c [] :: gD p.1)).bind fun r => (nonD r).bind fun d => .ok (d, p.2) else .no
section
variable {X : Cx} {C : Cd} {own : List Nat} {e o : Expr} {es : List Expr} {fs fk : AF} {x : Str} {p pos apos : Pos} {k n c : Nat} {f : Addr} {fd : FuncData} {ps ks : List Str} {F : List D → R D} {G : List D → R (D × D)} {kws : List Keyword} {nm : Option Str} {kpos : Pos} {fa : EF}
theorem pk_imp {t t' : TA} (h : PK X kws t) (g : ∀ σ H Q, t' σ H Q → t σ H Q) : PK X kws t' := ⟨fun pos pins s σ H Q I q => h.run pos pins s σ H Q I (g _ _ _ q)⟩
theorem ek_nil : PK X [] (tA X.K C own aNil) := pk_imp pk_nil fun σ H Q ⟨env, F, hR, h⟩ => h.here hR [] .nil
theorem ek_cons {nm : Option Str} (ha : PE X e (tE X.K C own fa)) (hr : PK X kws (tA X.K C own fs)) : PK X (⟨nm, e, kpos⟩ :: kws) (tA X.K C own (aCons fa fs)) :=
  pk_imp (pk_cons ha hr) fun σ H Q ⟨env, F, hR, h⟩ => ⟨env, F, hR, h.bind.imp fun x e1 F1 H1 hR1 s1 h1 v rv => ⟨e1, F1, hR1, h1.bind.imp fun ys e2 F2 H2 hR2 s2 h2 vs rvs => h2.here hR2 (v :: vs) (.cons (rv.mono s2) rvs)⟩⟩
theorem ev_callK {g : List Value → List Value → List Value} {gV : List V → List V → List V} {gD : List D → List D} (Gf : FnOk X.prog X.w X.K X.mg X.base (L2.CX X.prog X.w) k f fd ps (spD X.K C.ca n F)) (hr : Room k X.A) (hm : X.mg x = some (.ref f)) (hk : PySem.W.keepIn X.K (.ref f) = true)
    (hb : KBinds X.K fd ps ks g gV) (hD : ∀ (F : Hp) ds vs, Reps X.K C.ca F ds vs → Reps X.K C.ca F (gD ds) (gV [] vs)) (hx : PX X C) (hkw : PK X kws (tA X.K C own fk)) (hg : Gl X x := by rfl) (hall : (backToKw pos (keywordEach kws X.env)).all (·.1.isSome) = true := by rfl) (hks : (backToKw pos (keywordEach kws X.env)).filterMap (·.1) = ks := by rfl)
    (hdb : (x == ("__debug__" : Str)) = false := by decide) (hpl : ((backTo pos (starEach [] X.env)).any (·.1) || (backToKw pos (keywordEach kws X.env)).any (·.1.isNone)) = false := by rfl) :
    PE X (.Call (.Name x p) [] kws pos) (tE X.K C own (callK n F gD fk)) :=
  pe_imp (Ru.pe_callK0 Gf hr hg hm hk hb hx hkw hall hks hdb hpl) fun σ H Q ⟨env, F0, hR, h⟩ => ⟨env, F0, hR, h.bind.imp fun ds e1 F1 H1 hR1 s1 h1 vs r => callOk hR1 (hD F1 ds vs r) h1⟩
theorem ev_makeK {g : List Value → List Value → List Value} {gV : List V → List V → List V} {gD : List D → List D} (M : Mk X.K (C.ca c) f) (Gf : FnOk X.prog X.w X.K X.mg X.base (L2.CX X.prog X.w) k f fd ps (spM X.K C.ca n G)) (hr : Room (k + 1) X.A) (hm : X.mg x = some (.ref (C.ca c))) (hb : KBn X.K fd ps 1 ks g gV)
    (hD : ∀ (F : Hp) ds vs xa, Reps X.K C.ca F ds vs → ds.length = ks.length → ∃ vs', gV [.ref xa] vs = .ref xa :: vs' ∧ Reps X.K C.ca F (gD ds) vs') (hlen : ∀ ds, (gD ds).length + 1 = n → ds.length = ks.length) (hx : PX X C) (hkw : PK X kws (tA X.K C own fk)) (hok : C.ca.ok c = true := by rfl) (hg : Gl X x := by rfl)
    (hall : (backToKw pos (keywordEach kws X.env)).all (·.1.isSome) = true := by rfl) (hks : (backToKw pos (keywordEach kws X.env)).filterMap (·.1) = ks := by rfl) (hdb : (x == ("__debug__" : Str)) = false := by decide)
    (hpl : ((backTo pos (starEach [] X.env)).any (·.1) || (backToKw pos (keywordEach kws X.env)).any (·.1.isNone)) = false := by rfl) :
    PE X (.Call (.Name x p) [] kws pos) (tN X.K C own (makeK c n G gD fk)) :=
  pe_imp (pe_makeK0 M Gf hr hg hm hb hx hkw hall hks hdb hpl) fun σ H Q ⟨env, F0, hR, h⟩ => ⟨env, F0, hR, h.bind.imp fun ds e1 F1 H1 hR1 s1 h1 vs r => by
    have hn : (gD ds).length + 1 = n := by
      by_cases hn : (gD ds).length + 1 = n
      · exact hn
      · dsimp only at h1
        rw [if_neg hn] at h1
        exact h1.elim
    have hl := hlen ds hn
    refine ⟨rfl, by rw [← r.length]; exact hl, fun xa dx hx hdx ne => ?_⟩
    obtain ⟨vs', e', r'⟩ := hD F1 ds vs xa r hl
    rw [e']
    exact makeOk hok hR1 r' hx hdx ne h1⟩
end
/-! ### Base.__init__(self, ..) -/
section
variable {X : Cx} {C : Cd} {own : List Nat} {o : Expr} {es : List Expr} {fs : AF} {y m : Str} {p q pos apos : Pos} {k n : Nat} {f : Addr} {G : List D → R (D × D)} {CC : Addr} {mc : Value}
theorem ev_cfn (i : Nat) {pl : Sem Bool} (ho : PE X o (tC (.ref CC))) (r : ClX.CRead X.K CC mc) (cv : ClX.CVal X.K CC mc m (.ref f) (.ref f)) (hk : PySem.W.keepIn X.K (.ref f) = true) (Gf : FnR X.prog X.w X.K X.mg X.base (L2.CX X.prog X.w) k f (spM X.K C.ca n G)) (hr : Room k X.A) (hx : PX X C) (ha : PA X es (tA X.K C own fs))
    (hi : own.contains i = true := by rfl) (hN : X.N[i]? = some y := by rfl) (hv : Vis X.env.scope y := by first | exact Or.inl rfl | exact Or.inr (Or.inl rfl) | exact Or.inr (Or.inr rfl)) (hd : (y == ("__debug__" : Str)) = false := by decide)
    (hcd : (y == ("__classdict__" : Str)) = false := by decide) (he : starEach (.Name y q :: es) X.env = (false, eval (.Name y q) X.env) :: starEach es X.env := by rfl) (hpl : (backTo pos (starEach es X.env)).any (·.1) = false := by rfl)
    (ht : eval (.Call (.Attribute o m apos) (.Name y q :: es) [] pos) X.env = (do
      let ov ← eval o X.env
      standAt apos.atName
      let (f, first) ← holding [ov] (getMethod ov m pl)
      callWith pos f first (backTo pos (starEach (.Name y q :: es) X.env)) (backToKw pos (keywordEach [] X.env))) := by rfl) :
    PE X (.Call (.Attribute o m apos) (.Name y q :: es) [] pos) (tE X.K C own (callM i n G fs)) :=
  pe_imp (Ru.pe_cfn (pl := pl) ho r cv hk Gf hr hx (pa_cons (pv i hN hv hd hcd) ha he) he hpl ht) fun σ H Q ⟨env, F0, hR, h⟩ => by
    have hi : i ∈ own := by simpa using hi
    refine ⟨rfl, ?_⟩
    unfold callM at h
    split at h
    · rename_i d00 e0
      obtain ⟨p0, hp0, O0⟩ := hR.ow i d00 hi e0
      refine ⟨_, hp0, env, F0, hR, h.bind.imp fun ds e1 F1 H1 hR1 s1 h1 vs r => ?_⟩
      dsimp only at h1
      split at h1
      · rename_i d0 e2
        exact callMOk (E := C.E) hR1 hi e2 hp0 r h1
      · exact h1.elim
    · exact h.elim
end
/-! ### def m(self, a, *rest) -/
/-- m: the plain parameters, self too -/
def starD (m : Nat) (G : List D → R (D × D)) (ds : List D) : R (D × D) := if m ≤ ds.length ∧ (ds.drop m).length ≤ sizeLine then G (ds.take m ++ [.tup (ds.drop m)]) else .no
section
variable {P : Program} {w : World} {K : PySem.W.Frag} {mg : Str → Option Value} {base : Heap} {ca : CA} {CX : CXT}
theorem Reps.tk {F : Hp} {ds : List D} {vs : List V} (r : Reps K ca F ds vs) (n : Nat) : Reps K ca F (ds.take n) (vs.take n) := r.take n
theorem star_imp {m n : Nat} {G : List D → R (D × D)} (hm : 0 < m) : ∀ vs H Q E, spM K ca n (starD m G) vs H Q E →
    ∃ ws rest, vs = ws ++ rest ∧ ws.length = m ∧ rest.length ≤ sizeLine ∧ ∀ p, H p = none → spM K ca (m + 1) G (ws ++ [V.ref p]) (upd H p (.tup rest)) Q E := by
  rintro vs H Q E ⟨F, d0, ds, p0, vs', rfl, pre, hF, O, r, hl, h⟩
  unfold starD at h
  by_cases hc : m ≤ (d0 :: ds).length ∧ ((d0 :: ds).drop m).length ≤ sizeLine
  · rw [if_pos hc] at h
    obtain ⟨m, rfl⟩ : ∃ k, m = k + 1 := ⟨m - 1, by omega⟩
    rw [List.take_succ_cons, List.drop_succ_cons] at h
    have hlen := r.length
    have h1 : m ≤ ds.length := by have := hc.1; rw [List.length_cons] at this; omega
    refine ⟨.ref p0 :: vs'.take m, vs'.drop m, by rw [List.cons_append, List.take_append_drop], by rw [List.length_cons, List.length_take]; omega, ?_, fun p hp => ?_⟩
    · have := hc.2
      rw [List.drop_succ_cons, List.length_drop] at this
      rw [List.length_drop]; omega
    · have st : Stp F H (upd F p (.tup (vs'.drop m))) (upd H p (.tup (vs'.drop m))) := Stp.new pre.sub hp
      have hFp : F p = none := pre.sub.free hp
      have ne : p0 ≠ p := fun z => O.there (z ▸ hp)
      have comp : ∀ {F' H' : Hp}, StM ca.T p0 (upd F p (.tup (vs'.drop m))) (upd H p (.tup (vs'.drop m))) F' H' → StM ca.T p0 F H F' H' := fun {F' H'} s =>
        ⟨s.sub, st.sF.trans s.sF, fun q o e n t => s.kp q o (st.sH _ _ e) n t, fun q hq => by
          by_cases hb : q = p
          · subst hb; exact .inr hp
          · rcases s.nw q hq with z | z
            · rw [upd_ne hb] at z; exact .inl z
            · rw [upd_ne hb] at z; exact .inr z, fun q ps z => st.nt q ps (s.nt q ps z), fun q z => s.kt q (Same.some st.sH z), s.tb, s.hF⟩
      refine ⟨upd F p (.tup (vs'.drop m)), d0, ds.take m ++ [.tup (ds.drop m)], p0, vs'.take m ++ [.ref p], rfl, ⟨st.sub, pre.tb.ext st.sH, fun q ps z => pre.nt q ps (st.nt q ps z)⟩, by rw [upd_ne ne]; exact hF, O.step st, ((r.take m).mono st.sF).append (.one (.tup (.of upd_same) ((r.drop m).mono st.sF))), ?_, ?_⟩
      · rw [List.length_append, List.length_take, List.length_singleton]; omega
      · rw [List.cons_append] at h
        cases eg : G (d0 :: (ds.take m ++ [.tup (ds.drop m)])) with
        | ok rr => rw [eg] at h; exact fun v F' H' s O' rv => h v F' H' (comp s) O' rv
        | ex c fs => rw [eg] at h; exact fun e o F' H' s xr => h e o F' H' (comp s) xr
        | no => rw [eg] at h; exact h.elim
  · rw [if_neg hc] at h; exact h.elim
end
end Dl

namespace Dl
open PySem PySem.Spec PyProof.Rows L2

/-! ### defs that return a new object, the caller's own -/
def spN (K : PySem.W.Frag) (ca : CA) (n : Nat) (f : List D → R D) : Sp := fun vs H Q E => ∃ F ds, Pre ca F H ∧ Reps K ca F ds vs ∧ ds.length = n ∧ match f ds with
  | .ok d => ∀ p F' H', StC ca.T F H F' H' → F' p = none → H p = none → OwO K ca F' H' d p → Q (.ref p) H'
  | .ex c fs => ∀ e o F' H', StC ca.T F H F' H' → XR K ca c fs e o F' → E e o H'
  | .no => False
def runN (n : Nat) (g : SF) (ds : List D) : R D := match g (startE n ds) with
  | .rt d _ => .ok d
  | .ex c fs => .ex c fs
  | _ => .no
section
variable {X : Cx} {C : Cd} {own own' ol : List Nat} {a e : Expr} {es : List Expr} {fs : AF} {fa : EF} {x y : Str} {p q pos : Pos} {k n : Nat} {f : Addr} {fd : FuncData} {ps : List Str} {F : List D → R D}
theorem RE.fshOf {K : PySem.W.Frag} {ca : CA} {B : Bs} {env : En} {σ : L2.St} {F H F' H' : Hp} {d : D} {p : Addr} (h : RE K ca B own env σ F H) (hp : H p = none) (hF : F' p = none) (O : OwO K ca F' H' d p) : Fsh K ca B own env σ F' H' d p where
  o := O
  f := hF
  b := (h.q.fresh hp).1
  m := (h.q.fresh hp).2.1
  dis := fun j e hj he z => by
    obtain ⟨p', h1, h2⟩ := h.ow j e hj he
    rw [z] at h1
    cases h1
    exact h2.o.there hp
theorem callNOk {σ : L2.St} {F1 H1 : Hp} {env : En} {ds : List D} {vs : List V} {Q : VK} (hR : RE X.K C.ca C.B own env σ F1 H1) (r : Reps X.K C.ca F1 ds vs)
    (h : Pst X.K C own (if ds.length = n then (F ds).bind fun d => .ok (d, env) else .no) σ F1 fun d e F' H' => ∀ p, Fsh X.K C.ca C.B own e σ F' H' d p → Q (.ref p) H') : spN X.K C.ca n F vs H1 Q C.E := by
  by_cases hn : ds.length = n
  · rw [if_pos hn] at h
    refine ⟨F1, ds, hR.q.pre, r, hn, ?_⟩
    cases e : F ds with
    | ok d => rw [e] at h; exact fun p F' H' st hF hp O => h F' H' (hR.stepC st) st.sF p (hR.fshOf hp hF O)
    | ex c fs => rw [e] at h; exact fun e o F' H' st xr => h e o F' H' (hR.q.stepC st) st.sF xr
    | no => rw [e] at h; exact h
  · rw [if_neg hn] at h; exact h.elim
theorem ev_callN (Gf : FnOk X.prog X.w X.K X.mg X.base (L2.CX X.prog X.w) k f fd ps (spN X.K C.ca n F)) (hr : Room k X.A) (hm : X.mg x = some (.ref f)) (hk : PySem.W.keepIn X.K (.ref f) = true) (hb : Binds X.K fd ps []) (hx : PX X C) (ha : PA X (e :: es) (tA X.K C own fs))
    (hg : Gl X x := by rfl) (hdb : (x == ("__debug__" : Str)) = false := by decide) (he : starEach (e :: es) X.env = (false, eval e X.env) :: starEach es X.env := by rfl) (hpl : (backTo pos (starEach es X.env)).any (·.1) = false := by rfl) :
    PE X (.Call (.Name x p) (e :: es) [] pos) (tN X.K C own (callF n F fs)) :=
  pe_imp (pe_call Gf hr hg hm hk hb .nil hx ha hdb he hpl) fun σ H Q ⟨env, F0, hR, h⟩ => ⟨env, F0, hR, h.bind.imp fun ds e1 F1 H1 hR1 s1 h1 vs r => by
    show spN X.K C.ca n F (vs ++ []) H1 Q C.E
    rw [List.append_nil]
    exact callNOk hR1 r h1⟩
/-- return of a new value -/
theorem sv_retL (he : PE X a (tN X.K C own fa)) (hw : C.nw = true := by rfl) : PS X (.Return (some a) pos) (tS X.K C own own' ol (retS fa)) :=
  ps_imp (ps_ret he) fun Dn σ H ⟨env, F, hR, h⟩ => ⟨env, F, hR, (Sst.bind h).imp fun d e1 F1 H1 hR1 s1 h1 p z => h1 (.ref p) F1 H1 hR1.q hR1.mutF (Same.refl _) (by
    unfold RT
    rw [hw]
    exact ⟨p, rfl, z.f, z.b, z.m, z.o⟩)⟩
/-- return of an object of one's own -/
theorem sv_retO (i : Nat) (hm : i ≠ 0 ∨ C.B.free0) (hi : own.contains i = true := by rfl) (hN : X.N[i]? = some y := by rfl) (hv : Vis X.env.scope y := by first | exact Or.inl rfl | exact Or.inr (Or.inl rfl) | exact Or.inr (Or.inr rfl)) (hd : (y == ("__debug__" : Str)) = false := by decide)
    (hcd : (y == ("__classdict__" : Str)) = false := by decide) (hw : C.nw = true := by rfl) : PS X (.Return (some (.Name y q)) pos) (tS X.K C own own' ol (retS (eV i))) :=
  ps_imp (ps_ret (pv i hN hv hd hcd)) fun Dn σ H ⟨env, F, hR, h⟩ => by
    have hi : i ∈ own := by simpa using hi
    unfold retS eV at h
    cases e : env[i]? with
    | none => rw [e] at h; exact h.elim
    | some o =>
      cases o with
      | none => rw [e] at h; exact h.elim
      | some d =>
        rw [e] at h
        obtain ⟨p, hp, O⟩ := hR.ow i d hi e
        refine ⟨.ref p, hp, ?_⟩
        refine h (.ref p) F H hR.q hR.mutF (Same.refl _) ?_
        unfold RT
        rw [hw]
        have nm : C.B.m ≠ some p := fun z => by
          rcases hm with hm | hm
          · obtain ⟨z0, z1, d0, z2⟩ := hR.mt p z
            exact hR.ne i 0 p d d0 hi z0 hm e z2 hp z1
          · rw [hm.1] at z; cases z
        exact ⟨p, rfl, O.f, O.b.resolve_right nm, nm, O.o⟩
end
section
variable {P : Program} {w : World} {K : PySem.W.Frag} {mg : Str → Option Value} {base : Heap} {ca : CA}
theorem fn_N {x qual : Str} {st : Stmt} {f : Addr} {fd : FuncData} {N ps : List Str} {k : Nat} {g : SF} {own' : List Nat} (T : Fun K x qual st f fd) (S : FnScope N ps (defScope st))
    (hb : ∀ (B : Bs), B.free0 → ∀ (cdv : Value) (A : Around) (outer : List PySem.Env) (s : Shared) (H : Hp) (E : XK), Room k (A.deeper (envOfC qual (defScope st) s.heap.objs.size f cdv)) →
      PSs (cxOf (L2.CX P w) P w K mg base N qual (defScope st) f cdv A outer s H E) (defBody st) (tS K (.top ca B E true) [] own' [] g)) : FnOk P w K mg base (L2.CX P w) (k + 1) f fd ps (spN K ca ps.length (runN N.length g)) := by
  refine T.okX S (fun vs H Q E ⟨F, ds, _, r, hl, _⟩ => by rw [← r.length]; exact hl) (fun cdv A outer s H vs Q E hr ⟨F, ds, pre, r, hl, hm⟩ => ⟨_, hb ⟨F, H, none, none⟩ ⟨rfl, rfl⟩ cdv A outer s H E hr, ?_⟩)
  refine ⟨startE N.length ds, F, re_start pre r, ?_⟩
  unfold runN at hm
  cases eg : g (startE N.length ds) with
  | nx e => rw [eg] at hm; exact hm.elim
  | rt d e =>
    rw [eg] at hm
    intro v F' H' q m s rv
    obtain ⟨p, rfl, h1, h2, h3, h4⟩ := rv
    exact hm p F' H' (bq_stC q) h1 h2 h4
  | bk e => rw [eg] at hm; exact hm.elim
  | ct e => rw [eg] at hm; exact hm.elim
  | ex c fs => rw [eg] at hm; exact fun e o F' H' q s xr => hm e o F' H' (bq_stC q) xr
  | no => rw [eg] at hm; exact hm.elim
end
end Dl

namespace Dl
open PySem PySem.Spec PyProof.Rows L2

/-! ### a op b op c .. -/
abbrev HF := D → EF
abbrev KF := D → TF
def hLast (g : D → D → R D) (fb : EF) : HF := fun x env => (fb env).bind fun q => (g x q.1).bind fun r => .ok (r, q.2)
def hLink (g : D → D → R D) (fb : EF) (h : HF) : HF := fun x env => (fb env).bind fun q => (g x q.1).bind fun r => (blD r).bind fun b => if b = true then h q.1 q.2 else .ok (.bl false, q.2)
def kLast (g : D → D → R D) (fb : EF) : KF := fun x env => (fb env).bind fun q => (g x q.1).bind fun r => (blD r).bind fun b => .ok (b, q.2)
def kLink (g : D → D → R D) (fb : EF) (h : KF) : KF := fun x env => (fb env).bind fun q => (g x q.1).bind fun r => (blD r).bind fun b => if b = true then h q.1 q.2 else .ok (false, q.2)
def eCh (fa : EF) (h : HF) : EF := fun env => (fa env).bind fun p => h p.1 p.2
def tCh (fa : EF) (h : KF) : TF := fun env => (fa env).bind fun p => h p.1 p.2
def tU (K : PySem.W.Frag) (C : Cd) (own : List Nat) (h : HF) : V → TE := fun x σ H Q => ∃ env F d, RE K C.ca C.B own env σ F H ∧ Rep K C.ca F d x ∧ Pst K C own (h d env) σ F fun r _ F' H' => ∀ v, Rep K C.ca F' r v → Q v H'
def tW (K : PySem.W.Frag) (C : Cd) (own : List Nat) (h : KF) : V → TT := fun x σ H Q => ∃ env F d, RE K C.ca C.B own env σ F H ∧ Rep K C.ca F d x ∧ Pst K C own (h d env) σ F fun b _ _ H' => Q b H'
section
variable {X : Cx} {C : Cd} {own : List Nat} {op op' op1 op2 : CmpOp} {ops : List CmpOp} {a b e e1 e2 : Expr} {es : List Expr} {fa fb : EF} {h : HF} {t : KF} {pos : Pos} {g : D → D → R D}
theorem pec_imp {u u' : V → TE} (h : Ru.PEC X ops es u) (g : ∀ x σ H Q, u' x σ H Q → u x σ H Q) : Ru.PEC X ops es u' := ⟨fun pos pins s σ H x v Q I r q => h.run pos pins s σ H x v Q I r (g _ _ _ _ q)⟩
theorem ptc_imp {u u' : V → TT} (h : Ru.PTC X ops es u) (g : ∀ x σ H Q, u' x σ H Q → u x σ H Q) : Ru.PTC X ops es u' := ⟨fun pos pins s σ H x v Q I r q => h.run pos pins s σ H x v Q I r (g _ _ _ _ q)⟩
theorem ec_last (hn : ∀ x y c fs, g x y ≠ .ex c fs) (ho : OpR X (compareOp op) (r2 X.K C.ca g)) (hb : PE X b (tE X.K C own fb)) : Ru.PEC X [op] [b] (tU X.K C own (hLast g fb)) :=
  pec_imp (Ru.pec_last ho hb) fun x σ H Q ⟨env, F, d, hR, r, q⟩ => ⟨env, F, hR, q.bind.imp fun y e1 F1 H1 hR1 s1 h1 w rw' => by
    obtain ⟨z, hz, h2⟩ := h1.known (hn d y)
    exact ⟨F1, d, y, z, hR1.q.sub, r.mono s1, rw', hz, fun u F2 H2 st ru => h2 F2 H2 (hR1.step st) st.sF u ru⟩⟩
theorem ec_link (hn : ∀ x y c fs, g x y ≠ .ex c fs) (ho : OpR X (compareOp op) (r2 X.K C.ca g)) (hb : PE X b (tE X.K C own fb)) (hr : Ru.PEC X (op' :: ops) (e :: es) (tU X.K C own h)) : Ru.PEC X (op :: op' :: ops) (b :: e :: es) (tU X.K C own (hLink g fb h)) :=
  pec_imp (Ru.pec_link ho hb hr) fun x σ H Q ⟨env, F, d, hR, r, q⟩ => ⟨env, F, hR, q.bind.imp fun y e1 F1 H1 hR1 s1 h1 w rw' => by
    obtain ⟨z, hz, h2⟩ := h1.known (hn d y)
    refine ⟨F1, d, y, z, hR1.q.sub, r.mono s1, rw', hz, fun u F2 H2 st ru => ?_⟩
    have h3 := h2.later st.sF
    cases z <;> try exact h2.elim
    rename_i k
    cases ru
    refine ⟨k, rfl, ?_⟩
    have hR2 := hR1.step st
    cases k with
    | true => exact ⟨e1, F2, y, hR2, rw'.mono st.sF, h3⟩
    | false => exact h3.here hR2 _ (.bl false)⟩
theorem ek_last (hn : ∀ x y c fs, g x y ≠ .ex c fs) (ho : OpR X (compareOp op) (r2 X.K C.ca g)) (hb : PE X b (tE X.K C own fb)) : Ru.PTC X [op] [b] (tW X.K C own (kLast g fb)) :=
  ptc_imp (Ru.ptc_last ho hb) fun x σ H Q ⟨env, F, d, hR, r, q⟩ => ⟨env, F, hR, q.bind.imp fun y e1 F1 H1 hR1 s1 h1 w rw' => by
    obtain ⟨z, hz, h2⟩ := h1.known (hn d y)
    refine ⟨F1, d, y, z, hR1.q.sub, r.mono s1, rw', hz, fun u F2 H2 st ru => ?_⟩
    have h3 := h2.later st.sF
    cases z <;> try exact h2.elim
    rename_i k
    cases ru
    exact ⟨k, rfl, h3.here (hR1.step st)⟩⟩
theorem ek_link (hn : ∀ x y c fs, g x y ≠ .ex c fs) (ho : OpR X (compareOp op) (r2 X.K C.ca g)) (hb : PE X b (tE X.K C own fb)) (hr : Ru.PTC X (op' :: ops) (e :: es) (tW X.K C own t)) : Ru.PTC X (op :: op' :: ops) (b :: e :: es) (tW X.K C own (kLink g fb t)) :=
  ptc_imp (Ru.ptc_link ho hb hr) fun x σ H Q ⟨env, F, d, hR, r, q⟩ => ⟨env, F, hR, q.bind.imp fun y e1 F1 H1 hR1 s1 h1 w rw' => by
    obtain ⟨z, hz, h2⟩ := h1.known (hn d y)
    refine ⟨F1, d, y, z, hR1.q.sub, r.mono s1, rw', hz, fun u F2 H2 st ru => ?_⟩
    have h3 := h2.later st.sF
    cases z <;> try exact h2.elim
    rename_i k
    cases ru
    refine ⟨k, rfl, ?_⟩
    have hR2 := hR1.step st
    cases k with
    | true => exact ⟨e1, F2, y, hR2, rw'.mono st.sF, h3⟩
    | false => exact h3.here hR2⟩
theorem ev_ch (ha : PE X a (tE X.K C own fa)) (hc : Ru.PEC X (op1 :: op2 :: ops) (e1 :: e2 :: es) (tU X.K C own h)) (hm : lastMarks (op1 :: op2 :: ops) (e1 :: e2 :: es) = false := by with_unfolding_all rfl) : PE X (.Compare a (op1 :: op2 :: ops) (e1 :: e2 :: es) pos) (tE X.K C own (eCh fa h)) :=
  pe_imp (Ru.pe_chainN ha hc hm) fun σ H Q ⟨env, F, hR, q⟩ => ⟨env, F, hR, q.bind.imp fun x e1 F1 H1 hR1 s1 h1 v rv => ⟨e1, F1, x, hR1, rv, h1⟩⟩
theorem et_ch (ha : PE X a (tE X.K C own fa)) (hc : Ru.PTC X (op1 :: op2 :: ops) (e1 :: e2 :: es) (tW X.K C own t)) (hm : lastMarks (op1 :: op2 :: ops) (e1 :: e2 :: es) = false := by with_unfolding_all rfl) : PT X (.Compare a (op1 :: op2 :: ops) (e1 :: e2 :: es) pos) (tT X.K C own (tCh fa t)) :=
  pt_imp (Ru.pt_chainN ha hc hm) fun σ H Q ⟨env, F, hR, q⟩ => ⟨env, F, hR, q.bind.imp fun x e1 F1 H1 hR1 s1 h1 v rv => ⟨e1, F1, x, hR1, rv, h1⟩⟩
end
end Dl

namespace Dl
open PySem PySem.Spec PyProof.Rows L2

/-! ### xs[::-1] -/
section
variable {X : Cx} {C : Cd} {own : List Nat} {a : Expr} {fa : EF} {p1 p2 p3 pos : Pos}
theorem ev_rev {k : Nat} (he : PE X a (tE X.K C own fa)) : PE X (.Subscript a (.Slice none none (some (.UnaryOp .USub (.Constant (.int 1) k p1) p2)) p3) pos) (tN X.K C own (e1 revD fa)) :=
  pe_imp (pe_revL he) fun σ H Q ⟨env, F, hR, h⟩ => ⟨env, F, hR, h.bind.imp fun d e1 F1 H1 hR1 s1 h1 v rv => by
    obtain ⟨z, hz, h2⟩ := h1.known (revD_ne d)
    cases rv with
    | lst hp rs => cases hz; exact ⟨_, _, rfl, SqL.of (hR1.q.sub _ _ hp), fun p hp' => newOk hR1 h2 p _ hp' ⟨_, upd_same, rs.reverse⟩⟩
    | fro hp rs => cases hz; exact ⟨_, _, rfl, Same.seq hR1.q.sub hp, fun p hp' => newOk hR1 h2 p _ hp' ⟨_, upd_same, rs.reverse⟩⟩
    | _ => cases hz⟩
end
theorem units65 {k : Nat} {A : Around} (hr : Room k A) : A.units + 65 < cLine := by
  have := hr.un
  omega
end Dl

namespace Dl
open PySem PySem.Spec PyProof.Rows L2

/-! ### isinstance of built-in types alone -/
def tab0 : D → D → Option Bool
  | .ty a, .ty c => kitB a c
  | _, _ => none
theorem tab0_ok {K : PySem.W.Frag} {ca : CA} : TabOk K ca tab0 := fun t c b h _ _ => by
  unfold tab0 at h
  split at h
  · exact ⟨_, _, rfl, rfl, kit_ty h⟩
  · cases h
end Dl

namespace Dl
open PySem PySem.Spec PyProof.Rows L2

/-! ### a def with *parts that changes its first argument -/
section
variable {P : Program} {w : World} {K : PySem.W.Frag} {mg : Str → Option Value} {base : Heap} {ca : CA}
theorem fn_Ms {x qual : Str} {st : Stmt} {f : Addr} {fd : FuncData} {N ps : List Str} {pv : Str} {k n : Nat} {g : SF} {own' : List Nat} (T : Fun K x qual st f fd) (S : FnScope N (ps ++ [pv]) (defScope st)) (hps : 0 < ps.length)
    (hbind : ∀ (kV doc pm : Value) (an : Option Addr) (cdv ct : Value) (us rest : List Value), us.length = ps.length → bindArgs (PySem.W.fnOf x qual (defArgs st) (defBody st) (defScope st) .none kV doc pm an cdv ct) ⟨us ++ rest, []⟩ = (newTuple rest >>= fun t => pure (ps.zip us ++ [(pv, t)])))
    (hb : ∀ (cdv : Value) (B : Bs) (A : Around) (outer : List PySem.Env) (s : Shared) (H : Hp) (E : XK), Room k (A.deeper (envOfC qual (defScope st) s.heap.objs.size f cdv)) →
      PSs (cxOf (L2.CX P w) P w K mg base N qual (defScope st) f cdv A outer s H E) (defBody st) (tS K (.top ca B E false) [0] own' [] g)) : FnR P w K mg base (L2.CX P w) (k + 1) f (spM K ca n (starD ps.length (runM N.length g))) := by
  obtain ⟨oc, od, kV, doc, pm, an, cdv, ct, osl, e, lk, hcd⟩ := T.ex
  rw [e] at lk
  exact (StX.fn_star (ps := ps) (pv := pv) (sp := spM K ca (ps.length + 1) (runM N.length g)) lk hcd S StX.cxUp (hbind kV doc pm an cdv ct) (body_M (hb cdv))).imp (star_imp hps)
end
end Dl

namespace Dl
open PySem PySem.Spec PyProof.Rows L2

/-! ### a look: for one expression every object of one's own stands still -/
mutual
/-- no object that may change is in it -/
def immD : D → Bool
  | .non => true
  | .bl _ => true
  | .int _ => true
  | .str _ => true
  | .tup xs => immDs xs
  | .cod _ => true
  | .ty _ => true
  | .fn _ => true
  | _ => false
def immDs : List D → Bool
  | [] => true
  | x :: xs => immD x && immDs xs
end
section
variable {K : PySem.W.Frag} {ca : CA} {F F' G : Hp}
mutual
/-- it leans on tuples alone -/
theorem Rep.imm (h : ∀ p xs, SqT K F p xs → SqT K F' p xs) : ∀ {d : D} {v : V}, Rep K ca F d v → immD d = true → Rep K ca F' d v
  | _, _, .non, _ => .non
  | _, _, .bl b, _ => .bl b
  | _, _, .int i, _ => .int i
  | _, _, .str z, _ => .str z
  | _, _, .tup q r, e => .tup (h _ _ q) (Reps.imm h r (by unfold immD at e; exact e))
  | _, _, .lst _ _, e => by unfold immD at e; cases e
  | _, _, .fro _ _, e => by unfold immD at e; cases e
  | _, _, .ins _ _ _, e => by unfold immD at e; cases e
  | _, _, .cod k q, _ => .cod k q
  | _, _, .ty n, _ => .ty n
  | _, _, .fn k, _ => .fn k
  | _, _, .dK _ _ _, e => by unfold immD at e; cases e
  | _, _, .dT _ _ _, e => by unfold immD at e; cases e
  | _, _, .setK _ _ _ _, e => by unfold immD at e; cases e
theorem Reps.imm (h : ∀ p xs, SqT K F p xs → SqT K F' p xs) : ∀ {d : List D} {v : List V}, Reps K ca F d v → immDs d = true → Reps K ca F' d v
  | _, _, .nil, _ => .nil
  | _, _, .cons r rs, e => by
    unfold immDs at e
    rw [Bool.and_eq_true] at e
    exact .cons (Rep.imm h r e.1) (Reps.imm h rs e.2)
end
end
open Classical in
/-- the heap F with the objects of A too -/
noncomputable def withF (A : Addr → Prop) (F H : Hp) : Hp := fun p => if A p then H p else F p
open Classical in
noncomputable def lessF (A : Addr → Prop) (F' : Hp) : Hp := fun p => if A p then none else F' p
/-- the addresses of the objects of one's own -/
def OwnAt (own : List Nat) (env : En) (σ : L2.St) : Addr → Prop := fun p => ∃ i d, i ∈ own ∧ env[i]? = some (some d) ∧ σ[i]? = some (some (.ref p))
section
variable {K : PySem.W.Frag} {ca : CA} {F F' H H' : Hp} {p : Addr} {A : Addr → Prop}
theorem withF_in (h : A p) : withF A F H p = H p := if_pos h
theorem withF_out (h : ¬ A p) : withF A F H p = F p := if_neg h
theorem lessF_in (h : A p) : lessF A F' p = none := if_pos h
theorem lessF_out (h : ¬ A p) : lessF A F' p = F' p := if_neg h
theorem lessF_ne {o : HO} (e : lessF A F' p = some o) : F' p = some o ∧ ¬ A p := by
  by_cases h : A p
  · rw [lessF_in h] at e; cases e
  · rw [lessF_out h] at e; exact ⟨e, h⟩
theorem OwO.rep2 {d : D} (h : OwO K ca F H d p) (s : Same F F') (e : F' p = H p) : Rep K ca F' d (.ref p) := by
  cases d with
  | lst xs =>
    obtain ⟨vs, h1, h2⟩ := h
    exact .lst (e.trans h1) (h2.mono s)
  | ins c fs =>
    obtain ⟨dx, gs, h1, h2, h3⟩ := h
    exact .ins (e.trans h1) (h2.mono s) h3
  | dct kvs =>
    rcases h with ⟨ws, h1, q, h2⟩ | ⟨ws, h1, q, h2⟩
    · exact .dK (e.trans h1) q (h2.mono s)
    · exact .dT (e.trans h1) q (h2.mono s)
  | set xs =>
    obtain ⟨ks, n, S, q, h1, h2, h3, h4⟩ := h
    subst q
    exact .setK (e.trans h1) h2 h3 h4
  | _ => exact h.elim
theorem OwO.ntup {d : D} (h : OwO K ca F H d p) : ∀ o, H p = some o → (∀ xs, o ≠ .tup xs) ∧ (∀ ob u, o ≠ .frz ob u) := by
  cases d with
  | lst xs => obtain ⟨vs, h1, h2⟩ := h; intro o e; rw [h1] at e; cases e; exact ⟨(fun _ z => nomatch z), (fun _ _ z => nomatch z)⟩
  | ins c fs => obtain ⟨dx, gs, h1, h2, h3⟩ := h; intro o e; rw [h1] at e; cases e; exact ⟨(fun _ z => nomatch z), (fun _ _ z => nomatch z)⟩
  | dct kvs =>
    rcases h with ⟨ws, h1, q, h2⟩ | ⟨ws, h1, q, h2⟩ <;> (intro o e; rw [h1] at e; cases e; exact ⟨(fun _ z => nomatch z), (fun _ _ z => nomatch z)⟩)
  | set xs => obtain ⟨ks, n, S, q, h1, h2⟩ := h; intro o e; rw [h1] at e; cases e; exact ⟨fun _ z => (by unfold SetK at z; cases z), fun _ _ z => (by unfold SetK at z; cases z)⟩
  | _ => exact h.elim
theorem RE.ownF {B : Bs} {own : List Nat} {env : En} {σ : L2.St} (h : RE K ca B own env σ F H) (a : OwnAt own env σ p) : ∃ d, Ow K ca B F H d p := by
  obtain ⟨i, d, hi, he, hp⟩ := a
  obtain ⟨q, h1, O⟩ := h.ow i d hi he
  rw [hp] at h1
  cases h1
  exact ⟨d, O⟩
theorem RE.withS {B : Bs} {own : List Nat} {env : En} {σ : L2.St} (h : RE K ca B own env σ F H) : Same F (withF (OwnAt own env σ) F H) ∧ Same (withF (OwnAt own env σ) F H) H := by
  refine ⟨fun q o e => ?_, fun q o e => ?_⟩
  · by_cases a : OwnAt own env σ q
    · obtain ⟨d, O⟩ := h.ownF a
      rw [O.f] at e; cases e
    · rw [withF_out a]; exact e
  · by_cases a : OwnAt own env σ q
    · rw [withF_in a] at e; exact e
    · rw [withF_out a] at e; exact h.q.sub _ _ e
/-- every object of one's own stands still -/
theorem RE.look {B : Bs} {own : List Nat} {env : En} {σ : L2.St} (h : RE K ca B own env σ F H) : RE K ca ⟨withF (OwnAt own env σ) F H, H, none, B.l⟩ [] env σ (withF (OwnAt own env σ) F H) H := by
  obtain ⟨s1, s2⟩ := h.withS
  refine ⟨⟨s2, Same.refl _, fun p o e _ _ => e, fun p hp => .inl hp, (fun p z => nomatch z), fun _ z => z, h.q.tb, fun p ps z => ?_⟩, h.len, fun i d _ e => ?_, fun i d z => absurd z List.not_mem_nil, fun i j p d e z => absurd z List.not_mem_nil, (fun p z => nomatch z), h.lm⟩
  · by_cases a : OwnAt own env σ p
    · obtain ⟨d, O⟩ := h.ownF a
      rw [withF_in a] at z
      exact O.o.ntbl ps z
    · rw [withF_out a] at z; exact h.q.nt p ps z
  · by_cases hi : i ∈ own
    · obtain ⟨p, h1, O⟩ := h.ow i d hi e
      exact ⟨_, h1, O.o.rep2 s1 (withF_in ⟨i, d, hi, e, h1⟩)⟩
    · obtain ⟨v, h1, r⟩ := h.fr i d hi e
      exact ⟨v, h1, r.mono s1⟩
/-- .. and may change again -/
theorem RE.unlook {B : Bs} {own : List Nat} {env : En} {σ : L2.St} (h : RE K ca B own env σ F H) (q : Bq ca ⟨withF (OwnAt own env σ) F H, H, none, B.l⟩ F' H') : RE K ca B own env σ (lessF (OwnAt own env σ) F') H' ∧ Same F (lessF (OwnAt own env σ) F') := by
  obtain ⟨s1, s2⟩ := h.withS
  have sF' : Same F F' := s1.trans q.sF
  have out : ∀ p o, F p = some o → ¬ OwnAt own env σ p := fun p o e a => by
    obtain ⟨d, O⟩ := h.ownF a
    rw [O.f] at e; cases e
  have sFL : Same F (lessF (OwnAt own env σ) F') := fun p o e => by rw [lessF_out (out p o e)]; exact sF' p o e
  have sL : Same (lessF (OwnAt own env σ) F') F' := fun p o e => (lessF_ne e).1
  have hk : ∀ p o, H p = some o → (∀ ps, o ≠ .tbl ps) → H' p = some o := fun p o e t => q.sH p o e (fun z => nomatch z) t
  have own0 : ∀ p, H p ≠ none → F p = none → lessF (OwnAt own env σ) F' p = none := fun p h1 h2 => by
    by_cases a : OwnAt own env σ p
    · exact lessF_in a
    · rw [lessF_out a]
      cases e : F' p with
      | none => rfl
      | some o =>
        rcases q.nw p (by rw [e]; exact fun z => nomatch z) with z | z
        · have z : withF (OwnAt own env σ) F H p ≠ none := z
          rw [withF_out a] at z
          exact absurd h2 z
        · exact absurd z h1
  refine ⟨⟨⟨sL.trans q.sub, h.q.sF.trans sFL, fun p o e n t => hk p o (h.q.sH p o e n t) t, fun p hp => ?_, fun p hp => ⟨q.kt p (h.q.mp p hp).1, own0 p (h.q.mp p hp).1 (h.q.mp p hp).2⟩, fun p e => q.kt p (h.q.kt p e), q.tb, fun p ps z => q.nt p ps (sL p _ z)⟩, h.len, fun i d n e => ?_, fun i d n e => ?_, h.ne, h.mt, fun q' e => ?_⟩, sFL⟩
  · by_cases hf : F p = none
    · cases e2 : B.H p with
      | none => exact .inr rfl
      | some u => exact absurd (own0 p (h.q.kt p (by rw [e2]; exact fun w => nomatch w)) hf) hp
    · exact h.q.nw p hf
  · obtain ⟨v, h1, r⟩ := h.fr i d n e
    exact ⟨v, h1, r.mono sFL⟩
  · obtain ⟨p, h1, O⟩ := h.ow i d n e
    exact ⟨p, h1, O.o.move (fun o e => hk p o e fun ps z => O.o.ntbl ps (by rw [e, z])) sFL, own0 p O.o.there O.f, O.b⟩
  · obtain ⟨a, b, c⟩ := h.lm q' e
    exact ⟨a, b, hk _ _ c fun ps z => LamX.codeO_ne ps z⟩
theorem RE.unlook_tup {B : Bs} {own : List Nat} {env : En} {σ : L2.St} (h : RE K ca B own env σ F H) (q : Bq ca ⟨withF (OwnAt own env σ) F H, H, none, B.l⟩ F' H') : ∀ p xs, SqT K F' p xs → SqT K (lessF (OwnAt own env σ) F') p xs := by
  intro p xs z
  have no : ∀ o, F' p = some o → OwnAt own env σ p → (∀ ys, o ≠ .tup ys) ∧ (∀ ob u, o ≠ .frz ob u) := fun o e a => by
    obtain ⟨d, O⟩ := h.ownF a
    refine O.o.ntup o ?_
    cases eh : H p with
    | none => exact absurd eh O.o.there
    | some u =>
      have := q.sF p u (by show withF (OwnAt own env σ) F H p = some u; rw [withF_in a]; exact eh)
      rw [e] at this
      exact this.symm
  rcases z with (z | ⟨o, z⟩) | z
  · by_cases a : OwnAt own env σ p
    · exact absurd rfl ((no _ z a).1 _)
    · exact .inl (.inl (by rw [lessF_out a]; exact z))
  · by_cases a : OwnAt own env σ p
    · exact absurd rfl ((no _ z a).2 _ _)
    · exact .inl (.inr ⟨o, by rw [lessF_out a]; exact z⟩)
  · exact .inr z
end
abbrev Cd.look (C : Cd) (B : Bs) : Cd := ⟨C.ca, B, E0, false⟩
/-- a test in which objects of one's own are read -/
def lookT (f : TF) : TF := fun env => (f env).nox.bind fun p => .ok (p.1, env)
/-- an expression in which objects of one's own are read, worth no object that may change -/
def lookE (f : EF) : EF := fun env => (f env).nox.bind fun p => if immD p.1 = true then .ok (p.1, env) else .no
section
variable {X : Cx} {C : Cd} {own : List Nat} {a : Expr} {fa : EF} {ft : TF}
theorem et_look (h : ∀ B, B.m = none ∧ B.l = C.B.l → PT X a (tT X.K (C.look B) [] ft)) : PT X a (tT X.K C own (lookT ft)) :=
  ⟨fun pins s σ H Q I ⟨env, F, hR, q⟩ => (h ⟨_, _, none, C.B.l⟩ ⟨rfl, rfl⟩).run pins s σ H Q I ⟨env, _, hR.look, by
    unfold lookT at q
    cases e : ft env with
    | ok p =>
      rw [e] at q
      intro F' H' hR' s'
      obtain ⟨r1, r2⟩ := hR.unlook hR'.q
      exact q _ _ r1 r2
    | ex c fs => rw [e] at q; exact q.elim
    | no => rw [e] at q; exact q.elim⟩⟩
theorem ev_look (h : ∀ B, B.m = none ∧ B.l = C.B.l → PE X a (tE X.K (C.look B) [] fa)) : PE X a (tE X.K C own (lookE fa)) :=
  ⟨fun pins s σ H Q I ⟨env, F, hR, q⟩ => (h ⟨_, _, none, C.B.l⟩ ⟨rfl, rfl⟩).run pins s σ H Q I ⟨env, _, hR.look, by
    unfold lookE at q
    cases e : fa env with
    | ok p =>
      rw [e] at q
      intro F' H' hR' s' v rv
      have q : Pst X.K C own (if immD p.1 = true then .ok (p.1, env) else .no) σ F _ := q
      split at q
      · rename_i hi
        obtain ⟨r1, r2⟩ := hR.unlook hR'.q
        exact q _ _ r1 r2 v (rv.imm (hR.unlook_tup hR'.q) hi)
      · exact q.elim
    | ex c fs => rw [e] at q; exact q.elim
    | no => rw [e] at q; exact q.elim⟩⟩
end
end Dl

namespace Dl
open PySem PySem.Spec PyProof.Rows L2

/-! ### one operator for many kinds of values -/
def orD (g1 g2 : D → D → R D) : D → D → R D := fun x y => match g1 x y with
  | .ok d => .ok d
  | .ex c fs => .ex c fs
  | .no => g2 x y
theorem orD_ne {g1 g2 : D → D → R D} (h1 : ∀ x y c fs, g1 x y ≠ .ex c fs) (h2 : ∀ x y c fs, g2 x y ≠ .ex c fs) : ∀ x y c fs, orD g1 g2 x y ≠ .ex c fs := fun x y c fs z => by
  unfold orD at z
  split at z
  · cases z
  · rename_i c' fs' e; exact h1 _ _ _ _ e
  · exact h2 _ _ _ _ z
section
variable {X : Cx} {ca : CA} {f : Value → Value → Sem Value} {g g1 g2 : D → D → R D}
theorem oo_or (hn : ∀ x y c fs, g1 x y ≠ .ex c fs) (h1 : OpR X f (r2 X.K ca g1)) (h2 : OpR X f (r2 X.K ca g2)) : OpR X f (r2 X.K ca (orD g1 g2)) := fun pins s σ H x y v u Q I rx ry ⟨F, a, b, d, sub, ra, rb, hg, q⟩ => by
  unfold orD at hg
  split at hg
  · rename_i d' e
    cases hg
    exact h1 pins s σ H x y v u Q I rx ry ⟨F, a, b, d, sub, ra, rb, e, q⟩
  · cases hg
  · exact h2 pins s σ H x y v u Q I rx ry ⟨F, a, b, d, sub, ra, rb, hg, q⟩
theorem layRep {K : PySem.W.Frag} {F H : Hp} {d : D} {p : Addr} {o : HO} (sub : Same F H) (hp : H p = none) (O : OwO K ca F (upd H p o) d p) : Stp F H (upd F p o) (upd H p o) ∧ Rep K ca (upd F p o) d (.ref p) := by
  obtain ⟨u, hu, ht, r⟩ := O.rep (sub.free hp)
  rw [upd_same] at hu
  cases hu
  exact ⟨Stp.new sub hp ht, r⟩
theorem oo_ofL (h : OpR X f (r2L X.K ca g)) : OpR X f (r2 X.K ca g) := fun pins s σ H x y v u Q I rx ry ⟨F, a, b, d, sub, ra, rb, hg, q⟩ =>
  h pins s σ H x y v u Q I rx ry ⟨F, a, b, d, sub, ra, rb, hg, fun p o hp O => q _ _ _ (layRep sub hp O).1 (layRep sub hp O).2⟩
end
abbrev addP : D → D → R D := addD
theorem addP_ne : ∀ x y c fs, addP x y ≠ .ex c fs := addD_ne
theorem oo_addP {X : Cx} {ca : CA} : OpR X (binaryOp .Add) (r2 X.K ca addP) := oo_add
def mulP : D → D → R D := orD (intD mulI) repD
theorem mulP_ne : ∀ x y c fs, mulP x y ≠ .ex c fs := orD_ne (intD_ne mulI_ne) repD_ne
theorem oo_mulP {X : Cx} {ca : CA} : OpR X (binaryOp .Mult) (r2 X.K ca mulP) := oo_or (intD_ne mulI_ne) oo_mul (oo_ofL oo_rep)
def andI (i j : Int) : R Int := .ok (Builtin.bitAnd i j)
def orI (i j : Int) : R Int := .ok (Builtin.bitOr i j)
def xorI (i j : Int) : R Int := .ok (Builtin.bitXor i j)
def shrI (i j : Int) : R Int := if 0 ≤ j then .ok (i / 2 ^ j.toNat) else .no
def shlI (i j : Int) : R Int := if 0 ≤ j ∧ Builtin.Int.intBits i + j.toNat ≤ 134217728 then .ok (i * 2 ^ j.toNat) else .no
theorem andI_ne : ∀ i j c fs, andI i j ≠ .ex c fs := fun _ _ _ _ z => by cases z
theorem orI_ne : ∀ i j c fs, orI i j ≠ .ex c fs := fun _ _ _ _ z => by cases z
theorem xorI_ne : ∀ i j c fs, xorI i j ≠ .ex c fs := fun _ _ _ _ z => by cases z
theorem shrI_ne : ∀ i j c fs, shrI i j ≠ .ex c fs := fun _ _ _ _ z => by unfold shrI at z; split at z <;> cases z
theorem shlI_ne : ∀ i j c fs, shlI i j ≠ .ex c fs := fun _ _ _ _ z => by unfold shlI at z; split at z <;> cases z
section
variable {X : Cx} {ca : CA}
theorem oo_and : OpR X (binaryOp .BitAnd) (r2 X.K ca (intD andI)) := oo_int fun i j k e pins s σ H v u Q I rx ry q => by
  cases e; exact op_and pins s σ H _ _ v u Q I rx ry ⟨_, _, rfl, rfl, q⟩
theorem oo_or_ : OpR X (binaryOp .BitOr) (r2 X.K ca (intD orI)) := oo_int fun i j k e pins s σ H v u Q I rx ry q => by
  cases e; exact op_or pins s σ H _ _ v u Q I rx ry ⟨_, _, rfl, rfl, q⟩
theorem oo_xor : OpR X (binaryOp .BitXor) (r2 X.K ca (intD xorI)) := oo_int fun i j k e pins s σ H v u Q I rx ry q => by
  cases e; exact op_xor pins s σ H _ _ v u Q I rx ry ⟨_, _, rfl, rfl, q⟩
theorem oo_shr : OpR X (binaryOp .RShift) (r2 X.K ca (intD shrI)) := oo_int fun i j k e pins s σ H v u Q I rx ry q => by
  unfold shrI at e
  split at e
  · rename_i h
    cases e; exact op_shr pins s σ H _ _ v u Q I rx ry ⟨_, _, rfl, rfl, h, q⟩
  · cases e
theorem oo_shl : OpR X (binaryOp .LShift) (r2 X.K ca (intD shlI)) := oo_int fun i j k e pins s σ H v u Q I rx ry q => by
  unfold shlI at e
  split at e
  · rename_i h
    cases e; exact op_shlW pins s σ H _ _ v u Q I rx ry ⟨_, _, rfl, rfl, ⟨h.1, by rw [two27]; omega⟩, q⟩
  · cases e
end
abbrev ltP : D → D → R D := ltD
abbrev leP : D → D → R D := leD
abbrev gtP : D → D → R D := gtD
abbrev geP : D → D → R D := geD
theorem ltP_ne : ∀ x y c fs, ltP x y ≠ .ex c fs := ltD_ne
theorem leP_ne : ∀ x y c fs, leP x y ≠ .ex c fs := leD_ne
theorem gtP_ne : ∀ x y c fs, gtP x y ≠ .ex c fs := gtD_ne
theorem geP_ne : ∀ x y c fs, geP x y ≠ .ex c fs := geD_ne
section
variable {X : Cx} {ca : CA} {k : Nat}
theorem oo_ltP (hr : Room k X.A) : OpR X (compareOp .Lt) (r2 X.K ca ltP) := oo_lt
theorem oo_leP (hr : Room k X.A) : OpR X (compareOp .LtE) (r2 X.K ca leP) := oo_le
theorem oo_gtP (hr : Room k X.A) : OpR X (compareOp .Gt) (r2 X.K ca gtP) := oo_gt
theorem oo_geP (hr : Room k X.A) : OpR X (compareOp .GtE) (r2 X.K ca geP) := oo_ge
end
abbrev lenP : List D → R D := lenD
theorem lenP_ne : ∀ x c fs, lenP x ≠ .ex c fs := lenD_ne
theorem oc_lenP {X : Cx} {ca : CA} : CallR X (.builtin "len") (rN X.K ca lenP) := oc_len
abbrev sortP : List D → R D := sortD
theorem sortP_ne : ∀ x c fs, sortP x ≠ .ex c fs := sortD_ne
theorem oc_sortedP {X : Cx} {ca : CA} {k : Nat} (hr : Room k X.A) : CallR X (.builtin "sorted") (rNL X.K ca sortP) := oc_sorted

/-! ### a target of several names: a tuple or a list is taken apart -/
def bSeq (n : Nat) (b : BFs) : BF := fun d env => match d with
  | .tup xs => if xs.length = n then b xs env else .no
  | .lst xs => if xs.length = n then b xs env else .no
  | _ => .no
theorem bSeq_ne {n : Nat} {bs : BFs} (h2 : ∀ d e c fs, bs d e ≠ .ex c fs) : ∀ d e c fs, bSeq n bs d e ≠ .ex c fs := fun d e c fs z => by
  unfold bSeq at z
  split at z
  · split at z
    · exact h2 _ _ _ _ z
    · cases z
  · split at z
    · exact h2 _ _ _ _ z
    · cases z
  · cases z
section
variable {X : Cx} {C : Cd} {own ts : List Nat} {pos : Pos} {bs : BFs}
theorem pg_or {e : Expr} {t t' : TG} (h : PG X e t) (h' : PG X e t') : PG X e (fun v σ H Q => t v σ H Q ∨ t' v σ H Q) :=
  ⟨fun pins s σ H v u Q I r q => q.elim (fun q => h.run pins s σ H v u Q I r q) fun q => h'.run pins s σ H v u Q I r q⟩
theorem eg_seq {es : List Expr} {k n : Nat} (hc : X.calm = true) (h : PGs X es (tGs X.K C own ts bs)) (hn : (assignEach es X.env).length = n := by rfl) (hst : (assignEach es X.env).findIdx? (·.1) = none := by rfl) : PG X (.Tuple es k pos) (tG X.K C own ts (bSeq n bs)) :=
  pg_imp (pg_or (eg_tup hc h hn hst) (eg_lst hc h hn hst)) fun v σ H Q ⟨env, F, d, env', hR, r, e, q⟩ => by
    cases r with
    | tup hq rs => exact .inl ⟨env, F, _, env', hR, .tup hq rs, e, q⟩
    | lst hq rs => exact .inr ⟨env, F, _, env', hR, .lst hq rs, e, q⟩
    | _ => cases e
end

/-! ### zip of two lists or two tuples -/
def zipP : List D → R (List D)
  | [.lst xs, .lst ys] => .ok ((xs.zip ys).map fun p => .tup [p.1, p.2])
  | [.tup xs, .tup ys] => .ok ((xs.zip ys).map fun p => .tup [p.1, p.2])
  | _ => .no
theorem zipP_ne : ∀ x c fs, zipP x ≠ .ex c fs := fun x c fs z => by
  unfold zipP at z
  split at z <;> cases z
section
variable {X : Cx} {C : Cd} {own : List Nat} {tg a b : Expr} {es : List Expr} {fs : AF} {p pos : Pos}
theorem yl_zipT {ca : CA} {F : Hp} {l m : Addr} {vs ws : List V} {xs ys : List D} (h : SqT X.K F l vs) (r : Reps X.K ca F xs vs) (h' : SqT X.K F m ws) (r' : Reps X.K ca F ys ws) : Yl X.K ca (RZ.ItzT X.K l m) F ((xs.zip ys).map fun p => .tup [p.1, p.2]) where
  go := fun i H s hi => by
    rw [List.length_map, List.length_zip] at hi
    have h1 := r.length
    have h2 := r'.length
    exact ⟨vs, ws, vs[i]'(by omega), ws[i]'(by omega), Same.seqT s h, Same.seqT s h', List.getElem?_eq_getElem _, List.getElem?_eq_getElem _⟩
  stop := fun i H s hi => by
    rw [List.length_map, List.length_zip] at hi
    have h1 := r.length
    have h2 := r'.length
    exact ⟨vs, ws, Same.seqT s h, Same.seqT s h', by omega⟩
  yld := fun i H v H' Fc s1 s2 hy d hd => by
    obtain ⟨T, x, y, ev, hT, eH, q, q'⟩ := hy
    subst ev
    subst eH
    rw [List.getElem?_map] at hd
    cases e : (xs.zip ys)[i]? with
    | none => rw [e] at hd; cases hd
    | some pr =>
      rw [e] at hd
      cases hd
      obtain ⟨e1, e2⟩ := List.getElem?_zip_eq_some.mp e
      obtain ⟨u, h1, h2⟩ := r.get e1
      obtain ⟨u', h1', h2'⟩ := r'.get e2
      have a1 := q vs (Same.seqT s2 (Same.seqT s1 h))
      rw [h1] at a1
      cases a1
      have a2 := q' ws (Same.seqT s2 (Same.seqT s1 h'))
      rw [h1'] at a2
      cases a2
      have hF : Fc T = none := s2.free hT
      exact ⟨upd Fc T (.tup [x, y]), .new s2 hT, .tup (.of upd_same) (.cons ((h2.mono s1).mono (same_upd hF)) (.one ((h2'.mono s1).mono (same_upd hF))))⟩
theorem ei_zipP {elts : List Expr} {kk : Nat} {tpos : Pos} (hm : X.mg "zip" = none) (ha : PA X [a, b] (tA X.K C own fs)) (hg : Gl X "zip" := by rfl) (hs : starEach [a, b] X.env = (false, eval a X.env) :: starEach [b] X.env := by rfl) (hs2 : ((backTo pos (starEach [b] X.env)).any (·.1)) = false := by rfl) :
    PI X (.Tuple elts kk tpos) (.Call (.Name "zip" p) [a, b] [] pos) (tI X.K C own (iArg zipP fs)) :=
  pi_imp (RZ.pi_zipA hg hm ha hs hs2) fun σ H R ⟨env, F, hR, q⟩ => ⟨env, F, hR, (bindL zipP_ne q).imp fun ds e F1 H1 hR1 s1 ⟨xs, hb, hk⟩ vs r => by
    unfold zipP at hb
    split at hb
    · cases hb
      cases r with
      | cons r rs =>
        cases rs with
        | cons r' rs =>
          cases rs
          cases r with
          | lst hq rs =>
            cases r' with
            | lst hq' rs' => exact ⟨_, _, _, _, rfl, .inl ⟨SqL.of (hR1.q.sub _ _ hq), SqL.of (hR1.q.sub _ _ hq'), hk _ (yl_zip (SqL.of hq) rs (SqL.of hq') rs')⟩⟩
    · cases hb
      cases r with
      | cons r rs =>
        cases rs with
        | cons r' rs =>
          cases rs
          cases r with
          | tup hq rs =>
            cases r' with
            | tup hq' rs' => exact ⟨_, _, _, _, rfl, .inr ⟨Same.seqT hR1.q.sub hq, Same.seqT hR1.q.sub hq', hk _ (yl_zipT hq rs hq' rs')⟩⟩
    · cases hb⟩
end

/-! ### a slice of a list, a tuple, a text -/
def slP : D → Option Int → Option Int → R D
  | .lst xs, lo, hi => .ok (.lst (cutL xs lo hi))
  | .fro xs, lo, hi => .ok (.lst (cutL xs lo hi))
  | .tup xs, lo, hi => .ok (.tup (cutL xs lo hi))
  | .str z, lo, hi => if z.length ≤ sizeLine then .ok (.str (cutS z lo hi)) else .no
  | _, _, _ => .no
theorem slP_ne : ∀ x l h c fs, slP x l h ≠ .ex c fs := fun x l h c fs z => by
  unfold slP at z
  split at z <;> first | cases z | (split at z <;> cases z)
section
variable {X : Cx} {C : Cd} {own : List Nat} {a b : Expr} {lo hi : Option Expr} {p2 pos : Pos} {fa : EF} {fl fu : PF}
theorem ev_slP (he : PE X a (tE X.K C own fa)) (hl : PO X lo (tP X.K C own fl)) (hu : PO X hi (tP X.K C own fu)) : PE X (.Subscript a (.Slice lo hi none p2) pos) (tE X.K C own (eSl slP fa fl fu)) :=
  pe_imp (pe_slice (SlR.or sl_list (SlR.or sl_tupA sl_str)) he hl hu) fun σ H Q ⟨env, F, hR, h⟩ => ⟨env, F, hR, h.bind.imp fun d e1 F1 H1 hR1 s1 h1 v r => ⟨e1, F1, hR1, h1.bind.imp fun o e2 F2 H2 hR2 s2 h2 => ⟨e2, F2, hR2, h2.bind.imp fun o' e3 F3 H3 hR3 s3 h3 => by
    obtain ⟨k, hk, h4⟩ := h3.known (slP_ne d o o')
    have r := r.mono (s2.trans s3)
    cases r with
    | lst hp rs => cases hk; exact .inl ⟨_, _, rfl, SqL.of (hR3.q.sub _ _ hp), fun p hp' => h4 _ _ (hR3.step (Stp.new hR3.q.sub hp')) (same_upd (hR3.q.sub.free hp')) _ (.lst upd_same ((rs.cut _ _).mono (same_upd (hR3.q.sub.free hp'))))⟩
    | fro hp rs => cases hk; exact .inl ⟨_, _, rfl, Same.seq hR3.q.sub hp, fun p hp' => h4 _ _ (hR3.step (Stp.new hR3.q.sub hp')) (same_upd (hR3.q.sub.free hp')) _ (.lst upd_same ((rs.cut _ _).mono (same_upd (hR3.q.sub.free hp'))))⟩
    | tup hp rs =>
      cases hk
      refine .inr (.inl ⟨_, _, rfl, Same.seqT hR3.q.sub hp, fun hw => ?_, fun hw p hp' => ?_⟩)
      · rw [← rs.length] at hw
        rw [cut_whole hw] at h4
        exact h4.here hR3 _ (.tup hp rs)
      · exact h4 _ _ (hR3.step (Stp.new hR3.q.sub hp')) (same_upd (hR3.q.sub.free hp')) _ (.tup (.of upd_same) ((rs.cut _ _).mono (same_upd (hR3.q.sub.free hp'))))
    | str z =>
      unfold slP at hk
      dsimp only at hk
      split at hk
      · rename_i hz
        cases hk
        exact .inr (.inr ⟨z, rfl, hz, h4.here hR3 _ (.str _)⟩)
      · cases hk
    | _ => cases hk⟩⟩⟩
end
end Dl

namespace Dl
open PySem PySem.Spec PyProof.Rows L2

/-! ### defs that are run where no repr is under way -/
structure FnG (P : Program) (w : World) (K : PySem.W.Frag) (mg : Str → Option Value) (base : Heap) (k : Nat) (f : Addr) (fd : FuncData) (ps : List Str) (sp : Sp) : Prop where
  len : ∀ vs H Q E, sp vs H Q E → vs.length = ps.length
  go : ∀ {A : Around} {outer : List PySem.Env} {s : Shared} {H : Hp} {args : Args} {us : List Value} {vs : List V} {Q : VK} {E : XK}, A.guards = some [] → Room k A → Env0 P w K mg base A outer s H → BindsTo s fd args (ps.zip us) →
    Vals vs us → sp vs H Q E → codeAny (model P w) A (.call (.ref f) args) (CR (L2.CX P w) outer P w H s Q E) s
section
variable {P : Program} {w : World} {K : PySem.W.Frag} {mg : Str → Option Value} {base : Heap} {ca : CA} {k : Nat} {f : Addr} {fd : FuncData} {ps : List Str} {sp : Sp}
theorem FnG.of (F : FnOk P w K mg base (L2.CX P w) k f fd ps sp) : FnG P w K mg base k f fd ps sp :=
  ⟨F.len, fun _ room e b r h => F.run _ _ _ _ _ _ _ _ _ room e b r h⟩
/-- a def by its body, run where no repr is under way -/
theorem fn_DG {x qual : Str} {st : Stmt} {N : List Str} {g : SF} {own' : List Nat} (T : Fun K x qual st f fd) (S : FnScope N ps (defScope st))
    (hb : ∀ (B : Bs), B.free0 → ∀ (cdv : Value) (A : Around) (outer : List PySem.Env) (s : Shared) (H : Hp) (E : XK), (A.deeper (envOfC qual (defScope st) s.heap.objs.size f cdv)).guards = some [] → Room k (A.deeper (envOfC qual (defScope st) s.heap.objs.size f cdv)) →
      PSs (cxOf (L2.CX P w) P w K mg base N qual (defScope st) f cdv A outer s H E) (defBody st) (tS K (.top ca B E false) [] own' [] g)) : FnG P w K mg base (k + 1) f fd ps (spD K ca ps.length (runD N.length g)) := by
  obtain ⟨oc, od, kV, doc, pm, an, cdv, ct, osl, rfl, lk, hcd⟩ := T.ex
  have len : ∀ vs H Q E, spD K ca ps.length (runD N.length g) vs H Q E → vs.length = ps.length := fun vs H Q E ⟨F, ds, _, r, hl, _⟩ => by rw [← r.length]; exact hl
  refine ⟨len, @fun A outer s H args us vs Q E hg room e0 bound rv hsp => ?_⟩
  have lv := len _ _ _ _ hsp
  have kin : K.In s.heap := PySem.W.Frag.In.keeps e0.mod.kin fun b o z => (e0.bs b o z).1
  refine codeAny_call_function room.depth (kin _ _ lk) rfl S.co S.gen rfl (PySem.W.codeRec_of kin hcd) (bound _ _ _ _ ?_)
  refine wpAny_newFunctionEnv_cells S.kind (fun ⟨n, v⟩ hy => (S.par n (List.of_mem_zip hy).1).imp id fun z => ⟨z, PySem.W.cellsFrom_some _ _ _ (.inl z)⟩) fun en he s1 x => ?_
  subst he
  refine ⟨(e0.mod.nolimit.keeps fun b o z => (e0.bs b o z).1).keeps x.toInCall.keep, codeAny_func ?_⟩
  obtain ⟨F, ds, pre, r, hl, hm⟩ := hsp
  have I := inv_start (CX := L2.CX P w) (E := E) (N := N) S room.hd e0 lv rv x
  have hps := hb ⟨F, H, none, none⟩ ⟨rfl, rfl⟩ cdv A outer s H E hg (room.deeper _)
  refine wpAny_mono (hps.run [] s1 (L2.start N vs) H { nx := fun _ H' => Q .non H', rt := Q } I ?_) (fun fl s' hs => ?_) fun e s' hs => hs
  · refine ⟨startE N.length ds, F, re_start pre r, ?_⟩
    unfold runD at hm
    cases eg : g (startE N.length ds) with
    | nx e => rw [eg] at hm; exact fun σ F' H' hR s => hm .non F' H' (bq_stC hR.q) .non
    | rt d e => rw [eg] at hm; exact fun v F' H' q m s rv => hm v F' H' (bq_stC q) rv
    | bk e => rw [eg] at hm; exact hm.elim
    | ct e => rw [eg] at hm; exact hm.elim
    | ex c fs => rw [eg] at hm; exact fun e o F' H' q s xr => hm e o F' H' (bq_stC q) xr
    | no => rw [eg] at hm; exact hm.elim
  · cases fl with
    | ret u => let ⟨v, _, H', J, rv', q⟩ := hs; exact ⟨v, H', J.os, J.bare, J.base, J.hok, rv', q⟩
    | next => let ⟨_, H', J, q⟩ := hs; exact ⟨V.non, H', J.os, J.bare, J.base, J.hok, rfl, q⟩
    | brk => let ⟨_, _, _, no⟩ := hs; exact False.elim no
    | cont => let ⟨_, _, _, no⟩ := hs; exact False.elim no
end
section
variable {X : Cx} {C : Cd} {own : List Nat} {e : Expr} {es : List Expr} {fs : AF} {x : Str} {p pos : Pos} {k n : Nat} {f : Addr} {fd : FuncData} {ps : List Str} {F : List D → R D} {sp : Sp} {E : XK}
theorem run_G {pins : List (Addr × Obj)} {σ : L2.St} {H : Hp} {s : Shared} {Q : VK} {us : List Value} {vs : List V} (G : FnG X.prog X.w X.K X.mg X.base k f fd ps sp) (hg : X.A.guards = some []) (hr : Room k X.A) (hb : Binds X.K fd ps []) (hx : Passes (L2.CX X.prog X.w) X E)
    (I : Inv X pins σ H s) (r : Vals vs us) (h : sp vs H Q E) : wpAny (model X.prog X.w) X.A (call (.ref f) us) (EP X pins σ Q) X.xe s := by
  have hl : us.length = ps.length := by rw [← r.length]; exact G.len _ _ _ _ h
  have hb' := hb s us I.kIn (by simpa using hl)
  rw [List.append_nil] at hb'
  refine wpAny_call (codeAny_mono (G.go hg hr I.env0 hb' r h) fun res s' q => ?_)
  match res, q with
  | .error e, q => exact hx pins σ H s e s' I q
  | .ok (.ret u), q => exact I.after q
  | .ok .next, q => exact False.elim q
  | .ok .brk, q => exact False.elim q
  | .ok .cont, q => exact False.elim q
theorem ev_callG (Gf : FnG X.prog X.w X.K X.mg X.base k f fd ps (spD X.K C.ca n F)) (gu : X.A.guards = some []) (hr : Room k X.A) (hm : X.mg x = some (.ref f)) (hk : PySem.W.keepIn X.K (.ref f) = true) (hb : Binds X.K fd ps []) (hx : PX X C) (ha : PA X (e :: es) (tA X.K C own fs))
    (hg : Gl X x := by rfl) (hdb : (x == ("__debug__" : Str)) = false := by decide) (he : starEach (e :: es) X.env = (false, eval e X.env) :: starEach es X.env := by rfl) (hpl : (backTo pos (starEach es X.env)).any (·.1) = false := by rfl) :
    PE X (.Call (.Name x p) (e :: es) [] pos) (tE X.K C own (callF n F fs)) := by
  refine ⟨fun pins s σ H Q I ⟨env, F0, hR, h⟩ => wpAny_Call_Name_kw (ld_glob I hg hm ?_ hdb)⟩
  refine PySem.W.callWith_K (first := []) (h₀ := X.base) I.ok.mod.kin hk (thn (ha.run pos pins s σ H (fun vs H1 => spD X.K C.ca n F vs H1 Q C.E) I ⟨env, F0, hR, h.bind.imp fun ds e1 F1 H1 hR1 s1 h1 vs r => callOk hR1 r h1⟩) fun us s1 ⟨vs, H1, I1, r, q⟩ => ⟨I1.kIn, ?_⟩) he hpl
  exact run_G Gf gu hr hb hx I1 r q
end

/-! ### the law's end -/
/-- what is asked of the law's def at one script -/
theorem lawG {P : Program} {w : World} {K : PySem.W.Frag} {mg mb : Str → Option Value} {k : Nat} {fa a : Addr} {fd : FuncData} {x : Str} {sp : Sp} {s₁ : Shared} {vs : List Value} {ns : List Int}
    (kin : K.In s₁.heap) (gns : s₁.heap.Ns mainGlobals mg) (bns : s₁.heap.Ns builtinsNs mb) (boot : ∀ x : Str, x ≠ "__name__" → mb x = bootBuiltins x) (lim : s₁.heap.NoLimit) (gens : s₁.gens = #[])
    (obj : s₁.heap.get? a = some { cls := .type "list", data := .seq vs.toArray }) (nums : IntsAre vs ns) (hlen : ns.length ≤ sizeLine) (room : Room k callerA)
    (F : ∀ base : Heap, K.In base → base.Ns mainGlobals mg → FnG P w K mg base k fa fd [x] sp) (bind : ∀ (s : Shared) (u : Value), BindsTo s fd ⟨[u], []⟩ [(x, u)])
    (hsp : ∀ H : Hp, Only H → SqL K H a (ns.map V.int) → sp [.ref a] H (fun v _ => v = .bl true) fun _ _ _ => False) :
    codeAny (model P w) callerA (.call (.ref fa) ⟨[.ref a], []⟩) (fun r s' => r = .ok (.ret (.bool true)) ∧ OldK s₁.heap s'.heap ∧ s'.os = s₁.os ∧ AllBare s'.gens) s₁ := by
  -- with the heap H told ahead: nothing, or the script
  have main : ∀ H : Hp, Only H → SqL K H a (ns.map V.int) → HOk P w H s₁.heap → (∀ b, b ≠ a → H b = none) → (H a = none ∨ K.lookup a = none) →
      codeAny (model P w) callerA (.call (.ref fa) ⟨[.ref a], []⟩) (fun r s' => r = .ok (.ret (.bool true)) ∧ OldK s₁.heap s'.heap ∧ s'.os = s₁.os ∧ AllBare s'.gens) s₁ := fun H only seq hok out kno => by
    have dictFree : ∀ {b : Addr} {o : Obj} {es : Array DictEntry} {ep : Nat}, s₁.heap.get? b = some o → o.data = .dict es ep → H b = none := @fun b o es ep ho hd => by
      by_cases hb : b = a
      · rw [hb, obj] at ho
        rw [← Option.some.inj ho] at hd
        exact absurd hd fun z => nomatch z
      · exact out b hb
    have hide : ∀ {b : Addr} {m : Str → Option Value}, s₁.heap.Ns b m → (hidT s₁.heap H).Ns b m := @fun b m n => by
      obtain ⟨o, es, ep, ho, hd, rest⟩ := n
      exact ⟨o, es, ep, hidT_get ho (dictFree ho hd), hd, rest⟩
    have kin' : K.In (hidT s₁.heap H) := fun b o lk => hidT_get (kin b o lk) (by
      by_cases hb : b = a
      · rcases kno with z | z
        · rw [hb]; exact z
        · rw [hb, z] at lk; exact absurd lk fun z => nomatch z
      · exact out b hb)
    obtain ⟨ml, l1, l2⟩ := lim
    have env0 : Env0 P w K mg (hidT s₁.heap H) callerA [] s₁ H :=
      { frames := rfl, mod := ⟨kin', hide gns, ⟨mb, hide bns, boot⟩, ⟨ml, hide l1, l2⟩⟩, bs := fun b o z => of_hidT z, bsz := Nat.le_of_eq (hidT_size _ _), funs := trivial, frf := (fun b z => nomatch z), hok := hok, bare := .of_eq gens }
    refine codeAny_mono ((F _ kin' (hide gns)).go (us := [.ref a]) (vs := [.ref a]) rfl room env0 (bind s₁ (.ref a)) (.cons rfl .nil) (hsp H only seq)) fun res s' q => ?_
    match res, q with
    | .error e, ⟨_, _, _, _, _, _, _, _, _, _, _, _, no⟩ => exact no.elim
    | .ok .next, q => exact False.elim q
    | .ok .brk, q => exact False.elim q
    | .ok .cont, q => exact False.elim q
    | .ok (.ret u), ⟨v, H', os, bare, un, hok', rv, (ev : v = .bl true)⟩ =>
      subst ev
      have eu : u = Value.bool true := rv
      refine ⟨by rw [eu], OldK.of_keep fun b o ho => ?_, os, bare⟩
      rcases only b with z | ⟨ob, xs, z⟩
      · exact un.keep b o ho z (fun z => nomatch z) (fun z => nomatch z)
      · have h1 := (hok b _ z).1
        rw [ho] at h1
        rw [Option.some.inj h1]
        exact (hok' b _ (un.frzs b ob _ z)).1
  have rv := vals_ints nums
  cases hk : K.lookup a with
  | some o =>
    have ho := kin a o hk
    rw [obj] at ho
    have eo := Option.some.inj ho
    subst eo
    have few : vs.toArray.size ≤ sizeLine := by rw [List.size_toArray, nums.length]; exact hlen
    have seq : SqL K (fun _ => none) a (ns.map V.int) := .inr ⟨_, _, _, hk, rfl, rfl, rfl, few, by simpa using rv⟩
    exact main _ (fun _ => .inl rfl) seq (fun b u z => absurd z fun z => nomatch z) (fun _ _ => rfl) (.inl rfl)
  | none =>
    have at_ : ∀ b, b ≠ a → (if b = a then some (HO.frz { cls := .type "list", data := .seq vs.toArray } (.lst (ns.map V.int))) else none) = none := fun b hb => if_neg hb
    refine main (fun b => if b = a then some (.frz { cls := .type "list", data := .seq vs.toArray } (.lst (ns.map V.int))) else none) (fun b => ?_) (.inl (.inr ⟨_, if_pos rfl⟩)) (fun b u z => ?_) at_ (.inr hk)
    · by_cases hb : b = a
      · exact .inr ⟨_, _, if_pos hb⟩
      · exact .inl (at_ b hb)
    · by_cases hb : b = a
      · have z2 := (if_pos hb).symm.trans z
        cases z2
        rw [hb]
        exact ⟨obj, by rw [List.length_map]; exact hlen, vs, _, rv, obj⟩
      · exact absurd ((at_ b hb).symm.trans z) fun z => nomatch z
theorem walk_G {l : PySem.W.OpenLaw} {n k : Nat} {q : Program} {loose : List Str} {XP : (Str → Option Value) → Heap → Prop} {YP : World → Heap → Prop} {d : DefRec} {K : Params → PySem.W.Frag} {sp : World → Sp} {x : Str}
    (most : l.most = some n) (small : n ≤ sizeLine) (plain : d.params.defaults = []) (room : Room k callerA) (part : ∀ (w : World) (h : Heap), YP w h → (K w.params).In h)
    (F : ∀ (w : World) (mg : Str → Option Value) (fa : Addr) (h : Heap), (K w.params).In h → h.Ns mainGlobals mg → mg d.name = some (.ref fa) →
      ∃ fd : FuncData, (∀ (s : Shared) (u : Value), BindsTo s fd ⟨[u], []⟩ [(x, u)]) ∧ ∀ base : Heap, (K w.params).In base → base.Ns mainGlobals mg → FnG l.prog w (K w.params) mg base k fa fd [x] (sp w))
    (hsp : ∀ (w : World) (H : Hp) (a : Addr) (ns : List Int), ns.length ≤ n → Only H → SqL (K w.params) H a (ns.map V.int) → sp w [.ref a] H (fun v _ => v = .bl true) fun _ _ _ => False) :
    PySem.W.WalkO q loose XP YP l.row.toRowW d [] (fun f vs => PySem.call f vs) :=
  Att.attach_call most plain fun w s₀ s₁ mg mb fa o pm cd doc a vs ns G Y _ _ _ hmg hobj hints hlen hgens => by
    obtain ⟨fd, hb, hF⟩ := F w mg fa _ (part w _ Y) G.T.g hmg
    exact lawG (part w _ Y) G.T.g G.T.b G.T.builtins G.T.nolimit hgens hobj hints (Nat.le_trans hlen small) room hF hb fun H only seq => hsp w H a ns hlen only seq
/-- the law's def is right at the script -/
theorem law_sp {K : PySem.W.Frag} {ca : CA} {F : List D → R D} {H : Hp} {a : Addr} {ns : List Int} (hT : ca.T = []) (hF : F [.fro (ns.map .int)] = .ok (.bl true)) (only : Only H) (seq : SqL K H a (ns.map V.int)) :
    spD K ca 1 F [.ref a] H (fun v _ => v = .bl true) fun _ _ _ => False := by
  refine ⟨H, [.fro (ns.map .int)], ⟨Same.refl _, by rw [hT]; exact (fun p hp => nomatch hp), fun p ps z => ?_⟩, .one (.fro seq (Reps.ofInts ns)), rfl, ?_⟩
  · rcases only p with e | ⟨o, xs, e⟩ <;> (rw [e] at z; cases z)
  · rw [hF]
    exact fun v F' H' _ r => by cases r; rfl
end Dl

/-! ### sorted(set(x)), x a list of ints -/
namespace Si
open PySem PySem.Spec PyProof.Rows L2
abbrev newS (w : World) : Obj := { cls := .type "set", dict := none, data := .set #[] 0 (.fresh 0 0 (!w.params.followText "set-order")) }
section
variable {P : Program} {w : World} {A : Around} {E : Value → Shared → Prop} {s : Shared}
theorem call_setL {l : Addr} {items : Array Value} (ns : List Int) {Q : Value → Shared → Prop} (hh : A.handled = none) (hl : s.heap.IsList l items) (hit : IntsAre items.toList ns) (hb : ns.length + 1 < scanBound)
    (h : ∀ (h' : Heap) (tk c : Nat), c ≤ ns.length → SetR w h' s.heap.objs.size (fun j => decide (j ∈ ns)) c → (∀ b o, s.heap.get? b = some o → h'.get? b = some o) → Q (.ref s.heap.objs.size) { s with heap := h', toks := tk }) :
    wpAny (model P w) A (call (.type "set") [.ref l]) Q E s := by
  have hisz : items.size = ns.length := by rw [← Array.length_toList]; exact IntsAre.length hit
  obtain ⟨c, tl, hmro⟩ := F.called_set.mro
  have hmade := F.called_set.made
  have hsub := F.called_set.sub
  refine wpAny_call (codeAny_of_tree ?_)
  show wpAny _ _ (callAny (.type "set") _) _ _ _
  refine wpAny_pure ⟨Code.quiet_builtin _ (by decide +kernel), codeAny_builtin F.entry_type_call ?_⟩
  rw [Around.under_plain (weight_type_call_type "set" [.ref l] []) rfl]
  have h1 := F.called_set.notType
  have h2 := F.called_set.canCreate
  have hct := F.typeCall_set_1 (.ref l)
  repeat (any_goals (first | assumption | wp_step))
  refine codeAny_mono (code_set_led1 (.ref l) (E := E) (Q₁ := fun obj s₁ => obj = .ref s.heap.objs.size ∧ s₁ = { s with heap := s.heap.push (newS w) }) ⟨rfl, rfl⟩) fun r s₁ hr => ?_
  cases r with
  | error e => exact hr
  | ok fl =>
    cases fl with
    | ret obj =>
      obtain ⟨rfl, rfl⟩ := hr
      have hS : (s.heap.push (newS w)).get? s.heap.objs.size = some (newS w) := Heap.get?_push_size _ rfl
      have hT : Shared.TypeIs { s with heap := s.heap.push (newS w) } (.ref s.heap.objs.size) "set" := ⟨_, hS, rfl⟩
      have hli := F.called_set.init.lookup
      have hbi := F.called_set.init.bind (.ref s.heap.objs.size)
      repeat (any_goals (first | assumption | wp_step))
      refine codeAny_mono (codeAny_call_builtin (R := wants (fun r s₂ => r = .none ∧ ∃ h' tk c, s₂ = { s with heap := h', toks := tk } ∧ c ≤ ns.length ∧ SetR w h' s.heap.objs.size (fun j => decide (j ∈ ns)) c ∧
          (∀ b o, s.heap.get? b = some o → h'.get? b = some o)) E) F.called_set.init.plain F.entry_set_init (check_set_init_1 hT ?_)) fun r₂ s₂ hr₂ => ?_
      · obtain ⟨ol, hol, hcl, nl, hdl⟩ := hl
        obtain ⟨ocls, odict, odata, oslots⟩ := ol
        simp only at hcl hdl
        subst hcl; subst hdl
        have hol' : (s.heap.push (newS w)).get? l = some { cls := .type "list", dict := odict, data := .seq items nl, slots := oslots } := Heap.get?_push_of_some _ hol
        have hsls := F.sub_list_set
        have hslf := F.sub_list_frozenset
        have hne' : (Value.type "list" == Value.type "dict") = false := by decide
        have hl1 : (s.heap.push (newS w)).IsList l items := ⟨_, hol', rfl, nl, rfl⟩
        unfold Builtin.«set.__init__» noKeywords Builtin.Frozenset.updateFrom
        generalize hPI : pyIter = PI
        wp_walk
        subst hPI
        refine wpAny_pyIter_list hl1 ?_
        refine wpAny_bind (wpAny_runValue ?_)
        have hlS : l < s.heap.objs.size := Heap.lt_size hol
        have hh3 : A.in1.in1.in1.handled = none := by simp [hh]
        have hneI : l ≠ (s.heap.push (newS w)).objs.size := by
          rw [Heap.size_push]; exact Nat.ne_of_lt (Nat.lt_succ_of_lt hlS)
        have hSf : s.heap.objs.size ∉ [(s.heap.push (newS w)).objs.size, l] := by
          rw [Heap.size_push]; simp only [List.mem_cons, List.mem_singleton, List.not_mem_nil, or_false, not_or]
          exact ⟨Nat.ne_of_lt (Nat.lt_succ_self _), Nat.ne_of_gt hlS⟩
        have hval : ∀ (i : Nat) (v : Value), items[i]? = some v → ∃ k t, ns[i]? = some k ∧ v = .int k t := fun i v hv => by
          have hi : i < ns.length := hisz ▸ (Array.getElem?_eq_some_iff.mp hv).1
          have nth : ns[i]? = some ns[i] := List.getElem?_eq_getElem hi
          obtain ⟨t, e⟩ := PyProof.Rows.IntsAre.int_at hit i v ((Array.getElem?_toList).trans hv)
          exact ⟨ns[i], t, nth, by rw [e, List.getD_eq_getElem?_getD, nth] <;> rfl⟩
        refine set_update_ints ((Walks.list hh3 _ l hneI items).toS) s.heap.objs.size hSf ns hisz hb hval (items.size - 0) 0 _ (by omega) (Nat.zero_le _)
          ⟨⟨_, Heap.get?_push_size _ rfl, rfl, rfl⟩, (hl1.push _)⟩ ⟨0, Nat.le_refl 0, setR_new_at (Heap.get?_push_of_some _ hS)⟩ ?hR
        case hR =>
          intro s' c' hm hc' hS'
          obtain ⟨h', g2, d', tk', os'⟩ := s'
          have eg : g2 = s.gens := hm.gens
          have ed : d' = s.drawn := hm.drawn
          have eo : os' = s.os := hm.os
          subst eg; subst ed; subst eo
          show wpAny _ _ _ _ _ _
          refine wpAny_pure ?_
          show wpAny _ _ (ret Value.none) _ _ _
          refine wpAny_pure ⟨rfl, h', tk', c', rfl, hisz ▸ hc', hS', fun b o e => ?_⟩
          have b0 := Heap.lt_size e
          refine hm.heap b o (fun z => ?_) (Heap.get?_push_of_some _ (Heap.get?_push_of_some _ e))
          rw [Heap.size_push] at z
          simp only [List.mem_cons, List.not_mem_nil, or_false] at z
          exact z.elim (Nat.ne_of_lt b0) (Nat.ne_of_lt (Nat.lt_succ_of_lt b0))
      · cases r₂ with
        | error e => exact hr₂
        | ok fl₂ =>
          cases fl₂ with
          | ret r =>
            obtain ⟨rfl, h', tk, c, rfl, few, R1, hk'⟩ := hr₂
            repeat (any_goals (first | assumption | wp_step))
            exact h _ _ _ few R1 hk'
          | _ => exact hr₂.elim
    | _ => exact hr.elim
end
def rSetL (K : PySem.W.Frag) (w : World) : List V → Hp → VK → Prop := fun xs H Q => ∃ (l : Addr) (ns : List Int), xs = [V.ref l] ∧ SqL K H l (ns.map V.int) ∧ ns.length + 1 < scanBound ∧ ∀ p c, H p = none → c ≤ ns.length → Q (.ref p) (upd H p (SetO w p (fun j => decide (j ∈ ns)) c))
theorem cr_setL {X : Cx} (hc : X.calm = true) : CallR X (.type "set") (rSetL X.K X.w) := by
  intro pins s σ H xs us Q I r h
  obtain ⟨l, ns, rfl, hl, hb, q⟩ := h
  rw [Vals.ref1 r]
  obtain ⟨its, rv, pl, hz⟩ := I.list hl
  have new : H s.heap.objs.size = none := I.hok.fresh (Nat.le_refl _)
  refine call_setL (P := X.prog) (w := X.w) ns (I.ok.hd hc) pl.isList (by simpa using ints_of_vals rv) hb fun h' tk c few R k => ?_
  exact ⟨.ref s.heap.objs.size, upd H s.heap.objs.size (SetO X.w s.heap.objs.size _ c), I.laid (t' := tk) k (Nat.le_refl _) (setO_new R), rfl, q _ c new few⟩
end Si

namespace Ru
open PySem PySem.Spec PyProof.Rows L2
open Sem (wp)
/-! ### x == y, x != y of two instances of one class by an __eq__ of the text's own -/
section
variable {prog : Program} {w : World} {A : Around} {E : Value → Shared → Prop} {s : Shared} {K : PySem.W.Frag} {x C f : Addr} {ox : Obj} {od : Option Obj} {b tb : Value}
theorem ifBound_objNe {M : Model} {args : List Value} {Q : Option Value → Shared → Prop} (X : K.In s.heap) (I : PySem.W.InstAt s.heap x ox C od) (hs : PySem.W.findIn K (.ref C) "__ne__" = some (some (.builtin "object.__ne__")))
    (h : wpAny M A (call (.builtin "object.__ne__") (.ref x :: args)) (fun v => Q (some v)) E s) : wpAny M A (callSpecialIfBound? (.ref x) "__ne__" args) Q E s := by
  simp only [callSpecialIfBound?, bindSpecialIfBound?]
  refine wpAny_holding (wpAny_bind (wpAny_bind (wpAny_bind (I.type.here ((PySem.W.looks_findIn X hs).here ?_)))))
  refine wpAny_bind (wpAny_askSetting (wpAny_ite ?_))
  have fin : wpAny M A (call (.builtin "object.__ne__") ([.ref x] ++ args) >>= fun v => pure (some v)) Q E s := wpAny_bind (wpAny_mono h (fun v s' h' => wpAny_pure h') fun _ _ h' => h')
  split
  · exact wpAny_bind (wpAny_of_eq (F.cmp_object.ne.bind _) (wpAny_pure (by exact fin)))
  · exact wpAny_tryCatch (wpAny_bind (wpAny_of_eq (F.cmp_object.ne.bind _) (wpAny_pure (by exact fin))))
open Builtin in
theorem objNe_entry {Q : Fin → Shared → Prop} (X : K.In s.heap) (I : PySem.W.InstAt s.heap x ox C od) (hs : PySem.W.findIn K (.ref C) "__eq__" = some (some (.ref f))) (hf : PySem.W.isFn K (.ref f) = true) (hu : A.units < cLine)
    (hcall : wpAny (model prog w) A (call (.ref f) [.ref x, b]) (fun v s' => ∃ r, v = .bool r ∧ Q (.done (.ret (.bool (!r)))) s') E s) :
    wpAny (model prog w) A (Builtin.«object.__ne__» ⟨[.ref x, b], []⟩) Q E s := by
  unfold Builtin.«object.__ne__»
  repeat (first
    | with_reducible refine wpAny_cRoomFor hu ?_
    | (refine wpAny_bind (m := callSpecialIfBound? (.ref x) (Str.ofString "__eq__") [b])
        (PySem.W.ifBound_K X I hs hf (wpAny_mono hcall (fun r s' hr => by
          obtain ⟨c, rfl, hq⟩ := hr
          repeat (first | exact hq | exact wpAny_pure hq | exact wpAny_truthy_bool hq | (refine wpAny_bind (m := truthy (.bool _)) (wpAny_truthy_bool ?_)) | wp_step)) fun _ _ e => e)))
    | wp_step)
theorem try_ne {Q : Option Value → Shared → Prop} (X : K.In s.heap) (I : PySem.W.InstAt s.heap x ox C od) (hm : PySem.W.mroIn K C (.type "object") = some true) (hn : PySem.W.findIn K (.ref C) "__ne__" = some (some (.builtin "object.__ne__")))
    (hs : PySem.W.findIn K (.ref C) "__eq__" = some (some (.ref f))) (hf : PySem.W.isFn K (.ref f) = true) (hu : A.units + 1 < cLine)
    (hcall : wpAny (model prog w) A.in1 (call (.ref f) [.ref x, b]) (fun v s' => ∃ r, v = .bool r ∧ Q (some (.bool (!r))) s') E s) :
    wpAny (model prog w) A (tryCompare (.ref x) "__ne__" b) Q E s := by
  unfold tryCompare
  refine wpAny_bind (ifBound_objNe X I hn (wpAny_call (codeAny_call_builtin F.cmp_object.ne.plain F.cmpEntry_ne (PySem.W.check_slot F.cmpKind_ne F.cmpSplit_ne (I.type.andThen (PySem.W.looks_mroIn X hm)) (F.cmpArgs_ne _ _)
    (objNe_entry X I hs hf hu (wpAny_mono hcall (fun v s' hv => ?_) fun _ _ e => e))))))
  obtain ⟨r, rfl, hq⟩ := hv
  first | exact ⟨r, rfl, wpAny_pure hq⟩ | exact ⟨r, rfl, wpAny_pure (wpAny_pure hq)⟩ | exact ⟨r, rfl, hq⟩
theorem rich_ne {L : Addr} {h₀ : Heap} {m : Str → Option Value} {Q : Value → Shared → Prop} (hu : A.units + 1 < cLine) (F : Fr h₀ L s.heap m) (X₀ : K.In h₀) (I : PySem.W.InstAt s.heap x ox C od) (hb : PySem.W.Looks (model prog w) s.heap (typeOf b) tb)
    (hnf : PySem.W.notFirst K C tb = true) (hm : PySem.W.mroIn K C (.type "object") = some true) (hn : PySem.W.findIn K (.ref C) "__ne__" = some (some (.builtin "object.__ne__")))
    (hs : PySem.W.findIn K (.ref C) "__eq__" = some (some (.ref f))) (hf : PySem.W.isFn K (.ref f) = true)
    (hcall : wpAny (model prog w) A.in1 (call (.ref f) [.ref x, b]) (fun v s' => ∃ r, v = .bool r ∧ Q (.bool (!r)) s') E s) : wpAny (model prog w) A (richCompare .NotEq (.ref x) b) Q E s := by
  have X := X₀.keeps F.keep
  have one : wpAny (model prog w) A (tryCompare (.ref x) (cmpInfo .NotEq).2.1 b) (fun r s' => ∃ v, r = some v ∧ Q v s') E s :=
    try_ne X I hm hn hs hf hu (wpAny_mono hcall (fun v s' ⟨r, e, q⟩ => ⟨r, e, _, rfl, q⟩) fun _ _ e => e)
  unfold richCompare
  simp only [oneThing_ref]
  refine wpAny_holding (wpAny_bind (wpAny_cRoomFor (Nat.lt_of_succ_lt hu) ?_))
  refine wpAny_bind (I.type.here (wpAny_bind (hb.here ?_)))
  split
  · rename_i q
    have e : PySem.W.subIn K tb (.ref C) = some false := by
      rcases Bool.or_eq_true_iff.mp hnf with e | e
      · rw [beq_iff_eq.mp e] at q; simp at q
      · exact beq_iff_eq.mp e
    refine wpAny_bind ((PySem.W.looks_subIn X e).here ?_)
    simp only [Bool.false_eq_true, if_false]
    refine wpAny_bind (wpAny_mono one (fun r s' z => ?_) fun _ _ e => e)
    obtain ⟨v, rfl, hq⟩ := z
    exact wpAny_pure hq
  · refine wpAny_bind (wpAny_pure ?_)
    simp only [Bool.false_eq_true, if_false]
    refine wpAny_bind (wpAny_mono one (fun r s' z => ?_) fun _ _ e => e)
    obtain ⟨v, rfl, hq⟩ := z
    exact wpAny_pure hq
end
/-- what the text's class must have: its own ==, and no != -/
structure EqC (K : PySem.W.Frag) (C f : Addr) : Prop where
  eq : PySem.W.findIn K (.ref C) "__eq__" = some (some (.ref f))
  fn : PySem.W.isFn K (.ref f) = true
  ne : PySem.W.findIn K (.ref C) "__ne__" = some (some (.builtin "object.__ne__"))
  ob : PySem.W.mroIn K C (.type "object") = some true
def rInsEq (C : Addr) (sp : Sp) (E : XK) (neg : Bool) : R2 := fun x y H Q => ∃ a b dx dy fs gs, x = .ref a ∧ y = .ref b ∧ H a = some (.ins C dx fs) ∧ H b = some (.ins C dy gs) ∧ sp [x, y] H (fun v H' => ∃ r, v = .bl r ∧ Q (.bl (if neg then !r else r)) H') E
section
variable {X : Cx} {CX : CXT} {k : Nat} {C f : Addr} {sp : Sp} {E : XK}
theorem op_eqI (c : EqC X.K C f) (F : FnR X.prog X.w X.K X.mg X.base CX k f sp) (hr : Room k X.A) (hx : Passes CX X E) : OpR X (compareOp .Eq) (rInsEq C sp E false) := by
  intro pins s σ H x y v u Q I rx ry h
  obtain ⟨a, b, dx, dy, fs, gs, rfl, rfl, ha, hb, q⟩ := h
  cases rx
  cases ry
  show wpAny (model X.prog X.w) X.A (richCompare .Eq (.ref a) (.ref b)) (EP X pins σ Q) X.xe s
  obtain ⟨mA, J, _⟩ := ins_get I.hok ha
  obtain ⟨mB, J', _⟩ := ins_get I.hok hb
  obtain ⟨od, J, _⟩ := J.look
  obtain ⟨od', J', _⟩ := J'.look
  obtain ⟨m, hF⟩ := I.fr
  refine PySem.W.cmp_K (op := .Eq) (tb := .ref C) hr.units0 hF I.ok.mod.kin J J'.type (by simp [PySem.W.notFirst]) c.eq c.fn ?_
  refine thn (wpAny_call (run_fnR (us := [.ref a, .ref b]) (vs := [.ref a, .ref b]) F hr hx I (.cons rfl (.cons rfl .nil)) q)) fun w s' ⟨z, H', I', rz, r, ez, q'⟩ => ?_
  subst ez
  cases rz
  exact ⟨.bl r, H', I', rfl, q'⟩
theorem op_neI (c : EqC X.K C f) (F : FnR X.prog X.w X.K X.mg X.base CX k f sp) (hr : Room (k + 1) X.A) (hx : Passes CX X E) : OpR X (compareOp .NotEq) (rInsEq C sp E true) := by
  intro pins s σ H x y v u Q I rx ry h
  obtain ⟨a, b, dx, dy, fs, gs, rfl, rfl, ha, hb, q⟩ := h
  cases rx
  cases ry
  show wpAny (model X.prog X.w) X.A (richCompare .NotEq (.ref a) (.ref b)) (EP X pins σ Q) X.xe s
  obtain ⟨mA, J, _⟩ := ins_get I.hok ha
  obtain ⟨mB, J', _⟩ := ins_get I.hok hb
  obtain ⟨od, J, _⟩ := J.look
  obtain ⟨od', J', _⟩ := J'.look
  obtain ⟨m, hF⟩ := I.fr
  refine rich_ne (tb := .ref C) (Nat.lt_of_le_of_lt (Nat.add_le_add_left (by decide : 1 ≤ 64) _) hr.units) hF I.ok.mod.kin J J'.type (by simp [PySem.W.notFirst]) c.ob c.ne c.eq c.fn ?_
  have e0 : Env0 X.prog X.w X.K X.mg X.base X.A.in1 X.stack s H := I.env0.in1
  refine wpAny_call (codeAny_mono (F X.A.in1 X.stack s H [.ref a, .ref b] [.ref a, .ref b] _ E hr.in1 e0 (.cons rfl (.cons rfl .nil)) q) fun r s' hq => ?_)
  cases r with
  | error e => exact hx pins σ H s e s' I hq
  | ok fl =>
    cases fl with
    | ret w =>
      obtain ⟨z, H', I', rz, c', ez, q'⟩ := I.after hq
      subst ez
      cases rz
      exact ⟨c', rfl, .bl (!c'), H', I', rfl, q'⟩
    | next => exact False.elim hq
    | brk => exact False.elim hq
    | cont => exact False.elim hq
end
/-! ### the truth of an instance by an own __bool__ -/
structure BoolC (K : PySem.W.Frag) (C f : Addr) : Prop where
  bo : PySem.W.findIn K (.ref C) "__bool__" = some (some (.ref f))
  fn : PySem.W.isFn K (.ref f) = true
def rInsTru (C : Addr) (sp : Sp) (E : XK) : V → Hp → (Bool → Hp → Prop) → Prop := fun x H Q => ∃ a dx fs, x = .ref a ∧ H a = some (.ins C dx fs) ∧ sp [x] H (fun v H' => ∃ r, v = .bl r ∧ Q r H') E
theorem tru_own {X : Cx} {CX : CXT} {k : Nat} {C f : Addr} {sp : Sp} {E : XK} (c : BoolC X.K C f) (F : FnR X.prog X.w X.K X.mg X.base CX k f sp) (hr : Room k X.A) (hx : Passes CX X E) : TruR X (rInsTru C sp E) := by
  intro pins s σ H x v Q I rx h
  obtain ⟨a, dx, fs, rfl, ha, q⟩ := h
  cases rx
  obtain ⟨mA, J, _⟩ := ins_get I.hok ha
  obtain ⟨od, J, _⟩ := J.look
  obtain ⟨m, hF⟩ := I.fr
  refine PySem.W.truthy_K hF I.ok.mod.kin J c.bo c.fn ?_
  refine thn (wpAny_call (run_fnR (us := [.ref a]) (vs := [.ref a]) F hr hx I (.cons rfl .nil) q)) fun w s' ⟨z, H', I', rz, r, ez, q'⟩ => ?_
  subst ez
  cases rz
  exact ⟨H', I', q'⟩
theorem meets_bool_any {prog : Program} {w : World} (x : Value) : MeetsIn prog w (Builtin.«bool.__new__» ⟨[.type "bool", x], []⟩) (fun A R s => wpAny (model prog w) A.in1 (truthy x) (fun b s1 => R (.ok (.ret (.bool b))) s1) (fun e s1 => R (.error e) s1) s) :=
  .of_wp fun A R s h => by
    have f1 := F.conv_sub_bool
    unfold Builtin.«bool.__new__»
    repeat (any_goals (first | (with_reducible refine wpAny_bind (m := truthy _) (wpAny_mono h (fun b s1 hb => ?_) fun _ _ z => z)) | assumption | wp_step))
    all_goals first | exact ⟨_, rfl, hb⟩ | skip
theorem call_bool_any {prog : Program} {w : World} {A : Around} {E : Value → Shared → Prop} {s : Shared} {x : Value} {Q : Value → Shared → Prop} (h : wpAny (model prog w) A.in1.in1 (truthy x) (fun b s1 => Q (.bool b) s1) E s) :
    wpAny (model prog w) A (call (.type "bool") [x]) Q E s := by
  refine callType_newIn F.called_bool F.newNe_bool (F.typeCall_bool_1 x) (F.newCall_bool_1 x) (fun obj => F.args_object_init_2 obj x) F.entry_bool_new (meets_bool_any x) ?_
  show wpAny (model prog w) A.in1.in1 (truthy x) _ _ s
  exact wpAny_mono h (fun b s1 hb => ⟨rfl, hb⟩) fun _ _ z => z
def rBoolIns (C : Addr) (sp : Sp) (E : XK) : List V → Hp → VK → Prop := fun xs H Q => ∃ x, xs = [x] ∧ rInsTru C sp E x H (fun b H' => Q (.bl b) H')
theorem call_boolOwn {X : Cx} {CX : CXT} {k : Nat} {C f : Addr} {sp : Sp} {E : XK} (c : BoolC X.K C f) (F : FnR X.prog X.w X.K X.mg X.base CX k f sp) (hr : Room (k + 2) X.A) (hx : Passes CX X E) : CallR X (.type "bool") (rBoolIns C sp E) := by
  intro pins s σ H xs us Q I rx h
  obtain ⟨x, rfl, a, dx, fs, rfl, ha, q⟩ := h
  obtain rfl := Vals.ref1 rx
  obtain ⟨mA, J, _⟩ := ins_get I.hok ha
  obtain ⟨od, J, _⟩ := J.look
  obtain ⟨m, hF⟩ := I.fr
  refine call_bool_any (PySem.W.truthy_K hF I.ok.mod.kin J c.bo c.fn ?_)
  have e0 : Env0 X.prog X.w X.K X.mg X.base X.A.in1.in1 X.stack s H := I.env0.in1.in1
  refine wpAny_call (codeAny_mono (F X.A.in1.in1 X.stack s H [.ref a] [.ref a] _ E hr.in1.in1 e0 (.cons rfl .nil) q) fun r s' hq => ?_)
  cases r with
  | error e => exact hx pins σ H s e s' I hq
  | ok fl =>
    cases fl with
    | ret w =>
      obtain ⟨z, H', I', rz, c', ez, q'⟩ := I.after hq
      subst ez
      cases rz
      exact ⟨.bl c', H', I', rfl, q'⟩
    | next => exact False.elim hq
    | brk => exact False.elim hq
    | cont => exact False.elim hq
end Ru
namespace Dl
open PySem PySem.Spec PyProof.Rows L2

/-! ### sorted(set(x)) -/
def insU (x : Int) : List Int → List Int
  | [] => [x]
  | y :: r => if x < y then x :: y :: r else if x = y then y :: r else y :: insU x r
def sortU (l : List Int) : List Int := l.foldr insU []
theorem insU_mem (x k : Int) : ∀ l, k ∈ insU x l ↔ k = x ∨ k ∈ l
  | [] => by simp [insU]
  | y :: r => by
    unfold insU
    split
    · simp
    · split
      · rename_i h
        subst h
        simp
      · rw [List.mem_cons, insU_mem x k r, List.mem_cons]
        exact ⟨fun h => h.elim (fun h => .inr (.inl h)) fun h => h.elim .inl fun h => .inr (.inr h), fun h => h.elim (fun h => .inr (.inl h)) fun h => h.elim .inl fun h => .inr (.inr h)⟩
theorem insU_sorted (x : Int) : ∀ l, l.Pairwise (· < ·) → (insU x l).Pairwise (· < ·)
  | [], _ => List.pairwise_singleton _ _
  | y :: r, h => by
    obtain ⟨h1, h2⟩ := List.pairwise_cons.mp h
    unfold insU
    split
    · rename_i hxy
      refine List.pairwise_cons.mpr ⟨fun z hz => ?_, h⟩
      rcases List.mem_cons.mp hz with e | hz
      · rw [e]; exact hxy
      · exact Int.lt_trans hxy (h1 z hz)
    · split
      · exact h
      · refine List.pairwise_cons.mpr ⟨fun z hz => ?_, insU_sorted x r h2⟩
        rcases (insU_mem x z r).mp hz with e | hz
        · rw [e]; omega
        · exact h1 z hz
theorem sortU_mem (k : Int) : ∀ l, k ∈ sortU l ↔ k ∈ l
  | [] => by simp [sortU]
  | x :: r => by
    show k ∈ insU x (sortU r) ↔ _
    rw [insU_mem, sortU_mem k r, List.mem_cons]
theorem sortU_sorted : ∀ l, (sortU l).Pairwise (· < ·)
  | [] => .nil
  | x :: r => insU_sorted x _ (sortU_sorted r)
theorem lt_uniq : ∀ {a b : List Int}, a.Pairwise (· < ·) → b.Pairwise (· < ·) → (∀ k, k ∈ a ↔ k ∈ b) → a = b
  | [], [], _, _, _ => rfl
  | [], y :: b, _, _, h => absurd ((h y).mpr List.mem_cons_self) List.not_mem_nil
  | x :: a, [], _, _, h => absurd ((h x).mp List.mem_cons_self) List.not_mem_nil
  | x :: a, y :: b, ha, hb, h => by
    obtain ⟨a1, a2⟩ := List.pairwise_cons.mp ha
    obtain ⟨b1, b2⟩ := List.pairwise_cons.mp hb
    have e : x = y := by
      rcases List.mem_cons.mp ((h x).mp List.mem_cons_self) with e | e
      · exact e
      · rcases List.mem_cons.mp ((h y).mpr List.mem_cons_self) with e' | e'
        · exact e'.symm
        · have := b1 x e
          have := a1 y e'
          omega
    subst e
    refine congrArg (x :: ·) (lt_uniq a2 b2 fun k => ⟨fun z => ?_, fun z => ?_⟩)
    · rcases List.mem_cons.mp ((h k).mp (List.mem_cons_of_mem _ z)) with e | e
      · have := a1 k z
        omega
      · exact e
    · rcases List.mem_cons.mp ((h k).mpr (List.mem_cons_of_mem _ z)) with e | e
      · have := b1 k z
        omega
      · exact e
def sortSetD : List D → R D
  | [.lst xs] => (R.ofOpt (intsD xs)).bind fun bs => if bs.length < 63 then .ok (.lst ((sortU bs).map .int)) else .no
  | _ => .no
theorem sortSetD_ne : ∀ x c fs, sortSetD x ≠ .ex c fs := fun x c fs z => by
  unfold sortSetD at z
  split at z
  · refine bind_ne ofOpt_ne (fun a z => ?_) z
    split at z <;> cases z
  · cases z
section
variable {X : Cx} {C : Cd} {own : List Nat} {a : Expr} {fs : AF} {p q pos pos' : Pos}
theorem ev_sortSet (hc : X.calm = true) (hm : X.mg "sorted" = none) (hm' : X.mg "set" = none) (ha : PA X [a] (tA X.K C own fs)) (hg : Gl X "sorted" := by rfl) (hg' : Gl X "set" := by rfl)
    (he : starEach [a] X.env = (false, eval a X.env) :: starEach [] X.env := by rfl) (he' : starEach [.Call (.Name "set" q) [a] [] pos'] X.env = (false, eval (.Call (.Name "set" q) [a] [] pos') X.env) :: starEach [] X.env := by rfl) :
    PE X (.Call (.Name "sorted" p) [.Call (.Name "set" q) [a] [] pos'] [] pos) (tN X.K C own (eN sortSetD fs)) :=
  pe_imp (pe_callB (cr_sortedSet hc) hg hm (by decide +kernel) (pa_cons (pe_callTy (Si.cr_setL hc) hg' hm' (by decide +kernel) ha (by decide) (by decide) he rfl) pa_nil he') (by decide) (by decide) he' rfl) fun σ H Q ⟨env, F, hR, h⟩ => ⟨env, F, hR, h.bind.imp fun ds e1 F1 H1 hR1 s1 h1 vs rs => by
    obtain ⟨d, hd, h2⟩ := h1.known (sortSetD_ne ds)
    replace hd : sortSetD ds = .ok d := hd
    unfold sortSetD at hd
    split at hd
    · rename_i xs
      cases rs with
      | cons r rs =>
        cases rs
        cases r with
        | lst hp rs =>
          cases eb : intsD xs with
          | none => rw [eb] at hd; cases hd
          | some bs =>
            rw [eb] at hd
            have hd : (if bs.length < 63 then R.ok (D.lst ((sortU bs).map .int)) else .no) = .ok d := hd
            split at hd
            · rename_i hl
              cases hd
              have ev := intsD_rep rs eb
              subst ev
              refine ⟨_, bs, rfl, SqL.of (hR1.q.sub _ _ hp), by unfold scanBound; omega, fun p1 c h1' hc' => ?_⟩
              have st := Stp.new (o := SetO X.w p1 (fun j => decide (j ∈ bs)) c) hR1.q.sub h1' (fun _ z => nomatch z)
              have hR2 := hR1.step st
              refine ⟨p1, _, c, rfl, upd_same, by omega, fun ns p2 hs hmem _ h2' => ?_⟩
              have en : ns = sortU bs := lt_uniq hs (sortU_sorted bs) fun k => by rw [hmem k, sortU_mem, decide_eq_true_eq]
              subst en
              exact newOk hR2 (h2.later st.sF) p2 _ h2' ⟨_, upd_same, Reps.ofInts _⟩
            · cases hd
    · cases hd⟩
end

/-! ### repr -/
def reprD : List D → R D
  | [d] => match pyD d with
    | some e => if (PyData.showable e = true ∧ PyData.hasDict e = false) ∧ PyData.depth e ≤ 64 ∧ (PyData.shown e).length ≤ sizeLine then .ok (.str (PyData.shown e)) else .no
    | none => .no
  | _ => .no
theorem reprD_ne : ∀ x c fs, reprD x ≠ .ex c fs := fun x c fs z => by
  unfold reprD at z
  split at z
  · split at z
    · split at z <;> cases z
    · cases z
  · cases z
theorem oc_repr {X : Cx} {ca : CA} {k : Nat} (hg : X.A.guards = some []) (hr : Room k X.A) : CallR X (.builtin "repr") (rN X.K ca reprD) := fun pins s σ H xs us Q I r ⟨F, ds, d, sub, rs, hd, q⟩ => by
  unfold reprD at hd
  split at hd
  · rename_i x
    cases rs with
    | cons rx rs =>
      cases rs
      obtain ⟨u, eu, ru⟩ := vals1 r
      subst eu
      split at hd
      · rename_i e he
        split at hd
        · rename_i hc
          cases hd
          obtain ⟨⟨c1, c2⟩, c3, c4⟩ := hc
          have dp := pyD_dp sub rx he
          obtain ⟨as, rd⟩ := Dp.reads I e _ u dp ru
          have fin : ∀ (h' : Heap) (t tk : Tok), (∀ b o, s.heap.get? b = some o → h'.get? b = some o) → EP X pins σ Q (.str (PyData.shown e) t) { s with heap := h', toks := tk } := fun h' t tk kp =>
            ⟨.str _, H, I.call (ch := []) (Un.kept kp) (I.hok.kept kp) I.bare (fun _ z => nomatch z), ⟨t, rfl⟩, q _ F H (.refl sub) (.str _)⟩
          have big : ∀ {p0 : Addr}, u = .ref p0 → wpAny (model X.prog X.w) X.A (call (.builtin "repr") [u]) (EP X pins σ Q) X.xe s := @fun p0 eu => by
            subst eu
            have hu := hr.un
            exact PySem.repr_of_reads' rd c1 (fun z => absurd (c2.symm.trans z) (by decide)) hg (by omega) (fun _ _ z => z) (fun h' t tk kp => fin h' t tk kp) c4
          cases rx with
          | tup => exact big ru
          | lst => exact big ru
          | fro => exact big ru
          | non => cases he; cases ru; exact PySem.P.repr_of_none (fin _ _ _ fun _ _ z => z)
          | bl b => cases he; cases ru; exact PySem.P.repr_of_bool (fin _ _ _ fun _ _ z => z)
          | int i => cases he; obtain ⟨t, eu⟩ := ru; subst eu; exact PySem.P.repr_of_int (of_decide_eq_true c1) (fin _ _ _ fun _ _ z => z)
          | str z => cases he; obtain ⟨t, eu⟩ := ru; subst eu; exact PySem.P.repr_of_str (fin _ _ _ fun _ _ z => z) c4
          | _ => cases he
        · cases hd
      · cases hd
  · cases hd

/-! ### == and the truth of instances by the text's own defs -/
abbrev Tab1 := Nat → Option (List D → R D)
def TabEq (P : Program) (w : World) (K : PySem.W.Frag) (mg : Str → Option Value) (base : Heap) (ca : CA) (k : Nat) (tb : Tab1) : Prop := ∀ c F, tb c = some F → ∃ f, Ru.EqC K (ca c) f ∧ FnR P w K mg base (L2.CX P w) k f (spD K ca 2 F)
def TabBo (P : Program) (w : World) (K : PySem.W.Frag) (mg : Str → Option Value) (base : Heap) (ca : CA) (k : Nat) (tb : Tab1) : Prop := ∀ c F, tb c = some F → ∃ f, Ru.BoolC K (ca c) f ∧ FnR P w K mg base (L2.CX P w) k f (spD K ca 1 F)
def eqI (tb : Tab1) : D → D → R D
  | .ins c fs, .ins c' gs => if c = c' then match tb c with
    | some F => F [.ins c fs, .ins c' gs]
    | none => .no else .no
  | _, _ => .no
def eEqI (tb : Tab1) (neg : Bool) (fa fb : EF) : EF := fun env => (fa env).bind fun p => (fb p.2).bind fun q => (eqI tb p.1 q.1).bind fun r => (blD r).bind fun b => .ok (.bl (if neg then !b else b), q.2)
def boI (tb : Tab1) : D → R D
  | .ins c fs => match tb c with
    | some F => F [.ins c fs]
    | none => .no
  | _ => .no
def eBoI (tb : Tab1) (fa : EF) : EF := fun env => (fa env).bind fun p => (boI tb p.1).bind fun r => (blD r).bind fun b => .ok (.bl b, p.2)
section
variable {X : Cx} {C : Cd} {own : List Nat} {a b : Expr} {fa fb : EF} {tb : Tab1} {p pos : Pos} {k : Nat} {F : List D → R D}
theorem pst_call {σ : L2.St} {F1 H1 : Hp} {env : En} {ds : List D} {vs : List V} {n : Nat} (hR : RE X.K C.ca C.B own env σ F1 H1) (r : Reps X.K C.ca F1 ds vs) (hn : ds.length = n) {kf : Bool → En → Hp → Hp → Prop}
    (h : Pst X.K C own ((F ds).bind fun r => (blD r).bind fun b => .ok (b, env)) σ F1 kf) : spD X.K C.ca n F vs H1 (fun v H' => ∃ b, v = .bl b ∧ ∃ F', RE X.K C.ca C.B own env σ F' H' ∧ Same F1 F' ∧ kf b env F' H') C.E := by
  refine ⟨F1, ds, hR.q.pre, r, hn, ?_⟩
  cases e : F ds with
  | ok d =>
    rw [e] at h
    intro v F' H' st rv
    have hR' := hR.stepC st
    have h := h.later st.sF
    cases d <;> try exact (show False from h).elim
    cases rv
    exact ⟨_, rfl, F', hR', st.sF, h.here hR'⟩
  | ex c fs => rw [e] at h; exact fun e o F' H' st xr => h e o F' H' (hR.q.stepC st) st.sF xr
  | no => rw [e] at h; exact h
def rEqs (K : PySem.W.Frag) (ca : CA) (tb : Tab1) (E : XK) (neg : Bool) : R2 := fun x y H Q => ∃ c F, tb c = some F ∧ Ru.rInsEq (ca c) (spD K ca 2 F) E neg x y H Q
theorem op_eqs (hT : TabEq X.prog X.w X.K X.mg X.base C.ca k tb) (hr : Room (k + 1) X.A) (hx : PX X C) : OpR X (compareOp .Eq) (rEqs X.K C.ca tb C.E false) := fun pins s σ H x y v u Q I rx ry ⟨c, F, hF, q⟩ => by
  obtain ⟨f, e, G⟩ := hT c F hF
  exact Ru.op_eqI e G (hr.mono (Nat.le_succ _)) hx pins s σ H x y v u Q I rx ry q
theorem op_nes (hT : TabEq X.prog X.w X.K X.mg X.base C.ca k tb) (hr : Room (k + 1) X.A) (hx : PX X C) : OpR X (compareOp .NotEq) (rEqs X.K C.ca tb C.E true) := fun pins s σ H x y v u Q I rx ry ⟨c, F, hF, q⟩ => by
  obtain ⟨f, e, G⟩ := hT c F hF
  exact Ru.op_neI e G hr hx pins s σ H x y v u Q I rx ry q
theorem insAt {d : D} {F H : Hp} {v : V} {c : Nat} {fs : List (Str × D)} (r : Rep X.K C.ca F (.ins c fs) v) (sub : Same F H) : ∃ a dx gs, v = .ref a ∧ H a = some (.ins (C.ca c) dx gs) := by
  cases r with
  | ins h _ _ => exact ⟨_, _, _, rfl, sub _ _ h⟩
theorem eqs_of {neg : Bool} {σ : L2.St} {F2 H2 : Hp} {env : En} {x y : D} {v w : V} {Q : VK} (hR : RE X.K C.ca C.B own env σ F2 H2) (rx : Rep X.K C.ca F2 x v) (ry : Rep X.K C.ca F2 y w) {kf : Bool → En → Hp → Hp → Prop}
    (h : Pst X.K C own ((eqI tb x y).bind fun r => (blD r).bind fun b => .ok (b, env)) σ F2 kf) (hq : ∀ b F' H', RE X.K C.ca C.B own env σ F' H' → Same F2 F' → kf b env F' H' → Q (.bl (if neg then !b else b)) H') : rEqs X.K C.ca tb C.E neg v w H2 Q := by
  unfold eqI at h
  split at h
  · rename_i c fs c' gs
    split at h
    · rename_i ec
      subst ec
      split at h
      · rename_i F hF
        obtain ⟨a, dx, g1, ea, ha⟩ := insAt (d := .non) rx hR.q.sub
        obtain ⟨b, dy, g2, eb, hb⟩ := insAt (d := .non) ry hR.q.sub
        refine ⟨c, F, hF, a, b, dx, dy, g1, g2, ea, eb, ha, hb, ?_⟩
        obtain ⟨F', ds, h1, h2, h3, h4⟩ := pst_call hR (.cons rx (.one ry)) rfl h
        refine ⟨F', ds, h1, h2, h3, ?_⟩
        split at h4
        · exact fun v F' H' st r => let ⟨b, eb, F3, hR3, s3, z⟩ := h4 v F' H' st r; ⟨b, eb, hq b F3 H' hR3 s3 z⟩
        · exact h4
        · exact h4
      · exact h.elim
    · exact h.elim
  · exact h.elim
theorem ev_eqI (hT : TabEq X.prog X.w X.K X.mg X.base C.ca k tb) (hr : Room (k + 1) X.A) (hx : PX X C) (ha : PE X a (tE X.K C own fa)) (hb : PE X b (tE X.K C own fb)) (hm : behindInMarks .Eq b = false := by first | exact nomark _ | rfl) : PE X (.Compare a [.Eq] [b] pos) (tE X.K C own (eEqI tb false fa fb)) :=
  pe_imp (pe_cmpR (op_eqs hT hr hx) ha hb hm) fun σ H Q ⟨env, F, hR, h⟩ => ⟨env, F, hR, h.bind.imp fun x e1 F1 H1 hR1 s1 h1 v rv => ⟨e1, F1, hR1, h1.bind.imp fun y e2 F2 H2 hR2 s2 h2 w rw' => by
    refine eqs_of hR2 (rv.mono s2) rw' (kf := fun b e F' H' => ∀ v, Rep X.K C.ca F' (.bl b) v → Q v H') ?_ fun b F' H' hR' s' z => z _ (.bl b)
    simp only [Bool.false_eq_true, if_false] at h2
    have h3 : Pst X.K C own (((eqI tb x y).bind fun r => (blD r).bind fun b => .ok (b, e2)).bind fun q => .ok (.bl q.1, q.2)) σ F2 fun d _ F' H' => ∀ v, Rep X.K C.ca F' d v → Q v H' := by
      cases e : eqI tb x y with
      | ok d => rw [e] at h2; cases d <;> exact h2
      | ex c fs => rw [e] at h2; exact h2
      | no => rw [e] at h2; exact h2
    exact h3.bind.imp fun b e F' H' hR' s' z => z.here hR'⟩⟩
theorem ev_neI (hT : TabEq X.prog X.w X.K X.mg X.base C.ca k tb) (hr : Room (k + 1) X.A) (hx : PX X C) (ha : PE X a (tE X.K C own fa)) (hb : PE X b (tE X.K C own fb)) (hm : behindInMarks .NotEq b = false := by first | exact nomark _ | rfl) : PE X (.Compare a [.NotEq] [b] pos) (tE X.K C own (eEqI tb true fa fb)) :=
  pe_imp (pe_cmpR (op_nes hT hr hx) ha hb hm) fun σ H Q ⟨env, F, hR, h⟩ => ⟨env, F, hR, h.bind.imp fun x e1 F1 H1 hR1 s1 h1 v rv => ⟨e1, F1, hR1, h1.bind.imp fun y e2 F2 H2 hR2 s2 h2 w rw' => by
    refine eqs_of hR2 (rv.mono s2) rw' (kf := fun b e F' H' => ∀ v, Rep X.K C.ca F' (.bl (!b)) v → Q v H') ?_ fun b F' H' hR' s' z => z _ (.bl (!b))
    simp only [if_true] at h2
    have h3 : Pst X.K C own (((eqI tb x y).bind fun r => (blD r).bind fun b => .ok (b, e2)).bind fun q => .ok (.bl (!q.1), q.2)) σ F2 fun d _ F' H' => ∀ v, Rep X.K C.ca F' d v → Q v H' := by
      cases e : eqI tb x y with
      | ok d => rw [e] at h2; cases d <;> exact h2
      | ex c fs => rw [e] at h2; exact h2
      | no => rw [e] at h2; exact h2
    exact h3.bind.imp fun b e F' H' hR' s' z => z.here hR'⟩⟩
theorem et_eqs {op : CmpOp} {neg : Bool} (ho : OpR X (compareOp op) (rEqs X.K C.ca tb C.E neg)) (ha : PE X a (tE X.K C own fa)) (hb : PE X b (tE X.K C own fb)) (hm : behindInMarks op b = false) : PT X (.Compare a [op] [b] pos) (tT X.K C own (tB1 (eEqI tb neg fa fb))) :=
  pt_imp (pt_cmpR ho ha hb hm) fun σ H Q ⟨env, F, hR, h⟩ => by
    refine ⟨env, F, hR, ?_⟩
    have h : Pst X.K C own ((fa env).bind fun p => (fb p.2).bind fun q => ((eqI tb p.1 q.1).bind fun r => (blD r).bind fun b => .ok (b, q.2)).bind fun q => .ok (if neg then !q.1 else q.1, q.2)) σ F fun b _ _ H' => Q b H' := by
      unfold tB1 eEqI at h
      cases e1 : fa env with
      | ok p =>
        rw [e1] at h
        simp only [R.bind_ok] at h ⊢
        cases e2 : fb p.2 with
        | ok q =>
          rw [e2] at h
          simp only [R.bind_ok] at h ⊢
          cases e : eqI tb p.1 q.1 with
          | ok d => rw [e] at h; cases d <;> exact h
          | ex c fs => rw [e] at h; exact h
          | no => rw [e] at h; exact h
        | ex c fs => rw [e2] at h; exact h
        | no => rw [e2] at h; exact h
      | ex c fs => rw [e1] at h; exact h
      | no => rw [e1] at h; exact h
    exact h.bind.imp fun x e1 F1 H1 hR1 s1 h1 v rv => ⟨e1, F1, hR1, h1.bind.imp fun y e2 F2 H2 hR2 s2 h2 w rw' =>
      eqs_of hR2 (rv.mono s2) rw' (kf := fun b e F' H' => Q (if neg then !b else b) H') (h2.bind.imp fun b e F' H' hR' s' z => z.here hR') fun b F' H' hR' s' z => ⟨_, rfl, z⟩⟩
theorem et_eqI (hT : TabEq X.prog X.w X.K X.mg X.base C.ca k tb) (hr : Room (k + 1) X.A) (hx : PX X C) (ha : PE X a (tE X.K C own fa)) (hb : PE X b (tE X.K C own fb)) (hm : behindInMarks .Eq b = false := by first | exact nomark _ | rfl) : PT X (.Compare a [.Eq] [b] pos) (tT X.K C own (tB1 (eEqI tb false fa fb))) :=
  et_eqs (op_eqs hT hr hx) ha hb hm
theorem et_neI (hT : TabEq X.prog X.w X.K X.mg X.base C.ca k tb) (hr : Room (k + 1) X.A) (hx : PX X C) (ha : PE X a (tE X.K C own fa)) (hb : PE X b (tE X.K C own fb)) (hm : behindInMarks .NotEq b = false := by first | exact nomark _ | rfl) : PT X (.Compare a [.NotEq] [b] pos) (tT X.K C own (tB1 (eEqI tb true fa fb))) :=
  et_eqs (op_nes hT hr hx) ha hb hm
def rBos (K : PySem.W.Frag) (ca : CA) (tb : Tab1) (E : XK) : List V → Hp → VK → Prop := fun xs H Q => ∃ c F, tb c = some F ∧ Ru.rBoolIns (ca c) (spD K ca 1 F) E xs H Q
theorem cr_bos (hT : TabBo X.prog X.w X.K X.mg X.base C.ca k tb) (hr : Room (k + 2) X.A) (hx : PX X C) : CallR X (.type "bool") (rBos X.K C.ca tb C.E) := fun pins s σ H xs us Q I r ⟨c, F, hF, q⟩ => by
  obtain ⟨f, e, G⟩ := hT c F hF
  exact Ru.call_boolOwn e G hr hx pins s σ H xs us Q I r q
theorem ev_boI (hT : TabBo X.prog X.w X.K X.mg X.base C.ca k tb) (hr : Room (k + 2) X.A) (hx : PX X C) (hm : X.mg "bool" = none) (ha : PE X a (tE X.K C own fa)) (hg : Gl X "bool" := by rfl) (he : starEach [a] X.env = (false, eval a X.env) :: starEach [] X.env := by rfl) : PE X (.Call (.Name "bool" p) [a] [] pos) (tE X.K C own (eBoI tb fa)) :=
  pe_imp (pe_callTy (cr_bos hT hr hx) hg hm (by decide +kernel) (pa_cons ha pa_nil he) (by decide) (by decide) he rfl) fun σ H Q ⟨env, F, hR, h⟩ => ⟨env, F, hR, h.bind.imp fun x e1 F1 H1 hR1 s1 h1 v rv => by
    dsimp only at h1
    unfold boI at h1
    split at h1
    · rename_i c fs
      split at h1
      · rename_i G hG
        obtain ⟨a', dx, g1, ea, ha'⟩ := insAt (d := .non) rv hR1.q.sub
        refine ⟨c, G, hG, v, rfl, a', dx, g1, ea, ha', ?_⟩
        have h3 : Pst X.K C own (((G [.ins c fs]).bind fun r => (blD r).bind fun b => .ok (b, e1)).bind fun q => .ok (.bl q.1, q.2)) σ F1 fun d _ F' H' => ∀ v, Rep X.K C.ca F' d v → Q v H' := by
          cases e : G [.ins c fs] with
          | ok d => rw [e] at h1; cases d <;> exact h1
          | ex c fs => rw [e] at h1; exact h1
          | no => rw [e] at h1; exact h1
        have h4 : Pst X.K C own ((G [.ins c fs]).bind fun r => (blD r).bind fun b => .ok (b, e1)) σ F1 fun b e F' H' => ∀ v, Rep X.K C.ca F' (.bl b) v → Q v H' := h3.bind.imp fun b e F' H' hR' s' z => z.here hR'
        obtain ⟨F', ds, q1, q2, q3, q4⟩ := pst_call hR1 (.one rv) rfl h4
        refine ⟨F', ds, q1, q2, q3, ?_⟩
        split at q4
        · exact fun v F' H' st r => let ⟨b, eb, F3, hR3, s3, z⟩ := q4 v F' H' st r; ⟨b, eb, z _ (.bl b)⟩
        · exact q4
        · exact q4
      · exact h1.elim
    · exact h1.elim⟩
end
end Dl

namespace Dl
open PySem PySem.Spec PyProof.Rows L2

/-! ### small pieces of the texts that are printed -/
theorem nek {K : PySem.W.Frag} {C W : Addr} (h : PySem.W.kitOne K (.ref C) (.ref W) = some false) (h2 : PySem.W.kitOne K (.ref W) (.ref W) = some true) : C ≠ W := fun e => by
  rw [e, h2] at h
  cases h
section
variable {P : Program} {w : World} {K : PySem.W.Frag} {mg : Str → Option Value} {base : Heap} {ca : CA} {k n : Nat} {f : Addr} {fd : FuncData} {ps : List Str} {sp sp' : Sp} {F : List D → R D}
theorem rawD (G : FnOk P w K mg base (L2.CX P w) k f fd ps (spD K ca n F)) (hb : Binds K fd ps []) : FnR P w K mg base (L2.CX P w) k f (spD K ca n F) :=
  (G.raw hb .nil).imp fun vs H Q E h => by
    rw [List.append_nil]
    exact h
theorem FnG.weak (G : FnG P w K mg base k f fd ps sp) (h : ∀ vs H Q E, sp' vs H Q E → sp vs H Q E) : FnG P w K mg base k f fd ps sp' :=
  ⟨fun vs H Q E q => G.len vs H Q E (h _ _ _ _ q), fun hg room e b r q => G.go hg room e b r (h _ _ _ _ q)⟩
end
def spLaw (K : PySem.W.Frag) : Sp := fun vs H Q _ => ∃ (a : Addr) (ns : List Int), ns.length ≤ 63 ∧ vs = [.ref a] ∧ Only H ∧ SqL K H a (ns.map V.int) ∧ ∀ H', Q (.bl true) H'
theorem law_sp' {K : PySem.W.Frag} {ca : CA} {F : List D → R D} {H : Hp} {a : Addr} {ns : List Int} {Q : VK} {E : XK} (hT : ca.T = []) (hF : F [.fro (ns.map .int)] = .ok (.bl true)) (only : Only H) (seq : SqL K H a (ns.map V.int)) (q : ∀ H', Q (.bl true) H') :
    spD K ca 1 F [.ref a] H Q E := by
  refine ⟨H, [.fro (ns.map .int)], ⟨Same.refl _, by rw [hT]; exact (fun p hp => nomatch hp), fun p ps z => ?_⟩, .one (.fro seq (Reps.ofInts ns)), rfl, ?_⟩
  · rcases only p with e | ⟨o, xs, e⟩ <;> (rw [e] at z; cases z)
  · rw [hF]
    exact fun v F' H' _ r => by cases r; exact q H'
/-! ### the truth of a value -/
def truD : D → R Bool
  | .non => .ok false
  | .bl b => .ok b
  | .int i => .ok (i != 0)
  | .str z => if z.length ≤ sizeLine then .ok ((z.length : Int) != 0) else .no
  | .tup xs => .ok (!xs.isEmpty)
  | .lst xs => .ok (!xs.isEmpty)
  | .fro xs => .ok (!xs.isEmpty)
  | _ => .no
theorem truD_ne : ∀ x c fs, truD x ≠ .ex c fs := fun x c fs z => by
  unfold truD at z
  split at z <;> first | cases z | (split at z <;> cases z)
def tTru (f : EF) : TF := fun env => (f env).bind fun p => (truD p.1).bind fun b => .ok (b, p.2)
theorem Reps.isEmpty {K : PySem.W.Frag} {ca : CA} {F : Hp} {xs : List D} {vs : List V} (r : Reps K ca F xs vs) : (!xs.isEmpty) = !vs.isEmpty := by cases r <;> rfl
theorem tru_rep {K : PySem.W.Frag} {ca : CA} {F H : Hp} {d : D} {v : V} {b : Bool} (r : Rep K ca F d v) (sub : Same F H) (h : truD d = .ok b) : TruV K v H b := by
  cases r with
  | non => cases h; rfl
  | bl b => cases h; rfl
  | int i => cases h; rfl
  | str z =>
    unfold truD at h
    dsimp only at h
    split at h
    · rename_i hz
      cases h; exact ⟨hz, rfl⟩
    · cases h
  | tup hp rs => cases h; exact .inr (.inl ⟨_, Same.seqT sub hp, rs.isEmpty⟩)
  | lst hp rs => cases h; exact .inl ⟨_, SqL.of (sub _ _ hp), rs.isEmpty⟩
  | fro hp rs => cases h; exact .inl ⟨_, Same.seq sub hp, rs.isEmpty⟩
  | _ => cases h
theorem et_tru {X : Cx} {C : Cd} {own : List Nat} {a : Expr} {fa : EF} (h : PE X a (tE X.K C own fa)) (he : ∀ whole, isTrue a X.env whole = (do let v ← whole; standAt a.pos; holding [v] (truthy v)) := by intro _; rfl) : PT X a (tT X.K C own (tTru fa)) :=
  pt_imp (pt_truth h he) fun σ H Q ⟨env, F, hR, h⟩ => ⟨env, F, hR, h.bind.imp fun x e1 F1 H1 hR1 s1 h1 v rv => by
    obtain ⟨b, hb, h2⟩ := h1.known (truD_ne x)
    exact ⟨b, tru_rep rv hR1.q.sub hb, h2.here hR1⟩⟩
end Dl

namespace Dl
open PySem PySem.Spec PyProof.Rows L2

/-! ### running mirrors by simp -/
def SR.seq : SR → SF → SR
  | .nx e, g => g e
  | .rt d e, _ => .rt d e
  | .bk e, _ => .bk e
  | .ct e, _ => .ct e
  | .ex c fs, _ => .ex c fs
  | .no, _ => .no
section
variable {α β : Type} {env e : En} {g g1 g2 : SF} {d : D} {c : Nat} {fs : List (Str × D)} {p : Prop} [Decidable p]
@[simp] theorem bind_ok' {a : α} {f : α → R β} : (R.ok a).bind f = f a := (rfl)
@[simp] theorem bind_no' {f : α → R β} : (R.no : R α).bind f = .no := (rfl)
@[simp] theorem seq_nx : SR.seq (.nx e) g = g e := (rfl)
@[simp] theorem seq_rt : SR.seq (.rt d e) g = .rt d e := (rfl)
@[simp] theorem seq_bk : SR.seq (.bk e) g = .bk e := (rfl)
@[simp] theorem seq_ct : SR.seq (.ct e) g = .ct e := (rfl)
@[simp] theorem seq_no : SR.seq .no g = .no := (rfl)
@[simp] theorem toS_no {k : α → SR} : (R.no : R α).toS k = .no := (rfl)
@[simp] theorem nox_no : (R.no : R α).nox = .no := (rfl)
@[simp] theorem seq_ite {a b : SR} : SR.seq (if p then a else b) g = if p then SR.seq a g else SR.seq b g := by split <;> rfl
@[simp] theorem seqS_ap : seqS g1 g2 env = SR.seq (g1 env) g2 := by
  unfold seqS
  cases g1 env <;> rfl
@[simp] theorem toS_ok {a : α} {k : α → SR} : (R.ok a).toS k = k a := (rfl)
@[simp] theorem toS_ite {a b : R α} {k : α → SR} : R.toS (if p then a else b) k = if p then a.toS k else b.toS k := by split <;> rfl
@[simp] theorem bind_ite {a b : R α} {f : α → R β} : R.bind (if p then a else b) f = if p then a.bind f else b.bind f := by split <;> rfl
@[simp] theorem nox_ok {a : α} : (R.ok a).nox = .ok a := (rfl)
@[simp] theorem ifS_ap {t : TF} : ifS t g1 g2 env = (t env).toS fun p => if p.1 = true then g1 p.2 else g2 p.2 := (rfl)
@[simp] theorem asgS_ap {i : Nat} {f : EF} : asgS i f env = (f env).toS fun p => .nx (p.2.set i (some p.1)) := (rfl)
@[simp] theorem retS_ap {f : EF} : retS f env = (f env).toS fun p => .rt p.1 p.2 := (rfl)
@[simp] theorem retN_ap : retN env = .rt .non env := (rfl)
@[simp] theorem expS_ap {f : EF} : expS f env = (f env).toS fun p => .nx p.2 := (rfl)
@[simp] theorem passS_ap : passS env = .nx env := (rfl)
@[simp] theorem brkS_ap : brkS env = .bk env := (rfl)
@[simp] theorem cntS_ap : cntS env = .ct env := (rfl)
@[simp] theorem asgG_ap {b : BF} {f : EF} : asgG b f env = (f env).toS fun p => (b p.1 p.2).toS fun e => .nx e := (rfl)
@[simp] theorem bName_ap {i : Nat} : bName i d env = .ok (env.set i (some d)) := (rfl)
@[simp] theorem bNil_ap : bNil [] env = .ok env := (rfl)
@[simp] theorem bCons_ap {b : BF} {bs : BFs} {r : List D} : bCons b bs (d :: r) env = (b d env).bind fun e => bs r e := (rfl)
@[simp] theorem bSeq_tup {n : Nat} {b : BFs} {xs : List D} : bSeq n b (.tup xs) env = if xs.length = n then b xs env else .no := (rfl)
@[simp] theorem bSeq_lst {n : Nat} {b : BFs} {xs : List D} : bSeq n b (.lst xs) env = if xs.length = n then b xs env else .no := (rfl)
def oV : Option (Option D) → En → R (D × En)
  | some (some d), env => .ok (d, env)
  | _, _ => .no
@[simp] theorem oV_ap : oV (some (some d)) env = .ok (d, env) := (rfl)
@[simp] theorem eV_ap {i : Nat} : eV i env = oV env[i]? env := by
  unfold eV oV
  rcases env[i]? with _ | (_ | _) <;> rfl
@[simp] theorem eC_ap : eC d env = .ok (d, env) := (rfl)
@[simp] theorem e1_ap {h : D → R D} {f : EF} : e1 h f env = (f env).bind fun p => (h p.1).bind fun r => .ok (r, p.2) := (rfl)
@[simp] theorem e2_ap {h : D → D → R D} {f1 f2 : EF} : e2 h f1 f2 env = (f1 env).bind fun p => (f2 p.2).bind fun q => (h p.1 q.1).bind fun r => .ok (r, q.2) := (rfl)
@[simp] theorem eN_ap {h : List D → R D} {f : AF} : eN h f env = (f env).bind fun p => (h p.1).bind fun r => .ok (r, p.2) := (rfl)
@[simp] theorem aNil_ap : aNil env = .ok ([], env) := (rfl)
@[simp] theorem aCons_ap {f : EF} {fs : AF} : aCons f fs env = (f env).bind fun p => (fs p.2).bind fun q => .ok (p.1 :: q.1, q.2) := (rfl)
@[simp] theorem eIf_ap {t : TF} {f1 f2 : EF} : eIf t f1 f2 env = (t env).bind fun p => if p.1 = true then f1 p.2 else f2 p.2 := (rfl)
@[simp] theorem blD_ap {b : Bool} : blD (.bl b) = .ok b := (rfl)
@[simp] theorem tB1_ap {f : EF} : tB1 f env = (f env).bind fun p => (blD p.1).bind fun b => .ok (b, p.2) := (rfl)
@[simp] theorem tTru_ap {f : EF} : tTru f env = (f env).bind fun p => (truD p.1).bind fun b => .ok (b, p.2) := (rfl)
@[simp] theorem tNot1_ap {f : TF} : tNot1 f env = (f env).bind fun p => .ok (!p.1, p.2) := (rfl)
@[simp] theorem tAnd1_ap {f h : TF} : tAnd1 f h env = (f env).bind fun p => if p.1 = true then h p.2 else .ok (false, p.2) := (rfl)
@[simp] theorem tOr1_ap {f h : TF} : tOr1 f h env = (f env).bind fun p => if p.1 = true then .ok (true, p.2) else h p.2 := (rfl)
@[simp] theorem eAnd_ap {f h : EF} : eAnd f h env = (f env).bind fun p => (blD p.1).bind fun b => if b = true then h p.2 else .ok (.bl false, p.2) := (rfl)
@[simp] theorem eOr_ap {f h : EF} : eOr f h env = (f env).bind fun p => (blD p.1).bind fun b => if b = true then .ok (.bl true, p.2) else h p.2 := (rfl)
@[simp] theorem eNot_ap {f : EF} : eNot f env = (f env).bind fun p => (blD p.1).bind fun b => .ok (.bl (!b), p.2) := (rfl)
@[simp] theorem callF_ap {n : Nat} {F : List D → R D} {fs : AF} : callF n F fs env = (fs env).bind fun p => if p.1.length = n then (F p.1).bind fun d => .ok (d, p.2) else .no := (rfl)
def oM : Option (Option D) → (D → R (D × En)) → R (D × En)
  | some (some d), k => k d
  | _, _ => .no
@[simp] theorem oM_ap {k : D → R (D × En)} : oM (some (some d)) k = k d := (rfl)
@[simp] theorem callM_ap {i n : Nat} {F : List D → R (D × D)} {fs : AF} : callM i n F fs env = oM env[i]? fun _ => (fs env).bind fun p => oM p.2[i]? fun d0 => if p.1.length + 1 = n then (F (d0 :: p.1)).nox.bind fun r => .ok (r.1, p.2.set i (some r.2)) else .no := by
  unfold callM
  rcases env[i]? with _ | (_ | d0)
  · rfl
  · rfl
  · show (fs env).bind _ = (fs env).bind _
    refine congrArg _ (funext fun p => ?_)
    rcases p.2[i]? with _ | (_ | d1) <;> rfl
@[simp] theorem mthM_ap {i : Nat} {h : D → List D → R (D × D)} {fs : AF} : mthM i h fs env = oM env[i]? fun d => if isLst d = true then (fs env).bind fun p => oM p.2[i]? fun d0 => (h d0 p.1).nox.bind fun r => .ok (r.1, p.2.set i (some r.2)) else .no := by
  unfold mthM
  rcases env[i]? with _ | (_ | d0)
  · rfl
  · rfl
  · refine ite_congr rfl (fun _ => congrArg _ (funext fun p => ?_)) fun _ => rfl
    rcases p.2[i]? with _ | (_ | d1) <;> rfl
@[simp] theorem isLst_ap {xs : List D} : isLst (.lst xs) = true := (rfl)
@[simp] theorem appendD_ap {xs : List D} : appendD (.lst xs) [d] = if xs.length < sizeLine then .ok (.non, .lst (xs ++ [d])) else .no := (rfl)
def oI : Option (Option D) → D → (List D → Int → SR) → SR
  | some (some (.lst xs)), .int k, f => f xs k
  | _, _, _ => .no
@[simp] theorem oI_ap {xs : List D} {k : Int} {f : List D → Int → SR} : oI (some (some (.lst xs))) (.int k) f = f xs k := (rfl)
def oS : Option (Option D) → (D → SR) → SR
  | some (some d), k => k d
  | _, _ => .no
@[simp] theorem oS_ap {k : D → SR} : oS (some (some d)) k = k d := (rfl)
@[simp] theorem setS_ap {i : Nat} {fv fi : EF} : setS i fv fi env = (fv env).toS fun p => oS p.2[i]? fun _ => (fi p.2).toS fun q => oI q.2[i]? q.1 fun xs k => (setIx xs k p.1).toS fun d => .nx (q.2.set i (some d)) := by
  unfold setS
  refine congrArg _ (funext fun p => ?_)
  rcases p.2[i]? with _ | (_ | d0)
  · rfl
  · rfl
  · show (fi p.2).toS _ = (fi p.2).toS _
    refine congrArg _ (funext fun q => ?_)
    rcases q.2[i]? with _ | (_ | d1)
    · rfl
    · rfl
    · cases d1 <;> first | rfl | (rcases q.1 <;> rfl)
def oL : Option (Option D) → D → (List D → Int → R (D × En)) → R (D × En)
  | some (some (.lst xs)), .int k, f => f xs k
  | _, _, _ => .no
@[simp] theorem oL_ap {xs : List D} {k : Int} {f : List D → Int → R (D × En)} : oL (some (some (.lst xs))) (.int k) f = f xs k := (rfl)
@[simp] theorem ixO_ap {i : Nat} {fb : EF} : ixO i fb env = oM env[i]? fun _ => (fb env).bind fun p => oL p.2[i]? p.1 fun xs k => (R.ofOpt (atI xs k)).bind fun d => .ok (d, p.2) := by
  unfold ixO
  rcases env[i]? with _ | (_ | d0)
  · rfl
  · rfl
  · show (fb env).bind _ = (fb env).bind _
    refine congrArg _ (funext fun q => ?_)
    rcases q.2[i]? with _ | (_ | d1)
    · rfl
    · rfl
    · cases d1 <;> first | rfl | (rcases q.1 <;> rfl)
def oF : Option (Option D) → (Nat → List (Str × D) → SR) → SR
  | some (some (.ins c fs)), k => k c fs
  | _, _ => .no
@[simp] theorem oF_ap {k : Nat → List (Str × D) → SR} : oF (some (some (.ins c fs))) k = k c fs := (rfl)
@[simp] theorem fldS_ap {i : Nat} {cs : List Nat} {f : Str} {fa : EF} : fldS i cs f fa env = (fa env).toS fun p => oF p.2[i]? fun c fs => if cs.contains c = false ∧ fs.length < 1000 then .nx (p.2.set i (some (.ins c (putD f p.1 fs)))) else .no := by
  unfold fldS
  refine congrArg _ (funext fun p => ?_)
  rcases p.2[i]? with _ | (_ | d1)
  · rfl
  · rfl
  · cases d1 <;> rfl
@[simp] theorem eFldO_ap {i : Nat} {cs : List Nat} {f : Str} : eFldO i cs f env = oM env[i]? fun d => (attrD cs f d).bind fun v => .ok (v, env) := by
  unfold eFldO
  rcases env[i]? with _ | (_ | d0) <;> rfl
@[simp] theorem attrD_ap {cs : List Nat} {f : Str} : attrD cs f (.ins c fs) = if cs.contains c = true then .no else R.ofOpt (fs.lookup f) := (rfl)
@[simp] theorem ofOpt_some {α : Type} {a : α} : R.ofOpt (some a) = .ok a := (rfl)
@[simp] theorem makeF_ap {m n : Nat} {G : List D → R (D × D)} {as : AF} : makeF m n G as env = (as env).bind fun p => if p.1.length + 1 = n then (G (.ins m [] :: p.1)).bind fun r => (nonD r).bind fun d => .ok (d, p.2) else .no := (rfl)
@[simp] theorem nonD_ap {x : D} : nonD (.non, x) = .ok x := (rfl)
@[simp] theorem lcE_ap {vs : List Nat} {fi : AF} {b : BF} {t : TF} {f : EF} : lcE vs fi b t f env = (fi env).bind fun p => (lcF vs b t f p.1 [] (wipeE p.2 vs)).nox.bind fun q => .ok (.lst q.1, backE p.2 q.2 vs) := (rfl)
@[simp] theorem tYes1_ap : tYes1 env = .ok (true, env) := (rfl)
@[simp] theorem iVal_ap {f : EF} : iVal f env = (f env).bind fun p => (valD p.1).bind fun xs => .ok (xs, p.2) := (rfl)
@[simp] theorem iArg_ap {h : List D → R (List D)} {f : AF} : iArg h f env = (f env).bind fun p => (h p.1).bind fun xs => .ok (xs, p.2) := (rfl)
@[simp] theorem forStm_ap {f : AF} {b : BF} : forStm f b g env = (f env).toS fun p => forS b g p.1 p.2 := (rfl)
def p2 (i j : Nat) : List D → En → SR
  | [a, b], e => .nx ((e.set i (some a)).set j (some b))
  | _, _ => .no
def p3 (i j l : Nat) : List D → En → SR
  | [a, b, c], e => .nx (((e.set i (some a)).set j (some b)).set l (some c))
  | _, _ => .no
@[simp] theorem p2_ap {i j : Nat} {x y : D} : p2 i j [x, y] e = .nx ((e.set i (some x)).set j (some y)) := (rfl)
@[simp] theorem p3_ap {i j l : Nat} {x y z : D} : p3 i j l [x, y, z] e = .nx (((e.set i (some x)).set j (some y)).set l (some z)) := (rfl)
@[simp] theorem par2S_ap {i j : Nat} {as : AF} : par2S i j as env = (as env).toS fun p => p2 i j p.1 p.2 := by
  refine congrArg _ (funext fun p => ?_)
  rcases p.1 with _ | ⟨_, _ | ⟨_, _ | _⟩⟩ <;> rfl
@[simp] theorem par3S_ap {i j l : Nat} {as : AF} : par3S i j l as env = (as env).toS fun p => p3 i j l p.1 p.2 := by
  refine congrArg _ (funext fun p => ?_)
  rcases p.1 with _ | ⟨_, _ | ⟨_, _ | ⟨_, _ | _⟩⟩⟩ <;> rfl
@[simp] theorem pNone_ap : pNone env = .ok (none, env) := (rfl)
@[simp] theorem intO_ap {i : Int} : intO (.int i) = .ok (some i) := (rfl)
@[simp] theorem pSome_ap {f : EF} : pSome f env = (f env).bind fun p => (intO p.1).bind fun i => .ok (i, p.2) := (rfl)
@[simp] theorem eSl_ap {h : D → Option Int → Option Int → R D} {fa : EF} {fl fu : PF} : eSl h fa fl fu env = (fa env).bind fun p => (fl p.2).bind fun q => (fu q.2).bind fun r => (h p.1 q.1 r.1).bind fun d => .ok (d, r.2) := (rfl)
@[simp] theorem lookT_ap {f : TF} : lookT f env = (f env).nox.bind fun p => .ok (p.1, env) := (rfl)
@[simp] theorem lookE_ap {f : EF} : lookE f env = (f env).nox.bind fun p => if immD p.1 = true then .ok (p.1, env) else .no := (rfl)
@[simp] theorem hLast_ap {h : D → D → R D} {fb : EF} : hLast h fb d env = (fb env).bind fun q => (h d q.1).bind fun r => .ok (r, q.2) := (rfl)
@[simp] theorem hLink_ap {h : D → D → R D} {fb : EF} {k : HF} : hLink h fb k d env = (fb env).bind fun q => (h d q.1).bind fun r => (blD r).bind fun b => if b = true then k q.1 q.2 else .ok (.bl false, q.2) := (rfl)
@[simp] theorem kLast_ap {h : D → D → R D} {fb : EF} : kLast h fb d env = (fb env).bind fun q => (h d q.1).bind fun r => (blD r).bind fun b => .ok (b, q.2) := (rfl)
@[simp] theorem kLink_ap {h : D → D → R D} {fb : EF} {k : KF} : kLink h fb k d env = (fb env).bind fun q => (h d q.1).bind fun r => (blD r).bind fun b => if b = true then k q.1 q.2 else .ok (false, q.2) := (rfl)
@[simp] theorem eCh_ap {fa : EF} {h : HF} : eCh fa h env = (fa env).bind fun p => h p.1 p.2 := (rfl)
@[simp] theorem tCh_ap {fa : EF} {h : KF} : tCh fa h env = (fa env).bind fun p => h p.1 p.2 := (rfl)
@[simp] theorem eEqI_ap {tb : Tab1} {neg : Bool} {fa fb : EF} : eEqI tb neg fa fb env = (fa env).bind fun p => (fb p.2).bind fun q => (eqI tb p.1 q.1).bind fun r => (blD r).bind fun b => .ok (.bl (if neg then !b else b), q.2) := (rfl)
@[simp] theorem eBoI_ap {tb : Tab1} {fa : EF} : eBoI tb fa env = (fa env).bind fun p => (boI tb p.1).bind fun r => (blD r).bind fun b => .ok (.bl b, p.2) := (rfl)
@[simp] theorem callK_ap {n : Nat} {F : List D → R D} {gD : List D → List D} {fk : AF} : callK n F gD fk env = (fk env).bind fun p => if (gD p.1).length = n then (F (gD p.1)).bind fun d => .ok (d, p.2) else .no := (rfl)
/-- what a body gives -/
def SR.fin : SR → R D
  | .nx _ => .ok .non
  | .rt d _ => .ok d
  | .ex c fs => .ex c fs
  | _ => .no
def SR.finM : SR → R (D × D)
  | .nx e => lastD .non e
  | .rt d e => lastD d e
  | .ex c fs => .ex c fs
  | _ => .no
def SR.finN : SR → R D
  | .rt d _ => .ok d
  | .ex c fs => .ex c fs
  | _ => .no
@[simp] theorem fin_nx : (SR.nx e).fin = .ok .non := (rfl)
@[simp] theorem fin_rt : (SR.rt d e).fin = .ok d := (rfl)
@[simp] theorem finM_nx : (SR.nx e).finM = lastD .non e := (rfl)
@[simp] theorem finM_rt : (SR.rt d e).finM = lastD d e := (rfl)
@[simp] theorem finN_rt : (SR.rt d e).finN = .ok d := (rfl)
@[simp] theorem fin_ite {a b : SR} : SR.fin (if p then a else b) = if p then a.fin else b.fin := by split <;> rfl
@[simp] theorem finM_ite {a b : SR} : SR.finM (if p then a else b) = if p then a.finM else b.finM := by split <;> rfl
@[simp] theorem finN_ite {a b : SR} : SR.finN (if p then a else b) = if p then a.finN else b.finN := by split <;> rfl
@[simp] theorem runD_ap {n : Nat} {ds : List D} : runD n g ds = (g (startE n ds)).fin := by
  unfold runD SR.fin
  cases g (startE n ds) <;> rfl
@[simp] theorem runM_ap {n : Nat} {ds : List D} : runM n g ds = (g (startE n ds)).finM := by
  unfold runM SR.finM
  cases g (startE n ds) <;> rfl
@[simp] theorem runN_ap {n : Nat} {ds : List D} : runN n g ds = (g (startE n ds)).finN := by
  unfold runN SR.finN
  cases g (startE n ds) <;> rfl
@[simp] theorem lastD_ap {x : D} {r : En} : lastD d (some x :: r) = .ok (d, x) := (rfl)
@[simp] theorem starD_ap {m : Nat} {G : List D → R (D × D)} {ds : List D} : starD m G ds = if m ≤ ds.length ∧ (ds.drop m).length ≤ sizeLine then G (ds.take m ++ [.tup (ds.drop m)]) else .no := (rfl)
@[simp] theorem startE_ap {n : Nat} {ds : List D} : startE n ds = ds.map some ++ List.replicate (n - ds.length) none := (rfl)
/-! loops -/
def SR.lp : SR → (En → SR) → SR
  | .nx e, k => k e
  | .ct e, k => k e
  | .bk e, _ => .nx e
  | .rt d e, _ => .rt d e
  | .ex c fs, _ => .ex c fs
  | .no, _ => .no
@[simp] theorem lp_nx {k : En → SR} : (SR.nx e).lp k = k e := (rfl)
@[simp] theorem lp_ct {k : En → SR} : (SR.ct e).lp k = k e := (rfl)
@[simp] theorem lp_bk {k : En → SR} : (SR.bk e).lp k = .nx e := (rfl)
@[simp] theorem lp_rt {k : En → SR} : (SR.rt d e).lp k = .rt d e := (rfl)
@[simp] theorem lp_ite {a b : SR} {k : En → SR} : SR.lp (if p then a else b) k = if p then a.lp k else b.lp k := by split <;> rfl
theorem forS_nil {b : BF} : forS b g [] e = .nx e := rfl
theorem forS_cons {b : BF} {x : D} {xs : List D} : forS b g (x :: xs) e = (b x e).toS fun e1 => (g e1).lp (forS b g xs) := by
  rw [forS]
  refine congrArg _ (funext fun e1 => ?_)
  cases g e1 <;> rfl
theorem whS_succ {t : TF} {n : Nat} : whS t g (n + 1) e = (t e).toS fun p => if p.1 = true then (g p.2).lp (whS t g n) else .nx p.2 := by
  rw [whS]
  refine congrArg _ (funext fun p => ite_congr rfl (fun _ => ?_) fun _ => rfl)
  cases g p.2 <;> rfl
theorem lcF_nil {vs : List Nat} {b : BF} {t : TF} {f : EF} {acc : List D} : lcF vs b t f [] acc e = .ok (acc, e) := rfl
theorem lcF_cons {vs : List Nat} {b : BF} {t : TF} {f : EF} {x : D} {xs acc : List D} : lcF vs b t f (x :: xs) acc e = (b x e).bind fun e1 => (t e1).bind fun p => if p.1 = true then (f p.2).bind fun q => if acc.length < sizeLine then lcF vs b t f xs (acc ++ [q.1]) (wipeE q.2 vs) else .no else lcF vs b t f xs acc (wipeE p.2 vs) := rfl
/-! operators -/
@[simp] theorem addD_int {i j : Int} : addD (.int i) (.int j) = .ok (.int (i + j)) := (rfl)
@[simp] theorem addD_lst {xs ys : List D} : addD (.lst xs) (.lst ys) = if xs.length + ys.length ≤ sizeLine then .ok (.lst (xs ++ ys)) else .no := (rfl)
@[simp] theorem intD_int {h : Int → Int → R Int} {i j : Int} : intD h (.int i) (.int j) = (h i j).bind fun k => .ok (.int k) := (rfl)
@[simp] theorem subI_ap {i j : Int} : subI i j = .ok (i - j) := (rfl)
@[simp] theorem modI_ap {i j : Int} : modI i j = if 0 < j then .ok (i % j) else .no := (rfl)
@[simp] theorem fdivI_ap {i j : Int} : fdivI i j = if 0 < j ∧ j.toNat < 1073741824 then .ok (i / j) else .no := (rfl)
@[simp] theorem powI_ap {i j : Int} : powI i j = if 0 ≤ j ∧ j.toNat ≤ 1000000 ∧ i.natAbs < 2 ^ 64 then .ok (i ^ j.toNat) else .no := (rfl)
@[simp] theorem ltD_int {i j : Int} : ltD (.int i) (.int j) = .ok (.bl (decide (i < j))) := (rfl)
@[simp] theorem leD_int {i j : Int} : leD (.int i) (.int j) = .ok (.bl (decide (i ≤ j))) := (rfl)
@[simp] theorem gtD_int {i j : Int} : gtD (.int i) (.int j) = .ok (.bl (decide (j < i))) := (rfl)
@[simp] theorem geD_int {i j : Int} : geD (.int i) (.int j) = .ok (.bl (decide (j ≤ i))) := (rfl)
@[simp] theorem negD_int {i : Int} : negD (.int i) = .ok (.int (-i)) := (rfl)
@[simp] theorem intC_int {i : Int} : intC [.int i] = .ok (.int i) := (rfl)
@[simp] theorem intC_bl {b : Bool} : intC [.bl b] = .ok (.int (if b then 1 else 0)) := (rfl)
@[simp] theorem absD_int {i : Int} : absD [.int i] = .ok (.int (if i < 0 then -i else i)) := (rfl)
@[simp] theorem lenD_lst {xs : List D} : lenD [.lst xs] = .ok (.int xs.length) := (rfl)
@[simp] theorem lenD_tup {xs : List D} : lenD [.tup xs] = .ok (.int xs.length) := (rfl)
@[simp] theorem valD_lst {xs : List D} : valD (.lst xs) = .ok xs := (rfl)
@[simp] theorem valD_tup {xs : List D} : valD (.tup xs) = .ok xs := (rfl)
@[simp] theorem lstD_ap {xs : List D} : lstD xs = if xs.length ≤ sizeLine then .ok (.lst xs) else .no := by
  unfold lstD lenOk
  split <;> rfl
@[simp] theorem tupD_ap {xs : List D} : tupD xs = if xs.length ≤ sizeLine then .ok (.tup xs) else .no := by
  unfold tupD lenOk
  split <;> rfl
@[simp] theorem tupC_lst {xs : List D} : tupC [.lst xs] = .ok (.tup xs) := (rfl)
@[simp] theorem tupC_tup {xs : List D} : tupC [.tup xs] = .ok (.tup xs) := (rfl)
@[simp] theorem lstC_lst {xs : List D} : lstC [.lst xs] = .ok (.lst xs) := (rfl)
@[simp] theorem ixD_lst {xs : List D} {i : Int} : ixD (.lst xs) (.int i) = .ofOpt (atI xs i) := (rfl)
@[simp] theorem ixD_tup {xs : List D} {i : Int} : ixD (.tup xs) (.int i) = .ofOpt (atI xs i) := (rfl)
@[simp] theorem isD_non : isD .non .non = .ok (.bl true) := (rfl)
@[simp] theorem isD_int {i : Int} : isD (.int i) .non = .ok (.bl false) := (rfl)
@[simp] theorem isnD_bl {a b : Bool} : isnD (.bl a) (.bl b) = .ok (.bl (!decide (a = b))) := (rfl)
@[simp] theorem isD_bl {a b : Bool} : isD (.bl a) (.bl b) = .ok (.bl (decide (a = b))) := (rfl)
@[simp] theorem slP_lst {xs : List D} {lo hi : Option Int} : slP (.lst xs) lo hi = .ok (.lst (cutL xs lo hi)) := (rfl)
@[simp] theorem slP_fro {xs : List D} {lo hi : Option Int} : slP (.fro xs) lo hi = .ok (.lst (cutL xs lo hi)) := (rfl)
@[simp] theorem slP_tup {xs : List D} {lo hi : Option Int} : slP (.tup xs) lo hi = .ok (.tup (cutL xs lo hi)) := (rfl)
@[simp] theorem rng1D_ap {j : Int} : rng1D [.int j] = if (-j).toNat < 4611686018427387904 ∧ j.toNat < 4611686018427387904 then .ok (rng 0 j.toNat) else .no := (rfl)
@[simp] theorem rng2D_ap {i j : Int} : rng2D [.int i, .int j] = if ((-i).toNat < 4611686018427387904 ∧ i.toNat < 4611686018427387904) ∧ (-j).toNat < 4611686018427387904 ∧ j.toNat < 4611686018427387904 then .ok (rng i (j - i).toNat) else .no := (rfl)
@[simp] theorem typeD_ins : typeD [.ins c fs] = .ok (.cod c) := (rfl)
@[simp] theorem clsIsD_cod {a b : Nat} : clsIsD (.cod a) (.cod b) = .ok (.bl (decide (a = b))) := (rfl)
@[simp] theorem clsIsnD_cod {a b : Nat} : clsIsnD (.cod a) (.cod b) = .ok (.bl (!decide (a = b))) := (rfl)
@[simp] theorem truD_int {i : Int} : truD (.int i) = .ok (i != 0) := (rfl)
@[simp] theorem truD_bl {b : Bool} : truD (.bl b) = .ok b := (rfl)
@[simp] theorem eqD_int {i j : Int} : eqD (.int i) (.int j) = .ok (.bl (decide (i = j))) := by
  show R.ok (D.bl (i == j)) = _
  rfl
@[simp] theorem neD_int {i j : Int} : neD (.int i) (.int j) = .ok (.bl (!decide (i = j))) := by
  show R.ok (D.bl (!(i == j))) = _
  rfl
/-- a product that is not too long -/
theorem mulP_int {i j : Int} (h : i.natAbs < 2 ^ 64 ∨ j.natAbs < 2 ^ 64 ∨ i.natAbs.log2 + j.natAbs.log2 < 1000000) : mulP (.int i) (.int j) = .ok (.int (i * j)) := by
  have e : mulI i j = .ok (i * j) := by
    unfold mulI
    split
    · rfl
    · rename_i q
      rw [if_pos (by
        rcases h with h | h | h
        · exact absurd (.inl h) q
        · exact absurd (.inr h) q
        · exact h)]
  unfold mulP orD
  rw [intD_int, e]
  rfl
theorem log2_lt_of {n k : Nat} (h : n < 2 ^ k) (hk : 0 < k) : n.log2 < k := by
  by_cases h0 : n = 0
  · subst h0; simpa using hk
  · exact (Nat.log2_lt h0).2 h
theorem mulP_bits {i j : Int} (h1 : i.natAbs < 2 ^ 499999) (h2 : j.natAbs < 2 ^ 499999) : mulP (.int i) (.int j) = .ok (.int (i * j)) := by
  refine mulP_int (.inr (.inr ?_))
  have a := log2_lt_of h1 (by decide)
  have b := log2_lt_of h2 (by decide)
  omega
@[simp] theorem mulP_lit {i j : Int} (h : i.natAbs < 2 ^ 64) : mulP (.int i) (.int j) = .ok (.int (i * j)) := mulP_int (.inl h)
@[simp] theorem max2D_int {i j : Int} : max2D [.int i, .int j] = .ok (.int (if j > i then j else i)) := (rfl)
@[simp] theorem min2D_int {i j : Int} : min2D [.int i, .int j] = .ok (.int (if j < i then j else i)) := (rfl)
theorem mulP_s {i j : Int} (h : i.natAbs < 18446744073709551616) : mulP (.int i) (.int j) = .ok (.int (i * j)) := mulP_int (.inl h)
theorem shpD_int {i : Int} : shpD (.int i) = some (.int i) := rfl
theorem pyDs_ints : ∀ (ns : List Int), pyDs (ns.map D.int) = some (ns.map PyData.int)
  | [] => rfl
  | n :: ns => by
    show (match pyD (.int n), pyDs (ns.map D.int) with
      | some d, some ds => some (d :: ds)
      | _, _ => none) = _
    rw [pyDs_ints ns]
    rfl
theorem canAll_ints : ∀ (ns : List Int), PyData.canLayAll0 (ns.map PyData.int) = true
  | [] => rfl
  | n :: ns => by
    show (PyData.canLay0 (.int n) && PyData.canLayAll0 (ns.map PyData.int)) = true
    rw [canAll_ints ns]
    rfl
theorem depthAll_ints : ∀ (ns : List Int), PyData.depthAll (ns.map PyData.int) = 0
  | [] => rfl
  | n :: ns => by
    show max (PyData.depth (.int n)) (PyData.depthAll (ns.map PyData.int)) = 0
    rw [depthAll_ints ns]
    rfl
theorem eqvAll_ints : ∀ (ns ms : List Int), PyData.eqvAll (ns.map PyData.int) (ms.map PyData.int) = decide (ns = ms)
  | [], [] => rfl
  | [], _ :: _ => rfl
  | _ :: _, [] => rfl
  | n :: ns, m :: ms => by
    show ((n == m) && PyData.eqvAll (ns.map PyData.int) (ms.map PyData.int)) = _
    rw [eqvAll_ints ns ms]
    by_cases h : n = m <;> by_cases h' : ns = ms <;> simp [h, h']
theorem shpD_lst {ns : List Int} : shpD (.lst (ns.map D.int)) = some (.list (ns.map PyData.int)) := by
  have e : pyD (.lst (ns.map D.int)) = some (.list (ns.map PyData.int)) := by
    show (pyDs (ns.map D.int)).map PyData.list = _
    rw [pyDs_ints]
    rfl
  have s : SeqAt.shaped (.list (ns.map PyData.int)) = true := by
    show (PyData.canLayAll0 (ns.map PyData.int) && decide (PyData.depthAll (ns.map PyData.int) + 1 ≤ 64)) = true
    rw [canAll_ints, depthAll_ints]
    rfl
  unfold shpD
  rw [e]
  exact if_pos s
theorem shpD_tup {ns : List Int} : shpD (.tup (ns.map D.int)) = some (.tuple (ns.map PyData.int)) := by
  have e : pyD (.tup (ns.map D.int)) = some (.tuple (ns.map PyData.int)) := by
    show (pyDs (ns.map D.int)).map PyData.tuple = _
    rw [pyDs_ints]
    rfl
  have s : SeqAt.shaped (.tuple (ns.map PyData.int)) = true := by
    show (PyData.canLayAll0 (ns.map PyData.int) && decide (PyData.depthAll (ns.map PyData.int) + 1 ≤ 64)) = true
    rw [canAll_ints, depthAll_ints]
    rfl
  unfold shpD
  rw [e]
  exact if_pos s
theorem neD_ints {ns ms : List Int} : neD (.lst (ns.map D.int)) (.lst (ms.map D.int)) = .ok (.bl (!decide (ns = ms))) := by
  show neDp _ _ = _
  unfold neDp
  rw [shpD_lst, shpD_lst]
  show R.ok (D.bl (!PyData.eqvAll _ _)) = _
  rw [eqvAll_ints]
theorem eqD_ints {ns ms : List Int} : eqD (.lst (ns.map D.int)) (.lst (ms.map D.int)) = .ok (.bl (decide (ns = ms))) := by
  show eqDp _ _ = _
  unfold eqDp
  rw [shpD_lst, shpD_lst]
  show R.ok (D.bl (PyData.eqvAll _ _)) = _
  rw [eqvAll_ints]
theorem neD_intsT {ns ms : List Int} : neD (.tup (ns.map D.int)) (.tup (ms.map D.int)) = .ok (.bl (!decide (ns = ms))) := by
  show neDp _ _ = _
  unfold neDp
  rw [shpD_tup, shpD_tup]
  show R.ok (D.bl (!PyData.eqvAll _ _)) = _
  rw [eqvAll_ints]
@[simp] theorem neD_nil {ns : List Int} : neD (.lst (ns.map D.int)) (.lst []) = .ok (.bl (!decide (ns = []))) := neD_ints (ms := [])
@[simp] theorem neD_nil0 : neD (.lst []) (.lst []) = .ok (.bl false) := neD_ints (ns := []) (ms := [])
@[simp] theorem eqD_str {a b : Str} : eqD (.str a) (.str b) = .ok (.bl (a == b)) := (rfl)
@[simp] theorem neD_str {a b : Str} : neD (.str a) (.str b) = .ok (.bl (!(a == b))) := (rfl)
@[simp] theorem neD_bl {a b : Bool} : neD (.bl a) (.bl b) = .ok (.bl (!(a == b))) := (rfl)
@[simp] theorem eqD_bl {a b : Bool} : eqD (.bl a) (.bl b) = .ok (.bl (a == b)) := (rfl)
theorem atI_nat {α : Type} {xs : List α} {k : Nat} {i : Int} (h : i = k) : atI xs i = xs[k]? := by
  subst h
  unfold atI ixN
  rw [if_pos (Int.natCast_nonneg _)]
  by_cases hk : k < xs.length
  · rw [if_pos (by exact_mod_cast hk)]; rfl
  · rw [if_neg (by exact_mod_cast hk)]
    rw [List.getElem?_eq_none (by omega)]; rfl
@[simp] theorem atI_0 {α : Type} {x : α} {xs : List α} : atI (x :: xs) 0 = some x := atI_nat (k := 0) rfl
@[simp] theorem atI_1 {α : Type} {x y : α} {xs : List α} : atI (x :: y :: xs) 1 = some y := atI_nat (k := 1) rfl
@[simp] theorem atI_2 {α : Type} {x y z : α} {xs : List α} : atI (x :: y :: z :: xs) 2 = some z := atI_nat (k := 2) rfl
theorem setIx_nat {xs : List D} {k : Nat} {v : D} {i : Int} (h : i = k) (hk : k < xs.length) : setIx xs i v = .ok (.lst (xs.set k v)) := by
  subst h
  unfold setIx ixN
  rw [if_pos (Int.natCast_nonneg _), if_pos (by exact_mod_cast hk)]
  rfl
theorem line_lt {n : Nat} (h : n < 16777216) : n < sizeLine := by rw [sizeLine_eq]; exact h
theorem line_le {n : Nat} (h : n ≤ 16777216) : n ≤ sizeLine := by rw [sizeLine_eq]; exact h
end
end Dl

namespace Q
open PySem PySem.Spec PyProof.Rows L2 Dl
def m_Paper__bool__ : SF := (retS (eC (.bl true)))
def F_Paper__bool__ : List D → R D := runD 1 m_Paper__bool__
def m_Paper__eq__ : SF := (retS (eAnd (e2 clsIsD (eN typeD (aCons (eV 0) aNil)) (eN typeD (aCons (eV 1) aNil))) (eAnd (e2 eqD (e1 (attrD [] "word") (eV 0)) (e1 (attrD [] "word") (eV 1))) (e2 eqD (e1 (attrD [] "parts") (eV 0)) (e1 (attrD [] "parts") (eV 1))))))
def F_Paper__eq__ : List D → R D := runD 2 m_Paper__eq__
def m_Denial__bool__ : SF := (retS (eC (.bl false)))
def F_Denial__bool__ : List D → R D := runD 1 m_Denial__bool__
def m_Denial__eq__ : SF := (retS (eAnd (e2 clsIsD (eN typeD (aCons (eV 0) aNil)) (eN typeD (aCons (eV 1) aNil))) (eAnd (e2 eqD (e1 (attrD [] "word") (eV 0)) (e1 (attrD [] "word") (eV 1))) (e2 eqD (e1 (attrD [] "parts") (eV 0)) (e1 (attrD [] "parts") (eV 1))))))
def F_Denial__eq__ : List D → R D := runD 2 m_Denial__eq__
def eqT : Tab1 := fun c => match c with
  | 32 => some F_Denial__eq__
  | 85 => some F_Paper__eq__
  | 21 => some F_Denial__eq__
  | 24 => some F_Paper__eq__
  | 108 => some F_Denial__eq__
  | _ => none
def boT : Tab1 := fun c => match c with
  | 32 => some F_Denial__bool__
  | 85 => some F_Paper__bool__
  | 21 => some F_Denial__bool__
  | 24 => some F_Paper__bool__
  | 108 => some F_Denial__bool__
  | _ => none
def subN : Nat → Nat → Option Bool
  | 32, 32 => some true
  | 32, 85 => some true
  | 32, 21 => some false
  | 32, 24 => some false
  | 32, 108 => some false
  | 85, 32 => some false
  | 85, 85 => some true
  | 85, 21 => some false
  | 85, 24 => some false
  | 85, 108 => some false
  | 21, 32 => some true
  | 21, 85 => some true
  | 21, 21 => some true
  | 21, 24 => some false
  | 21, 108 => some false
  | 24, 32 => some false
  | 24, 85 => some true
  | 24, 21 => some false
  | 24, 24 => some true
  | 24, 108 => some false
  | 108, 32 => some true
  | 108, 85 => some true
  | 108, 21 => some false
  | 108, 24 => some false
  | 108, 108 => some true
  | _, _ => none
def subT : Str → Nat → Option Bool := fun _ _ => none
def subG : D → D → Option Bool
  | .ty a, .ty c => kitB a c
  | .cod a, .cod c => subN a c
  | .ty a, .cod c => subT a c
  | _, _ => none
def m__law_hat : SF := (retS (eN lstD (aCons (lcE [1] (iVal (eSl slP (eV 0) pNone (pSome (eC (.int (60)))))) (bName 1) tYes1 (eN intC (aCons (eV 1) aNil))) (aCons (eC (.int (0))) (aCons (eC (.int (0))) aNil)))))
def F__law_hat : List D → R D := runN 2 m__law_hat
def m__law_lot : SF := (seqS (ifS (tB1 (e2 gtP (ixO 0 (eC (.int (2)))) (eC (.int (0))))) (seqS (asgS 2 (e2 (intD modI) (eN intC (aCons (ixO 0 (eC (.int (2)))) aNil)) (eV 1))) (seqS (setS 0 (e2 (intD fdivI) (eN intC (aCons (ixO 0 (eC (.int (2)))) aNil)) (eV 1)) (eC (.int (2)))) (retS (eV 2)))) passS) (seqS (asgS 3 (ixO 0 (eC (.int (1))))) (seqS (setS 0 (e2 addP (eV 3) (eC (.int (1)))) (eC (.int (1)))) (seqS (asgS 4 (e2 addP (e2 mulP (eC (.int (72019))) (eV 3)) (eC (.int (9829))))) (seqS (ifS (tB1 (e2 neD (ixO 0 (eC (.int (0)))) (eN lstD aNil))) (asgS 4 (e2 ixD (ixO 0 (eC (.int (0)))) (e2 (intD modI) (eN intC (aCons (eV 3) aNil)) (eN lenP (aCons (ixO 0 (eC (.int (0)))) aNil))))) passS) (seqS (ifS (tAnd1 (tB1 (e2 ltP (eV 3) (eN lenP (aCons (ixO 0 (eC (.int (0)))) aNil)))) (tB1 (e2 geP (eN absD (aCons (eV 4) aNil)) (e2 (intD powI) (eC (.int (10))) (eC (.int (18))))))) (seqS (asgS 5 (e2 addP (e2 mulP (eC (.int (2))) (e2 (intD subI) (eN absD (aCons (eV 4) aNil)) (e2 (intD powI) (eC (.int (10))) (eC (.int (18)))))) (eN intC (aCons (e2 ltP (eV 4) (eC (.int (0)))) aNil)))) (seqS (setS 0 (e2 (intD fdivI) (eN intC (aCons (eV 5) aNil)) (eV 1)) (eC (.int (2)))) (retS (e2 (intD modI) (eN intC (aCons (eV 5) aNil)) (eV 1))))) passS) (seqS (asgS 6 (e2 (intD modI) (eN intC (aCons (e2 (intD powI) (e2 addP (e2 addP (e2 (intD modI) (eN intC (aCons (eV 4) aNil)) (eC (.int (2147483563)))) (e2 mulP (eC (.int (79031))) (eV 3))) (eC (.int (9829)))) (eC (.int (5)))) aNil)) (eC (.int (2147483587))))) (seqS (asgS 6 (e2 (intD modI) (eN intC (aCons (e2 (intD powI) (e2 addP (e2 addP (e2 mulP (eV 6) (e2 addP (e2 mulP (eC (.int (2))) (eV 3)) (eC (.int (1997))))) (e2 mulP (e2 mulP (eC (.int (72019))) (eV 3)) (eV 3))) (eC (.int (79063)))) (eC (.int (3)))) aNil)) (eC (.int (2147483497))))) (retS (e2 (intD modI) (eN intC (aCons (e2 (intD fdivI) (eV 6) (eC (.int (64)))) aNil)) (eV 1)))))))))))
def F__law_lot : List D → R (D × D) := runM 7 m__law_lot
def m__law_one : SF := (retS (e2 ixD (eV 1) (callM 0 2 F__law_lot (aCons (eN lenP (aCons (eV 1) aNil)) aNil))))
def F__law_one : List D → R (D × D) := runM 2 m__law_one
def m__law_begun : SF := (seqS (asgG (bSeq 4 (bCons (bName 1) (bCons (bName 2) (bCons (bName 3) (bCons (bName 4) bNil))))) (eN tupD (aCons (callM 0 2 F__law_lot (aCons (eC (.int (7))) aNil)) (aCons (e2 addP (eC (.int (1))) (callM 0 2 F__law_lot (aCons (eC (.int (20))) aNil))) (aCons (e2 addP (eC (.int (1))) (callM 0 2 F__law_lot (aCons (eC (.int (12))) aNil))) (aCons (e2 addP (eC (.int (1))) (callM 0 2 F__law_lot (aCons (eC (.int (4))) aNil))) aNil)))))) (seqS (ifS (tB1 (e2 eqD (eV 1) (eC (.int (0))))) (retS (eN tupD (aCons (eV 2) (aCons (e2 addP (eV 2) (eV 3)) (aCons (eC (.int (1))) aNil))))) passS) (seqS (ifS (tB1 (e2 eqD (eV 1) (eC (.int (1))))) (retS (eN tupD (aCons (eV 2) (aCons (eIf (tB1 (e2 ltP (e2 mulP (eV 2) (e2 addP (eC (.int (1))) (eV 4))) (eC (.int (100))))) (e2 mulP (eV 2) (e2 addP (eC (.int (1))) (eV 4))) (e2 addP (eV 2) (eC (.int (1))))) (aCons (eC (.int (0))) aNil))))) passS) (seqS (ifS (tB1 (e2 eqD (eV 1) (eC (.int (2))))) (seqS (asgS 5 (e2 addP (eC (.int (1))) (e2 (intD modI) (eN intC (aCons (eV 3) aNil)) (eC (.int (4)))))) (retS (eN tupD (aCons (e2 mulP (e2 mulP (eV 4) (eV 5)) (eV 5)) (aCons (e2 mulP (e2 mulP (eV 4) (eV 5)) (e2 addP (eV 5) (eC (.int (1))))) (aCons (eC (.int (0))) aNil)))))) passS) (seqS (ifS (tB1 (e2 eqD (eV 1) (eC (.int (3))))) (seqS (asgG (bSeq 2 (bCons (bName 2) (bCons (bName 6) bNil))) (callM 0 2 F__law_one (aCons (eN lstD (aCons (eN tupD (aCons (eC (.int (1))) (aCons (eC (.int (5))) aNil))) (aCons (eN tupD (aCons (eC (.int (7))) (aCons (eC (.int (13))) aNil))) (aCons (eN tupD (aCons (eC (.int (17))) (aCons (eC (.int (25))) aNil))) (aCons (eN tupD (aCons (eC (.int (7))) (aCons (eC (.int (17))) aNil))) (aCons (eN tupD (aCons (eC (.int (5))) (aCons (eC (.int (1))) aNil))) (aCons (eN tupD (aCons (eC (.int (13))) (aCons (eC (.int (7))) aNil))) aNil))))))) aNil))) (seqS (asgS 7 (eIf (tB1 (e2 ltP (e2 mulP (eN max2D (aCons (eV 2) (aCons (eV 6) aNil))) (eV 4)) (eC (.int (100))))) (eV 4) (eC (.int (1))))) (retS (eN tupD (aCons (e2 mulP (eV 2) (eV 7)) (aCons (e2 mulP (eV 6) (eV 7)) (aCons (eC (.int (2))) aNil))))))) passS) (seqS (ifS (tB1 (e2 eqD (eV 1) (eC (.int (4))))) (seqS (asgS 8 (callM 0 2 F__law_one (aCons (eN lstD (aCons (eC (.int (60))) (aCons (eC (.int (72))) (aCons (eC (.int (84))) (aCons (eC (.int (90))) (aCons (eC (.int (96))) (aCons (eC (.int (48))) aNil))))))) aNil))) (retS (eN tupD (aCons (e2 (intD fdivI) (eV 8) (e2 addP (eC (.int (2))) (eV 4))) (aCons (e2 (intD fdivI) (eV 8) (e2 addP (eC (.int (1))) (eV 4))) (aCons (e1 negD (eC (.int (1)))) aNil)))))) passS) (seqS (ifS (tB1 (e2 eqD (eV 1) (eC (.int (5))))) (retS (eN tupD (aCons (eV 2) (aCons (eV 2) (aCons (e2 (intD subI) (callM 0 2 F__law_lot (aCons (eC (.int (161))) aNil)) (eC (.int (80)))) aNil))))) passS) (retS (eN tupD (aCons (e2 addP (eC (.int (1))) (callM 0 2 F__law_lot (aCons (eC (.int (99))) aNil))) (aCons (e2 addP (eC (.int (1))) (callM 0 2 F__law_lot (aCons (eC (.int (99))) aNil))) (aCons (callM 0 2 F__law_one (aCons (eN lstD (aCons (e2 (intD subI) (callM 0 2 F__law_lot (aCons (eC (.int (9))) aNil)) (eC (.int (4)))) (aCons (e2 (intD subI) (callM 0 2 F__law_lot (aCons (eC (.int (161))) aNil)) (eC (.int (80)))) aNil))) aNil)) aNil))))))))))))
def F__law_begun : List D → R (D × D) := runM 9 m__law_begun
def m_is_integer : SF := (retS (eAnd (eN (isiD subG) (aCons (eV 0) (aCons (eC (.ty "int")) aNil))) (eNot (eN (isiD subG) (aCons (eV 0) (aCons (eC (.ty "bool")) aNil))))))
def F_is_integer : List D → R D := runD 1 m_is_integer
def m_is_within : SF := (seqS (ifS (tNot1 (tB1 (callF 1 F_is_integer (aCons (eV 0) aNil)))) (retS (eC (.bl false))) passS) (retS (eAnd (eOr (e2 isD (eV 1) (eC .non)) (e2 geP (eV 0) (eV 1))) (eOr (e2 isD (eV 2) (eC .non)) (e2 leP (eV 0) (eV 2))))))
def F_is_within : List D → R D := runD 3 m_is_within
def m_need_within : SF := (ifS (tNot1 (tB1 (callF 3 F_is_within (aCons (eV 1) (aCons (eV 2) (aCons (eV 3) aNil)))))) neverS passS)
def F_need_within : List D → R D := runD 4 m_need_within
def m_need_numbers : SF := (forStm (iVal (eV 0)) (bSeq 2 (bCons (bName 2) (bCons (bName 3) bNil))) (expS (callF 4 F_need_within (aCons (eV 2) (aCons (eV 3) (aCons (eC (.int (1))) (aCons (eV 1) aNil)))))))
def F_need_numbers : List D → R D := runD 4 m_need_numbers
def m_need_power : SF := (expS (callF 4 F_need_within (aCons (eC (.str "power")) (aCons (eV 0) (aCons (eC (.int (-80))) (aCons (eC (.int (80))) aNil))))))
def F_need_power : List D → R D := runD 1 m_need_power
def m_raised : SF := (seqS (asgS 2 (eC (.int (1)))) (seqS (whS (tB1 (e2 gtP (eV 1) (eC (.int (0))))) (seqS (ifS (tTru (e2 (intD andI) (eV 1) (eC (.int (1))))) (asgS 2 (e2 mulP (eV 2) (eV 0))) passS) (seqS (asgS 0 (e2 mulP (eV 0) (eV 0))) (asgS 1 (e2 (intD shrI) (eV 1) (eC (.int (1))))))) 1000) (retS (eV 2))))
def F_raised : List D → R D := runD 3 m_raised
def m_fourth_quotient : SF := (seqS (ifS (tB1 (e2 eqD (eV 3) (eC (.int (0))))) (retS (eN tupD (aCons (eC (.int (1))) (aCons (e2 mulP (eV 1) (eV 2)) (aCons (eV 0) aNil))))) passS) (seqS (ifS (tB1 (e2 gtP (eV 3) (eC (.int (0))))) (par3S 4 5 6 (aCons (eV 3) (aCons (e2 (intD subI) (e2 addP (callF 2 F_raised (aCons (eV 1) (aCons (eV 3) aNil))) (callF 2 F_raised (aCons (eV 2) (aCons (eV 3) aNil)))) (callF 2 F_raised (aCons (eV 0) (aCons (eV 3) aNil)))) (aCons (eC (.int (1))) aNil)))) (seqS (par2S 4 5 (aCons (e1 negD (eV 3)) (aCons (callF 2 F_raised (aCons (e2 mulP (e2 mulP (eV 0) (eV 1)) (eV 2)) (aCons (e1 negD (eV 3)) aNil))) aNil))) (asgS 6 (e2 (intD subI) (e2 addP (callF 2 F_raised (aCons (e2 mulP (eV 0) (eV 2)) (aCons (eV 4) aNil))) (callF 2 F_raised (aCons (e2 mulP (eV 0) (eV 1)) (aCons (eV 4) aNil)))) (callF 2 F_raised (aCons (e2 mulP (eV 1) (eV 2)) (aCons (eV 4) aNil))))))) (retS (eIf (tAnd1 (tB1 (e2 gtP (eV 5) (eC (.int (0))))) (tB1 (e2 gtP (eV 6) (eC (.int (0)))))) (eN tupD (aCons (eV 4) (aCons (eV 5) (aCons (eV 6) aNil)))) (eC .non)))))
def F_fourth_quotient : List D → R D := runD 7 m_fourth_quotient
def m_side_of : SF := (seqS (asgG (bSeq 3 (bCons (bName 2) (bCons (bName 3) (bCons (bName 4) bNil)))) (eV 1)) (retS (e2 (intD subI) (e2 mulP (callF 2 F_raised (aCons (eV 0) (aCons (eV 2) aNil))) (eV 4)) (eV 3))))
def F_side_of : List D → R D := runD 5 m_side_of
def m_whole_below : SF := (seqS (asgS 1 (eC (.int (1)))) (seqS (whS (tB1 (e2 leP (callF 2 F_side_of (aCons (eV 1) (aCons (eV 0) aNil))) (eC (.int (0))))) (asgS 1 (e2 mulP (eV 1) (eC (.int (2))))) 1000) (seqS (asgS 2 (e2 (intD fdivI) (eV 1) (eC (.int (2))))) (seqS (whS (tB1 (e2 gtP (e2 (intD subI) (eV 1) (eV 2)) (eC (.int (1))))) (seqS (asgS 3 (e2 (intD fdivI) (e2 addP (eV 2) (eV 1)) (eC (.int (2))))) (ifS (tB1 (e2 leP (callF 2 F_side_of (aCons (eV 3) (aCons (eV 0) aNil))) (eC (.int (0))))) (asgS 2 (eV 3)) (asgS 1 (eV 3)))) 1000) (retS (eV 2))))))
def F_whole_below : List D → R D := runD 4 m_whole_below
def m_whole_fourth : SF := (seqS (asgS 4 (callF 4 F_fourth_quotient (aCons (eV 0) (aCons (eV 1) (aCons (eV 2) (aCons (eV 3) aNil)))))) (seqS (ifS (tB1 (e2 isD (eV 4) (eC .non))) (retS (eC .non)) passS) (seqS (asgS 5 (callF 1 F_whole_below (aCons (eV 4) aNil))) (retS (eIf (tB1 (e2 eqD (callF 2 F_side_of (aCons (eV 5) (aCons (eV 4) aNil))) (eC (.int (0))))) (eV 5) (eC .non))))))
def F_whole_fourth : List D → R D := runD 6 m_whole_fourth
def m_numbers_by : SF := (seqS (expS (callF 2 F_need_numbers (aCons (eN lstD (aCons (eN tupD (aCons (eC (.str "first")) (aCons (eV 0) aNil))) (aCons (eN tupD (aCons (eC (.str "second")) (aCons (eV 1) aNil))) aNil))) (aCons (eC (.int (99))) aNil)))) (seqS (expS (callF 4 F_need_within (aCons (eC (.str "many")) (aCons (eV 2) (aCons (eC (.int (2))) (aCons (eC (.int (12))) aNil)))))) (seqS (expS (callF 1 F_need_power (aCons (eV 3) aNil))) (seqS (asgS 4 (eN lstD (aCons (eV 0) (aCons (eV 1) aNil)))) (seqS (whS (lookT (tB1 (e2 ltP (eN lenP (aCons (eV 4) aNil)) (eV 2)))) (seqS (asgS 5 (callF 4 F_whole_fourth (aCons (ixO 4 (e1 negD (eC (.int (2))))) (aCons (ixO 4 (e1 negD (eC (.int (1))))) (aCons (ixO 4 (e1 negD (eC (.int (1))))) (aCons (eV 3) aNil)))))) (seqS (ifS (tB1 (e2 isD (eV 5) (eC .non))) brkS passS) (expS (mthM 4 appendD (aCons (eV 5) aNil))))) 1000) (retS (eN tupC (aCons (eV 4) aNil))))))))
def F_numbers_by : List D → R D := runD 6 m_numbers_by
def m__law_raised : SF := (seqS (asgS 2 (eC (.int (1)))) (seqS (forStm (iArg rng1D (aCons (eV 1) aNil)) (bName 3) (asgS 2 (e2 mulP (eV 2) (eV 0)))) (retS (eV 2))))
def F__law_raised : List D → R D := runD 4 m__law_raised
def m__law_wanted : SF := (seqS (ifS (tB1 (e2 eqD (eV 3) (eC (.int (0))))) (retS (eN tupD (aCons (e2 mulP (eV 1) (eV 2)) (aCons (eV 0) (aCons (eC (.int (1))) aNil))))) passS) (seqS (asgS 4 (eN absD (aCons (eV 3) aNil))) (seqS (ifS (tB1 (e2 gtP (eV 3) (eC (.int (0))))) (retS (eN tupD (aCons (e2 (intD subI) (e2 addP (callF 2 F__law_raised (aCons (eV 1) (aCons (eV 4) aNil))) (callF 2 F__law_raised (aCons (eV 2) (aCons (eV 4) aNil)))) (callF 2 F__law_raised (aCons (eV 0) (aCons (eV 4) aNil)))) (aCons (eC (.int (1))) (aCons (eV 4) aNil))))) passS) (retS (eN tupD (aCons (callF 2 F__law_raised (aCons (e2 mulP (e2 mulP (eV 0) (eV 1)) (eV 2)) (aCons (eV 4) aNil))) (aCons (e2 (intD subI) (e2 addP (callF 2 F__law_raised (aCons (e2 mulP (eV 0) (eV 2)) (aCons (eV 4) aNil))) (callF 2 F__law_raised (aCons (e2 mulP (eV 0) (eV 1)) (aCons (eV 4) aNil)))) (callF 2 F__law_raised (aCons (e2 mulP (eV 1) (eV 2)) (aCons (eV 4) aNil)))) (aCons (eV 4) aNil))))))))
def F__law_wanted : List D → R D := runD 5 m__law_wanted
def m__law_behind : SF := (seqS (asgG (bSeq 3 (bCons (bName 3) (bCons (bName 4) (bCons (bName 5) bNil)))) (callF 4 F__law_wanted (aCons (eV 0) (aCons (eV 1) (aCons (eV 1) (aCons (eV 2) aNil)))))) (seqS (par2S 6 7 (aCons (eC (.int (0))) (aCons (e2 addP (e2 addP (e2 mulP (e2 mulP (eV 0) (eV 1)) (eV 1)) (e2 mulP (eC (.int (2))) (eV 1))) (eC (.int (2)))) aNil))) (seqS (ifS (tOr1 (tB1 (e2 leP (eV 3) (eC (.int (0))))) (tB1 (e2 leP (eV 4) (eC (.int (0)))))) (retS (eC .non)) passS) (seqS (forStm (iArg rng1D (aCons (eC (.int (200))) aNil)) (bName 8) (seqS (ifS (tB1 (e2 ltP (e2 (intD subI) (eV 7) (eV 6)) (eC (.int (2))))) brkS passS) (seqS (asgS 9 (e2 (intD fdivI) (e2 addP (eV 6) (eV 7)) (eC (.int (2))))) (asgG (bSeq 2 (bCons (bName 6) (bCons (bName 7) bNil))) (eIf (tB1 (e2 leP (e2 mulP (eV 4) (callF 2 F__law_raised (aCons (eV 9) (aCons (eV 5) aNil)))) (eV 3))) (eN tupD (aCons (eV 9) (aCons (eV 7) aNil))) (eN tupD (aCons (eV 6) (aCons (eV 9) aNil)))))))) (retS (eIf (tAnd1 (tB1 (e2 gtP (eV 6) (eC (.int (0))))) (tB1 (e2 eqD (e2 mulP (eV 4) (callF 2 F__law_raised (aCons (eV 6) (aCons (eV 5) aNil)))) (eV 3)))) (eV 6) (eC .non)))))))
def F__law_behind : List D → R D := runD 10 m__law_behind
def m__law_gone_on : SF := (seqS (asgS 4 (eN lstD (aCons (eV 0) (aCons (eV 1) aNil)))) (seqS (forStm (iArg rng1D (aCons (e2 (intD subI) (eV 2) (eC (.int (2)))) aNil)) (bName 5) (seqS (asgS 6 (callF 3 F__law_behind (aCons (ixO 4 (e1 negD (eC (.int (2))))) (aCons (ixO 4 (e1 negD (eC (.int (1))))) (aCons (eV 3) aNil))))) (seqS (ifS (tB1 (e2 isD (eV 6) (eC .non))) brkS passS) (expS (mthM 4 appendD (aCons (eV 6) aNil)))))) (retS (eV 4))))
def F__law_gone_on : List D → R D := runD 7 m__law_gone_on
def m__law_row : SF := (seqS (asgG (bSeq 3 (bCons (bName 1) (bCons (bName 2) (bCons (bName 3) bNil)))) (callM 0 1 F__law_begun aNil)) (seqS (asgS 4 (lcE [6] (iVal (callF 4 F__law_gone_on (aCons (eV 1) (aCons (eV 2) (aCons (e2 addP (eC (.int (3))) (callM 0 2 F__law_lot (aCons (eC (.int (10))) aNil))) (aCons (eV 3) aNil)))))) (bName 6) (tB1 (e2 ltP (eV 6) (eC (.int (100))))) (eV 6))) (seqS (asgS 4 (eN sortSetD (aCons (e2 addP (eV 4) (lcE [7] (iArg rng1D (aCons (callM 0 2 F__law_one (aCons (eN lstD (aCons (eC (.int (0))) (aCons (eC (.int (0))) (aCons (eC (.int (1))) (aCons (eC (.int (2))) (aCons (eC (.int (6))) aNil)))))) aNil)) aNil)) (bName 7) tYes1 (e2 addP (eC (.int (1))) (callM 0 2 F__law_lot (aCons (eC (.int (99))) aNil))))) aNil))) (seqS (ifS (tB1 (e2 eqD (callM 0 2 F__law_lot (aCons (eC (.int (3))) aNil)) (eC (.int (0))))) (seqS (asgS 5 (callM 0 2 F__law_lot (aCons (eN lenP (aCons (eV 4) aNil)) aNil))) (asgS 4 (eN sortSetD (aCons (e2 addP (e2 addP (eSl slP (eV 4) pNone (pSome (eV 5))) (eN lstD (aCons (e2 (intD subI) (e2 addP (e2 ixD (eV 4) (eV 5)) (eC (.int (1)))) (e2 mulP (eC (.int (2))) (callM 0 2 F__law_lot (aCons (eC (.int (2))) aNil)))) aNil))) (eSl slP (eV 4) (pSome (e2 addP (eV 5) (eC (.int (1))))) pNone)) aNil)))) passS) (seqS (asgS 4 (eSl slP (lcE [6] (iVal (eV 4)) (bName 6) (tCh (eC (.int (0))) (kLink ltP (eV 6) (kLast ltP (eC (.int (100)))))) (eV 6)) pNone (pSome (eC (.int (12)))))) (retS (eIf (tB1 (e2 gtP (eN lenP (aCons (eV 4) aNil)) (eC (.int (2))))) (eV 4) (eN lstD (aCons (e2 addP (eC (.int (1))) (e2 (intD modI) (eN intC (aCons (eV 3) aNil)) (eC (.int (5))))) (aCons (eC (.int (7))) (aCons (e2 addP (eC (.int (9))) (e2 (intD modI) (eN intC (aCons (eV 3) aNil)) (eC (.int (7))))) aNil)))))))))))
def F__law_row : List D → R (D × D) := runM 8 m__law_row
def m_fixed (F_fixed : List D → R D) : SF := (seqS (ifS (tB1 (e1 (isiTD subG [.ty "list", .ty "tuple"]) (eV 0))) (retS (eN tupC (aCons (lcE [1] (iVal (eV 0)) (bName 1) tYes1 (callF 1 F_fixed (aCons (eV 1) aNil))) aNil))) passS) (retS (eV 0)))
def FF_fixed : Nat → List D → R D
  | 0 => fun _ => .no
  | n + 1 => runD 2 (m_fixed (FF_fixed n))
def F_fixed : List D → R D := FF_fixed 3
def m_Denial__init__ : SF := (seqS (fldS 0 [] "word" (eV 1)) (fldS 0 [] "parts" (callF 1 F_fixed (aCons (eV 2) aNil))))
def F_Denial__init__ : List D → R (D × D) := runM 3 m_Denial__init__
def m_Between__init__ : SF := (seqS (expS (callM 0 3 (starD 2 F_Denial__init__) (aCons (eC (.str "between")) (aCons (eV 1) aNil)))) (fldS 0 [] "low" (e2 ixD (eFldO 0 [] "parts") (eC (.int (0))))))
def F_Between__init__ : List D → R (D × D) := runM 2 m_Between__init__
def m_Paper__init__ : SF := (seqS (fldS 0 [] "word" (eV 1)) (fldS 0 [] "parts" (callF 1 F_fixed (aCons (eV 2) aNil))))
def F_Paper__init__ : List D → R (D × D) := runM 3 m_Paper__init__
def m__law_power : SF := (seqS (ifS (tB1 (e2 eqD (e2 mulP (eV 0) (eV 2)) (e2 mulP (eV 1) (eV 1)))) (retS (eC (.int (0)))) passS) (seqS (asgS 3 (eIf (tB1 (e2 ltP (e2 mulP (eV 0) (eV 2)) (e2 mulP (eV 1) (eV 1)))) (eC (.int (1))) (e1 negD (eC (.int (1)))))) (seqS (forStm (iArg rng2D (aCons (eC (.int (1))) (aCons (eC (.int (81))) aNil))) (bName 4) (seqS (asgG (bSeq 3 (bCons (bName 5) (bCons (bName 6) (bCons (bName 7) bNil)))) (callF 4 F__law_wanted (aCons (eV 0) (aCons (eV 1) (aCons (eV 1) (aCons (e2 mulP (eV 3) (eV 4)) aNil)))))) (seqS (asgS 8 (e2 (intD subI) (e2 mulP (eV 6) (callF 2 F__law_raised (aCons (eV 2) (aCons (eV 7) aNil)))) (eV 5))) (seqS (ifS (tB1 (e2 eqD (eV 8) (eC (.int (0))))) (retS (e2 mulP (eV 3) (eV 4))) passS) (ifS (tB1 (e2 gtP (e2 mulP (eV 8) (eV 3)) (eC (.int (0))))) (retS (eC .non)) passS))))) (retS (eC .non)))))
def F__law_power : List D → R D := runD 9 m__law_power
def m__law_is_by : SF := (seqS (asgG (bSeq 3 (bCons (bName 3) (bCons (bName 4) (bCons (bName 5) bNil)))) (eSl slP (eV 0) (pSome (eV 1)) (pSome (e2 addP (eV 1) (eC (.int (3))))))) (seqS (asgG (bSeq 3 (bCons (bName 6) (bCons (bName 7) (bCons (bName 8) bNil)))) (callF 4 F__law_wanted (aCons (eV 3) (aCons (eV 4) (aCons (eV 4) (aCons (eV 2) aNil)))))) (retS (e2 eqD (e2 mulP (eV 7) (callF 2 F__law_raised (aCons (eV 5) (aCons (eV 8) aNil)))) (eV 6)))))
def F__law_is_by : List D → R D := runD 9 m__law_is_by
def m__law_due : SF := (seqS (asgS 1 (callF 3 F__law_power (aCons (e2 ixD (eV 0) (eC (.int (0)))) (aCons (e2 ixD (eV 0) (eC (.int (1)))) (aCons (e2 ixD (eV 0) (eC (.int (2)))) aNil))))) (seqS (ifS (tB1 (e2 isD (eV 1) (eC .non))) (retS (eN tupD (aCons (eC (.str "uneven")) (aCons (eC (.int (0))) aNil)))) passS) (seqS (forStm (iArg rng2D (aCons (eC (.int (1))) (aCons (e2 (intD subI) (eN lenP (aCons (eV 0) aNil)) (eC (.int (2)))) aNil))) (bName 2) (ifS (tNot1 (tB1 (callF 3 F__law_is_by (aCons (eV 0) (aCons (eV 2) (aCons (eV 1) aNil)))))) (retS (eN tupD (aCons (eC (.str "uneven")) (aCons (eV 2) aNil)))) passS)) (retS (eN tupD (aCons (eC (.str "bypower")) (aCons (eV 1) aNil)))))))
def F__law_due : List D → R D := runD 3 m__law_due
def m_is_list : SF := (retS (e1 (isiTD subG [.ty "list", .ty "tuple"]) (eV 0)))
def F_is_list : List D → R D := runD 1 m_is_list
def m_need_growing_row : SF := (seqS (ifS (tOr1 (tNot1 (tB1 (callF 1 F_is_list (aCons (eV 0) aNil)))) (tNot1 (tCh (eC (.int (3))) (kLink leP (eN lenP (aCons (eV 0) aNil)) (kLast leP (eC (.int (12)))))))) neverS passS) (seqS (asgS 1 (eC (.int (1)))) (forStm (iVal (eV 0)) (bName 2) (seqS (ifS (tNot1 (tB1 (callF 3 F_is_within (aCons (eV 2) (aCons (eV 1) (aCons (eC (.int (99))) aNil)))))) neverS passS) (asgS 1 (e2 addP (eV 2) (eC (.int (1)))))))))
def F_need_growing_row : List D → R D := runD 3 m_need_growing_row
def m_need_growing : SF := (seqS (expS (callF 4 F_need_within (aCons (eC (.str "a")) (aCons (eV 0) (aCons (eC (.int (1))) (aCons (eC (.int (99))) aNil)))))) (seqS (expS (callF 4 F_need_within (aCons (eC (.str "b")) (aCons (eV 1) (aCons (e2 addP (eV 0) (eC (.int (1)))) (aCons (eC (.int (99))) aNil)))))) (seqS (expS (callF 4 F_need_within (aCons (eC (.str "c")) (aCons (eV 2) (aCons (eV 1) (aCons (eC (.int (99))) aNil)))))) (expS (callF 4 F_need_within (aCons (eC (.str "d")) (aCons (eV 3) (aCons (e2 addP (eV 2) (eC (.int (1)))) (aCons (eC (.int (99))) aNil)))))))))
def F_need_growing : List D → R D := runD 4 m_need_growing
def m_ByPower__init__ : SF := (seqS (expS (callM 0 3 (starD 2 F_Paper__init__) (aCons (eC (.str "bypower")) (aCons (eV 1) aNil)))) (fldS 0 [] "power" (e2 ixD (eFldO 0 [] "parts") (eC (.int (0))))))
def F_ByPower__init__ : List D → R (D × D) := runM 2 m_ByPower__init__
def m_whole_sum (F_whole_sum : List D → R D) : SF := (seqS (ifS (tB1 (e2 ltP (eV 4) (eC (.int (0))))) (retS (callF 5 F_whole_sum (aCons (e2 mulP (e2 mulP (eV 1) (eV 2)) (eV 3)) (aCons (e2 mulP (e2 mulP (eV 0) (eV 2)) (eV 3)) (aCons (e2 mulP (e2 mulP (eV 0) (eV 1)) (eV 3)) (aCons (e2 mulP (e2 mulP (eV 0) (eV 1)) (eV 2)) (aCons (e1 negD (eV 4)) aNil))))))) passS) (retS (e2 (intD subI) (e2 (intD subI) (e2 addP (callF 2 F_raised (aCons (eV 0) (aCons (eV 4) aNil))) (callF 2 F_raised (aCons (eV 3) (aCons (eV 4) aNil)))) (callF 2 F_raised (aCons (eV 1) (aCons (eV 4) aNil)))) (callF 2 F_raised (aCons (eV 2) (aCons (eV 4) aNil))))))
def FF_whole_sum : Nat → List D → R D
  | 0 => fun _ => .no
  | n + 1 => runD 5 (m_whole_sum (FF_whole_sum n))
def F_whole_sum : List D → R D := FF_whole_sum 2
def m_power_of : SF := (seqS (expS (callF 4 F_need_growing (aCons (eV 0) (aCons (eV 1) (aCons (eV 2) (aCons (eV 3) aNil)))))) (seqS (ifS (tB1 (e2 eqD (e2 mulP (eV 0) (eV 3)) (e2 mulP (eV 1) (eV 2)))) (retS (makeF 24 2 F_ByPower__init__ (aCons (eC (.int (0))) aNil))) passS) (seqS (asgS 4 (eIf (tB1 (e2 ltP (e2 mulP (eV 0) (eV 3)) (e2 mulP (eV 1) (eV 2)))) (eC (.int (1))) (e1 negD (eC (.int (1)))))) (seqS (asgS 5 (eV 4)) (seqS (asgS 6 (callF 5 F_whole_sum (aCons (eV 0) (aCons (eV 1) (aCons (eV 2) (aCons (eV 3) (aCons (eV 5) aNil))))))) (seqS (whS (tB1 (e2 ltP (eV 6) (eC (.int (0))))) (seqS (asgS 5 (e2 addP (eV 5) (eV 4))) (asgS 6 (callF 5 F_whole_sum (aCons (eV 0) (aCons (eV 1) (aCons (eV 2) (aCons (eV 3) (aCons (eV 5) aNil)))))))) 1000) (seqS (ifS (tB1 (e2 eqD (eV 6) (eC (.int (0))))) (retS (makeF 24 2 F_ByPower__init__ (aCons (eV 5) aNil))) passS) (retS (makeF 21 2 F_Between__init__ (aCons (eIf (tB1 (e2 eqD (eV 4) (eC (.int (1))))) (e2 (intD subI) (eV 5) (eC (.int (1)))) (eV 5)) aNil))))))))))
def F_power_of : List D → R D := runD 7 m_power_of
def m_Uneven__init__ : SF := (seqS (expS (callM 0 3 (starD 2 F_Denial__init__) (aCons (eC (.str "uneven")) (aCons (eV 1) aNil)))) (fldS 0 [] "step" (e2 ixD (eFldO 0 [] "parts") (eC (.int (0))))))
def F_Uneven__init__ : List D → R (D × D) := runM 2 m_Uneven__init__
def m_is_by_power : SF := (seqS (ifS (tB1 (e2 eqD (eV 4) (eC (.int (0))))) (retS (e2 eqD (e2 mulP (eV 0) (eV 3)) (e2 mulP (eV 1) (eV 2)))) passS) (retS (e2 eqD (callF 5 F_whole_sum (aCons (eV 0) (aCons (eV 1) (aCons (eV 2) (aCons (eV 3) (aCons (eV 4) aNil)))))) (eC (.int (0))))))
def F_is_by_power : List D → R D := runD 5 m_is_by_power
def m_is_step_by : SF := (seqS (asgG (bSeq 3 (bCons (bName 3) (bCons (bName 4) (bCons (bName 5) bNil)))) (eSl slP (eV 0) (pSome (eV 1)) (pSome (e2 addP (eV 1) (eC (.int (3))))))) (retS (callF 5 F_is_by_power (aCons (eV 3) (aCons (eV 4) (aCons (eV 4) (aCons (eV 5) (aCons (eV 2) aNil))))))))
def F_is_step_by : List D → R D := runD 6 m_is_step_by
def m_power_of_row : SF := (seqS (expS (callF 1 F_need_growing_row (aCons (eV 0) aNil))) (seqS (asgS 1 (callF 4 F_power_of (aCons (e2 ixD (eV 0) (eC (.int (0)))) (aCons (e2 ixD (eV 0) (eC (.int (1)))) (aCons (e2 ixD (eV 0) (eC (.int (1)))) (aCons (e2 ixD (eV 0) (eC (.int (2)))) aNil)))))) (seqS (ifS (tB1 (e2 clsIsnD (eN typeD (aCons (eV 1) aNil)) (eC (.cod 24)))) (retS (makeF 108 2 F_Uneven__init__ (aCons (eC (.int (0))) aNil))) passS) (seqS (forStm (iArg rng1D (aCons (e2 (intD subI) (eN lenP (aCons (eV 0) aNil)) (eC (.int (2)))) aNil)) (bName 2) (ifS (tNot1 (tB1 (callF 3 F_is_step_by (aCons (eV 0) (aCons (eV 2) (aCons (e1 (attrD [] "power") (eV 1)) aNil)))))) (retS (makeF 108 2 F_Uneven__init__ (aCons (eV 2) aNil))) passS)) (retS (eV 1))))))
def F_power_of_row : List D → R D := runD 3 m_power_of_row
def m_is_just (F_is_just : List D → R D) : SF := (seqS (ifS (tB1 (eN (isiD subG) (aCons (eV 1) (aCons (eC (.ty "tuple")) aNil)))) (seqS (ifS (tOr1 (tNot1 (tB1 (eN (isiD subG) (aCons (eV 0) (aCons (eC (.ty "tuple")) aNil))))) (tB1 (e2 neD (eN lenP (aCons (eV 0) aNil)) (eN lenP (aCons (eV 1) aNil))))) (retS (eC (.bl false))) passS) (retS (eN allD (aCons (lcE [2, 3] (iArg zipP (aCons (eV 0) (aCons (eV 1) aNil))) (bSeq 2 (bCons (bName 2) (bCons (bName 3) bNil))) tYes1 (callF 2 F_is_just (aCons (eV 2) (aCons (eV 3) aNil)))) aNil)))) passS) (seqS (ifS (tB1 (eN (isiD subG) (aCons (eV 1) (aCons (eC (.ty "str")) aNil)))) (retS (eAnd (eN (isiD subG) (aCons (eV 0) (aCons (eC (.ty "str")) aNil))) (e2 eqD (eV 0) (eV 1)))) passS) (seqS (ifS (tB1 (callF 1 F_is_integer (aCons (eV 1) aNil))) (retS (eAnd (callF 1 F_is_integer (aCons (eV 0) aNil)) (e2 eqD (eV 0) (eV 1)))) passS) (retS (eAnd (e2 isD (eV 0) (eC .non)) (e2 isD (eV 1) (eC .non)))))))
def FF_is_just : Nat → List D → R D
  | 0 => fun _ => .no
  | n + 1 => runD 4 (m_is_just (FF_is_just n))
def F_is_just : List D → R D := FF_is_just 3
def m_shows_power_of_row : SF := (seqS (asgS 2 (callF 1 F_power_of_row (aCons (eV 0) aNil))) (retS (eAnd (e2 clsIsD (eN typeD (aCons (eV 1) aNil)) (eN typeD (aCons (eV 2) aNil))) (callF 2 F_is_just (aCons (e1 (attrD [] "parts") (eV 1)) (aCons (e1 (attrD [] "parts") (eV 2)) aNil))))))
def F_shows_power_of_row : List D → R D := runD 3 m_shows_power_of_row
def m__law_told : SF := (retS (eIf (tB1 (eN (isiD subG) (aCons (eV 0) (aCons (eC (.cod 24)) aNil)))) (eN tupD (aCons (eC (.str "bypower")) (aCons (e1 (attrD [] "power") (eV 0)) aNil))) (eN tupD (aCons (eC (.str "uneven")) (aCons (e1 (attrD [] "step") (eV 0)) aNil)))))
def F__law_told : List D → R D := runD 1 m__law_told
def kg_shows_power_of_row_0 {α : Type} (us ws : List α) : List α := match us, ws with
  | [], [w0, w1] => [w1, w0]
  | _, _ => []
abbrev kd_shows_power_of_row_0 (ds : List D) : List D := kg_shows_power_of_row_0 [] ds
def kg_power_of_row_1 {α : Type} (us ws : List α) : List α := match us, ws with
  | [], [w0] => [w0]
  | _, _ => []
abbrev kd_power_of_row_1 (ds : List D) : List D := kg_power_of_row_1 [] ds
def m_law : SF := (seqS (asgS 1 (callF 1 F__law_hat (aCons (eV 0) aNil))) (seqS (forStm (iArg rng1D (aCons (eC (.int (3))) aNil)) (bName 2) (seqS (asgG (bSeq 3 (bCons (bName 3) (bCons (bName 4) (bCons (bName 5) bNil)))) (callM 1 1 F__law_begun aNil)) (seqS (asgS 6 (e2 addP (eC (.int (2))) (callM 1 2 F__law_lot (aCons (eC (.int (11))) aNil)))) (seqS (asgS 7 (callF 4 F_numbers_by (aCons (eV 3) (aCons (eV 4) (aCons (eV 6) (aCons (eV 5) aNil)))))) (seqS (ifS (tOr1 (tB1 (e2 neD (eN reprD (aCons (eV 7) aNil)) (eN reprD (aCons (eN tupC (aCons (callF 4 F__law_gone_on (aCons (eV 3) (aCons (eV 4) (aCons (eV 6) (aCons (eV 5) aNil))))) aNil)) aNil)))) (tB1 (e2 neD (callF 4 F_numbers_by (aCons (eV 3) (aCons (eV 4) (aCons (eC (.int (2))) (aCons (eV 5) aNil))))) (eN tupD (aCons (eV 3) (aCons (eV 4) aNil)))))) (retS (eC (.bl false))) passS) (seqS (asgS 7 (callM 1 1 F__law_row aNil)) (seqS (par3S 8 9 10 (aCons (eN lstC (aCons (eV 7) aNil)) (aCons (callF 1 F__law_due (aCons (eV 7) aNil)) (aCons (callF 1 F_power_of_row (aCons (eV 7) aNil)) aNil)))) (seqS (ifS (tOr1 (tNot1 (tB1 (e1 (isiTD subG [.cod 24, .cod 108]) (eV 10)))) (tOr1 (tB1 (e2 neD (e1 (attrD [] "word") (eV 10)) (e2 ixD (eV 9) (eC (.int (0)))))) (tB1 (e2 neD (eN reprD (aCons (callF 1 F__law_told (aCons (eV 10) aNil)) aNil)) (eN reprD (aCons (eV 9) aNil)))))) (retS (eC (.bl false))) passS) (seqS (ifS (tOr1 (tB1 (e2 neD (eBoI boT (eV 10)) (eN (isiD subG) (aCons (eV 10) (aCons (eC (.cod 24)) aNil))))) (tOr1 (tB1 (e2 isnD (callF 2 F_shows_power_of_row (aCons (eV 7) (aCons (eV 10) aNil))) (eC (.bl true)))) (tB1 (e2 neD (eV 7) (eV 8))))) (retS (eC (.bl false))) passS) (seqS (ifS (tOr1 (tB1 (eEqI eqT true (callK 1 F_power_of_row kd_power_of_row_1 (aCons (eN tupC (aCons (eV 7) aNil)) aNil)) (eV 10))) (tB1 (e2 isnD (callK 2 F_shows_power_of_row kd_shows_power_of_row_0 (aCons (eV 10) (aCons (eN tupC (aCons (eV 7) aNil)) aNil))) (eC (.bl true))))) (retS (eC (.bl false))) passS) (seqS (asgS 11 (eN lstD (aCons (e2 ixD (eV 9) (eC (.int (1)))) (aCons (e2 addP (e2 ixD (eV 9) (eC (.int (1)))) (eC (.int (1)))) (aCons (e2 (intD subI) (e2 ixD (eV 9) (eC (.int (1)))) (eC (.int (1)))) (aCons (eC (.int (0))) (aCons (eC (.int (1))) (aCons (e2 (intD subI) (eN lenP (aCons (eV 7) aNil)) (eC (.int (3)))) (aCons (e2 (intD subI) (eN lenP (aCons (eV 7) aNil)) (eC (.int (2)))) (aCons (eC .non) (aCons (eC (.bl true)) (aCons (eN strI (aCons (e2 ixD (eV 9) (eC (.int (1)))) aNil)) (aCons (e2 (intD powI) (eC (.int (10))) (eC (.int (30)))) (aCons (e1 negD (eC (.int (81)))) (aCons (eN lstD (aCons (eC (.int (0))) aNil)) aNil))))))))))))))) (seqS (forStm (iArg rng1D (aCons (eC (.int (4))) aNil)) (bName 12) (seqS (par2S 13 14 (aCons (callM 1 2 F__law_one (aCons (eV 11) aNil)) (aCons (e2 eqD (callM 1 2 F__law_lot (aCons (eC (.int (2))) aNil)) (eC (.int (0)))) aNil))) (seqS (asgS 15 (eAnd (eNot (eN (isiD subG) (aCons (eV 13) (aCons (eC (.ty "bool")) aNil)))) (e2 eqD (eN tupD (aCons (eIf (tTru (eV 14)) (eC (.str "uneven")) (eC (.str "bypower"))) (aCons (eV 13) aNil))) (eV 9)))) (ifS (tB1 (e2 neD (callF 2 F_shows_power_of_row (aCons (eV 7) (aCons (eIf (tTru (eV 14)) (makeF 108 2 F_Uneven__init__ (aCons (eV 13) aNil)) (makeF 24 2 F_ByPower__init__ (aCons (eV 13) aNil))) aNil))) (eV 15))) (retS (eC (.bl false))) passS)))) (seqS (asgS 16 (eN lstD (aCons (eC .non) (aCons (e2 ixD (eV 9) (eC (.int (1)))) (aCons (eV 9) (aCons (eC (.str "bypower")) (aCons (makeF 21 2 F_Between__init__ (aCons (e2 ixD (eV 9) (eC (.int (1)))) aNil)) (aCons (makeF 85 3 (starD 2 F_Paper__init__) (aCons (eC (.str "bypower")) (aCons (e2 ixD (eV 9) (eC (.int (1)))) aNil))) (aCons (makeF 32 3 (starD 2 F_Denial__init__) (aCons (eC (.str "uneven")) (aCons (e2 ixD (eV 9) (eC (.int (1)))) aNil))) (aCons (e1 (attrD [] "parts") (eV 10)) aNil)))))))))) (ifS (tB1 (e2 isnD (callF 2 F_shows_power_of_row (aCons (eV 7) (aCons (callM 1 2 F__law_one (aCons (eV 16) aNil)) aNil))) (eC (.bl false)))) (retS (eC (.bl false))) passS)))))))))))))) (retS (eC (.bl true)))))
def F_law : List D → R D := runD 17 m_law
end Q

namespace Q
open PySem PySem.Spec PyProof.Rows L2 Dl
def top (i : Nat) : Stmt := PySem.Challenge.pw_fourthlike_k23_rows_of_numbers_by_one_po.main.body.getD i (.Pass ⟨0, 0, 0, 0⟩)
abbrev s_Paper__bool__ : Stmt := inClass (top 18) 2
abbrev n_Paper__bool__ : List Str := ["self"]
theorem sc_Paper__bool__ : FnScope ["self"] ["self"] (defScope s_Paper__bool__) := ⟨rfl, rfl, rfl, by decide +kernel, rfl, by decide +kernel, by decide +kernel⟩
abbrev s_Paper__eq__ : Stmt := inClass (top 18) 1
abbrev n_Paper__eq__ : List Str := ["self", "other"]
theorem sc_Paper__eq__ : FnScope ["self", "other"] ["self", "other"] (defScope s_Paper__eq__) := ⟨rfl, rfl, rfl, by decide +kernel, rfl, by decide +kernel, by decide +kernel⟩
abbrev s_Denial__bool__ : Stmt := inClass (top 19) 2
abbrev n_Denial__bool__ : List Str := ["self"]
theorem sc_Denial__bool__ : FnScope ["self"] ["self"] (defScope s_Denial__bool__) := ⟨rfl, rfl, rfl, by decide +kernel, rfl, by decide +kernel, by decide +kernel⟩
abbrev s_Denial__eq__ : Stmt := inClass (top 19) 1
abbrev n_Denial__eq__ : List Str := ["self", "other"]
theorem sc_Denial__eq__ : FnScope ["self", "other"] ["self", "other"] (defScope s_Denial__eq__) := ⟨rfl, rfl, rfl, by decide +kernel, rfl, by decide +kernel, by decide +kernel⟩
abbrev s__law_hat : Stmt := top 43
abbrev n__law_hat : List Str := ["_law_script", "_law_cell"]
theorem sc__law_hat : FnScope ["_law_script", "_law_cell"] ["_law_script"] (defScope s__law_hat) := ⟨rfl, rfl, rfl, by decide +kernel, rfl, by decide +kernel, by decide +kernel⟩
abbrev s__law_lot : Stmt := top 44
abbrev n__law_lot : List Str := ["_law_hat_here", "_law_many", "_law_digit", "_law_at", "_law_cell", "_law_great", "_law_mixed"]
theorem sc__law_lot : FnScope ["_law_hat_here", "_law_many", "_law_digit", "_law_at", "_law_cell", "_law_great", "_law_mixed"] ["_law_hat_here", "_law_many"] (defScope s__law_lot) := ⟨rfl, rfl, rfl, by decide +kernel, rfl, by decide +kernel, by decide +kernel⟩
abbrev s__law_one : Stmt := top 45
abbrev n__law_one : List Str := ["_law_hat_here", "_law_some"]
theorem sc__law_one : FnScope ["_law_hat_here", "_law_some"] ["_law_hat_here", "_law_some"] (defScope s__law_one) := ⟨rfl, rfl, rfl, by decide +kernel, rfl, by decide +kernel, by decide +kernel⟩
abbrev s__law_begun : Stmt := top 49
abbrev n__law_begun : List Str := ["_law_hat_here", "_law_way", "_law_one_here", "_law_more", "_law_times", "_law_base", "_law_other", "_law_wide", "_law_whole"]
theorem sc__law_begun : FnScope ["_law_hat_here", "_law_way", "_law_one_here", "_law_more", "_law_times", "_law_base", "_law_other", "_law_wide", "_law_whole"] ["_law_hat_here"] (defScope s__law_begun) := ⟨rfl, rfl, rfl, by decide +kernel, rfl, by decide +kernel, by decide +kernel⟩
abbrev s_is_integer : Stmt := top 1
abbrev n_is_integer : List Str := ["value"]
theorem sc_is_integer : FnScope ["value"] ["value"] (defScope s_is_integer) := ⟨rfl, rfl, rfl, by decide +kernel, rfl, by decide +kernel, by decide +kernel⟩
abbrev s_is_within : Stmt := top 2
abbrev n_is_within : List Str := ["value", "least", "most"]
theorem sc_is_within : FnScope ["value", "least", "most"] ["value", "least", "most"] (defScope s_is_within) := ⟨rfl, rfl, rfl, by decide +kernel, rfl, by decide +kernel, by decide +kernel⟩
abbrev s_need_within : Stmt := top 12
abbrev n_need_within : List Str := ["part", "value", "least", "most"]
theorem sc_need_within : FnScope ["part", "value", "least", "most"] ["part", "value", "least", "most"] (defScope s_need_within) := ⟨rfl, rfl, rfl, by decide +kernel, rfl, by decide +kernel, by decide +kernel⟩
abbrev s_need_numbers : Stmt := top 13
abbrev n_need_numbers : List Str := ["named", "most", "part", "value"]
theorem sc_need_numbers : FnScope ["named", "most", "part", "value"] ["named", "most"] (defScope s_need_numbers) := ⟨rfl, rfl, rfl, by decide +kernel, rfl, by decide +kernel, by decide +kernel⟩
abbrev s_need_power : Stmt := top 14
abbrev n_need_power : List Str := ["power"]
theorem sc_need_power : FnScope ["power"] ["power"] (defScope s_need_power) := ⟨rfl, rfl, rfl, by decide +kernel, rfl, by decide +kernel, by decide +kernel⟩
abbrev s_raised : Stmt := top 21
abbrev n_raised : List Str := ["number", "times", "found"]
theorem sc_raised : FnScope ["number", "times", "found"] ["number", "times"] (defScope s_raised) := ⟨rfl, rfl, rfl, by decide +kernel, rfl, by decide +kernel, by decide +kernel⟩
abbrev s_fourth_quotient : Stmt := top 24
abbrev n_fourth_quotient : List Str := ["a", "b", "c", "power", "times", "top", "bottom"]
theorem sc_fourth_quotient : FnScope ["a", "b", "c", "power", "times", "top", "bottom"] ["a", "b", "c", "power"] (defScope s_fourth_quotient) := ⟨rfl, rfl, rfl, by decide +kernel, rfl, by decide +kernel, by decide +kernel⟩
abbrev s_side_of : Stmt := top 25
abbrev n_side_of : List Str := ["number", "quotient", "times", "top", "bottom"]
theorem sc_side_of : FnScope ["number", "quotient", "times", "top", "bottom"] ["number", "quotient"] (defScope s_side_of) := ⟨rfl, rfl, rfl, by decide +kernel, rfl, by decide +kernel, by decide +kernel⟩
abbrev s_whole_below : Stmt := top 26
abbrev n_whole_below : List Str := ["quotient", "high", "low", "middle"]
theorem sc_whole_below : FnScope ["quotient", "high", "low", "middle"] ["quotient"] (defScope s_whole_below) := ⟨rfl, rfl, rfl, by decide +kernel, rfl, by decide +kernel, by decide +kernel⟩
abbrev s_whole_fourth : Stmt := top 27
abbrev n_whole_fourth : List Str := ["a", "b", "c", "power", "quotient", "low"]
theorem sc_whole_fourth : FnScope ["a", "b", "c", "power", "quotient", "low"] ["a", "b", "c", "power"] (defScope s_whole_fourth) := ⟨rfl, rfl, rfl, by decide +kernel, rfl, by decide +kernel, by decide +kernel⟩
abbrev s_numbers_by : Stmt := top 36
abbrev n_numbers_by : List Str := ["first", "second", "many", "power", "found", "number"]
theorem sc_numbers_by : FnScope ["first", "second", "many", "power", "found", "number"] ["first", "second", "many", "power"] (defScope s_numbers_by) := ⟨rfl, rfl, rfl, by decide +kernel, rfl, by decide +kernel, by decide +kernel⟩
abbrev s__law_raised : Stmt := top 46
abbrev n__law_raised : List Str := ["_law_number", "_law_many", "_law_found", "_law_turn"]
theorem sc__law_raised : FnScope ["_law_number", "_law_many", "_law_found", "_law_turn"] ["_law_number", "_law_many"] (defScope s__law_raised) := ⟨rfl, rfl, rfl, by decide +kernel, rfl, by decide +kernel, by decide +kernel⟩
abbrev s__law_wanted : Stmt := top 47
abbrev n__law_wanted : List Str := ["_law_a", "_law_b", "_law_c", "_law_power_here", "_law_many"]
theorem sc__law_wanted : FnScope ["_law_a", "_law_b", "_law_c", "_law_power_here", "_law_many"] ["_law_a", "_law_b", "_law_c", "_law_power_here"] (defScope s__law_wanted) := ⟨rfl, rfl, rfl, by decide +kernel, rfl, by decide +kernel, by decide +kernel⟩
abbrev s__law_behind : Stmt := top 48
abbrev n__law_behind : List Str := ["_law_one_here", "_law_other", "_law_power_here", "_law_rest", "_law_part", "_law_many", "_law_low", "_law_high", "_law_turn", "_law_middle"]
theorem sc__law_behind : FnScope ["_law_one_here", "_law_other", "_law_power_here", "_law_rest", "_law_part", "_law_many", "_law_low", "_law_high", "_law_turn", "_law_middle"] ["_law_one_here", "_law_other", "_law_power_here"] (defScope s__law_behind) := ⟨rfl, rfl, rfl, by decide +kernel, rfl, by decide +kernel, by decide +kernel⟩
abbrev s__law_gone_on : Stmt := top 50
abbrev n__law_gone_on : List Str := ["_law_first", "_law_second", "_law_many", "_law_power_here", "_law_row_here", "_law_turn", "_law_more"]
theorem sc__law_gone_on : FnScope ["_law_first", "_law_second", "_law_many", "_law_power_here", "_law_row_here", "_law_turn", "_law_more"] ["_law_first", "_law_second", "_law_many", "_law_power_here"] (defScope s__law_gone_on) := ⟨rfl, rfl, rfl, by decide +kernel, rfl, by decide +kernel, by decide +kernel⟩
abbrev s__law_row : Stmt := top 53
abbrev n__law_row : List Str := ["_law_hat_here", "_law_first", "_law_second", "_law_power_here", "_law_row_here", "_law_at", "_law_number", "_law_turn"]
theorem sc__law_row : FnScope ["_law_hat_here", "_law_first", "_law_second", "_law_power_here", "_law_row_here", "_law_at", "_law_number", "_law_turn"] ["_law_hat_here"] (defScope s__law_row) := ⟨rfl, rfl, rfl, by decide +kernel, rfl, by decide +kernel, by decide +kernel⟩
abbrev s_fixed : Stmt := top 17
abbrev n_fixed : List Str := ["value", "one"]
theorem sc_fixed : FnScope ["value", "one"] ["value"] (defScope s_fixed) := ⟨rfl, rfl, rfl, by decide +kernel, rfl, by decide +kernel, by decide +kernel⟩
abbrev s_Denial__init__ : Stmt := inClass (top 19) 0
abbrev n_Denial__init__ : List Str := ["self", "word", "parts"]
theorem sc_Denial__init__ : FnScope ["self", "word", "parts"] ["self", "word", "parts"] (defScope s_Denial__init__) := ⟨rfl, rfl, rfl, by decide +kernel, rfl, by decide +kernel, by decide +kernel⟩
abbrev s_Between__init__ : Stmt := inClass (top 30) 0
abbrev n_Between__init__ : List Str := ["self", "low"]
theorem sc_Between__init__ : FnScope ["self", "low"] ["self", "low"] (defScope s_Between__init__) := ⟨rfl, rfl, rfl, by decide +kernel, rfl, by decide +kernel, by decide +kernel⟩
abbrev s_Paper__init__ : Stmt := inClass (top 18) 0
abbrev n_Paper__init__ : List Str := ["self", "word", "parts"]
theorem sc_Paper__init__ : FnScope ["self", "word", "parts"] ["self", "word", "parts"] (defScope s_Paper__init__) := ⟨rfl, rfl, rfl, by decide +kernel, rfl, by decide +kernel, by decide +kernel⟩
abbrev s__law_power : Stmt := top 52
abbrev n__law_power : List Str := ["_law_one_here", "_law_middle", "_law_other", "_law_side", "_law_many", "_law_rest", "_law_part", "_law_times", "_law_left"]
theorem sc__law_power : FnScope ["_law_one_here", "_law_middle", "_law_other", "_law_side", "_law_many", "_law_rest", "_law_part", "_law_times", "_law_left"] ["_law_one_here", "_law_middle", "_law_other"] (defScope s__law_power) := ⟨rfl, rfl, rfl, by decide +kernel, rfl, by decide +kernel, by decide +kernel⟩
abbrev s__law_is_by : Stmt := top 51
abbrev n__law_is_by : List Str := ["_law_numbers", "_law_step", "_law_power_here", "_law_one_here", "_law_middle", "_law_other", "_law_rest", "_law_part", "_law_many"]
theorem sc__law_is_by : FnScope ["_law_numbers", "_law_step", "_law_power_here", "_law_one_here", "_law_middle", "_law_other", "_law_rest", "_law_part", "_law_many"] ["_law_numbers", "_law_step", "_law_power_here"] (defScope s__law_is_by) := ⟨rfl, rfl, rfl, by decide +kernel, rfl, by decide +kernel, by decide +kernel⟩
abbrev s__law_due : Stmt := top 54
abbrev n__law_due : List Str := ["_law_row_here", "_law_power_here", "_law_step"]
theorem sc__law_due : FnScope ["_law_row_here", "_law_power_here", "_law_step"] ["_law_row_here"] (defScope s__law_due) := ⟨rfl, rfl, rfl, by decide +kernel, rfl, by decide +kernel, by decide +kernel⟩
abbrev s_is_list : Stmt := top 3
abbrev n_is_list : List Str := ["value"]
theorem sc_is_list : FnScope ["value"] ["value"] (defScope s_is_list) := ⟨rfl, rfl, rfl, by decide +kernel, rfl, by decide +kernel, by decide +kernel⟩
abbrev s_need_growing_row : Stmt := top 37
abbrev n_need_growing_row : List Str := ["numbers", "least", "number"]
theorem sc_need_growing_row : FnScope ["numbers", "least", "number"] ["numbers"] (defScope s_need_growing_row) := ⟨rfl, rfl, rfl, by decide +kernel, rfl, by decide +kernel, by decide +kernel⟩
abbrev s_need_growing : Stmt := top 15
abbrev n_need_growing : List Str := ["a", "b", "c", "d"]
theorem sc_need_growing : FnScope ["a", "b", "c", "d"] ["a", "b", "c", "d"] (defScope s_need_growing) := ⟨rfl, rfl, rfl, by decide +kernel, rfl, by decide +kernel, by decide +kernel⟩
abbrev s_ByPower__init__ : Stmt := inClass (top 29) 0
abbrev n_ByPower__init__ : List Str := ["self", "power"]
theorem sc_ByPower__init__ : FnScope ["self", "power"] ["self", "power"] (defScope s_ByPower__init__) := ⟨rfl, rfl, rfl, by decide +kernel, rfl, by decide +kernel, by decide +kernel⟩
abbrev s_whole_sum : Stmt := top 22
abbrev n_whole_sum : List Str := ["a", "b", "c", "d", "power"]
theorem sc_whole_sum : FnScope ["a", "b", "c", "d", "power"] ["a", "b", "c", "d", "power"] (defScope s_whole_sum) := ⟨rfl, rfl, rfl, by decide +kernel, rfl, by decide +kernel, by decide +kernel⟩
abbrev s_power_of : Stmt := top 31
abbrev n_power_of : List Str := ["a", "b", "c", "d", "way", "power", "found"]
theorem sc_power_of : FnScope ["a", "b", "c", "d", "way", "power", "found"] ["a", "b", "c", "d"] (defScope s_power_of) := ⟨rfl, rfl, rfl, by decide +kernel, rfl, by decide +kernel, by decide +kernel⟩
abbrev s_Uneven__init__ : Stmt := inClass (top 35) 0
abbrev n_Uneven__init__ : List Str := ["self", "step"]
theorem sc_Uneven__init__ : FnScope ["self", "step"] ["self", "step"] (defScope s_Uneven__init__) := ⟨rfl, rfl, rfl, by decide +kernel, rfl, by decide +kernel, by decide +kernel⟩
abbrev s_is_by_power : Stmt := top 23
abbrev n_is_by_power : List Str := ["a", "b", "c", "d", "power"]
theorem sc_is_by_power : FnScope ["a", "b", "c", "d", "power"] ["a", "b", "c", "d", "power"] (defScope s_is_by_power) := ⟨rfl, rfl, rfl, by decide +kernel, rfl, by decide +kernel, by decide +kernel⟩
abbrev s_is_step_by : Stmt := top 38
abbrev n_is_step_by : List Str := ["numbers", "step", "power", "x", "y", "z"]
theorem sc_is_step_by : FnScope ["numbers", "step", "power", "x", "y", "z"] ["numbers", "step", "power"] (defScope s_is_step_by) := ⟨rfl, rfl, rfl, by decide +kernel, rfl, by decide +kernel, by decide +kernel⟩
abbrev s_power_of_row : Stmt := top 39
abbrev n_power_of_row : List Str := ["numbers", "found", "step"]
theorem sc_power_of_row : FnScope ["numbers", "found", "step"] ["numbers"] (defScope s_power_of_row) := ⟨rfl, rfl, rfl, by decide +kernel, rfl, by decide +kernel, by decide +kernel⟩
abbrev s_is_just : Stmt := top 4
abbrev n_is_just : List Str := ["value", "wanted", "one", "other"]
theorem sc_is_just : FnScope ["value", "wanted", "one", "other"] ["value", "wanted"] (defScope s_is_just) := ⟨rfl, rfl, rfl, by decide +kernel, rfl, by decide +kernel, by decide +kernel⟩
abbrev s_shows_power_of_row : Stmt := top 41
abbrev n_shows_power_of_row : List Str := ["numbers", "value", "found"]
theorem sc_shows_power_of_row : FnScope ["numbers", "value", "found"] ["numbers", "value"] (defScope s_shows_power_of_row) := ⟨rfl, rfl, rfl, by decide +kernel, rfl, by decide +kernel, by decide +kernel⟩
abbrev s__law_told : Stmt := top 55
abbrev n__law_told : List Str := ["_law_paper"]
theorem sc__law_told : FnScope ["_law_paper"] ["_law_paper"] (defScope s__law_told) := ⟨rfl, rfl, rfl, by decide +kernel, rfl, by decide +kernel, by decide +kernel⟩
abbrev s_law : Stmt := top 56
abbrev n_law : List Str := ["_law_script", "_law_hat_here", "_law_lap", "_law_first", "_law_second", "_law_power_here", "_law_many", "_law_row_here", "_law_held", "_law_due_here", "_law_found", "_law_values", "_law_turn", "_law_value", "_law_is_step", "_law_is_right", "_law_odd"]
theorem sc_law : FnScope ["_law_script", "_law_hat_here", "_law_lap", "_law_first", "_law_second", "_law_power_here", "_law_many", "_law_row_here", "_law_held", "_law_due_here", "_law_found", "_law_values", "_law_turn", "_law_value", "_law_is_step", "_law_is_right", "_law_odd"] ["_law_script"] (defScope s_law) := ⟨rfl, rfl, rfl, by decide +kernel, rfl, by decide +kernel, by decide +kernel⟩
structure ClsT (K : PySem.W.Frag) (mg : Str → Option Value) (nm : Str) where
  a : Addr
  g : mg nm = some (.ref a)
  cl : Cls K a
  kp : PySem.W.keepIn K (.ref a) = true
  ha : PySem.W.findIn K (.ref a) "__class__" = some (some (.builtin "object.__class__"))
  hn : PySem.W.specialIn K (.builtin "object.__class__") "__get__" = some (some (.builtin "getset_descriptor.__get__"))
  ht : PySem.W.takesIn K (.builtin "object.__class__") = some true
  hm : PySem.W.mroIn K a (.type "object") = some true
  ml : PySem.W.makesIn K a = true
structure MetT (K : PySem.W.Frag) (nm qual : Str) (st : Stmt) (ps : List Str) where
  a : Addr
  fd : FuncData
  F : Fun K nm qual st a fd
  fn : PySem.W.isFn K (.ref a) = true
  b : Binds K fd ps []
structure MetS (K : PySem.W.Frag) (nm qual : Str) (st : Stmt) where
  a : Addr
  fd : FuncData
  F : Fun K nm qual st a fd
  fn : PySem.W.isFn K (.ref a) = true
structure FnT (K : PySem.W.Frag) (mg : Str → Option Value) (nm : Str) (st : Stmt) (ps : List Str) where
  a : Addr
  fd : FuncData
  F : Fun K nm nm st a fd
  g : mg nm = some (.ref a)
  b : Binds K fd ps []
structure Txt (K : PySem.W.Frag) (mg : Str → Option Value) where
  f_Paper__bool__ : MetT K "__bool__" "Paper.__bool__" s_Paper__bool__ ["self"]
  f_Paper__eq__ : MetT K "__eq__" "Paper.__eq__" s_Paper__eq__ ["self", "other"]
  f_Denial__bool__ : MetT K "__bool__" "Denial.__bool__" s_Denial__bool__ ["self"]
  f_Denial__eq__ : MetT K "__eq__" "Denial.__eq__" s_Denial__eq__ ["self", "other"]
  f_Denial__init__ : MetS K "__init__" "Denial.__init__" s_Denial__init__
  f_Between__init__ : MetT K "__init__" "Between.__init__" s_Between__init__ ["self", "low"]
  f_Paper__init__ : MetS K "__init__" "Paper.__init__" s_Paper__init__
  f_ByPower__init__ : MetT K "__init__" "ByPower.__init__" s_ByPower__init__ ["self", "power"]
  f_Uneven__init__ : MetT K "__init__" "Uneven.__init__" s_Uneven__init__ ["self", "step"]
  k_Denial : ClsT K mg "Denial"
  k_Paper : ClsT K mg "Paper"
  k_Between : ClsT K mg "Between"
  k_ByPower : ClsT K mg "ByPower"
  k_Uneven : ClsT K mg "Uneven"
  na_Denial_low : NoAttr K k_Denial.a "low"
  na_Denial_parts : NoAttr K k_Denial.a "parts"
  na_Denial_power : NoAttr K k_Denial.a "power"
  na_Denial_step : NoAttr K k_Denial.a "step"
  na_Denial_word : NoAttr K k_Denial.a "word"
  mk_Denial : Mk K k_Denial.a f_Denial__init__.a
  eq_Denial : Ru.EqC K k_Denial.a f_Denial__eq__.a
  bo_Denial : Ru.BoolC K k_Denial.a f_Denial__bool__.a
  mc_Denial : Value
  cr_Denial : ClX.CRead K k_Denial.a mc_Denial
  cv_Denial__init__ : ClX.CVal K k_Denial.a mc_Denial "__init__" (.ref f_Denial__init__.a) (.ref f_Denial__init__.a)
  is_Denial_Denial : PySem.W.kitOne K (.ref k_Denial.a) (.ref k_Denial.a) = some true
  is_Denial_Paper : PySem.W.kitOne K (.ref k_Denial.a) (.ref k_Paper.a) = some true
  is_Denial_Between : PySem.W.kitOne K (.ref k_Denial.a) (.ref k_Between.a) = some false
  is_Denial_ByPower : PySem.W.kitOne K (.ref k_Denial.a) (.ref k_ByPower.a) = some false
  is_Denial_Uneven : PySem.W.kitOne K (.ref k_Denial.a) (.ref k_Uneven.a) = some false
  na_Paper_low : NoAttr K k_Paper.a "low"
  na_Paper_parts : NoAttr K k_Paper.a "parts"
  na_Paper_power : NoAttr K k_Paper.a "power"
  na_Paper_step : NoAttr K k_Paper.a "step"
  na_Paper_word : NoAttr K k_Paper.a "word"
  mk_Paper : Mk K k_Paper.a f_Paper__init__.a
  eq_Paper : Ru.EqC K k_Paper.a f_Paper__eq__.a
  bo_Paper : Ru.BoolC K k_Paper.a f_Paper__bool__.a
  mc_Paper : Value
  cr_Paper : ClX.CRead K k_Paper.a mc_Paper
  cv_Paper__init__ : ClX.CVal K k_Paper.a mc_Paper "__init__" (.ref f_Paper__init__.a) (.ref f_Paper__init__.a)
  is_Paper_Denial : PySem.W.kitOne K (.ref k_Paper.a) (.ref k_Denial.a) = some false
  is_Paper_Paper : PySem.W.kitOne K (.ref k_Paper.a) (.ref k_Paper.a) = some true
  is_Paper_Between : PySem.W.kitOne K (.ref k_Paper.a) (.ref k_Between.a) = some false
  is_Paper_ByPower : PySem.W.kitOne K (.ref k_Paper.a) (.ref k_ByPower.a) = some false
  is_Paper_Uneven : PySem.W.kitOne K (.ref k_Paper.a) (.ref k_Uneven.a) = some false
  na_Between_low : NoAttr K k_Between.a "low"
  na_Between_parts : NoAttr K k_Between.a "parts"
  na_Between_power : NoAttr K k_Between.a "power"
  na_Between_step : NoAttr K k_Between.a "step"
  na_Between_word : NoAttr K k_Between.a "word"
  mk_Between : Mk K k_Between.a f_Between__init__.a
  eq_Between : Ru.EqC K k_Between.a f_Denial__eq__.a
  bo_Between : Ru.BoolC K k_Between.a f_Denial__bool__.a
  is_Between_Denial : PySem.W.kitOne K (.ref k_Between.a) (.ref k_Denial.a) = some true
  is_Between_Paper : PySem.W.kitOne K (.ref k_Between.a) (.ref k_Paper.a) = some true
  is_Between_Between : PySem.W.kitOne K (.ref k_Between.a) (.ref k_Between.a) = some true
  is_Between_ByPower : PySem.W.kitOne K (.ref k_Between.a) (.ref k_ByPower.a) = some false
  is_Between_Uneven : PySem.W.kitOne K (.ref k_Between.a) (.ref k_Uneven.a) = some false
  na_ByPower_low : NoAttr K k_ByPower.a "low"
  na_ByPower_parts : NoAttr K k_ByPower.a "parts"
  na_ByPower_power : NoAttr K k_ByPower.a "power"
  na_ByPower_step : NoAttr K k_ByPower.a "step"
  na_ByPower_word : NoAttr K k_ByPower.a "word"
  mk_ByPower : Mk K k_ByPower.a f_ByPower__init__.a
  eq_ByPower : Ru.EqC K k_ByPower.a f_Paper__eq__.a
  bo_ByPower : Ru.BoolC K k_ByPower.a f_Paper__bool__.a
  is_ByPower_Denial : PySem.W.kitOne K (.ref k_ByPower.a) (.ref k_Denial.a) = some false
  is_ByPower_Paper : PySem.W.kitOne K (.ref k_ByPower.a) (.ref k_Paper.a) = some true
  is_ByPower_Between : PySem.W.kitOne K (.ref k_ByPower.a) (.ref k_Between.a) = some false
  is_ByPower_ByPower : PySem.W.kitOne K (.ref k_ByPower.a) (.ref k_ByPower.a) = some true
  is_ByPower_Uneven : PySem.W.kitOne K (.ref k_ByPower.a) (.ref k_Uneven.a) = some false
  na_Uneven_low : NoAttr K k_Uneven.a "low"
  na_Uneven_parts : NoAttr K k_Uneven.a "parts"
  na_Uneven_power : NoAttr K k_Uneven.a "power"
  na_Uneven_step : NoAttr K k_Uneven.a "step"
  na_Uneven_word : NoAttr K k_Uneven.a "word"
  mk_Uneven : Mk K k_Uneven.a f_Uneven__init__.a
  eq_Uneven : Ru.EqC K k_Uneven.a f_Denial__eq__.a
  bo_Uneven : Ru.BoolC K k_Uneven.a f_Denial__bool__.a
  is_Uneven_Denial : PySem.W.kitOne K (.ref k_Uneven.a) (.ref k_Denial.a) = some true
  is_Uneven_Paper : PySem.W.kitOne K (.ref k_Uneven.a) (.ref k_Paper.a) = some true
  is_Uneven_Between : PySem.W.kitOne K (.ref k_Uneven.a) (.ref k_Between.a) = some false
  is_Uneven_ByPower : PySem.W.kitOne K (.ref k_Uneven.a) (.ref k_ByPower.a) = some false
  is_Uneven_Uneven : PySem.W.kitOne K (.ref k_Uneven.a) (.ref k_Uneven.a) = some true
  f__law_hat : FnT K mg "_law_hat" s__law_hat ["_law_script"]
  f__law_lot : FnT K mg "_law_lot" s__law_lot ["_law_hat_here", "_law_many"]
  f__law_one : FnT K mg "_law_one" s__law_one ["_law_hat_here", "_law_some"]
  f__law_begun : FnT K mg "_law_begun" s__law_begun ["_law_hat_here"]
  f_is_integer : FnT K mg "is_integer" s_is_integer ["value"]
  f_is_within : FnT K mg "is_within" s_is_within ["value", "least", "most"]
  f_need_within : FnT K mg "need_within" s_need_within ["part", "value", "least", "most"]
  f_need_numbers : FnT K mg "need_numbers" s_need_numbers ["named", "most"]
  f_need_power : FnT K mg "need_power" s_need_power ["power"]
  f_raised : FnT K mg "raised" s_raised ["number", "times"]
  f_fourth_quotient : FnT K mg "fourth_quotient" s_fourth_quotient ["a", "b", "c", "power"]
  f_side_of : FnT K mg "side_of" s_side_of ["number", "quotient"]
  f_whole_below : FnT K mg "whole_below" s_whole_below ["quotient"]
  f_whole_fourth : FnT K mg "whole_fourth" s_whole_fourth ["a", "b", "c", "power"]
  f_numbers_by : FnT K mg "numbers_by" s_numbers_by ["first", "second", "many", "power"]
  f__law_raised : FnT K mg "_law_raised" s__law_raised ["_law_number", "_law_many"]
  f__law_wanted : FnT K mg "_law_wanted" s__law_wanted ["_law_a", "_law_b", "_law_c", "_law_power_here"]
  f__law_behind : FnT K mg "_law_behind" s__law_behind ["_law_one_here", "_law_other", "_law_power_here"]
  f__law_gone_on : FnT K mg "_law_gone_on" s__law_gone_on ["_law_first", "_law_second", "_law_many", "_law_power_here"]
  f__law_row : FnT K mg "_law_row" s__law_row ["_law_hat_here"]
  f_fixed : FnT K mg "fixed" s_fixed ["value"]
  f__law_power : FnT K mg "_law_power" s__law_power ["_law_one_here", "_law_middle", "_law_other"]
  f__law_is_by : FnT K mg "_law_is_by" s__law_is_by ["_law_numbers", "_law_step", "_law_power_here"]
  f__law_due : FnT K mg "_law_due" s__law_due ["_law_row_here"]
  f_is_list : FnT K mg "is_list" s_is_list ["value"]
  f_need_growing_row : FnT K mg "need_growing_row" s_need_growing_row ["numbers"]
  f_need_growing : FnT K mg "need_growing" s_need_growing ["a", "b", "c", "d"]
  f_whole_sum : FnT K mg "whole_sum" s_whole_sum ["a", "b", "c", "d", "power"]
  f_power_of : FnT K mg "power_of" s_power_of ["a", "b", "c", "d"]
  f_is_by_power : FnT K mg "is_by_power" s_is_by_power ["a", "b", "c", "d", "power"]
  f_is_step_by : FnT K mg "is_step_by" s_is_step_by ["numbers", "step", "power"]
  f_power_of_row : FnT K mg "power_of_row" s_power_of_row ["numbers"]
  f_is_just : FnT K mg "is_just" s_is_just ["value", "wanted"]
  f_shows_power_of_row : FnT K mg "shows_power_of_row" s_shows_power_of_row ["numbers", "value"]
  f__law_told : FnT K mg "_law_told" s__law_told ["_law_paper"]
  f_law : FnT K mg "law" s_law ["_law_script"]
  t_LEAST_LONG : Tok
  c_LEAST_LONG : mg "LEAST_LONG" = some (.int (3) t_LEAST_LONG)
  t_LEAST_POWER : Tok
  c_LEAST_POWER : mg "LEAST_POWER" = some (.int (-80) t_LEAST_POWER)
  t_MOST_LONG : Tok
  c_MOST_LONG : mg "MOST_LONG" = some (.int (12) t_MOST_LONG)
  t_MOST_POWER : Tok
  c_MOST_POWER : mg "MOST_POWER" = some (.int (80) t_MOST_POWER)
  t_MOST_SMALL : Tok
  c_MOST_SMALL : mg "MOST_SMALL" = some (.int (99) t_MOST_SMALL)
  n_abs : mg "abs" = none
  n_all : mg "all" = none
  n_bool : mg "bool" = none
  n_int : mg "int" = none
  n_isinstance : mg "isinstance" = none
  n_len : mg "len" = none
  n_list : mg "list" = none
  n_max : mg "max" = none
  n_range : mg "range" = none
  n_repr : mg "repr" = none
  n_set : mg "set" = none
  n_sorted : mg "sorted" = none
  n_str : mg "str" = none
  n_tuple : mg "tuple" = none
  n_type : mg "type" = none
  n_zip : mg "zip" = none
section
variable {K : PySem.W.Frag} {mg : Str → Option Value} {P : Program} {w : World}
def adOf (T : Txt K mg) : Nat → Addr := fun n => match n with
  | 32 => T.k_Denial.a
  | 85 => T.k_Paper.a
  | 21 => T.k_Between.a
  | 24 => T.k_ByPower.a
  | 108 => T.k_Uneven.a
  | _ => T.k_Denial.a
abbrev okL : Nat → Bool := fun n => ([32, 85, 21, 24, 108] : List Nat).contains n
def caOf (T : Txt K mg) (P : Program) (w : World) : CA := ⟨adOf T, adOf T, [], P, w, okL⟩
theorem okL_cases {n : Nat} (h : okL n = true) : n = 32 ∨ n = 85 ∨ n = 21 ∨ n = 24 ∨ n = 108 := by simpa [okL] using h
theorem clsC (T : Txt K mg) : ClsSet K (caOf T P w) where
  own := fun a h => by
    rcases okL_cases h with rfl | rfl | rfl | rfl | rfl
    · exact ⟨T.k_Denial.cl, T.k_Denial.ha, T.k_Denial.hn, T.k_Denial.ht, T.k_Denial.hm, T.k_Denial.ml⟩
    · exact ⟨T.k_Paper.cl, T.k_Paper.ha, T.k_Paper.hn, T.k_Paper.ht, T.k_Paper.hm, T.k_Paper.ml⟩
    · exact ⟨T.k_Between.cl, T.k_Between.ha, T.k_Between.hn, T.k_Between.ht, T.k_Between.hm, T.k_Between.ml⟩
    · exact ⟨T.k_ByPower.cl, T.k_ByPower.ha, T.k_ByPower.hn, T.k_ByPower.ht, T.k_ByPower.hm, T.k_ByPower.ml⟩
    · exact ⟨T.k_Uneven.cl, T.k_Uneven.ha, T.k_Uneven.hn, T.k_Uneven.ht, T.k_Uneven.hm, T.k_Uneven.ml⟩
  inj := fun a b ha hb e => by
    rcases okL_cases ha with rfl | rfl | rfl | rfl | rfl <;> rcases okL_cases hb with rfl | rfl | rfl | rfl | rfl
    · rfl
    · exact absurd e.symm (nek T.is_Paper_Denial T.is_Denial_Denial)
    · exact absurd e (nek T.is_Denial_Between T.is_Between_Between)
    · exact absurd e (nek T.is_Denial_ByPower T.is_ByPower_ByPower)
    · exact absurd e (nek T.is_Denial_Uneven T.is_Uneven_Uneven)
    · exact absurd e (nek T.is_Paper_Denial T.is_Denial_Denial)
    · rfl
    · exact absurd e (nek T.is_Paper_Between T.is_Between_Between)
    · exact absurd e (nek T.is_Paper_ByPower T.is_ByPower_ByPower)
    · exact absurd e (nek T.is_Paper_Uneven T.is_Uneven_Uneven)
    · exact absurd e.symm (nek T.is_Denial_Between T.is_Between_Between)
    · exact absurd e.symm (nek T.is_Paper_Between T.is_Between_Between)
    · rfl
    · exact absurd e (nek T.is_Between_ByPower T.is_ByPower_ByPower)
    · exact absurd e (nek T.is_Between_Uneven T.is_Uneven_Uneven)
    · exact absurd e (nek T.is_ByPower_Denial T.is_Denial_Denial)
    · exact absurd e.symm (nek T.is_Paper_ByPower T.is_ByPower_ByPower)
    · exact absurd e (nek T.is_ByPower_Between T.is_Between_Between)
    · rfl
    · exact absurd e (nek T.is_ByPower_Uneven T.is_Uneven_Uneven)
    · exact absurd e.symm (nek T.is_Denial_Uneven T.is_Uneven_Uneven)
    · exact absurd e.symm (nek T.is_Paper_Uneven T.is_Uneven_Uneven)
    · exact absurd e (nek T.is_Uneven_Between T.is_Between_Between)
    · exact absurd e (nek T.is_Uneven_ByPower T.is_ByPower_ByPower)
    · rfl
theorem subG_ok (T : Txt K mg) : TabOk K (caOf T P w) subG := fun t c b h _ _ => by
  unfold subG at h
  split at h
  · exact ⟨_, _, rfl, rfl, kit_ty h⟩
  · unfold subN at h
    split at h
    · cases h; exact ⟨_, _, rfl, rfl, T.is_Denial_Denial⟩
    · cases h; exact ⟨_, _, rfl, rfl, T.is_Denial_Paper⟩
    · cases h; exact ⟨_, _, rfl, rfl, T.is_Denial_Between⟩
    · cases h; exact ⟨_, _, rfl, rfl, T.is_Denial_ByPower⟩
    · cases h; exact ⟨_, _, rfl, rfl, T.is_Denial_Uneven⟩
    · cases h; exact ⟨_, _, rfl, rfl, T.is_Paper_Denial⟩
    · cases h; exact ⟨_, _, rfl, rfl, T.is_Paper_Paper⟩
    · cases h; exact ⟨_, _, rfl, rfl, T.is_Paper_Between⟩
    · cases h; exact ⟨_, _, rfl, rfl, T.is_Paper_ByPower⟩
    · cases h; exact ⟨_, _, rfl, rfl, T.is_Paper_Uneven⟩
    · cases h; exact ⟨_, _, rfl, rfl, T.is_Between_Denial⟩
    · cases h; exact ⟨_, _, rfl, rfl, T.is_Between_Paper⟩
    · cases h; exact ⟨_, _, rfl, rfl, T.is_Between_Between⟩
    · cases h; exact ⟨_, _, rfl, rfl, T.is_Between_ByPower⟩
    · cases h; exact ⟨_, _, rfl, rfl, T.is_Between_Uneven⟩
    · cases h; exact ⟨_, _, rfl, rfl, T.is_ByPower_Denial⟩
    · cases h; exact ⟨_, _, rfl, rfl, T.is_ByPower_Paper⟩
    · cases h; exact ⟨_, _, rfl, rfl, T.is_ByPower_Between⟩
    · cases h; exact ⟨_, _, rfl, rfl, T.is_ByPower_ByPower⟩
    · cases h; exact ⟨_, _, rfl, rfl, T.is_ByPower_Uneven⟩
    · cases h; exact ⟨_, _, rfl, rfl, T.is_Uneven_Denial⟩
    · cases h; exact ⟨_, _, rfl, rfl, T.is_Uneven_Paper⟩
    · cases h; exact ⟨_, _, rfl, rfl, T.is_Uneven_Between⟩
    · cases h; exact ⟨_, _, rfl, rfl, T.is_Uneven_ByPower⟩
    · cases h; exact ⟨_, _, rfl, rfl, T.is_Uneven_Uneven⟩
    · cases h
  · cases h
  · cases h
theorem at_low (T : Txt K mg) : ∀ c, (caOf T P w).ok c = true → ([] : List Nat).contains c = false → Cls K ((caOf T P w) c) ∧ NoAttr K ((caOf T P w) c) "low" := fun c h h2 => by
  rcases okL_cases h with rfl | rfl | rfl | rfl | rfl
  · exact ⟨T.k_Denial.cl, T.na_Denial_low⟩
  · exact ⟨T.k_Paper.cl, T.na_Paper_low⟩
  · exact ⟨T.k_Between.cl, T.na_Between_low⟩
  · exact ⟨T.k_ByPower.cl, T.na_ByPower_low⟩
  · exact ⟨T.k_Uneven.cl, T.na_Uneven_low⟩
theorem at_parts (T : Txt K mg) : ∀ c, (caOf T P w).ok c = true → ([] : List Nat).contains c = false → Cls K ((caOf T P w) c) ∧ NoAttr K ((caOf T P w) c) "parts" := fun c h h2 => by
  rcases okL_cases h with rfl | rfl | rfl | rfl | rfl
  · exact ⟨T.k_Denial.cl, T.na_Denial_parts⟩
  · exact ⟨T.k_Paper.cl, T.na_Paper_parts⟩
  · exact ⟨T.k_Between.cl, T.na_Between_parts⟩
  · exact ⟨T.k_ByPower.cl, T.na_ByPower_parts⟩
  · exact ⟨T.k_Uneven.cl, T.na_Uneven_parts⟩
theorem at_power (T : Txt K mg) : ∀ c, (caOf T P w).ok c = true → ([] : List Nat).contains c = false → Cls K ((caOf T P w) c) ∧ NoAttr K ((caOf T P w) c) "power" := fun c h h2 => by
  rcases okL_cases h with rfl | rfl | rfl | rfl | rfl
  · exact ⟨T.k_Denial.cl, T.na_Denial_power⟩
  · exact ⟨T.k_Paper.cl, T.na_Paper_power⟩
  · exact ⟨T.k_Between.cl, T.na_Between_power⟩
  · exact ⟨T.k_ByPower.cl, T.na_ByPower_power⟩
  · exact ⟨T.k_Uneven.cl, T.na_Uneven_power⟩
theorem at_step (T : Txt K mg) : ∀ c, (caOf T P w).ok c = true → ([] : List Nat).contains c = false → Cls K ((caOf T P w) c) ∧ NoAttr K ((caOf T P w) c) "step" := fun c h h2 => by
  rcases okL_cases h with rfl | rfl | rfl | rfl | rfl
  · exact ⟨T.k_Denial.cl, T.na_Denial_step⟩
  · exact ⟨T.k_Paper.cl, T.na_Paper_step⟩
  · exact ⟨T.k_Between.cl, T.na_Between_step⟩
  · exact ⟨T.k_ByPower.cl, T.na_ByPower_step⟩
  · exact ⟨T.k_Uneven.cl, T.na_Uneven_step⟩
theorem at_word (T : Txt K mg) : ∀ c, (caOf T P w).ok c = true → ([] : List Nat).contains c = false → Cls K ((caOf T P w) c) ∧ NoAttr K ((caOf T P w) c) "word" := fun c h h2 => by
  rcases okL_cases h with rfl | rfl | rfl | rfl | rfl
  · exact ⟨T.k_Denial.cl, T.na_Denial_word⟩
  · exact ⟨T.k_Paper.cl, T.na_Paper_word⟩
  · exact ⟨T.k_Between.cl, T.na_Between_word⟩
  · exact ⟨T.k_ByPower.cl, T.na_ByPower_word⟩
  · exact ⟨T.k_Uneven.cl, T.na_Uneven_word⟩
theorem kb_shows_power_of_row_0 (T : Txt K mg) : KBinds K T.f_shows_power_of_row.fd ["numbers", "value"] ["value", "numbers"] kg_shows_power_of_row_0 kg_shows_power_of_row_0 := by
  obtain ⟨oc, od, kV, doc, pm, an, cdv, ct, osl, e, lk, hcd⟩ := T.f_shows_power_of_row.F.ex
  refine ⟨fun s us ws X hl => ?_, fun {vs us zs ws} h1 h2 => ?_⟩
  · match us, ws, hl with
    | [], [w0, w1], _ =>
      rw [e]
      exact .of_eq rfl
    | [], [], hl => cases hl
    | [], [_], hl => cases hl
    | [], _ :: _ :: _ :: _, hl => cases hl
    | _ :: _, _, hl => cases hl
  · match vs, us, zs, ws, h1, h2 with
    | [], [], [_, _], [_, _], _, .cons z0 (.cons z1 .nil) => exact .cons z1 (.cons z0 .nil)
    | [], [], [], [], _, _ => exact .nil
    | [], [], [_], [_], _, _ => exact .nil
    | [], [], _ :: _ :: _ :: _, _ :: _ :: _ :: _, _, _ => exact .nil
    | _ :: _, _ :: _, _, _, _, _ => exact .nil
theorem kr_shows_power_of_row_0 {ca : CA} {F : Hp} {ds : List D} {vs : List V} (r : Reps K ca F ds vs) : Reps K ca F (kd_shows_power_of_row_0 ds) (kg_shows_power_of_row_0 [] vs) := by
  match ds, vs, r with
  | [_, _], [_, _], .cons z0 (.cons z1 .nil) => exact .cons z1 (.cons z0 .nil)
  | [], [], _ => exact .nil
  | [_], [_], _ => exact .nil
  | _ :: _ :: _ :: _, _ :: _ :: _ :: _, _ => exact .nil
theorem kb_power_of_row_1 (T : Txt K mg) : KBinds K T.f_power_of_row.fd ["numbers"] ["numbers"] kg_power_of_row_1 kg_power_of_row_1 := by
  obtain ⟨oc, od, kV, doc, pm, an, cdv, ct, osl, e, lk, hcd⟩ := T.f_power_of_row.F.ex
  refine ⟨fun s us ws X hl => ?_, fun {vs us zs ws} h1 h2 => ?_⟩
  · match us, ws, hl with
    | [], [w0], _ =>
      rw [e]
      exact .of_eq rfl
    | [], [], hl => cases hl
    | [], _ :: _ :: _, hl => cases hl
    | _ :: _, _, hl => cases hl
  · match vs, us, zs, ws, h1, h2 with
    | [], [], [_], [_], _, .cons z0 .nil => exact .cons z0 .nil
    | [], [], [], [], _, _ => exact .nil
    | [], [], _ :: _ :: _, _ :: _ :: _, _, _ => exact .nil
    | _ :: _, _ :: _, _, _, _, _ => exact .nil
theorem kr_power_of_row_1 {ca : CA} {F : Hp} {ds : List D} {vs : List V} (r : Reps K ca F ds vs) : Reps K ca F (kd_power_of_row_1 ds) (kg_power_of_row_1 [] vs) := by
  match ds, vs, r with
  | [_], [_], .cons z0 .nil => exact .cons z0 .nil
  | [], [], _ => exact .nil
  | _ :: _ :: _, _ :: _ :: _, _ => exact .nil
end
end Q

namespace Q
open PySem PySem.Spec PyProof.Rows L2 Dl
section
variable {P : Program} {w : World} {K : PySem.W.Frag} {mg : Str → Option Value} {base : Heap}
theorem ok_Paper__bool__ (T : Txt K mg) : FnOk P w K mg base (L2.CX P w) 1 T.f_Paper__bool__.a T.f_Paper__bool__.fd ["self"] (spD K (caOf T P w) 1 F_Paper__bool__) := by
  exact fn_D (own' := []) T.f_Paper__bool__.F sc_Paper__bool__ (fun B hB cdv A outer s H E hr => (sv_one (sv_ret ev_bl)))
theorem ok_Paper__eq__ (T : Txt K mg) : FnOk P w K mg base (L2.CX P w) 1 T.f_Paper__eq__.a T.f_Paper__eq__.fd ["self", "other"] (spD K (caOf T P w) 2 F_Paper__eq__) := by
  exact fn_D (own' := []) T.f_Paper__eq__.F sc_Paper__eq__ (fun B hB cdv A outer s H E hr => (sv_one (sv_ret (ev_and (ev_cmp clsIsD_ne (oo_clsIs (clsC T)) (ev_callT typeD_ne oc_type T.n_type (ea_cons (ev_v 0) ea_nil)) (ev_callT typeD_ne oc_type T.n_type (ea_cons (ev_v 1) ea_nil))) (ev_and (ev_cmp eqD_ne (oo_eq hr.units) (ev_fld (at_word T) (ev_v 0)) (ev_fld (at_word T) (ev_v 1))) (ev_and1 (ev_cmp eqD_ne (oo_eq hr.units) (ev_fld (at_parts T) (ev_v 0)) (ev_fld (at_parts T) (ev_v 1)))))))))
theorem ok_Denial__bool__ (T : Txt K mg) : FnOk P w K mg base (L2.CX P w) 1 T.f_Denial__bool__.a T.f_Denial__bool__.fd ["self"] (spD K (caOf T P w) 1 F_Denial__bool__) := by
  exact fn_D (own' := []) T.f_Denial__bool__.F sc_Denial__bool__ (fun B hB cdv A outer s H E hr => (sv_one (sv_ret ev_bl)))
theorem ok_Denial__eq__ (T : Txt K mg) : FnOk P w K mg base (L2.CX P w) 1 T.f_Denial__eq__.a T.f_Denial__eq__.fd ["self", "other"] (spD K (caOf T P w) 2 F_Denial__eq__) := by
  exact fn_D (own' := []) T.f_Denial__eq__.F sc_Denial__eq__ (fun B hB cdv A outer s H E hr => (sv_one (sv_ret (ev_and (ev_cmp clsIsD_ne (oo_clsIs (clsC T)) (ev_callT typeD_ne oc_type T.n_type (ea_cons (ev_v 0) ea_nil)) (ev_callT typeD_ne oc_type T.n_type (ea_cons (ev_v 1) ea_nil))) (ev_and (ev_cmp eqD_ne (oo_eq hr.units) (ev_fld (at_word T) (ev_v 0)) (ev_fld (at_word T) (ev_v 1))) (ev_and1 (ev_cmp eqD_ne (oo_eq hr.units) (ev_fld (at_parts T) (ev_v 0)) (ev_fld (at_parts T) (ev_v 1)))))))))
theorem eqT_ok (T : Txt K mg) : TabEq P w K mg base (caOf T P w) 1 eqT := fun c F h => by
  unfold eqT at h
  split at h
  · cases h; exact ⟨_, T.eq_Denial, rawD (ok_Denial__eq__ (P := P) (w := w) (base := base) T) T.f_Denial__eq__.b⟩
  · cases h; exact ⟨_, T.eq_Paper, rawD (ok_Paper__eq__ (P := P) (w := w) (base := base) T) T.f_Paper__eq__.b⟩
  · cases h; exact ⟨_, T.eq_Between, rawD (ok_Denial__eq__ (P := P) (w := w) (base := base) T) T.f_Denial__eq__.b⟩
  · cases h; exact ⟨_, T.eq_ByPower, rawD (ok_Paper__eq__ (P := P) (w := w) (base := base) T) T.f_Paper__eq__.b⟩
  · cases h; exact ⟨_, T.eq_Uneven, rawD (ok_Denial__eq__ (P := P) (w := w) (base := base) T) T.f_Denial__eq__.b⟩
  · cases h
theorem boT_ok (T : Txt K mg) : TabBo P w K mg base (caOf T P w) 1 boT := fun c F h => by
  unfold boT at h
  split at h
  · cases h; exact ⟨_, T.bo_Denial, rawD (ok_Denial__bool__ (P := P) (w := w) (base := base) T) T.f_Denial__bool__.b⟩
  · cases h; exact ⟨_, T.bo_Paper, rawD (ok_Paper__bool__ (P := P) (w := w) (base := base) T) T.f_Paper__bool__.b⟩
  · cases h; exact ⟨_, T.bo_Between, rawD (ok_Denial__bool__ (P := P) (w := w) (base := base) T) T.f_Denial__bool__.b⟩
  · cases h; exact ⟨_, T.bo_ByPower, rawD (ok_Paper__bool__ (P := P) (w := w) (base := base) T) T.f_Paper__bool__.b⟩
  · cases h; exact ⟨_, T.bo_Uneven, rawD (ok_Denial__bool__ (P := P) (w := w) (base := base) T) T.f_Denial__bool__.b⟩
  · cases h
theorem ok__law_hat (T : Txt K mg) : FnOk P w K mg base (L2.CX P w) 1 T.f__law_hat.a T.f__law_hat.fd ["_law_script"] (spN K (caOf T P w) 1 F__law_hat) := by
  exact fn_N (own' := []) T.f__law_hat.F sc__law_hat (fun B hB cdv A outer s H E hr => (sv_one (sv_retL (ev_lst (ea_cons (ev_ice (ev_lc rfl (so := [("_law_cell", 1)]) sc__law_hat.nd (ei_val (ev_slP (ev_v 0) ep_none (ep_some ev_int))) (blkOk_by (N := n__law_hat) (sc := defScope s__law_hat) (by decide +kernel)) (fun B1 hL1 s H Ca cl fp => (eg_name (i := 1) sc__law_hat.nd (.inl (by decide)))) (fun B1 hL1 s H Ca cl fp => ets_nil) (fun B1 hL1 s H Ca cl fp => (ev_callT intC_ne oc_int T.n_int (ea_cons (ev_v 1) ea_nil))) bName_ne)) (ea_cons ev_int (ea_cons ev_int ea_nil)))))))
theorem ok__law_lot (T : Txt K mg) : FnOk P w K mg base (L2.CX P w) 1 T.f__law_lot.a T.f__law_lot.fd ["_law_hat_here", "_law_many"] (spM K (caOf T P w) 2 F__law_lot) := by
  exact fn_M (own' := [0]) T.f__law_lot.F sc__law_lot (fun cdv B A outer s H E hr => (sv_cons (sv_if (et_cmp gtP_ne (oo_gtP hr) (ev_ixO 0 ev_int) ev_int) (sv_cons (sv_asg (i := 2) (own' := [0]) sc__law_lot.nd (ev_op (intD_ne modI_ne) oo_mod (ev_callT intC_ne oc_int T.n_int (ea_cons (ev_ixO 0 ev_int) ea_nil)) (ev_v 1)) (.inl (by decide))) (sv_cons (sv_set 0 (ev_op (intD_ne fdivI_ne) oo_fdiv (ev_callT intC_ne oc_int T.n_int (ea_cons (ev_ixO 0 ev_int) ea_nil)) (ev_v 1)) ev_int) (sv_one (sv_ret (ev_v 2))))) sv_nil) (sv_cons (sv_asg (i := 3) (own' := [0]) sc__law_lot.nd (ev_ixO 0 ev_int) (.inl (by decide))) (sv_cons (sv_set 0 (ev_op addP_ne oo_addP (ev_v 3) ev_int) ev_int) (sv_cons (sv_asg (i := 4) (own' := [0]) sc__law_lot.nd (ev_op addP_ne oo_addP (ev_op mulP_ne oo_mulP ev_int (ev_v 3)) ev_int) (.inl (by decide))) (sv_cons (sv_if (et_cmp neD_ne (oo_ne hr.units) (ev_ixO 0 ev_int) (ev_ice (ev_lst ea_nil))) (sv_one (sv_asg (i := 4) (own' := [0]) sc__law_lot.nd (ev_ix ixD_ne oo_ix (ev_ixO 0 ev_int) (ev_op (intD_ne modI_ne) oo_mod (ev_callT intC_ne oc_int T.n_int (ea_cons (ev_v 3) ea_nil)) (ev_callB lenP_ne oc_lenP T.n_len (ea_cons (ev_ixO 0 ev_int) ea_nil)))) (.inl (by decide)))) sv_nil) (sv_cons (sv_if (PW.pt (ew_and (et_cmp ltP_ne (oo_ltP hr) (ev_v 3) (ev_callB lenP_ne oc_lenP T.n_len (ea_cons (ev_ixO 0 ev_int) ea_nil))) (ew_and1 (et_cmp geP_ne (oo_geP hr) (ev_callB absD_ne oc_abs T.n_abs (ea_cons (ev_v 4) ea_nil)) (ev_op (intD_ne powI_ne) oo_pow ev_int ev_int))))) (sv_cons (sv_asg (i := 5) (own' := [0]) sc__law_lot.nd (ev_op addP_ne oo_addP (ev_op mulP_ne oo_mulP ev_int (ev_op (intD_ne subI_ne) oo_sub (ev_callB absD_ne oc_abs T.n_abs (ea_cons (ev_v 4) ea_nil)) (ev_op (intD_ne powI_ne) oo_pow ev_int ev_int))) (ev_callT intC_ne oc_int T.n_int (ea_cons (ev_cmp ltP_ne (oo_ltP hr) (ev_v 4) ev_int) ea_nil))) (.inl (by decide))) (sv_cons (sv_set 0 (ev_op (intD_ne fdivI_ne) oo_fdiv (ev_callT intC_ne oc_int T.n_int (ea_cons (ev_v 5) ea_nil)) (ev_v 1)) ev_int) (sv_one (sv_ret (ev_op (intD_ne modI_ne) oo_mod (ev_callT intC_ne oc_int T.n_int (ea_cons (ev_v 5) ea_nil)) (ev_v 1)))))) sv_nil) (sv_cons (sv_asg (i := 6) (own' := [0]) sc__law_lot.nd (ev_op (intD_ne modI_ne) oo_mod (ev_callT intC_ne oc_int T.n_int (ea_cons (ev_op (intD_ne powI_ne) oo_pow (ev_op addP_ne oo_addP (ev_op addP_ne oo_addP (ev_op (intD_ne modI_ne) oo_mod (ev_callT intC_ne oc_int T.n_int (ea_cons (ev_v 4) ea_nil)) ev_int) (ev_op mulP_ne oo_mulP ev_int (ev_v 3))) ev_int) ev_int) ea_nil)) ev_int) (.inl (by decide))) (sv_cons (sv_asg (i := 6) (own' := [0]) sc__law_lot.nd (ev_op (intD_ne modI_ne) oo_mod (ev_callT intC_ne oc_int T.n_int (ea_cons (ev_op (intD_ne powI_ne) oo_pow (ev_op addP_ne oo_addP (ev_op addP_ne oo_addP (ev_op mulP_ne oo_mulP (ev_v 6) (ev_op addP_ne oo_addP (ev_op mulP_ne oo_mulP ev_int (ev_v 3)) ev_int)) (ev_op mulP_ne oo_mulP (ev_op mulP_ne oo_mulP ev_int (ev_v 3)) (ev_v 3))) ev_int) ev_int) ea_nil)) ev_int) (.inl (by decide))) (sv_one (sv_ret (ev_op (intD_ne modI_ne) oo_mod (ev_callT intC_ne oc_int T.n_int (ea_cons (ev_op (intD_ne fdivI_ne) oo_fdiv (ev_v 6) ev_int) ea_nil)) (ev_v 1)))))))))))))
theorem ok__law_one (T : Txt K mg) : FnOk P w K mg base (L2.CX P w) 4 T.f__law_one.a T.f__law_one.fd ["_law_hat_here", "_law_some"] (spM K (caOf T P w) 2 F__law_one) := by
  have G__law_lot := ok__law_lot (P := P) (w := w) (base := base) T
  exact fn_M (own' := [0]) T.f__law_one.F sc__law_one (fun cdv B A outer s H E hr => (sv_one (sv_ret (ev_ix ixD_ne oo_ix (ev_v 1) (ev_callM 0 G__law_lot (hr.mono (by decide)) T.f__law_lot.g T.f__law_lot.F.kp T.f__law_lot.b (pxT tk_of) (ea_cons (ev_callB lenP_ne oc_lenP T.n_len (ea_cons (ev_v 1) ea_nil)) ea_nil))))))
theorem ok__law_begun (T : Txt K mg) : FnOk P w K mg base (L2.CX P w) 7 T.f__law_begun.a T.f__law_begun.fd ["_law_hat_here"] (spM K (caOf T P w) 1 F__law_begun) := by
  have G__law_lot := ok__law_lot (P := P) (w := w) (base := base) T
  have G__law_one := ok__law_one (P := P) (w := w) (base := base) T
  exact fn_M (own' := [0]) T.f__law_begun.F sc__law_begun (fun cdv B A outer s H E hr => (sv_cons (sv_tgt (ev_tup (ea_cons (ev_callM 0 G__law_lot (hr.mono (by decide)) T.f__law_lot.g T.f__law_lot.F.kp T.f__law_lot.b (pxT tk_of) (ea_cons ev_int ea_nil)) (ea_cons (ev_op addP_ne oo_addP ev_int (ev_callM 0 G__law_lot (hr.mono (by decide)) T.f__law_lot.g T.f__law_lot.F.kp T.f__law_lot.b (pxT tk_of) (ea_cons ev_int ea_nil))) (ea_cons (ev_op addP_ne oo_addP ev_int (ev_callM 0 G__law_lot (hr.mono (by decide)) T.f__law_lot.g T.f__law_lot.F.kp T.f__law_lot.b (pxT tk_of) (ea_cons ev_int ea_nil))) (ea_cons (ev_op addP_ne oo_addP ev_int (ev_callM 0 G__law_lot (hr.mono (by decide)) T.f__law_lot.g T.f__law_lot.F.kp T.f__law_lot.b (pxT tk_of) (ea_cons ev_int ea_nil))) ea_nil))))) (eg_seq rfl (egs_cons (eg_name (i := 1) sc__law_begun.nd (.inl (by decide))) (egs_cons (eg_name (i := 2) sc__law_begun.nd (.inl (by decide))) (egs_cons (eg_name (i := 3) sc__law_begun.nd (.inl (by decide))) (egs_cons (eg_name (i := 4) sc__law_begun.nd (.inl (by decide))) egs_nil))))) (bSeq_ne (bCons_ne bName_ne (bCons_ne bName_ne (bCons_ne bName_ne (bCons_ne bName_ne bNil_ne)))))) (sv_cons (sv_if (et_cmp eqD_ne (oo_eq hr.units) (ev_v 1) ev_int) (sv_one (sv_ret (ev_tup (ea_cons (ev_v 2) (ea_cons (ev_op addP_ne oo_addP (ev_v 2) (ev_v 3)) (ea_cons ev_int ea_nil)))))) sv_nil) (sv_cons (sv_if (et_cmp eqD_ne (oo_eq hr.units) (ev_v 1) ev_int) (sv_one (sv_ret (ev_tup (ea_cons (ev_v 2) (ea_cons (ev_if (et_cmp ltP_ne (oo_ltP hr) (ev_op mulP_ne oo_mulP (ev_v 2) (ev_op addP_ne oo_addP ev_int (ev_v 4))) ev_int) (ev_op mulP_ne oo_mulP (ev_v 2) (ev_op addP_ne oo_addP ev_int (ev_v 4))) (ev_op addP_ne oo_addP (ev_v 2) ev_int)) (ea_cons ev_int ea_nil)))))) sv_nil) (sv_cons (sv_if (et_cmp eqD_ne (oo_eq hr.units) (ev_v 1) ev_int) (sv_cons (sv_asg (i := 5) (own' := [0]) sc__law_begun.nd (ev_op addP_ne oo_addP ev_int (ev_op (intD_ne modI_ne) oo_mod (ev_callT intC_ne oc_int T.n_int (ea_cons (ev_v 3) ea_nil)) ev_int)) (.inl (by decide))) (sv_one (sv_ret (ev_tup (ea_cons (ev_op mulP_ne oo_mulP (ev_op mulP_ne oo_mulP (ev_v 4) (ev_v 5)) (ev_v 5)) (ea_cons (ev_op mulP_ne oo_mulP (ev_op mulP_ne oo_mulP (ev_v 4) (ev_v 5)) (ev_op addP_ne oo_addP (ev_v 5) ev_int)) (ea_cons ev_int ea_nil))))))) sv_nil) (sv_cons (sv_if (et_cmp eqD_ne (oo_eq hr.units) (ev_v 1) ev_int) (sv_cons (sv_tgt (ev_callM 0 G__law_one (hr.mono (by decide)) T.f__law_one.g T.f__law_one.F.kp T.f__law_one.b (pxT tk_of) (ea_cons (ev_ice (ev_lst (ea_cons (ev_tup (ea_cons ev_int (ea_cons ev_int ea_nil))) (ea_cons (ev_tup (ea_cons ev_int (ea_cons ev_int ea_nil))) (ea_cons (ev_tup (ea_cons ev_int (ea_cons ev_int ea_nil))) (ea_cons (ev_tup (ea_cons ev_int (ea_cons ev_int ea_nil))) (ea_cons (ev_tup (ea_cons ev_int (ea_cons ev_int ea_nil))) (ea_cons (ev_tup (ea_cons ev_int (ea_cons ev_int ea_nil))) ea_nil)))))))) ea_nil)) (eg_seq rfl (egs_cons (eg_name (i := 2) sc__law_begun.nd (.inl (by decide))) (egs_cons (eg_name (i := 6) sc__law_begun.nd (.inl (by decide))) egs_nil))) (bSeq_ne (bCons_ne bName_ne (bCons_ne bName_ne bNil_ne)))) (sv_cons (sv_asg (i := 7) (own' := [0]) sc__law_begun.nd (ev_if (et_cmp ltP_ne (oo_ltP hr) (ev_op mulP_ne oo_mulP (ev_callB max2D_ne (oc_max2 rfl) T.n_max (ea_cons (ev_v 2) (ea_cons (ev_v 6) ea_nil))) (ev_v 4)) ev_int) (ev_v 4) ev_int) (.inl (by decide))) (sv_one (sv_ret (ev_tup (ea_cons (ev_op mulP_ne oo_mulP (ev_v 2) (ev_v 7)) (ea_cons (ev_op mulP_ne oo_mulP (ev_v 6) (ev_v 7)) (ea_cons ev_int ea_nil)))))))) sv_nil) (sv_cons (sv_if (et_cmp eqD_ne (oo_eq hr.units) (ev_v 1) ev_int) (sv_cons (sv_asg (i := 8) (own' := [0]) sc__law_begun.nd (ev_callM 0 G__law_one (hr.mono (by decide)) T.f__law_one.g T.f__law_one.F.kp T.f__law_one.b (pxT tk_of) (ea_cons (ev_ice (ev_lst (ea_cons ev_int (ea_cons ev_int (ea_cons ev_int (ea_cons ev_int (ea_cons ev_int (ea_cons ev_int ea_nil)))))))) ea_nil)) (.inl (by decide))) (sv_one (sv_ret (ev_tup (ea_cons (ev_op (intD_ne fdivI_ne) oo_fdiv (ev_v 8) (ev_op addP_ne oo_addP ev_int (ev_v 4))) (ea_cons (ev_op (intD_ne fdivI_ne) oo_fdiv (ev_v 8) (ev_op addP_ne oo_addP ev_int (ev_v 4))) (ea_cons (ev_un negD_ne oo_neg ev_int) ea_nil))))))) sv_nil) (sv_cons (sv_if (et_cmp eqD_ne (oo_eq hr.units) (ev_v 1) ev_int) (sv_one (sv_ret (ev_tup (ea_cons (ev_v 2) (ea_cons (ev_v 2) (ea_cons (ev_op (intD_ne subI_ne) oo_sub (ev_callM 0 G__law_lot (hr.mono (by decide)) T.f__law_lot.g T.f__law_lot.F.kp T.f__law_lot.b (pxT tk_of) (ea_cons ev_int ea_nil)) ev_int) ea_nil)))))) sv_nil) (sv_one (sv_ret (ev_tup (ea_cons (ev_op addP_ne oo_addP ev_int (ev_callM 0 G__law_lot (hr.mono (by decide)) T.f__law_lot.g T.f__law_lot.F.kp T.f__law_lot.b (pxT tk_of) (ea_cons ev_int ea_nil))) (ea_cons (ev_op addP_ne oo_addP ev_int (ev_callM 0 G__law_lot (hr.mono (by decide)) T.f__law_lot.g T.f__law_lot.F.kp T.f__law_lot.b (pxT tk_of) (ea_cons ev_int ea_nil))) (ea_cons (ev_callM 0 G__law_one (hr.mono (by decide)) T.f__law_one.g T.f__law_one.F.kp T.f__law_one.b (pxT tk_of) (ea_cons (ev_ice (ev_lst (ea_cons (ev_op (intD_ne subI_ne) oo_sub (ev_callM 0 G__law_lot (hr.mono (by decide)) T.f__law_lot.g T.f__law_lot.F.kp T.f__law_lot.b (pxT tk_of) (ea_cons ev_int ea_nil)) ev_int) (ea_cons (ev_op (intD_ne subI_ne) oo_sub (ev_callM 0 G__law_lot (hr.mono (by decide)) T.f__law_lot.g T.f__law_lot.F.kp T.f__law_lot.b (pxT tk_of) (ea_cons ev_int ea_nil)) ev_int) ea_nil)))) ea_nil)) ea_nil))))))))))))))
theorem ok_is_integer (T : Txt K mg) : FnOk P w K mg base (L2.CX P w) 1 T.f_is_integer.a T.f_is_integer.fd ["value"] (spD K (caOf T P w) 1 F_is_integer) := by
  exact fn_D (own' := []) T.f_is_integer.F sc_is_integer (fun B hB cdv A outer s H E hr => (sv_one (sv_ret (ev_and (ev_callB isiD_ne (oc_isi (clsC T) (subG_ok T)) T.n_isinstance (ea_cons (ev_v 0) (ea_cons (ev_k (pe_bltn (v := .ty "int") (by rfl) T.n_int (by decide +kernel) rfl) fun _ => .ty _) ea_nil))) (ev_and1 (ev_not (ev_callB isiD_ne (oc_isi (clsC T) (subG_ok T)) T.n_isinstance (ea_cons (ev_v 0) (ea_cons (ev_k (pe_bltn (v := .ty "bool") (by rfl) T.n_bool (by decide +kernel) rfl) fun _ => .ty _) ea_nil)))))))))
theorem ok_is_within (T : Txt K mg) : FnOk P w K mg base (L2.CX P w) 4 T.f_is_within.a T.f_is_within.fd ["value", "least", "most"] (spD K (caOf T P w) 3 F_is_within) := by
  have G_is_integer := ok_is_integer (P := P) (w := w) (base := base) T
  exact fn_D (own' := []) T.f_is_within.F sc_is_within (fun B hB cdv A outer s H E hr => (sv_cons (sv_if (et_not (et_val (ev_call G_is_integer (hr.mono (by decide)) T.f_is_integer.g T.f_is_integer.F.kp T.f_is_integer.b (pxT tk_of) (ea_cons (ev_v 0) ea_nil)))) (sv_one (sv_ret ev_bl)) sv_nil) (sv_one (sv_ret (ev_and (ev_or (ev_cmp isD_ne oo_is (ev_v 1) ev_non) (ev_and1 (ev_cmp geP_ne (oo_geP hr) (ev_v 0) (ev_v 1)))) (ev_and1 (ev_or (ev_cmp isD_ne oo_is (ev_v 2) ev_non) (ev_and1 (ev_cmp leP_ne (oo_leP hr) (ev_v 0) (ev_v 2))))))))))
theorem ok_need_within (T : Txt K mg) : FnOk P w K mg base (L2.CX P w) 7 T.f_need_within.a T.f_need_within.fd ["part", "value", "least", "most"] (spD K (caOf T P w) 4 F_need_within) := by
  have G_is_within := ok_is_within (P := P) (w := w) (base := base) T
  exact fn_D (own' := []) T.f_need_within.F sc_need_within (fun B hB cdv A outer s H E hr => (sv_one (sv_if (et_not (et_val (ev_call G_is_within (hr.mono (by decide)) T.f_is_within.g T.f_is_within.F.kp T.f_is_within.b (pxT tk_of) (ea_cons (ev_v 1) (ea_cons (ev_v 2) (ea_cons (ev_v 3) ea_nil)))))) (sv_one sv_never) sv_nil)))
theorem ok_need_numbers (T : Txt K mg) : FnOk P w K mg base (L2.CX P w) 10 T.f_need_numbers.a T.f_need_numbers.fd ["named", "most"] (spD K (caOf T P w) 2 F_need_numbers) := by
  have G_need_within := ok_need_within (P := P) (w := w) (base := base) T
  exact fn_D (own' := []) T.f_need_numbers.F sc_need_numbers (fun B hB cdv A outer s H E hr => (sv_one (sv_for ps_of rfl (ei_val (ev_v 0)) (eg_seq rfl (egs_cons (eg_name (i := 2) sc_need_numbers.nd (.inl (by decide))) (egs_cons (eg_name (i := 3) sc_need_numbers.nd (.inl (by decide))) egs_nil))) (bSeq_ne (bCons_ne bName_ne (bCons_ne bName_ne bNil_ne))) (sv_one (sv_expr (ev_call G_need_within (hr.mono (by decide)) T.f_need_within.g T.f_need_within.F.kp T.f_need_within.b (pxT tk_of) (ea_cons (ev_v 2) (ea_cons (ev_v 3) (ea_cons ev_int (ea_cons (ev_v 1) ea_nil))))))))))
end
end Q

namespace Q
open PySem PySem.Spec PyProof.Rows L2 Dl
section
variable {P : Program} {w : World} {K : PySem.W.Frag} {mg : Str → Option Value} {base : Heap}
theorem ok_need_power (T : Txt K mg) : FnOk P w K mg base (L2.CX P w) 10 T.f_need_power.a T.f_need_power.fd ["power"] (spD K (caOf T P w) 1 F_need_power) := by
  have G_need_within := ok_need_within (P := P) (w := w) (base := base) T
  exact fn_D (own' := []) T.f_need_power.F sc_need_power (fun B hB cdv A outer s H E hr => (sv_one (sv_expr (ev_call G_need_within (hr.mono (by decide)) T.f_need_within.g T.f_need_within.F.kp T.f_need_within.b (pxT tk_of) (ea_cons ev_str (ea_cons (ev_v 0) (ea_cons (ev_k (pe_glob (v := .int (-80)) rfl T.c_LEAST_POWER ⟨_, rfl⟩) fun _ => .int _) (ea_cons (ev_k (pe_glob (v := .int (80)) rfl T.c_MOST_POWER ⟨_, rfl⟩) fun _ => .int _) ea_nil))))))))
theorem ok_raised (T : Txt K mg) : FnOk P w K mg base (L2.CX P w) 1 T.f_raised.a T.f_raised.fd ["number", "times"] (spD K (caOf T P w) 2 F_raised) := by
  exact fn_D (own' := []) T.f_raised.F sc_raised (fun B hB cdv A outer s H E hr => (sv_cons (sv_asg (i := 2) (own' := []) sc_raised.nd ev_int (.inl (by decide))) (sv_cons (sv_while 1000 ps_of (et_cmp gtP_ne (oo_gtP hr) (ev_v 1) ev_int) (sv_cons (sv_if (et_tru (ev_op (intD_ne andI_ne) oo_and (ev_v 1) ev_int)) (sv_one (sv_asg (i := 2) (own' := []) sc_raised.nd (ev_op mulP_ne oo_mulP (ev_v 2) (ev_v 0)) (.inl (by decide)))) sv_nil) (sv_cons (sv_asg (i := 0) (own' := []) sc_raised.nd (ev_op mulP_ne oo_mulP (ev_v 0) (ev_v 0)) (.inr hB)) (sv_one (sv_asg (i := 1) (own' := []) sc_raised.nd (ev_op (intD_ne shrI_ne) oo_shr (ev_v 1) ev_int) (.inl (by decide))))))) (sv_one (sv_ret (ev_v 2))))))
theorem ok_fourth_quotient (T : Txt K mg) : FnOk P w K mg base (L2.CX P w) 4 T.f_fourth_quotient.a T.f_fourth_quotient.fd ["a", "b", "c", "power"] (spD K (caOf T P w) 4 F_fourth_quotient) := by
  have G_raised := ok_raised (P := P) (w := w) (base := base) T
  exact fn_D (own' := []) T.f_fourth_quotient.F sc_fourth_quotient (fun B hB cdv A outer s H E hr => (sv_cons (sv_if (et_cmp eqD_ne (oo_eq hr.units) (ev_v 3) ev_int) (sv_one (sv_ret (ev_tup (ea_cons ev_int (ea_cons (ev_op mulP_ne oo_mulP (ev_v 1) (ev_v 2)) (ea_cons (ev_v 0) ea_nil)))))) sv_nil) (sv_cons (sv_if (et_cmp gtP_ne (oo_gtP hr) (ev_v 3) ev_int) (sv_one (sv_par3 (i := 4) (j := 5) (l := 6) (own' := []) rfl sc_fourth_quotient.nd (ea_cons (ev_v 3) (ea_cons (ev_op (intD_ne subI_ne) oo_sub (ev_op addP_ne oo_addP (ev_call G_raised (hr.mono (by decide)) T.f_raised.g T.f_raised.F.kp T.f_raised.b (pxT tk_of) (ea_cons (ev_v 1) (ea_cons (ev_v 3) ea_nil))) (ev_call G_raised (hr.mono (by decide)) T.f_raised.g T.f_raised.F.kp T.f_raised.b (pxT tk_of) (ea_cons (ev_v 2) (ea_cons (ev_v 3) ea_nil)))) (ev_call G_raised (hr.mono (by decide)) T.f_raised.g T.f_raised.F.kp T.f_raised.b (pxT tk_of) (ea_cons (ev_v 0) (ea_cons (ev_v 3) ea_nil)))) (ea_cons ev_int ea_nil))) (.inl (by decide)) (.inl (by decide)) (.inl (by decide)))) (sv_cons (sv_par2 (i := 4) (j := 5) (own' := []) rfl sc_fourth_quotient.nd (ea_cons (ev_un negD_ne oo_neg (ev_v 3)) (ea_cons (ev_call G_raised (hr.mono (by decide)) T.f_raised.g T.f_raised.F.kp T.f_raised.b (pxT tk_of) (ea_cons (ev_op mulP_ne oo_mulP (ev_op mulP_ne oo_mulP (ev_v 0) (ev_v 1)) (ev_v 2)) (ea_cons (ev_un negD_ne oo_neg (ev_v 3)) ea_nil))) ea_nil)) (.inl (by decide)) (.inl (by decide))) (sv_one (sv_asg (i := 6) (own' := []) sc_fourth_quotient.nd (ev_op (intD_ne subI_ne) oo_sub (ev_op addP_ne oo_addP (ev_call G_raised (hr.mono (by decide)) T.f_raised.g T.f_raised.F.kp T.f_raised.b (pxT tk_of) (ea_cons (ev_op mulP_ne oo_mulP (ev_v 0) (ev_v 2)) (ea_cons (ev_v 4) ea_nil))) (ev_call G_raised (hr.mono (by decide)) T.f_raised.g T.f_raised.F.kp T.f_raised.b (pxT tk_of) (ea_cons (ev_op mulP_ne oo_mulP (ev_v 0) (ev_v 1)) (ea_cons (ev_v 4) ea_nil)))) (ev_call G_raised (hr.mono (by decide)) T.f_raised.g T.f_raised.F.kp T.f_raised.b (pxT tk_of) (ea_cons (ev_op mulP_ne oo_mulP (ev_v 1) (ev_v 2)) (ea_cons (ev_v 4) ea_nil)))) (.inl (by decide)))))) (sv_one (sv_ret (ev_if (PW.pt (ew_and (et_cmp gtP_ne (oo_gtP hr) (ev_v 5) ev_int) (ew_and1 (et_cmp gtP_ne (oo_gtP hr) (ev_v 6) ev_int)))) (ev_tup (ea_cons (ev_v 4) (ea_cons (ev_v 5) (ea_cons (ev_v 6) ea_nil)))) ev_non))))))
theorem ok_side_of (T : Txt K mg) : FnOk P w K mg base (L2.CX P w) 4 T.f_side_of.a T.f_side_of.fd ["number", "quotient"] (spD K (caOf T P w) 2 F_side_of) := by
  have G_raised := ok_raised (P := P) (w := w) (base := base) T
  exact fn_D (own' := []) T.f_side_of.F sc_side_of (fun B hB cdv A outer s H E hr => (sv_cons (sv_tgt (ev_v 1) (eg_seq rfl (egs_cons (eg_name (i := 2) sc_side_of.nd (.inl (by decide))) (egs_cons (eg_name (i := 3) sc_side_of.nd (.inl (by decide))) (egs_cons (eg_name (i := 4) sc_side_of.nd (.inl (by decide))) egs_nil)))) (bSeq_ne (bCons_ne bName_ne (bCons_ne bName_ne (bCons_ne bName_ne bNil_ne))))) (sv_one (sv_ret (ev_op (intD_ne subI_ne) oo_sub (ev_op mulP_ne oo_mulP (ev_call G_raised (hr.mono (by decide)) T.f_raised.g T.f_raised.F.kp T.f_raised.b (pxT tk_of) (ea_cons (ev_v 0) (ea_cons (ev_v 2) ea_nil))) (ev_v 4)) (ev_v 3))))))
theorem ok_whole_below (T : Txt K mg) : FnOk P w K mg base (L2.CX P w) 7 T.f_whole_below.a T.f_whole_below.fd ["quotient"] (spD K (caOf T P w) 1 F_whole_below) := by
  have G_side_of := ok_side_of (P := P) (w := w) (base := base) T
  exact fn_D (own' := []) T.f_whole_below.F sc_whole_below (fun B hB cdv A outer s H E hr => (sv_cons (sv_asg (i := 1) (own' := []) sc_whole_below.nd ev_int (.inl (by decide))) (sv_cons (sv_while 1000 ps_of (et_cmp leP_ne (oo_leP hr) (ev_call G_side_of (hr.mono (by decide)) T.f_side_of.g T.f_side_of.F.kp T.f_side_of.b (pxT tk_of) (ea_cons (ev_v 1) (ea_cons (ev_v 0) ea_nil))) ev_int) (sv_one (sv_asg (i := 1) (own' := []) sc_whole_below.nd (ev_op mulP_ne oo_mulP (ev_v 1) ev_int) (.inl (by decide))))) (sv_cons (sv_asg (i := 2) (own' := []) sc_whole_below.nd (ev_op (intD_ne fdivI_ne) oo_fdiv (ev_v 1) ev_int) (.inl (by decide))) (sv_cons (sv_while 1000 ps_of (et_cmp gtP_ne (oo_gtP hr) (ev_op (intD_ne subI_ne) oo_sub (ev_v 1) (ev_v 2)) ev_int) (sv_cons (sv_asg (i := 3) (own' := []) sc_whole_below.nd (ev_op (intD_ne fdivI_ne) oo_fdiv (ev_op addP_ne oo_addP (ev_v 2) (ev_v 1)) ev_int) (.inl (by decide))) (sv_one (sv_if (et_cmp leP_ne (oo_leP hr) (ev_call G_side_of (hr.mono (by decide)) T.f_side_of.g T.f_side_of.F.kp T.f_side_of.b (pxT tk_of) (ea_cons (ev_v 3) (ea_cons (ev_v 0) ea_nil))) ev_int) (sv_one (sv_asg (i := 2) (own' := []) sc_whole_below.nd (ev_v 3) (.inl (by decide)))) (sv_one (sv_asg (i := 1) (own' := []) sc_whole_below.nd (ev_v 3) (.inl (by decide)))))))) (sv_one (sv_ret (ev_v 2))))))))
theorem ok_whole_fourth (T : Txt K mg) : FnOk P w K mg base (L2.CX P w) 10 T.f_whole_fourth.a T.f_whole_fourth.fd ["a", "b", "c", "power"] (spD K (caOf T P w) 4 F_whole_fourth) := by
  have G_fourth_quotient := ok_fourth_quotient (P := P) (w := w) (base := base) T
  have G_whole_below := ok_whole_below (P := P) (w := w) (base := base) T
  have G_side_of := ok_side_of (P := P) (w := w) (base := base) T
  exact fn_D (own' := []) T.f_whole_fourth.F sc_whole_fourth (fun B hB cdv A outer s H E hr => (sv_cons (sv_asg (i := 4) (own' := []) sc_whole_fourth.nd (ev_call G_fourth_quotient (hr.mono (by decide)) T.f_fourth_quotient.g T.f_fourth_quotient.F.kp T.f_fourth_quotient.b (pxT tk_of) (ea_cons (ev_v 0) (ea_cons (ev_v 1) (ea_cons (ev_v 2) (ea_cons (ev_v 3) ea_nil))))) (.inl (by decide))) (sv_cons (sv_if (et_cmp isD_ne oo_is (ev_v 4) ev_non) (sv_one (sv_ret ev_non)) sv_nil) (sv_cons (sv_asg (i := 5) (own' := []) sc_whole_fourth.nd (ev_call G_whole_below (hr.mono (by decide)) T.f_whole_below.g T.f_whole_below.F.kp T.f_whole_below.b (pxT tk_of) (ea_cons (ev_v 4) ea_nil)) (.inl (by decide))) (sv_one (sv_ret (ev_if (et_cmp eqD_ne (oo_eq hr.units) (ev_call G_side_of (hr.mono (by decide)) T.f_side_of.g T.f_side_of.F.kp T.f_side_of.b (pxT tk_of) (ea_cons (ev_v 5) (ea_cons (ev_v 4) ea_nil))) ev_int) (ev_v 5) ev_non)))))))
theorem ok_numbers_by (T : Txt K mg) : FnOk P w K mg base (L2.CX P w) 13 T.f_numbers_by.a T.f_numbers_by.fd ["first", "second", "many", "power"] (spD K (caOf T P w) 4 F_numbers_by) := by
  have G_need_numbers := ok_need_numbers (P := P) (w := w) (base := base) T
  have G_need_within := ok_need_within (P := P) (w := w) (base := base) T
  have G_need_power := ok_need_power (P := P) (w := w) (base := base) T
  have G_whole_fourth := ok_whole_fourth (P := P) (w := w) (base := base) T
  exact fn_D (own' := []) T.f_numbers_by.F sc_numbers_by (fun B hB cdv A outer s H E hr => (sv_cons (sv_expr (ev_call G_need_numbers (hr.mono (by decide)) T.f_need_numbers.g T.f_need_numbers.F.kp T.f_need_numbers.b (pxT tk_of) (ea_cons (ev_ice (ev_lst (ea_cons (ev_tup (ea_cons ev_str (ea_cons (ev_v 0) ea_nil))) (ea_cons (ev_tup (ea_cons ev_str (ea_cons (ev_v 1) ea_nil))) ea_nil)))) (ea_cons (ev_k (pe_glob (v := .int (99)) rfl T.c_MOST_SMALL ⟨_, rfl⟩) fun _ => .int _) ea_nil)))) (sv_cons (sv_expr (ev_call G_need_within (hr.mono (by decide)) T.f_need_within.g T.f_need_within.F.kp T.f_need_within.b (pxT tk_of) (ea_cons ev_str (ea_cons (ev_v 2) (ea_cons ev_int (ea_cons (ev_k (pe_glob (v := .int (12)) rfl T.c_MOST_LONG ⟨_, rfl⟩) fun _ => .int _) ea_nil)))))) (sv_cons (sv_expr (ev_call G_need_power (hr.mono (by decide)) T.f_need_power.g T.f_need_power.F.kp T.f_need_power.b (pxT tk_of) (ea_cons (ev_v 3) ea_nil))) (sv_cons (sv_asgN (i := 4) (own' := [4]) sc_numbers_by.nd (ev_lst (ea_cons (ev_v 0) (ea_cons (ev_v 1) ea_nil))) (.inl (by decide))) (sv_cons (sv_while 1000 ps_of (et_look (fun B1 hK1 => (et_cmp ltP_ne (oo_ltP hr) (ev_callB lenP_ne oc_lenP T.n_len (ea_cons (ev_v 4) ea_nil)) (ev_v 2)))) (sv_cons (sv_asg (i := 5) (own' := [4]) sc_numbers_by.nd (ev_call G_whole_fourth (hr.mono (by decide)) T.f_whole_fourth.g T.f_whole_fourth.F.kp T.f_whole_fourth.b (pxT tk_of) (ea_cons (ev_ixO 4 (ev_un negD_ne oo_neg ev_int)) (ea_cons (ev_ixO 4 (ev_un negD_ne oo_neg ev_int)) (ea_cons (ev_ixO 4 (ev_un negD_ne oo_neg ev_int)) (ea_cons (ev_v 3) ea_nil))))) (.inl (by decide))) (sv_cons (sv_if (et_cmp isD_ne oo_is (ev_v 5) ev_non) (sv_one sv_brk) sv_nil) (sv_one (sv_expr (ev_mth 4 PySem.F.plainAttrs_list PySem.F.slot_list_append PySem.F.type_list_append om_append (ea_cons (ev_v 5) ea_nil))))))) (sv_one (sv_fz (own1 := []) 4 (sv_ret (ev_callT tupC_ne oc_tuple T.n_tuple (ea_cons (ev_v 4) ea_nil))) (.inl (by decide))))))))))
theorem ok__law_raised (T : Txt K mg) : FnOk P w K mg base (L2.CX P w) 1 T.f__law_raised.a T.f__law_raised.fd ["_law_number", "_law_many"] (spD K (caOf T P w) 2 F__law_raised) := by
  exact fn_D (own' := []) T.f__law_raised.F sc__law_raised (fun B hB cdv A outer s H E hr => (sv_cons (sv_asg (i := 2) (own' := []) sc__law_raised.nd ev_int (.inl (by decide))) (sv_cons (sv_for ps_of rfl (ei_range1 T.n_range (ea_cons (ev_v 1) ea_nil)) (eg_name (i := 3) sc__law_raised.nd (.inl (by decide))) bName_ne (sv_one (sv_asg (i := 2) (own' := []) sc__law_raised.nd (ev_op mulP_ne oo_mulP (ev_v 2) (ev_v 0)) (.inl (by decide))))) (sv_one (sv_ret (ev_v 2))))))
theorem ok__law_wanted (T : Txt K mg) : FnOk P w K mg base (L2.CX P w) 4 T.f__law_wanted.a T.f__law_wanted.fd ["_law_a", "_law_b", "_law_c", "_law_power_here"] (spD K (caOf T P w) 4 F__law_wanted) := by
  have G__law_raised := ok__law_raised (P := P) (w := w) (base := base) T
  exact fn_D (own' := []) T.f__law_wanted.F sc__law_wanted (fun B hB cdv A outer s H E hr => (sv_cons (sv_if (et_cmp eqD_ne (oo_eq hr.units) (ev_v 3) ev_int) (sv_one (sv_ret (ev_tup (ea_cons (ev_op mulP_ne oo_mulP (ev_v 1) (ev_v 2)) (ea_cons (ev_v 0) (ea_cons ev_int ea_nil)))))) sv_nil) (sv_cons (sv_asg (i := 4) (own' := []) sc__law_wanted.nd (ev_callB absD_ne oc_abs T.n_abs (ea_cons (ev_v 3) ea_nil)) (.inl (by decide))) (sv_cons (sv_if (et_cmp gtP_ne (oo_gtP hr) (ev_v 3) ev_int) (sv_one (sv_ret (ev_tup (ea_cons (ev_op (intD_ne subI_ne) oo_sub (ev_op addP_ne oo_addP (ev_call G__law_raised (hr.mono (by decide)) T.f__law_raised.g T.f__law_raised.F.kp T.f__law_raised.b (pxT tk_of) (ea_cons (ev_v 1) (ea_cons (ev_v 4) ea_nil))) (ev_call G__law_raised (hr.mono (by decide)) T.f__law_raised.g T.f__law_raised.F.kp T.f__law_raised.b (pxT tk_of) (ea_cons (ev_v 2) (ea_cons (ev_v 4) ea_nil)))) (ev_call G__law_raised (hr.mono (by decide)) T.f__law_raised.g T.f__law_raised.F.kp T.f__law_raised.b (pxT tk_of) (ea_cons (ev_v 0) (ea_cons (ev_v 4) ea_nil)))) (ea_cons ev_int (ea_cons (ev_v 4) ea_nil)))))) sv_nil) (sv_one (sv_ret (ev_tup (ea_cons (ev_call G__law_raised (hr.mono (by decide)) T.f__law_raised.g T.f__law_raised.F.kp T.f__law_raised.b (pxT tk_of) (ea_cons (ev_op mulP_ne oo_mulP (ev_op mulP_ne oo_mulP (ev_v 0) (ev_v 1)) (ev_v 2)) (ea_cons (ev_v 4) ea_nil))) (ea_cons (ev_op (intD_ne subI_ne) oo_sub (ev_op addP_ne oo_addP (ev_call G__law_raised (hr.mono (by decide)) T.f__law_raised.g T.f__law_raised.F.kp T.f__law_raised.b (pxT tk_of) (ea_cons (ev_op mulP_ne oo_mulP (ev_v 0) (ev_v 2)) (ea_cons (ev_v 4) ea_nil))) (ev_call G__law_raised (hr.mono (by decide)) T.f__law_raised.g T.f__law_raised.F.kp T.f__law_raised.b (pxT tk_of) (ea_cons (ev_op mulP_ne oo_mulP (ev_v 0) (ev_v 1)) (ea_cons (ev_v 4) ea_nil)))) (ev_call G__law_raised (hr.mono (by decide)) T.f__law_raised.g T.f__law_raised.F.kp T.f__law_raised.b (pxT tk_of) (ea_cons (ev_op mulP_ne oo_mulP (ev_v 1) (ev_v 2)) (ea_cons (ev_v 4) ea_nil)))) (ea_cons (ev_v 4) ea_nil))))))))))
theorem ok__law_behind (T : Txt K mg) : FnOk P w K mg base (L2.CX P w) 7 T.f__law_behind.a T.f__law_behind.fd ["_law_one_here", "_law_other", "_law_power_here"] (spD K (caOf T P w) 3 F__law_behind) := by
  have G__law_wanted := ok__law_wanted (P := P) (w := w) (base := base) T
  have G__law_raised := ok__law_raised (P := P) (w := w) (base := base) T
  exact fn_D (own' := []) T.f__law_behind.F sc__law_behind (fun B hB cdv A outer s H E hr => (sv_cons (sv_tgt (ev_call G__law_wanted (hr.mono (by decide)) T.f__law_wanted.g T.f__law_wanted.F.kp T.f__law_wanted.b (pxT tk_of) (ea_cons (ev_v 0) (ea_cons (ev_v 1) (ea_cons (ev_v 1) (ea_cons (ev_v 2) ea_nil))))) (eg_seq rfl (egs_cons (eg_name (i := 3) sc__law_behind.nd (.inl (by decide))) (egs_cons (eg_name (i := 4) sc__law_behind.nd (.inl (by decide))) (egs_cons (eg_name (i := 5) sc__law_behind.nd (.inl (by decide))) egs_nil)))) (bSeq_ne (bCons_ne bName_ne (bCons_ne bName_ne (bCons_ne bName_ne bNil_ne))))) (sv_cons (sv_par2 (i := 6) (j := 7) (own' := []) rfl sc__law_behind.nd (ea_cons ev_int (ea_cons (ev_op addP_ne oo_addP (ev_op addP_ne oo_addP (ev_op mulP_ne oo_mulP (ev_op mulP_ne oo_mulP (ev_v 0) (ev_v 1)) (ev_v 1)) (ev_op mulP_ne oo_mulP ev_int (ev_v 1))) ev_int) ea_nil)) (.inl (by decide)) (.inl (by decide))) (sv_cons (sv_if (PW.pt (ew_or (et_cmp leP_ne (oo_leP hr) (ev_v 3) ev_int) (ew_or1 (et_cmp leP_ne (oo_leP hr) (ev_v 4) ev_int)))) (sv_one (sv_ret ev_non)) sv_nil) (sv_cons (sv_for ps_of rfl (ei_range1 T.n_range (ea_cons ev_int ea_nil)) (eg_name (i := 8) sc__law_behind.nd (.inl (by decide))) bName_ne (sv_cons (sv_if (et_cmp ltP_ne (oo_ltP hr) (ev_op (intD_ne subI_ne) oo_sub (ev_v 7) (ev_v 6)) ev_int) (sv_one sv_brk) sv_nil) (sv_cons (sv_asg (i := 9) (own' := []) sc__law_behind.nd (ev_op (intD_ne fdivI_ne) oo_fdiv (ev_op addP_ne oo_addP (ev_v 6) (ev_v 7)) ev_int) (.inl (by decide))) (sv_one (sv_tgt (ev_if (et_cmp leP_ne (oo_leP hr) (ev_op mulP_ne oo_mulP (ev_v 4) (ev_call G__law_raised (hr.mono (by decide)) T.f__law_raised.g T.f__law_raised.F.kp T.f__law_raised.b (pxT tk_of) (ea_cons (ev_v 9) (ea_cons (ev_v 5) ea_nil)))) (ev_v 3)) (ev_tup (ea_cons (ev_v 9) (ea_cons (ev_v 7) ea_nil))) (ev_tup (ea_cons (ev_v 6) (ea_cons (ev_v 9) ea_nil)))) (eg_seq rfl (egs_cons (eg_name (i := 6) sc__law_behind.nd (.inl (by decide))) (egs_cons (eg_name (i := 7) sc__law_behind.nd (.inl (by decide))) egs_nil))) (bSeq_ne (bCons_ne bName_ne (bCons_ne bName_ne bNil_ne)))))))) (sv_one (sv_ret (ev_if (PW.pt (ew_and (et_cmp gtP_ne (oo_gtP hr) (ev_v 6) ev_int) (ew_and1 (et_cmp eqD_ne (oo_eq hr.units) (ev_op mulP_ne oo_mulP (ev_v 4) (ev_call G__law_raised (hr.mono (by decide)) T.f__law_raised.g T.f__law_raised.F.kp T.f__law_raised.b (pxT tk_of) (ea_cons (ev_v 6) (ea_cons (ev_v 5) ea_nil)))) (ev_v 3))))) (ev_v 6) ev_non))))))))
theorem ok__law_gone_on (T : Txt K mg) : FnOk P w K mg base (L2.CX P w) 10 T.f__law_gone_on.a T.f__law_gone_on.fd ["_law_first", "_law_second", "_law_many", "_law_power_here"] (spD K (caOf T P w) 4 F__law_gone_on) := by
  have G__law_behind := ok__law_behind (P := P) (w := w) (base := base) T
  exact fn_D (own' := []) T.f__law_gone_on.F sc__law_gone_on (fun B hB cdv A outer s H E hr => (sv_cons (sv_asgN (i := 4) (own' := [4]) sc__law_gone_on.nd (ev_lst (ea_cons (ev_v 0) (ea_cons (ev_v 1) ea_nil))) (.inl (by decide))) (sv_cons (sv_for ps_of rfl (ei_range1 T.n_range (ea_cons (ev_op (intD_ne subI_ne) oo_sub (ev_v 2) ev_int) ea_nil)) (eg_name (i := 5) sc__law_gone_on.nd (.inl (by decide))) bName_ne (sv_cons (sv_asg (i := 6) (own' := [4]) sc__law_gone_on.nd (ev_call G__law_behind (hr.mono (by decide)) T.f__law_behind.g T.f__law_behind.F.kp T.f__law_behind.b (pxT tk_of) (ea_cons (ev_ixO 4 (ev_un negD_ne oo_neg ev_int)) (ea_cons (ev_ixO 4 (ev_un negD_ne oo_neg ev_int)) (ea_cons (ev_v 3) ea_nil)))) (.inl (by decide))) (sv_cons (sv_if (et_cmp isD_ne oo_is (ev_v 6) ev_non) (sv_one sv_brk) sv_nil) (sv_one (sv_expr (ev_mth 4 PySem.F.plainAttrs_list PySem.F.slot_list_append PySem.F.type_list_append om_append (ea_cons (ev_v 6) ea_nil))))))) (sv_one (sv_fz (own1 := []) 4 (sv_ret (ev_v 4)) (.inl (by decide)))))))
theorem ok__law_row (T : Txt K mg) : FnOk P w K mg base (L2.CX P w) 13 T.f__law_row.a T.f__law_row.fd ["_law_hat_here"] (spM K (caOf T P w) 1 F__law_row) := by
  have G__law_begun := ok__law_begun (P := P) (w := w) (base := base) T
  have G__law_lot := ok__law_lot (P := P) (w := w) (base := base) T
  have G__law_gone_on := ok__law_gone_on (P := P) (w := w) (base := base) T
  have G__law_one := ok__law_one (P := P) (w := w) (base := base) T
  exact fn_M (own' := [0]) T.f__law_row.F sc__law_row (fun cdv B A outer s H E hr => (sv_cons (sv_tgt (ev_callM 0 G__law_begun (hr.mono (by decide)) T.f__law_begun.g T.f__law_begun.F.kp T.f__law_begun.b (pxT tk_of) ea_nil) (eg_seq rfl (egs_cons (eg_name (i := 1) sc__law_row.nd (.inl (by decide))) (egs_cons (eg_name (i := 2) sc__law_row.nd (.inl (by decide))) (egs_cons (eg_name (i := 3) sc__law_row.nd (.inl (by decide))) egs_nil)))) (bSeq_ne (bCons_ne bName_ne (bCons_ne bName_ne (bCons_ne bName_ne bNil_ne))))) (sv_cons (sv_setLcF (i := 4) (own' := [0]) rfl (so := [("_law_number", 6)]) sc__law_row.nd (sw_true rfl rfl rfl (by decide +kernel)) (ei_val (ev_call G__law_gone_on (hr.mono (by decide)) T.f__law_gone_on.g T.f__law_gone_on.F.kp T.f__law_gone_on.b (pxT tk_of) (ea_cons (ev_v 1) (ea_cons (ev_v 2) (ea_cons (ev_op addP_ne oo_addP ev_int (ev_callM 0 G__law_lot (hr.mono (by decide)) T.f__law_lot.g T.f__law_lot.F.kp T.f__law_lot.b (pxT tk_of) (ea_cons ev_int ea_nil))) (ea_cons (ev_v 3) ea_nil)))))) (blkOk_by (N := n__law_row) (sc := defScope s__law_row) (by decide +kernel)) (fun B1 hL1 s H Ca cl fp => (eg_name (i := 6) sc__law_row.nd (.inl (by decide)))) (fun B1 hL1 s H Ca cl fp => (ets_one (et_cmp ltP_ne (oo_ltP hr) (ev_v 6) ev_int))) (fun B1 hL1 s H Ca cl fp => (ev_v 6)) bName_ne (.inl (by decide))) (sv_cons (sv_asg (i := 4) (own' := [0]) sc__law_row.nd (ev_ice (ev_sortSet rfl T.n_sorted T.n_set (ea_cons (ev_op addP_ne oo_addP (ev_v 4) (ev_ice (ev_lc rfl (so := [("_law_turn", 7)]) sc__law_row.nd (ei_range1 T.n_range (ea_cons (ev_callM 0 G__law_one (hr.mono (by decide)) T.f__law_one.g T.f__law_one.F.kp T.f__law_one.b (pxT tk_of) (ea_cons (ev_ice (ev_lst (ea_cons ev_int (ea_cons ev_int (ea_cons ev_int (ea_cons ev_int (ea_cons ev_int ea_nil))))))) ea_nil)) ea_nil)) (blkOk_by (N := n__law_row) (sc := defScope s__law_row) (by decide +kernel)) (fun B2 hL2 s H Ca cl fp => (eg_name (i := 7) sc__law_row.nd (.inl (by decide)))) (fun B2 hL2 s H Ca cl fp => ets_nil) (fun B2 hL2 s H Ca cl fp => (ev_op addP_ne oo_addP ev_int (ev_callM 0 G__law_lot (hr.mono (by decide)) T.f__law_lot.g T.f__law_lot.F.kp T.f__law_lot.b pxF (ea_cons ev_int ea_nil)))) bName_ne))) ea_nil))) (.inl (by decide))) (sv_cons (sv_if (et_cmp eqD_ne (oo_eq hr.units) (ev_callM 0 G__law_lot (hr.mono (by decide)) T.f__law_lot.g T.f__law_lot.F.kp T.f__law_lot.b (pxT tk_of) (ea_cons ev_int ea_nil)) ev_int) (sv_cons (sv_asg (i := 5) (own' := [0]) sc__law_row.nd (ev_callM 0 G__law_lot (hr.mono (by decide)) T.f__law_lot.g T.f__law_lot.F.kp T.f__law_lot.b (pxT tk_of) (ea_cons (ev_callB lenP_ne oc_lenP T.n_len (ea_cons (ev_v 4) ea_nil)) ea_nil)) (.inl (by decide))) (sv_one (sv_asg (i := 4) (own' := [0]) sc__law_row.nd (ev_ice (ev_sortSet rfl T.n_sorted T.n_set (ea_cons (ev_op addP_ne oo_addP (ev_op addP_ne oo_addP (ev_slP (ev_v 4) ep_none (ep_some (ev_v 5))) (ev_ice (ev_lst (ea_cons (ev_op (intD_ne subI_ne) oo_sub (ev_op addP_ne oo_addP (ev_ix ixD_ne oo_ix (ev_v 4) (ev_v 5)) ev_int) (ev_op mulP_ne oo_mulP ev_int (ev_callM 0 G__law_lot (hr.mono (by decide)) T.f__law_lot.g T.f__law_lot.F.kp T.f__law_lot.b (pxT tk_of) (ea_cons ev_int ea_nil)))) ea_nil)))) (ev_slP (ev_v 4) (ep_some (ev_op addP_ne oo_addP (ev_v 5) ev_int)) ep_none)) ea_nil))) (.inl (by decide))))) sv_nil) (sv_cons (sv_asg (i := 4) (own' := [0]) sc__law_row.nd (ev_slP (ev_ice (ev_lc rfl (so := [("_law_number", 6)]) sc__law_row.nd (ei_val (ev_v 4)) (blkOk_by (N := n__law_row) (sc := defScope s__law_row) (by decide +kernel)) (fun B3 hL3 s H Ca cl fp => (eg_name (i := 6) sc__law_row.nd (.inl (by decide)))) (fun B3 hL3 s H Ca cl fp => (ets_one (et_ch ev_int (ek_link ltP_ne (oo_ltP hr) (ev_v 6) (ek_last ltP_ne (oo_ltP hr) ev_int))))) (fun B3 hL3 s H Ca cl fp => (ev_v 6)) bName_ne)) ep_none (ep_some ev_int)) (.inl (by decide))) (sv_one (sv_ret (ev_if (et_cmp gtP_ne (oo_gtP hr) (ev_callB lenP_ne oc_lenP T.n_len (ea_cons (ev_v 4) ea_nil)) ev_int) (ev_v 4) (ev_ice (ev_lst (ea_cons (ev_op addP_ne oo_addP ev_int (ev_op (intD_ne modI_ne) oo_mod (ev_callT intC_ne oc_int T.n_int (ea_cons (ev_v 3) ea_nil)) ev_int)) (ea_cons ev_int (ea_cons (ev_op addP_ne oo_addP ev_int (ev_op (intD_ne modI_ne) oo_mod (ev_callT intC_ne oc_int T.n_int (ea_cons (ev_v 3) ea_nil)) ev_int)) ea_nil))))))))))))))
end
end Q

namespace Q
open PySem PySem.Spec PyProof.Rows L2 Dl
section
variable {P : Program} {w : World} {K : PySem.W.Frag} {mg : Str → Option Value} {base : Heap}
theorem okn_fixed (T : Txt K mg) : ∀ n : Nat, n ≤ 60 → FnOk P w K mg base (L2.CX P w) (1 + n) T.f_fixed.a T.f_fixed.fd ["value"] (spD K (caOf T P w) 1 (FF_fixed n))
  | 0, _ => T.f_fixed.F.okX sc_fixed (fun vs H Q E ⟨_, _, _, _, _, h⟩ => h.elim) (fun _ _ _ _ _ _ _ _ _ ⟨_, _, _, _, _, h⟩ => h.elim)
  | n + 1, hn => by
    have G_fixed := okn_fixed T n (by omega)
    exact fn_D (own' := []) T.f_fixed.F sc_fixed (fun B hB cdv A outer s H E hr => (sv_cons (sv_if (et_val (ev_isiT (cs := [.ty "list", .ty "tuple"]) (clsC T) (subG_ok T) (fun _ => (.cons (.ty _) (.cons (.ty _) .nil))) (by show 2 ≤ sizeLine; rw [sizeLine_eq]; decide) T.n_isinstance (ev_v 0) (pc_cons (pe_bltn (v := .ty "list") (by rfl) T.n_list (by decide +kernel) rfl) (pc_cons (pe_bltn (v := .ty "tuple") (by rfl) T.n_tuple (by decide +kernel) rfl) pc_nil)))) (sv_one (sv_ret (ev_callT tupC_ne oc_tuple T.n_tuple (ea_cons (ev_ice (ev_lc rfl (so := [("one", 1)]) sc_fixed.nd (ei_val (ev_v 0)) (blkOk_by (N := n_fixed) (sc := defScope s_fixed) (by decide +kernel)) (fun B1 hL1 s H Ca cl fp => (eg_name (i := 1) sc_fixed.nd (.inl (by decide)))) (fun B1 hL1 s H Ca cl fp => ets_nil) (fun B1 hL1 s H Ca cl fp => (ev_call G_fixed (hr.mono (Nat.le_refl _)) T.f_fixed.g T.f_fixed.F.kp T.f_fixed.b pxF (ea_cons (ev_v 1) ea_nil))) bName_ne)) ea_nil)))) sv_nil) (sv_one (sv_ret (ev_v 0)))))
theorem ok_fixed (T : Txt K mg) : FnOk P w K mg base (L2.CX P w) 4 T.f_fixed.a T.f_fixed.fd ["value"] (spD K (caOf T P w) 1 F_fixed) := okn_fixed T 3 (by decide)
theorem ok_Denial__init__ {n : Nat} (T : Txt K mg) : FnR P w K mg base (L2.CX P w) 7 T.f_Denial__init__.a (spM K (caOf T P w) n (starD 2 F_Denial__init__)) := by
  have G_fixed := ok_fixed (P := P) (w := w) (base := base) T
  exact fn_Ms (own' := [0]) (ps := ["self", "word"]) (pv := "parts") T.f_Denial__init__.F sc_Denial__init__ (by decide) (fun kV doc pm an cdv ct => StX.bind_star2 (B := fun us => bindArgs (PySem.W.fnOf "__init__" "Denial.__init__" (defArgs s_Denial__init__) (defBody s_Denial__init__) (defScope s_Denial__init__) .none kV doc pm an cdv ct) ⟨us, []⟩) (fun _ _ => rfl) (fun _ _ _ _ => rfl)) (fun cdv B A outer s H E hr => (sv_cons (sv_fld 0 (at_word T) (ev_v 1)) (sv_one (sv_fld 0 (at_parts T) (ev_call G_fixed (hr.mono (by decide)) T.f_fixed.g T.f_fixed.F.kp T.f_fixed.b (pxT tk_of) (ea_cons (ev_v 2) ea_nil))))))
theorem ok_Between__init__ (T : Txt K mg) : FnOk P w K mg base (L2.CX P w) 10 T.f_Between__init__.a T.f_Between__init__.fd ["self", "low"] (spM K (caOf T P w) 2 F_Between__init__) := by
  have G_Denial__init__ := fun {n : Nat} => ok_Denial__init__ (P := P) (w := w) (base := base) (n := n) T
  exact fn_M (own' := [0]) T.f_Between__init__.F sc_Between__init__ (fun cdv B A outer s H E hr => (sv_cons (sv_expr (ev_cfn 0 (pe_glob (v := .ref T.k_Denial.a) rfl T.k_Denial.g rfl) T.cr_Denial T.cv_Denial__init__ T.f_Denial__init__.F.kp G_Denial__init__ (hr.mono (by decide)) (pxT tk_of) (ea_cons ev_str (ea_cons (ev_v 1) ea_nil)))) (sv_one (sv_fld 0 (at_low T) (ev_ix ixD_ne oo_ix (ev_fldO 0 (at_parts T)) ev_int)))))
theorem ok_Paper__init__ {n : Nat} (T : Txt K mg) : FnR P w K mg base (L2.CX P w) 7 T.f_Paper__init__.a (spM K (caOf T P w) n (starD 2 F_Paper__init__)) := by
  have G_fixed := ok_fixed (P := P) (w := w) (base := base) T
  exact fn_Ms (own' := [0]) (ps := ["self", "word"]) (pv := "parts") T.f_Paper__init__.F sc_Paper__init__ (by decide) (fun kV doc pm an cdv ct => StX.bind_star2 (B := fun us => bindArgs (PySem.W.fnOf "__init__" "Paper.__init__" (defArgs s_Paper__init__) (defBody s_Paper__init__) (defScope s_Paper__init__) .none kV doc pm an cdv ct) ⟨us, []⟩) (fun _ _ => rfl) (fun _ _ _ _ => rfl)) (fun cdv B A outer s H E hr => (sv_cons (sv_fld 0 (at_word T) (ev_v 1)) (sv_one (sv_fld 0 (at_parts T) (ev_call G_fixed (hr.mono (by decide)) T.f_fixed.g T.f_fixed.F.kp T.f_fixed.b (pxT tk_of) (ea_cons (ev_v 2) ea_nil))))))
theorem ok__law_power (T : Txt K mg) : FnOk P w K mg base (L2.CX P w) 7 T.f__law_power.a T.f__law_power.fd ["_law_one_here", "_law_middle", "_law_other"] (spD K (caOf T P w) 3 F__law_power) := by
  have G__law_wanted := ok__law_wanted (P := P) (w := w) (base := base) T
  have G__law_raised := ok__law_raised (P := P) (w := w) (base := base) T
  exact fn_D (own' := []) T.f__law_power.F sc__law_power (fun B hB cdv A outer s H E hr => (sv_cons (sv_if (et_cmp eqD_ne (oo_eq hr.units) (ev_op mulP_ne oo_mulP (ev_v 0) (ev_v 2)) (ev_op mulP_ne oo_mulP (ev_v 1) (ev_v 1))) (sv_one (sv_ret ev_int)) sv_nil) (sv_cons (sv_asg (i := 3) (own' := []) sc__law_power.nd (ev_if (et_cmp ltP_ne (oo_ltP hr) (ev_op mulP_ne oo_mulP (ev_v 0) (ev_v 2)) (ev_op mulP_ne oo_mulP (ev_v 1) (ev_v 1))) ev_int (ev_un negD_ne oo_neg ev_int)) (.inl (by decide))) (sv_cons (sv_for ps_of rfl (ei_range2 T.n_range (ea_cons ev_int (ea_cons ev_int ea_nil))) (eg_name (i := 4) sc__law_power.nd (.inl (by decide))) bName_ne (sv_cons (sv_tgt (ev_call G__law_wanted (hr.mono (by decide)) T.f__law_wanted.g T.f__law_wanted.F.kp T.f__law_wanted.b (pxT tk_of) (ea_cons (ev_v 0) (ea_cons (ev_v 1) (ea_cons (ev_v 1) (ea_cons (ev_op mulP_ne oo_mulP (ev_v 3) (ev_v 4)) ea_nil))))) (eg_seq rfl (egs_cons (eg_name (i := 5) sc__law_power.nd (.inl (by decide))) (egs_cons (eg_name (i := 6) sc__law_power.nd (.inl (by decide))) (egs_cons (eg_name (i := 7) sc__law_power.nd (.inl (by decide))) egs_nil)))) (bSeq_ne (bCons_ne bName_ne (bCons_ne bName_ne (bCons_ne bName_ne bNil_ne))))) (sv_cons (sv_asg (i := 8) (own' := []) sc__law_power.nd (ev_op (intD_ne subI_ne) oo_sub (ev_op mulP_ne oo_mulP (ev_v 6) (ev_call G__law_raised (hr.mono (by decide)) T.f__law_raised.g T.f__law_raised.F.kp T.f__law_raised.b (pxT tk_of) (ea_cons (ev_v 2) (ea_cons (ev_v 7) ea_nil)))) (ev_v 5)) (.inl (by decide))) (sv_cons (sv_if (et_cmp eqD_ne (oo_eq hr.units) (ev_v 8) ev_int) (sv_one (sv_ret (ev_op mulP_ne oo_mulP (ev_v 3) (ev_v 4)))) sv_nil) (sv_one (sv_if (et_cmp gtP_ne (oo_gtP hr) (ev_op mulP_ne oo_mulP (ev_v 8) (ev_v 3)) ev_int) (sv_one (sv_ret ev_non)) sv_nil)))))) (sv_one (sv_ret ev_non))))))
theorem ok__law_is_by (T : Txt K mg) : FnOk P w K mg base (L2.CX P w) 7 T.f__law_is_by.a T.f__law_is_by.fd ["_law_numbers", "_law_step", "_law_power_here"] (spD K (caOf T P w) 3 F__law_is_by) := by
  have G__law_wanted := ok__law_wanted (P := P) (w := w) (base := base) T
  have G__law_raised := ok__law_raised (P := P) (w := w) (base := base) T
  exact fn_D (own' := []) T.f__law_is_by.F sc__law_is_by (fun B hB cdv A outer s H E hr => (sv_cons (sv_tgt (ev_slP (ev_v 0) (ep_some (ev_v 1)) (ep_some (ev_op addP_ne oo_addP (ev_v 1) ev_int))) (eg_seq rfl (egs_cons (eg_name (i := 3) sc__law_is_by.nd (.inl (by decide))) (egs_cons (eg_name (i := 4) sc__law_is_by.nd (.inl (by decide))) (egs_cons (eg_name (i := 5) sc__law_is_by.nd (.inl (by decide))) egs_nil)))) (bSeq_ne (bCons_ne bName_ne (bCons_ne bName_ne (bCons_ne bName_ne bNil_ne))))) (sv_cons (sv_tgt (ev_call G__law_wanted (hr.mono (by decide)) T.f__law_wanted.g T.f__law_wanted.F.kp T.f__law_wanted.b (pxT tk_of) (ea_cons (ev_v 3) (ea_cons (ev_v 4) (ea_cons (ev_v 4) (ea_cons (ev_v 2) ea_nil))))) (eg_seq rfl (egs_cons (eg_name (i := 6) sc__law_is_by.nd (.inl (by decide))) (egs_cons (eg_name (i := 7) sc__law_is_by.nd (.inl (by decide))) (egs_cons (eg_name (i := 8) sc__law_is_by.nd (.inl (by decide))) egs_nil)))) (bSeq_ne (bCons_ne bName_ne (bCons_ne bName_ne (bCons_ne bName_ne bNil_ne))))) (sv_one (sv_ret (ev_cmp eqD_ne (oo_eq hr.units) (ev_op mulP_ne oo_mulP (ev_v 7) (ev_call G__law_raised (hr.mono (by decide)) T.f__law_raised.g T.f__law_raised.F.kp T.f__law_raised.b (pxT tk_of) (ea_cons (ev_v 5) (ea_cons (ev_v 8) ea_nil)))) (ev_v 6)))))))
theorem ok__law_due (T : Txt K mg) : FnOk P w K mg base (L2.CX P w) 10 T.f__law_due.a T.f__law_due.fd ["_law_row_here"] (spD K (caOf T P w) 1 F__law_due) := by
  have G__law_power := ok__law_power (P := P) (w := w) (base := base) T
  have G__law_is_by := ok__law_is_by (P := P) (w := w) (base := base) T
  exact fn_D (own' := []) T.f__law_due.F sc__law_due (fun B hB cdv A outer s H E hr => (sv_cons (sv_asg (i := 1) (own' := []) sc__law_due.nd (ev_call G__law_power (hr.mono (by decide)) T.f__law_power.g T.f__law_power.F.kp T.f__law_power.b (pxT tk_of) (ea_cons (ev_ix ixD_ne oo_ix (ev_v 0) ev_int) (ea_cons (ev_ix ixD_ne oo_ix (ev_v 0) ev_int) (ea_cons (ev_ix ixD_ne oo_ix (ev_v 0) ev_int) ea_nil)))) (.inl (by decide))) (sv_cons (sv_if (et_cmp isD_ne oo_is (ev_v 1) ev_non) (sv_one (sv_ret (ev_tup (ea_cons ev_str (ea_cons ev_int ea_nil))))) sv_nil) (sv_cons (sv_for ps_of rfl (ei_range2 T.n_range (ea_cons ev_int (ea_cons (ev_op (intD_ne subI_ne) oo_sub (ev_callB lenP_ne oc_lenP T.n_len (ea_cons (ev_v 0) ea_nil)) ev_int) ea_nil))) (eg_name (i := 2) sc__law_due.nd (.inl (by decide))) bName_ne (sv_one (sv_if (et_not (et_val (ev_call G__law_is_by (hr.mono (by decide)) T.f__law_is_by.g T.f__law_is_by.F.kp T.f__law_is_by.b (pxT tk_of) (ea_cons (ev_v 0) (ea_cons (ev_v 2) (ea_cons (ev_v 1) ea_nil)))))) (sv_one (sv_ret (ev_tup (ea_cons ev_str (ea_cons (ev_v 2) ea_nil))))) sv_nil))) (sv_one (sv_ret (ev_tup (ea_cons ev_str (ea_cons (ev_v 1) ea_nil)))))))))
theorem ok_is_list (T : Txt K mg) : FnOk P w K mg base (L2.CX P w) 1 T.f_is_list.a T.f_is_list.fd ["value"] (spD K (caOf T P w) 1 F_is_list) := by
  exact fn_D (own' := []) T.f_is_list.F sc_is_list (fun B hB cdv A outer s H E hr => (sv_one (sv_ret (ev_isiT (cs := [.ty "list", .ty "tuple"]) (clsC T) (subG_ok T) (fun _ => (.cons (.ty _) (.cons (.ty _) .nil))) (by show 2 ≤ sizeLine; rw [sizeLine_eq]; decide) T.n_isinstance (ev_v 0) (pc_cons (pe_bltn (v := .ty "list") (by rfl) T.n_list (by decide +kernel) rfl) (pc_cons (pe_bltn (v := .ty "tuple") (by rfl) T.n_tuple (by decide +kernel) rfl) pc_nil))))))
theorem ok_need_growing_row (T : Txt K mg) : FnOk P w K mg base (L2.CX P w) 7 T.f_need_growing_row.a T.f_need_growing_row.fd ["numbers"] (spD K (caOf T P w) 1 F_need_growing_row) := by
  have G_is_list := ok_is_list (P := P) (w := w) (base := base) T
  have G_is_within := ok_is_within (P := P) (w := w) (base := base) T
  exact fn_D (own' := []) T.f_need_growing_row.F sc_need_growing_row (fun B hB cdv A outer s H E hr => (sv_cons (sv_if (PW.pt (ew_or (et_not (et_val (ev_call G_is_list (hr.mono (by decide)) T.f_is_list.g T.f_is_list.F.kp T.f_is_list.b (pxT tk_of) (ea_cons (ev_v 0) ea_nil)))) (ew_or1 (et_not (et_ch (ev_k (pe_glob (v := .int (3)) rfl T.c_LEAST_LONG ⟨_, rfl⟩) fun _ => .int _) (ek_link leP_ne (oo_leP hr) (ev_callB lenP_ne oc_lenP T.n_len (ea_cons (ev_v 0) ea_nil)) (ek_last leP_ne (oo_leP hr) (ev_k (pe_glob (v := .int (12)) rfl T.c_MOST_LONG ⟨_, rfl⟩) fun _ => .int _)))))))) (sv_one sv_never) sv_nil) (sv_cons (sv_asg (i := 1) (own' := []) sc_need_growing_row.nd ev_int (.inl (by decide))) (sv_one (sv_for ps_of rfl (ei_val (ev_v 0)) (eg_name (i := 2) sc_need_growing_row.nd (.inl (by decide))) bName_ne (sv_cons (sv_if (et_not (et_val (ev_call G_is_within (hr.mono (by decide)) T.f_is_within.g T.f_is_within.F.kp T.f_is_within.b (pxT tk_of) (ea_cons (ev_v 2) (ea_cons (ev_v 1) (ea_cons (ev_k (pe_glob (v := .int (99)) rfl T.c_MOST_SMALL ⟨_, rfl⟩) fun _ => .int _) ea_nil)))))) (sv_one sv_never) sv_nil) (sv_one (sv_asg (i := 1) (own' := []) sc_need_growing_row.nd (ev_op addP_ne oo_addP (ev_v 2) ev_int) (.inl (by decide))))))))))
theorem ok_need_growing (T : Txt K mg) : FnOk P w K mg base (L2.CX P w) 10 T.f_need_growing.a T.f_need_growing.fd ["a", "b", "c", "d"] (spD K (caOf T P w) 4 F_need_growing) := by
  have G_need_within := ok_need_within (P := P) (w := w) (base := base) T
  exact fn_D (own' := []) T.f_need_growing.F sc_need_growing (fun B hB cdv A outer s H E hr => (sv_cons (sv_expr (ev_call G_need_within (hr.mono (by decide)) T.f_need_within.g T.f_need_within.F.kp T.f_need_within.b (pxT tk_of) (ea_cons ev_str (ea_cons (ev_v 0) (ea_cons ev_int (ea_cons (ev_k (pe_glob (v := .int (99)) rfl T.c_MOST_SMALL ⟨_, rfl⟩) fun _ => .int _) ea_nil)))))) (sv_cons (sv_expr (ev_call G_need_within (hr.mono (by decide)) T.f_need_within.g T.f_need_within.F.kp T.f_need_within.b (pxT tk_of) (ea_cons ev_str (ea_cons (ev_v 1) (ea_cons (ev_op addP_ne oo_addP (ev_v 0) ev_int) (ea_cons (ev_k (pe_glob (v := .int (99)) rfl T.c_MOST_SMALL ⟨_, rfl⟩) fun _ => .int _) ea_nil)))))) (sv_cons (sv_expr (ev_call G_need_within (hr.mono (by decide)) T.f_need_within.g T.f_need_within.F.kp T.f_need_within.b (pxT tk_of) (ea_cons ev_str (ea_cons (ev_v 2) (ea_cons (ev_v 1) (ea_cons (ev_k (pe_glob (v := .int (99)) rfl T.c_MOST_SMALL ⟨_, rfl⟩) fun _ => .int _) ea_nil)))))) (sv_one (sv_expr (ev_call G_need_within (hr.mono (by decide)) T.f_need_within.g T.f_need_within.F.kp T.f_need_within.b (pxT tk_of) (ea_cons ev_str (ea_cons (ev_v 3) (ea_cons (ev_op addP_ne oo_addP (ev_v 2) ev_int) (ea_cons (ev_k (pe_glob (v := .int (99)) rfl T.c_MOST_SMALL ⟨_, rfl⟩) fun _ => .int _) ea_nil)))))))))))
theorem ok_ByPower__init__ (T : Txt K mg) : FnOk P w K mg base (L2.CX P w) 10 T.f_ByPower__init__.a T.f_ByPower__init__.fd ["self", "power"] (spM K (caOf T P w) 2 F_ByPower__init__) := by
  have G_Paper__init__ := fun {n : Nat} => ok_Paper__init__ (P := P) (w := w) (base := base) (n := n) T
  exact fn_M (own' := [0]) T.f_ByPower__init__.F sc_ByPower__init__ (fun cdv B A outer s H E hr => (sv_cons (sv_expr (ev_cfn 0 (pe_glob (v := .ref T.k_Paper.a) rfl T.k_Paper.g rfl) T.cr_Paper T.cv_Paper__init__ T.f_Paper__init__.F.kp G_Paper__init__ (hr.mono (by decide)) (pxT tk_of) (ea_cons ev_str (ea_cons (ev_v 1) ea_nil)))) (sv_one (sv_fld 0 (at_power T) (ev_ix ixD_ne oo_ix (ev_fldO 0 (at_parts T)) ev_int)))))
theorem okn_whole_sum (T : Txt K mg) : ∀ n : Nat, n ≤ 60 → FnOk P w K mg base (L2.CX P w) (4 + n) T.f_whole_sum.a T.f_whole_sum.fd ["a", "b", "c", "d", "power"] (spD K (caOf T P w) 5 (FF_whole_sum n))
  | 0, _ => T.f_whole_sum.F.okX sc_whole_sum (fun vs H Q E ⟨_, _, _, _, _, h⟩ => h.elim) (fun _ _ _ _ _ _ _ _ _ ⟨_, _, _, _, _, h⟩ => h.elim)
  | n + 1, hn => by
    have G_raised := ok_raised (P := P) (w := w) (base := base) T
    have G_whole_sum := okn_whole_sum T n (by omega)
    exact fn_D (own' := []) T.f_whole_sum.F sc_whole_sum (fun B hB cdv A outer s H E hr => (sv_cons (sv_if (et_cmp ltP_ne (oo_ltP hr) (ev_v 4) ev_int) (sv_one (sv_ret (ev_call G_whole_sum (hr.mono (Nat.le_refl _)) T.f_whole_sum.g T.f_whole_sum.F.kp T.f_whole_sum.b (pxT tk_of) (ea_cons (ev_op mulP_ne oo_mulP (ev_op mulP_ne oo_mulP (ev_v 1) (ev_v 2)) (ev_v 3)) (ea_cons (ev_op mulP_ne oo_mulP (ev_op mulP_ne oo_mulP (ev_v 0) (ev_v 2)) (ev_v 3)) (ea_cons (ev_op mulP_ne oo_mulP (ev_op mulP_ne oo_mulP (ev_v 0) (ev_v 1)) (ev_v 3)) (ea_cons (ev_op mulP_ne oo_mulP (ev_op mulP_ne oo_mulP (ev_v 0) (ev_v 1)) (ev_v 2)) (ea_cons (ev_un negD_ne oo_neg (ev_v 4)) ea_nil)))))))) sv_nil) (sv_one (sv_ret (ev_op (intD_ne subI_ne) oo_sub (ev_op (intD_ne subI_ne) oo_sub (ev_op addP_ne oo_addP (ev_call G_raised (hr.mono (by simp only [Nat.add_eq]; omega)) T.f_raised.g T.f_raised.F.kp T.f_raised.b (pxT tk_of) (ea_cons (ev_v 0) (ea_cons (ev_v 4) ea_nil))) (ev_call G_raised (hr.mono (by simp only [Nat.add_eq]; omega)) T.f_raised.g T.f_raised.F.kp T.f_raised.b (pxT tk_of) (ea_cons (ev_v 3) (ea_cons (ev_v 4) ea_nil)))) (ev_call G_raised (hr.mono (by simp only [Nat.add_eq]; omega)) T.f_raised.g T.f_raised.F.kp T.f_raised.b (pxT tk_of) (ea_cons (ev_v 1) (ea_cons (ev_v 4) ea_nil)))) (ev_call G_raised (hr.mono (by simp only [Nat.add_eq]; omega)) T.f_raised.g T.f_raised.F.kp T.f_raised.b (pxT tk_of) (ea_cons (ev_v 2) (ea_cons (ev_v 4) ea_nil))))))))
theorem ok_whole_sum (T : Txt K mg) : FnOk P w K mg base (L2.CX P w) 6 T.f_whole_sum.a T.f_whole_sum.fd ["a", "b", "c", "d", "power"] (spD K (caOf T P w) 5 F_whole_sum) := okn_whole_sum T 2 (by decide)
end
end Q

namespace Q
open PySem PySem.Spec PyProof.Rows L2 Dl
section
variable {P : Program} {w : World} {K : PySem.W.Frag} {mg : Str → Option Value} {base : Heap}
theorem ok_power_of (T : Txt K mg) : FnOk P w K mg base (L2.CX P w) 13 T.f_power_of.a T.f_power_of.fd ["a", "b", "c", "d"] (spD K (caOf T P w) 4 F_power_of) := by
  have G_Between__init__ := ok_Between__init__ (P := P) (w := w) (base := base) T
  have G_need_growing := ok_need_growing (P := P) (w := w) (base := base) T
  have G_ByPower__init__ := ok_ByPower__init__ (P := P) (w := w) (base := base) T
  have G_whole_sum := ok_whole_sum (P := P) (w := w) (base := base) T
  exact fn_D (own' := []) T.f_power_of.F sc_power_of (fun B hB cdv A outer s H E hr => (sv_cons (sv_expr (ev_call G_need_growing (hr.mono (by decide)) T.f_need_growing.g T.f_need_growing.F.kp T.f_need_growing.b (pxT tk_of) (ea_cons (ev_v 0) (ea_cons (ev_v 1) (ea_cons (ev_v 2) (ea_cons (ev_v 3) ea_nil)))))) (sv_cons (sv_if (et_cmp eqD_ne (oo_eq hr.units) (ev_op mulP_ne oo_mulP (ev_v 0) (ev_v 3)) (ev_op mulP_ne oo_mulP (ev_v 1) (ev_v 2))) (sv_one (sv_ret (ev_ice (ev_make (c := 24) T.mk_ByPower G_ByPower__init__ (hr.mono (by decide)) T.k_ByPower.g T.f_ByPower__init__.b (pxT tk_of) (ea_cons ev_int ea_nil))))) sv_nil) (sv_cons (sv_asg (i := 4) (own' := []) sc_power_of.nd (ev_if (et_cmp ltP_ne (oo_ltP hr) (ev_op mulP_ne oo_mulP (ev_v 0) (ev_v 3)) (ev_op mulP_ne oo_mulP (ev_v 1) (ev_v 2))) ev_int (ev_un negD_ne oo_neg ev_int)) (.inl (by decide))) (sv_cons (sv_asg (i := 5) (own' := []) sc_power_of.nd (ev_v 4) (.inl (by decide))) (sv_cons (sv_asg (i := 6) (own' := []) sc_power_of.nd (ev_call G_whole_sum (hr.mono (by decide)) T.f_whole_sum.g T.f_whole_sum.F.kp T.f_whole_sum.b (pxT tk_of) (ea_cons (ev_v 0) (ea_cons (ev_v 1) (ea_cons (ev_v 2) (ea_cons (ev_v 3) (ea_cons (ev_v 5) ea_nil)))))) (.inl (by decide))) (sv_cons (sv_while 1000 ps_of (et_cmp ltP_ne (oo_ltP hr) (ev_v 6) ev_int) (sv_cons (sv_asg (i := 5) (own' := []) sc_power_of.nd (ev_op addP_ne oo_addP (ev_v 5) (ev_v 4)) (.inl (by decide))) (sv_one (sv_asg (i := 6) (own' := []) sc_power_of.nd (ev_call G_whole_sum (hr.mono (by decide)) T.f_whole_sum.g T.f_whole_sum.F.kp T.f_whole_sum.b (pxT tk_of) (ea_cons (ev_v 0) (ea_cons (ev_v 1) (ea_cons (ev_v 2) (ea_cons (ev_v 3) (ea_cons (ev_v 5) ea_nil)))))) (.inl (by decide)))))) (sv_cons (sv_if (et_cmp eqD_ne (oo_eq hr.units) (ev_v 6) ev_int) (sv_one (sv_ret (ev_ice (ev_make (c := 24) T.mk_ByPower G_ByPower__init__ (hr.mono (by decide)) T.k_ByPower.g T.f_ByPower__init__.b (pxT tk_of) (ea_cons (ev_v 5) ea_nil))))) sv_nil) (sv_one (sv_ret (ev_ice (ev_make (c := 21) T.mk_Between G_Between__init__ (hr.mono (by decide)) T.k_Between.g T.f_Between__init__.b (pxT tk_of) (ea_cons (ev_if (et_cmp eqD_ne (oo_eq hr.units) (ev_v 4) ev_int) (ev_op (intD_ne subI_ne) oo_sub (ev_v 5) ev_int) (ev_v 5)) ea_nil)))))))))))))
theorem ok_Uneven__init__ (T : Txt K mg) : FnOk P w K mg base (L2.CX P w) 10 T.f_Uneven__init__.a T.f_Uneven__init__.fd ["self", "step"] (spM K (caOf T P w) 2 F_Uneven__init__) := by
  have G_Denial__init__ := fun {n : Nat} => ok_Denial__init__ (P := P) (w := w) (base := base) (n := n) T
  exact fn_M (own' := [0]) T.f_Uneven__init__.F sc_Uneven__init__ (fun cdv B A outer s H E hr => (sv_cons (sv_expr (ev_cfn 0 (pe_glob (v := .ref T.k_Denial.a) rfl T.k_Denial.g rfl) T.cr_Denial T.cv_Denial__init__ T.f_Denial__init__.F.kp G_Denial__init__ (hr.mono (by decide)) (pxT tk_of) (ea_cons ev_str (ea_cons (ev_v 1) ea_nil)))) (sv_one (sv_fld 0 (at_step T) (ev_ix ixD_ne oo_ix (ev_fldO 0 (at_parts T)) ev_int)))))
theorem ok_is_by_power (T : Txt K mg) : FnOk P w K mg base (L2.CX P w) 9 T.f_is_by_power.a T.f_is_by_power.fd ["a", "b", "c", "d", "power"] (spD K (caOf T P w) 5 F_is_by_power) := by
  have G_whole_sum := ok_whole_sum (P := P) (w := w) (base := base) T
  exact fn_D (own' := []) T.f_is_by_power.F sc_is_by_power (fun B hB cdv A outer s H E hr => (sv_cons (sv_if (et_cmp eqD_ne (oo_eq hr.units) (ev_v 4) ev_int) (sv_one (sv_ret (ev_cmp eqD_ne (oo_eq hr.units) (ev_op mulP_ne oo_mulP (ev_v 0) (ev_v 3)) (ev_op mulP_ne oo_mulP (ev_v 1) (ev_v 2))))) sv_nil) (sv_one (sv_ret (ev_cmp eqD_ne (oo_eq hr.units) (ev_call G_whole_sum (hr.mono (by decide)) T.f_whole_sum.g T.f_whole_sum.F.kp T.f_whole_sum.b (pxT tk_of) (ea_cons (ev_v 0) (ea_cons (ev_v 1) (ea_cons (ev_v 2) (ea_cons (ev_v 3) (ea_cons (ev_v 4) ea_nil)))))) ev_int)))))
theorem ok_is_step_by (T : Txt K mg) : FnOk P w K mg base (L2.CX P w) 12 T.f_is_step_by.a T.f_is_step_by.fd ["numbers", "step", "power"] (spD K (caOf T P w) 3 F_is_step_by) := by
  have G_is_by_power := ok_is_by_power (P := P) (w := w) (base := base) T
  exact fn_D (own' := []) T.f_is_step_by.F sc_is_step_by (fun B hB cdv A outer s H E hr => (sv_cons (sv_tgt (ev_slP (ev_v 0) (ep_some (ev_v 1)) (ep_some (ev_op addP_ne oo_addP (ev_v 1) ev_int))) (eg_seq rfl (egs_cons (eg_name (i := 3) sc_is_step_by.nd (.inl (by decide))) (egs_cons (eg_name (i := 4) sc_is_step_by.nd (.inl (by decide))) (egs_cons (eg_name (i := 5) sc_is_step_by.nd (.inl (by decide))) egs_nil)))) (bSeq_ne (bCons_ne bName_ne (bCons_ne bName_ne (bCons_ne bName_ne bNil_ne))))) (sv_one (sv_ret (ev_call G_is_by_power (hr.mono (by decide)) T.f_is_by_power.g T.f_is_by_power.F.kp T.f_is_by_power.b (pxT tk_of) (ea_cons (ev_v 3) (ea_cons (ev_v 4) (ea_cons (ev_v 4) (ea_cons (ev_v 5) (ea_cons (ev_v 2) ea_nil))))))))))
theorem ok_power_of_row (T : Txt K mg) : FnOk P w K mg base (L2.CX P w) 16 T.f_power_of_row.a T.f_power_of_row.fd ["numbers"] (spD K (caOf T P w) 1 F_power_of_row) := by
  have G_need_growing_row := ok_need_growing_row (P := P) (w := w) (base := base) T
  have G_power_of := ok_power_of (P := P) (w := w) (base := base) T
  have G_Uneven__init__ := ok_Uneven__init__ (P := P) (w := w) (base := base) T
  have G_is_step_by := ok_is_step_by (P := P) (w := w) (base := base) T
  exact fn_D (own' := []) T.f_power_of_row.F sc_power_of_row (fun B hB cdv A outer s H E hr => (sv_cons (sv_expr (ev_call G_need_growing_row (hr.mono (by decide)) T.f_need_growing_row.g T.f_need_growing_row.F.kp T.f_need_growing_row.b (pxT tk_of) (ea_cons (ev_v 0) ea_nil))) (sv_cons (sv_asg (i := 1) (own' := []) sc_power_of_row.nd (ev_call G_power_of (hr.mono (by decide)) T.f_power_of.g T.f_power_of.F.kp T.f_power_of.b (pxT tk_of) (ea_cons (ev_ix ixD_ne oo_ix (ev_v 0) ev_int) (ea_cons (ev_ix ixD_ne oo_ix (ev_v 0) ev_int) (ea_cons (ev_ix ixD_ne oo_ix (ev_v 0) ev_int) (ea_cons (ev_ix ixD_ne oo_ix (ev_v 0) ev_int) ea_nil))))) (.inl (by decide))) (sv_cons (sv_if (et_cmp clsIsnD_ne (oo_clsIsn (clsC T)) (ev_callT typeD_ne oc_type T.n_type (ea_cons (ev_v 1) ea_nil)) (ev_k (pe_glob (v := .ref T.k_ByPower.a) rfl T.k_ByPower.g rfl) fun _ => .cod 24 rfl)) (sv_one (sv_ret (ev_ice (ev_make (c := 108) T.mk_Uneven G_Uneven__init__ (hr.mono (by decide)) T.k_Uneven.g T.f_Uneven__init__.b (pxT tk_of) (ea_cons ev_int ea_nil))))) sv_nil) (sv_cons (sv_for ps_of rfl (ei_range1 T.n_range (ea_cons (ev_op (intD_ne subI_ne) oo_sub (ev_callB lenP_ne oc_lenP T.n_len (ea_cons (ev_v 0) ea_nil)) ev_int) ea_nil)) (eg_name (i := 2) sc_power_of_row.nd (.inl (by decide))) bName_ne (sv_one (sv_if (et_not (et_val (ev_call G_is_step_by (hr.mono (by decide)) T.f_is_step_by.g T.f_is_step_by.F.kp T.f_is_step_by.b (pxT tk_of) (ea_cons (ev_v 0) (ea_cons (ev_v 2) (ea_cons (ev_fld (at_power T) (ev_v 1)) ea_nil)))))) (sv_one (sv_ret (ev_ice (ev_make (c := 108) T.mk_Uneven G_Uneven__init__ (hr.mono (by decide)) T.k_Uneven.g T.f_Uneven__init__.b (pxT tk_of) (ea_cons (ev_v 2) ea_nil))))) sv_nil))) (sv_one (sv_ret (ev_v 1))))))))
theorem okn_is_just (T : Txt K mg) : ∀ n : Nat, n ≤ 60 → FnOk P w K mg base (L2.CX P w) (4 + n) T.f_is_just.a T.f_is_just.fd ["value", "wanted"] (spD K (caOf T P w) 2 (FF_is_just n))
  | 0, _ => T.f_is_just.F.okX sc_is_just (fun vs H Q E ⟨_, _, _, _, _, h⟩ => h.elim) (fun _ _ _ _ _ _ _ _ _ ⟨_, _, _, _, _, h⟩ => h.elim)
  | n + 1, hn => by
    have G_is_integer := ok_is_integer (P := P) (w := w) (base := base) T
    have G_is_just := okn_is_just T n (by omega)
    exact fn_D (own' := []) T.f_is_just.F sc_is_just (fun B hB cdv A outer s H E hr => (sv_cons (sv_if (et_val (ev_callB isiD_ne (oc_isi (clsC T) (subG_ok T)) T.n_isinstance (ea_cons (ev_v 1) (ea_cons (ev_k (pe_bltn (v := .ty "tuple") (by rfl) T.n_tuple (by decide +kernel) rfl) fun _ => .ty _) ea_nil)))) (sv_cons (sv_if (PW.pt (ew_or (et_not (et_val (ev_callB isiD_ne (oc_isi (clsC T) (subG_ok T)) T.n_isinstance (ea_cons (ev_v 0) (ea_cons (ev_k (pe_bltn (v := .ty "tuple") (by rfl) T.n_tuple (by decide +kernel) rfl) fun _ => .ty _) ea_nil))))) (ew_or1 (et_cmp neD_ne (oo_ne hr.units) (ev_callB lenP_ne oc_lenP T.n_len (ea_cons (ev_v 0) ea_nil)) (ev_callB lenP_ne oc_lenP T.n_len (ea_cons (ev_v 1) ea_nil)))))) (sv_one (sv_ret ev_bl)) sv_nil) (sv_one (sv_ret (ev_callB allD_ne (oc_all rfl) T.n_all (ea_cons (ev_ice (ev_lc rfl (so := [("one", 2), ("other", 3)]) sc_is_just.nd (ei_zipP T.n_zip (ea_cons (ev_v 0) (ea_cons (ev_v 1) ea_nil))) (blkOk_by (N := n_is_just) (sc := defScope s_is_just) (by decide +kernel)) (fun B1 hL1 s H Ca cl fp => (eg_seq rfl (egs_cons (eg_name (i := 2) sc_is_just.nd (.inl (by decide))) (egs_cons (eg_name (i := 3) sc_is_just.nd (.inl (by decide))) egs_nil)))) (fun B1 hL1 s H Ca cl fp => ets_nil) (fun B1 hL1 s H Ca cl fp => (ev_call G_is_just (hr.mono (Nat.le_refl _)) T.f_is_just.g T.f_is_just.F.kp T.f_is_just.b pxF (ea_cons (ev_v 2) (ea_cons (ev_v 3) ea_nil)))) (bSeq_ne (bCons_ne bName_ne (bCons_ne bName_ne bNil_ne))))) ea_nil))))) sv_nil) (sv_cons (sv_if (et_val (ev_callB isiD_ne (oc_isi (clsC T) (subG_ok T)) T.n_isinstance (ea_cons (ev_v 1) (ea_cons (ev_k (pe_bltn (v := .ty "str") (by rfl) T.n_str (by decide +kernel) rfl) fun _ => .ty _) ea_nil)))) (sv_one (sv_ret (ev_and (ev_callB isiD_ne (oc_isi (clsC T) (subG_ok T)) T.n_isinstance (ea_cons (ev_v 0) (ea_cons (ev_k (pe_bltn (v := .ty "str") (by rfl) T.n_str (by decide +kernel) rfl) fun _ => .ty _) ea_nil))) (ev_and1 (ev_cmp eqD_ne (oo_eq hr.units) (ev_v 0) (ev_v 1)))))) sv_nil) (sv_cons (sv_if (et_val (ev_call G_is_integer (hr.mono (by simp only [Nat.add_eq]; omega)) T.f_is_integer.g T.f_is_integer.F.kp T.f_is_integer.b (pxT tk_of) (ea_cons (ev_v 1) ea_nil))) (sv_one (sv_ret (ev_and (ev_call G_is_integer (hr.mono (by simp only [Nat.add_eq]; omega)) T.f_is_integer.g T.f_is_integer.F.kp T.f_is_integer.b (pxT tk_of) (ea_cons (ev_v 0) ea_nil)) (ev_and1 (ev_cmp eqD_ne (oo_eq hr.units) (ev_v 0) (ev_v 1)))))) sv_nil) (sv_one (sv_ret (ev_and (ev_cmp isD_ne oo_is (ev_v 0) ev_non) (ev_and1 (ev_cmp isD_ne oo_is (ev_v 1) ev_non)))))))))
theorem ok_is_just (T : Txt K mg) : FnOk P w K mg base (L2.CX P w) 7 T.f_is_just.a T.f_is_just.fd ["value", "wanted"] (spD K (caOf T P w) 2 F_is_just) := okn_is_just T 3 (by decide)
theorem ok_shows_power_of_row (T : Txt K mg) : FnOk P w K mg base (L2.CX P w) 19 T.f_shows_power_of_row.a T.f_shows_power_of_row.fd ["numbers", "value"] (spD K (caOf T P w) 2 F_shows_power_of_row) := by
  have G_power_of_row := ok_power_of_row (P := P) (w := w) (base := base) T
  have G_is_just := ok_is_just (P := P) (w := w) (base := base) T
  exact fn_D (own' := []) T.f_shows_power_of_row.F sc_shows_power_of_row (fun B hB cdv A outer s H E hr => (sv_cons (sv_asg (i := 2) (own' := []) sc_shows_power_of_row.nd (ev_call G_power_of_row (hr.mono (by decide)) T.f_power_of_row.g T.f_power_of_row.F.kp T.f_power_of_row.b (pxT tk_of) (ea_cons (ev_v 0) ea_nil)) (.inl (by decide))) (sv_one (sv_ret (ev_and (ev_cmp clsIsD_ne (oo_clsIs (clsC T)) (ev_callT typeD_ne oc_type T.n_type (ea_cons (ev_v 1) ea_nil)) (ev_callT typeD_ne oc_type T.n_type (ea_cons (ev_v 2) ea_nil))) (ev_and1 (ev_call G_is_just (hr.mono (by decide)) T.f_is_just.g T.f_is_just.F.kp T.f_is_just.b (pxT tk_of) (ea_cons (ev_fld (at_parts T) (ev_v 1)) (ea_cons (ev_fld (at_parts T) (ev_v 2)) ea_nil)))))))))
theorem ok__law_told (T : Txt K mg) : FnOk P w K mg base (L2.CX P w) 1 T.f__law_told.a T.f__law_told.fd ["_law_paper"] (spD K (caOf T P w) 1 F__law_told) := by
  exact fn_D (own' := []) T.f__law_told.F sc__law_told (fun B hB cdv A outer s H E hr => (sv_one (sv_ret (ev_if (et_val (ev_callB isiD_ne (oc_isi (clsC T) (subG_ok T)) T.n_isinstance (ea_cons (ev_v 0) (ea_cons (ev_k (pe_glob (v := .ref T.k_ByPower.a) rfl T.k_ByPower.g rfl) fun _ => .cod 24 rfl) ea_nil)))) (ev_tup (ea_cons ev_str (ea_cons (ev_fld (at_power T) (ev_v 0)) ea_nil))) (ev_tup (ea_cons ev_str (ea_cons (ev_fld (at_step T) (ev_v 0)) ea_nil)))))))
theorem ok_law (T : Txt K mg) : FnG P w K mg base 22 T.f_law.a T.f_law.fd ["_law_script"] (spD K (caOf T P w) 1 F_law) := by
  have G__law_hat := ok__law_hat (P := P) (w := w) (base := base) T
  have G__law_begun := ok__law_begun (P := P) (w := w) (base := base) T
  have G_numbers_by := ok_numbers_by (P := P) (w := w) (base := base) T
  have G__law_row := ok__law_row (P := P) (w := w) (base := base) T
  have G_Between__init__ := ok_Between__init__ (P := P) (w := w) (base := base) T
  have G_Paper__init__ := fun {n : Nat} => ok_Paper__init__ (P := P) (w := w) (base := base) (n := n) T
  have G_Denial__init__ := fun {n : Nat} => ok_Denial__init__ (P := P) (w := w) (base := base) (n := n) T
  have G__law_lot := ok__law_lot (P := P) (w := w) (base := base) T
  have G__law_due := ok__law_due (P := P) (w := w) (base := base) T
  have G_power_of_row := ok_power_of_row (P := P) (w := w) (base := base) T
  have G_shows_power_of_row := ok_shows_power_of_row (P := P) (w := w) (base := base) T
  have G__law_one := ok__law_one (P := P) (w := w) (base := base) T
  have G__law_told := ok__law_told (P := P) (w := w) (base := base) T
  have G_Uneven__init__ := ok_Uneven__init__ (P := P) (w := w) (base := base) T
  have G_ByPower__init__ := ok_ByPower__init__ (P := P) (w := w) (base := base) T
  have G__law_gone_on := ok__law_gone_on (P := P) (w := w) (base := base) T
  exact fn_DG (own' := [1]) T.f_law.F sc_law (fun B hB cdv A outer s H E gu hr => (sv_cons (sv_asgN (i := 1) (own' := [1]) sc_law.nd (ev_callN G__law_hat (hr.mono (by decide)) T.f__law_hat.g T.f__law_hat.F.kp T.f__law_hat.b (pxT tk_of) (ea_cons (ev_v 0) ea_nil)) (.inl (by decide))) (sv_cons (sv_for ps_of rfl (ei_range1 T.n_range (ea_cons ev_int ea_nil)) (eg_name (i := 2) sc_law.nd (.inl (by decide))) bName_ne (sv_cons (sv_tgt (ev_callM 1 G__law_begun (hr.mono (by decide)) T.f__law_begun.g T.f__law_begun.F.kp T.f__law_begun.b (pxT tk_of) ea_nil) (eg_seq rfl (egs_cons (eg_name (i := 3) sc_law.nd (.inl (by decide))) (egs_cons (eg_name (i := 4) sc_law.nd (.inl (by decide))) (egs_cons (eg_name (i := 5) sc_law.nd (.inl (by decide))) egs_nil)))) (bSeq_ne (bCons_ne bName_ne (bCons_ne bName_ne (bCons_ne bName_ne bNil_ne))))) (sv_cons (sv_asg (i := 6) (own' := [1]) sc_law.nd (ev_op addP_ne oo_addP ev_int (ev_callM 1 G__law_lot (hr.mono (by decide)) T.f__law_lot.g T.f__law_lot.F.kp T.f__law_lot.b (pxT tk_of) (ea_cons ev_int ea_nil))) (.inl (by decide))) (sv_cons (sv_asg (i := 7) (own' := [1]) sc_law.nd (ev_call G_numbers_by (hr.mono (by decide)) T.f_numbers_by.g T.f_numbers_by.F.kp T.f_numbers_by.b (pxT tk_of) (ea_cons (ev_v 3) (ea_cons (ev_v 4) (ea_cons (ev_v 6) (ea_cons (ev_v 5) ea_nil))))) (.inl (by decide))) (sv_cons (sv_if (PW.pt (ew_or (et_cmp neD_ne (oo_ne hr.units) (ev_callB reprD_ne (oc_repr gu hr) T.n_repr (ea_cons (ev_v 7) ea_nil)) (ev_callB reprD_ne (oc_repr gu hr) T.n_repr (ea_cons (ev_callT tupC_ne oc_tuple T.n_tuple (ea_cons (ev_call G__law_gone_on (hr.mono (by decide)) T.f__law_gone_on.g T.f__law_gone_on.F.kp T.f__law_gone_on.b (pxT tk_of) (ea_cons (ev_v 3) (ea_cons (ev_v 4) (ea_cons (ev_v 6) (ea_cons (ev_v 5) ea_nil))))) ea_nil)) ea_nil))) (ew_or1 (et_cmp neD_ne (oo_ne hr.units) (ev_call G_numbers_by (hr.mono (by decide)) T.f_numbers_by.g T.f_numbers_by.F.kp T.f_numbers_by.b (pxT tk_of) (ea_cons (ev_v 3) (ea_cons (ev_v 4) (ea_cons ev_int (ea_cons (ev_v 5) ea_nil))))) (ev_tup (ea_cons (ev_v 3) (ea_cons (ev_v 4) ea_nil))))))) (sv_one (sv_ret ev_bl)) sv_nil) (sv_cons (sv_asg (i := 7) (own' := [1]) sc_law.nd (ev_callM 1 G__law_row (hr.mono (by decide)) T.f__law_row.g T.f__law_row.F.kp T.f__law_row.b (pxT tk_of) ea_nil) (.inl (by decide))) (sv_cons (sv_par3 (i := 8) (j := 9) (l := 10) (own' := [1]) rfl sc_law.nd (ea_cons (ev_ice (ev_callTN lstC_ne oc_list T.n_list (ea_cons (ev_v 7) ea_nil))) (ea_cons (ev_call G__law_due (hr.mono (by decide)) T.f__law_due.g T.f__law_due.F.kp T.f__law_due.b (pxT tk_of) (ea_cons (ev_v 7) ea_nil)) (ea_cons (ev_call G_power_of_row (hr.mono (by decide)) T.f_power_of_row.g T.f_power_of_row.F.kp T.f_power_of_row.b (pxT tk_of) (ea_cons (ev_v 7) ea_nil)) ea_nil))) (.inl (by decide)) (.inl (by decide)) (.inl (by decide))) (sv_cons (sv_if (PW.pt (ew_or (et_not (et_val (ev_isiT (cs := [.cod 24, .cod 108]) (clsC T) (subG_ok T) (fun _ => (.cons (.cod 24 rfl) (.cons (.cod 108 rfl) .nil))) (by show 2 ≤ sizeLine; rw [sizeLine_eq]; decide) T.n_isinstance (ev_v 10) (pc_cons (pe_glob (v := .ref T.k_ByPower.a) rfl T.k_ByPower.g rfl) (pc_cons (pe_glob (v := .ref T.k_Uneven.a) rfl T.k_Uneven.g rfl) pc_nil))))) (ew_or (et_cmp neD_ne (oo_ne hr.units) (ev_fld (at_word T) (ev_v 10)) (ev_ix ixD_ne oo_ix (ev_v 9) ev_int)) (ew_or1 (et_cmp neD_ne (oo_ne hr.units) (ev_callB reprD_ne (oc_repr gu hr) T.n_repr (ea_cons (ev_call G__law_told (hr.mono (by decide)) T.f__law_told.g T.f__law_told.F.kp T.f__law_told.b (pxT tk_of) (ea_cons (ev_v 10) ea_nil)) ea_nil)) (ev_callB reprD_ne (oc_repr gu hr) T.n_repr (ea_cons (ev_v 9) ea_nil))))))) (sv_one (sv_ret ev_bl)) sv_nil) (sv_cons (sv_if (PW.pt (ew_or (et_cmp neD_ne (oo_ne hr.units) (ev_boI (boT_ok T) (hr.mono (by decide)) (pxT tk_of) T.n_bool (ev_v 10)) (ev_callB isiD_ne (oc_isi (clsC T) (subG_ok T)) T.n_isinstance (ea_cons (ev_v 10) (ea_cons (ev_k (pe_glob (v := .ref T.k_ByPower.a) rfl T.k_ByPower.g rfl) fun _ => .cod 24 rfl) ea_nil)))) (ew_or (et_cmp isnD_ne oo_isn (ev_call G_shows_power_of_row (hr.mono (by decide)) T.f_shows_power_of_row.g T.f_shows_power_of_row.F.kp T.f_shows_power_of_row.b (pxT tk_of) (ea_cons (ev_v 7) (ea_cons (ev_v 10) ea_nil))) ev_bl) (ew_or1 (et_cmp neD_ne (oo_ne hr.units) (ev_v 7) (ev_v 8)))))) (sv_one (sv_ret ev_bl)) sv_nil) (sv_cons (sv_if (PW.pt (ew_or (et_neI (eqT_ok T) (hr.mono (by decide)) (pxT tk_of) (ev_callK G_power_of_row (hr.mono (by decide)) T.f_power_of_row.g T.f_power_of_row.F.kp (kb_power_of_row_1 T) (fun F ds vs r => kr_power_of_row_1 r) (pxT tk_of) (ek_cons (ev_callT tupC_ne oc_tuple T.n_tuple (ea_cons (ev_v 7) ea_nil)) ek_nil)) (ev_v 10)) (ew_or1 (et_cmp isnD_ne oo_isn (ev_callK G_shows_power_of_row (hr.mono (by decide)) T.f_shows_power_of_row.g T.f_shows_power_of_row.F.kp (kb_shows_power_of_row_0 T) (fun F ds vs r => kr_shows_power_of_row_0 r) (pxT tk_of) (ek_cons (ev_v 10) (ek_cons (ev_callT tupC_ne oc_tuple T.n_tuple (ea_cons (ev_v 7) ea_nil)) ek_nil))) ev_bl)))) (sv_one (sv_ret ev_bl)) sv_nil) (sv_cons (sv_asg (i := 11) (own' := [1]) sc_law.nd (ev_ice (ev_lst (ea_cons (ev_ix ixD_ne oo_ix (ev_v 9) ev_int) (ea_cons (ev_op addP_ne oo_addP (ev_ix ixD_ne oo_ix (ev_v 9) ev_int) ev_int) (ea_cons (ev_op (intD_ne subI_ne) oo_sub (ev_ix ixD_ne oo_ix (ev_v 9) ev_int) ev_int) (ea_cons ev_int (ea_cons ev_int (ea_cons (ev_op (intD_ne subI_ne) oo_sub (ev_callB lenP_ne oc_lenP T.n_len (ea_cons (ev_v 7) ea_nil)) ev_int) (ea_cons (ev_op (intD_ne subI_ne) oo_sub (ev_callB lenP_ne oc_lenP T.n_len (ea_cons (ev_v 7) ea_nil)) ev_int) (ea_cons ev_non (ea_cons ev_bl (ea_cons (ev_callT strI_ne oc_str T.n_str (ea_cons (ev_ix ixD_ne oo_ix (ev_v 9) ev_int) ea_nil)) (ea_cons (ev_op (intD_ne powI_ne) oo_pow ev_int ev_int) (ea_cons (ev_un negD_ne oo_neg ev_int) (ea_cons (ev_ice (ev_lst (ea_cons ev_int ea_nil))) ea_nil))))))))))))))) (.inl (by decide))) (sv_cons (sv_for ps_of rfl (ei_range1 T.n_range (ea_cons ev_int ea_nil)) (eg_name (i := 12) sc_law.nd (.inl (by decide))) bName_ne (sv_cons (sv_par2 (i := 13) (j := 14) (own' := [1]) rfl sc_law.nd (ea_cons (ev_callM 1 G__law_one (hr.mono (by decide)) T.f__law_one.g T.f__law_one.F.kp T.f__law_one.b (pxT tk_of) (ea_cons (ev_v 11) ea_nil)) (ea_cons (ev_cmp eqD_ne (oo_eq hr.units) (ev_callM 1 G__law_lot (hr.mono (by decide)) T.f__law_lot.g T.f__law_lot.F.kp T.f__law_lot.b (pxT tk_of) (ea_cons ev_int ea_nil)) ev_int) ea_nil)) (.inl (by decide)) (.inl (by decide))) (sv_cons (sv_asg (i := 15) (own' := [1]) sc_law.nd (ev_and (ev_not (ev_callB isiD_ne (oc_isi (clsC T) (subG_ok T)) T.n_isinstance (ea_cons (ev_v 13) (ea_cons (ev_k (pe_bltn (v := .ty "bool") (by rfl) T.n_bool (by decide +kernel) rfl) fun _ => .ty _) ea_nil)))) (ev_and1 (ev_cmp eqD_ne (oo_eq hr.units) (ev_tup (ea_cons (ev_if (et_tru (ev_v 14)) ev_str ev_str) (ea_cons (ev_v 13) ea_nil))) (ev_v 9)))) (.inl (by decide))) (sv_one (sv_if (et_cmp neD_ne (oo_ne hr.units) (ev_call G_shows_power_of_row (hr.mono (by decide)) T.f_shows_power_of_row.g T.f_shows_power_of_row.F.kp T.f_shows_power_of_row.b (pxT tk_of) (ea_cons (ev_v 7) (ea_cons (ev_if (et_tru (ev_v 14)) (ev_ice (ev_make (c := 108) T.mk_Uneven G_Uneven__init__ (hr.mono (by decide)) T.k_Uneven.g T.f_Uneven__init__.b (pxT tk_of) (ea_cons (ev_v 13) ea_nil))) (ev_ice (ev_make (c := 24) T.mk_ByPower G_ByPower__init__ (hr.mono (by decide)) T.k_ByPower.g T.f_ByPower__init__.b (pxT tk_of) (ea_cons (ev_v 13) ea_nil)))) ea_nil))) (ev_v 15)) (sv_one (sv_ret ev_bl)) sv_nil))))) (sv_cons (sv_asg (i := 16) (own' := [1]) sc_law.nd (ev_ice (ev_lst (ea_cons ev_non (ea_cons (ev_ix ixD_ne oo_ix (ev_v 9) ev_int) (ea_cons (ev_v 9) (ea_cons ev_str (ea_cons (ev_ice (ev_make (c := 21) T.mk_Between G_Between__init__ (hr.mono (by decide)) T.k_Between.g T.f_Between__init__.b (pxT tk_of) (ea_cons (ev_ix ixD_ne oo_ix (ev_v 9) ev_int) ea_nil))) (ea_cons (ev_ice (ev_makeR (sp := fun _ _ _ _ => True) (c := 85) T.mk_Paper G_Paper__init__ (hr.mono (by decide)) T.k_Paper.g (pxT tk_of) (ea_cons ev_str (ea_cons (ev_ix ixD_ne oo_ix (ev_v 9) ev_int) ea_nil)))) (ea_cons (ev_ice (ev_makeR (sp := fun _ _ _ _ => True) (c := 32) T.mk_Denial G_Denial__init__ (hr.mono (by decide)) T.k_Denial.g (pxT tk_of) (ea_cons ev_str (ea_cons (ev_ix ixD_ne oo_ix (ev_v 9) ev_int) ea_nil)))) (ea_cons (ev_fld (at_parts T) (ev_v 10)) ea_nil)))))))))) (.inl (by decide))) (sv_one (sv_if (et_cmp isnD_ne oo_isn (ev_call G_shows_power_of_row (hr.mono (by decide)) T.f_shows_power_of_row.g T.f_shows_power_of_row.F.kp T.f_shows_power_of_row.b (pxT tk_of) (ea_cons (ev_v 7) (ea_cons (ev_callM 1 G__law_one (hr.mono (by decide)) T.f__law_one.g T.f__law_one.F.kp T.f__law_one.b (pxT tk_of) (ea_cons (ev_v 16) ea_nil)) ea_nil))) ev_bl) (sv_one (sv_ret ev_bl)) sv_nil))))))))))))))) (sv_one (sv_ret ev_bl)))))
end
end Q

namespace K9
def sum0 (a b c d : Int) (p : Nat) : Int := a ^ p + d ^ p - b ^ p - c ^ p
/-- .. at any power, in whole numbers -/
def wsum (a b c d p : Int) : Int := if p < 0 then sum0 (b * c * d) (a * c * d) (a * b * d) (a * b * c) (-p).toNat else sum0 a b c d p.toNat
/-! ### powers of whole numbers -/
theorem ipow_pos {x : Int} (h : 0 < x) : ∀ n : Nat, 0 < x ^ n
  | 0 => by rw [Int.pow_zero]; decide
  | n + 1 => by rw [Int.pow_succ]; exact Int.mul_pos (ipow_pos h n) h
theorem ipow_le {x y : Int} (h0 : 0 < x) (h : x ≤ y) : ∀ n : Nat, x ^ n ≤ y ^ n
  | 0 => by rw [Int.pow_zero, Int.pow_zero]; decide
  | n + 1 => by
    rw [Int.pow_succ, Int.pow_succ]
    exact Int.mul_le_mul (ipow_le h0 h n) h (by omega) (Int.le_of_lt (ipow_pos (by omega) n))
theorem diff_hi {x y : Int} (h0 : 0 < x) (h : x ≤ y) : ∀ n : Nat, y ^ (n + 1) - x ^ (n + 1) ≤ ((n : Int) + 1) * ((y - x) * y ^ n)
  | 0 => by
    rw [Int.pow_succ, Int.pow_succ, Int.pow_zero, Int.pow_zero]
    omega
  | n + 1 => by
    have ih := diff_hi h0 h n
    have e : y ^ (n + 1 + 1) - x ^ (n + 1 + 1) = (y ^ (n + 1) - x ^ (n + 1)) * y + (y - x) * x ^ (n + 1) := by
      rw [Int.pow_succ y (n + 1), Int.pow_succ x (n + 1), Int.sub_mul, Int.sub_mul, Int.mul_comm x (x ^ (n + 1))]
      rw [Int.mul_comm (x ^ (n + 1)) y]
      omega
    have h1 : (y ^ (n + 1) - x ^ (n + 1)) * y ≤ ((n : Int) + 1) * ((y - x) * y ^ n) * y := Int.mul_le_mul_of_nonneg_right ih (by omega)
    have h2 : (y - x) * x ^ (n + 1) ≤ (y - x) * y ^ (n + 1) := Int.mul_le_mul_of_nonneg_left (ipow_le h0 h _) (by omega)
    have e2 : ((n : Int) + 1) * ((y - x) * y ^ n) * y = ((n : Int) + 1) * ((y - x) * y ^ (n + 1)) := by
      rw [Int.pow_succ, Int.mul_assoc, Int.mul_assoc]
    have e3 : (((n + 1 : Nat) : Int) + 1) * ((y - x) * y ^ (n + 1)) = ((n : Int) + 1) * ((y - x) * y ^ (n + 1)) + (y - x) * y ^ (n + 1) := by
      rw [show (((n + 1 : Nat) : Int) + 1) = ((n : Int) + 1) + 1 by omega, Int.add_mul, Int.one_mul]
    omega
theorem diff_lo {x y : Int} (h0 : 0 < x) (h : x ≤ y) : ∀ n : Nat, ((n : Int) + 1) * ((y - x) * x ^ n) ≤ y ^ (n + 1) - x ^ (n + 1)
  | 0 => by
    rw [Int.pow_succ, Int.pow_succ, Int.pow_zero, Int.pow_zero]
    omega
  | n + 1 => by
    have ih := diff_lo h0 h n
    have e : y ^ (n + 1 + 1) - x ^ (n + 1 + 1) = (y ^ (n + 1) - x ^ (n + 1)) * x + (y - x) * y ^ (n + 1) := by
      rw [Int.pow_succ y (n + 1), Int.pow_succ x (n + 1), Int.sub_mul, Int.sub_mul, Int.mul_comm y (y ^ (n + 1))]
      rw [Int.mul_comm (y ^ (n + 1)) x]
      omega
    have h1 : ((n : Int) + 1) * ((y - x) * x ^ n) * x ≤ (y ^ (n + 1) - x ^ (n + 1)) * x := Int.mul_le_mul_of_nonneg_right ih (by omega)
    have h2 : (y - x) * x ^ (n + 1) ≤ (y - x) * y ^ (n + 1) := Int.mul_le_mul_of_nonneg_left (ipow_le h0 h _) (by omega)
    have e2 : ((n : Int) + 1) * ((y - x) * x ^ n) * x = ((n : Int) + 1) * ((y - x) * x ^ (n + 1)) := by
      rw [Int.pow_succ, Int.mul_assoc, Int.mul_assoc]
    have e3 : (((n + 1 : Nat) : Int) + 1) * ((y - x) * x ^ (n + 1)) = ((n : Int) + 1) * ((y - x) * x ^ (n + 1)) + (y - x) * x ^ (n + 1) := by
      rw [show (((n + 1 : Nat) : Int) + 1) = ((n : Int) + 1) + 1 by omega, Int.add_mul, Int.one_mul]
    omega
/-- four growing numbers -/
structure Gr (a b c d : Int) : Prop where
  ga : 0 < a
  gb : a < b
  gc : b ≤ c
  gd : c < d
theorem sum_step {a b c d : Int} (g : Gr a b c d) (n : Nat) (h : 0 ≤ sum0 a b c d (n + 1)) : 0 < sum0 a b c d (n + 1 + 1) := by
  have ga := g.ga
  have gb := g.gb
  have gc := g.gc
  have gd := g.gd
  unfold sum0 at h ⊢
  have hi := diff_hi (x := c) (y := d) (by omega) (by omega) n
  have lo := diff_lo (x := a) (y := b) ga (by omega) n
  have pa := ipow_pos ga n
  have pd := ipow_pos (show 0 < d by omega) n
  have ba : a ^ (n + 1) < b ^ (n + 1) := by
    have : 0 < ((n : Int) + 1) * ((b - a) * a ^ n) := Int.mul_pos (by omega) (Int.mul_pos (by omega) pa)
    omega
  have ed : d ^ (n + 1 + 1) - c ^ (n + 1 + 1) = (d ^ (n + 1) - c ^ (n + 1)) * c + (d - c) * d ^ (n + 1) := by
    rw [Int.pow_succ d (n + 1), Int.pow_succ c (n + 1), Int.sub_mul, Int.sub_mul, Int.mul_comm d (d ^ (n + 1))]
    rw [Int.mul_comm (d ^ (n + 1)) c]
    omega
  have eb : b ^ (n + 1 + 1) - a ^ (n + 1 + 1) = (b ^ (n + 1) - a ^ (n + 1)) * b + (b - a) * a ^ (n + 1) := by
    rw [Int.pow_succ b (n + 1), Int.pow_succ a (n + 1), Int.sub_mul, Int.sub_mul, Int.mul_comm a (a ^ (n + 1))]
    rw [Int.mul_comm (a ^ (n + 1)) b]
    omega
  have k1 : (b ^ (n + 1) - a ^ (n + 1)) * b ≤ (d ^ (n + 1) - c ^ (n + 1)) * c := Int.mul_le_mul (by omega) gc (by omega) (by omega)
  have k2 : (b - a) * a ^ n ≤ (d - c) * d ^ n := by
    have h3 : ((n : Int) + 1) * ((b - a) * a ^ n) ≤ ((n : Int) + 1) * ((d - c) * d ^ n) := by omega
    exact Int.le_of_mul_le_mul_left h3 (by omega)
  have pba : 0 < (b - a) * a ^ n := Int.mul_pos (by omega) pa
  have k3 : (b - a) * a ^ (n + 1) < (d - c) * d ^ (n + 1) := by
    rw [Int.pow_succ, Int.pow_succ, ← Int.mul_assoc, ← Int.mul_assoc]
    have t1 : (b - a) * a ^ n * a < (b - a) * a ^ n * d := Int.mul_lt_mul_of_pos_left (by omega) pba
    have t2 : (b - a) * a ^ n * d ≤ (d - c) * d ^ n * d := Int.mul_le_mul_of_nonneg_right k2 (by omega)
    omega
  omega
theorem two_more : ∀ k : Fin 99, 2 * ((k.val : Int)) ^ 69 ≤ ((k.val : Int) + 1) ^ 69 := by decide +kernel
theorem twice {x y : Int} (h0 : 0 < x) (h : x < y) (h9 : y ≤ 99) : 2 * x ^ 69 ≤ y ^ 69 := by
  have e := two_more ⟨x.toNat, by omega⟩
  have ex : ((x.toNat : Nat) : Int) = x := by omega
  simp only [ex] at e
  have := ipow_le (x := x + 1) (y := y) (by omega) (by omega) 69
  omega
theorem far_up {a b c d : Int} (g : Gr a b c d) (h9 : d ≤ 99) : 0 < sum0 a b c d 69 := by
  have ga := g.ga
  have gb := g.gb
  have gc := g.gc
  have gd := g.gd
  unfold sum0
  have h1 := twice (x := c) (y := d) (by omega) gd h9
  have h2 := ipow_le (x := b) (y := c) (by omega) gc 69
  have h3 := ipow_pos ga 69
  omega
/-- the four whose powers are those below 0 -/
theorem Gr.low {a b c d : Int} (g : Gr a b c d) : Gr (a * b * c) (a * b * d) (a * c * d) (b * c * d) := by
  have ga := g.ga
  have gb := g.gb
  have gc := g.gc
  have gd := g.gd
  have ab : 0 < a * b := Int.mul_pos ga (by omega)
  have cd : 0 < c * d := Int.mul_pos (by omega) (by omega)
  have ad : 0 < a * d := Int.mul_pos ga (by omega)
  refine ⟨Int.mul_pos ab (by omega), Int.mul_lt_mul_of_pos_left gd ab, ?_, ?_⟩
  · rw [show a * b * d = b * (a * d) by ac_rfl, show a * c * d = c * (a * d) by ac_rfl]
    exact Int.mul_le_mul_of_nonneg_right gc (by omega)
  · rw [Int.mul_assoc, Int.mul_assoc]
    exact Int.mul_lt_mul_of_pos_right gb cd
theorem wsum_up (a b c d : Int) (n : Nat) : wsum a b c d (n : Int) = sum0 a b c d n := by
  unfold wsum
  rw [if_neg (by omega)]
  rfl
theorem wsum_down (a b c d : Int) (n : Nat) (h : 1 ≤ n) : wsum a b c d (-(n : Int)) = sum0 (a * b * c) (a * b * d) (a * c * d) (b * c * d) n := by
  unfold wsum
  rw [if_pos (by omega), show (- -(n : Int)).toNat = n by omega]
  unfold sum0
  omega
theorem far_down {a b c d : Int} (g : Gr a b c d) (h9 : d ≤ 99) : 0 < sum0 (a * b * c) (a * b * d) (a * c * d) (b * c * d) 69 := by
  have ga := g.ga
  have gb := g.gb
  have gc := g.gc
  have gd := g.gd
  have gl := g.low
  unfold sum0
  have h1 := twice (x := a) (y := b) ga gb (by omega)
  have cd : 0 < (c * d) ^ 69 := ipow_pos (Int.mul_pos (by omega) (by omega)) 69
  have h2 : 2 * a ^ 69 * (c * d) ^ 69 ≤ b ^ 69 * (c * d) ^ 69 := Int.mul_le_mul_of_nonneg_right h1 (by omega)
  rw [Int.mul_assoc, ← Int.mul_pow, ← Int.mul_pow, ← Int.mul_assoc, ← Int.mul_assoc] at h2
  have h3 := ipow_le (x := a * b * d) (y := a * c * d) (by have := gl.ga; have := gl.gb; omega) gl.gc 69
  have h4 := ipow_pos gl.ga 69
  omega
/-! ### the first power at which a sum is not below 0 -/
end K9

namespace Q
open PySem PySem.Spec PyProof.Rows L2 Dl
def Hat (n : Nat) (d : D) : Prop := ∃ (ns : List Int) (a r : Int), d = .lst [.lst (ns.map .int), .int a, .int r] ∧ 0 ≤ a ∧ a ≤ n ∧ 0 ≤ r ∧ ns.length ≤ 60
theorem atI_mod {ns : List Int} (h : ns ≠ []) {a : Int} (ha : 0 ≤ a) : ∃ c, atI (ns.map D.int) (a % ns.length) = some (.int c) := by
  have hp : 0 < ns.length := List.length_pos_iff.mpr h
  have h1 : a % (ns.length : Int) = ((a % (ns.length : Int)).toNat : Int) := by
    have := Int.emod_nonneg a (show (ns.length : Int) ≠ 0 by omega)
    omega
  have h2 : (a % (ns.length : Int)).toNat < ns.length := by
    have := Int.emod_lt_of_pos a (show 0 < (ns.length : Int) by omega)
    omega
  rw [atI_nat h1, List.getElem?_map, List.getElem?_eq_getElem h2]
  exact ⟨_, rfl⟩
theorem lot_ok {n : Nat} {d : D} {m : Int} (h : Hat n d) (hn : n ≤ 1000000) (hm : 0 < m) (hm2 : m < 1073741824) : ∃ k d', F__law_lot [d, .int m] = .ok (.int k, d') ∧ 0 ≤ k ∧ k < m ∧ Hat (n + 1) d' := by
  obtain ⟨ns, a, r, rfl, ha, ha2, hr, hl⟩ := h
  have s2 : ∀ a x : D, setIx [.lst (ns.map .int), a, .int r] 2 x = .ok (.lst [.lst (ns.map .int), a, x]) := fun a x => setIx_nat (k := 2) rfl (by simp)
  have s1 : ∀ x : D, setIx [.lst (ns.map .int), .int a, .int r] 1 x = .ok (.lst [.lst (ns.map .int), x, .int r]) := fun x => setIx_nat (k := 1) rfl (by simp)
  by_cases h0 : 0 < r
  · refine ⟨r % m, .lst [.lst (ns.map .int), .int a, .int (r / m)], ?_, Int.emod_nonneg _ (by omega), Int.emod_lt_of_pos _ hm, ns, a, r / m, rfl, ha, by omega, Int.ediv_nonneg hr (by omega), hl⟩
    simp [F__law_lot, m__law_lot, h0, hm, hm2, s2]
  · obtain ⟨c, hc⟩ : ∃ c : Int, (ns = [] → c = 72019 * a + 9829) ∧ (ns ≠ [] → atI (ns.map D.int) (a % ns.length) = some (.int c)) := by
      by_cases hns : ns = []
      · exact ⟨_, fun _ => rfl, fun z => absurd hns z⟩
      · obtain ⟨c, e⟩ := atI_mod hns ha
        exact ⟨c, fun z => absurd z hns, fun _ => e⟩
    have hmod := fun x : Int => And.intro (Int.emod_nonneg x (show m ≠ 0 by omega)) (Int.emod_lt_of_pos x hm)
    have hdiv := fun (x : Int) (hx : 0 ≤ x) => Int.ediv_nonneg hx (show 0 ≤ m by omega)
    have c1 : (c % 2147483563 + 79031 * a + 9829).natAbs < 18446744073709551616 := by
      have := Int.emod_lt_of_pos c (show (0 : Int) < 2147483563 by decide)
      have := Int.emod_nonneg c (show (2147483563 : Int) ≠ 0 by decide)
      omega
    have c2 : ∀ z : Int, ((z % 2147483587) * (2 * a + 1997) + 72019 * a * a + 79063).natAbs < 18446744073709551616 := fun z => by
      have h1 := Int.emod_lt_of_pos z (show (0 : Int) < 2147483587 by decide)
      have h2 := Int.emod_nonneg z (show (2147483587 : Int) ≠ 0 by decide)
      generalize z % 2147483587 = y at h1 h2
      have h3 : y * (2 * a + 1997) ≤ 2147483587 * 2001997 := Int.mul_le_mul (by omega) (by omega) (by omega) (by omega)
      have h4 : 0 ≤ y * (2 * a + 1997) := Int.mul_nonneg h2 (by omega)
      have h5 : 72019 * a * a ≤ 72019000000 * 1000000 := Int.mul_le_mul (by omega) (by omega) ha (by omega)
      have h6 : 0 ≤ 72019 * a * a := Int.mul_nonneg (by omega) ha
      omega
    have z0 : (72019 * a).natAbs < 18446744073709551616 := by omega
    have z1 : ∀ y : Int, (y % 2147483587).natAbs < 18446744073709551616 := fun y => by omega
    have y1 := fun (y j : Int) => mulP_int (i := y % 2147483587) (j := j) (.inl (z1 y))
    have y0 := mulP_int (i := 72019 * a) (j := a) (.inl z0)
    by_cases hg : a < ns.length ∧ 1000000000000000000 ≤ (if c < 0 then -c else c)
    · refine ⟨(2 * ((if c < 0 then -c else c) - 1000000000000000000) + (if c < 0 then 1 else 0)) % m, .lst [.lst (ns.map .int), .int (a + 1), .int ((2 * ((if c < 0 then -c else c) - 1000000000000000000) + (if c < 0 then 1 else 0)) / m)], ?_, (hmod _).1, (hmod _).2, ns, a + 1, _, rfl, by omega, by omega, hdiv _ (by split <;> omega), hl⟩
      have hns : ns ≠ [] := fun z => by rw [z] at hg; simp at hg; omega
      have hlp : (0 : Int) < ns.length := by omega
      simp [F__law_lot, m__law_lot, h0, hm, hm2, s2, s1, hns, hc.2 hns, hg.1, hg.2, hlp]
    · refine ⟨(((((c % 2147483563 + 79031 * a + 9829) ^ 5) % 2147483587) * (2 * a + 1997) + 72019 * a * a + 79063) ^ 3 % 2147483497 / 64) % m, .lst [.lst (ns.map .int), .int (a + 1), .int r], ?_, (hmod _).1, (hmod _).2, ns, a + 1, r, rfl, by omega, by omega, hr, hl⟩
      by_cases hns : ns = []
      · subst hns
        have e := hc.1 rfl
        subst e
        have hla : ¬ a < 0 := by omega
        simp only [List.map_nil] at s1 s2
        simp [F__law_lot, m__law_lot, h0, hm, hm2, s2, s1, hla, y1, y0, c1, c2]
      · have hlp : (0 : Int) < ns.length := by
          have := List.length_pos_iff.mpr hns
          omega
        have hg2 : a < ns.length → ¬ 1000000000000000000 ≤ (if c < 0 then -c else c) := fun z w => hg ⟨z, w⟩
        by_cases hla : a < ns.length
        · simp [F__law_lot, m__law_lot, h0, hm, hm2, s2, s1, hns, hc.2 hns, hla, hg2 hla, hlp, y1, y0, c1, c2]
        · simp [F__law_lot, m__law_lot, h0, hm, hm2, s2, s1, hns, hc.2 hns, hla, hlp, y1, y0, c1, c2]
theorem Hat.up {n m : Nat} {d : D} (h : Hat n d) (hm : n ≤ m) : Hat m d := by
  obtain ⟨ns, a, r, e, h1, h2, h3⟩ := h
  exact ⟨ns, a, r, e, h1, by omega, h3⟩
theorem atI_ok {xs : List D} {k : Int} (h0 : 0 ≤ k) (h1 : k < xs.length) : ∃ x, atI xs k = some x ∧ x ∈ xs := by
  have e : k = (k.toNat : Int) := by omega
  have hl : k.toNat < xs.length := by omega
  rw [atI_nat e, List.getElem?_eq_getElem hl]
  exact ⟨_, rfl, List.getElem_mem hl⟩
theorem one_ok {n : Nat} {d : D} {xs : List D} (h : Hat n d) (hn : n ≤ 1000000) (hx : 0 < xs.length) (hl : xs.length < 1000) : ∃ x d', F__law_one [d, .lst xs] = .ok (x, d') ∧ x ∈ xs ∧ Hat (n + 1) d' := by
  obtain ⟨k, d', e, h0, h1, h2⟩ := lot_ok (m := xs.length) h hn (by omega) (by omega)
  obtain ⟨x, ex, hm⟩ := atI_ok h0 h1
  exact ⟨x, d', by simp [F__law_one, m__law_one, e, ex], hm, h2⟩
theorem begun_ok {n : Nat} {d : D} (h : Hat n d) (hn : n ≤ 900000) : ∃ f s p d', F__law_begun [d] = .ok (.tup [.int f, .int s, .int p], d') ∧ (1 ≤ f ∧ f ≤ 99) ∧ (1 ≤ s ∧ s ≤ 99) ∧ (-80 ≤ p ∧ p ≤ 80) ∧ Hat (n + 9) d' := by
  obtain ⟨k1, d1, e1, a1, b1, g1⟩ := lot_ok (m := 7) h (by omega) (by decide) (by decide)
  obtain ⟨k2, d2, e2, a2, b2, g2⟩ := lot_ok (m := 20) g1 (by omega) (by decide) (by decide)
  obtain ⟨k3, d3, e3, a3, b3, g3⟩ := lot_ok (m := 12) g2 (by omega) (by decide) (by decide)
  obtain ⟨k4, d4, e4, a4, b4, g4⟩ := lot_ok (m := 4) g3 (by omega) (by decide) (by decide)
  have line3 : 3 ≤ sizeLine := line_le (by decide)
  have line4 : 4 ≤ sizeLine := line_le (by decide)
  have line2 : 2 ≤ sizeLine := line_le (by decide)
  have line6 : 6 ≤ sizeLine := line_le (by decide)
  have m2 := fun (j : Int) => mulP_s (i := 1 + k2) (j := j) (by omega)
  have m4 := fun (j : Int) => mulP_s (i := 1 + k4) (j := j) (by omega)
  by_cases w0 : k1 = 0
  · exact ⟨1 + k2, 1 + k2 + (1 + k3), 1, d4, by simp [F__law_begun, m__law_begun, e1, e2, e3, e4, w0, line3, line4], by omega, by omega, by omega, g4.up (by omega)⟩
  by_cases w1 : k1 = 1
  · have q : (1 + k2) * (1 + (1 + k4)) = (1 + k2) * (k4 + 2) := by congr 1; omega
    have q0 : 1 ≤ (1 + k2) * (1 + (1 + k4)) := Int.le_trans (by decide : (1 : Int) ≤ 1 * 1) (Int.mul_le_mul (by omega) (by omega) (by decide) (by omega))
    by_cases c : (1 + k2) * (1 + (1 + k4)) < 100
    · exact ⟨1 + k2, (1 + k2) * (1 + (1 + k4)), 0, d4, by simp [F__law_begun, m__law_begun, e1, e2, e3, e4, w1, line3, line4, m2, c], by omega, by omega, by omega, g4.up (by omega)⟩
    · exact ⟨1 + k2, 1 + k2 + 1, 0, d4, by simp [F__law_begun, m__law_begun, e1, e2, e3, e4, w1, line3, line4, m2, c], by omega, by omega, by omega, g4.up (by omega)⟩
  by_cases w2 : k1 = 2
  · obtain ⟨b, hb⟩ : ∃ b, b = (1 + k3) % 4 := ⟨_, rfl⟩
    have hb0 : 0 ≤ b ∧ b < 4 := by omega
    have mb := fun (j : Int) => mulP_s (i := (1 + k4) * (1 + b)) (j := j) (by
      have h1 : (1 + k4) * (1 + b) ≤ 4 * 4 := Int.mul_le_mul (by omega) (by omega) (by omega) (by decide)
      have h2 : 0 ≤ (1 + k4) * (1 + b) := Int.mul_nonneg (by omega) (by omega)
      omega)
    refine ⟨(1 + k4) * (1 + b) * (1 + b), (1 + k4) * (1 + b) * (1 + b + 1), 0, d4, by simp [F__law_begun, m__law_begun, e1, e2, e3, e4, w2, line3, line4, m4, ← hb, mb], ?_, ?_, by omega, g4.up (by omega)⟩
    · have hk : k4 = 0 ∨ k4 = 1 ∨ k4 = 2 ∨ k4 = 3 := by omega
      have hbb : b = 0 ∨ b = 1 ∨ b = 2 ∨ b = 3 := by omega
      rcases hk with z | z | z | z <;> rcases hbb with h | h | h | h <;> rw [z, h] <;> decide
    · have hk : k4 = 0 ∨ k4 = 1 ∨ k4 = 2 ∨ k4 = 3 := by omega
      have hbb : b = 0 ∨ b = 1 ∨ b = 2 ∨ b = 3 := by omega
      rcases hk with z | z | z | z <;> rcases hbb with h | h | h | h <;> rw [z, h] <;> decide
  by_cases w3 : k1 = 3
  · obtain ⟨x, d5, e5, hx, g5⟩ := one_ok (xs := [.tup [.int 1, .int 5], .tup [.int 7, .int 13], .tup [.int 17, .int 25], .tup [.int 7, .int 17], .tup [.int 5, .int 1], .tup [.int 13, .int 7]]) g4 (by omega) (by decide) (by decide)
    have : k4 = 0 ∨ k4 = 1 ∨ k4 = 2 ∨ k4 = 3 := by omega
    simp only [List.mem_cons, List.not_mem_nil, or_false] at hx
    rcases hx with rfl | rfl | rfl | rfl | rfl | rfl <;> rcases this with rfl | rfl | rfl | rfl <;>
      exact ⟨_, _, 2, d5, (by simp [F__law_begun, m__law_begun, e1, e2, e3, e4, e5, w3, line2, line3, line4, line6]; exact ⟨rfl, rfl⟩), by decide, by decide, by omega, g5.up (by omega)⟩
  by_cases w4 : k1 = 4
  · obtain ⟨x, d5, e5, hx, g5⟩ := one_ok (xs := [.int 60, .int 72, .int 84, .int 90, .int 96, .int 48]) g4 (by omega) (by decide) (by decide)
    have : k4 = 0 ∨ k4 = 1 ∨ k4 = 2 ∨ k4 = 3 := by omega
    simp only [List.mem_cons, List.not_mem_nil, or_false] at hx
    rcases hx with rfl | rfl | rfl | rfl | rfl | rfl <;> rcases this with rfl | rfl | rfl | rfl <;>
      exact ⟨_, _, -1, d5, (by simp [F__law_begun, m__law_begun, e1, e2, e3, e4, e5, w4, line3, line4, line6]; exact ⟨rfl, rfl⟩), by decide, by decide, by omega, g5.up (by omega)⟩
  by_cases w5 : k1 = 5
  · obtain ⟨k5, d5, e5, a5, b5, g5⟩ := lot_ok (m := 161) g4 (by omega) (by decide) (by decide)
    exact ⟨1 + k2, 1 + k2, k5 - 80, d5, by simp [F__law_begun, m__law_begun, e1, e2, e3, e4, e5, w5, line3, line4], by omega, by omega, by omega, g5.up (by omega)⟩
  · obtain ⟨k5, d5, e5, a5, b5, g5⟩ := lot_ok (m := 99) g4 (by omega) (by decide) (by decide)
    obtain ⟨k6, d6, e6, a6, b6, g6⟩ := lot_ok (m := 99) g5 (by omega) (by decide) (by decide)
    obtain ⟨k7, d7, e7, a7, b7, g7⟩ := lot_ok (m := 9) g6 (by omega) (by decide) (by decide)
    obtain ⟨k8, d8, e8, a8, b8, g8⟩ := lot_ok (m := 161) g7 (by omega) (by decide) (by decide)
    obtain ⟨x, d9, e9, hx, g9⟩ := one_ok (xs := [.int (k7 - 4), .int (k8 - 80)]) g8 (by omega) (by simp) (by simp)
    simp only [List.mem_cons, List.not_mem_nil, or_false] at hx
    rcases hx with rfl | rfl
    · exact ⟨1 + k5, 1 + k6, k7 - 4, d9, by simp [F__law_begun, m__law_begun, e1, e2, e3, e4, e5, e6, e7, e8, e9, w0, w1, w2, w3, w4, w5, line2, line3, line4], by omega, by omega, by omega, g9⟩
    · exact ⟨1 + k5, 1 + k6, k8 - 80, d9, by simp [F__law_begun, m__law_begun, e1, e2, e3, e4, e5, e6, e7, e8, e9, w0, w1, w2, w3, w4, w5, line2, line3, line4], by omega, by omega, by omega, g9⟩
end Q

namespace Q
open PySem PySem.Spec PyProof.Rows L2 Dl
theorem natAbs_mul_lt {i j : Int} {a b : Nat} (h1 : i.natAbs < 2 ^ a) (h2 : j.natAbs < 2 ^ b) : (i * j).natAbs < 2 ^ (a + b) := by
  rw [Int.natAbs_mul, Nat.pow_add]
  exact Nat.mul_lt_mul'' h1 h2
theorem natAbs_up {i : Int} {a b : Nat} (h : i.natAbs < 2 ^ a) (hab : a ≤ b) : i.natAbs < 2 ^ b := Nat.lt_of_lt_of_le h (Nat.pow_le_pow_right (by decide) hab)
theorem and1 (m : Nat) : Builtin.bitAnd (m : Int) 1 = ((m % 2 : Nat) : Int) := by
  rw [PyProof.Rows.bitAnd_m1]
  omega
theorem sq_pow (b : Int) : ∀ n : Nat, (b * b) ^ n = b ^ (2 * n)
  | 0 => by simp
  | n + 1 => by
    rw [Int.pow_succ, sq_pow b n, show 2 * (n + 1) = 2 * n + 1 + 1 by omega, Int.pow_succ, Int.pow_succ, Int.mul_assoc]
theorem raised_lp : ∀ (k m : Nat), m < 2 ^ k → ∀ (b f : Int) (x y : Nat), f.natAbs < 2 ^ x → b.natAbs < 2 ^ y → x + y * m ≤ 200000 → y * (2 * m) ≤ 400000 →
    ∃ z, whS (tB1 (e2 gtP (eV 1) (eC (.int (0))))) (seqS (ifS (tTru (e2 (Dl.intD andI) (eV 1) (eC (.int (1))))) (asgS 2 (e2 mulP (eV 2) (eV 0))) passS) (seqS (asgS 0 (e2 mulP (eV 0) (eV 0))) (asgS 1 (e2 (Dl.intD shrI) (eV 1) (eC (.int (1))))))) (k + 1)
      [some (.int b), some (.int m), some (.int f)] = .nx [some (.int z), some (.int 0), some (.int (f * b ^ m))] := by
  intro k
  induction k with
  | zero =>
    intro m hm b f x y _ _ _ _
    have : m = 0 := by simpa using hm
    subst this
    exact ⟨b, by rw [whS_succ]; simp⟩
  | succ k ih =>
    intro m hm b f x y hf hb h1 h2
    by_cases h0 : m = 0
    · subst h0
      exact ⟨b, by rw [whS_succ]; simp⟩
    · have hpos : (0 : Int) < m := by omega
      have hp0 : 0 < m := by omega
      have hy : y ≤ y * m := Nat.le_mul_of_pos_right _ (by omega)
      have hy2 : y * (2 * m) = 2 * (y * m) := by rw [Nat.mul_left_comm]
      have hbb : mulP (.int b) (.int b) = .ok (.int (b * b)) := mulP_bits (natAbs_up hb (by omega)) (natAbs_up hb (by omega))
      have hfb : mulP (.int f) (.int b) = .ok (.int (f * b)) := mulP_bits (natAbs_up hf (by omega)) (natAbs_up hb (by omega))
      have sh : shrI (m : Int) 1 = .ok ((m / 2 : Nat) : Int) := by
        unfold shrI
        rw [if_pos (by decide)]
        have e2 : (2 : Int) ^ (1 : Int).toNat = 2 := by decide
        rw [e2]
        congr 1
      have hm2 : m / 2 < 2 ^ k := by rw [Nat.pow_succ] at hm; omega
      have hb2 := natAbs_mul_lt hb hb
      have e3 : (y + y) * (m / 2) + y * (m % 2) = y * m := by
        have h := Nat.div_add_mod m 2
        calc (y + y) * (m / 2) + y * (m % 2) = y * (2 * (m / 2) + m % 2) := by rw [Nat.mul_add, ← Nat.two_mul, Nat.mul_comm 2 y, Nat.mul_assoc]
          _ = y * m := by rw [h]
      have a1 : Dl.intD andI (.int (m : Int)) (.int 1) = .ok (.int ((m % 2 : Nat) : Int)) := by
        rw [intD_int]
        unfold andI
        rw [and1]
        rfl
      have pw : ∀ g : Int, g * (b * b) ^ (m / 2) = g * b ^ (2 * (m / 2)) := fun g => by
        rw [sq_pow]
      rcases Nat.mod_two_eq_zero_or_one m with hmod | hmod
      · rw [hmod] at a1 e3
        obtain ⟨z, ez⟩ := ih (m / 2) hm2 (b * b) f x (y + y) hf hb2 (by omega) (by rw [Nat.mul_left_comm]; omega)
        refine ⟨z, ?_⟩
        rw [whS_succ]
        simp [hpos, hp0, a1, hbb, sh]
        rw [show ((m : Int) / 2) = ((m / 2 : Nat) : Int) by omega]
        rw [ez, pw, show 2 * (m / 2) = m by omega]
      · rw [hmod] at a1 e3
        obtain ⟨z, ez⟩ := ih (m / 2) hm2 (b * b) (f * b) (x + y) (y + y) (natAbs_mul_lt hf hb) hb2 (by omega) (by rw [Nat.mul_left_comm]; omega)
        refine ⟨z, ?_⟩
        rw [whS_succ]
        simp [hpos, hp0, a1, hbb, hfb, sh]
        rw [show ((m : Int) / 2) = ((m / 2 : Nat) : Int) by omega]
        have eb : b ^ m = b * b ^ (2 * (m / 2)) := by
          rw [show b ^ m = b ^ (2 * (m / 2) + 1) by congr 1; omega, Int.pow_succ, Int.mul_comm]
        rw [ez, pw, eb, Int.mul_assoc]
theorem raised_ok {b : Int} {m : Nat} {y : Nat} (hb : b.natAbs < 2 ^ y) (h : y * m ≤ 190000) (hm : m < 2 ^ 200) : F_raised [.int b, .int m] = .ok (.int (b ^ m)) := by
  obtain ⟨z, e⟩ := raised_lp 999 m (Nat.lt_of_lt_of_le hm (Nat.pow_le_pow_right (by decide) (by decide))) b 1 1 y (by decide) hb (by omega) (by rw [Nat.mul_left_comm]; omega)
  rw [Int.one_mul] at e
  simp [F_raised, m_raised]
  rw [e]
  simp
theorem raised_neg {b n : Int} (h : n ≤ 0) : F_raised [.int b, .int n] = .ok (.int 1) := by
  have h' : ¬ 0 < n := by omega
  simp [F_raised, m_raised, whS_succ, h']
theorem lraised_lp {b n : D} {bi : Int} {y : Nat} (hb : b = .int bi) (hy : bi.natAbs < 2 ^ y) (c : 0 < y) : ∀ (xs : List D) (f : Int) (x : Nat) (o : Option D), f.natAbs < 2 ^ x → x + y * xs.length ≤ 200000 →
    ∃ o', forS (bName 3) (asgS 2 (e2 mulP (eV 2) (eV 0))) xs [some b, some n, some (.int f), o] = .nx [some b, some n, some (.int (f * bi ^ xs.length)), o'] := by
  subst hb
  intro xs
  induction xs with
  | nil => exact fun f x o _ _ => ⟨o, by rw [forS_nil]; simp⟩
  | cons d xs ih =>
    intro f x o hf hx
    rw [List.length_cons, Nat.mul_add, Nat.mul_one] at hx
    have hfb : mulP (.int f) (.int bi) = .ok (.int (f * bi)) := mulP_bits (natAbs_up hf (by omega)) (natAbs_up hy (by omega))
    obtain ⟨o', e⟩ := ih (f * bi) (x + y) (some d) (natAbs_mul_lt hf hy) (by omega)
    refine ⟨o', ?_⟩
    rw [forS_cons]
    simp [hfb]
    rw [e, Int.pow_succ, Int.mul_assoc, Int.mul_comm bi]
theorem rng_len (lo : Int) (n : Nat) : (rng lo n).length = n := by simp [rng]
theorem rng1_ok {m : Nat} (h : m < 1000000000000000000) : rng1D [.int (m : Int)] = .ok (rng 0 m) := by
  rw [rng1D_ap, if_pos (by omega)]
  rfl
theorem lraised_ok {b : Int} {m : Nat} {y : Nat} (hb : b.natAbs < 2 ^ y) (hy : 0 < y) (h : y * m ≤ 190000) (hm : m < 1000000000000000000) : F__law_raised [.int b, .int m] = .ok (.int (b ^ m)) := by
  obtain ⟨o, e⟩ := lraised_lp (b := .int b) (n := .int m) rfl hb hy (rng 0 m) 1 1 none (by decide) (by rw [rng_len]; omega)
  rw [rng_len, Int.one_mul] at e
  simp [F__law_raised, m__law_raised, rng1_ok hm, -rng1D_ap]
  rw [e]
  simp
end Q

namespace Q
open PySem PySem.Spec PyProof.Rows L2 Dl
theorem ipow_nn {m : Int} (h : 0 ≤ m) : ∀ t : Nat, 0 ≤ m ^ t
  | 0 => by simp
  | t + 1 => by rw [Int.pow_succ]; exact Int.mul_nonneg (ipow_nn h t) h
theorem ipow_le {m n : Int} (h : 0 ≤ m) (hmn : m ≤ n) : ∀ t : Nat, m ^ t ≤ n ^ t
  | 0 => by simp
  | t + 1 => by rw [Int.pow_succ, Int.pow_succ]; exact Int.mul_le_mul (ipow_le h hmn t) hmn h (ipow_nn (Int.le_trans h hmn) t)
theorem ipow_pos {m : Int} (h : 0 < m) : ∀ t : Nat, 0 < m ^ t
  | 0 => by simp
  | t + 1 => by rw [Int.pow_succ]; exact Int.mul_pos (ipow_pos h t) h
theorem ipow_bits {m : Int} {y : Nat} (h : m.natAbs < 2 ^ y) (t : Nat) (ht : 0 < t) : (m ^ t).natAbs < 2 ^ (y * t) := by
  rw [Int.natAbs_pow, Nat.pow_mul]
  exact Nat.pow_lt_pow_left h (by omega)
def side (t : Nat) (top bot n : Int) : Int := n ^ t * bot - top
theorem side_mono {t : Nat} {top bot m n : Int} (hb : 0 < bot) (h : 0 ≤ m) (hmn : m ≤ n) : side t top bot m ≤ side t top bot n := by
  have := Int.mul_le_mul_of_nonneg_right (ipow_le h hmn t) (Int.le_of_lt hb)
  unfold side
  omega
/-- the bounds of all that is met -/
structure Fit (t : Nat) (top bot : Int) : Prop where
  t1 : 1 ≤ t
  t2 : t ≤ 80
  tp : 0 < top
  bp : 0 < bot
  bb : bot.natAbs < 2 ^ 40000
  up : 0 < side t top bot (2 ^ 200)
section
variable {t : Nat} {top bot : Int}
theorem two_bits (k : Nat) : ((2 : Int) ^ k).natAbs < 2 ^ (k + 1) := by
  rw [Int.natAbs_pow]
  exact Nat.pow_lt_pow_right (by decide) (by omega)
theorem side_ok (f : Fit t top bot) {n : Int} (hn : n.natAbs < 2 ^ 300) : F_side_of [.int n, .tup [.int t, .int top, .int bot]] = .ok (.int (side t top bot n)) := by
  have h80 := f.t2
  have r := raised_ok (m := t) hn (by omega) (Nat.lt_of_le_of_lt h80 (by decide))
  have mm : mulP (.int (n ^ t)) (.int bot) = .ok (.int (n ^ t * bot)) := mulP_bits (natAbs_up (ipow_bits hn t f.t1) (by omega)) (natAbs_up f.bb (by omega))
  simp [F_side_of, m_side_of, r, mm, side]
theorem dbl_lp (f : Fit t top bot) : ∀ (k i : Nat), i + k = 200 → (i = 0 ∨ side t top bot (2 ^ (i - 1)) ≤ 0) → ∀ n, k < n →
    ∃ j, j ≤ 200 ∧ (j = 0 ∨ side t top bot (2 ^ (j - 1)) ≤ 0) ∧ 0 < side t top bot (2 ^ j) ∧
      whS (tB1 (e2 leP (callF 2 F_side_of (aCons (eV 1) (aCons (eV 0) aNil))) (eC (.int (0))))) (asgS 1 (e2 mulP (eV 1) (eC (.int (2))))) n [some (.tup [.int t, .int top, .int bot]), some (.int (2 ^ i)), none, none] = .nx [some (.tup [.int t, .int top, .int bot]), some (.int (2 ^ j)), none, none] := by
  intro k
  induction k with
  | zero =>
    intro i hi hs n hn
    have : i = 200 := by omega
    subst this
    obtain ⟨n, rfl⟩ : ∃ k, n = k + 1 := ⟨n - 1, by omega⟩
    have h1 := side_ok f (n := 2 ^ 200) (Nat.lt_of_lt_of_le (two_bits 200) (Nat.pow_le_pow_right (by decide) (by decide)))
    refine ⟨200, Nat.le_refl _, hs, f.up, ?_⟩
    have h2 : ¬ side t top bot (2 ^ 200) ≤ 0 := by have := f.up; omega
    generalize (2 : Int) ^ 200 = z at h1 h2
    rw [whS_succ]
    simp [h1, h2]
  | succ k ih =>
    intro i hi hs n hn
    obtain ⟨n, rfl⟩ : ∃ k, n = k + 1 := ⟨n - 1, by omega⟩
    have h1 := side_ok f (n := 2 ^ i) (Nat.lt_of_lt_of_le (two_bits i) (Nat.pow_le_pow_right (by decide) (by omega)))
    by_cases h : side t top bot (2 ^ i) ≤ 0
    · obtain ⟨j, hj, h2, h3, e⟩ := ih (i + 1) (by omega) (.inr (by simpa using h)) n (by omega)
      refine ⟨j, hj, h2, h3, ?_⟩
      have mm : mulP (.int (2 ^ i)) (.int 2) = .ok (.int (2 ^ i * 2)) := mulP_int (.inr (.inl (by decide)))
      rw [Int.pow_succ] at e
      generalize (2 : Int) ^ i = z at *
      rw [whS_succ]
      simp [h1, h, mm, e]
    · refine ⟨i, by omega, hs, by omega, ?_⟩
      generalize (2 : Int) ^ i = z at *
      rw [whS_succ]
      simp [h1, h]
theorem mid_lp (f : Fit t top bot) : ∀ (k : Nat) (lo hi : Int) (o : Option D), 0 ≤ lo → lo < hi → hi - lo ≤ 2 ^ k → hi.natAbs < 2 ^ 300 → (lo = 0 ∨ side t top bot lo ≤ 0) → 0 < side t top bot hi → ∀ n, k < n →
    ∃ lo' hi' o', 0 ≤ lo' ∧ (lo' = 0 ∨ side t top bot lo' ≤ 0) ∧ 0 < side t top bot (lo' + 1) ∧
      whS (tB1 (e2 gtP (e2 (Dl.intD subI) (eV 1) (eV 2)) (eC (.int (1))))) (seqS (asgS 3 (e2 (Dl.intD fdivI) (e2 addP (eV 2) (eV 1)) (eC (.int (2))))) (ifS (tB1 (e2 leP (callF 2 F_side_of (aCons (eV 3) (aCons (eV 0) aNil))) (eC (.int (0))))) (asgS 2 (eV 3)) (asgS 1 (eV 3)))) n
        [some (.tup [.int t, .int top, .int bot]), some (.int hi), some (.int lo), o] = .nx [some (.tup [.int t, .int top, .int bot]), some (.int hi'), some (.int lo'), o'] := by
  intro k
  induction k with
  | zero =>
    intro lo hi o h0 h1 h2 h3 h4 h5 n hn
    obtain ⟨n, rfl⟩ : ∃ k, n = k + 1 := ⟨n - 1, by omega⟩
    have e : hi = lo + 1 := by have : (2 : Int) ^ 0 = 1 := rfl; omega
    subst e
    refine ⟨lo, lo + 1, o, h0, h4, h5, ?_⟩
    rw [whS_succ]
    simp [show ¬ (1 : Int) < lo + 1 - lo by omega]
  | succ k ih =>
    intro lo hi o h0 h1 h2 h3 h4 h5 n hn
    obtain ⟨n, rfl⟩ : ∃ k, n = k + 1 := ⟨n - 1, by omega⟩
    by_cases hc : 1 < hi - lo
    · have hm := side_ok f (n := (lo + hi) / 2) (by omega)
      have hp : (2 : Int) ^ (k + 1) = 2 * 2 ^ k := by rw [Int.pow_succ, Int.mul_comm]
      by_cases hs : side t top bot ((lo + hi) / 2) ≤ 0
      · obtain ⟨lo', hi', o', g1, g2, g3, g4⟩ := ih ((lo + hi) / 2) hi (some (.int ((lo + hi) / 2))) (by omega) (by omega) (by omega) h3 (.inr hs) h5 n (by omega)
        refine ⟨lo', hi', o', g1, g2, g3, ?_⟩
        rw [whS_succ]
        simp [hc, hm, hs, g4]
      · obtain ⟨lo', hi', o', g1, g2, g3, g4⟩ := ih lo ((lo + hi) / 2) (some (.int ((lo + hi) / 2))) h0 (by omega) (by omega) (by omega) h4 (by omega) n (by omega)
        refine ⟨lo', hi', o', g1, g2, g3, ?_⟩
        rw [whS_succ]
        simp [hc, hm, hs, g4]
    · have e : hi = lo + 1 := by omega
      subst e
      refine ⟨lo, lo + 1, o, h0, h4, h5, ?_⟩
      rw [whS_succ]
      simp [hc]
/-- the integer below the root -/
structure Low (t : Nat) (top bot lo : Int) : Prop where
  nn : 0 ≤ lo
  le : lo = 0 ∨ side t top bot lo ≤ 0
  up : 0 < side t top bot (lo + 1)
theorem Low.uniq (hb : 0 < bot) {a b : Int} (h : Low t top bot a) (h' : Low t top bot b) : a = b := by
  have key : ∀ {a b : Int}, Low t top bot a → Low t top bot b → ¬ a < b := fun {a b} h h' z => by
    have h1 := side_mono (t := t) (top := top) hb (show 0 ≤ a + 1 by have := h.nn; omega) (show a + 1 ≤ b by omega)
    have := h.up
    have := h'.nn
    have := h.nn
    rcases h'.le with e | e <;> omega
  have := key h h'
  have := key h' h
  omega
theorem below_ok (f : Fit t top bot) : ∃ lo, F_whole_below [.tup [.int t, .int top, .int bot]] = .ok (.int lo) ∧ Low t top bot lo ∧ lo.natAbs < 2 ^ 300 := by
  obtain ⟨j, hj, h1, h2, e1⟩ := dbl_lp f 200 0 rfl (.inl rfl) 1000 (by decide)
  have bits : ((2 : Int) ^ j).natAbs < 2 ^ 300 := Nat.lt_of_lt_of_le (two_bits j) (Nat.pow_le_pow_right (by decide) (by omega))
  have pos : (0 : Int) < 2 ^ j := ipow_pos (by decide) j
  have hle : (2 : Int) ^ j - 2 ^ j / 2 ≤ 2 ^ 200 := by
    have : (2 : Int) ^ j ≤ 2 ^ 200 := by exact_mod_cast Nat.pow_le_pow_right (show 0 < 2 by decide) hj
    omega
  have hlo : (2 : Int) ^ j / 2 = 0 ∨ side t top bot (2 ^ j / 2) ≤ 0 := by
    rcases h1 with e | e
    · subst e; exact .inl rfl
    · by_cases z : j = 0
      · subst z; exact .inl rfl
      · refine .inr ?_
        have : (2 : Int) ^ j / 2 = 2 ^ (j - 1) := by
          rw [show (2 : Int) ^ j = 2 ^ (j - 1) * 2 by rw [← Int.pow_succ]; congr 1; omega]
          omega
        rw [this]; exact e
  obtain ⟨lo, hi, o, g1, g2, g3, e2⟩ := mid_lp f 200 (2 ^ j / 2) (2 ^ j) none (by omega) (by omega) hle bits hlo h2 1000 (by decide)
  rw [show (2 : Int) ^ 0 = 1 from rfl] at e1
  refine ⟨lo, ?_, ⟨g1, g2, g3⟩, ?_⟩
  · generalize (2 : Int) ^ j = z at *
    simp [F_whole_below, m_whole_below, e1, e2]
  · have up : lo < 2 ^ 200 := by
      rcases Int.lt_or_le lo (2 ^ 200) with z | z
      · exact z
      · have q1 : (0 : Int) < 2 ^ 200 := ipow_pos (by decide) 200
        have := side_mono (t := t) (top := top) f.bp (Int.le_of_lt q1) z
        have := f.up
        rcases g2 with e | e <;> omega
    have : (2 : Int) ^ 200 = ((2 ^ 200 : Nat) : Int) := by norm_cast
    have h3 : (2 : Nat) ^ 200 ≤ 2 ^ 300 := Nat.pow_le_pow_right (by decide) (by decide)
    omega
end
end Q

namespace Q
open PySem PySem.Spec PyProof.Rows L2 Dl
section
variable {t : Nat} {top bot : Int}
theorem bh_lp (f : Fit t top bot) {u v w : Option D} : ∀ (xs : List D) (lo hi : Int) (o1 o2 : Option D), 0 ≤ lo → lo < hi → hi - lo ≤ 2 ^ xs.length → hi.natAbs < 2 ^ 300 → (lo = 0 ∨ side t top bot lo ≤ 0) → 0 < side t top bot hi →
    ∃ lo' hi' o1' o2', Low t top bot lo' ∧
      forS (bName 8) (seqS (ifS (tB1 (e2 ltP (e2 (Dl.intD subI) (eV 7) (eV 6)) (eC (.int (2))))) brkS passS) (seqS (asgS 9 (e2 (Dl.intD fdivI) (e2 addP (eV 6) (eV 7)) (eC (.int (2))))) (asgG (bSeq 2 (bCons (bName 6) (bCons (bName 7) bNil))) (eIf (tB1 (e2 leP (e2 mulP (eV 4) (callF 2 F__law_raised (aCons (eV 9) (aCons (eV 5) aNil)))) (eV 3))) (eN tupD (aCons (eV 9) (aCons (eV 7) aNil))) (eN tupD (aCons (eV 6) (aCons (eV 9) aNil)))))))
        xs [u, v, w, some (.int top), some (.int bot), some (.int t), some (.int lo), some (.int hi), o1, o2] = .nx [u, v, w, some (.int top), some (.int bot), some (.int t), some (.int lo'), some (.int hi'), o1', o2'] := by
  have line2 : 2 ≤ sizeLine := line_le (by decide)
  intro xs
  induction xs with
  | nil =>
    intro lo hi o1 o2 h0 h1 h2 h3 h4 h5
    have e : hi = lo + 1 := by have : (2 : Int) ^ ([] : List D).length = 1 := rfl; omega
    subst e
    exact ⟨lo, lo + 1, o1, o2, ⟨h0, h4, h5⟩, forS_nil⟩
  | cons x xs ih =>
    intro lo hi o1 o2 h0 h1 h2 h3 h4 h5
    by_cases hc : hi - lo < 2
    · have e : hi = lo + 1 := by omega
      subst e
      refine ⟨lo, lo + 1, some x, o2, ⟨h0, h4, h5⟩, ?_⟩
      rw [forS_cons]
      simp [hc]
    · have hmid : ((lo + hi) / 2).natAbs < 2 ^ 300 := by omega
      have h80 := f.t2
      have r := lraised_ok (m := t) hmid (by decide) (by omega) (Nat.lt_of_le_of_lt h80 (by decide))
      have mm : mulP (.int bot) (.int (((lo + hi) / 2) ^ t)) = .ok (.int (bot * ((lo + hi) / 2) ^ t)) := mulP_bits (natAbs_up f.bb (by omega)) (natAbs_up (ipow_bits hmid t f.t1) (by omega))
      have hp : (2 : Int) ^ (x :: xs).length = 2 * 2 ^ xs.length := by rw [List.length_cons, Int.pow_succ, Int.mul_comm]
      have hsd : side t top bot ((lo + hi) / 2) = bot * ((lo + hi) / 2) ^ t - top := by unfold side; rw [Int.mul_comm]
      by_cases hs : bot * ((lo + hi) / 2) ^ t ≤ top
      · obtain ⟨lo', hi', o1', o2', g, e⟩ := ih ((lo + hi) / 2) hi (some x) (some (.int ((lo + hi) / 2))) (by omega) (by omega) (by omega) h3 (.inr (by omega)) h5
        refine ⟨lo', hi', o1', o2', g, ?_⟩
        rw [forS_cons]
        simp [hc, r, mm, hs, line2, e]
      · obtain ⟨lo', hi', o1', o2', g, e⟩ := ih lo ((lo + hi) / 2) (some x) (some (.int ((lo + hi) / 2))) h0 (by omega) (by omega) (by omega) h4 (by omega)
        refine ⟨lo', hi', o1', o2', g, ?_⟩
        rw [forS_cons]
        simp [hc, r, mm, hs, line2, e]
end
/-! what is asked of the next number -/
def pw (p : Int) : Nat := p.natAbs
def Tt (p : Int) : Nat := if p = 0 then 1 else p.natAbs
def Top (a b p : Int) : Int := if p = 0 then b * b else if 0 < p then b ^ p.natAbs + b ^ p.natAbs - a ^ p.natAbs else (a * b * b) ^ p.natAbs
def Bot (a b p : Int) : Int := if p = 0 then a else if 0 < p then 1 else (a * b) ^ p.natAbs + (a * b) ^ p.natAbs - (b * b) ^ p.natAbs
structure Sm (a b p : Int) : Prop where
  a0 : 0 < a
  b0 : 0 < b
  a1 : a < 2 ^ 68
  b1 : b < 2 ^ 68
  p0 : -80 ≤ p
  p1 : p ≤ 80
section
variable {a b p : Int}
theorem nat_bits {x : Int} {k : Nat} (h0 : 0 ≤ x) (h : x < 2 ^ k) : x.natAbs < 2 ^ k := by
  have : ((2 ^ k : Nat) : Int) = (2 : Int) ^ k := by norm_cast
  omega
theorem wanted_ok (s : Sm a b p) : F__law_wanted [.int a, .int b, .int b, .int p] = .ok (.tup [.int (Top a b p), .int (Bot a b p), .int (Tt p)]) := by
  have ha := nat_bits (Int.le_of_lt s.a0) s.a1
  have hb := nat_bits (Int.le_of_lt s.b0) s.b1
  have line3 : 3 ≤ sizeLine := line_le (by decide)
  have p0 := s.p0
  have p1 := s.p1
  have m1 : mulP (.int b) (.int b) = .ok (.int (b * b)) := mulP_bits (natAbs_up hb (by decide)) (natAbs_up hb (by decide))
  have m2 : mulP (.int a) (.int b) = .ok (.int (a * b)) := mulP_bits (natAbs_up ha (by decide)) (natAbs_up hb (by decide))
  have m3 : mulP (.int (a * b)) (.int b) = .ok (.int (a * b * b)) := mulP_bits (natAbs_up (natAbs_mul_lt ha hb) (by decide)) (natAbs_up hb (by decide))
  have bb := natAbs_mul_lt hb hb
  have ab := natAbs_mul_lt ha hb
  have abb := natAbs_mul_lt ab hb
  by_cases h0 : p = 0
  · subst h0
    simp [F__law_wanted, m__law_wanted, m1, line3, Top, Bot, Tt]
  · have hq : (if p < 0 then -p else p) = (p.natAbs : Int) := by split <;> omega
    have hq8 : p.natAbs ≤ 80 := by omega
    have r := fun {x : Int} {y : Nat} (hx : x.natAbs < 2 ^ y) (hy : 0 < y) (hy2 : y ≤ 300) => lraised_ok (m := p.natAbs) hx hy (by
      have := Nat.mul_le_mul hy2 hq8
      omega) (Nat.lt_of_le_of_lt hq8 (by decide))
    by_cases h1 : 0 < p
    · simp [F__law_wanted, m__law_wanted, h0, h1, hq, r ha (by decide) (by decide), r hb (by decide) (by decide), line3, Top, Bot, Tt]
    · simp [F__law_wanted, m__law_wanted, h0, h1, hq, m1, m2, m3, r bb (by decide) (by decide), r ab (by decide) (by decide), r abb (by decide) (by decide), line3, Top, Bot, Tt]
theorem quot_ok (s : Sm a b p) : F_fourth_quotient [.int a, .int b, .int b, .int p] = .ok (if 0 < Top a b p ∧ 0 < Bot a b p then .tup [.int (Tt p), .int (Top a b p), .int (Bot a b p)] else .non) := by
  have ha := nat_bits (Int.le_of_lt s.a0) s.a1
  have hb := nat_bits (Int.le_of_lt s.b0) s.b1
  have line3 : 3 ≤ sizeLine := line_le (by decide)
  have p0 := s.p0
  have p1 := s.p1
  have m1 : mulP (.int b) (.int b) = .ok (.int (b * b)) := mulP_bits (natAbs_up hb (by decide)) (natAbs_up hb (by decide))
  have m2 : mulP (.int a) (.int b) = .ok (.int (a * b)) := mulP_bits (natAbs_up ha (by decide)) (natAbs_up hb (by decide))
  have m3 : mulP (.int (a * b)) (.int b) = .ok (.int (a * b * b)) := mulP_bits (natAbs_up (natAbs_mul_lt ha hb) (by decide)) (natAbs_up hb (by decide))
  have bb := natAbs_mul_lt hb hb
  have ab := natAbs_mul_lt ha hb
  have abb := natAbs_mul_lt ab hb
  by_cases h0 : p = 0
  · subst h0
    have : 0 < b * b := Int.mul_pos s.b0 s.b0
    simp [F_fourth_quotient, m_fourth_quotient, m1, line3, Top, Bot, Tt, this, s.a0]
  · have hq8 : p.natAbs ≤ 80 := by omega
    have r := fun {x : Int} {y : Nat} (hx : x.natAbs < 2 ^ y) (hy2 : y ≤ 300) => raised_ok (m := p.natAbs) hx (by
      have := Nat.mul_le_mul hy2 hq8
      omega) (Nat.lt_of_le_of_lt hq8 (by decide))
    by_cases h1 : 0 < p
    · have hp : p = (p.natAbs : Int) := by omega
      have ra := r ha (by decide)
      have rb := r hb (by decide)
      rw [← hp] at ra rb
      by_cases ht : a ^ p.natAbs < b ^ p.natAbs + b ^ p.natAbs
      · simp [F_fourth_quotient, m_fourth_quotient, h0, h1, ra, rb, line3, Top, Bot, Tt, ht, ← hp]
      · simp [F_fourth_quotient, m_fourth_quotient, h0, h1, ra, rb, line3, Top, Bot, Tt, ht]
    · have hp : -p = (p.natAbs : Int) := by omega
      have rbb := r bb (by decide)
      have rab := r ab (by decide)
      have rabb := r abb (by decide)
      rw [← hp] at rbb rab rabb
      have hpos : 0 < (a * b * b) ^ p.natAbs := ipow_pos (Int.mul_pos (Int.mul_pos s.a0 s.b0) s.b0) _
      by_cases ht : (b * b) ^ p.natAbs < (a * b) ^ p.natAbs + (a * b) ^ p.natAbs
      · simp [F_fourth_quotient, m_fourth_quotient, h0, h1, m1, m2, m3, rbb, rab, rabb, line3, Top, Bot, Tt, ht, hpos, ← hp]
      · simp [F_fourth_quotient, m_fourth_quotient, h0, h1, m1, m2, m3, rbb, rab, rabb, line3, Top, Bot, Tt, ht, hpos]
end
end Q

namespace Q
open PySem PySem.Spec PyProof.Rows L2 Dl
theorem ipow_lt {m n : Int} (h : 0 ≤ m) (hmn : m < n) : ∀ q : Nat, 1 ≤ q → m ^ q < n ^ q
  | 0, z => absurd z (by decide)
  | 1, _ => by rw [Int.pow_succ, Int.pow_succ, Int.pow_zero, Int.pow_zero, Int.one_mul, Int.one_mul]; exact hmn
  | q + 2, _ => by
    have ih := ipow_lt h hmn (q + 1) (by omega)
    rw [Int.pow_succ m, Int.pow_succ n]
    have h1 : m ^ (q + 1) * m ≤ n ^ (q + 1) * m := Int.mul_le_mul_of_nonneg_right (Int.le_of_lt ih) h
    have h2 : n ^ (q + 1) * m < n ^ (q + 1) * n := Int.mul_lt_mul_of_pos_left hmn (ipow_pos (by omega) _)
    omega
theorem two_pow_le {y : Int} (hy : 0 ≤ y) : ∀ q : Nat, 1 ≤ q → 2 * y ^ q ≤ (2 * y) ^ q
  | 0, z => absurd z (by decide)
  | q + 1, _ => by
    have h1 := Int.mul_le_mul_of_nonneg_right (ipow_le hy (show y ≤ 2 * y by omega) q) (show 0 ≤ 2 * y by omega)
    rw [Int.pow_succ, Int.pow_succ]
    have : y ^ q * (2 * y) = 2 * (y ^ q * y) := by rw [Int.mul_left_comm]
    omega
theorem mul_pow' (a b : Int) : ∀ q : Nat, (a * b) ^ q = a ^ q * b ^ q
  | 0 => by simp
  | q + 1 => by
    rw [Int.pow_succ, mul_pow' a b q, Int.pow_succ, Int.pow_succ, Int.mul_assoc, Int.mul_assoc, Int.mul_left_comm (b ^ q)]
structure Iv (p : Int) (i : Nat) (x y : Int) : Prop where
  x0 : 0 < x
  y0 : 0 < y
  x1 : x ≤ 99 ^ i
  y1 : y ≤ 99 ^ i
  p0 : -80 ≤ p
  p1 : p ≤ 80
  i1 : 1 ≤ i
  z : p = 0 → y ≤ 99 * x
  n : p < 0 → ∃ d e f : Int, (0 < d ∧ 0 < e ∧ 0 < f) ∧ d ≤ (99 ^ 2) ^ p.natAbs ∧ x ^ p.natAbs * e = d ∧ y ^ p.natAbs * f = d
theorem iv_start {p x y : Int} (hx : 1 ≤ x ∧ x ≤ 99) (hy : 1 ≤ y ∧ y ≤ 99) (hp : -80 ≤ p ∧ p ≤ 80) : Iv p 1 x y where
  x0 := by omega
  y0 := by omega
  x1 := by simp; omega
  y1 := by simp; omega
  p0 := hp.1
  p1 := hp.2
  i1 := Nat.le_refl _
  z := fun _ => by omega
  n := fun _ => ⟨(x * y) ^ p.natAbs, y ^ p.natAbs, x ^ p.natAbs, ⟨ipow_pos (Int.mul_pos (by omega) (by omega)) _, ipow_pos (by omega) _, ipow_pos (by omega) _⟩,
    ipow_le (Int.mul_nonneg (by omega) (by omega)) (by
      have : x * y ≤ 99 * 99 := Int.mul_le_mul hx.2 hy.2 (by omega) (by omega)
      have e : (99 : Int) ^ 2 = 9801 := by decide
      omega) _, by rw [mul_pow'], by rw [mul_pow', Int.mul_comm]⟩
theorem pow99 {i : Nat} (h : i ≤ 10) : (99 : Int) ^ i ≤ 99 ^ 10 := by exact_mod_cast Nat.pow_le_pow_right (show 0 < 99 by decide) h
theorem Iv.sm {p x y : Int} {i : Nat} (h : Iv p i x y) (hi : i ≤ 10) : Sm x y p := by
  have e := pow99 hi
  have e2 : (99 : Int) ^ 10 < 2 ^ 68 := by decide
  exact ⟨h.x0, h.y0, Int.lt_of_le_of_lt (Int.le_trans h.x1 e) e2, Int.lt_of_le_of_lt (Int.le_trans h.y1 e) e2, h.p0, h.p1⟩
theorem top_small {p x y : Int} (x0 : 0 < x) (y0 : 0 < y) (hb : 0 < Bot x y p) : 0 < side (Tt p) (Top x y p) (Bot x y p) (x * y * y + 2 * y + 2) := by
  have hxy : 0 < x * y := Int.mul_pos x0 y0
  have hxyy : 0 < x * y * y := Int.mul_pos hxy y0
  unfold side
  unfold Bot at hb
  by_cases h0 : p = 0
  · subst h0
    simp only [Tt, Top, Bot, if_true]
    rw [Int.pow_succ, Int.pow_zero, Int.one_mul]
    have h1 : (x * y * y + 2 * y + 2) * x = x * y * y * x + (2 * y + 2) * x := by rw [Int.add_assoc, Int.add_mul]
    have h2 : 0 < (2 * y + 2) * x := Int.mul_pos (by omega) x0
    have h3 : y * y ≤ x * y * y * x := by
      have : x * y * y * x = y * y * (x * x) := by rw [Int.mul_assoc x y y, Int.mul_comm x (y * y), Int.mul_assoc]
      rw [this]
      have h4 : 1 ≤ x * x := Int.mul_pos x0 x0
      have := Int.mul_le_mul_of_nonneg_left h4 (show 0 ≤ y * y from Int.le_of_lt (Int.mul_pos y0 y0))
      omega
    omega
  · have q1 : 1 ≤ p.natAbs := by omega
    by_cases h1 : 0 < p
    · simp only [Tt, Top, Bot, if_neg h0, if_pos h1]
      have a1 := two_pow_le (Int.le_of_lt y0) p.natAbs q1
      have a2 := ipow_le (show 0 ≤ 2 * y by omega) (show 2 * y ≤ x * y * y + 2 * y + 2 by omega) p.natAbs
      have a3 := ipow_pos x0 p.natAbs
      omega
    · simp only [Tt, Top, Bot, if_neg h0, if_neg h1] at hb ⊢
      have a1 := ipow_lt (Int.le_of_lt hxyy) (show x * y * y < x * y * y + 2 * y + 2 by omega) p.natAbs q1
      have a2 := ipow_pos (show 0 < x * y * y + 2 * y + 2 by omega) p.natAbs
      generalize (x * y) ^ p.natAbs + (x * y) ^ p.natAbs - (y * y) ^ p.natAbs = B at hb ⊢
      generalize (x * y * y + 2 * y + 2) ^ p.natAbs = H at a1 a2 ⊢
      have := Int.mul_le_mul_of_nonneg_left (show 1 ≤ B by omega) (Int.le_of_lt a2)
      omega
theorem fit_of {p x y : Int} {i : Nat} (h : Iv p i x y) (hi : i ≤ 10) (ht : 0 < Top x y p) (hb : 0 < Bot x y p) : Fit (Tt p) (Top x y p) (Bot x y p) ∧ (x * y * y + 2 * y + 2).natAbs < 2 ^ 300 ∧ x * y * y + 2 * y + 2 ≤ 2 ^ 200 := by
  have s := h.sm hi
  have ha := nat_bits (Int.le_of_lt s.a0) s.a1
  have hbb := nat_bits (Int.le_of_lt s.b0) s.b1
  have e := pow99 hi
  have hx := Int.le_trans h.x1 e
  have hy := Int.le_trans h.y1 e
  have x0 := h.x0
  have y0 := h.y0
  have xy : x * y ≤ 99 ^ 10 * 99 ^ 10 := Int.mul_le_mul hx hy (by omega) (by decide)
  have xyy : x * y * y ≤ 99 ^ 10 * 99 ^ 10 * 99 ^ 10 := Int.mul_le_mul xy hy (by omega) (by decide)
  have z0 : 0 < x * y * y := Int.mul_pos (Int.mul_pos x0 y0) y0
  have big : x * y * y + 2 * y + 2 ≤ 2 ^ 200 := by
    have : (99 : Int) ^ 10 * 99 ^ 10 * 99 ^ 10 + 2 * 99 ^ 10 + 2 ≤ 2 ^ 200 := by decide
    omega
  have big2 : (x * y * y + 2 * y + 2).natAbs < 2 ^ 300 := nat_bits (by omega) (Int.lt_of_le_of_lt big (by decide))
  have p0 := h.p0
  have p1 := h.p1
  refine ⟨⟨?_, ?_, ht, hb, ?_, Int.lt_of_lt_of_le (top_small x0 y0 hb) (side_mono hb (by omega) big)⟩, big2, big⟩
  · unfold Tt; split <;> omega
  · unfold Tt; split <;> omega
  · unfold Bot
    split
    · exact natAbs_up ha (by decide)
    · split
      · exact Nat.lt_of_lt_of_le (show (1 : Int).natAbs < 2 ^ 1 by decide) (Nat.pow_le_pow_right (by decide) (by decide))
      · rename_i h0 h1
        have b1 := ipow_bits (natAbs_mul_lt ha hbb) p.natAbs (by omega)
        have b2 := ipow_bits (natAbs_mul_lt hbb hbb) p.natAbs (by omega)
        have b3 : (68 + 68) * p.natAbs ≤ 39990 := by omega
        have c1 := natAbs_up b1 b3
        have c2 := natAbs_up b2 b3
        have c3 : (2 : Nat) ^ 40000 = 2 ^ 39990 * 1024 := by rw [show (40000 : Nat) = 39990 + 10 from rfl, Nat.pow_add]
        rw [c3]
        generalize (2 : Nat) ^ 39990 = Z at c1 c2 ⊢
        generalize (x * y) ^ p.natAbs = u at c1 ⊢
        generalize (y * y) ^ p.natAbs = v at c2 ⊢
        omega
theorem iv_next {p x y n : Int} {i : Nat} (h : Iv p i x y) (hn : 0 < n) (e : n ^ Tt p * Bot x y p = Top x y p) : Iv p (i + 1) y n := by
  have x0 := h.x0
  have y0 := h.y0
  have i1 := h.i1
  have up : (99 : Int) ^ (i + 1) = 99 ^ i * 99 := Int.pow_succ ..
  have pos : (0 : Int) < 99 ^ i := ipow_pos (by decide) _
  have y1 := h.y1
  by_cases h0 : p = 0
  · subst h0
    have hz := h.z rfl
    simp only [Tt, Bot, Top, if_true] at e
    rw [Int.pow_succ, Int.pow_zero, Int.one_mul] at e
    have hn9 : n ≤ 99 * y := by
      rcases Int.lt_or_le (99 * y) n with c | c
      · have a1 := Int.mul_le_mul_of_nonneg_right hz (Int.le_of_lt y0)
        have a2 := Int.mul_le_mul_of_nonneg_right (show 99 * y + 1 ≤ n by omega) (Int.le_of_lt x0)
        have a3 : (99 * y + 1) * x = 99 * x * y + x := by rw [Int.add_mul, Int.one_mul, Int.mul_assoc, Int.mul_comm y x, Int.mul_assoc]
        omega
      · exact c
    exact ⟨y0, hn, by omega, by omega, h.p0, h.p1, by omega, fun _ => hn9, fun z => absurd z (by decide)⟩
  · have q1 : 1 ≤ p.natAbs := by omega
    by_cases h1 : 0 < p
    · simp only [Tt, Bot, Top, if_neg h0, if_pos h1] at e
      have hn2 : n ≤ 2 * y := by
        rcases Int.lt_or_le (2 * y) n with c | c
        · have a1 := two_pow_le (Int.le_of_lt y0) p.natAbs q1
          have a2 := ipow_le (show 0 ≤ 2 * y by omega) (Int.le_of_lt c) p.natAbs
          have a3 := ipow_pos x0 p.natAbs
          omega
        · exact c
      exact ⟨y0, hn, by omega, by omega, h.p0, h.p1, by omega, fun z => absurd z h0, fun z => absurd h1 (by omega)⟩
    · simp only [Tt, Bot, Top, if_neg h0, if_neg h1] at e
      obtain ⟨d, u, v, ⟨d0, u0, v0⟩, hd, hu, hv⟩ := h.n (by omega)
      have X0 := ipow_pos x0 p.natAbs
      have Y0 := ipow_pos y0 p.natAbs
      have N0 := ipow_pos hn p.natAbs
      rw [mul_pow' x y, mul_pow' y y, mul_pow' (x * y) y, mul_pow' x y] at e
      have fin : n ^ p.natAbs * (2 * v - u) = d := by
        generalize x ^ p.natAbs = X at e hu X0
        generalize y ^ p.natAbs = Y at e hv Y0
        generalize n ^ p.natAbs = N at e N0
        have e1 : N * (2 * X - Y) = X * Y := by
          have : N * (2 * X - Y) * Y = X * Y * Y := by
            rw [← e, Int.mul_assoc N]
            congr 1
            rw [Int.sub_mul, Int.mul_assoc, Int.two_mul]
          exact Int.eq_of_mul_eq_mul_right (by omega) this
        have e2 : N * (2 * v - u) * d = d * d := by
          have : N * (2 * X - Y) * (u * v) = X * u * (Y * v) := by
            rw [e1, Int.mul_assoc, Int.mul_left_comm Y, ← Int.mul_assoc]
          rw [hu, hv] at this
          rw [← this, Int.mul_assoc, Int.mul_assoc]
          congr 1
          rw [Int.sub_mul, Int.sub_mul]
          have a1 : 2 * X * (u * v) = 2 * v * d := by rw [← hu, ← Int.mul_assoc, Int.mul_assoc 2 X u, Int.mul_assoc 2 (X * u), Int.mul_comm (X * u) v, ← Int.mul_assoc]
          have a2 : Y * (u * v) = u * d := by rw [← hv, Int.mul_left_comm]
          rw [a1, a2]
        exact Int.eq_of_mul_eq_mul_right (by omega) e2
      have w0 : 0 < 2 * v - u := by
        rcases Int.lt_or_le 0 (2 * v - u) with c | c
        · exact c
        · have := Int.mul_nonpos_of_nonneg_of_nonpos (Int.le_of_lt N0) c
          omega
      have hn2 : n ≤ 99 ^ 2 := by
        rcases Int.lt_or_le (99 ^ 2) n with c | c
        · have a1 := ipow_lt (show (0 : Int) ≤ 99 ^ 2 by decide) c p.natAbs q1
          have a2 := Int.mul_le_mul_of_nonneg_left (show 1 ≤ 2 * v - u by omega) (Int.le_of_lt N0)
          omega
        · exact c
      have h99 : (99 : Int) ^ 2 ≤ 99 ^ (i + 1) := by exact_mod_cast Nat.pow_le_pow_right (show 0 < 99 by decide) (show 2 ≤ i + 1 by omega)
      exact ⟨y0, hn, by omega, by omega, h.p0, h.p1, by omega, fun z => absurd z h0, fun _ => ⟨d, v, 2 * v - u, ⟨d0, v0, w0⟩, hd, hv, fin⟩⟩
def oD : Option Int → D
  | none => .non
  | some n => .int n
theorem step_ok {p x y : Int} {i : Nat} (h : Iv p i x y) (hi : i ≤ 10) : ∃ r : Option Int, F_whole_fourth [.int x, .int y, .int y, .int p] = .ok (oD r) ∧ F__law_behind [.int x, .int y, .int p] = .ok (oD r) ∧ ∀ n, r = some n → Iv p (i + 1) y n := by
  have s := h.sm hi
  have ha := nat_bits (Int.le_of_lt s.a0) s.a1
  have hb := nat_bits (Int.le_of_lt s.b0) s.b1
  have w := wanted_ok s
  have q := quot_ok s
  have m1 : mulP (.int x) (.int y) = .ok (.int (x * y)) := mulP_bits (natAbs_up ha (by decide)) (natAbs_up hb (by decide))
  have m2 : mulP (.int (x * y)) (.int y) = .ok (.int (x * y * y)) := mulP_bits (natAbs_up (natAbs_mul_lt ha hb) (by decide)) (natAbs_up hb (by decide))
  by_cases hc : 0 < Top x y p ∧ 0 < Bot x y p
  · rw [if_pos hc] at q
    obtain ⟨f, big, big2⟩ := fit_of h hi hc.1 hc.2
    obtain ⟨lo, e1, L1, lb⟩ := below_ok f
    have sd := side_ok f lb
    have y0 := h.y0
    have z0 : 0 < x * y * y := Int.mul_pos (Int.mul_pos h.x0 y0) y0
    have tl : (rng 0 200).length = 200 := rng_len 0 200
    have fit2 := top_small h.x0 h.y0 hc.2
    obtain ⟨lo', hi', o1, o2, L2', e2⟩ := bh_lp f (u := some (.int x)) (v := some (.int y)) (w := some (.int p)) (rng 0 200) 0 (x * y * y + 2 * y + 2) none none (Int.le_refl _) (by omega) (by rw [tl, Int.sub_zero]; exact big2) big (.inl rfl) fit2
    have eq := L1.uniq f.bp L2'
    subst eq
    have h80 := f.t2
    have lr := lraised_ok (m := Tt p) lb (by decide) (by omega) (Nat.lt_of_le_of_lt h80 (by decide))
    have mm : mulP (.int (Bot x y p)) (.int (lo ^ Tt p)) = .ok (.int (Bot x y p * lo ^ Tt p)) := mulP_bits (natAbs_up f.bb (by omega)) (natAbs_up (ipow_bits lb _ f.t1) (by omega))
    have hs : side (Tt p) (Top x y p) (Bot x y p) lo = Bot x y p * lo ^ Tt p - Top x y p := by unfold side; rw [Int.mul_comm]
    have ht1 : ¬ Top x y p ≤ 0 := by omega
    have hb1 : ¬ Bot x y p ≤ 0 := by omega
    by_cases hz : Bot x y p * lo ^ Tt p = Top x y p
    · have l0 : 0 < lo := by
        rcases Int.lt_or_le 0 lo with c | c
        · exact c
        · have : lo = 0 := by have := L1.nn; omega
          rw [this, Int.zero_pow (by have := f.t1; omega), Int.mul_zero] at hz
          omega
      have hz2 : side (Tt p) (Top x y p) (Bot x y p) lo = 0 := by omega
      refine ⟨some lo, ?_, ?_, fun n en => ?_⟩
      · simp [F_whole_fourth, m_whole_fourth, q, e1, sd, hz2, isD, oD]
      · simp [F__law_behind, m__law_behind, w, m1, m2, ht1, hb1, e2, lr, mm, hz, l0, oD]
      · cases en
        exact iv_next h l0 (by rw [Int.mul_comm]; exact hz)
    · have hz2 : ¬ side (Tt p) (Top x y p) (Bot x y p) lo = 0 := by omega
      refine ⟨none, ?_, ?_, fun n en => by cases en⟩
      · simp [F_whole_fourth, m_whole_fourth, q, e1, sd, hz2, isD, oD]
      · by_cases l0 : 0 < lo
        · simp [F__law_behind, m__law_behind, w, m1, m2, ht1, hb1, e2, lr, mm, hz, l0, oD]
        · simp [F__law_behind, m__law_behind, w, m1, m2, ht1, hb1, e2, l0, oD]
  · rw [if_neg hc] at q
    refine ⟨none, ?_, ?_, fun n en => by cases en⟩
    · simp [F_whole_fourth, m_whole_fourth, q, oD]
    · by_cases ht1 : Top x y p ≤ 0
      · simp [F__law_behind, m__law_behind, w, m1, m2, ht1, oD]
      · have hb1 : Bot x y p ≤ 0 := by
          rcases Int.lt_or_le 0 (Bot x y p) with c | c
          · exact absurd ⟨by omega, c⟩ hc
          · exact c
        simp [F__law_behind, m__law_behind, w, m1, m2, ht1, hb1, oD]
end Q

namespace Q
open PySem PySem.Spec PyProof.Rows L2 Dl
theorem atI_neg {α : Type} {xs : List α} {k : Nat} {i : Int} (h : i = -((k + 1 : Nat) : Int)) (hk : k < xs.length) : atI xs i = xs[xs.length - 1 - k]? := by
  subst h
  unfold atI ixN
  rw [if_neg (by omega), if_pos (by omega)]
  show xs[_]? = _
  congr 1
  omega
theorem last2 (pre : List Int) (x y : Int) : atI (pre.map D.int ++ [.int x, .int y]) (-2) = some (.int x) ∧ atI (pre.map D.int ++ [.int x, .int y]) (-1) = some (.int y) := by
  constructor
  · rw [atI_neg (i := -2) (k := 1) rfl (by simp)]
    simp
  · rw [atI_neg (i := -1) (k := 0) rfl (by simp)]
    simp
theorem gone_lp {p : Int} {f s m f' s' : Option D} : ∀ (k i : Nat) (x y : Int) (pre : List Int) (xs : List D) (t o o' : Option D) (n : Nat), Iv p i x y → i + k ≤ 11 → xs.length = k → k < n → pre.length + 2 + k ≤ 100 →
    ∃ (tl : List Int) (t1 o1 o2 : Option D), (tl.length ≤ k ∧ ∀ v ∈ tl, v.natAbs < 2 ^ 100) ∧
      forS (bName 5) (seqS (asgS 6 (callF 3 F__law_behind (aCons (ixO 4 (e1 negD (eC (.int (2))))) (aCons (ixO 4 (e1 negD (eC (.int (1))))) (aCons (eV 3) aNil))))) (seqS (ifS (tB1 (e2 isD (eV 6) (eC .non))) brkS passS) (expS (mthM 4 appendD (aCons (eV 6) aNil)))))
        xs [f, s, m, some (.int p), some (.lst (pre.map D.int ++ [.int x, .int y])), t, o] = .nx [f, s, m, some (.int p), some (.lst (pre.map D.int ++ [.int x, .int y] ++ tl.map D.int)), t1, o1] ∧
      whS (lookT (tB1 (e2 ltP (eN lenP (aCons (eV 4) aNil)) (eV 2)))) (seqS (asgS 5 (callF 4 F_whole_fourth (aCons (ixO 4 (e1 negD (eC (.int (2))))) (aCons (ixO 4 (e1 negD (eC (.int (1))))) (aCons (ixO 4 (e1 negD (eC (.int (1))))) (aCons (eV 3) aNil)))))) (seqS (ifS (tB1 (e2 isD (eV 5) (eC .non))) brkS passS) (expS (mthM 4 appendD (aCons (eV 5) aNil)))))
        n [f', s', some (.int (pre.length + 2 + k : Nat)), some (.int p), some (.lst (pre.map D.int ++ [.int x, .int y])), o'] = .nx [f', s', some (.int (pre.length + 2 + k : Nat)), some (.int p), some (.lst (pre.map D.int ++ [.int x, .int y] ++ tl.map D.int)), o2] := by
  intro k
  induction k with
  | zero =>
    intro i x y pre xs t o o' n h hi hx hn hl
    have : xs = [] := List.eq_nil_of_length_eq_zero hx
    subst this
    obtain ⟨n, rfl⟩ : ∃ k, n = k + 1 := ⟨n - 1, by omega⟩
    refine ⟨[], t, o, o', ⟨Nat.le_refl _, fun v hv => absurd hv List.not_mem_nil⟩, ?_, ?_⟩
    · rw [forS_nil]; simp
    · rw [whS_succ]; simp
  | succ k ih =>
    intro i x y pre xs t o o' n h hi hx hn hl
    obtain ⟨n, rfl⟩ : ∃ k, n = k + 1 := ⟨n - 1, by omega⟩
    obtain ⟨x1, xs, rfl⟩ : ∃ a b, xs = a :: b := by
      cases xs with
      | nil => cases hx
      | cons a b => exact ⟨a, b, rfl⟩
    have hx : xs.length = k := by simpa using hx
    obtain ⟨l2, l1⟩ := last2 pre x y
    obtain ⟨r, e1, e2, hr⟩ := step_ok h (by omega)
    have hlt : (pre.length : Int) + 2 < ((pre.length + 2 + (k + 1) : Nat) : Int) := by omega
    have hlt' : pre.length + 2 < pre.length + 2 + (k + 1) := by omega
    have hlt2 : pre.length + 1 + 1 < pre.length + 2 + (k + 1) := by omega
    cases r with
    | none =>
      refine ⟨[], some x1, some .non, some .non, ⟨Nat.zero_le _, fun v hv => absurd hv List.not_mem_nil⟩, ?_, ?_⟩
      · rw [forS_cons]
        simp [l1, l2, e2, oD]
      · rw [whS_succ]
        simp [l1, l2, e1, oD]
        omega
    | some z =>
      have line : pre.length + 2 < sizeLine := line_lt (by omega)
      have line' : pre.length + 1 + 1 < sizeLine := line
      obtain ⟨tl, t1, o1, o2, q1, q2, q3⟩ := ih (i + 1) y z (pre ++ [x]) xs (some x1) (some (.int z)) (some (.int z)) n (hr z rfl) (by omega) hx (by omega) (by simp; omega)
      have hz : z.natAbs < 2 ^ 100 := by
        have iv := hr z rfl
        have h1 : (99 : Int) ^ (i + 1) ≤ 99 ^ 11 := by exact_mod_cast Nat.pow_le_pow_right (show 0 < 99 by decide) (show i + 1 ≤ 11 by omega)
        have h2 := iv.y1
        exact nat_bits (Int.le_of_lt iv.y0) (Int.lt_of_le_of_lt (Int.le_trans h2 h1) (by decide))
      refine ⟨z :: tl, t1, o1, o2, ⟨by simpa using q1.1, fun v hv => ?_⟩, ?_, ?_⟩
      · rcases List.mem_cons.mp hv with e | e
        · rw [e]; exact hz
        · exact q1.2 v e
      · rw [forS_cons]
        simp [l1, l2, e2, oD, line, line']
        simp at q2
        exact q2
      · rw [whS_succ]
        have ek : (pre ++ [x]).length + 2 + k = pre.length + 2 + (k + 1) := by simp; omega
        rw [ek] at q3
        have hd : decide ((pre.length : Int) + 1 + 1 < ((pre.length + 2 + (k + 1) : Nat) : Int)) = true := decide_eq_true (by omega)
        simp at q3
        simp [l1, l2, e1, oD, line, line']
        rw [if_pos (by omega)]
        exact q3
end Q

namespace Q
open PySem PySem.Spec PyProof.Rows L2 Dl
theorem int_ok (i : Int) : F_is_integer [.int i] = .ok (.bl true) := by rfl
theorem int_bl (b : Bool) : F_is_integer [.bl b] = .ok (.bl false) := by rfl
theorem int_non : F_is_integer [.non] = .ok (.bl false) := by rfl
theorem int_str (z : Str) : F_is_integer [.str z] = .ok (.bl false) := by rfl
theorem int_tup (xs : List D) : F_is_integer [.tup xs] = .ok (.bl false) := by rfl
theorem within_ok {v lo hi : Int} : F_is_within [.int v, .int lo, .int hi] = .ok (.bl (decide (lo ≤ v) && decide (v ≤ hi))) := by
  by_cases h : lo ≤ v <;> simp [F_is_within, m_is_within, int_ok, h, isD]
theorem need_ok {x : D} {v lo hi : Int} (h : lo ≤ v ∧ v ≤ hi) : F_need_within [x, .int v, .int lo, .int hi] = .ok .non := by
  simp [F_need_within, m_need_within, within_ok, h.1, h.2]
theorem numbers_ok {f s : Int} {many : Nat} {p : Int} (hf : 1 ≤ f ∧ f ≤ 99) (hs : 1 ≤ s ∧ s ≤ 99) (hm : 2 ≤ many ∧ many ≤ 12) (hp : -80 ≤ p ∧ p ≤ 80) :
    ∃ tl : List Int, (tl.length + 2 ≤ many ∧ ∀ v ∈ tl, v.natAbs < 2 ^ 100) ∧ F_numbers_by [.int f, .int s, .int many, .int p] = .ok (.tup (.int f :: .int s :: tl.map D.int)) ∧ F__law_gone_on [.int f, .int s, .int many, .int p] = .ok (.lst (.int f :: .int s :: tl.map D.int)) := by
  have line2 : 2 ≤ sizeLine := line_le (by decide)
  have nn : F_need_numbers [.lst [.tup [.str "first", .int f], .tup [.str "second", .int s]], .int 99] = .ok .non := by
    simp [F_need_numbers, m_need_numbers, forS_cons, forS_nil, need_ok hf, need_ok hs]
  have n2 : F_need_within [.str "many", .int many, .int 2, .int 12] = .ok .non := need_ok (by omega)
  have n3 : F_need_power [.int p] = .ok .non := by simp [F_need_power, m_need_power, need_ok hp]
  obtain ⟨tl, t1, o1, o2, h1, h2, h3⟩ := gone_lp (p := p) (f := some (.int f)) (s := some (.int s)) (m := some (.int many)) (f' := some (.int f)) (s' := some (.int s)) (many - 2) 1 f s [] (rng 0 (many - 2)) none none none 1000 (iv_start hf hs hp) (by omega) (rng_len _ _) (by omega) (by simp; omega)
  have em : (([] : List Int).length + 2 + (many - 2) : Nat) = many := by simp; omega
  rw [em] at h3
  have e0 : (many : Int) - 2 = ((many - 2 : Nat) : Int) := by omega
  have r0 : rng1D [.int ((many : Int) - 2)] = .ok (rng 0 (many - 2)) := by rw [e0, rng1_ok (by omega)]
  simp at h2 h3
  refine ⟨tl, ⟨by omega, h1.2⟩, ?_, ?_⟩
  · simp [F_numbers_by, m_numbers_by, nn, n2, n3, line2]
    rw [h3]
    simp
  · simp [F__law_gone_on, m__law_gone_on, line2, r0, -rng1D_ap]
    rw [h2]
    simp
/-! papers -/
theorem bypower_mk (v : Int) : makeF 24 2 F_ByPower__init__ (aCons (eC (.int v)) aNil) [] = .ok (.ins 24 [("word", .str "bypower"), ("parts", .tup [.int v]), ("power", .int v)], []) := by rfl
theorem init_bypower (v : Int) : F_ByPower__init__ [.ins 24 [], .int v] = .ok (.non, .ins 24 [("word", .str "bypower"), ("parts", .tup [.int v]), ("power", .int v)]) := by rfl
theorem init_between (v : Int) : F_Between__init__ [.ins 21 [], .int v] = .ok (.non, .ins 21 [("word", .str "between"), ("parts", .tup [.int v]), ("low", .int v)]) := by rfl
theorem init_uneven (v : Int) : F_Uneven__init__ [.ins 108 [], .int v] = .ok (.non, .ins 108 [("word", .str "uneven"), ("parts", .tup [.int v]), ("step", .int v)]) := by rfl
end Q

namespace Q
open PySem PySem.Spec PyProof.Rows L2 Dl
open K9 (sum0 wsum)
/-- three growing numbers to 99 -/
structure Tr (x y z : Int) : Prop where
  x0 : 1 ≤ x
  xy : x < y
  yz : y < z
  z9 : z ≤ 99
theorem bits7 {v : Int} (h0 : 1 ≤ v) (h : v ≤ 99) : v.natAbs < 2 ^ 7 := by omega
theorem sum_up {a b c d : Int} {k q : Nat} (ha : a.natAbs < 2 ^ k) (hb : b.natAbs < 2 ^ k) (hc : c.natAbs < 2 ^ k) (hd : d.natAbs < 2 ^ k) (hk : k ≤ 300) (hq : q ≤ 100) (n : Nat) : FF_whole_sum (n + 1) [.int a, .int b, .int c, .int d, .int q] = .ok (.int (sum0 a b c d q)) := by
  have r := fun {v : Int} (hv : v.natAbs < 2 ^ k) => raised_ok (m := q) hv (by have := Nat.mul_le_mul hk hq; omega) (Nat.lt_of_le_of_lt hq (by decide))
  have h0 : ¬ ((q : Int) < 0) := by omega
  simp [FF_whole_sum, m_whole_sum, r ha, r hb, r hc, r hd, h0, sum0]
theorem whole_ok {a b c d p : Int} (ha : 1 ≤ a ∧ a ≤ 99) (hb : 1 ≤ b ∧ b ≤ 99) (hc : 1 ≤ c ∧ c ≤ 99) (hd : 1 ≤ d ∧ d ≤ 99) (hp : -100 ≤ p ∧ p ≤ 100) : F_whole_sum [.int a, .int b, .int c, .int d, .int p] = .ok (.int (wsum a b c d p)) := by
  have A := bits7 ha.1 ha.2
  have B := bits7 hb.1 hb.2
  have C := bits7 hc.1 hc.2
  have E := bits7 hd.1 hd.2
  by_cases h : p < 0
  · obtain ⟨q, hq⟩ : ∃ q : Nat, p = -(q : Int) := ⟨p.natAbs, by omega⟩
    have hq2 : (-p).toNat = q := by omega
    have mm := fun {u v : Int} {s : Nat} (hu : u.natAbs < 2 ^ s) (hs : s ≤ 60) => mulP_int (i := u) (j := v) (.inl (natAbs_up hu (show s ≤ 64 by omega)))
    have e : (-p) = (q : Int) := by omega
    have main := sum_up (k := 21) (q := q) (natAbs_mul_lt (natAbs_mul_lt B C) E) (natAbs_mul_lt (natAbs_mul_lt A C) E) (natAbs_mul_lt (natAbs_mul_lt A B) E) (natAbs_mul_lt (natAbs_mul_lt A B) C) (by decide) (by omega) 0
    have bc := natAbs_mul_lt B C
    have ac := natAbs_mul_lt A C
    have ab := natAbs_mul_lt A B
    unfold F_whole_sum
    rw [FF_whole_sum]
    simp [m_whole_sum, h, mm B, mm A, mm bc, mm ac, mm ab, e, main]
    unfold wsum
    rw [if_pos h, hq2]
  · obtain ⟨q, hq⟩ : ∃ q : Nat, p = (q : Int) := ⟨p.natAbs, by omega⟩
    subst hq
    unfold F_whole_sum
    rw [sum_up A B C E (by decide) (by omega) 1, K9.wsum_up]
/-- the sums, from 1 on, as the power goes away from 0 -/
def Fw (w x y z : Int) (j : Nat) : Int := wsum x y y z (w * j)
structure First (F : Nat → Int) (m : Nat) : Prop where
  m1 : 1 ≤ m
  m2 : m ≤ 69
  ge : 0 ≤ F m
  lt : ∀ j, 1 ≤ j → j < m → F j < 0
theorem first_ex (F : Nat → Int) : ∀ k j : Nat, 1 ≤ j → j + k = 69 → 0 ≤ F 69 → (∀ i, 1 ≤ i → i < j → F i < 0) → ∃ m, First F m
  | 0, j, h1, h2, h3, h4 => ⟨69, by decide, Nat.le_refl _, h3, fun i a b => h4 i a (by omega)⟩
  | k + 1, j, h1, h2, h3, h4 => by
    by_cases h : 0 ≤ F j
    · exact ⟨j, h1, by omega, h, h4⟩
    · refine first_ex F k (j + 1) (by omega) (by omega) h3 fun i a b => ?_
      by_cases e : i = j
      · rw [e]; omega
      · exact h4 i a (by omega)
theorem Tr.first {x y z w : Int} (h : Tr x y z) (hw : w = 1 ∨ w = -1) : ∃ m, First (Fw w x y z) m := by
  have g : K9.Gr x y y z := ⟨by have := h.x0; omega, h.xy, Int.le_refl _, h.yz⟩
  refine first_ex _ 68 1 (Nat.le_refl _) rfl ?_ fun i a b => by omega
  unfold Fw
  rcases hw with e | e
  · subst e
    rw [Int.one_mul, K9.wsum_up]
    exact Int.le_of_lt (K9.far_up g h.z9)
  · subst e
    rw [show (-1 : Int) * ((69 : Nat) : Int) = -((69 : Nat) : Int) by decide, K9.wsum_down _ _ _ _ _ (by decide)]
    exact Int.le_of_lt (K9.far_down g h.z9)
theorem pow_lp {x y z w : Int} {m : Nat} (h : Tr x y z) (hw : w = 1 ∨ w = -1) (f : First (Fw w x y z) m) : ∀ (k j : Nat), j + k = m → 1 ≤ j → ∀ n, k < n →
    whS (tB1 (e2 ltP (eV 6) (eC (.int (0))))) (seqS (asgS 5 (e2 addP (eV 5) (eV 4))) (asgS 6 (callF 5 F_whole_sum (aCons (eV 0) (aCons (eV 1) (aCons (eV 2) (aCons (eV 3) (aCons (eV 5) aNil)))))))) n
      [some (.int x), some (.int y), some (.int y), some (.int z), some (.int w), some (.int (w * j)), some (.int (Fw w x y z j))] =
      .nx [some (.int x), some (.int y), some (.int y), some (.int z), some (.int w), some (.int (w * m)), some (.int (Fw w x y z m))] := by
  have h0 := h.x0
  have h1 := h.xy
  have h2 := h.yz
  have h3 := h.z9
  have f2 := f.m2
  intro k
  induction k with
  | zero =>
    intro j hj hj1 n hn
    obtain ⟨n, rfl⟩ : ∃ k, n = k + 1 := ⟨n - 1, by omega⟩
    have : j = m := by omega
    subst this
    have : ¬ Fw w x y z j < 0 := by have := f.ge; omega
    rw [whS_succ]
    simp [this]
  | succ k ih =>
    intro j hj hj1 n hn
    obtain ⟨n, rfl⟩ : ∃ k, n = k + 1 := ⟨n - 1, by omega⟩
    have lt := f.lt j hj1 (by omega)
    have e := ih (j + 1) (by omega) (by omega) n (by omega)
    have ew : w * ((j + 1 : Nat) : Int) = w * j + w := by rw [Int.natCast_add, Int.mul_add]; simp
    have ws := whole_ok (a := x) (b := y) (c := y) (d := z) (p := w * j + w) (by omega) (by omega) (by omega) (by omega) (by rcases hw with e | e <;> subst e <;> omega)
    rw [whS_succ]
    simp [lt, ws]
    unfold Fw at e ⊢
    rw [ew] at e
    exact e
def byP (v : Int) : D := .ins 24 [("word", .str "bypower"), ("parts", .tup [.int v]), ("power", .int v)]
def betw (v : Int) : D := .ins 21 [("word", .str "between"), ("parts", .tup [.int v]), ("low", .int v)]
def unev (v : Int) : D := .ins 108 [("word", .str "uneven"), ("parts", .tup [.int v]), ("step", .int v)]
/-- the power of three growing numbers, or none -/
def powO (x y z : Int) : Option Int → Prop
  | some p => (-80 ≤ p ∧ p ≤ 80) ∧ (if p = 0 then x * z = y * y else wsum x y y z p = 0)
  | none => True
theorem left_eq {x y z w : Int} (hw : w = 1 ∨ w = -1) {j : Nat} (hj : 1 ≤ j) : Bot x y (w * j) * z ^ Tt (w * j) - Top x y (w * j) = w * Fw w x y z j ∧ Tt (w * j) = j := by
  rcases hw with e | e
  · subst e
    have h1 : (1 : Int) * (j : Int) = j := Int.one_mul _
    unfold Fw
    rw [h1, K9.wsum_up]
    have h2 : ¬ (j : Int) = 0 := by omega
    have h3 : (0 : Int) < j := by omega
    unfold Bot Top Tt sum0
    rw [if_neg h2, if_pos h3, if_neg h2, if_pos h3, if_neg h2, Int.natAbs_natCast]
    exact ⟨by omega, rfl⟩
  · subst e
    have h1 : (-1 : Int) * (j : Int) = -(j : Int) := by omega
    unfold Fw
    rw [h1]
    have h2 : ¬ -(j : Int) = 0 := by omega
    have h3 : ¬ (0 : Int) < -(j : Int) := by omega
    unfold Bot Top Tt wsum sum0
    rw [if_neg h2, if_neg h3, if_neg h2, if_neg h3, if_neg h2, if_pos (show -(j : Int) < 0 by omega), Int.natAbs_neg, Int.natAbs_natCast, show (- -(j : Int)).toNat = j by omega]
    refine ⟨?_, rfl⟩
    rw [Int.sub_mul, Int.add_mul, ← mul_pow', ← mul_pow']
    omega
theorem rng_succ (j : Int) (K : Nat) : rng j (K + 1) = .int j :: rng (j + 1) K := by
  unfold rng
  rw [List.range_succ_eq_map, List.map_cons, List.map_map]
  refine congr (congrArg List.cons (by simp)) (List.map_congr_left fun i _ => ?_)
  show D.int (j + ((i + 1 : Nat) : Int)) = D.int (j + 1 + (i : Nat))
  congr 1
  omega
theorem law_lp {x y z w : Int} {m : Nat} (h : Tr x y z) (hw : w = 1 ∨ w = -1) (f : First (Fw w x y z) m) : ∀ (K j : Nat) (o4 o5 o6 o7 o8 : Option D), j + K = 81 → 1 ≤ j → j ≤ m →
    ∃ E, forS (bName 4) (seqS (asgG (bSeq 3 (bCons (bName 5) (bCons (bName 6) (bCons (bName 7) bNil)))) (callF 4 F__law_wanted (aCons (eV 0) (aCons (eV 1) (aCons (eV 1) (aCons (e2 mulP (eV 3) (eV 4)) aNil)))))) (seqS (asgS 8 (e2 (Dl.intD subI) (e2 mulP (eV 6) (callF 2 F__law_raised (aCons (eV 2) (aCons (eV 7) aNil)))) (eV 5))) (seqS (ifS (tB1 (e2 eqD (eV 8) (eC (.int (0))))) (retS (e2 mulP (eV 3) (eV 4))) passS) (ifS (tB1 (e2 gtP (e2 mulP (eV 8) (eV 3)) (eC (.int (0))))) (retS (eC .non)) passS))))
      (rng j K) [some (.int x), some (.int y), some (.int z), some (.int w), o4, o5, o6, o7, o8] = .rt (oD (if Fw w x y z m = 0 then some (w * m) else none)) E := by
  have h0 := h.x0
  have h1 := h.xy
  have h2 := h.yz
  have h3 := h.z9
  have f2 := f.m2
  have X := bits7 (v := x) (by omega) (by omega)
  have Y := bits7 (v := y) (by omega) (by omega)
  have Z := bits7 (v := z) (by omega) (by omega)
  have w1 : w.natAbs < 2 ^ 64 := by rcases hw with e | e <;> subst e <;> decide
  have ww : w * w = 1 := by rcases hw with e | e <;> subst e <;> rfl
  intro K
  induction K with
  | zero => intro j o4 o5 o6 o7 o8 a b c; omega
  | succ K ih =>
    intro j o4 o5 o6 o7 o8 a b c
    rw [rng_succ, forS_cons]
    have hp : -80 ≤ w * j ∧ w * j ≤ 80 := by rcases hw with e | e <;> subst e <;> omega
    have sm : Sm x y (w * j) := ⟨by omega, by omega, Int.lt_of_le_of_lt (show x ≤ 99 by omega) (by decide), Int.lt_of_le_of_lt (show y ≤ 99 by omega) (by decide), hp.1, hp.2⟩
    have wt := wanted_ok sm
    obtain ⟨le, tt⟩ := left_eq (x := x) (y := y) (z := z) hw b
    rw [tt] at le wt
    have m0 : mulP (.int w) (.int (j : Int)) = .ok (.int (w * j)) := mulP_int (.inl w1)
    have lr := lraised_ok (m := j) Z (by decide) (by omega) (by omega)
    have bb : (Bot x y (w * j)).natAbs < 2 ^ 40000 := by
      unfold Bot
      split
      · exact natAbs_up X (by decide)
      · split
        · exact Nat.lt_of_lt_of_le (show (1 : Int).natAbs < 2 ^ 1 by decide) (Nat.pow_le_pow_right (by decide) (by decide))
        · have b1 := ipow_bits (natAbs_mul_lt X Y) (w * j).natAbs (by omega)
          have b2 := ipow_bits (natAbs_mul_lt Y Y) (w * j).natAbs (by omega)
          have b3 : (7 + 7) * (w * (j : Int)).natAbs ≤ 39990 := by omega
          have c1 := natAbs_up b1 b3
          have c2 := natAbs_up b2 b3
          have c3 : (2 : Nat) ^ 40000 = 2 ^ 39990 * 1024 := by rw [show (40000 : Nat) = 39990 + 10 from rfl, Nat.pow_add]
          rw [c3]
          generalize (2 : Nat) ^ 39990 = Q at c1 c2 ⊢
          generalize (x * y) ^ (w * (j : Int)).natAbs = u at c1 ⊢
          generalize (y * y) ^ (w * (j : Int)).natAbs = v at c2 ⊢
          omega
    have m1 : mulP (.int (Bot x y (w * j))) (.int (z ^ j)) = .ok (.int (Bot x y (w * j) * z ^ j)) := mulP_bits (natAbs_up bb (by omega)) (natAbs_up (ipow_bits Z j b) (by omega))
    have m2 : mulP (.int (w * Fw w x y z j)) (.int w) = .ok (.int (w * Fw w x y z j * w)) := mulP_int (.inr (.inl w1))
    have e2 : w * Fw w x y z j * w = Fw w x y z j := by rw [Int.mul_comm, ← Int.mul_assoc, ww, Int.one_mul]
    rw [e2] at m2
    have z0 : w * Fw w x y z j = 0 ↔ Fw w x y z j = 0 := by rcases hw with e | e <;> subst e <;> omega
    by_cases hj : j = m
    · subst hj
      by_cases hz : Fw w x y z j = 0
      · rw [if_pos hz]
        simp [m0, wt, lr, m1, le, z0.mpr hz, oD]
      · have hge := f.ge
        have hgt : 0 < Fw w x y z j := by omega
        have hz' : ¬ w * Fw w x y z j = 0 := fun q => hz (z0.mp q)
        rw [if_neg hz]
        simp only [bName_ap, toS_ok, List.set_cons_succ, List.set_cons_zero, seqS_ap, asgG_ap, callF_ap, aCons_ap, eV_ap, e2_ap, aNil_ap, List.getElem?_cons_succ, List.getElem?_cons_zero, oV_ap, bind_ok', m0, List.length_cons, List.length_nil, if_true, wt, bSeq_tup, bCons_ap, bNil_ap, seq_nx, asgS_ap, lr, m1, intD_int, subI_ap, le, ifS_ap, tB1_ap, eqD_int, blD_ap, eC_ap, hz', decide_false, if_false, passS_ap, Bool.false_eq_true, gtD_int, m2, hgt, decide_true, retS_ap, lp_rt, oD]
        exact ⟨_, rfl⟩
    · have lt := f.lt j b (by omega)
      have hz' : ¬ w * Fw w x y z j = 0 := fun q => by have := z0.mp q; omega
      have hgt : ¬ 0 < Fw w x y z j := by omega
      obtain ⟨E, e⟩ := ih (j + 1) (some (.int (j : Int))) (some (.int (Top x y (w * j)))) (some (.int (Bot x y (w * j)))) (some (.int (j : Int))) (some (.int (w * Fw w x y z j))) (by omega) (by omega) (by omega)
      refine ⟨E, ?_⟩
      simp only [bName_ap, toS_ok, List.set_cons_succ, List.set_cons_zero, seqS_ap, asgG_ap, callF_ap, aCons_ap, eV_ap, e2_ap, aNil_ap, List.getElem?_cons_succ, List.getElem?_cons_zero, oV_ap, bind_ok', m0, List.length_cons, List.length_nil, if_true, wt, bSeq_tup, bCons_ap, bNil_ap, seq_nx, asgS_ap, lr, m1, intD_int, subI_ap, le, ifS_ap, tB1_ap, eqD_int, blD_ap, eC_ap, hz', decide_false, if_false, passS_ap, Bool.false_eq_true, gtD_int, m2, hgt, lp_nx]
      rw [show ((j : Int) + 1) = ((j + 1 : Nat) : Int) by omega]
      exact e
theorem power_ok {x y z : Int} (h : Tr x y z) : ∃ r : Option Int, powO x y z r ∧ F__law_power [.int x, .int y, .int z] = .ok (oD r) ∧ ∃ v, F_power_of [.int x, .int y, .int y, .int z] = .ok (match r with | some p => byP p | none => betw v) := by
  have h0 := h.x0
  have h1 := h.xy
  have h2 := h.yz
  have h3 := h.z9
  have X := bits7 (v := x) (by omega) (by omega)
  have Y := bits7 (v := y) (by omega) (by omega)
  have m1 : mulP (.int x) (.int z) = .ok (.int (x * z)) := mulP_int (.inl (natAbs_up X (by decide)))
  have m2 : mulP (.int y) (.int y) = .ok (.int (y * y)) := mulP_int (.inl (natAbs_up Y (by decide)))
  have ng : F_need_growing [.int x, .int y, .int y, .int z] = .ok .non := by
    simp [F_need_growing, m_need_growing, need_ok (show 1 ≤ x ∧ x ≤ 99 by omega), need_ok (show x + 1 ≤ y ∧ y ≤ 99 by omega), need_ok (show y ≤ y ∧ y ≤ 99 by omega), need_ok (show y + 1 ≤ z ∧ z ≤ 99 by omega)]
  by_cases hp : x * z = y * y
  · refine ⟨some 0, ⟨by omega, by rw [if_pos rfl]; exact hp⟩, ?_, 0, ?_⟩
    · simp [F__law_power, m__law_power, m1, m2, hp, oD]
    · simp [F_power_of, m_power_of, ng, m1, m2, hp, init_bypower, byP]
  · obtain ⟨w, hw, hw2⟩ : ∃ w : Int, (w = 1 ∨ w = -1) ∧ (if x * z < y * y then (1 : Int) else -1) = w := by
      by_cases c : x * z < y * y
      · exact ⟨1, .inl rfl, if_pos c⟩
      · exact ⟨-1, .inr rfl, if_neg c⟩
    obtain ⟨m, f⟩ := h.first hw
    have fm1 := f.m1
    have fm2 := f.m2
    obtain ⟨E, e1⟩ := law_lp h hw f 80 1 none none none none none rfl (Nat.le_refl _) f.m1
    have e2 := pow_lp h hw f (m - 1) 1 (by omega) (Nat.le_refl _) 1000 (by omega)
    have r80 : rng2D [.int 1, .int 81] = .ok (rng 1 80) := rfl
    have ws := whole_ok (a := x) (b := y) (c := y) (d := z) (p := w) (by omega) (by omega) (by omega) (by omega) (by omega)
    have fw1 : Fw w x y z 1 = wsum x y y z w := by unfold Fw; rw [show w * ((1 : Nat) : Int) = w by simp]
    rw [fw1] at e2
    simp only [Int.natCast_one, Int.mul_one] at e1 e2
    refine ⟨if Fw w x y z m = 0 then some (w * m) else none, ?_, ?_, if w = 1 then w * m - 1 else w * m, ?_⟩
    · by_cases hz : Fw w x y z m = 0
      · rw [if_pos hz]
        refine ⟨by rcases hw with e | e <;> subst e <;> omega, ?_⟩
        rw [if_neg (by rcases hw with e | e <;> subst e <;> omega)]
        exact hz
      · rw [if_neg hz]
        trivial
    · by_cases c : x * z < y * y
      · rw [if_pos c] at hw2
        subst hw2
        simp [F__law_power, m__law_power, m1, m2, hp, c, r80, -rng2D_ap]
        rw [e1]
        simp
      · rw [if_neg c] at hw2
        subst hw2
        simp [F__law_power, m__law_power, m1, m2, hp, c, r80, -rng2D_ap]
        rw [e1]
        simp
    · by_cases c : x * z < y * y
      · rw [if_pos c] at hw2
        subst hw2
        by_cases hz : Fw 1 x y z m = 0
        · rw [if_pos hz]
          simp [F_power_of, m_power_of, ng, m1, m2, hp, c, ws]
          simp at e2
          rw [e2]
          simp [hz, init_bypower, byP]
        · rw [if_neg hz]
          simp [F_power_of, m_power_of, ng, m1, m2, hp, c, ws]
          simp at e2
          rw [e2]
          simp [hz, init_between, betw]
      · rw [if_neg c] at hw2
        subst hw2
        by_cases hz : Fw (-1) x y z m = 0
        · rw [if_pos hz]
          simp [F_power_of, m_power_of, ng, m1, m2, hp, c, ws]
          simp at e2
          rw [e2]
          simp [hz, init_bypower, byP]
        · rw [if_neg hz]
          simp [F_power_of, m_power_of, ng, m1, m2, hp, c, ws]
          simp at e2
          rw [e2]
          simp [hz, init_between, betw]
end Q

namespace Q
open PySem PySem.Spec PyProof.Rows L2 Dl
open K9 (sum0 wsum)
structure Row (L : List Int) : Prop where
  l3 : 3 ≤ L.length
  l12 : L.length ≤ 12
  st : L.Pairwise (· < ·)
  rg : ∀ v ∈ L, 1 ≤ v ∧ v ≤ 99
def Sq (d : D) (L : List Int) : Prop := d = .lst (L.map .int) ∨ d = .tup (L.map .int)
def isb (x y z p : Int) : Bool := if p = 0 then decide (x * z = y * y) else decide (wsum x y y z p = 0)
theorem bot_bits {x y p : Int} (X : x.natAbs < 2 ^ 7) (Y : y.natAbs < 2 ^ 7) (hp : -80 ≤ p ∧ p ≤ 80) : (Bot x y p).natAbs < 2 ^ 40000 := by
  unfold Bot
  split
  · exact natAbs_up X (by decide)
  · split
    · exact Nat.lt_of_lt_of_le (show (1 : Int).natAbs < 2 ^ 1 by decide) (Nat.pow_le_pow_right (by decide) (by decide))
    · have b1 := ipow_bits (natAbs_mul_lt X Y) p.natAbs (by omega)
      have b2 := ipow_bits (natAbs_mul_lt Y Y) p.natAbs (by omega)
      have b3 : (7 + 7) * p.natAbs ≤ 39990 := by omega
      have c1 := natAbs_up b1 b3
      have c2 := natAbs_up b2 b3
      have c3 : (2 : Nat) ^ 40000 = 2 ^ 39990 * 1024 := by rw [show (40000 : Nat) = 39990 + 10 from rfl, Nat.pow_add]
      rw [c3]
      generalize (2 : Nat) ^ 39990 = Q at c1 c2 ⊢
      generalize (x * y) ^ p.natAbs = u at c1 ⊢
      generalize (y * y) ^ p.natAbs = v at c2 ⊢
      omega
theorem isb_eq {x y z p : Int} : decide (Bot x y p * z ^ Tt p = Top x y p) = isb x y z p := by
  unfold isb
  by_cases h0 : p = 0
  · subst h0
    simp [Bot, Tt, Top, Int.pow_succ]
  · rw [if_neg h0]
    have key : ∀ w : Int, (w = 1 ∨ w = -1) → ∀ j : Nat, 1 ≤ j → p = w * j → (Bot x y p * z ^ Tt p = Top x y p ↔ wsum x y y z p = 0) := fun w hw j hj e => by
      obtain ⟨le, _⟩ := left_eq (x := x) (y := y) (z := z) hw hj
      unfold Fw at le
      rw [← e] at le
      rcases hw with q | q <;> subst q <;> omega
    have : Bot x y p * z ^ Tt p = Top x y p ↔ wsum x y y z p = 0 := by
      by_cases h1 : 0 < p
      · exact key 1 (.inl rfl) p.natAbs (by omega) (by omega)
      · exact key (-1) (.inr rfl) p.natAbs (by omega) (by omega)
    exact decide_eq_decide.mpr this
theorem cut3 {L : List Int} {k : Nat} (h : k + 3 ≤ L.length) : ∃ x y z, x ∈ L ∧ y ∈ L ∧ z ∈ L ∧ cutL (L.map D.int) (some (k : Int)) (some ((k : Int) + 3)) = [.int x, .int y, .int z] := by
  have e : cutL (L.map D.int) (some (k : Int)) (some ((k : Int) + 3)) = ((L.drop k).take 3).map D.int := by
    unfold cutL
    rw [List.length_map, show ((k : Int) + 3) = ((k + 3 : Nat) : Int) by omega, HT.sIx_nat, HT.sIx_nat, Nat.min_eq_left (by omega), Nat.min_eq_left (by omega), show k + 3 - k = 3 by omega, List.map_take, List.map_drop]
  rw [e]
  have hl : 3 ≤ (L.drop k).length := by rw [List.length_drop]; omega
  match hd : L.drop k, hl with
  | x :: y :: z :: r, _ =>
    have mem : ∀ v ∈ x :: y :: z :: r, v ∈ L := fun v hv => List.mem_of_mem_drop (hd ▸ hv)
    exact ⟨x, y, z, mem x (by simp), mem y (by simp), mem z (by simp), rfl⟩
theorem steps_ok {L : List Int} (h : Row L) {d : D} (hd : Sq d L) {k : Nat} (hk : k + 3 ≤ L.length) {p : Int} (hp : -80 ≤ p ∧ p ≤ 80) :
    ∃ b, F_is_step_by [d, .int k, .int p] = .ok (.bl b) ∧ F__law_is_by [.lst (L.map .int), .int k, .int p] = .ok (.bl b) ∧ ∀ x y z r, L = x :: y :: z :: r → k = 0 → b = isb x y z p := by
  obtain ⟨x, y, z, hx, hy, hz, ec⟩ := cut3 hk
  have rx := h.rg x hx
  have ry := h.rg y hy
  have rz := h.rg z hz
  have X := bits7 rx.1 rx.2
  have Y := bits7 ry.1 ry.2
  have Z := bits7 rz.1 rz.2
  have m1 : mulP (.int x) (.int z) = .ok (.int (x * z)) := mulP_int (.inl (natAbs_up X (by decide)))
  have m2 : mulP (.int y) (.int y) = .ok (.int (y * y)) := mulP_int (.inl (natAbs_up Y (by decide)))
  have ws := whole_ok (a := x) (b := y) (c := y) (d := z) (p := p) rx ry ry rz (by omega)
  have sm : Sm x y p := ⟨by omega, by omega, Int.lt_of_le_of_lt (show x ≤ 99 by omega) (by decide), Int.lt_of_le_of_lt (show y ≤ 99 by omega) (by decide), hp.1, hp.2⟩
  have wt := wanted_ok sm
  have t80 : Tt p ≤ 80 ∧ 1 ≤ Tt p := by unfold Tt; split <;> omega
  have lr := lraised_ok (m := Tt p) Z (by decide) (by omega) (by omega)
  have m3 : mulP (.int (Bot x y p)) (.int (z ^ Tt p)) = .ok (.int (Bot x y p * z ^ Tt p)) := mulP_bits (natAbs_up (bot_bits X Y hp) (by omega)) (natAbs_up (ipow_bits Z _ t80.2) (by omega))
  have byp : F_is_by_power [.int x, .int y, .int y, .int z, .int p] = .ok (.bl (isb x y z p)) := by
    by_cases h0 : p = 0
    · subst h0
      simp [F_is_by_power, m_is_by_power, m1, m2, isb]
    · simp [F_is_by_power, m_is_by_power, h0, ws, isb]
  refine ⟨isb x y z p, ?_, ?_, fun x' y' z' r e ek => ?_⟩
  · rcases hd with e | e <;> subst e <;> simp [F_is_step_by, m_is_step_by, ec, byp]
  · have := isb_eq (x := x) (y := y) (z := z) (p := p)
    simp [F__law_is_by, m__law_is_by, ec, wt, lr, m3, this]
  · subst ek
    subst e
    have : [D.int x', D.int y', D.int z'] = [.int x, .int y, .int z] := ec
    simp at this
    rw [this.1, this.2.1, this.2.2]
theorem row_lp {L : List Int} (h : Row L) {d : D} (hd : Sq d L) {p : Int} (hp : -80 ≤ p ∧ p ≤ 80) : ∀ (K j : Nat) (o o' : Option D), j + K + 2 = L.length →
    (∃ q q', forS (bName 2) (ifS (tNot1 (tB1 (callF 3 F_is_step_by (aCons (eV 0) (aCons (eV 2) (aCons (e1 (attrD [] "power") (eV 1)) aNil)))))) (retS (makeF 108 2 F_Uneven__init__ (aCons (eV 2) aNil))) passS) (rng j K) [some d, some (byP p), o] = .nx [some d, some (byP p), q] ∧
      forS (bName 2) (ifS (tNot1 (tB1 (callF 3 F__law_is_by (aCons (eV 0) (aCons (eV 2) (aCons (eV 1) aNil)))))) (retS (eN tupD (aCons (eC (.str "uneven")) (aCons (eV 2) aNil)))) passS) (rng j K) [some (.lst (L.map .int)), some (.int p), o'] = .nx [some (.lst (L.map .int)), some (.int p), q']) ∨
    ∃ (s : Nat) (E E' : En), s ≤ 12 ∧ forS (bName 2) (ifS (tNot1 (tB1 (callF 3 F_is_step_by (aCons (eV 0) (aCons (eV 2) (aCons (e1 (attrD [] "power") (eV 1)) aNil)))))) (retS (makeF 108 2 F_Uneven__init__ (aCons (eV 2) aNil))) passS) (rng j K) [some d, some (byP p), o] = .rt (unev s) E ∧
      forS (bName 2) (ifS (tNot1 (tB1 (callF 3 F__law_is_by (aCons (eV 0) (aCons (eV 2) (aCons (eV 1) aNil)))))) (retS (eN tupD (aCons (eC (.str "uneven")) (aCons (eV 2) aNil)))) passS) (rng j K) [some (.lst (L.map .int)), some (.int p), o'] = .rt (.tup [.str "uneven", .int s]) E' := by
  have line2 : 2 ≤ sizeLine := line_le (by decide)
  have at_ : attrD [] "power" (byP p) = .ok (.int p) := by rfl
  intro K
  induction K with
  | zero =>
    intro j o o' e
    exact .inl ⟨o, o', forS_nil, forS_nil⟩
  | succ K ih =>
    intro j o o' e
    obtain ⟨b, e1, e2, _⟩ := steps_ok h hd (k := j) (by omega) hp
    rw [rng_succ, forS_cons, forS_cons]
    cases b with
    | true =>
      have next := ih (j + 1) (some (.int (j : Int))) (some (.int (j : Int))) (by omega)
      rw [show ((j + 1 : Nat) : Int) = (j : Int) + 1 by omega] at next
      simp [at_, e1, e2]
      simpa using next
    | false =>
      refine .inr ⟨j, [some d, some (byP p), some (.int j)], [some (.lst (L.map .int)), some (.int p), some (.int j)], by have := h.l12; omega, ?_, ?_⟩
      · simp [at_, e1, init_uneven, unev]
      · simp [e2, line2]
theorem grow_lp : ∀ (L : List Int) (lo : Int) (d : D) (o : Option D), L.Pairwise (· < ·) → (∀ v ∈ L, lo ≤ v ∧ v ≤ 99) →
    ∃ q q', forS (bName 2) (seqS (ifS (tNot1 (tB1 (callF 3 F_is_within (aCons (eV 2) (aCons (eV 1) (aCons (eC (.int (99))) aNil)))))) neverS passS) (asgS 1 (e2 addP (eV 2) (eC (.int (1)))))) (L.map .int) [some d, some (.int lo), o] = .nx [some d, q, q'] := by
  intro L
  induction L with
  | nil => exact fun lo d o _ _ => ⟨_, _, forS_nil⟩
  | cons v L ih =>
    intro lo d o st rg
    obtain ⟨s1, s2⟩ := List.pairwise_cons.mp st
    have hv := rg v List.mem_cons_self
    obtain ⟨q, q', e⟩ := ih (v + 1) d (some (.int v)) s2 fun u hu => ⟨by have := s1 u hu; omega, (rg u (List.mem_cons_of_mem _ hu)).2⟩
    refine ⟨q, q', ?_⟩
    rw [List.map_cons, forS_cons]
    simp [within_ok, hv.1, hv.2, e]
theorem grow_ok {L : List Int} (h : Row L) {d : D} (hd : Sq d L) : F_need_growing_row [d] = .ok .non := by
  obtain ⟨q, q', e⟩ := grow_lp L 1 d none h.st h.rg
  have l3 := h.l3
  have l12 := h.l12
  have a3 : (3 : Int) ≤ L.length := by omega
  have a12 : (L.length : Int) ≤ 12 := by omega
  have il : F_is_list [d] = .ok (.bl true) := by rcases hd with e | e <;> subst e <;> rfl
  have ld : lenP [d] = .ok (.int L.length) := by rcases hd with e | e <;> subst e <;> simp
  have vd : valD d = .ok (L.map .int) := by rcases hd with e | e <;> subst e <;> rfl
  simp [F_need_growing_row, m_need_growing_row, il, ld, vd, a3, a12]
  rw [e]
  simp
def pap (k : Bool) (v : Int) : D := if k then byP v else unev v
def due (k : Bool) (v : Int) : D := .tup [.str (if k then "bypower" else "uneven"), .int v]
theorem row_ok {L : List Int} (h : Row L) : ∃ k v, (-80 ≤ v ∧ v ≤ 80) ∧ F__law_due [.lst (L.map .int)] = .ok (due k v) ∧ ∀ d, Sq d L → F_power_of_row [d] = .ok (pap k v) := by
  have line2 : 2 ≤ sizeLine := line_le (by decide)
  have l3 := h.l3
  have l12 := h.l12
  obtain ⟨x, y, z, r, eL⟩ : ∃ x y z r, L = x :: y :: z :: r := by
    match L, l3 with
    | x :: y :: z :: r, _ => exact ⟨x, y, z, r, rfl⟩
  have tr : Tr x y z := by
    have rg := h.rg
    have st := h.st
    rw [eL] at rg st
    simp only [List.pairwise_cons, List.mem_cons] at st
    have := rg x (by simp)
    have := rg z (by simp)
    exact ⟨by omega, st.1 y (.inl rfl), st.2.1 z (.inl rfl), by omega⟩
  obtain ⟨p, hpw, e1, v, e2⟩ := power_ok tr
  have ix : ∀ d, Sq d L → ixD d (.int 0) = .ok (.int x) ∧ ixD d (.int 1) = .ok (.int y) ∧ ixD d (.int 2) = .ok (.int z) := fun d hd => by
    rcases hd with e | e <;> subst e <;> subst eL <;> simp
  have ld : ∀ d, Sq d L → lenP [d] = .ok (.int L.length) := fun d hd => by rcases hd with e | e <;> subst e <;> simp
  obtain ⟨i0, i1, i2⟩ := ix (.lst (L.map .int)) (.inl rfl)
  have ll := ld (.lst (L.map .int)) (.inl rfl)
  cases p with
  | none =>
    refine ⟨false, 0, by omega, ?_, fun d hd => ?_⟩
    · simp [F__law_due, m__law_due, i0, i1, i2, e1, oD, line2, due, -ixD_lst]
    · obtain ⟨j0, j1, j2⟩ := ix d hd
      have ty : typeD [betw v] = .ok (.cod 21) := rfl
      simp [F_power_of_row, m_power_of_row, grow_ok h hd, j0, j1, j2, e2, ty, init_uneven, pap, unev]
  | some p =>
    have hp := hpw.1
    have ty : typeD [byP p] = .ok (.cod 24) := rfl
    have r2 : rng2D [.int 1, .int ((L.length : Int) - 2)] = .ok (rng 1 (L.length - 3)) := by
      rw [rng2D_ap, if_pos (by omega)]
      congr 2
      omega
    have r1 : rng1D [.int ((L.length : Int) - 2)] = .ok (rng 0 (L.length - 2)) := by
      rw [rng1D_ap, if_pos (by omega)]
      congr 2
      omega
    have er : rng 0 (L.length - 2) = .int 0 :: rng 1 (L.length - 3) := by
      rw [show L.length - 2 = (L.length - 3) + 1 by omega, rng_succ]
      rfl
    -- the first step is by the power
    have b0 : ∀ d, Sq d L → F_is_step_by [d, .int 0, .int p] = .ok (.bl true) := fun d hd => by
      obtain ⟨b, g1, _, g3⟩ := steps_ok h hd (k := 0) (by omega) hp
      rw [g3 x y z r eL rfl] at g1
      have : isb x y z p = true := by
        unfold isb
        have hq := hpw.2
        split
        · rename_i c; rw [if_pos c] at hq; exact decide_eq_true hq
        · rename_i c; rw [if_neg c] at hq; exact decide_eq_true hq
      rw [this] at g1
      exact g1
    have at_ : attrD [] "power" (byP p) = .ok (.int p) := by rfl
    -- whatever the first walk gives, gives the answer
    rcases row_lp h (d := .lst (L.map .int)) (.inl rfl) hp (L.length - 3) 1 none none (by omega) with ⟨q, q', _, g2⟩ | ⟨s, E, E', hs, _, g2⟩
    · refine ⟨true, p, hp, ?_, fun d hd => ?_⟩
      · simp [F__law_due, m__law_due, i0, i1, i2, ll, e1, oD, line2, r2, -rng2D_ap, -ixD_lst, -lenD_lst]
        simp at g2
        rw [g2]
        simp [line2, due]
      · obtain ⟨j0, j1, j2⟩ := ix d hd
        rcases row_lp h hd hp (L.length - 3) 1 (some (.int 0)) none (by omega) with ⟨u, u', c1, c2⟩ | ⟨s, E, E', hs, c1, c2⟩
        · simp [F_power_of_row, m_power_of_row, grow_ok h hd, j0, j1, j2, e2, ty, ld d hd, r1, er, -rng1D_ap, forS_cons, at_, b0 d hd]
          simp at c1
          rw [c1]
          simp [pap]
        · simp at g2 c2
          rw [g2] at c2
          cases c2
    · refine ⟨false, s, by omega, ?_, fun d hd => ?_⟩
      · simp [F__law_due, m__law_due, i0, i1, i2, ll, e1, oD, line2, r2, -rng2D_ap, -ixD_lst, -lenD_lst]
        simp at g2
        rw [g2]
        simp [due]
      · obtain ⟨j0, j1, j2⟩ := ix d hd
        rcases row_lp h hd hp (L.length - 3) 1 (some (.int 0)) none (by omega) with ⟨u, u', c1, c2⟩ | ⟨s', E1, E2, hs', c1, c2⟩
        · simp at g2 c2
          rw [g2] at c2
          cases c2
        · have es : s' = s := by
            rw [g2] at c2
            injection c2 with c2 _
            simp at c2
            omega
          subst es
          simp [F_power_of_row, m_power_of_row, grow_ok h hd, j0, j1, j2, e2, ty, ld d hd, r1, er, -rng1D_ap, forS_cons, at_, b0 d hd]
          simp at c1
          rw [c1]
          simp [pap]
end Q

namespace Q
open PySem PySem.Spec PyProof.Rows L2 Dl
theorem intsD_map : ∀ L : List Int, intsD (L.map D.int) = some L
  | [] => rfl
  | v :: L => by
    show (intsD (L.map D.int)).map (v :: ·) = _
    rw [intsD_map L]
    rfl
theorem sortSet_ok {L : List Int} (h : L.length < 63) : sortSetD [.lst (L.map D.int)] = .ok (.lst ((sortU L).map D.int)) := by
  show (R.ofOpt (intsD (L.map D.int))).bind _ = _
  rw [intsD_map]
  show (if L.length < 63 then R.ok (D.lst ((sortU L).map .int)) else .no) = _
  rw [if_pos h]
theorem cutL_map {L : List Int} {lo hi : Option Int} : cutL (L.map D.int) lo hi = (cutL L lo hi).map D.int := by
  unfold cutL
  rw [List.length_map, List.map_take, List.map_drop]
theorem cutL_len {α : Type} (L : List α) (lo hi : Option Int) : (cutL L lo hi).length ≤ L.length := by
  unfold cutL
  rw [List.length_take, List.length_drop]
  omega
theorem cut12 (L : List Int) : cutL L none (some 12) = L.take 12 := by
  unfold cutL
  rw [show (some (12 : Int)) = some ((12 : Nat) : Int) from rfl, HT.sIx_nat, HT.sIx_none, List.drop_zero, Nat.sub_zero]
  by_cases h : 12 ≤ L.length
  · rw [Nat.min_eq_left h]
  · rw [Nat.min_eq_right (by omega), List.take_of_length_le (Nat.le_refl _), List.take_of_length_le (by omega)]
theorem lc_lt : ∀ (L : List Int) (acc : List D) (a0 a1 a2 a3 a4 a5 a7 : Option D), acc.length + L.length ≤ 1000 →
    lcF [6] (bName 6) (tB1 (e2 ltP (eV 6) (eC (.int (100))))) (eV 6) (L.map .int) acc [a0, a1, a2, a3, a4, a5, none, a7] = .ok (acc ++ (L.filter fun v => decide (v < 100)).map D.int, [a0, a1, a2, a3, a4, a5, none, a7]) := by
  intro L
  induction L with
  | nil => intro acc a0 a1 a2 a3 a4 a5 a7 _; rw [List.map_nil, lcF_nil]; simp
  | cons v L ih =>
    intro acc a0 a1 a2 a3 a4 a5 a7 h
    rw [List.length_cons] at h
    have line : acc.length < sizeLine := line_lt (by omega)
    rw [List.map_cons, lcF_cons]
    by_cases c : v < 100
    · have e := ih (acc ++ [.int v]) a0 a1 a2 a3 a4 a5 a7 (by simp; omega)
      simp [c, line, wipeE, e]
    · have e := ih acc a0 a1 a2 a3 a4 a5 a7 (by omega)
      simp [c, wipeE, e]
theorem lc_in : ∀ (L : List Int) (acc : List D) (a0 a1 a2 a3 a4 a5 a7 : Option D), acc.length + L.length ≤ 1000 →
    lcF [6] (bName 6) (tCh (eC (.int (0))) (kLink ltP (eV 6) (kLast ltP (eC (.int (100)))))) (eV 6) (L.map .int) acc [a0, a1, a2, a3, a4, a5, none, a7] = .ok (acc ++ (L.filter fun v => (decide (0 < v) && decide (v < 100))).map D.int, [a0, a1, a2, a3, a4, a5, none, a7]) := by
  intro L
  induction L with
  | nil => intro acc a0 a1 a2 a3 a4 a5 a7 _; rw [List.map_nil, lcF_nil]; simp
  | cons v L ih =>
    intro acc a0 a1 a2 a3 a4 a5 a7 h
    rw [List.length_cons] at h
    have line : acc.length < sizeLine := line_lt (by omega)
    rw [List.map_cons, lcF_cons]
    by_cases c0 : 0 < v
    · by_cases c : v < 100
      · have e := ih (acc ++ [.int v]) a0 a1 a2 a3 a4 a5 a7 (by simp; omega)
        simp [c0, c, line, wipeE, e]
      · have e := ih acc a0 a1 a2 a3 a4 a5 a7 (by omega)
        simp [c0, c, wipeE, e]
    · have e := ih acc a0 a1 a2 a3 a4 a5 a7 (by omega)
      simp [c0, wipeE, e]
theorem lc_lot : ∀ (xs acc : List D) (n : Nat) (d : D) (a1 a2 a3 a4 a5 a6 : Option D), Hat n d → n + xs.length ≤ 900000 → acc.length + xs.length ≤ 1000 →
    ∃ (M : List Int) (d' : D), M.length = xs.length ∧ Hat (n + xs.length) d' ∧
      lcF [7] (bName 7) tYes1 (e2 addP (eC (.int (1))) (callM 0 2 F__law_lot (aCons (eC (.int (99))) aNil))) xs acc [some d, a1, a2, a3, a4, a5, a6, none] = .ok (acc ++ M.map D.int, [some d', a1, a2, a3, a4, a5, a6, none]) := by
  intro xs
  induction xs with
  | nil => exact fun acc n d a1 a2 a3 a4 a5 a6 h _ _ => ⟨[], d, rfl, h, by rw [lcF_nil]; simp⟩
  | cons x xs ih =>
    intro acc n d a1 a2 a3 a4 a5 a6 h hn hl
    rw [List.length_cons] at hn hl
    obtain ⟨k, d1, e1, _, _, h1⟩ := lot_ok (m := 99) h (by omega) (by decide) (by decide)
    have line : acc.length < sizeLine := line_lt (by omega)
    obtain ⟨M, d', m1, m2, e⟩ := ih (acc ++ [.int (1 + k)]) (n + 1) d1 a1 a2 a3 a4 a5 a6 h1 (by omega) (by simp; omega)
    refine ⟨(1 + k) :: M, d', by simp [m1], m2.up (by simp; omega), ?_⟩
    rw [lcF_cons]
    simp [e1, line, wipeE, e]
theorem row_made {n : Nat} {d : D} (h : Hat n d) (hn : n ≤ 800000) : ∃ L d', F__law_row [d] = .ok (.lst (L.map D.int), d') ∧ Row L ∧ Hat (n + 30) d' := by
  obtain ⟨f, s, p, d1, e1, hf, hs, hp, h1⟩ := begun_ok h (by omega)
  obtain ⟨k2, d2, e2, a2, b2, h2⟩ := lot_ok (m := 10) h1 (by omega) (by decide) (by decide)
  obtain ⟨m, hm⟩ : ∃ m : Nat, 3 + k2 = (m : Int) := ⟨(3 + k2).toNat, by omega⟩
  obtain ⟨tl, ⟨ht, _⟩, _, eg⟩ := numbers_ok hf hs (many := m) (by omega) hp
  have line3 : 3 ≤ sizeLine := line_le (by decide)
  have line5 : 5 ≤ sizeLine := line_le (by decide)
  have line1 : 1 ≤ sizeLine := line_le (by decide)
  -- the first list
  obtain ⟨A, hA⟩ : ∃ A : List Int, A = (f :: s :: tl).filter fun v => decide (v < 100) := ⟨_, rfl⟩
  have lA : A.length ≤ 12 := by
    have := List.length_filter_le (fun v : Int => decide (v < 100)) (f :: s :: tl)
    rw [← hA] at this
    simp at this
    omega
  have A0 : f ∈ A := by rw [hA, List.mem_filter]; exact ⟨List.mem_cons_self, decide_eq_true (by omega)⟩
  have c1 := lc_lt (f :: s :: tl) [] (some d2) (some (.int f)) (some (.int s)) (some (.int p)) none none none (by simp; omega)
  rw [← hA] at c1
  -- more numbers
  obtain ⟨x3, d3, e3, hx3, h3⟩ := one_ok (xs := [.int 0, .int 0, .int 1, .int 2, .int 6]) h2 (by omega) (by simp) (by simp)
  obtain ⟨q, hq, eq⟩ : ∃ q : Nat, x3 = .int (q : Int) ∧ q ≤ 6 := by
    simp only [List.mem_cons, List.not_mem_nil, or_false] at hx3
    rcases hx3 with e | e | e | e | e
    · exact ⟨0, e, by omega⟩
    · exact ⟨0, e, by omega⟩
    · exact ⟨1, e, by omega⟩
    · exact ⟨2, e, by omega⟩
    · exact ⟨6, e, by omega⟩
  subst hq
  obtain ⟨M, d4, lM, h4, c2⟩ := lc_lot (rng 0 q) [] (n + 9 + 1 + 1) d3 (some (.int f)) (some (.int s)) (some (.int p)) (some (.lst (A.map .int))) none none h3 (by rw [rng_len]; omega) (by rw [rng_len]; simp; omega)
  rw [rng_len] at lM h4
  have rq := rng1_ok (m := q) (by omega)
  have lineA : A.length + M.length ≤ sizeLine := line_le (by omega)
  have s1 := sortSet_ok (L := A ++ M) (by rw [List.length_append]; omega)
  obtain ⟨B, hB⟩ : ∃ B, B = sortU (A ++ M) := ⟨_, rfl⟩
  rw [← hB] at s1
  have B0 : 0 < B.length := List.length_pos_iff.mpr fun z => by
    have : f ∈ B := by rw [hB, sortU_mem]; exact List.mem_append_left _ A0
    rw [z] at this
    exact absurd this List.not_mem_nil
  have lenU : ∀ l : List Int, (sortU l).length ≤ l.length := by
    intro l
    induction l with
    | nil => exact Nat.le_refl _
    | cons x r ih =>
      have ins : ∀ (x : Int) (r : List Int), (insU x r).length ≤ r.length + 1 := by
        intro x r
        induction r with
        | nil => exact Nat.le_refl _
        | cons y r ih2 =>
          unfold insU
          split
          · simp
          · split
            · simp
            · simp; omega
      have := ins x (sortU r)
      show (insU x (sortU r)).length ≤ _
      rw [List.length_cons]
      omega
  have lB : B.length ≤ 18 := by
    have := lenU (A ++ M)
    rw [← hB, List.length_append] at this
    omega
  obtain ⟨k5, d5, e5, a5, b5, h5⟩ := lot_ok (m := 3) h4 (by omega) (by decide) (by decide)
  -- behind the second sort
  have fin : ∀ (C : List Int) (d6 : D) (a5 : Option D), C.Pairwise (· < ·) → C.length ≤ 62 → ∃ L : List Int, Row L ∧
      SR.finM ((seqS (asgS 4 (eSl slP (lcE [6] (iVal (eV 4)) (bName 6) (tCh (eC (.int (0))) (kLink ltP (eV 6) (kLast ltP (eC (.int (100)))))) (eV 6)) pNone (pSome (eC (.int (12)))))) (retS (eIf (tB1 (Dl.e2 gtP (eN lenP (aCons (eV 4) aNil)) (eC (.int (2))))) (eV 4) (eN lstD (aCons (Dl.e2 addP (eC (.int (1))) (Dl.e2 (Dl.intD modI) (eN intC (aCons (eV 3) aNil)) (eC (.int (5))))) (aCons (eC (.int (7))) (aCons (Dl.e2 addP (eC (.int (9))) (Dl.e2 (Dl.intD modI) (eN intC (aCons (eV 3) aNil)) (eC (.int (7))))) aNil)))))))
        [some d6, some (.int f), some (.int s), some (.int p), some (.lst (C.map .int)), a5, none, none]) = .ok (.lst (L.map .int), d6) := fun C d6 a5 sC lC => by
    have c3 := lc_in C [] (some d6) (some (.int f)) (some (.int s)) (some (.int p)) (some (.lst (C.map .int))) a5 none (by simp; omega)
    obtain ⟨G, hG⟩ : ∃ G : List Int, G = (C.filter fun v => (decide (0 < v) && decide (v < 100))).take 12 := ⟨_, rfl⟩
    have eG : cutL ((C.filter fun v => (decide (0 < v) && decide (v < 100))).map D.int) none (some 12) = G.map D.int := by rw [cutL_map, cut12, hG]
    by_cases c : 2 < G.length
    · refine ⟨G, ⟨by omega, ?_, ?_, ?_⟩, ?_⟩
      · rw [hG, List.length_take]; omega
      · rw [hG]; exact (sC.sublist List.filter_sublist).sublist (List.take_sublist _ _)
      · intro v hv
        rw [hG] at hv
        have := (List.mem_filter.mp (List.mem_of_mem_take hv)).2
        simp at this
        omega
      · have c' : (2 : Int) < G.length := by omega
        simp [wipeE, c3, backE, eG, c, c']
    · refine ⟨[1 + p % 5, 7, 9 + p % 7], ⟨by simp, by simp, ?_, ?_⟩, ?_⟩
      · simp only [List.pairwise_cons, List.mem_cons, List.not_mem_nil, or_false, List.Pairwise.nil, and_true]
        refine ⟨?_, ?_, fun _ z => z.elim⟩
        · rintro a (e | e) <;> omega
        · rintro a e; omega
      · intro v hv
        simp only [List.mem_cons, List.not_mem_nil, or_false] at hv
        omega
      · have c' : ¬ (2 : Int) < G.length := by omega
        simp [wipeE, c3, backE, eG, c, c', line3]
  by_cases h50 : k5 = 0
  · obtain ⟨k6, d6, e6, a6, b6, h6⟩ := lot_ok (m := B.length) h5 (by omega) (by omega) (by omega)
    obtain ⟨v, ev, _⟩ := atI_ok (xs := B.map D.int) a6 (by rw [List.length_map]; exact b6)
    obtain ⟨vi, hvi⟩ : ∃ i, v = .int i := by
      rw [atI_nat (k := k6.toNat) (by omega), List.getElem?_map] at ev
      cases q : B[k6.toNat]? with
      | none => rw [q] at ev; cases ev
      | some i => rw [q] at ev; cases ev; exact ⟨i, rfl⟩
    subst hvi
    obtain ⟨k7, d7, e7, a7, b7, h7⟩ := lot_ok (m := 2) h6 (by omega) (by decide) (by decide)
    have c4 := cutL_len B none (some k6)
    have c5 := cutL_len B (some (k6 + 1)) none
    have m7 : mulP (.int 2) (.int k7) = .ok (.int (2 * k7)) := mulP_int (.inl (by decide))
    obtain ⟨E, hE⟩ : ∃ E : List Int, E = cutL B none (some k6) ++ [vi + 1 - 2 * k7] ++ cutL B (some (k6 + 1)) none := ⟨_, rfl⟩
    have lE : E.length ≤ 37 := by
      rw [hE, List.length_append, List.length_append, List.length_singleton]
      omega
    have s2 := sortSet_ok (L := E) (by omega)
    have e37 : (cutL B none (some k6)).map D.int ++ [D.int (vi + 1 - 2 * k7)] ++ (cutL B (some (k6 + 1)) none).map D.int = E.map D.int := by rw [hE]; simp
    have e37' : (cutL B none (some k6)).map D.int ++ (D.int (vi + 1 - 2 * k7) :: (cutL B (some (k6 + 1)) none).map D.int) = E.map D.int := by rw [hE]; simp
    obtain ⟨L, hL, eL⟩ := fin (sortU E) d7 (some (.int k6)) (sortU_sorted _) (Nat.le_trans (lenU _) (by omega))
    have ln1 : (cutL B none (some k6)).length + 1 ≤ sizeLine := line_le (by omega)
    have ln2 : (cutL B none (some k6)).length + 1 + (cutL B (some (k6 + 1)) none).length ≤ sizeLine := line_le (by omega)
    refine ⟨L, d7, ?_, hL, h7.up (by omega)⟩
    simp at c1 c2 s1
    simp [F__law_row, m__law_row, e1, e2, hm, eg, wipeE, c1, backE, e3, line5, rq, -rng1D_ap, c2, lineA, s1, e5, h50, e6, ev, e7, m7, cutL_map, ln1, ln2, line1, e37', s2]
    simp at eL
    exact eL
  · obtain ⟨L, hL, eL⟩ := fin B d5 none (by rw [hB]; exact sortU_sorted _) (by omega)
    refine ⟨L, d5, ?_, hL, h5.up (by omega)⟩
    simp at c1 c2 s1
    simp [F__law_row, m__law_row, e1, e2, hm, eg, wipeE, c1, backE, e3, line5, rq, -rng1D_ap, c2, lineA, s1, e5, h50]
    simp at eL
    exact eL
end Q

namespace Q
open PySem PySem.Spec PyProof.Rows L2 Dl
theorem text_len {z : String} {n : Nat} (h : z.length ≤ n) : (Str.ofString z).length ≤ n := by rw [PySem.ofString_length]; exact h
theorem showAll : ∀ L : List Int, (∀ v ∈ L, v.natAbs < 2 ^ 100) → PyData.showableAll (L.map PyData.int) = true ∧ PyData.hasDictAll (L.map PyData.int) = false ∧ PyData.leavesShortAll 1921 (L.map PyData.int) = true ∧ PyData.bulkAll (L.map PyData.int) = L.length
  | [], _ => ⟨rfl, rfl, rfl, rfl⟩
  | v :: L, h => by
    obtain ⟨a, b, c, d⟩ := showAll L fun u hu => h u (List.mem_cons_of_mem _ hu)
    have hv : v.natAbs.log2 < 1920 := Nat.lt_of_lt_of_le (log2_lt_of (h v List.mem_cons_self) (by decide)) (by decide)
    have ht := int_text_length_le (a := v) (k := 1920) (by decide) hv
    refine ⟨?_, ?_, ?_, ?_⟩
    · show (PyData.showable (.int v) && PyData.showableAll (L.map PyData.int)) = true
      rw [a, Bool.and_true]
      exact decide_eq_true hv
    · show (PyData.hasDict (.int v) || PyData.hasDictAll (L.map PyData.int)) = false
      rw [b]; rfl
    · show (PyData.leavesShort 1921 (.int v) && PyData.leavesShortAll 1921 (L.map PyData.int)) = true
      rw [c, Bool.and_true]
      exact decide_eq_true (text_len ht)
    · show PyData.bulk (.int v) + 1 + PyData.bulkAll (L.map PyData.int) = _
      rw [d, List.length_cons]
      show 0 + 1 + L.length = _
      omega
theorem repr_ints {L : List Int} (hl : L.length ≤ 100) (h : ∀ v ∈ L, v.natAbs < 2 ^ 100) : ∃ z, reprD [.tup (L.map .int)] = .ok (.str z) := by
  obtain ⟨a, b, c, d⟩ := showAll L h
  have ep : pyD (.tup (L.map D.int)) = some (.tuple (L.map PyData.int)) := by
    show (pyDs (L.map D.int)).map PyData.tuple = _
    rw [pyDs_ints]
    rfl
  have le := PyData.shown_le_bulk 1921 (by decide) (.tuple (L.map PyData.int)) c
  have eb : PyData.bulk (.tuple (L.map PyData.int)) = L.length := d
  rw [eb] at le
  refine ⟨PyData.shown (.tuple (L.map PyData.int)), ?_⟩
  simp only [reprD, ep]
  refine if_pos ⟨⟨a, b⟩, ?_, ?_⟩
  · show PyData.depthAll (L.map PyData.int) + 1 ≤ 64
    rw [Dl.depthAll_ints]; decide
  · rw [sizeLine_eq]
    omega
end Q
namespace Q
open PySem PySem.Spec PyProof.Rows L2 Dl
/-! is_just and the rest on one value -/
theorem isi_tup {xs : List D} : isiD subG [.tup xs, .ty "tuple"] = .ok (.bl true) := by rfl
theorem isi_int_tup {v : Int} : isiD subG [.int v, .ty "tuple"] = .ok (.bl false) := by rfl
theorem isi_int_str {v : Int} : isiD subG [.int v, .ty "str"] = .ok (.bl false) := by rfl
theorem isi_int_bool {v : Int} : isiD subG [.int v, .ty "bool"] = .ok (.bl false) := by rfl
theorem isi_bl_bool {b : Bool} : isiD subG [.bl b, .ty "bool"] = .ok (.bl true) := by rfl
theorem isi_non_bool : isiD subG [.non, .ty "bool"] = .ok (.bl false) := by rfl
theorem isi_str_bool {z : Str} : isiD subG [.str z, .ty "bool"] = .ok (.bl false) := by rfl
theorem isi_lst_bool {xs : List D} : isiD subG [.lst xs, .ty "bool"] = .ok (.bl false) := by rfl
/-- what is just an integer v -/
def just (v : Int) : D → Option Bool
  | .int i => some (decide (i = v))
  | .non => some false
  | .bl _ => some false
  | .str _ => some false
  | .tup _ => some false
  | _ => none
theorem just_int {v : Int} {w : D} {b : Bool} (h : just v w = some b) (n : Nat) : FF_is_just (n + 1) [w, .int v] = .ok (.bl b) := by
  cases w <;> first | (cases h; done) | skip
  all_goals cases h
  all_goals simp [FF_is_just, m_is_just, isi_int_tup, isi_int_str, int_ok, int_non, int_bl, int_str, int_tup]
theorem just_one {v : Int} {w : D} {b : Bool} (h : just v w = some b) : F_is_just [.tup [w], .tup [.int v]] = .ok (.bl b) := by
  have e := just_int h 1
  have z : zipP [.tup [w], .tup [.int v]] = .ok [.tup [w, .int v]] := rfl
  have line : 0 < sizeLine := line_lt (by decide)
  have al : allD [.lst [.bl b]] = .ok (.bl b) := by cases b <;> rfl
  unfold F_is_just
  rw [FF_is_just]
  simp [m_is_just, isi_tup, z, wipeE, lcF_cons, lcF_nil, e, line, backE, al]
def cls (k : Bool) : Nat := if k then 24 else 108
theorem pap_ty (k : Bool) (v : Int) : typeD [pap k v] = .ok (.cod (cls k)) := by cases k <;> rfl
theorem pap_parts (k : Bool) (v : Int) : attrD [] "parts" (pap k v) = .ok (.tup [.int v]) := by cases k <;> rfl
theorem shows_ins {d : D} {k : Bool} {v : Int} (hp : F_power_of_row [d] = .ok (pap k v)) {c : Nat} {fs : List (Str × D)} {w : D} {b : Bool} (ha : attrD [] "parts" (.ins c fs) = .ok (.tup [w])) (hj : just v w = some b) :
    F_shows_power_of_row [d, .ins c fs] = .ok (.bl (decide (c = cls k) && b)) := by
  have j := just_one hj
  by_cases hc : c = cls k
  · simp [F_shows_power_of_row, m_shows_power_of_row, hp, pap_ty, hc, pap_parts, -attrD_ap]
    subst hc
    rw [ha]
    simp [j, pap_parts, -attrD_ap]
  · simp [F_shows_power_of_row, m_shows_power_of_row, hp, pap_ty, hc]
theorem shows_not {d : D} {k : Bool} {v : Int} (hp : F_power_of_row [d] = .ok (pap k v)) {u : D} {n : String} (hu : typeD [u] = .ok (.ty n)) : F_shows_power_of_row [d, u] = .ok (.bl false) := by
  have : clsIsD (.ty n) (.cod (cls k)) = .ok (.bl false) := rfl
  simp [F_shows_power_of_row, m_shows_power_of_row, hp, pap_ty, hu, this]
theorem shows_pap {d : D} {k : Bool} {v : Int} (hp : F_power_of_row [d] = .ok (pap k v)) : F_shows_power_of_row [d, pap k v] = .ok (.bl true) := by
  have e := pap_parts k v
  cases k with
  | true =>
    have := shows_ins hp (c := 24) (fs := [("word", .str "bypower"), ("parts", .tup [.int v]), ("power", .int v)]) e (show just v (.int v) = some true by simp [just])
    simpa [cls, pap, byP] using this
  | false =>
    have := shows_ins hp (c := 108) (fs := [("word", .str "uneven"), ("parts", .tup [.int v]), ("step", .int v)]) e (show just v (.int v) = some true by simp [just])
    simpa [cls, pap, unev] using this
theorem told_ok (k : Bool) (v : Int) : F__law_told [pap k v] = .ok (due k v) := by cases k <;> rfl
theorem eq_pap (k : Bool) (v : Int) : eqI eqT (pap k v) (pap k v) = .ok (.bl true) := by
  have e : eqD (.tup [.int v]) (.tup [.int v]) = .ok (.bl true) := by
    show R.ok (D.bl (PyData.eqvAll ([v].map PyData.int) ([v].map PyData.int))) = _
    rw [eqvAll_ints]
    simp
  cases k with
  | true =>
    show F_Paper__eq__ [pap true v, pap true v] = _
    have w : attrD [] "word" (pap true v) = .ok (.str "bypower") := rfl
    simp [F_Paper__eq__, m_Paper__eq__, pap_ty, w, pap_parts, e]
  | false =>
    show F_Denial__eq__ [pap false v, pap false v] = _
    have w : attrD [] "word" (pap false v) = .ok (.str "uneven") := rfl
    simp [F_Denial__eq__, m_Denial__eq__, pap_ty, w, pap_parts, e]
theorem repr_due {k : Bool} {v : Int} (h : v.natAbs < 2 ^ 100) : ∃ z, reprD [due k v] = .ok (.str z) := by
  have hv : v.natAbs.log2 < 1920 := Nat.lt_of_lt_of_le (log2_lt_of h (by decide)) (by decide)
  have ht : (Str.ofString (toString v)).length ≤ 1921 := text_len (int_text_length_le (a := v) (k := 1920) (by decide) hv)
  have main : ∀ w : Str, (w.cps.toList.all fun c => decide (c < 16 ^ 8)) = true → w.cps.size ≤ 100 → ∃ z, reprD [.tup [.str w, .int v]] = .ok (.str z) := fun w hw hw2 => by
    have a : PyData.showable (.tuple [.str w, .int v]) = true := by
      show (true && (decide (v.natAbs.log2 < 1920) && true)) = true
      rw [decide_eq_true hv]; rfl
    have c : PyData.leavesShort 1921 (.tuple [.str w, .int v]) = true := by
      show ((w.cps.toList.all fun c => decide (c < 16 ^ 8)) && (decide ((PyData.shown (.int v)).length ≤ 1921) && true)) = true
      rw [hw, decide_eq_true (show (PyData.shown (.int v)).length ≤ 1921 from ht)]; rfl
    have le := PyData.shown_le_bulk 1921 (by decide) _ c
    have eb : PyData.bulk (.tuple [.str w, .int v]) = w.cps.size + 1 + (0 + 1 + 0) := rfl
    rw [eb] at le
    refine ⟨PyData.shown (.tuple [.str w, .int v]), ?_⟩
    have ep : pyD (.tup [.str w, .int v]) = some (.tuple [.str w, .int v]) := rfl
    simp only [reprD, ep]
    refine if_pos ⟨⟨a, rfl⟩, (show max 0 (max 0 0) + 1 ≤ 64 from by decide), ?_⟩
    rw [sizeLine_eq]
    omega
  cases k
  · exact main "uneven" (by decide) (by decide)
  · exact main "bypower" (by decide) (by decide)
end Q

namespace Q
open PySem PySem.Spec PyProof.Rows L2 Dl
def inBody : SF := (seqS (par2S 13 14 (aCons (callM 1 2 F__law_one (aCons (eV 11) aNil)) (aCons (e2 eqD (callM 1 2 F__law_lot (aCons (eC (.int (2))) aNil)) (eC (.int (0)))) aNil))) (seqS (asgS 15 (eAnd (eNot (eN (isiD subG) (aCons (eV 13) (aCons (eC (.ty "bool")) aNil)))) (e2 eqD (eN tupD (aCons (eIf (tTru (eV 14)) (eC (.str "uneven")) (eC (.str "bypower"))) (aCons (eV 13) aNil))) (eV 9)))) (ifS (tB1 (e2 neD (callF 2 F_shows_power_of_row (aCons (eV 7) (aCons (eIf (tTru (eV 14)) (makeF 108 2 F_Uneven__init__ (aCons (eV 13) aNil)) (makeF 24 2 F_ByPower__init__ (aCons (eV 13) aNil))) aNil))) (eV 15))) (retS (eC (.bl false))) passS)))
def lapBody : SF := (seqS (asgG (bSeq 3 (bCons (bName 3) (bCons (bName 4) (bCons (bName 5) bNil)))) (callM 1 1 F__law_begun aNil)) (seqS (asgS 6 (e2 addP (eC (.int (2))) (callM 1 2 F__law_lot (aCons (eC (.int (11))) aNil)))) (seqS (asgS 7 (callF 4 F_numbers_by (aCons (eV 3) (aCons (eV 4) (aCons (eV 6) (aCons (eV 5) aNil)))))) (seqS (ifS (tOr1 (tB1 (e2 neD (eN reprD (aCons (eV 7) aNil)) (eN reprD (aCons (eN tupC (aCons (callF 4 F__law_gone_on (aCons (eV 3) (aCons (eV 4) (aCons (eV 6) (aCons (eV 5) aNil))))) aNil)) aNil)))) (tB1 (e2 neD (callF 4 F_numbers_by (aCons (eV 3) (aCons (eV 4) (aCons (eC (.int (2))) (aCons (eV 5) aNil))))) (eN tupD (aCons (eV 3) (aCons (eV 4) aNil)))))) (retS (eC (.bl false))) passS) (seqS (asgS 7 (callM 1 1 F__law_row aNil)) (seqS (par3S 8 9 10 (aCons (eN lstC (aCons (eV 7) aNil)) (aCons (callF 1 F__law_due (aCons (eV 7) aNil)) (aCons (callF 1 F_power_of_row (aCons (eV 7) aNil)) aNil)))) (seqS (ifS (tOr1 (tNot1 (tB1 (e1 (isiTD subG [.cod 24, .cod 108]) (eV 10)))) (tOr1 (tB1 (e2 neD (e1 (attrD [] "word") (eV 10)) (e2 ixD (eV 9) (eC (.int (0)))))) (tB1 (e2 neD (eN reprD (aCons (callF 1 F__law_told (aCons (eV 10) aNil)) aNil)) (eN reprD (aCons (eV 9) aNil)))))) (retS (eC (.bl false))) passS) (seqS (ifS (tOr1 (tB1 (e2 neD (eBoI boT (eV 10)) (eN (isiD subG) (aCons (eV 10) (aCons (eC (.cod 24)) aNil))))) (tOr1 (tB1 (e2 isnD (callF 2 F_shows_power_of_row (aCons (eV 7) (aCons (eV 10) aNil))) (eC (.bl true)))) (tB1 (e2 neD (eV 7) (eV 8))))) (retS (eC (.bl false))) passS) (seqS (ifS (tOr1 (tB1 (eEqI eqT true (callK 1 F_power_of_row kd_power_of_row_1 (aCons (eN tupC (aCons (eV 7) aNil)) aNil)) (eV 10))) (tB1 (e2 isnD (callK 2 F_shows_power_of_row kd_shows_power_of_row_0 (aCons (eV 10) (aCons (eN tupC (aCons (eV 7) aNil)) aNil))) (eC (.bl true))))) (retS (eC (.bl false))) passS) (seqS (asgS 11 (eN lstD (aCons (e2 ixD (eV 9) (eC (.int (1)))) (aCons (e2 addP (e2 ixD (eV 9) (eC (.int (1)))) (eC (.int (1)))) (aCons (e2 (intD subI) (e2 ixD (eV 9) (eC (.int (1)))) (eC (.int (1)))) (aCons (eC (.int (0))) (aCons (eC (.int (1))) (aCons (e2 (intD subI) (eN lenP (aCons (eV 7) aNil)) (eC (.int (3)))) (aCons (e2 (intD subI) (eN lenP (aCons (eV 7) aNil)) (eC (.int (2)))) (aCons (eC .non) (aCons (eC (.bl true)) (aCons (eN strI (aCons (e2 ixD (eV 9) (eC (.int (1)))) aNil)) (aCons (e2 (intD powI) (eC (.int (10))) (eC (.int (30)))) (aCons (e1 negD (eC (.int (81)))) (aCons (eN lstD (aCons (eC (.int (0))) aNil)) aNil))))))))))))))) (seqS (forStm (iArg rng1D (aCons (eC (.int (4))) aNil)) (bName 12) inBody) (seqS (asgS 16 (eN lstD (aCons (eC .non) (aCons (e2 ixD (eV 9) (eC (.int (1)))) (aCons (eV 9) (aCons (eC (.str "bypower")) (aCons (makeF 21 2 F_Between__init__ (aCons (e2 ixD (eV 9) (eC (.int (1)))) aNil)) (aCons (makeF 85 3 (starD 2 F_Paper__init__) (aCons (eC (.str "bypower")) (aCons (e2 ixD (eV 9) (eC (.int (1)))) aNil))) (aCons (makeF 32 3 (starD 2 F_Denial__init__) (aCons (eC (.str "uneven")) (aCons (e2 ixD (eV 9) (eC (.int (1)))) aNil))) (aCons (e1 (attrD [] "parts") (eV 10)) aNil)))))))))) (ifS (tB1 (e2 isnD (callF 2 F_shows_power_of_row (aCons (eV 7) (aCons (callM 1 2 F__law_one (aCons (eV 16) aNil)) aNil))) (eC (.bl false)))) (retS (eC (.bl false))) passS)))))))))))))
theorem m_law_eq : m_law = (seqS (asgS 1 (callF 1 F__law_hat (aCons (eV 0) aNil))) (seqS (forStm (iArg rng1D (aCons (eC (.int (3))) aNil)) (bName 2) lapBody) (retS (eC (.bl true))))) := rfl
/-- what a value becomes in a paper -/
def fx : D → D
  | .lst [.int i] => .tup [.int i]
  | x => x
def okV (v : Int) : D → Bool
  | .int _ => true
  | .non => true
  | .bl _ => true
  | .str z => PyData.strOk z
  | .lst [.int _] => true
  | _ => false
theorem init_unevenV {v : Int} {x : D} (h : okV v x = true) : F_Uneven__init__ [.ins 108 [], x] = .ok (.non, .ins 108 [("word", .str "uneven"), ("parts", .tup [fx x]), ("step", fx x)]) := by
  match x, h with
  | .int _, _ => rfl
  | .non, _ => rfl
  | .bl _, _ => rfl
  | .str _, _ => rfl
  | .lst [.int _], _ => rfl
theorem init_bypowerV {v : Int} {x : D} (h : okV v x = true) : F_ByPower__init__ [.ins 24 [], x] = .ok (.non, .ins 24 [("word", .str "bypower"), ("parts", .tup [fx x]), ("power", fx x)]) := by
  match x, h with
  | .int _, _ => rfl
  | .non, _ => rfl
  | .bl _, _ => rfl
  | .str _, _ => rfl
  | .lst [.int _], _ => rfl
theorem just_fx {v : Int} {x : D} (h : okV v x = true) : ∃ b, just v (fx x) = some b := by
  match x, h with
  | .int _, _ => exact ⟨_, rfl⟩
  | .non, _ => exact ⟨_, rfl⟩
  | .bl _, _ => exact ⟨_, rfl⟩
  | .str _, _ => exact ⟨_, rfl⟩
  | .lst [.int _], _ => exact ⟨_, rfl⟩
def wd (st : Bool) : Str := if st then "uneven" else "bypower"
theorem wd_eq (st k : Bool) : (wd st == (if k then ("bypower" : Str) else "uneven")) = decide (st = !k) := by cases st <;> cases k <;> decide
theorem eq_due {v : Int} {x : D} {b st k : Bool} (h : okV v x = true) (nb : ∀ c, x ≠ .bl c) (hj : just v (fx x) = some b) : eqD (.tup [.str (wd st), x]) (due k v) = .ok (.bl (decide (st = !k) && b)) := by
  have so : ∀ st : Bool, PyData.strOk (wd st) = true := by intro st; cases st <;> decide +kernel
  have so2 : PyData.strOk (if k then ("bypower" : Str) else "uneven") = true := by cases k <;> decide +kernel
  have key : ∀ e : PyData, pyD x = some e → PyData.canLay0 e = true → PyData.depth e ≤ 5 → eqD (.tup [.str (wd st), x]) (due k v) = .ok (.bl ((wd st == (if k then ("bypower" : Str) else "uneven")) && (PyData.eqv e (.int v) && true))) := fun e he hc hd => by
    have p1 : pyD (.tup [.str (wd st), x]) = some (.tuple [.str (wd st), e]) := by
      show (pyDs [.str (wd st), x]).map PyData.tuple = _
      have : pyDs [.str (wd st), x] = some [.str (wd st), e] := by
        show (match pyD (.str (wd st)), pyDs [x] with
          | some d, some ds => some (d :: ds)
          | _, _ => none) = _
        have : pyDs [x] = some [e] := by
          show (match pyD x, pyDs [] with
            | some d, some ds => some (d :: ds)
            | _, _ => none) = _
          rw [he]; rfl
        rw [this]; rfl
      rw [this]; rfl
    have s1 : SeqAt.shaped (.tuple [.str (wd st), e]) = true := by
      show ((PyData.strOk (wd st) && (PyData.canLay0 e && true)) && decide (max 0 (max (PyData.depth e) 0) + 1 ≤ 64)) = true
      rw [so, hc, decide_eq_true (by omega)]; rfl
    have p2 : pyD (due k v) = some (.tuple [.str (if k then ("bypower" : Str) else "uneven"), .int v]) := rfl
    have s2 : SeqAt.shaped (.tuple [.str (if k then ("bypower" : Str) else "uneven"), .int v]) = true := by
      show ((PyData.strOk (if k then ("bypower" : Str) else "uneven") && (true && true)) && decide (max 0 (max 0 0) + 1 ≤ 64)) = true
      rw [so2]; rfl
    show eqDp _ _ = _
    have q1 : shpD (.tup [.str (wd st), x]) = some (.tuple [.str (wd st), e]) := by simp only [shpD, p1, s1, if_true]
    have q2 : shpD (due k v) = some (.tuple [.str (if k then ("bypower" : Str) else "uneven"), .int v]) := by simp only [shpD, p2, s2, if_true]
    simp only [eqDp, q1, q2]
    rfl
  rw [← wd_eq]
  match x, h, hj with
  | .int i, _, hj => rw [key (.int i) rfl rfl (show 0 ≤ 5 by decide)]; cases hj; show R.ok (D.bl (_ && ((i == v) && true))) = _; rw [Bool.and_true]; rfl
  | .non, _, hj => rw [key .none rfl rfl (by decide)]; cases hj; rfl
  | .bl b, _, hj => exact absurd rfl (nb b)
  | .str z, h, hj => rw [key (.str z) rfl h (show 0 ≤ 5 by decide)]; cases hj; rfl
  | .lst [.int i], _, hj => rw [key (.list [.int i]) rfl rfl (show max 0 0 + 1 ≤ 5 by decide)]; cases hj; rfl
theorem isiB {v : Int} {x : D} (h : okV v x = true) (nb : ∀ c, x ≠ .bl c) : isiD subG [x, .ty "bool"] = .ok (.bl false) := by
  match x, h with
  | .int _, _ => rfl
  | .non, _ => rfl
  | .bl c, _ => exact absurd rfl (nb c)
  | .str _, _ => rfl
  | .lst [.int _], _ => rfl
theorem one_val {d : D} {k : Bool} {v : Int} (hp : F_power_of_row [d] = .ok (pap k v)) {x : D} (h : okV v x = true) {a0 a1 a2 a3 a4 a5 a6 a8 a10 a11 a12 a16 o15 : Option D} (st : Bool) :
    ∃ q15, SR.seq (.nx [a0, a1, a2, a3, a4, a5, a6, some d, a8, some (due k v), a10, a11, a12, some x, some (.bl st), o15, a16]) (seqS (asgS 15 (eAnd (eNot (eN (isiD subG) (aCons (eV 13) (aCons (eC (.ty "bool")) aNil)))) (e2 eqD (eN tupD (aCons (eIf (tTru (eV 14)) (eC (.str "uneven")) (eC (.str "bypower"))) (aCons (eV 13) aNil))) (eV 9)))) (ifS (tB1 (e2 neD (callF 2 F_shows_power_of_row (aCons (eV 7) (aCons (eIf (tTru (eV 14)) (makeF 108 2 F_Uneven__init__ (aCons (eV 13) aNil)) (makeF 24 2 F_ByPower__init__ (aCons (eV 13) aNil))) aNil))) (eV 15))) (retS (eC (.bl false))) passS)) =
      .nx [a0, a1, a2, a3, a4, a5, a6, some d, a8, some (due k v), a10, a11, a12, some x, some (.bl st), q15, a16] := by
  have line2 : 2 ≤ sizeLine := line_le (by decide)
  obtain ⟨b, hj⟩ := just_fx h
  have iu := init_unevenV h
  have ib := init_bypowerV h
  have su := shows_ins hp (c := 108) (fs := [("word", .str "uneven"), ("parts", .tup [fx x]), ("step", fx x)]) rfl hj
  have sb := shows_ins hp (c := 24) (fs := [("word", .str "bypower"), ("parts", .tup [fx x]), ("power", fx x)]) rfl hj
  have cu : decide (108 = cls k) = decide (true = !k) := by cases k <;> decide
  have cb : decide (24 = cls k) = decide (false = !k) := by cases k <;> decide
  rw [cu] at su
  rw [cb] at sb
  by_cases nb : ∀ c, x ≠ .bl c
  · have e1 := isiB h nb
    have e2 := fun st => eq_due (st := st) (k := k) h nb hj
    have eu := e2 true
    have eb := e2 false
    cases st with
    | true =>
      refine ⟨some (.bl (decide (true = !k) && b)), ?_⟩
      simp only [wd, if_true] at eu
      simp [e1, line2, eu, iu, su]
    | false =>
      refine ⟨some (.bl (decide (false = !k) && b)), ?_⟩
      simp only [wd, Bool.false_eq_true, if_false] at eb
      simp [e1, line2, eb, ib, sb]
  · obtain ⟨c, rfl⟩ : ∃ c, x = .bl c := by
      cases x <;> first | exact ⟨_, rfl⟩ | exact absurd (fun _ z => nomatch z) nb
    have : b = false := by cases hj; rfl
    subst this
    refine ⟨some (.bl false), ?_⟩
    cases st <;> simp [isi_bl_bool, iu, ib, su, sb]
theorem in_lp {rd : D} {k : Bool} {v : Int} (hp : F_power_of_row [rd] = .ok (pap k v)) {vals : List D} (hv : ∀ x ∈ vals, okV v x = true) (hl : 0 < vals.length) (hl2 : vals.length < 1000) {a0 a2 a3 a4 a5 a6 a8 a10 a16 : Option D} : ∀ (xs : List D) (n : Nat) (d : D) (o12 o13 o14 o15 : Option D), Hat n d → n + 2 * xs.length ≤ 900000 →
    ∃ d' q12 q13 q14 q15, Hat (n + 2 * xs.length) d' ∧ forS (bName 12) inBody xs [a0, some d, a2, a3, a4, a5, a6, some rd, a8, some (due k v), a10, some (.lst vals), o12, o13, o14, o15, a16] = .nx [a0, some d', a2, a3, a4, a5, a6, some rd, a8, some (due k v), a10, some (.lst vals), q12, q13, q14, q15, a16] := by
  intro xs
  induction xs with
  | nil => exact fun n d o12 o13 o14 o15 h _ => ⟨d, _, _, _, _, h, forS_nil⟩
  | cons y xs ih =>
    intro n d o12 o13 o14 o15 h hn
    rw [List.length_cons] at hn
    obtain ⟨x, d1, e1, hx, h1⟩ := one_ok h (by omega) hl hl2
    obtain ⟨k2, d2, e2, _, _, h2⟩ := lot_ok (m := 2) h1 (by omega) (by decide) (by decide)
    obtain ⟨q, eq⟩ := one_val hp (hv x hx) (a0 := a0) (a1 := some d2) (a2 := a2) (a3 := a3) (a4 := a4) (a5 := a5) (a6 := a6) (a8 := a8) (a10 := a10) (a11 := some (.lst vals)) (a12 := some y) (a16 := a16) (o15 := o15) (decide (k2 = 0))
    obtain ⟨d', q12, q13, q14, q15, hh, e⟩ := ih (n + 1 + 1) d2 (some y) (some x) (some (.bl (decide (k2 = 0)))) q h2 (by omega)
    refine ⟨d', q12, q13, q14, q15, hh.up (by simp; omega), ?_⟩
    rw [forS_cons]
    have step : inBody [a0, some d, a2, a3, a4, a5, a6, some rd, a8, some (due k v), a10, some (.lst vals), some y, o13, o14, o15, a16] = .nx [a0, some d2, a2, a3, a4, a5, a6, some rd, a8, some (due k v), a10, some (.lst vals), some y, some x, some (.bl (decide (k2 = 0))), q, a16] := by
      unfold inBody
      rw [seqS_ap]
      rw [← eq]
      congr 1
      simp [e1, e2]
    simp only [bName_ap, toS_ok, List.set_cons_succ, List.set_cons_zero, step, lp_nx]
    exact e
end Q

namespace Q
open PySem PySem.Spec PyProof.Rows L2 Dl
theorem isiT_pap (k : Bool) (v : Int) : isiTD subG [.cod 24, .cod 108] (pap k v) = .ok (.bl true) := by cases k <;> rfl
theorem isi_pap (k : Bool) (v : Int) : isiD subG [pap k v, .cod 24] = .ok (.bl k) := by cases k <;> rfl
theorem word_pap (k : Bool) (v : Int) : attrD [] "word" (pap k v) = .ok (.str (if k then "bypower" else "uneven")) := by cases k <;> rfl
theorem bo_pap (k : Bool) (v : Int) : boI boT (pap k v) = .ok (.bl k) := by cases k <;> rfl
theorem due0 (k : Bool) (v : Int) : ixD (due k v) (.int 0) = .ok (.str (if k then "bypower" else "uneven")) := by cases k <;> rfl
theorem due1 (k : Bool) (v : Int) : ixD (due k v) (.int 1) = .ok (.int v) := by cases k <;> rfl
theorem due_ty (k : Bool) (v : Int) : typeD [due k v] = .ok (.ty "tuple") := rfl
theorem init_betw (v : Int) : F_Between__init__ [.ins 21 [], .int v] = .ok (.non, betw v) := by rfl
theorem init_paper (v : Int) : starD 2 F_Paper__init__ [.ins 85 [], .str "bypower", .int v] = .ok (.non, .ins 85 [("word", .str "bypower"), ("parts", .tup [.int v])]) := by rfl
theorem init_denial (v : Int) : starD 2 F_Denial__init__ [.ins 32 [], .str "uneven", .int v] = .ok (.non, .ins 32 [("word", .str "uneven"), ("parts", .tup [.int v])]) := by rfl
theorem num_str : ∀ k : Fin 161, PyData.strOk (Str.ofString (toString ((k.val : Int) - 80))) = true := by decide +kernel
theorem lap_ok {n : Nat} {d : D} (h : Hat n d) (hn : n ≤ 500000) {a0 a2 o3 o4 o5 o6 o7 o8 o9 o10 o11 o12 o13 o14 o15 o16 : Option D} :
    ∃ d' q3 q4 q5 q6 q7 q8 q9 q10 q11 q12 q13 q14 q15 q16, Hat (n + 100) d' ∧ lapBody [a0, some d, a2, o3, o4, o5, o6, o7, o8, o9, o10, o11, o12, o13, o14, o15, o16] = .nx [a0, some d', a2, q3, q4, q5, q6, q7, q8, q9, q10, q11, q12, q13, q14, q15, q16] := by
  obtain ⟨f, s, p, d1, e1, hf, hs, hp, h1⟩ := begun_ok h (by omega)
  obtain ⟨k2, d2, e2, a2', b2, h2⟩ := lot_ok (m := 11) h1 (by omega) (by decide) (by decide)
  obtain ⟨m, hm⟩ : ∃ m : Nat, 2 + k2 = (m : Int) := ⟨(2 + k2).toNat, by omega⟩
  obtain ⟨tl, ⟨ht, hb⟩, eN, eG⟩ := numbers_ok hf hs (many := m) (by omega) hp
  obtain ⟨tl2, ⟨ht2, _⟩, eN2, _⟩ := numbers_ok hf hs (many := 2) (by omega) hp
  have t0 : tl2 = [] := List.eq_nil_of_length_eq_zero (by omega)
  subst t0
  obtain ⟨z, ez⟩ := repr_ints (L := f :: s :: tl) (by simp; omega) fun v hv => by
    rcases List.mem_cons.mp hv with e | hv
    · rw [e]; omega
    · rcases List.mem_cons.mp hv with e | hv
      · rw [e]; omega
      · exact hb v hv
  obtain ⟨L, d3, e3, row, h3⟩ := row_made h2 (by omega)
  obtain ⟨k, v, hv, eD, eP⟩ := row_ok row
  have p1 := eP _ (.inl rfl)
  have p2 := eP _ (.inr rfl)
  obtain ⟨z2, ez2⟩ := repr_due (k := k) (v := v) (by omega)
  have nT : neD (.tup [.int f, .int s]) (.tup [.int f, .int s]) = .ok (.bl false) := by
    have := neD_intsT (ns := [f, s]) (ms := [f, s])
    simpa using this
  have nL : neD (.lst (L.map .int)) (.lst (L.map .int)) = .ok (.bl false) := by
    rw [neD_ints]; simp
  have s1 := shows_pap p1
  have s2 := shows_pap p2
  have ln : (D.lst (L.map D.int)) = D.lst (L.map D.int) := rfl
  have line2 : 2 ≤ sizeLine := line_le (by decide)
  have line13 : 13 ≤ sizeLine := line_le (by decide)
  have line8 : 8 ≤ sizeLine := line_le (by decide)
  have line1 : 1 ≤ sizeLine := line_le (by decide)
  have vs : strI [.int v] = .ok (.str (toString v)) := by
    have : v.natAbs.log2 < 1920 := Nat.lt_of_lt_of_le (log2_lt_of (show v.natAbs < 2 ^ 7 by omega) (by decide)) (by decide)
    exact if_pos this
  have sok : PyData.strOk (Str.ofString (toString v)) = true := by
    have := num_str ⟨(v + 80).toNat, by omega⟩
    rw [show (((⟨(v + 80).toNat, by omega⟩ : Fin 161).val : Nat) : Int) - 80 = v by show (((v + 80).toNat : Nat) : Int) - 80 = v; omega] at this
    exact this
  obtain ⟨sv, hsv⟩ : ∃ sv : Str, sv = Str.ofString (toString v) := ⟨_, rfl⟩
  rw [← hsv] at vs sok
  obtain ⟨vals, hvals⟩ : ∃ vals : List D, vals = [.int v, .int (v + 1), .int (v - 1), .int 0, .int 1, .int ((L.length : Int) - 3), .int ((L.length : Int) - 2), .non, .bl true, .str sv, .int 1000000000000000000000000000000, .int (-81), .lst [.int 0]] := ⟨_, rfl⟩
  have okv : ∀ x ∈ vals, okV v x = true := fun x hx => by
    rw [hvals] at hx
    simp only [List.mem_cons, List.not_mem_nil, or_false] at hx
    rcases hx with e | e | e | e | e | e | e | e | e | e | e | e | e <;> subst e <;> first | rfl | exact sok
  have lv : vals.length = 13 := by rw [hvals]; rfl
  obtain ⟨d4, q12, q13, q14, q15, h4, eI⟩ := in_lp p1 okv (by omega) (by omega) (a0 := a0) (a2 := a2) (a3 := some (.int f)) (a4 := some (.int s)) (a5 := some (.int p)) (a6 := some (.int m)) (a8 := some (.lst (L.map .int))) (a10 := some (pap k v)) (a16 := o16) (rng 0 4) (n + 9 + 1 + 30) d3 o12 o13 o14 o15 h3 (by rw [rng_len]; omega)
  rw [rng_len] at h4
  have r4 : rng1D [.int 4] = .ok (rng 0 4) := rfl
  obtain ⟨x, d5, e5, hx, h5⟩ := one_ok (xs := [.non, .int v, due k v, .str "bypower", betw v, .ins 85 [("word", .str "bypower"), ("parts", .tup [.int v])], .ins 32 [("word", .str "uneven"), ("parts", .tup [.int v])], .tup [.int v]]) h4 (by omega) (by simp) (by simp)
  have sx : F_shows_power_of_row [.lst (L.map .int), x] = .ok (.bl false) := by
    simp only [List.mem_cons, List.not_mem_nil, or_false] at hx
    have jv : just v (.int v) = some true := by simp [just]
    rcases hx with e | e | e | e | e | e | e | e <;> subst e
    · exact shows_not p1 (n := "NoneType") rfl
    · exact shows_not p1 (n := "int") rfl
    · exact shows_not p1 (due_ty k v)
    · exact shows_not p1 (n := "str") rfl
    · rw [betw, shows_ins p1 rfl jv]; cases k <;> rfl
    · rw [shows_ins p1 rfl jv]; cases k <;> rfl
    · rw [shows_ins p1 rfl jv]; cases k <;> rfl
    · exact shows_not p1 (n := "tuple") rfl
  refine ⟨d5, some (.int f), some (.int s), some (.int p), some (.int m), some (.lst (L.map .int)), some (.lst (L.map .int)), some (due k v), some (pap k v), some (.lst vals), q12, q13, q14, q15, some (.lst [.non, .int v, due k v, .str "bypower", betw v, .ins 85 [("word", .str "bypower"), ("parts", .tup [.int v])], .ins 32 [("word", .str "uneven"), ("parts", .tup [.int v])], .tup [.int v]]), h5.up (by omega), ?_⟩
  simp at ez eN2
  have p30 : powI 10 30 = .ok 1000000000000000000000000000000 := rfl
  unfold lapBody
  simp [e1, e2, hm, eN, eG, eN2, ez, nT, e3, eD, p1, isiT_pap, word_pap, due0, due1, told_ok, ez2, bo_pap, isi_pap, s1, nL, kd_power_of_row_1, kg_power_of_row_1, kd_shows_power_of_row_0, kg_shows_power_of_row_0, p2, eq_pap, s2, vs, line13, line1, line2, p30, -powI_ap, r4, -rng1D_ap, -attrD_ap, -starD_ap]
  rw [← hvals, eI]
  simp [line8, due1, init_betw, init_paper, init_denial, pap_parts, e5, sx, -attrD_ap, -starD_ap]
theorem laps : ∀ (xs : List D) (n : Nat) (d : D) (a0 o2 o3 o4 o5 o6 o7 o8 o9 o10 o11 o12 o13 o14 o15 o16 : Option D), Hat n d → n + 100 * xs.length ≤ 500000 →
    ∃ E, forS (bName 2) lapBody xs [a0, some d, o2, o3, o4, o5, o6, o7, o8, o9, o10, o11, o12, o13, o14, o15, o16] = .nx E := by
  intro xs
  induction xs with
  | nil => exact fun n d a0 o2 o3 o4 o5 o6 o7 o8 o9 o10 o11 o12 o13 o14 o15 o16 h hn => ⟨_, forS_nil⟩
  | cons x xs ih =>
    intro n d a0 o2 o3 o4 o5 o6 o7 o8 o9 o10 o11 o12 o13 o14 o15 o16 h hn
    rw [List.length_cons] at hn
    obtain ⟨d', q3, q4, q5, q6, q7, q8, q9, q10, q11, q12, q13, q14, q15, q16, h', e⟩ := lap_ok h (by omega) (a0 := a0) (a2 := some x) (o3 := o3) (o4 := o4) (o5 := o5) (o6 := o6) (o7 := o7) (o8 := o8) (o9 := o9) (o10 := o10) (o11 := o11) (o12 := o12) (o13 := o13) (o14 := o14) (o15 := o15) (o16 := o16)
    obtain ⟨E, e2⟩ := ih (n + 100) d' a0 (some x) q3 q4 q5 q6 q7 q8 q9 q10 q11 q12 q13 q14 q15 q16 h' (by omega)
    refine ⟨E, ?_⟩
    rw [forS_cons]
    simp only [bName_ap, toS_ok, List.set_cons_succ, List.set_cons_zero, e, lp_nx]
    exact e2
theorem hat_lp : ∀ (ns : List Int) (acc : List D) (a0 : Option D), acc.length + ns.length ≤ 100 → lcF [1] (bName 1) tYes1 (eN intC (aCons (eV 1) aNil)) (ns.map .int) acc [a0, none] = .ok (acc ++ ns.map D.int, [a0, none]) := by
  intro ns
  induction ns with
  | nil => intro acc a0 _; rw [List.map_nil, lcF_nil]; simp
  | cons v ns ih =>
    intro acc a0 h
    rw [List.length_cons] at h
    have line : acc.length < sizeLine := line_lt (by omega)
    have e := ih (acc ++ [.int v]) a0 (by simp; omega)
    rw [List.map_cons, lcF_cons]
    simp [line, wipeE, e]
theorem hat_ok (ns : List Int) : ∃ d, F__law_hat [.fro (ns.map .int)] = .ok d ∧ Hat 0 d := by
  have line3 : 3 ≤ sizeLine := line_le (by decide)
  have ec : cutL (ns.map D.int) none (some 60) = (ns.take 60).map D.int := by
    rw [cutL_map]
    congr 1
    unfold cutL
    rw [show (some (60 : Int)) = some ((60 : Nat) : Int) from rfl, HT.sIx_nat, HT.sIx_none, List.drop_zero, Nat.sub_zero]
    by_cases h : 60 ≤ ns.length
    · rw [Nat.min_eq_left h]
    · rw [Nat.min_eq_right (by omega), List.take_of_length_le (Nat.le_refl _), List.take_of_length_le (by omega)]
  have l60 : (ns.take 60).length ≤ 60 := by rw [List.length_take]; omega
  have e := hat_lp (ns.take 60) [] (some (.fro (ns.map .int))) (by simp; omega)
  refine ⟨.lst [.lst ((ns.take 60).map .int), .int 0, .int 0], ?_, ns.take 60, 0, 0, rfl, Int.le_refl _, by omega, Int.le_refl _, l60⟩
  rw [List.nil_append] at e
  simp only [F__law_hat, m__law_hat, runN_ap, startE_ap, List.map_cons, List.map_nil, List.length_cons, List.length_nil, List.replicate, List.cons_append, List.nil_append, retS_ap, eN_ap, aCons_ap, lcE_ap, iVal_ap, eSl_ap, eV_ap, List.getElem?_cons_zero, oV_ap, bind_ok', pNone_ap, pSome_ap, eC_ap, intO_ap, slP_fro, ec, valD_lst, wipeE, List.set_cons_succ, List.set_cons_zero, e, nox_ok, backE, aNil_ap]
  simp [line3]
theorem law_true (ns : List Int) (h : ns.length ≤ 63) : F_law [.fro (ns.map .int)] = .ok (.bl true) := by
  obtain ⟨d, e, hd⟩ := hat_ok ns
  obtain ⟨E, e2⟩ := laps (rng 0 3) 0 d (some (.fro (ns.map .int))) none none none none none none none none none none none none none none none hd (by rw [rng_len]; omega)
  have r3 : rng1D [.int 3] = .ok (rng 0 3) := rfl
  unfold F_law
  rw [m_law_eq]
  simp [e, r3, -rng1D_ap]
  rw [e2]
  simp
end Q

namespace Q
open PySem PySem.Spec PyProof.Rows L2 Dl
def mk_txt {K : PySem.W.Frag} {h : Heap} {mg : Str → Option Value} (X : K.In h) (G : h.Ns mainGlobals mg)
    {a_Paper__bool__ : Addr} {od_Paper__bool__ an_Paper__bool__ : Option Addr} {sl_Paper__bool__ : Array (Option Value)} {oc_Paper__bool__ kV_Paper__bool__ dc_Paper__bool__ pm_Paper__bool__ cd_Paper__bool__ ct_Paper__bool__ : Value}
    {a_Paper__eq__ : Addr} {od_Paper__eq__ an_Paper__eq__ : Option Addr} {sl_Paper__eq__ : Array (Option Value)} {oc_Paper__eq__ kV_Paper__eq__ dc_Paper__eq__ pm_Paper__eq__ cd_Paper__eq__ ct_Paper__eq__ : Value}
    {a_Denial__bool__ : Addr} {od_Denial__bool__ an_Denial__bool__ : Option Addr} {sl_Denial__bool__ : Array (Option Value)} {oc_Denial__bool__ kV_Denial__bool__ dc_Denial__bool__ pm_Denial__bool__ cd_Denial__bool__ ct_Denial__bool__ : Value}
    {a_Denial__eq__ : Addr} {od_Denial__eq__ an_Denial__eq__ : Option Addr} {sl_Denial__eq__ : Array (Option Value)} {oc_Denial__eq__ kV_Denial__eq__ dc_Denial__eq__ pm_Denial__eq__ cd_Denial__eq__ ct_Denial__eq__ : Value}
    {a_Denial__init__ : Addr} {od_Denial__init__ an_Denial__init__ : Option Addr} {sl_Denial__init__ : Array (Option Value)} {oc_Denial__init__ kV_Denial__init__ dc_Denial__init__ pm_Denial__init__ cd_Denial__init__ ct_Denial__init__ : Value}
    {a_Between__init__ : Addr} {od_Between__init__ an_Between__init__ : Option Addr} {sl_Between__init__ : Array (Option Value)} {oc_Between__init__ kV_Between__init__ dc_Between__init__ pm_Between__init__ cd_Between__init__ ct_Between__init__ : Value}
    {a_Paper__init__ : Addr} {od_Paper__init__ an_Paper__init__ : Option Addr} {sl_Paper__init__ : Array (Option Value)} {oc_Paper__init__ kV_Paper__init__ dc_Paper__init__ pm_Paper__init__ cd_Paper__init__ ct_Paper__init__ : Value}
    {a_ByPower__init__ : Addr} {od_ByPower__init__ an_ByPower__init__ : Option Addr} {sl_ByPower__init__ : Array (Option Value)} {oc_ByPower__init__ kV_ByPower__init__ dc_ByPower__init__ pm_ByPower__init__ cd_ByPower__init__ ct_ByPower__init__ : Value}
    {a_Uneven__init__ : Addr} {od_Uneven__init__ an_Uneven__init__ : Option Addr} {sl_Uneven__init__ : Array (Option Value)} {oc_Uneven__init__ kV_Uneven__init__ dc_Uneven__init__ pm_Uneven__init__ cd_Uneven__init__ ct_Uneven__init__ : Value}
    {a_Denial : Addr} (h1_Denial : PySem.W.nsIn K mainGlobals "Denial" = some (some (.ref a_Denial)))
    {a_Paper : Addr} (h1_Paper : PySem.W.nsIn K mainGlobals "Paper" = some (some (.ref a_Paper)))
    {a_Between : Addr} (h1_Between : PySem.W.nsIn K mainGlobals "Between" = some (some (.ref a_Between)))
    {a_ByPower : Addr} (h1_ByPower : PySem.W.nsIn K mainGlobals "ByPower" = some (some (.ref a_ByPower)))
    {a_Uneven : Addr} (h1_Uneven : PySem.W.nsIn K mainGlobals "Uneven" = some (some (.ref a_Uneven)))
    (h0_Paper__bool__ : PySem.W.isFn K (.ref a_Paper__bool__) = true)
    (h2_Paper__bool__ : K.lookup a_Paper__bool__ = some ⟨oc_Paper__bool__, od_Paper__bool__, .func (PySem.W.fnOf "__bool__" "Paper.__bool__" (defArgs s_Paper__bool__) (defBody s_Paper__bool__) (defScope s_Paper__bool__) .none kV_Paper__bool__ dc_Paper__bool__ pm_Paper__bool__ an_Paper__bool__ cd_Paper__bool__ ct_Paper__bool__), sl_Paper__bool__⟩)
    (h3_Paper__bool__ : PySem.W.codeIn K cd_Paper__bool__ "Paper.__bool__" = true)
    (h4_Paper__bool__ : PySem.W.keepIn K (.ref a_Paper__bool__) = true)
    (h0_Paper__eq__ : PySem.W.isFn K (.ref a_Paper__eq__) = true)
    (h2_Paper__eq__ : K.lookup a_Paper__eq__ = some ⟨oc_Paper__eq__, od_Paper__eq__, .func (PySem.W.fnOf "__eq__" "Paper.__eq__" (defArgs s_Paper__eq__) (defBody s_Paper__eq__) (defScope s_Paper__eq__) .none kV_Paper__eq__ dc_Paper__eq__ pm_Paper__eq__ an_Paper__eq__ cd_Paper__eq__ ct_Paper__eq__), sl_Paper__eq__⟩)
    (h3_Paper__eq__ : PySem.W.codeIn K cd_Paper__eq__ "Paper.__eq__" = true)
    (h4_Paper__eq__ : PySem.W.keepIn K (.ref a_Paper__eq__) = true)
    (h0_Denial__bool__ : PySem.W.isFn K (.ref a_Denial__bool__) = true)
    (h2_Denial__bool__ : K.lookup a_Denial__bool__ = some ⟨oc_Denial__bool__, od_Denial__bool__, .func (PySem.W.fnOf "__bool__" "Denial.__bool__" (defArgs s_Denial__bool__) (defBody s_Denial__bool__) (defScope s_Denial__bool__) .none kV_Denial__bool__ dc_Denial__bool__ pm_Denial__bool__ an_Denial__bool__ cd_Denial__bool__ ct_Denial__bool__), sl_Denial__bool__⟩)
    (h3_Denial__bool__ : PySem.W.codeIn K cd_Denial__bool__ "Denial.__bool__" = true)
    (h4_Denial__bool__ : PySem.W.keepIn K (.ref a_Denial__bool__) = true)
    (h0_Denial__eq__ : PySem.W.isFn K (.ref a_Denial__eq__) = true)
    (h2_Denial__eq__ : K.lookup a_Denial__eq__ = some ⟨oc_Denial__eq__, od_Denial__eq__, .func (PySem.W.fnOf "__eq__" "Denial.__eq__" (defArgs s_Denial__eq__) (defBody s_Denial__eq__) (defScope s_Denial__eq__) .none kV_Denial__eq__ dc_Denial__eq__ pm_Denial__eq__ an_Denial__eq__ cd_Denial__eq__ ct_Denial__eq__), sl_Denial__eq__⟩)
    (h3_Denial__eq__ : PySem.W.codeIn K cd_Denial__eq__ "Denial.__eq__" = true)
    (h4_Denial__eq__ : PySem.W.keepIn K (.ref a_Denial__eq__) = true)
    (h0_Denial__init__ : PySem.W.isFn K (.ref a_Denial__init__) = true)
    (h2_Denial__init__ : K.lookup a_Denial__init__ = some ⟨oc_Denial__init__, od_Denial__init__, .func (PySem.W.fnOf "__init__" "Denial.__init__" (defArgs s_Denial__init__) (defBody s_Denial__init__) (defScope s_Denial__init__) .none kV_Denial__init__ dc_Denial__init__ pm_Denial__init__ an_Denial__init__ cd_Denial__init__ ct_Denial__init__), sl_Denial__init__⟩)
    (h3_Denial__init__ : PySem.W.codeIn K cd_Denial__init__ "Denial.__init__" = true)
    (h4_Denial__init__ : PySem.W.keepIn K (.ref a_Denial__init__) = true)
    (h0_Between__init__ : PySem.W.isFn K (.ref a_Between__init__) = true)
    (h2_Between__init__ : K.lookup a_Between__init__ = some ⟨oc_Between__init__, od_Between__init__, .func (PySem.W.fnOf "__init__" "Between.__init__" (defArgs s_Between__init__) (defBody s_Between__init__) (defScope s_Between__init__) .none kV_Between__init__ dc_Between__init__ pm_Between__init__ an_Between__init__ cd_Between__init__ ct_Between__init__), sl_Between__init__⟩)
    (h3_Between__init__ : PySem.W.codeIn K cd_Between__init__ "Between.__init__" = true)
    (h4_Between__init__ : PySem.W.keepIn K (.ref a_Between__init__) = true)
    (h0_Paper__init__ : PySem.W.isFn K (.ref a_Paper__init__) = true)
    (h2_Paper__init__ : K.lookup a_Paper__init__ = some ⟨oc_Paper__init__, od_Paper__init__, .func (PySem.W.fnOf "__init__" "Paper.__init__" (defArgs s_Paper__init__) (defBody s_Paper__init__) (defScope s_Paper__init__) .none kV_Paper__init__ dc_Paper__init__ pm_Paper__init__ an_Paper__init__ cd_Paper__init__ ct_Paper__init__), sl_Paper__init__⟩)
    (h3_Paper__init__ : PySem.W.codeIn K cd_Paper__init__ "Paper.__init__" = true)
    (h4_Paper__init__ : PySem.W.keepIn K (.ref a_Paper__init__) = true)
    (h0_ByPower__init__ : PySem.W.isFn K (.ref a_ByPower__init__) = true)
    (h2_ByPower__init__ : K.lookup a_ByPower__init__ = some ⟨oc_ByPower__init__, od_ByPower__init__, .func (PySem.W.fnOf "__init__" "ByPower.__init__" (defArgs s_ByPower__init__) (defBody s_ByPower__init__) (defScope s_ByPower__init__) .none kV_ByPower__init__ dc_ByPower__init__ pm_ByPower__init__ an_ByPower__init__ cd_ByPower__init__ ct_ByPower__init__), sl_ByPower__init__⟩)
    (h3_ByPower__init__ : PySem.W.codeIn K cd_ByPower__init__ "ByPower.__init__" = true)
    (h4_ByPower__init__ : PySem.W.keepIn K (.ref a_ByPower__init__) = true)
    (h0_Uneven__init__ : PySem.W.isFn K (.ref a_Uneven__init__) = true)
    (h2_Uneven__init__ : K.lookup a_Uneven__init__ = some ⟨oc_Uneven__init__, od_Uneven__init__, .func (PySem.W.fnOf "__init__" "Uneven.__init__" (defArgs s_Uneven__init__) (defBody s_Uneven__init__) (defScope s_Uneven__init__) .none kV_Uneven__init__ dc_Uneven__init__ pm_Uneven__init__ an_Uneven__init__ cd_Uneven__init__ ct_Uneven__init__), sl_Uneven__init__⟩)
    (h3_Uneven__init__ : PySem.W.codeIn K cd_Uneven__init__ "Uneven.__init__" = true)
    (h4_Uneven__init__ : PySem.W.keepIn K (.ref a_Uneven__init__) = true)
    (pg_Denial : PySem.W.plainGet K a_Denial Str.empty = true)
    (hd_Denial : PySem.W.hasDictIn K a_Denial = true)
    (po_Denial : PySem.W.plainOver K a_Denial = true)
    (sa_Denial : PySem.W.findIn K (.ref a_Denial) "__setattr__" = some (some (.builtin "object.__setattr__")))
    (mk_Denial : PySem.W.makesIn K a_Denial = true)
    (kc_Denial : PySem.W.keepIn K (.ref a_Denial) = true)
    (ha_Denial : PySem.W.findIn K (.ref a_Denial) "__class__" = some (some (.builtin "object.__class__")))
    (hm_Denial : PySem.W.mroIn K a_Denial (.type "object") = some true)
    (na_Denial_low : PySem.W.findIn K (.ref a_Denial) "low" = some none)
    (na_Denial_parts : PySem.W.findIn K (.ref a_Denial) "parts" = some none)
    (na_Denial_power : PySem.W.findIn K (.ref a_Denial) "power" = some none)
    (na_Denial_step : PySem.W.findIn K (.ref a_Denial) "step" = some none)
    (na_Denial_word : PySem.W.findIn K (.ref a_Denial) "word" = some none)
    (mi_Denial : PySem.W.findIn K (.ref a_Denial) "__init__" = some (some (.ref a_Denial__init__)))
    (qe_Denial : PySem.W.findIn K (.ref a_Denial) "__eq__" = some (some (.ref a_Denial__eq__)))
    (qn_Denial : PySem.W.findIn K (.ref a_Denial) "__ne__" = some (some (.builtin "object.__ne__")))
    (qb_Denial : PySem.W.findIn K (.ref a_Denial) "__bool__" = some (some (.ref a_Denial__bool__)))
    (r1_Denial : PySem.W.readsIn K a_Denial (.type "type") = true)
    (r2_Denial : PySem.W.specialIn K (.ref a_Denial) "__getattribute__" = some (some (.builtin "type.__getattribute__")))
    (r3_Denial__init__ : PySem.W.findCls K (.ref a_Denial) (.type "type") "__init__" = some (.val (.ref a_Denial__init__)))
    (is_Denial_Denial : PySem.W.kitOne K (.ref a_Denial) (.ref a_Denial) = some true)
    (is_Denial_Paper : PySem.W.kitOne K (.ref a_Denial) (.ref a_Paper) = some true)
    (is_Denial_Between : PySem.W.kitOne K (.ref a_Denial) (.ref a_Between) = some false)
    (is_Denial_ByPower : PySem.W.kitOne K (.ref a_Denial) (.ref a_ByPower) = some false)
    (is_Denial_Uneven : PySem.W.kitOne K (.ref a_Denial) (.ref a_Uneven) = some false)
    (pg_Paper : PySem.W.plainGet K a_Paper Str.empty = true)
    (hd_Paper : PySem.W.hasDictIn K a_Paper = true)
    (po_Paper : PySem.W.plainOver K a_Paper = true)
    (sa_Paper : PySem.W.findIn K (.ref a_Paper) "__setattr__" = some (some (.builtin "object.__setattr__")))
    (mk_Paper : PySem.W.makesIn K a_Paper = true)
    (kc_Paper : PySem.W.keepIn K (.ref a_Paper) = true)
    (ha_Paper : PySem.W.findIn K (.ref a_Paper) "__class__" = some (some (.builtin "object.__class__")))
    (hm_Paper : PySem.W.mroIn K a_Paper (.type "object") = some true)
    (na_Paper_low : PySem.W.findIn K (.ref a_Paper) "low" = some none)
    (na_Paper_parts : PySem.W.findIn K (.ref a_Paper) "parts" = some none)
    (na_Paper_power : PySem.W.findIn K (.ref a_Paper) "power" = some none)
    (na_Paper_step : PySem.W.findIn K (.ref a_Paper) "step" = some none)
    (na_Paper_word : PySem.W.findIn K (.ref a_Paper) "word" = some none)
    (mi_Paper : PySem.W.findIn K (.ref a_Paper) "__init__" = some (some (.ref a_Paper__init__)))
    (qe_Paper : PySem.W.findIn K (.ref a_Paper) "__eq__" = some (some (.ref a_Paper__eq__)))
    (qn_Paper : PySem.W.findIn K (.ref a_Paper) "__ne__" = some (some (.builtin "object.__ne__")))
    (qb_Paper : PySem.W.findIn K (.ref a_Paper) "__bool__" = some (some (.ref a_Paper__bool__)))
    (r1_Paper : PySem.W.readsIn K a_Paper (.type "type") = true)
    (r2_Paper : PySem.W.specialIn K (.ref a_Paper) "__getattribute__" = some (some (.builtin "type.__getattribute__")))
    (r3_Paper__init__ : PySem.W.findCls K (.ref a_Paper) (.type "type") "__init__" = some (.val (.ref a_Paper__init__)))
    (is_Paper_Denial : PySem.W.kitOne K (.ref a_Paper) (.ref a_Denial) = some false)
    (is_Paper_Paper : PySem.W.kitOne K (.ref a_Paper) (.ref a_Paper) = some true)
    (is_Paper_Between : PySem.W.kitOne K (.ref a_Paper) (.ref a_Between) = some false)
    (is_Paper_ByPower : PySem.W.kitOne K (.ref a_Paper) (.ref a_ByPower) = some false)
    (is_Paper_Uneven : PySem.W.kitOne K (.ref a_Paper) (.ref a_Uneven) = some false)
    (pg_Between : PySem.W.plainGet K a_Between Str.empty = true)
    (hd_Between : PySem.W.hasDictIn K a_Between = true)
    (po_Between : PySem.W.plainOver K a_Between = true)
    (sa_Between : PySem.W.findIn K (.ref a_Between) "__setattr__" = some (some (.builtin "object.__setattr__")))
    (mk_Between : PySem.W.makesIn K a_Between = true)
    (kc_Between : PySem.W.keepIn K (.ref a_Between) = true)
    (ha_Between : PySem.W.findIn K (.ref a_Between) "__class__" = some (some (.builtin "object.__class__")))
    (hm_Between : PySem.W.mroIn K a_Between (.type "object") = some true)
    (na_Between_low : PySem.W.findIn K (.ref a_Between) "low" = some none)
    (na_Between_parts : PySem.W.findIn K (.ref a_Between) "parts" = some none)
    (na_Between_power : PySem.W.findIn K (.ref a_Between) "power" = some none)
    (na_Between_step : PySem.W.findIn K (.ref a_Between) "step" = some none)
    (na_Between_word : PySem.W.findIn K (.ref a_Between) "word" = some none)
    (mi_Between : PySem.W.findIn K (.ref a_Between) "__init__" = some (some (.ref a_Between__init__)))
    (qe_Between : PySem.W.findIn K (.ref a_Between) "__eq__" = some (some (.ref a_Denial__eq__)))
    (qn_Between : PySem.W.findIn K (.ref a_Between) "__ne__" = some (some (.builtin "object.__ne__")))
    (qb_Between : PySem.W.findIn K (.ref a_Between) "__bool__" = some (some (.ref a_Denial__bool__)))
    (is_Between_Denial : PySem.W.kitOne K (.ref a_Between) (.ref a_Denial) = some true)
    (is_Between_Paper : PySem.W.kitOne K (.ref a_Between) (.ref a_Paper) = some true)
    (is_Between_Between : PySem.W.kitOne K (.ref a_Between) (.ref a_Between) = some true)
    (is_Between_ByPower : PySem.W.kitOne K (.ref a_Between) (.ref a_ByPower) = some false)
    (is_Between_Uneven : PySem.W.kitOne K (.ref a_Between) (.ref a_Uneven) = some false)
    (pg_ByPower : PySem.W.plainGet K a_ByPower Str.empty = true)
    (hd_ByPower : PySem.W.hasDictIn K a_ByPower = true)
    (po_ByPower : PySem.W.plainOver K a_ByPower = true)
    (sa_ByPower : PySem.W.findIn K (.ref a_ByPower) "__setattr__" = some (some (.builtin "object.__setattr__")))
    (mk_ByPower : PySem.W.makesIn K a_ByPower = true)
    (kc_ByPower : PySem.W.keepIn K (.ref a_ByPower) = true)
    (ha_ByPower : PySem.W.findIn K (.ref a_ByPower) "__class__" = some (some (.builtin "object.__class__")))
    (hm_ByPower : PySem.W.mroIn K a_ByPower (.type "object") = some true)
    (na_ByPower_low : PySem.W.findIn K (.ref a_ByPower) "low" = some none)
    (na_ByPower_parts : PySem.W.findIn K (.ref a_ByPower) "parts" = some none)
    (na_ByPower_power : PySem.W.findIn K (.ref a_ByPower) "power" = some none)
    (na_ByPower_step : PySem.W.findIn K (.ref a_ByPower) "step" = some none)
    (na_ByPower_word : PySem.W.findIn K (.ref a_ByPower) "word" = some none)
    (mi_ByPower : PySem.W.findIn K (.ref a_ByPower) "__init__" = some (some (.ref a_ByPower__init__)))
    (qe_ByPower : PySem.W.findIn K (.ref a_ByPower) "__eq__" = some (some (.ref a_Paper__eq__)))
    (qn_ByPower : PySem.W.findIn K (.ref a_ByPower) "__ne__" = some (some (.builtin "object.__ne__")))
    (qb_ByPower : PySem.W.findIn K (.ref a_ByPower) "__bool__" = some (some (.ref a_Paper__bool__)))
    (is_ByPower_Denial : PySem.W.kitOne K (.ref a_ByPower) (.ref a_Denial) = some false)
    (is_ByPower_Paper : PySem.W.kitOne K (.ref a_ByPower) (.ref a_Paper) = some true)
    (is_ByPower_Between : PySem.W.kitOne K (.ref a_ByPower) (.ref a_Between) = some false)
    (is_ByPower_ByPower : PySem.W.kitOne K (.ref a_ByPower) (.ref a_ByPower) = some true)
    (is_ByPower_Uneven : PySem.W.kitOne K (.ref a_ByPower) (.ref a_Uneven) = some false)
    (pg_Uneven : PySem.W.plainGet K a_Uneven Str.empty = true)
    (hd_Uneven : PySem.W.hasDictIn K a_Uneven = true)
    (po_Uneven : PySem.W.plainOver K a_Uneven = true)
    (sa_Uneven : PySem.W.findIn K (.ref a_Uneven) "__setattr__" = some (some (.builtin "object.__setattr__")))
    (mk_Uneven : PySem.W.makesIn K a_Uneven = true)
    (kc_Uneven : PySem.W.keepIn K (.ref a_Uneven) = true)
    (ha_Uneven : PySem.W.findIn K (.ref a_Uneven) "__class__" = some (some (.builtin "object.__class__")))
    (hm_Uneven : PySem.W.mroIn K a_Uneven (.type "object") = some true)
    (na_Uneven_low : PySem.W.findIn K (.ref a_Uneven) "low" = some none)
    (na_Uneven_parts : PySem.W.findIn K (.ref a_Uneven) "parts" = some none)
    (na_Uneven_power : PySem.W.findIn K (.ref a_Uneven) "power" = some none)
    (na_Uneven_step : PySem.W.findIn K (.ref a_Uneven) "step" = some none)
    (na_Uneven_word : PySem.W.findIn K (.ref a_Uneven) "word" = some none)
    (mi_Uneven : PySem.W.findIn K (.ref a_Uneven) "__init__" = some (some (.ref a_Uneven__init__)))
    (qe_Uneven : PySem.W.findIn K (.ref a_Uneven) "__eq__" = some (some (.ref a_Denial__eq__)))
    (qn_Uneven : PySem.W.findIn K (.ref a_Uneven) "__ne__" = some (some (.builtin "object.__ne__")))
    (qb_Uneven : PySem.W.findIn K (.ref a_Uneven) "__bool__" = some (some (.ref a_Denial__bool__)))
    (is_Uneven_Denial : PySem.W.kitOne K (.ref a_Uneven) (.ref a_Denial) = some true)
    (is_Uneven_Paper : PySem.W.kitOne K (.ref a_Uneven) (.ref a_Paper) = some true)
    (is_Uneven_Between : PySem.W.kitOne K (.ref a_Uneven) (.ref a_Between) = some false)
    (is_Uneven_ByPower : PySem.W.kitOne K (.ref a_Uneven) (.ref a_ByPower) = some false)
    (is_Uneven_Uneven : PySem.W.kitOne K (.ref a_Uneven) (.ref a_Uneven) = some true)
    (hn_ : PySem.W.specialIn K (.builtin "object.__class__") "__get__" = some (some (.builtin "getset_descriptor.__get__")))
    (ht_ : PySem.W.takesIn K (.builtin "object.__class__") = some true)
    {a__law_hat : Addr} {od__law_hat an__law_hat : Option Addr} {sl__law_hat : Array (Option Value)} {oc__law_hat kV__law_hat dc__law_hat pm__law_hat cd__law_hat ct__law_hat : Value}
    (h1__law_hat : PySem.W.nsIn K mainGlobals "_law_hat" = some (some (.ref a__law_hat)))
    (h2__law_hat : K.lookup a__law_hat = some ⟨oc__law_hat, od__law_hat, .func (PySem.W.fnOf "_law_hat" "_law_hat" (defArgs s__law_hat) (defBody s__law_hat) (defScope s__law_hat) .none kV__law_hat dc__law_hat pm__law_hat an__law_hat cd__law_hat ct__law_hat), sl__law_hat⟩)
    (h3__law_hat : PySem.W.codeIn K cd__law_hat "_law_hat" = true)
    (h4__law_hat : PySem.W.keepIn K (.ref a__law_hat) = true)
    {a__law_lot : Addr} {od__law_lot an__law_lot : Option Addr} {sl__law_lot : Array (Option Value)} {oc__law_lot kV__law_lot dc__law_lot pm__law_lot cd__law_lot ct__law_lot : Value}
    (h1__law_lot : PySem.W.nsIn K mainGlobals "_law_lot" = some (some (.ref a__law_lot)))
    (h2__law_lot : K.lookup a__law_lot = some ⟨oc__law_lot, od__law_lot, .func (PySem.W.fnOf "_law_lot" "_law_lot" (defArgs s__law_lot) (defBody s__law_lot) (defScope s__law_lot) .none kV__law_lot dc__law_lot pm__law_lot an__law_lot cd__law_lot ct__law_lot), sl__law_lot⟩)
    (h3__law_lot : PySem.W.codeIn K cd__law_lot "_law_lot" = true)
    (h4__law_lot : PySem.W.keepIn K (.ref a__law_lot) = true)
    {a__law_one : Addr} {od__law_one an__law_one : Option Addr} {sl__law_one : Array (Option Value)} {oc__law_one kV__law_one dc__law_one pm__law_one cd__law_one ct__law_one : Value}
    (h1__law_one : PySem.W.nsIn K mainGlobals "_law_one" = some (some (.ref a__law_one)))
    (h2__law_one : K.lookup a__law_one = some ⟨oc__law_one, od__law_one, .func (PySem.W.fnOf "_law_one" "_law_one" (defArgs s__law_one) (defBody s__law_one) (defScope s__law_one) .none kV__law_one dc__law_one pm__law_one an__law_one cd__law_one ct__law_one), sl__law_one⟩)
    (h3__law_one : PySem.W.codeIn K cd__law_one "_law_one" = true)
    (h4__law_one : PySem.W.keepIn K (.ref a__law_one) = true)
    {a__law_begun : Addr} {od__law_begun an__law_begun : Option Addr} {sl__law_begun : Array (Option Value)} {oc__law_begun kV__law_begun dc__law_begun pm__law_begun cd__law_begun ct__law_begun : Value}
    (h1__law_begun : PySem.W.nsIn K mainGlobals "_law_begun" = some (some (.ref a__law_begun)))
    (h2__law_begun : K.lookup a__law_begun = some ⟨oc__law_begun, od__law_begun, .func (PySem.W.fnOf "_law_begun" "_law_begun" (defArgs s__law_begun) (defBody s__law_begun) (defScope s__law_begun) .none kV__law_begun dc__law_begun pm__law_begun an__law_begun cd__law_begun ct__law_begun), sl__law_begun⟩)
    (h3__law_begun : PySem.W.codeIn K cd__law_begun "_law_begun" = true)
    (h4__law_begun : PySem.W.keepIn K (.ref a__law_begun) = true)
    {a_is_integer : Addr} {od_is_integer an_is_integer : Option Addr} {sl_is_integer : Array (Option Value)} {oc_is_integer kV_is_integer dc_is_integer pm_is_integer cd_is_integer ct_is_integer : Value}
    (h1_is_integer : PySem.W.nsIn K mainGlobals "is_integer" = some (some (.ref a_is_integer)))
    (h2_is_integer : K.lookup a_is_integer = some ⟨oc_is_integer, od_is_integer, .func (PySem.W.fnOf "is_integer" "is_integer" (defArgs s_is_integer) (defBody s_is_integer) (defScope s_is_integer) .none kV_is_integer dc_is_integer pm_is_integer an_is_integer cd_is_integer ct_is_integer), sl_is_integer⟩)
    (h3_is_integer : PySem.W.codeIn K cd_is_integer "is_integer" = true)
    (h4_is_integer : PySem.W.keepIn K (.ref a_is_integer) = true)
    {a_is_within : Addr} {od_is_within an_is_within : Option Addr} {sl_is_within : Array (Option Value)} {oc_is_within kV_is_within dc_is_within pm_is_within cd_is_within ct_is_within : Value}
    (h1_is_within : PySem.W.nsIn K mainGlobals "is_within" = some (some (.ref a_is_within)))
    (h2_is_within : K.lookup a_is_within = some ⟨oc_is_within, od_is_within, .func (PySem.W.fnOf "is_within" "is_within" (defArgs s_is_within) (defBody s_is_within) (defScope s_is_within) .none kV_is_within dc_is_within pm_is_within an_is_within cd_is_within ct_is_within), sl_is_within⟩)
    (h3_is_within : PySem.W.codeIn K cd_is_within "is_within" = true)
    (h4_is_within : PySem.W.keepIn K (.ref a_is_within) = true)
    {a_need_within : Addr} {od_need_within an_need_within : Option Addr} {sl_need_within : Array (Option Value)} {oc_need_within kV_need_within dc_need_within pm_need_within cd_need_within ct_need_within : Value}
    (h1_need_within : PySem.W.nsIn K mainGlobals "need_within" = some (some (.ref a_need_within)))
    (h2_need_within : K.lookup a_need_within = some ⟨oc_need_within, od_need_within, .func (PySem.W.fnOf "need_within" "need_within" (defArgs s_need_within) (defBody s_need_within) (defScope s_need_within) .none kV_need_within dc_need_within pm_need_within an_need_within cd_need_within ct_need_within), sl_need_within⟩)
    (h3_need_within : PySem.W.codeIn K cd_need_within "need_within" = true)
    (h4_need_within : PySem.W.keepIn K (.ref a_need_within) = true)
    {a_need_numbers : Addr} {od_need_numbers an_need_numbers : Option Addr} {sl_need_numbers : Array (Option Value)} {oc_need_numbers kV_need_numbers dc_need_numbers pm_need_numbers cd_need_numbers ct_need_numbers : Value}
    (h1_need_numbers : PySem.W.nsIn K mainGlobals "need_numbers" = some (some (.ref a_need_numbers)))
    (h2_need_numbers : K.lookup a_need_numbers = some ⟨oc_need_numbers, od_need_numbers, .func (PySem.W.fnOf "need_numbers" "need_numbers" (defArgs s_need_numbers) (defBody s_need_numbers) (defScope s_need_numbers) .none kV_need_numbers dc_need_numbers pm_need_numbers an_need_numbers cd_need_numbers ct_need_numbers), sl_need_numbers⟩)
    (h3_need_numbers : PySem.W.codeIn K cd_need_numbers "need_numbers" = true)
    (h4_need_numbers : PySem.W.keepIn K (.ref a_need_numbers) = true)
    {a_need_power : Addr} {od_need_power an_need_power : Option Addr} {sl_need_power : Array (Option Value)} {oc_need_power kV_need_power dc_need_power pm_need_power cd_need_power ct_need_power : Value}
    (h1_need_power : PySem.W.nsIn K mainGlobals "need_power" = some (some (.ref a_need_power)))
    (h2_need_power : K.lookup a_need_power = some ⟨oc_need_power, od_need_power, .func (PySem.W.fnOf "need_power" "need_power" (defArgs s_need_power) (defBody s_need_power) (defScope s_need_power) .none kV_need_power dc_need_power pm_need_power an_need_power cd_need_power ct_need_power), sl_need_power⟩)
    (h3_need_power : PySem.W.codeIn K cd_need_power "need_power" = true)
    (h4_need_power : PySem.W.keepIn K (.ref a_need_power) = true)
    {a_raised : Addr} {od_raised an_raised : Option Addr} {sl_raised : Array (Option Value)} {oc_raised kV_raised dc_raised pm_raised cd_raised ct_raised : Value}
    (h1_raised : PySem.W.nsIn K mainGlobals "raised" = some (some (.ref a_raised)))
    (h2_raised : K.lookup a_raised = some ⟨oc_raised, od_raised, .func (PySem.W.fnOf "raised" "raised" (defArgs s_raised) (defBody s_raised) (defScope s_raised) .none kV_raised dc_raised pm_raised an_raised cd_raised ct_raised), sl_raised⟩)
    (h3_raised : PySem.W.codeIn K cd_raised "raised" = true)
    (h4_raised : PySem.W.keepIn K (.ref a_raised) = true)
    {a_fourth_quotient : Addr} {od_fourth_quotient an_fourth_quotient : Option Addr} {sl_fourth_quotient : Array (Option Value)} {oc_fourth_quotient kV_fourth_quotient dc_fourth_quotient pm_fourth_quotient cd_fourth_quotient ct_fourth_quotient : Value}
    (h1_fourth_quotient : PySem.W.nsIn K mainGlobals "fourth_quotient" = some (some (.ref a_fourth_quotient)))
    (h2_fourth_quotient : K.lookup a_fourth_quotient = some ⟨oc_fourth_quotient, od_fourth_quotient, .func (PySem.W.fnOf "fourth_quotient" "fourth_quotient" (defArgs s_fourth_quotient) (defBody s_fourth_quotient) (defScope s_fourth_quotient) .none kV_fourth_quotient dc_fourth_quotient pm_fourth_quotient an_fourth_quotient cd_fourth_quotient ct_fourth_quotient), sl_fourth_quotient⟩)
    (h3_fourth_quotient : PySem.W.codeIn K cd_fourth_quotient "fourth_quotient" = true)
    (h4_fourth_quotient : PySem.W.keepIn K (.ref a_fourth_quotient) = true)
    {a_side_of : Addr} {od_side_of an_side_of : Option Addr} {sl_side_of : Array (Option Value)} {oc_side_of kV_side_of dc_side_of pm_side_of cd_side_of ct_side_of : Value}
    (h1_side_of : PySem.W.nsIn K mainGlobals "side_of" = some (some (.ref a_side_of)))
    (h2_side_of : K.lookup a_side_of = some ⟨oc_side_of, od_side_of, .func (PySem.W.fnOf "side_of" "side_of" (defArgs s_side_of) (defBody s_side_of) (defScope s_side_of) .none kV_side_of dc_side_of pm_side_of an_side_of cd_side_of ct_side_of), sl_side_of⟩)
    (h3_side_of : PySem.W.codeIn K cd_side_of "side_of" = true)
    (h4_side_of : PySem.W.keepIn K (.ref a_side_of) = true)
    {a_whole_below : Addr} {od_whole_below an_whole_below : Option Addr} {sl_whole_below : Array (Option Value)} {oc_whole_below kV_whole_below dc_whole_below pm_whole_below cd_whole_below ct_whole_below : Value}
    (h1_whole_below : PySem.W.nsIn K mainGlobals "whole_below" = some (some (.ref a_whole_below)))
    (h2_whole_below : K.lookup a_whole_below = some ⟨oc_whole_below, od_whole_below, .func (PySem.W.fnOf "whole_below" "whole_below" (defArgs s_whole_below) (defBody s_whole_below) (defScope s_whole_below) .none kV_whole_below dc_whole_below pm_whole_below an_whole_below cd_whole_below ct_whole_below), sl_whole_below⟩)
    (h3_whole_below : PySem.W.codeIn K cd_whole_below "whole_below" = true)
    (h4_whole_below : PySem.W.keepIn K (.ref a_whole_below) = true)
    {a_whole_fourth : Addr} {od_whole_fourth an_whole_fourth : Option Addr} {sl_whole_fourth : Array (Option Value)} {oc_whole_fourth kV_whole_fourth dc_whole_fourth pm_whole_fourth cd_whole_fourth ct_whole_fourth : Value}
    (h1_whole_fourth : PySem.W.nsIn K mainGlobals "whole_fourth" = some (some (.ref a_whole_fourth)))
    (h2_whole_fourth : K.lookup a_whole_fourth = some ⟨oc_whole_fourth, od_whole_fourth, .func (PySem.W.fnOf "whole_fourth" "whole_fourth" (defArgs s_whole_fourth) (defBody s_whole_fourth) (defScope s_whole_fourth) .none kV_whole_fourth dc_whole_fourth pm_whole_fourth an_whole_fourth cd_whole_fourth ct_whole_fourth), sl_whole_fourth⟩)
    (h3_whole_fourth : PySem.W.codeIn K cd_whole_fourth "whole_fourth" = true)
    (h4_whole_fourth : PySem.W.keepIn K (.ref a_whole_fourth) = true)
    {a_numbers_by : Addr} {od_numbers_by an_numbers_by : Option Addr} {sl_numbers_by : Array (Option Value)} {oc_numbers_by kV_numbers_by dc_numbers_by pm_numbers_by cd_numbers_by ct_numbers_by : Value}
    (h1_numbers_by : PySem.W.nsIn K mainGlobals "numbers_by" = some (some (.ref a_numbers_by)))
    (h2_numbers_by : K.lookup a_numbers_by = some ⟨oc_numbers_by, od_numbers_by, .func (PySem.W.fnOf "numbers_by" "numbers_by" (defArgs s_numbers_by) (defBody s_numbers_by) (defScope s_numbers_by) .none kV_numbers_by dc_numbers_by pm_numbers_by an_numbers_by cd_numbers_by ct_numbers_by), sl_numbers_by⟩)
    (h3_numbers_by : PySem.W.codeIn K cd_numbers_by "numbers_by" = true)
    (h4_numbers_by : PySem.W.keepIn K (.ref a_numbers_by) = true)
    {a__law_raised : Addr} {od__law_raised an__law_raised : Option Addr} {sl__law_raised : Array (Option Value)} {oc__law_raised kV__law_raised dc__law_raised pm__law_raised cd__law_raised ct__law_raised : Value}
    (h1__law_raised : PySem.W.nsIn K mainGlobals "_law_raised" = some (some (.ref a__law_raised)))
    (h2__law_raised : K.lookup a__law_raised = some ⟨oc__law_raised, od__law_raised, .func (PySem.W.fnOf "_law_raised" "_law_raised" (defArgs s__law_raised) (defBody s__law_raised) (defScope s__law_raised) .none kV__law_raised dc__law_raised pm__law_raised an__law_raised cd__law_raised ct__law_raised), sl__law_raised⟩)
    (h3__law_raised : PySem.W.codeIn K cd__law_raised "_law_raised" = true)
    (h4__law_raised : PySem.W.keepIn K (.ref a__law_raised) = true)
    {a__law_wanted : Addr} {od__law_wanted an__law_wanted : Option Addr} {sl__law_wanted : Array (Option Value)} {oc__law_wanted kV__law_wanted dc__law_wanted pm__law_wanted cd__law_wanted ct__law_wanted : Value}
    (h1__law_wanted : PySem.W.nsIn K mainGlobals "_law_wanted" = some (some (.ref a__law_wanted)))
    (h2__law_wanted : K.lookup a__law_wanted = some ⟨oc__law_wanted, od__law_wanted, .func (PySem.W.fnOf "_law_wanted" "_law_wanted" (defArgs s__law_wanted) (defBody s__law_wanted) (defScope s__law_wanted) .none kV__law_wanted dc__law_wanted pm__law_wanted an__law_wanted cd__law_wanted ct__law_wanted), sl__law_wanted⟩)
    (h3__law_wanted : PySem.W.codeIn K cd__law_wanted "_law_wanted" = true)
    (h4__law_wanted : PySem.W.keepIn K (.ref a__law_wanted) = true)
    {a__law_behind : Addr} {od__law_behind an__law_behind : Option Addr} {sl__law_behind : Array (Option Value)} {oc__law_behind kV__law_behind dc__law_behind pm__law_behind cd__law_behind ct__law_behind : Value}
    (h1__law_behind : PySem.W.nsIn K mainGlobals "_law_behind" = some (some (.ref a__law_behind)))
    (h2__law_behind : K.lookup a__law_behind = some ⟨oc__law_behind, od__law_behind, .func (PySem.W.fnOf "_law_behind" "_law_behind" (defArgs s__law_behind) (defBody s__law_behind) (defScope s__law_behind) .none kV__law_behind dc__law_behind pm__law_behind an__law_behind cd__law_behind ct__law_behind), sl__law_behind⟩)
    (h3__law_behind : PySem.W.codeIn K cd__law_behind "_law_behind" = true)
    (h4__law_behind : PySem.W.keepIn K (.ref a__law_behind) = true)
    {a__law_gone_on : Addr} {od__law_gone_on an__law_gone_on : Option Addr} {sl__law_gone_on : Array (Option Value)} {oc__law_gone_on kV__law_gone_on dc__law_gone_on pm__law_gone_on cd__law_gone_on ct__law_gone_on : Value}
    (h1__law_gone_on : PySem.W.nsIn K mainGlobals "_law_gone_on" = some (some (.ref a__law_gone_on)))
    (h2__law_gone_on : K.lookup a__law_gone_on = some ⟨oc__law_gone_on, od__law_gone_on, .func (PySem.W.fnOf "_law_gone_on" "_law_gone_on" (defArgs s__law_gone_on) (defBody s__law_gone_on) (defScope s__law_gone_on) .none kV__law_gone_on dc__law_gone_on pm__law_gone_on an__law_gone_on cd__law_gone_on ct__law_gone_on), sl__law_gone_on⟩)
    (h3__law_gone_on : PySem.W.codeIn K cd__law_gone_on "_law_gone_on" = true)
    (h4__law_gone_on : PySem.W.keepIn K (.ref a__law_gone_on) = true)
    {a__law_row : Addr} {od__law_row an__law_row : Option Addr} {sl__law_row : Array (Option Value)} {oc__law_row kV__law_row dc__law_row pm__law_row cd__law_row ct__law_row : Value}
    (h1__law_row : PySem.W.nsIn K mainGlobals "_law_row" = some (some (.ref a__law_row)))
    (h2__law_row : K.lookup a__law_row = some ⟨oc__law_row, od__law_row, .func (PySem.W.fnOf "_law_row" "_law_row" (defArgs s__law_row) (defBody s__law_row) (defScope s__law_row) .none kV__law_row dc__law_row pm__law_row an__law_row cd__law_row ct__law_row), sl__law_row⟩)
    (h3__law_row : PySem.W.codeIn K cd__law_row "_law_row" = true)
    (h4__law_row : PySem.W.keepIn K (.ref a__law_row) = true)
    {a_fixed : Addr} {od_fixed an_fixed : Option Addr} {sl_fixed : Array (Option Value)} {oc_fixed kV_fixed dc_fixed pm_fixed cd_fixed ct_fixed : Value}
    (h1_fixed : PySem.W.nsIn K mainGlobals "fixed" = some (some (.ref a_fixed)))
    (h2_fixed : K.lookup a_fixed = some ⟨oc_fixed, od_fixed, .func (PySem.W.fnOf "fixed" "fixed" (defArgs s_fixed) (defBody s_fixed) (defScope s_fixed) .none kV_fixed dc_fixed pm_fixed an_fixed cd_fixed ct_fixed), sl_fixed⟩)
    (h3_fixed : PySem.W.codeIn K cd_fixed "fixed" = true)
    (h4_fixed : PySem.W.keepIn K (.ref a_fixed) = true)
    {a__law_power : Addr} {od__law_power an__law_power : Option Addr} {sl__law_power : Array (Option Value)} {oc__law_power kV__law_power dc__law_power pm__law_power cd__law_power ct__law_power : Value}
    (h1__law_power : PySem.W.nsIn K mainGlobals "_law_power" = some (some (.ref a__law_power)))
    (h2__law_power : K.lookup a__law_power = some ⟨oc__law_power, od__law_power, .func (PySem.W.fnOf "_law_power" "_law_power" (defArgs s__law_power) (defBody s__law_power) (defScope s__law_power) .none kV__law_power dc__law_power pm__law_power an__law_power cd__law_power ct__law_power), sl__law_power⟩)
    (h3__law_power : PySem.W.codeIn K cd__law_power "_law_power" = true)
    (h4__law_power : PySem.W.keepIn K (.ref a__law_power) = true)
    {a__law_is_by : Addr} {od__law_is_by an__law_is_by : Option Addr} {sl__law_is_by : Array (Option Value)} {oc__law_is_by kV__law_is_by dc__law_is_by pm__law_is_by cd__law_is_by ct__law_is_by : Value}
    (h1__law_is_by : PySem.W.nsIn K mainGlobals "_law_is_by" = some (some (.ref a__law_is_by)))
    (h2__law_is_by : K.lookup a__law_is_by = some ⟨oc__law_is_by, od__law_is_by, .func (PySem.W.fnOf "_law_is_by" "_law_is_by" (defArgs s__law_is_by) (defBody s__law_is_by) (defScope s__law_is_by) .none kV__law_is_by dc__law_is_by pm__law_is_by an__law_is_by cd__law_is_by ct__law_is_by), sl__law_is_by⟩)
    (h3__law_is_by : PySem.W.codeIn K cd__law_is_by "_law_is_by" = true)
    (h4__law_is_by : PySem.W.keepIn K (.ref a__law_is_by) = true)
    {a__law_due : Addr} {od__law_due an__law_due : Option Addr} {sl__law_due : Array (Option Value)} {oc__law_due kV__law_due dc__law_due pm__law_due cd__law_due ct__law_due : Value}
    (h1__law_due : PySem.W.nsIn K mainGlobals "_law_due" = some (some (.ref a__law_due)))
    (h2__law_due : K.lookup a__law_due = some ⟨oc__law_due, od__law_due, .func (PySem.W.fnOf "_law_due" "_law_due" (defArgs s__law_due) (defBody s__law_due) (defScope s__law_due) .none kV__law_due dc__law_due pm__law_due an__law_due cd__law_due ct__law_due), sl__law_due⟩)
    (h3__law_due : PySem.W.codeIn K cd__law_due "_law_due" = true)
    (h4__law_due : PySem.W.keepIn K (.ref a__law_due) = true)
    {a_is_list : Addr} {od_is_list an_is_list : Option Addr} {sl_is_list : Array (Option Value)} {oc_is_list kV_is_list dc_is_list pm_is_list cd_is_list ct_is_list : Value}
    (h1_is_list : PySem.W.nsIn K mainGlobals "is_list" = some (some (.ref a_is_list)))
    (h2_is_list : K.lookup a_is_list = some ⟨oc_is_list, od_is_list, .func (PySem.W.fnOf "is_list" "is_list" (defArgs s_is_list) (defBody s_is_list) (defScope s_is_list) .none kV_is_list dc_is_list pm_is_list an_is_list cd_is_list ct_is_list), sl_is_list⟩)
    (h3_is_list : PySem.W.codeIn K cd_is_list "is_list" = true)
    (h4_is_list : PySem.W.keepIn K (.ref a_is_list) = true)
    {a_need_growing_row : Addr} {od_need_growing_row an_need_growing_row : Option Addr} {sl_need_growing_row : Array (Option Value)} {oc_need_growing_row kV_need_growing_row dc_need_growing_row pm_need_growing_row cd_need_growing_row ct_need_growing_row : Value}
    (h1_need_growing_row : PySem.W.nsIn K mainGlobals "need_growing_row" = some (some (.ref a_need_growing_row)))
    (h2_need_growing_row : K.lookup a_need_growing_row = some ⟨oc_need_growing_row, od_need_growing_row, .func (PySem.W.fnOf "need_growing_row" "need_growing_row" (defArgs s_need_growing_row) (defBody s_need_growing_row) (defScope s_need_growing_row) .none kV_need_growing_row dc_need_growing_row pm_need_growing_row an_need_growing_row cd_need_growing_row ct_need_growing_row), sl_need_growing_row⟩)
    (h3_need_growing_row : PySem.W.codeIn K cd_need_growing_row "need_growing_row" = true)
    (h4_need_growing_row : PySem.W.keepIn K (.ref a_need_growing_row) = true)
    {a_need_growing : Addr} {od_need_growing an_need_growing : Option Addr} {sl_need_growing : Array (Option Value)} {oc_need_growing kV_need_growing dc_need_growing pm_need_growing cd_need_growing ct_need_growing : Value}
    (h1_need_growing : PySem.W.nsIn K mainGlobals "need_growing" = some (some (.ref a_need_growing)))
    (h2_need_growing : K.lookup a_need_growing = some ⟨oc_need_growing, od_need_growing, .func (PySem.W.fnOf "need_growing" "need_growing" (defArgs s_need_growing) (defBody s_need_growing) (defScope s_need_growing) .none kV_need_growing dc_need_growing pm_need_growing an_need_growing cd_need_growing ct_need_growing), sl_need_growing⟩)
    (h3_need_growing : PySem.W.codeIn K cd_need_growing "need_growing" = true)
    (h4_need_growing : PySem.W.keepIn K (.ref a_need_growing) = true)
    {a_whole_sum : Addr} {od_whole_sum an_whole_sum : Option Addr} {sl_whole_sum : Array (Option Value)} {oc_whole_sum kV_whole_sum dc_whole_sum pm_whole_sum cd_whole_sum ct_whole_sum : Value}
    (h1_whole_sum : PySem.W.nsIn K mainGlobals "whole_sum" = some (some (.ref a_whole_sum)))
    (h2_whole_sum : K.lookup a_whole_sum = some ⟨oc_whole_sum, od_whole_sum, .func (PySem.W.fnOf "whole_sum" "whole_sum" (defArgs s_whole_sum) (defBody s_whole_sum) (defScope s_whole_sum) .none kV_whole_sum dc_whole_sum pm_whole_sum an_whole_sum cd_whole_sum ct_whole_sum), sl_whole_sum⟩)
    (h3_whole_sum : PySem.W.codeIn K cd_whole_sum "whole_sum" = true)
    (h4_whole_sum : PySem.W.keepIn K (.ref a_whole_sum) = true)
    {a_power_of : Addr} {od_power_of an_power_of : Option Addr} {sl_power_of : Array (Option Value)} {oc_power_of kV_power_of dc_power_of pm_power_of cd_power_of ct_power_of : Value}
    (h1_power_of : PySem.W.nsIn K mainGlobals "power_of" = some (some (.ref a_power_of)))
    (h2_power_of : K.lookup a_power_of = some ⟨oc_power_of, od_power_of, .func (PySem.W.fnOf "power_of" "power_of" (defArgs s_power_of) (defBody s_power_of) (defScope s_power_of) .none kV_power_of dc_power_of pm_power_of an_power_of cd_power_of ct_power_of), sl_power_of⟩)
    (h3_power_of : PySem.W.codeIn K cd_power_of "power_of" = true)
    (h4_power_of : PySem.W.keepIn K (.ref a_power_of) = true)
    {a_is_by_power : Addr} {od_is_by_power an_is_by_power : Option Addr} {sl_is_by_power : Array (Option Value)} {oc_is_by_power kV_is_by_power dc_is_by_power pm_is_by_power cd_is_by_power ct_is_by_power : Value}
    (h1_is_by_power : PySem.W.nsIn K mainGlobals "is_by_power" = some (some (.ref a_is_by_power)))
    (h2_is_by_power : K.lookup a_is_by_power = some ⟨oc_is_by_power, od_is_by_power, .func (PySem.W.fnOf "is_by_power" "is_by_power" (defArgs s_is_by_power) (defBody s_is_by_power) (defScope s_is_by_power) .none kV_is_by_power dc_is_by_power pm_is_by_power an_is_by_power cd_is_by_power ct_is_by_power), sl_is_by_power⟩)
    (h3_is_by_power : PySem.W.codeIn K cd_is_by_power "is_by_power" = true)
    (h4_is_by_power : PySem.W.keepIn K (.ref a_is_by_power) = true)
    {a_is_step_by : Addr} {od_is_step_by an_is_step_by : Option Addr} {sl_is_step_by : Array (Option Value)} {oc_is_step_by kV_is_step_by dc_is_step_by pm_is_step_by cd_is_step_by ct_is_step_by : Value}
    (h1_is_step_by : PySem.W.nsIn K mainGlobals "is_step_by" = some (some (.ref a_is_step_by)))
    (h2_is_step_by : K.lookup a_is_step_by = some ⟨oc_is_step_by, od_is_step_by, .func (PySem.W.fnOf "is_step_by" "is_step_by" (defArgs s_is_step_by) (defBody s_is_step_by) (defScope s_is_step_by) .none kV_is_step_by dc_is_step_by pm_is_step_by an_is_step_by cd_is_step_by ct_is_step_by), sl_is_step_by⟩)
    (h3_is_step_by : PySem.W.codeIn K cd_is_step_by "is_step_by" = true)
    (h4_is_step_by : PySem.W.keepIn K (.ref a_is_step_by) = true)
    {a_power_of_row : Addr} {od_power_of_row an_power_of_row : Option Addr} {sl_power_of_row : Array (Option Value)} {oc_power_of_row kV_power_of_row dc_power_of_row pm_power_of_row cd_power_of_row ct_power_of_row : Value}
    (h1_power_of_row : PySem.W.nsIn K mainGlobals "power_of_row" = some (some (.ref a_power_of_row)))
    (h2_power_of_row : K.lookup a_power_of_row = some ⟨oc_power_of_row, od_power_of_row, .func (PySem.W.fnOf "power_of_row" "power_of_row" (defArgs s_power_of_row) (defBody s_power_of_row) (defScope s_power_of_row) .none kV_power_of_row dc_power_of_row pm_power_of_row an_power_of_row cd_power_of_row ct_power_of_row), sl_power_of_row⟩)
    (h3_power_of_row : PySem.W.codeIn K cd_power_of_row "power_of_row" = true)
    (h4_power_of_row : PySem.W.keepIn K (.ref a_power_of_row) = true)
    {a_is_just : Addr} {od_is_just an_is_just : Option Addr} {sl_is_just : Array (Option Value)} {oc_is_just kV_is_just dc_is_just pm_is_just cd_is_just ct_is_just : Value}
    (h1_is_just : PySem.W.nsIn K mainGlobals "is_just" = some (some (.ref a_is_just)))
    (h2_is_just : K.lookup a_is_just = some ⟨oc_is_just, od_is_just, .func (PySem.W.fnOf "is_just" "is_just" (defArgs s_is_just) (defBody s_is_just) (defScope s_is_just) .none kV_is_just dc_is_just pm_is_just an_is_just cd_is_just ct_is_just), sl_is_just⟩)
    (h3_is_just : PySem.W.codeIn K cd_is_just "is_just" = true)
    (h4_is_just : PySem.W.keepIn K (.ref a_is_just) = true)
    {a_shows_power_of_row : Addr} {od_shows_power_of_row an_shows_power_of_row : Option Addr} {sl_shows_power_of_row : Array (Option Value)} {oc_shows_power_of_row kV_shows_power_of_row dc_shows_power_of_row pm_shows_power_of_row cd_shows_power_of_row ct_shows_power_of_row : Value}
    (h1_shows_power_of_row : PySem.W.nsIn K mainGlobals "shows_power_of_row" = some (some (.ref a_shows_power_of_row)))
    (h2_shows_power_of_row : K.lookup a_shows_power_of_row = some ⟨oc_shows_power_of_row, od_shows_power_of_row, .func (PySem.W.fnOf "shows_power_of_row" "shows_power_of_row" (defArgs s_shows_power_of_row) (defBody s_shows_power_of_row) (defScope s_shows_power_of_row) .none kV_shows_power_of_row dc_shows_power_of_row pm_shows_power_of_row an_shows_power_of_row cd_shows_power_of_row ct_shows_power_of_row), sl_shows_power_of_row⟩)
    (h3_shows_power_of_row : PySem.W.codeIn K cd_shows_power_of_row "shows_power_of_row" = true)
    (h4_shows_power_of_row : PySem.W.keepIn K (.ref a_shows_power_of_row) = true)
    {a__law_told : Addr} {od__law_told an__law_told : Option Addr} {sl__law_told : Array (Option Value)} {oc__law_told kV__law_told dc__law_told pm__law_told cd__law_told ct__law_told : Value}
    (h1__law_told : PySem.W.nsIn K mainGlobals "_law_told" = some (some (.ref a__law_told)))
    (h2__law_told : K.lookup a__law_told = some ⟨oc__law_told, od__law_told, .func (PySem.W.fnOf "_law_told" "_law_told" (defArgs s__law_told) (defBody s__law_told) (defScope s__law_told) .none kV__law_told dc__law_told pm__law_told an__law_told cd__law_told ct__law_told), sl__law_told⟩)
    (h3__law_told : PySem.W.codeIn K cd__law_told "_law_told" = true)
    (h4__law_told : PySem.W.keepIn K (.ref a__law_told) = true)
    {a_law : Addr} {od_law an_law : Option Addr} {sl_law : Array (Option Value)} {oc_law kV_law dc_law pm_law cd_law ct_law : Value}
    (h1_law : PySem.W.nsIn K mainGlobals "law" = some (some (.ref a_law)))
    (h2_law : K.lookup a_law = some ⟨oc_law, od_law, .func (PySem.W.fnOf "law" "law" (defArgs s_law) (defBody s_law) (defScope s_law) .none kV_law dc_law pm_law an_law cd_law ct_law), sl_law⟩)
    (h3_law : PySem.W.codeIn K cd_law "law" = true)
    (h4_law : PySem.W.keepIn K (.ref a_law) = true)
    {t_LEAST_LONG : Tok} (z_LEAST_LONG : PySem.W.nsIn K mainGlobals "LEAST_LONG" = some (some (.int (3) t_LEAST_LONG)))
    {t_LEAST_POWER : Tok} (z_LEAST_POWER : PySem.W.nsIn K mainGlobals "LEAST_POWER" = some (some (.int (-80) t_LEAST_POWER)))
    {t_MOST_LONG : Tok} (z_MOST_LONG : PySem.W.nsIn K mainGlobals "MOST_LONG" = some (some (.int (12) t_MOST_LONG)))
    {t_MOST_POWER : Tok} (z_MOST_POWER : PySem.W.nsIn K mainGlobals "MOST_POWER" = some (some (.int (80) t_MOST_POWER)))
    {t_MOST_SMALL : Tok} (z_MOST_SMALL : PySem.W.nsIn K mainGlobals "MOST_SMALL" = some (some (.int (99) t_MOST_SMALL)))
    (z_abs : PySem.W.nsIn K mainGlobals "abs" = some none)
    (z_all : PySem.W.nsIn K mainGlobals "all" = some none)
    (z_bool : PySem.W.nsIn K mainGlobals "bool" = some none)
    (z_int : PySem.W.nsIn K mainGlobals "int" = some none)
    (z_isinstance : PySem.W.nsIn K mainGlobals "isinstance" = some none)
    (z_len : PySem.W.nsIn K mainGlobals "len" = some none)
    (z_list : PySem.W.nsIn K mainGlobals "list" = some none)
    (z_max : PySem.W.nsIn K mainGlobals "max" = some none)
    (z_range : PySem.W.nsIn K mainGlobals "range" = some none)
    (z_repr : PySem.W.nsIn K mainGlobals "repr" = some none)
    (z_set : PySem.W.nsIn K mainGlobals "set" = some none)
    (z_sorted : PySem.W.nsIn K mainGlobals "sorted" = some none)
    (z_str : PySem.W.nsIn K mainGlobals "str" = some none)
    (z_tuple : PySem.W.nsIn K mainGlobals "tuple" = some none)
    (z_type : PySem.W.nsIn K mainGlobals "type" = some none)
    (z_zip : PySem.W.nsIn K mainGlobals "zip" = some none) : Txt K mg where
  f_Paper__bool__ := ⟨a_Paper__bool__, _, fun_mk (st := s_Paper__bool__) h2_Paper__bool__ h3_Paper__bool__ h4_Paper__bool__, h0_Paper__bool__, (fun_mk (st := s_Paper__bool__) h2_Paper__bool__ h3_Paper__bool__ h4_Paper__bool__).binds fun _ _ _ _ _ _ us hl => match us, hl with | [_], _ => rfl⟩
  f_Paper__eq__ := ⟨a_Paper__eq__, _, fun_mk (st := s_Paper__eq__) h2_Paper__eq__ h3_Paper__eq__ h4_Paper__eq__, h0_Paper__eq__, (fun_mk (st := s_Paper__eq__) h2_Paper__eq__ h3_Paper__eq__ h4_Paper__eq__).binds fun _ _ _ _ _ _ us hl => match us, hl with | [_, _], _ => rfl⟩
  f_Denial__bool__ := ⟨a_Denial__bool__, _, fun_mk (st := s_Denial__bool__) h2_Denial__bool__ h3_Denial__bool__ h4_Denial__bool__, h0_Denial__bool__, (fun_mk (st := s_Denial__bool__) h2_Denial__bool__ h3_Denial__bool__ h4_Denial__bool__).binds fun _ _ _ _ _ _ us hl => match us, hl with | [_], _ => rfl⟩
  f_Denial__eq__ := ⟨a_Denial__eq__, _, fun_mk (st := s_Denial__eq__) h2_Denial__eq__ h3_Denial__eq__ h4_Denial__eq__, h0_Denial__eq__, (fun_mk (st := s_Denial__eq__) h2_Denial__eq__ h3_Denial__eq__ h4_Denial__eq__).binds fun _ _ _ _ _ _ us hl => match us, hl with | [_, _], _ => rfl⟩
  f_Denial__init__ := ⟨a_Denial__init__, _, fun_mk (st := s_Denial__init__) h2_Denial__init__ h3_Denial__init__ h4_Denial__init__, h0_Denial__init__⟩
  f_Between__init__ := ⟨a_Between__init__, _, fun_mk (st := s_Between__init__) h2_Between__init__ h3_Between__init__ h4_Between__init__, h0_Between__init__, (fun_mk (st := s_Between__init__) h2_Between__init__ h3_Between__init__ h4_Between__init__).binds fun _ _ _ _ _ _ us hl => match us, hl with | [_, _], _ => rfl⟩
  f_Paper__init__ := ⟨a_Paper__init__, _, fun_mk (st := s_Paper__init__) h2_Paper__init__ h3_Paper__init__ h4_Paper__init__, h0_Paper__init__⟩
  f_ByPower__init__ := ⟨a_ByPower__init__, _, fun_mk (st := s_ByPower__init__) h2_ByPower__init__ h3_ByPower__init__ h4_ByPower__init__, h0_ByPower__init__, (fun_mk (st := s_ByPower__init__) h2_ByPower__init__ h3_ByPower__init__ h4_ByPower__init__).binds fun _ _ _ _ _ _ us hl => match us, hl with | [_, _], _ => rfl⟩
  f_Uneven__init__ := ⟨a_Uneven__init__, _, fun_mk (st := s_Uneven__init__) h2_Uneven__init__ h3_Uneven__init__ h4_Uneven__init__, h0_Uneven__init__, (fun_mk (st := s_Uneven__init__) h2_Uneven__init__ h3_Uneven__init__ h4_Uneven__init__).binds fun _ _ _ _ _ _ us hl => match us, hl with | [_, _], _ => rfl⟩
  k_Denial := ⟨a_Denial, PySem.W.mg_of X G h1_Denial, ⟨pg_Denial, hd_Denial, po_Denial, sa_Denial⟩, kc_Denial, ha_Denial, hn_, ht_, hm_Denial, mk_Denial⟩
  na_Denial_low := na_Denial_low
  na_Denial_parts := na_Denial_parts
  na_Denial_power := na_Denial_power
  na_Denial_step := na_Denial_step
  na_Denial_word := na_Denial_word
  mk_Denial := ⟨mk_Denial, mi_Denial, h0_Denial__init__, kc_Denial⟩
  eq_Denial := ⟨qe_Denial, h0_Denial__eq__, qn_Denial, hm_Denial⟩
  bo_Denial := ⟨qb_Denial, h0_Denial__bool__⟩
  mc_Denial := .type "type"
  cr_Denial := ⟨r1_Denial, r2_Denial⟩
  cv_Denial__init__ := ⟨r3_Denial__init__, rfl⟩
  is_Denial_Denial := is_Denial_Denial
  is_Denial_Paper := is_Denial_Paper
  is_Denial_Between := is_Denial_Between
  is_Denial_ByPower := is_Denial_ByPower
  is_Denial_Uneven := is_Denial_Uneven
  k_Paper := ⟨a_Paper, PySem.W.mg_of X G h1_Paper, ⟨pg_Paper, hd_Paper, po_Paper, sa_Paper⟩, kc_Paper, ha_Paper, hn_, ht_, hm_Paper, mk_Paper⟩
  na_Paper_low := na_Paper_low
  na_Paper_parts := na_Paper_parts
  na_Paper_power := na_Paper_power
  na_Paper_step := na_Paper_step
  na_Paper_word := na_Paper_word
  mk_Paper := ⟨mk_Paper, mi_Paper, h0_Paper__init__, kc_Paper⟩
  eq_Paper := ⟨qe_Paper, h0_Paper__eq__, qn_Paper, hm_Paper⟩
  bo_Paper := ⟨qb_Paper, h0_Paper__bool__⟩
  mc_Paper := .type "type"
  cr_Paper := ⟨r1_Paper, r2_Paper⟩
  cv_Paper__init__ := ⟨r3_Paper__init__, rfl⟩
  is_Paper_Denial := is_Paper_Denial
  is_Paper_Paper := is_Paper_Paper
  is_Paper_Between := is_Paper_Between
  is_Paper_ByPower := is_Paper_ByPower
  is_Paper_Uneven := is_Paper_Uneven
  k_Between := ⟨a_Between, PySem.W.mg_of X G h1_Between, ⟨pg_Between, hd_Between, po_Between, sa_Between⟩, kc_Between, ha_Between, hn_, ht_, hm_Between, mk_Between⟩
  na_Between_low := na_Between_low
  na_Between_parts := na_Between_parts
  na_Between_power := na_Between_power
  na_Between_step := na_Between_step
  na_Between_word := na_Between_word
  mk_Between := ⟨mk_Between, mi_Between, h0_Between__init__, kc_Between⟩
  eq_Between := ⟨qe_Between, h0_Denial__eq__, qn_Between, hm_Between⟩
  bo_Between := ⟨qb_Between, h0_Denial__bool__⟩
  is_Between_Denial := is_Between_Denial
  is_Between_Paper := is_Between_Paper
  is_Between_Between := is_Between_Between
  is_Between_ByPower := is_Between_ByPower
  is_Between_Uneven := is_Between_Uneven
  k_ByPower := ⟨a_ByPower, PySem.W.mg_of X G h1_ByPower, ⟨pg_ByPower, hd_ByPower, po_ByPower, sa_ByPower⟩, kc_ByPower, ha_ByPower, hn_, ht_, hm_ByPower, mk_ByPower⟩
  na_ByPower_low := na_ByPower_low
  na_ByPower_parts := na_ByPower_parts
  na_ByPower_power := na_ByPower_power
  na_ByPower_step := na_ByPower_step
  na_ByPower_word := na_ByPower_word
  mk_ByPower := ⟨mk_ByPower, mi_ByPower, h0_ByPower__init__, kc_ByPower⟩
  eq_ByPower := ⟨qe_ByPower, h0_Paper__eq__, qn_ByPower, hm_ByPower⟩
  bo_ByPower := ⟨qb_ByPower, h0_Paper__bool__⟩
  is_ByPower_Denial := is_ByPower_Denial
  is_ByPower_Paper := is_ByPower_Paper
  is_ByPower_Between := is_ByPower_Between
  is_ByPower_ByPower := is_ByPower_ByPower
  is_ByPower_Uneven := is_ByPower_Uneven
  k_Uneven := ⟨a_Uneven, PySem.W.mg_of X G h1_Uneven, ⟨pg_Uneven, hd_Uneven, po_Uneven, sa_Uneven⟩, kc_Uneven, ha_Uneven, hn_, ht_, hm_Uneven, mk_Uneven⟩
  na_Uneven_low := na_Uneven_low
  na_Uneven_parts := na_Uneven_parts
  na_Uneven_power := na_Uneven_power
  na_Uneven_step := na_Uneven_step
  na_Uneven_word := na_Uneven_word
  mk_Uneven := ⟨mk_Uneven, mi_Uneven, h0_Uneven__init__, kc_Uneven⟩
  eq_Uneven := ⟨qe_Uneven, h0_Denial__eq__, qn_Uneven, hm_Uneven⟩
  bo_Uneven := ⟨qb_Uneven, h0_Denial__bool__⟩
  is_Uneven_Denial := is_Uneven_Denial
  is_Uneven_Paper := is_Uneven_Paper
  is_Uneven_Between := is_Uneven_Between
  is_Uneven_ByPower := is_Uneven_ByPower
  is_Uneven_Uneven := is_Uneven_Uneven
  f__law_hat := ⟨a__law_hat, _, fun_mk (st := s__law_hat) h2__law_hat h3__law_hat h4__law_hat, PySem.W.mg_of X G h1__law_hat, (fun_mk (st := s__law_hat) h2__law_hat h3__law_hat h4__law_hat).binds fun _ _ _ _ _ _ us hl => match us, hl with | [_], _ => rfl⟩
  f__law_lot := ⟨a__law_lot, _, fun_mk (st := s__law_lot) h2__law_lot h3__law_lot h4__law_lot, PySem.W.mg_of X G h1__law_lot, (fun_mk (st := s__law_lot) h2__law_lot h3__law_lot h4__law_lot).binds fun _ _ _ _ _ _ us hl => match us, hl with | [_, _], _ => rfl⟩
  f__law_one := ⟨a__law_one, _, fun_mk (st := s__law_one) h2__law_one h3__law_one h4__law_one, PySem.W.mg_of X G h1__law_one, (fun_mk (st := s__law_one) h2__law_one h3__law_one h4__law_one).binds fun _ _ _ _ _ _ us hl => match us, hl with | [_, _], _ => rfl⟩
  f__law_begun := ⟨a__law_begun, _, fun_mk (st := s__law_begun) h2__law_begun h3__law_begun h4__law_begun, PySem.W.mg_of X G h1__law_begun, (fun_mk (st := s__law_begun) h2__law_begun h3__law_begun h4__law_begun).binds fun _ _ _ _ _ _ us hl => match us, hl with | [_], _ => rfl⟩
  f_is_integer := ⟨a_is_integer, _, fun_mk (st := s_is_integer) h2_is_integer h3_is_integer h4_is_integer, PySem.W.mg_of X G h1_is_integer, (fun_mk (st := s_is_integer) h2_is_integer h3_is_integer h4_is_integer).binds fun _ _ _ _ _ _ us hl => match us, hl with | [_], _ => rfl⟩
  f_is_within := ⟨a_is_within, _, fun_mk (st := s_is_within) h2_is_within h3_is_within h4_is_within, PySem.W.mg_of X G h1_is_within, (fun_mk (st := s_is_within) h2_is_within h3_is_within h4_is_within).binds fun _ _ _ _ _ _ us hl => match us, hl with | [_, _, _], _ => rfl⟩
  f_need_within := ⟨a_need_within, _, fun_mk (st := s_need_within) h2_need_within h3_need_within h4_need_within, PySem.W.mg_of X G h1_need_within, (fun_mk (st := s_need_within) h2_need_within h3_need_within h4_need_within).binds fun _ _ _ _ _ _ us hl => match us, hl with | [_, _, _, _], _ => rfl⟩
  f_need_numbers := ⟨a_need_numbers, _, fun_mk (st := s_need_numbers) h2_need_numbers h3_need_numbers h4_need_numbers, PySem.W.mg_of X G h1_need_numbers, (fun_mk (st := s_need_numbers) h2_need_numbers h3_need_numbers h4_need_numbers).binds fun _ _ _ _ _ _ us hl => match us, hl with | [_, _], _ => rfl⟩
  f_need_power := ⟨a_need_power, _, fun_mk (st := s_need_power) h2_need_power h3_need_power h4_need_power, PySem.W.mg_of X G h1_need_power, (fun_mk (st := s_need_power) h2_need_power h3_need_power h4_need_power).binds fun _ _ _ _ _ _ us hl => match us, hl with | [_], _ => rfl⟩
  f_raised := ⟨a_raised, _, fun_mk (st := s_raised) h2_raised h3_raised h4_raised, PySem.W.mg_of X G h1_raised, (fun_mk (st := s_raised) h2_raised h3_raised h4_raised).binds fun _ _ _ _ _ _ us hl => match us, hl with | [_, _], _ => rfl⟩
  f_fourth_quotient := ⟨a_fourth_quotient, _, fun_mk (st := s_fourth_quotient) h2_fourth_quotient h3_fourth_quotient h4_fourth_quotient, PySem.W.mg_of X G h1_fourth_quotient, (fun_mk (st := s_fourth_quotient) h2_fourth_quotient h3_fourth_quotient h4_fourth_quotient).binds fun _ _ _ _ _ _ us hl => match us, hl with | [_, _, _, _], _ => rfl⟩
  f_side_of := ⟨a_side_of, _, fun_mk (st := s_side_of) h2_side_of h3_side_of h4_side_of, PySem.W.mg_of X G h1_side_of, (fun_mk (st := s_side_of) h2_side_of h3_side_of h4_side_of).binds fun _ _ _ _ _ _ us hl => match us, hl with | [_, _], _ => rfl⟩
  f_whole_below := ⟨a_whole_below, _, fun_mk (st := s_whole_below) h2_whole_below h3_whole_below h4_whole_below, PySem.W.mg_of X G h1_whole_below, (fun_mk (st := s_whole_below) h2_whole_below h3_whole_below h4_whole_below).binds fun _ _ _ _ _ _ us hl => match us, hl with | [_], _ => rfl⟩
  f_whole_fourth := ⟨a_whole_fourth, _, fun_mk (st := s_whole_fourth) h2_whole_fourth h3_whole_fourth h4_whole_fourth, PySem.W.mg_of X G h1_whole_fourth, (fun_mk (st := s_whole_fourth) h2_whole_fourth h3_whole_fourth h4_whole_fourth).binds fun _ _ _ _ _ _ us hl => match us, hl with | [_, _, _, _], _ => rfl⟩
  f_numbers_by := ⟨a_numbers_by, _, fun_mk (st := s_numbers_by) h2_numbers_by h3_numbers_by h4_numbers_by, PySem.W.mg_of X G h1_numbers_by, (fun_mk (st := s_numbers_by) h2_numbers_by h3_numbers_by h4_numbers_by).binds fun _ _ _ _ _ _ us hl => match us, hl with | [_, _, _, _], _ => rfl⟩
  f__law_raised := ⟨a__law_raised, _, fun_mk (st := s__law_raised) h2__law_raised h3__law_raised h4__law_raised, PySem.W.mg_of X G h1__law_raised, (fun_mk (st := s__law_raised) h2__law_raised h3__law_raised h4__law_raised).binds fun _ _ _ _ _ _ us hl => match us, hl with | [_, _], _ => rfl⟩
  f__law_wanted := ⟨a__law_wanted, _, fun_mk (st := s__law_wanted) h2__law_wanted h3__law_wanted h4__law_wanted, PySem.W.mg_of X G h1__law_wanted, (fun_mk (st := s__law_wanted) h2__law_wanted h3__law_wanted h4__law_wanted).binds fun _ _ _ _ _ _ us hl => match us, hl with | [_, _, _, _], _ => rfl⟩
  f__law_behind := ⟨a__law_behind, _, fun_mk (st := s__law_behind) h2__law_behind h3__law_behind h4__law_behind, PySem.W.mg_of X G h1__law_behind, (fun_mk (st := s__law_behind) h2__law_behind h3__law_behind h4__law_behind).binds fun _ _ _ _ _ _ us hl => match us, hl with | [_, _, _], _ => rfl⟩
  f__law_gone_on := ⟨a__law_gone_on, _, fun_mk (st := s__law_gone_on) h2__law_gone_on h3__law_gone_on h4__law_gone_on, PySem.W.mg_of X G h1__law_gone_on, (fun_mk (st := s__law_gone_on) h2__law_gone_on h3__law_gone_on h4__law_gone_on).binds fun _ _ _ _ _ _ us hl => match us, hl with | [_, _, _, _], _ => rfl⟩
  f__law_row := ⟨a__law_row, _, fun_mk (st := s__law_row) h2__law_row h3__law_row h4__law_row, PySem.W.mg_of X G h1__law_row, (fun_mk (st := s__law_row) h2__law_row h3__law_row h4__law_row).binds fun _ _ _ _ _ _ us hl => match us, hl with | [_], _ => rfl⟩
  f_fixed := ⟨a_fixed, _, fun_mk (st := s_fixed) h2_fixed h3_fixed h4_fixed, PySem.W.mg_of X G h1_fixed, (fun_mk (st := s_fixed) h2_fixed h3_fixed h4_fixed).binds fun _ _ _ _ _ _ us hl => match us, hl with | [_], _ => rfl⟩
  f__law_power := ⟨a__law_power, _, fun_mk (st := s__law_power) h2__law_power h3__law_power h4__law_power, PySem.W.mg_of X G h1__law_power, (fun_mk (st := s__law_power) h2__law_power h3__law_power h4__law_power).binds fun _ _ _ _ _ _ us hl => match us, hl with | [_, _, _], _ => rfl⟩
  f__law_is_by := ⟨a__law_is_by, _, fun_mk (st := s__law_is_by) h2__law_is_by h3__law_is_by h4__law_is_by, PySem.W.mg_of X G h1__law_is_by, (fun_mk (st := s__law_is_by) h2__law_is_by h3__law_is_by h4__law_is_by).binds fun _ _ _ _ _ _ us hl => match us, hl with | [_, _, _], _ => rfl⟩
  f__law_due := ⟨a__law_due, _, fun_mk (st := s__law_due) h2__law_due h3__law_due h4__law_due, PySem.W.mg_of X G h1__law_due, (fun_mk (st := s__law_due) h2__law_due h3__law_due h4__law_due).binds fun _ _ _ _ _ _ us hl => match us, hl with | [_], _ => rfl⟩
  f_is_list := ⟨a_is_list, _, fun_mk (st := s_is_list) h2_is_list h3_is_list h4_is_list, PySem.W.mg_of X G h1_is_list, (fun_mk (st := s_is_list) h2_is_list h3_is_list h4_is_list).binds fun _ _ _ _ _ _ us hl => match us, hl with | [_], _ => rfl⟩
  f_need_growing_row := ⟨a_need_growing_row, _, fun_mk (st := s_need_growing_row) h2_need_growing_row h3_need_growing_row h4_need_growing_row, PySem.W.mg_of X G h1_need_growing_row, (fun_mk (st := s_need_growing_row) h2_need_growing_row h3_need_growing_row h4_need_growing_row).binds fun _ _ _ _ _ _ us hl => match us, hl with | [_], _ => rfl⟩
  f_need_growing := ⟨a_need_growing, _, fun_mk (st := s_need_growing) h2_need_growing h3_need_growing h4_need_growing, PySem.W.mg_of X G h1_need_growing, (fun_mk (st := s_need_growing) h2_need_growing h3_need_growing h4_need_growing).binds fun _ _ _ _ _ _ us hl => match us, hl with | [_, _, _, _], _ => rfl⟩
  f_whole_sum := ⟨a_whole_sum, _, fun_mk (st := s_whole_sum) h2_whole_sum h3_whole_sum h4_whole_sum, PySem.W.mg_of X G h1_whole_sum, (fun_mk (st := s_whole_sum) h2_whole_sum h3_whole_sum h4_whole_sum).binds fun _ _ _ _ _ _ us hl => match us, hl with | [_, _, _, _, _], _ => rfl⟩
  f_power_of := ⟨a_power_of, _, fun_mk (st := s_power_of) h2_power_of h3_power_of h4_power_of, PySem.W.mg_of X G h1_power_of, (fun_mk (st := s_power_of) h2_power_of h3_power_of h4_power_of).binds fun _ _ _ _ _ _ us hl => match us, hl with | [_, _, _, _], _ => rfl⟩
  f_is_by_power := ⟨a_is_by_power, _, fun_mk (st := s_is_by_power) h2_is_by_power h3_is_by_power h4_is_by_power, PySem.W.mg_of X G h1_is_by_power, (fun_mk (st := s_is_by_power) h2_is_by_power h3_is_by_power h4_is_by_power).binds fun _ _ _ _ _ _ us hl => match us, hl with | [_, _, _, _, _], _ => rfl⟩
  f_is_step_by := ⟨a_is_step_by, _, fun_mk (st := s_is_step_by) h2_is_step_by h3_is_step_by h4_is_step_by, PySem.W.mg_of X G h1_is_step_by, (fun_mk (st := s_is_step_by) h2_is_step_by h3_is_step_by h4_is_step_by).binds fun _ _ _ _ _ _ us hl => match us, hl with | [_, _, _], _ => rfl⟩
  f_power_of_row := ⟨a_power_of_row, _, fun_mk (st := s_power_of_row) h2_power_of_row h3_power_of_row h4_power_of_row, PySem.W.mg_of X G h1_power_of_row, (fun_mk (st := s_power_of_row) h2_power_of_row h3_power_of_row h4_power_of_row).binds fun _ _ _ _ _ _ us hl => match us, hl with | [_], _ => rfl⟩
  f_is_just := ⟨a_is_just, _, fun_mk (st := s_is_just) h2_is_just h3_is_just h4_is_just, PySem.W.mg_of X G h1_is_just, (fun_mk (st := s_is_just) h2_is_just h3_is_just h4_is_just).binds fun _ _ _ _ _ _ us hl => match us, hl with | [_, _], _ => rfl⟩
  f_shows_power_of_row := ⟨a_shows_power_of_row, _, fun_mk (st := s_shows_power_of_row) h2_shows_power_of_row h3_shows_power_of_row h4_shows_power_of_row, PySem.W.mg_of X G h1_shows_power_of_row, (fun_mk (st := s_shows_power_of_row) h2_shows_power_of_row h3_shows_power_of_row h4_shows_power_of_row).binds fun _ _ _ _ _ _ us hl => match us, hl with | [_, _], _ => rfl⟩
  f__law_told := ⟨a__law_told, _, fun_mk (st := s__law_told) h2__law_told h3__law_told h4__law_told, PySem.W.mg_of X G h1__law_told, (fun_mk (st := s__law_told) h2__law_told h3__law_told h4__law_told).binds fun _ _ _ _ _ _ us hl => match us, hl with | [_], _ => rfl⟩
  f_law := ⟨a_law, _, fun_mk (st := s_law) h2_law h3_law h4_law, PySem.W.mg_of X G h1_law, (fun_mk (st := s_law) h2_law h3_law h4_law).binds fun _ _ _ _ _ _ us hl => match us, hl with | [_], _ => rfl⟩
  t_LEAST_LONG := t_LEAST_LONG
  c_LEAST_LONG := PySem.W.mg_of X G z_LEAST_LONG
  t_LEAST_POWER := t_LEAST_POWER
  c_LEAST_POWER := PySem.W.mg_of X G z_LEAST_POWER
  t_MOST_LONG := t_MOST_LONG
  c_MOST_LONG := PySem.W.mg_of X G z_MOST_LONG
  t_MOST_POWER := t_MOST_POWER
  c_MOST_POWER := PySem.W.mg_of X G z_MOST_POWER
  t_MOST_SMALL := t_MOST_SMALL
  c_MOST_SMALL := PySem.W.mg_of X G z_MOST_SMALL
  n_abs := PySem.W.mg_none_of X G z_abs
  n_all := PySem.W.mg_none_of X G z_all
  n_bool := PySem.W.mg_none_of X G z_bool
  n_int := PySem.W.mg_none_of X G z_int
  n_isinstance := PySem.W.mg_none_of X G z_isinstance
  n_len := PySem.W.mg_none_of X G z_len
  n_list := PySem.W.mg_none_of X G z_list
  n_max := PySem.W.mg_none_of X G z_max
  n_range := PySem.W.mg_none_of X G z_range
  n_repr := PySem.W.mg_none_of X G z_repr
  n_set := PySem.W.mg_none_of X G z_set
  n_sorted := PySem.W.mg_none_of X G z_sorted
  n_str := PySem.W.mg_none_of X G z_str
  n_tuple := PySem.W.mg_none_of X G z_tuple
  n_type := PySem.W.mg_none_of X G z_type
  n_zip := PySem.W.mg_none_of X G z_zip
theorem all_mk {l : PySem.W.OpenLaw} {w : World} {K : PySem.W.Frag} {mg : Str → Option Value} {fa : Addr} (T : Txt K mg) (hfa : mg "law" = some (.ref fa)) :
    ∃ fd : FuncData, (∀ (s : Shared) (v : Value), BindsTo s fd ⟨[v], []⟩ [("_law_script", v)]) ∧ ∀ base : Heap, K.In base → base.Ns mainGlobals mg → FnG l.prog w K mg base 22 fa fd ["_law_script"] (spLaw K) := by
  have e := hfa.symm.trans T.f_law.g
  cases e
  refine ⟨T.f_law.fd, fun s v => ?_, fun base _ _ => (ok_law T).weak fun vs H Q E h => ?_⟩
  · obtain ⟨oc, od, kV, doc, pm, an, cdv, ct, osl, e, lk, hcd⟩ := T.f_law.F.ex
    rw [e]
    exact .of_eq rfl
  · obtain ⟨a, ns, hl, rfl, only, seq, q⟩ := h
    exact law_sp' rfl (law_true ns hl) only seq q
end Q
open PySem PySem.W PyProof.Rows
set_option maxHeartbeats 0 in
theorem PySem.Challenge.cw_fourthlike_k23_rows_of_numbers_by_one_po_holds : PySem.Challenge.rw_fourthlike_k23_rows_of_numbers_by_one_po.Holds := by
  w_on; o_law; k_head; (case hw => w_witness2)
  k_fill
  refine Dl.walk_G (l := PySem.Challenge.rw_fourthlike_k23_rows_of_numbers_by_one_po) (n := 63) (k := 22) (x := "_law_script") (sp := fun w => Dl.spLaw _) rfl (by decide) rfl ⟨rfl, by decide, by decide⟩ (fun w h Y => PySem.W.kIn_of Y) ?F (fun _ _ a ns hl only seq => ⟨a, ns, hl, rfl, only, seq, fun _ => rfl⟩)
  case F =>
    intro w mg fa h KX G hmg
    refine Q.all_mk ?T hmg
    case T =>
      refine' Q.mk_txt KX G ?h1_Denial ?h1_Paper ?h1_Between ?h1_ByPower ?h1_Uneven ?h0_Paper__bool__ ?h2_Paper__bool__ ?h3_Paper__bool__ ?h4_Paper__bool__ ?h0_Paper__eq__ ?h2_Paper__eq__ ?h3_Paper__eq__ ?h4_Paper__eq__ ?h0_Denial__bool__ ?h2_Denial__bool__ ?h3_Denial__bool__ ?h4_Denial__bool__ ?h0_Denial__eq__ ?h2_Denial__eq__ ?h3_Denial__eq__ ?h4_Denial__eq__ ?h0_Denial__init__ ?h2_Denial__init__ ?h3_Denial__init__ ?h4_Denial__init__ ?h0_Between__init__ ?h2_Between__init__ ?h3_Between__init__ ?h4_Between__init__ ?h0_Paper__init__ ?h2_Paper__init__ ?h3_Paper__init__ ?h4_Paper__init__ ?h0_ByPower__init__ ?h2_ByPower__init__ ?h3_ByPower__init__ ?h4_ByPower__init__ ?h0_Uneven__init__ ?h2_Uneven__init__ ?h3_Uneven__init__ ?h4_Uneven__init__ ?pg_Denial ?hd_Denial ?po_Denial ?sa_Denial ?mk_Denial ?kc_Denial ?ha_Denial ?hm_Denial ?na_Denial_low ?na_Denial_parts ?na_Denial_power ?na_Denial_step ?na_Denial_word ?mi_Denial ?qe_Denial ?qn_Denial ?qb_Denial ?r1_Denial ?r2_Denial ?r3_Denial__init__ ?is_Denial_Denial ?is_Denial_Paper ?is_Denial_Between ?is_Denial_ByPower ?is_Denial_Uneven ?pg_Paper ?hd_Paper ?po_Paper ?sa_Paper ?mk_Paper ?kc_Paper ?ha_Paper ?hm_Paper ?na_Paper_low ?na_Paper_parts ?na_Paper_power ?na_Paper_step ?na_Paper_word ?mi_Paper ?qe_Paper ?qn_Paper ?qb_Paper ?r1_Paper ?r2_Paper ?r3_Paper__init__ ?is_Paper_Denial ?is_Paper_Paper ?is_Paper_Between ?is_Paper_ByPower ?is_Paper_Uneven ?pg_Between ?hd_Between ?po_Between ?sa_Between ?mk_Between ?kc_Between ?ha_Between ?hm_Between ?na_Between_low ?na_Between_parts ?na_Between_power ?na_Between_step ?na_Between_word ?mi_Between ?qe_Between ?qn_Between ?qb_Between ?is_Between_Denial ?is_Between_Paper ?is_Between_Between ?is_Between_ByPower ?is_Between_Uneven ?pg_ByPower ?hd_ByPower ?po_ByPower ?sa_ByPower ?mk_ByPower ?kc_ByPower ?ha_ByPower ?hm_ByPower ?na_ByPower_low ?na_ByPower_parts ?na_ByPower_power ?na_ByPower_step ?na_ByPower_word ?mi_ByPower ?qe_ByPower ?qn_ByPower ?qb_ByPower ?is_ByPower_Denial ?is_ByPower_Paper ?is_ByPower_Between ?is_ByPower_ByPower ?is_ByPower_Uneven ?pg_Uneven ?hd_Uneven ?po_Uneven ?sa_Uneven ?mk_Uneven ?kc_Uneven ?ha_Uneven ?hm_Uneven ?na_Uneven_low ?na_Uneven_parts ?na_Uneven_power ?na_Uneven_step ?na_Uneven_word ?mi_Uneven ?qe_Uneven ?qn_Uneven ?qb_Uneven ?is_Uneven_Denial ?is_Uneven_Paper ?is_Uneven_Between ?is_Uneven_ByPower ?is_Uneven_Uneven ?hn_ ?ht_ ?h1__law_hat ?h2__law_hat ?h3__law_hat ?h4__law_hat ?h1__law_lot ?h2__law_lot ?h3__law_lot ?h4__law_lot ?h1__law_one ?h2__law_one ?h3__law_one ?h4__law_one ?h1__law_begun ?h2__law_begun ?h3__law_begun ?h4__law_begun ?h1_is_integer ?h2_is_integer ?h3_is_integer ?h4_is_integer ?h1_is_within ?h2_is_within ?h3_is_within ?h4_is_within ?h1_need_within ?h2_need_within ?h3_need_within ?h4_need_within ?h1_need_numbers ?h2_need_numbers ?h3_need_numbers ?h4_need_numbers ?h1_need_power ?h2_need_power ?h3_need_power ?h4_need_power ?h1_raised ?h2_raised ?h3_raised ?h4_raised ?h1_fourth_quotient ?h2_fourth_quotient ?h3_fourth_quotient ?h4_fourth_quotient ?h1_side_of ?h2_side_of ?h3_side_of ?h4_side_of ?h1_whole_below ?h2_whole_below ?h3_whole_below ?h4_whole_below ?h1_whole_fourth ?h2_whole_fourth ?h3_whole_fourth ?h4_whole_fourth ?h1_numbers_by ?h2_numbers_by ?h3_numbers_by ?h4_numbers_by ?h1__law_raised ?h2__law_raised ?h3__law_raised ?h4__law_raised ?h1__law_wanted ?h2__law_wanted ?h3__law_wanted ?h4__law_wanted ?h1__law_behind ?h2__law_behind ?h3__law_behind ?h4__law_behind ?h1__law_gone_on ?h2__law_gone_on ?h3__law_gone_on ?h4__law_gone_on ?h1__law_row ?h2__law_row ?h3__law_row ?h4__law_row ?h1_fixed ?h2_fixed ?h3_fixed ?h4_fixed ?h1__law_power ?h2__law_power ?h3__law_power ?h4__law_power ?h1__law_is_by ?h2__law_is_by ?h3__law_is_by ?h4__law_is_by ?h1__law_due ?h2__law_due ?h3__law_due ?h4__law_due ?h1_is_list ?h2_is_list ?h3_is_list ?h4_is_list ?h1_need_growing_row ?h2_need_growing_row ?h3_need_growing_row ?h4_need_growing_row ?h1_need_growing ?h2_need_growing ?h3_need_growing ?h4_need_growing ?h1_whole_sum ?h2_whole_sum ?h3_whole_sum ?h4_whole_sum ?h1_power_of ?h2_power_of ?h3_power_of ?h4_power_of ?h1_is_by_power ?h2_is_by_power ?h3_is_by_power ?h4_is_by_power ?h1_is_step_by ?h2_is_step_by ?h3_is_step_by ?h4_is_step_by ?h1_power_of_row ?h2_power_of_row ?h3_power_of_row ?h4_power_of_row ?h1_is_just ?h2_is_just ?h3_is_just ?h4_is_just ?h1_shows_power_of_row ?h2_shows_power_of_row ?h3_shows_power_of_row ?h4_shows_power_of_row ?h1__law_told ?h2__law_told ?h3__law_told ?h4__law_told ?h1_law ?h2_law ?h3_law ?h4_law ?z_LEAST_LONG ?z_LEAST_POWER ?z_MOST_LONG ?z_MOST_POWER ?z_MOST_SMALL ?z_abs ?z_all ?z_bool ?z_int ?z_isinstance ?z_len ?z_list ?z_max ?z_range ?z_repr ?z_set ?z_sorted ?z_str ?z_tuple ?z_type ?z_zip
      (case h1_Denial => k_is)
      (case h1_Paper => k_is)
      (case h1_Between => k_is)
      (case h1_ByPower => k_is)
      (case h1_Uneven => k_is)
      (case h1__law_hat => k_is)
      (case h1__law_lot => k_is)
      (case h1__law_one => k_is)
      (case h1__law_begun => k_is)
      (case h1_is_integer => k_is)
      (case h1_is_within => k_is)
      (case h1_need_within => k_is)
      (case h1_need_numbers => k_is)
      (case h1_need_power => k_is)
      (case h1_raised => k_is)
      (case h1_fourth_quotient => k_is)
      (case h1_side_of => k_is)
      (case h1_whole_below => k_is)
      (case h1_whole_fourth => k_is)
      (case h1_numbers_by => k_is)
      (case h1__law_raised => k_is)
      (case h1__law_wanted => k_is)
      (case h1__law_behind => k_is)
      (case h1__law_gone_on => k_is)
      (case h1__law_row => k_is)
      (case h1_fixed => k_is)
      (case h1__law_power => k_is)
      (case h1__law_is_by => k_is)
      (case h1__law_due => k_is)
      (case h1_is_list => k_is)
      (case h1_need_growing_row => k_is)
      (case h1_need_growing => k_is)
      (case h1_whole_sum => k_is)
      (case h1_power_of => k_is)
      (case h1_is_by_power => k_is)
      (case h1_is_step_by => k_is)
      (case h1_power_of_row => k_is)
      (case h1_is_just => k_is)
      (case h1_shows_power_of_row => k_is)
      (case h1__law_told => k_is)
      (case h1_law => k_is)
      (case mi_Denial => k_is)
      (case qe_Denial => k_is)
      (case qb_Denial => k_is)
      (case r3_Denial__init__ => k_is)
      (case mi_Paper => k_is)
      (case qe_Paper => k_is)
      (case qb_Paper => k_is)
      (case r3_Paper__init__ => k_is)
      (case mi_Between => k_is)
      (case qe_Between => k_is)
      (case qb_Between => k_is)
      (case mi_ByPower => k_is)
      (case qe_ByPower => k_is)
      (case qb_ByPower => k_is)
      (case mi_Uneven => k_is)
      (case qe_Uneven => k_is)
      (case qb_Uneven => k_is)
      (case h0_Paper__bool__ => k_is)
      (case h2_Paper__bool__ => k_is)
      (case h3_Paper__bool__ => k_is)
      (case h4_Paper__bool__ => k_is)
      (case h0_Paper__eq__ => k_is)
      (case h2_Paper__eq__ => k_is)
      (case h3_Paper__eq__ => k_is)
      (case h4_Paper__eq__ => k_is)
      (case h0_Denial__bool__ => k_is)
      (case h2_Denial__bool__ => k_is)
      (case h3_Denial__bool__ => k_is)
      (case h4_Denial__bool__ => k_is)
      (case h0_Denial__eq__ => k_is)
      (case h2_Denial__eq__ => k_is)
      (case h3_Denial__eq__ => k_is)
      (case h4_Denial__eq__ => k_is)
      (case h0_Denial__init__ => k_is)
      (case h2_Denial__init__ => k_is)
      (case h3_Denial__init__ => k_is)
      (case h4_Denial__init__ => k_is)
      (case h0_Between__init__ => k_is)
      (case h2_Between__init__ => k_is)
      (case h3_Between__init__ => k_is)
      (case h4_Between__init__ => k_is)
      (case h0_Paper__init__ => k_is)
      (case h2_Paper__init__ => k_is)
      (case h3_Paper__init__ => k_is)
      (case h4_Paper__init__ => k_is)
      (case h0_ByPower__init__ => k_is)
      (case h2_ByPower__init__ => k_is)
      (case h3_ByPower__init__ => k_is)
      (case h4_ByPower__init__ => k_is)
      (case h0_Uneven__init__ => k_is)
      (case h2_Uneven__init__ => k_is)
      (case h3_Uneven__init__ => k_is)
      (case h4_Uneven__init__ => k_is)
      (case pg_Denial => k_is)
      (case hd_Denial => k_is)
      (case po_Denial => k_is)
      (case sa_Denial => k_is)
      (case mk_Denial => k_is)
      (case kc_Denial => k_is)
      (case ha_Denial => k_is)
      (case hm_Denial => k_is)
      (case na_Denial_low => k_is)
      (case na_Denial_parts => k_is)
      (case na_Denial_power => k_is)
      (case na_Denial_step => k_is)
      (case na_Denial_word => k_is)
      (case qn_Denial => k_is)
      (case r1_Denial => k_is)
      (case r2_Denial => k_is)
      (case is_Denial_Denial => kit_is)
      (case is_Denial_Paper => kit_is)
      (case is_Denial_Between => kit_is)
      (case is_Denial_ByPower => kit_is)
      (case is_Denial_Uneven => kit_is)
      (case pg_Paper => k_is)
      (case hd_Paper => k_is)
      (case po_Paper => k_is)
      (case sa_Paper => k_is)
      (case mk_Paper => k_is)
      (case kc_Paper => k_is)
      (case ha_Paper => k_is)
      (case hm_Paper => k_is)
      (case na_Paper_low => k_is)
      (case na_Paper_parts => k_is)
      (case na_Paper_power => k_is)
      (case na_Paper_step => k_is)
      (case na_Paper_word => k_is)
      (case qn_Paper => k_is)
      (case r1_Paper => k_is)
      (case r2_Paper => k_is)
      (case is_Paper_Denial => kit_is)
      (case is_Paper_Paper => kit_is)
      (case is_Paper_Between => kit_is)
      (case is_Paper_ByPower => kit_is)
      (case is_Paper_Uneven => kit_is)
      (case pg_Between => k_is)
      (case hd_Between => k_is)
      (case po_Between => k_is)
      (case sa_Between => k_is)
      (case mk_Between => k_is)
      (case kc_Between => k_is)
      (case ha_Between => k_is)
      (case hm_Between => k_is)
      (case na_Between_low => k_is)
      (case na_Between_parts => k_is)
      (case na_Between_power => k_is)
      (case na_Between_step => k_is)
      (case na_Between_word => k_is)
      (case qn_Between => k_is)
      (case is_Between_Denial => kit_is)
      (case is_Between_Paper => kit_is)
      (case is_Between_Between => kit_is)
      (case is_Between_ByPower => kit_is)
      (case is_Between_Uneven => kit_is)
      (case pg_ByPower => k_is)
      (case hd_ByPower => k_is)
      (case po_ByPower => k_is)
      (case sa_ByPower => k_is)
      (case mk_ByPower => k_is)
      (case kc_ByPower => k_is)
      (case ha_ByPower => k_is)
      (case hm_ByPower => k_is)
      (case na_ByPower_low => k_is)
      (case na_ByPower_parts => k_is)
      (case na_ByPower_power => k_is)
      (case na_ByPower_step => k_is)
      (case na_ByPower_word => k_is)
      (case qn_ByPower => k_is)
      (case is_ByPower_Denial => kit_is)
      (case is_ByPower_Paper => kit_is)
      (case is_ByPower_Between => kit_is)
      (case is_ByPower_ByPower => kit_is)
      (case is_ByPower_Uneven => kit_is)
      (case pg_Uneven => k_is)
      (case hd_Uneven => k_is)
      (case po_Uneven => k_is)
      (case sa_Uneven => k_is)
      (case mk_Uneven => k_is)
      (case kc_Uneven => k_is)
      (case ha_Uneven => k_is)
      (case hm_Uneven => k_is)
      (case na_Uneven_low => k_is)
      (case na_Uneven_parts => k_is)
      (case na_Uneven_power => k_is)
      (case na_Uneven_step => k_is)
      (case na_Uneven_word => k_is)
      (case qn_Uneven => k_is)
      (case is_Uneven_Denial => kit_is)
      (case is_Uneven_Paper => kit_is)
      (case is_Uneven_Between => kit_is)
      (case is_Uneven_ByPower => kit_is)
      (case is_Uneven_Uneven => kit_is)
      (case hn_ => k_is)
      (case ht_ => k_is)
      (case h2__law_hat => k_is)
      (case h3__law_hat => k_is)
      (case h4__law_hat => k_is)
      (case h2__law_lot => k_is)
      (case h3__law_lot => k_is)
      (case h4__law_lot => k_is)
      (case h2__law_one => k_is)
      (case h3__law_one => k_is)
      (case h4__law_one => k_is)
      (case h2__law_begun => k_is)
      (case h3__law_begun => k_is)
      (case h4__law_begun => k_is)
      (case h2_is_integer => k_is)
      (case h3_is_integer => k_is)
      (case h4_is_integer => k_is)
      (case h2_is_within => k_is)
      (case h3_is_within => k_is)
      (case h4_is_within => k_is)
      (case h2_need_within => k_is)
      (case h3_need_within => k_is)
      (case h4_need_within => k_is)
      (case h2_need_numbers => k_is)
      (case h3_need_numbers => k_is)
      (case h4_need_numbers => k_is)
      (case h2_need_power => k_is)
      (case h3_need_power => k_is)
      (case h4_need_power => k_is)
      (case h2_raised => k_is)
      (case h3_raised => k_is)
      (case h4_raised => k_is)
      (case h2_fourth_quotient => k_is)
      (case h3_fourth_quotient => k_is)
      (case h4_fourth_quotient => k_is)
      (case h2_side_of => k_is)
      (case h3_side_of => k_is)
      (case h4_side_of => k_is)
      (case h2_whole_below => k_is)
      (case h3_whole_below => k_is)
      (case h4_whole_below => k_is)
      (case h2_whole_fourth => k_is)
      (case h3_whole_fourth => k_is)
      (case h4_whole_fourth => k_is)
      (case h2_numbers_by => k_is)
      (case h3_numbers_by => k_is)
      (case h4_numbers_by => k_is)
      (case h2__law_raised => k_is)
      (case h3__law_raised => k_is)
      (case h4__law_raised => k_is)
      (case h2__law_wanted => k_is)
      (case h3__law_wanted => k_is)
      (case h4__law_wanted => k_is)
      (case h2__law_behind => k_is)
      (case h3__law_behind => k_is)
      (case h4__law_behind => k_is)
      (case h2__law_gone_on => k_is)
      (case h3__law_gone_on => k_is)
      (case h4__law_gone_on => k_is)
      (case h2__law_row => k_is)
      (case h3__law_row => k_is)
      (case h4__law_row => k_is)
      (case h2_fixed => k_is)
      (case h3_fixed => k_is)
      (case h4_fixed => k_is)
      (case h2__law_power => k_is)
      (case h3__law_power => k_is)
      (case h4__law_power => k_is)
      (case h2__law_is_by => k_is)
      (case h3__law_is_by => k_is)
      (case h4__law_is_by => k_is)
      (case h2__law_due => k_is)
      (case h3__law_due => k_is)
      (case h4__law_due => k_is)
      (case h2_is_list => k_is)
      (case h3_is_list => k_is)
      (case h4_is_list => k_is)
      (case h2_need_growing_row => k_is)
      (case h3_need_growing_row => k_is)
      (case h4_need_growing_row => k_is)
      (case h2_need_growing => k_is)
      (case h3_need_growing => k_is)
      (case h4_need_growing => k_is)
      (case h2_whole_sum => k_is)
      (case h3_whole_sum => k_is)
      (case h4_whole_sum => k_is)
      (case h2_power_of => k_is)
      (case h3_power_of => k_is)
      (case h4_power_of => k_is)
      (case h2_is_by_power => k_is)
      (case h3_is_by_power => k_is)
      (case h4_is_by_power => k_is)
      (case h2_is_step_by => k_is)
      (case h3_is_step_by => k_is)
      (case h4_is_step_by => k_is)
      (case h2_power_of_row => k_is)
      (case h3_power_of_row => k_is)
      (case h4_power_of_row => k_is)
      (case h2_is_just => k_is)
      (case h3_is_just => k_is)
      (case h4_is_just => k_is)
      (case h2_shows_power_of_row => k_is)
      (case h3_shows_power_of_row => k_is)
      (case h4_shows_power_of_row => k_is)
      (case h2__law_told => k_is)
      (case h3__law_told => k_is)
      (case h4__law_told => k_is)
      (case h2_law => k_is)
      (case h3_law => k_is)
      (case h4_law => k_is)
      (case z_LEAST_LONG => k_is)
      (case z_LEAST_POWER => k_is)
      (case z_MOST_LONG => k_is)
      (case z_MOST_POWER => k_is)
      (case z_MOST_SMALL => k_is)
      (case z_abs => k_is)
      (case z_all => k_is)
      (case z_bool => k_is)
      (case z_int => k_is)
      (case z_isinstance => k_is)
      (case z_len => k_is)
      (case z_list => k_is)
      (case z_max => k_is)
      (case z_range => k_is)
      (case z_repr => k_is)
      (case z_set => k_is)
      (case z_sorted => k_is)
      (case z_str => k_is)
      (case z_tuple => k_is)
      (case z_type => k_is)
      (case z_zip => k_is)

