import PyProof.Rows.All
import HandS.ForMost
import HandS.Iter
import HandS.ForExc
import HandS.Evl
import HandS.Wide
import HandS.Gcd
import HandS.IsInst
import HandS.CallSlots
import HandS.WordsExc
import HandS.Ends
import HandS.Property
import HandS.TupAny
import HandS.TupMul
import HandS.DictComp
import PyProof.NoPylong
import HandS.RaiseMore
import HandS.Style
import HandS.Rev
import HandS.RevRange
import KE.GoesEnum
import KE.DataAny
import KE.KRevSl
import HandS.Dict
import HandS.Conv
import HandS.DeepEq
import HandS.SortInts
import HandS.Small
import KE.KMathG
import KE.DatumOrd
import HandS.ListEq
import PyProof.NeKinds
import HandS.DictEq
import HandS.SetFor
import HandS.OwnIter
import HandS.IterVal
import KE.KOwnIter
import KE.DataMinMax
import PyProof.DictWalks
import HandS.Records
import HandS.More
import PyProof.TupleOfSeq
import PyProof.Rows.Range3
import KE.KDictSum
import KE.KTupSum
import PySem.Challenge.RW_wholerises_k14_whole_depths_and_jumps
set_option Elab.async false
set_option linter.all false
set_option maxRecDepth 100000
set_option exponentiation.threshold 5000
namespace DF
open PySem PySem.Spec PyProof.Rows L2

/-- data, as trees -/
inductive D where
  | non | bl (b : Bool) | int (i : Int) | str (x : Str)
  | tup (l : List D) | lst (l : List D) | dic (l : List (Key × D)) | fro (l : List D)
  | obj (c : Str) (fs : List (Str × D))

/-- what a slot holds: data that stays, or a list or dict that only this frame (io: only the caller's one name) reaches -/
inductive Cell where
  | val (d : D)
  | mu (io : Bool) (d : D)
abbrev DEnv := List (Option Cell)
abbrev Sl := L2.St

mutual
inductive Is (K : PySem.W.Frag) (G : Hp) : D → V → Prop
  | non : Is K G .non .non
  | bl (b : Bool) : Is K G (.bl b) (.bl b)
  | int (i : Int) : Is K G (.int i) (.int i)
  | str (x : Str) : Is K G (.str x) (.str x)
  | tup {l : List D} {a : Addr} {xs : List V} : SqT K G a xs → Iss K G l xs → Is K G (.tup l) (.ref a)
  | lst {l : List D} {a : Addr} {xs : List V} : G a = some (.lst xs) → Iss K G l xs → Is K G (.lst l) (.ref a)
  | dic {l : List (Key × D)} {a : Addr} {o : Obj} {kvs : List (Key × V)} : G a = some (.frz o (.dK kvs)) → Isk K G l kvs → Is K G (.dic l) (.ref a)
  | fro {l : List D} {a : Addr} {xs : List V} : SqL K G a xs → Iss K G l xs → Is K G (.fro l) (.ref a)
  | obj {c : Str} {fs : List (Str × D)} {a C dx : Addr} {fv : List (Str × V)} : G a = some (.ins C dx fv) → PySem.W.nsIn K mainGlobals c = some (some (.ref C)) → Isf K G fs fv → Is K G (.obj c fs) (.ref a)
inductive Iss (K : PySem.W.Frag) (G : Hp) : List D → List V → Prop
  | nil : Iss K G [] []
  | cons {d : D} {v : V} {l : List D} {xs : List V} : Is K G d v → Iss K G l xs → Iss K G (d :: l) (v :: xs)
inductive Isk (K : PySem.W.Frag) (G : Hp) : List (Key × D) → List (Key × V) → Prop
  | nil : Isk K G [] []
  | cons {k : Key} {d : D} {v : V} {l : List (Key × D)} {xs : List (Key × V)} : Is K G d v → Isk K G l xs → Isk K G ((k, d) :: l) ((k, v) :: xs)
inductive Isf (K : PySem.W.Frag) (G : Hp) : List (Str × D) → List (Str × V) → Prop
  | nil : Isf K G [] []
  | cons {k : Str} {d : D} {v : V} {l : List (Str × D)} {xs : List (Str × V)} : Is K G d v → Isf K G l xs → Isf K G ((k, d) :: l) ((k, v) :: xs)
end
section
variable {K : PySem.W.Frag} {G G' : Hp}
mutual
theorem Is.mono (e : Evl.Ex G G') : ∀ {d : D} {v : V}, Is K G d v → Is K G' d v
  | _, _, .non => .non
  | _, _, .bl b => .bl b
  | _, _, .int i => .int i
  | _, _, .str x => .str x
  | _, _, .tup h r => .tup (Evl.ex_t e h) (Iss.mono e r)
  | _, _, .lst h r => .lst (e _ _ h) (Iss.mono e r)
  | _, _, .dic h r => .dic (e _ _ h) (Isk.mono e r)
  | _, _, .fro h r => .fro (Evl.ex_l e h) (Iss.mono e r)
  | _, _, .obj h n r => .obj (e _ _ h) n (Isf.mono e r)
theorem Iss.mono (e : Evl.Ex G G') : ∀ {l : List D} {xs : List V}, Iss K G l xs → Iss K G' l xs
  | _, _, .nil => .nil
  | _, _, .cons h r => .cons (Is.mono e h) (Iss.mono e r)
theorem Isk.mono (e : Evl.Ex G G') : ∀ {l : List (Key × D)} {xs : List (Key × V)}, Isk K G l xs → Isk K G' l xs
  | _, _, .nil => .nil
  | _, _, .cons h r => .cons (Is.mono e h) (Isk.mono e r)
theorem Isf.mono (e : Evl.Ex G G') : ∀ {l : List (Str × D)} {xs : List (Str × V)}, Isf K G l xs → Isf K G' l xs
  | _, _, .nil => .nil
  | _, _, .cons h r => .cons (Is.mono e h) (Isf.mono e r)
end
theorem Iss.length : ∀ {l : List D} {xs : List V}, Iss K G l xs → l.length = xs.length
  | _, _, .nil => rfl
  | _, _, .cons _ r => congrArg (· + 1) (Iss.length r)
theorem Isk.length : ∀ {l : List (Key × D)} {xs : List (Key × V)}, Isk K G l xs → l.length = xs.length
  | _, _, .nil => rfl
  | _, _, .cons _ r => congrArg (· + 1) (Isk.length r)
theorem Iss.get : ∀ {l : List D} {xs : List V} {i : Nat} {d : D}, Iss K G l xs → l[i]? = some d → ∃ v, xs[i]? = some v ∧ Is K G d v
  | _, _, _, _, .nil, e => by simp at e
  | _, _, 0, _, .cons h _, e => by simp at e; subst e; exact ⟨_, rfl, h⟩
  | _, _, i + 1, d, .cons _ r, e => by
    obtain ⟨v, h1, h2⟩ := Iss.get (i := i) (d := d) r (by simpa using e)
    exact ⟨v, by simpa using h1, h2⟩
theorem Iss.getV : ∀ {l : List D} {xs : List V} {i : Nat} {v : V}, Iss K G l xs → xs[i]? = some v → ∃ d, l[i]? = some d ∧ Is K G d v
  | _, _, _, _, .nil, e => by simp at e
  | _, _, 0, _, .cons h _, e => by simp at e; subst e; exact ⟨_, rfl, h⟩
  | _, _, i + 1, d, .cons _ r, e => by
    obtain ⟨v, h1, h2⟩ := Iss.getV (i := i) (v := d) r (by simpa using e)
    exact ⟨v, by simpa using h1, h2⟩
theorem Iss.append : ∀ {l m : List D} {xs ys : List V}, Iss K G l xs → Iss K G m ys → Iss K G (l ++ m) (xs ++ ys)
  | _, _, _, _, .nil, s => s
  | _, _, _, _, .cons h r, s => .cons h (Iss.append r s)
theorem Iss.set {d : D} {v : V} (h : Is K G d v) : ∀ {l : List D} {xs : List V} (i : Nat), Iss K G l xs → Iss K G (l.set i d) (xs.set i v)
  | _, _, _, .nil => .nil
  | _, _, 0, .cons _ r => .cons h r
  | _, _, i + 1, .cons q r => .cons q (Iss.set h i r)
theorem Iss.take : ∀ {l : List D} {xs : List V} (n : Nat), Iss K G l xs → Iss K G (l.take n) (xs.take n)
  | _, _, 0, _ => .nil
  | _, _, _ + 1, .nil => .nil
  | _, _, n + 1, .cons q r => .cons q (Iss.take n r)
theorem Iss.drop : ∀ {l : List D} {xs : List V} (n : Nat), Iss K G l xs → Iss K G (l.drop n) (xs.drop n)
  | _, _, 0, r => r
  | _, _, _ + 1, .nil => .nil
  | _, _, n + 1, .cons _ r => Iss.drop n r
theorem Iss.reverse : ∀ {l : List D} {xs : List V}, Iss K G l xs → Iss K G l.reverse xs.reverse
  | _, _, .nil => .nil
  | _, _, .cons q r => by rw [List.reverse_cons, List.reverse_cons]; exact (Iss.reverse r).append (.cons q .nil)
theorem Iss.rep : ∀ {l : List D} {xs : List V} (n : Nat), Iss K G l xs → Iss K G (List.replicate n l).flatten (List.replicate n xs).flatten
  | _, _, 0, _ => .nil
  | _, _, n + 1, r => by rw [List.replicate_succ, List.replicate_succ, List.flatten_cons, List.flatten_cons]; exact r.append (Iss.rep n r)
theorem Iss.ints : ∀ {ns : List Int} {xs : List V}, Iss K G (ns.map D.int) xs → xs = ns.map V.int
  | [], _, .nil => rfl
  | _ :: _, _, .cons (.int _) r => by rw [Iss.ints r]; rfl
theorem Iss.of_ints : ∀ ns : List Int, Iss K G (ns.map D.int) (ns.map V.int)
  | [] => .nil
  | n :: r => .cons (.int n) (Iss.of_ints r)
theorem Iss.bls : ∀ {ns : List Bool} {xs : List V}, Iss K G (ns.map D.bl) xs → xs = ns.map V.bl
  | [], _, .nil => rfl
  | _ :: _, _, .cons (.bl _) r => by rw [Iss.bls r]; rfl
end

/-- what stands at the address of a list or dict of one's own -/
def Cont (K : PySem.W.Frag) (G H : Hp) (a : Addr) : D → Prop
  | .lst l => ∃ xs, H a = some (.lst xs) ∧ Iss K G l xs
  | .dic l => ∃ kvs, H a = some (.dK kvs) ∧ Isk K G l kvs
  | .obj c fs => ∃ C dx fv, H a = some (.ins C dx fv) ∧ PySem.W.nsIn K mainGlobals c = some (some (.ref C)) ∧ Isf K G fs fv
  | _ => False
theorem Cont.mono {K : PySem.W.Frag} {G G' H H' : Hp} {a : Addr} {d : D} (e : Evl.Ex G G') (h : ∀ o, H a = some o → H' a = some o) (c : Cont K G H a d) : Cont K G' H' a d := by
  cases d with
  | lst l => obtain ⟨xs, h1, h2⟩ := c; exact ⟨xs, h _ h1, h2.mono e⟩
  | dic l => obtain ⟨xs, h1, h2⟩ := c; exact ⟨xs, h _ h1, h2.mono e⟩
  | obj cn fs => obtain ⟨C, dx, fv, h1, h2, h3⟩ := c; exact ⟨C, dx, fv, h _ h1, h2, h3.mono e⟩
  | _ => exact False.elim c
theorem Cont.there {K : PySem.W.Frag} {G H : Hp} {a : Addr} {d : D} (c : Cont K G H a d) : ∃ o, H a = some o := by
  cases d with
  | lst l => obtain ⟨xs, h1, _⟩ := c; exact ⟨_, h1⟩
  | dic l => obtain ⟨xs, h1, _⟩ := c; exact ⟨_, h1⟩
  | obj cn fs => obtain ⟨C, dx, fv, h1, _⟩ := c; exact ⟨_, h1⟩
  | _ => exact False.elim c

structure Rep (K : PySem.W.Frag) (G H : Hp) (ρ : DEnv) (σ : Sl) : Prop where
  sub : Evl.Ex G H
  len : ρ.length = σ.length
  vl : ∀ (i : Nat) (d : D), ρ[i]? = some (some (.val d)) → ∃ v, σ[i]? = some (some v) ∧ Is K G d v
  mu : ∀ (i : Nat) (b : Bool) (d : D), ρ[i]? = some (some (.mu b d)) → ∃ a, σ[i]? = some (some (.ref a)) ∧ G a = none ∧ Cont K G H a d
  ap : ∀ (i j : Nat) (b c : Bool) (d e : D) (a : Addr), ρ[i]? = some (some (.mu b d)) → ρ[j]? = some (some (.mu c e)) → σ[i]? = some (some (.ref a)) → σ[j]? = some (some (.ref a)) → i = j
def Mu (b : Bool) (ρ : DEnv) (σ : Sl) (a : Addr) : Prop := ∃ (i : Nat) (d : D), ρ[i]? = some (some (.mu b d)) ∧ σ[i]? = some (some (.ref a))

/-- from one state to a later one -/
structure Stp (ρ : DEnv) (σ : Sl) (G H : Hp) (ρ' : DEnv) (σ' : Sl) (G' H' : Hp) : Prop where
  g : Evl.Ex G G'
  h : ∀ b o, ¬ Mu false ρ σ b → ¬ Mu true ρ σ b → H b = some o → H' b = some o
  t : ∀ b, H' b = none → H b = none
  n : ∀ b, G b = none → G' b ≠ none → H b = none ∨ Mu false ρ σ b
  ow : ∀ b, Mu false ρ' σ' b → Mu false ρ σ b ∨ H b = none
  io : ∀ (i : Nat), (∀ d, ρ[i]? = some (some (.mu true d)) → ∃ d', ρ'[i]? = some (some (.mu true d')) ∧ σ'[i]? = σ[i]?) ∧ (∀ d, ρ'[i]? = some (some (.mu true d)) → ∃ d', ρ[i]? = some (some (.mu true d')))
section
variable {K : PySem.W.Frag} {ρ ρ1 ρ2 : DEnv} {σ σ1 σ2 : Sl} {G G1 G2 H H1 H2 : Hp}
theorem Stp.refl : Stp ρ σ G H ρ σ G H := ⟨fun _ _ e => e, fun _ _ _ _ e => e, fun _ e => e, fun _ e q => absurd e q, fun _ e => .inl e, fun _ => ⟨fun d e => ⟨d, e, rfl⟩, fun d e => ⟨d, e⟩⟩⟩
theorem Stp.io_back (a : Stp ρ σ G H ρ1 σ1 G1 H1) {b : Addr} (m : Mu true ρ1 σ1 b) : Mu true ρ σ b := by
  obtain ⟨i, d, e1, e2⟩ := m
  obtain ⟨d0, e0⟩ := (a.io i).2 d e1
  obtain ⟨d', _, e3⟩ := (a.io i).1 d0 e0
  exact ⟨i, d0, e0, e3.symm.trans e2⟩
theorem Stp.trans (R : Rep K G H ρ σ) (a : Stp ρ σ G H ρ1 σ1 G1 H1) (b : Stp ρ1 σ1 G1 H1 ρ2 σ2 G2 H2) : Stp ρ σ G H ρ2 σ2 G2 H2 where
  g := fun c o e => b.g c o (a.g c o e)
  h := fun c o n1 n2 e => b.h c o (fun m => (a.ow c m).elim n1 fun z => by rw [z] at e; cases e) (fun m => n2 (a.io_back m)) (a.h c o n1 n2 e)
  t := fun c e => a.t c (b.t c e)
  n := fun c e q => by
    by_cases h : G1 c = none
    · rcases b.n c h q with z | z
      · exact .inl (a.t c z)
      · rcases a.ow c z with z | z
        · exact .inr z
        · exact .inl z
    · exact a.n c e h
  ow := fun c m => by
    rcases b.ow c m with z | z
    · exact a.ow c z
    · exact .inr (a.t c z)
  io := fun i => ⟨fun d e => by
      obtain ⟨d1, e1, s1⟩ := (a.io i).1 d e
      obtain ⟨d2, e2, s2⟩ := (b.io i).1 d1 e1
      exact ⟨d2, e2, s2.trans s1⟩, fun d e => by
      obtain ⟨d1, e1⟩ := (b.io i).2 d e
      exact (a.io i).2 d1 e1⟩

/-- only new objects -/
structure New (G H G' H' : Hp) : Prop where
  g : Evl.Ex G G'
  h : Evl.Ex H H'
  s : Evl.Ex G' H'
  n : ∀ b, G b = none → G' b ≠ none → H b = none
theorem New.refl (e : Evl.Ex G H) : New G H G H := ⟨fun _ _ e => e, fun _ _ e => e, e, fun _ e q => absurd e q⟩
theorem New.trans (a : New G H G1 H1) (b : New G1 H1 G2 H2) : New G H G2 H2 := ⟨fun c o e => b.g c o (a.g c o e), fun c o e => b.h c o (a.h c o e), b.s, fun c e q => by
  by_cases h : G1 c = none
  · have z := b.n c h q
    cases y : H c with
    | none => rfl
    | some o => rw [a.h c o y] at z; cases z
  · exact a.n c e h⟩
theorem sub_none (e : Evl.Ex G H) {p : Addr} (h : H p = none) : G p = none := by
  cases q : G p with
  | none => rfl
  | some o => rw [e p o q] at h; cases h
theorem New.put {p : Addr} {o : HO} (e : Evl.Ex G H) (h : H p = none) : New G H (upd G p o) (upd H p o) where
  g := Evl.Ex.new (sub_none e h)
  h := Evl.Ex.new h
  s := fun b u q => by
    by_cases z : b = p
    · subst z; rw [upd_same] at q ⊢; exact q
    · rw [upd_ne z] at q ⊢; exact e b u q
  n := fun b q r => by
    by_cases z : b = p
    · subst z; exact h
    · rw [upd_ne z] at r; exact absurd q r
/-- a new object that is not shown -/
theorem New.hid {p : Addr} {o : HO} (e : Evl.Ex G H) (h : H p = none) : New G H G (upd H p o) where
  g := fun _ _ e => e
  h := Evl.Ex.new h
  s := fun b u q => Evl.Ex.new h b u (e b u q)
  n := fun b q r => absurd q r
theorem New.none_back (a : New G H G1 H1) {p : Addr} (h : H1 p = none) : H p = none := by
  cases y : H p with
  | none => rfl
  | some o => rw [a.h p o y] at h; cases h
theorem New.stp (R : Rep K G H ρ σ) (a : New G H G1 H1) : Stp ρ σ G H ρ σ G1 H1 := ⟨a.g, fun b o _ _ e => a.h b o e, fun _ e => a.none_back e, fun b e q => .inl (a.n b e q), fun _ e => .inl e, fun _ => ⟨fun d e => ⟨d, e, rfl⟩, fun d e => ⟨d, e⟩⟩⟩
theorem New.rep (R : Rep K G H ρ σ) (a : New G H G1 H1) : Rep K G1 H1 ρ σ where
  sub := a.s
  len := R.len
  vl := fun i d e => by
    obtain ⟨v, e1, e2⟩ := R.vl i d e
    exact ⟨v, e1, e2.mono a.g⟩
  mu := fun i b d e => by
    obtain ⟨c, e1, e2, e3⟩ := R.mu i b d e
    refine ⟨c, e1, ?_, e3.mono a.g fun o q => a.h c o q⟩
    cases q : G1 c with
    | none => rfl
    | some o =>
      have z := a.n c e2 (by rw [q]; exact fun z => by cases z)
      obtain ⟨o', y⟩ := e3.there
      rw [z] at y; cases y
  ap := R.ap
end
end DF

namespace DF
open PySem PySem.Spec PyProof.Rows L2

/-- an exception: its class, and the one attribute that it keeps -/
structure Exc where
  cls : Value
  fld : Option (Str × D)
inductive R (α : Type) where
  | no
  | ok (ρ : DEnv) (a : α)
  | ex (ρ : DEnv) (e : Exc)
def R.bind {α β : Type} (r : R α) (f : α → DEnv → R β) : R β := match r with
  | .no => .no
  | .ok ρ a => f a ρ
  | .ex ρ e => .ex ρ e
theorem R.bind_ok {α β : Type} {ρ : DEnv} {a : α} {f : α → DEnv → R β} : (R.ok ρ a).bind f = f a ρ := rfl
def ofO {α : Type} (ρ : DEnv) : Option α → R α
  | none => .no
  | some d => .ok ρ d
def EIs (K : PySem.W.Frag) (G H : Hp) (e : Exc) (d : Option Addr) : Prop := match e.fld with
  | none => d = none
  | some (f, x) => ∃ (dd : Addr) (v : V), d = some dd ∧ H dd = some (.xd [(f, v)]) ∧ Is K G x v
/-- what follows from a state -/
def Go (K : PySem.W.Frag) (W : WX) (σ : Sl) (ρ : DEnv) (G H : Hp) {α : Type} (P : α → DEnv → Hp → Hp → Prop) (r : R α) : Prop := match r with
  | .no => False
  | .ok ρ' a => ∀ G' H', Stp ρ σ G H ρ' σ G' H' → Rep K G' H' ρ' σ → P a ρ' G' H'
  | .ex ρ' e => ∀ G' H' d, Stp ρ σ G H ρ' σ G' H' → Rep K G' H' ρ' σ → EIs K G' H' e d → W e.cls d σ H'
section
variable {K : PySem.W.Frag} {W : WX} {σ : Sl} {ρ ρ1 : DEnv} {G G1 H H1 : Hp} {α β : Type} {P P' : α → DEnv → Hp → Hp → Prop} {S : β → DEnv → Hp → Hp → Prop}
theorem Go.imp {r : R α} (h : Go K W σ ρ G H P r) (f : ∀ a ρ' G' H', Stp ρ σ G H ρ' σ G' H' → Rep K G' H' ρ' σ → P a ρ' G' H' → P' a ρ' G' H') : Go K W σ ρ G H P' r := by
  cases r with
  | no => exact h
  | ok ρ' a => exact fun G' H' s R => f a ρ' G' H' s R (h G' H' s R)
  | ex ρ' e => exact h
theorem Go.shift {r : R α} (R0 : Rep K G H ρ σ) (s : Stp ρ σ G H ρ1 σ G1 H1) (h : Go K W σ ρ G H P r) : Go K W σ ρ1 G1 H1 P r := by
  cases r with
  | no => exact h
  | ok ρ' a => exact fun G' H' s' R => h G' H' (s.trans R0 s') R
  | ex ρ' e => exact fun G' H' d s' R => h G' H' d (s.trans R0 s') R
theorem Go.bind {r : R α} {g : α → DEnv → R β} (R0 : Rep K G H ρ σ) (h : Go K W σ ρ G H S (r.bind g)) : Go K W σ ρ G H (fun a ρ' G' H' => Go K W σ ρ' G' H' S (g a ρ')) r := by
  cases r with
  | no => exact h
  | ok ρ' a => exact fun G' H' s R => Go.shift R0 s h
  | ex ρ' e => exact h
end

/-- an operand: what it is at a later state -/
abbrev Th := DEnv → Option D
/-- a value that is looked at here and now -/
def Top (K : PySem.W.Frag) (G H : Hp) (d : D) (v : V) : Prop := match d with
  | .lst l => ∃ a xs, v = .ref a ∧ H a = some (.lst xs) ∧ Iss K G l xs
  | .dic l => ∃ a kvs, v = .ref a ∧ Rd H a (.dK kvs) ∧ Isk K G l kvs
  | .obj c fs => ∃ a C dx fv, v = .ref a ∧ H a = some (.ins C dx fv) ∧ PySem.W.nsIn K mainGlobals c = some (some (.ref C)) ∧ Isf K G fs fv
  | d => Is K G d v
theorem Is.top {K : PySem.W.Frag} {G H : Hp} {d : D} {v : V} (e : Evl.Ex G H) (h : Is K G d v) : Top K G H d v := by
  cases h with
  | lst h r => exact ⟨_, _, rfl, e _ _ h, r⟩
  | dic h r => exact ⟨_, _, rfl, .inr ⟨_, e _ _ h⟩, r⟩
  | obj h n r => exact ⟨_, _, _, _, rfl, e _ _ h, n, r⟩
  | fro h r => exact .fro h r
  | non => exact .non
  | bl b => exact .bl b
  | int i => exact .int i
  | str x => exact .str x
  | tup h r => exact .tup h r
theorem Cont.top {K : PySem.W.Frag} {G H : Hp} {d : D} {a : Addr} (c : Cont K G H a d) : Top K G H d (.ref a) := by
  cases d with
  | lst l => obtain ⟨xs, h1, h2⟩ := c; exact ⟨a, xs, rfl, h1, h2⟩
  | dic l => obtain ⟨xs, h1, h2⟩ := c; exact ⟨a, xs, rfl, .inl h1, h2⟩
  | obj cn fs => obtain ⟨C, dx, fv, h1, h2, h3⟩ := c; exact ⟨a, C, dx, fv, rfl, h1, h2, h3⟩
  | _ => exact False.elim c
/-- the full view of it -/
theorem Top.is {K : PySem.W.Frag} {G H : Hp} {d : D} {v : V} (e : Evl.Ex G H) (h : Top K G H d v) (hn : ∀ l, d ≠ .dic l) : Is K H d v := by
  cases d with
  | lst l => obtain ⟨a, xs, rfl, h1, h2⟩ := h; exact .lst h1 (h2.mono e)
  | dic l => exact absurd rfl (hn l)
  | obj c fs => obtain ⟨a, C, dx, fv, rfl, h1, h2, h3⟩ := h; exact .obj h1 h2 (h3.mono e)
  | non => exact Is.mono e h
  | bl b => exact Is.mono e h
  | int i => exact Is.mono e h
  | str x => exact Is.mono e h
  | tup l => exact Is.mono e h
  | fro l => exact Is.mono e h
inductive Tops (K : PySem.W.Frag) (G H : Hp) : List D → List V → Prop
  | nil : Tops K G H [] []
  | cons {d : D} {v : V} {l : List D} {xs : List V} : Top K G H d v → Tops K G H l xs → Tops K G H (d :: l) (v :: xs)

def tD (K : PySem.W.Frag) (W : WX) (f : DEnv → R D) : TE := fun σ H Q => ∃ ρ G, Rep K G H ρ σ ∧ Go K W σ ρ G H (fun d _ G' H' => ∀ v, Is K G' d v → Q v H') (f ρ)
def OTh (K : PySem.W.Frag) (σ : Sl) (ρ : DEnv) (G H : Hp) (th : Th) (v : V) : Prop := ∀ ρ2 G2 H2 d, Stp ρ σ G H ρ2 σ G2 H2 → Rep K G2 H2 ρ2 σ → th ρ2 = some d → Top K G2 H2 d v
theorem OTh.shift {K : PySem.W.Frag} {σ : Sl} {ρ ρ1 : DEnv} {G G1 H H1 : Hp} {th : Th} {v : V} (R0 : Rep K G H ρ σ) (s : Stp ρ σ G H ρ1 σ G1 H1) (h : OTh K σ ρ G H th v) : OTh K σ ρ1 G1 H1 th v :=
  fun ρ2 G2 H2 d s2 R2 e => h ρ2 G2 H2 d (s.trans R0 s2) R2 e
def tO (K : PySem.W.Frag) (W : WX) (f : DEnv → R Th) : TE := fun σ H Q => ∃ ρ G, Rep K G H ρ σ ∧ Go K W σ ρ G H (fun th ρ' G' H' => ∀ v, OTh K σ ρ' G' H' th v → Q v H') (f ρ)
inductive OThs (K : PySem.W.Frag) (σ : Sl) (ρ : DEnv) (G H : Hp) : List Th → List V → Prop
  | nil : OThs K σ ρ G H [] []
  | cons {t : Th} {v : V} {l : List Th} {xs : List V} : OTh K σ ρ G H t v → OThs K σ ρ G H l xs → OThs K σ ρ G H (t :: l) (v :: xs)
theorem OThs.shift {K : PySem.W.Frag} {σ : Sl} {ρ ρ1 : DEnv} {G G1 H H1 : Hp} (R0 : Rep K G H ρ σ) (s : Stp ρ σ G H ρ1 σ G1 H1) : ∀ {l : List Th} {xs : List V}, OThs K σ ρ G H l xs → OThs K σ ρ1 G1 H1 l xs
  | _, _, .nil => .nil
  | _, _, .cons h r => .cons (h.shift R0 s) (OThs.shift R0 s r)
def ths (l : List Th) (ρ : DEnv) : Option (List D) := match l with
  | [] => some []
  | t :: r => match t ρ with
    | none => none
    | some d => match ths r ρ with
      | none => none
      | some ds => some (d :: ds)
theorem OThs.tops {K : PySem.W.Frag} {σ : Sl} {ρ : DEnv} {G H : Hp} (R0 : Rep K G H ρ σ) : ∀ {l : List Th} {xs : List V} {ds : List D}, OThs K σ ρ G H l xs → ths l ρ = some ds → Tops K G H ds xs
  | _, _, ds, .nil, e => by cases e; exact .nil
  | t :: l, _, ds, .cons h r, e => by
    unfold ths at e
    split at e
    · cases e
    · rename_i d e1
      split at e
      · cases e
      · rename_i ds' e2
        cases e
        exact .cons (h ρ G H d .refl R0 e1) (OThs.tops R0 r e2)
def tAs (K : PySem.W.Frag) (W : WX) (f : DEnv → R (List Th)) : TA := fun σ H Q => ∃ ρ G, Rep K G H ρ σ ∧ Go K W σ ρ G H (fun l ρ' G' H' => ∀ vs, OThs K σ ρ' G' H' l vs → Q vs H') (f ρ)
def tT (K : PySem.W.Frag) (W : WX) (f : DEnv → R Bool) : TT := fun σ H Q => ∃ ρ G, Rep K G H ρ σ ∧ Go K W σ ρ G H (fun b _ _ H' => Q b H') (f ρ)
/-- values that stay, in a row -/
def tDs (K : PySem.W.Frag) (W : WX) (f : DEnv → R (List D)) : TA := fun σ H Q => ∃ ρ G, Rep K G H ρ σ ∧ Go K W σ ρ G H (fun l _ G' H' => ∀ vs, Iss K G' l vs → Q vs H') (f ρ)
/-- a list or dict just made -/
def tF (K : PySem.W.Frag) (W : WX) (f : DEnv → R D) : TE := fun σ H Q => ∃ ρ G, Rep K G H ρ σ ∧
  Go K W σ ρ G H (fun d ρ' G' H' => ∀ a, G' a = none → ¬ Mu false ρ' σ a → ¬ Mu true ρ' σ a → H a = none → Cont K G' H' a d → Q (.ref a) H') (f ρ)

abbrev DE (X : Cx) (W : WX) (e : Expr) (f : DEnv → R D) : Prop := PE X e (tD X.K W f)
abbrev DO (X : Cx) (W : WX) (e : Expr) (f : DEnv → R Th) : Prop := PE X e (tO X.K W f)
abbrev DF' (X : Cx) (W : WX) (e : Expr) (f : DEnv → R D) : Prop := PE X e (tF X.K W f)
abbrev DT (X : Cx) (W : WX) (e : Expr) (f : DEnv → R Bool) : Prop := PT X e (tT X.K W f)
abbrev DA (X : Cx) (W : WX) (es : List Expr) (f : DEnv → R (List Th)) : Prop := PA X es (tAs X.K W f)
abbrev DVs (X : Cx) (W : WX) (es : List Expr) (f : DEnv → R (List D)) : Prop := PA X es (tDs X.K W f)
theorem pe_imp {X : Cx} {e : Expr} {t t' : TE} (h : PE X e t) (i : ∀ σ H Q, t' σ H Q → t σ H Q) : PE X e t' := ⟨fun pins s σ H Q I q => h.run pins s σ H Q I (i σ H Q q)⟩
theorem pt_imp {X : Cx} {e : Expr} {t t' : TT} (h : PT X e t) (i : ∀ σ H Q, t' σ H Q → t σ H Q) : PT X e t' := ⟨fun pins s σ H Q I q => h.run pins s σ H Q I (i σ H Q q)⟩
theorem pw_imp {X : Cx} {e : Expr} {t t' : TT} (h : PW X e t) (i : ∀ σ H Q, t' σ H Q → t σ H Q) : PW X e t' := ⟨fun wh pins s σ H Q I q => h.run wh pins s σ H Q I (i σ H Q q)⟩
theorem pa_imp {X : Cx} {es : List Expr} {t t' : TA} (h : PA X es t) (i : ∀ σ H Q, t' σ H Q → t σ H Q) : PA X es t' := ⟨fun pos pins s σ H Q I q => h.run pos pins s σ H Q I (i σ H Q q)⟩

section
variable {X : Cx} {W : WX} {e : Expr} {es : List Expr} {pos : Pos}
/-! ### names and constants -/
def dC (d : D) : DEnv → R D := fun ρ => .ok ρ d
theorem de_const {d : D} {v : V} (h : PE X e (tC v)) (hv : ∀ G, Is X.K G d v) : DE X W e (dC d) := pe_imp h fun σ H Q ⟨ρ, G, R, h⟩ => h G H .refl R v (hv G)
theorem de_int {i : Int} {j pos} : DE X W (.Constant (.int i) j pos) (dC (.int i)) := de_const pe_int fun _ => .int i
theorem de_bl {b : Bool} {j pos} : DE X W (.Constant (.bool b) j pos) (dC (.bl b)) := de_const pe_bl fun _ => .bl b
theorem de_non {j pos} : DE X W (.Constant .none j pos) (dC .non) := de_const pe_non fun _ => .non
theorem de_str {x : Str} {j pos} : DE X W (.Constant (.str x) j pos) (dC (.str x)) := de_const pe_str fun _ => .str x
/-- a module's whole number -/
theorem de_gint {x : Str} {i : Int} {t : Tok} (hg : Gl X x) (hm : X.mg x = some (.int i t)) (hd : (x == ("__debug__" : Str)) = false := by decide) : DE X W (.Name x pos) (dC (.int i)) := de_const (pe_glob hg hm (show RelV (.int i) (.int i t) from ⟨t, rfl⟩) hd) fun _ => .int i
def look (i : Nat) (ρ : DEnv) : Option D := match ρ[i]? with
  | some (some (.val d)) => some d
  | some (some (.mu _ d)) => some d
  | _ => none
/-- a name's value, to be kept: a list or dict of one's own may not be changed from here on -/
def dVar (i : Nat) : DEnv → R D := fun ρ => match ρ[i]? with
  | some (some (.val d)) => .ok ρ d
  | some (some (.mu false d)) => .ok (ρ.set i (some (.val d))) d
  | _ => .no
/-- a dict of one's own is frozen for good -/
theorem Rep.frozen {K : PySem.W.Frag} {G H : Hp} {ρ : DEnv} {σ : Sl} (R : Rep K G H ρ σ) {i : Nat} {d : D} {a : Addr} {o : HO} (e : ρ[i]? = some (some (.mu false d))) (ea : σ[i]? = some (some (.ref a))) (hi : Is K (upd G a o) d (.ref a)) :
    Stp ρ σ G H (ρ.set i (some (.val d))) σ (upd G a o) (upd H a o) ∧ Rep K (upd G a o) (upd H a o) (ρ.set i (some (.val d))) σ := by
  obtain ⟨a', e1, e2, e3⟩ := R.mu i false d e
  rw [ea] at e1; cases e1
  have eG : Evl.Ex G (upd G a o) := Evl.Ex.new e2
  have eS : Evl.Ex (upd G a o) (upd H a o) := fun b u q => by
    by_cases z : b = a
    · subst z; rw [upd_same] at q ⊢; exact q
    · rw [upd_ne z] at q ⊢; exact R.sub b u q
  have sg : ∀ {j : Nat} {y : Option Cell}, (ρ.set i (some (.val d)))[j]? = some y → (i = j ∧ some (.val d) = y) ∨ (i ≠ j ∧ ρ[j]? = some y) := fun {j y} h => by
    by_cases z : i = j
    · subst z
      by_cases q : i < ρ.length
      · rw [List.getElem?_set_self q] at h
        exact .inl ⟨rfl, Option.some.inj h⟩
      · rw [List.getElem?_eq_none (by rw [List.length_set]; omega)] at h
        cases h
    · rw [List.getElem?_set_ne z] at h
      exact .inr ⟨z, h⟩
  refine ⟨⟨eG, fun b u n1 _ q => ?_, fun b q => ?_, fun b q1 q2 => ?_, fun b ⟨j, d', q1, q2⟩ => ?_, fun j => ⟨fun d' q => ?_, fun d' q => ?_⟩⟩, ⟨eS, by rw [List.length_set]; exact R.len, fun j d' q => ?_, fun j b d' q => ?_, fun j k b c d1 d2 a' q1 q2 q3 q4 => ?_⟩⟩
  · have n : b ≠ a := fun z => by subst z; exact n1 ⟨i, d, e, ea⟩
    rw [upd_ne n]; exact q
  · by_cases z : b = a
    · subst z; rw [upd_same] at q; cases q
    · rw [upd_ne z] at q; exact q
  · by_cases z : b = a
    · subst z; exact .inr ⟨i, d, e, ea⟩
    · rw [upd_ne z] at q2; exact absurd q1 q2
  · rcases sg q1 with ⟨_, z⟩ | ⟨_, z⟩
    · cases z
    · exact .inl ⟨j, d', z, q2⟩
  · have n : i ≠ j := fun z => by subst z; rw [e] at q; cases q
    exact ⟨d', by rw [List.getElem?_set_ne n]; exact q, rfl⟩
  · rcases sg q with ⟨_, z⟩ | ⟨_, z⟩
    · cases z
    · exact ⟨d', z⟩
  · rcases sg q with ⟨z0, z⟩ | ⟨_, z⟩
    · subst z0
      cases z
      exact ⟨_, ea, hi⟩
    · obtain ⟨v, z1, z2⟩ := R.vl j d' z
      exact ⟨v, z1, z2.mono eG⟩
  · rcases sg q with ⟨z0, z⟩ | ⟨z0, z⟩
    · cases z
    · obtain ⟨c, z1, z2, z3⟩ := R.mu j b d' z
      have nc : c ≠ a := fun y => by
        subst y
        exact z0 (R.ap i j false b d d' c e z ea z1)
      exact ⟨c, z1, by rw [upd_ne nc]; exact z2, z3.mono eG fun o q => by rw [upd_ne nc]; exact q⟩
  · rcases sg q1 with ⟨_, z⟩ | ⟨_, z⟩
    · cases z
    · rcases sg q2 with ⟨_, y⟩ | ⟨_, y⟩
      · cases y
      · exact R.ap j k b c d1 d2 a' z y q3 q4
/-- .. as the machine sees it: a list stays as it is, a dict is locked -/
theorem shown_run {X : Cx} {pins : List (Addr × Obj)} {G H : Hp} {ρ : DEnv} {σ : Sl} {s : Shared} (I : Inv X pins σ H s) (R : Rep X.K G H ρ σ) {i : Nat} {d : D} {a : Addr} (e : ρ[i]? = some (some (.mu false d))) (ea : σ[i]? = some (some (.ref a))) :
    ∃ G' H', Inv X pins σ H' s ∧ Stp ρ σ G H (ρ.set i (some (.val d))) σ G' H' ∧ Rep X.K G' H' (ρ.set i (some (.val d))) σ ∧ Is X.K G' d (.ref a) := by
  obtain ⟨a', e1, e2, e3⟩ := R.mu i false d e
  rw [ea] at e1; cases e1
  have same : ∀ o, H a = some o → upd H a o = H := fun o ho => funext fun b => by
    by_cases z : b = a
    · subst z; rw [upd_same]; exact ho.symm
    · rw [upd_ne z]
  cases d with
  | lst l =>
    obtain ⟨xs, q1, q2⟩ := e3
    have hi : Is X.K (upd G a (.lst xs)) (.lst l) (.ref a) := .lst upd_same (q2.mono (Evl.Ex.new e2))
    obtain ⟨s1, R1⟩ := R.frozen e ea hi
    rw [same _ q1] at s1 R1
    exact ⟨_, H, I, s1, R1, hi⟩
  | dic l =>
    obtain ⟨kvs, q1, q2⟩ := e3
    obtain ⟨od, I1⟩ := I.lock q1 trivial
    have hi : Is X.K (upd G a (.frz od (.dK kvs))) (.dic l) (.ref a) := .dic upd_same (q2.mono (Evl.Ex.new e2))
    obtain ⟨s1, R1⟩ := R.frozen e ea hi
    exact ⟨_, _, I1, s1, R1, hi⟩
  | obj c fs =>
    obtain ⟨C, dx, fv, q1, q2, q3⟩ := e3
    have hi : Is X.K (upd G a (.ins C dx fv)) (.obj c fs) (.ref a) := .obj upd_same q2 (q3.mono (Evl.Ex.new e2))
    obtain ⟨s1, R1⟩ := R.frozen e ea hi
    rw [same _ q1] at s1 R1
    exact ⟨_, H, I, s1, R1, hi⟩
  | _ => exact False.elim e3
theorem de_var {i : Nat} (h : PE X e (tVar i)) : DE X W e (dVar i) := ⟨fun pins s σ H Q I ⟨ρ, G, R, hg⟩ => by
  unfold dVar at hg
  split at hg
  · rename_i d e1
    obtain ⟨v, e2, e3⟩ := R.vl i d e1
    exact h.run pins s σ H Q I ⟨v, e2, hg G H .refl R v e3⟩
  · rename_i d e1
    obtain ⟨a, e2, _, _⟩ := R.mu i false d e1
    obtain ⟨G', H', I', s', R', hi⟩ := shown_run I R e1 e2
    exact h.run pins s σ H' Q I' ⟨_, e2, hg G' H' s' R' _ hi⟩
  · exact False.elim hg⟩
/-- a name's value, to be looked at -/
def oVar (i : Nat) : DEnv → R Th := fun ρ => match ρ[i]? with
  | some (some _) => .ok ρ (look i)
  | _ => .no
theorem do_var {i : Nat} (h : PE X e (tVar i)) : DO X W e (oVar i) := pe_imp h fun σ H Q ⟨ρ, G, R, h⟩ => by
  unfold oVar at h
  split at h
  · rename_i c e1
    have key : ∃ v, σ[i]? = some (some v) := by
      cases c with
      | val d => obtain ⟨v, e2, _⟩ := R.vl i d e1; exact ⟨v, e2⟩
      | mu b d => obtain ⟨a, e2, _⟩ := R.mu i b d e1; exact ⟨_, e2⟩
    obtain ⟨v, e2⟩ := key
    refine ⟨v, e2, h G H .refl R v fun ρ2 G2 H2 d s2 R2 e3 => ?_⟩
    unfold look at e3
    split at e3
    · rename_i d' e4
      cases e3
      obtain ⟨v', e5, e6⟩ := R2.vl i _ e4
      rw [e2] at e5; cases e5
      exact e6.top R2.sub
    · rename_i b d' e4
      cases e3
      obtain ⟨a, e5, _, e6⟩ := R2.mu i _ _ e4
      rw [e2] at e5; cases e5
      exact e6.top
    · cases e3
  · exact False.elim h
def oD (f : DEnv → R D) : DEnv → R Th := fun ρ => (f ρ).bind fun d ρ' => .ok ρ' fun _ => some d
theorem do_val {f : DEnv → R D} (h : DE X W e f) : DO X W e (oD f) := pe_imp h fun σ H Q ⟨ρ, G, R, h⟩ =>
  ⟨ρ, G, R, (Go.bind R h).imp fun d ρ' G' H' s R' h v hv => h G' H' .refl R' v fun ρ2 G2 H2 d2 s2 R2 e => by
    cases e
    exact (hv.mono s2.g).top R2.sub⟩
def aNil : DEnv → R (List Th) := fun ρ => .ok ρ []
def aCons (f : DEnv → R Th) (g : DEnv → R (List Th)) : DEnv → R (List Th) := fun ρ => (f ρ).bind fun t ρ1 => (g ρ1).bind fun l ρ2 => .ok ρ2 (t :: l)
theorem da_nil : DA X W [] aNil := pa_imp pa_nil fun σ H Q ⟨ρ, G, R, h⟩ => h G H .refl R [] .nil
theorem da_cons {f : DEnv → R Th} {g : DEnv → R (List Th)} (h1 : DO X W e f) (h2 : DA X W es g) (hs : starEach (e :: es) X.env = (false, eval e X.env) :: starEach es X.env := by rfl) : DA X W (e :: es) (aCons f g) :=
  pa_imp (pa_cons h1 h2 hs) fun σ H Q ⟨ρ, G, R, h⟩ => ⟨ρ, G, R, (Go.bind R h).imp fun t ρ1 G1 H1 s1 R1 h1 v hv =>
    ⟨ρ1, G1, R1, (Go.bind R1 h1).imp fun l ρ2 G2 H2 s2 R2 h2 vs hvs => h2 G2 H2 .refl R2 (v :: vs) (.cons (hv.shift R1 s2) hvs)⟩⟩
def vNil : DEnv → R (List D) := fun ρ => .ok ρ []
def vCons (f : DEnv → R D) (g : DEnv → R (List D)) : DEnv → R (List D) := fun ρ => (f ρ).bind fun t ρ1 => (g ρ1).bind fun l ρ2 => .ok ρ2 (t :: l)
theorem dv_nil : DVs X W [] vNil := pa_imp pa_nil fun σ H Q ⟨ρ, G, R, h⟩ => h G H .refl R [] .nil
theorem dv_cons {f : DEnv → R D} {g : DEnv → R (List D)} (h1 : DE X W e f) (h2 : DVs X W es g) (hs : starEach (e :: es) X.env = (false, eval e X.env) :: starEach es X.env := by rfl) : DVs X W (e :: es) (vCons f g) :=
  pa_imp (pa_cons h1 h2 hs) fun σ H Q ⟨ρ, G, R, h⟩ => ⟨ρ, G, R, (Go.bind R h).imp fun t ρ1 G1 H1 s1 R1 h1 v hv =>
    ⟨ρ1, G1, R1, (Go.bind R1 h1).imp fun l ρ2 G2 H2 s2 R2 h2 vs hvs => h2 G2 H2 .refl R2 (v :: vs) (.cons (hv.mono s2.g) hvs)⟩⟩

/-! ### operations -/
def OpS (K : PySem.W.Frag) (r : R2) (g : D → D → Option D) : Prop := ∀ (x y z : D) (v u : V) (G H : Hp) (Q : VK), Evl.Ex G H → Top K G H x v → Top K G H y u → g x y = some z →
  (∀ w G' H', New G H G' H' → Is K G' z w → Q w H') → r v u H Q
def UnS (K : PySem.W.Frag) (r : V → Hp → VK → Prop) (g : D → Option D) : Prop := ∀ (x z : D) (v : V) (G H : Hp) (Q : VK), Evl.Ex G H → Top K G H x v → g x = some z →
  (∀ w G' H', New G H G' H' → Is K G' z w → Q w H') → r v H Q
def CaS (K : PySem.W.Frag) (r : List V → Hp → VK → Prop) (g : List D → Option D) : Prop := ∀ (xs : List D) (z : D) (vs : List V) (G H : Hp) (Q : VK), Evl.Ex G H → Tops K G H xs vs → g xs = some z →
  (∀ w G' H', New G H G' H' → Is K G' z w → Q w H') → r vs H Q
def dBin (g : D → D → Option D) (fa fb : DEnv → R Th) : DEnv → R D := fun ρ => (fa ρ).bind fun ta ρ1 => (fb ρ1).bind fun tb ρ2 => match ta ρ2, tb ρ2 with
  | some x, some y => ofO ρ2 (g x y)
  | _, _ => .no
theorem tbin {r : R2} {g : D → D → Option D} {fa fb : DEnv → R Th} (hs : OpS X.K r g) : ∀ σ H Q, tD X.K W (dBin g fa fb) σ H Q → tOp r (tO X.K W fa) (tO X.K W fb) σ H Q := fun σ H Q ⟨ρ, G, R, h⟩ =>
  ⟨ρ, G, R, (Go.bind R h).imp fun ta ρ1 G1 H1 s1 R1 h1 v hv => ⟨ρ1, G1, R1, (Go.bind R1 h1).imp fun tb ρ2 G2 H2 s2 R2 h2 u hu => by
    split at h2
    · rename_i x y ex ey
      cases e : g x y with
      | none => rw [e] at h2; exact False.elim h2
      | some z =>
        rw [e] at h2
        exact hs x y z v u G2 H2 Q R2.sub (hv ρ2 G2 H2 x s2 R2 ex) (hu ρ2 G2 H2 y .refl R2 ey) e fun w G' H' N hw => h2 G' H' (N.stp R2) (N.rep R2) w hw
    · exact False.elim h2⟩⟩
variable {a b : Expr} {fa fb : DEnv → R Th}
theorem de_bin {op : Operator} {r : R2} {g : D → D → Option D} (ho : OpR X (binaryOp op) r) (hs : OpS X.K r g) (ha : DO X W a fa) (hb : DO X W b fb) : DE X W (.BinOp a op b pos) (dBin g fa fb) :=
  pe_imp (pe_op ho ha hb) (tbin hs)
theorem de_cmp {op : CmpOp} {r : R2} {g : D → D → Option D} (ho : OpR X (compareOp op) r) (hs : OpS X.K r g) (ha : DO X W a fa) (hb : DO X W b fb) (hm : behindInMarks op b = false) : DE X W (.Compare a [op] [b] pos) (dBin g fa fb) :=
  pe_imp (pe_cmpR ho ha hb hm) (tbin hs)
def isB (d : D) : Option Bool := match d with | .bl b => some b | _ => none
def dTst (f : DEnv → R D) : DEnv → R Bool := fun ρ => (f ρ).bind fun d ρ' => match d with
  | .bl b => .ok ρ' b
  | _ => .no
theorem ttst {f : DEnv → R D} : ∀ σ H Q, tT X.K W (dTst f) σ H Q → tTest (tD X.K W f) σ H Q := fun σ H Q ⟨ρ, G, R, h⟩ =>
  ⟨ρ, G, R, (Go.bind R h).imp fun d ρ' G' H' s R' h v hv => by
    split at h
    · cases hv
      exact ⟨_, rfl, h G' H' .refl R'⟩
    · exact False.elim h⟩
theorem dt_cmp {op : CmpOp} {r : R2} {g : D → D → Option D} (ho : OpR X (compareOp op) r) (hs : OpS X.K r g) (ha : DO X W a fa) (hb : DO X W b fb) (hm : behindInMarks op b = false) : DT X W (.Compare a [op] [b] pos) (dTst (dBin g fa fb)) :=
  pt_imp (pt_cmpR ho ha hb hm) fun σ H Q h => by
    obtain ⟨ρ, G, R, h⟩ := ttst σ H Q h
    exact tbin hs σ H _ ⟨ρ, G, R, h⟩
def dUn (g : D → Option D) (fa : DEnv → R Th) : DEnv → R D := fun ρ => (fa ρ).bind fun ta ρ1 => match ta ρ1 with
  | some x => ofO ρ1 (g x)
  | none => .no
theorem tun {r : V → Hp → VK → Prop} {g : D → Option D} (hs : UnS X.K r g) : ∀ σ H Q, tD X.K W (dUn g fa) σ H Q → tUn r (tO X.K W fa) σ H Q := fun σ H Q ⟨ρ, G, R, h⟩ =>
  ⟨ρ, G, R, (Go.bind R h).imp fun ta ρ1 G1 H1 s1 R1 h1 v hv => by
    split at h1
    · rename_i x ex
      cases e : g x with
      | none => rw [e] at h1; exact False.elim h1
      | some z =>
        rw [e] at h1
        exact hs x z v G1 H1 Q R1.sub (hv ρ1 G1 H1 x .refl R1 ex) e fun w G' H' N hw => h1 G' H' (N.stp R1) (N.rep R1) w hw
    · exact False.elim h1⟩
theorem de_un {op : UnaryOp} {r : V → Hp → VK → Prop} {g : D → Option D} (ho : UnR X (unaryOp op) r) (hs : UnS X.K r g) (ha : DO X W a fa) : DE X W (.UnaryOp op a pos) (dUn g fa) := pe_imp (pe_un ho ha) (tun hs)
def dCal (g : List D → Option D) (f : DEnv → R (List Th)) : DEnv → R D := fun ρ => (f ρ).bind fun l ρ1 => match ths l ρ1 with
  | some xs => ofO ρ1 (g xs)
  | none => .no
theorem tcal {r : List V → Hp → VK → Prop} {g : List D → Option D} {f : DEnv → R (List Th)} (hs : CaS X.K r g) : ∀ σ H Q, tD X.K W (dCal g f) σ H Q → tCB r (tAs X.K W f) σ H Q := fun σ H Q ⟨ρ, G, R, h⟩ =>
  ⟨ρ, G, R, (Go.bind R h).imp fun l ρ1 G1 H1 s1 R1 h1 vs hv => by
    split at h1
    · rename_i xs ex
      cases e : g xs with
      | none => rw [e] at h1; exact False.elim h1
      | some z =>
        rw [e] at h1
        exact hs xs z vs G1 H1 Q R1.sub (hv.tops R1 ex) e fun w G' H' N hw => h1 G' H' (N.stp R1) (N.rep R1) w hw
    · exact False.elim h1⟩
end
end DF

namespace DF
open PySem PySem.Spec PyProof.Rows L2

inductive SR where
  | no
  | nx (ρ : DEnv)
  | brk (ρ : DEnv)
  | cnt (ρ : DEnv)
  | ret (ρ : DEnv) (fr : Bool) (d : D)
  | ex (ρ : DEnv) (e : Exc)
/-- what is handed back: data that stay, or a list or dict that nothing else reaches -/
def RIs (K : PySem.W.Frag) (ρ' : DEnv) (σ' : Sl) (G' H' H : Hp) (fr : Bool) (d : D) (v : V) : Prop := match fr with
  | false => Is K G' d v
  | true => ∃ a, v = .ref a ∧ G' a = none ∧ (Mu false ρ' σ' a ∨ H a = none) ∧ Cont K G' H' a d
def GoS (K : PySem.W.Frag) (W : WX) (σ : Sl) (ρ : DEnv) (G H : Hp) (E : Ends) (r : SR) : Prop := match r with
  | .no => False
  | .nx ρ' => ∀ σ' G' H', Stp ρ σ G H ρ' σ' G' H' → Rep K G' H' ρ' σ' → E.nx σ' H'
  | .brk ρ' => ∀ σ' G' H', Stp ρ σ G H ρ' σ' G' H' → Rep K G' H' ρ' σ' → E.bk σ' H'
  | .cnt ρ' => ∀ σ' G' H', Stp ρ σ G H ρ' σ' G' H' → Rep K G' H' ρ' σ' → E.ct σ' H'
  | .ret ρ' fr d => ∀ v σ' G' H', Stp ρ σ G H ρ' σ' G' H' → Rep K G' H' ρ' σ' → RIs K ρ' σ' G' H' H fr d v → E.rt v H'
  | .ex ρ' e => ∀ d σ' G' H', Stp ρ σ G H ρ' σ' G' H' → Rep K G' H' ρ' σ' → EIs K G' H' e d → W e.cls d σ' H'
def tS (K : PySem.W.Frag) (W : WX) (f : DEnv → SR) : TS := fun E σ H => ∃ ρ G, Rep K G H ρ σ ∧ GoS K W σ ρ G H E (f ρ)
abbrev DS (X : Cx) (W : WX) (st : Stmt) (f : DEnv → SR) : Prop := PS X st (tS X.K W f)
abbrev DSs (X : Cx) (W : WX) (st : List Stmt) (f : DEnv → SR) : Prop := PSs X st (tS X.K W f)
theorem ps_imp {X : Cx} {st : Stmt} {t t' : TS} (h : PS X st t) (i : ∀ E σ H, t' E σ H → t E σ H) : PS X st t' := ⟨fun pins s σ H E I q => h.run pins s σ H E I (i E σ H q)⟩
theorem pss_imp {X : Cx} {st : List Stmt} {t t' : TS} (h : PSs X st t) (i : ∀ E σ H, t' E σ H → t E σ H) : PSs X st t' := ⟨fun pins s σ H E I q => h.run pins s σ H E I (i E σ H q)⟩
section
variable {K : PySem.W.Frag} {W : WX} {σ σ1 : Sl} {ρ ρ1 : DEnv} {G G1 H H1 : Hp} {E E' : Ends}
theorem RIs.back {ρ' : DEnv} {σ' : Sl} {G' H' : Hp} {fr : Bool} {d : D} {v : V} (ht : ∀ b, H1 b = none → H b = none) (h : RIs K ρ' σ' G' H' H1 fr d v) : RIs K ρ' σ' G' H' H fr d v := by
  cases fr with
  | false => exact h
  | true =>
    obtain ⟨a, e1, e2, e3, e4⟩ := h
    exact ⟨a, e1, e2, e3.imp id (ht a), e4⟩
theorem GoS.shift {r : SR} (R0 : Rep K G H ρ σ) (s : Stp ρ σ G H ρ1 σ1 G1 H1) (h : GoS K W σ ρ G H E r) : GoS K W σ1 ρ1 G1 H1 E r := by
  cases r with
  | no => exact h
  | nx ρ' => exact fun σ' G' H' s' R => h σ' G' H' (s.trans R0 s') R
  | brk ρ' => exact fun σ' G' H' s' R => h σ' G' H' (s.trans R0 s') R
  | cnt ρ' => exact fun σ' G' H' s' R => h σ' G' H' (s.trans R0 s') R
  | ret ρ' fr d => exact fun v σ' G' H' s' R q => h v σ' G' H' (s.trans R0 s') R (q.back s.t)
  | ex ρ' e => exact fun d σ' G' H' s' R => h d σ' G' H' (s.trans R0 s') R
end
/-- an expression, then what its value leads to -/
def R.bindS {α : Type} (r : R α) (f : α → DEnv → SR) : SR := match r with
  | .no => .no
  | .ok ρ a => f a ρ
  | .ex ρ e => .ex ρ e
theorem R.bindS_ok {α : Type} {ρ : DEnv} {a : α} {f : α → DEnv → SR} : (R.ok ρ a).bindS f = f a ρ := rfl
section
variable {K : PySem.W.Frag} {W : WX} {σ σ1 : Sl} {ρ ρ1 : DEnv} {G G1 H H1 : Hp} {E E' : Ends}
theorem Go.bindS {α : Type} {r : R α} {g : α → DEnv → SR} (R0 : Rep K G H ρ σ) (h : GoS K W σ ρ G H E (r.bindS g)) : Go K W σ ρ G H (fun a ρ' G' H' => GoS K W σ ρ' G' H' E (g a ρ')) r := by
  cases r with
  | no => exact h
  | ok ρ' a => exact fun G' H' s R => GoS.shift R0 s h
  | ex ρ' e => exact fun G' H' d s R => h d σ G' H' s R
def SR.bind (r : SR) (g : DEnv → SR) : SR := match r with
  | .nx ρ => g ρ
  | .no => .no | .brk ρ => .brk ρ | .cnt ρ => .cnt ρ | .ret ρ fr d => .ret ρ fr d | .ex ρ e => .ex ρ e
theorem SR.bind_nx {ρ : DEnv} {g : DEnv → SR} : (SR.nx ρ).bind g = g ρ := rfl
theorem GoS.bind {r : SR} {g : DEnv → SR} (R0 : Rep K G H ρ σ) (h : GoS K W σ ρ G H E (r.bind g)) : GoS K W σ ρ G H { E with nx := tS K W g E } r := by
  cases r with
  | nx ρ' => exact fun σ' G' H' s R => ⟨ρ', G', R, GoS.shift R0 s h⟩
  | no => exact h
  | brk _ => exact h
  | cnt _ => exact h
  | ret _ _ _ => exact h
  | ex _ _ => exact h
end
def dSeq (f g : DEnv → SR) : DEnv → SR := fun ρ => (f ρ).bind g
section
variable {X : Cx} {W : WX} {st : Stmt} {rest : List Stmt} {f g : DEnv → SR} {pos : Pos} {e : Expr}
theorem dss_nil : DSs X W [] SR.nx := pss_imp pss_nil fun E σ H ⟨ρ, G, R, h⟩ => h σ G H .refl R
theorem dss_cons (h1 : DS X W st f) (h2 : DSs X W rest g) : DSs X W (st :: rest) (dSeq f g) := pss_imp (pss_cons h1 h2) fun E σ H ⟨ρ, G, R, h⟩ => ⟨ρ, G, R, GoS.bind R h⟩
theorem dss_one (h1 : DS X W st f) : DSs X W [st] f := pss_one h1
theorem ds_pass : DS X W (.Pass pos) SR.nx := ps_imp ps_pass fun E σ H ⟨ρ, G, R, h⟩ => h σ G H .refl R
theorem ds_break : DS X W (.Break pos) SR.brk := ps_imp ps_break fun E σ H ⟨ρ, G, R, h⟩ => h σ G H .refl R
theorem ds_continue : DS X W (.Continue pos) SR.cnt := ps_imp ps_continue fun E σ H ⟨ρ, G, R, h⟩ => h σ G H .refl R
def dNever : DEnv → SR := fun _ => .no
theorem ds_never : DS X W st dNever := ps_imp ps_never fun E σ H ⟨ρ, G, R, h⟩ => h
theorem dss_never {sts : List Stmt} : DSs X W sts dNever := pss_imp pss_never fun E σ H ⟨ρ, G, R, h⟩ => h
/-- an if -/
def dIf (c : DEnv → R Bool) (f g : DEnv → SR) : DEnv → SR := fun ρ => (c ρ).bindS fun b ρ' => match b with
  | true => f ρ'
  | false => g ρ'
theorem ds_if {c : Expr} {a b : List Stmt} {fc : DEnv → R Bool} (hc : DT X W c fc) (ha : DSs X W a f) (hb : DSs X W b g) : DS X W (.If c a b pos) (dIf fc f g) :=
  ps_imp (ps_if hc ha hb) fun E σ H ⟨ρ, G, R, h⟩ => ⟨ρ, G, R, (Go.bindS R h).imp fun b ρ' G' H' s R' h => by
    cases b with
    | true => rw [if_pos rfl]; exact ⟨ρ', G', R', h⟩
    | false => rw [if_neg Bool.false_ne_true]; exact ⟨ρ', G', R', h⟩⟩
/-- return -/
def dRet (f : DEnv → R D) : DEnv → SR := fun ρ => (f ρ).bindS fun d ρ' => .ret ρ' false d
theorem ds_ret {f : DEnv → R D} (h : DE X W e f) : DS X W (.Return (some e) pos) (dRet f) := ps_imp (ps_ret h) fun E σ H ⟨ρ, G, R, h⟩ => ⟨ρ, G, R, (Go.bindS R h).imp fun d ρ' G' H' s R' h v hv => h v σ G' H' .refl R' hv⟩
def dRetF (f : DEnv → R D) : DEnv → SR := fun ρ => (f ρ).bindS fun d ρ' => .ret ρ' true d
def dRetN : DEnv → SR := fun ρ => .ret ρ false .non
theorem ds_retN : DS X W (.Return none pos) dRetN := ps_imp ps_retN fun E σ H ⟨ρ, G, R, h⟩ => h .non σ G H .refl R .non
/-- return x, a slot -/
def dRetV (i : Nat) : DEnv → SR := fun ρ => match ρ[i]? with
  | some (some (.val d)) => .ret ρ false d
  | some (some (.mu false d)) => .ret ρ true d
  | _ => .no
theorem ds_retV {i : Nat} (h : PE X e (tVar i)) : DS X W (.Return (some e) pos) (dRetV i) := ps_imp (ps_ret h) fun E σ H ⟨ρ, G, R, h⟩ => by
  unfold dRetV at h
  split at h
  · rename_i d e1
    obtain ⟨v, e2, e3⟩ := R.vl i d e1
    exact ⟨v, e2, h v σ G H .refl R e3⟩
  · rename_i d e1
    obtain ⟨a, e2, e3, e4⟩ := R.mu i false d e1
    exact ⟨_, e2, h (.ref a) σ G H .refl R ⟨a, rfl, e3, .inl ⟨i, d, e1, e2⟩, e4⟩⟩
  · exact False.elim h
def dExpr (f : DEnv → R D) : DEnv → SR := fun ρ => (f ρ).bindS fun _ ρ' => .nx ρ'
theorem ds_expr {f : DEnv → R D} (h : DE X W e f) (hs : swapsWith e none pos.line X.env = pure false := by rfl) : DS X W (.Expr e pos) (dExpr f) :=
  ps_imp (ps_expr h hs) fun E σ H ⟨ρ, G, R, h⟩ => ⟨ρ, G, R, (Go.bindS R h).imp fun d ρ' G' H' s R' h v hv => h σ G' H' .refl R'⟩
theorem ds_doc {x j pos pos'} : DS X W (.Expr (.Constant (.str x) j pos) pos') SR.nx := ps_imp ps_doc fun E σ H ⟨ρ, G, R, h⟩ => h σ G H .refl R
end

/-! ### slots are filled -/
def free (ρ : DEnv) (i : Nat) : Bool := match ρ[i]? with
  | none => false
  | some (some (.mu true _)) => false
  | _ => true
theorem free_lt {ρ : DEnv} {i : Nat} (h : free ρ i = true) : i < ρ.length := by
  unfold free at h
  split at h
  · cases h
  · cases h
  · rename_i h1 h2
    exact Nat.lt_of_not_le fun z => h1 (List.getElem?_eq_none z)
theorem free_io {ρ : DEnv} {i : Nat} (h : free ρ i = true) (d : D) : ρ[i]? ≠ some (some (.mu true d)) := fun z => by
  unfold free at h
  rw [z] at h
  cases h
def setV (i : Nat) (d : D) (ρ : DEnv) : Option DEnv := if free ρ i = true then some (ρ.set i (some (.val d))) else none
def setF (i : Nat) (d : D) (ρ : DEnv) : Option DEnv := if free ρ i = true then some (ρ.set i (some (.mu false d))) else none
section
variable {K : PySem.W.Frag} {ρ ρ' : DEnv} {σ : Sl} {G H : Hp} {i : Nat} {d : D} {v : V}
theorem set_get {α : Type} {l : List α} {i j : Nat} {x y : α} (h : (l.set i x)[j]? = some y) : (i = j ∧ x = y) ∨ (i ≠ j ∧ l[j]? = some y) := by
  by_cases e : i = j
  · subst e
    by_cases q : i < l.length
    · rw [List.getElem?_set_self q] at h
      exact .inl ⟨rfl, Option.some.inj h⟩
    · rw [List.getElem?_eq_none (by rw [List.length_set]; omega)] at h
      cases h
  · rw [List.getElem?_set_ne e] at h
    exact .inr ⟨e, h⟩
theorem Rep.setV (R : Rep K G H ρ σ) (e : setV i d ρ = some ρ') (hv : Is K G d v) : Rep K G H ρ' (σ.set i (some v)) := by
  unfold DF.setV at e
  split at e
  · rename_i hf
    cases e
    have hl : i < σ.length := by rw [← R.len]; exact free_lt hf
    refine ⟨R.sub, by rw [List.length_set, List.length_set]; exact R.len, fun j d' e1 => ?_, fun j b d' e1 => ?_, fun j k b c d1 d2 a e1 e2 e3 e4 => ?_⟩
    · rcases set_get e1 with ⟨rfl, e2⟩ | ⟨n, e2⟩
      · cases e2
        exact ⟨v, List.getElem?_set_self hl, hv⟩
      · obtain ⟨v', e3, e4⟩ := R.vl j d' e2
        exact ⟨v', by rw [List.getElem?_set_ne n]; exact e3, e4⟩
    · rcases set_get e1 with ⟨rfl, e2⟩ | ⟨n, e2⟩
      · cases e2
      · obtain ⟨a, e3, e4⟩ := R.mu j b d' e2
        exact ⟨a, by rw [List.getElem?_set_ne n]; exact e3, e4⟩
    · rcases set_get e1 with ⟨rfl, z⟩ | ⟨n1, f1⟩
      · cases z
      · rcases set_get e2 with ⟨rfl, z⟩ | ⟨n2, f2⟩
        · cases z
        · rw [List.getElem?_set_ne n1] at e3
          rw [List.getElem?_set_ne n2] at e4
          exact R.ap j k b c d1 d2 a f1 f2 e3 e4
  · cases e
theorem Stp.setV (R : Rep K G H ρ σ) (e : setV i d ρ = some ρ') : Stp ρ σ G H ρ' (σ.set i (some v)) G H := by
  unfold DF.setV at e
  split at e
  · rename_i hf
    cases e
    have hl : i < σ.length := by rw [← R.len]; exact free_lt hf
    refine ⟨fun _ _ e => e, fun _ _ _ _ e => e, fun _ e => e, fun _ e q => absurd e q, fun b ⟨j, d', e1, e2⟩ => ?_, fun j => ⟨fun d' e1 => ?_, fun d' e1 => ?_⟩⟩
    · rcases set_get e1 with ⟨rfl, z⟩ | ⟨n, f1⟩
      · cases z
      · rw [List.getElem?_set_ne n] at e2
        exact .inl ⟨j, d', f1, e2⟩
    · have n : i ≠ j := fun z => by subst z; exact free_io hf d' e1
      exact ⟨d', by rw [List.getElem?_set_ne n]; exact e1, by rw [List.getElem?_set_ne n]⟩
    · rcases set_get e1 with ⟨rfl, z⟩ | ⟨n, f1⟩
      · cases z
      · exact ⟨d', f1⟩
  · cases e
theorem Rep.setF {a : Addr} (R : Rep K G H ρ σ) (e : setF i d ρ = some ρ') (h0 : G a = none) (h1 : ¬ Mu false ρ σ a) (h2 : ¬ Mu true ρ σ a) (hc : Cont K G H a d) : Rep K G H ρ' (σ.set i (some (.ref a))) := by
  unfold DF.setF at e
  split at e
  · rename_i hf
    cases e
    have hl : i < σ.length := by rw [← R.len]; exact free_lt hf
    have no : ∀ (j : Nat) (b : Bool) (d' : D), ρ[j]? = some (some (.mu b d')) → σ[j]? = some (some (.ref a)) → False := fun j b d' q1 q2 => by
      cases b with
      | false => exact h1 ⟨j, d', q1, q2⟩
      | true => exact h2 ⟨j, d', q1, q2⟩
    refine ⟨R.sub, by rw [List.length_set, List.length_set]; exact R.len, fun j d' e1 => ?_, fun j b d' e1 => ?_, fun j k b c d1 d2 a' e1 e2 e3 e4 => ?_⟩
    · rcases set_get e1 with ⟨rfl, z⟩ | ⟨n, e2⟩
      · cases z
      · obtain ⟨v', e3, e4⟩ := R.vl j d' e2
        exact ⟨v', by rw [List.getElem?_set_ne n]; exact e3, e4⟩
    · rcases set_get e1 with ⟨rfl, z⟩ | ⟨n, e2⟩
      · cases z
        exact ⟨a, List.getElem?_set_self hl, h0, hc⟩
      · obtain ⟨a', e3, e4⟩ := R.mu j b d' e2
        exact ⟨a', by rw [List.getElem?_set_ne n]; exact e3, e4⟩
    · rcases set_get e1 with ⟨q1, z1⟩ | ⟨n1, f1⟩
      · rcases set_get e2 with ⟨q2, z2⟩ | ⟨n2, f2⟩
        · exact q1.symm.trans q2
        · subst q1
          rw [List.getElem?_set_self hl] at e3
          cases e3
          rw [List.getElem?_set_ne n2] at e4
          exact (no k c d2 f2 e4).elim
      · rcases set_get e2 with ⟨q2, z2⟩ | ⟨n2, f2⟩
        · subst q2
          rw [List.getElem?_set_self hl] at e4
          cases e4
          rw [List.getElem?_set_ne n1] at e3
          exact (no j b d1 f1 e3).elim
        · rw [List.getElem?_set_ne n1] at e3
          rw [List.getElem?_set_ne n2] at e4
          exact R.ap j k b c d1 d2 a' f1 f2 e3 e4
  · cases e
/-- the step that ends with a slot filled by a thing that was made on the way -/
theorem Stp.setF {ρ0 : DEnv} {σ0 : Sl} {G0 H0 : Hp} {a : Addr} (S : Stp ρ0 σ0 G0 H0 ρ σ G H) (R : Rep K G H ρ σ) (e : setF i d ρ = some ρ') (hn : H0 a = none) : Stp ρ0 σ0 G0 H0 ρ' (σ.set i (some (.ref a))) G H := by
  unfold DF.setF at e
  split at e
  · rename_i hf
    cases e
    have hl : i < σ.length := by rw [← R.len]; exact free_lt hf
    refine ⟨S.g, S.h, S.t, S.n, fun b ⟨j, d', e1, e2⟩ => ?_, fun j => ⟨fun d' e1 => ?_, fun d' e1 => ?_⟩⟩
    · rcases set_get e1 with ⟨q, z⟩ | ⟨n, f1⟩
      · subst q
        rw [List.getElem?_set_self hl] at e2
        cases e2
        exact .inr hn
      · rw [List.getElem?_set_ne n] at e2
        exact S.ow b ⟨j, d', f1, e2⟩
    · obtain ⟨d1, f1, f2⟩ := (S.io j).1 d' e1
      have n : i ≠ j := fun z => by subst z; exact free_io hf d1 f1
      exact ⟨d1, by rw [List.getElem?_set_ne n]; exact f1, by rw [List.getElem?_set_ne n]; exact f2⟩
    · rcases set_get e1 with ⟨rfl, z⟩ | ⟨n, f1⟩
      · cases z
      · exact (S.io j).2 d' f1
  · cases e
end
def dSet (i : Nat) (f : DEnv → R D) : DEnv → SR := fun ρ => (f ρ).bindS fun d ρ' => match setV i d ρ' with
  | none => .no
  | some ρ2 => .nx ρ2
/-- where what is made is kept as one's own -/
def dSetF (i : Nat) (f : DEnv → R D) : DEnv → SR := fun ρ => match f ρ with
  | .no => .no
  | .ex ρ' e => .ex ρ' e
  | .ok ρ' d => match setF i d ρ' with
    | none => .no
    | some ρ2 => .nx ρ2
section
variable {X : Cx} {W : WX} {i : Nat} {x : Str} {e : Expr} {pos pos' : Pos} {f : DEnv → R D}
theorem tset {te : TE} (hs : ∀ σ H Q, tD X.K W f σ H Q → te σ H Q) : ∀ E σ H, tS X.K W (dSet i f) E σ H → tAsg te (gName i) E σ H := fun E σ H ⟨ρ, G, R, h⟩ =>
  hs σ H _ ⟨ρ, G, R, (Go.bindS R h).imp fun d ρ' G' H' s R' h v hv => by
    split at h
    · exact False.elim h
    · rename_i ρ2 e2
      exact h _ G' H' (Stp.setV R' e2) (R'.setV e2 hv)⟩
theorem ds_set (hN : X.N.Nodup) (hi : X.N[i]? = some x) (hx : Loc X.env.scope x) (he : DE X W e f) (hs : swapsWith e (some (.Name x pos')) pos.line X.env = pure false := by rfl) (hf : X.fn x = true ∨ X.env.scope.names.lookup x = some .local := by first | exact .inl rfl | exact .inr rfl | assumption) :
    DS X W (.Assign [.Name x pos'] e pos) (dSet i f) := ps_imp (ps_set hN hi hx he hs hf) (tset fun _ _ _ h => h)
theorem tsetF {te : TE} (hs : ∀ σ H Q, tF X.K W f σ H Q → te σ H Q) : ∀ E σ H, tS X.K W (dSetF i f) E σ H → tAsg te (gName i) E σ H := fun E σ H ⟨ρ, G, R, h⟩ => hs σ H _ ⟨ρ, G, R, by
      unfold dSetF at h
      split at h
      · exact False.elim h
      · rename_i ρ' ee e1
        rw [e1]
        exact fun G' H' d s R' hd => h d σ G' H' s R' hd
      · rename_i ρ' d e1
        rw [e1]
        split at h
        · exact False.elim h
        · rename_i ρ2 e2
          exact fun G' H' s R' a h0 h1 h2 hn hc => h _ G' H' (s.setF R' e2 hn) (R'.setF e2 h0 h1 h2 hc)⟩
theorem ds_setF (hN : X.N.Nodup) (hi : X.N[i]? = some x) (hx : Loc X.env.scope x) (he : DF' X W e f) (hs : swapsWith e (some (.Name x pos')) pos.line X.env = pure false := by rfl) (hf : X.fn x = true ∨ X.env.scope.names.lookup x = some .local := by first | exact .inl rfl | exact .inr rfl | assumption) :
    DS X W (.Assign [.Name x pos'] e pos) (dSetF i f) := ps_imp (ps_set hN hi hx he hs hf) (tsetF fun _ _ _ h => h)
theorem ds_retF (he : DF' X W e f) : DS X W (.Return (some e) pos) (dRetF f) := ps_imp (ps_ret he) fun E σ H ⟨ρ, G, R, h⟩ => ⟨ρ, G, R, by
      unfold dRetF at h
      cases e1 : f ρ with
      | no => rw [e1] at h; exact h
      | ex ρ' ee => rw [e1] at h; exact fun G' H' d s R' hd => h d σ G' H' s R' hd
      | ok ρ' d =>
        rw [e1] at h
        exact fun G' H' s R' a h0 h1 h2 hn hc => h (.ref a) σ G' H' s R' ⟨a, rfl, h0, .inr hn, hc⟩⟩
/-- what was made is looked at by others from here on -/
theorem tfresh (hL : ∀ ρ ρ' d, f ρ = .ok ρ' d → ∃ l, d = .lst l) : ∀ σ H Q, tD X.K W f σ H Q → tF X.K W f σ H Q := fun σ H Q ⟨ρ, G, R, h⟩ => ⟨ρ, G, R, by
  cases e1 : f ρ with
  | no => rw [e1] at h; exact h
  | ex ρ' ee => rw [e1] at h; exact h
  | ok ρ' d =>
    rw [e1] at h
    intro G' H' s R' a h0 h1 h2 hn hc
    obtain ⟨o, ho⟩ := hc.there
    have eG : Evl.Ex G' (upd G' a o) := Evl.Ex.new h0
    have hi : Is X.K (upd G' a o) d (.ref a) := by
      cases d with
      | lst l =>
        obtain ⟨xs, q1, q2⟩ := hc
        rw [ho] at q1; cases q1
        exact .lst upd_same (q2.mono eG)
      | dic l =>
        obtain ⟨m, hm⟩ := hL _ _ _ e1
        cases hm
      | obj c fs =>
        obtain ⟨m, hm⟩ := hL _ _ _ e1
        cases hm
      | _ => exact False.elim hc
    have eS : Evl.Ex (upd G' a o) H' := fun b u q => by
      by_cases z : b = a
      · subst z; rw [upd_same] at q; cases q; exact ho
      · rw [upd_ne z] at q; exact R'.sub b u q
    refine h (upd G' a o) H' ⟨fun b u q => eG b u (s.g b u q), s.h, s.t, fun b q1 q2 => ?_, s.ow, s.io⟩ ⟨eS, R'.len, fun j d' q => ?_, fun j b d' q => ?_, R'.ap⟩ _ hi
    · by_cases z : b = a
      · subst z; exact .inl hn
      · rw [upd_ne z] at q2; exact s.n b q1 q2
    · obtain ⟨v, z1, z2⟩ := R'.vl j d' q
      exact ⟨v, z1, z2.mono eG⟩
    · obtain ⟨c, z1, z2, z3⟩ := R'.mu j b d' q
      have nc : c ≠ a := fun z => by
        subst z
        cases b with
        | false => exact h1 ⟨j, d', q, z1⟩
        | true => exact h2 ⟨j, d', q, z1⟩
      exact ⟨c, z1, by rw [upd_ne nc]; exact z2, z3.mono eG fun o q => q⟩⟩
theorem fresh_put {K : PySem.W.Frag} {ρ0 ρ' : DEnv} {σ : Sl} {G0 H0 G' H' : Hp} {d : D} {a : Addr} {o : HO} (s : Stp ρ0 σ G0 H0 ρ' σ G' H') (R' : Rep K G' H' ρ' σ) (h0 : G' a = none) (h1 : ¬ Mu false ρ' σ a) (h2 : ¬ Mu true ρ' σ a) (hn : H0 a = none) :
    Stp ρ0 σ G0 H0 ρ' σ (upd G' a o) (upd H' a o) ∧ Rep K (upd G' a o) (upd H' a o) ρ' σ := by
  have eG : Evl.Ex G' (upd G' a o) := Evl.Ex.new h0
  have eS : Evl.Ex (upd G' a o) (upd H' a o) := fun b u q => by
    by_cases z : b = a
    · subst z; rw [upd_same] at q ⊢; exact q
    · rw [upd_ne z] at q ⊢; exact R'.sub b u q
  refine ⟨⟨fun b u q => eG b u (s.g b u q), fun b u n1 n2 q => ?_, fun b q => ?_, fun b q1 q2 => ?_, s.ow, s.io⟩, ⟨eS, R'.len, fun j d' q => ?_, fun j b d' q => ?_, R'.ap⟩⟩
  · have n : b ≠ a := fun z => by subst z; rw [hn] at q; cases q
    rw [upd_ne n]; exact s.h b u n1 n2 q
  · by_cases z : b = a
    · subst z; rw [upd_same] at q; cases q
    · rw [upd_ne z] at q; exact s.t b q
  · by_cases z : b = a
    · subst z; exact .inl hn
    · rw [upd_ne z] at q2; exact s.n b q1 q2
  · obtain ⟨v, z1, z2⟩ := R'.vl j d' q
    exact ⟨v, z1, z2.mono eG⟩
  · obtain ⟨c, z1, z2, z3⟩ := R'.mu j b d' q
    have nc : c ≠ a := fun z => by
      subst z
      cases b with
      | false => exact h1 ⟨j, d', q, z1⟩
      | true => exact h2 ⟨j, d', q, z1⟩
    exact ⟨c, z1, by rw [upd_ne nc]; exact z2, z3.mono eG fun o q => by rw [upd_ne nc]; exact q⟩
/-- .. as the machine sees it -/
theorem fresh_run {X : Cx} {pins : List (Addr × Obj)} {st : Shared} {ρ0 ρ' : DEnv} {σ : Sl} {G0 H0 G' H' : Hp} {d : D} {a : Addr} (I : Inv X pins σ H' st) (s : Stp ρ0 σ G0 H0 ρ' σ G' H') (R' : Rep X.K G' H' ρ' σ) (h0 : G' a = none) (h1 : ¬ Mu false ρ' σ a) (h2 : ¬ Mu true ρ' σ a) (hn : H0 a = none) (hc : Cont X.K G' H' a d) :
    ∃ G2 H2, Inv X pins σ H2 st ∧ Stp ρ0 σ G0 H0 ρ' σ G2 H2 ∧ Rep X.K G2 H2 ρ' σ ∧ Is X.K G2 d (.ref a) := by
  have same : ∀ o, H' a = some o → upd H' a o = H' := fun o ho => funext fun b => by
    by_cases z : b = a
    · subst z; rw [upd_same]; exact ho.symm
    · rw [upd_ne z]
  cases d with
  | lst l =>
    obtain ⟨xs, q1, q2⟩ := hc
    obtain ⟨s1, R1⟩ := fresh_put (o := .lst xs) (d := .lst l) s R' h0 h1 h2 hn
    rw [same _ q1] at s1 R1
    exact ⟨_, H', I, s1, R1, .lst upd_same (q2.mono (Evl.Ex.new h0))⟩
  | dic l =>
    obtain ⟨kvs, q1, q2⟩ := hc
    obtain ⟨od, I1⟩ := I.lock q1 trivial
    obtain ⟨s1, R1⟩ := fresh_put (o := .frz od (.dK kvs)) (d := .dic l) s R' h0 h1 h2 hn
    exact ⟨_, _, I1, s1, R1, .dic upd_same (q2.mono (Evl.Ex.new h0))⟩
  | obj c fs =>
    obtain ⟨C, dx, fv, q1, q2, q3⟩ := hc
    obtain ⟨s1, R1⟩ := fresh_put (o := .ins C dx fv) (d := .obj c fs) s R' h0 h1 h2 hn
    rw [same _ q1] at s1 R1
    exact ⟨_, H', I, s1, R1, .obj upd_same q2 (q3.mono (Evl.Ex.new h0))⟩
  | _ => exact False.elim hc
theorem de_fresh (he : DF' X W e f) : DE X W e f := ⟨fun pins s σ H Q I ⟨ρ, G, R, hg⟩ => by
  refine thn (he.run pins s σ H (fun x H1 => ∃ a d ρ' G', x = .ref a ∧ Stp ρ σ G H ρ' σ G' H1 ∧ Rep X.K G' H1 ρ' σ ∧ G' a = none ∧ ¬ Mu false ρ' σ a ∧ ¬ Mu true ρ' σ a ∧ H a = none ∧ Cont X.K G' H1 a d ∧ ∀ G2 H2, Stp ρ σ G H ρ' σ G2 H2 → Rep X.K G2 H2 ρ' σ → ∀ v, Is X.K G2 d v → Q v H2) I ⟨ρ, G, R, ?_⟩) fun u s1 ⟨x, H1, I1, rx, a, d, ρ', G', ex, k1, k2, k3, k4, k5, k6, k7, k8⟩ => ?_
  · cases e1 : f ρ with
    | no => rw [e1] at hg; exact hg
    | ex ρ' ee => rw [e1] at hg; exact hg
    | ok ρ' d =>
      rw [e1] at hg
      exact fun G' H' s R' a h0 h1 h2 hn hc => ⟨a, d, ρ', G', rfl, s, R', h0, h1, h2, hn, hc, fun G2 H2 s2 R2 v hv => hg G2 H2 s2 R2 v hv⟩
  · obtain ⟨G2, H2, I2, s2, R2, hi⟩ := fresh_run I1 k1 k2 k3 k4 k5 k6 k7
    subst ex
    exact ⟨_, H2, I2, rx, k8 G2 H2 s2 R2 _ hi⟩⟩
end

/-! ### while -/
def dWhile (c : DEnv → R Bool) (b : DEnv → SR) : Nat → DEnv → SR
  | 0, _ => .no
  | n + 1, ρ => (c ρ).bindS fun t ρ1 => match t with
    | false => .nx ρ1
    | true => match b ρ1 with
      | .nx ρ2 => dWhile c b n ρ2
      | .cnt ρ2 => dWhile c b n ρ2
      | .brk ρ2 => .nx ρ2
      | .no => .no
      | .ret ρ2 fr d => .ret ρ2 fr d
      | .ex ρ2 e => .ex ρ2 e
/-- a loop's body: its end leads on -/
theorem GoS.turn {K : PySem.W.Frag} {W : WX} {σ : Sl} {ρ : DEnv} {G H : Hp} {E : Ends} {g : DEnv → SR} {r : SR} (R0 : Rep K G H ρ σ)
    (h : GoS K W σ ρ G H E (match r with | .nx ρ2 => g ρ2 | .cnt ρ2 => g ρ2 | .brk ρ2 => .nx ρ2 | .no => .no | .ret ρ2 fr d => .ret ρ2 fr d | .ex ρ2 e => .ex ρ2 e)) :
    GoS K W σ ρ G H { E with nx := tS K W g E, ct := tS K W g E, bk := E.nx } r := by
  cases r with
  | nx ρ' => exact fun σ' G' H' s R => ⟨ρ', G', R, GoS.shift R0 s h⟩
  | cnt ρ' => exact fun σ' G' H' s R => ⟨ρ', G', R, GoS.shift R0 s h⟩
  | brk ρ' => exact h
  | no => exact h
  | ret _ _ _ => exact h
  | ex _ _ => exact h
theorem ds_while {X : Cx} {W : WX} {c : Expr} {body : List Stmt} {fc : DEnv → R Bool} {fb : DEnv → SR} {pos : Pos} (n : Nat) (hp : PassesOwn (model X.prog X.w) X.A X.env X.xe) (hc : DT X W c fc) (hb : DSs X W body fb) :
    DS X W (.While c body [] pos) (dWhile fc fb n) := ps_imp (ps_while hp hc hb) fun E σ H h => by
  refine ⟨fun m σ H => tS X.K W (dWhile fc fb m) E σ H, ⟨n, h⟩, fun m σ H ⟨ρ, G, R, h⟩ => ?_⟩
  cases m with
  | zero => exact False.elim h
  | succ m =>
    refine ⟨ρ, G, R, (Go.bindS R h).imp fun b ρ1 G1 H1 s1 R1 h1 => ?_⟩
    cases b with
    | false =>
      rw [if_neg Bool.false_ne_true]
      exact h1 σ G1 H1 .refl R1
    | true =>
      rw [if_pos rfl]
      exact ⟨tS X.K W (dWhile fc fb m) E, fun σ' H' q => ⟨m, Nat.lt_succ_self m, q⟩, ρ1, G1, R1, GoS.turn R1 h1⟩
end DF

namespace DF
open PySem PySem.Spec PyProof.Rows L2

/-! ### targets -/
abbrev Tg := D → DEnv → Option DEnv
def Agr (vs : List Nat) (σ σ' : Sl) : Prop := σ'.length = σ.length ∧ ∀ i, i ∉ vs → σ'[i]? = σ[i]?
def tG (K : PySem.W.Frag) (f : Tg) (sl : List Nat) : TG := fun v σ H Q => ∃ ρ G d, Rep K G H ρ σ ∧ Is K G d v ∧ ∃ ρ', f d ρ = some ρ' ∧ ∀ σ' G' H', Stp ρ σ G H ρ' σ' G' H' → Rep K G' H' ρ' σ' → Agr sl σ σ' → Q σ' H'
def tGs (K : PySem.W.Frag) (f : List D → DEnv → Option DEnv) (sl : List Nat) : TGs := fun vs σ H Q => ∃ ρ G ds, Rep K G H ρ σ ∧ Iss K G ds vs ∧ ∃ ρ', f ds ρ = some ρ' ∧ ∀ σ' G' H', Stp ρ σ G H ρ' σ' G' H' → Rep K G' H' ρ' σ' → Agr sl σ σ' → Q σ' H'
abbrev DG (X : Cx) (tg : Expr) (f : Tg) (sl : List Nat) : Prop := PG X tg (tG X.K f sl)
abbrev DGs (X : Cx) (ts : List Expr) (f : List D → DEnv → Option DEnv) (sl : List Nat) : Prop := PGs X ts (tGs X.K f sl)
theorem pg_imp {X : Cx} {e : Expr} {t t' : TG} (h : PG X e t) (i : ∀ v σ H Q, t' v σ H Q → t v σ H Q) : PG X e t' := ⟨fun pins s σ H v u Q I r q => h.run pins s σ H v u Q I r (i v σ H Q q)⟩
theorem pgs_imp {X : Cx} {es : List Expr} {t t' : TGs} (h : PGs X es t) (i : ∀ v σ H Q, t' v σ H Q → t v σ H Q) : PGs X es t' := ⟨fun pins s σ H v u Q I r q => h.run pins s σ H v u Q I r (i v σ H Q q)⟩
section
variable {X : Cx} {pos : Pos} {e : Expr} {es : List Expr}
theorem dg_name {i : Nat} (h : PG X e (gName i)) : DG X e (setV i) [i] := pg_imp h fun v σ H Q ⟨ρ, G, d, R, hv, ρ', e1, q⟩ => q _ G H (Stp.setV R e1) (R.setV e1 hv)
  ⟨List.length_set, fun j hj => List.getElem?_set_ne fun z => hj (by rw [z]; exact List.mem_singleton_self _)⟩
def gsNil : List D → DEnv → Option DEnv := fun ds ρ => match ds with
  | [] => some ρ
  | _ => none
def gsCons (f : Tg) (g : List D → DEnv → Option DEnv) : List D → DEnv → Option DEnv := fun ds ρ => match ds with
  | [] => none
  | d :: r => match f d ρ with
    | none => none
    | some ρ1 => g r ρ1
theorem dgs_nil : DGs X [] gsNil [] := pgs_imp pgs_nil fun vs σ H Q ⟨ρ, G, ds, R, hv, ρ', e1, q⟩ => by
  cases hv with
  | nil => cases e1; exact ⟨rfl, q σ G H .refl R ⟨rfl, fun _ _ => rfl⟩⟩
  | cons h r => cases e1
theorem dgs_cons {f : Tg} {g : List D → DEnv → Option DEnv} {s1 s2 : List Nat} (h1 : DG X e f s1) (h2 : DGs X es g s2) (hs : (assignEach (e :: es) X.env).map (·.2) = assign e X.env :: (assignEach es X.env).map (·.2) := by rfl) : DGs X (e :: es) (gsCons f g) (s1 ++ s2) :=
  pgs_imp (pgs_cons h1 h2 hs) fun vs σ H Q ⟨ρ, G, ds, R, hv, ρ', e1, q⟩ => by
    cases hv with
    | nil => cases e1
    | @cons d v l xs h r =>
      unfold gsCons at e1
      dsimp only at e1
      split at e1
      · cases e1
      · rename_i ρ1 e2
        exact ⟨v, xs, rfl, ρ, G, d, R, h, ρ1, e2, fun σ1 G1 H1 s1 R1 a1 => ⟨ρ1, G1, l, R1, r.mono s1.g, ρ', e1, fun σ' G' H' s R' a2 => q σ' G' H' (s1.trans R s) R' ⟨a2.1.trans a1.1, fun j hj => (a2.2 j fun m => hj (List.mem_append_right _ m)).trans (a1.2 j fun m => hj (List.mem_append_left _ m))⟩⟩⟩
def gTp (n : Nat) (f : List D → DEnv → Option DEnv) : Tg := fun d ρ => match d with
  | .tup l => if l.length = n then f l ρ else none
  | _ => none
theorem dg_tup {k : Nat} {n : Nat} {f : List D → DEnv → Option DEnv} {sl : List Nat} (hc : X.calm = true) (h : DGs X es f sl) (hn : (assignEach es X.env).length = n := by rfl) (hst : (assignEach es X.env).findIdx? (·.1) = none := by rfl) : DG X (.Tuple es k pos) (gTp n f) sl :=
  pg_imp (pg_tup hc h hn hst) fun v σ H Q ⟨ρ, G, d, R, hv, ρ', e1, q⟩ => by
    cases hv with
    | @tup l a xs h r =>
      unfold gTp at e1
      dsimp only at e1
      split at e1
      · rename_i e2
        exact ⟨a, xs, rfl, Evl.ex_t R.sub h, by rw [← r.length]; exact e2, ρ, G, l, R, r, ρ', e1, q⟩
      · cases e1
    | _ => cases e1
end
def dAsg (f : DEnv → R D) (g : Tg) : DEnv → SR := fun ρ => (f ρ).bindS fun d ρ' => match g d ρ' with
  | none => .no
  | some ρ2 => .nx ρ2
theorem ds_asg {X : Cx} {W : WX} {tg e : Expr} {f : DEnv → R D} {g : Tg} {sl : List Nat} {pos : Pos} (he : DE X W e f) (hg : DG X tg g sl) (hs : swapsWithSole [tg] e pos.line X.env = pure false := by rfl) (hw : swappedStores [tg] e X.env = pure none := by rfl)
    (h1 : (assignEach [tg] X.env).map (·.2) = [assign tg X.env] := by rfl) : DS X W (.Assign [tg] e pos) (dAsg f g) := ps_imp (ps_asg he hg hs hw h1) fun E σ H ⟨ρ, G, R, h⟩ => ⟨ρ, G, R, (Go.bindS R h).imp fun d ρ' G' H' s R' h v hv => by
      split at h
      · exact False.elim h
      · rename_i ρ2 e2
        exact ⟨ρ', G', d, R', hv, ρ2, e2, fun σ' G' H' s R _ => h σ' G' H' s R⟩⟩

/-! ### what is walked -/
/-- the walk yields these, one after another -/
structure ItS (K : PySem.W.Frag) (G0 : Hp) (l : List D) (J : It) : Prop where
  go : ∀ (i : Nat) (d : D) (G H : Hp), l[i]? = some d → Evl.Ex G0 G → Evl.Ex G H → J.go i H ∧ ∀ x H', J.yld i H x H' → ∃ G', New G H G' H' ∧ Is K G' d x
  stop : ∀ (i : Nat) (G H : Hp), l.length ≤ i → Evl.Ex G0 G → Evl.Ex G H → J.stop i H
def tI (K : PySem.W.Frag) (W : WX) (f : DEnv → R (List D)) : TI := fun σ H Q => ∃ ρ G, Rep K G H ρ σ ∧ Go K W σ ρ G H (fun l _ G' H' => ∀ J, ItS K G' l J → Q J H') (f ρ)
abbrev DI (X : Cx) (W : WX) (tg e : Expr) (f : DEnv → R (List D)) : Prop := PI X tg e (tI X.K W f)
theorem pi_imp {X : Cx} {tg e : Expr} {t t' : TI} (h : PI X tg e t) (i : ∀ σ H Q, t' σ H Q → t σ H Q) : PI X tg e t' := ⟨fun pins s σ H R I q => h.run pins s σ H R I (i σ H R q)⟩
section
variable {X : Cx} {W : WX} {tg e : Expr} {pos p : Pos}
def sLst (f : DEnv → R D) : DEnv → R (List D) := fun ρ => (f ρ).bind fun d ρ' => match d with
  | .lst l => .ok ρ' l
  | .fro l => .ok ρ' l
  | _ => .no
def sTup (f : DEnv → R D) : DEnv → R (List D) := fun ρ => (f ρ).bind fun d ρ' => match d with
  | .tup l => .ok ρ' l
  | _ => .no
theorem itl_s {K : PySem.W.Frag} {G0 : Hp} {l : List D} {a : Addr} {xs : List V} (h : SqL K G0 a xs) (r : Iss K G0 l xs) : ItS K G0 l (Itl K a) where
  go := fun i d G H e eG eH => by
    obtain ⟨v, e1, e2⟩ := r.get e
    have hL : SqL K H a xs := Evl.ex_l eH (Evl.ex_l eG h)
    refine ⟨⟨xs, v, hL, e1⟩, fun x H' ⟨z, y⟩ => ?_⟩
    subst z
    have q := y xs hL
    rw [e1] at q; cases q
    exact ⟨G, New.refl eH, e2.mono eG⟩
  stop := fun i G H e eG eH => ⟨xs, Evl.ex_l eH (Evl.ex_l eG h), by rw [← r.length]; exact e⟩
theorem itt_s {K : PySem.W.Frag} {G0 : Hp} {l : List D} {a : Addr} {xs : List V} (h : SqT K G0 a xs) (r : Iss K G0 l xs) : ItS K G0 l (Itt K a) where
  go := fun i d G H e eG eH => by
    obtain ⟨v, e1, e2⟩ := r.get e
    have hL : SqT K H a xs := Evl.ex_t eH (Evl.ex_t eG h)
    refine ⟨⟨xs, v, hL, e1⟩, fun x H' ⟨z, y⟩ => ?_⟩
    subst z
    have q := y xs hL
    rw [e1] at q; cases q
    exact ⟨G, New.refl eH, e2.mono eG⟩
  stop := fun i G H e eG eH => ⟨xs, Evl.ex_t eH (Evl.ex_t eG h), by rw [← r.length]; exact e⟩
theorem di_list {f : DEnv → R D} (h : DE X W e f) : DI X W tg e (sLst f) := pi_imp (pi_list h) fun σ H Q ⟨ρ, G, R, h⟩ => ⟨ρ, G, R, (Go.bind R h).imp fun d ρ' G' H' s R' h v hv => by
    cases hv with
    | @lst l a xs hL r => exact ⟨a, rfl, ⟨xs, Evl.sq_of (R'.sub _ _ hL)⟩, h G' H' .refl R' _ (itl_s (Evl.sq_of hL) r)⟩
    | @fro l a xs hL r => exact ⟨a, rfl, ⟨xs, Evl.ex_l R'.sub hL⟩, h G' H' .refl R' _ (itl_s hL r)⟩
    | _ => exact False.elim h⟩
theorem di_tup {f : DEnv → R D} (h : DE X W e f) : DI X W tg e (sTup f) := pi_imp (pi_tup h) fun σ H Q ⟨ρ, G, R, h⟩ => ⟨ρ, G, R, (Go.bind R h).imp fun d ρ' G' H' s R' h v hv => by
    cases hv with
    | @tup l a xs hL r => exact ⟨a, rfl, ⟨xs, Evl.ex_t R'.sub hL⟩, h G' H' .refl R' _ (itt_s hL r)⟩
    | _ => exact False.elim h⟩
def rng (lo : Int) (n : Nat) : List D := (List.range n).map fun (k : Nat) => D.int (lo + (k : Int))
theorem itr_s {K : PySem.W.Frag} {G0 : Hp} {lo : Int} {n : Nat} : ItS K G0 (rng lo n) (Itr lo n) where
  go := fun i d G H e eG eH => by
    unfold rng at e
    rw [List.getElem?_map] at e
    by_cases h : i < n
    · rw [List.getElem?_range h] at e
      cases e
      refine ⟨h, fun x H' ⟨z, y⟩ => ?_⟩
      subst z y
      exact ⟨G, New.refl eH, .int _⟩
    · rw [List.getElem?_eq_none (by rw [List.length_range]; omega)] at e
      cases e
  stop := fun i G H e _ _ => by
    unfold rng at e
    rw [List.length_map, List.length_range] at e
    exact e
def inR (i : Int) : Bool := decide (-(2 ^ 62) ≤ i) && decide (i < 2 ^ 62)
theorem inR_of {i : Int} (h : inR i = true) : -(2 ^ 62) ≤ i ∧ i < 2 ^ 62 := by
  unfold inR at h
  rw [Bool.and_eq_true, decide_eq_true_eq, decide_eq_true_eq] at h
  exact h
def sRng1 (f : DEnv → R (List D)) : DEnv → R (List D) := fun ρ => (f ρ).bind fun l ρ' => match l with
  | [.int j] => if inR j = true then .ok ρ' (rng 0 j.toNat) else .no
  | _ => .no
def sRng2 (f : DEnv → R (List D)) : DEnv → R (List D) := fun ρ => (f ρ).bind fun l ρ' => match l with
  | [.int i, .int j] => if inR i = true then if inR j = true then .ok ρ' (rng i (j - i).toNat) else .no else .no
  | _ => .no
theorem di_rng1 {a : Expr} {f : DEnv → R (List D)} (hg : Gl X "range") (hm : X.mg "range" = none) (ha : DVs X W [a] f) (hs : starEach [a] X.env = [(false, eval a X.env)] := by rfl) : DI X W tg (.Call (.Name "range" p) [a] [] pos) (sRng1 f) :=
  pi_imp (pi_range1 hg hm ha hs) fun σ H Q ⟨ρ, G, R, h⟩ => ⟨ρ, G, R, (Go.bind R h).imp fun l ρ' G' H' s R' h vs hv => by
    split at h
    · rename_i j
      cases hv with
      | cons h1 h2 =>
        cases h1; cases h2
        split at h
        · rename_i hj
          exact ⟨j, rfl, (inR_of hj).1, (inR_of hj).2, h G' H' .refl R' _ itr_s⟩
        · exact False.elim h
    · exact False.elim h⟩
theorem di_rng2 {a b : Expr} {f : DEnv → R (List D)} (hg : Gl X "range") (hm : X.mg "range" = none) (ha : DVs X W [a, b] f) (hs : starEach [a, b] X.env = [(false, eval a X.env), (false, eval b X.env)] := by rfl) (hs2 : starEach [b] X.env = [(false, eval b X.env)] := by rfl) :
    DI X W tg (.Call (.Name "range" p) [a, b] [] pos) (sRng2 f) :=
  pi_imp (pi_range2 hg hm ha hs hs2) fun σ H Q ⟨ρ, G, R, h⟩ => ⟨ρ, G, R, (Go.bind R h).imp fun l ρ' G' H' s R' h vs hv => by
    split at h
    · rename_i i j
      cases hv with
      | cons h1 h2 =>
        cases h2 with
        | cons h3 h4 =>
          cases h1; cases h3; cases h4
          split at h
          · rename_i hi
            split at h
            · rename_i hj
              exact ⟨i, j, rfl, ⟨(inR_of hi).1, (inR_of hi).2, (inR_of hj).1, (inR_of hj).2⟩, h G' H' .refl R' _ itr_s⟩
            · exact False.elim h
          · exact False.elim h
    · exact False.elim h⟩
end
/-! ### for -/
def dFor (g : Tg) (b : DEnv → SR) : List D → DEnv → SR
  | [], ρ => .nx ρ
  | d :: l, ρ => match g d ρ with
    | none => .no
    | some ρ1 => match b ρ1 with
      | .nx ρ2 => dFor g b l ρ2
      | .cnt ρ2 => dFor g b l ρ2
      | .brk ρ2 => .nx ρ2
      | .no => .no
      | .ret ρ2 fr d => .ret ρ2 fr d
      | .ex ρ2 e => .ex ρ2 e
def dForS (s : DEnv → R (List D)) (g : Tg) (b : DEnv → SR) : DEnv → SR := fun ρ => (s ρ).bindS fun l ρ' => dFor g b l ρ'
theorem ds_for {X : Cx} {W : WX} {tg iter : Expr} {body : List Stmt} {f : DEnv → R (List D)} {g : Tg} {b : DEnv → SR} {sl : List Nat} {pos : Pos} (hp : PassesOwn (model X.prog X.w) X.A X.env X.xe) (hc : X.calm = true) (hi : DI X W tg iter f) (hg : DG X tg g sl) (hb : DSs X W body b)
    (hs : ∀ x, foldedSetIterable iter X.env x = pure x := by intro _; rfl) : DS X W (.For tg iter body [] pos) (dForS f g b) := ps_imp (ps_for hp hc hi hg hb hs) fun E σ H ⟨ρ, G, R, h⟩ => ⟨ρ, G, R, (Go.bindS R h).imp fun l ρ0 G0 H0 s0 R0 h0 J hJ => by
    refine ⟨fun i m σ H => m = l.length - i ∧ ∃ ρ G, Rep X.K G H ρ σ ∧ Evl.Ex G0 G ∧ GoS X.K W σ ρ G H E (dFor g b (l.drop i) ρ), ⟨l.length, by simp, ρ0, G0, R0, fun _ _ e => e, h0⟩, fun i m σ H ⟨em, ρ, G, R, eG, h⟩ => ?_⟩
    cases e : l[i]? with
    | none =>
      have hl : l.length ≤ i := List.getElem?_eq_none_iff.mp e
      rw [List.drop_eq_nil_of_le hl] at h
      exact .inl ⟨hJ.stop i G H hl eG R.sub, h σ G H .refl R⟩
    | some d =>
      obtain ⟨hi, he⟩ := List.getElem?_eq_some_iff.mp e
      obtain ⟨q1, q2⟩ := hJ.go i d G H e eG R.sub
      rw [List.drop_eq_getElem_cons hi, he] at h
      refine .inr ⟨q1, fun σ' H' => ∃ ρ G, Rep X.K G H' ρ σ' ∧ Evl.Ex G0 G ∧ GoS X.K W σ' ρ G H' E (dFor g b (l.drop (i + 1)) ρ), fun σ' H' q => ⟨l.length - (i + 1), by omega, rfl, q⟩, fun x H1 hy => ?_⟩
      obtain ⟨G1, N, hx⟩ := q2 x H1 hy
      have R1 := N.rep R
      unfold dFor at h
      split at h
      · exact False.elim h
      · rename_i ρ1 e1
        refine ⟨ρ, G1, d, R1, hx, ρ1, e1, fun σ2 G2 H2 s2 R2 _ => ⟨ρ1, G2, R2, ?_⟩⟩
        have s3 := (N.stp R).trans R s2
        have h' := GoS.shift R s3 h
        cases eb : b ρ1 with
        | no => rw [eb] at h'; exact h'
        | nx ρ2 =>
          rw [eb] at h'
          exact fun σ' G' H' s R' => ⟨ρ2, G', R', fun c o q => s.g c o (s3.g c o (eG c o q)), GoS.shift R2 s h'⟩
        | cnt ρ2 =>
          rw [eb] at h'
          exact fun σ' G' H' s R' => ⟨ρ2, G', R', fun c o q => s.g c o (s3.g c o (eG c o q)), GoS.shift R2 s h'⟩
        | brk ρ2 => rw [eb] at h'; exact h'
        | ret ρ2 fr d => rw [eb] at h'; exact h'
        | ex ρ2 ee => rw [eb] at h'; exact h'⟩
end DF

namespace DF
open PySem PySem.Spec PyProof.Rows L2
section
variable {X : Cx} {W : WX} {a b c e : Expr} {rest : List Expr} {pos : Pos} {fa fb : DEnv → R D} {ta tb : DEnv → R Bool}
/-! ### tests -/
theorem tB_of {f : DEnv → R D} : ∀ σ H Q, tT X.K W (dTst f) σ H Q → tB (tD X.K W f) σ H Q := fun σ H Q ⟨ρ, G, R, h⟩ =>
  ⟨ρ, G, R, (Go.bind R h).imp fun d ρ' G' H' s R' h v hv => by
    split at h
    · cases hv
      exact ⟨_, rfl, h G' H' .refl R'⟩
    · exact False.elim h⟩
theorem dt_val (h : DE X W e fa) (he : ∀ whole, isTrue e X.env whole = (do let v ← whole; standAt e.pos; holding [v] (truthy v)) := by intro _; rfl) : DT X W e (dTst fa) := pt_imp (pt_val h he) tB_of
/-- the truth of data -/
def tru (d : D) : Option Bool := match d with
  | .non => some false
  | .bl b => some b
  | .int i => some (i != 0)
  | .lst l => some (!l.isEmpty)
  | .tup l => some (!l.isEmpty)
  | _ => none
theorem tru_of {K : PySem.W.Frag} {G H : Hp} {d : D} {v : V} {b : Bool} (eS : Evl.Ex G H) (h : Top K G H d v) (e : tru d = some b) : TruV K v H b := by
  cases d with
  | non => cases h; cases e; exact (rfl : false = false)
  | bl c => cases h; cases e; exact (rfl : b = b)
  | int i => cases h; cases e; exact (rfl : (i != 0) = (i != 0))
  | str x => cases e
  | dic l => cases e
  | obj c fs => cases e
  | lst l =>
    obtain ⟨p, xs, rfl, h1, h2⟩ := h
    cases e
    refine .inl ⟨xs, Evl.sq_of h1, ?_⟩
    cases h2 <;> rfl
  | fro l => cases e
  | tup l =>
    cases h with
    | @tup l p xs h1 h2 =>
      cases e
      refine .inr (.inl ⟨xs, Evl.ex_t eS h1, ?_⟩)
      cases h2 <;> rfl
def dTru (f : DEnv → R Th) : DEnv → R Bool := fun ρ => (f ρ).bind fun t ρ' => match t ρ' with
  | none => .no
  | some d => ofO ρ' (tru d)
theorem dt_truth {f : DEnv → R Th} (h : DO X W e f) (he : ∀ whole, isTrue e X.env whole = (do let v ← whole; standAt e.pos; holding [v] (truthy v)) := by intro _; rfl) : DT X W e (dTru f) :=
  pt_imp (pt_truth h he) fun σ H Q ⟨ρ, G, R, h⟩ => ⟨ρ, G, R, (Go.bind R h).imp fun t ρ' G' H' s R' h v hv => by
    split at h
    · exact False.elim h
    · rename_i d e1
      cases e2 : tru d with
      | none => rw [e2] at h; exact False.elim h
      | some b =>
        rw [e2] at h
        exact ⟨b, tru_of R'.sub (hv ρ' G' H' d .refl R' e1) e2, h G' H' .refl R'⟩⟩
abbrev DW (X : Cx) (W : WX) (e : Expr) (f : DEnv → R Bool) : Prop := PW X e (tT X.K W f)
def dAnd (f g : DEnv → R Bool) : DEnv → R Bool := fun ρ => (f ρ).bind fun b ρ' => match b with
  | true => g ρ'
  | false => .ok ρ' false
def dOr (f g : DEnv → R Bool) : DEnv → R Bool := fun ρ => (f ρ).bind fun b ρ' => match b with
  | true => .ok ρ' true
  | false => g ρ'
def dNot (f : DEnv → R Bool) : DEnv → R Bool := fun ρ => (f ρ).bind fun b ρ' => .ok ρ' (!b)
theorem dw_and1 (h : DT X W a ta) : DW X W (.BoolOp .And [a] pos) ta := pw_and1 h
theorem dw_or1 (h : DT X W a ta) : DW X W (.BoolOp .Or [a] pos) ta := pw_or1 h
theorem dw_and (ha : DT X W a ta) (hb : DW X W (.BoolOp .And (b :: rest) pos) tb) : DW X W (.BoolOp .And (a :: b :: rest) pos) (dAnd ta tb) :=
  pw_imp (pw_and ha hb) fun σ H Q ⟨ρ, G, R, h⟩ => ⟨ρ, G, R, (Go.bind R h).imp fun b ρ' G' H' s R' h => by
    cases b with
    | true => rw [if_pos rfl]; exact ⟨ρ', G', R', h⟩
    | false => rw [if_neg Bool.false_ne_true]; exact h G' H' .refl R'⟩
theorem dw_or (ha : DT X W a ta) (hb : DW X W (.BoolOp .Or (b :: rest) pos) tb) : DW X W (.BoolOp .Or (a :: b :: rest) pos) (dOr ta tb) :=
  pw_imp (pw_or ha hb) fun σ H Q ⟨ρ, G, R, h⟩ => ⟨ρ, G, R, (Go.bind R h).imp fun b ρ' G' H' s R' h => by
    cases b with
    | true => rw [if_pos rfl]; exact h G' H' .refl R'
    | false => rw [if_neg Bool.false_ne_true]; exact ⟨ρ', G', R', h⟩⟩
theorem dt_bool (h : DW X W e ta) : DT X W e ta := h.pt
theorem dt_not (ha : DT X W a ta) : DT X W (.UnaryOp .Not a pos) (dNot ta) :=
  pt_imp (pt_not ha) fun σ H Q ⟨ρ, G, R, h⟩ => ⟨ρ, G, R, (Go.bind R h).imp fun b ρ' G' H' s R' h => h G' H' .refl R'⟩
/-! ### and, or, not as values: of bools -/
def dAndV (f g : DEnv → R D) : DEnv → R D := fun ρ => (f ρ).bind fun d ρ' => match d with
  | .bl true => g ρ'
  | .bl false => .ok ρ' (.bl false)
  | _ => .no
def dOrV (f g : DEnv → R D) : DEnv → R D := fun ρ => (f ρ).bind fun d ρ' => match d with
  | .bl true => .ok ρ' (.bl true)
  | .bl false => g ρ'
  | _ => .no
def dNotV (f : DEnv → R D) : DEnv → R D := fun ρ => (f ρ).bind fun d ρ' => match d with
  | .bl b => .ok ρ' (.bl (!b))
  | _ => .no
theorem de_one {op} (h : DE X W a fa) : DE X W (.BoolOp op [a] pos) fa := pe_one h
theorem de_and (ha : DE X W a fa) (hb : DE X W (.BoolOp .And (b :: rest) pos) fb) : DE X W (.BoolOp .And (a :: b :: rest) pos) (dAndV fa fb) :=
  pe_imp (pe_and ha hb) fun σ H Q ⟨ρ, G, R, h⟩ => ⟨ρ, G, R, (Go.bind R h).imp fun d ρ' G' H' s R' h v hv => by
    split at h
    · cases hv; exact ⟨true, rfl, by rw [if_pos rfl]; exact ⟨ρ', G', R', h⟩⟩
    · cases hv; exact ⟨false, rfl, by rw [if_neg Bool.false_ne_true]; exact h G' H' .refl R' _ (.bl false)⟩
    · exact False.elim h⟩
theorem de_or (ha : DE X W a fa) (hb : DE X W (.BoolOp .Or (b :: rest) pos) fb) : DE X W (.BoolOp .Or (a :: b :: rest) pos) (dOrV fa fb) :=
  pe_imp (pe_or ha hb) fun σ H Q ⟨ρ, G, R, h⟩ => ⟨ρ, G, R, (Go.bind R h).imp fun d ρ' G' H' s R' h v hv => by
    split at h
    · cases hv; exact ⟨true, rfl, by rw [if_pos rfl]; exact h G' H' .refl R' _ (.bl true)⟩
    · cases hv; exact ⟨false, rfl, by rw [if_neg Bool.false_ne_true]; exact ⟨ρ', G', R', h⟩⟩
    · exact False.elim h⟩
theorem de_not (ha : DE X W a fa) : DE X W (.UnaryOp .Not a pos) (dNotV fa) :=
  pe_imp (pe_not ha) fun σ H Q ⟨ρ, G, R, h⟩ => ⟨ρ, G, R, (Go.bind R h).imp fun d ρ' G' H' s R' h v hv => by
    split at h
    · rename_i b
      cases hv; exact ⟨b, rfl, h G' H' .refl R' _ (.bl _)⟩
    · exact False.elim h⟩
def dIte (t : DEnv → R Bool) (f g : DEnv → R D) : DEnv → R D := fun ρ => (t ρ).bind fun b ρ' => match b with
  | true => f ρ'
  | false => g ρ'
theorem de_ifExp (hc : DT X W c ta) (ha : DE X W a fa) (hb : DE X W b fb) : DE X W (.IfExp c a b pos) (dIte ta fa fb) :=
  pe_imp (pe_ifExp hc ha hb) fun σ H Q ⟨ρ, G, R, h⟩ => ⟨ρ, G, R, (Go.bind R h).imp fun b ρ' G' H' s R' h => by
    cases b with
    | true => rw [if_pos rfl]; exact ⟨ρ', G', R', h⟩
    | false => rw [if_neg Bool.false_ne_true]; exact ⟨ρ', G', R', h⟩⟩
/-! ### a op b op c -/
def dChain (g g' : D → D → Option D) (f1 f2 f3 : DEnv → R Th) : DEnv → R D := fun ρ => (f1 ρ).bind fun t1 ρ1 => (f2 ρ1).bind fun t2 ρ2 => match t1 ρ2, t2 ρ2 with
  | some x, some y => match g x y with
    | some (.bl true) => (f3 ρ2).bind fun t3 ρ3 => match t2 ρ3, t3 ρ3 with
      | some y', some z => ofO ρ3 (g' y' z)
      | _, _ => .no
    | some (.bl false) => .ok ρ2 (.bl false)
    | _ => .no
  | _, _ => .no
theorem tchain {r r' : R2} {g g' : D → D → Option D} {f1 f2 f3 : DEnv → R Th} (hs : OpS X.K r g) (hs' : OpS X.K r' g') : ∀ σ H Q, tD X.K W (dChain g g' f1 f2 f3) σ H Q → tChain r r' (tO X.K W f1) (tO X.K W f2) (tO X.K W f3) σ H Q := fun σ H Q ⟨ρ, G, R, h⟩ =>
  ⟨ρ, G, R, (Go.bind R h).imp fun t1 ρ1 G1 H1 s1 R1 h1 v hv => ⟨ρ1, G1, R1, (Go.bind R1 h1).imp fun t2 ρ2 G2 H2 s2 R2 h2 u hu => by
    split at h2
    · rename_i x y ex ey
      cases e : g x y with
      | none => rw [e] at h2; exact False.elim h2
      | some z =>
        rw [e] at h2
        refine hs x y z v u G2 H2 _ R2.sub (hv ρ2 G2 H2 x s2 R2 ex) (hu ρ2 G2 H2 y .refl R2 ey) e fun w G' H' N hw => ?_
        have R' := N.rep R2
        have S' := N.stp R2
        cases z with
        | bl k =>
          cases hw
          refine ⟨k, rfl, ?_⟩
          cases k with
          | true =>
            rw [if_pos rfl]
            refine ⟨ρ2, G', R', (Go.bind R' (Go.shift R2 S' h2)).imp fun t3 ρ3 G3 H3 s3 R3 h3 w' hw' => ?_⟩
            split at h3
            · rename_i y' z ey' ez
              cases e' : g' y' z with
              | none => rw [e'] at h3; exact False.elim h3
              | some z' =>
                rw [e'] at h3
                exact hs' y' z z' u w' G3 H3 Q R3.sub (hu ρ3 G3 H3 y' (S'.trans R2 s3) R3 ey') (hw' ρ3 G3 H3 z .refl R3 ez) e' fun w G' H' N hw => h3 G' H' (N.stp R3) (N.rep R3) w hw
            · exact False.elim h3
          | false =>
            rw [if_neg Bool.false_ne_true]
            exact h2 G' H' S' R' _ (.bl false)
        | _ => exact False.elim h2
    · exact False.elim h2⟩⟩
theorem de_chain {op op' : CmpOp} {r r' : R2} {g g' : D → D → Option D} {f1 f2 f3 : DEnv → R Th} (ho : OpR X (compareOp op) r) (ho' : OpR X (compareOp op') r') (hs : OpS X.K r g) (hs' : OpS X.K r' g') (h1 : DO X W a f1) (h2 : DO X W b f2) (h3 : DO X W c f3)
    (hm : lastMarks [op, op'] [b, c] = false := by with_unfolding_all rfl) : DE X W (.Compare a [op, op'] [b, c] pos) (dChain g g' f1 f2 f3) := pe_imp (pe_chain ho ho' h1 h2 h3 hm) (tchain hs hs')
theorem dt_chain {op op' : CmpOp} {r r' : R2} {g g' : D → D → Option D} {f1 f2 f3 : DEnv → R Th} (ho : OpR X (compareOp op) r) (ho' : OpR X (compareOp op') r') (hs : OpS X.K r g) (hs' : OpS X.K r' g') (h1 : DO X W a f1) (h2 : DO X W b f2) (h3 : DO X W c f3)
    (hm : lastMarks [op, op'] [b, c] = false := by with_unfolding_all rfl) : DT X W (.Compare a [op, op'] [b, c] pos) (dTst (dChain g g' f1 f2 f3)) :=
  pt_imp (pt_chain ho ho' h1 h2 h3 hm) fun σ H Q h => by
    obtain ⟨ρ, G, R, h⟩ := ttst σ H Q h
    exact tchain hs hs' σ H _ ⟨ρ, G, R, h⟩
/-! ### displays -/
def dTup (f : DEnv → R (List D)) : DEnv → R D := fun ρ => (f ρ).bind fun l ρ' => if l.length ≤ 1000 then .ok ρ' (.tup l) else .no
def dLst (f : DEnv → R (List D)) : DEnv → R D := fun ρ => (f ρ).bind fun l ρ' => if l.length ≤ 1000 then .ok ρ' (.lst l) else .no
theorem de_tup {es : List Expr} {k : Nat} {f : DEnv → R (List D)} (h : DVs X W es f) : DE X W (.Tuple es k pos) (dTup f) := pe_imp (pe_tup h) fun σ H Q ⟨ρ, G, R, h⟩ => ⟨ρ, G, R, (Go.bind R h).imp fun l ρ' G' H' s R' h vs hv => by
    split at h
    · rename_i hl
      refine ⟨Evl.sz_of (by rw [← hv.length]; omega), fun p hp => ?_⟩
      have N : New G' H' (upd G' p (.tup vs)) (upd H' p (.tup vs)) := New.put R'.sub hp
      exact h _ _ (N.stp R') (N.rep R') _ (.tup (Evl.st_of upd_same) (hv.mono N.g))
    · exact False.elim h⟩
/-- a fresh list, as readings have it -/
theorem fresh_lst {K : PySem.W.Frag} {ρ0 ρ : DEnv} {σ : Sl} {G0 H0 G H : Hp} {l : List D} {vs : List V} {Q : VK} (R0 : Rep K G0 H0 ρ0 σ) (s : Stp ρ0 σ G0 H0 ρ σ G H) (R : Rep K G H ρ σ)
    (h : ∀ G' H', Stp ρ0 σ G0 H0 ρ σ G' H' → Rep K G' H' ρ σ → ∀ a, G' a = none → ¬ Mu false ρ σ a → ¬ Mu true ρ σ a → H0 a = none → Cont K G' H' a (.lst l) → Q (.ref a) H') (hv : Iss K G l vs) (p : Addr) (hp : H p = none) : Q (.ref p) (upd H p (.lst vs)) := by
  have N : New G H G (upd H p (.lst vs)) := New.hid R.sub hp
  have no : ∀ b, ¬ Mu b ρ σ p := fun b ⟨i, d, e1, e2⟩ => by
    obtain ⟨a, e3, _, e4⟩ := R.mu i b d e1
    rw [e2] at e3; cases e3
    obtain ⟨o, ho⟩ := e4.there
    rw [hp] at ho; cases ho
  exact h _ _ (s.trans R0 (N.stp R)) (N.rep R) p (sub_none R.sub hp) (no false) (no true) (s.t p hp) ⟨vs, upd_same, hv⟩
theorem df_lst {es : List Expr} {f : DEnv → R (List D)} (h : DVs X W es f) : DF' X W (.List es pos) (dLst f) := pe_imp (pe_lst h) fun σ H Q ⟨ρ, G, R, h⟩ => ⟨ρ, G, R, by
    cases e1 : f ρ with
    | no =>
      have h2 : dLst f ρ = .no := by unfold dLst; rw [e1]; rfl
      rw [h2] at h; exact h
    | ex ρ' ee =>
      have h2 : dLst f ρ = .ex ρ' ee := by unfold dLst; rw [e1]; rfl
      rw [h2] at h; exact h
    | ok ρ' l =>
      have h2 : dLst f ρ = if l.length ≤ 1000 then .ok ρ' (.lst l) else .no := by unfold dLst; rw [e1]; rfl
      rw [h2] at h
      intro G' H' s R' vs hv
      split at h
      · rename_i hl
        refine ⟨Evl.sz_of (by rw [← hv.length]; omega), fun p hp => ?_⟩
        exact fresh_lst R s R' (fun G' H' s R q1 q2 q3 q4 q5 q6 => h G' H' s R q1 q2 q3 q4 q5 q6) hv p hp
      · exact False.elim h⟩
/-! ### items and slices -/
def ixD (x y : D) : Option D := match x, y with
  | .lst l, .int i => atI l i
  | .tup l, .int i => atI l i
  | .fro l, .int i => atI l i
  | _, _ => none
theorem atI_iss {K : PySem.W.Frag} {G : Hp} {l : List D} {xs : List V} {i : Int} {d : D} (r : Iss K G l xs) (e : atI l i = some d) : ∃ v, atI xs i = some v ∧ Is K G d v := by
  unfold atI at e ⊢
  rw [← r.length]
  cases q : ixN l.length i with
  | none => rw [q] at e; cases e
  | some j =>
    rw [q] at e
    exact r.get e
def rIx2 (K : PySem.W.Frag) : R2 := fun x y H Q => rIxL K x y H Q ∨ rIxT K x y H Q
theorem ix2 {X : Cx} : IxR X (rIx2 X.K) := ix_list.or ix_tup
theorem ops_ix {K : PySem.W.Frag} : OpS K (rIx2 K) ixD := fun x y z v u G H Q eS hx hy e k => by
  cases y with
  | int i =>
    cases hy
    cases x with
    | lst l =>
      obtain ⟨p, xs, rfl, h1, h2⟩ := hx
      obtain ⟨w, e1, e2⟩ := atI_iss h2 e
      exact .inl ⟨p, xs, i, w, rfl, rfl, Evl.sq_of h1, e1, k w G H (New.refl eS) e2⟩
    | fro l =>
      cases hx with
      | @fro l p xs h1 h2 =>
        obtain ⟨w, e1, e2⟩ := atI_iss h2 e
        exact .inl ⟨p, xs, i, w, rfl, rfl, Evl.ex_l eS h1, e1, k w G H (New.refl eS) e2⟩
    | tup l =>
      cases hx with
      | @tup l p xs h1 h2 =>
        obtain ⟨w, e1, e2⟩ := atI_iss h2 e
        exact .inr ⟨p, xs, i, w, rfl, rfl, Evl.ex_t eS h1, e1, k w G H (New.refl eS) e2⟩
    | _ => cases e
  | _ => cases x <;> cases e
theorem de_ix {f1 f2 : DEnv → R Th} (ha : DO X W a f1) (hb : DO X W b f2) (hs : PlainIx b := by exact fun _ _ => rfl) : DE X W (.Subscript a b pos) (dBin ixD f1 f2) := pe_imp (pe_ix ix2 ha hb hs) (tbin ops_ix)
end
end DF

namespace DF
open PySem PySem.Spec PyProof.Rows L2
section
variable {K : PySem.W.Frag} {ρ : DEnv} {σ : Sl} {G H : Hp} {i : Nat} {b : Bool} {d d1 : D} {a : Addr} {o : HO}
/-- one's own list or dict is changed -/
theorem Rep.chg (R : Rep K G H ρ σ) (e : ρ[i]? = some (some (.mu b d))) (ea : σ[i]? = some (some (.ref a))) (c : Cont K G (upd H a o) a d1) :
    Stp ρ σ G H (ρ.set i (some (.mu b d1))) σ G (upd H a o) ∧ Rep K G (upd H a o) (ρ.set i (some (.mu b d1))) σ := by
  obtain ⟨a', e1, e2, e3⟩ := R.mu i b d e
  rw [ea] at e1; cases e1
  have hl : i < ρ.length := (List.getElem?_eq_some_iff.mp e).1
  have mu : ∀ (j : Nat) (c : Bool) (d' : D), (ρ.set i (some (.mu b d1)))[j]? = some (some (.mu c d')) → ∃ d'', ρ[j]? = some (some (.mu c d'')) := fun j c d' q => by
    rcases set_get q with ⟨z, y⟩ | ⟨_, z⟩
    · subst z; cases y; exact ⟨d, e⟩
    · exact ⟨d', z⟩
  refine ⟨⟨fun _ _ q => q, fun c u n1 n2 q => ?_, fun c q => ?_, fun c q1 q2 => absurd q1 q2, fun c ⟨j, d', q1, q2⟩ => ?_, fun j => ⟨fun d' q => ?_, fun d' q => mu j true d' q⟩⟩, ⟨fun c u q => ?_, by rw [List.length_set]; exact R.len, fun j d' q => ?_, fun j c' d' q => ?_, fun j k b' c' x y a' q1 q2 q3 q4 => ?_⟩⟩
  · have n : c ≠ a := fun z => by
      subst z
      cases b with
      | false => exact n1 ⟨i, d, e, ea⟩
      | true => exact n2 ⟨i, d, e, ea⟩
    rw [upd_ne n]; exact q
  · by_cases z : c = a
    · subst z; rw [upd_same] at q; cases q
    · rw [upd_ne z] at q; exact q
  · obtain ⟨d'', z⟩ := mu j false d' q1
    exact .inl ⟨j, d'', z, q2⟩
  · by_cases z : i = j
    · subst z
      rw [e] at q; cases q
      exact ⟨d1, List.getElem?_set_self hl, rfl⟩
    · exact ⟨d', by rw [List.getElem?_set_ne z]; exact q, rfl⟩
  · have n : c ≠ a := fun z => by subst z; rw [e2] at q; cases q
    rw [upd_ne n]; exact R.sub c u q
  · rcases set_get q with ⟨_, y⟩ | ⟨_, z⟩
    · cases y
    · exact R.vl j d' z
  · rcases set_get q with ⟨z, y⟩ | ⟨n, z⟩
    · subst z; cases y
      exact ⟨a, ea, e2, c⟩
    · obtain ⟨a2, z1, z2, z3⟩ := R.mu j c' d' z
      have na : a2 ≠ a := fun y => by subst y; exact n (R.ap i j b c' d d' a2 e z ea z1)
      exact ⟨a2, z1, z2, z3.mono (fun _ _ q => q) fun u q => by rw [upd_ne na]; exact q⟩
  · obtain ⟨x', z1⟩ := mu j b' x q1
    obtain ⟨y', z2⟩ := mu k c' y q2
    exact R.ap j k b' c' x' y' a' z1 z2 q3 q4
end
section
variable {X : Cx} {W : WX} {i : Nat} {o e k : Expr} {pos p1 p2 p3 : Pos} {f : DEnv → R D}
def muL (i : Nat) (ρ : DEnv) : Option (Bool × List D) := match ρ[i]? with
  | some (some (.mu b (.lst l))) => some (b, l)
  | _ => none
theorem muL_of {ρ : DEnv} {b : Bool} {l : List D} (h : muL i ρ = some (b, l)) : ρ[i]? = some (some (.mu b (.lst l))) := by
  unfold muL at h
  split at h
  · rename_i b' l' e; cases h; exact e
  · cases h
/-- x.append(e) -/
def dApp (i : Nat) (f : DEnv → R D) : DEnv → SR := fun ρ => match muL i ρ with
  | none => .no
  | some _ => (f ρ).bindS fun d ρ' => match muL i ρ' with
    | none => .no
    | some (b, l) => if l.length < 16000000 then .nx (ρ'.set i (some (.mu b (.lst (l ++ [d]))))) else .no
theorem ds_app (ho : PE X o (tVar i)) (he : DE X W e f) (hs : swapsWith (.Call (.Attribute o "append" p1) [e] [] p2) none pos.line X.env = pure false := by rfl)
    (hbase : attributeBase o "append" X.env (eval o X.env) = eval o X.env := by rfl)
    (hfew : ((backTo p2 (starEach [e] X.env)).all (fun x => !x.1) && (backToKw p2 (keywordEach [] X.env)).all (fun x => x.1.isSome) && decide ([e].length + ([] : List Keyword).length + (if ([] : List Keyword).isEmpty then 0 else 1) < 30)) = true := by rfl)
    (hline : (p1.endLine == p2.line) = true := by rfl) (hst : starEach [e] X.env = (false, eval e X.env) :: starEach [] X.env := by rfl) (hplain : (backTo p2 (starEach [] X.env)).any (·.1) = false := by rfl) :
    DS X W (.Expr (.Call (.Attribute o "append" p1) [e] [] p2) pos) (dApp i f) :=
  ps_imp (ps_expr (pe_bm PySem.F.plainAttrs_list PySem.F.slot_list_append PySem.F.type_list_append mt_append ho (pa_cons he pa_nil hst) hbase hfew hline hst hplain) hs) fun E σ H ⟨ρ, G, R, h⟩ => by
    unfold dApp at h
    split at h
    · exact False.elim h
    · rename_i q e1
      obtain ⟨b, l⟩ := q
      have e1 := muL_of e1
      obtain ⟨a, ea, e2, xs, e3, e4⟩ := R.mu i b _ e1
      refine ⟨.ref a, ea, .inl ⟨rfl, xs, Evl.sq_of e3⟩, ρ, G, R, (Go.bindS R h).imp fun d ρ' G' H' s R' h v hv => ?_⟩
      split at h
      · exact False.elim h
      · rename_i b' l' e5
        have e5 := muL_of e5
        obtain ⟨a', ea', e6, ys, e7, e8⟩ := R'.mu i b' _ e5
        rw [ea] at ea'; cases ea'
        split at h
        · rename_i hl
          refine ⟨a, ys, v, rfl, rfl, e7, by rw [← e8.length, sizeLine_eq]; omega, ?_⟩
          obtain ⟨s2, R2⟩ := R'.chg (o := .lst (ys ++ [v])) (d1 := .lst (l' ++ [d])) e5 ea ⟨_, upd_same, e8.append (.cons hv .nil)⟩
          exact h σ G' _ s2 R2
        · exact False.elim h
/-- x[k] = e -/
def dSetI (i : Nat) (fk f : DEnv → R D) : DEnv → SR := fun ρ => (f ρ).bindS fun d ρ1 => match muL i ρ1 with
  | none => .no
  | some _ => (fk ρ1).bindS fun k ρ2 => match muL i ρ2, k with
    | some (b, l), .int n => match ixN l.length n with
      | none => .no
      | some j => .nx (ρ2.set i (some (.mu b (.lst (l.set j d)))))
    | _, _ => .no
theorem ds_seti {fk : DEnv → R D} (ho : PE X o (tVar i)) (hk : DE X W k fk) (he : DE X W e f) (hs : swapsWithSole [.Subscript o k p1] e pos.line X.env = pure false := by rfl) (hw : swappedStores [.Subscript o k p1] e X.env = pure none := by rfl)
    (h1 : (assignEach [.Subscript o k p1] X.env).map (·.2) = [assign (.Subscript o k p1) X.env] := by rfl)
    (ha : ∀ v, assign (.Subscript o k p1) X.env v = (do
      let ov ← holding [v] (eval o X.env)
      let iv ← holding [v, ov] (eval k X.env)
      standAt p1
      holding [v, ov, iv] (setItem ov iv v)
      release [v, ov, iv] []) := by intro _; rfl) : DS X W (.Assign [.Subscript o k p1] e pos) (dSetI i fk f) :=
  ps_imp (ps_asg he (pg_sub ho hk set_list ha) hs hw h1) fun E σ H ⟨ρ, G, R, h⟩ => ⟨ρ, G, R, (Go.bindS R h).imp fun d ρ1 G1 H1 s1 R1 h v hv => by
    split at h
    · exact False.elim h
    · rename_i q e1
      obtain ⟨b, l⟩ := q
      have e1 := muL_of e1
      obtain ⟨a, ea, e2, xs, e3, e4⟩ := R1.mu i b _ e1
      refine ⟨.ref a, ea, ρ1, G1, R1, (Go.bindS R1 h).imp fun kd ρ2 G2 H2 s2 R2 h kv hkv => ?_⟩
      split at h
      · rename_i b' l' n e5
        have e5 := muL_of e5
        cases hkv
        obtain ⟨a', ea', e6, ys, e7, e8⟩ := R2.mu i b' _ e5
        rw [ea] at ea'; cases ea'
        split at h
        · exact False.elim h
        · rename_i j ej
          refine ⟨a, ys, n, j, rfl, rfl, e7, by rw [← e8.length]; exact ej, ?_⟩
          obtain ⟨s3, R3⟩ := R2.chg (o := .lst (ys.set j v)) (d1 := .lst (l'.set j d)) e5 ea ⟨_, upd_same, e8.set (hv.mono s2.g) j⟩
          exact h σ G2 _ s3 R3
      · exact False.elim h⟩
end

/-! ### a def's promise over data -/
inductive FRes where
  | no
  | ret (fr : Bool) (d : D) (outs : List D)
  | exc (e : Exc) (outs : List D)
abbrev Fn := List (Bool × D) → FRes
inductive ArgsIs (K : PySem.W.Frag) (G H : Hp) : List (Bool × D) → List V → Prop
  | nil : ArgsIs K G H [] []
  | val {d : D} {v : V} {as : List (Bool × D)} {vs : List V} : Is K G d v → ArgsIs K G H as vs → ArgsIs K G H ((false, d) :: as) (v :: vs)
  | io {d : D} {a : Addr} {as : List (Bool × D)} {vs : List V} : G a = none → Cont K G H a d → ArgsIs K G H as vs → ArgsIs K G H ((true, d) :: as) (.ref a :: vs)
def ioA : List (Bool × D) → List V → List Addr
  | (true, _) :: as, .ref a :: vs => a :: ioA as vs
  | _ :: as, _ :: vs => ioA as vs
  | _, _ => []
inductive OutsIs (K : PySem.W.Frag) (G H : Hp) : List (Bool × D) → List V → List D → Prop
  | nil : OutsIs K G H [] [] []
  | val {d : D} {v : V} {as : List (Bool × D)} {vs : List V} {os : List D} : OutsIs K G H as vs os → OutsIs K G H ((false, d) :: as) (v :: vs) os
  | io {d d' : D} {a : Addr} {as : List (Bool × D)} {vs : List V} {os : List D} : Cont K G H a d' → OutsIs K G H as vs os → OutsIs K G H ((true, d) :: as) (.ref a :: vs) (d' :: os)
structure FStp (io : List Addr) (G H G' H' : Hp) : Prop where
  g : Evl.Ex G G'
  h : ∀ b o, b ∉ io → H b = some o → H' b = some o
  t : ∀ b, H' b = none → H b = none
  n : ∀ b, G b = none → G' b ≠ none → H b = none
  s : Evl.Ex G' H'
def FIs (K : PySem.W.Frag) (G' H' H : Hp) (fr : Bool) (d : D) (v : V) : Prop := match fr with
  | false => Is K G' d v
  | true => ∃ a, v = .ref a ∧ G' a = none ∧ H a = none ∧ Cont K G' H' a d
def spD (K : PySem.W.Frag) (ar : Nat) (F : Fn) : Sp := fun vs H Q E => vs.length = ar ∧ ∃ G as, Evl.Ex G H ∧ ArgsIs K G H as vs ∧ (ioA as vs).Nodup ∧ match F as with
  | .no => False
  | .ret fr d outs => ∀ v G' H', FStp (ioA as vs) G H G' H' → OutsIs K G' H' as vs outs → FIs K G' H' H fr d v → Q v H'
  | .exc e outs => ∀ dd G' H', FStp (ioA as vs) G H G' H' → OutsIs K G' H' as vs outs → EIs K G' H' e dd → E e.cls dd H'
theorem ArgsIs.length {K : PySem.W.Frag} {G H : Hp} : ∀ {as : List (Bool × D)} {vs : List V}, ArgsIs K G H as vs → as.length = vs.length
  | _, _, .nil => rfl
  | _, _, .val _ r => congrArg (· + 1) (ArgsIs.length r)
  | _, _, .io _ _ r => congrArg (· + 1) (ArgsIs.length r)

/-! ### the callee's side -/
def startC (as : List (Bool × D)) : DEnv := as.map fun p => some (if p.1 then .mu true p.2 else .val p.2)
def startE (n : Nat) (as : List (Bool × D)) : DEnv := startC as ++ List.replicate (n - as.length) none
def outs (ρ : DEnv) : Nat → List (Bool × D) → Option (List D)
  | _, [] => some []
  | i, (false, _) :: as => outs ρ (i + 1) as
  | i, (true, _) :: as => match ρ[i]? with
    | some (some (.mu true d)) => match outs ρ (i + 1) as with
      | some l => some (d :: l)
      | none => none
    | _ => none
def fnRes (as : List (Bool × D)) (r : SR) : FRes := match r with
  | .nx ρ => match outs ρ 0 as with
    | some l => .ret false .non l
    | none => .no
  | .ret ρ fr d => match outs ρ 0 as with
    | some l => .ret fr d l
    | none => .no
  | .ex ρ e => match outs ρ 0 as with
    | some l => .exc e l
    | none => .no
  | _ => .no
end DF

/-! A def's promise where the guards of repr are known: none stands around. -/
namespace DF
open PySem PySem.Spec PyProof.Rows L2
/-- room, and no guard of repr around -/
structure RoomG (k : Nat) (A : Around) : Prop where
  room : Room k A
  gd : A.guards = some []
theorem RoomG.mono {j k : Nat} {A : Around} (r : RoomG k A) (h : j ≤ k) : RoomG j A := ⟨r.room.mono h, r.gd⟩
theorem RoomG.deeper {k : Nat} {A : Around} (r : RoomG (k + 1) A) (env : Env) : RoomG k (A.deeper env) := ⟨r.room.deeper env, r.gd⟩
theorem RoomG.units {k : Nat} {A : Around} (r : RoomG k A) : A.units + 64 < cLine := r.room.units
theorem RoomG.units0 {k : Nat} {A : Around} (r : RoomG k A) : A.units < cLine := r.room.units0
/-- the promise: only positional arguments, all given -/
structure FnG (P : Program) (w : World) (K : PySem.W.Frag) (mg : Str → Option Value) (base : Heap) (CX : CXT) (k : Nat) (f : Addr) (fd : FuncData) (ps : List Str) (sp : Sp) : Prop where
  len : ∀ vs H Q E, sp vs H Q E → vs.length = ps.length
  run : ∀ (A : Around) (outer : List Env) (s : Shared) (H : Hp) (us : List Value) (vs : List V) (Q : VK) (E : XK), RoomG k A → Env0 P w K mg base A outer s H → BindsTo s fd ⟨us, []⟩ (ps.zip us) → Vals vs us → sp vs H Q E →
    codeAny (model P w) A (.call (.ref f) ⟨us, []⟩) (CR CX outer P w H s Q E) s
theorem cr_ret {CX : CXT} {outer : List Env} {P : Program} {w : World} {H : Hp} {s : Shared} {Q : VK} {E : XK} {r : Result} {s' : Shared} {T : Result → Shared → Prop} (h : CR CX outer P w H s Q E r s') (h1 : ∀ u, CE outer P w H s Q u s' → T (.ok (.ret u)) s') (h2 : ∀ e, CX outer H s E e s' → T (.error e) s') : T r s' := by
  rcases r with e | fl
  · exact h2 e h
  · rcases fl with _ | _ | _ | u
    all_goals first | exact False.elim h | exact h1 _ h
section
variable {X : Cx} {CX : CXT} {k : Nat} {f : Addr} {fd : FuncData} {ps : List Str} {sp : Sp} {E : L2.St → XK} {x : Str} {p pos : Pos} {e : Expr} {es : List Expr} {t : TA}
theorem call_G {pins : List (Addr × Obj)} {σ : L2.St} {H : Hp} {s : Shared} {Q : VK} {us : List Value} {vs : List V} (F : FnG X.prog X.w X.K X.mg X.base CX k f fd ps sp) (hr : RoomG k X.A) (hb : Binds X.K fd ps []) (hx : PassesAt CX X σ (E σ))
    (I : Inv X pins σ H s) (r : Vals vs us) (h : sp vs H Q (E σ)) : wpAny (model X.prog X.w) X.A (call (.ref f) us) (EP X pins σ Q) X.xe s := by
  have hl : us.length = ps.length := by rw [← r.length]; exact F.len _ _ _ _ h
  have hb' : BindsTo s fd ⟨us, []⟩ (ps.zip us) := by simpa using hb s us I.kIn (by simpa using hl)
  exact wpAny_call (codeAny_mono (F.run X.A X.stack s H us vs Q (E σ) hr I.env0 hb' r h) fun r s' q => cr_ret (T := fun r s' => match r with | .ok (.ret u) => EP X pins σ Q u s' | .ok _ => False | .error e => X.xe e s') q (fun u c => I.after c) fun e c => hx pins H s e s' I c)
theorem pe_G (F : FnG X.prog X.w X.K X.mg X.base CX k f fd ps sp) (hr : RoomG k X.A) (hg : Gl X x) (hm : X.mg x = some (.ref f)) (hk : PySem.W.keepIn X.K (.ref f) = true) (hb : Binds X.K fd ps []) (hx : ∀ σ, PassesAt CX X σ (E σ))
    (ha : PA X (e :: es) t) (hdb : (x == ("__debug__" : Str)) = false := by decide) (he : starEach (e :: es) X.env = (false, eval e X.env) :: starEach es X.env := by rfl) (hpl : (backTo pos (starEach es X.env)).any (·.1) = false := by rfl) :
    PE X (.Call (.Name x p) (e :: es) [] pos) (tCallSD sp [] E t) :=
  ⟨fun pins s σ H Q I h => wpAny_Call_Name_kw (ld_glob I hg hm (PySem.W.callWith_K (h₀ := X.base) I.ok.mod.kin hk (thn (ha.run pos pins s σ H _ I h) fun us s1 ⟨vs, H1, I1, r, q⟩ => ⟨I1.kIn, call_G F hr hb (hx σ) I1 r (by simpa using q)⟩) he hpl) hdb)⟩
end

section
variable {CX : CXT} {P : Program} {w : World} {K : PySem.W.Frag} {mg : Str → Option Value} {base : Heap}
/-- a def by its body -/
theorem fn_G {x qual : Str} {st : Stmt} {f : Addr} {fd : FuncData} {N ps : List Str} {k : Nat} {sp : Sp} (Fu : Fun K x qual st f fd) (S : FnScope N ps (defScope st)) (len : ∀ vs H Q E, sp vs H Q E → vs.length = ps.length)
    (hB : ∀ (cdv : Value) (A : Around) (outer : List Env) (s : Shared) (H : Hp) (vs : List V) (Q : VK) (E : XK), RoomG k (A.deeper (envOfC qual (defScope st) s.heap.objs.size f cdv)) → sp vs H Q E →
      ∃ t, PSs (cxOf CX P w K mg base N qual (defScope st) f cdv A outer s H E) (defBody st) t ∧ t { nx := fun _ H' => Q .non H', rt := Q } (L2.start N vs) H) : FnG P w K mg base CX (k + 1) f fd ps sp where
  len := len
  run := by
    obtain ⟨oc, od, kV, doc, pm, an, cdv, ct, osl, rfl, lk, hcd⟩ := Fu.ex
    intro A outer s H us vs Q E hr e0 hb rv hsp
    have inK : K.In s.heap := e0.mod.kin.keeps fun b o e => (e0.bs b o e).1
    have noL := e0.mod.nolimit.keeps fun b o e => (e0.bs b o e).1
    refine codeAny_call_function hr.room.depth (inK _ _ lk) rfl S.co S.gen rfl (PySem.W.codeRec_of inK hcd) (hb _ _ _ _ (wpAny_newFunctionEnv_cells S.kind ?kinds ?body))
    case kinds =>
      rintro ⟨y, v⟩ hy
      exact (S.par y (List.of_mem_zip hy).1).elim .inl fun q => .inr ⟨q, PySem.W.cellsFrom_some _ _ _ (.inl q)⟩
    case body =>
      rintro env rfl s1 x1
      obtain ⟨t, ht, hq⟩ := hB cdv A outer s H vs Q E (hr.deeper _) hsp
      refine ⟨noL.keeps x1.toInCall.keep, codeAny_func (wpAny_mono (ht.run [] s1 _ H _ (inv_start S hr.room.hd e0 (len _ _ _ _ hsp) rv x1) hq) (fun fl s' hs => ?_) fun _ _ hs => hs)⟩
      rcases fl with _ | _ | _ | u
      · obtain ⟨_, H', J, q⟩ := hs
        exact ⟨V.non, H', J.os, J.bare, J.base, J.hok, rfl, q⟩
      · obtain ⟨_, _, _, q⟩ := hs
        exact False.elim q
      · obtain ⟨_, _, _, q⟩ := hs
        exact False.elim q
      · obtain ⟨v, _, H', J, rv', q⟩ := hs
        exact ⟨v, H', J.os, J.bare, J.base, J.hok, rv', q⟩
end

section
variable {P : Program} {w : World} {K : PySem.W.Frag} {mg mb : Str → Option Value}
/-- the script's place in a heap that shows nothing else -/
theorem script_heap {s : Shared} {a : Addr} {vs : List Value} {ns : List Int} (KX : K.In s.heap) (ha : s.heap.get? a = some { cls := .type "list", data := .seq vs.toArray }) (hi : IntsAre vs ns) (hl : ns.length ≤ sizeLine) :
    ∃ H : Hp, Only H ∧ SqL K H a (ns.map V.int) ∧ HOk P w H s.heap ∧ ∀ b, H b ≠ none → b = a ∧ K.lookup a = none := by
  have rv := vals_ints hi
  rcases hk : K.lookup a with _ | o
  · let ho : HO := .frz { cls := .type "list", data := .seq vs.toArray } (.lst (ns.map V.int))
    let H0 : Hp := fun b => if b = a then some ho else none
    have at0 : H0 a = some ho := if_pos rfl
    have off : ∀ b, b ≠ a → H0 b = none := fun b h => if_neg h
    refine ⟨H0, fun b => ?_, .inl (.inr ⟨_, at0⟩), fun b u z => ?_, fun b z => ⟨Classical.byContradiction fun h => z (off b h), rfl⟩⟩
    · rcases Classical.em (b = a) with rfl | h
      · exact .inr ⟨_, _, at0⟩
      · exact .inl (off b h)
    · rcases Classical.em (b = a) with rfl | h
      · rw [at0] at z
        cases z
        exact ⟨ha, by simpa using hl, vs, _, rv, ha⟩
      · rw [off b h] at z; cases z
  · have e := KX a o hk
    rw [ha] at e
    cases e
    exact ⟨fun _ => none, fun _ => .inl rfl, .inr ⟨_, vs.toArray, _, hk, rfl, rfl, rfl, by rw [List.size_toArray, hi.length]; exact hl, by simpa using rv⟩, fun _ _ z => (nomatch z), fun _ z => absurd rfl z⟩
/-- the state at the law's call -/
theorem top_env {s : Shared} {a : Addr} {vs : List Value} {H : Hp} (KX : K.In s.heap) (hns : s.heap.Ns mainGlobals mg) (hb : s.heap.Ns builtinsNs mb) (hbb : ∀ x : Str, x ≠ "__name__" → mb x = bootBuiltins x) (hlim : s.heap.NoLimit) (hg : s.gens = #[])
    (ha : s.heap.get? a = some { cls := .type "list", data := .seq vs.toArray }) (hok : HOk P w H s.heap) (hA : ∀ b, H b ≠ none → b = a ∧ K.lookup a = none) :
    K.In (hidT s.heap H) ∧ (hidT s.heap H).Ns mainGlobals mg ∧ Env0 P w K mg (hidT s.heap H) callerA [] s H := by
  have free : ∀ {b : Addr} {o : Obj}, s.heap.get? b = some o → (b = a → False) → H b = none := fun {b o} _ h => by
    rcases q : H b with _ | u
    · rfl
    · exact (h (hA b (by rw [q]; nofun)).1).elim
  have notA : ∀ {b : Addr} {o : Obj} {es : Array DictEntry} {ep : Nat}, s.heap.get? b = some o → o.data = .dict es ep → b = a → False := fun e d h => by
    subst h; rw [ha] at e; cases e; exact (nomatch (show Data.seq vs.toArray _ = Data.dict _ _ from d))
  have ns : ∀ {b : Addr} {m : Str → Option Value}, s.heap.Ns b m → (hidT s.heap H).Ns b m := fun ⟨o, es, ep, e, d, r⟩ => ⟨o, es, ep, hidT_get e (free e (notA e d)), d, r⟩
  have inK : K.In (hidT s.heap H) := fun b o e => hidT_get (KX b o e) (by
    rcases q : H b with _ | u
    · rfl
    · obtain ⟨e1, e2⟩ := hA b (by rw [q]; nofun)
      rw [e1, e2] at e; cases e)
  obtain ⟨mc, l1, l2⟩ := hlim
  exact ⟨inK, ns hns, rfl, ⟨inK, ns hns, ⟨mb, ns hb, hbb⟩, ⟨mc, ns l1, l2⟩⟩, fun b o e => of_hidT e, Nat.le_of_eq (hidT_size _ _), trivial, fun b z => absurd z (List.not_mem_nil), hok, .of_eq hg⟩
variable {CX : CXT} {k : Nat} {fa : Addr} {fd : FuncData} {x : Str} {sp : Sp}
/-- the call of the law -/
theorem law_G {s : Shared} {a : Addr} {vs : List Value} {ns : List Int} (KX : K.In s.heap) (hns : s.heap.Ns mainGlobals mg) (hb : s.heap.Ns builtinsNs mb) (hbb : ∀ x : Str, x ≠ "__name__" → mb x = bootBuiltins x) (hlim : s.heap.NoLimit) (hg : s.gens = #[])
    (ha : s.heap.get? a = some { cls := .type "list", data := .seq vs.toArray }) (hi : IntsAre vs ns) (hl : ns.length ≤ sizeLine) (hr : Room k callerA)
    (F : ∀ base : Heap, K.In base → base.Ns mainGlobals mg → FnG P w K mg base CX k fa fd [x] sp) (hbind : ∀ (s : Shared) (u : Value), BindsTo s fd ⟨[u], []⟩ [(x, u)])
    (hsp : ∀ H : Hp, Only H → SqL K H a (ns.map V.int) → sp [.ref a] H (fun v _ => v = .bl true) fun _ _ _ => False)
    (hCX : ∀ H e s', CX [] H s (fun _ _ _ => False) e s' → False) :
    codeAny (model P w) callerA (.call (.ref fa) ⟨[.ref a], []⟩) (fun r s' => r = .ok (.ret (.bool true)) ∧ OldK s.heap s'.heap ∧ s'.os = s.os ∧ AllBare s'.gens) s := by
  obtain ⟨H, hO, hS, hok, hA⟩ := script_heap (P := P) (w := w) KX ha hi hl
  obtain ⟨k1, k2, e0⟩ := top_env KX hns hb hbb hlim hg ha hok hA
  refine codeAny_mono ((F _ k1 k2).run callerA [] s H [.ref a] [.ref a] _ _ ⟨hr, rfl⟩ e0 (hbind s (.ref a)) (.cons rfl .nil) (hsp H hO hS)) fun r s' h => cr_ret (T := fun r s' => r = .ok (.ret (.bool true)) ∧ OldK s.heap s'.heap ∧ s'.os = s.os ∧ AllBare s'.gens) h ?_ fun e c => (hCX H e s' c).elim
  rintro u ⟨v, H', os, bare, un, hok', r', q⟩
  obtain rfl : v = .bl true := q
  obtain rfl : u = Value.bool true := r'
  refine ⟨rfl, OldK.of_keep fun b o e => ?_, os, bare⟩
  rcases hO b with z | ⟨ob, xs, z⟩
  · exact un.keep b o e z (by intro y; exact absurd y (List.not_mem_nil)) (by simp)
  · have e1 := (hok b _ z).1
    have e2 := (hok' b _ (un.frzs b ob _ z)).1
    rw [e] at e1; cases e1
    exact e2
end
/-- a law whose def's promise knows that no guard stands around -/
theorem walk_G {l : PySem.W.OpenLaw} {n k : Nat} {q : Program} {loose : List Str} {XP : (Str → Option Value) → Heap → Prop} {YP : World → Heap → Prop} {d : DefRec} {K : Params → PySem.W.Frag} {CX : World → CXT} {sp : World → Sp} {x : Str}
    (hn : l.most = some n) (hn2 : n ≤ sizeLine) (hdf : d.params.defaults = []) (hr : Room k callerA)
    (hY : ∀ (w : World) (h : Heap), YP w h → (K w.params).In h)
    (F : ∀ (w : World) (mg : Str → Option Value) (fa : Addr) (h : Heap), (K w.params).In h → h.Ns mainGlobals mg → mg d.name = some (.ref fa) →
      ∃ fd : FuncData, (∀ (s : Shared) (u : Value), BindsTo s fd ⟨[u], []⟩ [(x, u)]) ∧
        ∀ base : Heap, (K w.params).In base → base.Ns mainGlobals mg → FnG l.prog w (K w.params) mg base (CX w) k fa fd [x] (sp w))
    (hsp : ∀ (w : World) (H : Hp) (a : Addr) (ns : List Int), ns.length ≤ n → Only H → SqL (K w.params) H a (ns.map V.int) → sp w [.ref a] H (fun v _ => v = .bl true) fun _ _ _ => False)
    (hCX : ∀ (w : World) (H : Hp) (s : Shared) (e : Value) (s' : Shared), CX w [] H s (fun _ _ _ => False) e s' → False) :
    PySem.W.WalkO q loose XP YP l.row.toRowW d [] (fun f vs => PySem.call f vs) :=
  Att.attach_call hn hdf fun w s₀ s₁ mg mb fa o pm cd doc a vs ns G Y ho hd hcd hmg hobj hints hlen hg => by
    have KX := hY w _ Y
    obtain ⟨fd, hb, hF⟩ := F w mg fa _ KX G.T.g hmg
    exact law_G KX G.T.g G.T.b G.T.builtins G.T.nolimit hg hobj hints (Nat.le_trans hlen hn2) hr hF hb (fun H hO hS => hsp w H a ns hlen hO hS) fun H e s' c => hCX w H s₁ e s' c
end DF

/-! Classes, methods and properties whose defs know that no guard of repr stands around. -/
namespace DF
open PySem PySem.Spec PyProof.Rows L2
theorem RoomG.in1 {k : Nat} {A : Around} (r : RoomG (k + 1) A) : RoomG k A.in1 := ⟨r.room.in1, r.gd⟩
theorem RoomG.make {k : Nat} {A : Around} (r : RoomG (k + 1) A) (C : Addr) (us : List Value) : RoomG k (A.under (.builtin "type.__call__" ⟨.ref C :: us, []⟩)) := ⟨r.room.make C us [], by
  have q := r.gd
  simp [Around.under, Code.guards, Code.isGuard, pushGuards, guardIds, q]⟩
section
variable {X : Cx} {k : Nat} {C f p g : Addr} {fd : FuncData} {ps : List Str} {sp : Sp} {E : XK} {x m n : Str} {q pos apos : Pos} {e o : Expr} {es : List Expr} {ta : TE} {t : TA}
/-- the result of a call inside, from behind its end -/
theorem after_G {pins : List (Addr × Obj)} {σ : L2.St} {H : Hp} {s : Shared} {Q : VK} {r : Result} {s' : Shared} {T : Result → Shared → Prop} (I : Inv X pins σ H s) (h : CR (L2.CX X.prog X.w) X.stack X.prog X.w H s Q E0 r s') (k1 : ∀ u, EP X pins σ Q u s' → T (.ok (.ret u)) s') : T r s' :=
  cr_ret h (fun u c => k1 u (I.after c)) fun e c => by
    obtain ⟨_, _, _, _, _, _, _, _, _, _, _, _, z⟩ := c
    exact z.elim
theorem pe_makeG (M : Mk X.K C f) (F : FnG X.prog X.w X.K X.mg X.base (L2.CX X.prog X.w) k f fd ps sp) (hr : RoomG (k + 1) X.A) (hg : Gl X x) (hm : X.mg x = some (.ref C)) (hb : Binds X.K fd ps [])
    (ha : PA X (e :: es) t) (hdb : (x == ("__debug__" : Str)) = false := by decide) (he : starEach (e :: es) X.env = (false, eval e X.env) :: starEach es X.env := by rfl) (hpl : (backTo pos (starEach es X.env)).any (·.1) = false := by rfl) :
    PE X (.Call (.Name x q) (e :: es) [] pos) (tMake C sp [] E0 t) := by
  refine ⟨fun pins s σ H Q I h => wpAny_Call_Name_kw (ld_glob I hg hm (PySem.W.callWith_K (h₀ := X.base) I.ok.mod.kin M.kp (thn (ha.run pos pins s σ H _ I h) fun us s1 ⟨vs, H1, I1, r, hq⟩ => ⟨I1.kIn, ?_⟩) he hpl) hdb)⟩
  let n := s1.heap.objs.size
  have hs := hq (n + 1) n (I1.hok.fresh (Nat.le_succ _)) (I1.hok.fresh (Nat.le_refl _)) (by show n ≠ n + 1; omega)
  rw [List.append_nil] at hs
  have I2 := Inv.made (C := C) I1
  have r2 : Vals (V.ref (n + 1) :: vs) (Value.ref (n + 1) :: us) := .cons rfl r
  have hl : (Value.ref (n + 1) :: us).length = ps.length := by rw [← r2.length]; exact F.len _ _ _ _ hs
  have hb' := hb _ (Value.ref (n + 1) :: us) I2.kIn (by simpa using hl)
  rw [List.append_nil] at hb'
  have e2 : Env0 X.prog X.w X.K X.mg X.base (X.A.under (.builtin "type.__call__" ⟨.ref C :: us, []⟩)) X.stack _ _ := I2.env0.make C us []
  refine wpAny_call (make_map (f := f) I1.kIn M.makes M.init (beq_iff_eq.mp M.fn) (codeAny_mono (F.run _ X.stack _ _ _ _ _ E0 (hr.make C us) e2 hb' r2 hs) fun r s' hq' => after_G I2 hq' ?_))
  rintro u ⟨v, H', I3, rv, ev, q3⟩
  subst ev
  exact ⟨rv, V.ref (n + 1), H', I3, rfl, q3⟩
theorem pe_methG {pl : Sem Bool} (he : PE X o ta) (c : Cls X.K C) (hm : Meth X.K C m f) (F : FnG X.prog X.w X.K X.mg X.base (L2.CX X.prog X.w) k f fd ps sp) (hr : RoomG k X.A) (hb : Binds X.K fd ps []) (ha : PA X (e :: es) t)
    (hst : starEach (e :: es) X.env = (false, eval e X.env) :: starEach es X.env := by rfl) (hpl : (backTo pos (starEach es X.env)).any (·.1) = false := by rfl)
    (ht : eval (.Call (.Attribute o m apos) (e :: es) [] pos) X.env = (do
      let ov ← eval o X.env
      standAt apos.atName
      let (f, first) ← holding [ov] (getMethod ov m pl)
      callWith pos f first (backTo pos (starEach (e :: es) X.env)) (backToKw pos (keywordEach [] X.env))) := by rfl) : PE X (.Call (.Attribute o m apos) (e :: es) [] pos) (tMeth C m sp [] E0 ta t) := by
  refine ⟨fun pins s σ H Q I h => PySem.W.methodCall_KW (pl := pl) (thn (he.run pins s σ H _ I h) fun u s1 hu => ?_) ht⟩
  obtain ⟨_, H1, I1, rx, a, dx, fs, rfl, ea, l, q⟩ := hu
  obtain rfl : u = Value.ref a := rx
  exact getmeth_ok I1 ea c hm l (PySem.W.callWith_K (first := [.ref a]) (h₀ := X.base) I.ok.mod.kin hm.kp (thn (ha.run pos pins s1 σ H1 _ I1 q) fun us s2 ⟨vs, H2, I2, r, q2⟩ =>
    ⟨I2.kIn, call_G (E := fun _ => E0) (us := .ref a :: us) (vs := .ref a :: vs) F hr hb (fun pins H s e s1 I c => passL pins σ H s e s1 I c) I2 (.cons rfl r) (by simpa using q2)⟩) hst hpl)
theorem pe_meth0G {pl : Sem Bool} (he : PE X o ta) (c : Cls X.K C) (hm : Meth X.K C m f) (F : FnG X.prog X.w X.K X.mg X.base (L2.CX X.prog X.w) k f fd ps sp) (hr : RoomG k X.A) (hb : Binds X.K fd ps [])
    (ht : eval (.Call (.Attribute o m apos) [] [] pos) X.env = (do
      let ov ← eval o X.env
      standAt apos.atName
      let (f, first) ← holding [ov] (getMethod ov m pl)
      callWith pos f first (backTo pos (starEach [] X.env)) (backToKw pos (keywordEach [] X.env))) := by rfl) : PE X (.Call (.Attribute o m apos) [] [] pos) (tMeth C m sp [] E0 ta tNil) := by
  refine ⟨fun pins s σ H Q I h => PySem.W.methodCall_KW (pl := pl) (thn (he.run pins s σ H _ I h) fun u s1 hu => ?_) ht⟩
  obtain ⟨_, H1, I1, rx, a, dx, fs, rfl, ea, l, q⟩ := hu
  obtain rfl : u = Value.ref a := rx
  exact getmeth_ok I1 ea c hm l (PySem.W.callWith_K0 (first := [.ref a]) I1.kIn hm.kp
    (call_G (E := fun _ => E0) (us := [.ref a]) (vs := [.ref a]) F hr hb (fun pins H s e s1 I c => passL pins σ H s e s1 I c) I1 (.cons rfl .nil) q))
theorem pe_propG (he : PE X e ta) (c : Cls X.K C) (hp : PropOf X.K C n p g) (F : FnG X.prog X.w X.K X.mg X.base (L2.CX X.prog X.w) k g fd ps sp) (hr : RoomG (k + 1) X.A) (hb : Binds X.K fd ps [])
    (hab : attributeBase e n X.env (eval e X.env) = eval e X.env) : PE X (.Attribute e n pos) (tProp C sp [] E0 ta) := by
  refine ⟨fun pins s σ H Q I h => attr_of hab (thn (he.run pins s σ H _ I h) fun u s1 hu => ?_)⟩
  obtain ⟨_, H1, I1, rx, a, dx, fs, rfl, ea, q⟩ := hu
  obtain rfl : u = Value.ref a := rx
  obtain ⟨_, O, _⟩ := ins_get I1.hok ea
  obtain ⟨od, J, _⟩ := O.look
  obtain ⟨rest, hrec⟩ := hp.rec_
  have I2 := I1.tok (s1.toks + 1)
  have isC : (PySem.W.clsIn X.K C).isSome = true := by
    obtain ⟨_, z, _⟩ := PySem.W.any_some c.hd
    rw [z]; rfl
  have hb' := hb { s1 with toks := s1.toks + 1 } [.ref a] I1.kIn (by simpa using F.len _ _ _ _ q)
  rw [List.append_nil] at hb'
  refine PySem.W.get_bind I1.kIn J (PySem.W.plainGet_of (c.get n)).1 (PySem.W.findObj_data isC hp.at_ hp.get hp.tak) (PySem.W.plainGet_of (c.get n)).2 (wpAny_call (PySem.W.prop_get (s := { s1 with toks := s1.toks + 1 }) I1.kIn hrec ?_))
  refine codeAny_mono (F.run X.A.in1 X.stack { s1 with toks := s1.toks + 1 } H1 [.ref a] [.ref a] Q E0 hr.in1 I2.env0.in1 hb' (.cons rfl .nil) q) fun r s' hq => ?_
  rcases r with er | fl
  · obtain ⟨_, _, _, _, _, _, _, _, _, _, _, _, z⟩ := hq
    exact z.elim
  · rcases fl with _ | _ | _ | u'
    all_goals first | exact False.elim hq | skip
    obtain ⟨v, H', I3, rv, q3⟩ := I2.after hq
    show wpAny _ _ (handedOut u') _ _ _
    rw [PySem.W.handedOut_of (handed_of rv)]
    exact wpAny_pure ⟨v, H', I3, rv, q3⟩
end
end DF

namespace DF
open PySem PySem.Spec PyProof.Rows L2
section
variable {K : PySem.W.Frag} {G H G' H' : Hp}
theorem ArgsIs.get : ∀ {as : List (Bool × D)} {vs : List V} {i : Nat} {b : Bool} {d : D}, ArgsIs K G H as vs → as[i]? = some (b, d) → ∃ v, vs[i]? = some v ∧ match b with | false => Is K G d v | true => ∃ a, v = .ref a ∧ G a = none ∧ Cont K G H a d ∧ a ∈ ioA as vs
  | _, _, _, _, _, .nil, e => by simp at e
  | _, _, 0, _, _, .val h _, e => by simp at e; obtain ⟨rfl, rfl⟩ := e; exact ⟨_, rfl, h⟩
  | _, _, 0, _, _, .io h c _, e => by simp at e; obtain ⟨rfl, rfl⟩ := e; exact ⟨_, rfl, _, rfl, h, c, List.mem_cons_self⟩
  | _, _, i + 1, b, d, .val h r, e => by
    obtain ⟨v, e1, e2⟩ := ArgsIs.get (i := i) (b := b) (d := d) r (by simpa using e)
    refine ⟨v, by simpa using e1, ?_⟩
    cases b with
    | false => exact e2
    | true => obtain ⟨a, q1, q2, q3, q4⟩ := e2; exact ⟨a, q1, q2, q3, q4⟩
  | _, _, i + 1, b, d, .io h c r, e => by
    obtain ⟨v, e1, e2⟩ := ArgsIs.get (i := i) (b := b) (d := d) r (by simpa using e)
    refine ⟨v, by simpa using e1, ?_⟩
    cases b with
    | false => exact e2
    | true => obtain ⟨a, q1, q2, q3, q4⟩ := e2; exact ⟨a, q1, q2, q3, List.mem_cons_of_mem _ q4⟩
theorem ArgsIs.inj : ∀ {as : List (Bool × D)} {vs : List V} {i j : Nat} {d e : D} {a : Addr}, ArgsIs K G H as vs → (ioA as vs).Nodup → as[i]? = some (true, d) → as[j]? = some (true, e) → vs[i]? = some (.ref a) → vs[j]? = some (.ref a) → i = j
  | _, _, _, _, _, _, _, .nil, _, h, _, _, _ => by simp at h
  | _, _, 0, 0, _, _, _, _, _, _, _, _, _ => rfl
  | _, _, i + 1, j + 1, _, _, _, .val _ r, nd, h1, h2, h3, h4 => congrArg (· + 1) (ArgsIs.inj r nd (by simpa using h1) (by simpa using h2) (by simpa using h3) (by simpa using h4))
  | _, _, i + 1, j + 1, _, _, _, .io _ _ r, nd, h1, h2, h3, h4 => congrArg (· + 1) (ArgsIs.inj r (List.nodup_cons.mp nd).2 (by simpa using h1) (by simpa using h2) (by simpa using h3) (by simpa using h4))
  | _, _, 0, j + 1, _, _, _, .val _ r, nd, h1, h2, h3, h4 => by simp at h1
  | _, _, 0, j + 1, _, _, a, .io _ _ r, nd, h1, h2, h3, h4 => by
    simp at h3
    obtain ⟨v, e1, a', e2, _, _, e3⟩ := ArgsIs.get (i := j) r (by simpa using h2)
    have z : some v = some (V.ref a) := e1.symm.trans (by simpa using h4)
    cases z
    cases e2
    rw [← h3] at e3
    exact absurd e3 (List.nodup_cons.mp nd).1
  | _, _, i + 1, 0, _, _, _, .val _ r, nd, h1, h2, h3, h4 => by simp at h2
  | _, _, i + 1, 0, _, _, a, .io _ _ r, nd, h1, h2, h3, h4 => by
    simp at h4
    obtain ⟨v, e1, a', e2, _, _, e3⟩ := ArgsIs.get (i := i) r (by simpa using h1)
    have z : some v = some (V.ref a) := e1.symm.trans (by simpa using h3)
    cases z
    cases e2
    rw [← h4] at e3
    exact absurd e3 (List.nodup_cons.mp nd).1
theorem startC_get {as : List (Bool × D)} {i : Nat} {c : Cell} {n : Nat} (h : (startE n as)[i]? = some (some c)) : ∃ b d, as[i]? = some (b, d) ∧ c = if b then .mu true d else .val d := by
  unfold startE startC at h
  by_cases hi : i < as.length
  · rw [List.getElem?_append_left (by rw [List.length_map]; exact hi), List.getElem?_map] at h
    cases e : as[i]? with
    | none => rw [e] at h; cases h
    | some p =>
      rw [e] at h
      obtain ⟨b, d⟩ := p
      exact ⟨b, d, rfl, (Option.some.inj (Option.some.inj h)).symm⟩
  · rw [List.getElem?_append_right (by rw [List.length_map]; omega), List.getElem?_replicate] at h
    split at h <;> cases h
theorem start_get {N : List Str} {vs : List V} {i : Nat} {v : V} (h : vs[i]? = some v) : (L2.start N vs)[i]? = some (some v) := by
  unfold L2.start
  have hi : i < vs.length := (List.getElem?_eq_some_iff.mp h).1
  rw [List.getElem?_append_left (by rw [List.length_map]; exact hi), List.getElem?_map, h]
  rfl
theorem Rep.start {N : List Str} {as : List (Bool × D)} {vs : List V} (eS : Evl.Ex G H) (ha : ArgsIs K G H as vs) (nd : (ioA as vs).Nodup) : Rep K G H (startE N.length as) (L2.start N vs) where
  sub := eS
  len := by
    unfold startE startC L2.start
    rw [List.length_append, List.length_append, List.length_map, List.length_map, List.length_replicate, List.length_replicate, ha.length]
  vl := fun i d e => by
    obtain ⟨b, d', e1, e2⟩ := startC_get e
    cases b with
    | true => cases e2
    | false =>
      cases e2
      obtain ⟨v, e3, e4⟩ := ha.get e1
      exact ⟨v, start_get e3, e4⟩
  mu := fun i b d e => by
    obtain ⟨b', d', e1, e2⟩ := startC_get e
    cases b' with
    | false => cases e2
    | true =>
      cases e2
      obtain ⟨v, e3, a, rfl, e5, e6, e7⟩ := ha.get e1
      exact ⟨a, start_get e3, e5, e6⟩
  ap := fun i j b c d e a q1 q2 q3 q4 => by
    obtain ⟨b1, d1, e1, f1⟩ := startC_get q1
    obtain ⟨b2, d2, e2, f2⟩ := startC_get q2
    cases b1 with
    | false => cases f1
    | true =>
      cases b2 with
      | false => cases f2
      | true =>
        obtain ⟨v1, g1, _⟩ := ha.get e1
        obtain ⟨v2, g2, _⟩ := ha.get e2
        rw [start_get g1] at q3; cases q3
        rw [start_get g2] at q4; cases q4
        exact ha.inj nd e1 e2 g1 g2
theorem mu_start {N : List Str} {as : List (Bool × D)} {vs : List V} {b : Bool} {a : Addr} (ha : ArgsIs K G H as vs) (m : Mu b (startE N.length as) (L2.start N vs) a) : b = true ∧ a ∈ ioA as vs := by
  obtain ⟨i, d, e1, e2⟩ := m
  obtain ⟨b', d', e3, e4⟩ := startC_get e1
  cases b' with
  | false => cases e4
  | true =>
    cases e4
    obtain ⟨v, e5, a', rfl, _, _, e6⟩ := ha.get e3
    rw [start_get e5] at e2
    cases e2
    exact ⟨rfl, e6⟩
theorem outs_is {ρ' : DEnv} {σ' : Sl} (R' : Rep K G' H' ρ' σ') : ∀ {as : List (Bool × D)} {vs : List V} {i : Nat} {l : List D}, ArgsIs K G H as vs → (∀ j a, as[j]? ≠ none → vs[j]? = some (.ref a) → (∃ d, as[j]? = some (true, d)) → σ'[i + j]? = some (some (.ref a))) → outs ρ' i as = some l → OutsIs K G' H' as vs l
  | _, _, _, l, .nil, _, e => by cases e; exact .nil
  | (false, d) :: as, _, i, l, .val h r, hs, e => .val (outs_is R' (i := i + 1) r (fun j a q1 q2 q3 => by have z := hs (j + 1) a (by simpa using q1) (by simpa using q2) (by simpa using q3); rw [← z]; congr 1; omega) e)
  | (true, d) :: as, .ref a :: vs, i, l, .io h c r, hs, e => by
    unfold outs at e
    split at e
    · rename_i d' e1
      split at e
      · rename_i l' e2
        cases e
        obtain ⟨a', q1, q2, q3⟩ := R'.mu i true d' e1
        have z := hs 0 a (by simp) (by simp) ⟨d, by simp⟩
        rw [show i + 0 = i from rfl, q1] at z
        cases z
        exact .io q3 (outs_is R' (i := i + 1) r (fun j a q1 q2 q3 => by have z := hs (j + 1) a (by simpa using q1) (by simpa using q2) (by simpa using q3); rw [← z]; congr 1; omega) e2)
      · cases e
    · cases e
end
section
variable {P : Program} {w : World} {K : PySem.W.Frag} {mg : Str → Option Value} {base : Heap}
/-- a def by its body -/
theorem fn_D {x qual : Str} {st : Stmt} {f : Addr} {fd : FuncData} {N ps : List Str} {k : Nat} {F : Fn} (Fu : Fun K x qual st f fd) (S : FnScope N ps (defScope st)) (B : Nat → DEnv → SR)
    (hB : ∀ (n : Nat) (cdv : Value) (A : Around) (outer : List Env) (s : Shared) (H : Hp) (E : XK), RoomG k (A.deeper (envOfC qual (defScope st) s.heap.objs.size f cdv)) →
      DSs (cxOf (L2.CX P w) P w K mg base N qual (defScope st) f cdv A outer s H E) (fun cls d _ H => E cls d H) (defBody st) (B n))
    (hF : ∀ as, as.length = ps.length → F as ≠ .no → ∃ n, fnRes as (B n (startE N.length as)) = F as) : FnG P w K mg base (L2.CX P w) (k + 1) f fd ps (spD K ps.length F) := by
  refine fn_G Fu S (fun vs H Q E h => h.1) fun cdv A outer s H vs Q E hr ⟨hl, G, as, eS, ha, nd, hm⟩ => ?_
  have hne : F as ≠ .no := fun z => by rw [z] at hm; exact hm
  obtain ⟨n, hn⟩ := hF as (ha.length.trans hl) hne
  refine ⟨_, hB n cdv A outer s H E hr, startE N.length as, G, Rep.start eS ha nd, ?_⟩
  rw [← hn] at hm
  have fst : ∀ {ρ' : DEnv} {σ' : Sl} {G' H' : Hp}, Stp (startE N.length as) (L2.start N vs) G H ρ' σ' G' H' → Rep K G' H' ρ' σ' → FStp (ioA as vs) G H G' H' := fun {ρ' σ' G' H'} s R' =>
    ⟨s.g, fun b o n1 q => s.h b o (fun m => absurd (mu_start ha m).1 (by decide)) (fun m => n1 (mu_start ha m).2) q, s.t, fun b q1 q2 => (s.n b q1 q2).elim id fun m => absurd (mu_start ha m).1 (by decide), R'.sub⟩
  have out : ∀ {ρ' : DEnv} {σ' : Sl} {G' H' : Hp} {l : List D}, Stp (startE N.length as) (L2.start N vs) G H ρ' σ' G' H' → Rep K G' H' ρ' σ' → outs ρ' 0 as = some l → OutsIs K G' H' as vs l := fun {ρ' σ' G' H' l} s R' e =>
    outs_is R' ha (fun j a q1 q2 ⟨d, q3⟩ => by
      have hs : (startE N.length as)[j]? = some (some (.mu true d)) := by
        unfold startE startC
        have hj : j < as.length := (List.getElem?_eq_some_iff.mp q3).1
        rw [List.getElem?_append_left (by rw [List.length_map]; exact hj), List.getElem?_map, q3]
        rfl
      obtain ⟨d', _, z⟩ := (s.io j).1 d hs
      rw [Nat.zero_add, z]
      exact start_get q2) e
  cases hr : B n (startE N.length as) with
  | no => rw [hr] at hm; exact hm
  | brk _ => rw [hr] at hm; exact (show False from hm).elim
  | cnt _ => rw [hr] at hm; exact (show False from hm).elim
  | nx ρ' =>
    rw [hr] at hm
    unfold fnRes at hm
    dsimp only at hm
    cases eo : outs ρ' 0 as with
    | none => rw [eo] at hm; exact False.elim hm
    | some l =>
      rw [eo] at hm
      exact fun σ' G' H' s R' => hm .non G' H' (fst s R') (out s R' eo) .non
  | ret ρ' fr d =>
    rw [hr] at hm
    unfold fnRes at hm
    dsimp only at hm
    cases eo : outs ρ' 0 as with
    | none => rw [eo] at hm; exact False.elim hm
    | some l =>
      rw [eo] at hm
      refine fun v σ' G' H' s R' q => hm v G' H' (fst s R') (out s R' eo) ?_
      cases fr with
      | false => exact q
      | true =>
        obtain ⟨a, q1, q2, q3, q4⟩ := q
        exact ⟨a, q1, q2, q3.elim (fun m => (s.ow a m).elim (fun m => absurd (mu_start ha m).1 (by decide)) id) id, q4⟩
  | ex ρ' e =>
    rw [hr] at hm
    unfold fnRes at hm
    dsimp only at hm
    cases eo : outs ρ' 0 as with
    | none => rw [eo] at hm; exact False.elim hm
    | some l =>
      rw [eo] at hm
      exact fun d σ' G' H' s R' q => hm d G' H' (fst s R') (out s R' eo) q
end

/-! ### the caller's side -/
inductive AD where
  | v (d : D)
  | io (i : Nat)
inductive ArI (K : PySem.W.Frag) (σ : Sl) (G : Hp) : List AD → List V → Prop
  | nil : ArI K σ G [] []
  | val {d : D} {v : V} {l : List AD} {vs : List V} : Is K G d v → ArI K σ G l vs → ArI K σ G (.v d :: l) (v :: vs)
  | io {i : Nat} {v : V} {l : List AD} {vs : List V} : σ[i]? = some (some v) → ArI K σ G l vs → ArI K σ G (.io i :: l) (v :: vs)
theorem ArI.mono {K : PySem.W.Frag} {σ : Sl} {G G' : Hp} (e : Evl.Ex G G') : ∀ {l : List AD} {vs : List V}, ArI K σ G l vs → ArI K σ G' l vs
  | _, _, .nil => .nil
  | _, _, .val h r => .val (h.mono e) (ArI.mono e r)
  | _, _, .io h r => .io h (ArI.mono e r)
def tAr (K : PySem.W.Frag) (W : WX) (f : DEnv → R (List AD)) : TA := fun σ H Q => ∃ ρ G, Rep K G H ρ σ ∧ Go K W σ ρ G H (fun l _ G' H' => ∀ vs, ArI K σ G' l vs → Q vs H') (f ρ)
abbrev DR (X : Cx) (W : WX) (es : List Expr) (f : DEnv → R (List AD)) : Prop := PA X es (tAr X.K W f)
def rNil : DEnv → R (List AD) := fun ρ => .ok ρ []
def rVal (f : DEnv → R D) (g : DEnv → R (List AD)) : DEnv → R (List AD) := fun ρ => (f ρ).bind fun d ρ1 => (g ρ1).bind fun l ρ2 => .ok ρ2 (.v d :: l)
def isMu (ρ : DEnv) (i : Nat) : Bool := match ρ[i]? with
  | some (some (.mu _ _)) => true
  | _ => false
def rIo (i : Nat) (g : DEnv → R (List AD)) : DEnv → R (List AD) := fun ρ => if isMu ρ i = true then (g ρ).bind fun l ρ2 => .ok ρ2 (.io i :: l) else .no
section
variable {X : Cx} {W : WX} {e : Expr} {es : List Expr}
theorem dr_nil : DR X W [] rNil := pa_imp pa_nil fun σ H Q ⟨ρ, G, R, h⟩ => h G H .refl R [] .nil
theorem dr_val {f : DEnv → R D} {g : DEnv → R (List AD)} (h1 : DE X W e f) (h2 : DR X W es g) (hs : starEach (e :: es) X.env = (false, eval e X.env) :: starEach es X.env := by rfl) : DR X W (e :: es) (rVal f g) :=
  pa_imp (pa_cons h1 h2 hs) fun σ H Q ⟨ρ, G, R, h⟩ => ⟨ρ, G, R, (Go.bind R h).imp fun t ρ1 G1 H1 s1 R1 h1 v hv =>
    ⟨ρ1, G1, R1, (Go.bind R1 h1).imp fun l ρ2 G2 H2 s2 R2 h2 vs hvs => h2 G2 H2 .refl R2 (v :: vs) (.val (hv.mono s2.g) hvs)⟩⟩
theorem dr_io {i : Nat} {g : DEnv → R (List AD)} (h1 : PE X e (tVar i)) (h2 : DR X W es g) (hs : starEach (e :: es) X.env = (false, eval e X.env) :: starEach es X.env := by rfl) : DR X W (e :: es) (rIo i g) :=
  pa_imp (pa_cons h1 h2 hs) fun σ H Q ⟨ρ, G, R, h⟩ => by
    unfold rIo at h
    split at h
    · rename_i hm
      unfold isMu at hm
      split at hm
      · rename_i b d e1
        obtain ⟨a, e2, _⟩ := R.mu i b d e1
        exact ⟨_, e2, ρ, G, R, (Go.bind R h).imp fun l ρ2 G2 H2 s2 R2 h2 vs hvs => h2 G2 H2 .refl R2 (.ref a :: vs) (.io e2 hvs)⟩
      · cases hm
    · exact False.elim h
end
def argsD (ρ : DEnv) : List AD → Option (List (Bool × D))
  | [] => some []
  | .v d :: l => match argsD ρ l with
    | some r => some ((false, d) :: r)
    | none => none
  | .io i :: l => match ρ[i]? with
    | some (some (.mu _ d)) => match argsD ρ l with
      | some r => some ((true, d) :: r)
      | none => none
    | _ => none
def ioIx : List AD → List Nat
  | [] => []
  | .v _ :: l => ioIx l
  | .io i :: l => i :: ioIx l
def putD (ρ : DEnv) : List AD → List D → Option DEnv
  | [], [] => some ρ
  | .v _ :: l, os => putD ρ l os
  | .io i :: l, d :: os => match ρ[i]? with
    | some (some (.mu b _)) => putD (ρ.set i (some (.mu b d))) l os
    | _ => none
  | _, _ => none
section
variable {K : PySem.W.Frag} {σ : Sl} {ρ ρ2 : DEnv} {G H G' H' : Hp}
theorem argsD_is (R : Rep K G H ρ σ) : ∀ {l : List AD} {vs : List V} {as : List (Bool × D)}, ArI K σ G l vs → argsD ρ l = some as → ArgsIs K G H as vs
  | _, _, as, .nil, e => by cases e; exact .nil
  | .v d :: l, _, as, .val h r, e => by
    unfold argsD at e
    split at e
    · rename_i r' e1; cases e; exact .val h (argsD_is R r e1)
    · cases e
  | .io i :: l, _, as, .io h r, e => by
    unfold argsD at e
    split at e
    · rename_i b d e1
      split at e
      · rename_i r' e2
        cases e
        obtain ⟨a, q1, q2, q3⟩ := R.mu i b d e1
        rw [h] at q1; cases q1
        exact .io q2 q3 (argsD_is R r e2)
      · cases e
    · cases e
theorem ioA_mem (R : Rep K G H ρ σ) : ∀ {l : List AD} {vs : List V} {as : List (Bool × D)} {a : Addr}, ArI K σ G l vs → argsD ρ l = some as → (a ∈ ioA as vs ↔ ∃ i ∈ ioIx l, σ[i]? = some (some (.ref a)))
  | _, _, as, a, .nil, e => by cases e; simp [ioA, ioIx]
  | .v d :: l, _, as, a, .val h r, e => by
    unfold argsD at e
    split at e
    · rename_i r' e1; cases e; have ih := ioA_mem (a := a) R r e1; exact ih
    · cases e
  | .io i :: l, _, as, a, .io h r, e => by
    unfold argsD at e
    split at e
    · rename_i b d e1
      split at e
      · rename_i r' e2
        cases e
        obtain ⟨a', q1, q2, q3⟩ := R.mu i b d e1
        rw [h] at q1; cases q1
        have ih := ioA_mem R (a := a) r e2
        unfold ioA ioIx
        rw [List.mem_cons, ih]
        constructor
        · rintro (rfl | ⟨j, q, z⟩)
          · exact ⟨i, List.mem_cons_self, h⟩
          · exact ⟨j, List.mem_cons_of_mem _ q, z⟩
        · rintro ⟨j, q, z⟩
          rcases List.mem_cons.mp q with rfl | q
          · rw [h] at z; cases z; exact .inl rfl
          · exact .inr ⟨j, q, z⟩
      · cases e
    · cases e
theorem ioA_nodup (R : Rep K G H ρ σ) : ∀ {l : List AD} {vs : List V} {as : List (Bool × D)}, ArI K σ G l vs → argsD ρ l = some as → (ioIx l).Nodup → (ioA as vs).Nodup
  | _, _, as, .nil, e, _ => by cases e; exact List.nodup_nil
  | .v d :: l, _, as, .val h r, e, nd => by
    unfold argsD at e
    split at e
    · rename_i r' e1; cases e; have ih := ioA_nodup R r e1 nd; exact ih
    · cases e
  | .io i :: l, _, as, .io h r, e, nd => by
    unfold argsD at e
    split at e
    · rename_i b d e1
      split at e
      · rename_i r' e2
        cases e
        obtain ⟨a', q1, q2, q3⟩ := R.mu i b d e1
        rw [h] at q1; cases q1
        refine List.nodup_cons.mpr ⟨fun m => ?_, ioA_nodup R r e2 (List.nodup_cons.mp nd).2⟩
        obtain ⟨j, q, z⟩ := (ioA_mem R r e2).mp m
        have mj : ∃ b' d', ρ[j]? = some (some (.mu b' d')) := by
          have key : ∀ {l : List AD} {as : List (Bool × D)}, argsD ρ l = some as → j ∈ ioIx l → ∃ b' d', ρ[j]? = some (some (.mu b' d')) := by
            intro l
            induction l with
            | nil => intro as _ m; simp [ioIx] at m
            | cons y l ih =>
              intro as e m
              cases y with
              | v d =>
                unfold argsD at e
                split at e
                · rename_i r' e1; exact ih e1 m
                · cases e
              | io k =>
                unfold argsD at e
                split at e
                · rename_i b d e1
                  split at e
                  · rename_i r' e2
                    rcases List.mem_cons.mp (show j ∈ k :: ioIx l from m) with rfl | m
                    · exact ⟨b, d, e1⟩
                    · exact ih e2 m
                  · cases e
                · cases e
          exact key e2 q
        obtain ⟨b', d', ej⟩ := mj
        have ij : i = j := R.ap i j b b' d d' _ e1 ej h z
        subst ij
        exact (List.nodup_cons.mp nd).1 q
      · cases e
    · cases e
/-- what became of a slot -/
def Chg (K : PySem.W.Frag) (σ : Sl) (G' H' : Hp) (L : List Nat) (ρ ρ2 : DEnv) (j : Nat) : Prop :=
  (j ∈ L ∧ ∃ b d d' a, ρ[j]? = some (some (.mu b d)) ∧ ρ2[j]? = some (some (.mu b d')) ∧ σ[j]? = some (some (.ref a)) ∧ Cont K G' H' a d') ∨ (j ∉ L ∧ ρ2[j]? = ρ[j]?)
theorem putD_chg : ∀ {l : List AD} {vs : List V} {as : List (Bool × D)} {os : List D} {ρ ρ1 ρ2 : DEnv}, ArI K σ G l vs → argsD ρ1 l = some as → OutsIs K G' H' as vs os → (ioIx l).Nodup → putD ρ l os = some ρ2 → ρ2.length = ρ.length ∧ ∀ j, Chg K σ G' H' (ioIx l) ρ ρ2 j
  | _, _, as, os, ρ, ρ1, ρ2, .nil, e, o, nd, p => by
    cases e
    cases o
    cases p
    exact ⟨rfl, fun j => .inr ⟨by simp [ioIx], rfl⟩⟩
  | .v d :: l, _, as, os, ρ, ρ1, ρ2, .val h r, e, o, nd, p => by
    unfold argsD at e
    split at e
    · rename_i r' e1
      cases e
      cases o with
      | val o =>
        unfold putD at p
        have ih := putD_chg r e1 o nd p
        exact ih
    · cases e
  | .io i :: l, _, as, os, ρ, ρ1, ρ2, .io h r, e, o, nd, p => by
    unfold argsD at e
    split at e
    · rename_i b1 d1 e1
      split at e
      · rename_i r' e2
        cases e
        cases o with
        | @io d0 d' a as vs os c o =>
          unfold putD at p
          split at p
          · rename_i b d e3
            obtain ⟨hl, hc⟩ := putD_chg r e2 o (List.nodup_cons.mp nd).2 p
            have hi : i < ρ.length := (List.getElem?_eq_some_iff.mp e3).1
            refine ⟨by rw [hl, List.length_set], fun j => ?_⟩
            rcases hc j with ⟨m, b', d2, d3, a2, q1, q2, q3, q4⟩ | ⟨m, q⟩
            · have n : i ≠ j := fun z => by subst z; exact (List.nodup_cons.mp nd).1 m
              rw [List.getElem?_set_ne n] at q1
              exact .inl ⟨List.mem_cons_of_mem _ m, b', d2, d3, a2, q1, q2, q3, q4⟩
            · by_cases z : i = j
              · subst z
                rw [List.getElem?_set_self hi] at q
                exact .inl ⟨List.mem_cons_self, b, d, d', a, e3, q, h, c⟩
              · rw [List.getElem?_set_ne z] at q
                exact .inr ⟨fun y => (List.mem_cons.mp y).elim (fun y => z y.symm) m, q⟩
          · cases p
      · cases e
    · cases e
theorem after_call {l : List AD} {vs : List V} {as : List (Bool × D)} {os : List D} (R : Rep K G H ρ σ) (ha : ArI K σ G l vs) (e : argsD ρ l = some as) (nd : (ioIx l).Nodup) (p : putD ρ l os = some ρ2) (s : FStp (ioA as vs) G H G' H') (o : OutsIs K G' H' as vs os) :
    Stp ρ σ G H ρ2 σ G' H' ∧ Rep K G' H' ρ2 σ := by
  obtain ⟨hl, hc⟩ := putD_chg ha e o nd p
  have back : ∀ (j : Nat) (b : Bool) (d : D), ρ2[j]? = some (some (.mu b d)) → ∃ d', ρ[j]? = some (some (.mu b d')) := fun j b d q => by
    rcases hc j with ⟨m, b', d2, d3, a2, q1, q2, q3, q4⟩ | ⟨m, z⟩
    · rw [q] at q2; cases q2; exact ⟨d2, q1⟩
    · exact ⟨d, z ▸ q⟩
  have isM : ∀ a, a ∈ ioA as vs → Mu false ρ σ a ∨ Mu true ρ σ a := fun a m => by
    obtain ⟨i, q, z⟩ := (ioA_mem R ha e).mp m
    rcases hc i with ⟨_, b, d2, d3, a2, q1, q2, q3, q4⟩ | ⟨n, _⟩
    · cases b with
      | false => exact .inl ⟨i, d2, q1, z⟩
      | true => exact .inr ⟨i, d2, q1, z⟩
    · exact absurd q n
  refine ⟨⟨s.g, fun b ob n1 n2 q => s.h b ob (fun m => (isM b m).elim n1 n2) q, s.t, fun b q1 q2 => .inl (s.n b q1 q2), fun b ⟨j, d, q1, q2⟩ => ?_, fun j => ⟨fun d q => ?_, fun d q => back j true d q⟩⟩, ⟨s.s, by rw [hl]; exact R.len, fun j d q => ?_, fun j b d q => ?_, fun j k b c d1 d2 a q1 q2 q3 q4 => ?_⟩⟩
  · obtain ⟨d', z⟩ := back j false d q1
    exact .inl ⟨j, d', z, q2⟩
  · rcases hc j with ⟨m, b', d2, d3, a2, q1, q2, q3, q4⟩ | ⟨m, z⟩
    · rw [q] at q1; cases q1; exact ⟨d3, q2, rfl⟩
    · exact ⟨d, z.trans q, rfl⟩
  · rcases hc j with ⟨m, b', d2, d3, a2, q1, q2, q3, q4⟩ | ⟨m, z⟩
    · rw [q] at q2; cases q2
    · obtain ⟨v, y1, y2⟩ := R.vl j d (z ▸ q)
      exact ⟨v, y1, y2.mono s.g⟩
  · rcases hc j with ⟨m, b', d2, d3, a2, q1, q2, q3, q4⟩ | ⟨m, z⟩
    · rw [q] at q2; cases q2
      obtain ⟨a, y1, y2, y3⟩ := R.mu j _ _ q1
      rw [q3] at y1; cases y1
      refine ⟨_, q3, ?_, q4⟩
      cases hg : G' a2 with
      | none => rfl
      | some u =>
        have w := s.n _ y2 (by rw [hg]; exact fun z => by cases z)
        obtain ⟨ob, ho⟩ := y3.there
        rw [w] at ho; cases ho
    · obtain ⟨a, y1, y2, y3⟩ := R.mu j b d (z ▸ q)
      have na : a ∉ ioA as vs := fun m2 => by
        obtain ⟨i, q', z'⟩ := (ioA_mem R ha e).mp m2
        rcases hc i with ⟨_, b', d2, d3, a2, q1, q2, q3, q4⟩ | ⟨n, _⟩
        · have ij := R.ap i j b' b d2 d a q1 (z ▸ q) z' y1
          subst ij
          exact m q'
        · exact absurd q' n
      refine ⟨a, y1, ?_, y3.mono s.g fun ob q => s.h a ob na q⟩
      cases hg : G' a with
      | none => rfl
      | some u =>
        have w := s.n _ y2 (by rw [hg]; exact fun z => by cases z)
        obtain ⟨ob, ho⟩ := y3.there
        rw [w] at ho; cases ho
  · obtain ⟨x', z1⟩ := back j b d1 q1
    obtain ⟨y', z2⟩ := back k c d2 q2
    exact R.ap j k b c x' y' a z1 z2 q3 q4
end
/-- f(..) -/
def dCal2 (ar : Nat) (F : Fn) (f : DEnv → R (List AD)) : DEnv → R (Bool × D) := fun ρ => (f ρ).bind fun l ρ1 => if l.length = ar then match argsD ρ1 l with
  | none => .no
  | some as => if (ioIx l).Nodup then match F as with
    | .no => .no
    | .ret fr d os => match putD ρ1 l os with
      | none => .no
      | some ρ2 => .ok ρ2 (fr, d)
    | .exc e os => match putD ρ1 l os with
      | none => .no
      | some ρ2 => .ex ρ2 e
    else .no
  else .no
/-- a value that stays, or a thing just made -/
def XIs (K : PySem.W.Frag) (σ : Sl) (ρ' : DEnv) (G' H' H : Hp) (p : Bool × D) (v : V) : Prop := match p.1 with
  | false => Is K G' p.2 v
  | true => ∃ a, v = .ref a ∧ G' a = none ∧ ¬ Mu false ρ' σ a ∧ ¬ Mu true ρ' σ a ∧ H a = none ∧ Cont K G' H' a p.2
def tX (K : PySem.W.Frag) (W : WX) (f : DEnv → R (Bool × D)) : TE := fun σ H Q => ∃ ρ G, Rep K G H ρ σ ∧ Go K W σ ρ G H (fun p ρ' G' H' => ∀ v, XIs K σ ρ' G' H' H p v → Q v H') (f ρ)
theorem ArI.length {K : PySem.W.Frag} {σ : Sl} {G : Hp} : ∀ {l : List AD} {vs : List V}, ArI K σ G l vs → l.length = vs.length
  | _, _, .nil => rfl
  | _, _, .val _ r => congrArg (· + 1) (ArI.length r)
  | _, _, .io _ r => congrArg (· + 1) (ArI.length r)
theorem tcall {K : PySem.W.Frag} {W : WX} {ar : Nat} {F : Fn} {f : DEnv → R (List AD)} : ∀ σ H Q, tX K W (dCal2 ar F f) σ H Q → tCallSD (spD K ar F) [] (fun σ cls d H => W cls d σ H) (tAr K W f) σ H Q := fun σ H Q ⟨ρ, G, R, h⟩ =>
  ⟨ρ, G, R, (Go.bind R h).imp fun l ρ1 G1 H1 s1 R1 h1 vs hv => by
    show spD K ar F (vs ++ []) H1 Q (fun cls d H => W cls d σ H)
    rw [List.append_nil]
    split at h1
    · rename_i hl
      split at h1
      · exact False.elim h1
      · rename_i as ea
        split at h1
        · rename_i nd
          refine ⟨hv.length.symm.trans hl, G1, as, R1.sub, argsD_is R1 hv ea, ioA_nodup R1 hv ea nd, ?_⟩
          split at h1
          · exact False.elim h1
          · rename_i fr d os eF
            try rw [eF]
            split at h1
            · exact False.elim h1
            · rename_i ρ2 ep
              intro v G' H' fs ho hr
              obtain ⟨s2, R2⟩ := after_call R1 hv ea nd ep fs ho
              refine h1 G' H' s2 R2 v ?_
              cases fr with
              | false => exact hr
              | true =>
                obtain ⟨a, rfl, q1, q2, q3⟩ := hr
                have no : ∀ b, ¬ Mu b ρ2 σ a := fun b ⟨j, d', z1, z2⟩ => by
                  have key : ∃ o, H1 a = some o := by
                    cases b with
                    | false =>
                      rcases s2.ow a ⟨j, d', z1, z2⟩ with ⟨j', d'', y1, y2⟩ | y
                      · obtain ⟨a', y3, _, y4⟩ := R1.mu j' _ _ y1
                        rw [y2] at y3; cases y3
                        exact y4.there
                      · obtain ⟨a', y3, y5, y4⟩ := R2.mu j _ _ z1
                        rw [z2] at y3; cases y3
                        obtain ⟨d3, y6⟩ : ∃ d3, ρ1[j]? = some (some (.mu false d3)) := by
                          obtain ⟨_, hc⟩ := putD_chg hv ea ho nd ep
                          rcases hc j with ⟨_, b', d2, d3, a2, w1, w2, w3, w4⟩ | ⟨_, w⟩
                          · rw [z1] at w2; cases w2; exact ⟨d2, w1⟩
                          · exact ⟨d', w ▸ z1⟩
                        obtain ⟨a', y7, _, y8⟩ := R1.mu j _ _ y6
                        rw [z2] at y7; cases y7
                        exact y8.there
                    | true =>
                      obtain ⟨d3, y6⟩ := (s2.io j).2 d' z1
                      obtain ⟨a', y7, _, y8⟩ := R1.mu j _ _ y6
                      rw [z2] at y7; cases y7
                      exact y8.there
                  obtain ⟨o, ho⟩ := key
                  rw [q2] at ho; cases ho
                exact ⟨a, rfl, q1, no false, no true, s1.t a q2, q3⟩
          · rename_i e os eF
            try rw [eF]
            split at h1
            · exact False.elim h1
            · rename_i ρ2 ep
              intro dd G' H' fs ho hr
              obtain ⟨s2, R2⟩ := after_call R1 hv ea nd ep fs ho
              exact h1 G' H' dd s2 R2 hr
        · exact False.elim h1
    · exact False.elim h1⟩
abbrev DX (X : Cx) (W : WX) (e : Expr) (f : DEnv → R (Bool × D)) : Prop := PE X e (tX X.K W f)
def dV (f : DEnv → R (Bool × D)) : DEnv → R D := fun ρ => (f ρ).bind fun p ρ' => .ok ρ' p.2
def dN (f : DEnv → R (Bool × D)) : DEnv → R D := fun ρ => (f ρ).bind fun p ρ' => match p with
  | (true, d) => .ok ρ' d
  | (false, _) => .no
section
variable {X : Cx} {W : WX} {e : Expr} {es : List Expr}
theorem dx_de {f : DEnv → R (Bool × D)} (h : DX X W e f) : DE X W e (dV f) := ⟨fun pins s σ H Q I ⟨ρ, G, R, hg⟩ => by
  cases e1 : f ρ with
  | no =>
    have h2 : dV f ρ = .no := by unfold dV; rw [e1]; rfl
    rw [h2] at hg; exact False.elim hg
  | ex ρ' ee =>
    have h2 : dV f ρ = .ex ρ' ee := by unfold dV; rw [e1]; rfl
    rw [h2] at hg
    exact h.run pins s σ H Q I ⟨ρ, G, R, by rw [e1]; exact hg⟩
  | ok ρ' p =>
    have h2 : dV f ρ = .ok ρ' p.2 := by unfold dV; rw [e1]; rfl
    rw [h2] at hg
    obtain ⟨fr, d⟩ := p
    cases fr with
    | false => exact h.run pins s σ H Q I ⟨ρ, G, R, by rw [e1]; exact fun G' H' s R' v hx => hg G' H' s R' v hx⟩
    | true =>
      refine thn (h.run pins s σ H (fun x H1 => ∃ a G', x = .ref a ∧ Stp ρ σ G H ρ' σ G' H1 ∧ Rep X.K G' H1 ρ' σ ∧ G' a = none ∧ ¬ Mu false ρ' σ a ∧ ¬ Mu true ρ' σ a ∧ H a = none ∧ Cont X.K G' H1 a d) I ⟨ρ, G, R, ?_⟩) fun u s1 ⟨x, H1, I1, rx, a, G', ex, k1, k2, k3, k4, k5, k6, k7⟩ => ?_
      · rw [e1]
        intro G' H' s R' v hx
        obtain ⟨a, rfl, h0, h1, h2, hn, hc⟩ := hx
        exact ⟨a, G', rfl, s, R', h0, h1, h2, hn, hc⟩
      · obtain ⟨G2, H2, I2, s2, R2, hi⟩ := fresh_run I1 k1 k2 k3 k4 k5 k6 k7
        subst ex
        exact ⟨_, H2, I2, rx, hg G2 H2 s2 R2 _ hi⟩⟩
theorem dx_df {f : DEnv → R (Bool × D)} (h : DX X W e f) : DF' X W e (dN f) := pe_imp h fun σ H Q ⟨ρ, G, R, h⟩ => ⟨ρ, G, R, by
    cases e1 : f ρ with
    | no =>
      have h2 : dN f ρ = .no := by unfold dN; rw [e1]; rfl
      rw [h2] at h; exact h
    | ex ρ' ee =>
      have h2 : dN f ρ = .ex ρ' ee := by unfold dN; rw [e1]; rfl
      rw [h2] at h; exact h
    | ok ρ' p =>
      obtain ⟨fr, d⟩ := p
      cases fr with
      | false =>
        have h2 : dN f ρ = .no := by unfold dN; rw [e1]; rfl
        rw [h2] at h; exact False.elim h
      | true =>
        have h2 : dN f ρ = .ok ρ' d := by unfold dN; rw [e1]; rfl
        rw [h2] at h
        intro G' H' s R' v hx
        obtain ⟨a, rfl, q1, q2, q3, q4, q5⟩ := hx
        exact h G' H' s R' a q1 q2 q3 q4 q5⟩
variable {x : Str} {p pos : Pos} {k ar : Nat} {fa : Addr} {fd : FuncData} {ps : List Str} {F : Fn} {f : DEnv → R (List AD)}
/-- f(..), wherever what it raises is taken -/
theorem dx_call (FO : FnG X.prog X.w X.K X.mg X.base (L2.CX X.prog X.w) k fa fd ps (spD X.K ar F)) (hr : RoomG k X.A) (tk : Takes X W) (hg : Gl X x) (hm : X.mg x = some (.ref fa)) (hk : PySem.W.keepIn X.K (.ref fa) = true) (hb : Binds X.K fd ps [])
    (ha : DR X W (e :: es) f) (hdb : (x == ("__debug__" : Str)) = false := by decide) (he : starEach (e :: es) X.env = (false, eval e X.env) :: starEach es X.env := by rfl) (hpl : (backTo pos (starEach es X.env)).any (·.1) = false := by rfl) :
    DX X W (.Call (.Name x p) (e :: es) [] pos) (dCal2 ar F f) :=
  pe_imp (pe_G (E := fun σ cls d H => W cls d σ H) FO hr hg hm hk hb (fun σ => passAt tk σ) ha hdb he hpl) tcall
/-- f(..), where nothing may be raised -/
theorem dx_callN (FO : FnG X.prog X.w X.K X.mg X.base (L2.CX X.prog X.w) k fa fd ps (spD X.K ar F)) (hr : RoomG k X.A) (hg : Gl X x) (hm : X.mg x = some (.ref fa)) (hk : PySem.W.keepIn X.K (.ref fa) = true) (hb : Binds X.K fd ps [])
    (ha : DR X (fun _ _ _ _ => False) (e :: es) f) (hdb : (x == ("__debug__" : Str)) = false := by decide) (he : starEach (e :: es) X.env = (false, eval e X.env) :: starEach es X.env := by rfl) (hpl : (backTo pos (starEach es X.env)).any (·.1) = false := by rfl) :
    DX X (fun _ _ _ _ => False) (.Call (.Name x p) (e :: es) [] pos) (dCal2 ar F f) :=
  pe_imp (pe_G (E := fun _ => E0) FO hr hg hm hk hb (fun σ => fun pins H s e s1 I c => passL pins σ H s e s1 I c) ha hdb he hpl) fun σ H Q h => tcall (W := fun _ _ _ _ => False) σ H Q h
end
end DF

namespace DF
open PySem PySem.Spec PyProof.Rows L2
def wipeE (ρ : DEnv) : List Nat → DEnv
  | [] => ρ
  | v :: vs => (wipeE ρ vs).set v none
theorem wipeE_length (ρ : DEnv) : ∀ vs : List Nat, (wipeE ρ vs).length = ρ.length
  | [] => rfl
  | v :: vs => by unfold wipeE; rw [List.length_set, wipeE_length ρ vs]
theorem wipeE_some {ρ : DEnv} {i : Nat} {x : Cell} : ∀ {vs : List Nat}, (wipeE ρ vs)[i]? = some (some x) → ρ[i]? = some (some x) ∧ i ∉ vs
  | [], h => ⟨h, by simp⟩
  | v :: vs, h => by
    unfold wipeE at h
    rcases set_get h with ⟨_, z⟩ | ⟨n, z⟩
    · cases z
    · obtain ⟨h1, h2⟩ := wipeE_some z
      exact ⟨h1, fun m => (List.mem_cons.mp m).elim (fun y => n y.symm) h2⟩
theorem wipeE_out {ρ : DEnv} {i : Nat} : ∀ {vs : List Nat}, i ∉ vs → (wipeE ρ vs)[i]? = ρ[i]?
  | [], _ => rfl
  | v :: vs, h => by
    unfold wipeE
    rw [List.getElem?_set_ne (fun z => h (by rw [z]; exact List.mem_cons_self))]
    exact wipeE_out fun z => h (List.mem_cons_of_mem _ z)
/-- none of these is a slot of one's own list -/
def noMu (ρ : DEnv) (vs : List Nat) : Bool := vs.all fun i => match ρ[i]? with
  | some (some (.mu _ _)) => false
  | _ => true
theorem noMu_of {ρ : DEnv} {vs : List Nat} (h : noMu ρ vs = true) {i : Nat} (hi : i ∈ vs) {b : Bool} {d : D} : ρ[i]? ≠ some (some (.mu b d)) := fun z => by
  unfold noMu at h
  have q := List.all_eq_true.mp h i hi
  rw [z] at q
  cases q
section
variable {K : PySem.W.Frag} {ρ : DEnv} {σ σ2 : Sl} {G H : Hp} {vs : List Nat}
/-- slots of the comprehension are forgotten; σ2 holds the others as σ does -/
theorem Rep.wiped (R : Rep K G H ρ σ) (hl : σ2.length = σ.length) (hs : ∀ i, i ∉ vs → σ2[i]? = σ[i]?) : Rep K G H (wipeE ρ vs) σ2 where
  sub := R.sub
  len := by rw [wipeE_length, hl]; exact R.len
  vl := fun i d e => by
    obtain ⟨e1, e2⟩ := wipeE_some e
    obtain ⟨v, e3, e4⟩ := R.vl i d e1
    exact ⟨v, (hs i e2).trans e3, e4⟩
  mu := fun i b d e => by
    obtain ⟨e1, e2⟩ := wipeE_some e
    obtain ⟨a, e3, e4⟩ := R.mu i b d e1
    exact ⟨a, (hs i e2).trans e3, e4⟩
  ap := fun i j b c d e a q1 q2 q3 q4 => by
    obtain ⟨e1, e2⟩ := wipeE_some q1
    obtain ⟨e3, e4⟩ := wipeE_some q2
    exact R.ap i j b c d e a e1 e3 ((hs i e2).symm.trans q3) ((hs j e4).symm.trans q4)
theorem Stp.wiped (R : Rep K G H ρ σ) (hn : noMu ρ vs = true) (hs : ∀ i, i ∉ vs → σ2[i]? = σ[i]?) : Stp ρ σ G H (wipeE ρ vs) σ2 G H :=
  ⟨fun _ _ e => e, fun _ _ _ _ e => e, fun _ e => e, fun _ e q => absurd e q, fun b ⟨i, d, e1, e2⟩ => by
    obtain ⟨e3, e4⟩ := wipeE_some e1
    exact .inl ⟨i, d, e3, (hs i e4).symm.trans e2⟩, fun i => ⟨fun d e => by
      have hi : i ∉ vs := fun m => noMu_of hn m e
      exact ⟨d, (wipeE_out hi).trans e, hs i hi⟩, fun d e => ⟨d, (wipeE_some e).1⟩⟩⟩
end
/-! ### comprehensions -/
def tYesB : DEnv → R Bool := fun ρ => .ok ρ true
abbrev DTs (X : Cx) (W : WX) (ifs : List Expr) (f : DEnv → R Bool) : Prop := PTs X ifs (tT X.K W f)
theorem pts_imp {X : Cx} {es : List Expr} {t t' : TT} (h : PTs X es t) (i : ∀ σ H Q, t' σ H Q → t σ H Q) : PTs X es t' := ⟨fun pins s σ H Q I q => h.run pins s σ H Q I (i σ H Q q)⟩
theorem dts_nil {X : Cx} {W : WX} : DTs X W [] tYesB := pts_imp pts_nil fun σ H Q ⟨ρ, G, R, h⟩ => h G H .refl R
theorem dts_one {X : Cx} {W : WX} {c : Expr} {f : DEnv → R Bool} (h : DT X W c f) : DTs X W [c] f := pts_one h
/-- .. where nothing may be raised -/
def R.bindN {α β : Type} (r : R α) (f : α → DEnv → R β) : R β := match r with
  | .ok ρ a => f a ρ
  | _ => .no
theorem R.bindN_ok {α β : Type} {ρ : DEnv} {a : α} {f : α → DEnv → R β} : (R.ok ρ a).bindN f = f a ρ := rfl
/-- one item after another; acc: what is made so far -/
def dLcGo (g : Tg) (t : DEnv → R Bool) (f : DEnv → R D) (vs : List Nat) : List D → List D → DEnv → R D
  | [], acc, ρ => .ok ρ (.lst acc)
  | d :: l, acc, ρ => match g d ρ with
    | none => .no
    | some ρ1 => (t ρ1).bindN fun b ρ2 => match b with
      | false => if noMu ρ2 vs = true then dLcGo g t f vs l acc (wipeE ρ2 vs) else .no
      | true => (f ρ2).bindN fun y ρ3 => if noMu ρ3 vs = true then (if acc.length < 16000000 then dLcGo g t f vs l (acc ++ [y]) (wipeE ρ3 vs) else .no) else .no
def dLc (s : DEnv → R (List D)) (g : Tg) (t : DEnv → R Bool) (f : DEnv → R D) (vs : List Nat) : DEnv → R D := fun ρ => (s ρ).bind fun l ρ1 => if noMu ρ1 vs = true then dLcGo g t f vs l [] (wipeE ρ1 vs) else .no

theorem dLcGo_lst {g : Tg} {t : DEnv → R Bool} {f : DEnv → R D} {vs : List Nat} : ∀ (l acc : List D) (ρ ρ' : DEnv) (d : D), dLcGo g t f vs l acc ρ = .ok ρ' d → ∃ m, d = .lst m
  | [], acc, ρ, ρ', d, h => by unfold dLcGo at h; cases h; exact ⟨_, rfl⟩
  | x :: l, acc, ρ, ρ', d, h => by
    unfold dLcGo at h
    split at h
    · cases h
    · cases e1 : t ‹DEnv› with
      | no => rw [e1] at h; cases h
      | ex _ _ => rw [e1] at h; cases h
      | ok ρ2 b =>
        rw [e1] at h
        cases b with
        | false =>
          have h : (if noMu ρ2 vs = true then dLcGo g t f vs l acc (wipeE ρ2 vs) else .no) = .ok ρ' d := h
          split at h
          · exact dLcGo_lst _ _ _ _ _ h
          · cases h
        | true =>
          have h : ((f ρ2).bindN fun y ρ3 => if noMu ρ3 vs = true then (if acc.length < 16000000 then dLcGo g t f vs l (acc ++ [y]) (wipeE ρ3 vs) else .no) else .no) = .ok ρ' d := h
          cases e2 : f ρ2 with
          | no => rw [e2] at h; cases h
          | ex _ _ => rw [e2] at h; cases h
          | ok ρ3 y =>
            rw [e2] at h
            have h : (if noMu ρ3 vs = true then (if acc.length < 16000000 then dLcGo g t f vs l (acc ++ [y]) (wipeE ρ3 vs) else .no) else .no) = .ok ρ' d := h
            split at h
            · split at h
              · exact dLcGo_lst _ _ _ _ _ h
              · cases h
            · cases h
theorem dLc_lst {s : DEnv → R (List D)} {g : Tg} {t : DEnv → R Bool} {f : DEnv → R D} {vs : List Nat} : ∀ (ρ ρ' : DEnv) (d : D), dLc s g t f vs ρ = .ok ρ' d → ∃ m, d = .lst m := by
  intro ρ ρ' d h
  unfold dLc at h
  cases e1 : s ρ with
  | no => rw [e1] at h; cases h
  | ex _ _ => rw [e1] at h; cases h
  | ok ρ1 l =>
    rw [e1] at h
    have h : (if noMu ρ1 vs = true then dLcGo g t f vs l [] (wipeE ρ1 vs) else .no) = .ok ρ' d := h
    split at h
    · exact dLcGo_lst _ _ _ _ _ h
    · cases h
/-- nothing stands in these slots -/
def Clean (ρ : DEnv) (vs : List Nat) : Prop := ∀ i ∈ vs, ∀ c, ρ[i]? ≠ some (some c)
theorem clean_wipe {ρ : DEnv} {vs : List Nat} : Clean (wipeE ρ vs) vs := fun i hi c e => (wipeE_some e).2 hi
section
variable {K : PySem.W.Frag} {ρ ρ' : DEnv} {σ σ0 : Sl} {G H G' H' : Hp} {vs : List Nat}
theorem Rep.swap (R : Rep K G H ρ σ0) (hc : Clean ρ vs) (ag : Agr vs σ0 σ) : Rep K G H ρ σ where
  sub := R.sub
  len := R.len.trans ag.1.symm
  vl := fun i d e => by
    have hi : i ∉ vs := fun m => hc i m _ e
    obtain ⟨v, e1, e2⟩ := R.vl i d e
    exact ⟨v, (ag.2 i hi).trans e1, e2⟩
  mu := fun i b d e => by
    have hi : i ∉ vs := fun m => hc i m _ e
    obtain ⟨a, e1, e2⟩ := R.mu i b d e
    exact ⟨a, (ag.2 i hi).trans e1, e2⟩
  ap := fun i j b c d e a q1 q2 q3 q4 => R.ap i j b c d e a q1 q2 ((ag.2 i fun m => hc i m _ q1).symm.trans q3) ((ag.2 j fun m => hc j m _ q2).symm.trans q4)
theorem mu_swap {b : Bool} {a : Addr} (hc : Clean ρ vs) (ag : Agr vs σ0 σ) : Mu b ρ σ0 a ↔ Mu b ρ σ a :=
  ⟨fun ⟨i, d, e1, e2⟩ => ⟨i, d, e1, (ag.2 i fun m => hc i m _ e1).trans e2⟩, fun ⟨i, d, e1, e2⟩ => ⟨i, d, e1, (ag.2 i fun m => hc i m _ e1).symm.trans e2⟩⟩
theorem Stp.swap (s : Stp ρ σ0 G H ρ' σ0 G' H') (hc : Clean ρ vs) (hc' : Clean ρ' vs) (ag : Agr vs σ0 σ) : Stp ρ σ G H ρ' σ G' H' where
  g := s.g
  h := fun b o n1 n2 q => s.h b o (fun m => n1 ((mu_swap hc ag).mp m)) (fun m => n2 ((mu_swap hc ag).mp m)) q
  t := s.t
  n := fun b q1 q2 => (s.n b q1 q2).imp id fun m => (mu_swap hc ag).mp m
  ow := fun b m => (s.ow b ((mu_swap hc' ag).mpr m)).imp (fun m => (mu_swap hc ag).mp m) id
  io := fun i => ⟨fun d e => by
      obtain ⟨d', e1, _⟩ := (s.io i).1 d e
      exact ⟨d', e1, rfl⟩, (s.io i).2⟩
theorem Agr.symm {σ σ0 : Sl} (a : Agr vs σ0 σ) : Agr vs σ σ0 := ⟨a.1.symm, fun i hi => (a.2 i hi).symm⟩
theorem Agr.trans {σ σ0 σ1 : Sl} (a : Agr vs σ0 σ) (b : Agr vs σ σ1) : Agr vs σ0 σ1 := ⟨b.1.trans a.1, fun i hi => (b.2 i hi).trans (a.2 i hi)⟩
theorem agr_wipe : Agr vs σ (wipe σ vs) := ⟨wipe_length σ vs, fun i hi => wipe_out hi⟩
theorem wipe_get (σ : Sl) (i : Nat) : ∀ vs : List Nat, (wipe σ vs)[i]? = if i ∈ vs then (σ[i]?).map (fun _ => none) else σ[i]?
  | [] => by simp [wipe]
  | v :: vs => by
    unfold wipe
    by_cases h : v = i
    · subst h
      rw [if_pos List.mem_cons_self]
      by_cases hl : v < σ.length
      · rw [List.getElem?_set_self (by rw [wipe_length]; exact hl), List.getElem?_eq_getElem hl]; rfl
      · rw [List.getElem?_eq_none (by rw [List.length_set, wipe_length]; omega), List.getElem?_eq_none (by omega)]; rfl
    · rw [List.getElem?_set_ne h, wipe_get σ i vs]
      by_cases hm : i ∈ vs
      · rw [if_pos hm, if_pos (List.mem_cons_of_mem _ hm)]
      · rw [if_neg hm, if_neg fun m => (List.mem_cons.mp m).elim (fun z => h z.symm) hm]
theorem wipe_agr (ag : Agr vs σ0 σ) : wipe σ vs = wipe σ0 vs := by
  apply List.ext_getElem?
  intro i
  rw [wipe_get, wipe_get]
  by_cases hm : i ∈ vs
  · rw [if_pos hm, if_pos hm]
    by_cases hl : i < σ0.length
    · rw [List.getElem?_eq_getElem hl, List.getElem?_eq_getElem (by rw [ag.1]; exact hl)]; rfl
    · have a1 : σ0[i]? = none := List.getElem?_eq_none (by omega)
      have a2 : σ[i]? = none := List.getElem?_eq_none (by rw [ag.1]; omega)
      rw [a1, a2]
  · rw [if_neg hm, if_neg hm]
    exact ag.2 i hm
/-- an object that no name reaches is put in another's place -/
theorem Rep.other {a : Addr} {o : HO} (R : Rep K G H ρ σ) (h0 : G a = none) (h1 : ∀ b, ¬ Mu b ρ σ a) : Rep K G (upd H a o) ρ σ where
  sub := fun c u q => by
    have n : c ≠ a := fun z => by subst z; rw [h0] at q; cases q
    rw [upd_ne n]; exact R.sub c u q
  len := R.len
  vl := R.vl
  mu := fun i b d e => by
    obtain ⟨a', e1, e2, e3⟩ := R.mu i b d e
    have n : a' ≠ a := fun z => by subst z; exact h1 b ⟨i, d, e, e1⟩
    exact ⟨a', e1, e2, e3.mono (fun _ _ q => q) fun u q => by rw [upd_ne n]; exact q⟩
  ap := R.ap
theorem Stp.other {ρ0 : DEnv} {σ0 : Sl} {G0 H0 : Hp} {a : Addr} {o : HO} (s : Stp ρ0 σ0 G0 H0 ρ σ G H) (h : H0 a = none) : Stp ρ0 σ0 G0 H0 ρ σ G (upd H a o) where
  g := s.g
  h := fun b u n1 n2 q => by rw [upd_ne (ne_of_none q h)]; exact s.h b u n1 n2 q
  t := fun b q => by
    by_cases z : b = a
    · subst z; rw [upd_same] at q; cases q
    · rw [upd_ne z] at q; exact s.t b q
  n := s.n
  ow := s.ow
  io := s.io
end
abbrev WN : WX := fun _ _ _ _ => False
theorem tlc_of {X : Cx} {W : WX} {s : DEnv → R (List D)} {g : Tg} {t : DEnv → R Bool} {f : DEnv → R D} {vs : List Nat} : ∀ σ H Q, tF X.K W (dLc s g t f vs) σ H Q → tLc (tI X.K W s) (tG X.K g vs) (tT X.K WN t) (tD X.K WN f) vs σ H Q := by
  refine fun σ H Q ⟨ρ, G, R, h⟩ => ⟨ρ, G, R, (Go.bind R h).imp fun l ρ1 G1 H1 s1 R1 h1 J hJ Dl hD => ?_⟩
  split at h1
  case isFalse => exact False.elim h1
  rename_i hn1
  -- the state ahead of the first turn
  have ag0 : Agr vs σ (wipe σ vs) := agr_wipe
  have NH : New G1 H1 G1 (upd H1 Dl (.lst [])) := New.hid R1.sub hD
  have R2 : Rep X.K G1 (upd H1 Dl (.lst [])) (wipeE ρ1 vs) σ := (NH.rep R1).wiped rfl fun _ _ => rfl
  have S2 : Stp ρ1 σ G1 H1 (wipeE ρ1 vs) σ G1 (upd H1 Dl (.lst [])) := (NH.stp R1).trans R1 (Stp.wiped (NH.rep R1) hn1 fun _ _ => rfl)
  have noD : ∀ b, ¬ Mu b (wipeE ρ1 vs) σ Dl := fun b ⟨i, d, e1, e2⟩ => by
    obtain ⟨a', e3, _, e4⟩ := R1.mu i b d (wipeE_some e1).1
    rw [e2] at e3; cases e3
    obtain ⟨o, ho⟩ := e4.there
    rw [hD] at ho; cases ho
  refine ⟨fun i m H' => m = l.length - i ∧ ∃ ρw Gi acc xs, Rep X.K Gi H' ρw σ ∧ Clean ρw vs ∧ Stp ρ1 σ G1 H1 ρw σ Gi H' ∧ H' Dl = some (.lst xs) ∧ Iss X.K Gi acc xs ∧ Gi Dl = none ∧ (∀ b, ¬ Mu b ρw σ Dl) ∧
      Go X.K W σ ρ1 G1 H1 (fun d ρ' G' H' => ∀ a, G' a = none → ¬ Mu false ρ' σ a → ¬ Mu true ρ' σ a → H a = none → Cont X.K G' H' a d → Q (.ref a) H') (dLcGo g t f vs (l.drop i) acc ρw),
    ⟨l.length, by simp, wipeE ρ1 vs, G1, [], [], R2, clean_wipe, S2, upd_same, .nil, sub_none R1.sub hD, noD, h1⟩, fun i m H' ⟨em, ρw, Gi, acc, xs, Rw, cl, Sw, eD, hx, gD, nD, hgo⟩ => ?_⟩
  cases e : l[i]? with
  | none =>
    have hl : l.length ≤ i := List.getElem?_eq_none_iff.mp e
    rw [List.drop_eq_nil_of_le hl] at hgo
    exact .inl ⟨hJ.stop i Gi H' hl Sw.g Rw.sub, hgo Gi H' Sw Rw Dl gD (nD false) (nD true) (s1.t Dl hD) ⟨xs, eD, hx⟩⟩
  | some d =>
    obtain ⟨hlt, hel⟩ := List.getElem?_eq_some_iff.mp e
    obtain ⟨q1, q2⟩ := hJ.go i d Gi H' e Sw.g Rw.sub
    rw [List.drop_eq_getElem_cons hlt, hel] at hgo
    refine .inr ⟨q1, fun H' => ∃ ρw Gi acc xs, Rep X.K Gi H' ρw σ ∧ Clean ρw vs ∧ Stp ρ1 σ G1 H1 ρw σ Gi H' ∧ H' Dl = some (.lst xs) ∧ Iss X.K Gi acc xs ∧ Gi Dl = none ∧ (∀ b, ¬ Mu b ρw σ Dl) ∧
      Go X.K W σ ρ1 G1 H1 (fun d ρ' G' H' => ∀ a, G' a = none → ¬ Mu false ρ' σ a → ¬ Mu true ρ' σ a → H a = none → Cont X.K G' H' a d → Q (.ref a) H') (dLcGo g t f vs (l.drop (i + 1)) acc ρw), fun H' q => ⟨l.length - (i + 1), by omega, rfl, q⟩, fun x H2 hy => ?_⟩
    obtain ⟨G2, N2, hdx⟩ := q2 x H2 hy
    unfold dLcGo at hgo
    split at hgo
    case h_1 => exact False.elim hgo
    rename_i ρa ea
    have R0 : Rep X.K Gi H' ρw (wipe σ vs) := Rw.swap cl ag0
    have R2' := N2.rep R0
    refine ⟨ρw, G2, d, R2', hdx, ρa, ea, fun σ2 G3 H3 s3 R3 ag3 => ⟨(wipe_agr ag3).trans (wipe_agr ag0), ρa, G3, R3, ?_⟩⟩
    have T3 : Stp ρw (wipe σ vs) Gi H' ρa σ2 G3 H3 := (N2.stp R0).trans R0 s3
    -- what a turn's end is
    have fin : ∀ {ρb : DEnv} {G4 H4 : Hp}, Stp ρa σ2 G3 H3 ρb σ2 G4 H4 → Rep X.K G4 H4 ρb σ2 → noMu ρb vs = true → Rep X.K G4 H4 (wipeE ρb vs) σ ∧ Stp ρ1 σ G1 H1 (wipeE ρb vs) σ G4 H4 ∧ H4 Dl = some (.lst xs) ∧ G4 Dl = none ∧ (∀ b, ¬ Mu b (wipeE ρb vs) σ Dl) ∧ Evl.Ex Gi G4 := fun {ρb G4 H4} s4 R4 n4 => by
      have ags : Agr vs σ2 (wipe σ vs) := ag3.symm
      have R5 : Rep X.K G4 H4 (wipeE ρb vs) (wipe σ vs) := R4.wiped ags.1 ags.2
      have T4 : Stp ρw (wipe σ vs) Gi H' (wipeE ρb vs) (wipe σ vs) G4 H4 := (T3.trans R0 s4).trans R0 (Stp.wiped R4 n4 ags.2)
      have T5 : Stp ρw σ Gi H' (wipeE ρb vs) σ G4 H4 := T4.swap cl clean_wipe ag0.symm
      have gD4 : G4 Dl = none := by
        cases hg : G4 Dl with
        | none => rfl
        | some u =>
          rcases T5.n Dl gD (by rw [hg]; exact fun z => by cases z) with z | z
          · rw [eD] at z; cases z
          · exact absurd z (nD false)
      refine ⟨R5.swap clean_wipe ag0.symm, Sw.trans R1 T5, T5.h Dl _ (nD false) (nD true) eD, gD4, fun b m => ?_, T5.g⟩
      cases b with
      | false =>
        rcases T5.ow Dl m with z | z
        · exact nD false z
        · rw [eD] at z; cases z
      | true => exact nD true (T5.io_back m)
    cases et : t ρa with
    | no => rw [et] at hgo; exact False.elim hgo
    | ex _ _ => rw [et] at hgo; exact False.elim hgo
    | ok ρb b =>
      rw [et] at hgo
      intro G4 H4 s4 R4
      cases b with
      | false =>
        rw [if_neg Bool.false_ne_true]
        have hgo' : Go X.K W σ ρ1 G1 H1 _ (if noMu ρb vs = true then dLcGo g t f vs (l.drop (i + 1)) acc (wipeE ρb vs) else .no) := hgo
        split at hgo'
        · rename_i n4
          obtain ⟨a1, a2, a3, a4, a5, a6⟩ := fin s4 R4 n4
          exact ⟨wipeE ρb vs, G4, acc, xs, a1, clean_wipe, a2, a3, hx.mono a6, a4, a5, hgo'⟩
        · exact False.elim hgo'
      | true =>
        rw [if_pos rfl]
        refine ⟨ρb, G4, R4, ?_⟩
        have hgo' : Go X.K W σ ρ1 G1 H1 _ ((f ρb).bindN fun y ρ3 => if noMu ρ3 vs = true then (if acc.length < 16000000 then dLcGo g t f vs (l.drop (i + 1)) (acc ++ [y]) (wipeE ρ3 vs) else .no) else .no) := hgo
        cases ef : f ρb with
        | no => rw [ef] at hgo'; exact False.elim hgo'
        | ex _ _ => rw [ef] at hgo'; exact False.elim hgo'
        | ok ρc y =>
          rw [ef] at hgo'
          intro G5 H5 s5 R5 v hv
          have hgo2 : Go X.K W σ ρ1 G1 H1 _ (if noMu ρc vs = true then (if acc.length < 16000000 then dLcGo g t f vs (l.drop (i + 1)) (acc ++ [y]) (wipeE ρc vs) else .no) else .no) := hgo'
          split at hgo2
          · rename_i n5
            split at hgo2
            · rename_i hlen
              obtain ⟨a1, a2, a3, a4, a5, a6⟩ := fin (s4.trans R3 s5) R5 n5
              refine ⟨xs, a3, by rw [← hx.length, sizeLine_eq]; omega, wipeE ρc vs, G5, acc ++ [y], xs ++ [v], a1.other a4 a5, clean_wipe, a2.other hD, upd_same, (hx.mono a6).append (.cons hv .nil), a4, a5, hgo2⟩
            · exact False.elim hgo2
          · exact False.elim hgo2
theorem df_lc {X : Cx} {W : WX} {elt tg iter : Expr} {ifs : List Expr} {scope : Scope} {own : List (Str × Nat)} {pos : Pos} {s : DEnv → R (List D)} {g : Tg} {t : DEnv → R Bool} {f : DEnv → R D} {vs : List Nat}
    (hcalm : X.calm = true) (hN : X.N.Nodup) (hi : DI X W tg iter s) (ok : BlkOk X.N X.env.scope scope own) (hvs : own.map (·.2) = vs)
    (hg : ∀ (s : Shared) (H : Hp) (C : Addr) (cl : List (Str × Addr)) (fp : List Addr), DG (X.blk s H scope (compEnvC scope cl C X.env) fp) tg g vs)
    (ht : ∀ (s : Shared) (H : Hp) (C : Addr) (cl : List (Str × Addr)) (fp : List Addr), DTs (X.blk s H scope (compEnvC scope cl C X.env) fp) WN ifs t)
    (he : ∀ (s : Shared) (H : Hp) (C : Addr) (cl : List (Str × Addr)) (fp : List Addr), DE (X.blk s H scope (compEnvC scope cl C X.env) fp) WN elt f) (hs : ∀ x, foldedSetIterable iter X.env x = pure x := by intro _; rfl) :
    DF' X W (.ListComp elt [⟨tg, iter, ifs, 0⟩] scope pos) (dLc s g t f vs) := by
  subst hvs
  exact pe_imp (pe_lc (g := tG X.K g (own.map (·.2))) (tt := tT X.K WN t) (te := tD X.K WN f) hcalm hN hi ok hg ht he hs) tlc_of
/-- x = [..], x of this frame alone -/
theorem ps_lc0 {X : Cx} {W : WX} {i : Nat} {y : Str} {py : Pos} {elt tg iter : Expr} {ifs : List Expr} {scope : Scope} {own : List (Str × Nat)} {pos spos : Pos} {s : DEnv → R (List D)} {g : Tg} {t : DEnv → R Bool} {f : DEnv → R D}
    (hcalm : X.calm = true) (hN : X.N.Nodup) (hy : X.N[i]? = some y) (hyl : X.env.scope.names.lookup y = some .local) (hsw : swapsWith (.ListComp elt [⟨tg, iter, ifs, 0⟩] scope pos) (some (.Name y py)) spos.line X.env = pure true) (hi : DI X W tg iter s) (ok : BlkOk X.N X.env.scope scope own)
    (hg : ∀ (s : Shared) (H : Hp) (C : Addr) (cl : List (Str × Addr)) (fp : List Addr), DG (X.blk s H scope (compEnvC scope cl C X.env) fp) tg g (own.map (·.2)))
    (ht : ∀ (s : Shared) (H : Hp) (C : Addr) (cl : List (Str × Addr)) (fp : List Addr), DTs (X.blk s H scope (compEnvC scope cl C X.env) fp) WN ifs t)
    (he : ∀ (s : Shared) (H : Hp) (C : Addr) (cl : List (Str × Addr)) (fp : List Addr), DE (X.blk s H scope (compEnvC scope cl C X.env) fp) WN elt f) (hs : ∀ x, foldedSetIterable iter X.env x = pure x := by intro _; rfl) :
    PS X (.Assign [.Name y py] (.ListComp elt [⟨tg, iter, ifs, 0⟩] scope pos) spos) (tAsg (tLc (tI X.K W s) (tG X.K g (own.map (·.2))) (tT X.K WN t) (tD X.K WN f) (own.map (·.2))) (gName i)) :=
  ps_setLc hcalm hN hy hyl hsw hi ok hg ht he hs
theorem ds_setLc {X : Cx} {W : WX} {i : Nat} {y : Str} {py : Pos} {elt tg iter : Expr} {ifs : List Expr} {scope : Scope} {own : List (Str × Nat)} {pos spos : Pos} {s : DEnv → R (List D)} {g : Tg} {t : DEnv → R Bool} {f : DEnv → R D} {vs : List Nat}
    (hcalm : X.calm = true) (hN : X.N.Nodup) (hy : X.N[i]? = some y) (hyl : X.env.scope.names.lookup y = some .local) (hsw : swapsWith (.ListComp elt [⟨tg, iter, ifs, 0⟩] scope pos) (some (.Name y py)) spos.line X.env = pure true) (hi : DI X W tg iter s) (ok : BlkOk X.N X.env.scope scope own) (hvs : own.map (·.2) = vs)
    (hg : ∀ (s : Shared) (H : Hp) (C : Addr) (cl : List (Str × Addr)) (fp : List Addr), DG (X.blk s H scope (compEnvC scope cl C X.env) fp) tg g vs)
    (ht : ∀ (s : Shared) (H : Hp) (C : Addr) (cl : List (Str × Addr)) (fp : List Addr), DTs (X.blk s H scope (compEnvC scope cl C X.env) fp) WN ifs t)
    (he : ∀ (s : Shared) (H : Hp) (C : Addr) (cl : List (Str × Addr)) (fp : List Addr), DE (X.blk s H scope (compEnvC scope cl C X.env) fp) WN elt f) (hs : ∀ x, foldedSetIterable iter X.env x = pure x := by intro _; rfl) :
    DS X W (.Assign [.Name y py] (.ListComp elt [⟨tg, iter, ifs, 0⟩] scope pos) spos) (dSet i (dLc s g t f vs)) := by
  subst hvs
  exact ps_imp (ps_lc0 hcalm hN hy hyl hsw hi ok hg ht he hs) (tset fun σ H Q h => tlc_of σ H Q (tfresh dLc_lst σ H Q h))
theorem ds_setLcF {X : Cx} {W : WX} {i : Nat} {y : Str} {py : Pos} {elt tg iter : Expr} {ifs : List Expr} {scope : Scope} {own : List (Str × Nat)} {pos spos : Pos} {s : DEnv → R (List D)} {g : Tg} {t : DEnv → R Bool} {f : DEnv → R D} {vs : List Nat}
    (hcalm : X.calm = true) (hN : X.N.Nodup) (hy : X.N[i]? = some y) (hyl : X.env.scope.names.lookup y = some .local) (hsw : swapsWith (.ListComp elt [⟨tg, iter, ifs, 0⟩] scope pos) (some (.Name y py)) spos.line X.env = pure true) (hi : DI X W tg iter s) (ok : BlkOk X.N X.env.scope scope own) (hvs : own.map (·.2) = vs)
    (hg : ∀ (s : Shared) (H : Hp) (C : Addr) (cl : List (Str × Addr)) (fp : List Addr), DG (X.blk s H scope (compEnvC scope cl C X.env) fp) tg g vs)
    (ht : ∀ (s : Shared) (H : Hp) (C : Addr) (cl : List (Str × Addr)) (fp : List Addr), DTs (X.blk s H scope (compEnvC scope cl C X.env) fp) WN ifs t)
    (he : ∀ (s : Shared) (H : Hp) (C : Addr) (cl : List (Str × Addr)) (fp : List Addr), DE (X.blk s H scope (compEnvC scope cl C X.env) fp) WN elt f) (hs : ∀ x, foldedSetIterable iter X.env x = pure x := by intro _; rfl) :
    DS X W (.Assign [.Name y py] (.ListComp elt [⟨tg, iter, ifs, 0⟩] scope pos) spos) (dSetF i (dLc s g t f vs)) := by
  subst hvs
  exact ps_imp (ps_lc0 hcalm hN hy hyl hsw hi ok hg ht he hs) (tsetF tlc_of)
end DF

namespace DF
open PySem PySem.Spec PyProof.Rows L2
section
variable {X : Cx}
/-! ### whole numbers -/
def CDivG (i j : Int) : Prop := j ≠ 0 ∧ j.natAbs.log2 < 9000
theorem op_fdivG : OpR X (binaryOp .FloorDiv) (rI CDivG fun i j => .int (i.fdiv j)) := opI fun _ _ _ _ _ _ _ hc q => floordiv_int hc.1 q (.inl (PyProof.noPylong_of_log2 hc.2))
def CPowG (i j : Int) : Prop := 0 ≤ j ∧ (Builtin.Int.intBits i : Int) * j ≤ 2 ^ 27
theorem op_powG : OpR X (binaryOp .Pow) (rI CPowG fun i j => .int (i ^ j.toNat)) := opI fun _ _ _ _ _ _ _ hc q => pow_int hc.1 hc.2 q
end
variable {K : PySem.W.Frag}
def i2 (g : Int → Int → Option D) (x y : D) : Option D := match x, y with
  | .int i, .int j => g i j
  | _, _ => none
theorem i2_of {g : Int → Int → Option D} {x y z : D} (h : i2 g x y = some z) : ∃ i j, x = .int i ∧ y = .int j ∧ g i j = some z := by
  unfold i2 at h
  split at h
  · exact ⟨_, _, rfl, rfl, h⟩
  · cases h
theorem ops_i0 {g : Int → Int → Int} : OpS K (rI0 fun i j => .int (g i j)) (i2 fun i j => some (.int (g i j))) := fun x y z v u G H Q eS hx hy e k => by
  obtain ⟨i, j, rfl, rfl, e⟩ := i2_of e
  cases e
  cases hx
  cases hy
  exact ⟨i, j, rfl, rfl, k _ G H (New.refl eS) (.int _)⟩
theorem ops_b0 {g : Int → Int → Bool} : OpS K (rI0 fun i j => .bl (g i j)) (i2 fun i j => some (.bl (g i j))) := fun x y z v u G H Q eS hx hy e k => by
  obtain ⟨i, j, rfl, rfl, e⟩ := i2_of e
  cases e
  cases hx
  cases hy
  exact ⟨i, j, rfl, rfl, k _ G H (New.refl eS) (.bl _)⟩
theorem ops_ic {C : Int → Int → Prop} {g : Int → Int → Int} {c : Int → Int → Bool} (hc : ∀ i j, c i j = true → C i j) : OpS K (rI C fun i j => .int (g i j)) (i2 fun i j => if c i j = true then some (.int (g i j)) else none) := fun x y z v u G H Q eS hx hy e k => by
  obtain ⟨i, j, rfl, rfl, e'⟩ := i2_of e
  clear e
  cases hx
  cases hy
  split at e'
  · rename_i h
    cases e'
    exact ⟨i, j, rfl, rfl, hc i j h, k _ G H (New.refl eS) (.int _)⟩
  · cases e'
/-- what is found by the first that has a word -/
def orD (g g' : D → D → Option D) (x y : D) : Option D := match g x y with
  | some z => some z
  | none => g' x y
theorem ops_or {r r' : R2} {g g' : D → D → Option D} (h : OpS K r g) (h' : OpS K r' g') : OpS K (fun x y H Q => r x y H Q ∨ r' x y H Q) (orD g g') := fun x y z v u G H Q eS hx hy e k => by
  unfold orD at e
  cases q : g x y with
  | some w =>
    rw [q] at e
    cases e
    exact .inl (h x y _ v u G H Q eS hx hy q k)
  | none =>
    rw [q] at e
    exact .inr (h' x y z v u G H Q eS hx hy e k)
def cDiv (_ j : Int) : Bool := decide (j ≠ 0) && decide (j.natAbs.log2 < 9000)
theorem cDiv_ok {i j : Int} (h : cDiv i j = true) : CDivG i j := by
  unfold cDiv at h
  rw [Bool.and_eq_true, decide_eq_true_eq, decide_eq_true_eq] at h
  exact h
def cMul (i j : Int) : Bool := decide (i.natAbs.log2 + j.natAbs.log2 < 1000000)
def cPow (i j : Int) : Bool := decide (0 ≤ j) && decide ((Builtin.Int.intBits i : Int) * j ≤ 2 ^ 27)
theorem cPow_ok {i j : Int} (h : cPow i j = true) : CPowG i j := by
  unfold cPow at h
  rw [Bool.and_eq_true, decide_eq_true_eq, decide_eq_true_eq] at h
  exact h
def addI : D → D → Option D := i2 fun i j => some (.int (i + j))
def subD : D → D → Option D := i2 fun i j => some (.int (i - j))
def mulI : D → D → Option D := i2 fun i j => if cMul i j = true then some (.int (i * j)) else none
def divD : D → D → Option D := i2 fun i j => if cDiv i j = true then some (.int (i.fdiv j)) else none
def modD : D → D → Option D := i2 fun i j => if decide (j ≠ 0) = true then some (.int (i.fmod j)) else none
def powD : D → D → Option D := i2 fun i j => if cPow i j = true then some (.int (i ^ j.toNat)) else none
def ltD : D → D → Option D := i2 fun i j => some (.bl (decide (i < j)))
def leD : D → D → Option D := i2 fun i j => some (.bl (decide (i ≤ j)))
def gtD : D → D → Option D := i2 fun i j => some (.bl (decide (j < i)))
def geD : D → D → Option D := i2 fun i j => some (.bl (decide (j ≤ i)))
/-! ### lists and tuples together -/
def catL (x y : D) : Option D := match x, y with
  | .lst l, .lst m => if l.length + m.length ≤ 16000000 then some (.lst (l ++ m)) else none
  | _, _ => none
theorem ops_catL : OpS K rCat catL := fun x y z v u G H Q eS hx hy e k => by
  unfold catL at e
  split at e
  · rename_i l m
    obtain ⟨a, xs, rfl, h1, h2⟩ := hx
    obtain ⟨b, ys, rfl, h3, h4⟩ := hy
    split at e
    · rename_i hl
      cases e
      refine ⟨a, b, xs, ys, rfl, rfl, h1, h3, by rw [← h2.length, ← h4.length, sizeLine_eq]; omega, fun p hp => ?_⟩
      have N : New G H (upd G p (.lst (xs ++ ys))) (upd H p (.lst (xs ++ ys))) := New.put eS hp
      exact k _ _ _ N (.lst upd_same ((h2.append h4).mono N.g))
    · cases e
  · cases e
def catT (x y : D) : Option D := match x, y with
  | .tup l, .tup m => if l.length + m.length ≤ 16000000 then some (.tup (l ++ m)) else none
  | _, _ => none
theorem ops_catT : OpS K (rCatA K) catT := fun x y z v u G H Q eS hx hy e k => by
  unfold catT at e
  split at e
  · rename_i l m
    cases hx with
    | @tup l a xs h1 h2 =>
      cases hy with
      | @tup m b ys h3 h4 =>
        split at e
        · rename_i hl
          cases e
          refine ⟨a, b, xs, ys, rfl, rfl, Evl.ex_t eS h1, Evl.ex_t eS h3, by rw [← h2.length, ← h4.length, sizeLine_eq]; omega, fun z => ?_, fun z1 z2 => ?_, fun z1 z2 p hp => ?_⟩
          · subst z
            cases h2
            exact k _ G H (New.refl eS) (.tup h3 h4)
          · subst z2
            cases h4
            rw [List.append_nil] at *
            exact k _ G H (New.refl eS) (.tup h1 h2)
          · have N : New G H (upd G p (.tup (xs ++ ys))) (upd H p (.tup (xs ++ ys))) := New.put eS hp
            exact k _ _ _ N (.tup (Evl.st_of upd_same) ((h2.append h4).mono N.g))
        · cases e
  · cases e
def repL (x y : D) : Option D := match x, y with
  | .lst l, .int n => if n < 2 ^ 62 ∧ -(2 ^ 62) ≤ n ∧ l.length * n.toNat ≤ 16000000 then some (.lst (List.replicate n.toNat l).flatten) else none
  | _, _ => none
theorem ops_repL : OpS K rRep repL := fun x y z v u G H Q eS hx hy e k => by
  unfold repL at e
  split at e
  · rename_i l n
    obtain ⟨a, xs, rfl, h1, h2⟩ := hx
    cases hy
    split at e
    · rename_i hl
      cases e
      refine ⟨a, n, xs, rfl, rfl, h1, by omega, by omega, by rw [← h2.length, sizeLine_eq]; omega, fun p hp => ?_⟩
      have N : New G H (upd G p (.lst (List.replicate n.toNat xs).flatten)) (upd H p (.lst (List.replicate n.toNat xs).flatten)) := New.put eS hp
      exact k _ _ _ N (.lst upd_same ((h2.rep _).mono N.g))
    · cases e
  · cases e
def repT (x y : D) : Option D := match x, y with
  | .tup l, .int n => if 2 ≤ n ∧ n ≤ 1000 ∧ l.length ≤ 1000 ∧ l.length ≠ 0 then some (.tup (List.replicate n.toNat l).flatten) else none
  | _, _ => none
theorem ops_repT : OpS K (rRepT K) repT := fun x y z v u G H Q eS hx hy e k => by
  unfold repT at e
  split at e
  · rename_i l n
    cases hx with
    | @tup l a xs h1 h2 =>
      cases hy
      split at e
      · rename_i hl
        cases e
        obtain ⟨hl1, hl2, hl3, hl4⟩ := hl
        refine ⟨a, n, xs, rfl, rfl, Evl.ex_t eS h1, fun z => ?_, hl1, hl2, by rw [← h2.length]; exact hl3, fun p hp => ?_⟩
        · rw [h2.length, z] at hl4; exact hl4 rfl
        · have N : New G H (upd G p (.tup (List.replicate n.toNat xs).flatten)) (upd H p (.tup (List.replicate n.toNat xs).flatten)) := New.put eS hp
          exact k _ _ _ N (.tup (Evl.st_of upd_same) ((h2.rep _).mono N.g))
      · cases e
  · cases e
/-! ### equality -/
mutual
def toP : D → Option PyData
  | .non => some .none
  | .bl b => some (.bool b)
  | .int i => some (.int i)
  | .str x => some (.str x)
  | .lst l => (toPs l).map .list
  | .fro l => (toPs l).map .list
  | .tup l => (toPs l).map .tuple
  | .dic _ => none
  | .obj _ _ => none
def toPs : List D → Option (List PyData)
  | [] => some []
  | d :: l => match toP d with
    | none => none
    | some p => (toPs l).map (p :: ·)
end
section
variable {G H : Hp}
mutual
theorem dp_of (eS : Evl.Ex G H) : ∀ {d : D} {v : V} {p : PyData}, Is K G d v → toP d = some p → Dp K H v p
  | _, _, _, .non, e => by cases e; exact .non
  | _, _, _, .bl b, e => by cases e; exact .bl b
  | _, _, _, .int i, e => by cases e; exact .int i
  | _, _, _, .str x, e => by cases e; exact .str x
  | .lst l, _, p, .lst h r, e => by
    unfold toP at e
    cases q : toPs l with
    | none => rw [q] at e; cases e
    | some ps => rw [q] at e; cases e; exact .lst (Evl.sq_of (eS _ _ h)) (dps_of eS r q)
  | .fro l, _, p, .fro h r, e => by
    unfold toP at e
    cases q : toPs l with
    | none => rw [q] at e; cases e
    | some ps => rw [q] at e; cases e; exact .lst (Evl.ex_l eS h) (dps_of eS r q)
  | .tup l, _, p, .tup h r, e => by
    unfold toP at e
    cases q : toPs l with
    | none => rw [q] at e; cases e
    | some ps => rw [q] at e; cases e; exact .tup (Evl.ex_t eS h) (dps_of eS r q)
  | .dic l, _, p, .dic h r, e => by unfold toP at e; cases e
  | .obj c fs, _, p, .obj h n r, e => by unfold toP at e; cases e
theorem dps_of (eS : Evl.Ex G H) : ∀ {l : List D} {xs : List V} {ps : List PyData}, Iss K G l xs → toPs l = some ps → DpAll K H xs ps
  | _, _, _, .nil, e => by unfold toPs at e; cases e; exact .nil
  | d :: l, _, ps, .cons h r, e => by
    unfold toPs at e
    cases q : toP d with
    | none => rw [q] at e; cases e
    | some p =>
      rw [q] at e
      cases q2 : toPs l with
      | none => rw [q2] at e; cases e
      | some ps' => rw [q2] at e; cases e; exact .cons (dp_of eS h q) (dps_of eS r q2)
end
theorem dp_top (eS : Evl.Ex G H) {d : D} {v : V} {p : PyData} (h : Top K G H d v) (e : toP d = some p) : Dp K H v p := dp_of (fun _ _ q => q) (h.is eS fun l z => by subst z; unfold toP at e; cases e) e
end
def eqP (x y : D) : Option Bool := match toP x, toP y with
  | some p, some q => if SeqAt.shaped p = true ∧ SeqAt.shaped q = true then some (p.eqv q) else none
  | _, _ => none
def eqD1 (x y : D) : Option D := (eqP x y).map .bl
def neD1 (x y : D) : Option D := (eqP x y).map fun b => .bl (!b)
theorem eqP_of {x y : D} {b : Bool} (h : eqP x y = some b) : ∃ p q, toP x = some p ∧ toP y = some q ∧ SeqAt.shaped p = true ∧ SeqAt.shaped q = true ∧ b = p.eqv q := by
  unfold eqP at h
  split at h
  · rename_i p q e1 e2
    split at h
    · rename_i hs
      cases h
      exact ⟨p, q, e1, e2, hs.1, hs.2, rfl⟩
    · cases h
  · cases h
theorem ops_eq1 : OpS K (rEqD K) eqD1 := fun x y z v u G H Q eS hx hy e k => by
  unfold eqD1 at e
  cases q : eqP x y with
  | none => rw [q] at e; cases e
  | some b =>
    rw [q] at e
    cases e
    obtain ⟨p, r, e1, e2, s1, s2, rfl⟩ := eqP_of q
    exact ⟨p, r, dp_top eS hx e1, dp_top eS hy e2, s1, s2, k _ G H (New.refl eS) (.bl _)⟩
theorem ops_ne1 : OpS K (rNeD K) neD1 := fun x y z v u G H Q eS hx hy e k => by
  unfold neD1 at e
  cases q : eqP x y with
  | none => rw [q] at e; cases e
  | some b =>
    rw [q] at e
    cases e
    obtain ⟨p, r, e1, e2, s1, s2, rfl⟩ := eqP_of q
    exact ⟨p, r, dp_top eS hx e1, dp_top eS hy e2, s1, s2, k _ G H (New.refl eS) (.bl _)⟩
/-! ### built-in functions -/
def lenD (xs : List D) : Option D := match xs with
  | [.lst l] => some (.int l.length)
  | [.fro l] => some (.int l.length)
  | [.tup l] => some (.int l.length)
  | _ => none
theorem tops1 {G H : Hp} {d : D} {vs : List V} (h : Tops K G H [d] vs) : ∃ v, vs = [v] ∧ Top K G H d v := by
  cases h with
  | cons h r => cases r; exact ⟨_, rfl, h⟩
theorem tops2 {G H : Hp} {d e : D} {vs : List V} (h : Tops K G H [d, e] vs) : ∃ v u, vs = [v, u] ∧ Top K G H d v ∧ Top K G H e u := by
  cases h with
  | cons h r => cases r with | cons h2 r2 => cases r2; exact ⟨_, _, rfl, h, h2⟩
def rLen (K : PySem.W.Frag) : List V → Hp → VK → Prop := fun xs H Q => ∃ p ys, xs = [.ref p] ∧ (SqL K H p ys ∨ SqT K H p ys) ∧ Q (.int ys.length) H
theorem cas_len : CaS K (rLen K) lenD := fun xs z vs G H Q eS hx e k => by
  unfold lenD at e
  split at e
  · obtain ⟨v, rfl, a, ys, rfl, h1, h2⟩ := tops1 hx
    cases e
    exact ⟨a, ys, rfl, .inl (Evl.sq_of h1), k _ G H (New.refl eS) (by rw [h2.length]; exact .int _)⟩
  · obtain ⟨v, rfl, h⟩ := tops1 hx
    cases e
    cases h with
    | fro h1 h2 => exact ⟨_, _, rfl, .inl (Evl.ex_l eS h1), k _ G H (New.refl eS) (by rw [h2.length]; exact .int _)⟩
  · obtain ⟨v, rfl, h⟩ := tops1 hx
    cases e
    cases h with
    | tup h1 h2 => exact ⟨_, _, rfl, .inr (Evl.ex_t eS h1), k _ G H (New.refl eS) (by rw [h2.length]; exact .int _)⟩
  · cases e
def absD (xs : List D) : Option D := match xs with
  | [.int i] => some (.int (if i < 0 then -i else i))
  | _ => none
def rAbs : List V → Hp → VK → Prop := fun xs H Q => ∃ i, xs = [.int i] ∧ Q (.int (if i < 0 then -i else i)) H
theorem cas_abs : CaS K rAbs absD := fun xs z vs G H Q eS hx e k => by
  unfold absD at e
  split at e
  · obtain ⟨v, rfl, h⟩ := tops1 hx
    cases h; cases e
    exact ⟨_, rfl, k _ G H (New.refl eS) (.int _)⟩
  · cases e
def intD (xs : List D) : Option D := match xs with
  | [.int i] => some (.int i)
  | [.bl b] => some (.int (if b then 1 else 0))
  | _ => none
def rInt1 : List V → Hp → VK → Prop := fun xs H Q => (∃ i, xs = [.int i] ∧ Q (.int i) H) ∨ ∃ k, xs = [.bl k] ∧ Q (.int (if k then 1 else 0)) H
theorem cas_int : CaS K rInt1 intD := fun xs z vs G H Q eS hx e k => by
  unfold intD at e
  split at e
  · obtain ⟨v, rfl, h⟩ := tops1 hx
    cases h; cases e
    exact .inl ⟨_, rfl, k _ G H (New.refl eS) (.int _)⟩
  · obtain ⟨v, rfl, h⟩ := tops1 hx
    cases h; cases e
    exact .inr ⟨_, rfl, k _ G H (New.refl eS) (.int _)⟩
  · cases e
def max2D (xs : List D) : Option D := match xs with
  | [.int i, .int j] => some (.int (if j > i then j else i))
  | _ => none
def min2D (xs : List D) : Option D := match xs with
  | [.int i, .int j] => some (.int (if j < i then j else i))
  | _ => none
def rMax2 : List V → Hp → VK → Prop := fun xs H Q => ∃ i j, xs = [.int i, .int j] ∧ Q (.int (if j > i then j else i)) H
def rMin2 : List V → Hp → VK → Prop := fun xs H Q => ∃ i j, xs = [.int i, .int j] ∧ Q (.int (if j < i then j else i)) H
theorem cas_max2 : CaS K rMax2 max2D := fun xs z vs G H Q eS hx e k => by
  unfold max2D at e
  split at e
  · obtain ⟨v, u, rfl, h1, h2⟩ := tops2 hx
    cases h1; cases h2; cases e
    exact ⟨_, _, rfl, k _ G H (New.refl eS) (.int _)⟩
  · cases e
theorem cas_min2 : CaS K rMin2 min2D := fun xs z vs G H Q eS hx e k => by
  unfold min2D at e
  split at e
  · obtain ⟨v, u, rfl, h1, h2⟩ := tops2 hx
    cases h1; cases h2; cases e
    exact ⟨_, _, rfl, k _ G H (New.refl eS) (.int _)⟩
  · cases e
def gcdD (xs : List D) : Option D := match xs with
  | [.int i, .int j] => some (.int ((Nat.gcd i.natAbs j.natAbs : Nat) : Int))
  | _ => none
theorem cas_gcd : CaS K rGcd gcdD := fun xs z vs G H Q eS hx e k => by
  unfold gcdD at e
  split at e
  · obtain ⟨v, u, rfl, h1, h2⟩ := tops2 hx
    cases h1; cases h2; cases e
    exact ⟨_, _, rfl, k _ G H (New.refl eS) (.int _)⟩
  · cases e
/-- all whole numbers, all truth values -/
def intsD : List D → Option (List Int)
  | [] => some []
  | .int i :: l => match intsD l with
    | some r => some (i :: r)
    | none => none
  | _ :: _ => none
theorem intsD_of : ∀ {l : List D} {ns : List Int}, intsD l = some ns → l = ns.map D.int
  | [], _, e => by cases e; rfl
  | .int i :: l, ns, e => by
    unfold intsD at e
    split at e
    · rename_i r q; cases e; rw [intsD_of q]; rfl
    · cases e
  | .non :: _, _, e => by cases e
  | .bl _ :: _, _, e => by cases e
  | .str _ :: _, _, e => by cases e
  | .tup _ :: _, _, e => by cases e
  | .lst _ :: _, _, e => by cases e
  | .dic _ :: _, _, e => by cases e
  | .fro _ :: _, _, e => by cases e
  | .obj _ _ :: _, _, e => by cases e
theorem intsD_map : ∀ ns : List Int, intsD (ns.map D.int) = some ns
  | [] => rfl
  | n :: r => by show (match intsD (r.map D.int) with | some r => some (n :: r) | none => none) = _; rw [intsD_map r]
def bls : List D → Option (List Bool)
  | [] => some []
  | .bl i :: l => match bls l with
    | some r => some (i :: r)
    | none => none
  | _ :: _ => none
theorem bls_of : ∀ {l : List D} {ns : List Bool}, bls l = some ns → l = ns.map D.bl
  | [], _, e => by cases e; rfl
  | .bl i :: l, ns, e => by
    unfold bls at e
    split at e
    · rename_i r q; cases e; rw [bls_of q]; rfl
    · cases e
  | .non :: _, _, e => by cases e
  | .int _ :: _, _, e => by cases e
  | .str _ :: _, _, e => by cases e
  | .tup _ :: _, _, e => by cases e
  | .lst _ :: _, _, e => by cases e
  | .dic _ :: _, _, e => by cases e
  | .fro _ :: _, _, e => by cases e
  | .obj _ _ :: _, _, e => by cases e
theorem bls_map : ∀ ns : List Bool, bls (ns.map D.bl) = some ns
  | [] => rfl
  | n :: r => by show (match bls (r.map D.bl) with | some r => some (n :: r) | none => none) = _; rw [bls_map r]
def listOf (d : D) : Option (List D) := match d with
  | .lst l => some l
  | .fro l => some l
  | _ => none
theorem listOf_top {G H : Hp} {d : D} {l : List D} {v : V} (eS : Evl.Ex G H) (h : Top K G H d v) (e : listOf d = some l) : ∃ a xs, v = .ref a ∧ SqL K H a xs ∧ Iss K G l xs := by
  cases d with
  | lst m => cases e; obtain ⟨a, xs, rfl, h1, h2⟩ := h; exact ⟨a, xs, rfl, Evl.sq_of h1, h2⟩
  | fro m => cases e; cases h with | fro h1 h2 => exact ⟨_, _, rfl, Evl.ex_l eS h1, h2⟩
  | _ => cases e
def sumD (xs : List D) : Option D := match xs with
  | [d] => match listOf d with
    | some l => (intsD l).map fun ns => .int ns.sum
    | none => none
  | _ => none
theorem cas_sum : CaS K (rSum K) sumD := fun xs z vs G H Q eS hx e k => by
  unfold sumD at e
  split at e
  · rename_i d
    split at e
    · rename_i l e1
      obtain ⟨v, rfl, h⟩ := tops1 hx
      obtain ⟨a, ys, rfl, h1, h2⟩ := listOf_top eS h e1
      cases q : intsD l with
      | none => rw [q] at e; cases e
      | some ns =>
        rw [q] at e; cases e
        rw [intsD_of q] at h2
        exact ⟨a, ns, rfl, by rw [← h2.ints]; exact h1, k _ G H (New.refl eS) (.int _)⟩
    · cases e
  · cases e
def allD (xs : List D) : Option D := match xs with
  | [d] => match listOf d with
    | some l => (bls l).map fun ns => .bl (ns.all id)
    | none => none
  | _ => none
theorem cas_all : CaS K (rAll K) allD := fun xs z vs G H Q eS hx e k => by
  unfold allD at e
  split at e
  · rename_i d
    split at e
    · rename_i l e1
      obtain ⟨v, rfl, h⟩ := tops1 hx
      obtain ⟨a, ys, rfl, h1, h2⟩ := listOf_top eS h e1
      cases q : bls l with
      | none => rw [q] at e; cases e
      | some ns =>
        rw [q] at e; cases e
        rw [bls_of q] at h2
        exact ⟨a, ns, rfl, by rw [← h2.bls]; exact h1, k _ G H (New.refl eS) (.bl _)⟩
    · cases e
  · cases e
def anyD (xs : List D) : Option D := match xs with
  | [d] => match listOf d with
    | some l => (bls l).map fun ns => .bl (ns.any id)
    | none => none
  | _ => none
theorem cas_any : CaS K (rAny K) anyD := fun xs z vs G H Q eS hx e k => by
  unfold anyD at e
  split at e
  · rename_i d
    split at e
    · rename_i l e1
      obtain ⟨v, rfl, h⟩ := tops1 hx
      obtain ⟨a, ys, rfl, h1, h2⟩ := listOf_top eS h e1
      cases q : bls l with
      | none => rw [q] at e; cases e
      | some ns =>
        rw [q] at e; cases e
        rw [bls_of q] at h2
        exact ⟨a, ns, rfl, by rw [← h2.bls]; exact h1, k _ G H (New.refl eS) (.bl _)⟩
    · cases e
  · cases e
/-- tuple(xs) -/
def tupD (xs : List D) : Option D := match xs with
  | [.lst l] => some (.tup l)
  | [.fro l] => some (.tup l)
  | [.tup l] => some (.tup l)
  | _ => none
def rTupOf (K : PySem.W.Frag) : List V → Hp → VK → Prop := fun xs H Q => ∃ p ys, xs = [.ref p] ∧ ((SqL K H p ys ∧ ∀ l, H l = none → Q (.ref l) (upd H l (.tup ys))) ∨ (SqT K H p ys ∧ Q (.ref p) H))
theorem cas_tup : CaS K (rTupOf K) tupD := fun xs z vs G H Q eS hx e k => by
  have go : ∀ {l : List D} {ys : List V}, Iss K G l ys → z = .tup l → ∀ p, H p = none → Q (.ref p) (upd H p (.tup ys)) := fun {l ys} r ez p hp => by
    subst ez
    have N : New G H (upd G p (.tup ys)) (upd H p (.tup ys)) := New.put eS hp
    exact k _ _ _ N (.tup (Evl.st_of upd_same) (r.mono N.g))
  unfold tupD at e
  split at e
  · obtain ⟨v, rfl, a, ys, rfl, h1, h2⟩ := tops1 hx
    cases e
    exact ⟨a, ys, rfl, .inl ⟨Evl.sq_of h1, go h2 rfl⟩⟩
  · obtain ⟨v, rfl, h⟩ := tops1 hx
    cases e
    cases h with
    | fro h1 h2 => exact ⟨_, _, rfl, .inl ⟨Evl.ex_l eS h1, go h2 rfl⟩⟩
  · obtain ⟨v, rfl, h⟩ := tops1 hx
    cases e
    cases h with
    | tup h1 h2 => exact ⟨_, _, rfl, .inr ⟨Evl.ex_t eS h1, k _ G H (New.refl eS) (.tup h1 h2)⟩⟩
  · cases e
end DF

namespace DF
open PySem PySem.Spec PyProof.Rows L2
/-! ### isinstance(x, T), T a built-in type -/
def tyN : D → String
  | .non => "NoneType" | .bl _ => "bool" | .int _ => "int" | .str _ => "str" | .tup _ => "tuple" | .lst _ => "list" | .dic _ => "dict" | .fro _ => "list" | .obj _ _ => ""
theorem tyX_of {K : PySem.W.Frag} {G H : Hp} {d : D} {v : V} (eS : Evl.Ex G H) (h : Top K G H d v) (hn : ∀ c fs, d ≠ .obj c fs) : TyX K H v (.type (tyN d)) := by
  cases d with
  | non => cases h; exact .base .non
  | bl b => cases h; exact .base (.bl b)
  | int i => cases h; exact .base (.int i)
  | str x => cases h; exact .base (.str x)
  | obj c fs => exact absurd rfl (hn c fs)
  | tup l =>
    cases h with
    | tup h r =>
      rcases Evl.ex_t eS h with (h | ⟨o, h⟩) | ⟨o, its, n, h1, h2, _⟩
      · exact .base (.tup h)
      · exact .fTuple h
      · exact .kTuple h1 h2
  | lst l => obtain ⟨a, xs, rfl, h1, h2⟩ := h; exact .base (.lst h1)
  | dic l =>
    obtain ⟨a, xs, rfl, h1 | ⟨o, h1⟩, h2⟩ := h
    · exact .base (.dK h1)
    · exact .fDict h1
  | fro l =>
    cases h with
    | fro h r =>
      rcases Evl.ex_l eS h with (h | ⟨o, h⟩) | ⟨o, its, n, h1, h2, _⟩
      · exact .base (.lst h)
      · exact .base (.frz h)
      · exact .kList h1 h2
def isiD (n : String) (d : D) : Option D := match d with
  | .obj _ _ => none
  | d => (kitB (tyN d) n).map .bl
def dIsi (n : String) (f : DEnv → R Th) : DEnv → R D := fun ρ => (f ρ).bind fun t ρ1 => match t ρ1 with
  | some d => ofO ρ1 (isiD n d)
  | none => .no
theorem de_isi {X : Cx} {W : WX} {a c : Expr} {f : DEnv → R Th} {n : String} {p pos : Pos} (ha : DO X W a f) (hc : PE X c (tC (.ty n))) (hg : Gl X "isinstance") (hm : X.mg "isinstance" = none) (hv : bootBuiltins "isinstance" = some (.builtin "isinstance"))
    (h1 : starEach [a, c] X.env = (false, eval a X.env) :: starEach [c] X.env := by rfl) (h2 : starEach [c] X.env = (false, eval c X.env) :: starEach [] X.env := by rfl) (hpl : (backTo pos (starEach [c] X.env)).any (·.1) = false := by rfl) :
    DE X W (.Call (.Name "isinstance" p) [a, c] [] pos) (dIsi n f) :=
  pe_imp (pe_callB (x := "isinstance") call_isi hg hm hv (pa_cons ha (pa_cons hc pa_nil h2) h1) (by decide) (by decide) h1 hpl) fun σ H Q ⟨ρ, G, R, h⟩ => ⟨ρ, G, R, (Go.bind R h).imp fun t ρ1 G1 H1 s1 R1 h1 v hv => by
    split at h1
    · rename_i d e1
      by_cases hn : ∃ c fs, d = .obj c fs
      · obtain ⟨c, fs, rfl⟩ := hn
        exact False.elim h1
      · have hn : ∀ c fs, d ≠ .obj c fs := fun c fs z => hn ⟨c, fs, z⟩
        have hi : isiD n d = (kitB (tyN d) n).map .bl := by
          cases d with
          | obj c fs => exact absurd rfl (hn c fs)
          | _ => rfl
        rw [hi] at h1
        cases e2 : kitB (tyN d) n with
        | none => rw [e2] at h1; exact False.elim h1
        | some b =>
          rw [e2] at h1
          exact ⟨v, .ty n, _, _, b, rfl, .ty n, tyX_of R1.sub (hv ρ1 G1 H1 d .refl R1 e1) hn, kit_ty e2, h1 G1 H1 .refl R1 _ (.bl b)⟩
    · exact False.elim h1⟩
/-! ### repr of a truth value, of a whole number -/
def rprD (xs : List D) : Option D := match xs with
  | [.bl b] => some (.str (if b then "True" else "False"))
  | [.int i] => if i.natAbs.log2 < 1920 then some (.str (toString i)) else none
  | _ => none
def rRpr : List V → Hp → VK → Prop := fun xs H Q => (∃ b, xs = [.bl b] ∧ Q (.str (if b then "True" else "False")) H) ∨ ∃ i, xs = [.int i] ∧ i.natAbs.log2 < 1920 ∧ Q (.str (toString i)) H
theorem call_rpr {X : Cx} : CallR X (.builtin "repr") rRpr := by
  intro pins s σ H xs us Q I r h
  rcases h with ⟨b, rfl, q⟩ | ⟨i, rfl, hz, q⟩
  · obtain ⟨u, rfl, r1⟩ := vals1 r
    cases r1
    exact PySem.P.repr_of_bool ⟨.str _, H, I.tok _, ⟨_, rfl⟩, q⟩
  · obtain ⟨u, rfl, t, rfl⟩ := vals1 r
    exact PySem.P.repr_of_int hz ⟨.str _, H, I.tok _, ⟨_, rfl⟩, q⟩
theorem cas_rpr {K : PySem.W.Frag} : CaS K rRpr rprD := fun xs z vs G H Q eS hx e k => by
  unfold rprD at e
  split at e
  · obtain ⟨v, rfl, h⟩ := tops1 hx
    cases h; cases e
    exact .inl ⟨_, rfl, k _ G H (New.refl eS) (.str _)⟩
  · obtain ⟨v, rfl, h⟩ := tops1 hx
    cases h
    split at e
    · rename_i hz
      cases e
      exact .inr ⟨_, rfl, hz, k _ G H (New.refl eS) (.str _)⟩
    · cases e
  · cases e
/-! ### isqrt -/
def sqrtD (xs : List D) : Option D := match xs with
  | [.int i] => if 0 ≤ i ∧ i < 2 ^ 64 then some (.int ((Float64.isqrt i.toNat : Nat) : Int)) else none
  | _ => none
def rSqrt : List V → Hp → VK → Prop := fun xs H Q => ∃ i, xs = [.int i] ∧ 0 ≤ i ∧ i < 2 ^ 64 ∧ Q (.int ((Float64.isqrt i.toNat : Nat) : Int)) H
theorem call_sqrt {X : Cx} : CallR X (.builtin "math.isqrt") rSqrt := by
  intro pins s σ H xs us Q I r h
  obtain ⟨i, rfl, h0, h1, q⟩ := h
  obtain ⟨u, rfl, t, rfl⟩ := vals1 r
  exact PySem.W.mg_isqrt h0 h1 ⟨.int _, H, I.tok _, ⟨_, rfl⟩, q⟩
theorem cas_sqrt {K : PySem.W.Frag} : CaS K rSqrt sqrtD := fun xs z vs G H Q eS hx e k => by
  unfold sqrtD at e
  split at e
  · obtain ⟨v, rfl, h⟩ := tops1 hx
    cases h
    split at e
    · rename_i hz
      cases e
      exact ⟨_, rfl, hz.1, hz.2, k _ G H (New.refl eS) (.int _)⟩
    · cases e
  · cases e
/-! ### a, b = x, y -/
def set2 (i j : Nat) (d e : D) (ρ : DEnv) : Option DEnv := match setV i d ρ with
  | none => none
  | some ρ1 => setV j e ρ1
def dPar (i j : Nat) (f : DEnv → R (List D)) : DEnv → SR := fun ρ => (f ρ).bindS fun l ρ' => match l with
  | [d, e] => match set2 i j d e ρ' with
    | none => .no
    | some ρ2 => .nx ρ2
  | _ => .no
theorem ds_par {X : Cx} {W : WX} {i j : Nat} {x y : Str} {a b : Expr} {f : DEnv → R (List D)} {px py pt pos : Pos} {kt k2 pt2} (hc : X.calm = true) (hN : X.N.Nodup) (hi : X.N[i]? = some x) (hj : X.N[j]? = some y) (hij : i ≠ j)
    (hx : X.env.scope.names.lookup x = some .local) (hy : X.env.scope.names.lookup y = some .local) (ha : DVs X W [a, b] f)
    (hw : swappedStores [.Tuple [.Name x px, .Name y py] kt pt] (.Tuple [a, b] k2 pt2) X.env = pure (some [x, y]))
    (hs : swapsWithSole [.Tuple [.Name x px, .Name y py] kt pt] (.Tuple [a, b] k2 pt2) pos.line X.env = pure false := by rfl) :
    DS X W (.Assign [.Tuple [.Name x px, .Name y py] kt pt] (.Tuple [a, b] k2 pt2) pos) (dPar i j f) :=
  ps_imp (ps_par hc hN hi hj hij hx hy ha hw hs) fun E σ H ⟨ρ, G, R, h⟩ => ⟨ρ, G, R, (Go.bindS R h).imp fun l ρ' G' H' s R' h vs hv => by
    split at h
    · rename_i d e
      cases hv with
      | cons h1 h2 => cases h2 with
        | cons h3 h4 =>
          cases h4
          unfold set2 at h
          cases e1 : setV i d ρ' with
          | none => rw [e1] at h; exact False.elim h
          | some ρ1 =>
            rw [e1] at h
            dsimp only at h
            cases e2 : setV j e ρ1 with
            | none => rw [e2] at h; exact False.elim h
            | some ρ2 =>
              rw [e2] at h
              have R1 := R'.setV e1 h1
              refine ⟨_, _, rfl, ?_⟩
              exact h _ G' H' ((Stp.setV R' e1).trans R' (Stp.setV R1 e2)) (R1.setV e2 h3)
    · exact False.elim h⟩
/-! ### {} -/
def dDic0 : DEnv → R D := fun ρ => .ok ρ (.dic [])
theorem df_dic0 {X : Cx} {W : WX} {pos : Pos} : DF' X W (.Dict [] [] pos) dDic0 := pe_imp pe_dnewK fun σ H Q ⟨ρ, G, R, h⟩ p hp => by
  have N : New G H G (upd H p (.dK [])) := New.hid R.sub hp
  have no : ∀ b, ¬ Mu b ρ σ p := fun b ⟨i, d, e1, e2⟩ => by
    obtain ⟨a, e3, _, e4⟩ := R.mu i b d e1
    rw [e2] at e3; cases e3
    obtain ⟨o, ho⟩ := e4.there
    rw [hp] at ho; cases ho
  exact h _ _ (N.stp R) (N.rep R) p (sub_none R.sub hp) (no false) (no true) hp ⟨[], upd_same, .nil⟩
/-! ### what a row's text has -/
structure Has (P : Program) (w : World) (K : PySem.W.Frag) (mg : Str → Option Value) (base : Heap) (x : Str) (k : Nat) (ps : List Str) (F : Fn) : Prop where
  ex : ∃ (f : Addr) (fd : FuncData), mg x = some (.ref f) ∧ PySem.W.keepIn K (.ref f) = true ∧ Binds K fd ps [] ∧ FnG P w K mg base (L2.CX P w) k f fd ps (spD K ps.length F)
section
variable {X : Cx} {W : WX} {e : Expr} {es : List Expr} {x : Str} {p pos : Pos} {k j : Nat} {ps : List Str} {F : Fn} {f : DEnv → R (List AD)}
theorem dx_has (h : Has X.prog X.w X.K X.mg X.base x j ps F) (hr : RoomG k X.A) (hj : j ≤ k) (tk : Takes X W) (hg : Gl X x)
    (ha : DR X W (e :: es) f) (hdb : (x == ("__debug__" : Str)) = false := by decide) (he : starEach (e :: es) X.env = (false, eval e X.env) :: starEach es X.env := by rfl) (hpl : (backTo pos (starEach es X.env)).any (·.1) = false := by rfl) :
    DX X W (.Call (.Name x p) (e :: es) [] pos) (dCal2 ps.length F f) := by
  obtain ⟨fa, fd, hm, hk, hb, FO⟩ := h.ex
  exact dx_call FO (hr.mono hj) tk hg hm hk hb ha hdb he hpl
theorem dx_hasN (h : Has X.prog X.w X.K X.mg X.base x j ps F) (hr : RoomG k X.A) (hj : j ≤ k) (hg : Gl X x)
    (ha : DR X WN (e :: es) f) (hdb : (x == ("__debug__" : Str)) = false := by decide) (he : starEach (e :: es) X.env = (false, eval e X.env) :: starEach es X.env := by rfl) (hpl : (backTo pos (starEach es X.env)).any (·.1) = false := by rfl) {ar : Nat} (har : ps.length = ar := by rfl) :
    DX X WN (.Call (.Name x p) (e :: es) [] pos) (dCal2 ar F f) := by
  subst har
  obtain ⟨fa, fd, hm, hk, hb, FO⟩ := h.ex
  exact dx_callN FO (hr.mono hj) hg hm hk hb ha hdb he hpl
end
end DF

namespace DF
open PySem PySem.Spec PyProof.Rows L2
section
variable {X : Cx} {W : WX} {a b e : Expr} {es : List Expr} {x : Str} {id T : String} {p pos : Pos} {r : List V → Hp → VK → Prop} {g : List D → Option D} {f : DEnv → R (List Th)}
theorem de_callB (hc : CallR X (.builtin id) r) (hs : CaS X.K r g) (hg : Gl X x) (hm : X.mg x = none) (hv : bootBuiltins x = some (.builtin id)) (ha : DA X W (e :: es) f) (hn : x ≠ "__name__" := by decide) (hdb : (x == ("__debug__" : Str)) = false := by decide)
    (he : starEach (e :: es) X.env = (false, eval e X.env) :: starEach es X.env := by rfl) (hpl : (backTo pos (starEach es X.env)).any (·.1) = false := by rfl) : DE X W (.Call (.Name x p) (e :: es) [] pos) (dCal g f) :=
  pe_imp (pe_callB hc hg hm hv ha hn hdb he hpl) (tcal hs)
theorem de_callTy (hc : CallR X (.type T) r) (hs : CaS X.K r g) (hg : Gl X x) (hm : X.mg x = none) (hv : bootBuiltins x = some (.type T)) (ha : DA X W (e :: es) f) (hn : x ≠ "__name__" := by decide) (hdb : (x == ("__debug__" : Str)) = false := by decide)
    (he : starEach (e :: es) X.env = (false, eval e X.env) :: starEach es X.env := by rfl) (hpl : (backTo pos (starEach es X.env)).any (·.1) = false := by rfl) : DE X W (.Call (.Name x p) (e :: es) [] pos) (dCal g f) :=
  pe_imp (pe_callTy hc hg hm hv ha hn hdb he hpl) (tcal hs)
theorem de_callM (hc : CallR X (.builtin id) r) (hs : CaS X.K r g) (hg : Gl X x) (hm : X.mg x = some (.builtin id)) (ha : DA X W (e :: es) f) (hdb : (x == ("__debug__" : Str)) = false := by decide)
    (he : starEach (e :: es) X.env = (false, eval e X.env) :: starEach es X.env := by rfl) (hpl : (backTo pos (starEach es X.env)).any (·.1) = false := by rfl) : DE X W (.Call (.Name x p) (e :: es) [] pos) (dCal g f) :=
  pe_imp (pe_callBfun hc hg hm ha hdb he hpl) (tcal hs)
theorem pe_tyn (hg : Gl X x) (hm : X.mg x = none) (hv : bootBuiltins x = some (.type T)) (hn : x ≠ "__name__" := by decide) (hdb : (x == ("__debug__" : Str)) = false := by decide) : PE X (.Name x pos) (tC (.ty T)) :=
  ⟨fun pins s σ H Q I h => ld_blt I hg hm hv ⟨.ty T, H, I, rfl, h⟩ hn hdb⟩
end
/-! ### -x -/
def negD (x : D) : Option D := match x with
  | .int i => some (.int (-i))
  | _ => none
theorem uns_neg {K : PySem.W.Frag} : UnS K (rU fun i => .int (-i)) negD := fun x z v G H Q eS hx e k => by
  unfold negD at e
  split at e
  · cases hx; cases e
    exact ⟨_, rfl, k _ G H (New.refl eS) (.int _)⟩
  · cases e
/-! ### xs[:k], xs[k:] of lists -/
def cutD (l : List D) (lo hi : Option Int) : List D := (l.drop (HT.sIx l.length 0 lo)).take (HT.sIx l.length l.length hi - HT.sIx l.length 0 lo)
theorem cut_iss {K : PySem.W.Frag} {G : Hp} {l : List D} {xs : List V} {lo hi : Option Int} (h : Iss K G l xs) : Iss K G (cutD l lo hi) (cutV xs lo hi) := by
  unfold cutD cutV
  rw [← h.length]
  exact (h.drop _).take _
/-- a part of a slice: nothing, or a constant -/
structure CPart (X : Cx) (e : Option Expr) (i : Option Int) : Prop where
  h : ∃ t, PO X e t ∧ ∀ σ H Q, Q i H → t σ H Q
theorem cp_no {X : Cx} : CPart X none none := ⟨⟨_, po_none, fun _ _ _ q => q⟩⟩
theorem cp_int {X : Cx} {i : Int} {j pos} : CPart X (some (.Constant (.int i) j pos)) (some i) := ⟨⟨_, po_some pe_int, fun _ _ _ q => ⟨i, rfl, q⟩⟩⟩
def cutO (lo hi : Option Int) (x : D) : Option D := match listOf x with
  | some l => some (.lst (cutD l lo hi))
  | none => none
def dCut (lo hi : Option Int) (f : DEnv → R Th) : DEnv → R D := dUn (cutO lo hi) f
theorem de_cut {X : Cx} {W : WX} {e : Expr} {elo ehi : Option Expr} {p2 pos : Pos} {lo hi : Option Int} {f : DEnv → R Th} (h : DO X W e f) (hl : CPart X elo lo) (hu : CPart X ehi hi) : DE X W (.Subscript e (.Slice elo ehi none p2) pos) (dCut lo hi f) := by
  obtain ⟨tl, h1, h2⟩ := hl.h
  obtain ⟨tu, h3, h4⟩ := hu.h
  refine pe_imp (pe_slice sl_list h h1 h3) fun σ H Q ⟨ρ, G, R, h⟩ => ⟨ρ, G, R, (Go.bind R h).imp fun t ρ' G' H' s R' h v hv => ?_⟩
  split at h
  · rename_i d e1
    unfold cutO at h
    cases e2 : listOf d with
    | none => rw [e2] at h; exact False.elim h
    | some l =>
      rw [e2] at h
      obtain ⟨a, xs, rfl, q1, q2⟩ := listOf_top R'.sub (hv ρ' G' H' d .refl R' e1) e2
      refine h2 _ _ _ (h4 _ _ _ ⟨a, xs, rfl, q1, fun p hp => ?_⟩)
      have N : New G' H' (upd G' p (.lst (cutV xs lo hi))) (upd H' p (.lst (cutV xs lo hi))) := New.put R'.sub hp
      exact h _ _ (N.stp R') (N.rep R') _ (.lst upd_same ((cut_iss q2).mono N.g))
  · exact False.elim h
/-! ### unions -/
section
variable {X : Cx}
def addD : D → D → Option D := orD addI (orD catL catT)
def mulD : D → D → Option D := orD mulI (orD repL repT)
end
/-! ### a, b, c = x, y, z -/
def set3 (i j k : Nat) (d e u : D) (ρ : DEnv) : Option DEnv := match setV i d ρ with
  | none => none
  | some ρ1 => match setV j e ρ1 with
    | none => none
    | some ρ2 => setV k u ρ2
def dPar3 (i j k : Nat) (f : DEnv → R (List D)) : DEnv → SR := fun ρ => (f ρ).bindS fun l ρ' => match l with
  | [d, e, u] => match set3 i j k d e u ρ' with
    | none => .no
    | some ρ2 => .nx ρ2
  | _ => .no
/-! ### the fuel of a while -/
def intsOf : D → Nat
  | .int i => i.natAbs
  | .tup l => go l
  | .lst l => go l
  | .fro l => go l
  | _ => 0
where go : List D → Nat
  | [] => 0
  | .int i :: l => i.natAbs + go l
  | _ :: l => go l
def fuel (as : List (Bool × D)) : Nat := as.foldl (fun n p => n + intsOf p.2) 1000
end DF
namespace DF
open PySem PySem.Spec PyProof.Rows L2
theorem mul_ok : ∀ i j : Int, cMul i j = true → CMulW i j := fun i j h => by unfold cMul at h; rw [decide_eq_true_eq] at h; exact h
end DF

namespace DF
open PySem PySem.Spec PyProof.Rows L2
theorem hsp_of {K : PySem.W.Frag} {F : Fn} {ns : List Int} {H : Hp} {a : Addr} (hF : F [(false, .fro (ns.map D.int))] = .ret false (.bl true) []) (hS : SqL K H a (ns.map V.int)) :
    spD K 1 F [.ref a] H (fun v _ => v = .bl true) (fun _ _ _ => False) := by
  refine ⟨rfl, H, [(false, .fro (ns.map D.int))], fun _ _ e => e, .val (.fro hS (Iss.of_ints ns)) .nil, List.nodup_nil, ?_⟩
  rw [hF]
  intro v G' H' _ _ h
  cases h
  rfl
theorem cx_end {P : Program} {w : World} {H : Hp} {s : Shared} {e : Value} {s' : Shared} (h : L2.CX P w [] H s (fun _ _ _ => False) e s') : False := by
  obtain ⟨_, _, _, _, _, _, _, _, _, _, _, _, h⟩ := h
  exact h
end DF

namespace DF
open PySem PySem.Spec PyProof.Rows L2
@[simp] theorem dC_ap (d : D) (ρ : DEnv) : dC d ρ = .ok ρ d := id rfl
@[simp] theorem dVar_ap (i : Nat) (ρ : DEnv) : dVar i ρ = match ρ[i]? with
  | some (some (.val d)) => .ok ρ d
  | some (some (.mu false d)) => .ok (ρ.set i (some (.val d))) d
  | _ => .no := id rfl
@[simp] theorem oVar_ap (i : Nat) (ρ : DEnv) : oVar i ρ = match ρ[i]? with
  | some (some _) => .ok ρ (look i)
  | _ => .no := id rfl
@[simp] theorem oD_ap (f : DEnv → R D) (ρ : DEnv) : oD f ρ = (f ρ).bind fun d ρ' => .ok ρ' fun _ => some d := id rfl
@[simp] theorem aNil_ap  (ρ : DEnv) : aNil  ρ = .ok ρ [] := id rfl
@[simp] theorem aCons_ap (f : DEnv → R Th) (g : DEnv → R (List Th)) (ρ : DEnv) : aCons f g ρ = (f ρ).bind fun t ρ1 => (g ρ1).bind fun l ρ2 => .ok ρ2 (t :: l) := id rfl
@[simp] theorem vNil_ap  (ρ : DEnv) : vNil  ρ = .ok ρ [] := id rfl
@[simp] theorem vCons_ap (f : DEnv → R D) (g : DEnv → R (List D)) (ρ : DEnv) : vCons f g ρ = (f ρ).bind fun t ρ1 => (g ρ1).bind fun l ρ2 => .ok ρ2 (t :: l) := id rfl
@[simp] theorem dBin_ap (g : D → D → Option D) (fa fb : DEnv → R Th) (ρ : DEnv) : dBin g fa fb ρ = (fa ρ).bind fun ta ρ1 => (fb ρ1).bind fun tb ρ2 => match ta ρ2, tb ρ2 with
  | some x, some y => ofO ρ2 (g x y)
  | _, _ => .no := id rfl
@[simp] theorem dTst_ap (f : DEnv → R D) (ρ : DEnv) : dTst f ρ = (f ρ).bind fun d ρ' => match d with
  | .bl b => .ok ρ' b
  | _ => .no := id rfl
@[simp] theorem dUn_ap (g : D → Option D) (fa : DEnv → R Th) (ρ : DEnv) : dUn g fa ρ = (fa ρ).bind fun ta ρ1 => match ta ρ1 with
  | some x => ofO ρ1 (g x)
  | none => .no := id rfl
@[simp] theorem dCal_ap (g : List D → Option D) (f : DEnv → R (List Th)) (ρ : DEnv) : dCal g f ρ = (f ρ).bind fun l ρ1 => match ths l ρ1 with
  | some xs => ofO ρ1 (g xs)
  | none => .no := id rfl
@[simp] theorem dSeq_ap (f g : DEnv → SR) (ρ : DEnv) : dSeq f g ρ = (f ρ).bind g := id rfl
@[simp] theorem dNever_ap  (ρ : DEnv) : dNever  ρ = .no := id rfl
@[simp] theorem dIf_ap (c : DEnv → R Bool) (f g : DEnv → SR) (ρ : DEnv) : dIf c f g ρ = (c ρ).bindS fun b ρ' => match b with
  | true => f ρ'
  | false => g ρ' := id rfl
@[simp] theorem dRet_ap (f : DEnv → R D) (ρ : DEnv) : dRet f ρ = (f ρ).bindS fun d ρ' => .ret ρ' false d := id rfl
@[simp] theorem dRetF_ap (f : DEnv → R D) (ρ : DEnv) : dRetF f ρ = (f ρ).bindS fun d ρ' => .ret ρ' true d := id rfl
@[simp] theorem dRetN_ap  (ρ : DEnv) : dRetN  ρ = .ret ρ false .non := id rfl
@[simp] theorem dRetV_ap (i : Nat) (ρ : DEnv) : dRetV i ρ = match ρ[i]? with
  | some (some (.val d)) => .ret ρ false d
  | some (some (.mu false d)) => .ret ρ true d
  | _ => .no := id rfl
@[simp] theorem dExpr_ap (f : DEnv → R D) (ρ : DEnv) : dExpr f ρ = (f ρ).bindS fun _ ρ' => .nx ρ' := id rfl
@[simp] theorem dSet_ap (i : Nat) (f : DEnv → R D) (ρ : DEnv) : dSet i f ρ = (f ρ).bindS fun d ρ' => match setV i d ρ' with
  | none => .no
  | some ρ2 => .nx ρ2 := id rfl
@[simp] theorem dSetF_ap (i : Nat) (f : DEnv → R D) (ρ : DEnv) : dSetF i f ρ = match f ρ with
  | .no => .no
  | .ex ρ' e => .ex ρ' e
  | .ok ρ' d => match setF i d ρ' with
    | none => .no
    | some ρ2 => .nx ρ2 := id rfl
@[simp] theorem gsNil_ap  (ds : List D) (ρ : DEnv) : gsNil  ds ρ = match ds with
  | [] => some ρ
  | _ => none := id rfl
@[simp] theorem gsCons_ap (f : Tg) (g : List D → DEnv → Option DEnv) (ds : List D) (ρ : DEnv) : gsCons f g ds ρ = match ds with
  | [] => none
  | d :: r => match f d ρ with
    | none => none
    | some ρ1 => g r ρ1 := id rfl
@[simp] theorem gTp_ap (n : Nat) (f : List D → DEnv → Option DEnv) (d : D) (ρ : DEnv) : gTp n f d ρ = match d with
  | .tup l => if l.length = n then f l ρ else none
  | _ => none := id rfl
@[simp] theorem dAsg_ap (f : DEnv → R D) (g : Tg) (ρ : DEnv) : dAsg f g ρ = (f ρ).bindS fun d ρ' => match g d ρ' with
  | none => .no
  | some ρ2 => .nx ρ2 := id rfl
@[simp] theorem sLst_ap (f : DEnv → R D) (ρ : DEnv) : sLst f ρ = (f ρ).bind fun d ρ' => match d with
  | .lst l => .ok ρ' l
  | .fro l => .ok ρ' l
  | _ => .no := id rfl
@[simp] theorem sTup_ap (f : DEnv → R D) (ρ : DEnv) : sTup f ρ = (f ρ).bind fun d ρ' => match d with
  | .tup l => .ok ρ' l
  | _ => .no := id rfl
@[simp] theorem sRng1_ap (f : DEnv → R (List D)) (ρ : DEnv) : sRng1 f ρ = (f ρ).bind fun l ρ' => match l with
  | [.int j] => if inR j = true then .ok ρ' (rng 0 j.toNat) else .no
  | _ => .no := id rfl
@[simp] theorem sRng2_ap (f : DEnv → R (List D)) (ρ : DEnv) : sRng2 f ρ = (f ρ).bind fun l ρ' => match l with
  | [.int i, .int j] => if inR i = true then if inR j = true then .ok ρ' (rng i (j - i).toNat) else .no else .no
  | _ => .no := id rfl
@[simp] theorem dForS_ap (s : DEnv → R (List D)) (g : Tg) (b : DEnv → SR) (ρ : DEnv) : dForS s g b ρ = (s ρ).bindS fun l ρ' => dFor g b l ρ' := id rfl
@[simp] theorem dTru_ap (f : DEnv → R Th) (ρ : DEnv) : dTru f ρ = (f ρ).bind fun t ρ' => match t ρ' with
  | none => .no
  | some d => ofO ρ' (tru d) := id rfl
@[simp] theorem dAnd_ap (f g : DEnv → R Bool) (ρ : DEnv) : dAnd f g ρ = (f ρ).bind fun b ρ' => match b with
  | true => g ρ'
  | false => .ok ρ' false := id rfl
@[simp] theorem dOr_ap (f g : DEnv → R Bool) (ρ : DEnv) : dOr f g ρ = (f ρ).bind fun b ρ' => match b with
  | true => .ok ρ' true
  | false => g ρ' := id rfl
@[simp] theorem dNot_ap (f : DEnv → R Bool) (ρ : DEnv) : dNot f ρ = (f ρ).bind fun b ρ' => .ok ρ' (!b) := id rfl
@[simp] theorem dAndV_ap (f g : DEnv → R D) (ρ : DEnv) : dAndV f g ρ = (f ρ).bind fun d ρ' => match d with
  | .bl true => g ρ'
  | .bl false => .ok ρ' (.bl false)
  | _ => .no := id rfl
@[simp] theorem dOrV_ap (f g : DEnv → R D) (ρ : DEnv) : dOrV f g ρ = (f ρ).bind fun d ρ' => match d with
  | .bl true => .ok ρ' (.bl true)
  | .bl false => g ρ'
  | _ => .no := id rfl
@[simp] theorem dNotV_ap (f : DEnv → R D) (ρ : DEnv) : dNotV f ρ = (f ρ).bind fun d ρ' => match d with
  | .bl b => .ok ρ' (.bl (!b))
  | _ => .no := id rfl
@[simp] theorem dIte_ap (t : DEnv → R Bool) (f g : DEnv → R D) (ρ : DEnv) : dIte t f g ρ = (t ρ).bind fun b ρ' => match b with
  | true => f ρ'
  | false => g ρ' := id rfl
@[simp] theorem dChain_ap (g g' : D → D → Option D) (f1 f2 f3 : DEnv → R Th) (ρ : DEnv) : dChain g g' f1 f2 f3 ρ = (f1 ρ).bind fun t1 ρ1 => (f2 ρ1).bind fun t2 ρ2 => match t1 ρ2, t2 ρ2 with
  | some x, some y => match g x y with
    | some (.bl true) => (f3 ρ2).bind fun t3 ρ3 => match t2 ρ3, t3 ρ3 with
      | some y', some z => ofO ρ3 (g' y' z)
      | _, _ => .no
    | some (.bl false) => .ok ρ2 (.bl false)
    | _ => .no
  | _, _ => .no := id rfl
@[simp] theorem dTup_ap (f : DEnv → R (List D)) (ρ : DEnv) : dTup f ρ = (f ρ).bind fun l ρ' => if l.length ≤ 1000 then .ok ρ' (.tup l) else .no := id rfl
@[simp] theorem dLst_ap (f : DEnv → R (List D)) (ρ : DEnv) : dLst f ρ = (f ρ).bind fun l ρ' => if l.length ≤ 1000 then .ok ρ' (.lst l) else .no := id rfl
@[simp] theorem dApp_ap (i : Nat) (f : DEnv → R D) (ρ : DEnv) : dApp i f ρ = match muL i ρ with
  | none => .no
  | some _ => (f ρ).bindS fun d ρ' => match muL i ρ' with
    | none => .no
    | some (b, l) => if l.length < 16000000 then .nx (ρ'.set i (some (.mu b (.lst (l ++ [d]))))) else .no := id rfl
@[simp] theorem dSetI_ap (i : Nat) (fk f : DEnv → R D) (ρ : DEnv) : dSetI i fk f ρ = (f ρ).bindS fun d ρ1 => match muL i ρ1 with
  | none => .no
  | some _ => (fk ρ1).bindS fun k ρ2 => match muL i ρ2, k with
    | some (b, l), .int n => match ixN l.length n with
      | none => .no
      | some j => .nx (ρ2.set i (some (.mu b (.lst (l.set j d)))))
    | _, _ => .no := id rfl
@[simp] theorem rNil_ap  (ρ : DEnv) : rNil  ρ = .ok ρ [] := id rfl
@[simp] theorem rVal_ap (f : DEnv → R D) (g : DEnv → R (List AD)) (ρ : DEnv) : rVal f g ρ = (f ρ).bind fun d ρ1 => (g ρ1).bind fun l ρ2 => .ok ρ2 (.v d :: l) := id rfl
@[simp] theorem rIo_ap (i : Nat) (g : DEnv → R (List AD)) (ρ : DEnv) : rIo i g ρ = if isMu ρ i = true then (g ρ).bind fun l ρ2 => .ok ρ2 (.io i :: l) else .no := id rfl
@[simp] theorem dCal2_ap (ar : Nat) (F : Fn) (f : DEnv → R (List AD)) (ρ : DEnv) : dCal2 ar F f ρ = (f ρ).bind fun l ρ1 => if l.length = ar then match argsD ρ1 l with
  | none => .no
  | some as => if (ioIx l).Nodup then match F as with
    | .no => .no
    | .ret fr d os => match putD ρ1 l os with
      | none => .no
      | some ρ2 => .ok ρ2 (fr, d)
    | .exc e os => match putD ρ1 l os with
      | none => .no
      | some ρ2 => .ex ρ2 e
    else .no
  else .no := id rfl
@[simp] theorem dV_ap (f : DEnv → R (Bool × D)) (ρ : DEnv) : dV f ρ = (f ρ).bind fun p ρ' => .ok ρ' p.2 := id rfl
@[simp] theorem dN_ap (f : DEnv → R (Bool × D)) (ρ : DEnv) : dN f ρ = (f ρ).bind fun p ρ' => match p with
  | (true, d) => .ok ρ' d
  | (false, _) => .no := id rfl
@[simp] theorem tYesB_ap  (ρ : DEnv) : tYesB  ρ = .ok ρ true := id rfl
@[simp] theorem dLc_ap (s : DEnv → R (List D)) (g : Tg) (t : DEnv → R Bool) (f : DEnv → R D) (vs : List Nat) (ρ : DEnv) : dLc s g t f vs ρ = (s ρ).bind fun l ρ1 => if noMu ρ1 vs = true then dLcGo g t f vs l [] (wipeE ρ1 vs) else .no
 := id rfl
@[simp] theorem dIsi_ap (n : String) (f : DEnv → R Th) (ρ : DEnv) : dIsi n f ρ = (f ρ).bind fun t ρ1 => match t ρ1 with
  | some d => ofO ρ1 (isiD n d)
  | none => .no := id rfl
@[simp] theorem dPar_ap (i j : Nat) (f : DEnv → R (List D)) (ρ : DEnv) : dPar i j f ρ = (f ρ).bindS fun l ρ' => match l with
  | [d, e] => match set2 i j d e ρ' with
    | none => .no
    | some ρ2 => .nx ρ2
  | _ => .no := id rfl
@[simp] theorem dDic0_ap  (ρ : DEnv) : dDic0  ρ = .ok ρ (.dic []) := id rfl
@[simp] theorem dPar3_ap (i j k : Nat) (f : DEnv → R (List D)) (ρ : DEnv) : dPar3 i j k f ρ = (f ρ).bindS fun l ρ' => match l with
  | [d, e, u] => match set3 i j k d e u ρ' with
    | none => .no
    | some ρ2 => .nx ρ2
  | _ => .no := id rfl
theorem SR.bind_ret {ρ : DEnv} {fr : Bool} {d : D} {g : DEnv → SR} : (SR.ret ρ fr d).bind g = .ret ρ fr d := rfl
theorem ltD_ap (i j : Int) : ltD (.int i) (.int j) = some (.bl (decide (i < j))) := rfl
theorem leD_ap (i j : Int) : leD (.int i) (.int j) = some (.bl (decide (i ≤ j))) := rfl
theorem gtD_ap (i j : Int) : gtD (.int i) (.int j) = some (.bl (decide (j < i))) := rfl
theorem geD_ap (i j : Int) : geD (.int i) (.int j) = some (.bl (decide (j ≤ i))) := rfl
theorem addD_ap (i j : Int) : addD (.int i) (.int j) = some (.int (i + j)) := rfl
theorem subD_ap (i j : Int) : subD (.int i) (.int j) = some (.int (i - j)) := rfl
theorem mulI_ap {i j : Int} (h : cMul i j = true) : mulI (.int i) (.int j) = some (.int (i * j)) := by
  show (if cMul i j = true then some (D.int (i * j)) else none) = _
  rw [if_pos h]
theorem mulD_ap {i j : Int} (h : cMul i j = true) : mulD (.int i) (.int j) = some (.int (i * j)) := by
  unfold mulD orD
  rw [mulI_ap h]
theorem divD_ap {i j : Int} (h : cDiv i j = true) : divD (.int i) (.int j) = some (.int (i.fdiv j)) := by
  show (if cDiv i j = true then some (D.int (i.fdiv j)) else none) = _
  rw [if_pos h]
theorem modD_ap {i j : Int} (h : j ≠ 0) : modD (.int i) (.int j) = some (.int (i.fmod j)) := by
  show (if decide (j ≠ 0) = true then some (D.int (i.fmod j)) else none) = _
  rw [if_pos (decide_eq_true h)]
theorem powD_ap {i j : Int} (h : cPow i j = true) : powD (.int i) (.int j) = some (.int (i ^ j.toNat)) := by
  show (if cPow i j = true then some (D.int (i ^ j.toNat)) else none) = _
  rw [if_pos h]
theorem negD_ap (i : Int) : negD (.int i) = some (.int (-i)) := rfl
theorem absD_ap (i : Int) : absD [.int i] = some (.int i.natAbs) := by
  show some (D.int (if i < 0 then -i else i)) = _
  congr 2
  split <;> omega
theorem intD_ap (i : Int) : intD [.int i] = some (.int i) := rfl
theorem intD_apB (b : Bool) : intD [.bl b] = some (.int (if b then 1 else 0)) := rfl
theorem catL_ap {l m : List D} (h : l.length + m.length ≤ 16000000) : addD (.lst l) (.lst m) = some (.lst (l ++ m)) := by
  unfold addD orD addI i2 catL
  simp only [h, if_true]
theorem catT_ap {l m : List D} (h : l.length + m.length ≤ 16000000) : addD (.tup l) (.tup m) = some (.tup (l ++ m)) := by
  show (match catL (.tup l) (.tup m) with | some z => some z | none => catT (.tup l) (.tup m)) = _
  unfold catL catT
  simp only [h, if_true]
/-! ### equality by shape -/
mutual
def plainD : Nat → D → Bool
  | _, .int _ => true
  | _, .bl _ => true
  | _, .str x => PyData.canLay0 (.str x)
  | _, .non => true
  | n + 1, .tup l => plainDs n l
  | n + 1, .lst l => plainDs n l
  | n + 1, .fro l => plainDs n l
  | _, _ => false
def plainDs : Nat → List D → Bool
  | _, [] => true
  | n, d :: l => plainD n d && plainDs n l
end
mutual
theorem plain_toP : ∀ {n : Nat} {d : D}, plainD n d = true → ∃ p, toP d = some p ∧ p.canLay0 = true ∧ p.depth ≤ n
  | _, .int i, _ => ⟨_, rfl, rfl, Nat.zero_le _⟩
  | _, .bl i, _ => ⟨_, rfl, rfl, Nat.zero_le _⟩
  | _, .str i, h => ⟨_, rfl, by unfold plainD at h; exact h, Nat.zero_le _⟩
  | _, .non, _ => ⟨_, rfl, rfl, Nat.zero_le _⟩
  | n + 1, .tup l, h => by
    obtain ⟨ps, e, h1, h2⟩ := plain_toPs (n := n) (l := l) h
    exact ⟨.tuple ps, by unfold toP; rw [e]; rfl, h1, Nat.succ_le_succ h2⟩
  | n + 1, .lst l, h => by
    obtain ⟨ps, e, h1, h2⟩ := plain_toPs (n := n) (l := l) h
    exact ⟨.list ps, by unfold toP; rw [e]; rfl, h1, Nat.succ_le_succ h2⟩
  | n + 1, .fro l, h => by
    obtain ⟨ps, e, h1, h2⟩ := plain_toPs (n := n) (l := l) h
    exact ⟨.list ps, by unfold toP; rw [e]; rfl, h1, Nat.succ_le_succ h2⟩
  | 0, .tup l, h => by cases h
  | 0, .lst l, h => by cases h
  | 0, .fro l, h => by cases h
  | 0, .dic l, h => by cases h
  | 0, .obj c fs, h => by cases h
  | _ + 1, .obj c fs, h => by cases h
  | _ + 1, .dic l, h => by cases h
theorem plain_toPs : ∀ {n : Nat} {l : List D}, plainDs n l = true → ∃ ps, toPs l = some ps ∧ PyData.canLayAll0 ps = true ∧ PyData.depthAll ps ≤ n
  | _, [], _ => ⟨[], rfl, rfl, Nat.zero_le _⟩
  | n, d :: l, h => by
    have h' : (plainD n d && plainDs n l) = true := by unfold plainDs at h; exact h
    rw [Bool.and_eq_true] at h'
    obtain ⟨p, e1, h1, h2⟩ := plain_toP h'.1
    obtain ⟨ps, e2, h3, h4⟩ := plain_toPs h'.2
    refine ⟨p :: ps, by unfold toPs; rw [e1, e2]; rfl, ?_, ?_⟩
    · unfold PyData.canLayAll0; rw [h1, h3]; rfl
    · unfold PyData.depthAll; exact Nat.max_le.mpr ⟨h2, h4⟩
end
theorem eqP_plain {d e : D} (h1 : plainD 9 d = true) (h2 : plainD 9 e = true) : ∃ p q, toP d = some p ∧ toP e = some q ∧ eqP d e = some (p.eqv q) := by
  obtain ⟨p, e1, c1, d1⟩ := plain_toP h1
  obtain ⟨q, e2, c2, d2⟩ := plain_toP h2
  refine ⟨p, q, e1, e2, ?_⟩
  unfold eqP
  rw [e1, e2]
  have s : ∀ {r : PyData}, r.canLay0 = true → r.depth ≤ 9 → SeqAt.shaped r = true := fun {r} a b => by
    unfold SeqAt.shaped
    rw [a, Bool.true_and]
    exact decide_eq_true (by omega)
  show (if SeqAt.shaped p = true ∧ SeqAt.shaped q = true then some (p.eqv q) else none) = _
  rw [if_pos ⟨s c1 d1, s c2 d2⟩]
mutual
theorem eqv_refl : ∀ {d : D} {p : PyData}, toP d = some p → p.eqv p = true
  | .non, _, e => by cases e; rfl
  | .bl b, _, e => by cases e; exact beq_self_eq_true b
  | .int i, _, e => by cases e; exact beq_self_eq_true i
  | .str x, _, e => by cases e; exact beq_self_eq_true x
  | .tup l, _, e => by
    unfold toP at e
    cases q : toPs l with
    | none => rw [q] at e; cases e
    | some ps => rw [q] at e; cases e; exact eqvs_refl q
  | .lst l, _, e => by
    unfold toP at e
    cases q : toPs l with
    | none => rw [q] at e; cases e
    | some ps => rw [q] at e; cases e; exact eqvs_refl q
  | .fro l, _, e => by
    unfold toP at e
    cases q : toPs l with
    | none => rw [q] at e; cases e
    | some ps => rw [q] at e; cases e; exact eqvs_refl q
  | .dic l, _, e => by unfold toP at e; cases e
  | .obj c fs, _, e => by unfold toP at e; cases e
theorem eqvs_refl : ∀ {l : List D} {ps : List PyData}, toPs l = some ps → PyData.eqvAll ps ps = true
  | [], _, e => by unfold toPs at e; cases e; rfl
  | d :: l, _, e => by
    unfold toPs at e
    cases q : toP d with
    | none => rw [q] at e; cases e
    | some p =>
      rw [q] at e
      cases q2 : toPs l with
      | none => rw [q2] at e; cases e
      | some ps =>
        rw [q2] at e
        cases e
        unfold PyData.eqvAll
        rw [eqv_refl q, eqvs_refl q2]
        rfl
end
/-- the same data are equal -/
theorem eq_same {d : D} (h : plainD 9 d = true) : eqD1 d d = some (.bl true) := by
  obtain ⟨p, q, e1, e2, e3⟩ := eqP_plain h h
  rw [e1] at e2
  cases e2
  unfold eqD1
  rw [e3, eqv_refl e1]
  rfl
theorem ne_same {d : D} (h : plainD 9 d = true) : neD1 d d = some (.bl false) := by
  obtain ⟨p, q, e1, e2, e3⟩ := eqP_plain h h
  rw [e1] at e2
  cases e2
  unfold neD1
  rw [e3, eqv_refl e1]
  rfl
theorem eq_int (i j : Int) : eqD1 (.int i) (.int j) = some (.bl (decide (i = j))) := by
  obtain ⟨p, q, e1, e2, e3⟩ := eqP_plain (d := .int i) (e := .int j) rfl rfl
  cases e1
  cases e2
  unfold eqD1
  rw [e3]
  rfl
theorem ne_int (i j : Int) : neD1 (.int i) (.int j) = some (.bl (!decide (i = j))) := by
  obtain ⟨p, q, e1, e2, e3⟩ := eqP_plain (d := .int i) (e := .int j) rfl rfl
  cases e1
  cases e2
  unfold neD1
  rw [e3]
  rfl
theorem dWhile_succ (c : DEnv → R Bool) (b : DEnv → SR) (n : Nat) (ρ : DEnv) : dWhile c b (n + 1) ρ = (c ρ).bindS fun t ρ1 => match t with
    | false => .nx ρ1
    | true => match b ρ1 with
      | .nx ρ2 => dWhile c b n ρ2
      | .cnt ρ2 => dWhile c b n ρ2
      | .brk ρ2 => .nx ρ2
      | .no => .no
      | .ret ρ2 fr d => .ret ρ2 fr d
      | .ex ρ2 e => .ex ρ2 e := rfl
end DF

namespace DF
open PySem PySem.Spec PyProof.Rows L2
/-! ### list(x): a new list -/
def seqOf (d : D) : Option (List D) := match d with
  | .lst l => some l
  | .fro l => some l
  | .tup l => some l
  | _ => none
theorem seqOf_top {K : PySem.W.Frag} {G H : Hp} {d : D} {l : List D} {v : V} (eS : Evl.Ex G H) (h : Top K G H d v) (e : seqOf d = some l) : ∃ a xs, v = .ref a ∧ (SqL K H a xs ∨ SqT K H a xs) ∧ Iss K G l xs := by
  cases d with
  | lst m => cases e; obtain ⟨a, xs, rfl, h1, h2⟩ := h; exact ⟨a, xs, rfl, .inl (Evl.sq_of h1), h2⟩
  | fro m => cases e; cases h with | fro h1 h2 => exact ⟨_, _, rfl, .inl (Evl.ex_l eS h1), h2⟩
  | tup m => cases e; cases h with | tup h1 h2 => exact ⟨_, _, rfl, .inr (Evl.ex_t eS h1), h2⟩
  | _ => cases e
/-- a new list made from an operand -/
def dMk (g : D → Option (List D)) (f : DEnv → R Th) : DEnv → R D := fun ρ => (f ρ).bind fun t ρ' => match t ρ' with
  | none => .no
  | some d => match g d with
    | none => .no
    | some l => .ok ρ' (.lst l)
theorem dMk_go {K : PySem.W.Frag} {W : WX} {g : D → Option (List D)} {f : DEnv → R Th} {te : TE}
    (hs : ∀ (d : D) (l : List D) (v : V) (G H : Hp) (Q : VK), Evl.Ex G H → Top K G H d v → g d = some l → (∀ p vs, H p = none → Iss K G l vs → Q (.ref p) (upd H p (.lst vs))) → te [] H Q → True) : True := trivial
theorem df_mk {X : Cx} {W : WX} {e : Expr} {g : D → Option (List D)} {f : DEnv → R Th} {r : V → Hp → VK → Prop} (h : PE X e fun σ H Q => tO X.K W f σ H fun v H1 => r v H1 Q)
    (hs : ∀ (d : D) (l : List D) (v : V) (G H : Hp) (Q : VK), Evl.Ex G H → Top X.K G H d v → g d = some l → (∀ p vs, H p = none → Iss X.K G l vs → Q (.ref p) (upd H p (.lst vs))) → r v H Q) : DF' X W e (dMk g f) :=
  pe_imp h fun σ H Q ⟨ρ, G, R, h⟩ => ⟨ρ, G, R, by
    cases e1 : f ρ with
    | no =>
      have h2 : dMk g f ρ = .no := by unfold dMk; rw [e1]; rfl
      rw [h2] at h; exact h
    | ex ρ' ee =>
      have h2 : dMk g f ρ = .ex ρ' ee := by unfold dMk; rw [e1]; rfl
      rw [h2] at h; exact h
    | ok ρ' t =>
      have h2 : dMk g f ρ = match t ρ' with
        | none => .no
        | some d => match g d with
          | none => .no
          | some l => .ok ρ' (.lst l) := by unfold dMk; rw [e1]; rfl
      rw [h2] at h
      intro G' H' s R' v hv
      split at h
      · exact False.elim h
      · rename_i d e2
        split at h
        · exact False.elim h
        · rename_i l e3
          exact hs d l v G' H' Q R'.sub (hv ρ' G' H' d .refl R' e2) e3 fun p vs hp hvs => fresh_lst R s R' (fun G' H' s R q1 q2 q3 q4 q5 q6 => h G' H' s R q1 q2 q3 q4 q5 q6) hvs p hp⟩
section
variable {X : Cx} {W : WX} {e : Expr} {p pos : Pos} {f : DEnv → R Th}
theorem df_list (hg : Gl X "list") (hm : X.mg "list" = none) (ha : DO X W e f) (h1 : starEach [e] X.env = (false, eval e X.env) :: starEach [] X.env := by rfl) (hpl : (backTo pos (starEach [] X.env)).any (·.1) = false := by rfl) : DF' X W (.Call (.Name "list" p) [e] [] pos) (dMk seqOf f) :=
  df_mk (r := fun v H1 Q => ∃ p ys, v = .ref p ∧ (SqL X.K H1 p ys ∨ SqT X.K H1 p ys) ∧ ∀ l, H1 l = none → Q (.ref l) (upd H1 l (.lst ys)))
    (pe_imp (pe_callTy call_list_of hg hm boot_list (pa_cons ha pa_nil h1) (by decide) (by decide) h1 hpl) fun σ H Q ⟨ρ, G, R, h⟩ => ⟨ρ, G, R, h.imp fun t ρ' G' H' s R' h v hv => by
      obtain ⟨p, ys, rfl, q1, q2⟩ := h v hv
      exact ⟨p, ys, rfl, q1, q2⟩⟩)
    fun d l v G H Q eS ht e k => by
      obtain ⟨a, xs, rfl, q1, q2⟩ := seqOf_top eS ht e
      exact ⟨a, xs, rfl, q1, fun l hl => k l xs hl q2⟩
/-! ### xs[::-1] -/
def revO (d : D) : Option (List D) := (listOf d).map List.reverse
theorem df_rev {k : Nat} {p1 p2 p3 : Pos} (ha : DO X W e f) : DF' X W (.Subscript e (.Slice none none (some (.UnaryOp .USub (.Constant (.int 1) k p1) p2)) p3) pos) (dMk revO f) :=
  df_mk (r := fun v H1 Q => ∃ a xs, v = .ref a ∧ SqL X.K H1 a xs ∧ ∀ p, H1 p = none → Q (.ref p) (upd H1 p (.lst xs.reverse))) (pe_revL ha)
    fun d l v G H Q eS ht e k => by
      unfold revO at e
      cases q : listOf d with
      | none => rw [q] at e; cases e
      | some m =>
        rw [q] at e
        cases e
        obtain ⟨a, xs, rfl, q1, q2⟩ := listOf_top eS ht q
        exact ⟨a, xs, rfl, q1, fun p hp => k p _ hp q2.reverse⟩
/-! ### x.pop() -/
def dPop (i : Nat) : DEnv → SR := fun ρ => match muL i ρ with
  | none => .no
  | some (b, l) => if l.length = 0 then .no else .nx (ρ.set i (some (.mu b (.lst l.dropLast))))
theorem Iss.dropLast {K : PySem.W.Frag} {G : Hp} {l : List D} {xs : List V} (h : Iss K G l xs) : Iss K G l.dropLast xs.dropLast := by
  rw [List.dropLast_eq_take, List.dropLast_eq_take, h.length]
  exact h.take _
theorem ds_pop {o : Expr} {i : Nat} {p1 p2 : Pos} (ho : PE X o (tVar i)) (hs : swapsWith (.Call (.Attribute o "pop" p1) [] [] p2) none pos.line X.env = pure false := by rfl)
    (hbase : attributeBase o "pop" X.env (eval o X.env) = eval o X.env := by rfl) (hline : (p1.endLine == p2.line) = true := by rfl) : DS X W (.Expr (.Call (.Attribute o "pop" p1) [] [] p2) pos) (dPop i) :=
  ps_imp (ps_expr (pe_bm0 PySem.F.plainAttrs_list PySem.F.slot_list_pop PySem.F.type_list_pop mt_pop ho hbase hline) hs) fun E σ H ⟨ρ, G, R, h⟩ => by
    unfold dPop at h
    split at h
    · exact False.elim h
    · rename_i b l e1
      have e1 := muL_of e1
      obtain ⟨a, ea, e2, xs, e3, e4⟩ := R.mu i b _ e1
      split at h
      · exact False.elim h
      · rename_i hl
        have hx : xs ≠ [] := fun z => by subst z; exact hl e4.length
        refine ⟨.ref a, ea, .inl ⟨rfl, xs, Evl.sq_of e3⟩, a, xs, xs[xs.length - 1]'(by have := List.length_pos_iff.mpr hx; omega), rfl, rfl, e3, List.getElem?_eq_getElem _, ?_⟩
        obtain ⟨s2, R2⟩ := R.chg (o := .lst xs.dropLast) (d1 := .lst l.dropLast) e1 ea ⟨_, upd_same, e4.dropLast⟩
        exact h σ G _ s2 R2
end
end DF

/-! enumerate over a tuple -/
namespace DF
open PySem PySem.Spec PyProof.Rows L2
abbrev enO (a : Addr) : Obj := { cls := .type "enumerate", data := .fields #[.none, .bool false, .ref a, rawInt 0, .none, .none] }
set_option maxHeartbeats 1000000 in
theorem enum_new1 {u : Value} {ob : Obj} {HH : Heap → Prop} (BB : Begins u ob HH) : Meets (Builtin.«enumerate.__new__» ⟨[.type "enumerate", u], []⟩) (fun _ R s => HH s.heap ∧ R (.ok (.ret (.ref (s.heap.push ob).objs.size))) { s with heap := (s.heap.push ob).push (enO s.heap.objs.size) }) :=
  .of_wp fun pg wl A R s hyp => by
    obtain ⟨hp0, g0, d0, tk0, os0⟩ := s
    obtain ⟨hb, hyp⟩ := hyp
    have hsb := sub_enumerate
    have qq : ∀ {A' : Around} {EE : Value → Shared → Prop} {QQ : Value → Shared → Prop}, QQ (.ref hp0.objs.size) ⟨hp0.push ob, g0, d0, tk0, os0⟩ → wpAny (model pg wl) A' (pyIter u) QQ EE ⟨hp0, g0, d0, tk0, os0⟩ :=
      fun q => BB.iter pg wl _ _ ⟨hp0, g0, d0, tk0, os0⟩ _ hb q
    wp_walk using qq
    refine wpAny_stack_any fun st => wpAny_pure ?_
    split
    · rename_i c _ _ _ _ _
      cases (c == Value.type "enumerate")
      · wp_walk using qq
        exact ⟨_, rfl, hyp⟩
      · wp_walk using qq
        exact ⟨_, rfl, hyp⟩
    · wp_walk using qq
      exact ⟨_, rfl, hyp⟩
theorem enum_call1 {prog : Program} {w : World} {A : Around} {E : Value → Shared → Prop} {s : Shared} {u : Value} {ob : Obj} {HH : Heap → Prop} {Q : Value → Shared → Prop} (BB : Begins u ob HH) (h1 : HH s.heap)
    (h : ∀ h', IsEnum h' (s.heap.objs.size + 1) s.heap.objs.size 0 .none → h'.get? s.heap.objs.size = some ob → (∀ b o, s.heap.get? b = some o → h'.get? b = some o) → Q (.ref (s.heap.objs.size + 1)) { s with heap := h' }) :
    wpAny (model prog w) A (call (.type "enumerate") [u]) Q E s := by
  refine callType_new F.called_enumerate (by decide) (F.typeCall_enumerate_1 _) (F.newCall_enumerate_1 _) (fun obj => F.args_object_init_2 obj _) F.entry_enumerate_new (enum_new1 BB) ⟨h1, ?_⟩
  have sz : (s.heap.push ob).objs.size = s.heap.objs.size + 1 := Heap.size_push ..
  show _ ∧ _
  rw [sz]
  have he : IsEnum ((s.heap.push ob).push (enO s.heap.objs.size)) (s.heap.objs.size + 1) s.heap.objs.size 0 .none := by
    have q := Heap.get?_push_size (s.heap.push ob) (o := enO s.heap.objs.size) rfl
    rw [sz] at q
    exact q
  exact ⟨⟨_, he, rfl⟩, h _ he (Heap.get?_push_of_some _ (Heap.get?_push_size _ BB.free)) fun b o x => Heap.get?_push_of_some _ (Heap.get?_push_of_some _ x)⟩
/-- the tuple at a, each item in a new pair -/
def Itp (K : PySem.W.Frag) (a : Addr) (n : Nat) : It :=
  ⟨fun i H => ∃ (xs : List V) (x : V), SqT K H a xs ∧ xs.length = n ∧ xs[i]? = some x, fun i H v H' => ∃ T x, v = .ref T ∧ H T = none ∧ H' = upd H T (.tup [.int (i : Nat), x]) ∧ ∀ xs, SqT K H a xs → xs[i]? = some x, fun i H => ∃ xs : List V, SqT K H a xs ∧ xs.length = n ∧ n ≤ i⟩
theorem turn_enumT {P : Program} {w : World} {K : PySem.W.Frag} {elts : List Expr} {kk : Nat} {tpos : Pos} (a e it : Addr) (n : Nat) :
    Turn P w K (.Tuple elts kk tpos) (Itp K a n) [e, it] e (fun i h => (∃ old, IsEnum h e it ((i : Nat) : Int) old) ∧ h.IsTupleIter it a i ∧ e ≠ it ∧ a ≠ it ∧ a ≠ e ∧ i ≤ n) where
  mem := List.mem_cons_self
  obj := fun i h st b hb => by
    obtain ⟨⟨old, he⟩, ⟨o, ho, hc, hd⟩, _⟩ := st
    rcases List.mem_cons.mp hb with z | z
    · subst z; exact ⟨_, he, fun v q => nomatch q⟩
    · have z := List.mem_singleton.mp z
      subst z; exact ⟨o, ho, fun v q => by rw [hd] at q; cases q⟩
  keep := fun i h h' st k => by
    obtain ⟨⟨old, he⟩, hi, hne⟩ := st
    exact ⟨⟨old, k e (by simp) _ he⟩, hi.at fun o q => k it (by simp) o q, hne⟩
  item := by
    intro X eP eW eK hc i pins s σ H E I hf st hg
    subst eP eW eK
    obtain ⟨⟨old, he⟩, hit, hne, hai, hae, hin⟩ := st
    obtain ⟨xs, x, hq, hxn, hx⟩ := hg
    obtain ⟨its, rv, p, hz⟩ := I.tuple hq
    have hlt : i < its.toArray.size := by
      rw [List.size_toArray, ← rv.length]
      exact (List.getElem?_eq_some_iff.mp hx).1
    have hel : e < s.heap.objs.size := Heap.lt_size he
    have hil : it < s.heap.objs.size := by obtain ⟨_, q, _⟩ := hit; exact Heap.lt_size q
    refine wpAny_pyNext_enum_itemD (Draws.tuple (prog := X.prog) (w := X.w) (A := X.A.in1) (show X.A.in1.handled = none from I.ok.hd hc) it a hai its.toArray) he ⟨hit, p⟩ hlt hne (by simp; exact ⟨hne, fun z => hae z.symm⟩) fun u h' tk hu ho hs' hT hsz hk => ?_
    have ru : RelV x u := by
      obtain ⟨u', hu', ru⟩ := rv.get hx
      have : its.toArray[i]? = some u' := by simpa using hu'
      rw [hu] at this
      cases this
      exact ru
    refine ⟨_, rfl, wpAny_letOwnedTupleGo_enum (s := { s with heap := h', toks := tk + 1 }) ho fun h'' he' sb => ?_⟩
    have hT2 : h''.get? s.heap.objs.size = some { cls := .type "tuple", data := .seq #[.int i tk, u] } := (sb.2 _ (Nat.ne_of_gt hel)).trans hT
    have nw : ObjOk X.prog X.w (upd H s.heap.objs.size (.tup [.int (i : Nat), x])) h'' s.heap.objs.size (.tup [.int (i : Nat), x]) :=
      ⟨show 2 ≤ sizeLine by decide, [.int i tk, u], .cons ⟨_, rfl⟩ (.cons ru .nil), ⟨_, hT2, rfl, _, rfl⟩⟩
    have I1 : Inv X pins σ (upd H s.heap.objs.size (.tup [.int (i : Nat), x])) { s with heap := h'', toks := tk + 1 } :=
      I.turnedNew (t' := tk + 1) (ch := [e, it]) (fun b ob nb q => (sb.2 b fun z => nb (by simp [z])).trans (hk b ob (fun z => nb (by simp [z])) (fun z => nb (by simp [z])) q)) hf (Nat.le_refl _) nw
    refine ⟨.ref s.heap.objs.size, _, I1, rfl, ⟨_, x, rfl, I.hok.fresh (Nat.le_refl _), rfl, fun ys hy => ?_⟩, ⟨⟨u, ?_⟩, hs'.1.at fun o q => (sb.2 it hne.symm).trans q, hne, hai, hae, by rw [← hxn]; exact (List.getElem?_eq_some_iff.mp hx).1⟩, fun b hb => ?_⟩
    · have z : ys = xs := I.tuple_inj hy hq
      rw [z]; exact hx
    · rw [show ((i + 1 : Nat) : Int) = (i : Int) + 1 by omega]; exact he'
    · have lb : b < s.heap.objs.size := by
        rcases List.mem_cons.mp hb with z | z
        · rw [z]; exact hel
        · rw [List.mem_singleton.mp z]; exact hil
      rw [upd_ne (Nat.ne_of_lt lb)]
      exact (hf b hb).1
  done := by
    intro X eP eW eK hc i pins s σ H E I hf st hg
    subst eP eW eK
    obtain ⟨⟨old, he⟩, hit, hne, hai, hae, hin⟩ := st
    obtain ⟨xs, hq, hxn, hx⟩ := hg
    obtain ⟨its, rv, p, hz⟩ := I.tuple hq
    obtain ⟨f0, f1, f2, f3, f4, f5⟩ := hf it (by simp)
    have ei : i = its.toArray.size := by rw [List.size_toArray, ← rv.length]; omega
    subst ei
    exact wpAny_pyNext_enum_endD (Draws.tuple (prog := X.prog) (w := X.w) (A := X.A.in1) (show X.A.in1.handled = none from I.ok.hd hc) it a hai its.toArray) he ⟨hit, p⟩ fun h' eb => ⟨rfl, I.turned (t' := s.toks) (fun b o hb q => eb b o hb q) f0 f1 f3 f4 f5⟩
  self := fun A i s Q E st h => by
    obtain ⟨⟨_, he⟩, _⟩ := st
    exact wpAny_pyIter_enum he h
def iEnumT (K : PySem.W.Frag) (ta : TA) : TI := fun σ H R => ta σ H fun vs H1 => ∃ a xs, vs = [.ref a] ∧ SqT K H1 a xs ∧ R (Itp K a xs.length) H1
theorem pi_enumT {X : Cx} {e : Expr} {ta : TA} {p pos tpos : Pos} {elts : List Expr} {kk : Nat} (hg : Gl X "enumerate") (hm : X.mg "enumerate" = none) (ha : PA X [e] ta) (hs : starEach [e] X.env = [(false, eval e X.env)] := by rfl) :
    PI X (.Tuple elts kk tpos) (.Call (.Name "enumerate" p) [e] [] pos) (iEnumT X.K ta) := by
  refine ⟨fun pins s σ H R I hyp => ?_⟩
  refine Call_ (ld_blt I hg hm boot_enumerate (PyProof.Rows.callWith_type1 (thn (ha.run pos pins s σ H _ I hyp) fun us s1 ⟨vs, H1, I1, r1, qq⟩ => ?_) hs rfl))
  obtain ⟨a, xs, ex, hq, q⟩ := qq
  subst ex
  cases r1 with
  | cons r rr =>
    cases rr
    cases r
    obtain ⟨its, rv, pt, hz⟩ := I1.tuple hq
    refine enum_call1 (begins_tuple a its.toArray) pt fun h' he hit hk => wpAny_pyIter_enum he ?_
    have I2 : Inv X pins σ H1 { s1 with heap := h' } := I1.kept (t' := s1.toks) hk
    have la : a < s1.heap.objs.size := by obtain ⟨_, z, _⟩ := pt; exact Heap.lt_size z
    refine ⟨s1.heap.objs.size + 1, [s1.heap.objs.size + 1, s1.heap.objs.size], _, _, H1, rfl, I2, turn_enumT a (s1.heap.objs.size + 1) s1.heap.objs.size xs.length, ⟨⟨.none, he⟩, ⟨_, hit, rfl, rfl⟩, Nat.succ_ne_self _, Nat.ne_of_lt la, Nat.ne_of_lt (Nat.lt_succ_of_lt la), Nat.zero_le _⟩, fun b hb => ?_, q⟩
    have lb : s1.heap.objs.size ≤ b := by
      rcases List.mem_cons.mp hb with z | z
      · rw [z]; exact Nat.le_succ _
      · rw [List.mem_singleton.mp z]; exact Nat.le_refl _
    exact I1.fpOk lb (I1.hok.fresh lb)
/-! ### enumerate over data -/
def enD : Nat → List D → List D
  | _, [] => []
  | i, x :: r => .tup [.int (i : Nat), x] :: enD (i + 1) r
theorem enD_length : ∀ (i : Nat) (l : List D), (enD i l).length = l.length
  | _, [] => rfl
  | i, x :: r => congrArg (· + 1) (enD_length (i + 1) r)
theorem enD_get : ∀ (k : Nat) (l : List D) (i : Nat) (d : D), (enD k l)[i]? = some d → ∃ x, l[i]? = some x ∧ d = .tup [.int ((k + i : Nat) : Int), x]
  | _, [], _, _, e => by simp [enD] at e
  | k, x :: r, 0, d, e => by
    simp [enD] at e
    exact ⟨x, rfl, e.symm⟩
  | k, x :: r, i + 1, d, e => by
    obtain ⟨y, h1, h2⟩ := enD_get (k + 1) r i d (by simpa [enD] using e)
    exact ⟨y, by simpa using h1, by rw [h2, show k + 1 + i = k + (i + 1) by omega]⟩
theorem enum_yield {K : PySem.W.Frag} {G H H' : Hp} {T : Addr} {i : Nat} {d : D} {x : V} (eS : Evl.Ex G H) (hT : H T = none) (e : H' = upd H T (.tup [.int (i : Nat), x])) (hx : Is K G d x) : ∃ G', New G H G' H' ∧ Is K G' (.tup [.int (i : Nat), d]) (.ref T) := by
  subst e
  have N : New G H (upd G T (.tup [.int (i : Nat), x])) (upd H T (.tup [.int (i : Nat), x])) := New.put eS hT
  exact ⟨_, N, .tup (Evl.st_of upd_same) (.cons (.int _) (.cons (hx.mono N.g) .nil))⟩
theorem ite_s {K : PySem.W.Frag} {G0 : Hp} {l : List D} {a : Addr} {xs : List V} (h : SqL K G0 a xs) (r : Iss K G0 l xs) : ItS K G0 (enD 0 l) (Ite K a) where
  go := fun i d G H e eG eH => by
    obtain ⟨y, h1, rfl⟩ := enD_get 0 l i d e
    obtain ⟨v, e1, e2⟩ := r.get h1
    have hL : SqL K H a xs := Evl.ex_l eH (Evl.ex_l eG h)
    refine ⟨⟨xs, v, hL, e1⟩, fun x H' ⟨T, z, ev, hT, eH', q⟩ => ?_⟩
    subst ev
    have q1 := q xs hL
    rw [e1] at q1; cases q1
    rw [Nat.zero_add]
    exact enum_yield eH hT eH' (e2.mono eG)
  stop := fun i G H e eG eH => ⟨xs, Evl.ex_l eH (Evl.ex_l eG h), by rw [← r.length]; rw [enD_length] at e; exact e⟩
theorem itp_s {K : PySem.W.Frag} {G0 : Hp} {l : List D} {a : Addr} {xs : List V} (h : SqT K G0 a xs) (r : Iss K G0 l xs) : ItS K G0 (enD 0 l) (Itp K a xs.length) where
  go := fun i d G H e eG eH => by
    obtain ⟨y, h1, rfl⟩ := enD_get 0 l i d e
    obtain ⟨v, e1, e2⟩ := r.get h1
    have hL : SqT K H a xs := Evl.ex_t eH (Evl.ex_t eG h)
    refine ⟨⟨xs, v, hL, rfl, e1⟩, fun x H' ⟨T, z, ev, hT, eH', q⟩ => ?_⟩
    subst ev
    have q1 := q xs hL
    rw [e1] at q1; cases q1
    rw [Nat.zero_add]
    exact enum_yield eH hT eH' (e2.mono eG)
  stop := fun i G H e eG eH => ⟨xs, Evl.ex_t eH (Evl.ex_t eG h), rfl, by rw [← r.length]; rw [enD_length] at e; exact e⟩
def sEnL (f : DEnv → R (List D)) : DEnv → R (List D) := fun ρ => (f ρ).bind fun l ρ' => match l with
  | [.lst m] => .ok ρ' (enD 0 m)
  | [.fro m] => .ok ρ' (enD 0 m)
  | _ => .no
def sEnT (f : DEnv → R (List D)) : DEnv → R (List D) := fun ρ => (f ρ).bind fun l ρ' => match l with
  | [.tup m] => .ok ρ' (enD 0 m)
  | _ => .no
section
variable {X : Cx} {W : WX} {e : Expr} {p pos tpos : Pos} {elts : List Expr} {kk : Nat} {f : DEnv → R (List D)}
theorem di_enL (hg : Gl X "enumerate") (hm : X.mg "enumerate" = none) (ha : DVs X W [e] f) (hs : starEach [e] X.env = [(false, eval e X.env)] := by rfl) : DI X W (.Tuple elts kk tpos) (.Call (.Name "enumerate" p) [e] [] pos) (sEnL f) :=
  pi_imp (pi_enum hg hm ha hs) fun σ H Q ⟨ρ, G, R, h⟩ => ⟨ρ, G, R, (Go.bind R h).imp fun l ρ' G' H' s R' h vs hv => by
    split at h
    · cases hv with
      | cons h1 h2 =>
        cases h2
        cases h1 with
        | lst q1 q2 => exact ⟨_, _, rfl, Evl.sq_of (R'.sub _ _ q1), h G' H' .refl R' _ (ite_s (Evl.sq_of q1) q2)⟩
    · cases hv with
      | cons h1 h2 =>
        cases h2
        cases h1 with
        | fro q1 q2 => exact ⟨_, _, rfl, Evl.ex_l R'.sub q1, h G' H' .refl R' _ (ite_s q1 q2)⟩
    · exact False.elim h⟩
theorem di_enT (hg : Gl X "enumerate") (hm : X.mg "enumerate" = none) (ha : DVs X W [e] f) (hs : starEach [e] X.env = [(false, eval e X.env)] := by rfl) : DI X W (.Tuple elts kk tpos) (.Call (.Name "enumerate" p) [e] [] pos) (sEnT f) :=
  pi_imp (pi_enumT hg hm ha hs) fun σ H Q ⟨ρ, G, R, h⟩ => ⟨ρ, G, R, (Go.bind R h).imp fun l ρ' G' H' s R' h vs hv => by
    split at h
    · cases hv with
      | cons h1 h2 =>
        cases h2
        cases h1 with
        | tup q1 q2 => exact ⟨_, _, rfl, Evl.ex_t R'.sub q1, h G' H' .refl R' _ (itp_s q1 q2)⟩
    · exact False.elim h⟩
end
end DF

namespace DF
open PySem PySem.Spec PyProof.Rows L2
/-! ### reversed(range(n)) -/
def sRevR (f : DEnv → R D) : DEnv → R (List D) := fun ρ => (f ρ).bind fun d ρ' => match d with
  | .int j => if inR j = true then .ok ρ' (rng 0 j.toNat).reverse else .no
  | _ => .no
theorem itc_s {K : PySem.W.Frag} {G0 : Hp} {j : Int} : ItS K G0 (rng 0 j.toNat).reverse (Itc (0 + (((j - 0).toNat : Nat) : Int) - 1) (-1) (j - 0).toNat) where
  go := fun i d G H e eG eH => by
    have hi : i < (rng 0 j.toNat).reverse.length := (List.getElem?_eq_some_iff.mp e).1
    have hlen : (rng 0 j.toNat).length = j.toNat := by unfold rng; rw [List.length_map, List.length_range]
    rw [List.length_reverse, hlen] at hi
    rw [List.getElem?_reverse (by rw [hlen]; exact hi), hlen] at e
    unfold rng at e
    rw [List.getElem?_map, List.getElem?_range (by omega)] at e
    cases e
    refine ⟨show i < (j - 0).toNat by rw [Int.sub_zero]; exact hi, fun x H' ⟨z, y⟩ => ?_⟩
    subst z y
    refine ⟨G, New.refl eH, ?_⟩
    have : (0 : Int) + ((j.toNat - 1 - i : Nat) : Int) = 0 + (((j - 0).toNat : Nat) : Int) - 1 + (i : Int) * -1 := by
      rw [Int.sub_zero]; omega
    show Is K G (.int (0 + ((j.toNat - 1 - i : Nat) : Int))) _
    rw [this]
    exact .int _
  stop := fun i G H e _ _ => by
    rw [List.length_reverse] at e
    unfold rng at e
    rw [List.length_map, List.length_range] at e
    show (j - 0).toNat ≤ i
    rw [Int.sub_zero]
    exact e
theorem di_revR {X : Cx} {W : WX} {tg a : Expr} {p p2 pos pos2 : Pos} {f : DEnv → R D} (hg : Gl X "reversed") (hm : X.mg "reversed" = none) (hg2 : Gl X "range") (hm2 : X.mg "range" = none) (ha : DE X W a f)
    (na : starEach [a] X.env = (false, eval a X.env) :: starEach [] X.env := by rfl)
    (hs : starEach [.Call (.Name "range" p2) [a] [] pos2] X.env = (false, eval (.Call (.Name "range" p2) [a] [] pos2) X.env) :: starEach [] X.env := by rfl) :
    DI X W tg (.Call (.Name "reversed" p) [.Call (.Name "range" p2) [a] [] pos2] [] pos) (sRevR f) :=
  pi_imp (pi_revR hg hm (prg_1 hg2 hm2 ha na) hs) fun σ H Q ⟨ρ, G, R, h⟩ => ⟨ρ, G, R, (Go.bind R h).imp fun d ρ' G' H' s R' h v hv => by
    split at h
    · rename_i j
      cases hv
      split at h
      · rename_i hj
        exact ⟨j, rfl, by decide, by decide, (inR_of hj).1, (inR_of hj).2, h G' H' .refl R' _ itc_s⟩
      · exact False.elim h
    · exact False.elim h⟩
/-! ### x[a:b], a and b reckoned -/
def tP (K : PySem.W.Frag) (W : WX) (f : DEnv → R (Option Int)) : TO := fun σ H Q => ∃ ρ G, Rep K G H ρ σ ∧ Go K W σ ρ G H (fun o _ _ H' => Q o H') (f ρ)
abbrev DP (X : Cx) (W : WX) (e : Option Expr) (f : DEnv → R (Option Int)) : Prop := PO X e (tP X.K W f)
theorem po_imp {X : Cx} {e : Option Expr} {t t' : TO} (h : PO X e t) (i : ∀ σ H Q, t' σ H Q → t σ H Q) : PO X e t' := ⟨fun pins s σ H Q I q => h.run pins s σ H Q I (i σ H Q q)⟩
def pNo : DEnv → R (Option Int) := fun ρ => .ok ρ none
def pInt (f : DEnv → R D) : DEnv → R (Option Int) := fun ρ => (f ρ).bind fun d ρ' => match d with
  | .int i => .ok ρ' (some i)
  | _ => .no
section
variable {X : Cx} {W : WX} {e : Expr} {elo ehi : Option Expr} {p2 pos : Pos}
theorem dp_no : DP X W none pNo := po_imp po_none fun σ H Q ⟨ρ, G, R, h⟩ => h G H .refl R
theorem dp_int {f : DEnv → R D} (h : DE X W e f) : DP X W (some e) (pInt f) := po_imp (po_some h) fun σ H Q ⟨ρ, G, R, h⟩ => ⟨ρ, G, R, (Go.bind R h).imp fun d ρ' G' H' s R' h v hv => by
  split at h
  · cases hv
    exact ⟨_, rfl, h G' H' .refl R'⟩
  · exact False.elim h⟩
def slO (d : D) (lo hi : Option Int) : Option D := match d with
  | .lst l => some (.lst (cutD l lo hi))
  | .fro l => some (.lst (cutD l lo hi))
  | .tup l => some (.tup (cutD l lo hi))
  | _ => none
def dSl (f : DEnv → R Th) (fl fu : DEnv → R (Option Int)) : DEnv → R D := fun ρ => (f ρ).bind fun t ρ1 => (fl ρ1).bind fun lo ρ2 => (fu ρ2).bind fun hi ρ3 => match t ρ3 with
  | none => .no
  | some d => ofO ρ3 (slO d lo hi)
theorem cut_whole {α : Type} {l : List α} {lo hi : Option Int} (h : HT.sIx l.length 0 lo = 0 ∧ HT.sIx l.length l.length hi = l.length) : (l.drop (HT.sIx l.length 0 lo)).take (HT.sIx l.length l.length hi - HT.sIx l.length 0 lo) = l := by
  rw [h.1, h.2, List.drop_zero, Nat.sub_zero, List.take_length]
theorem de_sl {f : DEnv → R Th} {fl fu : DEnv → R (Option Int)} (h : DO X W e f) (hl : DP X W elo fl) (hu : DP X W ehi fu) : DE X W (.Subscript e (.Slice elo ehi none p2) pos) (dSl f fl fu) :=
  pe_imp (pe_slice (sl_list.or sl_tupA) h hl hu) fun σ H Q ⟨ρ, G, R, h⟩ => ⟨ρ, G, R, (Go.bind R h).imp fun t ρ1 G1 H1 s1 R1 h1 v hv => ⟨ρ1, G1, R1, (Go.bind R1 h1).imp fun lo ρ2 G2 H2 s2 R2 h2 => ⟨ρ2, G2, R2, (Go.bind R2 h2).imp fun hi ρ3 G3 H3 s3 R3 h3 => by
    split at h3
    · exact False.elim h3
    · rename_i d e1
      have ht := hv ρ3 G3 H3 d (s2.trans R1 s3) R3 e1
      have lst : ∀ {l : List D} {a : Addr} {xs : List V}, SqL X.K H3 a xs → Iss X.K G3 l xs → slO d lo hi = some (.lst (cutD l lo hi)) → v = .ref a → (rSlL X.K v lo hi H3 Q ∨ rSlA X.K v lo hi H3 Q) := fun {l a xs} q1 q2 q3 q4 => by
        rw [q3] at h3
        refine .inl ⟨a, xs, q4, q1, fun p hp => ?_⟩
        have N : New G3 H3 (upd G3 p (.lst (cutV xs lo hi))) (upd H3 p (.lst (cutV xs lo hi))) := New.put R3.sub hp
        exact h3 _ _ (N.stp R3) (N.rep R3) _ (.lst upd_same ((cut_iss q2).mono N.g))
      cases d with
      | lst l =>
        obtain ⟨a, xs, q0, q1, q2⟩ := ht
        exact lst (Evl.sq_of q1) q2 rfl q0
      | fro l =>
        cases ht with
        | fro q1 q2 => exact lst (Evl.ex_l R3.sub q1) q2 rfl rfl
      | tup l =>
        cases ht with
        | @tup l a xs q1 q2 =>
          refine .inr ⟨a, xs, rfl, Evl.ex_t R3.sub q1, fun z => ?_, fun z p hp => ?_⟩
          · have hz : cutD l lo hi = l := by
              unfold cutD
              rw [q2.length]
              rw [← q2.length] at z
              rw [← q2.length]
              exact cut_whole z
            have h4 : Go X.K W σ ρ3 G3 H3 (fun d _ G' H' => ∀ v, Is X.K G' d v → Q v H') (DF.R.ok ρ3 (D.tup (cutD l lo hi))) := h3
            rw [hz] at h4
            exact h4 G3 H3 .refl R3 _ (.tup q1 q2)
          · have N : New G3 H3 (upd G3 p (.tup (cutV xs lo hi))) (upd H3 p (.tup (cutV xs lo hi))) := New.put R3.sub hp
            exact h3 _ _ (N.stp R3) (N.rep R3) _ (.tup (Evl.st_of upd_same) ((cut_iss q2).mono N.g))
      | _ => exact False.elim h3⟩⟩⟩
end
end DF

namespace DF
open PySem PySem.Spec PyProof.Rows L2
/-! ### any(xs), all(xs) of whole numbers -/
theorem ints_plain : ∀ ns : List Int, PyData.plainAll (ns.map PyData.int) = true
  | [] => rfl
  | n :: r => by
    show (PyData.plain (.int n) && PyData.plainAll (r.map PyData.int)) = true
    rw [ints_plain r]
    rfl
theorem ints_dp {K : PySem.W.Frag} {H : Hp} : ∀ ns : List Int, DpAll K H (ns.map V.int) (ns.map PyData.int)
  | [] => .nil
  | n :: r => .cons (.int n) (ints_dp r)
def rAnyI (K : PySem.W.Frag) : List V → Hp → VK → Prop := fun vs H Q => ∃ (a : Addr) (ns : List Int), vs = [V.ref a] ∧ SqL K H a (ns.map V.int) ∧ Q (.bl (ns.any fun i => i != 0)) H
theorem call_anyI {X : Cx} (hc : X.calm = true) : CallR X (.builtin "any") (rAnyI X.K) := by
  intro pins s σ H vs us Q I r hyp
  obtain ⟨a, ns, ev, hq, q⟩ := hyp
  subst ev
  obtain ⟨its, rv, pl, _⟩ := I.list hq
  rw [Vals.ref1 r]
  obtain ⟨as, rd⟩ := Dp.readsAll I _ _ _ (ints_dp ns) rv
  refine PySem.W.any_list_data (vs := its.toArray) (I.ok.hd hc) pl.isList (by simpa using rd) (ints_plain ns) (fun x hx => by
    obtain ⟨i, _, rfl⟩ := List.mem_map.mp hx
    exact trivial) fun h' tk hk => ⟨.bl _, H, I.kept (t' := tk) hk, ?_, q⟩
  show Value.bool _ = Value.bool _
  rw [List.any_map]
  rfl
def anyID (xs : List D) : Option D := match xs with
  | [d] => match listOf d with
    | some l => (intsD l).map fun ns => .bl (ns.any fun i => i != 0)
    | none => none
  | _ => none
theorem cas_anyI {K : PySem.W.Frag} : CaS K (rAnyI K) anyID := fun xs z vs G H Q eS hx e k => by
  unfold anyID at e
  split at e
  · rename_i d
    split at e
    · rename_i l e1
      obtain ⟨v, rfl, h⟩ := tops1 hx
      obtain ⟨a, ys, rfl, h1, h2⟩ := listOf_top eS h e1
      cases q : intsD l with
      | none => rw [q] at e; cases e
      | some ns =>
        rw [q] at e; cases e
        rw [intsD_of q] at h2
        exact ⟨a, ns, rfl, by rw [← h2.ints]; exact h1, k _ G H (New.refl eS) (.bl _)⟩
    · cases e
  · cases e
/-- the first of two readings that has a word -/
def orC (g g' : List D → Option D) (xs : List D) : Option D := match g xs with
  | some z => some z
  | none => g' xs
theorem cas_or {K : PySem.W.Frag} {r r' : List V → Hp → VK → Prop} {g g' : List D → Option D} (h : CaS K r g) (h' : CaS K r' g') : CaS K (fun xs H Q => r xs H Q ∨ r' xs H Q) (orC g g') := fun xs z vs G H Q eS hx e k => by
  unfold orC at e
  cases q : g xs with
  | some w =>
    rw [q] at e
    cases e
    exact .inl (h xs _ vs G H Q eS hx q k)
  | none =>
    rw [q] at e
    exact .inr (h' xs z vs G H Q eS hx e k)
def anyAD : List D → Option D := orC anyD anyID
end DF

/-! t[::-1], t a tuple -/
namespace DF
open PySem PySem.Spec PyProof.Rows L2
theorem rv_adj (n : Nat) : Builtin.Slice.sliceAdjust none none (-1) (n : Int) = ((n : Int) - 1, -1) := rfl
theorem rv_places (n : Nat) : Builtin.Slice.slicePlaces ((n : Int) - 1) (-1) (-1) = n := by
  unfold Builtin.Slice.slicePlaces
  rw [if_neg (by decide)]
  by_cases h : n = 0
  · subst h; rfl
  · rw [if_pos (by omega)]
    show (((n : Int) - 1 - -1 - 1) / 1 + 1).toNat = n
    rw [Int.ediv_one]
    omega
theorem fmap_cong {α β : Type} {f g : α → Option β} : ∀ {l : List α}, (∀ a ∈ l, f a = g a) → l.filterMap f = l.filterMap g
  | [], _ => rfl
  | a :: l, h => by
    rw [List.filterMap_cons, List.filterMap_cons, h a List.mem_cons_self, fmap_cong fun b hb => h b (List.mem_cons_of_mem _ hb)]
theorem rv_pick (xs : List Value) : ((List.range xs.length).filterMap fun (m : Nat) => xs.toArray[(((xs.length : Int) - 1) + (m : Int) * -1).toNat]?).toArray = xs.reverse.toArray := by
  congr 1
  have e1 : (List.range xs.length).filterMap (fun (m : Nat) => xs.toArray[(((xs.length : Int) - 1) + (m : Int) * -1).toNat]?) = (List.range xs.length).filterMap fun m => xs.reverse[m]? := by
    refine fmap_cong fun m hm => ?_
    have hm := List.mem_range.mp hm
    rw [List.getElem?_reverse hm]
    have : (((xs.length : Int) - 1) + (m : Int) * -1).toNat = xs.length - 1 - m := by omega
    rw [this]
    simp
  rw [e1]
  have e2 : ∀ l : List Value, (List.range l.length).filterMap (fun m => l[m]?) = l := by
    intro l
    induction l with
    | nil => rfl
    | cons a r ih =>
      rw [List.length_cons, List.range_succ_eq_map, List.filterMap_cons]
      simp only [List.getElem?_cons_zero, List.filterMap_map]
      congr 1
  have := e2 xs.reverse
  rw [List.length_reverse] at this
  exact this
section
variable {prog : Program} {w : World} {A : Around} {E : Value → Shared → Prop} {s : Shared}
theorem rv_applied {sl : Addr} {vk : Value} {n : Nat} {Q : Int × Int × Nat → Shared → Prop} (hsl : s.heap.IsSliceOf sl .none .none vk) (pk : IsPart vk (some (-1))) (hyp : Q ((n : Int) - 1, -1, n) s) :
    wpAny (model prog w) A (Builtin.Slice.sliceApplied (.ref sl) (pure (n : Int))) Q E s := by
  obtain ⟨ob, hob, hcb, hdb⟩ := id hsl
  unfold Builtin.Slice.sliceApplied Builtin.Slice.sliceFields
  refine wpAny_bind (wpAny_bind (wpAny_field hob hdb (x := .none) rfl (wpAny_bind (wpAny_field hob hdb (x := .none) rfl (wpAny_bind (wpAny_field hob hdb (x := vk) rfl (wpAny_pure ?_)))))))
  refine wpAny_bind (HT.slicePart_ pk ?_)
  show wpAny _ _ (if ((-1 : Int) == 0) = true then _ else _) _ _ s
  rw [if_neg (by decide)]
  refine wpAny_bind (HT.slicePart_ .none (wpAny_bind (HT.slicePart_ .none (wpAny_bind (wpAny_pure ?_)))))
  show wpAny _ _ (match Builtin.Slice.sliceAdjust none none (-1) (n : Int) with | (lo, hi) => pure (lo, (-1 : Int), Builtin.Slice.slicePlaces lo hi (-1))) _ _ s
  rw [rv_adj n]
  show wpAny _ _ (pure ((n : Int) - 1, (-1 : Int), Builtin.Slice.slicePlaces ((n : Int) - 1) (-1) (-1))) _ _ s
  rw [rv_places]
  exact wpAny_pure hyp
theorem rv_get {t sl : Addr} {xs : List Value} {vk : Value} {Q : Value → Shared → Prop} (htp : IsTup s.heap t xs.toArray) (hsl : s.heap.IsSliceOf sl .none .none vk) (pk : IsPart vk (some (-1)))
    (hyp : Q (.ref s.heap.objs.size) { s with heap := s.heap.push { cls := .type "tuple", data := .seq xs.reverse.toArray } }) (hz : xs.length ≤ sizeLine) : wpAny (model prog w) A (getItem (.ref t) (.ref sl)) Q E s := by
  have hok : sizeOk (.seq xs.reverse.toArray) := by
    show xs.reverse.toArray.size ≤ sizeLine
    rw [List.size_toArray, List.length_reverse]
    exact hz
  obtain ⟨ob, hob, hcb, hdb⟩ := id hsl
  have hty : s.TypeIs (.ref sl) "slice" := ⟨ob, hob, hcb⟩
  unfold getItem
  try with_reducible refine wpAny_holding ?_
  first | refine wpAny_bind (wpAny_pure ?_) | skip
  refine wpAny_bind (wpAny_sequenceKey htp.typeIs (by decide) (wpAny_bind (wpAny_callSpecial?_slot (name := Str.ofString "__getitem__") htp.typeIs PyProof.Rows.slot_tuple_getitem
    (wpAny_call_entry PyProof.Rows.slot_tuple_getitem htp.typeIs entry_tuple_getitem ?_ (args_tuple_getitem _ _)))))
  show wpAny _ _ (Builtin.Tuple.tupleItemsOf (.ref t) >>= _) _ _ s
  refine wpAny_bind (tupleItemsOf_ htp (wpAny_bind (wpAny_typeOf hty ?_)))
  rw [if_pos (by decide)]
  refine wpAny_bind (rv_applied (n := xs.toArray.size) hsl pk ?_)
  have hno : ¬ ((((xs.toArray.size : Nat) : Int) - 1 == 0 && (-1 : Int) == 1 && xs.toArray.size == xs.toArray.size) = true) := by
    intro q
    rw [Bool.and_eq_true, Bool.and_eq_true] at q
    exact absurd q.1.2 (by decide)
  show wpAny _ _ (if (((xs.toArray.size : Nat) : Int) - 1 == 0 && (-1 : Int) == 1 && xs.toArray.size == xs.toArray.size) = true then _ else _) _ _ s
  rw [if_neg hno, List.size_toArray, rv_pick]
  first
    | exact wpAny_bind (m := Builtin.Tuple.tupleExact _) (wpAny_newObj_type (wpAny_pure ⟨_, rfl, wpAny_pure hyp⟩) hok)
    | exact wpAny_bind (m := Builtin.Tuple.tupleExact _) (wpAny_newObj_type (wpAny_bind (wpAny_pure (wpAny_pure ⟨_, rfl, wpAny_pure hyp⟩))) hok)
    | exact wpAny_bind (wpAny_bind (m := Builtin.Tuple.tupleExact _) (wpAny_newObj_type (wpAny_pure (wpAny_pure ⟨_, rfl, wpAny_pure hyp⟩)) hok))
    | exact wpAny_bind (wpAny_bind (m := Builtin.Tuple.tupleExact _) (wpAny_newObj_type (wpAny_pure ⟨_, rfl, wpAny_pure hyp⟩) hok))
end
def tRevT (K : PySem.W.Frag) (te : TE) : TE := fun σ H Q => te σ H fun x H1 => ∃ a xs, x = .ref a ∧ SqT K H1 a xs ∧ ∀ p, H1 p = none → Q (.ref p) (upd H1 p (.tup xs.reverse))
theorem pe_revT {X : Cx} {e : Expr} {te : TE} {k : Nat} {p1 p2 p3 pos : Pos} (he : PE X e te) : PE X (.Subscript e (.Slice none none (some (.UnaryOp .USub (.Constant (.int 1) k p1) p2)) p3) pos) (tRevT X.K te) := by
  refine ⟨fun pins s σ H Q I hyp => Subscript_ (thn (he.run pins s σ H _ I hyp) fun v s1 ⟨x, H1, I1, r1, q1⟩ => ?_)⟩
  obtain ⟨a, xs, ev, hx, q⟩ := q1
  subst ev
  cases r1
  have hneg : PO X (some (.UnaryOp .USub (.Constant (.int 1) k p1) p2)) (tPart (tUn (rU fun i => .int (-i)) (tC (.int 1)))) := po_some (pe_un un_neg pe_int)
  refine wpAny_Slice (thn (po_none.run pins s1 σ H1 (fun o J => o = none ∧ J = H1) I1 ⟨rfl, rfl⟩) fun vl s2 ⟨l, J2, I2, pl, el, e2⟩ => thn (po_none.run pins s2 σ J2 (fun o J => o = none ∧ J = J2) I2 ⟨rfl, rfl⟩) fun vu s3 ⟨u, J3, I3, pu, eu, e3⟩ =>
    thn (hneg.run pins s3 σ J3 (fun o J => o = some (-1) ∧ J = J3) I3 ⟨1, rfl, -1, rfl, rfl, rfl⟩) fun vs s4 ⟨o, J4, I4, ps, eo, e4⟩ => ?_)
  subst el e2 eu e3 eo e4
  cases pl
  cases pu
  have I5 : Inv X pins σ J4 { s4 with heap := s4.heap.push { cls := .type "slice", data := .fields #[.none, .none, vs] } } := I4.kept (t' := s4.toks) fun b ob z => Heap.get?_push_of_some _ z
  obtain ⟨its, r, ht, hz⟩ := I5.tuple hx
  show wpAny (model X.prog X.w) X.A (subscriptTail e (.Slice none none (some (.UnaryOp .USub (.Constant (.int 1) k p1) p2)) p3) (.ref a) (.ref s4.heap.objs.size)) _ X.xe _
  refine tail_any (ops := [.ref a, .ref s4.heap.objs.size]) ht.typeIs PyProof.Rows.slot_tuple_getitem.lookup (rv_get ht (Heap.IsSliceOf.new _ .none .none vs) ps ?_ (by rw [← r.length]; exact hz)) (by with_unfolding_all rfl)
  refine ⟨.ref _, _, I5.laid (t' := s4.toks) (o := .tup xs.reverse) (fun b ob z => Heap.get?_push_of_some _ z) (Nat.le_refl _) ?_, rfl, q _ (I5.hok.fresh (Nat.le_refl _))⟩
  exact ⟨by rw [List.length_reverse]; exact hz, _, r.reverse, IsTup.new _ _⟩
def revTD (d : D) : Option D := match d with
  | .tup l => some (.tup l.reverse)
  | _ => none
theorem de_revT {X : Cx} {W : WX} {e : Expr} {k : Nat} {p1 p2 p3 pos : Pos} {f : DEnv → R Th} (ha : DO X W e f) : DE X W (.Subscript e (.Slice none none (some (.UnaryOp .USub (.Constant (.int 1) k p1) p2)) p3) pos) (dUn revTD f) :=
  pe_imp (pe_revT ha) fun σ H Q ⟨ρ, G, R, h⟩ => ⟨ρ, G, R, (Go.bind R h).imp fun t ρ' G' H' s R' h v hv => by
    split at h
    · rename_i d e1
      have ht := hv ρ' G' H' d .refl R' e1
      cases d with
      | tup l =>
        cases ht with
        | @tup l a xs q1 q2 =>
          refine ⟨a, xs, rfl, Evl.ex_t R'.sub q1, fun p hp => ?_⟩
          have N : New G' H' (upd G' p (.tup xs.reverse)) (upd H' p (.tup xs.reverse)) := New.put R'.sub hp
          exact h _ _ (N.stp R') (N.rep R') _ (.tup (Evl.st_of upd_same) (q2.reverse.mono N.g))
      | _ => exact False.elim h
    · exact False.elim h⟩
end DF

/-! a, b = x, y where some of these are lists or dicts just made -/
namespace DF
open PySem PySem.Spec PyProof.Rows L2
abbrev FreshAt (K : PySem.W.Frag) (σ : Sl) (ρ : DEnv) (G H H0 : Hp) (a : Addr) (d : D) : Prop := G a = none ∧ ¬ Mu false ρ σ a ∧ ¬ Mu true ρ σ a ∧ H0 a = none ∧ Cont K G H a d
inductive XAll (K : PySem.W.Frag) (σ : Sl) (ρ : DEnv) (G H H0 : Hp) : List (Bool × D) → List V → List Addr → Prop
  | nil : XAll K σ ρ G H H0 [] [] []
  | val {d : D} {v : V} {l : List (Bool × D)} {vs : List V} {as : List Addr} : Is K G d v → XAll K σ ρ G H H0 l vs as → XAll K σ ρ G H H0 ((false, d) :: l) (v :: vs) as
  | fr {d : D} {a : Addr} {l : List (Bool × D)} {vs : List V} {as : List Addr} : FreshAt K σ ρ G H H0 a d → a ∉ as → XAll K σ ρ G H H0 l vs as → XAll K σ ρ G H H0 ((true, d) :: l) (.ref a :: vs) (a :: as)
theorem XAll.base {K : PySem.W.Frag} {σ : Sl} {ρ : DEnv} {G H H0 H1 : Hp} (t : ∀ b, H1 b = none → H0 b = none) : ∀ {l : List (Bool × D)} {vs : List V} {as : List Addr}, XAll K σ ρ G H H1 l vs as → XAll K σ ρ G H H0 l vs as
  | _, _, _, .nil => .nil
  | _, _, _, .val h r => .val h (XAll.base t r)
  | _, _, _, .fr h n r => .fr ⟨h.1, h.2.1, h.2.2.1, t _ h.2.2.2.1, h.2.2.2.2⟩ n (XAll.base t r)
theorem XAll.none {K : PySem.W.Frag} {σ : Sl} {ρ : DEnv} {G H H0 : Hp} : ∀ {l : List (Bool × D)} {vs : List V} {as : List Addr}, XAll K σ ρ G H H0 l vs as → ∀ a ∈ as, H0 a = none
  | _, _, _, .nil, a, m => by cases m
  | _, _, _, .val h r, a, m => XAll.none r a m
  | _, _, _, .fr h n r, a, m => by
    rcases List.mem_cons.mp m with z | z
    · rw [z]; exact h.2.2.2.1
    · exact XAll.none r a z
theorem FreshAt.later {K : PySem.W.Frag} {σ : Sl} {ρ ρ1 : DEnv} {G H H0 G1 H1 : Hp} {a : Addr} {d : D} (h : FreshAt K σ ρ G H H0 a d) (s : Stp ρ σ G H ρ1 σ G1 H1) : FreshAt K σ ρ1 G1 H1 H0 a d := by
  obtain ⟨h0, h1, h2, h3, h4⟩ := h
  obtain ⟨o, ho⟩ := h4.there
  refine ⟨?_, fun m => ?_, fun m => h2 (s.io_back m), h3, h4.mono s.g fun o q => s.h a o h1 h2 q⟩
  · cases q : G1 a with
    | none => rfl
    | some u =>
      rcases s.n a h0 (by rw [q]; exact fun z => by cases z) with z | z
      · rw [z] at ho; cases ho
      · exact absurd z h1
  · rcases s.ow a m with z | z
    · exact h1 z
    · rw [z] at ho; cases ho
def tXs (K : PySem.W.Frag) (W : WX) (f : DEnv → R (List (Bool × D))) : TA := fun σ H Q => ∃ ρ G, Rep K G H ρ σ ∧ Go K W σ ρ G H (fun l ρ' G' H' => ∀ vs as, XAll K σ ρ' G' H' H l vs as → Q vs H') (f ρ)
abbrev DXs (X : Cx) (W : WX) (es : List Expr) (f : DEnv → R (List (Bool × D))) : Prop := PA X es (tXs X.K W f)
def xNil : DEnv → R (List (Bool × D)) := fun ρ => .ok ρ []
def xVal (f : DEnv → R D) (g : DEnv → R (List (Bool × D))) : DEnv → R (List (Bool × D)) := fun ρ => (f ρ).bind fun d ρ1 => (g ρ1).bind fun l ρ2 => .ok ρ2 ((false, d) :: l)
def xFr (f : DEnv → R D) (g : DEnv → R (List (Bool × D))) : DEnv → R (List (Bool × D)) := fun ρ => (f ρ).bind fun d ρ1 => (g ρ1).bind fun l ρ2 => .ok ρ2 ((true, d) :: l)
section
variable {X : Cx} {W : WX} {e : Expr} {es : List Expr} {f : DEnv → R D} {g : DEnv → R (List (Bool × D))}
theorem xs_nil : DXs X W [] xNil := pa_imp pa_nil fun σ H Q ⟨ρ, G, R, h⟩ => h G H .refl R [] [] .nil
theorem xs_val (h1 : DE X W e f) (h2 : DXs X W es g) (hs : starEach (e :: es) X.env = (false, eval e X.env) :: starEach es X.env := by rfl) : DXs X W (e :: es) (xVal f g) :=
  pa_imp (pa_cons h1 h2 hs) fun σ H Q ⟨ρ, G, R, h⟩ => ⟨ρ, G, R, by
    unfold xVal at h
    cases e1 : f ρ with
    | no => rw [e1] at h; exact h
    | ex ρ' ee => rw [e1] at h; exact h
    | ok ρ1 d =>
      rw [e1] at h
      intro G1 H1 s1 R1 v hv
      have h1 := Go.shift R s1 (show Go X.K W σ ρ G H _ ((g ρ1).bind fun l ρ2 => DF.R.ok ρ2 ((false, d) :: l)) from h)
      refine ⟨ρ1, G1, R1, ?_⟩
      cases e2 : g ρ1 with
      | no => rw [e2] at h1; exact h1
      | ex ρ' ee => rw [e2] at h1; exact h1
      | ok ρ2 l =>
        rw [e2] at h1
        intro G2 H2 s2 R2 vs as hx
        exact h1 G2 H2 s2 R2 (v :: vs) as (.val (hv.mono s2.g) (hx.base s1.t))⟩
theorem xs_fr (h1 : DF' X W e f) (h2 : DXs X W es g) (hs : starEach (e :: es) X.env = (false, eval e X.env) :: starEach es X.env := by rfl) : DXs X W (e :: es) (xFr f g) :=
  pa_imp (pa_cons h1 h2 hs) fun σ H Q ⟨ρ, G, R, h⟩ => ⟨ρ, G, R, by
    unfold xFr at h
    cases e1 : f ρ with
    | no => rw [e1] at h; exact h
    | ex ρ' ee => rw [e1] at h; exact h
    | ok ρ1 d =>
      rw [e1] at h
      intro G1 H1 s1 R1 a q0 q1 q2 q3 q4
      have h1 := Go.shift R s1 (show Go X.K W σ ρ G H _ ((g ρ1).bind fun l ρ2 => DF.R.ok ρ2 ((true, d) :: l)) from h)
      refine ⟨ρ1, G1, R1, ?_⟩
      cases e2 : g ρ1 with
      | no => rw [e2] at h1; exact h1
      | ex ρ' ee => rw [e2] at h1; exact h1
      | ok ρ2 l =>
        rw [e2] at h1
        intro G2 H2 s2 R2 vs as hx
        have F1 : FreshAt X.K σ ρ1 G1 H1 H a d := ⟨q0, q1, q2, q3, q4⟩
        refine h1 G2 H2 s2 R2 (.ref a :: vs) (a :: as) (.fr (F1.later s2) (fun m => ?_) (hx.base s1.t))
        obtain ⟨o, ho⟩ := q4.there
        rw [hx.none a m] at ho
        cases ho⟩
end
/-- the slots are filled one after another -/
def putA : List Nat → List (Bool × D) → DEnv → Option DEnv
  | [], [], ρ => some ρ
  | i :: is, (false, d) :: l, ρ => match setV i d ρ with
    | none => none
    | some ρ1 => putA is l ρ1
  | i :: is, (true, d) :: l, ρ => match setF i d ρ with
    | none => none
    | some ρ1 => putA is l ρ1
  | _, _, _ => none
def putS : List Nat → List V → Sl → Sl
  | i :: is, v :: vs, σ => putS is vs (σ.set i (some v))
  | _, _, σ => σ
theorem mu_setF {ρ ρ1 : DEnv} {σ : Sl} {i : Nat} {d : D} {a b : Addr} {k : Bool} (e : setF i d ρ = some ρ1) (hl : i < σ.length) (m : Mu k ρ1 (σ.set i (some (.ref a))) b) : b = a ∨ Mu k ρ σ b := by
  unfold setF at e
  split at e
  · cases e
    obtain ⟨j, d', q1, q2⟩ := m
    rcases set_get q1 with ⟨z, y⟩ | ⟨n, y⟩
    · subst z
      rw [List.getElem?_set_self hl] at q2
      cases q2
      exact .inl rfl
    · rw [List.getElem?_set_ne n] at q2
      exact .inr ⟨j, d', y, q2⟩
  · cases e
theorem mu_setV {ρ ρ1 : DEnv} {σ : Sl} {i : Nat} {d : D} {v : V} {b : Addr} {k : Bool} (e : setV i d ρ = some ρ1) (m : Mu k ρ1 (σ.set i (some v)) b) : Mu k ρ σ b := by
  unfold setV at e
  split at e
  · cases e
    obtain ⟨j, d', q1, q2⟩ := m
    rcases set_get q1 with ⟨z, y⟩ | ⟨n, y⟩
    · cases y
    · rw [List.getElem?_set_ne n] at q2
      exact ⟨j, d', y, q2⟩
  · cases e
theorem XAll.sets {K : PySem.W.Frag} {σ σ' : Sl} {ρ ρ' : DEnv} {G H H0 : Hp} : ∀ {l : List (Bool × D)} {vs : List V} {as : List Addr}, XAll K σ ρ G H H0 l vs as → (∀ a ∈ as, ∀ k, Mu k ρ' σ' a → Mu k ρ σ a) → XAll K σ' ρ' G H H0 l vs as
  | _, _, _, .nil, _ => .nil
  | _, _, _, .val h r, q => .val h (XAll.sets r q)
  | _, _, _, .fr h n r, q => .fr ⟨h.1, fun m => h.2.1 (q _ List.mem_cons_self _ m), fun m => h.2.2.1 (q _ List.mem_cons_self _ m), h.2.2.2⟩ n (XAll.sets r fun a m => q a (List.mem_cons_of_mem _ m))
theorem putA_ok {K : PySem.W.Frag} {ρ0 : DEnv} {σ0 : Sl} {G0 H0 G H : Hp} : ∀ {is : List Nat} {l : List (Bool × D)} {vs : List V} {as : List Addr} {ρ ρ2 : DEnv} {σ : Sl}, XAll K σ ρ G H H0 l vs as → Rep K G H ρ σ → Stp ρ0 σ0 G0 H0 ρ σ G H → putA is l ρ = some ρ2 →
    Rep K G H ρ2 (putS is vs σ) ∧ Stp ρ0 σ0 G0 H0 ρ2 (putS is vs σ) G H
  | [], [], [], _, ρ, ρ2, σ, _, R, s, e => by cases e; exact ⟨R, s⟩
  | i :: is, (false, d) :: l, _, as, ρ, ρ2, σ, .val (v := v) (vs := vs) h r, R, s, e => by
    have e : (match setV i d ρ with
      | none => none
      | some ρ1 => putA is l ρ1) = some ρ2 := e
    cases e1 : setV i d ρ with
    | none => rw [e1] at e; cases e
    | some ρ1 =>
      rw [e1] at e
      have hs := Stp.setV (v := v) R e1
      have R1 := R.setV e1 h
      have r1 : XAll K (σ.set i (some v)) ρ1 G H H0 l vs as := XAll.sets r fun a m k => mu_setV e1
      have s1 : Stp ρ0 σ0 G0 H0 ρ1 (σ.set i (some v)) G H := by
        refine ⟨s.g, s.h, s.t, s.n, fun b m => s.ow b (mu_setV e1 m), fun j => ⟨fun d' q => ?_, fun d' q => ?_⟩⟩
        · obtain ⟨d1, f1, f2⟩ := (s.io j).1 d' q
          obtain ⟨d2, f3, f4⟩ := (hs.io j).1 d1 f1
          exact ⟨d2, f3, f4.trans f2⟩
        · obtain ⟨d1, f1⟩ := (hs.io j).2 d' q
          exact (s.io j).2 d1 f1
      have e : putA is l ρ1 = some ρ2 := e
      have z := putA_ok r1 R1 s1 e
      exact z
  | i :: is, (true, d) :: l, _, _, ρ, ρ2, σ, .fr (a := a) (vs := vs) (as := as) h n r, R, s, e => by
    have e : (match setF i d ρ with
      | none => none
      | some ρ1 => putA is l ρ1) = some ρ2 := e
    cases e1 : setF i d ρ with
    | none => rw [e1] at e; cases e
    | some ρ1 =>
      rw [e1] at e
      have hl : i < σ.length := by
        rw [← R.len]
        unfold setF at e1
        split at e1
        · rename_i hf; exact free_lt hf
        · cases e1
      have s1 := s.setF R e1 h.2.2.2.1
      have R1 := R.setF e1 h.1 h.2.1 h.2.2.1 h.2.2.2.2
      have r1 : XAll K (σ.set i (some (.ref a))) ρ1 G H H0 l vs as := XAll.sets r fun b m k q => (mu_setF e1 hl q).resolve_left fun z => n (by rw [← z]; exact m)
      have e : putA is l ρ1 = some ρ2 := e
      have z := putA_ok r1 R1 s1 e
      exact z
  | [], _ :: _, _, _, _, _, _, _, _, _, e => by unfold putA at e; cases e
def dParX (is : List Nat) (f : DEnv → R (List (Bool × D))) : DEnv → SR := fun ρ => match f ρ with
  | .no => .no
  | .ex ρ' e => .ex ρ' e
  | .ok ρ' l => match putA is l ρ' with
    | none => .no
    | some ρ2 => .nx ρ2
theorem tparX {K : PySem.W.Frag} {W : WX} {is : List Nat} {f : DEnv → R (List (Bool × D))} {ts : TS} {ta : TA} (hs : ∀ E σ H, ta σ H (fun vs H1 => E.nx (putS is vs σ) H1 ∧ vs.length = is.length) → ts E σ H) (ha : ∀ σ H Q, tXs K W f σ H Q → ta σ H Q) : ∀ E σ H, tS K W (dParX is f) E σ H → ts E σ H := fun E σ H ⟨ρ, G, R, h⟩ => hs E σ H (ha σ H _ ⟨ρ, G, R, by
  unfold dParX at h
  cases e1 : f ρ with
  | no => rw [e1] at h; exact h
  | ex ρ' e => rw [e1] at h; exact fun G' H' d s R' hd => h d σ G' H' s R' hd
  | ok ρ' l =>
    rw [e1] at h
    intro G' H' s R' vs as hx
    have h : GoS K W σ ρ G H E (match putA is l ρ' with
      | none => SR.no
      | some ρ2 => SR.nx ρ2) := h
    cases e2 : putA is l ρ' with
    | none => rw [e2] at h; exact False.elim h
    | some ρ2 =>
      rw [e2] at h
      obtain ⟨R2, s2⟩ := putA_ok hx R' s e2
      refine ⟨h _ G' H' s2 R2, ?_⟩
      have len : ∀ {is : List Nat} {l : List (Bool × D)} {vs : List V} {as : List Addr} {ρ ρ2 : DEnv}, XAll K σ ρ' G' H' H l vs as → putA is l ρ = some ρ2 → vs.length = is.length := by
        intro is l
        induction l generalizing is with
        | nil =>
          intro vs as ρ ρ2 hx e
          cases hx
          cases is with
          | nil => rfl
          | cons _ _ => unfold putA at e; cases e
        | cons p l ih =>
          intro vs as ρ ρ2 hx e
          cases is with
          | nil => unfold putA at e; cases e
          | cons i is =>
            obtain ⟨b, d⟩ := p
            cases hx with
            | val h r =>
              unfold putA at e
              split at e
              · cases e
              · exact congrArg (· + 1) (ih r e)
            | fr h n r =>
              unfold putA at e
              split at e
              · cases e
              · exact congrArg (· + 1) (ih r e)
      exact len hx e2⟩)
section
variable {X : Cx} {W : WX} {i j l : Nat} {x y z : Str} {a b c : Expr} {f : DEnv → R (List (Bool × D))} {px py pz pt pos : Pos} {kt k2 pt2}
theorem ds_parX (hc : X.calm = true) (hN : X.N.Nodup) (hi : X.N[i]? = some x) (hj : X.N[j]? = some y) (hij : i ≠ j)
    (hx : X.env.scope.names.lookup x = some .local) (hy : X.env.scope.names.lookup y = some .local) (ha : DXs X W [a, b] f)
    (hw : swappedStores [.Tuple [.Name x px, .Name y py] kt pt] (.Tuple [a, b] k2 pt2) X.env = pure (some [x, y]))
    (hs : swapsWithSole [.Tuple [.Name x px, .Name y py] kt pt] (.Tuple [a, b] k2 pt2) pos.line X.env = pure false := by rfl) :
    DS X W (.Assign [.Tuple [.Name x px, .Name y py] kt pt] (.Tuple [a, b] k2 pt2) pos) (dParX [i, j] f) :=
  ps_imp (ps_par hc hN hi hj hij hx hy ha hw hs) (tparX (ta := tXs X.K W f) (fun E σ H ⟨ρ, G, R, h⟩ => ⟨ρ, G, R, h.imp fun l ρ' G' H' s R' q vs as hx => by
    obtain ⟨q1, q2⟩ := q vs as hx
    match vs, q2 with
    | [v, w], _ => exact ⟨v, w, rfl, q1⟩⟩) fun _ _ _ q => q)
theorem ds_parX3 (hc : X.calm = true) (hN : X.N.Nodup) (hi : X.N[i]? = some x) (hj : X.N[j]? = some y) (hl : X.N[l]? = some z) (hij : i ≠ j) (hil : i ≠ l) (hjl : j ≠ l)
    (hx : X.env.scope.names.lookup x = some .local) (hy : X.env.scope.names.lookup y = some .local) (hz : X.env.scope.names.lookup z = some .local) (ha : DXs X W [a, b, c] f)
    (hw : swappedStores [.Tuple [.Name x px, .Name y py, .Name z pz] kt pt] (.Tuple [a, b, c] k2 pt2) X.env = pure (some [x, y, z]))
    (hs : swapsWithSole [.Tuple [.Name x px, .Name y py, .Name z pz] kt pt] (.Tuple [a, b, c] k2 pt2) pos.line X.env = pure false := by rfl) :
    DS X W (.Assign [.Tuple [.Name x px, .Name y py, .Name z pz] kt pt] (.Tuple [a, b, c] k2 pt2) pos) (dParX [i, j, l] f) :=
  ps_imp (ps_par3 hc hN hi hj hl hij hil hjl hx hy hz ha hw hs) (tparX (ta := tXs X.K W f) (fun E σ H ⟨ρ, G, R, h⟩ => ⟨ρ, G, R, h.imp fun l ρ' G' H' s R' q vs as hx => by
    obtain ⟨q1, q2⟩ := q vs as hx
    match vs, q2 with
    | [v, w, u], _ => exact ⟨v, w, u, rfl, q1⟩⟩) fun _ _ _ q => q)
end
end DF

namespace DF
open PySem PySem.Spec PyProof.Rows L2
/-- a new list by a test -/
theorem df_ifExp {X : Cx} {W : WX} {a b c : Expr} {pos : Pos} {ta : DEnv → R Bool} {fa fb : DEnv → R D} (hc : DT X W c ta) (ha : DF' X W a fa) (hb : DF' X W b fb) : DF' X W (.IfExp c a b pos) (dIte ta fa fb) :=
  pe_imp (pe_ifExp hc ha hb) fun σ H Q ⟨ρ, G, R, h⟩ => ⟨ρ, G, R, by
    unfold dIte at h
    cases e1 : ta ρ with
    | no => rw [e1] at h; exact h
    | ex ρ' ee => rw [e1] at h; exact h
    | ok ρ1 k =>
      rw [e1] at h
      intro G1 H1 s1 R1
      cases k with
      | true =>
        rw [if_pos rfl]
        exact ⟨ρ1, G1, R1, (Go.shift R s1 (show Go X.K W σ ρ G H _ (fa ρ1) from h)).imp fun d ρ' G' H' s R' h a q0 q1 q2 q3 q4 => h a q0 q1 q2 (s1.t a q3) q4⟩
      | false =>
        rw [if_neg (by decide)]
        exact ⟨ρ1, G1, R1, (Go.shift R s1 (show Go X.K W σ ρ G H _ (fb ρ1) from h)).imp fun d ρ' G' H' s R' h a q0 q1 q2 q3 q4 => h a q0 q1 q2 (s1.t a q3) q4⟩⟩
end DF

namespace DF
open PySem PySem.Spec PyProof.Rows L2
/-- what an operation makes anew -/
def OpF (K : PySem.W.Frag) (r : R2) (g : D → D → Option D) : Prop := ∀ (x y z : D) (v u : V) (G H : Hp) (Q : VK), Evl.Ex G H → Top K G H x v → Top K G H y u → g x y = some z →
  (∀ p l vs, z = .lst l → H p = none → Iss K G l vs → Q (.ref p) (upd H p (.lst vs))) → r v u H Q
theorem opf_cat {K : PySem.W.Frag} : OpF K rCat catL := fun x y z v u G H Q eS hx hy e k => by
  unfold catL at e
  split at e
  · obtain ⟨a, xs, rfl, h1, h2⟩ := hx
    obtain ⟨b, ys, rfl, h3, h4⟩ := hy
    split at e
    · rename_i hl
      cases e
      exact ⟨a, b, xs, ys, rfl, rfl, h1, h3, by rw [← h2.length, ← h4.length, sizeLine_eq]; omega, fun p hp => k p _ _ rfl hp (h2.append h4)⟩
    · cases e
  · cases e
theorem opf_rep {K : PySem.W.Frag} : OpF K rRep repL := fun x y z v u G H Q eS hx hy e k => by
  unfold repL at e
  split at e
  · rename_i l n
    obtain ⟨a, xs, rfl, h1, h2⟩ := hx
    cases hy
    split at e
    · rename_i hl
      cases e
      exact ⟨a, n, xs, rfl, rfl, h1, by omega, by omega, by rw [← h2.length, sizeLine_eq]; omega, fun p hp => k p _ _ rfl hp (h2.rep _)⟩
    · cases e
  · cases e
theorem df_op {X : Cx} {W : WX} {a b : Expr} {op : Operator} {pos : Pos} {r : R2} {g : D → D → Option D} {fa fb : DEnv → R Th} (ho : OpR X (binaryOp op) r) (hs : OpF X.K r g) (hg : ∀ x y z, g x y = some z → ∃ l, z = .lst l) (ha : DO X W a fa) (hb : DO X W b fb) : DF' X W (.BinOp a op b pos) (dBin g fa fb) :=
  pe_imp (pe_op ho ha hb) fun σ H Q ⟨ρ, G, R, h⟩ => ⟨ρ, G, R, by
    unfold dBin at h
    cases e1 : fa ρ with
    | no => rw [e1] at h; exact h
    | ex ρ' ee => rw [e1] at h; exact h
    | ok ρ1 ta =>
      rw [e1] at h
      intro G1 H1 s1 R1 v hv
      refine ⟨ρ1, G1, R1, ?_⟩
      have h : Go X.K W σ ρ G H _ ((fb ρ1).bind fun tb ρ2 => match ta ρ2, tb ρ2 with
        | some x, some y => ofO ρ2 (g x y)
        | _, _ => .no) := h
      cases e2 : fb ρ1 with
      | no => rw [e2] at h; exact h
      | ex ρ' ee => rw [e2] at h; exact fun G2 H2 d s2 R2 => h G2 H2 d (s1.trans R s2) R2
      | ok ρ2 tb =>
        rw [e2] at h
        intro G2 H2 s2 R2 u hu
        have h : Go X.K W σ ρ G H _ (match ta ρ2, tb ρ2 with
          | some x, some y => ofO ρ2 (g x y)
          | _, _ => .no) := h
        split at h
        · rename_i x y ex ey
          cases e : g x y with
          | none => rw [e] at h; exact False.elim h
          | some z =>
            rw [e] at h
            obtain ⟨l, rfl⟩ := hg x y z e
            refine hs x y _ v u G2 H2 Q R2.sub (hv ρ2 G2 H2 x s2 R2 ex) (hu ρ2 G2 H2 y .refl R2 ey) e fun p l' vs ez hp hvs => ?_
            cases ez
            exact fresh_lst R (s1.trans R s2) R2 (fun G' H' s R q1 q2 q3 q4 q5 q6 => h G' H' s R q1 q2 q3 q4 q5 q6) hvs p hp
        · exact False.elim h⟩
theorem catL_lst (x y z : D) (e : catL x y = some z) : ∃ l, z = .lst l := by
  unfold catL at e
  split at e
  · split at e
    · cases e; exact ⟨_, rfl⟩
    · cases e
  · cases e
theorem repL_lst (x y z : D) (e : repL x y = some z) : ∃ l, z = .lst l := by
  unfold repL at e
  split at e
  · split at e
    · cases e; exact ⟨_, rfl⟩
    · cases e
  · cases e
end DF

namespace DF
open PySem PySem.Spec PyProof.Rows L2
def rngC (lo c : Int) (n : Nat) : List D := (List.range n).map fun (k : Nat) => D.int (lo + (k : Int) * c)
theorem itcC_s {K : PySem.W.Frag} {G0 : Hp} {lo c : Int} {n : Nat} : ItS K G0 (rngC lo c n) (Itc lo c n) where
  go := fun i d G H e eG eH => by
    unfold rngC at e
    rw [List.getElem?_map] at e
    by_cases h : i < n
    · rw [List.getElem?_range h] at e
      cases e
      refine ⟨h, fun x H' ⟨z, y⟩ => ?_⟩
      subst z y
      exact ⟨G, New.refl eH, .int _⟩
    · rw [List.getElem?_eq_none (by rw [List.length_range]; omega)] at e
      cases e
  stop := fun i G H e _ _ => by
    unfold rngC at e
    rw [List.length_map, List.length_range] at e
    exact e
def okC (i j c : Int) : Bool := decide (c ≠ 0) && decide (c.natAbs < 1073741824) && Builtin.Range.small i j c && decide (Builtin.Range.rangeSize i j c = ((Builtin.Range.rangeSize i j c).toNat : Int))
def sRng3 (f : DEnv → R (List D)) : DEnv → R (List D) := fun ρ => (f ρ).bind fun l ρ' => match l with
  | [.int i, .int j, .int c] => if okC i j c = true then .ok ρ' (rngC i c (Builtin.Range.rangeSize i j c).toNat) else .no
  | _ => .no
theorem okC_of {i j c : Int} (h : okC i j c = true) : RgC i j c (Builtin.Range.rangeSize i j c).toNat := by
  unfold okC at h
  simp only [Bool.and_eq_true, decide_eq_true_eq] at h
  exact ⟨h.1.1.1, h.1.1.2, h.1.2, h.2⟩
section
variable {X : Cx} {W : WX} {tg : Expr} {p pos : Pos}
theorem di_rng3 {a b c : Expr} {f : DEnv → R (List D)} (hg : Gl X "range") (hm : X.mg "range" = none) (ha : DVs X W [a, b, c] f)
    (hs : starEach [a, b, c] X.env = (false, eval a X.env) :: starEach [b, c] X.env := by rfl) (hpl : (backTo pos (starEach [b, c] X.env)).any (·.1) = false := by rfl) :
    DI X W tg (.Call (.Name "range" p) [a, b, c] [] pos) (sRng3 f) :=
  pi_imp (pi_range3 hg hm ha hs hpl) fun σ H Q ⟨ρ, G, R, h⟩ => ⟨ρ, G, R, (Go.bind R h).imp fun l ρ' G' H' s R' h vs hv => by
    split at h
    · rename_i i j c
      cases hv with
      | cons h1 h2 =>
        cases h2 with
        | cons h3 h4 =>
          cases h4 with
          | cons h5 h6 =>
            cases h1; cases h3; cases h5; cases h6
            split at h
            · rename_i hi
              exact ⟨i, j, c, _, rfl, okC_of hi, h G' H' .refl R' _ itcC_s⟩
            · exact False.elim h
    · exact False.elim h⟩
theorem sRng3_ap (f : DEnv → R (List D)) (ρ : DEnv) : sRng3 f ρ = (f ρ).bind fun l ρ' => match l with
  | [.int i, .int j, .int c] => if okC i j c = true then .ok ρ' (rngC i c (Builtin.Range.rangeSize i j c).toNat) else .no
  | _ => .no := rfl
end
end DF

/-! dicts -/
namespace DF
open PySem PySem.Spec PyProof.Rows L2
def valD (l : List (Key × D)) (k : Key) : Option D := (l.find? fun p => decide (p.1 = k)).map (·.2)
def insD (l : List (Key × D)) (k : Key) (d : D) : List (Key × D) :=
  if (l.any fun p => decide (p.1 = k)) = true then l.map (fun p => if p.1 = k then (p.1, d) else p) else l ++ [(k, d)]
def keyOf : D → Option Key
  | .int i => some (.inl i)
  | .str x => some (.inr x)
  | _ => none
def keyD : Key → D
  | .inl i => .int i
  | .inr x => .str x
theorem keyOf_is {K : PySem.W.Frag} {G : Hp} {d : D} {v : V} {k : Key} (h : Is K G d v) (e : keyOf d = some k) : v = kV k := by
  cases d with
  | int i => cases h; cases e; rfl
  | str x => cases h; cases e; rfl
  | _ => cases e
theorem keyOf_top {K : PySem.W.Frag} {G H : Hp} {d : D} {v : V} {k : Key} (h : Top K G H d v) (e : keyOf d = some k) : v = kV k := by
  cases d with
  | int i => cases h; cases e; rfl
  | str x => cases h; cases e; rfl
  | _ => cases e
theorem keyD_is {K : PySem.W.Frag} {G : Hp} (k : Key) : Is K G (keyD k) (kV k) := by
  cases k with
  | inl i => exact .int i
  | inr x => exact .str x
section
variable {K : PySem.W.Frag} {G : Hp}
theorem Isk.val : ∀ {l : List (Key × D)} {kvs : List (Key × V)}, Isk K G l kvs → ∀ k : Key, match valD l k with
    | some d => ∃ v, valV kvs k = some v ∧ Is K G d v
    | none => valV kvs k = none
  | _, _, .nil, k => rfl
  | _, _, @Isk.cons _ _ k0 d v l xs h r, k => by
    have ih := Isk.val r k
    by_cases e : k0 = k
    · have e1 : valD ((k0, d) :: l) k = some d := by simp [valD, List.find?_cons, e]
      rw [e1]
      exact ⟨v, valV_pos e, h⟩
    · have e1 : valD ((k0, d) :: l) k = valD l k := by simp [valD, List.find?_cons, e]
      rw [e1]
      have e2 : valV ((k0, v) :: xs) k = valV xs k := valV_neg e
      rw [e2]
      exact ih
theorem Isk.any : ∀ {l : List (Key × D)} {kvs : List (Key × V)}, Isk K G l kvs → ∀ k : Key, (l.any fun p => decide (p.1 = k)) = (kvs.any fun p => decide (p.1 = k))
  | _, _, .nil, k => rfl
  | _, _, .cons h r, k => by rw [List.any_cons, List.any_cons, Isk.any r k]
theorem Isk.repl {d : D} {v : V} (hd : Is K G d v) : ∀ {l : List (Key × D)} {kvs : List (Key × V)}, Isk K G l kvs → ∀ k : Key, Isk K G (l.map fun p => if p.1 = k then (p.1, d) else p) (kvs.map fun p => if p.1 = k then (p.1, v) else p)
  | _, _, .nil, k => .nil
  | _, _, @Isk.cons _ _ k0 d0 v0 l xs h r, k => by
    rw [List.map_cons, List.map_cons]
    by_cases e : k0 = k
    · rw [if_pos e, if_pos e]
      exact .cons hd (Isk.repl hd r k)
    · rw [if_neg e, if_neg e]
      exact .cons h (Isk.repl hd r k)
theorem Isk.append : ∀ {l m : List (Key × D)} {xs ys : List (Key × V)}, Isk K G l xs → Isk K G m ys → Isk K G (l ++ m) (xs ++ ys)
  | _, _, _, _, .nil, s => s
  | _, _, _, _, .cons h r, s => .cons h (Isk.append r s)
theorem Isk.put {d : D} {v : V} (hd : Is K G d v) {l : List (Key × D)} {kvs : List (Key × V)} (r : Isk K G l kvs) (k : Key) : Isk K G (insD l k d) (putK kvs k v) := by
  unfold insD putK
  rw [r.any k]
  split
  · exact r.repl hd k
  · exact r.append (.cons hd .nil)
theorem Isk.get : ∀ {l : List (Key × D)} {xs : List (Key × V)} {i : Nat} {k : Key} {d : D}, Isk K G l xs → l[i]? = some (k, d) → ∃ v, xs[i]? = some (k, v) ∧ Is K G d v
  | _, _, _, _, _, .nil, e => by simp at e
  | _, _, 0, _, _, .cons h _, e => by simp at e; obtain ⟨rfl, rfl⟩ := e; exact ⟨_, rfl, h⟩
  | _, _, i + 1, k, d, .cons _ r, e => by
    obtain ⟨v, h1, h2⟩ := Isk.get (i := i) (k := k) (d := d) r (by simpa using e)
    exact ⟨v, by simpa using h1, h2⟩
end
section
variable {X : Cx} {W : WX} {e o k f : Expr} {pos p1 p2 apos cpos : Pos}
/-! ### reading -/
def dGet2 (fo : DEnv → R Th) (fk fx : DEnv → R D) : DEnv → R D := fun ρ => (fo ρ).bind fun t ρ1 => match t ρ1 with
  | some (.dic _) => (fk ρ1).bind fun kd ρ2 => (fx ρ2).bind fun x ρ3 => match t ρ3, keyOf kd with
    | some (.dic l), some key => .ok ρ3 ((valD l key).getD x)
    | _, _ => .no
  | _ => .no
theorem de_get2 {fo : DEnv → R Th} {fk fx : DEnv → R D} (hu : X.A.units + 1 < cLine) (ho : DO X W o fo) (hk : DE X W k fk) (hx : DE X W f fx) (m : M2 X o "get" apos k f cpos) :
    DE X W (.Call (.Attribute o "get" apos) [k, f] [] cpos) (dGet2 fo fk fx) :=
  pe_imp (pe_dget2 hu ho hk hx m) fun σ H Q ⟨ρ, G, R, h⟩ => ⟨ρ, G, R, (Go.bind R h).imp fun t ρ1 G1 H1 s1 R1 h1 v hv => by
    split at h1
    · rename_i l0 e0
      obtain ⟨a, kvs0, rfl, q1, _⟩ := hv ρ1 G1 H1 _ .refl R1 e0
      refine ⟨a, rfl, .inl ⟨kvs0, q1⟩, ρ1, G1, R1, (Go.bind R1 h1).imp fun kd ρ2 G2 H2 s2 R2 h2 y hy => ⟨ρ2, G2, R2, (Go.bind R2 h2).imp fun x ρ3 G3 H3 s3 R3 h3 z hz => ?_⟩⟩
      split at h3
      · rename_i l key e1 e2
        obtain ⟨a', kvs, ea, q2, q3⟩ := hv ρ3 G3 H3 _ (s2.trans R1 s3) R3 e1
        cases ea
        have ey := keyOf_is hy e2
        subst ey
        refine ⟨valV kvs key, .inl ⟨kvs, key, q2, rfl, rfl⟩, ?_⟩
        have q := q3.val key
        cases ev : valD l key with
        | none =>
          rw [ev] at q h3
          rw [q]
          exact h3 G3 H3 .refl R3 z hz
        | some d =>
          rw [ev] at q h3
          obtain ⟨u, q4, q5⟩ := q
          rw [q4]
          exact h3 G3 H3 .refl R3 u q5
      · exact False.elim h3
    · exact False.elim h1⟩
def ixK (x y : D) : Option D := match x, keyOf y with
  | .dic l, some key => valD l key
  | _, _ => none
theorem de_ixK {fo fk : DEnv → R Th} (hu : X.A.units + 1 < cLine) (ho : DO X W o fo) (hk : DO X W k fk) (hs : NoSl k) : DE X W (.Subscript o k pos) (dBin ixK fo fk) :=
  pe_imp (pe_dget hu ho hk hs) fun σ H Q ⟨ρ, G, R, h⟩ => ⟨ρ, G, R, (Go.bind R h).imp fun ta ρ1 G1 H1 s1 R1 h1 v hv => ⟨ρ1, G1, R1, (Go.bind R1 h1).imp fun tb ρ2 G2 H2 s2 R2 h2 u hu => by
    split at h2
    · rename_i x y ex ey
      have hx := hv ρ2 G2 H2 x s2 R2 ex
      have hy := hu ρ2 G2 H2 y .refl R2 ey
      unfold ixK at h2
      split at h2
      · rename_i l key ek
        obtain ⟨a, kvs, rfl, q1, q2⟩ := hx
        have := keyOf_top hy ek
        subst this
        have q := q2.val key
        cases ev : valD l key with
        | none => rw [ev] at h2; exact False.elim h2
        | some d =>
          rw [ev] at q h2
          obtain ⟨w, q4, q5⟩ := q
          exact ⟨a, w, rfl, .inl ⟨kvs, key, q1, rfl, q4.symm⟩, h2 G2 H2 .refl R2 w q5⟩
      · exact False.elim h2
    · exact False.elim h2⟩⟩
def inK (x y : D) : Option D := match y, keyOf x with
  | .dic l, some key => some (.bl (valD l key).isSome)
  | _, _ => none
def ninK (x y : D) : Option D := match y, keyOf x with
  | .dic l, some key => some (.bl (!(valD l key).isSome))
  | _, _ => none
theorem isSome_of {K : PySem.W.Frag} {G : Hp} {l : List (Key × D)} {kvs : List (Key × V)} (r : Isk K G l kvs) (k : Key) : (valV kvs k).isSome = (valD l k).isSome := by
  have q := r.val k
  cases ev : valD l k with
  | none => rw [ev] at q; rw [q]; rfl
  | some d => rw [ev] at q; obtain ⟨u, q4, _⟩ := q; rw [q4]; rfl
theorem tin {fo fk : DEnv → R Th} : ∀ σ H Q, tD X.K W (dBin inK fk fo) σ H Q → tDIn (tO X.K W fk) (tO X.K W fo) σ H Q := fun σ H Q ⟨ρ, G, R, h⟩ => ⟨ρ, G, R, (Go.bind R h).imp fun ta ρ1 G1 H1 s1 R1 h1 v hv => ⟨ρ1, G1, R1, (Go.bind R1 h1).imp fun tb ρ2 G2 H2 s2 R2 h2 u hu => by
    split at h2
    · rename_i x y ex ey
      have hx := hv ρ2 G2 H2 x s2 R2 ex
      have hy := hu ρ2 G2 H2 y .refl R2 ey
      unfold inK at h2
      split at h2
      · rename_i l key ek
        obtain ⟨a, kvs, rfl, q1, q2⟩ := hy
        have := keyOf_top hx ek
        subst this
        refine ⟨a, valV kvs key, rfl, .inl ⟨kvs, key, q1, rfl, rfl⟩, h2 G2 H2 .refl R2 _ ?_⟩
        rw [isSome_of q2]
        exact .bl _
      · exact False.elim h2
    · exact False.elim h2⟩⟩
theorem tnin {fo fk : DEnv → R Th} : ∀ σ H Q, tD X.K W (dBin ninK fk fo) σ H Q → tDNotIn (tO X.K W fk) (tO X.K W fo) σ H Q := fun σ H Q ⟨ρ, G, R, h⟩ => ⟨ρ, G, R, (Go.bind R h).imp fun ta ρ1 G1 H1 s1 R1 h1 v hv => ⟨ρ1, G1, R1, (Go.bind R1 h1).imp fun tb ρ2 G2 H2 s2 R2 h2 u hu => by
    split at h2
    · rename_i x y ex ey
      have hx := hv ρ2 G2 H2 x s2 R2 ex
      have hy := hu ρ2 G2 H2 y .refl R2 ey
      unfold ninK at h2
      split at h2
      · rename_i l key ek
        obtain ⟨a, kvs, rfl, q1, q2⟩ := hy
        have := keyOf_top hx ek
        subst this
        refine ⟨a, valV kvs key, rfl, .inl ⟨kvs, key, q1, rfl, rfl⟩, h2 G2 H2 .refl R2 _ ?_⟩
        rw [isSome_of q2]
        exact .bl _
      · exact False.elim h2
    · exact False.elim h2⟩⟩
theorem de_in {fo fk : DEnv → R Th} (hu : X.A.units + 1 < cLine) (hk : DO X W k fk) (ho : DO X W o fo) (hm : behindInMarks .In o = false := by rfl) : DE X W (.Compare k [.In] [o] pos) (dBin inK fk fo) := pe_imp (pe_cmp (pc_din hu hk ho) hm) tin
theorem de_nin {fo fk : DEnv → R Th} (hu : X.A.units + 1 < cLine) (hk : DO X W k fk) (ho : DO X W o fo) (hm : behindInMarks .NotIn o = false := by rfl) : DE X W (.Compare k [.NotIn] [o] pos) (dBin ninK fk fo) := pe_imp (pe_cmp (pc_dnotin hu hk ho) hm) tnin
theorem dt_in {fo fk : DEnv → R Th} (hu : X.A.units + 1 < cLine) (hk : DO X W k fk) (ho : DO X W o fo) (hm : behindInMarks .In o = false := by rfl) : DT X W (.Compare k [.In] [o] pos) (dTst (dBin inK fk fo)) :=
  pt_imp (pt_cmp (pc_din hu hk ho) hm) fun σ H Q h => by
    obtain ⟨ρ, G, R, h⟩ := ttst σ H Q h
    exact tin σ H _ ⟨ρ, G, R, h⟩
theorem dt_nin {fo fk : DEnv → R Th} (hu : X.A.units + 1 < cLine) (hk : DO X W k fk) (ho : DO X W o fo) (hm : behindInMarks .NotIn o = false := by rfl) : DT X W (.Compare k [.NotIn] [o] pos) (dTst (dBin ninK fk fo)) :=
  pt_imp (pt_cmp (pc_dnotin hu hk ho) hm) fun σ H Q h => by
    obtain ⟨ρ, G, R, h⟩ := ttst σ H Q h
    exact tnin σ H _ ⟨ρ, G, R, h⟩
/-! ### x[k] = e -/
def muD (i : Nat) (ρ : DEnv) : Option (Bool × List (Key × D)) := match ρ[i]? with
  | some (some (.mu b (.dic l))) => some (b, l)
  | _ => none
theorem muD_of {ρ : DEnv} {i : Nat} {b : Bool} {l : List (Key × D)} (h : muD i ρ = some (b, l)) : ρ[i]? = some (some (.mu b (.dic l))) := by
  unfold muD at h
  split at h
  · rename_i b' l' e; cases h; exact e
  · cases h
def dSetK (i : Nat) (fk f : DEnv → R D) : DEnv → SR := fun ρ => (f ρ).bindS fun d ρ1 => match muD i ρ1 with
  | none => .no
  | some _ => (fk ρ1).bindS fun kd ρ2 => match muD i ρ2, keyOf kd with
    | some (b, l), some key => if l.length < 16000000 then .nx (ρ2.set i (some (.mu b (.dic (insD l key d))))) else .no
    | _, _ => .no
theorem ds_setk {i : Nat} {fk fe : DEnv → R D} (hu : X.A.units + 1 < cLine) (ho : PE X o (tVar i)) (hk : DE X W k fk) (he : DE X W e fe) (hs : swapsWith e (some (.Subscript o k p1)) pos.line X.env = pure false := by rfl) :
    DS X W (.Assign [.Subscript o k p1] e pos) (dSetK i fk fe) :=
  ps_imp (ps_dput hu ho hk he hs) fun E σ H ⟨ρ, G, R, h⟩ => ⟨ρ, G, R, (Go.bindS R h).imp fun d ρ1 G1 H1 s1 R1 h v hv => by
    split at h
    · exact False.elim h
    · rename_i q e1
      obtain ⟨b, l⟩ := q
      have e1 := muD_of e1
      obtain ⟨a, ea, e2, xs, e3, e4⟩ := R1.mu i b _ e1
      refine ⟨.ref a, ea, ρ1, G1, R1, (Go.bindS R1 h).imp fun kd ρ2 G2 H2 s2 R2 h y hy => ?_⟩
      split at h
      · rename_i b' l' key e5 e6
        have e5 := muD_of e5
        obtain ⟨a', ea', e7, ys, e8, e9⟩ := R2.mu i b' _ e5
        rw [ea] at ea'; cases ea'
        have := keyOf_is hy e6
        subst this
        split at h
        · rename_i hl
          refine ⟨a, _, rfl, .inl ⟨ys, key, e8, rfl, by rw [← e9.length, sizeLine_eq]; omega, rfl⟩, ?_⟩
          obtain ⟨s3, R3⟩ := R2.chg (o := .dK (putK ys key v)) (d1 := .dic (insD l' key d)) e5 ea ⟨_, upd_same, e9.put (hv.mono s2.g) key⟩
          exact h σ G2 _ s3 R3
        · exact False.elim h
      · exact False.elim h⟩
/-! ### what is walked -/
theorem itk_s {K : PySem.W.Frag} {G0 : Hp} {l : List (Key × D)} {d : Addr} {o : Obj} {kvs : List (Key × V)} (h : G0 d = some (.frz o (.dK kvs))) (r : Isk K G0 l kvs) : ItS K G0 (l.map fun p => keyD p.1) (Itk d o kvs) where
  go := fun i x G H e eG eH => by
    rw [List.getElem?_map] at e
    cases q : l[i]? with
    | none => rw [q] at e; cases e
    | some p =>
      rw [q] at e
      cases e
      obtain ⟨key, y⟩ := p
      obtain ⟨v, e1, e2⟩ := r.get q
      refine ⟨⟨eH _ _ (eG _ _ h), (List.getElem?_eq_some_iff.mp e1).1⟩, fun x H' ⟨z, k', v', q1, q2⟩ => ?_⟩
      subst z q2
      rw [e1] at q1; cases q1
      exact ⟨G, New.refl eH, keyD_is _⟩
  stop := fun i G H e eG eH => ⟨eH _ _ (eG _ _ h), by rw [← r.length]; rw [List.length_map] at e; exact e⟩
theorem itd_s {K : PySem.W.Frag} {G0 : Hp} {l : List (Key × D)} {d : Addr} {o : Obj} {kvs : List (Key × V)} (h : G0 d = some (.frz o (.dK kvs))) (r : Isk K G0 l kvs) : ItS K G0 (l.map fun p => p.2) (Itd d o kvs) where
  go := fun i x G H e eG eH => by
    rw [List.getElem?_map] at e
    cases q : l[i]? with
    | none => rw [q] at e; cases e
    | some p =>
      rw [q] at e
      cases e
      obtain ⟨key, y⟩ := p
      obtain ⟨v, e1, e2⟩ := r.get q
      refine ⟨⟨eH _ _ (eG _ _ h), (List.getElem?_eq_some_iff.mp e1).1⟩, fun x H' ⟨z, k', q1⟩ => ?_⟩
      subst z
      rw [e1] at q1; cases q1
      exact ⟨G, New.refl eH, e2.mono eG⟩
  stop := fun i G H e eG eH => ⟨eH _ _ (eG _ _ h), by rw [← r.length]; rw [List.length_map] at e; exact e⟩
theorem iti_s {K : PySem.W.Frag} {G0 : Hp} {l : List (Key × D)} {d : Addr} {o : Obj} {kvs : List (Key × V)} (h : G0 d = some (.frz o (.dK kvs))) (r : Isk K G0 l kvs) : ItS K G0 (l.map fun p => D.tup [keyD p.1, p.2]) (Iti d o kvs) where
  go := fun i x G H e eG eH => by
    rw [List.getElem?_map] at e
    cases q : l[i]? with
    | none => rw [q] at e; cases e
    | some p =>
      rw [q] at e
      cases e
      obtain ⟨key, y⟩ := p
      obtain ⟨v, e1, e2⟩ := r.get q
      refine ⟨⟨eH _ _ (eG _ _ h), (List.getElem?_eq_some_iff.mp e1).1⟩, fun x H' ⟨T, k', v', q1, q2, q3, q4⟩ => ?_⟩
      subst q2 q4
      rw [e1] at q1; cases q1
      have N : New G H (upd G T (.tup [kV key, v])) (upd H T (.tup [kV key, v])) := New.put eH q3
      exact ⟨_, N, .tup (Evl.st_of upd_same) (.cons (keyD_is _) (.cons ((e2.mono eG).mono N.g) .nil))⟩
  stop := fun i G H e eG eH => ⟨eH _ _ (eG _ _ h), by rw [← r.length]; rw [List.length_map] at e; exact e⟩
def sKeys (f : DEnv → R D) : DEnv → R (List D) := fun ρ => (f ρ).bind fun d ρ' => match d with
  | .dic l => .ok ρ' (l.map fun p => keyD p.1)
  | _ => .no
def sVals (f : DEnv → R D) : DEnv → R (List D) := fun ρ => (f ρ).bind fun d ρ' => match d with
  | .dic l => .ok ρ' (l.map fun p => p.2)
  | _ => .no
def sItems (f : DEnv → R D) : DEnv → R (List D) := fun ρ => (f ρ).bind fun d ρ' => match d with
  | .dic l => .ok ρ' (l.map fun p => D.tup [keyD p.1, p.2])
  | _ => .no
variable {tg : Expr} {elts : List Expr} {kk : Nat} {tpos : Pos}
theorem di_keys {f : DEnv → R D} (h : DE X W e f) : DI X W tg e (sKeys f) := pi_imp (pi_keys h) fun σ H Q ⟨ρ, G, R, h⟩ => ⟨ρ, G, R, (Go.bind R h).imp fun d ρ' G' H' s R' h v hv => by
    cases hv with
    | dic q1 q2 => exact ⟨_, _, rfl, .inl ⟨_, R'.sub _ _ q1, h G' H' .refl R' _ (itk_s q1 q2)⟩⟩
    | _ => exact False.elim h⟩
theorem di_vals {f : DEnv → R D} (h : DE X W e f) (hbase : attributeBase e "values" X.env (eval e X.env) = eval e X.env := by rfl) (hline : (apos.endLine == cpos.line) = true := by rfl) : DI X W tg (.Call (.Attribute e "values" apos) [] [] cpos) (sVals f) := pi_imp (pi_values h hbase hline) fun σ H Q ⟨ρ, G, R, h⟩ => ⟨ρ, G, R, (Go.bind R h).imp fun d ρ' G' H' s R' h v hv => by
    cases hv with
    | dic q1 q2 => exact ⟨_, _, _, rfl, R'.sub _ _ q1, h G' H' .refl R' _ (itd_s q1 q2)⟩
    | _ => exact False.elim h⟩
theorem di_items {f : DEnv → R D} (h : DE X W e f) (hbase : attributeBase e "items" X.env (eval e X.env) = eval e X.env := by rfl) (hline : (apos.endLine == cpos.line) = true := by rfl) : DI X W (.Tuple elts kk tpos) (.Call (.Attribute e "items" apos) [] [] cpos) (sItems f) := pi_imp (pi_items h hbase hline) fun σ H Q ⟨ρ, G, R, h⟩ => ⟨ρ, G, R, (Go.bind R h).imp fun d ρ' G' H' s R' h v hv => by
    cases hv with
    | dic q1 q2 => exact ⟨_, _, _, rfl, R'.sub _ _ q1, h G' H' .refl R' _ (iti_s q1 q2)⟩
    | _ => exact False.elim h⟩
end
end DF

/-! list(d.values()), list(d) -/
namespace DF
open PySem PySem.Spec PyProof.Rows L2
def tListV (td : TE) : TE := fun σ H Q => td σ H fun x H1 => ∃ d kvs, x = .ref d ∧ Rd H1 d (.dK kvs) ∧ ∀ p, H1 p = none → Q (.ref p) (upd H1 p (.lst (kvs.map (·.2))))
theorem pe_listVals {X : Cx} {e : Expr} {td : TE} {p pos apos cpos : Pos} (hc : X.calm = true) (he : PE X e td) (hg : Gl X "list") (hm : X.mg "list" = none)
    (hbase : attributeBase e "values" X.env (eval e X.env) = eval e X.env := by rfl) (hline : (apos.endLine == cpos.line) = true := by rfl)
    (h1 : starEach [.Call (.Attribute e "values" apos) [] [] cpos] X.env = (false, eval (.Call (.Attribute e "values" apos) [] [] cpos) X.env) :: starEach [] X.env := by rfl) (hpl : (backTo pos (starEach [] X.env)).any (·.1) = false := by rfl) :
    PE X (.Call (.Name "list" p) [.Call (.Attribute e "values" apos) [] [] cpos] [] pos) (tListV td) := by
  refine ⟨fun pins s σ H Q I h => ?_⟩
  refine wpAny_Call_Name_kw (ld_blt I hg hm boot_list ?_ (by decide) (by decide))
  refine PyProof.Rows.callWith_type1 (args_cons ?_ h1) h1 hpl
  refine wpAny_Call_method (T := "dict") (id := "dict.values") hbase rfl hline F.plainAttrs_dict F.slot_dict_values F.type_dict_values (thn (he.run pins s σ H _ I h) fun u s1 ⟨x, H1, I1, rx, d, kvs, ex, hd, q⟩ => ?_)
  subst ex
  obtain rfl : u = Value.ref d := rx
  obtain ⟨z, lo, vs, rk, dd⟩ := dk_rd I1.hok hd
  obtain ⟨ep, hat⟩ := dd.dictAt
  have hl : kvs.length = vs.length := Paired.length rk
  refine ⟨dd.typeIs, dd.mapOf.noDict, ?_⟩
  have I2 : Inv X pins σ H1 { s1 with heap := s1.heap.push { cls := .type "dict_values", data := .fields #[.ref d] } } := I1.kept (t' := s1.toks) fun b ob q => Heap.get?_push_of_some _ q
  show wpAny _ _ (callWith cpos (.builtin "dict.values") [.ref d] [] []) _ X.xe s1
  refine method_meetsIn F.slot_dict_values F.entry_dict_values rfl (PySem.evalArgs_none ⟨rfl, dd.typeIs, F.args_dict_values_1 _, _, meets_dict_values (mixKind X.prog X.w) d lo, ⟨vs, dd⟩, args_nil ?_⟩)
  refine PySem.W.kdl_call (s := { s1 with heap := s1.heap.push { cls := .type "dict_values", data := .fields #[.ref d] } }) (PySem.W.kdl_values (knd := mixKind X.prog X.w) (kvs := vs) (ep := ep) (d := d) (r := s1.heap.objs.size)) (I2.ok.hd hc) ⟨⟨_, Heap.get?_push_size _ rfl, rfl, rfl⟩, hat.push _⟩ (by rw [← hl]; exact z) fun h' tk acc' c' hkeep hS hacc => ?_
  refine ⟨.ref _, upd H1 _ (.lst (kvs.map (·.2))), I2.laid hkeep (Nat.le_refl _) (show ObjOk X.prog X.w _ _ _ (.lst (kvs.map (·.2))) from ⟨?_, acc'.toList, c', ?_, ?_⟩), rfl, q _ (I2.hok.fresh (Nat.le_refl _))⟩
  · rw [List.length_map]; exact z
  · have el : acc'.toList.length = acc'.size := by simp
    refine vals_of_at (by rw [List.length_map, el, hacc.1, hl]) fun j x w h1 h2 => ?_
    obtain ⟨k, hky⟩ := hacc.2 j w (by rw [← Array.getElem?_toList]; exact h2)
    rw [List.getElem?_map] at h1
    cases hq : kvs[j]? with
    | none => rw [hq] at h1; cases h1
    | some p =>
      rw [hq] at h1
      cases h1
      obtain ⟨k', y⟩ := p
      obtain ⟨u, hu, ru⟩ := kv_get rk hq
      rw [hky] at hu
      cases hu
      exact ru
  · rw [Array.toArray_toList]; exact hS
def dLvals (f : DEnv → R D) : DEnv → R D := fun ρ => (f ρ).bind fun d ρ' => match d with
  | .dic l => .ok ρ' (.lst (l.map fun p => p.2))
  | _ => .no
theorem Isk.vals {K : PySem.W.Frag} {G : Hp} : ∀ {l : List (Key × D)} {kvs : List (Key × V)}, Isk K G l kvs → Iss K G (l.map fun p => p.2) (kvs.map (·.2))
  | _, _, .nil => .nil
  | _, _, .cons h r => .cons h (Isk.vals r)
theorem Isk.keys {K : PySem.W.Frag} {G : Hp} : ∀ {l : List (Key × D)} {kvs : List (Key × V)}, Isk K G l kvs → Iss K G (l.map fun p => keyD p.1) (kvs.map fun p => kV p.1)
  | _, _, .nil => .nil
  | _, _, .cons h r => .cons (keyD_is _) (Isk.keys r)
section
variable {X : Cx} {W : WX} {e : Expr} {p pos apos cpos : Pos} {f : DEnv → R D}
theorem fresh_new {K : PySem.W.Frag} {G H : Hp} {ρ : DEnv} {σ : Sl} (R : Rep K G H ρ σ) {p : Addr} (hp : H p = none) (o : HO) : Stp ρ σ G H ρ σ G (upd H p o) ∧ Rep K G (upd H p o) ρ σ ∧ G p = none ∧ ¬ Mu false ρ σ p ∧ ¬ Mu true ρ σ p := by
  have N : New G H G (upd H p o) := New.hid R.sub hp
  have no : ∀ b, ¬ Mu b ρ σ p := fun b ⟨i, d, e1, e2⟩ => by
    obtain ⟨a, e3, _, e4⟩ := R.mu i b d e1
    rw [e2] at e3; cases e3
    obtain ⟨o, ho⟩ := e4.there
    rw [hp] at ho; cases ho
  exact ⟨N.stp R, N.rep R, sub_none R.sub hp, no false, no true⟩
theorem df_lvals (hc : X.calm = true) (hg : Gl X "list") (hm : X.mg "list" = none) (he : DE X W e f)
    (hbase : attributeBase e "values" X.env (eval e X.env) = eval e X.env := by rfl) (hline : (apos.endLine == cpos.line) = true := by rfl)
    (h1 : starEach [.Call (.Attribute e "values" apos) [] [] cpos] X.env = (false, eval (.Call (.Attribute e "values" apos) [] [] cpos) X.env) :: starEach [] X.env := by rfl) (hpl : (backTo pos (starEach [] X.env)).any (·.1) = false := by rfl) :
    DF' X W (.Call (.Name "list" p) [.Call (.Attribute e "values" apos) [] [] cpos] [] pos) (dLvals f) :=
  pe_imp (pe_listVals hc he hg hm hbase hline h1 hpl) fun σ H Q ⟨ρ, G, R, h⟩ => ⟨ρ, G, R, (Go.bind R h).imp fun d ρ' G' H' s R' h v hv => by
    cases hv with
    | @dic l a o kvs q1 q2 =>
      refine ⟨a, kvs, rfl, .inr ⟨_, R'.sub _ _ q1⟩, fun p hp => ?_⟩
      obtain ⟨s2, R2, k1, k2, k3⟩ := fresh_new R' hp (.lst (kvs.map (·.2)))
      have h : Go X.K W σ ρ' G' H' _ (DF.R.ok ρ' (D.lst (l.map fun p => p.2))) := h
      exact h G' _ s2 R2 p k1 k2 k3 (s.t p hp) ⟨_, upd_same, q2.vals⟩
    | _ => exact False.elim h⟩
end
end DF

/-! repr of a list or a tuple, where no guard of repr stands around. -/
namespace DF
open PySem PySem.Spec PyProof.Rows L2
def rprOk (p : PyData) : Bool := (match p with | .list _ => true | .tuple _ => true | _ => false) && p.showable && !p.hasDict && decide (p.depth ≤ 50) && decide (p.shown.length ≤ sizeLine)
def rprCD (xs : List D) : Option D := match xs with
  | [d] => match toP d with
    | some p => if rprOk p = true then some (.str p.shown) else none
    | none => none
  | _ => none
def rRprC (K : PySem.W.Frag) : List V → Hp → VK → Prop := fun vs H Q => ∃ v p, vs = [v] ∧ Dp K H v p ∧ rprOk p = true ∧ Q (.str p.shown) H
theorem call_rprC {X : Cx} (hg : X.A.guards = some []) (hu : X.A.units + 64 < cLine) : CallR X (.builtin "repr") (rRprC X.K) := by
  intro pins s σ H vs us Q I r h
  obtain ⟨v, p, rfl, hd, hok, q⟩ := h
  obtain ⟨u, rfl, rv⟩ := vals1 r
  unfold rprOk at hok
  simp only [Bool.and_eq_true, Bool.not_eq_true', decide_eq_true_eq] at hok
  obtain ⟨⟨⟨⟨h0, h1⟩, h2⟩, h3⟩, h4⟩ := hok
  obtain ⟨as, rd⟩ := Dp.reads I p v u hd rv
  have hr : ∃ a, u = .ref a := by
    cases hd with
    | lst _ _ => cases rv; exact ⟨_, rfl⟩
    | tup _ _ => cases rv; exact ⟨_, rfl⟩
    | _ => cases h0
  obtain ⟨a, rfl⟩ := hr
  exact repr_of_reads' rd h1 (PyData.noDict_hsm h2) hg (by omega) (fun _ _ e => e) (fun h' t tk hk => ⟨.str p.shown, H, I.kept (t' := tk) hk, ⟨t, rfl⟩, q⟩) h4
theorem cas_rprC {K : PySem.W.Frag} : CaS K (rRprC K) rprCD := fun xs z vs G H Q eS hx e k => by
  unfold rprCD at e
  split at e
  · rename_i d
    obtain ⟨v, rfl, h⟩ := tops1 hx
    split at e
    · rename_i p e1
      split at e
      · rename_i hok
        cases e
        exact ⟨v, p, rfl, dp_top eS h e1, hok, k _ G H (New.refl eS) (.str _)⟩
      · cases e
    · cases e
  · cases e
def rprX : List D → Option D := orC rprD rprCD
end DF

/-! == and != of two dicts -/
namespace DF
open PySem PySem.Spec PyProof.Rows L2
inductive HitsV (K : PySem.W.Frag) (H : Hp) (ls : List (Key × V)) : List (Key × V) → Bool → Prop
  | nil : HitsV K H ls [] true
  | miss {k : Key} {v : V} {r : List (Key × V)} : valV ls k = none → HitsV K H ls ((k, v) :: r) false
  | hit {k : Key} {v y : V} {p q : PyData} {r : List (Key × V)} {b : Bool} : valV ls k = some y → Dp K H v p → Dp K H y q → SeqAt.shaped p = true → SeqAt.shaped q = true → HitsV K H ls r b → HitsV K H ls ((k, v) :: r) (p.eqv q && b)
theorem hitsV_run {X : Cx} {pins : List (Addr × Obj)} {σ : L2.St} {H : Hp} {s : Shared} (I : L2.Inv X pins σ H s) {A : Around} (hu : A.in1.units + 64 < cLine) {ls : List (Key × V)} {vb : List (Key × Value)} (rb : KV ls vb) : ∀ {ks : List (Key × V)} {r : Bool}, HitsV X.K H ls ks r → ∀ {va : List (Key × Value)}, KV ks va → PySem.W.KeqHits A.in1 s vb va r := by
  intro ks r h
  induction h with
  | nil =>
    intro va ra
    cases ra
    exact .nil
  | @miss k v r hk =>
    intro va ra
    cases ra with
    | @cons p q ps qs h t =>
      obtain ⟨k', u⟩ := q
      obtain ⟨h1, h2⟩ := h
      have h1 : k = k' := h1
      subst h1
      have rr : RelO (valV ls k) (valueAt vb k) := rb.val k
      rw [hk] at rr
      have : valueAt vb k = none := by
        cases e : valueAt vb k with
        | none => rfl
        | some w => rw [e] at rr; exact False.elim rr
      exact .miss this
  | @hit k v y p q r b hk hp hq sp sq hr ih =>
    intro va ra
    cases ra with
    | @cons pp qq ps qs h t =>
      obtain ⟨k', u⟩ := qq
      obtain ⟨h1, h2⟩ := h
      have h1 : k = k' := h1
      subst h1
      have rr : RelO (some y) (valueAt vb k) := by rw [← hk]; exact rb.val k
      obtain ⟨w, hw, ry⟩ := rr.some_of
      obtain ⟨as, r1⟩ := Dp.reads I p v u hp h2
      obtain ⟨bs, r2⟩ := Dp.reads I q y w hq ry
      exact .hit hw (PySem.W.keq_at r1 r2 sp sq hu) (ih t)
def rEqK (K : PySem.W.Frag) : R2 := fun x y H Q => ∃ a b ks ls r, x = .ref a ∧ y = .ref b ∧ Rd H a (.dK ks) ∧ Rd H b (.dK ls) ∧ HitsV K H ls ks r ∧ Q (.bl (ks.length == ls.length && r)) H
def rNeK (K : PySem.W.Frag) : R2 := fun x y H Q => ∃ a b ks ls r, x = .ref a ∧ y = .ref b ∧ Rd H a (.dK ks) ∧ Rd H b (.dK ls) ∧ HitsV K H ls ks r ∧ Q (.bl (!(ks.length == ls.length && r))) H
theorem op_eqK {X : Cx} (hu : X.A.in1.units + 64 < cLine) (hu0 : X.A.units < cLine) : OpR X (compareOp .Eq) (rEqK X.K) := by
  intro pins s σ H x y v u Q I rx ry h
  obtain ⟨a, b, ks, ls, r, rfl, rfl, ha, hb, hh, q⟩ := h
  cases (show v = Value.ref a from rx)
  cases (show u = Value.ref b from ry)
  obtain ⟨_, ya, va, ra, da⟩ := dk_rd I.hok ha
  obtain ⟨_, yb, vb, rb, db⟩ := dk_rd I.hok hb
  refine PySem.W.keq_eq (knd := mixKind X.prog X.w) (r := r) ya yb da db hu0 (fun _ => hitsV_run I hu rb hh ra) ?_
  have e1 : ks.length = va.length := Paired.length ra
  have e2 : ls.length = vb.length := Paired.length rb
  rw [← e1, ← e2]
  exact ⟨.bl _, H, I, rfl, q⟩
theorem op_neK {X : Cx} (hu : X.A.in1.units + 64 < cLine) (hu0 : X.A.units < cLine) : OpR X (compareOp .NotEq) (rNeK X.K) := by
  intro pins s σ H x y v u Q I rx ry h
  obtain ⟨a, b, ks, ls, r, rfl, rfl, ha, hb, hh, q⟩ := h
  cases (show v = Value.ref a from rx)
  cases (show u = Value.ref b from ry)
  obtain ⟨_, ya, va, ra, da⟩ := dk_rd I.hok ha
  obtain ⟨_, yb, vb, rb, db⟩ := dk_rd I.hok hb
  refine PySem.W.keq_ne (knd := mixKind X.prog X.w) (r := r) ya yb da db hu0 (fun _ => hitsV_run I hu rb hh ra) ?_
  have e1 : ks.length = va.length := Paired.length ra
  have e2 : ls.length = vb.length := Paired.length rb
  rw [← e1, ← e2]
  exact ⟨.bl _, H, I, rfl, q⟩
/-- over data -/
def hitsD (m : List (Key × D)) : List (Key × D) → Option Bool
  | [] => some true
  | p :: r => match valD m p.1 with
    | none => some false
    | some e => match eqP p.2 e, hitsD m r with
      | some b, some c => some (b && c)
      | _, _ => none
theorem Is.dp {K : PySem.W.Frag} {G H : Hp} {d : D} {v : V} {p : PyData} (eS : Evl.Ex G H) (h : Is K G d v) (e : toP d = some p) : Dp K H v p := dp_of eS h e
theorem hitsD_run {K : PySem.W.Frag} {G H : Hp} (eS : Evl.Ex G H) {m : List (Key × D)} {ls : List (Key × V)} (rm : Isk K G m ls) : ∀ {l : List (Key × D)} {ks : List (Key × V)} {r : Bool}, Isk K G l ks → hitsD m l = some r → HitsV K H ls ks r
  | _, _, r, .nil, e => by cases e; exact .nil
  | _, _, r, @Isk.cons _ _ k d v l xs h t, e => by
    unfold hitsD at e
    have q := rm.val k
    cases ev : valD m k with
    | none =>
      rw [ev] at q
      have e : (match valD m k with
        | none => some false
        | some e => match eqP d e, hitsD m l with
          | some b, some c => some (b && c)
          | _, _ => none) = some r := e
      rw [ev] at e
      cases e
      exact .miss q
    | some d2 =>
      rw [ev] at q
      obtain ⟨y, q1, q2⟩ := q
      have e : (match valD m k with
        | none => some false
        | some e => match eqP d e, hitsD m l with
          | some b, some c => some (b && c)
          | _, _ => none) = some r := e
      rw [ev] at e
      dsimp only at e
      cases e1 : eqP d d2 with
      | none => rw [e1] at e; cases e
      | some b =>
        cases e2 : hitsD m l with
        | none => rw [e1, e2] at e; cases e
        | some c =>
          rw [e1, e2] at e
          cases e
          obtain ⟨p, pq, t1, t2, s1, s2, rfl⟩ := eqP_of e1
          exact .hit q1 (Is.dp eS h t1) (Is.dp eS q2 t2) s1 s2 (hitsD_run eS rm t e2)
def eqKB (x y : D) : Option Bool := match x, y with
  | .dic l, .dic m => (hitsD m l).map fun b => l.length == m.length && b
  | _, _ => none
def eqK (x y : D) : Option D := (eqKB x y).map .bl
def neK (x y : D) : Option D := (eqKB x y).map fun b => .bl (!b)
theorem eqKB_run {K : PySem.W.Frag} {G H : Hp} (eS : Evl.Ex G H) {x y : D} {v u : V} {b : Bool} (hx : Top K G H x v) (hy : Top K G H y u) (e : eqKB x y = some b) :
    ∃ a c ks ls r, v = .ref a ∧ u = .ref c ∧ Rd H a (.dK ks) ∧ Rd H c (.dK ls) ∧ HitsV K H ls ks r ∧ b = (ks.length == ls.length && r) := by
  unfold eqKB at e
  split at e
  · rename_i l m
    obtain ⟨a, ks, rfl, q1, q2⟩ := hx
    obtain ⟨c, ls, rfl, q3, q4⟩ := hy
    cases e1 : hitsD m l with
    | none => rw [e1] at e; cases e
    | some r =>
      rw [e1] at e
      have e : some (l.length == m.length && r) = some b := e
      cases e
      exact ⟨a, c, ks, ls, r, rfl, rfl, q1, q3, hitsD_run eS q4 q2 e1, by rw [q2.length, q4.length]⟩
  · cases e
theorem ops_eqK {K : PySem.W.Frag} : OpS K (rEqK K) eqK := fun x y z v u G H Q eS hx hy e k => by
  unfold eqK at e
  cases e1 : eqKB x y with
  | none => rw [e1] at e; cases e
  | some b =>
    rw [e1] at e
    cases e
    obtain ⟨a, c, ks, ls, r, rfl, rfl, q1, q2, q3, rfl⟩ := eqKB_run eS hx hy e1
    exact ⟨a, c, ks, ls, r, rfl, rfl, q1, q2, q3, k _ G H (New.refl eS) (.bl _)⟩
theorem ops_neK {K : PySem.W.Frag} : OpS K (rNeK K) neK := fun x y z v u G H Q eS hx hy e k => by
  unfold neK at e
  cases e1 : eqKB x y with
  | none => rw [e1] at e; cases e
  | some b =>
    rw [e1] at e
    cases e
    obtain ⟨a, c, ks, ls, r, rfl, rfl, q1, q2, q3, rfl⟩ := eqKB_run eS hx hy e1
    exact ⟨a, c, ks, ls, r, rfl, rfl, q1, q2, q3, k _ G H (New.refl eS) (.bl _)⟩
end DF
namespace DF
open PySem PySem.Spec PyProof.Rows L2
theorem in1u {k : Nat} {A : Around} (hr : RoomG k A) : A.in1.units + 64 < cLine := by
  have := hr.room.un
  show A.units + 1 + 64 < cLine
  omega
def eqX : D → D → Option D := orD eqD1 eqK
def neX : D → D → Option D := orD neD1 neK
end DF

namespace DF
open PySem PySem.Spec PyProof.Rows L2
/-! ### sorted(..) of whole numbers, also of a dict of them -/
def insI (i : Int) : List Int → List Int
  | [] => [i]
  | j :: l => if i ≤ j then i :: j :: l else j :: insI i l
def isort : List Int → List Int
  | [] => []
  | i :: l => insI i (isort l)
theorem insI_perm (i : Int) : ∀ l : List Int, (insI i l).Perm (i :: l)
  | [] => .refl _
  | j :: l => by
    unfold insI
    split
    · exact .refl _
    · exact ((insI_perm i l).cons j).trans (.swap i j l)
theorem isort_perm : ∀ l : List Int, (isort l).Perm l
  | [] => .refl _
  | i :: l => (insI_perm i _).trans ((isort_perm l).cons i)
theorem insI_sorted (i : Int) : ∀ {l : List Int}, l.Pairwise (· ≤ ·) → (insI i l).Pairwise (· ≤ ·)
  | [], _ => List.pairwise_singleton _ _
  | j :: l, h => by
    obtain ⟨h1, h2⟩ := List.pairwise_cons.mp h
    unfold insI
    split
    · rename_i q
      exact List.pairwise_cons.mpr ⟨fun x hx => (List.mem_cons.mp hx).elim (fun e => e ▸ q) fun m => Int.le_trans q (h1 x m), h⟩
    · rename_i q
      exact List.pairwise_cons.mpr ⟨fun x hx => ((insI_perm i l).mem_iff.mp hx |> List.mem_cons.mp).elim (fun e => e ▸ (by omega)) fun m => h1 x m, insI_sorted i h2⟩
theorem isort_sorted : ∀ l : List Int, (isort l).Pairwise (· ≤ ·)
  | [] => .nil
  | i :: l => insI_sorted i (isort_sorted l)
theorem isort_of {l m : List Int} (h : m.Perm l) (s : m.Pairwise (· ≤ ·)) : m = isort l :=
  List.Perm.eq_of_pairwise (le := (· ≤ ·)) (fun a b _ _ h1 h2 => Int.le_antisymm h1 h2) s (isort_sorted l) (h.trans (isort_perm l).symm)
def intKeys : List (Key × D) → Option (List Int)
  | [] => some []
  | (.inl i, _) :: l => (intKeys l).map (i :: ·)
  | (.inr _, _) :: _ => none
theorem intKeys_of {K : PySem.W.Frag} {G : Hp} : ∀ {l : List (Key × D)} {kvs : List (Key × V)} {ks : List Int}, Isk K G l kvs → intKeys l = some ks → kvs.map (·.1) = ks.map Sum.inl
  | _, _, _, .nil, e => by cases e; rfl
  | (.inl i, _) :: l, _, _, .cons h r, e => by
    unfold intKeys at e
    cases q : intKeys l with
    | none => rw [q] at e; cases e
    | some m => rw [q] at e; cases e; simp [intKeys_of r q]
  | (.inr _, _) :: l, _, _, .cons h r, e => by cases e
def sortO (d : D) : Option (List D) := match d with
  | .dic l => match intKeys l with
    | some ks => if ks.length < 64 then some ((isort ks).map D.int) else none
    | none => none
  | d => match listOf d with
    | some l => (intsD l).map fun ns => (isort ns).map D.int
    | none => none
section
variable {X : Cx} {W : WX} {e o k : Expr} {es : List Expr} {p pos : Pos} {f : DEnv → R Th}
theorem df_sorted (hc : X.calm = true) (hg : Gl X "sorted") (hm : X.mg "sorted" = none) (ha : DO X W e f) (h1 : starEach [e] X.env = (false, eval e X.env) :: starEach [] X.env := by rfl) (hpl : (backTo pos (starEach [] X.env)).any (·.1) = false := by rfl) : DF' X W (.Call (.Name "sorted" p) [e] [] pos) (dMk sortO f) :=
  df_mk (r := fun v H1 Q => rSortedI X.K [v] H1 Q ∨ ∃ (a : Addr) (kvs : List (Key × V)) (ks : List Int), [v] = [V.ref a] ∧ Rd H1 a (.dK kvs) ∧ kvs.map (·.1) = ks.map Sum.inl ∧ ks.length < 64 ∧
      ∀ (ys : List Int) (p : Addr), ys.Perm ks → ys.Pairwise (· ≤ ·) → H1 p = none → Q (.ref p) (upd H1 p (.lst (ys.map V.int))))
    (pe_imp (pe_callB (cr_sortedI.or (call_sortedDI hc)) hg hm boot_sorted (pa_cons ha pa_nil h1) (by decide) (by decide) h1 hpl) fun σ H Q ⟨ρ, G, R, h⟩ => ⟨ρ, G, R, h.imp fun t ρ' G' H' s R' h v hv => h v hv⟩)
    fun d l v G H Q eS ht e k => by
      unfold sortO at e
      split at e
      · rename_i m
        split at e
        · rename_i ks e2
          split at e
          · rename_i hl
            cases e
            obtain ⟨a, kvs, rfl, h2, h3⟩ := ht
            refine .inr ⟨a, kvs, ks, rfl, h2, intKeys_of h3 e2, hl, fun ys p k1 k2 hp => ?_⟩
            rw [isort_of k1 k2]
            exact k p _ hp (Iss.of_ints _)
          · cases e
        · cases e
      · split at e
        · rename_i m e2
          cases q : intsD m with
          | none => rw [q] at e; cases e
          | some ns =>
            rw [q] at e; cases e
            obtain ⟨a, xs, rfl, q1, q2⟩ := listOf_top eS ht e2
            rw [intsD_of q] at q2
            refine .inl ⟨a, ns, rfl, by rw [← q2.ints]; exact q1, fun ys p k1 k2 hp => ?_⟩
            rw [isort_of k1 k2]
            exact k p _ hp (Iss.of_ints _)
        · cases e
/-! ### list(d): its keys -/
def keysO (d : D) : Option (List D) := match d with
  | .dic l => some (l.map fun p => keyD p.1)
  | _ => none
theorem df_listK (hc : X.calm = true) (hg : Gl X "list") (hm : X.mg "list" = none) (ha : DO X W e f) (h1 : starEach [e] X.env = (false, eval e X.env) :: starEach [] X.env := by rfl) (hpl : (backTo pos (starEach [] X.env)).any (·.1) = false := by rfl) : DF' X W (.Call (.Name "list" p) [e] [] pos) (dMk keysO f) :=
  df_mk (r := fun v H1 Q => ∃ (a : Addr) (kvs : List (Key × V)), [v] = [V.ref a] ∧ Rd H1 a (.dK kvs) ∧ ∀ p, H1 p = none → Q (.ref p) (upd H1 p (.lst (kvs.map fun kv : Key × V => kV kv.1))))
    (pe_imp (pe_callTy (call_listD hc) hg hm boot_list (pa_cons ha pa_nil h1) (by decide) (by decide) h1 hpl) fun σ H Q ⟨ρ, G, R, h⟩ => ⟨ρ, G, R, h.imp fun t ρ' G' H' s R' h v hv => h v hv⟩)
    fun d l v G H Q eS ht e k => by
      unfold keysO at e
      split at e
      · cases e
        obtain ⟨a, kvs, rfl, h2, h3⟩ := ht
        exact ⟨a, kvs, rfl, h2, fun p hp => k p _ hp h3.keys⟩
      · cases e
end
/-! ### the least common multiple -/
def lcmD (xs : List D) : Option D := match xs with
  | [.int i, .int j] => if i.natAbs < 2 ^ 4000 ∧ j.natAbs < 2 ^ 4000 then some (.int ((Nat.lcm i.natAbs j.natAbs : Nat) : Int)) else none
  | _ => none
def rLcm : List V → Hp → VK → Prop := fun xs H Q => ∃ i j, xs = [.int i, .int j] ∧ i.natAbs < 2 ^ 4000 ∧ j.natAbs < 2 ^ 4000 ∧ Q (.int ((Nat.lcm i.natAbs j.natAbs : Nat) : Int)) H
theorem log_small {n : Nat} (h : n < 2 ^ 4000) : n.log2 < 4000 ∨ n = 0 := by
  rcases Nat.eq_zero_or_pos n with z | z
  · exact .inr z
  · exact .inl ((Nat.log2_lt (by omega)).mpr h)
theorem call_lcm {X : Cx} : CallR X (.builtin "math.lcm") rLcm := by
  intro pins s σ H xs us Q I r h
  obtain ⟨i, j, rfl, h1, h2, q⟩ := h
  cases r with
  | cons r1 r =>
    cases r with
    | cons r2 r =>
      cases r
      obtain ⟨t, rfl⟩ := r1
      obtain ⟨u, rfl⟩ := r2
      have k1 : (max 1 i.natAbs).log2 < 4000 := (Nat.log2_lt (by omega)).mpr (Nat.max_lt.mpr ⟨Nat.one_lt_two_pow (by decide), h1⟩)
      have k2 : (max i.natAbs j.natAbs).log2 < 4001 := by
        rcases Nat.eq_zero_or_pos (max i.natAbs j.natAbs) with z | z
        · rw [z]; decide
        · exact Nat.lt_succ_of_lt ((Nat.log2_lt (by omega)).mpr (Nat.max_lt.mpr ⟨h1, h2⟩))
      have e1 : Nat.lcm 1 i.natAbs = i.natAbs := Nat.lcm_one_left _
      have k3 : (Nat.lcm i.natAbs j.natAbs) < 2 ^ 8001 := by
        rcases Nat.eq_zero_or_pos (Nat.lcm i.natAbs j.natAbs) with z | z
        · rw [z]; exact Nat.two_pow_pos _
        · refine Nat.lt_of_le_of_lt (Nat.le_trans (Nat.le_of_dvd ?_ (Nat.lcm_dvd_mul _ _)) (Nat.mul_le_mul (Nat.le_of_lt h1) (Nat.le_of_lt h2))) ?_
          · rcases Nat.eq_zero_or_pos i.natAbs with y | y
            · rw [y, Nat.lcm_zero_left] at z; omega
            · rcases Nat.eq_zero_or_pos j.natAbs with y2 | y2
              · rw [y2, Nat.lcm_zero_right] at z; omega
              · exact Nat.mul_pos y y2
          · rw [← Nat.pow_add]; exact Nat.pow_lt_pow_right (by decide) (by decide)
      have k4 : ((((Nat.lcm 1 i.natAbs).lcm j.natAbs : Nat) : Int)).natAbs.log2 < bitsLine := by
        rw [e1, Int.natAbs_natCast]
        rcases Nat.eq_zero_or_pos (Nat.lcm i.natAbs j.natAbs) with z | z
        · rw [z]; decide +kernel
        · exact Nat.lt_trans ((Nat.log2_lt (by omega)).mpr k3) (by decide +kernel)
      refine call_function_meets PySem.W.MGF.kind_lcm PySem.W.MGF.plain_lcm PySem.W.MGF.entry_lcm (PySem.W.MGF.args_lcm _ _) (PySem.W.mg_run_lcm i t j u (by omega) (by omega) k4).meets ?_
      exact ⟨.int _, H, I.tok _, ⟨_, rfl⟩, by rw [e1]; exact q⟩
theorem cas_lcm {K : PySem.W.Frag} : CaS K rLcm lcmD := fun xs z vs G H Q eS hx e k => by
  unfold lcmD at e
  split at e
  · split at e
    · rename_i hz
      obtain ⟨v, u, rfl, h1, h2⟩ := tops2 hx
      cases h1; cases h2; cases e
      exact ⟨_, _, rfl, hz.1, hz.2, k _ G H (New.refl eS) (.int _)⟩
    · cases e
  · cases e
/-! ### min, max of a tuple or a list of whole numbers -/
def minL (i : Int) (l : List Int) : Int := l.foldl (fun a y => if y < a then y else a) i
def maxL (i : Int) (l : List Int) : Int := l.foldl (fun a y => if a < y then y else a) i
theorem minL_of : ∀ (l : List Int) (i : Int), PySem.W.minOf i l = minL i l
  | [], _ => rfl
  | y :: l, i => by
    have h : PySem.W.minOf i (y :: l) = PySem.W.minOf (if y < i then y else i) l := by
      show List.foldl _ (if PySem.W.DatumOrd.lt y i = true then y else i) l = _
      congr 1
      show (if decide (y < i) = true then y else i) = _
      simp only [decide_eq_true_eq]
    rw [h, minL_of l]
    rfl
theorem maxL_of : ∀ (l : List Int) (i : Int), PySem.W.maxOf i l = maxL i l
  | [], _ => rfl
  | y :: l, i => by
    have h : PySem.W.maxOf i (y :: l) = PySem.W.maxOf (if i < y then y else i) l := by
      show List.foldl _ (if PySem.W.DatumOrd.lt i y = true then y else i) l = _
      congr 1
      show (if decide (i < y) = true then y else i) = _
      simp only [decide_eq_true_eq]
    rw [h, maxL_of l]
    rfl
def minSD (xs : List D) : Option D := match xs with
  | [d] => match (seqOf d).bind intsD with
    | some (i :: l) => some (.int (minL i l))
    | _ => none
  | _ => none
def maxSD (xs : List D) : Option D := match xs with
  | [d] => match (seqOf d).bind intsD with
    | some (i :: l) => some (.int (maxL i l))
    | _ => none
  | _ => none
def rMinS (K : PySem.W.Frag) : List V → Hp → VK → Prop := fun vs H Q => ∃ (a : Addr) (i : Int) (l : List Int), vs = [V.ref a] ∧ (SqL K H a ((i :: l).map V.int) ∨ SqT K H a ((i :: l).map V.int)) ∧ Q (.int (minL i l)) H
def rMaxS (K : PySem.W.Frag) : List V → Hp → VK → Prop := fun vs H Q => ∃ (a : Addr) (i : Int) (l : List Int), vs = [V.ref a] ∧ (SqL K H a ((i :: l).map V.int) ∨ SqT K H a ((i :: l).map V.int)) ∧ Q (.int (maxL i l)) H
theorem int_held {h : Heap} {v : Value} {m : Int} (x : PySem.W.Holds h v m) : ∃ t, v = .int m t := by
  obtain ⟨as, r⟩ := x
  cases (show Reads h v (.int m) as from r)
  exact ⟨_, rfl⟩
theorem held_all {X : Cx} {pins : List (Addr × Obj)} {σ : Sl} {H : Hp} {s : Shared} {its : List Value} {ns : List Int} (I : Inv X pins σ H s) (rv : Vals (ns.map V.int) its) : PySem.W.HoldAll s.heap its.toArray.toList ns := by
  obtain ⟨as, rd⟩ := Dp.readsAll I _ _ _ (ints_dp ns) rv
  exact ⟨as, by show ReadsAll s.heap its.toArray.toList (ns.map PyData.int) as; simpa using rd⟩
theorem call_minS {X : Cx} (hc : X.calm = true) (hu : X.A.units + 64 < cLine) : CallR X (.builtin "min") (rMinS X.K) := by
  intro pins s σ H vs us Q I r hyp
  obtain ⟨a, i, l, rfl, hq, q⟩ := hyp
  rw [Vals.ref1 r]
  have hz : X.A.units + 1 + PySem.W.Datum.depth Int < cLine := by show X.A.units + 1 + 0 < cLine; omega
  rcases hq with hq | hq
  · obtain ⟨its, rv, pl, _⟩ := I.list hq
    refine PySem.W.min_list_datum (x := i) (xs := l) (I.ok.hd hc) pl.isList (held_all I rv) hz fun j v h' tk _ hv hk => ?_
    obtain ⟨t, rfl⟩ := int_held hv
    exact ⟨.int (minL i l), H, I.kept (t' := tk) hk, ⟨t, by rw [minL_of]⟩, q⟩
  · obtain ⟨its, rv, pl, _⟩ := I.tuple hq
    refine PySem.W.min_tuple_datum (x := i) (xs := l) (I.ok.hd hc) pl (held_all I rv) hz fun j v h' tk _ hv hk => ?_
    obtain ⟨t, rfl⟩ := int_held hv
    exact ⟨.int (minL i l), H, I.kept (t' := tk) hk, ⟨t, by rw [minL_of]⟩, q⟩
theorem call_maxS {X : Cx} (hc : X.calm = true) (hu : X.A.units + 64 < cLine) : CallR X (.builtin "max") (rMaxS X.K) := by
  intro pins s σ H vs us Q I r hyp
  obtain ⟨a, i, l, rfl, hq, q⟩ := hyp
  rw [Vals.ref1 r]
  have hz : X.A.units + 1 + PySem.W.Datum.depth Int < cLine := by show X.A.units + 1 + 0 < cLine; omega
  rcases hq with hq | hq
  · obtain ⟨its, rv, pl, _⟩ := I.list hq
    refine PySem.W.max_list_datum (x := i) (xs := l) (I.ok.hd hc) pl.isList (held_all I rv) hz fun j v h' tk _ hv hk => ?_
    obtain ⟨t, rfl⟩ := int_held hv
    exact ⟨.int (maxL i l), H, I.kept (t' := tk) hk, ⟨t, by rw [maxL_of]⟩, q⟩
  · obtain ⟨its, rv, pl, _⟩ := I.tuple hq
    refine PySem.W.max_tuple_datum (x := i) (xs := l) (I.ok.hd hc) pl (held_all I rv) hz fun j v h' tk _ hv hk => ?_
    obtain ⟨t, rfl⟩ := int_held hv
    exact ⟨.int (maxL i l), H, I.kept (t' := tk) hk, ⟨t, by rw [maxL_of]⟩, q⟩
theorem seqI_top {K : PySem.W.Frag} {G H : Hp} {d : D} {ns : List Int} {v : V} (eS : Evl.Ex G H) (h : Top K G H d v) (e : (seqOf d).bind intsD = some ns) : ∃ a, v = .ref a ∧ (SqL K H a (ns.map V.int) ∨ SqT K H a (ns.map V.int)) := by
  cases q : seqOf d with
  | none => rw [q] at e; cases e
  | some l =>
    rw [q] at e
    obtain ⟨a, xs, rfl, q1, q2⟩ := seqOf_top eS h q
    rw [intsD_of e] at q2
    rw [q2.ints] at q1
    exact ⟨a, rfl, q1⟩
theorem cas_minS {K : PySem.W.Frag} : CaS K (rMinS K) minSD := fun xs z vs G H Q eS hx e k => by
  unfold minSD at e
  split at e
  · split at e
    · rename_i e2
      obtain ⟨v, rfl, h⟩ := tops1 hx
      obtain ⟨a, rfl, q1⟩ := seqI_top eS h e2
      cases e
      exact ⟨a, _, _, rfl, q1, k _ G H (New.refl eS) (.int _)⟩
    · cases e
  · cases e
theorem cas_maxS {K : PySem.W.Frag} : CaS K (rMaxS K) maxSD := fun xs z vs G H Q eS hx e k => by
  unfold maxSD at e
  split at e
  · split at e
    · rename_i e2
      obtain ⟨v, rfl, h⟩ := tops1 hx
      obtain ⟨a, rfl, q1⟩ := seqI_top eS h e2
      cases e
      exact ⟨a, _, _, rfl, q1, k _ G H (New.refl eS) (.int _)⟩
    · cases e
  · cases e
/-! ### x[k], .. = .. -/
def setK (i : Nat) (fk : DEnv → R D) : Tg := fun d ρ => match muD i ρ with
  | none => none
  | some _ => match fk ρ with
    | .ok ρ1 kd => match muD i ρ1, keyOf kd with
      | some (b, l), some key => if l.length < 16000000 then some (ρ1.set i (some (.mu b (.dic (insD l key d))))) else none
      | _, _ => none
    | _ => none
theorem dg_setK {X : Cx} {o k : Expr} {pos : Pos} {i : Nat} {W : WX} {fk : DEnv → R D} (hu : X.A.units + 1 < cLine) (ho : PE X o (tVar i)) (hk : DE X W k fk)
    (ha : ∀ v, assign (.Subscript o k pos) X.env v = (do
      let ov ← holding [v] (eval o X.env)
      let iv ← holding [v, ov] (eval k X.env)
      standAt pos
      holding [v, ov, iv] (setItem ov iv v)
      release [v, ov, iv] []) := by intro _; rfl) : DG X (.Subscript o k pos) (setK i fk) [] :=
  pg_imp (pg_sub ho hk (set_dict hu) ha) fun v σ H Q ⟨ρ, G, d, R, hv, ρ', e1, q⟩ => by
    unfold setK at e1
    cases e2 : muD i ρ with
    | none => rw [e2] at e1; cases e1
    | some bl =>
      obtain ⟨b, l⟩ := bl
      rw [e2] at e1
      dsimp only at e1
      obtain ⟨a, ea, _⟩ := R.mu i b _ (muD_of e2)
      refine ⟨.ref a, ea, ρ, G, R, ?_⟩
      cases e3 : fk ρ with
      | no => rw [e3] at e1; cases e1
      | ex _ _ => rw [e3] at e1; cases e1
      | ok ρ1 kd =>
        rw [e3] at e1
        dsimp only at e1
        intro G2 H2 s2 R2 y hy
        split at e1
        · rename_i b' l' key e5 e6
          have e5 := muD_of e5
          obtain ⟨a', ea', e7, ys, e8, e9⟩ := R2.mu i b' _ e5
          rw [ea] at ea'; cases ea'
          have := keyOf_is hy e6
          subst this
          split at e1
          · rename_i hl
            cases e1
            obtain ⟨s3, R3⟩ := R2.chg (o := .dK (putK ys key v)) (d1 := .dic (insD l' key d)) e5 ea ⟨_, upd_same, e9.put (hv.mono s2.g) key⟩
            exact ⟨a, _, rfl, .inl ⟨ys, key, e8, rfl, by rw [← e9.length, sizeLine_eq]; omega, rfl⟩, q σ G2 _ (s2.trans R s3) R3 ⟨rfl, fun _ _ => rfl⟩⟩
          · cases e1
        · cases e1
end DF

/-! {k: v, ..} -/
namespace DF
open PySem PySem.Spec PyProof.Rows L2
def vPs : List ((DEnv → R D) × (DEnv → R D)) → DEnv → R (List (Key × D))
  | [], ρ => .ok ρ []
  | f :: r, ρ => (f.1 ρ).bind fun kd ρ1 => (f.2 ρ1).bind fun d ρ2 => match keyOf kd with
    | some key => (vPs r ρ2).bind fun l ρ3 => .ok ρ3 ((key, d) :: l)
    | none => .no
def disD (l : List (Key × D)) : List (Key × D) := l.foldl (fun acc kv => insD acc kv.1 kv.2) []
def dDisp (fs : List ((DEnv → R D) × (DEnv → R D))) : DEnv → R D := fun ρ => (vPs fs ρ).bind fun l ρ' => if l.length ≤ 15 then .ok ρ' (.dic (disD l)) else .no
theorem tps {K : PySem.W.Frag} {W : WX} {σ : Sl} : ∀ (fs : List ((DEnv → R D) × (DEnv → R D))) {ρ : DEnv} {G H : Hp} {Q : List (V × V) → Hp → Prop}, Rep K G H ρ σ →
    Go K W σ ρ G H (fun l _ G' H' => ∀ kvs, Isk K G' l kvs → Q (kvs.map fun kv => (kV kv.1, kv.2)) H') (vPs fs ρ) → tPairs (fs.map fun f => (tD K W f.1, tD K W f.2)) σ H Q
  | [], ρ, G, H, Q, R, h => h G H .refl R [] .nil
  | f :: r, ρ, G, H, Q, R, h => ⟨ρ, G, R, (Go.bind R h).imp fun kd ρ1 G1 H1 s1 R1 h1 v hv => ⟨ρ1, G1, R1, (Go.bind R1 h1).imp fun d ρ2 G2 H2 s2 R2 h2 y hy => by
      split at h2
      · rename_i key e
        have := keyOf_is hv e
        subst this
        exact tps r R2 ((Go.bind R2 h2).imp fun l ρ3 G3 H3 s3 R3 h3 kvs hk => h3 G3 H3 .refl R3 ((key, y) :: kvs) (.cons (hy.mono s3.g) hk))
      · exact False.elim h2⟩⟩
theorem Isk.dis {K : PySem.W.Frag} {G : Hp} : ∀ {l : List (Key × D)} {kvs : List (Key × V)} {l0 : List (Key × D)} {k0 : List (Key × V)}, Isk K G l kvs → Isk K G l0 k0 → Isk K G (l.foldl (fun acc kv => insD acc kv.1 kv.2) l0) (kvs.foldl (fun acc kv => putK acc kv.1 kv.2) k0)
  | _, _, _, _, .nil, r => r
  | _, _, _, _, .cons h t, r => by rw [List.foldl_cons, List.foldl_cons]; exact Isk.dis t (r.put h _)
section
variable {K : PySem.W.Frag} {ρ ρ' : DEnv} {σ : Sl} {G H G' H' : Hp} {p : Addr} {o o2 : HO}
/-- from ahead of a new object that is not shown, to behind its change -/
theorem Stp.chgHid (R : Rep K G H ρ σ) (hp : H p = none) (s : Stp ρ σ G (upd H p o) ρ' σ G' H') (R' : Rep K G' H' ρ' σ) : H' p = some o ∧ G' p = none ∧ ¬ Mu false ρ' σ p ∧ ¬ Mu true ρ' σ p ∧ Stp ρ σ G H ρ' σ G' (upd H' p o2) ∧ Rep K G' (upd H' p o2) ρ' σ := by
  have no : ∀ b, ¬ Mu b ρ σ p := fun b ⟨i, d, e1, e2⟩ => by
    obtain ⟨a, e3, _, e4⟩ := R.mu i b d e1
    rw [e2] at e3; cases e3
    obtain ⟨o, ho⟩ := e4.there
    rw [hp] at ho; cases ho
  have k1 : H' p = some o := s.h p o (no false) (no true) upd_same
  have k2 : G' p = none := by
    cases q : G' p with
    | none => rfl
    | some u =>
      rcases s.n p (sub_none R.sub hp) (by rw [q]; exact fun z => by cases z) with z | z
      · rw [upd_same] at z; cases z
      · exact (no false z).elim
  have k3 : ¬ Mu false ρ' σ p := fun m => by
    rcases s.ow p m with z | z
    · exact no false z
    · rw [upd_same] at z; cases z
  have k4 : ¬ Mu true ρ' σ p := fun m => no true (s.io_back m)
  have back : ∀ b, upd H p o b = none → H b = none := fun b q => by
    by_cases z : b = p
    · subst z; exact hp
    · rwa [upd_ne z] at q
  refine ⟨k1, k2, k3, k4, ⟨s.g, fun b u m1 m2 q => ?_, fun b q => ?_, fun b q1 q2 => (s.n b q1 q2).imp_left (back b), fun b m => (s.ow b m).imp_right (back b), s.io⟩, ⟨fun b u q => ?_, R'.len, R'.vl, fun i b d e => ?_, R'.ap⟩⟩
  · have z : b ≠ p := ne_of_none q hp
    rw [upd_ne z]
    exact s.h b u m1 m2 (by rw [upd_ne z]; exact q)
  · by_cases z : b = p
    · subst z; rw [upd_same] at q; cases q
    · rw [upd_ne z] at q; exact back b (s.t b q)
  · have z : b ≠ p := ne_of_none q k2
    rw [upd_ne z]; exact R'.sub b u q
  · obtain ⟨a, e1, e2, e3⟩ := R'.mu i b d e
    have z : a ≠ p := fun z => by
      subst z
      cases b with
      | false => exact k3 ⟨i, d, e, e1⟩
      | true => exact k4 ⟨i, d, e, e1⟩
    exact ⟨a, e1, e2, e3.mono (fun _ _ q => q) fun u q => by rw [upd_ne z]; exact q⟩
end
section
variable {X : Cx} {W : WX} {pos : Pos} {keys : List (Option Expr)} {values : List Expr} {fs : List ((DEnv → R D) × (DEnv → R D))} {k v : Expr} {fk fv : DEnv → R D}
abbrev DPs (X : Cx) (W : WX) (pos : Pos) (keys : List (Option Expr)) (values : List Expr) (fs : List ((DEnv → R D) × (DEnv → R D))) : Prop := PPs X pos keys values (fs.map fun f => (tD X.K W f.1, tD X.K W f.2))
theorem dps_nil : DPs X W pos [] [] [] := pps_nil
theorem dps_cons (hk : DE X W k fk) (hv : DE X W v fv) (h : DPs X W pos keys values fs) : DPs X W pos (some k :: keys) (v :: values) ((fk, fv) :: fs) := pps_cons hk hv h
theorem df_disp (h : DPs X W pos keys values fs) (hall : keys.all (·.isSome) = true := by rfl) (hl : keys.length = values.length := by rfl) (h0 : keys ≠ [] := by simp) (h15 : keys.length ≤ 15 := by decide) : DF' X W (.Dict keys values pos) (dDisp fs) :=
  pe_imp (pe_disp h hall hl h0 h15) fun σ H Q ⟨ρ, G, R, h⟩ p hp => by
    have N : New G H G (upd H p (.dK [])) := New.hid R.sub hp
    refine tps fs (N.rep R) ?_
    unfold dDisp at h
    cases e : vPs fs ρ with
    | no => rw [e] at h; exact h
    | ex ρ' ee =>
      rw [e] at h
      exact fun G' H' d s R' he => h G' H' d ((N.stp R).trans R s) R' he
    | ok ρ' l =>
      rw [e] at h
      have h : Go X.K W σ ρ G H _ (if l.length ≤ 15 then DF.R.ok ρ' (D.dic (disD l)) else DF.R.no) := h
      split at h
      · rename_i hn
        intro G' H' s R' kvs hk
        obtain ⟨k1, k2, k3, k4, s2, R2⟩ := Stp.chgHid (o2 := .dK (mergeK [] kvs)) R hp s R'
        exact ⟨k1, kvs, rfl, by rw [← hk.length]; exact hn, h G' _ s2 R2 p k2 k3 k4 hp ⟨_, upd_same, hk.dis .nil⟩⟩
      · exact False.elim h
end
end DF

/-! != of two lists whose items are all equal, within one model -/
namespace DF
open PySem PySem.SeqAt
open AutoSeq1 (wpAny_loadPart')
open MeetsSeq MeetsSeq2 MeetsSeq3 SeqRoads2
section
variable {prog : Program} {w : World}
/-- what both bodies ask for: the two lists, equal items, and the end -/
def NeQ (prog : Program) (w : World) (l b : Addr) (o o2 : Obj) (us ws : Array Value) : Around → (Result → Shared → Prop) → Shared → Prop := fun A R s =>
  s.heap.get? l = some o ∧ s.heap.get? b = some o2 ∧ (∀ j (h1 : j < us.size) (h2 : j < ws.size), EqP prog w A.in1 s us[j] ws[j] true) ∧ R (.ok (.ret (.bool false))) s
theorem ne_turn (l b : Addr) (us ws : Array Value) (n n2 : Nat) (dd dd2 : Option Addr) (sl sl2 : Array (Option Value)) (hsz : us.size = ws.size) : ∀ (k i : Nat), us.size - i = k →
    MeetsIn prog w (Builtin.«list.__eq__.loop» ⟨[.ref l, .ref b, rawInt i, rawInt 3], []⟩) (NeQ prog w l b { cls := .type "list", dict := dd, data := .seq us n, slots := sl } { cls := .type "list", dict := dd2, data := .seq ws n2, slots := sl2 } us ws)
  | 0, i, hk => by
    rintro A R ⟨hp, g, d, tk, os⟩ ⟨hl, hb, he, h⟩
    have e1 : us[((i : Nat) : Int).toNat]? = none := by simp; omega
    have e2 : ws[((i : Nat) : Int).toNat]? = none := by simp; omega
    wp_walk using wpAny_loadPart' hl, wpAny_loadPart' hb
    rw [e1, e2]
    wp_walk using wpAny_loadPart' hl, wpAny_loadPart' hb
    show R (.ok (.ret (.bool (us.size != ws.size)))) _
    rw [hsz, bne_self_eq_false]
    exact h
  | k + 1, i, hk => by
    rintro A R ⟨hp, g, d, tk, os⟩ ⟨hl, hb, he, h⟩
    have l1 : i < us.size := by omega
    have l2 : i < ws.size := by omega
    have e1 : us[((i : Nat) : Int).toNat]? = some us[i] := by simp [l1]
    have e2 : ws[((i : Nat) : Int).toNat]? = some ws[i] := by simp [l2]
    wp_walk using wpAny_loadPart' hl, wpAny_loadPart' hb
    rw [e1, e2]
    refine wpAny_bind (he i l1 l2 _ _ ?_)
    wp_walk
    rw [show ((i : Int) + 1) = ((i + 1 : Nat) : Int) by push_cast; rfl]
    exact ⟨plainId_quiet plain_eq_loop _, codeAny_builtin entry_eq_loop (by
      rw [Around.under_plainId plain_eq_loop _]
      exact ne_turn l b us ws n n2 dd dd2 sl sl2 hsz k (i + 1) (by omega) A R _ ⟨hl, hb, he, h⟩)⟩
theorem ne_body (l b : Addr) (us ws : Array Value) (n n2 : Nat) (dd dd2 : Option Addr) (sl sl2 : Array (Option Value)) (hsz : us.size = ws.size) :
    MeetsIn prog w (Builtin.«list.__ne__» ⟨[.ref l, .ref b], []⟩) (NeQ prog w l b { cls := .type "list", dict := dd, data := .seq us n, slots := sl } { cls := .type "list", dict := dd2, data := .seq ws n2, slots := sl2 } us ws) := by
  rintro A R ⟨hp, g, d, tk, os⟩ ⟨hl, hb, he, h⟩
  have f3 := AutoSeq1.sub_list_list
  have hne : ¬ (us.size != ws.size) = true := by simp [hsz]
  wp_walk using wpAny_loadPart' hl, wpAny_loadPart' hb
  exact ⟨plainId_quiet plain_eq_loop _, codeAny_builtin entry_eq_loop (by
    rw [Around.under_plainId plain_eq_loop _]
    exact ne_turn l b us ws n n2 dd dd2 sl sl2 hsz _ 0 rfl A R _ ⟨hl, hb, he, h⟩)⟩
theorem ne_lists {A : Around} {s : Shared} {l b : Addr} {us ws : Array Value} (hl : s.heap.IsList l us) (hb : s.heap.IsList b ws) (hsz : us.size = ws.size) (hu : A.units < cLine)
    (he : ∀ j (h1 : j < us.size) (h2 : j < ws.size), EqP prog w A.in1 s us[j] ws[j] true) (E Q : Value → Shared → Prop) (h : Q (.bool false) s) : wpAny (model prog w) A (richCompare .NotEq (.ref l) (.ref b)) Q E s := by
  obtain ⟨⟨_, dd, _, sl⟩, ho, rfl, n, rfl⟩ := id hl
  obtain ⟨⟨_, dd2, _, sl2⟩, ho2, rfl, n2, rfl⟩ := id hb
  have ta : s.TypeIs (.ref l) "list" := ⟨_, ho, rfl⟩
  exact wpAny_richCompare_same_room (op := .NotEq) ta ⟨_, ho2, rfl⟩ F.slot_list_ne (call_meetsIn F.slot_list_ne ta F.entry_list_ne (F.args_list_ne_2 _ _) (ne_body l b us ws n n2 dd dd2 sl sl2 hsz) ⟨ho, ho2, he, ⟨(fun x => nomatch x), h⟩⟩) hu
end
end DF

/-! == and != of two lists whose items are plain data and dicts of plain data; told only where all items are equal, or the lengths differ -/
namespace DF
open PySem PySem.Spec PyProof.Rows L2
def deqB (x y : D) : Bool := match eqP x y with
  | some b => b
  | none => match eqKB x y with
    | some b => b
    | none => false
def deqsB : List D → List D → Bool
  | [], [] => true
  | x :: l, y :: m => deqB x y && deqsB l m
  | _, _ => false
def eqLB (x y : D) : Option Bool := match listOf x, listOf y with
  | some l, some m => if l.length = m.length then (if deqsB l m = true then some true else none) else some false
  | _, _ => none
def eqL (x y : D) : Option D := (eqLB x y).map .bl
def neL (x y : D) : Option D := (eqLB x y).map fun b => .bl (!b)
/-- two equal items -/
def DeqV (K : PySem.W.Frag) (H : Hp) (x y : V) : Prop := (∃ p q, Dp K H x p ∧ Dp K H y q ∧ SeqAt.shaped p = true ∧ SeqAt.shaped q = true ∧ p.eqv q = true) ∨
  ∃ a b ks ls r, x = .ref a ∧ y = .ref b ∧ Rd H a (.dK ks) ∧ Rd H b (.dK ls) ∧ HitsV K H ls ks r ∧ (ks.length == ls.length && r) = true
theorem deqV_run {X : Cx} {pins : List (Addr × Obj)} {σ : L2.St} {H : Hp} {s : Shared} (I : L2.Inv X pins σ H s) (hu : X.A.units + 80 < cLine) {x y : V} {v u : Value} (h : DeqV X.K H x y) (rx : RelV x v) (ry : RelV y u) : SeqAt.EqP X.prog X.w X.A.in1 s v u true := by
  rcases h with ⟨p, q, h1, h2, h3, h4, h5⟩ | ⟨a, b, ks, ls, r, rfl, rfl, ha, hb, hh, hr⟩
  · obtain ⟨as, r1⟩ := Dp.reads I p x v h1 rx
    obtain ⟨bs, r2⟩ := Dp.reads I q y u h2 ry
    have k := PySem.W.keq_at (A := X.A) r1 r2 h3 h4 (by show X.A.units + 1 + 64 < cLine; omega)
    rw [h5] at k
    exact k.eqP
  · cases (show v = Value.ref a from rx)
    cases (show u = Value.ref b from ry)
    obtain ⟨_, ya, va, ra, da⟩ := dk_rd I.hok ha
    obtain ⟨_, yb, vb, rb, db⟩ := dk_rd I.hok hb
    by_cases e : a = b
    · subst e
      exact (SeqAt.EqAt.same _).eqP
    · refine SeqAt.eqP_refs e fun E Q hq => ?_
      refine PySem.W.keq_eq (knd := mixKind X.prog X.w) (r := r) ya yb da db (by show X.A.units + 1 < cLine; omega) (fun _ => hitsV_run I (A := X.A.in1) (by show X.A.units + 1 + 1 + 64 < cLine; omega) rb hh ra) ?_
      have e1 : ks.length = va.length := Paired.length ra
      have e2 : ls.length = vb.length := Paired.length rb
      rw [← e1, ← e2, hr]
      exact hq
def rEqL (K : PySem.W.Frag) : R2 := fun x y H Q => ∃ a b xs ys r, x = .ref a ∧ y = .ref b ∧ SqL K H a xs ∧ SqL K H b ys ∧ ((xs.length ≠ ys.length ∧ r = false) ∨ (Paired (DeqV K H) xs ys ∧ r = true)) ∧ Q (.bl r) H
def rNeL (K : PySem.W.Frag) : R2 := fun x y H Q => ∃ a b xs ys r, x = .ref a ∧ y = .ref b ∧ SqL K H a xs ∧ SqL K H b ys ∧ ((xs.length ≠ ys.length ∧ r = false) ∨ (Paired (DeqV K H) xs ys ∧ r = true)) ∧ Q (.bl (!r)) H
theorem deqs_run {X : Cx} {pins : List (Addr × Obj)} {σ : L2.St} {H : Hp} {s : Shared} (I : L2.Inv X pins σ H s) (hu : X.A.units + 80 < cLine) {xs ys : List V} (hp : Paired (DeqV X.K H) xs ys) :
    ∀ {us ws : List Value}, Vals xs us → Vals ys ws → ∀ j (h1 : j < us.length) (h2 : j < ws.length), SeqAt.EqP X.prog X.w X.A.in1 s us[j] ws[j] true := by
  induction hp with
  | nil =>
    intro us ws r1 r2 j h1 h2
    cases r1
    exact absurd h1 (Nat.not_lt_zero j)
  | cons h _ ih =>
    intro us ws r1 r2 j h1 h2
    cases r1 with
    | cons a1 b1 => cases r2 with
      | cons a2 b2 => cases j with
        | zero => exact deqV_run I hu h a1 a2
        | succ j => exact ih b1 b2 j (Nat.lt_of_succ_lt_succ h1) (Nat.lt_of_succ_lt_succ h2)
theorem all_true (n : Nat) : ((List.range n).all fun _ => true) = true := List.all_eq_true.mpr fun _ _ => rfl
theorem op_eqL {X : Cx} (hu : X.A.units + 80 < cLine) : OpR X (compareOp .Eq) (rEqL X.K) := by
  intro pins s σ H x y v u Q I rx ry h
  obtain ⟨a, b, xs, ys, r, rfl, rfl, ha, hb, hh, q⟩ := h
  cases (show v = Value.ref a from rx)
  cases (show u = Value.ref b from ry)
  obtain ⟨us, r1, p1, _⟩ := I.list ha
  obtain ⟨ws, r2, p2, _⟩ := I.list hb
  rcases hh with ⟨hn, rfl⟩ | ⟨hp, rfl⟩
  · exact SeqAt.RcAt.lists_lengths p1.isList p2.isList (by rw [List.size_toArray, List.size_toArray, ← r1.length, ← r2.length]; exact bne_iff_ne.mpr hn) (by omega) _ _ _ _ ⟨.bl false, H, I, rfl, q⟩
  · refine SeqAt.rcP_lists (e := fun _ => true) p1.isList p2.isList (by rw [List.size_toArray, List.size_toArray, ← r1.length, ← r2.length]; exact Paired.length hp) (by omega) (fun j h1 h2 => ?_) _ _ ?_
    · have k := deqs_run I hu hp r1 r2 j (by simpa using h1) (by simpa using h2)
      simpa using k
    · rw [all_true]
      exact ⟨.bl true, H, I, rfl, q⟩
theorem op_neL {X : Cx} (hu : X.A.units + 80 < cLine) : OpR X (compareOp .NotEq) (rNeL X.K) := by
  intro pins s σ H x y v u Q I rx ry h
  obtain ⟨a, b, xs, ys, r, rfl, rfl, ha, hb, hh, q⟩ := h
  cases (show v = Value.ref a from rx)
  cases (show u = Value.ref b from ry)
  obtain ⟨us, r1, p1, _⟩ := I.list ha
  obtain ⟨ws, r2, p2, _⟩ := I.list hb
  rcases hh with ⟨hn, rfl⟩ | ⟨hp, rfl⟩
  · exact SeqAt.RcNeAt.lists_lengths p1.isList p2.isList (by rw [List.size_toArray, List.size_toArray, ← r1.length, ← r2.length]; exact bne_iff_ne.mpr hn) (by omega) _ _ _ _ ⟨.bl true, H, I, rfl, q⟩
  · refine ne_lists p1.isList p2.isList (by rw [List.size_toArray, List.size_toArray, ← r1.length, ← r2.length]; exact Paired.length hp) (by omega) (fun j h1 h2 => ?_) _ _ ⟨.bl false, H, I, rfl, q⟩
    have k := deqs_run I hu hp r1 r2 j (by simpa using h1) (by simpa using h2)
    simpa using k
theorem deq_of {K : PySem.W.Frag} {G H : Hp} (eS : Evl.Ex G H) {x y : D} {v u : V} (hx : Is K G x v) (hy : Is K G y u) (e : deqB x y = true) : DeqV K H v u := by
  unfold deqB at e
  split at e
  · rename_i b e1
    subst e
    obtain ⟨p, q, t1, t2, s1, s2, e3⟩ := eqP_of e1
    exact .inl ⟨p, q, Is.dp eS hx t1, Is.dp eS hy t2, s1, s2, e3.symm⟩
  · split at e
    · rename_i b e1
      subst e
      obtain ⟨a, c, ks, ls, r, rfl, rfl, q1, q2, q3, q4⟩ := eqKB_run eS (hx.top eS) (hy.top eS) e1
      exact .inr ⟨a, c, ks, ls, r, rfl, rfl, q1, q2, q3, q4.symm⟩
    · cases e
theorem deqs_of {K : PySem.W.Frag} {G H : Hp} (eS : Evl.Ex G H) : ∀ {l m : List D} {xs ys : List V}, Iss K G l xs → Iss K G m ys → deqsB l m = true → Paired (DeqV K H) xs ys
  | _, _, _, _, .nil, .nil, _ => .nil
  | _, _, _, _, .cons h r, .cons h2 r2, e => by
    unfold deqsB at e
    rw [Bool.and_eq_true] at e
    exact .cons (deq_of eS h h2 e.1) (deqs_of eS r r2 e.2)
  | _, _, _, _, .nil, .cons _ _, e => by cases e
  | _, _, _, _, .cons _ _, .nil, e => by cases e
theorem eqLB_run {K : PySem.W.Frag} {G H : Hp} (eS : Evl.Ex G H) {x y : D} {v u : V} {r : Bool} (hx : Top K G H x v) (hy : Top K G H y u) (e : eqLB x y = some r) :
    ∃ a b xs ys, v = .ref a ∧ u = .ref b ∧ SqL K H a xs ∧ SqL K H b ys ∧ ((xs.length ≠ ys.length ∧ r = false) ∨ (Paired (DeqV K H) xs ys ∧ r = true)) := by
  unfold eqLB at e
  split at e
  · rename_i l m e1 e2
    obtain ⟨a, xs, rfl, q1, q2⟩ := listOf_top eS hx e1
    obtain ⟨b, ys, rfl, q3, q4⟩ := listOf_top eS hy e2
    split at e
    · split at e
      · rename_i h
        cases e
        exact ⟨a, b, xs, ys, rfl, rfl, q1, q3, .inr ⟨deqs_of eS q2 q4 h, rfl⟩⟩
      · cases e
    · rename_i hn
      cases e
      exact ⟨a, b, xs, ys, rfl, rfl, q1, q3, .inl ⟨by rw [← q2.length, ← q4.length]; exact hn, rfl⟩⟩
  · cases e
theorem ops_eqL {K : PySem.W.Frag} : OpS K (rEqL K) eqL := fun x y z v u G H Q eS hx hy e k => by
  unfold eqL at e
  cases e1 : eqLB x y with
  | none => rw [e1] at e; cases e
  | some b =>
    rw [e1] at e; cases e
    obtain ⟨a, c, xs, ys, rfl, rfl, q1, q2, q3⟩ := eqLB_run eS hx hy e1
    exact ⟨a, c, xs, ys, b, rfl, rfl, q1, q2, q3, k _ G H (New.refl eS) (.bl _)⟩
theorem ops_neL {K : PySem.W.Frag} : OpS K (rNeL K) neL := fun x y z v u G H Q eS hx hy e k => by
  unfold neL at e
  cases e1 : eqLB x y with
  | none => rw [e1] at e; cases e
  | some b =>
    rw [e1] at e; cases e
    obtain ⟨a, c, xs, ys, rfl, rfl, q1, q2, q3⟩ := eqLB_run eS hx hy e1
    exact ⟨a, c, xs, ys, b, rfl, rfl, q1, q2, q3, k _ G H (New.refl eS) (.bl _)⟩
theorem RoomG.u80 {k : Nat} {A : Around} (r : RoomG k A) : A.units + 80 < cLine := by have := r.room.un; omega
def eqY : D → D → Option D := orD eqX eqL
def neY : D → D → Option D := orD neX neL
end DF

/-! objects -/
namespace DF
open PySem PySem.Spec PyProof.Rows L2
/-- what is known of a class -/
structure ClsT (K : PySem.W.Frag) (cn : Str) (C : Addr) : Prop where
  ns : PySem.W.nsIn K mainGlobals cn = some (some (.ref C))
  cl : Cls K C
/-! ### o.f -/
def fldD (cn f : Str) (d : D) : Option D := match d with
  | .obj c fs => if c = cn then fs.lookup f else none
  | _ => none
theorem Isf.look {K : PySem.W.Frag} {G : Hp} {f : Str} : ∀ {fs : List (Str × D)} {fv : List (Str × V)} {d : D}, Isf K G fs fv → fs.lookup f = some d → ∃ v, fv.lookup f = some v ∧ Is K G d v
  | _, _, d, .nil, e => by cases e
  | _, _, d, @Isf.cons _ _ k d0 v0 l xs h r, e => by
    rw [List.lookup_cons] at e
    by_cases hk : f == k
    · rw [hk] at e
      cases e
      exact ⟨v0, by rw [List.lookup_cons, hk], h⟩
    · rw [Bool.not_eq_true] at hk
      rw [hk] at e
      obtain ⟨v, e1, e2⟩ := Isf.look r e
      exact ⟨v, by rw [List.lookup_cons, hk]; exact e1, e2⟩
section
variable {X : Cx} {W : WX} {e : Expr} {es : List Expr} {f cn : Str} {C : Addr} {p pos apos : Pos}
theorem de_fld {fo : DEnv → R Th} (T : ClsT X.K cn C) (n : NoAttr X.K C f) (ho : DO X W e fo) (hb : attributeBase e f X.env (eval e X.env) = eval e X.env := by rfl) : DE X W (.Attribute e f pos) (dUn (fldD cn f) fo) :=
  pe_imp (pe_fld ho hb) fun σ H Q ⟨ρ, G, R, h⟩ => ⟨ρ, G, R, (Go.bind R h).imp fun t ρ1 G1 H1 s1 R1 h1 v hv => by
    split at h1
    · rename_i d e1
      unfold fldD at h1
      split at h1
      · rename_i c fs
        split at h1
        · rename_i hc
          subst hc
          obtain ⟨a, C', dx, fv, rfl, q1, q2, q3⟩ := hv ρ1 G1 H1 _ .refl R1 e1
          have hC : C' = C := by
            have := q2.symm.trans T.ns
            cases this
            rfl
          subst hC
          cases el : fs.lookup f with
          | none => rw [el] at h1; exact False.elim h1
          | some d =>
            rw [el] at h1
            obtain ⟨u, e2, e3⟩ := q3.look el
            exact ⟨a, C', dx, fv, u, rfl, q1, T.cl, n, e2, h1 G1 H1 .refl R1 u e3⟩
        · exact False.elim h1
      · exact False.elim h1
    · exact False.elim h1⟩
/-! ### self.f = e -/
def putFD (f : Str) (d : D) : List (Str × D) → List (Str × D)
  | [] => [(f, d)]
  | (g, x) :: r => if g = f then (g, d) :: r else (g, x) :: putFD f d r
theorem Isf.put {K : PySem.W.Frag} {G : Hp} {f : Str} {d : D} {v : V} (hd : Is K G d v) : ∀ {fs : List (Str × D)} {fv : List (Str × V)}, Isf K G fs fv → Isf K G (putFD f d fs) (putF f v fv)
  | _, _, .nil => .cons hd .nil
  | _, _, @Isf.cons _ _ k d0 v0 l xs h r => by
    unfold putFD putF
    by_cases hk : k = f
    · rw [if_pos hk, if_pos hk]
      exact .cons hd r
    · rw [if_neg hk, if_neg hk]
      exact .cons h (Isf.put hd r)
theorem Isf.length {K : PySem.W.Frag} {G : Hp} : ∀ {fs : List (Str × D)} {fv : List (Str × V)}, Isf K G fs fv → fs.length = fv.length
  | _, _, .nil => rfl
  | _, _, .cons _ r => congrArg (· + 1) (Isf.length r)
def muO (i : Nat) (ρ : DEnv) : Option (Bool × Str × List (Str × D)) := match ρ[i]? with
  | some (some (.mu b (.obj c fs))) => some (b, c, fs)
  | _ => none
theorem muO_of {ρ : DEnv} {i : Nat} {b : Bool} {c : Str} {fs : List (Str × D)} (h : muO i ρ = some (b, c, fs)) : ρ[i]? = some (some (.mu b (.obj c fs))) := by
  unfold muO at h
  split at h
  · rename_i b' c' l' e; cases h; exact e
  · cases h
def dSetA (cn f : Str) (i : Nat) (fe : DEnv → R D) : DEnv → SR := fun ρ => (fe ρ).bindS fun d ρ1 => match muO i ρ1 with
  | some (b, c, fs) => if c = cn ∧ fs.length < 900 then .nx (ρ1.set i (some (.mu b (.obj c (putFD f d fs))))) else .no
  | none => .no
theorem ds_seta {i : Nat} {o : Expr} {p1 : Pos} {fe : DEnv → R D} (T : ClsT X.K cn C) (n : NoAttr X.K C f) (ho : PE X o (tVar i)) (he : DE X W e fe) (hs : swapsWith e (some (.Attribute o f p1)) pos.line X.env = pure false := by rfl) :
    DS X W (.Assign [.Attribute o f p1] e pos) (dSetA cn f i fe) :=
  ps_imp (ps_fld ho he hs) fun E σ H ⟨ρ, G, R, h⟩ => ⟨ρ, G, R, (Go.bindS R h).imp fun d ρ1 G1 H1 s1 R1 h1 v hv => by
    split at h1
    · rename_i b c fs e1
      have e1 := muO_of e1
      obtain ⟨a, ea, e2, C', dx, fv, e3, e4, e5⟩ := R1.mu i b _ e1
      split at h1
      · rename_i hc
        obtain ⟨hc, hl⟩ := hc
        subst hc
        have hC : C' = C := by
          have := e4.symm.trans T.ns
          cases this
          rfl
        subst hC
        obtain ⟨s2, R2⟩ := R1.chg (o := .ins C' dx (putF f v fv)) (d1 := .obj c (putFD f d fs)) e1 ea ⟨C', dx, _, upd_same, e4, e5.put hv⟩
        exact ⟨.ref a, ea, a, C', dx, fv, rfl, e3, T.cl, n, by rw [← e5.length]; omega, h1 σ G1 _ s2 R2⟩
      · exact False.elim h1
    · exact False.elim h1⟩
/-! ### calls whose arguments stay -/
theorem argsV {K : PySem.W.Frag} {G H : Hp} : ∀ {l : List D} {vs : List V}, Iss K G l vs → ArgsIs K G H (l.map fun d => (false, d)) vs ∧ ioA (l.map fun d => (false, d)) vs = []
  | _, _, .nil => ⟨.nil, rfl⟩
  | _, _, .cons h r => ⟨.val h (argsV r).1, (argsV (H := H) r).2⟩
theorem vstp {K : PySem.W.Frag} {ρ : DEnv} {σ : Sl} {G H G' H' : Hp} (R : Rep K G H ρ σ) (fs : FStp [] G H G' H') : Stp ρ σ G H ρ σ G' H' ∧ Rep K G' H' ρ σ := by
  refine ⟨⟨fs.g, fun b o _ _ e => fs.h b o (by simp) e, fs.t, fun b q1 q2 => .inl (fs.n b q1 q2), fun _ m => .inl m, fun _ => ⟨fun d e => ⟨d, e, rfl⟩, fun d e => ⟨d, e⟩⟩⟩, ⟨fs.s, R.len, fun i d e => ?_, fun i b d e => ?_, R.ap⟩⟩
  · obtain ⟨v, e1, e2⟩ := R.vl i d e
    exact ⟨v, e1, e2.mono fs.g⟩
  · obtain ⟨a, e1, e2, e3⟩ := R.mu i b d e
    refine ⟨a, e1, ?_, e3.mono fs.g fun o q => fs.h a o (by simp) q⟩
    cases q : G' a with
    | none => rfl
    | some o =>
      have := fs.n a e2 (by rw [q]; exact fun z => by cases z)
      obtain ⟨o', y⟩ := e3.there
      rw [this] at y; cases y
/-- what a def answers for values -/
def vRes (ar : Nat) (F : Fn) (l : List D) (ρ : DEnv) : R (Bool × D) := if l.length = ar then match F (l.map fun d => (false, d)) with
    | .ret fr d [] => .ok ρ (fr, d)
    | _ => .no
  else .no
theorem vsp {K : PySem.W.Frag} {W : WX} {ar : Nat} {F : Fn} {l : List D} {vs : List V} {ρ : DEnv} {σ : Sl} {G H H0 : Hp} {Q : VK} {E : XK} (R : Rep K G H ρ σ) (hl : Iss K G l vs) (hH : ∀ b, H b = none → H0 b = none)
    (h : Go K W σ ρ G H (fun (p : Bool × D) ρ' G' H' => ∀ v, XIs K σ ρ' G' H' H0 p v → Q v H') (vRes ar F l ρ)) : spD K ar F vs H Q E := by
  unfold vRes at h
  split at h
  · rename_i hn
    obtain ⟨ha, hio⟩ := argsV (H := H) hl
    refine ⟨hl.length.symm.trans hn, G, _, R.sub, ha, by rw [hio]; exact List.nodup_nil, ?_⟩
    split at h
    · rename_i fr d eF
      rw [eF]
      intro v G' H' fs ho hr
      rw [hio] at fs
      obtain ⟨s2, R2⟩ := vstp R fs
      refine h G' H' s2 R2 v ?_
      cases fr with
      | false => exact hr
      | true =>
        obtain ⟨a, rfl, q1, q2, q3⟩ := hr
        have no : ∀ b, ¬ Mu b ρ σ a := fun b ⟨j, d', z1, z2⟩ => by
          obtain ⟨a', y3, _, y4⟩ := R.mu j b _ z1
          rw [z2] at y3; cases y3
          obtain ⟨o, ho⟩ := y4.there
          rw [q2] at ho; cases ho
        exact ⟨a, rfl, q1, no false, no true, hH a q2, q3⟩
    · exact False.elim h
  · exact False.elim h
end

section
variable {X : Cx} {W : WX} {o e : Expr} {es : List Expr} {f cn x m : Str} {C g pr : Addr} {p pos apos : Pos} {k ar : Nat} {fd : FuncData} {ps : List Str} {F : Fn}
/-! ### C(..) -/
def dMake (cn : Str) (ar : Nat) (F : Fn) (f : DEnv → R (List D)) : DEnv → R D := fun ρ => (f ρ).bind fun l ρ1 => if l.length + 1 = ar then match F ((true, .obj cn []) :: l.map fun d => (false, d)) with
    | .ret false .non [.obj c fs] => if c = cn then .ok ρ1 (.obj c fs) else .no
    | _ => .no
  else .no
theorem df_make {fa : DEnv → R (List D)} (T : ClsT X.K cn C) (M : Mk X.K C g) (FO : FnG X.prog X.w X.K X.mg X.base (L2.CX X.prog X.w) k g fd ps (spD X.K ar F)) (hr : RoomG (k + 1) X.A) (hg : Gl X x) (hm : X.mg x = some (.ref C)) (hb : Binds X.K fd ps [])
    (ha : DVs X W (e :: es) fa) (hdb : (x == ("__debug__" : Str)) = false := by decide) (he : starEach (e :: es) X.env = (false, eval e X.env) :: starEach es X.env := by rfl) (hpl : (backTo pos (starEach es X.env)).any (·.1) = false := by rfl) :
    DF' X W (.Call (.Name x p) (e :: es) [] pos) (dMake cn ar F fa) :=
  pe_imp (pe_makeG M FO hr hg hm hb ha hdb he hpl) fun σ H Q ⟨ρ, G, R, h⟩ => ⟨ρ, G, R, (Go.bind R h).imp fun l ρ1 G1 H1 s1 R1 h1 vs hv a dx na nd hne => by
    split at h1
    case isFalse => exact False.elim h1
    rename_i hn
    rw [List.append_nil]
    have n1 : upd (upd H1 dx (.own a)) a (.ins C dx []) a = some (.ins C dx []) := upd_same
    have keep : ∀ b o, H1 b = some o → upd (upd H1 dx (.own a)) a (.ins C dx []) b = some o := fun b o q => by
      rw [upd_ne (ne_of_none q na), upd_ne (ne_of_none q nd)]; exact q
    have back : ∀ b, upd (upd H1 dx (.own a)) a (.ins C dx []) b = none → H1 b = none := fun b q => by
      by_cases z : b = a
      · subst z; rw [upd_same] at q; cases q
      · rw [upd_ne z] at q
        by_cases z2 : b = dx
        · subst z2; rw [upd_same] at q; cases q
        · rw [upd_ne z2] at q; exact q
    have eS : Evl.Ex G1 (upd (upd H1 dx (.own a)) a (.ins C dx [])) := fun b o q => keep b o (R1.sub b o q)
    have gN : G1 a = none := sub_none R1.sub na
    obtain ⟨hA, hio⟩ := argsV (H := upd (upd H1 dx (.own a)) a (.ins C dx [])) hv
    have hio2 : ioA ((true, D.obj cn []) :: l.map fun d => (false, d)) (V.ref a :: vs) = [a] := by
      show a :: ioA (l.map fun d => (false, d)) vs = [a]
      rw [hio]
    refine ⟨by rw [List.length_cons, ← hv.length]; exact hn, G1, (true, .obj cn []) :: l.map fun d => (false, d), eS, .io gN ⟨C, dx, [], n1, T.ns, .nil⟩ hA, by rw [hio2]; simp, ?_⟩
    split at h1
    case h_2 => exact False.elim h1
    rename_i c fs eF
    split at h1
    case isFalse => exact False.elim h1
    rename_i hc
    subst hc
    rw [eF]
    intro v G' H' ft ho hrr
    rw [hio2] at ft
    have hrv : v = .non := by cases hrr; rfl
    have hC : Cont X.K G' H' a (.obj c fs) := by
      cases ho with
      | io h _ => exact h
    have gN' : G' a = none := by
      cases q : G' a with
      | none => rfl
      | some o =>
        have := ft.n a gN (by rw [q]; exact fun z => by cases z)
        rw [n1] at this; cases this
    have s2 : Stp ρ1 σ G1 H1 ρ1 σ G' H' := ⟨ft.g, fun b o _ _ q => ft.h b o (by
        rw [List.mem_singleton]
        exact ne_of_none q na) (keep b o q), fun b q => back b (ft.t b q), fun b q1 q2 => .inl (back b (ft.n b q1 q2)), fun _ q => .inl q, fun _ => ⟨fun d q => ⟨d, q, rfl⟩, fun d q => ⟨d, q⟩⟩⟩
    have R2 : Rep X.K G' H' ρ1 σ := ⟨ft.s, R1.len, fun i d q => by
        obtain ⟨v, e1, e2⟩ := R1.vl i d q
        exact ⟨v, e1, e2.mono ft.g⟩, fun i b d q => by
        obtain ⟨a', e1, e2, e3⟩ := R1.mu i b d q
        obtain ⟨o', y⟩ := e3.there
        refine ⟨a', e1, ?_, e3.mono ft.g fun o q => ft.h a' o (by rw [List.mem_singleton]; exact ne_of_none q na) (keep a' o q)⟩
        cases q2 : G' a' with
        | none => rfl
        | some o =>
          have := back a' (ft.n a' e2 (by rw [q2]; exact fun z => by cases z))
          rw [this] at y
          exact (by cases y), R1.ap⟩
    have no : ∀ b, ¬ Mu b ρ1 σ a := fun b ⟨j, d', z1, z2⟩ => by
      obtain ⟨a', y3, _, y4⟩ := R1.mu j b _ z1
      rw [z2] at y3; cases y3
      obtain ⟨o, ho⟩ := y4.there
      rw [na] at ho; cases ho
    exact ⟨hrv, h1 G' H' s2 R2 a gN' (no false) (no true) (s1.t a na) hC⟩⟩
/-! ### o.m(..), o.p -/
theorem Isf.lookN {K : PySem.W.Frag} {G : Hp} {f : Str} : ∀ {fs : List (Str × D)} {fv : List (Str × V)}, Isf K G fs fv → (fs.lookup f).isNone = true → fv.lookup f = none
  | _, _, .nil, _ => rfl
  | _, _, @Isf.cons _ _ k d0 v0 l xs h r, e => by
    rw [List.lookup_cons] at e ⊢
    by_cases hk : f == k
    · rw [hk] at e
      cases e
    · rw [Bool.not_eq_true] at hk
      rw [hk] at e ⊢
      exact Isf.lookN r e
def dMeth (cn m : Str) (ar : Nat) (F : Fn) (fo : DEnv → R D) (fa : DEnv → R (List D)) : DEnv → R (Bool × D) := fun ρ => (fo ρ).bind fun d ρ1 => match d with
  | .obj c fs => if c = cn ∧ (fs.lookup m).isNone = true then (fa ρ1).bind fun l ρ2 => vRes ar F (.obj c fs :: l) ρ2 else .no
  | _ => .no
theorem tmeth {fo : DEnv → R D} {fa : DEnv → R (List D)} (T : ClsT X.K cn C) : ∀ σ H Q, tX X.K W (dMeth cn m ar F fo fa) σ H Q → tMeth C m (spD X.K ar F) [] E0 (tD X.K W fo) (tDs X.K W fa) σ H Q := fun σ H Q ⟨ρ, G, R, h⟩ => ⟨ρ, G, R, (Go.bind R h).imp fun d ρ1 G1 H1 s1 R1 h1 v hv => by
    split at h1
    · rename_i c fs
      split at h1
      · rename_i hc
        obtain ⟨hc, hnn⟩ := hc
        subst hc
        cases hv with
        | @obj c fs a C' dx fv q1 q2 q3 =>
          have hC : C' = C := by
            have := q2.symm.trans T.ns
            cases this
            rfl
          subst hC
          refine ⟨a, dx, fv, rfl, R1.sub _ _ q1, q3.lookN hnn, ρ1, G1, R1, (Go.bind R1 h1).imp fun l ρ2 G2 H2 s2 R2 h2 vs hvs => ?_⟩
          show spD X.K ar F (V.ref a :: (vs ++ [])) H2 Q E0
          rw [List.append_nil]
          exact vsp R2 (.cons (.obj (s2.g _ _ q1) q2 (q3.mono s2.g)) hvs) (fun b q => s1.t b (s2.t b q)) h2
      · exact False.elim h1
    · exact False.elim h1⟩
theorem dx_meth {fo : DEnv → R D} {fa : DEnv → R (List D)} {pl : Sem Bool} (T : ClsT X.K cn C) (hm : Meth X.K C m g) (FO : FnG X.prog X.w X.K X.mg X.base (L2.CX X.prog X.w) k g fd ps (spD X.K ar F)) (hr : RoomG k X.A) (hb : Binds X.K fd ps [])
    (ho : DE X W o fo) (ha : DVs X W (e :: es) fa)
    (hst : starEach (e :: es) X.env = (false, eval e X.env) :: starEach es X.env := by rfl) (hpl : (backTo pos (starEach es X.env)).any (·.1) = false := by rfl)
    (ht : eval (.Call (.Attribute o m apos) (e :: es) [] pos) X.env = (do
      let ov ← eval o X.env
      standAt apos.atName
      let (f, first) ← holding [ov] (getMethod ov m pl)
      callWith pos f first (backTo pos (starEach (e :: es) X.env)) (backToKw pos (keywordEach [] X.env))) := by rfl) : DX X W (.Call (.Attribute o m apos) (e :: es) [] pos) (dMeth cn m ar F fo fa) :=
  pe_imp (pe_methG (pl := pl) ho T.cl hm FO hr hb ha hst hpl ht) (tmeth T)
theorem dx_meth0 {fo : DEnv → R D} {pl : Sem Bool} (T : ClsT X.K cn C) (hm : Meth X.K C m g) (FO : FnG X.prog X.w X.K X.mg X.base (L2.CX X.prog X.w) k g fd ps (spD X.K ar F)) (hr : RoomG k X.A) (hb : Binds X.K fd ps [])
    (ho : DE X W o fo)
    (ht : eval (.Call (.Attribute o m apos) [] [] pos) X.env = (do
      let ov ← eval o X.env
      standAt apos.atName
      let (f, first) ← holding [ov] (getMethod ov m pl)
      callWith pos f first (backTo pos (starEach [] X.env)) (backToKw pos (keywordEach [] X.env))) := by rfl) : DX X W (.Call (.Attribute o m apos) [] [] pos) (dMeth cn m ar F fo vNil) :=
  pe_imp (pe_meth0G (pl := pl) ho T.cl hm FO hr hb ht) fun σ H Q h => by
    have q := tmeth (W := W) (fo := fo) (fa := vNil) T σ H Q h
    obtain ⟨ρ, G, R, q⟩ := q
    exact ⟨ρ, G, R, q.imp fun d ρ1 G1 H1 s1 R1 h1 v hv => by
      obtain ⟨a, dx, fs, e1, e2, e3, ρ2, G2, R2, h2⟩ := h1 v hv
      exact ⟨a, dx, fs, e1, e2, e3, h2 G2 _ .refl R2 [] .nil⟩⟩
/-- o.p, a property -/
def dProp (cn : Str) (F : Fn) (fo : DEnv → R D) : DEnv → R (Bool × D) := fun ρ => (fo ρ).bind fun d ρ1 => match d with
  | .obj c fs => if c = cn then vRes 1 F [.obj c fs] ρ1 else .no
  | _ => .no
theorem dx_prop {fo : DEnv → R D} (T : ClsT X.K cn C) (hp : PropOf X.K C f pr g) (FO : FnG X.prog X.w X.K X.mg X.base (L2.CX X.prog X.w) k g fd ps (spD X.K 1 F)) (hr : RoomG (k + 1) X.A) (hb : Binds X.K fd ps [])
    (ho : DE X W o fo) (hab : attributeBase o f X.env (eval o X.env) = eval o X.env := by rfl) : DX X W (.Attribute o f pos) (dProp cn F fo) :=
  pe_imp (pe_propG ho T.cl hp FO hr hb hab) fun σ H Q ⟨ρ, G, R, h⟩ => ⟨ρ, G, R, (Go.bind R h).imp fun d ρ1 G1 H1 s1 R1 h1 v hv => by
    split at h1
    · rename_i c fs
      split at h1
      · rename_i hc
        subst hc
        cases hv with
        | @obj c fs a C' dx fv q1 q2 q3 =>
          have hC : C' = C := by
            have := q2.symm.trans T.ns
            cases this
            rfl
          subst hC
          exact ⟨a, dx, fv, rfl, R1.sub _ _ q1, vsp R1 (.cons (.obj q1 q2 q3) .nil) (fun b q => s1.t b q) h1⟩
      · exact False.elim h1
    · exact False.elim h1⟩
end
end DF

namespace DF
open PySem PySem.Spec PyProof.Rows L2
@[simp] theorem dMk_ap (g : D → Option (List D)) (f : DEnv → R Th) (ρ : DEnv) : dMk g f ρ = (f ρ).bind fun t ρ' => match t ρ' with
  | none => .no
  | some d => match g d with
    | none => .no
    | some l => .ok ρ' (.lst l) := id rfl
@[simp] theorem dPop_ap (i : Nat) (ρ : DEnv) : dPop i ρ = match muL i ρ with
  | none => .no
  | some (b, l) => if l.length = 0 then .no else .nx (ρ.set i (some (.mu b (.lst l.dropLast)))) := id rfl
@[simp] theorem sEnL_ap (f : DEnv → R (List D)) (ρ : DEnv) : sEnL f ρ = (f ρ).bind fun l ρ' => match l with
  | [.lst m] => .ok ρ' (enD 0 m)
  | [.fro m] => .ok ρ' (enD 0 m)
  | _ => .no := id rfl
@[simp] theorem sEnT_ap (f : DEnv → R (List D)) (ρ : DEnv) : sEnT f ρ = (f ρ).bind fun l ρ' => match l with
  | [.tup m] => .ok ρ' (enD 0 m)
  | _ => .no := id rfl
@[simp] theorem sRevR_ap (f : DEnv → R D) (ρ : DEnv) : sRevR f ρ = (f ρ).bind fun d ρ' => match d with
  | .int j => if inR j = true then .ok ρ' (rng 0 j.toNat).reverse else .no
  | _ => .no := id rfl
@[simp] theorem pNo_ap  (ρ : DEnv) : pNo  ρ = .ok ρ none := id rfl
@[simp] theorem pInt_ap (f : DEnv → R D) (ρ : DEnv) : pInt f ρ = (f ρ).bind fun d ρ' => match d with
  | .int i => .ok ρ' (some i)
  | _ => .no := id rfl
@[simp] theorem dSl_ap (f : DEnv → R Th) (fl fu : DEnv → R (Option Int)) (ρ : DEnv) : dSl f fl fu ρ = (f ρ).bind fun t ρ1 => (fl ρ1).bind fun lo ρ2 => (fu ρ2).bind fun hi ρ3 => match t ρ3 with
  | none => .no
  | some d => ofO ρ3 (slO d lo hi) := id rfl
@[simp] theorem xNil_ap  (ρ : DEnv) : xNil  ρ = .ok ρ [] := id rfl
@[simp] theorem xVal_ap (f : DEnv → R D) (g : DEnv → R (List (Bool × D))) (ρ : DEnv) : xVal f g ρ = (f ρ).bind fun d ρ1 => (g ρ1).bind fun l ρ2 => .ok ρ2 ((false, d) :: l) := id rfl
@[simp] theorem xFr_ap (f : DEnv → R D) (g : DEnv → R (List (Bool × D))) (ρ : DEnv) : xFr f g ρ = (f ρ).bind fun d ρ1 => (g ρ1).bind fun l ρ2 => .ok ρ2 ((true, d) :: l) := id rfl
@[simp] theorem dParX_ap (is : List Nat) (f : DEnv → R (List (Bool × D))) (ρ : DEnv) : dParX is f ρ = match f ρ with
  | .no => .no
  | .ex ρ' e => .ex ρ' e
  | .ok ρ' l => match putA is l ρ' with
    | none => .no
    | some ρ2 => .nx ρ2 := id rfl
@[simp] theorem dGet2_ap (fo : DEnv → R Th) (fk fx : DEnv → R D) (ρ : DEnv) : dGet2 fo fk fx ρ = (fo ρ).bind fun t ρ1 => match t ρ1 with
  | some (.dic _) => (fk ρ1).bind fun kd ρ2 => (fx ρ2).bind fun x ρ3 => match t ρ3, keyOf kd with
    | some (.dic l), some key => .ok ρ3 ((valD l key).getD x)
    | _, _ => .no
  | _ => .no := id rfl
@[simp] theorem dSetK_ap (i : Nat) (fk f : DEnv → R D) (ρ : DEnv) : dSetK i fk f ρ = (f ρ).bindS fun d ρ1 => match muD i ρ1 with
  | none => .no
  | some _ => (fk ρ1).bindS fun kd ρ2 => match muD i ρ2, keyOf kd with
    | some (b, l), some key => if l.length < 16000000 then .nx (ρ2.set i (some (.mu b (.dic (insD l key d))))) else .no
    | _, _ => .no := id rfl
@[simp] theorem sKeys_ap (f : DEnv → R D) (ρ : DEnv) : sKeys f ρ = (f ρ).bind fun d ρ' => match d with
  | .dic l => .ok ρ' (l.map fun p => keyD p.1)
  | _ => .no := id rfl
@[simp] theorem sVals_ap (f : DEnv → R D) (ρ : DEnv) : sVals f ρ = (f ρ).bind fun d ρ' => match d with
  | .dic l => .ok ρ' (l.map fun p => p.2)
  | _ => .no := id rfl
@[simp] theorem sItems_ap (f : DEnv → R D) (ρ : DEnv) : sItems f ρ = (f ρ).bind fun d ρ' => match d with
  | .dic l => .ok ρ' (l.map fun p => D.tup [keyD p.1, p.2])
  | _ => .no := id rfl
@[simp] theorem dLvals_ap (f : DEnv → R D) (ρ : DEnv) : dLvals f ρ = (f ρ).bind fun d ρ' => match d with
  | .dic l => .ok ρ' (.lst (l.map fun p => p.2))
  | _ => .no := id rfl
@[simp] theorem setK_ap (i : Nat) (fk : DEnv → R D) (d : D) (ρ : DEnv) : setK i fk d ρ = match muD i ρ with
  | none => none
  | some _ => match fk ρ with
    | .ok ρ1 kd => match muD i ρ1, keyOf kd with
      | some (b, l), some key => if l.length < 16000000 then some (ρ1.set i (some (.mu b (.dic (insD l key d))))) else none
      | _, _ => none
    | _ => none := id rfl
@[simp] theorem dDisp_ap (fs : List ((DEnv → R D) × (DEnv → R D))) (ρ : DEnv) : dDisp fs ρ = (vPs fs ρ).bind fun l ρ' => if l.length ≤ 15 then .ok ρ' (.dic (disD l)) else .no := id rfl
theorem eqY_int (i j : Int) : eqY (.int i) (.int j) = some (.bl (decide (i = j))) := by
  unfold eqY eqX orD
  rw [eq_int]
theorem neY_int (i j : Int) : neY (.int i) (.int j) = some (.bl (!decide (i = j))) := by
  unfold neY neX orD
  rw [ne_int]
theorem max2_ap (i j : Int) : orC max2D maxSD [.int i, .int j] = max2D [.int i, .int j] := rfl
theorem min2_ap (i j : Int) : orC min2D minSD [.int i, .int j] = min2D [.int i, .int j] := rfl
theorem ne1Y {x y z : D} (h : neD1 x y = some z) : neY x y = some z := by
  unfold neY neX orD
  rw [h]
theorem eq1Y {x y z : D} (h : eqD1 x y = some z) : eqY x y = some z := by
  unfold eqY eqX orD
  rw [h]
end DF

namespace DF
open PySem PySem.Spec PyProof.Rows L2
/-! ### running by steps -/
/-- what a run of statements may end in -/
structure Ps where
  nx : DEnv → Prop := fun _ => False
  ct : DEnv → Prop := fun _ => False
  bk : DEnv → Prop := fun _ => False
  rt : DEnv → Bool → D → Prop := fun _ _ _ => False
def wpD (r : SR) (E : Ps) : Prop := match r with
  | .nx ρ => E.nx ρ
  | .cnt ρ => E.ct ρ
  | .brk ρ => E.bk ρ
  | .ret ρ fr d => E.rt ρ fr d
  | _ => False
/-- a structure, so that looking at a goal does not run it -/
structure Wp (r : SR) (E : Ps) : Prop where
  run : wpD r E
theorem Wp.imp {r : SR} {E F : Ps} (h : Wp r E) (h1 : ∀ ρ, E.nx ρ → F.nx ρ) (h2 : ∀ ρ, E.ct ρ → F.ct ρ) (h3 : ∀ ρ, E.bk ρ → F.bk ρ) (h4 : ∀ ρ fr d, E.rt ρ fr d → F.rt ρ fr d) : Wp r F := by
  obtain ⟨h⟩ := h
  constructor
  cases r with
  | nx ρ => exact h1 _ h
  | cnt ρ => exact h2 _ h
  | brk ρ => exact h3 _ h
  | ret ρ fr d => exact h4 _ _ _ h
  | no => exact h
  | ex ρ e => exact h
section
variable {f g : DEnv → SR} {ρ ρ' : DEnv} {E : Ps} {Q : DEnv → Prop} {fr : Bool} {d : D}
theorem wp_nx (h : f ρ = .nx ρ') (k : E.nx ρ') : Wp (f ρ) E := ⟨by rw [h]; exact k⟩
theorem wp_ct (h : f ρ = .cnt ρ') (k : E.ct ρ') : Wp (f ρ) E := ⟨by rw [h]; exact k⟩
theorem wp_rt (h : f ρ = .ret ρ' fr d) (k : E.rt ρ' fr d) : Wp (f ρ) E := ⟨by rw [h]; exact k⟩
theorem dSeq_nx (h : f ρ = .nx ρ') : dSeq f g ρ = g ρ' := by
  show (f ρ).bind g = _
  rw [h]; rfl
theorem wp_seq (h : f ρ = .nx ρ') (k : Wp (g ρ') E) : Wp (dSeq f g ρ) E := by
  rw [dSeq_nx h]; exact k
theorem wp_seqR (h : f ρ = .ret ρ' fr d) (k : E.rt ρ' fr d) : Wp (dSeq f g ρ) E := ⟨by
  show wpD ((f ρ).bind g) E
  rw [h]; exact k⟩
theorem wp_seqC (h : f ρ = .cnt ρ') (k : E.ct ρ') : Wp (dSeq f g ρ) E := ⟨by
  show wpD ((f ρ).bind g) E
  rw [h]; exact k⟩
theorem wp_seqW (h : Wp (f ρ) { E with nx := Q }) (k : ∀ ρ', Q ρ' → Wp (g ρ') E) : Wp (dSeq f g ρ) E := by
  obtain ⟨h⟩ := h
  cases e : f ρ with
  | nx ρ1 => rw [e] at h; rw [dSeq_nx e]; exact k _ h
  | _ =>
    rw [e] at h
    constructor
    show wpD ((f ρ).bind g) E
    rw [e]
    exact h
/-- a for loop by its invariant -/
theorem wp_forL {t : Tg} {b : DEnv → SR} (Inv : List D → DEnv → Prop) (hs : ∀ x l ρ, Inv (x :: l) ρ → ∃ ρ1, t x ρ = some ρ1 ∧ Wp (b ρ1) { nx := Inv l, ct := Inv l, bk := E.nx, rt := E.rt }) (hN : ∀ ρ, Inv [] ρ → E.nx ρ) :
    ∀ (l : List D) (ρ : DEnv), Inv l ρ → Wp (dFor t b l ρ) E
  | [], ρ, h => ⟨hN ρ h⟩
  | x :: l, ρ, h => by
    obtain ⟨ρ1, e, w⟩ := hs x l ρ h
    unfold dFor
    rw [e]
    dsimp only
    obtain ⟨w⟩ := w
    cases q : b ρ1 with
    | nx ρ => rw [q] at w; exact wp_forL Inv hs hN l ρ w
    | cnt ρ => rw [q] at w; exact wp_forL Inv hs hN l ρ w
    | brk ρ => rw [q] at w; exact ⟨w⟩
    | ret ρ fr d => rw [q] at w; exact ⟨w⟩
    | no => rw [q] at w; exact ⟨w⟩
    | ex ρ x => rw [q] at w; exact ⟨w⟩
/-- the same over data of one kind; the invariant tells what is done -/
theorem wp_for {ι : Type} {t : Tg} {b : DEnv → SR} (enc : ι → D) (Inv : List ι → DEnv → Prop) (hs : ∀ x l ρ, Inv (x :: l) ρ → ∃ ρ1, t (enc x) ρ = some ρ1 ∧ Wp (b ρ1) { nx := Inv l, ct := Inv l, bk := E.nx, rt := E.rt }) (hN : ∀ ρ, Inv [] ρ → E.nx ρ)
    (l : List ι) (ρ : DEnv) (h : Inv l ρ) : Wp (dFor t b (l.map enc) ρ) E :=
  wp_forL (fun ds ρ => ∃ l, ds = l.map enc ∧ Inv l ρ) (fun x ds ρ ⟨l, e, h⟩ => by
    cases l with
    | nil => cases e
    | cons y l =>
      rw [List.map_cons] at e
      cases e
      obtain ⟨ρ1, e1, w⟩ := hs y l ρ h
      exact ⟨ρ1, e1, w.imp (fun _ q => ⟨l, rfl, q⟩) (fun _ q => ⟨l, rfl, q⟩) (fun _ q => q) fun _ _ _ q => q⟩)
    (fun ρ ⟨l, e, h⟩ => by
      cases l with
      | nil => exact hN ρ h
      | cons y l => cases e) _ ρ ⟨l, rfl, h⟩
theorem wp_forS {s : DEnv → R (List D)} {t : Tg} {b : DEnv → SR} {l : List D} (e : s ρ = .ok ρ' l) (h : Wp (dFor t b l ρ') E) : Wp (dForS s t b ρ) E := by
  have : dForS s t b ρ = dFor t b l ρ' := by
    show (s ρ).bindS _ = _
    rw [e]; rfl
  rw [this]; exact h
/-- a while loop by its invariant; the number falls -/
theorem wp_while {c : DEnv → R Bool} {b : DEnv → SR} (Inv : Nat → DEnv → Prop)
    (hs : ∀ m ρ, Inv m ρ → (∃ ρ1, c ρ = .ok ρ1 false ∧ E.nx ρ1) ∨ (∃ ρ1, c ρ = .ok ρ1 true ∧ Wp (b ρ1) { nx := fun ρ => ∃ m', m' < m ∧ Inv m' ρ, ct := fun ρ => ∃ m', m' < m ∧ Inv m' ρ, bk := E.nx, rt := E.rt })) :
    ∀ (n m : Nat) (ρ : DEnv), m < n → Inv m ρ → Wp (dWhile c b n ρ) E
  | 0, m, ρ, h, _ => absurd h (Nat.not_lt_zero _)
  | n + 1, m, ρ, h, i => by
    rw [dWhile_succ]
    rcases hs m ρ i with ⟨ρ1, e, k⟩ | ⟨ρ1, e, w⟩
    · rw [e]; exact ⟨k⟩
    · rw [e, R.bindS_ok]
      dsimp only
      obtain ⟨w⟩ := w
      cases q : b ρ1 with
      | nx ρ => rw [q] at w; obtain ⟨m', h', i'⟩ := w; exact wp_while Inv hs n m' ρ (by omega) i'
      | cnt ρ => rw [q] at w; obtain ⟨m', h', i'⟩ := w; exact wp_while Inv hs n m' ρ (by omega) i'
      | brk ρ => rw [q] at w; exact ⟨w⟩
      | ret ρ fr d => rw [q] at w; exact ⟨w⟩
      | no => rw [q] at w; exact ⟨w⟩
      | ex ρ x => rw [q] at w; exact ⟨w⟩
theorem wp_ifT {c : DEnv → R Bool} (e : c ρ = .ok ρ' true) (h : Wp (f ρ') E) : Wp (dIf c f g ρ) E := by
  have : dIf c f g ρ = f ρ' := by
    show (c ρ).bindS _ = _
    rw [e]; rfl
  rw [this]; exact h
theorem wp_ifF {c : DEnv → R Bool} (e : c ρ = .ok ρ' false) (h : Wp (g ρ') E) : Wp (dIf c f g ρ) E := by
  have : dIf c f g ρ = g ρ' := by
    show (c ρ).bindS _ = _
    rw [e]; rfl
  rw [this]; exact h
theorem wp_if {c : DEnv → R Bool} {b : Bool} (e : c ρ = .ok ρ' b) (h1 : b = true → Wp (f ρ') E) (h2 : b = false → Wp (g ρ') E) : Wp (dIf c f g ρ) E := by
  cases b with
  | true => exact wp_ifT e (h1 rfl)
  | false => exact wp_ifF e (h2 rfl)
/-- what comes of a def -/
theorem fn_of {as : List (Bool × D)} {r : SR} {P : FRes → Prop} (h : Wp r { rt := fun ρ fr d => ∃ l, outs ρ 0 as = some l ∧ P (.ret fr d l), nx := fun ρ => ∃ l, outs ρ 0 as = some l ∧ P (.ret false .non l) }) : P (fnRes as r) := by
  obtain ⟨h⟩ := h
  cases r with
  | nx ρ => obtain ⟨l, e, p⟩ := h; unfold fnRes; simp only [e]; exact p
  | ret ρ fr d => obtain ⟨l, e, p⟩ := h; unfold fnRes; simp only [e]; exact p
  | cnt ρ => exact False.elim h
  | brk ρ => exact False.elim h
  | no => exact False.elim h
  | ex ρ x => exact False.elim h
/-- a comprehension whose items leave no trace -/
theorem lc_pure {ι : Type} {t : Tg} {c : DEnv → R Bool} {f : DEnv → R D} {vs : List Nat} {ρ : DEnv} (enc : ι → D) (keep : ι → Bool) (φ : ι → D) : ∀ (xs : List ι) (acc : List D), acc.length + xs.length ≤ 16000000 →
    (∀ x ∈ xs, ∃ ρ1 ρ2, t (enc x) ρ = some ρ1 ∧ c ρ1 = .ok ρ2 (keep x) ∧ (keep x = false → noMu ρ2 vs = true ∧ wipeE ρ2 vs = ρ) ∧ (keep x = true → ∃ ρ3, f ρ2 = .ok ρ3 (φ x) ∧ noMu ρ3 vs = true ∧ wipeE ρ3 vs = ρ)) →
    dLcGo t c f vs (xs.map enc) acc ρ = .ok ρ (.lst (acc ++ (xs.filter keep).map φ))
  | [], acc, _, _ => by simp [dLcGo]
  | x :: xs, acc, hl, h => by
    rw [List.length_cons] at hl
    obtain ⟨ρ1, ρ2, e1, e2, k1, k2⟩ := h x List.mem_cons_self
    rw [List.map_cons]
    unfold dLcGo
    rw [e1]
    dsimp only
    rw [e2, R.bindN_ok]
    cases hk : keep x with
    | false =>
      obtain ⟨n1, n2⟩ := k1 hk
      dsimp only
      rw [if_pos n1, n2, lc_pure enc keep φ xs acc (by omega) fun y hy => h y (List.mem_cons_of_mem _ hy), List.filter_cons_of_neg (by rw [hk]; decide)]
    | true =>
      obtain ⟨ρ3, e3, n1, n2⟩ := k2 hk
      dsimp only
      rw [e3, R.bindN_ok, if_pos n1, if_pos (by omega), n2, lc_pure enc keep φ xs (acc ++ [φ x]) (by rw [List.length_append, List.length_singleton]; omega) fun y hy => h y (List.mem_cons_of_mem _ hy), List.filter_cons_of_pos hk, List.map_cons, List.append_assoc]
      rfl
/-- a comprehension that changes something: an invariant over what is made so far -/
theorem lc_inv {t : Tg} {c : DEnv → R Bool} {f : DEnv → R D} {vs : List Nat} (Inv : List D → List D → DEnv → Prop)
    (hs : ∀ x l acc ρ, Inv (x :: l) acc ρ → acc.length < 16000000 ∧ ∃ ρ1 ρ2 b, t x ρ = some ρ1 ∧ c ρ1 = .ok ρ2 b ∧ (b = false → noMu ρ2 vs = true ∧ Inv l acc (wipeE ρ2 vs)) ∧ (b = true → ∃ ρ3 y, f ρ2 = .ok ρ3 y ∧ noMu ρ3 vs = true ∧ Inv l (acc ++ [y]) (wipeE ρ3 vs))) :
    ∀ (l acc : List D) (ρ : DEnv), Inv l acc ρ → ∃ ρ' m, dLcGo t c f vs l acc ρ = .ok ρ' (.lst m) ∧ Inv [] m ρ'
  | [], acc, ρ, h => ⟨ρ, acc, rfl, h⟩
  | x :: l, acc, ρ, h => by
    obtain ⟨hl, ρ1, ρ2, b, e1, e2, k1, k2⟩ := hs x l acc ρ h
    unfold dLcGo
    rw [e1]
    dsimp only
    rw [e2, R.bindN_ok]
    cases b with
    | false =>
      obtain ⟨n1, n2⟩ := k1 rfl
      dsimp only
      rw [if_pos n1]
      exact lc_inv Inv hs l acc _ n2
    | true =>
      obtain ⟨ρ3, y, e3, n1, n2⟩ := k2 rfl
      dsimp only
      rw [e3, R.bindN_ok, if_pos n1, if_pos hl]
      exact lc_inv Inv hs l (acc ++ [y]) _ n2
theorem lc_ap {s : DEnv → R (List D)} {t : Tg} {c : DEnv → R Bool} {f : DEnv → R D} {vs : List Nat} {l : List D} {r : R D} (e : s ρ = .ok ρ' l) (n : noMu ρ' vs = true) (h : dLcGo t c f vs l [] (wipeE ρ' vs) = r) : dLc s t c f vs ρ = r := by
  show (s ρ).bind _ = _
  rw [e, R.bind_ok, if_pos n, h]
end
end DF

/-! x in a list or tuple of flat items; list.remove of an integer -/
namespace DF
open PySem PySem.Spec PyProof.Rows L2
def flatD : D → Bool
  | .non => true
  | .bl _ => true
  | .int _ => true
  | .str _ => true
  | _ => false
def eqFD : D → D → Bool
  | .non, .non => true
  | .bl a, .bl b => a == b
  | .bl a, .int b => (if a then 1 else 0) == b
  | .int a, .bl b => a == (if b then 1 else 0)
  | .int a, .int b => a == b
  | .str a, .str b => a == b
  | _, _ => false
section
variable {K : PySem.W.Frag} {G H : Hp}
theorem flatD_v {d : D} {v : V} (h : Is K G d v) (f : flatD d = true) : flatV v = true := by
  cases h with
  | non => rfl
  | bl b => rfl
  | int i => rfl
  | str x => rfl
  | _ => cases f
theorem eqFD_v {d e : D} {v u : V} (h : Is K G d v) (h2 : Is K G e u) (f : flatD d = true) (f2 : flatD e = true) : eqV v u = eqFD d e := by
  cases h with
  | non => cases h2 <;> first | rfl | cases f2
  | bl b => cases h2 <;> first | rfl | cases f2
  | int i => cases h2 <;> first | rfl | cases f2
  | str x => cases h2 <;> first | rfl | cases f2
  | _ => cases f
theorem flat_top {d : D} {v : V} (h : Top K G H d v) (f : flatD d = true) : Is K G d v := by
  cases d with
  | lst l => cases f
  | dic l => cases f
  | obj c fs => cases f
  | _ => exact h
theorem flats_v : ∀ {l : List D} {xs : List V}, Iss K G l xs → l.all flatD = true → xs.all flatV = true
  | _, _, .nil, _ => rfl
  | _, _, .cons h r, f => by
    rw [List.all_cons, Bool.and_eq_true] at f
    rw [List.all_cons, flatD_v h f.1, flats_v r f.2]
    rfl
theorem ins_v {d : D} {v : V} (hd : Is K G d v) (fd : flatD d = true) : ∀ {l : List D} {xs : List V}, Iss K G l xs → l.all flatD = true → (xs.any fun y => eqV y v) = l.any fun e => eqFD e d
  | _, _, .nil, _ => rfl
  | _, _, .cons h r, f => by
    rw [List.all_cons, Bool.and_eq_true] at f
    rw [List.any_cons, List.any_cons, ins_v hd fd r f.2, eqFD_v h hd f.1 fd]
def inSB (x y : D) : Option Bool := match seqOf y with
  | some l => if flatD x = true ∧ l.all flatD = true then some (l.any fun e => eqFD e x) else none
  | none => none
def inSD (x y : D) : Option D := (inSB x y).map .bl
def ninSD (x y : D) : Option D := (inSB x y).map fun b => .bl (!b)
theorem inSB_run {x y : D} {v u : V} {b : Bool} (eS : Evl.Ex G H) (hx : Top K G H x v) (hy : Top K G H y u) (e : inSB x y = some b) :
    ∃ p xs, u = .ref p ∧ (SqL K H p xs ∨ SqT K H p xs) ∧ flatV v = true ∧ xs.all flatV = true ∧ inV v xs = b := by
  unfold inSB at e
  split at e
  · rename_i l el
    split at e
    · rename_i hc
      cases e
      obtain ⟨a, xs, rfl, h1, h2⟩ := seqOf_top eS hy el
      have hx := flat_top hx hc.1
      exact ⟨a, xs, rfl, h1, flatD_v hx hc.1, flats_v h2 hc.2, ins_v hx hc.1 h2 hc.2⟩
    · cases e
  · cases e
theorem ops_inS : OpS K (rIn K false) inSD := fun x y z v u G H Q eS hx hy e k => by
  unfold inSD at e
  cases q : inSB x y with
  | none => rw [q] at e; cases e
  | some b =>
    rw [q] at e
    cases e
    obtain ⟨p, xs, rfl, h1, h2, h3, rfl⟩ := inSB_run eS hx hy q
    exact ⟨p, xs, rfl, h1, h2, h3, k _ G H (New.refl eS) (.bl _)⟩
theorem ops_ninS : OpS K (rIn K true) ninSD := fun x y z v u G H Q eS hx hy e k => by
  unfold ninSD at e
  cases q : inSB x y with
  | none => rw [q] at e; cases e
  | some b =>
    rw [q] at e
    cases e
    obtain ⟨p, xs, rfl, h1, h2, h3, rfl⟩ := inSB_run eS hx hy q
    exact ⟨p, xs, rfl, h1, h2, h3, k _ G H (New.refl eS) (.bl _)⟩
end
section
variable {X : Cx} {W : WX} {o e : Expr} {i : Nat} {p1 p2 pos : Pos} {f : DEnv → R D}
/-- x.remove(e), e an integer that is there -/
def dRem (i : Nat) (f : DEnv → R D) : DEnv → SR := fun ρ => match muL i ρ with
  | none => .no
  | some _ => (f ρ).bindS fun d ρ' => match muL i ρ', d with
    | some (b, l), .int k => match intsD l with
      | some ns => if k ∈ ns then .nx (ρ'.set i (some (.mu b (.lst ((ns.erase k).map D.int))))) else .no
      | none => .no
    | _, _ => .no
theorem first_of : ∀ {ns : List Int} {k : Int}, k ∈ ns → ∃ j : Nat, ns[j]? = some k ∧ (∀ m : Nat, m < j → ns[m]? ≠ some k) ∧ ns.eraseIdx j = ns.erase k
  | [], k, h => by cases h
  | x :: l, k, h => by
    by_cases hx : x = k
    · exact ⟨0, by rw [hx]; rfl, fun m hm => absurd hm (Nat.not_lt_zero m), by rw [hx, List.erase_cons_head]; rfl⟩
    · obtain ⟨j, q1, q2, q3⟩ := first_of ((List.mem_cons.mp h).resolve_left fun z => hx z.symm)
      refine ⟨j + 1, by simpa using q1, fun m hm => ?_, by rw [List.erase_cons_tail (by simpa using hx), ← q3]; rfl⟩
      match m with
      | 0 => simpa using hx
      | m + 1 => simpa using q2 m (by omega)
theorem ds_rem (ho : PE X o (tVar i)) (he : DE X W e f) (hs : swapsWith (.Call (.Attribute o "remove" p1) [e] [] p2) none pos.line X.env = pure false := by rfl)
    (hbase : attributeBase o "remove" X.env (eval o X.env) = eval o X.env := by rfl)
    (hfew : ((backTo p2 (starEach [e] X.env)).all (fun x => !x.1) && (backToKw p2 (keywordEach [] X.env)).all (fun x => x.1.isSome) && decide ([e].length + ([] : List Keyword).length + (if ([] : List Keyword).isEmpty then 0 else 1) < 30)) = true := by rfl)
    (hline : (p1.endLine == p2.line) = true := by rfl) (hst : starEach [e] X.env = (false, eval e X.env) :: starEach [] X.env := by rfl) (hplain : (backTo p2 (starEach [] X.env)).any (·.1) = false := by rfl) :
    DS X W (.Expr (.Call (.Attribute o "remove" p1) [e] [] p2) pos) (dRem i f) :=
  ps_imp (ps_expr (pe_bm PySem.F.plainAttrs_list PySem.F.slot_list_remove PySem.F.type_list_remove mt_remove ho (pa_cons he pa_nil hst) hbase hfew hline hst hplain) hs) fun E σ H ⟨ρ, G, R, h⟩ => by
    unfold dRem at h
    split at h
    · exact False.elim h
    · rename_i q e1
      obtain ⟨b, l⟩ := q
      have e1 := muL_of e1
      obtain ⟨a, ea, e2, xs, e3, e4⟩ := R.mu i b _ e1
      refine ⟨.ref a, ea, .inl ⟨rfl, xs, Evl.sq_of e3⟩, ρ, G, R, (Go.bindS R h).imp fun d ρ' G' H' s R' h v hv => ?_⟩
      split at h
      · rename_i b' l' k e5
        have e5 := muL_of e5
        obtain ⟨a', ea', e6, ys, e7, e8⟩ := R'.mu i b' _ e5
        rw [ea] at ea'; cases ea'
        split at h
        · rename_i ns en
          split at h
          · rename_i hk
            rw [intsD_of en] at e8
            have e9 := e8.ints
            subst e9
            cases hv
            obtain ⟨j, j1, j2, j3⟩ := first_of hk
            refine ⟨a, ns, k, j, rfl, rfl, e7, j1, j2, ?_⟩
            rw [j3]
            obtain ⟨s2, R2⟩ := R'.chg (o := .lst ((ns.erase k).map V.int)) (d1 := .lst ((ns.erase k).map D.int)) e5 ea ⟨_, upd_same, Iss.of_ints _⟩
            exact h σ G' _ s2 R2
          · exact False.elim h
        · exact False.elim h
      · exact False.elim h
end
end DF

/-! a walk over an object whose __iter__ says: return iter(self.f), f a tuple -/
namespace DF
open PySem PySem.Spec PyProof.Rows L2
/-- a tuple's iterator that has not yet begun -/
def tupIt (t it : Addr) : HO := .ext fun h => h.IsTupleIter it t 0
theorem tupIt_ok {P : Program} {w : World} {H : Hp} {h : Heap} {t it : Addr} (x : h.IsTupleIter it t 0) : ObjOk P w H h it (tupIt t it) := by
  refine ⟨x, ?_, fun h1 h2 z k => z.at fun o e => k _ e⟩
  obtain ⟨o, e, _⟩ := x
  exact ⟨o, e⟩
section
variable {prog : Program} {w : World} {A : Around} {E : Value → Shared → Prop} {s : Shared}
theorem iter_of_tuple {t : Addr} {ys : Array Value} {Q : Value → Shared → Prop} (ht : s.heap.IsTuple t ys)
    (k : Q (.ref s.heap.objs.size) { s with heap := s.heap.push { cls := .type "tuple_iterator", data := .fields #[.ref t, .int 0 0] } }) : wpAny (model prog w) A (call (.builtin "iter") [.ref t]) Q E s := by
  exact Calls.call_function_entry (E := E) (by decide +kernel) (by decide +kernel) PySem.W.kdk_entry_iter (PySem.W.kdk_args_iter (.ref t)) (by
    unfold Builtin.«iter»
    refine wpAny_bind (m := someArgs "iter" 1 2 ⟨[Value.ref t], []⟩) (wpAny_of_eq (a := [Value.ref t]) (by first | rfl | kernel_rfl!) (wpAny_bind (m := pyIter (.ref t)) (wpAny_pyIter_tuple ht (wpAny_pure ⟨_, rfl, k⟩)))))
end
def rIterT (K : PySem.W.Frag) (n : Nat) : List V → Hp → VK → Prop := fun xs H Q => ∃ (t : Addr) (ys : List V), xs = [.ref t] ∧ SqT K H t ys ∧ ∀ it, H it = none → n ≤ it → Q (.ref it) (upd H it (tupIt t it))
theorem call_iterT {X : Cx} : CallR X (.builtin "iter") (rIterT X.K X.s_0.heap.objs.size) := by
  intro pins s σ H xs us Q I r h
  obtain ⟨t, ys, rfl, ht, q⟩ := h
  obtain ⟨u, rfl, ru⟩ := vals1 r
  cases ru
  obtain ⟨its, rv, p, hz⟩ := I.tuple ht
  refine iter_of_tuple (show s.heap.IsTuple t its.toArray from p) ⟨.ref s.heap.objs.size, upd H s.heap.objs.size (tupIt t s.heap.objs.size), ?_, rfl, q _ (I.hok.fresh (Nat.le_refl _)) I.sz⟩
  exact I.laid (t' := s.toks) (fun b u e => Heap.get?_push_of_some _ e) (Nat.le_refl _) (tupIt_ok ⟨_, Heap.get?_push_size _ rfl, rfl, rfl⟩)
/-- a promise that knows the state in which the def is called -/
structure FnS (P : Program) (w : World) (K : PySem.W.Frag) (mg : Str → Option Value) (base : Heap) (CX : CXT) (k : Nat) (f : Addr) (fd : FuncData) (ps : List Str) (sp : Shared → Sp) : Prop where
  len : ∀ s vs H Q E, sp s vs H Q E → vs.length = ps.length
  run : ∀ (A : Around) (outer : List Env) (s : Shared) (H : Hp) (us : List Value) (vs : List V) (Q : VK) (E : XK), RoomG k A → Env0 P w K mg base A outer s H → BindsTo s fd ⟨us, []⟩ (ps.zip us) → Vals vs us → sp s vs H Q E →
    codeAny (model P w) A (.call (.ref f) ⟨us, []⟩) (CR CX outer P w H s Q E) s
/-- for one state it is a promise of the other kind -/
theorem call_S {X : Cx} {CX : CXT} {k : Nat} {f : Addr} {fd : FuncData} {ps : List Str} {sp : Shared → Sp} {E : XK} {pins : List (Addr × Obj)} {σ : L2.St} {H : Hp} {s : Shared} {Q : VK} {us : List Value} {vs : List V} (F : FnS X.prog X.w X.K X.mg X.base CX k f fd ps sp) (hr : RoomG k X.A) (hb : Binds X.K fd ps []) (hx : PassesAt CX X σ E)
    (I : Inv X pins σ H s) (r : Vals vs us) (h : sp s vs H Q E) : wpAny (model X.prog X.w) X.A (call (.ref f) us) (EP X pins σ Q) X.xe s := by
  have hl : us.length = ps.length := by rw [← r.length]; exact F.len _ _ _ _ _ h
  have hb' : BindsTo s fd ⟨us, []⟩ (ps.zip us) := by simpa using hb s us I.kIn (by simpa using hl)
  refine wpAny_call (codeAny_mono (F.run X.A X.stack s H us vs Q E hr I.env0 hb' r h) fun r s' q => ?_)
  exact cr_ret (T := fun r s' => match r with | .ok (.ret u) => EP X pins σ Q u s' | .ok _ => False | .error e => X.xe e s') q (fun u c => I.after c) fun e c => hx pins H s e s' I c
section
variable {CX : CXT} {P : Program} {w : World} {K : PySem.W.Frag} {mg : Str → Option Value} {base : Heap}
theorem fn_S {x qual : Str} {st : Stmt} {f : Addr} {fd : FuncData} {N ps : List Str} {k : Nat} {sp : Shared → Sp} (Fu : Fun K x qual st f fd) (S : FnScope N ps (defScope st)) (len : ∀ s vs H Q E, sp s vs H Q E → vs.length = ps.length)
    (hB : ∀ (cdv : Value) (A : Around) (outer : List Env) (s : Shared) (H : Hp) (vs : List V) (Q : VK) (E : XK), RoomG k (A.deeper (envOfC qual (defScope st) s.heap.objs.size f cdv)) → sp s vs H Q E →
      ∃ t, PSs (cxOf CX P w K mg base N qual (defScope st) f cdv A outer s H E) (defBody st) t ∧ t { nx := fun _ H' => Q .non H', rt := Q } (L2.start N vs) H) : FnS P w K mg base CX (k + 1) f fd ps sp where
  len := len
  run := by
    obtain ⟨oc, od, kV, doc, pm, an, cdv, ct, osl, rfl, lk, hcd⟩ := Fu.ex
    intro A outer s H us vs Q E hr e0 hb rv hsp
    have inK : K.In s.heap := e0.mod.kin.keeps fun b o e => (e0.bs b o e).1
    have noL := e0.mod.nolimit.keeps fun b o e => (e0.bs b o e).1
    refine codeAny_call_function hr.room.depth (inK _ _ lk) rfl S.co S.gen rfl (PySem.W.codeRec_of inK hcd) (hb _ _ _ _ (wpAny_newFunctionEnv_cells S.kind ?kinds ?body))
    case kinds =>
      rintro ⟨y, v⟩ hy
      exact (S.par y (List.of_mem_zip hy).1).elim .inl fun q => .inr ⟨q, PySem.W.cellsFrom_some _ _ _ (.inl q)⟩
    case body =>
      rintro env rfl s1 x1
      obtain ⟨t, ht, hq⟩ := hB cdv A outer s H vs Q E (hr.deeper _) hsp
      refine ⟨noL.keeps x1.toInCall.keep, codeAny_func (wpAny_mono (ht.run [] s1 _ H _ (inv_start S hr.room.hd e0 (len _ _ _ _ _ hsp) rv x1) hq) (fun fl s' hs => ?_) fun _ _ hs => hs)⟩
      rcases fl with _ | _ | _ | u
      · obtain ⟨_, H', J, q⟩ := hs
        exact ⟨V.non, H', J.os, J.bare, J.base, J.hok, rfl, q⟩
      · obtain ⟨_, _, _, q⟩ := hs
        exact False.elim q
      · obtain ⟨_, _, _, q⟩ := hs
        exact False.elim q
      · obtain ⟨v, _, H', J, rv', q⟩ := hs
        exact ⟨v, H', J.os, J.bare, J.base, J.hok, rv', q⟩
/-- what __iter__ gives back: an iterator that was not there, over the tuple in the field -/
def spIt (K : PySem.W.Frag) (C : Addr) (fl : Str) (s : Shared) : Sp := fun vs H Q _ => ∃ (a dx t : Addr) (fs : List (Str × V)) (ys : List V), vs = [.ref a] ∧ H a = some (.ins C dx fs) ∧ fs.lookup fl = some (.ref t) ∧ SqT K H t ys ∧ ∀ it, H it = none → s.heap.objs.size ≤ it → Q (.ref it) (upd H it (tupIt t it))
theorem fnS_iter {qual fl : Str} {st : Stmt} {f C : Addr} {fd : FuncData} {N : List Str} {p1 p2 p3 p4 p5 : Pos} (Fu : Fun K "__iter__" qual st f fd) (S : FnScope N ["self"] (defScope st))
    (hN : N[0]? = some ("self" : Str)) (hst : defBody st = [.Return (some (.Call (.Name "iter" p1) [.Attribute (.Name "self" p2) fl p3] [] p4)) p5]) (c : Cls K C) (n : NoAttr K C fl) (z : mg "iter" = none) (hv : Vis (defScope st) "self")
    (hg : ∀ cdv A outer s H E, Gl (cxOf (L2.CX P w) P w K mg base N qual (defScope st) f cdv A outer s H E) "iter") :
    FnS P w K mg base (L2.CX P w) 1 f fd ["self"] (spIt K C fl) := by
  refine fn_S Fu S (fun s vs H Q E ⟨a, dx, t, fs, ys, e, _⟩ => by rw [e]; rfl) fun cdv A outer s H vs Q E hr ⟨a, dx, t, fs, ys, e, ha, hf, ht, q⟩ => ?_
  subst e
  rw [hst]
  refine ⟨_, pss_one (ps_ret (pe_callB call_iterT (hg cdv A outer s H E) z boot_iter (pa_cons (pe_fld (pe_var (i := 0) hN hv) rfl) pa_nil rfl) (by decide) (by decide) rfl rfl)), ?_⟩
  refine ⟨.ref a, ?_, a, C, dx, fs, .ref t, rfl, ha, c, n, hf, t, ys, rfl, ht, fun it h1 h2 => q it h1 h2⟩
  unfold L2.start
  simp
end
section
variable {X : Cx} {C fi : Addr} {fl cn : Str} {fd : FuncData} {k : Nat} {tg e : Expr}
def iOwn (K : PySem.W.Frag) (C : Addr) (fl : Str) (te : TE) : TI := fun σ H R => te σ H fun x H1 => ∃ (a dx t : Addr) (fs : List (Str × V)) (ys : List V), x = .ref a ∧ H1 a = some (.ins C dx fs) ∧ fs.lookup fl = some (.ref t) ∧ SqT K H1 t ys ∧ R (Itt K t) H1
theorem pi_own {te : TE} (FS : FnS X.prog X.w X.K X.mg X.base (L2.CX X.prog X.w) k fi fd ["self"] (spIt X.K C fl)) (hr : RoomG k X.A) (hb : Binds X.K fd ["self"] []) (h1 : PySem.W.findIn X.K (.ref C) "__iter__" = some (some (.ref fi))) (h2 : PySem.W.isFn X.K (.ref fi) = true)
    (he : PE X e te) : PI X tg e (iOwn X.K C fl te) := by
  refine ⟨fun pins s σ H R I h => thn (he.run pins s σ H _ I h) fun v s1 hv => ?_⟩
  obtain ⟨x, H1, I1, r1, a, dx, t, fs, ys, rfl, ha, hf, ht, q⟩ := hv
  cases r1
  obtain ⟨_, O, _⟩ := ins_get I1.hok ha
  obtain ⟨od, J, _⟩ := O.look
  obtain ⟨m, F⟩ := I1.fr
  refine PySem.W.owit_iter F I1.ok.mod.kin J h1 h2 (wpAny_mono (call_S (E := E0) (us := [.ref a]) (vs := [.ref a]) (Q := fun u H' => ∃ it, u = .ref it ∧ H1 it = none ∧ s1.heap.objs.size ≤ it ∧ H' = upd H1 it (tupIt t it)) FS hr hb (fun pins H s e s1 I c => passL pins σ H s e s1 I c) I1 (.cons rfl .nil)
    ⟨a, dx, t, fs, ys, rfl, ha, hf, ht, fun it n1 n2 => ⟨it, rfl, n1, n2, rfl⟩⟩) (fun v s2 hu => ?_) fun _ _ z => z)
  obtain ⟨u, H2, I2, r2, it, rfl, n1, n2, rfl⟩ := hu
  cases r2
  have hx : s2.heap.IsTupleIter it t 0 := by
    have z : ObjOk X.prog X.w (upd H1 it (tupIt t it)) s2.heap it (tupIt t it) := I2.hok it _ upd_same
    exact z.1
  have I3 : Inv X pins σ H1 s2 := by
    have := ItX.inv_drop I2 (a := it) (φ := fun h => h.IsTupleIter it t 0) upd_same
    rwa [ItX.dropH_upd n1] at this
  have fp : FpOk X pins H1 it := by
    have := ItX.inv_fp I2 (a := it) (u := tupIt t it) upd_same (Nat.le_trans I1.sz n2)
    rwa [ItX.dropH_upd n1] at this
  unfold PySem.W.OwitIt
  refine wpAny_specialOf hx.typeIs PySem.F.slot_tuple_iterator_next.lookup ?_
  refine ⟨it, [it], _, _, H1, rfl, I3, turn_tuple t it, hx, fun b hb => ?_, q⟩
  have e : b = it := by simpa using hb
  rw [e]; exact fp
/-- over data: the items of the tuple in the field -/
def sOwn (cn fl : Str) (f : DEnv → R D) : DEnv → R (List D) := fun ρ => (f ρ).bind fun d ρ' => match d with
  | .obj c fs => if c = cn then match fs.lookup fl with
    | some (.tup l) => .ok ρ' l
    | _ => .no
    else .no
  | _ => .no
theorem di_own {W : WX} {f : DEnv → R D} (T : ClsT X.K cn C) (FS : FnS X.prog X.w X.K X.mg X.base (L2.CX X.prog X.w) k fi fd ["self"] (spIt X.K C fl)) (hr : RoomG k X.A) (hb : Binds X.K fd ["self"] []) (h1 : PySem.W.findIn X.K (.ref C) "__iter__" = some (some (.ref fi))) (h2 : PySem.W.isFn X.K (.ref fi) = true)
    (h0 : DE X W e f) : DI X W tg e (sOwn cn fl f) := pi_imp (pi_own FS hr hb h1 h2 h0) fun σ H Q ⟨ρ, G, R, h⟩ => ⟨ρ, G, R, (Go.bind R h).imp fun d ρ' G' H' s R' hh v hv => by
    clear h
    cases d with
    | obj c fs =>
      dsimp only at hh
      by_cases hc : c = cn
      · subst hc
        rw [if_pos rfl] at hh
        cases hv with
        | @obj c fs a C' dx fv q1 q2 q3 =>
          have hC : C' = C := by
            have := q2.symm.trans T.ns
            cases this
            rfl
          subst hC
          cases el : fs.lookup fl with
          | none => rw [el] at hh; exact False.elim hh
          | some d =>
            rw [el] at hh
            obtain ⟨u, e2, e3⟩ := q3.look el
            cases e3 with
            | @tup l t ys w1 w2 => exact ⟨a, dx, t, fv, ys, rfl, R'.sub _ _ q1, e2, Evl.ex_t R'.sub w1, hh G' H' .refl R' _ (itt_s w1 w2)⟩
            | _ => exact False.elim hh
      · rw [if_neg hc] at hh
        exact False.elim hh
    | _ => exact False.elim hh⟩
end
end DF

/-! {k: v for .. in .. if ..} -/
namespace DF
open PySem PySem.Spec PyProof.Rows L2
def dDcGo (g : Tg) (t : DEnv → R Bool) (fk fv : DEnv → R D) (vs : List Nat) : List D → List (Key × D) → DEnv → R D
  | [], acc, ρ => .ok ρ (.dic acc)
  | d :: l, acc, ρ => match g d ρ with
    | none => .no
    | some ρ1 => (t ρ1).bindN fun b ρ2 => match b with
      | false => if noMu ρ2 vs = true then dDcGo g t fk fv vs l acc (wipeE ρ2 vs) else .no
      | true => (fk ρ2).bindN fun y ρ3 => (fv ρ3).bindN fun z ρ4 => match keyOf y with
        | none => .no
        | some kk => if noMu ρ4 vs = true then (if acc.length < 16000000 then dDcGo g t fk fv vs l (insD acc kk z) (wipeE ρ4 vs) else .no) else .no
def dDc (s : DEnv → R (List D)) (g : Tg) (t : DEnv → R Bool) (fk fv : DEnv → R D) (vs : List Nat) : DEnv → R D := fun ρ => (s ρ).bind fun l ρ1 => if noMu ρ1 vs = true then dDcGo g t fk fv vs l [] (wipeE ρ1 vs) else .no
theorem tdc_of {X : Cx} {W : WX} {s : DEnv → R (List D)} {g : Tg} {t : DEnv → R Bool} {fk fv : DEnv → R D} {vs : List Nat} : ∀ σ H Q, tF X.K W (dDc s g t fk fv vs) σ H Q → tDc (tI X.K W s) (tG X.K g vs) (tT X.K WN t) (tD X.K WN fk) (tD X.K WN fv) vs σ H Q := by
  refine fun σ H Q ⟨ρ, G, R, h⟩ => ⟨ρ, G, R, (Go.bind R h).imp fun l ρ1 G1 H1 s1 R1 h1 J hJ Dl hD => ?_⟩
  split at h1
  case isFalse => exact False.elim h1
  rename_i hn1
  -- the state ahead of the first turn
  have ag0 : Agr vs σ (wipe σ vs) := agr_wipe
  have NH : New G1 H1 G1 (upd H1 Dl (.dK [])) := New.hid R1.sub hD
  have R2 : Rep X.K G1 (upd H1 Dl (.dK [])) (wipeE ρ1 vs) σ := (NH.rep R1).wiped rfl fun _ _ => rfl
  have S2 : Stp ρ1 σ G1 H1 (wipeE ρ1 vs) σ G1 (upd H1 Dl (.dK [])) := (NH.stp R1).trans R1 (Stp.wiped (NH.rep R1) hn1 fun _ _ => rfl)
  have noD : ∀ b, ¬ Mu b (wipeE ρ1 vs) σ Dl := fun b ⟨i, d, e1, e2⟩ => by
    obtain ⟨a', e3, _, e4⟩ := R1.mu i b d (wipeE_some e1).1
    rw [e2] at e3; cases e3
    obtain ⟨o, ho⟩ := e4.there
    rw [hD] at ho; cases ho
  refine ⟨fun i m H' => m = l.length - i ∧ ∃ ρw Gi acc xs, Rep X.K Gi H' ρw σ ∧ Clean ρw vs ∧ Stp ρ1 σ G1 H1 ρw σ Gi H' ∧ H' Dl = some (.dK xs) ∧ Isk X.K Gi acc xs ∧ Gi Dl = none ∧ (∀ b, ¬ Mu b ρw σ Dl) ∧
      Go X.K W σ ρ1 G1 H1 (fun d ρ' G' H' => ∀ a, G' a = none → ¬ Mu false ρ' σ a → ¬ Mu true ρ' σ a → H a = none → Cont X.K G' H' a d → Q (.ref a) H') (dDcGo g t fk fv vs (l.drop i) acc ρw),
    ⟨l.length, by simp, wipeE ρ1 vs, G1, [], [], R2, clean_wipe, S2, upd_same, .nil, sub_none R1.sub hD, noD, h1⟩, fun i m H' ⟨em, ρw, Gi, acc, xs, Rw, cl, Sw, eD, hx, gD, nD, hgo⟩ => ?_⟩
  cases e : l[i]? with
  | none =>
    have hl : l.length ≤ i := List.getElem?_eq_none_iff.mp e
    rw [List.drop_eq_nil_of_le hl] at hgo
    exact .inl ⟨hJ.stop i Gi H' hl Sw.g Rw.sub, hgo Gi H' Sw Rw Dl gD (nD false) (nD true) (s1.t Dl hD) ⟨xs, eD, hx⟩⟩
  | some d =>
    obtain ⟨hlt, hel⟩ := List.getElem?_eq_some_iff.mp e
    obtain ⟨q1, q2⟩ := hJ.go i d Gi H' e Sw.g Rw.sub
    rw [List.drop_eq_getElem_cons hlt, hel] at hgo
    refine .inr ⟨q1, fun H' => ∃ ρw Gi acc xs, Rep X.K Gi H' ρw σ ∧ Clean ρw vs ∧ Stp ρ1 σ G1 H1 ρw σ Gi H' ∧ H' Dl = some (.dK xs) ∧ Isk X.K Gi acc xs ∧ Gi Dl = none ∧ (∀ b, ¬ Mu b ρw σ Dl) ∧
      Go X.K W σ ρ1 G1 H1 (fun d ρ' G' H' => ∀ a, G' a = none → ¬ Mu false ρ' σ a → ¬ Mu true ρ' σ a → H a = none → Cont X.K G' H' a d → Q (.ref a) H') (dDcGo g t fk fv vs (l.drop (i + 1)) acc ρw), fun H' q => ⟨l.length - (i + 1), by omega, rfl, q⟩, fun x H2 hy => ?_⟩
    obtain ⟨G2, N2, hdx⟩ := q2 x H2 hy
    unfold dDcGo at hgo
    split at hgo
    case h_1 => exact False.elim hgo
    rename_i ρa ea
    have R0 : Rep X.K Gi H' ρw (wipe σ vs) := Rw.swap cl ag0
    have R2' := N2.rep R0
    refine ⟨ρw, G2, d, R2', hdx, ρa, ea, fun σ2 G3 H3 s3 R3 ag3 => ⟨(wipe_agr ag3).trans (wipe_agr ag0), ρa, G3, R3, ?_⟩⟩
    have T3 : Stp ρw (wipe σ vs) Gi H' ρa σ2 G3 H3 := (N2.stp R0).trans R0 s3
    -- what a turn's end is
    have fin : ∀ {ρb : DEnv} {G4 H4 : Hp}, Stp ρa σ2 G3 H3 ρb σ2 G4 H4 → Rep X.K G4 H4 ρb σ2 → noMu ρb vs = true → Rep X.K G4 H4 (wipeE ρb vs) σ ∧ Stp ρ1 σ G1 H1 (wipeE ρb vs) σ G4 H4 ∧ H4 Dl = some (.dK xs) ∧ G4 Dl = none ∧ (∀ b, ¬ Mu b (wipeE ρb vs) σ Dl) ∧ Evl.Ex Gi G4 := fun {ρb G4 H4} s4 R4 n4 => by
      have ags : Agr vs σ2 (wipe σ vs) := ag3.symm
      have R5 : Rep X.K G4 H4 (wipeE ρb vs) (wipe σ vs) := R4.wiped ags.1 ags.2
      have T4 : Stp ρw (wipe σ vs) Gi H' (wipeE ρb vs) (wipe σ vs) G4 H4 := (T3.trans R0 s4).trans R0 (Stp.wiped R4 n4 ags.2)
      have T5 : Stp ρw σ Gi H' (wipeE ρb vs) σ G4 H4 := T4.swap cl clean_wipe ag0.symm
      have gD4 : G4 Dl = none := by
        cases hg : G4 Dl with
        | none => rfl
        | some u =>
          rcases T5.n Dl gD (by rw [hg]; exact fun z => by cases z) with z | z
          · rw [eD] at z; cases z
          · exact absurd z (nD false)
      refine ⟨R5.swap clean_wipe ag0.symm, Sw.trans R1 T5, T5.h Dl _ (nD false) (nD true) eD, gD4, fun b m => ?_, T5.g⟩
      cases b with
      | false =>
        rcases T5.ow Dl m with z | z
        · exact nD false z
        · rw [eD] at z; cases z
      | true => exact nD true (T5.io_back m)
    cases et : t ρa with
    | no => rw [et] at hgo; exact False.elim hgo
    | ex _ _ => rw [et] at hgo; exact False.elim hgo
    | ok ρb b =>
      rw [et] at hgo
      intro G4 H4 s4 R4
      cases b with
      | false =>
        rw [if_neg Bool.false_ne_true]
        have hgo' : Go X.K W σ ρ1 G1 H1 _ (if noMu ρb vs = true then dDcGo g t fk fv vs (l.drop (i + 1)) acc (wipeE ρb vs) else .no) := hgo
        split at hgo'
        · rename_i n4
          obtain ⟨a1, a2, a3, a4, a5, a6⟩ := fin s4 R4 n4
          exact ⟨wipeE ρb vs, G4, acc, xs, a1, clean_wipe, a2, a3, hx.mono a6, a4, a5, hgo'⟩
        · exact False.elim hgo'
      | true =>
        rw [if_pos rfl]
        refine ⟨ρb, G4, R4, ?_⟩
        have hgo' : Go X.K W σ ρ1 G1 H1 _ ((fk ρb).bindN fun y ρ3 => (fv ρ3).bindN fun z ρ4 => match keyOf y with
          | none => .no
          | some kk => if noMu ρ4 vs = true then (if acc.length < 16000000 then dDcGo g t fk fv vs (l.drop (i + 1)) (insD acc kk z) (wipeE ρ4 vs) else .no) else .no) := hgo
        cases ef : fk ρb with
        | no => rw [ef] at hgo'; exact False.elim hgo'
        | ex _ _ => rw [ef] at hgo'; exact False.elim hgo'
        | ok ρc y =>
          rw [ef] at hgo'
          intro G5 H5 s5 R5 vk hvk
          refine ⟨ρc, G5, R5, ?_⟩
          have hgo1 : Go X.K W σ ρ1 G1 H1 _ ((fv ρc).bindN fun z ρ4 => match keyOf y with
            | none => .no
            | some kk => if noMu ρ4 vs = true then (if acc.length < 16000000 then dDcGo g t fk fv vs (l.drop (i + 1)) (insD acc kk z) (wipeE ρ4 vs) else .no) else .no) := hgo'
          cases ev : fv ρc with
          | no => rw [ev] at hgo1; exact False.elim hgo1
          | ex _ _ => rw [ev] at hgo1; exact False.elim hgo1
          | ok ρe z =>
            rw [ev] at hgo1
            intro G6 H6 s6 R6 vv hvv
            have hgo2 : Go X.K W σ ρ1 G1 H1 _ (match keyOf y with
              | none => .no
              | some kk => if noMu ρe vs = true then (if acc.length < 16000000 then dDcGo g t fk fv vs (l.drop (i + 1)) (insD acc kk z) (wipeE ρe vs) else .no) else .no) := hgo1
            cases ek : keyOf y with
            | none => rw [ek] at hgo2; exact False.elim hgo2
            | some kk =>
              rw [ek] at hgo2
              dsimp only at hgo2
              split at hgo2
              · rename_i n5
                split at hgo2
                · rename_i hlen
                  obtain ⟨a1, a2, a3, a4, a5, a6⟩ := fin ((s4.trans R3 s5).trans R3 s6) R6 n5
                  refine ⟨xs, kk, keyOf_is hvk ek, a3, by rw [← hx.length, sizeLine_eq]; omega, wipeE ρe vs, G6, insD acc kk z, putK xs kk vv, a1.other a4 a5, clean_wipe, a2.other hD, upd_same, (hx.mono a6).put hvv kk, a4, a5, hgo2⟩
                · exact False.elim hgo2
              · exact False.elim hgo2
theorem df_dc {X : Cx} {W : WX} {kx vx tg iter : Expr} {ifs : List Expr} {scope : Scope} {own : List (Str × Nat)} {pos : Pos} {s : DEnv → R (List D)} {g : Tg} {t : DEnv → R Bool} {fk fv : DEnv → R D} {vs : List Nat}
    (hcalm : X.calm = true) (hN : X.N.Nodup) (hi : DI X W tg iter s) (ok : BlkOk X.N X.env.scope scope own) (hvs : own.map (·.2) = vs)
    (hg : ∀ (s : Shared) (H : Hp) (C : Addr) (cl : List (Str × Addr)) (fp : List Addr), DG (X.blk s H scope (compEnvC scope cl C X.env) fp) tg g vs)
    (ht : ∀ (s : Shared) (H : Hp) (C : Addr) (cl : List (Str × Addr)) (fp : List Addr), DTs (X.blk s H scope (compEnvC scope cl C X.env) fp) WN ifs t)
    (hk : ∀ (s : Shared) (H : Hp) (C : Addr) (cl : List (Str × Addr)) (fp : List Addr), DE (X.blk s H scope (compEnvC scope cl C X.env) fp) WN kx fk)
    (he : ∀ (s : Shared) (H : Hp) (C : Addr) (cl : List (Str × Addr)) (fp : List Addr), DE (X.blk s H scope (compEnvC scope cl C X.env) fp) WN vx fv) (hs : ∀ x, foldedSetIterable iter X.env x = pure x := by intro _; rfl) :
    DF' X W (.DictComp kx vx [⟨tg, iter, ifs, 0⟩] scope pos) (dDc s g t fk fv vs) := by
  subst hvs
  exact pe_imp (pe_dc (g := tG X.K g (own.map (·.2))) (tt := tT X.K WN t) (tk := tD X.K WN fk) (tv := tD X.K WN fv) hcalm hN hi ok hg ht hk he hs) tdc_of
end DF

/-! max of a dict's keys, whole numbers -/
namespace DF
open PySem PySem.Spec PyProof.Rows L2
def rMaxK : List V → Hp → VK → Prop := fun vs H Q => ∃ (a : Addr) (kvs : List (Key × V)) (i : Int) (l : List Int), vs = [V.ref a] ∧ Rd H a (.dK kvs) ∧ kvs.map (·.1) = (i :: l).map Sum.inl ∧ Q (.int (maxL i l)) H
theorem maxL_fold : ∀ (l : List Int) (i : Int), l.foldl max i = maxL i l
  | [], _ => rfl
  | k :: l, i => by
    unfold maxL
    rw [List.foldl_cons, List.foldl_cons]
    have e : max i k = if i < k then k else i := by
      by_cases h : i < k
      · rw [if_pos h]; omega
      · rw [if_neg h]; omega
    rw [e]
    exact maxL_fold l _
theorem call_maxK {X : Cx} (hc : X.calm = true) (hu : X.A.units + 64 < cLine) : CallR X (.builtin "max") rMaxK := by
  intro pins s σ H vs us Q I r hyp
  obtain ⟨a, kvs, i, l, rfl, hd, hks, q⟩ := hyp
  rw [Vals.ref1 r]
  obtain ⟨z, lo, ws, rel, dd⟩ := dk_rd I.hok hd
  obtain ⟨ep, hat⟩ := dd.dictAt
  have hkeys : ws.map (·.1) = (i :: l).map Sum.inl := rel.keys.symm.trans hks
  have hlen : ws.length = l.length + 1 := by
    have e := congrArg List.length hkeys
    simpa using e
  have hlt : a < s.heap.objs.size := by obtain ⟨_, _, e, _⟩ := hat; exact Heap.lt_size e
  have hne : a ≠ s.heap.objs.size := Nat.ne_of_lt hlt
  have at_ : ∀ (j : Nat) (v : Value), (∃ (k : Key) (x : Value), ws[j]? = some (k, x) ∧ (mixKind X.prog X.w).is k v = true) → ∃ (n : Int) (t : Tok), (i :: l)[j]? = some n ∧ v = .int n t := fun j v ⟨k, x, e1, e2⟩ => by
    have e3 : (ws.map (·.1))[j]? = some k := by rw [List.getElem?_map, e1]; rfl
    rw [hkeys, List.getElem?_map] at e3
    obtain ⟨n, e4, e5⟩ := Option.map_eq_some_iff.mp e3
    rcases keyIs_shape (k := k) (v := v) e2 with ⟨n', t, h1, h2⟩ | ⟨x', t, h1, h2⟩
    · rw [h1] at e5
      cases e5
      exact ⟨n, t, e4, h2⟩
    · rw [h1] at e5
      cases e5
  have gt : ∀ (j : Nat) (n : Int), (i :: l)[j]? = some n → ((PyData.int i) :: l.map PyData.int).getD j .none = .int n := fun j n e => by
    have : ((i :: l).map PyData.int)[j]? = some (.int n) := by rw [List.getElem?_map, e]; rfl
    rw [List.map_cons] at this
    rw [List.getD_eq_getElem?_getD, this]
    rfl
  refine PySem.call_max_walkH (wpAny_pyIter_dict lo hat ?_)
  refine ⟨s.heap.objs.size, [s.heap.objs.size, a], [s.heap.objs.size], _, ws.length, _, _, s.heap, (fun x y => PySem.W.dataLt ((PyData.int i :: l.map PyData.int).getD y .none) ((PyData.int i :: l.map PyData.int).getD x .none)), rfl,
    (Walks.dictKeys (A := X.A.in1) (I.ok.hd hc) s.heap.objs.size a hne ws ep).toS, ⟨⟨_, Heap.get?_push_size _ rfl, rfl, rfl⟩, hat.at' fun o e => Heap.get?_push_of_some _ e⟩, fun b hb => ?_, by omega, fun b o e hb => ?_, fun b o e => Heap.get?_push_of_some _ e, ?_, fun v s' hP m => ?_⟩
  · show b < (s.heap.push _).objs.size
    rw [Heap.size_push]
    rcases List.mem_cons.mp hb with rfl | hb
    · exact Nat.lt_succ_self _
    · rw [List.mem_singleton.mp hb]; exact Nat.lt_succ_of_lt hlt
  · exact absurd (Heap.lt_size e) ((List.mem_singleton.mp hb) ▸ Nat.lt_irrefl _)
  · intro j1 j2 v1 v2 s' Q' E' _ h1 h2 hq
    obtain ⟨n1, t1, e1, rfl⟩ := at_ j1 v1 h1
    obtain ⟨n2, t2, e2, rfl⟩ := at_ j2 v2 h2
    dsimp only at hq
    rw [gt j1 n1 e1, gt j2 n2 e2] at hq
    exact PySem.W.rcGt_alike (.int n1) (.int n2) X.A.in1 s' (.int n1 t1) (.int n2 t2) [] [] (.int n1 t1) (.int n2 t2) rfl (fun z => nomatch z) (by show X.A.units + 1 + 0 < cLine; omega) X.prog X.w E' Q' hq
  · obtain ⟨n, t, e, rfl⟩ := at_ _ v hP
    have b1 := (PySem.W.argBest_fold (fun a b => PySem.W.dataLt b a) PyData.none (PyData.int i) (l.map PyData.int) (l.map PyData.int).length (Nat.le_refl _)).2
    rw [List.take_length, List.length_map] at b1
    have b2 : ws.length - 1 = l.length := by omega
    rw [b2] at e
    have b3 := gt _ n e
    rw [b1] at b3
    have b4 := PySem.W.maxD_ints i l
    unfold PySem.W.maxD at b4
    rw [b4] at b3
    cases b3
    obtain ⟨h', tk, rfl, hk'⟩ := PySem.W.moved_old rfl rfl m
    exact ⟨.int (maxL i l), H, I.kept (t' := tk) hk', ⟨t, by rw [maxL_fold]⟩, q⟩
def maxKD (xs : List D) : Option D := match xs with
  | [.dic l] => match intKeys l with
    | some (i :: r) => some (.int (maxL i r))
    | _ => none
  | _ => none
theorem cas_maxK {K : PySem.W.Frag} : CaS K rMaxK maxKD := fun xs z vs G H Q eS hx e k => by
  unfold maxKD at e
  split at e
  · rename_i l
    obtain ⟨v, rfl, h⟩ := tops1 hx
    split at e
    · rename_i i r e1
      cases e
      obtain ⟨a, kvs, rfl, h2, h3⟩ := h
      exact ⟨a, kvs, i, r, rfl, h2, intKeys_of h3 e1, k _ G H (New.refl eS) (.int _)⟩
    · cases e
  · cases e
end DF

/-! isinstance(x, C) for an object of the class itself; what a class of one's own must tell -/
namespace DF
open PySem PySem.Spec PyProof.Rows L2
structure ClsI (K : PySem.W.Frag) (cn : Str) (C : Addr) : Prop where
  t : ClsT K cn C
  ha : PySem.W.findIn K (.ref C) "__class__" = some (some (.builtin "object.__class__"))
  hn : PySem.W.specialIn K (.builtin "object.__class__") "__get__" = some (some (.builtin "getset_descriptor.__get__"))
  htk : PySem.W.takesIn K (.builtin "object.__class__") = some true
  hm : PySem.W.mroIn K C (.type "object") = some true
def isOD (cn : Str) (d : D) : Option D := match d with
  | .obj c _ => if c = cn then some (.bl true) else none
  | _ => none
def dIsO (cn : Str) (f : DEnv → R Th) : DEnv → R D := fun ρ => (f ρ).bind fun t ρ1 => match t ρ1 with
  | some d => ofO ρ1 (isOD cn d)
  | none => .no
theorem de_isO {X : Cx} {W : WX} {a c : Expr} {f : DEnv → R Th} {cn : Str} {C : Addr} {p pos : Pos} (T : ClsI X.K cn C) (ha : DO X W a f) (hc : PE X c (tC (.ref C))) (hg : Gl X "isinstance") (hm : X.mg "isinstance" = none) (hv : bootBuiltins "isinstance" = some (.builtin "isinstance"))
    (h1 : starEach [a, c] X.env = (false, eval a X.env) :: starEach [c] X.env := by rfl) (h2 : starEach [c] X.env = (false, eval c X.env) :: starEach [] X.env := by rfl) (hpl : (backTo pos (starEach [c] X.env)).any (·.1) = false := by rfl) :
    DE X W (.Call (.Name "isinstance" p) [a, c] [] pos) (dIsO cn f) :=
  pe_imp (pe_callB (x := "isinstance") call_isi hg hm hv (pa_cons ha (pa_cons hc pa_nil h2) h1) (by decide) (by decide) h1 hpl) fun σ H Q ⟨ρ, G, R, h⟩ => ⟨ρ, G, R, (Go.bind R h).imp fun t ρ1 G1 H1 s1 R1 hh v hv => by
    clear h
    split at hh
    · rename_i d e1
      have tp := hv ρ1 G1 H1 d .refl R1 e1
      cases d with
      | obj c fs =>
        unfold isOD at hh
        dsimp only at hh
        by_cases hcn : c = cn
        · subst hcn
          rw [if_pos rfl] at hh
          obtain ⟨a, C', dx, fv, rfl, q1, q2, q3⟩ := tp
          have hC : C' = C := by
            have := q2.symm.trans T.t.ns
            cases this
            rfl
          subst hC
          refine ⟨.ref a, .ref C', .ref C', .ref C', true, rfl, .own C', .base (.ins q1 T.t.cl T.ha T.hn T.htk T.hm), ?_, hh G1 H1 .refl R1 _ (.bl true)⟩
          unfold PySem.W.kitOne
          rw [if_pos (beq_self_eq_true _)]
        · rw [if_neg hcn] at hh
          exact False.elim hh
      | _ => exact False.elim hh
    · exact False.elim hh⟩
/-- the name of a class -/
theorem pe_cls {X : Cx} {x : Str} {C : Addr} {pos : Pos} (hg : Gl X x) (hm : X.mg x = some (.ref C)) (hd : (x == ("__debug__" : Str)) = false := by decide) : PE X (.Name x pos) (tC (.ref C)) := pe_glob hg hm (show RelV (.ref C) (.ref C) from rfl) hd
/-- the truth of a dict, also of one that stays -/
theorem tru_dict {X : Cx} : TruR X (fun x H Q => ∃ (a : Addr) (kvs : List (Key × V)), x = .ref a ∧ Rd H a (.dK kvs) ∧ Q (!kvs.isEmpty) H) := by
  intro pins s σ H x v Q I rx hyp
  obtain ⟨a, kvs, rfl, hd, q⟩ := hyp
  cases rx
  obtain ⟨z, lo, ws, rel, dd⟩ := dk_rd I.hok hd
  have hl : kvs.length = ws.length := Paired.length rel
  have hz : (ws.length : Int) < 2 ^ 63 := by rw [← hl]; rw [sizeLine_eq] at z; omega
  exact wpAny_truthy_dict lo dd hz ⟨H, I.tok _, by
    rw [isEmpty_kv rel]
    exact q⟩
def dTruK (f : DEnv → R Th) : DEnv → R Bool := fun ρ => (f ρ).bind fun t ρ' => match t ρ' with
  | some (.dic l) => .ok ρ' (!l.isEmpty)
  | _ => .no
theorem isk_empty {K : PySem.W.Frag} {G : Hp} {l : List (Key × D)} {kvs : List (Key × V)} (h : Isk K G l kvs) : kvs.isEmpty = l.isEmpty := by
  cases h <;> rfl
theorem dt_truthK {X : Cx} {W : WX} {e : Expr} {f : DEnv → R Th} (h0 : DO X W e f) (he : ∀ whole, isTrue e X.env whole = (do let v ← whole; standAt e.pos; holding [v] (truthy v)) := by intro _; rfl) : DT X W e (dTruK f) :=
  pt_imp (pt_truthR h0 tru_dict he) fun σ H Q ⟨ρ, G, R, h⟩ => ⟨ρ, G, R, (Go.bind R h).imp fun t ρ1 G1 H1 s1 R1 hh v hv => by
    clear h
    split at hh
    · rename_i l e1
      obtain ⟨a, kvs, rfl, q1, q2⟩ := hv ρ1 G1 H1 _ .refl R1 e1
      exact ⟨a, kvs, rfl, q1, by rw [isk_empty q2]; exact hh G1 H1 .refl R1⟩
    · exact False.elim hh⟩
end DF

/-! tuple(d): the keys of a dict -/
namespace DF
open PySem PySem.Spec PyProof.Rows L2
open AutoSeq1 (wpAny_loadPart')
theorem new_tuple_keys {prog : Program} {w : World} {d : Addr} {kvs : List (Key × Value)} {ep : Nat} (lo : (d == sysModules) = false) (hn : kvs.length ≤ sizeLine) :
    MeetsIn prog w (Builtin.«tuple.__new__» ⟨[.type "tuple", .ref d], []⟩)
      (fun A R s => A.in1.handled = none ∧ s.heap.DictAt (mixKind prog w) d kvs ep ∧ ∀ (h' : Heap) (tk : Nat) (acc : Array Value), (∀ b o', s.heap.get? b = some o' → h'.get? b = some o') → PySem.ItemsOf (fun i v => ∃ k x, kvs[i]? = some (k, x) ∧ (mixKind prog w).is k v = true) acc kvs.length →
        R (.ok (.ret (.ref h'.objs.size))) { s with heap := h'.push { cls := .type "tuple", data := .seq acc }, toks := tk }) :=
  .of_wp fun A R s hyp => by
    obtain ⟨hp, g, dr, tk, os⟩ := s
    obtain ⟨hh, hat, hq⟩ := hyp
    have h1 := sub_tuple_self
    have h2 := init_tuple_lookup
    have h3 := madeHere_tuple
    obtain ⟨o, es, ho, hc, hrest⟩ := id hat
    have hT : Shared.TypeIs ⟨hp, g, dr, tk, os⟩ (.ref d) "dict" := hat.dictOf.typeIs
    wp_walk using wpAny_loadPart' ho, wpAny_typeOf hT, (PySem.W.kdu_collect (A := A.in1) (PySem.W.kdl_dict (knd := mixKind prog w) (kvs := kvs) (ep := ep) lo) hh hat hn)
    intro h' tk' acc hk hi
    refine wpAny_bind (wpAny_pure ?_)
    have ez : acc.toList.toArray = acc := Array.toArray_toList
    show wpAny _ _ (Builtin.Tuple.tupleExact acc.toList.toArray >>= fun v => ret v) _ _ _
    rw [ez]
    unfold Builtin.Tuple.tupleExact
    exact wpAny_bind (wpAny_newObj_type (wpAny_pure ⟨_, rfl, hq h' tk' acc hk hi⟩) (by show acc.size ≤ sizeLine; rw [hi.1]; exact hn))
def rTupK : List V → Hp → VK → Prop := fun xs H Q => ∃ (a : Addr) (kvs : List (Key × V)), xs = [.ref a] ∧ Rd H a (.dK kvs) ∧ ∀ p, H p = none → Q (.ref p) (upd H p (.tup (kvs.map fun kv => kV kv.1)))
theorem call_tupK {X : Cx} (hcalm : X.calm = true) : CallR X (.type "tuple") rTupK := by
  intro pins s σ H xs us Q I r hyp
  obtain ⟨a, kvs, rfl, hd, q⟩ := hyp
  obtain ⟨u, rfl, rx⟩ := vals1 r
  cases rx
  obtain ⟨z, lo, ws, rel, dd⟩ := dk_rd I.hok hd
  obtain ⟨ep, hat⟩ := dd.dictAt
  have el : kvs.length = ws.length := Paired.length rel
  have ek : (kvs.map fun kv => kV kv.1) = ws.map fun p => kV p.1 := by
    have := congrArg (List.map kV) rel.keys
    rw [List.map_map, List.map_map] at this
    exact this
  refine callType_newIn F.called_tuple (by decide) (F.typeCall_tuple_1 _) (F.newCall_tuple_1 _) (fun obj => F.args_object_init_2 obj _) F.entry_tuple_new (new_tuple_keys lo (by rw [← el]; exact z)) ⟨I.ok.hd hcalm, hat, fun h' tk acc hk hi => ?_⟩
  have I1 : Inv X pins σ H { s with heap := h', toks := tk } := I.kept (t' := tk) hk
  have hv : Vals (kvs.map fun kv => kV kv.1) acc.toList := by
    rw [ek]
    exact keys_at (by rw [Array.length_toList]; exact hi.1) fun j v e => hi.2 j v (by rw [← Array.getElem?_toList]; exact e)
  have I2 : Inv X pins σ (upd H h'.objs.size (.tup (kvs.map fun kv => kV kv.1))) { s with heap := h'.push { cls := .type "tuple", data := .seq acc }, toks := tk } :=
    I1.laid (t' := tk) (fun b o e => Heap.get?_push_of_some _ e) (Nat.le_refl _) (show ObjOk X.prog X.w _ _ _ (.tup (kvs.map fun kv => kV kv.1)) from ⟨by rw [List.length_map]; exact z, acc.toList, hv, by
      rw [Array.toArray_toList]
      exact ⟨_, Heap.get?_push_size _ rfl, rfl, _, rfl⟩⟩)
  exact ⟨⟨_, Heap.get?_push_size _ rfl, rfl⟩, .ref h'.objs.size, _, I2, rfl, q _ (I1.hok.fresh (Nat.le_refl _))⟩
theorem Isk.keysT {K : PySem.W.Frag} {G : Hp} : ∀ {l : List (Key × D)} {kvs : List (Key × V)}, Isk K G l kvs → Iss K G (l.map fun p => keyD p.1) (kvs.map fun p => kV p.1)
  | _, _, .nil => .nil
  | _, _, .cons _ r => .cons (keyD_is _) (Isk.keysT r)
def tupKD (xs : List D) : Option D := match xs with
  | [.dic l] => some (.tup (l.map fun p => keyD p.1))
  | _ => none
theorem cas_tupK {K : PySem.W.Frag} : CaS K rTupK tupKD := fun xs z vs G H Q eS hx e k => by
  unfold tupKD at e
  split at e
  · rename_i l
    cases e
    obtain ⟨v, rfl, h⟩ := tops1 hx
    obtain ⟨a, kvs, rfl, h2, h3⟩ := h
    exact ⟨a, kvs, rfl, h2, fun p hp => k _ _ _ (New.put eS hp) (.tup (.inl (.inl upd_same)) (h3.keysT.mono (New.put eS hp).g))⟩
  · cases e
end DF

/-! a walk over a list or a tuple, whichever it is -/
namespace DF
open PySem PySem.Spec PyProof.Rows L2
section
variable {X : Cx} {W : WX} {tg e : Expr}
theorem pi_seq {te : TE} (he : PE X e te) : PI X tg e (fun σ H R => te σ H fun x H1 => ∃ (a : Addr) (xs : List V), x = .ref a ∧ ((SqL X.K H1 a xs ∧ R (Itl X.K a) H1) ∨ (SqT X.K H1 a xs ∧ R (Itt X.K a) H1))) := by
  refine ⟨fun pins s σ H R I h => thn (he.run pins s σ H _ I h) fun v s1 hv => ?_⟩
  obtain ⟨x, H1, I1, r1, a, xs, rfl, hq⟩ := hv
  cases r1
  have fresh : ∀ b ∈ [s1.heap.objs.size], FpOk X pins H1 b := fun b hb => by
    rw [show b = s1.heap.objs.size by simpa using hb]
    exact I1.fpOk (Nat.le_refl _) (I1.hok.fresh (Nat.le_refl _))
  rcases hq with ⟨hq, k⟩ | ⟨hq, k⟩
  · obtain ⟨its, rv, p, hz⟩ := I1.list hq
    exact wpAny_pyIter_list p.isList ⟨_, _, _, _, H1, rfl, I1.kept (t' := s1.toks) (fun b o e => Heap.get?_push_of_some _ e), turn_list a _, ⟨_, Heap.get?_push_size _ rfl, rfl, rfl⟩, fresh, k⟩
  · obtain ⟨its, rv, p, hz⟩ := I1.tuple hq
    exact wpAny_pyIter_tuple (items := its.toArray) p ⟨_, _, _, _, H1, rfl, I1.kept (t' := s1.toks) (fun b o e => Heap.get?_push_of_some _ e), turn_tuple a _, ⟨_, Heap.get?_push_size _ rfl, rfl, rfl⟩, fresh, k⟩
def sSeq (f : DEnv → R D) : DEnv → R (List D) := fun ρ => (f ρ).bind fun d ρ' => match seqOf d with
  | some l => .ok ρ' l
  | none => .no
theorem di_seq {f : DEnv → R D} (h0 : DE X W e f) : DI X W tg e (sSeq f) := pi_imp (pi_seq h0) fun σ H Q ⟨ρ, G, R, h⟩ => ⟨ρ, G, R, (Go.bind R h).imp fun d ρ' G' H' s R' hh v hv => by
    clear h
    cases e1 : seqOf d with
    | none => rw [e1] at hh; exact False.elim hh
    | some l =>
      rw [e1] at hh
      have hh := hh G' H' .refl R'
      cases hv with
      | lst h r => cases e1; exact ⟨_, _, rfl, .inl ⟨Evl.sq_of (R'.sub _ _ h), hh _ (itl_s (Evl.sq_of h) r)⟩⟩
      | fro h r => cases e1; exact ⟨_, _, rfl, .inl ⟨Evl.ex_l R'.sub h, hh _ (itl_s h r)⟩⟩
      | tup h r => cases e1; exact ⟨_, _, rfl, .inr ⟨Evl.ex_t R'.sub h, hh _ (itt_s h r)⟩⟩
      | _ => cases e1⟩
end
end DF

/-! what a row's text has of classes -/
namespace DF
open PySem PySem.Spec PyProof.Rows L2
structure HasF (K : PySem.W.Frag) (cn f : Str) : Prop where
  ex : ∃ C, ClsT K cn C ∧ NoAttr K C f
structure HasI (K : PySem.W.Frag) (mg : Str → Option Value) (cn : Str) : Prop where
  ex : ∃ C, ClsI K cn C ∧ mg cn = some (.ref C)
structure HasMk (P : Program) (w : World) (K : PySem.W.Frag) (mg : Str → Option Value) (base : Heap) (cn : Str) (k ar : Nat) (F : Fn) : Prop where
  ex : ∃ (C g : Addr) (fd : FuncData) (ps : List Str), ClsT K cn C ∧ Mk K C g ∧ mg cn = some (.ref C) ∧ Binds K fd ps [] ∧ FnG P w K mg base (L2.CX P w) k g fd ps (spD K ar F)
structure HasIt (P : Program) (w : World) (K : PySem.W.Frag) (mg : Str → Option Value) (base : Heap) (cn fl : Str) : Prop where
  ex : ∃ (C fi : Addr) (fd : FuncData), ClsT K cn C ∧ Binds K fd ["self"] [] ∧ PySem.W.findIn K (.ref C) "__iter__" = some (some (.ref fi)) ∧ PySem.W.isFn K (.ref fi) = true ∧ FnS P w K mg base (L2.CX P w) 1 fi fd ["self"] (spIt K C fl)
structure HasP (P : Program) (w : World) (K : PySem.W.Frag) (mg : Str → Option Value) (base : Heap) (cn f : Str) (k : Nat) (F : Fn) : Prop where
  ex : ∃ (C pr g : Addr) (fd : FuncData) (ps : List Str), ClsT K cn C ∧ PropOf K C f pr g ∧ Binds K fd ps [] ∧ FnG P w K mg base (L2.CX P w) k g fd ps (spD K 1 F)
structure HasM (P : Program) (w : World) (K : PySem.W.Frag) (mg : Str → Option Value) (base : Heap) (cn m : Str) (k ar : Nat) (F : Fn) : Prop where
  ex : ∃ (C g : Addr) (fd : FuncData) (ps : List Str), ClsT K cn C ∧ Meth K C m g ∧ Binds K fd ps [] ∧ FnG P w K mg base (L2.CX P w) k g fd ps (spD K ar F)
theorem FnG.mono {P : Program} {w : World} {K : PySem.W.Frag} {mg : Str → Option Value} {base : Heap} {CX : CXT} {j k : Nat} {f : Addr} {fd : FuncData} {ps : List Str} {sp : Sp} (h : FnG P w K mg base CX j f fd ps sp) (hj : j ≤ k) : FnG P w K mg base CX k f fd ps sp :=
  ⟨h.len, fun A outer s H us vs Q E hr => h.run A outer s H us vs Q E (hr.mono hj)⟩
section
variable {X : Cx} {W : WX} {o e tg : Expr} {es : List Expr} {f cn fl x m : Str} {p pos apos p1 : Pos} {k j ar : Nat} {F : Fn}
theorem de_fldH {fo : DEnv → R Th} (T : HasF X.K cn f) (ho : DO X W e fo) (hb : attributeBase e f X.env (eval e X.env) = eval e X.env := by rfl) : DE X W (.Attribute e f pos) (dUn (fldD cn f) fo) := by
  obtain ⟨C, t, n⟩ := T.ex
  exact de_fld t n ho hb
theorem ds_setaH {i : Nat} {fe : DEnv → R D} (T : HasF X.K cn f) (ho : PE X o (tVar i)) (he : DE X W e fe) (hs : swapsWith e (some (.Attribute o f p1)) pos.line X.env = pure false := by rfl) :
    DS X W (.Assign [.Attribute o f p1] e pos) (dSetA cn f i fe) := by
  obtain ⟨C, t, n⟩ := T.ex
  exact ds_seta t n ho he hs
theorem df_makeH {fa : DEnv → R (List D)} (h : HasMk X.prog X.w X.K X.mg X.base cn j ar F) (hr : RoomG k X.A) (hj : j + 1 ≤ k) (hg : Gl X cn)
    (ha : DVs X W (e :: es) fa) (hdb : (cn == ("__debug__" : Str)) = false := by decide) (he : starEach (e :: es) X.env = (false, eval e X.env) :: starEach es X.env := by rfl) (hpl : (backTo pos (starEach es X.env)).any (·.1) = false := by rfl) :
    DF' X W (.Call (.Name cn p) (e :: es) [] pos) (dMake cn ar F fa) := by
  obtain ⟨C, g, fd, ps, t, M, hm, hb, FO⟩ := h.ex
  exact df_make t M FO (hr.mono hj) hg hm hb ha hdb he hpl
theorem di_ownH {fo : DEnv → R D} (h : HasIt X.prog X.w X.K X.mg X.base cn fl) (hr : RoomG k X.A) (hj : 1 ≤ k) (h0 : DE X W e fo) : DI X W tg e (sOwn cn fl fo) := by
  obtain ⟨C, fi, fd, t, hb, h1, h2, FS⟩ := h.ex
  exact di_own t FS (hr.mono hj) hb h1 h2 h0
theorem dx_propH {fo : DEnv → R D} (h : HasP X.prog X.w X.K X.mg X.base cn f j F) (hr : RoomG k X.A) (hj : j + 1 ≤ k) (ho : DE X W o fo) (hab : attributeBase o f X.env (eval o X.env) = eval o X.env := by rfl) : DX X W (.Attribute o f pos) (dProp cn F fo) := by
  obtain ⟨C, pr, g, fd, ps, t, hp, hb, FO⟩ := h.ex
  exact dx_prop t hp FO (hr.mono hj) hb ho hab
theorem dx_methH {fo : DEnv → R D} {fa : DEnv → R (List D)} {pl : Sem Bool} (h : HasM X.prog X.w X.K X.mg X.base cn m j ar F) (hr : RoomG k X.A) (hj : j ≤ k)
    (ho : DE X W o fo) (ha : DVs X W (e :: es) fa)
    (hst : starEach (e :: es) X.env = (false, eval e X.env) :: starEach es X.env := by rfl) (hpl : (backTo pos (starEach es X.env)).any (·.1) = false := by rfl)
    (ht : eval (.Call (.Attribute o m apos) (e :: es) [] pos) X.env = (do
      let ov ← eval o X.env
      standAt apos.atName
      let (f, first) ← holding [ov] (getMethod ov m pl)
      callWith pos f first (backTo pos (starEach (e :: es) X.env)) (backToKw pos (keywordEach [] X.env))) := by rfl) : DX X W (.Call (.Attribute o m apos) (e :: es) [] pos) (dMeth cn m ar F fo fa) := by
  obtain ⟨C, g, fd, ps, t, hm, hb, FO⟩ := h.ex
  exact dx_meth t hm FO (hr.mono hj) hb ho ha hst hpl ht
theorem dx_methH0 {fo : DEnv → R D} {pl : Sem Bool} (h : HasM X.prog X.w X.K X.mg X.base cn m j ar F) (hr : RoomG k X.A) (hj : j ≤ k)
    (ho : DE X W o fo)
    (ht : eval (.Call (.Attribute o m apos) [] [] pos) X.env = (do
      let ov ← eval o X.env
      standAt apos.atName
      let (f, first) ← holding [ov] (getMethod ov m pl)
      callWith pos f first (backTo pos (starEach [] X.env)) (backToKw pos (keywordEach [] X.env))) := by rfl) : DX X W (.Call (.Attribute o m apos) [] [] pos) (dMeth cn m ar F fo vNil) := by
  obtain ⟨C, g, fd, ps, t, hm, hb, FO⟩ := h.ex
  exact dx_meth0 t hm FO (hr.mono hj) hb ho ht
theorem de_isOH {a : Expr} {p2 : Pos} {fa : DEnv → R Th} (T : HasI X.K X.mg cn) (ha : DO X W a fa) (hgc : Gl X cn) (hg : Gl X "isinstance") (hm : X.mg "isinstance" = none) (hv : bootBuiltins "isinstance" = some (.builtin "isinstance")) (hd : (cn == ("__debug__" : Str)) = false := by decide)
    (h1 : starEach [a, .Name cn p2] X.env = (false, eval a X.env) :: starEach [.Name cn p2] X.env := by rfl) (h2 : starEach [(.Name cn p2 : Expr)] X.env = (false, eval (.Name cn p2) X.env) :: starEach [] X.env := by rfl) (hpl : (backTo pos (starEach [(.Name cn p2 : Expr)] X.env)).any (·.1) = false := by rfl) :
    DE X W (.Call (.Name "isinstance" p) [a, .Name cn p2] [] pos) (dIsO cn fa) := by
  obtain ⟨C, t, hm2⟩ := T.ex
  exact de_isO t ha (pe_cls hgc hm2 hd) hg hm hv h1 h2 hpl
end
end DF

/-! sum of a tuple of integers -/
namespace DF
open PySem PySem.Spec PyProof.Rows PyProof.V L2
def rSumT (K : PySem.W.Frag) : List V → Hp → VK → Prop := fun vs H Q => ∃ (a : Addr) (ns : List Int), vs = [V.ref a] ∧ SqT K H a (ns.map V.int) ∧ Q (.int ns.sum) H
theorem call_sumT {X : Cx} (hc : X.calm = true) : CallR X (.builtin "sum") (rSumT X.K) := by
  intro pins s σ H vs us Q I r h
  obtain ⟨a, ns, rfl, hs, q⟩ := h
  obtain ⟨its, rv, hl, _⟩ := I.tuple hs
  rw [Vals.ref1 r]
  have hi := rv.ints
  have hl' : s.heap.IsTuple a its.toArray := hl
  obtain ⟨xs, hx⟩ := hi.allInts.items
  have hn : numsOf its.toArray.toList = ns := by rw [show its.toArray.toList = its from rfl, hi.numsOf]
  rw [hx] at hl' hn
  rw [nums_intItems] at hn
  refine PySem.W.ktm_sumG (I.ok.hd hc) hl' fun h' tk t' hk => ?_
  rw [preSum_eq, List.take_of_length_le (by simp), hn]
  exact ⟨.int _, H, I.kept hk, ⟨_, rfl⟩, q⟩
def tupOf (d : D) : Option (List D) := match d with
  | .tup l => some l
  | _ => none
theorem tupOf_top {K : PySem.W.Frag} {G H : Hp} {d : D} {l : List D} {v : V} (eS : Evl.Ex G H) (h : Top K G H d v) (e : tupOf d = some l) : ∃ a xs, v = .ref a ∧ SqT K H a xs ∧ Iss K G l xs := by
  cases d with
  | tup m => cases e; cases h with | tup h1 h2 => exact ⟨_, _, rfl, Evl.ex_t eS h1, h2⟩
  | _ => cases e
def sumTD (xs : List D) : Option D := match xs with
  | [d] => match tupOf d with
    | some l => (intsD l).map fun ns => .int ns.sum
    | none => none
  | _ => none
theorem cas_sumT {K : PySem.W.Frag} : CaS K (rSumT K) sumTD := fun xs z vs G H Q eS hx e k => by
  unfold sumTD at e
  split at e
  · rename_i d
    split at e
    · rename_i l e1
      obtain ⟨v, rfl, h⟩ := tops1 hx
      obtain ⟨a, ys, rfl, h1, h2⟩ := tupOf_top eS h e1
      cases q : intsD l with
      | none => rw [q] at e; cases e
      | some ns =>
        rw [q] at e; cases e
        rw [intsD_of q] at h2
        exact ⟨a, ns, rfl, by rw [← h2.ints]; exact h1, k _ G H (New.refl eS) (.int _)⟩
    · cases e
  · cases e
def sumAD : List D → Option D := orC sumD sumTD
@[simp] theorem sumAD_tup (l : List Int) : sumAD [.tup (l.map D.int)] = some (.int l.sum) := by
  show (match sumD [.tup (l.map D.int)] with | some d => some d | none => sumTD [.tup (l.map D.int)]) = _
  show sumTD [.tup (l.map D.int)] = _
  unfold sumTD
  show (intsD (l.map D.int)).map (fun ns => D.int ns.sum) = _
  rw [intsD_map]; rfl
@[simp] theorem sumAD_lst (l : List Int) : sumAD [.lst (l.map D.int)] = some (.int l.sum) := by
  have : sumD [.lst (l.map D.int)] = some (.int l.sum) := by
    show (intsD (l.map D.int)).map (fun ns => D.int ns.sum) = _
    rw [intsD_map]; rfl
  unfold sumAD orC
  rw [this]
end DF

namespace DF
open PySem PySem.Spec PyProof.Rows L2
@[simp] theorem dRem_ap (i : Nat) (f : DEnv → R D) (ρ : DEnv) : dRem i f ρ = match muL i ρ with
  | none => .no
  | some _ => (f ρ).bindS fun d ρ' => match muL i ρ', d with
    | some (b, l), .int k => match intsD l with
      | some ns => if k ∈ ns then .nx (ρ'.set i (some (.mu b (.lst ((ns.erase k).map D.int))))) else .no
      | none => .no
    | _, _ => .no := id rfl
@[simp] theorem dDc_ap (s : DEnv → R (List D)) (g : Tg) (t : DEnv → R Bool) (fk fv : DEnv → R D) (vs : List Nat) (ρ : DEnv) : dDc s g t fk fv vs ρ = (s ρ).bind fun l ρ1 => if noMu ρ1 vs = true then dDcGo g t fk fv vs l [] (wipeE ρ1 vs) else .no := id rfl
@[simp] theorem dIsO_ap (cn : Str) (f : DEnv → R Th) (ρ : DEnv) : dIsO cn f ρ = (f ρ).bind fun t ρ1 => match t ρ1 with
  | some d => ofO ρ1 (isOD cn d)
  | none => .no := id rfl
@[simp] theorem dTruK_ap (f : DEnv → R Th) (ρ : DEnv) : dTruK f ρ = (f ρ).bind fun t ρ' => match t ρ' with
  | some (.dic l) => .ok ρ' (!l.isEmpty)
  | _ => .no := id rfl
@[simp] theorem sSeq_ap (f : DEnv → R D) (ρ : DEnv) : sSeq f ρ = (f ρ).bind fun d ρ' => match seqOf d with
  | some l => .ok ρ' l
  | none => .no := id rfl
@[simp] theorem sOwn_ap (cn fl : Str) (f : DEnv → R D) (ρ : DEnv) : sOwn cn fl f ρ = (f ρ).bind fun d ρ' => match d with
  | .obj c fs => if c = cn then match fs.lookup fl with
    | some (.tup l) => .ok ρ' l
    | _ => .no
    else .no
  | _ => .no := id rfl
@[simp] theorem dSetA_ap (cn f : Str) (i : Nat) (fe : DEnv → R D) (ρ : DEnv) : dSetA cn f i fe ρ = (fe ρ).bindS fun d ρ1 => match muO i ρ1 with
  | some (b, c, fs) => if c = cn ∧ fs.length < 900 then .nx (ρ1.set i (some (.mu b (.obj c (putFD f d fs))))) else .no
  | none => .no := id rfl
@[simp] theorem dMake_ap (cn : Str) (ar : Nat) (F : Fn) (f : DEnv → R (List D)) (ρ : DEnv) : dMake cn ar F f ρ = (f ρ).bind fun l ρ1 => if l.length + 1 = ar then match F ((true, .obj cn []) :: l.map fun d => (false, d)) with
    | .ret false .non [.obj c fs] => if c = cn then .ok ρ1 (.obj c fs) else .no
    | _ => .no
  else .no := id rfl
@[simp] theorem dMeth_ap (cn m : Str) (ar : Nat) (F : Fn) (fo : DEnv → R D) (fa : DEnv → R (List D)) (ρ : DEnv) : dMeth cn m ar F fo fa ρ = (fo ρ).bind fun d ρ1 => match d with
  | .obj c fs => if c = cn ∧ (fs.lookup m).isNone = true then (fa ρ1).bind fun l ρ2 => vRes ar F (.obj c fs :: l) ρ2 else .no
  | _ => .no := id rfl
@[simp] theorem dProp_ap (cn : Str) (F : Fn) (fo : DEnv → R D) (ρ : DEnv) : dProp cn F fo ρ = (fo ρ).bind fun d ρ1 => match d with
  | .obj c fs => if c = cn then vRes 1 F [.obj c fs] ρ1 else .no
  | _ => .no := id rfl
end DF

/-! dicts of integers by their keys and a function -/
namespace DF
open PySem L2
def mD (ks : List Int) (c : Int → Int) : List (Key × D) := ks.map fun m => (.inl m, .int (c m))
def val0 (ks : List Int) (c : Int → Int) (m : Int) : Int := if m ∈ ks then c m else 0
theorem mD_congr {ks : List Int} {c c' : Int → Int} (h : ∀ m ∈ ks, c m = c' m) : mD ks c = mD ks c' := by
  unfold mD
  exact List.map_congr_left fun m hm => by rw [h m hm]
theorem valD_mD (c : Int → Int) (k : Int) : ∀ ks : List Int, valD (mD ks c) (.inl k) = if k ∈ ks then some (.int (c k)) else none
  | [] => rfl
  | m :: ks => by
    unfold valD mD
    rw [List.map_cons, List.find?_cons]
    by_cases h : m = k
    · subst h
      simp
    · have ih := valD_mD c k ks
      unfold valD mD at ih
      have h1 : (decide ((Sum.inl m : Key) = Sum.inl k)) = false := decide_eq_false fun z => h (Sum.inl.inj z)
      rw [h1]
      dsimp only
      rw [ih]
      by_cases hk : k ∈ ks
      · rw [if_pos hk, if_pos (List.mem_cons_of_mem _ hk)]
      · rw [if_neg hk, if_neg fun z => (List.mem_cons.mp z).elim (fun z => h z.symm) hk]
theorem get_mD (ks : List Int) (c : Int → Int) (k : Int) : (valD (mD ks c) (.inl k)).getD (.int 0) = .int (val0 ks c k) := by
  rw [valD_mD]
  unfold val0
  by_cases h : k ∈ ks
  · rw [if_pos h, if_pos h]; rfl
  · rw [if_neg h, if_neg h]; rfl
def insK (ks : List Int) (k : Int) : List Int := if k ∈ ks then ks else ks ++ [k]
def insC (c : Int → Int) (k v : Int) : Int → Int := fun m => if m = k then v else c m
theorem insD_mD (ks : List Int) (c : Int → Int) (k v : Int) : insD (mD ks c) (.inl k) (.int v) = mD (insK ks k) (insC c k v) := by
  unfold insD insK
  have ha : ((mD ks c).any fun p => decide (p.1 = (Sum.inl k : Key))) = decide (k ∈ ks) := by
    rw [Bool.eq_iff_iff]
    unfold mD
    simp
  rw [ha]
  by_cases h : k ∈ ks
  · rw [if_pos (decide_eq_true h), if_pos h]
    unfold mD
    rw [List.map_map]
    refine List.map_congr_left fun m hm => ?_
    show (if (Sum.inl m : Key) = Sum.inl k then ((Sum.inl m : Key), D.int v) else (Sum.inl m, D.int (c m))) = (Sum.inl m, D.int (insC c k v m))
    unfold insC
    by_cases hk : m = k
    · rw [if_pos (by rw [hk]), if_pos hk]
    · rw [if_neg (fun z => hk (Sum.inl.inj z)), if_neg hk]
  · rw [if_neg (by rw [decide_eq_false h]; decide), if_neg h]
    unfold mD
    rw [List.map_append]
    congr 1
    · refine List.map_congr_left fun m hm => ?_
      unfold insC
      rw [if_neg (fun z : m = k => h (z ▸ hm))]
    · show [((Sum.inl k : Key), D.int v)] = [((Sum.inl k : Key), D.int (insC c k v k))]
      unfold insC
      rw [if_pos rfl]
theorem val0_ins (ks : List Int) (c : Int → Int) (k v m : Int) : val0 (insK ks k) (insC c k v) m = if m = k then v else val0 ks c m := by
  unfold val0 insK insC
  by_cases hm : m = k
  · subst hm
    by_cases h : m ∈ ks
    · simp [h]
    · simp [h]
  · by_cases h : k ∈ ks
    · simp [h, hm]
    · simp [h, hm]
theorem insK_nodup {ks : List Int} {k : Int} (h : ks.Nodup) : (insK ks k).Nodup := by
  unfold insK
  split
  · exact h
  · rename_i hk
    exact List.nodup_append.mpr ⟨h, by simp, fun a ha b hb => by rw [List.mem_singleton.mp hb]; exact fun z => hk (z ▸ ha)⟩
theorem insK_len (ks : List Int) (k : Int) : (insK ks k).length ≤ ks.length + 1 := by
  unfold insK
  split
  · omega
  · rw [List.length_append, List.length_singleton]; omega
theorem mem_insK {ks : List Int} {k m : Int} : m ∈ insK ks k ↔ m ∈ ks ∨ m = k := by
  unfold insK
  split
  · rename_i h
    exact ⟨.inl, fun z => z.elim id fun z => z ▸ h⟩
  · simp
theorem mD_len (ks : List Int) (c : Int → Int) : (mD ks c).length = ks.length := by unfold mD; rw [List.length_map]
theorem mD_keys (ks : List Int) (c : Int → Int) : intKeys (mD ks c) = some ks := by
  induction ks with
  | nil => rfl
  | cons k ks ih =>
    show (intKeys (mD ks c)).map (k :: ·) = _
    rw [ih]; rfl
theorem mD_sort (ks : List Int) (c : Int → Int) (h : ks.length < 64) : sortO (.dic (mD ks c)) = some ((isort ks).map D.int) := by
  show (match intKeys (mD ks c) with
    | some ks => if ks.length < 64 then some ((isort ks).map D.int) else none
    | none => none) = _
  rw [mD_keys]
  show (if ks.length < 64 then some ((isort ks).map D.int) else none) = _
  rw [if_pos h]
theorem mD_ix (ks : List Int) (c : Int → Int) (k : Int) (h : k ∈ ks) : ixK (.dic (mD ks c)) (.int k) = some (.int (c k)) := by
  show valD (mD ks c) (.inl k) = _
  rw [valD_mD, if_pos h]
theorem mD_max (k : Int) (ks : List Int) (c : Int → Int) : maxKD [.dic (mD (k :: ks) c)] = some (.int (maxL k ks)) := by
  show (match intKeys (mD (k :: ks) c) with
    | some (i :: r) => some (D.int (maxL i r))
    | _ => none) = _
  rw [mD_keys]
theorem mD_tup (ks : List Int) (c : Int → Int) : tupKD [.dic (mD ks c)] = some (.tup (ks.map D.int)) := by
  show some (D.tup ((mD ks c).map fun p => keyD p.1)) = _
  unfold mD
  rw [List.map_map]
  rfl
theorem mD_iter (ks : List Int) (c : Int → Int) : (mD ks c).map (fun p => keyD p.1) = ks.map D.int := by
  unfold mD
  rw [List.map_map]
  rfl
theorem mD_vals (ks : List Int) (c : Int → Int) : (mD ks c).map (fun p => p.2) = (ks.map c).map D.int := by
  unfold mD
  rw [List.map_map, List.map_map]
  rfl
theorem mD_ins_new (ks : List Int) (c : Int → Int) (k : Int) (h : k ∉ ks) : insD (mD ks c) (.inl k) (.int (c k)) = mD (ks ++ [k]) c := by
  rw [insD_mD]
  unfold insK
  rw [if_neg h]
  refine mD_congr fun m hm => ?_
  unfold insC
  by_cases hk : m = k
  · rw [if_pos hk, hk]
  · rw [if_neg hk]
/-- {m: d[m] for m in .. if d[m] != 0}, over the keys themselves -/
theorem dc_pick {t : Tg} {b : DEnv → R Bool} {fk fv : DEnv → R D} {vs : List Nat} {ρ : DEnv} (c : Int → Int) (keep : Int → Bool) : ∀ (xs done : List Int), (done ++ xs).Nodup → done.length + xs.length ≤ 16000000 →
    (∀ x ∈ xs, ∃ ρ1 ρ2, t (.int x) ρ = some ρ1 ∧ b ρ1 = .ok ρ2 (keep x) ∧ (keep x = false → noMu ρ2 vs = true ∧ wipeE ρ2 vs = ρ) ∧ (keep x = true → fk ρ2 = .ok ρ2 (.int x) ∧ fv ρ2 = .ok ρ2 (.int (c x)) ∧ noMu ρ2 vs = true ∧ wipeE ρ2 vs = ρ)) →
    dDcGo t b fk fv vs (xs.map D.int) (mD done c) ρ = .ok ρ (.dic (mD (done ++ xs.filter keep) c))
  | [], done, _, _, _ => by simp [dDcGo]
  | x :: xs, done, nd, hl, h => by
    rw [List.length_cons] at hl
    obtain ⟨ρ1, ρ2, e1, e2, k1, k2⟩ := h x List.mem_cons_self
    rw [List.map_cons]
    unfold dDcGo
    rw [e1]
    dsimp only
    rw [e2, R.bindN_ok]
    have nd' : (done ++ xs).Nodup := nd.sublist (List.Sublist.append_left (List.sublist_cons_self _ _) _)
    cases hk : keep x with
    | false =>
      obtain ⟨n1, n2⟩ := k1 hk
      dsimp only
      rw [if_pos n1, n2, dc_pick c keep xs done nd' (by omega) fun y hy => h y (List.mem_cons_of_mem _ hy), List.filter_cons_of_neg (by rw [hk]; decide)]
    | true =>
      obtain ⟨e3, e4, n1, n2⟩ := k2 hk
      have hx : x ∉ done := fun z => (List.nodup_append.mp nd).2.2 x z x List.mem_cons_self rfl
      dsimp only
      rw [e3, R.bindN_ok, e4, R.bindN_ok]
      show (if noMu ρ2 vs = true then (if (mD done c).length < 16000000 then dDcGo t b fk fv vs (xs.map D.int) (insD (mD done c) (.inl x) (.int (c x))) (wipeE ρ2 vs) else .no) else .no) = _
      rw [if_pos n1, if_pos (by rw [mD_len]; omega), n2, mD_ins_new done c x hx, dc_pick c keep xs (done ++ [x]) (by rw [List.append_assoc]; exact nd) (by rw [List.length_append, List.length_singleton]; omega) fun y hy => h y (List.mem_cons_of_mem _ hy), List.filter_cons_of_pos hk, List.append_assoc]
      rfl
theorem dc_ap {s : DEnv → R (List D)} {t : Tg} {b : DEnv → R Bool} {fk fv : DEnv → R D} {vs : List Nat} {ρ ρ' : DEnv} {l : List D} {r : R D} (e : s ρ = .ok ρ' l) (n : noMu ρ' vs = true) (h : dDcGo t b fk fv vs l [] (wipeE ρ' vs) = r) : dDc s t b fk fv vs ρ = r := by
  show (s ρ).bind _ = _
  rw [e, R.bind_ok, if_pos n, h]
end DF

namespace K14
open PySem PySem.Spec PyProof.Rows L2 DF
def topS (i : Nat) : Stmt := PySem.Challenge.pw_wholerises_k14_whole_depths_and_jumps.main.body.getD i (.Pass ⟨0, 0, 0, 0⟩)
abbrev s_q_bag : Stmt := topS 47
theorem sc_q_bag : FnScope ["_law_script", "_law_spot", "_law_cell", "_law_great", "_law_mixed"] ["_law_script", "_law_spot"] (defScope s_q_bag) := ⟨rfl, rfl, rfl, by decide +kernel, rfl, by decide +kernel, by decide +kernel⟩
abbrev s_counted : Stmt := topS 34
theorem sc_counted : FnScope ["tops", "bottoms", "found", "member"] ["tops", "bottoms"] (defScope s_counted) := ⟨rfl, rfl, rfl, by decide +kernel, rfl, by decide +kernel, by decide +kernel⟩
abbrev s_sides_of : Stmt := topS 35
theorem sc_sides_of : FnScope ["counts", "tops", "bottoms", "member"] ["counts"] (defScope s_sides_of) := ⟨rfl, rfl, rfl, by decide +kernel, rfl, by decide +kernel, by decide +kernel⟩
abbrev s_is_long_integer : Stmt := topS 13
theorem sc_is_long_integer : FnScope ["value"] ["value"] (defScope s_is_long_integer) := ⟨rfl, rfl, rfl, by decide +kernel, rfl, by decide +kernel, by decide +kernel⟩
abbrev s_is_integer : Stmt := topS 14
theorem sc_is_integer : FnScope ["value"] ["value"] (defScope s_is_integer) := ⟨rfl, rfl, rfl, by decide +kernel, rfl, by decide +kernel, by decide +kernel⟩
abbrev s_are_integers : Stmt := topS 17
theorem sc_are_integers : FnScope ["value", "item"] ["value"] (defScope s_are_integers) := ⟨rfl, rfl, rfl, by decide +kernel, rfl, by decide +kernel, by decide +kernel⟩
abbrev s_common_multiple : Stmt := topS 20
theorem sc_common_multiple : FnScope ["numbers", "multiple", "number"] ["numbers"] (defScope s_common_multiple) := ⟨rfl, rfl, rfl, by decide +kernel, rfl, by decide +kernel, by decide +kernel⟩
abbrev s_does_tell_row : Stmt := topS 36
theorem sc_does_tell_row : FnScope ["members", "counts", "count"] ["members"] (defScope s_does_tell_row) := ⟨rfl, rfl, rfl, by decide +kernel, rfl, by decide +kernel, by decide +kernel⟩
abbrev s_is_between : Stmt := topS 15
theorem sc_is_between : FnScope ["value", "least", "most"] ["value", "least", "most"] (defScope s_is_between) := ⟨rfl, rfl, rfl, by decide +kernel, rfl, by decide +kernel, by decide +kernel⟩
abbrev s_is_side : Stmt := topS 33
theorem sc_is_side : FnScope ["value", "item"] ["value"] (defScope s_is_side) := ⟨rfl, rfl, rfl, by decide +kernel, rfl, by decide +kernel, by decide +kernel⟩
abbrev s_Quotient___init__ : Stmt := inClass (topS 39) 0
theorem sc_Quotient___init__ : FnScope ["self", "tops", "bottoms", "members", "left", "right", "member"] ["self", "tops", "bottoms"] (defScope s_Quotient___init__) := ⟨rfl, rfl, rfl, by decide +kernel, rfl, by decide +kernel, by decide +kernel⟩
abbrev s_check_row : Stmt := topS 40
theorem sc_check_row : FnScope ["row"] ["row"] (defScope s_check_row) := ⟨rfl, rfl, rfl, by decide +kernel, rfl, by decide +kernel, by decide +kernel⟩
abbrev s_is_long_pair : Stmt := topS 22
theorem sc_is_long_pair : FnScope ["value"] ["value"] (defScope s_is_long_pair) := ⟨rfl, rfl, rfl, by decide +kernel, rfl, by decide +kernel, by decide +kernel⟩
abbrev s_is_long_ratio : Stmt := topS 23
theorem sc_is_long_ratio : FnScope ["value"] ["value"] (defScope s_is_long_ratio) := ⟨rfl, rfl, rfl, by decide +kernel, rfl, by decide +kernel, by decide +kernel⟩
abbrev s_is_ratio : Stmt := topS 24
theorem sc_is_ratio : FnScope ["value"] ["value"] (defScope s_is_ratio) := ⟨rfl, rfl, rfl, by decide +kernel, rfl, by decide +kernel, by decide +kernel⟩
abbrev s_check_ratio : Stmt := topS 25
theorem sc_check_ratio : FnScope ["ratio"] ["ratio"] (defScope s_check_ratio) := ⟨rfl, rfl, rfl, by decide +kernel, rfl, by decide +kernel, by decide +kernel⟩
abbrev s_depth_at : Stmt := topS 43
theorem sc_depth_at : FnScope ["row", "ratio", "member", "count"] ["row", "ratio"] (defScope s_depth_at) := ⟨rfl, rfl, rfl, by decide +kernel, rfl, by decide +kernel, by decide +kernel⟩
abbrev s_depth : Stmt := topS 42
theorem sc_depth : FnScope ["row", "ratio"] ["row", "ratio"] (defScope s_depth) := ⟨rfl, rfl, rfl, by decide +kernel, rfl, by decide +kernel, by decide +kernel⟩
abbrev s_check_number : Stmt := topS 16
theorem sc_check_number : FnScope ["given", "least", "most"] ["given", "least", "most"] (defScope s_check_number) := ⟨rfl, rfl, rfl, by decide +kernel, rfl, by decide +kernel, by decide +kernel⟩
abbrev s_jump_of : Stmt := topS 45
theorem sc_jump_of : FnScope ["row", "number", "member", "count"] ["row", "number"] (defScope s_jump_of) := ⟨rfl, rfl, rfl, by decide +kernel, rfl, by decide +kernel, by decide +kernel⟩
abbrev s_jump : Stmt := topS 44
theorem sc_jump : FnScope ["row", "number"] ["row", "number"] (defScope s_jump) := ⟨rfl, rfl, rfl, by decide +kernel, rfl, by decide +kernel, by decide +kernel⟩
abbrev s_q_grab : Stmt := topS 48
theorem sc_q_grab : FnScope ["_law_bag_here", "_law_total", "_law_found", "_law_one", "_law_two"] ["_law_bag_here", "_law_total"] (defScope s_q_grab) := ⟨rfl, rfl, rfl, by decide +kernel, rfl, by decide +kernel, by decide +kernel⟩
abbrev s_q_one_of : Stmt := topS 49
theorem sc_q_one_of : FnScope ["_law_bag_here", "_law_items"] ["_law_bag_here", "_law_items"] (defScope s_q_one_of) := ⟨rfl, rfl, rfl, by decide +kernel, rfl, by decide +kernel, by decide +kernel⟩
abbrev s_q_told_balanced : Stmt := topS 52
theorem sc_q_told_balanced : FnScope ["_law_bag_here", "_law_way", "_law_a", "_law_b", "_law_apart", "_law_turn", "_law_pieces", "_law_some", "_law_gap", "_law_found", "_law_one"] ["_law_bag_here"] (defScope s_q_told_balanced) := ⟨rfl, rfl, rfl, by decide +kernel, rfl, by decide +kernel, by decide +kernel⟩
abbrev s_q_without_shared : Stmt := topS 50
theorem sc_q_without_shared : FnScope ["_law_tops", "_law_bottoms", "_law_left", "_law_found", "_law_top"] ["_law_tops", "_law_bottoms"] (defScope s_q_without_shared) := ⟨rfl, rfl, rfl, by decide +kernel, rfl, by decide +kernel, by decide +kernel⟩
abbrev s_q_common : Stmt := topS 55
theorem sc_q_common : FnScope ["_law_numbers", "_law_found", "_law_number", "_law_one", "_law_other"] ["_law_numbers"] (defScope s_q_common) := ⟨rfl, rfl, rfl, by decide +kernel, rfl, by decide +kernel, by decide +kernel⟩
abbrev s_q_multiple : Stmt := topS 56
theorem sc_q_multiple : FnScope ["_law_numbers", "_law_found", "_law_number"] ["_law_numbers"] (defScope s_q_multiple) := ⟨rfl, rfl, rfl, by decide +kernel, rfl, by decide +kernel, by decide +kernel⟩
abbrev s_q_is_row_let : Stmt := topS 51
theorem sc_q_is_row_let : FnScope ["_law_tops", "_law_bottoms", "_law_members"] ["_law_tops", "_law_bottoms"] (defScope s_q_is_row_let) := ⟨rfl, rfl, rfl, by decide +kernel, rfl, by decide +kernel, by decide +kernel⟩
abbrev s_q_any_balanced : Stmt := topS 53
theorem sc_q_any_balanced : FnScope ["_law_bag_here", "_law_many", "_law_tops", "_law_bottoms", "_law_one", "_law_more"] ["_law_bag_here"] (defScope s_q_any_balanced) := ⟨rfl, rfl, rfl, by decide +kernel, rfl, by decide +kernel, by decide +kernel⟩
abbrev s_q_row_drawn : Stmt := topS 54
theorem sc_q_row_drawn : FnScope ["_law_bag_here", "_law_tops", "_law_bottoms", "_law_way", "_law_here", "_law_at", "_law_more", "_law_near", "_law_under"] ["_law_bag_here"] (defScope s_q_row_drawn) := ⟨rfl, rfl, rfl, by decide +kernel, rfl, by decide +kernel, by decide +kernel⟩
abbrev s_q_lowest : Stmt := topS 57
theorem sc_q_lowest : FnScope ["_law_top", "_law_bottom", "_law_shared"] ["_law_top", "_law_bottom"] (defScope s_q_lowest) := ⟨rfl, rfl, rfl, by decide +kernel, rfl, by decide +kernel, by decide +kernel⟩
abbrev s_q_some_ratio : Stmt := topS 60
theorem sc_q_some_ratio : FnScope ["_law_bag_here", "_law_member", "_law_way", "_law_most"] ["_law_bag_here", "_law_member"] (defScope s_q_some_ratio) := ⟨rfl, rfl, rfl, by decide +kernel, rfl, by decide +kernel, by decide +kernel⟩
abbrev s_q_depth : Stmt := topS 59
theorem sc_q_depth : FnScope ["_law_tops", "_law_bottoms", "_law_ratio", "_law_top", "_law_bottom", "_law_member"] ["_law_tops", "_law_bottoms", "_law_ratio"] (defScope s_q_depth) := ⟨rfl, rfl, rfl, by decide +kernel, rfl, by decide +kernel, by decide +kernel⟩
abbrev s_q_jump : Stmt := topS 61
theorem sc_q_jump : FnScope ["_law_tops", "_law_bottoms", "_law_number", "_law_one"] ["_law_tops", "_law_bottoms", "_law_number"] (defScope s_q_jump) := ⟨rfl, rfl, rfl, by decide +kernel, rfl, by decide +kernel, by decide +kernel⟩
abbrev s_q_ratio_sum : Stmt := topS 58
theorem sc_q_ratio_sum : FnScope ["_law_one", "_law_other", "_law_factor"] ["_law_one", "_law_other", "_law_factor"] (defScope s_q_ratio_sum) := ⟨rfl, rfl, rfl, by decide +kernel, rfl, by decide +kernel, by decide +kernel⟩
abbrev s_q_right : Stmt := topS 62
theorem sc_q_right : FnScope ["_law_bag_here", "_law_tops", "_law_bottoms", "_law_row", "_law_excess", "_law_height", "_law_members", "_law_turn", "_law_ratio", "_law_here", "_law_many", "_law_mirrored", "_law_number"] ["_law_bag_here"] (defScope s_q_right) := ⟨rfl, rfl, rfl, by decide +kernel, rfl, by decide +kernel, by decide +kernel⟩
abbrev s_law : Stmt := topS 63
theorem sc_law : FnScope ["_law_script", "_law_spot", "_law_bag_here", "_law_great", "_law_broken", "_law_told"] ["_law_script"] (defScope s_law) := ⟨rfl, rfl, rfl, by decide +kernel, rfl, by decide +kernel, by decide +kernel⟩
abbrev s_Quotient___iter__ : Stmt := inClass (topS 39) 21
theorem sc_Quotient___iter__ : FnScope ["self"] ["self"] (defScope s_Quotient___iter__) := ⟨rfl, rfl, rfl, by decide +kernel, rfl, by decide +kernel, by decide +kernel⟩
/-! ### what the defs do -/
def B_q_bag (n : Nat) : DEnv → SR := dSeq (dSet 2 (dIte (dTst (dBin ltD (oVar 1) (oD (dCal lenD (aCons (oVar 0) (aNil)))))) (dBin ixD (oVar 0) (oVar 1)) (dBin addD (oD (dBin addD (oD (dCal sumAD (aCons (oD (dCut none (some 1) (oVar 0))) (aNil)))) (oD (dBin mulD (oD (dC (.int 151))) (oVar 1))))) (oD (dC (.int 89))))))
    (dSeq (dSet 3 (dBin modD (oD (dCal intD (aCons (oD (dCal absD (aCons (oVar 2) (aNil)))) (aNil)))) (oD (dBin powD (oD (dBin powD (oD (dC (.int 10))) (oD (dC (.int 45))))) (oD (dC (.int 13)))))))
    (dSeq (dSet 4 (dBin addD (oD (dBin addD (oD (dBin addD (oD (dBin mulD (oD (dBin modD (oD (dCal intD (aCons (oVar 3) (aNil)))) (oD (dC (.int 2305843009213693723))))) (oD (dC (.int 1000457))))) (oD (dBin mulD (oD (dC (.int 9029))) (oVar 1))))) (oD (dBin mulD (oD (dC (.int 53))) (oD (dCal intD (aCons (oD (dBin ltD (oVar 2) (oD (dC (.int 0))))) (aNil)))))))) (oD (dC (.int 37)))))
    (dRetF (dLst (vCons (dCal (orC max2D maxSD) (aCons (oD (dC (.int 0))) (aCons (oD (dBin subD (oVar 3) (oD (dBin powD (oD (dC (.int 10))) (oD (dC (.int 18))))))) (aNil)))) (vCons (dBin modD (oD (dCal intD (aCons (oVar 4) (aNil)))) (oD (dC (.int 2305843009213693951)))) (vCons (dC (.int 0)) (vNil))))))))
def F_q_bag : Fn := fun as => fnRes as (B_q_bag (fuel as) (startE 5 as))
def B_counted (n : Nat) : DEnv → SR := dSeq (dSetF 2 (dDic0))
    (dSeq (dForS (sSeq (dVar 0)) (setV 3) (dSetK 2 (dVar 3) (dBin addD (oD (dGet2 (oVar 2) (dVar 3) (dC (.int 0)))) (oD (dC (.int 1))))))
    (dSeq (dForS (sSeq (dVar 1)) (setV 3) (dSetK 2 (dVar 3) (dBin subD (oD (dGet2 (oVar 2) (dVar 3) (dC (.int 0)))) (oD (dC (.int 1))))))
    (dRet (dDc (sSeq (dMk sortO (oVar 2))) (setV 3) (dTst (dBin neY (oD (dBin ixK (oVar 2) (oVar 3))) (oD (dC (.int 0))))) (dVar 3) (dBin ixK (oVar 2) (oVar 3)) [3]))))
def F_counted : Fn := fun as => fnRes as (B_counted (fuel as) (startE 4 as))
def B_sides_of (n : Nat) : DEnv → SR := dSeq (dSet 1 (dLst (vNil)))
    (dSeq (dSet 2 (dLst (vNil)))
    (dSeq (dForS (sSeq (dMk sortO (oVar 0))) (setV 3) (dSeq (dSet 1 (dBin addD (oVar 1) (oD (dBin mulD (oD (dLst (vCons (dVar 3) (vNil)))) (oD (dBin ixK (oVar 0) (oVar 3)))))))
    (dSet 2 (dBin addD (oVar 2) (oD (dBin mulD (oD (dLst (vCons (dVar 3) (vNil)))) (oD (dUn negD (oD (dBin ixK (oVar 0) (oVar 3)))))))))))
    (dRet (dTup (vCons (dCal tupD (aCons (oVar 1) (aNil))) (vCons (dCal tupD (aCons (oVar 2) (aNil))) (vNil)))))))
def F_sides_of : Fn := fun as => fnRes as (B_sides_of (fuel as) (startE 4 as))
def B_is_long_integer (n : Nat) : DEnv → SR := dRet (dAndV (dIsi "int" (oVar 0)) (dNotV (dIsi "bool" (oVar 0))))
def F_is_long_integer : Fn := fun as => fnRes as (B_is_long_integer (fuel as) (startE 1 as))
def B_is_integer (n : Nat) : DEnv → SR := dRet (dAndV (dV (dCal2 1 F_is_long_integer (rVal (dVar 0) (rNil)))) (dBin leD (oD (dCal absD (aCons (oVar 0) (aNil)))) (oD (dC (.int 999999999999999999999999999999999999999999999999999999999999)))))
def F_is_integer : Fn := fun as => fnRes as (B_is_integer (fuel as) (startE 1 as))
def B_are_integers (n : Nat) : DEnv → SR := dSeq (dIf (dOr (dNot (dTst (dIsi "tuple" (oVar 0)))) (dNot (dTst (dChain leD leD (oD (dC (.int 1))) (oD (dCal lenD (aCons (oVar 0) (aNil)))) (oD (dC (.int 100))))))) (dRet (dC (.bl false))) (SR.nx))
    (dRet (dCal allD (aCons (oD (dLc (sSeq (dVar 0)) (setV 1) (tYesB) (dV (dCal2 1 F_is_integer (rVal (dVar 1) (rNil)))) [1])) (aNil))))
def F_are_integers : Fn := fun as => fnRes as (B_are_integers (fuel as) (startE 2 as))
def B_common_multiple (n : Nat) : DEnv → SR := dSeq (dIf (dOr (dNot (dTst (dV (dCal2 1 F_are_integers (rVal (dVar 0) (rNil)))))) (dTst (dBin ltD (oD (dCal (orC min2D minSD) (aCons (oVar 0) (aNil)))) (oD (dC (.int 1)))))) (dNever) (SR.nx))
    (dSeq (dSet 1 (dC (.int 1)))
    (dSeq (dForS (sSeq (dVar 0)) (setV 2) (dSet 1 (dCal lcmD (aCons (oVar 1) (aCons (oVar 2) (aNil))))))
    (dRetV 1)))
def F_common_multiple : Fn := fun as => fnRes as (B_common_multiple (fuel as) (startE 3 as))
def B_does_tell_row (n : Nat) : DEnv → SR := dSeq (dIf (dOr (dNot (dTruK (oVar 0))) (dTst (dBin gtD (oD (dCal maxKD (aCons (oVar 0) (aNil)))) (oD (dC (.int 60)))))) (dRet (dC (.bl false))) (SR.nx))
    (dSeq (dSet 1 (dLvals (dVar 0)))
    (dSeq (dIf (dTst (dBin gtD (oD (dCal sumAD (aCons (oD (dLc (sSeq (dVar 1)) (setV 2) (dTst (dBin gtD (oVar 2) (oD (dC (.int 0))))) (dVar 2) [2])) (aNil)))) (oD (dC (.int 8))))) (dRet (dC (.bl false))) (SR.nx))
    (dSeq (dIf (dTst (dBin gtD (oD (dCal sumAD (aCons (oD (dLc (sSeq (dVar 1)) (setV 2) (dTst (dBin ltD (oVar 2) (oD (dC (.int 0))))) (dUn negD (oVar 2)) [2])) (aNil)))) (oD (dC (.int 8))))) (dRet (dC (.bl false))) (SR.nx))
    (dRet (dBin leD (oD (dV (dCal2 1 F_common_multiple (rVal (dCal tupKD (aCons (oVar 0) (aNil))) (rNil))))) (oD (dC (.int 2520))))))))
def F_does_tell_row : Fn := fun as => fnRes as (B_does_tell_row (fuel as) (startE 3 as))
def B_is_between (n : Nat) : DEnv → SR := dRet (dAndV (dV (dCal2 1 F_is_integer (rVal (dVar 0) (rNil)))) (dChain leD leD (oVar 1) (oVar 0) (oVar 2)))
def F_is_between : Fn := fun as => fnRes as (B_is_between (fuel as) (startE 3 as))
def B_is_side (n : Nat) : DEnv → SR := dSeq (dIf (dOr (dNot (dTst (dIsi "tuple" (oVar 0)))) (dTst (dBin gtD (oD (dCal lenD (aCons (oVar 0) (aNil)))) (oD (dC (.int 8)))))) (dRet (dC (.bl false))) (SR.nx))
    (dRet (dCal allD (aCons (oD (dLc (sSeq (dVar 0)) (setV 1) (tYesB) (dV (dCal2 3 F_is_between (rVal (dVar 1) (rVal (dC (.int 1)) (rVal (dC (.int 60)) (rNil)))))) [1])) (aNil))))
def F_is_side : Fn := fun as => fnRes as (B_is_side (fuel as) (startE 2 as))
def B_Quotient___init__ (n : Nat) : DEnv → SR := dSeq (dIf (dOr (dNot (dTst (dV (dCal2 1 F_is_side (rVal (dVar 1) (rNil)))))) (dNot (dTst (dV (dCal2 1 F_is_side (rVal (dVar 2) (rNil))))))) (dNever) (SR.nx))
    (dSeq (dSet 3 (dV (dCal2 2 F_counted (rVal (dVar 1) (rVal (dVar 2) (rNil))))))
    (dSeq (dIf (dNot (dTst (dV (dCal2 1 F_does_tell_row (rVal (dVar 3) (rNil)))))) (dNever) (SR.nx))
    (dSeq (dAsg (dV (dCal2 1 F_sides_of (rVal (dVar 3) (rNil)))) (gTp 2 (gsCons (setV 4) (gsCons (setV 5) (gsNil)))))
    (dSeq (dSetA "Quotient" "_tops" 0 (dUn revTD (oVar 4)))
    (dSeq (dSetA "Quotient" "_bottoms" 0 (dUn revTD (oVar 5)))
    (dSeq (dSetA "Quotient" "_sides" 0 (dBin addD (oD (dUn (fldD "Quotient" "_tops") (oVar 0))) (oD (dUn (fldD "Quotient" "_bottoms") (oVar 0)))))
    (dSetA "Quotient" "_pairs" 0 (dCal tupD (aCons (oD (dLc (sKeys (dVar 3)) (setV 6) (tYesB) (dTup (vCons (dVar 6) (vCons (dBin ixK (oVar 3) (oVar 6)) (vNil)))) [6])) (aNil))))))))))
def F_Quotient___init__ : Fn := fun as => fnRes as (B_Quotient___init__ (fuel as) (startE 7 as))
def B_check_row (n : Nat) : DEnv → SR := dIf (dNot (dTst (dIsO "Quotient" (oVar 0)))) (dNever) (SR.nx)
def F_check_row : Fn := fun as => fnRes as (B_check_row (fuel as) (startE 1 as))
def B_is_long_pair (n : Nat) : DEnv → SR := dRet (dAndV (dIsi "tuple" (oVar 0)) (dAndV (dBin eqY (oD (dCal lenD (aCons (oVar 0) (aNil)))) (oD (dC (.int 2)))) (dAndV (dV (dCal2 1 F_is_long_integer (rVal (dBin ixD (oVar 0) (oD (dC (.int 0)))) (rNil)))) (dV (dCal2 1 F_is_long_integer (rVal (dBin ixD (oVar 0) (oD (dC (.int 1)))) (rNil)))))))
def F_is_long_pair : Fn := fun as => fnRes as (B_is_long_pair (fuel as) (startE 1 as))
def B_is_long_ratio (n : Nat) : DEnv → SR := dRet (dAndV (dV (dCal2 1 F_is_long_pair (rVal (dVar 0) (rNil)))) (dAndV (dBin gtD (oD (dBin ixD (oVar 0) (oD (dC (.int 1))))) (oD (dC (.int 0)))) (dBin eqY (oD (dCal gcdD (aCons (oD (dBin ixD (oVar 0) (oD (dC (.int 0))))) (aCons (oD (dBin ixD (oVar 0) (oD (dC (.int 1))))) (aNil))))) (oD (dC (.int 1))))))
def F_is_long_ratio : Fn := fun as => fnRes as (B_is_long_ratio (fuel as) (startE 1 as))
def B_is_ratio (n : Nat) : DEnv → SR := dRet (dAndV (dV (dCal2 1 F_is_long_ratio (rVal (dVar 0) (rNil)))) (dAndV (dV (dCal2 1 F_is_integer (rVal (dBin ixD (oVar 0) (oD (dC (.int 0)))) (rNil)))) (dV (dCal2 1 F_is_integer (rVal (dBin ixD (oVar 0) (oD (dC (.int 1)))) (rNil))))))
def F_is_ratio : Fn := fun as => fnRes as (B_is_ratio (fuel as) (startE 1 as))
def B_check_ratio (n : Nat) : DEnv → SR := dIf (dNot (dTst (dV (dCal2 1 F_is_ratio (rVal (dVar 0) (rNil)))))) (dNever) (SR.nx)
def F_check_ratio : Fn := fun as => fnRes as (B_check_ratio (fuel as) (startE 1 as))
def B_depth_at (n : Nat) : DEnv → SR := dRet (dCal sumAD (aCons (oD (dLc (sOwn "Quotient" "_pairs" (dVar 0)) (gTp 2 (gsCons (setV 2) (gsCons (setV 3) (gsNil)))) (tYesB) (dBin mulD (oVar 3) (oD (dBin divD (oD (dBin mulD (oVar 2) (oD (dBin ixD (oVar 1) (oD (dC (.int 0))))))) (oD (dBin ixD (oVar 1) (oD (dC (.int 1)))))))) [2, 3])) (aNil)))
def F_depth_at : Fn := fun as => fnRes as (B_depth_at (fuel as) (startE 4 as))
def B_depth (n : Nat) : DEnv → SR := dSeq (dExpr (dV (dCal2 1 F_check_row (rVal (dVar 0) (rNil)))))
    (dSeq (dExpr (dV (dCal2 1 F_check_ratio (rVal (dVar 1) (rNil)))))
    (dSeq (dIf (dTst (dBin ltD (oD (dBin ixD (oVar 1) (oD (dC (.int 0))))) (oD (dC (.int 0))))) (dNever) (SR.nx))
    (dRet (dV (dCal2 2 F_depth_at (rVal (dVar 0) (rVal (dVar 1) (rNil))))))))
def F_depth : Fn := fun as => fnRes as (B_depth (fuel as) (startE 2 as))
def B_check_number (n : Nat) : DEnv → SR := dIf (dNot (dTst (dV (dCal2 3 F_is_between (rVal (dVar 0) (rVal (dVar 1) (rVal (dVar 2) (rNil)))))))) (dNever) (SR.nx)
def F_check_number : Fn := fun as => fnRes as (B_check_number (fuel as) (startE 3 as))
def B_jump_of (n : Nat) : DEnv → SR := dRet (dCal sumAD (aCons (oD (dLc (sOwn "Quotient" "_pairs" (dVar 0)) (gTp 2 (gsCons (setV 2) (gsCons (setV 3) (gsNil)))) (dTst (dBin eqY (oD (dBin modD (oVar 2) (oVar 1))) (oD (dC (.int 0))))) (dVar 3) [2, 3])) (aNil)))
def F_jump_of : Fn := fun as => fnRes as (B_jump_of (fuel as) (startE 4 as))
def B_jump (n : Nat) : DEnv → SR := dSeq (dExpr (dV (dCal2 1 F_check_row (rVal (dVar 0) (rNil)))))
    (dSeq (dExpr (dV (dCal2 3 F_check_number (rVal (dVar 1) (rVal (dC (.int 1)) (rVal (dC (.int 2520)) (rNil)))))))
    (dRet (dV (dCal2 2 F_jump_of (rVal (dVar 0) (rVal (dVar 1) (rNil)))))))
def F_jump : Fn := fun as => fnRes as (B_jump (fuel as) (startE 2 as))
def B_q_grab (n : Nat) : DEnv → SR := dSeq (dIf (dTst (dBin gtD (oD (dBin ixD (oVar 0) (oD (dC (.int 0))))) (oD (dC (.int 0))))) (dSeq (dSet 2 (dBin modD (oD (dCal intD (aCons (oD (dBin ixD (oVar 0) (oD (dC (.int 0))))) (aNil)))) (oVar 1)))
    (dSeq (dSetI 0 (dC (.int 0)) (dBin divD (oD (dBin ixD (oVar 0) (oD (dC (.int 0))))) (oVar 1)))
    (dRetV 2))) (SR.nx))
    (dSeq (dSetI 0 (dC (.int 2)) (dBin addD (oD (dBin ixD (oVar 0) (oD (dC (.int 2))))) (oD (dC (.int 1)))))
    (dSeq (dSet 3 (dBin modD (oD (dCal intD (aCons (oD (dBin addD (oD (dBin ixD (oVar 0) (oD (dC (.int 1))))) (oD (dBin mulD (oD (dC (.int 1048637))) (oD (dBin ixD (oVar 0) (oD (dC (.int 2))))))))) (aNil)))) (oD (dC (.int 2305843009213693951)))))
    (dSeq (dSet 4 (dBin addD (oD (dBin mulD (oD (dBin modD (oD (dCal intD (aCons (oD (dBin mulD (oVar 3) (oVar 3))) (aNil)))) (oD (dC (.int 2305843009213693723))))) (oVar 3))) (oD (dBin mulD (oD (dC (.int 8161))) (oD (dBin ixD (oVar 0) (oD (dC (.int 2)))))))))
    (dRet (dBin modD (oD (dCal intD (aCons (oD (dBin divD (oD (dBin modD (oD (dCal intD (aCons (oVar 4) (aNil)))) (oD (dC (.int 2305843009213693921))))) (oD (dC (.int 16384))))) (aNil)))) (oVar 1))))))
def F_q_grab : Fn := fun as => fnRes as (B_q_grab (fuel as) (startE 5 as))
def B_q_one_of (n : Nat) : DEnv → SR := dRet (dBin ixD (oVar 1) (oD (dV (dCal2 2 F_q_grab (rIo 0 (rVal (dCal lenD (aCons (oVar 1) (aNil))) (rNil)))))))
def F_q_one_of : Fn := fun as => fnRes as (B_q_one_of (fuel as) (startE 2 as))
def B_q_told_balanced (n : Nat) : DEnv → SR := dSeq (dParX [1, 2, 3] (xVal (dV (dCal2 2 F_q_grab (rIo 0 (rVal (dC (.int 8)) (rNil))))) (xVal (dBin addD (oD (dC (.int 1))) (oD (dV (dCal2 2 F_q_grab (rIo 0 (rVal (dC (.int 9)) (rNil))))))) (xVal (dBin addD (oD (dC (.int 1))) (oD (dV (dCal2 2 F_q_grab (rIo 0 (rVal (dC (.int 6)) (rNil))))))) (xNil)))))
    (dSeq (dIf (dTst (dBin ltD (oVar 1) (oD (dC (.int 2))))) (dRet (dTup (vCons (dTup (vCons (dBin addD (oVar 2) (oVar 3)) (vNil))) (vCons (dTup (vCons (dVar 2) (vCons (dVar 3) (vNil)))) (vNil))))) (SR.nx))
    (dSeq (dIf (dTst (dBin eqY (oVar 1) (oD (dC (.int 2))))) (dRet (dTup (vCons (dTup (vCons (dBin mulD (oD (dC (.int 2))) (oD (dBin addD (oVar 2) (oVar 3)))) (vCons (dVar 3) (vNil)))) (vCons (dTup (vCons (dBin addD (oVar 2) (oVar 3)) (vCons (dBin mulD (oD (dC (.int 2))) (oVar 3)) (vCons (dVar 2) (vNil))))) (vNil))))) (SR.nx))
    (dSeq (dIf (dTst (dBin eqY (oVar 1) (oD (dC (.int 3))))) (dRet (dTup (vCons (dTup (vCons (dBin mulD (oD (dC (.int 2))) (oVar 2)) (vCons (dBin mulD (oD (dC (.int 2))) (oVar 3)) (vNil)))) (vCons (dTup (vCons (dVar 2) (vCons (dVar 3) (vCons (dBin addD (oVar 2) (oVar 3)) (vNil))))) (vNil))))) (SR.nx))
    (dSeq (dIf (dTst (dBin eqY (oVar 1) (oD (dC (.int 4))))) (dSeq (dSet 4 (dLst (vCons (dTup (vCons (dTup (vCons (dC (.int 30)) (vCons (dC (.int 1)) (vNil)))) (vCons (dTup (vCons (dC (.int 15)) (vCons (dC (.int 10)) (vCons (dC (.int 6)) (vNil))))) (vNil)))) (vCons (dTup (vCons (dTup (vCons (dC (.int 12)) (vCons (dC (.int 1)) (vNil)))) (vCons (dTup (vCons (dC (.int 6)) (vCons (dC (.int 4)) (vCons (dC (.int 3)) (vNil))))) (vNil)))) (vCons (dTup (vCons (dTup (vCons (dC (.int 12)) (vCons (dC (.int 3)) (vNil)))) (vCons (dTup (vCons (dC (.int 8)) (vCons (dC (.int 6)) (vCons (dC (.int 1)) (vNil))))) (vNil)))) (vCons (dTup (vCons (dTup (vCons (dC (.int 20)) (vCons (dC (.int 1)) (vNil)))) (vCons (dTup (vCons (dC (.int 10)) (vCons (dC (.int 8)) (vCons (dC (.int 3)) (vNil))))) (vNil)))) (vCons (dTup (vCons (dTup (vCons (dC (.int 10)) (vCons (dC (.int 1)) (vNil)))) (vCons (dTup (vCons (dC (.int 5)) (vCons (dC (.int 4)) (vCons (dC (.int 2)) (vNil))))) (vNil)))) (vNil))))))))
    (dRet (dV (dCal2 2 F_q_one_of (rIo 0 (rVal (dVar 4) (rNil))))))) (SR.nx))
    (dSeq (dIf (dTst (dBin eqY (oVar 1) (oD (dC (.int 5))))) (dSeq (dSet 6 (dLc (sRng1 (vCons (dBin addD (oD (dC (.int 2))) (oD (dV (dCal2 2 F_q_grab (rIo 0 (rVal (dC (.int 4)) (rNil))))))) (vNil))) (setV 5) (tYesB) (dBin addD (oD (dC (.int 1))) (oD (dV (dCal2 2 F_q_grab (rIo 0 (rVal (dC (.int 4)) (rNil))))))) [5]))
    (dRet (dTup (vCons (dTup (vCons (dCal sumAD (aCons (oVar 6) (aNil))) (vNil))) (vCons (dCal tupD (aCons (oVar 6) (aNil))) (vNil)))))) (SR.nx))
    (dSeq (dIf (dTst (dBin eqY (oVar 1) (oD (dC (.int 6))))) (dRet (dTup (vCons (dTup (vCons (dBin addD (oVar 2) (oVar 3)) (vCons (dBin mulD (oD (dC (.int 2))) (oVar 3)) (vNil)))) (vCons (dTup (vCons (dVar 2) (vCons (dVar 3) (vCons (dVar 3) (vCons (dVar 3) (vNil)))))) (vNil))))) (SR.nx))
    (dSeq (dSet 7 (dLc (sRng1 (vCons (dBin addD (oD (dC (.int 1))) (oD (dV (dCal2 2 F_q_grab (rIo 0 (rVal (dC (.int 3)) (rNil))))))) (vNil))) (setV 5) (tYesB) (dBin addD (oD (dC (.int 1))) (oD (dV (dCal2 2 F_q_grab (rIo 0 (rVal (dC (.int 12)) (rNil))))))) [5]))
    (dSeq (dPar 8 9 (vCons (dCal sumAD (aCons (oVar 7) (aNil))) (vCons (dLst (vNil)) (vNil))))
    (dSeq (dForS (sRng1 (vCons (dC (.int 7)) (vNil))) (setV 5) (dSeq (dSet 10 (dCal (orC min2D minSD) (aCons (oVar 8) (aCons (oD (dBin addD (oD (dC (.int 1))) (oD (dV (dCal2 2 F_q_grab (rIo 0 (rVal (dC (.int 8)) (rNil)))))))) (aNil)))))
    (dPar 9 8 (vCons (dBin addD (oVar 9) (oD (dIte (dTst (dBin gtD (oVar 10) (oD (dC (.int 0))))) (dLst (vCons (dVar 10) (vNil))) (dLst (vNil))))) (vCons (dBin subD (oVar 8) (oVar 10)) (vNil))))))
    (dRet (dTup (vCons (dCal tupD (aCons (oVar 7) (aNil))) (vCons (dCal tupD (aCons (oD (dBin addD (oVar 9) (oD (dIte (dTst (dBin gtD (oVar 8) (oD (dC (.int 0))))) (dLst (vCons (dVar 8) (vNil))) (dLst (vNil)))))) (aNil))) (vNil))))))))))))))
def F_q_told_balanced : Fn := fun as => fnRes as (B_q_told_balanced (fuel as) (startE 11 as))
def B_q_without_shared (n : Nat) : DEnv → SR := dSeq (dParX [2, 3] (xFr (dMk seqOf (oVar 1)) (xFr (dLst (vNil)) (xNil))))
    (dSeq (dForS (sSeq (dVar 0)) (setV 4) (dIf (dTst (dBin inSD (oVar 4) (oVar 2))) (dRem 2 (dVar 4)) (dApp 3 (dVar 4))))
    (dRet (dTup (vCons (dCal tupD (aCons (oD (dMk revO (oD (dMk sortO (oVar 3))))) (aNil))) (vCons (dCal tupD (aCons (oD (dMk revO (oD (dMk sortO (oVar 2))))) (aNil))) (vNil))))))
def F_q_without_shared : Fn := fun as => fnRes as (B_q_without_shared (fuel as) (startE 5 as))
def B_q_common (n : Nat) : DEnv → SR := dSeq (dSet 1 (dC (.int 0)))
    (dSeq (dForS (sSeq (dVar 0)) (setV 2) (dSeq (dPar 3 4 (vCons (dVar 1) (vCons (dCal absD (aCons (oVar 2) (aNil))) (vNil))))
    (dSeq (dWhile (dTst (dBin neY (oVar 4) (oD (dC (.int 0))))) (dPar 3 4 (vCons (dVar 4) (vCons (dBin modD (oD (dCal intD (aCons (oVar 3) (aNil)))) (oVar 4)) (vNil)))) n)
    (dSet 1 (dVar 3)))))
    (dRetV 1))
def F_q_common : Fn := fun as => fnRes as (B_q_common (fuel as) (startE 5 as))
def B_q_multiple (n : Nat) : DEnv → SR := dSeq (dSet 1 (dC (.int 1)))
    (dSeq (dForS (sSeq (dVar 0)) (setV 2) (dSet 1 (dBin mulD (oVar 1) (oD (dBin divD (oVar 2) (oD (dV (dCal2 1 F_q_common (rVal (dLst (vCons (dVar 1) (vCons (dVar 2) (vNil)))) (rNil))))))))))
    (dRetV 1))
def F_q_multiple : Fn := fun as => fnRes as (B_q_multiple (fuel as) (startE 3 as))
def B_q_is_row_let (n : Nat) : DEnv → SR := dSeq (dSet 2 (dBin addD (oD (dCal tupD (aCons (oVar 0) (aNil)))) (oD (dCal tupD (aCons (oVar 1) (aNil))))))
    (dSeq (dIf (dOr (dTst (dBin eqY (oVar 2) (oD (dTup (vNil))))) (dOr (dTst (dBin gtD (oD (dCal (orC max2D maxSD) (aCons (oD (dCal lenD (aCons (oVar 0) (aNil)))) (aCons (oD (dCal lenD (aCons (oVar 1) (aNil)))) (aNil))))) (oD (dC (.int 8))))) (dOr (dTst (dBin gtD (oD (dCal (orC max2D maxSD) (aCons (oVar 2) (aNil)))) (oD (dC (.int 60))))) (dTst (dBin ltD (oD (dCal (orC min2D minSD) (aCons (oVar 2) (aNil)))) (oD (dC (.int 1)))))))) (dRet (dC (.bl false))) (SR.nx))
    (dRet (dBin leD (oD (dV (dCal2 1 F_q_multiple (rVal (dVar 2) (rNil))))) (oD (dC (.int 2520))))))
def F_q_is_row_let : Fn := fun as => fnRes as (B_q_is_row_let (fuel as) (startE 3 as))
def B_q_any_balanced (n : Nat) : DEnv → SR := dSeq (dSet 1 (dV (dCal2 2 F_q_one_of (rIo 0 (rVal (dLst (vCons (dC (.int 1)) (vCons (dC (.int 1)) (vCons (dC (.int 1)) (vCons (dC (.int 2)) (vCons (dC (.int 3)) (vNil))))))) (rNil))))))
    (dSeq (dAsg (dV (dCal2 1 F_q_told_balanced (rIo 0 (rNil)))) (gTp 2 (gsCons (setV 2) (gsCons (setV 3) (gsNil)))))
    (dSeq (dPar 2 3 (vCons (dLc (sSeq (dVar 2)) (setV 4) (tYesB) (dBin mulD (oVar 1) (oVar 4)) [4]) (vCons (dLc (sSeq (dVar 3)) (setV 4) (tYesB) (dBin mulD (oVar 1) (oVar 4)) [4]) (vNil))))
    (dSeq (dIf (dTst (dBin eqY (oD (dV (dCal2 2 F_q_grab (rIo 0 (rVal (dC (.int 5)) (rNil)))))) (oD (dC (.int 0))))) (dSeq (dSet 5 (dV (dCal2 1 F_q_told_balanced (rIo 0 (rNil)))))
    (dPar 2 3 (vCons (dBin addD (oVar 2) (oD (dMk seqOf (oD (dBin ixD (oVar 5) (oD (dC (.int 0)))))))) (vCons (dBin addD (oVar 3) (oD (dMk seqOf (oD (dBin ixD (oVar 5) (oD (dC (.int 1)))))))) (vNil))))) (SR.nx))
    (dSeq (dIf (dTst (dBin eqY (oD (dV (dCal2 2 F_q_grab (rIo 0 (rVal (dC (.int 8)) (rNil)))))) (oD (dC (.int 0))))) (dPar 2 3 (vCons (dVar 3) (vCons (dVar 2) (vNil)))) (SR.nx))
    (dSeq (dAsg (dV (dCal2 2 F_q_without_shared (rVal (dVar 2) (rVal (dVar 3) (rNil))))) (gTp 2 (gsCons (setV 2) (gsCons (setV 3) (gsNil)))))
    (dRet (dIte (dTst (dV (dCal2 2 F_q_is_row_let (rVal (dVar 2) (rVal (dVar 3) (rNil)))))) (dTup (vCons (dVar 2) (vCons (dVar 3) (vNil)))) (dTup (vCons (dTup (vCons (dC (.int 2)) (vNil))) (vCons (dTup (vCons (dC (.int 1)) (vCons (dC (.int 1)) (vNil)))) (vNil)))))))))))
def F_q_any_balanced : Fn := fun as => fnRes as (B_q_any_balanced (fuel as) (startE 6 as))
def B_q_row_drawn (n : Nat) : DEnv → SR := dSeq (dAsg (dV (dCal2 1 F_q_any_balanced (rIo 0 (rNil)))) (gTp 2 (gsCons (setV 1) (gsCons (setV 2) (gsNil)))))
    (dSeq (dParX [3, 4] (xVal (dV (dCal2 2 F_q_grab (rIo 0 (rVal (dC (.int 7)) (rNil))))) (xFr (dMk seqOf (oD (dBin addD (oVar 1) (oVar 2)))) (xNil))))
    (dSeq (dIf (dTst (dBin gtD (oVar 3) (oD (dC (.int 1))))) (dRet (dTup (vCons (dVar 1) (vCons (dVar 2) (vNil))))) (SR.nx))
    (dSeq (dPar 5 6 (vCons (dV (dCal2 2 F_q_grab (rIo 0 (rVal (dCal lenD (aCons (oVar 4) (aNil))) (rNil))))) (vCons (dV (dCal2 2 F_q_one_of (rIo 0 (rVal (dLst (vCons (dC (.int 1)) (vCons (dUn negD (oD (dC (.int 1)))) (vCons (dC (.int 2)) (vCons (dC (.int 5)) (vNil)))))) (rNil))))) (vNil))))
    (dSeq (dSetI 4 (dVar 5) (dCal (orC max2D maxSD) (aCons (oD (dC (.int 1))) (aCons (oD (dBin addD (oD (dBin ixD (oVar 4) (oVar 5))) (oVar 6))) (aNil)))))
    (dSeq (dAsg (dV (dCal2 2 F_q_without_shared (rVal (dSl (oVar 4) (pNo) (pInt (dCal lenD (aCons (oVar 1) (aNil))))) (rVal (dSl (oVar 4) (pInt (dCal lenD (aCons (oVar 1) (aNil)))) (pNo)) (rNil))))) (gTp 2 (gsCons (setV 7) (gsCons (setV 8) (gsNil)))))
    (dSeq (dIf (dTst (dBin eqY (oVar 3) (oD (dC (.int 0))))) (dAsg (dIte (dTst (dBin gtD (oD (dCal lenD (aCons (oVar 2) (aNil)))) (oD (dC (.int 1))))) (dV (dCal2 2 F_q_without_shared (rVal (dVar 1) (rVal (dSl (oVar 2) (pNo) (pInt (dUn negD (oD (dC (.int 1)))))) (rNil))))) (dV (dCal2 2 F_q_without_shared (rVal (dBin addD (oVar 1) (oD (dTup (vCons (dC (.int 1)) (vNil))))) (rVal (dVar 2) (rNil)))))) (gTp 2 (gsCons (setV 7) (gsCons (setV 8) (gsNil))))) (SR.nx))
    (dRet (dIte (dTst (dV (dCal2 2 F_q_is_row_let (rVal (dVar 7) (rVal (dVar 8) (rNil)))))) (dTup (vCons (dVar 7) (vCons (dVar 8) (vNil)))) (dTup (vCons (dTup (vCons (dC (.int 4)) (vCons (dC (.int 1)) (vNil)))) (vCons (dTup (vCons (dC (.int 3)) (vCons (dC (.int 2)) (vNil)))) (vNil))))))))))))
def F_q_row_drawn : Fn := fun as => fnRes as (B_q_row_drawn (fuel as) (startE 9 as))
def B_q_lowest (n : Nat) : DEnv → SR := dSeq (dSet 2 (dBin mulD (oD (dV (dCal2 1 F_q_common (rVal (dLst (vCons (dVar 0) (vCons (dVar 1) (vNil)))) (rNil))))) (oD (dIte (dTst (dBin gtD (oVar 1) (oD (dC (.int 0))))) (dC (.int 1)) (dUn negD (oD (dC (.int 1))))))))
    (dRet (dTup (vCons (dBin divD (oVar 0) (oVar 2)) (vCons (dBin divD (oVar 1) (oVar 2)) (vNil)))))
def F_q_lowest : Fn := fun as => fnRes as (B_q_lowest (fuel as) (startE 3 as))
def B_q_some_ratio (n : Nat) : DEnv → SR := dSeq (dPar 2 3 (vCons (dV (dCal2 2 F_q_grab (rIo 0 (rVal (dC (.int 4)) (rNil))))) (vCons (dV (dCal2 2 F_q_one_of (rIo 0 (rVal (dLst (vCons (dC (.int 7)) (vCons (dC (.int 60)) (vCons (dC (.int 840)) (vCons (dBin powD (oD (dC (.int 10))) (oD (dC (.int 12)))) (vNil)))))) (rNil))))) (vNil))))
    (dSeq (dIf (dTst (dBin eqY (oVar 2) (oD (dC (.int 0))))) (dRet (dV (dCal2 2 F_q_lowest (rVal (dV (dCal2 2 F_q_grab (rIo 0 (rVal (dBin addD (oVar 1) (oD (dC (.int 1)))) (rNil))))) (rVal (dVar 1) (rNil)))))) (SR.nx))
    (dSeq (dIf (dTst (dBin eqY (oVar 2) (oD (dC (.int 1))))) (dRet (dV (dCal2 2 F_q_lowest (rVal (dBin addD (oD (dBin mulD (oD (dV (dCal2 2 F_q_grab (rIo 0 (rVal (dVar 1) (rNil)))))) (oD (dBin powD (oD (dC (.int 10))) (oD (dC (.int 20))))))) (oD (dC (.int 1)))) (rVal (dBin mulD (oVar 1) (oD (dBin powD (oD (dC (.int 10))) (oD (dC (.int 20)))))) (rNil)))))) (SR.nx))
    (dSeq (dIf (dTst (dBin eqY (oVar 2) (oD (dC (.int 2))))) (dRet (dV (dCal2 2 F_q_lowest (rVal (dBin subD (oD (dBin mulD (oD (dBin addD (oD (dC (.int 1))) (oD (dV (dCal2 2 F_q_grab (rIo 0 (rVal (dVar 1) (rNil)))))))) (oD (dBin powD (oD (dC (.int 10))) (oD (dC (.int 20))))))) (oD (dC (.int 1)))) (rVal (dBin mulD (oVar 1) (oD (dBin powD (oD (dC (.int 10))) (oD (dC (.int 20)))))) (rNil)))))) (SR.nx))
    (dRet (dV (dCal2 2 F_q_lowest (rVal (dV (dCal2 2 F_q_grab (rIo 0 (rVal (dBin powD (oD (dC (.int 10))) (oD (dC (.int 40)))) (rNil))))) (rVal (dBin addD (oD (dC (.int 1))) (oD (dV (dCal2 2 F_q_grab (rIo 0 (rVal (dVar 3) (rNil))))))) (rNil)))))))))
def F_q_some_ratio : Fn := fun as => fnRes as (B_q_some_ratio (fuel as) (startE 4 as))
def B_q_depth (n : Nat) : DEnv → SR := dSeq (dAsg (dVar 2) (gTp 2 (gsCons (setV 3) (gsCons (setV 4) (gsNil)))))
    (dRet (dBin subD (oD (dCal sumAD (aCons (oD (dLc (sSeq (dVar 0)) (setV 5) (tYesB) (dBin divD (oD (dBin mulD (oVar 5) (oVar 3))) (oVar 4)) [5])) (aNil)))) (oD (dCal sumAD (aCons (oD (dLc (sSeq (dVar 1)) (setV 5) (tYesB) (dBin divD (oD (dBin mulD (oVar 5) (oVar 3))) (oVar 4)) [5])) (aNil))))))
def F_q_depth : Fn := fun as => fnRes as (B_q_depth (fuel as) (startE 6 as))
def B_q_jump (n : Nat) : DEnv → SR := dRet (dBin subD (oD (dCal lenD (aCons (oD (dLc (sSeq (dVar 0)) (setV 3) (dTst (dBin eqY (oD (dBin modD (oVar 3) (oVar 2))) (oD (dC (.int 0))))) (dVar 3) [3])) (aNil)))) (oD (dCal lenD (aCons (oD (dLc (sSeq (dVar 1)) (setV 3) (dTst (dBin eqY (oD (dBin modD (oVar 3) (oVar 2))) (oD (dC (.int 0))))) (dVar 3) [3])) (aNil)))))
def F_q_jump : Fn := fun as => fnRes as (B_q_jump (fuel as) (startE 4 as))
def B_q_ratio_sum (n : Nat) : DEnv → SR := dRet (dV (dCal2 2 F_q_lowest (rVal (dBin addD (oD (dBin mulD (oD (dBin ixD (oVar 0) (oD (dC (.int 0))))) (oD (dBin ixD (oVar 1) (oD (dC (.int 1))))))) (oD (dBin mulD (oD (dBin mulD (oVar 2) (oD (dBin ixD (oVar 1) (oD (dC (.int 0))))))) (oD (dBin ixD (oVar 0) (oD (dC (.int 1)))))))) (rVal (dBin mulD (oD (dBin ixD (oVar 0) (oD (dC (.int 1))))) (oD (dBin ixD (oVar 1) (oD (dC (.int 1)))))) (rNil)))))
def F_q_ratio_sum : Fn := fun as => fnRes as (B_q_ratio_sum (fuel as) (startE 3 as))
def B_q_right (n : Nat) : DEnv → SR := dSeq (dAsg (dV (dCal2 1 F_q_row_drawn (rIo 0 (rNil)))) (gTp 2 (gsCons (setV 1) (gsCons (setV 2) (gsNil)))))
    (dSeq (dPar 3 4 (vCons (dMake "Quotient" 3 F_Quotient___init__ (vCons (dVar 1) (vCons (dVar 2) (vNil)))) (vCons (dBin subD (oD (dCal sumAD (aCons (oVar 1) (aNil)))) (oD (dCal sumAD (aCons (oVar 2) (aNil))))) (vNil))))
    (dSeq (dPar 5 6 (vCons (dBin subD (oD (dCal lenD (aCons (oVar 2) (aNil)))) (oD (dCal lenD (aCons (oVar 1) (aNil))))) (vCons (dMk seqOf (oD (dBin addD (oVar 1) (oVar 2)))) (vNil))))
    (dSeq (dForS (sRng1 (vCons (dC (.int 6)) (vNil))) (setV 7) (dSeq (dSet 8 (dV (dCal2 2 F_q_some_ratio (rIo 0 (rVal (dV (dCal2 2 F_q_one_of (rIo 0 (rVal (dVar 6) (rNil))))) (rNil))))))
    (dSeq (dPar 9 10 (vCons (dV (dCal2 3 F_q_depth (rVal (dVar 1) (rVal (dVar 2) (rVal (dVar 8) (rNil)))))) (vCons (dV (dCal2 2 F_q_grab (rIo 0 (rVal (dBin powD (oD (dC (.int 10))) (oD (dC (.int 15)))) (rNil))))) (vNil))))
    (dSeq (dIf (dOr (dTst (dBin neY (oD (dCal rprX (aCons (oD (dV (dCal2 2 F_depth (rVal (dVar 3) (rVal (dVar 8) (rNil)))))) (aNil)))) (oD (dCal rprX (aCons (oVar 9) (aNil)))))) (dTst (dBin neY (oD (dV (dCal2 2 F_depth (rVal (dVar 3) (rVal (dV (dCal2 3 F_q_ratio_sum (rVal (dVar 8) (rVal (dTup (vCons (dVar 10) (vCons (dC (.int 1)) (vNil)))) (rVal (dC (.int 1)) (rNil)))))) (rNil)))))) (oD (dBin addD (oVar 9) (oD (dBin mulD (oVar 10) (oVar 4)))))))) (dRet (dC (.bl false))) (SR.nx))
    (dIf (dAnd (dTst (dBin ltD (oD (dBin ixD (oVar 8) (oD (dC (.int 0))))) (oD (dBin ixD (oVar 8) (oD (dC (.int 1))))))) (dTst (dBin gtD (oD (dBin ixD (oVar 8) (oD (dC (.int 0))))) (oD (dC (.int 0)))))) (dSeq (dSet 11 (dV (dCal2 2 F_depth (rVal (dVar 3) (rVal (dTup (vCons (dBin subD (oD (dBin ixD (oVar 8) (oD (dC (.int 1))))) (oD (dBin ixD (oVar 8) (oD (dC (.int 0)))))) (vCons (dBin ixD (oVar 8) (oD (dC (.int 1)))) (vNil)))) (rNil))))))
    (dIf (dTst (dBin neY (oD (dBin addD (oVar 9) (oVar 11))) (oD (dBin addD (oD (dBin addD (oVar 4) (oVar 5))) (oD (dV (dCal2 3 F_q_jump (rVal (dVar 1) (rVal (dVar 2) (rVal (dBin ixD (oVar 8) (oD (dC (.int 1)))) (rNil))))))))))) (dRet (dC (.bl false))) (SR.nx))) (SR.nx))))))
    (dSeq (dForS (sSeq (dBin addD (oD (dLst (vCons (dC (.int 1)) (vCons (dC (.int 2)) (vCons (dC (.int 3)) (vCons (dC (.int 60)) (vCons (dC (.int 61)) (vCons (dC (.int 2520)) (vCons (dBin addD (oD (dC (.int 1))) (oD (dV (dCal2 2 F_q_grab (rIo 0 (rVal (dC (.int 2520)) (rNil))))))) (vNil)))))))))) (oVar 6))) (setV 12) (dIf (dTst (dBin neY (oD (dCal rprX (aCons (oD (dV (dCal2 2 F_jump (rVal (dVar 3) (rVal (dVar 12) (rNil)))))) (aNil)))) (oD (dCal rprX (aCons (oD (dV (dCal2 3 F_q_jump (rVal (dVar 1) (rVal (dVar 2) (rVal (dVar 12) (rNil))))))) (aNil)))))) (dRet (dC (.bl false))) (SR.nx)))
    (dRet (dAndV (dBin eqY (oD (dV (dCal2 2 F_jump (rVal (dVar 3) (rVal (dC (.int 1)) (rNil)))))) (oD (dBin subD (oD (dC (.int 0))) (oVar 5)))) (dBin eqY (oD (dV (dCal2 2 F_depth (rVal (dVar 3) (rVal (dTup (vCons (dC (.int 0)) (vCons (dC (.int 1)) (vNil)))) (rNil)))))) (oD (dC (.int 0))))))))))
def F_q_right : Fn := fun as => fnRes as (B_q_right (fuel as) (startE 13 as))
def B_law (n : Nat) : DEnv → SR := dSeq (dForS (sRng1 (vCons (dCal (orC max2D maxSD) (aCons (oD (dC (.int 1))) (aCons (oD (dCal (orC min2D minSD) (aCons (oD (dC (.int 3))) (aCons (oD (dCal lenD (aCons (oVar 0) (aNil)))) (aNil))))) (aNil)))) (vNil))) (setV 1) (dSeq (dSetF 2 (dN (dCal2 2 F_q_bag (rVal (dVar 0) (rVal (dVar 1) (rNil))))))
    (dIf (dOr (dNot (dTst (dV (dCal2 1 F_q_right (rIo 2 (rNil)))))) (dNot (dTst (dV (dCal2 1 F_q_right (rIo 2 (rNil))))))) (dRet (dC (.bl false))) (SR.nx))))
    (dSeq (dPar 3 4 (vCons (dMake "Quotient" 3 F_Quotient___init__ (vCons (dTup (vCons (dC (.int 30)) (vCons (dC (.int 1)) (vNil)))) (vCons (dTup (vCons (dC (.int 15)) (vCons (dC (.int 10)) (vCons (dC (.int 6)) (vNil))))) (vNil)))) (vCons (dMake "Quotient" 3 F_Quotient___init__ (vCons (dTup (vCons (dC (.int 4)) (vCons (dC (.int 1)) (vNil)))) (vCons (dTup (vCons (dC (.int 3)) (vCons (dC (.int 2)) (vNil)))) (vNil)))) (vNil))))
    (dSeq (dSet 5 (dLst (vCons (dV (dCal2 2 F_depth (rVal (dVar 3) (rVal (dTup (vCons (dC (.int 1)) (vCons (dC (.int 2)) (vNil)))) (rNil))))) (vCons (dV (dCal2 2 F_depth (rVal (dVar 3) (rVal (dTup (vCons (dC (.int 31)) (vCons (dC (.int 30)) (vNil)))) (rNil))))) (vCons (dV (dCal2 2 F_depth (rVal (dVar 4) (rVal (dTup (vCons (dC (.int 11)) (vCons (dC (.int 3)) (vNil)))) (rNil))))) (vCons (dV (dCal2 2 F_jump (rVal (dVar 3) (rVal (dC (.int 5)) (rNil))))) (vCons (dV (dCal2 2 F_jump (rVal (dVar 4) (rVal (dC (.int 1)) (rNil))))) (vNil))))))))
    (dRet (dBin eqY (oVar 5) (oD (dLst (vCons (dC (.int 0)) (vCons (dC (.int 1)) (vCons (dUn negD (oD (dC (.int 1)))) (vCons (dUn negD (oD (dC (.int 1)))) (vCons (dC (.int 0)) (vNil))))))))))))
def F_law : Fn := fun as => fnRes as (B_law (fuel as) (startE 6 as))
/-! ### the names behind the top -/
structure Txt (K : PySem.W.Frag) (mg : Str → Option Value) : Prop where
  b_abs : mg "abs" = none
  b_all : mg "all" = none
  b_bool : mg "bool" = none
  b_int : mg "int" = none
  b_isinstance : mg "isinstance" = none
  b_iter : mg "iter" = none
  b_len : mg "len" = none
  b_list : mg "list" = none
  b_max : mg "max" = none
  b_min : mg "min" = none
  b_range : mg "range" = none
  b_repr : mg "repr" = none
  b_sorted : mg "sorted" = none
  b_sum : mg "sum" = none
  b_tuple : mg "tuple" = none
  c_MAX_COMMON : ∃ t, mg "MAX_COMMON" = some (.int 2520 t)
  c_MAX_COUNT : ∃ t, mg "MAX_COUNT" = some (.int 100 t)
  c_MAX_INTEGER : ∃ t, mg "MAX_INTEGER" = some (.int 999999999999999999999999999999999999999999999999999999999999 t)
  c_MAX_MEMBER : ∃ t, mg "MAX_MEMBER" = some (.int 60 t)
  c_MAX_SIDE : ∃ t, mg "MAX_SIDE" = some (.int 8 t)
  m_gcd : mg "gcd" = some (.builtin "math.gcd")
  m_lcm : mg "lcm" = some (.builtin "math.lcm")
  a_Quotient__bottoms : HasF K "Quotient" "_bottoms"
  a_Quotient__pairs : HasF K "Quotient" "_pairs"
  a_Quotient__sides : HasF K "Quotient" "_sides"
  a_Quotient__tops : HasF K "Quotient" "_tops"
  i_Quotient : HasI K mg "Quotient"
section
variable {P : Program} {w : World} {K : PySem.W.Frag} {mg : Str → Option Value} {base : Heap}
theorem d_q_bag (T : Txt K mg)  {f : Addr} {n : Nat} {cdv : Value} {A : Around} {outer : List Env} {s : Shared} {H : Hp} {E : XK} (hr : RoomG 0 (A.deeper (envOfC "_law_bag" (defScope s_q_bag) s.heap.objs.size f cdv))) :
    DSs (cxOf (L2.CX P w) P w K mg base ["_law_script", "_law_spot", "_law_cell", "_law_great", "_law_mixed"] "_law_bag" (defScope s_q_bag) f cdv A outer s H E) (fun cls d _ H => E cls d H) (defBody s_q_bag) (B_q_bag n) := by
  have S := sc_q_bag
  have tk : Takes (cxOf (L2.CX P w) P w K mg base ["_law_script", "_law_spot", "_law_cell", "_law_great", "_law_mixed"] "_law_bag" (defScope s_q_bag) f cdv A outer s H E) (fun cls d _ H => E cls d H) := takes_of rfl rfl rfl rfl
  have hu := hr.units
  have hu0 := hr.units0
  have hu1 := hu_of hr.room
  have hu2 := in1u hr
  exact dss_cons (ds_set (i := 2) S.nd rfl (.inl rfl) (de_ifExp (dt_cmp op_lt ops_b0 (do_var (pv 1)) (do_val (de_callB call_len_seq cas_len (by rfl) T.b_len PySem.boot_len (da_cons (do_var (pv 0)) (da_nil)))) (nomark _)) (de_ix (do_var (pv 0)) (do_var (pv 1))) (de_bin (op_add.or (op_cat.or op_catA)) (ops_or ops_i0 (ops_or ops_catL ops_catT)) (do_val (de_bin (op_add.or (op_cat.or op_catA)) (ops_or ops_i0 (ops_or ops_catL ops_catT)) (do_val (de_callB ((cr_sum rfl).or (call_sumT rfl)) (cas_or cas_sum cas_sumT) (by rfl) T.b_sum boot_sum (da_cons (do_val (de_cut (do_var (pv 0)) cp_no cp_int)) (da_nil)))) (do_val (de_bin (op_mulW.or (op_rep.or op_repT)) (ops_or (ops_ic mul_ok) (ops_or ops_repL ops_repT)) (do_val (de_int)) (do_var (pv 1)))))) (do_val (de_int)))))
    (dss_cons (ds_set (i := 3) S.nd rfl (.inl rfl) (de_bin op_modN (ops_ic fun _ _ h => of_decide_eq_true h) (do_val (de_callTy call_int1 cas_int (by rfl) T.b_int boot_int (da_cons (do_val (de_callB call_abs cas_abs (by rfl) T.b_abs boot_abs (da_cons (do_var (pv 2)) (da_nil)))) (da_nil)))) (do_val (de_bin op_powG (ops_ic fun _ _ h => cPow_ok h) (do_val (de_bin op_powG (ops_ic fun _ _ h => cPow_ok h) (do_val (de_int)) (do_val (de_int)))) (do_val (de_int))))))
    (dss_cons (ds_set (i := 4) S.nd rfl (.inl rfl) (de_bin (op_add.or (op_cat.or op_catA)) (ops_or ops_i0 (ops_or ops_catL ops_catT)) (do_val (de_bin (op_add.or (op_cat.or op_catA)) (ops_or ops_i0 (ops_or ops_catL ops_catT)) (do_val (de_bin (op_add.or (op_cat.or op_catA)) (ops_or ops_i0 (ops_or ops_catL ops_catT)) (do_val (de_bin (op_mulW.or (op_rep.or op_repT)) (ops_or (ops_ic mul_ok) (ops_or ops_repL ops_repT)) (do_val (de_bin op_modN (ops_ic fun _ _ h => of_decide_eq_true h) (do_val (de_callTy call_int1 cas_int (by rfl) T.b_int boot_int (da_cons (do_var (pv 3)) (da_nil)))) (do_val (de_int)))) (do_val (de_int)))) (do_val (de_bin (op_mulW.or (op_rep.or op_repT)) (ops_or (ops_ic mul_ok) (ops_or ops_repL ops_repT)) (do_val (de_int)) (do_var (pv 1)))))) (do_val (de_bin (op_mulW.or (op_rep.or op_repT)) (ops_or (ops_ic mul_ok) (ops_or ops_repL ops_repT)) (do_val (de_int)) (do_val (de_callTy call_int1 cas_int (by rfl) T.b_int boot_int (da_cons (do_val (de_cmp op_lt ops_b0 (do_var (pv 2)) (do_val (de_int)) (nomark _))) (da_nil)))))))) (do_val (de_int))))
    (dss_one (ds_retF (df_lst (dv_cons (de_callB ((call_max2 rfl).or (call_maxS rfl hr.units)) (cas_or cas_max2 cas_maxS) (by rfl) T.b_max boot_max (da_cons (do_val (de_int)) (da_cons (do_val (de_bin op_sub ops_i0 (do_var (pv 3)) (do_val (de_bin op_powG (ops_ic fun _ _ h => cPow_ok h) (do_val (de_int)) (do_val (de_int)))))) (da_nil)))) (dv_cons (de_bin op_modN (ops_ic fun _ _ h => of_decide_eq_true h) (do_val (de_callTy call_int1 cas_int (by rfl) T.b_int boot_int (da_cons (do_var (pv 4)) (da_nil)))) (do_val (de_int))) (dv_cons (de_int) (dv_nil)))))))))
theorem d_counted (T : Txt K mg)  {f : Addr} {n : Nat} {cdv : Value} {A : Around} {outer : List Env} {s : Shared} {H : Hp} {E : XK} (hr : RoomG 0 (A.deeper (envOfC "counted" (defScope s_counted) s.heap.objs.size f cdv))) :
    DSs (cxOf (L2.CX P w) P w K mg base ["tops", "bottoms", "found", "member"] "counted" (defScope s_counted) f cdv A outer s H E) (fun cls d _ H => E cls d H) (defBody s_counted) (B_counted n) := by
  have S := sc_counted
  have tk : Takes (cxOf (L2.CX P w) P w K mg base ["tops", "bottoms", "found", "member"] "counted" (defScope s_counted) f cdv A outer s H E) (fun cls d _ H => E cls d H) := takes_of rfl rfl rfl rfl
  have hu := hr.units
  have hu0 := hr.units0
  have hu1 := hu_of hr.room
  have hu2 := in1u hr
  exact dss_cons (ds_setF (i := 2) S.nd rfl (.inr rfl) (df_dic0))
    (dss_cons (ds_for (passes_of rfl) rfl (di_seq (de_var (pv 0))) (dg_name (i := 3) (pg_name (i := 3) S.nd rfl (.inl rfl))) (dss_one (ds_setk hu1 (pv 2) (de_var (pv 3)) (de_bin (op_add.or (op_cat.or op_catA)) (ops_or ops_i0 (ops_or ops_catL ops_catT)) (do_val (de_get2 hu1 (do_var (pv 2)) (de_var (pv 3)) (de_int) ⟨by rfl, by rfl, by rfl, by rfl⟩)) (do_val (de_int))))))
    (dss_cons (ds_for (passes_of rfl) rfl (di_seq (de_var (pv 1))) (dg_name (i := 3) (pg_name (i := 3) S.nd rfl (.inl rfl))) (dss_one (ds_setk hu1 (pv 2) (de_var (pv 3)) (de_bin op_sub ops_i0 (do_val (de_get2 hu1 (do_var (pv 2)) (de_var (pv 3)) (de_int) ⟨by rfl, by rfl, by rfl, by rfl⟩)) (do_val (de_int))))))
    (dss_one (ds_ret (de_fresh (df_dc (own := [("member", 3)]) rfl S.nd (di_seq (de_fresh (df_sorted rfl (by rfl) T.b_sorted (do_var (pv 2))))) (blkOk_by (by rfl)) rfl (by intro _ _ _ _ _; exact dg_name (i := 3) (pg_name (i := 3) S.nd rfl (.inl rfl))) (by intro _ _ _ _ _; exact dts_one (dt_cmp (((op_neD hu).or (op_neK hu2 hu0)).or (op_neL hr.u80)) (ops_or (ops_or ops_ne1 ops_neK) ops_neL) (do_val (de_ixK hu1 (do_var (pv 2)) (do_var (pv 3)) (by intro _ _; rfl))) (do_val (de_int)) (nomark _))) (by intro _ _ _ _ _; exact de_var (pv 3)) (by intro _ _ _ _ _; exact de_ixK hu1 (do_var (pv 2)) (do_var (pv 3)) (by intro _ _; rfl))))))))
theorem d_sides_of (T : Txt K mg)  {f : Addr} {n : Nat} {cdv : Value} {A : Around} {outer : List Env} {s : Shared} {H : Hp} {E : XK} (hr : RoomG 0 (A.deeper (envOfC "sides_of" (defScope s_sides_of) s.heap.objs.size f cdv))) :
    DSs (cxOf (L2.CX P w) P w K mg base ["counts", "tops", "bottoms", "member"] "sides_of" (defScope s_sides_of) f cdv A outer s H E) (fun cls d _ H => E cls d H) (defBody s_sides_of) (B_sides_of n) := by
  have S := sc_sides_of
  have tk : Takes (cxOf (L2.CX P w) P w K mg base ["counts", "tops", "bottoms", "member"] "sides_of" (defScope s_sides_of) f cdv A outer s H E) (fun cls d _ H => E cls d H) := takes_of rfl rfl rfl rfl
  have hu := hr.units
  have hu0 := hr.units0
  have hu1 := hu_of hr.room
  have hu2 := in1u hr
  exact dss_cons (ds_set (i := 1) S.nd rfl (.inl rfl) (de_fresh (df_lst (dv_nil))))
    (dss_cons (ds_set (i := 2) S.nd rfl (.inl rfl) (de_fresh (df_lst (dv_nil))))
    (dss_cons (ds_for (passes_of rfl) rfl (di_seq (de_fresh (df_sorted rfl (by rfl) T.b_sorted (do_var (pv 0))))) (dg_name (i := 3) (pg_name (i := 3) S.nd rfl (.inl rfl))) (dss_cons (ds_set (i := 1) S.nd rfl (.inl rfl) (de_bin (op_add.or (op_cat.or op_catA)) (ops_or ops_i0 (ops_or ops_catL ops_catT)) (do_var (pv 1)) (do_val (de_bin (op_mulW.or (op_rep.or op_repT)) (ops_or (ops_ic mul_ok) (ops_or ops_repL ops_repT)) (do_val (de_fresh (df_lst (dv_cons (de_var (pv 3)) (dv_nil))))) (do_val (de_ixK hu1 (do_var (pv 0)) (do_var (pv 3)) (by intro _ _; rfl)))))))
    (dss_one (ds_set (i := 2) S.nd rfl (.inl rfl) (de_bin (op_add.or (op_cat.or op_catA)) (ops_or ops_i0 (ops_or ops_catL ops_catT)) (do_var (pv 2)) (do_val (de_bin (op_mulW.or (op_rep.or op_repT)) (ops_or (ops_ic mul_ok) (ops_or ops_repL ops_repT)) (do_val (de_fresh (df_lst (dv_cons (de_var (pv 3)) (dv_nil))))) (do_val (de_un un_neg uns_neg (do_val (de_ixK hu1 (do_var (pv 0)) (do_var (pv 3)) (by intro _ _; rfl))))))))))))
    (dss_one (ds_ret (de_tup (dv_cons (de_callTy call_tuple_of cas_tup (by rfl) T.b_tuple boot_tuple (da_cons (do_var (pv 1)) (da_nil))) (dv_cons (de_callTy call_tuple_of cas_tup (by rfl) T.b_tuple boot_tuple (da_cons (do_var (pv 2)) (da_nil))) (dv_nil))))))))
theorem d_is_long_integer (T : Txt K mg)  {f : Addr} {n : Nat} {cdv : Value} {A : Around} {outer : List Env} {s : Shared} {H : Hp} {E : XK} (hr : RoomG 0 (A.deeper (envOfC "is_long_integer" (defScope s_is_long_integer) s.heap.objs.size f cdv))) :
    DSs (cxOf (L2.CX P w) P w K mg base ["value"] "is_long_integer" (defScope s_is_long_integer) f cdv A outer s H E) (fun cls d _ H => E cls d H) (defBody s_is_long_integer) (B_is_long_integer n) := by
  have S := sc_is_long_integer
  have tk : Takes (cxOf (L2.CX P w) P w K mg base ["value"] "is_long_integer" (defScope s_is_long_integer) f cdv A outer s H E) (fun cls d _ H => E cls d H) := takes_of rfl rfl rfl rfl
  have hu := hr.units
  have hu0 := hr.units0
  have hu1 := hu_of hr.room
  have hu2 := in1u hr
  exact dss_one (ds_ret (de_and (de_isi (do_var (pv 0)) (pe_tyn (T := "int") (by rfl) T.b_int boot_int) (by rfl) T.b_isinstance boot_isinstance) (de_one (de_not (de_isi (do_var (pv 0)) (pe_tyn (T := "bool") (by rfl) T.b_bool boot_bool) (by rfl) T.b_isinstance boot_isinstance)))))
theorem d_is_integer (T : Txt K mg) (h_is_long_integer : Has P w K mg base "is_long_integer" 1 ["value"] F_is_long_integer) {f : Addr} {n : Nat} {cdv : Value} {A : Around} {outer : List Env} {s : Shared} {H : Hp} {E : XK} (hr : RoomG 1 (A.deeper (envOfC "is_integer" (defScope s_is_integer) s.heap.objs.size f cdv))) :
    DSs (cxOf (L2.CX P w) P w K mg base ["value"] "is_integer" (defScope s_is_integer) f cdv A outer s H E) (fun cls d _ H => E cls d H) (defBody s_is_integer) (B_is_integer n) := by
  have S := sc_is_integer
  have tk : Takes (cxOf (L2.CX P w) P w K mg base ["value"] "is_integer" (defScope s_is_integer) f cdv A outer s H E) (fun cls d _ H => E cls d H) := takes_of rfl rfl rfl rfl
  have hu := hr.units
  have hu0 := hr.units0
  have hu1 := hu_of hr.room
  have hu2 := in1u hr
  exact dss_one (ds_ret (de_and (dx_de (dx_has h_is_long_integer hr (by decide) tk (by rfl) (dr_val (de_var (pv 0)) (dr_nil)))) (de_one (de_cmp op_le ops_b0 (do_val (de_callB call_abs cas_abs (by rfl) T.b_abs boot_abs (da_cons (do_var (pv 0)) (da_nil)))) (do_val (de_gint (by rfl) T.c_MAX_INTEGER.choose_spec)) (nomark _)))))
theorem d_are_integers (T : Txt K mg) (h_is_integer : Has P w K mg base "is_integer" 2 ["value"] F_is_integer) {f : Addr} {n : Nat} {cdv : Value} {A : Around} {outer : List Env} {s : Shared} {H : Hp} {E : XK} (hr : RoomG 2 (A.deeper (envOfC "are_integers" (defScope s_are_integers) s.heap.objs.size f cdv))) :
    DSs (cxOf (L2.CX P w) P w K mg base ["value", "item"] "are_integers" (defScope s_are_integers) f cdv A outer s H E) (fun cls d _ H => E cls d H) (defBody s_are_integers) (B_are_integers n) := by
  have S := sc_are_integers
  have tk : Takes (cxOf (L2.CX P w) P w K mg base ["value", "item"] "are_integers" (defScope s_are_integers) f cdv A outer s H E) (fun cls d _ H => E cls d H) := takes_of rfl rfl rfl rfl
  have hu := hr.units
  have hu0 := hr.units0
  have hu1 := hu_of hr.room
  have hu2 := in1u hr
  exact dss_cons (ds_if (dt_bool (dw_or (dt_not (dt_val (de_isi (do_var (pv 0)) (pe_tyn (T := "tuple") (by rfl) T.b_tuple boot_tuple) (by rfl) T.b_isinstance boot_isinstance))) (dw_or1 (dt_not (dt_chain op_le op_le ops_b0 ops_b0 (do_val (de_int)) (do_val (de_callB call_len_seq cas_len (by rfl) T.b_len PySem.boot_len (da_cons (do_var (pv 0)) (da_nil)))) (do_val (de_gint (by rfl) T.c_MAX_COUNT.choose_spec))))))) (dss_one (ds_ret (de_bl))) (dss_nil))
    (dss_one (ds_ret (de_callB (cr_all rfl) cas_all (by rfl) T.b_all boot_all (da_cons (do_val (de_fresh (df_lc (own := [("item", 1)]) rfl S.nd (di_seq (de_var (pv 0))) (blkOk_by (by rfl)) rfl (by intro _ _ _ _ _; exact dg_name (i := 1) (pg_name (i := 1) S.nd rfl (.inl rfl))) (by intro _ _ _ _ _; exact dts_nil) (by intro _ _ _ _ _; exact dx_de (dx_hasN h_is_integer hr (by decide) (by rfl) (dr_val (de_var (pv 1)) (dr_nil))))))) (da_nil)))))
theorem d_common_multiple (T : Txt K mg) (h_are_integers : Has P w K mg base "are_integers" 3 ["value"] F_are_integers) {f : Addr} {n : Nat} {cdv : Value} {A : Around} {outer : List Env} {s : Shared} {H : Hp} {E : XK} (hr : RoomG 3 (A.deeper (envOfC "common_multiple" (defScope s_common_multiple) s.heap.objs.size f cdv))) :
    DSs (cxOf (L2.CX P w) P w K mg base ["numbers", "multiple", "number"] "common_multiple" (defScope s_common_multiple) f cdv A outer s H E) (fun cls d _ H => E cls d H) (defBody s_common_multiple) (B_common_multiple n) := by
  have S := sc_common_multiple
  have tk : Takes (cxOf (L2.CX P w) P w K mg base ["numbers", "multiple", "number"] "common_multiple" (defScope s_common_multiple) f cdv A outer s H E) (fun cls d _ H => E cls d H) := takes_of rfl rfl rfl rfl
  have hu := hr.units
  have hu0 := hr.units0
  have hu1 := hu_of hr.room
  have hu2 := in1u hr
  exact dss_cons (ds_if (dt_bool (dw_or (dt_not (dt_val (dx_de (dx_has h_are_integers hr (by decide) tk (by rfl) (dr_val (de_var (pv 0)) (dr_nil)))))) (dw_or1 (dt_cmp op_lt ops_b0 (do_val (de_callB ((call_min2 rfl).or (call_minS rfl hr.units)) (cas_or cas_min2 cas_minS) (by rfl) T.b_min boot_min (da_cons (do_var (pv 0)) (da_nil)))) (do_val (de_int)) (nomark _))))) (dss_one (ds_never)) (dss_nil))
    (dss_cons (ds_set (i := 1) S.nd rfl (.inl rfl) (de_int))
    (dss_cons (ds_for (passes_of rfl) rfl (di_seq (de_var (pv 0))) (dg_name (i := 2) (pg_name (i := 2) S.nd rfl (.inl rfl))) (dss_one (ds_set (i := 1) S.nd rfl (.inl rfl) (de_callM call_lcm cas_lcm (by rfl) T.m_lcm (da_cons (do_var (pv 1)) (da_cons (do_var (pv 2)) (da_nil)))))))
    (dss_one (ds_retV (pv 1)))))
theorem d_does_tell_row (T : Txt K mg) (h_common_multiple : Has P w K mg base "common_multiple" 4 ["numbers"] F_common_multiple) {f : Addr} {n : Nat} {cdv : Value} {A : Around} {outer : List Env} {s : Shared} {H : Hp} {E : XK} (hr : RoomG 4 (A.deeper (envOfC "does_tell_row" (defScope s_does_tell_row) s.heap.objs.size f cdv))) :
    DSs (cxOf (L2.CX P w) P w K mg base ["members", "counts", "count"] "does_tell_row" (defScope s_does_tell_row) f cdv A outer s H E) (fun cls d _ H => E cls d H) (defBody s_does_tell_row) (B_does_tell_row n) := by
  have S := sc_does_tell_row
  have tk : Takes (cxOf (L2.CX P w) P w K mg base ["members", "counts", "count"] "does_tell_row" (defScope s_does_tell_row) f cdv A outer s H E) (fun cls d _ H => E cls d H) := takes_of rfl rfl rfl rfl
  have hu := hr.units
  have hu0 := hr.units0
  have hu1 := hu_of hr.room
  have hu2 := in1u hr
  exact dss_cons (ds_if (dt_bool (dw_or (dt_not (dt_truthK (do_var (pv 0)))) (dw_or1 (dt_cmp op_gt ops_b0 (do_val (de_callB (call_maxK rfl hr.units) cas_maxK (by rfl) T.b_max boot_max (da_cons (do_var (pv 0)) (da_nil)))) (do_val (de_gint (by rfl) T.c_MAX_MEMBER.choose_spec)) (nomark _))))) (dss_one (ds_ret (de_bl))) (dss_nil))
    (dss_cons (ds_set (i := 1) S.nd rfl (.inl rfl) (de_fresh (df_lvals rfl (by rfl) T.b_list (de_var (pv 0)))))
    (dss_cons (ds_if (dt_cmp op_gt ops_b0 (do_val (de_callB ((cr_sum rfl).or (call_sumT rfl)) (cas_or cas_sum cas_sumT) (by rfl) T.b_sum boot_sum (da_cons (do_val (de_fresh (df_lc (own := [("count", 2)]) rfl S.nd (di_seq (de_var (pv 1))) (blkOk_by (by rfl)) rfl (by intro _ _ _ _ _; exact dg_name (i := 2) (pg_name (i := 2) S.nd rfl (.inl rfl))) (by intro _ _ _ _ _; exact dts_one (dt_cmp op_gt ops_b0 (do_var (pv 2)) (do_val (de_int)) (nomark _))) (by intro _ _ _ _ _; exact de_var (pv 2))))) (da_nil)))) (do_val (de_gint (by rfl) T.c_MAX_SIDE.choose_spec)) (nomark _)) (dss_one (ds_ret (de_bl))) (dss_nil))
    (dss_cons (ds_if (dt_cmp op_gt ops_b0 (do_val (de_callB ((cr_sum rfl).or (call_sumT rfl)) (cas_or cas_sum cas_sumT) (by rfl) T.b_sum boot_sum (da_cons (do_val (de_fresh (df_lc (own := [("count", 2)]) rfl S.nd (di_seq (de_var (pv 1))) (blkOk_by (by rfl)) rfl (by intro _ _ _ _ _; exact dg_name (i := 2) (pg_name (i := 2) S.nd rfl (.inl rfl))) (by intro _ _ _ _ _; exact dts_one (dt_cmp op_lt ops_b0 (do_var (pv 2)) (do_val (de_int)) (nomark _))) (by intro _ _ _ _ _; exact de_un un_neg uns_neg (do_var (pv 2)))))) (da_nil)))) (do_val (de_gint (by rfl) T.c_MAX_SIDE.choose_spec)) (nomark _)) (dss_one (ds_ret (de_bl))) (dss_nil))
    (dss_one (ds_ret (de_cmp op_le ops_b0 (do_val (dx_de (dx_has h_common_multiple hr (by decide) tk (by rfl) (dr_val (de_callTy (call_tupK rfl) cas_tupK (by rfl) T.b_tuple boot_tuple (da_cons (do_var (pv 0)) (da_nil))) (dr_nil))))) (do_val (de_gint (by rfl) T.c_MAX_COMMON.choose_spec)) (nomark _)))))))
theorem d_is_between (T : Txt K mg) (h_is_integer : Has P w K mg base "is_integer" 2 ["value"] F_is_integer) {f : Addr} {n : Nat} {cdv : Value} {A : Around} {outer : List Env} {s : Shared} {H : Hp} {E : XK} (hr : RoomG 2 (A.deeper (envOfC "is_between" (defScope s_is_between) s.heap.objs.size f cdv))) :
    DSs (cxOf (L2.CX P w) P w K mg base ["value", "least", "most"] "is_between" (defScope s_is_between) f cdv A outer s H E) (fun cls d _ H => E cls d H) (defBody s_is_between) (B_is_between n) := by
  have S := sc_is_between
  have tk : Takes (cxOf (L2.CX P w) P w K mg base ["value", "least", "most"] "is_between" (defScope s_is_between) f cdv A outer s H E) (fun cls d _ H => E cls d H) := takes_of rfl rfl rfl rfl
  have hu := hr.units
  have hu0 := hr.units0
  have hu1 := hu_of hr.room
  have hu2 := in1u hr
  exact dss_one (ds_ret (de_and (dx_de (dx_has h_is_integer hr (by decide) tk (by rfl) (dr_val (de_var (pv 0)) (dr_nil)))) (de_one (de_chain op_le op_le ops_b0 ops_b0 (do_var (pv 1)) (do_var (pv 0)) (do_var (pv 2))))))
theorem d_is_side (T : Txt K mg) (h_is_between : Has P w K mg base "is_between" 3 ["value", "least", "most"] F_is_between) {f : Addr} {n : Nat} {cdv : Value} {A : Around} {outer : List Env} {s : Shared} {H : Hp} {E : XK} (hr : RoomG 3 (A.deeper (envOfC "is_side" (defScope s_is_side) s.heap.objs.size f cdv))) :
    DSs (cxOf (L2.CX P w) P w K mg base ["value", "item"] "is_side" (defScope s_is_side) f cdv A outer s H E) (fun cls d _ H => E cls d H) (defBody s_is_side) (B_is_side n) := by
  have S := sc_is_side
  have tk : Takes (cxOf (L2.CX P w) P w K mg base ["value", "item"] "is_side" (defScope s_is_side) f cdv A outer s H E) (fun cls d _ H => E cls d H) := takes_of rfl rfl rfl rfl
  have hu := hr.units
  have hu0 := hr.units0
  have hu1 := hu_of hr.room
  have hu2 := in1u hr
  exact dss_cons (ds_if (dt_bool (dw_or (dt_not (dt_val (de_isi (do_var (pv 0)) (pe_tyn (T := "tuple") (by rfl) T.b_tuple boot_tuple) (by rfl) T.b_isinstance boot_isinstance))) (dw_or1 (dt_cmp op_gt ops_b0 (do_val (de_callB call_len_seq cas_len (by rfl) T.b_len PySem.boot_len (da_cons (do_var (pv 0)) (da_nil)))) (do_val (de_gint (by rfl) T.c_MAX_SIDE.choose_spec)) (nomark _))))) (dss_one (ds_ret (de_bl))) (dss_nil))
    (dss_one (ds_ret (de_callB (cr_all rfl) cas_all (by rfl) T.b_all boot_all (da_cons (do_val (de_fresh (df_lc (own := [("item", 1)]) rfl S.nd (di_seq (de_var (pv 0))) (blkOk_by (by rfl)) rfl (by intro _ _ _ _ _; exact dg_name (i := 1) (pg_name (i := 1) S.nd rfl (.inl rfl))) (by intro _ _ _ _ _; exact dts_nil) (by intro _ _ _ _ _; exact dx_de (dx_hasN h_is_between hr (by decide) (by rfl) (dr_val (de_var (pv 1)) (dr_val (de_int) (dr_val (de_gint (by rfl) T.c_MAX_MEMBER.choose_spec) (dr_nil))))))))) (da_nil)))))
theorem d_Quotient___init__ (T : Txt K mg) (h_counted : Has P w K mg base "counted" 1 ["tops", "bottoms"] F_counted) (h_sides_of : Has P w K mg base "sides_of" 1 ["counts"] F_sides_of) (h_does_tell_row : Has P w K mg base "does_tell_row" 5 ["members"] F_does_tell_row) (h_is_side : Has P w K mg base "is_side" 4 ["value"] F_is_side) {f : Addr} {n : Nat} {cdv : Value} {A : Around} {outer : List Env} {s : Shared} {H : Hp} {E : XK} (hr : RoomG 5 (A.deeper (envOfC "Quotient.__init__" (defScope s_Quotient___init__) s.heap.objs.size f cdv))) :
    DSs (cxOf (L2.CX P w) P w K mg base ["self", "tops", "bottoms", "members", "left", "right", "member"] "Quotient.__init__" (defScope s_Quotient___init__) f cdv A outer s H E) (fun cls d _ H => E cls d H) (defBody s_Quotient___init__) (B_Quotient___init__ n) := by
  have S := sc_Quotient___init__
  have tk : Takes (cxOf (L2.CX P w) P w K mg base ["self", "tops", "bottoms", "members", "left", "right", "member"] "Quotient.__init__" (defScope s_Quotient___init__) f cdv A outer s H E) (fun cls d _ H => E cls d H) := takes_of rfl rfl rfl rfl
  have hu := hr.units
  have hu0 := hr.units0
  have hu1 := hu_of hr.room
  have hu2 := in1u hr
  exact dss_cons (ds_if (dt_bool (dw_or (dt_not (dt_val (dx_de (dx_has h_is_side hr (by decide) tk (by rfl) (dr_val (de_var (pv 1)) (dr_nil)))))) (dw_or1 (dt_not (dt_val (dx_de (dx_has h_is_side hr (by decide) tk (by rfl) (dr_val (de_var (pv 2)) (dr_nil))))))))) (dss_one (ds_never)) (dss_nil))
    (dss_cons (ds_set (i := 3) S.nd rfl (.inr rfl) (dx_de (dx_has h_counted hr (by decide) tk (by rfl) (dr_val (de_var (pv 1)) (dr_val (de_var (pv 2)) (dr_nil))))))
    (dss_cons (ds_if (dt_not (dt_val (dx_de (dx_has h_does_tell_row hr (by decide) tk (by rfl) (dr_val (de_var (pv 3)) (dr_nil)))))) (dss_one (ds_never)) (dss_nil))
    (dss_cons (ds_asg (dx_de (dx_has h_sides_of hr (by decide) tk (by rfl) (dr_val (de_var (pv 3)) (dr_nil)))) (dg_tup rfl (dgs_cons (dg_name (i := 4) (pg_name (i := 4) S.nd rfl (.inl rfl))) (dgs_cons (dg_name (i := 5) (pg_name (i := 5) S.nd rfl (.inl rfl))) (dgs_nil)))))
    (dss_cons (ds_setaH T.a_Quotient__tops (pv 0) (de_revT (do_var (pv 4))))
    (dss_cons (ds_setaH T.a_Quotient__bottoms (pv 0) (de_revT (do_var (pv 5))))
    (dss_cons (ds_setaH T.a_Quotient__sides (pv 0) (de_bin (op_add.or (op_cat.or op_catA)) (ops_or ops_i0 (ops_or ops_catL ops_catT)) (do_val (de_fldH T.a_Quotient__tops (do_var (pv 0)))) (do_val (de_fldH T.a_Quotient__bottoms (do_var (pv 0))))))
    (dss_one (ds_setaH T.a_Quotient__pairs (pv 0) (de_callTy call_tuple_of cas_tup (by rfl) T.b_tuple boot_tuple (da_cons (do_val (de_fresh (df_lc (own := [("member", 6)]) rfl S.nd (di_keys (de_var (pv 3))) (blkOk_by (by rfl)) rfl (by intro _ _ _ _ _; exact dg_name (i := 6) (pg_name (i := 6) S.nd rfl (.inl rfl))) (by intro _ _ _ _ _; exact dts_nil) (by intro _ _ _ _ _; exact de_tup (dv_cons (de_var (pv 6)) (dv_cons (de_ixK hu1 (do_var (pv 3)) (do_var (pv 6)) (by intro _ _; rfl)) (dv_nil))))))) (da_nil)))))))))))
theorem d_check_row (T : Txt K mg)  {f : Addr} {n : Nat} {cdv : Value} {A : Around} {outer : List Env} {s : Shared} {H : Hp} {E : XK} (hr : RoomG 0 (A.deeper (envOfC "check_row" (defScope s_check_row) s.heap.objs.size f cdv))) :
    DSs (cxOf (L2.CX P w) P w K mg base ["row"] "check_row" (defScope s_check_row) f cdv A outer s H E) (fun cls d _ H => E cls d H) (defBody s_check_row) (B_check_row n) := by
  have S := sc_check_row
  have tk : Takes (cxOf (L2.CX P w) P w K mg base ["row"] "check_row" (defScope s_check_row) f cdv A outer s H E) (fun cls d _ H => E cls d H) := takes_of rfl rfl rfl rfl
  have hu := hr.units
  have hu0 := hr.units0
  have hu1 := hu_of hr.room
  have hu2 := in1u hr
  exact dss_one (ds_if (dt_not (dt_val (de_isOH T.i_Quotient (do_var (pv 0)) (by rfl) (by rfl) T.b_isinstance boot_isinstance))) (dss_one (ds_never)) (dss_nil))
theorem d_is_long_pair (T : Txt K mg) (h_is_long_integer : Has P w K mg base "is_long_integer" 1 ["value"] F_is_long_integer) {f : Addr} {n : Nat} {cdv : Value} {A : Around} {outer : List Env} {s : Shared} {H : Hp} {E : XK} (hr : RoomG 1 (A.deeper (envOfC "is_long_pair" (defScope s_is_long_pair) s.heap.objs.size f cdv))) :
    DSs (cxOf (L2.CX P w) P w K mg base ["value"] "is_long_pair" (defScope s_is_long_pair) f cdv A outer s H E) (fun cls d _ H => E cls d H) (defBody s_is_long_pair) (B_is_long_pair n) := by
  have S := sc_is_long_pair
  have tk : Takes (cxOf (L2.CX P w) P w K mg base ["value"] "is_long_pair" (defScope s_is_long_pair) f cdv A outer s H E) (fun cls d _ H => E cls d H) := takes_of rfl rfl rfl rfl
  have hu := hr.units
  have hu0 := hr.units0
  have hu1 := hu_of hr.room
  have hu2 := in1u hr
  exact dss_one (ds_ret (de_and (de_isi (do_var (pv 0)) (pe_tyn (T := "tuple") (by rfl) T.b_tuple boot_tuple) (by rfl) T.b_isinstance boot_isinstance) (de_and (de_cmp (((op_eqD hu).or (op_eqK hu2 hu0)).or (op_eqL hr.u80)) (ops_or (ops_or ops_eq1 ops_eqK) ops_eqL) (do_val (de_callB call_len_seq cas_len (by rfl) T.b_len PySem.boot_len (da_cons (do_var (pv 0)) (da_nil)))) (do_val (de_int)) (nomark _)) (de_and (dx_de (dx_has h_is_long_integer hr (by decide) tk (by rfl) (dr_val (de_ix (do_var (pv 0)) (do_val (de_int))) (dr_nil)))) (de_one (dx_de (dx_has h_is_long_integer hr (by decide) tk (by rfl) (dr_val (de_ix (do_var (pv 0)) (do_val (de_int))) (dr_nil)))))))))
theorem d_is_long_ratio (T : Txt K mg) (h_is_long_pair : Has P w K mg base "is_long_pair" 2 ["value"] F_is_long_pair) {f : Addr} {n : Nat} {cdv : Value} {A : Around} {outer : List Env} {s : Shared} {H : Hp} {E : XK} (hr : RoomG 2 (A.deeper (envOfC "is_long_ratio" (defScope s_is_long_ratio) s.heap.objs.size f cdv))) :
    DSs (cxOf (L2.CX P w) P w K mg base ["value"] "is_long_ratio" (defScope s_is_long_ratio) f cdv A outer s H E) (fun cls d _ H => E cls d H) (defBody s_is_long_ratio) (B_is_long_ratio n) := by
  have S := sc_is_long_ratio
  have tk : Takes (cxOf (L2.CX P w) P w K mg base ["value"] "is_long_ratio" (defScope s_is_long_ratio) f cdv A outer s H E) (fun cls d _ H => E cls d H) := takes_of rfl rfl rfl rfl
  have hu := hr.units
  have hu0 := hr.units0
  have hu1 := hu_of hr.room
  have hu2 := in1u hr
  exact dss_one (ds_ret (de_and (dx_de (dx_has h_is_long_pair hr (by decide) tk (by rfl) (dr_val (de_var (pv 0)) (dr_nil)))) (de_and (de_cmp op_gt ops_b0 (do_val (de_ix (do_var (pv 0)) (do_val (de_int)))) (do_val (de_int)) (nomark _)) (de_one (de_cmp (((op_eqD hu).or (op_eqK hu2 hu0)).or (op_eqL hr.u80)) (ops_or (ops_or ops_eq1 ops_eqK) ops_eqL) (do_val (de_callM cr_gcd cas_gcd (by rfl) T.m_gcd (da_cons (do_val (de_ix (do_var (pv 0)) (do_val (de_int)))) (da_cons (do_val (de_ix (do_var (pv 0)) (do_val (de_int)))) (da_nil))))) (do_val (de_int)) (nomark _))))))
theorem d_is_ratio (T : Txt K mg) (h_is_long_ratio : Has P w K mg base "is_long_ratio" 3 ["value"] F_is_long_ratio) (h_is_integer : Has P w K mg base "is_integer" 2 ["value"] F_is_integer) {f : Addr} {n : Nat} {cdv : Value} {A : Around} {outer : List Env} {s : Shared} {H : Hp} {E : XK} (hr : RoomG 3 (A.deeper (envOfC "is_ratio" (defScope s_is_ratio) s.heap.objs.size f cdv))) :
    DSs (cxOf (L2.CX P w) P w K mg base ["value"] "is_ratio" (defScope s_is_ratio) f cdv A outer s H E) (fun cls d _ H => E cls d H) (defBody s_is_ratio) (B_is_ratio n) := by
  have S := sc_is_ratio
  have tk : Takes (cxOf (L2.CX P w) P w K mg base ["value"] "is_ratio" (defScope s_is_ratio) f cdv A outer s H E) (fun cls d _ H => E cls d H) := takes_of rfl rfl rfl rfl
  have hu := hr.units
  have hu0 := hr.units0
  have hu1 := hu_of hr.room
  have hu2 := in1u hr
  exact dss_one (ds_ret (de_and (dx_de (dx_has h_is_long_ratio hr (by decide) tk (by rfl) (dr_val (de_var (pv 0)) (dr_nil)))) (de_and (dx_de (dx_has h_is_integer hr (by decide) tk (by rfl) (dr_val (de_ix (do_var (pv 0)) (do_val (de_int))) (dr_nil)))) (de_one (dx_de (dx_has h_is_integer hr (by decide) tk (by rfl) (dr_val (de_ix (do_var (pv 0)) (do_val (de_int))) (dr_nil))))))))
theorem d_check_ratio (T : Txt K mg) (h_is_ratio : Has P w K mg base "is_ratio" 4 ["value"] F_is_ratio) {f : Addr} {n : Nat} {cdv : Value} {A : Around} {outer : List Env} {s : Shared} {H : Hp} {E : XK} (hr : RoomG 4 (A.deeper (envOfC "check_ratio" (defScope s_check_ratio) s.heap.objs.size f cdv))) :
    DSs (cxOf (L2.CX P w) P w K mg base ["ratio"] "check_ratio" (defScope s_check_ratio) f cdv A outer s H E) (fun cls d _ H => E cls d H) (defBody s_check_ratio) (B_check_ratio n) := by
  have S := sc_check_ratio
  have tk : Takes (cxOf (L2.CX P w) P w K mg base ["ratio"] "check_ratio" (defScope s_check_ratio) f cdv A outer s H E) (fun cls d _ H => E cls d H) := takes_of rfl rfl rfl rfl
  have hu := hr.units
  have hu0 := hr.units0
  have hu1 := hu_of hr.room
  have hu2 := in1u hr
  exact dss_one (ds_if (dt_not (dt_val (dx_de (dx_has h_is_ratio hr (by decide) tk (by rfl) (dr_val (de_var (pv 0)) (dr_nil)))))) (dss_one (ds_never)) (dss_nil))
theorem d_depth_at (T : Txt K mg) (it_Quotient : HasIt P w K mg base "Quotient" "_pairs") {f : Addr} {n : Nat} {cdv : Value} {A : Around} {outer : List Env} {s : Shared} {H : Hp} {E : XK} (hr : RoomG 1 (A.deeper (envOfC "depth_at" (defScope s_depth_at) s.heap.objs.size f cdv))) :
    DSs (cxOf (L2.CX P w) P w K mg base ["row", "ratio", "member", "count"] "depth_at" (defScope s_depth_at) f cdv A outer s H E) (fun cls d _ H => E cls d H) (defBody s_depth_at) (B_depth_at n) := by
  have S := sc_depth_at
  have tk : Takes (cxOf (L2.CX P w) P w K mg base ["row", "ratio", "member", "count"] "depth_at" (defScope s_depth_at) f cdv A outer s H E) (fun cls d _ H => E cls d H) := takes_of rfl rfl rfl rfl
  have hu := hr.units
  have hu0 := hr.units0
  have hu1 := hu_of hr.room
  have hu2 := in1u hr
  exact dss_one (ds_ret (de_callB ((cr_sum rfl).or (call_sumT rfl)) (cas_or cas_sum cas_sumT) (by rfl) T.b_sum boot_sum (da_cons (do_val (de_fresh (df_lc (own := [("member", 2), ("count", 3)]) rfl S.nd (di_ownH it_Quotient hr (by decide) (de_var (pv 0))) (blkOk_by (by rfl)) rfl (by intro _ _ _ _ _; exact dg_tup rfl (dgs_cons (dg_name (i := 2) (pg_name (i := 2) S.nd rfl (.inl rfl))) (dgs_cons (dg_name (i := 3) (pg_name (i := 3) S.nd rfl (.inl rfl))) (dgs_nil)))) (by intro _ _ _ _ _; exact dts_nil) (by intro _ _ _ _ _; exact de_bin (op_mulW.or (op_rep.or op_repT)) (ops_or (ops_ic mul_ok) (ops_or ops_repL ops_repT)) (do_var (pv 3)) (do_val (de_bin op_fdivG (ops_ic fun _ _ h => cDiv_ok h) (do_val (de_bin (op_mulW.or (op_rep.or op_repT)) (ops_or (ops_ic mul_ok) (ops_or ops_repL ops_repT)) (do_var (pv 2)) (do_val (de_ix (do_var (pv 1)) (do_val (de_int)))))) (do_val (de_ix (do_var (pv 1)) (do_val (de_int)))))))))) (da_nil))))
theorem d_depth (T : Txt K mg) (h_check_row : Has P w K mg base "check_row" 1 ["row"] F_check_row) (h_check_ratio : Has P w K mg base "check_ratio" 5 ["ratio"] F_check_ratio) (h_depth_at : Has P w K mg base "depth_at" 2 ["row", "ratio"] F_depth_at) {f : Addr} {n : Nat} {cdv : Value} {A : Around} {outer : List Env} {s : Shared} {H : Hp} {E : XK} (hr : RoomG 5 (A.deeper (envOfC "depth" (defScope s_depth) s.heap.objs.size f cdv))) :
    DSs (cxOf (L2.CX P w) P w K mg base ["row", "ratio"] "depth" (defScope s_depth) f cdv A outer s H E) (fun cls d _ H => E cls d H) (defBody s_depth) (B_depth n) := by
  have S := sc_depth
  have tk : Takes (cxOf (L2.CX P w) P w K mg base ["row", "ratio"] "depth" (defScope s_depth) f cdv A outer s H E) (fun cls d _ H => E cls d H) := takes_of rfl rfl rfl rfl
  have hu := hr.units
  have hu0 := hr.units0
  have hu1 := hu_of hr.room
  have hu2 := in1u hr
  exact dss_cons (ds_expr (dx_de (dx_has h_check_row hr (by decide) tk (by rfl) (dr_val (de_var (pv 0)) (dr_nil)))))
    (dss_cons (ds_expr (dx_de (dx_has h_check_ratio hr (by decide) tk (by rfl) (dr_val (de_var (pv 1)) (dr_nil)))))
    (dss_cons (ds_if (dt_cmp op_lt ops_b0 (do_val (de_ix (do_var (pv 1)) (do_val (de_int)))) (do_val (de_int)) (nomark _)) (dss_one (ds_never)) (dss_nil))
    (dss_one (ds_ret (dx_de (dx_has h_depth_at hr (by decide) tk (by rfl) (dr_val (de_var (pv 0)) (dr_val (de_var (pv 1)) (dr_nil)))))))))
theorem d_check_number (T : Txt K mg) (h_is_between : Has P w K mg base "is_between" 3 ["value", "least", "most"] F_is_between) {f : Addr} {n : Nat} {cdv : Value} {A : Around} {outer : List Env} {s : Shared} {H : Hp} {E : XK} (hr : RoomG 3 (A.deeper (envOfC "check_number" (defScope s_check_number) s.heap.objs.size f cdv))) :
    DSs (cxOf (L2.CX P w) P w K mg base ["given", "least", "most"] "check_number" (defScope s_check_number) f cdv A outer s H E) (fun cls d _ H => E cls d H) (defBody s_check_number) (B_check_number n) := by
  have S := sc_check_number
  have tk : Takes (cxOf (L2.CX P w) P w K mg base ["given", "least", "most"] "check_number" (defScope s_check_number) f cdv A outer s H E) (fun cls d _ H => E cls d H) := takes_of rfl rfl rfl rfl
  have hu := hr.units
  have hu0 := hr.units0
  have hu1 := hu_of hr.room
  have hu2 := in1u hr
  exact dss_one (ds_if (dt_not (dt_val (dx_de (dx_has h_is_between hr (by decide) tk (by rfl) (dr_val (de_var (pv 0)) (dr_val (de_var (pv 1)) (dr_val (de_var (pv 2)) (dr_nil)))))))) (dss_one (ds_never)) (dss_nil))
theorem d_jump_of (T : Txt K mg) (it_Quotient : HasIt P w K mg base "Quotient" "_pairs") {f : Addr} {n : Nat} {cdv : Value} {A : Around} {outer : List Env} {s : Shared} {H : Hp} {E : XK} (hr : RoomG 1 (A.deeper (envOfC "jump_of" (defScope s_jump_of) s.heap.objs.size f cdv))) :
    DSs (cxOf (L2.CX P w) P w K mg base ["row", "number", "member", "count"] "jump_of" (defScope s_jump_of) f cdv A outer s H E) (fun cls d _ H => E cls d H) (defBody s_jump_of) (B_jump_of n) := by
  have S := sc_jump_of
  have tk : Takes (cxOf (L2.CX P w) P w K mg base ["row", "number", "member", "count"] "jump_of" (defScope s_jump_of) f cdv A outer s H E) (fun cls d _ H => E cls d H) := takes_of rfl rfl rfl rfl
  have hu := hr.units
  have hu0 := hr.units0
  have hu1 := hu_of hr.room
  have hu2 := in1u hr
  exact dss_one (ds_ret (de_callB ((cr_sum rfl).or (call_sumT rfl)) (cas_or cas_sum cas_sumT) (by rfl) T.b_sum boot_sum (da_cons (do_val (de_fresh (df_lc (own := [("member", 2), ("count", 3)]) rfl S.nd (di_ownH it_Quotient hr (by decide) (de_var (pv 0))) (blkOk_by (by rfl)) rfl (by intro _ _ _ _ _; exact dg_tup rfl (dgs_cons (dg_name (i := 2) (pg_name (i := 2) S.nd rfl (.inl rfl))) (dgs_cons (dg_name (i := 3) (pg_name (i := 3) S.nd rfl (.inl rfl))) (dgs_nil)))) (by intro _ _ _ _ _; exact dts_one (dt_cmp (((op_eqD hu).or (op_eqK hu2 hu0)).or (op_eqL hr.u80)) (ops_or (ops_or ops_eq1 ops_eqK) ops_eqL) (do_val (de_bin op_modN (ops_ic fun _ _ h => of_decide_eq_true h) (do_var (pv 2)) (do_var (pv 1)))) (do_val (de_int)) (nomark _))) (by intro _ _ _ _ _; exact de_var (pv 3))))) (da_nil))))
theorem d_jump (T : Txt K mg) (h_check_row : Has P w K mg base "check_row" 1 ["row"] F_check_row) (h_check_number : Has P w K mg base "check_number" 4 ["given", "least", "most"] F_check_number) (h_jump_of : Has P w K mg base "jump_of" 2 ["row", "number"] F_jump_of) {f : Addr} {n : Nat} {cdv : Value} {A : Around} {outer : List Env} {s : Shared} {H : Hp} {E : XK} (hr : RoomG 4 (A.deeper (envOfC "jump" (defScope s_jump) s.heap.objs.size f cdv))) :
    DSs (cxOf (L2.CX P w) P w K mg base ["row", "number"] "jump" (defScope s_jump) f cdv A outer s H E) (fun cls d _ H => E cls d H) (defBody s_jump) (B_jump n) := by
  have S := sc_jump
  have tk : Takes (cxOf (L2.CX P w) P w K mg base ["row", "number"] "jump" (defScope s_jump) f cdv A outer s H E) (fun cls d _ H => E cls d H) := takes_of rfl rfl rfl rfl
  have hu := hr.units
  have hu0 := hr.units0
  have hu1 := hu_of hr.room
  have hu2 := in1u hr
  exact dss_cons (ds_expr (dx_de (dx_has h_check_row hr (by decide) tk (by rfl) (dr_val (de_var (pv 0)) (dr_nil)))))
    (dss_cons (ds_expr (dx_de (dx_has h_check_number hr (by decide) tk (by rfl) (dr_val (de_var (pv 1)) (dr_val (de_int) (dr_val (de_gint (by rfl) T.c_MAX_COMMON.choose_spec) (dr_nil)))))))
    (dss_one (ds_ret (dx_de (dx_has h_jump_of hr (by decide) tk (by rfl) (dr_val (de_var (pv 0)) (dr_val (de_var (pv 1)) (dr_nil))))))))
theorem d_q_grab (T : Txt K mg)  {f : Addr} {n : Nat} {cdv : Value} {A : Around} {outer : List Env} {s : Shared} {H : Hp} {E : XK} (hr : RoomG 0 (A.deeper (envOfC "_law_grab" (defScope s_q_grab) s.heap.objs.size f cdv))) :
    DSs (cxOf (L2.CX P w) P w K mg base ["_law_bag_here", "_law_total", "_law_found", "_law_one", "_law_two"] "_law_grab" (defScope s_q_grab) f cdv A outer s H E) (fun cls d _ H => E cls d H) (defBody s_q_grab) (B_q_grab n) := by
  have S := sc_q_grab
  have tk : Takes (cxOf (L2.CX P w) P w K mg base ["_law_bag_here", "_law_total", "_law_found", "_law_one", "_law_two"] "_law_grab" (defScope s_q_grab) f cdv A outer s H E) (fun cls d _ H => E cls d H) := takes_of rfl rfl rfl rfl
  have hu := hr.units
  have hu0 := hr.units0
  have hu1 := hu_of hr.room
  have hu2 := in1u hr
  exact dss_cons (ds_if (dt_cmp op_gt ops_b0 (do_val (de_ix (do_var (pv 0)) (do_val (de_int)))) (do_val (de_int)) (nomark _)) (dss_cons (ds_set (i := 2) S.nd rfl (.inl rfl) (de_bin op_modN (ops_ic fun _ _ h => of_decide_eq_true h) (do_val (de_callTy call_int1 cas_int (by rfl) T.b_int boot_int (da_cons (do_val (de_ix (do_var (pv 0)) (do_val (de_int)))) (da_nil)))) (do_var (pv 1))))
    (dss_cons (ds_seti (pv 0) (de_int) (de_bin op_fdivG (ops_ic fun _ _ h => cDiv_ok h) (do_val (de_ix (do_var (pv 0)) (do_val (de_int)))) (do_var (pv 1))))
    (dss_one (ds_retV (pv 2))))) (dss_nil))
    (dss_cons (ds_seti (pv 0) (de_int) (de_bin (op_add.or (op_cat.or op_catA)) (ops_or ops_i0 (ops_or ops_catL ops_catT)) (do_val (de_ix (do_var (pv 0)) (do_val (de_int)))) (do_val (de_int))))
    (dss_cons (ds_set (i := 3) S.nd rfl (.inl rfl) (de_bin op_modN (ops_ic fun _ _ h => of_decide_eq_true h) (do_val (de_callTy call_int1 cas_int (by rfl) T.b_int boot_int (da_cons (do_val (de_bin (op_add.or (op_cat.or op_catA)) (ops_or ops_i0 (ops_or ops_catL ops_catT)) (do_val (de_ix (do_var (pv 0)) (do_val (de_int)))) (do_val (de_bin (op_mulW.or (op_rep.or op_repT)) (ops_or (ops_ic mul_ok) (ops_or ops_repL ops_repT)) (do_val (de_int)) (do_val (de_ix (do_var (pv 0)) (do_val (de_int)))))))) (da_nil)))) (do_val (de_int))))
    (dss_cons (ds_set (i := 4) S.nd rfl (.inl rfl) (de_bin (op_add.or (op_cat.or op_catA)) (ops_or ops_i0 (ops_or ops_catL ops_catT)) (do_val (de_bin (op_mulW.or (op_rep.or op_repT)) (ops_or (ops_ic mul_ok) (ops_or ops_repL ops_repT)) (do_val (de_bin op_modN (ops_ic fun _ _ h => of_decide_eq_true h) (do_val (de_callTy call_int1 cas_int (by rfl) T.b_int boot_int (da_cons (do_val (de_bin (op_mulW.or (op_rep.or op_repT)) (ops_or (ops_ic mul_ok) (ops_or ops_repL ops_repT)) (do_var (pv 3)) (do_var (pv 3)))) (da_nil)))) (do_val (de_int)))) (do_var (pv 3)))) (do_val (de_bin (op_mulW.or (op_rep.or op_repT)) (ops_or (ops_ic mul_ok) (ops_or ops_repL ops_repT)) (do_val (de_int)) (do_val (de_ix (do_var (pv 0)) (do_val (de_int))))))))
    (dss_one (ds_ret (de_bin op_modN (ops_ic fun _ _ h => of_decide_eq_true h) (do_val (de_callTy call_int1 cas_int (by rfl) T.b_int boot_int (da_cons (do_val (de_bin op_fdivG (ops_ic fun _ _ h => cDiv_ok h) (do_val (de_bin op_modN (ops_ic fun _ _ h => of_decide_eq_true h) (do_val (de_callTy call_int1 cas_int (by rfl) T.b_int boot_int (da_cons (do_var (pv 4)) (da_nil)))) (do_val (de_int)))) (do_val (de_int)))) (da_nil)))) (do_var (pv 1))))))))
theorem d_q_one_of (T : Txt K mg) (h_q_grab : Has P w K mg base "_law_grab" 1 ["_law_bag_here", "_law_total"] F_q_grab) {f : Addr} {n : Nat} {cdv : Value} {A : Around} {outer : List Env} {s : Shared} {H : Hp} {E : XK} (hr : RoomG 1 (A.deeper (envOfC "_law_one_of" (defScope s_q_one_of) s.heap.objs.size f cdv))) :
    DSs (cxOf (L2.CX P w) P w K mg base ["_law_bag_here", "_law_items"] "_law_one_of" (defScope s_q_one_of) f cdv A outer s H E) (fun cls d _ H => E cls d H) (defBody s_q_one_of) (B_q_one_of n) := by
  have S := sc_q_one_of
  have tk : Takes (cxOf (L2.CX P w) P w K mg base ["_law_bag_here", "_law_items"] "_law_one_of" (defScope s_q_one_of) f cdv A outer s H E) (fun cls d _ H => E cls d H) := takes_of rfl rfl rfl rfl
  have hu := hr.units
  have hu0 := hr.units0
  have hu1 := hu_of hr.room
  have hu2 := in1u hr
  exact dss_one (ds_ret (de_ix (do_var (pv 1)) (do_val (dx_de (dx_has h_q_grab hr (by decide) tk (by rfl) (dr_io (pv 0) (dr_val (de_callB call_len_seq cas_len (by rfl) T.b_len PySem.boot_len (da_cons (do_var (pv 1)) (da_nil))) (dr_nil))))))))
theorem d_q_told_balanced (T : Txt K mg) (h_q_grab : Has P w K mg base "_law_grab" 1 ["_law_bag_here", "_law_total"] F_q_grab) (h_q_one_of : Has P w K mg base "_law_one_of" 2 ["_law_bag_here", "_law_items"] F_q_one_of) {f : Addr} {n : Nat} {cdv : Value} {A : Around} {outer : List Env} {s : Shared} {H : Hp} {E : XK} (hr : RoomG 2 (A.deeper (envOfC "_law_told_balanced" (defScope s_q_told_balanced) s.heap.objs.size f cdv))) :
    DSs (cxOf (L2.CX P w) P w K mg base ["_law_bag_here", "_law_way", "_law_a", "_law_b", "_law_apart", "_law_turn", "_law_pieces", "_law_some", "_law_gap", "_law_found", "_law_one"] "_law_told_balanced" (defScope s_q_told_balanced) f cdv A outer s H E) (fun cls d _ H => E cls d H) (defBody s_q_told_balanced) (B_q_told_balanced n) := by
  have S := sc_q_told_balanced
  have tk : Takes (cxOf (L2.CX P w) P w K mg base ["_law_bag_here", "_law_way", "_law_a", "_law_b", "_law_apart", "_law_turn", "_law_pieces", "_law_some", "_law_gap", "_law_found", "_law_one"] "_law_told_balanced" (defScope s_q_told_balanced) f cdv A outer s H E) (fun cls d _ H => E cls d H) := takes_of rfl rfl rfl rfl
  have hu := hr.units
  have hu0 := hr.units0
  have hu1 := hu_of hr.room
  have hu2 := in1u hr
  exact dss_cons (ds_parX3 rfl S.nd rfl rfl rfl (by decide) (by decide) (by decide) (by rfl) (by rfl) (by rfl) (xs_val (dx_de (dx_has h_q_grab hr (by decide) tk (by rfl) (dr_io (pv 0) (dr_val (de_int) (dr_nil))))) (xs_val (de_bin (op_add.or (op_cat.or op_catA)) (ops_or ops_i0 (ops_or ops_catL ops_catT)) (do_val (de_int)) (do_val (dx_de (dx_has h_q_grab hr (by decide) tk (by rfl) (dr_io (pv 0) (dr_val (de_int) (dr_nil))))))) (xs_val (de_bin (op_add.or (op_cat.or op_catA)) (ops_or ops_i0 (ops_or ops_catL ops_catT)) (do_val (de_int)) (do_val (dx_de (dx_has h_q_grab hr (by decide) tk (by rfl) (dr_io (pv 0) (dr_val (de_int) (dr_nil))))))) (xs_nil)))) (by rfl))
    (dss_cons (ds_if (dt_cmp op_lt ops_b0 (do_var (pv 1)) (do_val (de_int)) (nomark _)) (dss_one (ds_ret (de_tup (dv_cons (de_tup (dv_cons (de_bin (op_add.or (op_cat.or op_catA)) (ops_or ops_i0 (ops_or ops_catL ops_catT)) (do_var (pv 2)) (do_var (pv 3))) (dv_nil))) (dv_cons (de_tup (dv_cons (de_var (pv 2)) (dv_cons (de_var (pv 3)) (dv_nil)))) (dv_nil)))))) (dss_nil))
    (dss_cons (ds_if (dt_cmp (((op_eqD hu).or (op_eqK hu2 hu0)).or (op_eqL hr.u80)) (ops_or (ops_or ops_eq1 ops_eqK) ops_eqL) (do_var (pv 1)) (do_val (de_int)) (nomark _)) (dss_one (ds_ret (de_tup (dv_cons (de_tup (dv_cons (de_bin (op_mulW.or (op_rep.or op_repT)) (ops_or (ops_ic mul_ok) (ops_or ops_repL ops_repT)) (do_val (de_int)) (do_val (de_bin (op_add.or (op_cat.or op_catA)) (ops_or ops_i0 (ops_or ops_catL ops_catT)) (do_var (pv 2)) (do_var (pv 3))))) (dv_cons (de_var (pv 3)) (dv_nil)))) (dv_cons (de_tup (dv_cons (de_bin (op_add.or (op_cat.or op_catA)) (ops_or ops_i0 (ops_or ops_catL ops_catT)) (do_var (pv 2)) (do_var (pv 3))) (dv_cons (de_bin (op_mulW.or (op_rep.or op_repT)) (ops_or (ops_ic mul_ok) (ops_or ops_repL ops_repT)) (do_val (de_int)) (do_var (pv 3))) (dv_cons (de_var (pv 2)) (dv_nil))))) (dv_nil)))))) (dss_nil))
    (dss_cons (ds_if (dt_cmp (((op_eqD hu).or (op_eqK hu2 hu0)).or (op_eqL hr.u80)) (ops_or (ops_or ops_eq1 ops_eqK) ops_eqL) (do_var (pv 1)) (do_val (de_int)) (nomark _)) (dss_one (ds_ret (de_tup (dv_cons (de_tup (dv_cons (de_bin (op_mulW.or (op_rep.or op_repT)) (ops_or (ops_ic mul_ok) (ops_or ops_repL ops_repT)) (do_val (de_int)) (do_var (pv 2))) (dv_cons (de_bin (op_mulW.or (op_rep.or op_repT)) (ops_or (ops_ic mul_ok) (ops_or ops_repL ops_repT)) (do_val (de_int)) (do_var (pv 3))) (dv_nil)))) (dv_cons (de_tup (dv_cons (de_var (pv 2)) (dv_cons (de_var (pv 3)) (dv_cons (de_bin (op_add.or (op_cat.or op_catA)) (ops_or ops_i0 (ops_or ops_catL ops_catT)) (do_var (pv 2)) (do_var (pv 3))) (dv_nil))))) (dv_nil)))))) (dss_nil))
    (dss_cons (ds_if (dt_cmp (((op_eqD hu).or (op_eqK hu2 hu0)).or (op_eqL hr.u80)) (ops_or (ops_or ops_eq1 ops_eqK) ops_eqL) (do_var (pv 1)) (do_val (de_int)) (nomark _)) (dss_cons (ds_set (i := 4) S.nd rfl (.inl rfl) (de_fresh (df_lst (dv_cons (de_tup (dv_cons (de_tup (dv_cons (de_int) (dv_cons (de_int) (dv_nil)))) (dv_cons (de_tup (dv_cons (de_int) (dv_cons (de_int) (dv_cons (de_int) (dv_nil))))) (dv_nil)))) (dv_cons (de_tup (dv_cons (de_tup (dv_cons (de_int) (dv_cons (de_int) (dv_nil)))) (dv_cons (de_tup (dv_cons (de_int) (dv_cons (de_int) (dv_cons (de_int) (dv_nil))))) (dv_nil)))) (dv_cons (de_tup (dv_cons (de_tup (dv_cons (de_int) (dv_cons (de_int) (dv_nil)))) (dv_cons (de_tup (dv_cons (de_int) (dv_cons (de_int) (dv_cons (de_int) (dv_nil))))) (dv_nil)))) (dv_cons (de_tup (dv_cons (de_tup (dv_cons (de_int) (dv_cons (de_int) (dv_nil)))) (dv_cons (de_tup (dv_cons (de_int) (dv_cons (de_int) (dv_cons (de_int) (dv_nil))))) (dv_nil)))) (dv_cons (de_tup (dv_cons (de_tup (dv_cons (de_int) (dv_cons (de_int) (dv_nil)))) (dv_cons (de_tup (dv_cons (de_int) (dv_cons (de_int) (dv_cons (de_int) (dv_nil))))) (dv_nil)))) (dv_nil)))))))))
    (dss_one (ds_ret (dx_de (dx_has h_q_one_of hr (by decide) tk (by rfl) (dr_io (pv 0) (dr_val (de_var (pv 4)) (dr_nil)))))))) (dss_nil))
    (dss_cons (ds_if (dt_cmp (((op_eqD hu).or (op_eqK hu2 hu0)).or (op_eqL hr.u80)) (ops_or (ops_or ops_eq1 ops_eqK) ops_eqL) (do_var (pv 1)) (do_val (de_int)) (nomark _)) (dss_cons (ds_setLc (i := 6) (own := [("_law_turn", 5)]) rfl S.nd rfl rfl rfl (di_rng1 (by rfl) T.b_range (dv_cons (de_bin (op_add.or (op_cat.or op_catA)) (ops_or ops_i0 (ops_or ops_catL ops_catT)) (do_val (de_int)) (do_val (dx_de (dx_has h_q_grab hr (by decide) tk (by rfl) (dr_io (pv 0) (dr_val (de_int) (dr_nil))))))) (dv_nil))) (blkOk_by (by rfl)) rfl (by intro _ _ _ _ _; exact dg_name (i := 5) (pg_name (i := 5) S.nd rfl (.inl rfl))) (by intro _ _ _ _ _; exact dts_nil) (by intro _ _ _ _ _; exact de_bin (op_add.or (op_cat.or op_catA)) (ops_or ops_i0 (ops_or ops_catL ops_catT)) (do_val (de_int)) (do_val (dx_de (dx_hasN h_q_grab hr (by decide) (by rfl) (dr_io (pv 0) (dr_val (de_int) (dr_nil))))))))
    (dss_one (ds_ret (de_tup (dv_cons (de_tup (dv_cons (de_callB ((cr_sum rfl).or (call_sumT rfl)) (cas_or cas_sum cas_sumT) (by rfl) T.b_sum boot_sum (da_cons (do_var (pv 6)) (da_nil))) (dv_nil))) (dv_cons (de_callTy call_tuple_of cas_tup (by rfl) T.b_tuple boot_tuple (da_cons (do_var (pv 6)) (da_nil))) (dv_nil))))))) (dss_nil))
    (dss_cons (ds_if (dt_cmp (((op_eqD hu).or (op_eqK hu2 hu0)).or (op_eqL hr.u80)) (ops_or (ops_or ops_eq1 ops_eqK) ops_eqL) (do_var (pv 1)) (do_val (de_int)) (nomark _)) (dss_one (ds_ret (de_tup (dv_cons (de_tup (dv_cons (de_bin (op_add.or (op_cat.or op_catA)) (ops_or ops_i0 (ops_or ops_catL ops_catT)) (do_var (pv 2)) (do_var (pv 3))) (dv_cons (de_bin (op_mulW.or (op_rep.or op_repT)) (ops_or (ops_ic mul_ok) (ops_or ops_repL ops_repT)) (do_val (de_int)) (do_var (pv 3))) (dv_nil)))) (dv_cons (de_tup (dv_cons (de_var (pv 2)) (dv_cons (de_var (pv 3)) (dv_cons (de_var (pv 3)) (dv_cons (de_var (pv 3)) (dv_nil)))))) (dv_nil)))))) (dss_nil))
    (dss_cons (ds_setLc (i := 7) (own := [("_law_turn", 5)]) rfl S.nd rfl rfl rfl (di_rng1 (by rfl) T.b_range (dv_cons (de_bin (op_add.or (op_cat.or op_catA)) (ops_or ops_i0 (ops_or ops_catL ops_catT)) (do_val (de_int)) (do_val (dx_de (dx_has h_q_grab hr (by decide) tk (by rfl) (dr_io (pv 0) (dr_val (de_int) (dr_nil))))))) (dv_nil))) (blkOk_by (by rfl)) rfl (by intro _ _ _ _ _; exact dg_name (i := 5) (pg_name (i := 5) S.nd rfl (.inl rfl))) (by intro _ _ _ _ _; exact dts_nil) (by intro _ _ _ _ _; exact de_bin (op_add.or (op_cat.or op_catA)) (ops_or ops_i0 (ops_or ops_catL ops_catT)) (do_val (de_int)) (do_val (dx_de (dx_hasN h_q_grab hr (by decide) (by rfl) (dr_io (pv 0) (dr_val (de_int) (dr_nil))))))))
    (dss_cons (ds_par rfl S.nd rfl rfl (by decide) (by rfl) (by rfl) (dv_cons (de_callB ((cr_sum rfl).or (call_sumT rfl)) (cas_or cas_sum cas_sumT) (by rfl) T.b_sum boot_sum (da_cons (do_var (pv 7)) (da_nil))) (dv_cons (de_fresh (df_lst (dv_nil))) (dv_nil))) (by rfl))
    (dss_cons (ds_for (passes_of rfl) rfl (di_rng1 (by rfl) T.b_range (dv_cons (de_int) (dv_nil))) (dg_name (i := 5) (pg_name (i := 5) S.nd rfl (.inl rfl))) (dss_cons (ds_set (i := 10) S.nd rfl (.inl rfl) (de_callB ((call_min2 rfl).or (call_minS rfl hr.units)) (cas_or cas_min2 cas_minS) (by rfl) T.b_min boot_min (da_cons (do_var (pv 8)) (da_cons (do_val (de_bin (op_add.or (op_cat.or op_catA)) (ops_or ops_i0 (ops_or ops_catL ops_catT)) (do_val (de_int)) (do_val (dx_de (dx_has h_q_grab hr (by decide) tk (by rfl) (dr_io (pv 0) (dr_val (de_int) (dr_nil)))))))) (da_nil)))))
    (dss_one (ds_par rfl S.nd rfl rfl (by decide) (by rfl) (by rfl) (dv_cons (de_bin (op_add.or (op_cat.or op_catA)) (ops_or ops_i0 (ops_or ops_catL ops_catT)) (do_var (pv 9)) (do_val (de_ifExp (dt_cmp op_gt ops_b0 (do_var (pv 10)) (do_val (de_int)) (nomark _)) (de_fresh (df_lst (dv_cons (de_var (pv 10)) (dv_nil)))) (de_fresh (df_lst (dv_nil)))))) (dv_cons (de_bin op_sub ops_i0 (do_var (pv 8)) (do_var (pv 10))) (dv_nil))) (by rfl)))))
    (dss_one (ds_ret (de_tup (dv_cons (de_callTy call_tuple_of cas_tup (by rfl) T.b_tuple boot_tuple (da_cons (do_var (pv 7)) (da_nil))) (dv_cons (de_callTy call_tuple_of cas_tup (by rfl) T.b_tuple boot_tuple (da_cons (do_val (de_bin (op_add.or (op_cat.or op_catA)) (ops_or ops_i0 (ops_or ops_catL ops_catT)) (do_var (pv 9)) (do_val (de_ifExp (dt_cmp op_gt ops_b0 (do_var (pv 8)) (do_val (de_int)) (nomark _)) (de_fresh (df_lst (dv_cons (de_var (pv 8)) (dv_nil)))) (de_fresh (df_lst (dv_nil))))))) (da_nil))) (dv_nil)))))))))))))))
theorem d_q_without_shared (T : Txt K mg)  {f : Addr} {n : Nat} {cdv : Value} {A : Around} {outer : List Env} {s : Shared} {H : Hp} {E : XK} (hr : RoomG 0 (A.deeper (envOfC "_law_without_shared" (defScope s_q_without_shared) s.heap.objs.size f cdv))) :
    DSs (cxOf (L2.CX P w) P w K mg base ["_law_tops", "_law_bottoms", "_law_left", "_law_found", "_law_top"] "_law_without_shared" (defScope s_q_without_shared) f cdv A outer s H E) (fun cls d _ H => E cls d H) (defBody s_q_without_shared) (B_q_without_shared n) := by
  have S := sc_q_without_shared
  have tk : Takes (cxOf (L2.CX P w) P w K mg base ["_law_tops", "_law_bottoms", "_law_left", "_law_found", "_law_top"] "_law_without_shared" (defScope s_q_without_shared) f cdv A outer s H E) (fun cls d _ H => E cls d H) := takes_of rfl rfl rfl rfl
  have hu := hr.units
  have hu0 := hr.units0
  have hu1 := hu_of hr.room
  have hu2 := in1u hr
  exact dss_cons (ds_parX rfl S.nd rfl rfl (by decide) (by rfl) (by rfl) (xs_fr (df_list (by rfl) T.b_list (do_var (pv 1))) (xs_fr (df_lst (dv_nil)) (xs_nil))) (by rfl))
    (dss_cons (ds_for (passes_of rfl) rfl (di_seq (de_var (pv 0))) (dg_name (i := 4) (pg_name (i := 4) S.nd rfl (.inl rfl))) (dss_one (ds_if (dt_cmp op_in_seq ops_inS (do_var (pv 4)) (do_var (pv 2)) (by with_unfolding_all rfl)) (dss_one (ds_rem (pv 2) (de_var (pv 4)))) (dss_one (ds_app (pv 3) (de_var (pv 4)))))))
    (dss_one (ds_ret (de_tup (dv_cons (de_callTy call_tuple_of cas_tup (by rfl) T.b_tuple boot_tuple (da_cons (do_val (de_fresh (df_rev (do_val (de_fresh (df_sorted rfl (by rfl) T.b_sorted (do_var (pv 3)))))))) (da_nil))) (dv_cons (de_callTy call_tuple_of cas_tup (by rfl) T.b_tuple boot_tuple (da_cons (do_val (de_fresh (df_rev (do_val (de_fresh (df_sorted rfl (by rfl) T.b_sorted (do_var (pv 2)))))))) (da_nil))) (dv_nil)))))))
theorem d_q_common (T : Txt K mg)  {f : Addr} {n : Nat} {cdv : Value} {A : Around} {outer : List Env} {s : Shared} {H : Hp} {E : XK} (hr : RoomG 0 (A.deeper (envOfC "_law_common" (defScope s_q_common) s.heap.objs.size f cdv))) :
    DSs (cxOf (L2.CX P w) P w K mg base ["_law_numbers", "_law_found", "_law_number", "_law_one", "_law_other"] "_law_common" (defScope s_q_common) f cdv A outer s H E) (fun cls d _ H => E cls d H) (defBody s_q_common) (B_q_common n) := by
  have S := sc_q_common
  have tk : Takes (cxOf (L2.CX P w) P w K mg base ["_law_numbers", "_law_found", "_law_number", "_law_one", "_law_other"] "_law_common" (defScope s_q_common) f cdv A outer s H E) (fun cls d _ H => E cls d H) := takes_of rfl rfl rfl rfl
  have hu := hr.units
  have hu0 := hr.units0
  have hu1 := hu_of hr.room
  have hu2 := in1u hr
  exact dss_cons (ds_set (i := 1) S.nd rfl (.inl rfl) (de_int))
    (dss_cons (ds_for (passes_of rfl) rfl (di_seq (de_var (pv 0))) (dg_name (i := 2) (pg_name (i := 2) S.nd rfl (.inl rfl))) (dss_cons (ds_par rfl S.nd rfl rfl (by decide) (by rfl) (by rfl) (dv_cons (de_var (pv 1)) (dv_cons (de_callB call_abs cas_abs (by rfl) T.b_abs boot_abs (da_cons (do_var (pv 2)) (da_nil))) (dv_nil))) (by rfl))
    (dss_cons (ds_while n (passes_of rfl) (dt_cmp (((op_neD hu).or (op_neK hu2 hu0)).or (op_neL hr.u80)) (ops_or (ops_or ops_ne1 ops_neK) ops_neL) (do_var (pv 4)) (do_val (de_int)) (nomark _)) (dss_one (ds_par rfl S.nd rfl rfl (by decide) (by rfl) (by rfl) (dv_cons (de_var (pv 4)) (dv_cons (de_bin op_modN (ops_ic fun _ _ h => of_decide_eq_true h) (do_val (de_callTy call_int1 cas_int (by rfl) T.b_int boot_int (da_cons (do_var (pv 3)) (da_nil)))) (do_var (pv 4))) (dv_nil))) (by rfl))))
    (dss_one (ds_set (i := 1) S.nd rfl (.inl rfl) (de_var (pv 3)))))))
    (dss_one (ds_retV (pv 1))))
theorem d_q_multiple (T : Txt K mg) (h_q_common : Has P w K mg base "_law_common" 1 ["_law_numbers"] F_q_common) {f : Addr} {n : Nat} {cdv : Value} {A : Around} {outer : List Env} {s : Shared} {H : Hp} {E : XK} (hr : RoomG 1 (A.deeper (envOfC "_law_multiple" (defScope s_q_multiple) s.heap.objs.size f cdv))) :
    DSs (cxOf (L2.CX P w) P w K mg base ["_law_numbers", "_law_found", "_law_number"] "_law_multiple" (defScope s_q_multiple) f cdv A outer s H E) (fun cls d _ H => E cls d H) (defBody s_q_multiple) (B_q_multiple n) := by
  have S := sc_q_multiple
  have tk : Takes (cxOf (L2.CX P w) P w K mg base ["_law_numbers", "_law_found", "_law_number"] "_law_multiple" (defScope s_q_multiple) f cdv A outer s H E) (fun cls d _ H => E cls d H) := takes_of rfl rfl rfl rfl
  have hu := hr.units
  have hu0 := hr.units0
  have hu1 := hu_of hr.room
  have hu2 := in1u hr
  exact dss_cons (ds_set (i := 1) S.nd rfl (.inl rfl) (de_int))
    (dss_cons (ds_for (passes_of rfl) rfl (di_seq (de_var (pv 0))) (dg_name (i := 2) (pg_name (i := 2) S.nd rfl (.inl rfl))) (dss_one (ds_set (i := 1) S.nd rfl (.inl rfl) (de_bin (op_mulW.or (op_rep.or op_repT)) (ops_or (ops_ic mul_ok) (ops_or ops_repL ops_repT)) (do_var (pv 1)) (do_val (de_bin op_fdivG (ops_ic fun _ _ h => cDiv_ok h) (do_var (pv 2)) (do_val (dx_de (dx_has h_q_common hr (by decide) tk (by rfl) (dr_val (de_fresh (df_lst (dv_cons (de_var (pv 1)) (dv_cons (de_var (pv 2)) (dv_nil))))) (dr_nil)))))))))))
    (dss_one (ds_retV (pv 1))))
theorem d_q_is_row_let (T : Txt K mg) (h_q_multiple : Has P w K mg base "_law_multiple" 2 ["_law_numbers"] F_q_multiple) {f : Addr} {n : Nat} {cdv : Value} {A : Around} {outer : List Env} {s : Shared} {H : Hp} {E : XK} (hr : RoomG 2 (A.deeper (envOfC "_law_is_row_let" (defScope s_q_is_row_let) s.heap.objs.size f cdv))) :
    DSs (cxOf (L2.CX P w) P w K mg base ["_law_tops", "_law_bottoms", "_law_members"] "_law_is_row_let" (defScope s_q_is_row_let) f cdv A outer s H E) (fun cls d _ H => E cls d H) (defBody s_q_is_row_let) (B_q_is_row_let n) := by
  have S := sc_q_is_row_let
  have tk : Takes (cxOf (L2.CX P w) P w K mg base ["_law_tops", "_law_bottoms", "_law_members"] "_law_is_row_let" (defScope s_q_is_row_let) f cdv A outer s H E) (fun cls d _ H => E cls d H) := takes_of rfl rfl rfl rfl
  have hu := hr.units
  have hu0 := hr.units0
  have hu1 := hu_of hr.room
  have hu2 := in1u hr
  exact dss_cons (ds_set (i := 2) S.nd rfl (.inl rfl) (de_bin (op_add.or (op_cat.or op_catA)) (ops_or ops_i0 (ops_or ops_catL ops_catT)) (do_val (de_callTy call_tuple_of cas_tup (by rfl) T.b_tuple boot_tuple (da_cons (do_var (pv 0)) (da_nil)))) (do_val (de_callTy call_tuple_of cas_tup (by rfl) T.b_tuple boot_tuple (da_cons (do_var (pv 1)) (da_nil))))))
    (dss_cons (ds_if (dt_bool (dw_or (dt_cmp (((op_eqD hu).or (op_eqK hu2 hu0)).or (op_eqL hr.u80)) (ops_or (ops_or ops_eq1 ops_eqK) ops_eqL) (do_var (pv 2)) (do_val (de_tup (dv_nil))) (nomark _)) (dw_or (dt_cmp op_gt ops_b0 (do_val (de_callB ((call_max2 rfl).or (call_maxS rfl hr.units)) (cas_or cas_max2 cas_maxS) (by rfl) T.b_max boot_max (da_cons (do_val (de_callB call_len_seq cas_len (by rfl) T.b_len PySem.boot_len (da_cons (do_var (pv 0)) (da_nil)))) (da_cons (do_val (de_callB call_len_seq cas_len (by rfl) T.b_len PySem.boot_len (da_cons (do_var (pv 1)) (da_nil)))) (da_nil))))) (do_val (de_int)) (nomark _)) (dw_or (dt_cmp op_gt ops_b0 (do_val (de_callB ((call_max2 rfl).or (call_maxS rfl hr.units)) (cas_or cas_max2 cas_maxS) (by rfl) T.b_max boot_max (da_cons (do_var (pv 2)) (da_nil)))) (do_val (de_int)) (nomark _)) (dw_or1 (dt_cmp op_lt ops_b0 (do_val (de_callB ((call_min2 rfl).or (call_minS rfl hr.units)) (cas_or cas_min2 cas_minS) (by rfl) T.b_min boot_min (da_cons (do_var (pv 2)) (da_nil)))) (do_val (de_int)) (nomark _))))))) (dss_one (ds_ret (de_bl))) (dss_nil))
    (dss_one (ds_ret (de_cmp op_le ops_b0 (do_val (dx_de (dx_has h_q_multiple hr (by decide) tk (by rfl) (dr_val (de_var (pv 2)) (dr_nil))))) (do_val (de_int)) (nomark _)))))
theorem d_q_any_balanced (T : Txt K mg) (h_q_one_of : Has P w K mg base "_law_one_of" 2 ["_law_bag_here", "_law_items"] F_q_one_of) (h_q_told_balanced : Has P w K mg base "_law_told_balanced" 3 ["_law_bag_here"] F_q_told_balanced) (h_q_without_shared : Has P w K mg base "_law_without_shared" 1 ["_law_tops", "_law_bottoms"] F_q_without_shared) (h_q_grab : Has P w K mg base "_law_grab" 1 ["_law_bag_here", "_law_total"] F_q_grab) (h_q_is_row_let : Has P w K mg base "_law_is_row_let" 3 ["_law_tops", "_law_bottoms"] F_q_is_row_let) {f : Addr} {n : Nat} {cdv : Value} {A : Around} {outer : List Env} {s : Shared} {H : Hp} {E : XK} (hr : RoomG 3 (A.deeper (envOfC "_law_any_balanced" (defScope s_q_any_balanced) s.heap.objs.size f cdv))) :
    DSs (cxOf (L2.CX P w) P w K mg base ["_law_bag_here", "_law_many", "_law_tops", "_law_bottoms", "_law_one", "_law_more"] "_law_any_balanced" (defScope s_q_any_balanced) f cdv A outer s H E) (fun cls d _ H => E cls d H) (defBody s_q_any_balanced) (B_q_any_balanced n) := by
  have S := sc_q_any_balanced
  have tk : Takes (cxOf (L2.CX P w) P w K mg base ["_law_bag_here", "_law_many", "_law_tops", "_law_bottoms", "_law_one", "_law_more"] "_law_any_balanced" (defScope s_q_any_balanced) f cdv A outer s H E) (fun cls d _ H => E cls d H) := takes_of rfl rfl rfl rfl
  have hu := hr.units
  have hu0 := hr.units0
  have hu1 := hu_of hr.room
  have hu2 := in1u hr
  exact dss_cons (ds_set (i := 1) S.nd rfl (.inr rfl) (dx_de (dx_has h_q_one_of hr (by decide) tk (by rfl) (dr_io (pv 0) (dr_val (de_fresh (df_lst (dv_cons (de_int) (dv_cons (de_int) (dv_cons (de_int) (dv_cons (de_int) (dv_cons (de_int) (dv_nil)))))))) (dr_nil))))))
    (dss_cons (ds_asg (dx_de (dx_has h_q_told_balanced hr (by decide) tk (by rfl) (dr_io (pv 0) (dr_nil)))) (dg_tup rfl (dgs_cons (dg_name (i := 2) (pg_name (i := 2) S.nd rfl (.inl rfl))) (dgs_cons (dg_name (i := 3) (pg_name (i := 3) S.nd rfl (.inl rfl))) (dgs_nil)))))
    (dss_cons (ds_par rfl S.nd rfl rfl (by decide) (by rfl) (by rfl) (dv_cons (de_fresh (df_lc (own := [("_law_one", 4)]) rfl S.nd (di_seq (de_var (pv 2))) (blkOk_by (by rfl)) rfl (by intro _ _ _ _ _; exact dg_name (i := 4) (pg_name (i := 4) S.nd rfl (.inl rfl))) (by intro _ _ _ _ _; exact dts_nil) (by intro _ _ _ _ _; exact de_bin (op_mulW.or (op_rep.or op_repT)) (ops_or (ops_ic mul_ok) (ops_or ops_repL ops_repT)) (do_var (pv 1)) (do_var (pv 4))))) (dv_cons (de_fresh (df_lc (own := [("_law_one", 4)]) rfl S.nd (di_seq (de_var (pv 3))) (blkOk_by (by rfl)) rfl (by intro _ _ _ _ _; exact dg_name (i := 4) (pg_name (i := 4) S.nd rfl (.inl rfl))) (by intro _ _ _ _ _; exact dts_nil) (by intro _ _ _ _ _; exact de_bin (op_mulW.or (op_rep.or op_repT)) (ops_or (ops_ic mul_ok) (ops_or ops_repL ops_repT)) (do_var (pv 1)) (do_var (pv 4))))) (dv_nil))) (by rfl))
    (dss_cons (ds_if (dt_cmp (((op_eqD hu).or (op_eqK hu2 hu0)).or (op_eqL hr.u80)) (ops_or (ops_or ops_eq1 ops_eqK) ops_eqL) (do_val (dx_de (dx_has h_q_grab hr (by decide) tk (by rfl) (dr_io (pv 0) (dr_val (de_int) (dr_nil)))))) (do_val (de_int)) (nomark _)) (dss_cons (ds_set (i := 5) S.nd rfl (.inl rfl) (dx_de (dx_has h_q_told_balanced hr (by decide) tk (by rfl) (dr_io (pv 0) (dr_nil)))))
    (dss_one (ds_par rfl S.nd rfl rfl (by decide) (by rfl) (by rfl) (dv_cons (de_bin (op_add.or (op_cat.or op_catA)) (ops_or ops_i0 (ops_or ops_catL ops_catT)) (do_var (pv 2)) (do_val (de_fresh (df_list (by rfl) T.b_list (do_val (de_ix (do_var (pv 5)) (do_val (de_int)))))))) (dv_cons (de_bin (op_add.or (op_cat.or op_catA)) (ops_or ops_i0 (ops_or ops_catL ops_catT)) (do_var (pv 3)) (do_val (de_fresh (df_list (by rfl) T.b_list (do_val (de_ix (do_var (pv 5)) (do_val (de_int)))))))) (dv_nil))) (by rfl)))) (dss_nil))
    (dss_cons (ds_if (dt_cmp (((op_eqD hu).or (op_eqK hu2 hu0)).or (op_eqL hr.u80)) (ops_or (ops_or ops_eq1 ops_eqK) ops_eqL) (do_val (dx_de (dx_has h_q_grab hr (by decide) tk (by rfl) (dr_io (pv 0) (dr_val (de_int) (dr_nil)))))) (do_val (de_int)) (nomark _)) (dss_one (ds_par rfl S.nd rfl rfl (by decide) (by rfl) (by rfl) (dv_cons (de_var (pv 3)) (dv_cons (de_var (pv 2)) (dv_nil))) (by rfl))) (dss_nil))
    (dss_cons (ds_asg (dx_de (dx_has h_q_without_shared hr (by decide) tk (by rfl) (dr_val (de_var (pv 2)) (dr_val (de_var (pv 3)) (dr_nil))))) (dg_tup rfl (dgs_cons (dg_name (i := 2) (pg_name (i := 2) S.nd rfl (.inl rfl))) (dgs_cons (dg_name (i := 3) (pg_name (i := 3) S.nd rfl (.inl rfl))) (dgs_nil)))))
    (dss_one (ds_ret (de_ifExp (dt_val (dx_de (dx_has h_q_is_row_let hr (by decide) tk (by rfl) (dr_val (de_var (pv 2)) (dr_val (de_var (pv 3)) (dr_nil)))))) (de_tup (dv_cons (de_var (pv 2)) (dv_cons (de_var (pv 3)) (dv_nil)))) (de_tup (dv_cons (de_tup (dv_cons (de_int) (dv_nil))) (dv_cons (de_tup (dv_cons (de_int) (dv_cons (de_int) (dv_nil)))) (dv_nil))))))))))))
theorem d_q_row_drawn (T : Txt K mg) (h_q_any_balanced : Has P w K mg base "_law_any_balanced" 4 ["_law_bag_here"] F_q_any_balanced) (h_q_without_shared : Has P w K mg base "_law_without_shared" 1 ["_law_tops", "_law_bottoms"] F_q_without_shared) (h_q_grab : Has P w K mg base "_law_grab" 1 ["_law_bag_here", "_law_total"] F_q_grab) (h_q_one_of : Has P w K mg base "_law_one_of" 2 ["_law_bag_here", "_law_items"] F_q_one_of) (h_q_is_row_let : Has P w K mg base "_law_is_row_let" 3 ["_law_tops", "_law_bottoms"] F_q_is_row_let) {f : Addr} {n : Nat} {cdv : Value} {A : Around} {outer : List Env} {s : Shared} {H : Hp} {E : XK} (hr : RoomG 4 (A.deeper (envOfC "_law_row_drawn" (defScope s_q_row_drawn) s.heap.objs.size f cdv))) :
    DSs (cxOf (L2.CX P w) P w K mg base ["_law_bag_here", "_law_tops", "_law_bottoms", "_law_way", "_law_here", "_law_at", "_law_more", "_law_near", "_law_under"] "_law_row_drawn" (defScope s_q_row_drawn) f cdv A outer s H E) (fun cls d _ H => E cls d H) (defBody s_q_row_drawn) (B_q_row_drawn n) := by
  have S := sc_q_row_drawn
  have tk : Takes (cxOf (L2.CX P w) P w K mg base ["_law_bag_here", "_law_tops", "_law_bottoms", "_law_way", "_law_here", "_law_at", "_law_more", "_law_near", "_law_under"] "_law_row_drawn" (defScope s_q_row_drawn) f cdv A outer s H E) (fun cls d _ H => E cls d H) := takes_of rfl rfl rfl rfl
  have hu := hr.units
  have hu0 := hr.units0
  have hu1 := hu_of hr.room
  have hu2 := in1u hr
  exact dss_cons (ds_asg (dx_de (dx_has h_q_any_balanced hr (by decide) tk (by rfl) (dr_io (pv 0) (dr_nil)))) (dg_tup rfl (dgs_cons (dg_name (i := 1) (pg_name (i := 1) S.nd rfl (.inl rfl))) (dgs_cons (dg_name (i := 2) (pg_name (i := 2) S.nd rfl (.inl rfl))) (dgs_nil)))))
    (dss_cons (ds_parX rfl S.nd rfl rfl (by decide) (by rfl) (by rfl) (xs_val (dx_de (dx_has h_q_grab hr (by decide) tk (by rfl) (dr_io (pv 0) (dr_val (de_int) (dr_nil))))) (xs_fr (df_list (by rfl) T.b_list (do_val (de_bin (op_add.or (op_cat.or op_catA)) (ops_or ops_i0 (ops_or ops_catL ops_catT)) (do_var (pv 1)) (do_var (pv 2))))) (xs_nil))) (by rfl))
    (dss_cons (ds_if (dt_cmp op_gt ops_b0 (do_var (pv 3)) (do_val (de_int)) (nomark _)) (dss_one (ds_ret (de_tup (dv_cons (de_var (pv 1)) (dv_cons (de_var (pv 2)) (dv_nil)))))) (dss_nil))
    (dss_cons (ds_par rfl S.nd rfl rfl (by decide) (by rfl) (by rfl) (dv_cons (dx_de (dx_has h_q_grab hr (by decide) tk (by rfl) (dr_io (pv 0) (dr_val (de_callB call_len_seq cas_len (by rfl) T.b_len PySem.boot_len (da_cons (do_var (pv 4)) (da_nil))) (dr_nil))))) (dv_cons (dx_de (dx_has h_q_one_of hr (by decide) tk (by rfl) (dr_io (pv 0) (dr_val (de_fresh (df_lst (dv_cons (de_int) (dv_cons (de_un un_neg uns_neg (do_val (de_int))) (dv_cons (de_int) (dv_cons (de_int) (dv_nil))))))) (dr_nil))))) (dv_nil))) (by rfl))
    (dss_cons (ds_seti (pv 4) (de_var (pv 5)) (de_callB ((call_max2 rfl).or (call_maxS rfl hr.units)) (cas_or cas_max2 cas_maxS) (by rfl) T.b_max boot_max (da_cons (do_val (de_int)) (da_cons (do_val (de_bin (op_add.or (op_cat.or op_catA)) (ops_or ops_i0 (ops_or ops_catL ops_catT)) (do_val (de_ix (do_var (pv 4)) (do_var (pv 5)))) (do_var (pv 6)))) (da_nil)))))
    (dss_cons (ds_asg (dx_de (dx_has h_q_without_shared hr (by decide) tk (by rfl) (dr_val (de_sl (do_var (pv 4)) (dp_no) (dp_int (de_callB call_len_seq cas_len (by rfl) T.b_len PySem.boot_len (da_cons (do_var (pv 1)) (da_nil))))) (dr_val (de_sl (do_var (pv 4)) (dp_int (de_callB call_len_seq cas_len (by rfl) T.b_len PySem.boot_len (da_cons (do_var (pv 1)) (da_nil)))) (dp_no)) (dr_nil))))) (dg_tup rfl (dgs_cons (dg_name (i := 7) (pg_name (i := 7) S.nd rfl (.inl rfl))) (dgs_cons (dg_name (i := 8) (pg_name (i := 8) S.nd rfl (.inl rfl))) (dgs_nil)))))
    (dss_cons (ds_if (dt_cmp (((op_eqD hu).or (op_eqK hu2 hu0)).or (op_eqL hr.u80)) (ops_or (ops_or ops_eq1 ops_eqK) ops_eqL) (do_var (pv 3)) (do_val (de_int)) (nomark _)) (dss_one (ds_asg (de_ifExp (dt_cmp op_gt ops_b0 (do_val (de_callB call_len_seq cas_len (by rfl) T.b_len PySem.boot_len (da_cons (do_var (pv 2)) (da_nil)))) (do_val (de_int)) (nomark _)) (dx_de (dx_has h_q_without_shared hr (by decide) tk (by rfl) (dr_val (de_var (pv 1)) (dr_val (de_sl (do_var (pv 2)) (dp_no) (dp_int (de_un un_neg uns_neg (do_val (de_int))))) (dr_nil))))) (dx_de (dx_has h_q_without_shared hr (by decide) tk (by rfl) (dr_val (de_bin (op_add.or (op_cat.or op_catA)) (ops_or ops_i0 (ops_or ops_catL ops_catT)) (do_var (pv 1)) (do_val (de_tup (dv_cons (de_int) (dv_nil))))) (dr_val (de_var (pv 2)) (dr_nil)))))) (dg_tup rfl (dgs_cons (dg_name (i := 7) (pg_name (i := 7) S.nd rfl (.inl rfl))) (dgs_cons (dg_name (i := 8) (pg_name (i := 8) S.nd rfl (.inl rfl))) (dgs_nil)))))) (dss_nil))
    (dss_one (ds_ret (de_ifExp (dt_val (dx_de (dx_has h_q_is_row_let hr (by decide) tk (by rfl) (dr_val (de_var (pv 7)) (dr_val (de_var (pv 8)) (dr_nil)))))) (de_tup (dv_cons (de_var (pv 7)) (dv_cons (de_var (pv 8)) (dv_nil)))) (de_tup (dv_cons (de_tup (dv_cons (de_int) (dv_cons (de_int) (dv_nil)))) (dv_cons (de_tup (dv_cons (de_int) (dv_cons (de_int) (dv_nil)))) (dv_nil)))))))))))))
theorem d_q_lowest (T : Txt K mg) (h_q_common : Has P w K mg base "_law_common" 1 ["_law_numbers"] F_q_common) {f : Addr} {n : Nat} {cdv : Value} {A : Around} {outer : List Env} {s : Shared} {H : Hp} {E : XK} (hr : RoomG 1 (A.deeper (envOfC "_law_lowest" (defScope s_q_lowest) s.heap.objs.size f cdv))) :
    DSs (cxOf (L2.CX P w) P w K mg base ["_law_top", "_law_bottom", "_law_shared"] "_law_lowest" (defScope s_q_lowest) f cdv A outer s H E) (fun cls d _ H => E cls d H) (defBody s_q_lowest) (B_q_lowest n) := by
  have S := sc_q_lowest
  have tk : Takes (cxOf (L2.CX P w) P w K mg base ["_law_top", "_law_bottom", "_law_shared"] "_law_lowest" (defScope s_q_lowest) f cdv A outer s H E) (fun cls d _ H => E cls d H) := takes_of rfl rfl rfl rfl
  have hu := hr.units
  have hu0 := hr.units0
  have hu1 := hu_of hr.room
  have hu2 := in1u hr
  exact dss_cons (ds_set (i := 2) S.nd rfl (.inl rfl) (de_bin (op_mulW.or (op_rep.or op_repT)) (ops_or (ops_ic mul_ok) (ops_or ops_repL ops_repT)) (do_val (dx_de (dx_has h_q_common hr (by decide) tk (by rfl) (dr_val (de_fresh (df_lst (dv_cons (de_var (pv 0)) (dv_cons (de_var (pv 1)) (dv_nil))))) (dr_nil))))) (do_val (de_ifExp (dt_cmp op_gt ops_b0 (do_var (pv 1)) (do_val (de_int)) (nomark _)) (de_int) (de_un un_neg uns_neg (do_val (de_int)))))))
    (dss_one (ds_ret (de_tup (dv_cons (de_bin op_fdivG (ops_ic fun _ _ h => cDiv_ok h) (do_var (pv 0)) (do_var (pv 2))) (dv_cons (de_bin op_fdivG (ops_ic fun _ _ h => cDiv_ok h) (do_var (pv 1)) (do_var (pv 2))) (dv_nil))))))
theorem d_q_some_ratio (T : Txt K mg) (h_q_lowest : Has P w K mg base "_law_lowest" 2 ["_law_top", "_law_bottom"] F_q_lowest) (h_q_grab : Has P w K mg base "_law_grab" 1 ["_law_bag_here", "_law_total"] F_q_grab) (h_q_one_of : Has P w K mg base "_law_one_of" 2 ["_law_bag_here", "_law_items"] F_q_one_of) {f : Addr} {n : Nat} {cdv : Value} {A : Around} {outer : List Env} {s : Shared} {H : Hp} {E : XK} (hr : RoomG 2 (A.deeper (envOfC "_law_some_ratio" (defScope s_q_some_ratio) s.heap.objs.size f cdv))) :
    DSs (cxOf (L2.CX P w) P w K mg base ["_law_bag_here", "_law_member", "_law_way", "_law_most"] "_law_some_ratio" (defScope s_q_some_ratio) f cdv A outer s H E) (fun cls d _ H => E cls d H) (defBody s_q_some_ratio) (B_q_some_ratio n) := by
  have S := sc_q_some_ratio
  have tk : Takes (cxOf (L2.CX P w) P w K mg base ["_law_bag_here", "_law_member", "_law_way", "_law_most"] "_law_some_ratio" (defScope s_q_some_ratio) f cdv A outer s H E) (fun cls d _ H => E cls d H) := takes_of rfl rfl rfl rfl
  have hu := hr.units
  have hu0 := hr.units0
  have hu1 := hu_of hr.room
  have hu2 := in1u hr
  exact dss_cons (ds_par rfl S.nd rfl rfl (by decide) (by rfl) (by rfl) (dv_cons (dx_de (dx_has h_q_grab hr (by decide) tk (by rfl) (dr_io (pv 0) (dr_val (de_int) (dr_nil))))) (dv_cons (dx_de (dx_has h_q_one_of hr (by decide) tk (by rfl) (dr_io (pv 0) (dr_val (de_fresh (df_lst (dv_cons (de_int) (dv_cons (de_int) (dv_cons (de_int) (dv_cons (de_bin op_powG (ops_ic fun _ _ h => cPow_ok h) (do_val (de_int)) (do_val (de_int))) (dv_nil))))))) (dr_nil))))) (dv_nil))) (by rfl))
    (dss_cons (ds_if (dt_cmp (((op_eqD hu).or (op_eqK hu2 hu0)).or (op_eqL hr.u80)) (ops_or (ops_or ops_eq1 ops_eqK) ops_eqL) (do_var (pv 2)) (do_val (de_int)) (nomark _)) (dss_one (ds_ret (dx_de (dx_has h_q_lowest hr (by decide) tk (by rfl) (dr_val (dx_de (dx_has h_q_grab hr (by decide) tk (by rfl) (dr_io (pv 0) (dr_val (de_bin (op_add.or (op_cat.or op_catA)) (ops_or ops_i0 (ops_or ops_catL ops_catT)) (do_var (pv 1)) (do_val (de_int))) (dr_nil))))) (dr_val (de_var (pv 1)) (dr_nil))))))) (dss_nil))
    (dss_cons (ds_if (dt_cmp (((op_eqD hu).or (op_eqK hu2 hu0)).or (op_eqL hr.u80)) (ops_or (ops_or ops_eq1 ops_eqK) ops_eqL) (do_var (pv 2)) (do_val (de_int)) (nomark _)) (dss_one (ds_ret (dx_de (dx_has h_q_lowest hr (by decide) tk (by rfl) (dr_val (de_bin (op_add.or (op_cat.or op_catA)) (ops_or ops_i0 (ops_or ops_catL ops_catT)) (do_val (de_bin (op_mulW.or (op_rep.or op_repT)) (ops_or (ops_ic mul_ok) (ops_or ops_repL ops_repT)) (do_val (dx_de (dx_has h_q_grab hr (by decide) tk (by rfl) (dr_io (pv 0) (dr_val (de_var (pv 1)) (dr_nil)))))) (do_val (de_bin op_powG (ops_ic fun _ _ h => cPow_ok h) (do_val (de_int)) (do_val (de_int)))))) (do_val (de_int))) (dr_val (de_bin (op_mulW.or (op_rep.or op_repT)) (ops_or (ops_ic mul_ok) (ops_or ops_repL ops_repT)) (do_var (pv 1)) (do_val (de_bin op_powG (ops_ic fun _ _ h => cPow_ok h) (do_val (de_int)) (do_val (de_int))))) (dr_nil))))))) (dss_nil))
    (dss_cons (ds_if (dt_cmp (((op_eqD hu).or (op_eqK hu2 hu0)).or (op_eqL hr.u80)) (ops_or (ops_or ops_eq1 ops_eqK) ops_eqL) (do_var (pv 2)) (do_val (de_int)) (nomark _)) (dss_one (ds_ret (dx_de (dx_has h_q_lowest hr (by decide) tk (by rfl) (dr_val (de_bin op_sub ops_i0 (do_val (de_bin (op_mulW.or (op_rep.or op_repT)) (ops_or (ops_ic mul_ok) (ops_or ops_repL ops_repT)) (do_val (de_bin (op_add.or (op_cat.or op_catA)) (ops_or ops_i0 (ops_or ops_catL ops_catT)) (do_val (de_int)) (do_val (dx_de (dx_has h_q_grab hr (by decide) tk (by rfl) (dr_io (pv 0) (dr_val (de_var (pv 1)) (dr_nil)))))))) (do_val (de_bin op_powG (ops_ic fun _ _ h => cPow_ok h) (do_val (de_int)) (do_val (de_int)))))) (do_val (de_int))) (dr_val (de_bin (op_mulW.or (op_rep.or op_repT)) (ops_or (ops_ic mul_ok) (ops_or ops_repL ops_repT)) (do_var (pv 1)) (do_val (de_bin op_powG (ops_ic fun _ _ h => cPow_ok h) (do_val (de_int)) (do_val (de_int))))) (dr_nil))))))) (dss_nil))
    (dss_one (ds_ret (dx_de (dx_has h_q_lowest hr (by decide) tk (by rfl) (dr_val (dx_de (dx_has h_q_grab hr (by decide) tk (by rfl) (dr_io (pv 0) (dr_val (de_bin op_powG (ops_ic fun _ _ h => cPow_ok h) (do_val (de_int)) (do_val (de_int))) (dr_nil))))) (dr_val (de_bin (op_add.or (op_cat.or op_catA)) (ops_or ops_i0 (ops_or ops_catL ops_catT)) (do_val (de_int)) (do_val (dx_de (dx_has h_q_grab hr (by decide) tk (by rfl) (dr_io (pv 0) (dr_val (de_var (pv 3)) (dr_nil))))))) (dr_nil))))))))))
theorem d_q_depth (T : Txt K mg)  {f : Addr} {n : Nat} {cdv : Value} {A : Around} {outer : List Env} {s : Shared} {H : Hp} {E : XK} (hr : RoomG 0 (A.deeper (envOfC "_law_depth" (defScope s_q_depth) s.heap.objs.size f cdv))) :
    DSs (cxOf (L2.CX P w) P w K mg base ["_law_tops", "_law_bottoms", "_law_ratio", "_law_top", "_law_bottom", "_law_member"] "_law_depth" (defScope s_q_depth) f cdv A outer s H E) (fun cls d _ H => E cls d H) (defBody s_q_depth) (B_q_depth n) := by
  have S := sc_q_depth
  have tk : Takes (cxOf (L2.CX P w) P w K mg base ["_law_tops", "_law_bottoms", "_law_ratio", "_law_top", "_law_bottom", "_law_member"] "_law_depth" (defScope s_q_depth) f cdv A outer s H E) (fun cls d _ H => E cls d H) := takes_of rfl rfl rfl rfl
  have hu := hr.units
  have hu0 := hr.units0
  have hu1 := hu_of hr.room
  have hu2 := in1u hr
  exact dss_cons (ds_asg (de_var (pv 2)) (dg_tup rfl (dgs_cons (dg_name (i := 3) (pg_name (i := 3) S.nd rfl (.inr rfl))) (dgs_cons (dg_name (i := 4) (pg_name (i := 4) S.nd rfl (.inr rfl))) (dgs_nil)))))
    (dss_one (ds_ret (de_bin op_sub ops_i0 (do_val (de_callB ((cr_sum rfl).or (call_sumT rfl)) (cas_or cas_sum cas_sumT) (by rfl) T.b_sum boot_sum (da_cons (do_val (de_fresh (df_lc (own := [("_law_member", 5)]) rfl S.nd (di_seq (de_var (pv 0))) (blkOk_by (by rfl)) rfl (by intro _ _ _ _ _; exact dg_name (i := 5) (pg_name (i := 5) S.nd rfl (.inl rfl))) (by intro _ _ _ _ _; exact dts_nil) (by intro _ _ _ _ _; exact de_bin op_fdivG (ops_ic fun _ _ h => cDiv_ok h) (do_val (de_bin (op_mulW.or (op_rep.or op_repT)) (ops_or (ops_ic mul_ok) (ops_or ops_repL ops_repT)) (do_var (pv 5)) (do_var (pv 3)))) (do_var (pv 4)))))) (da_nil)))) (do_val (de_callB ((cr_sum rfl).or (call_sumT rfl)) (cas_or cas_sum cas_sumT) (by rfl) T.b_sum boot_sum (da_cons (do_val (de_fresh (df_lc (own := [("_law_member", 5)]) rfl S.nd (di_seq (de_var (pv 1))) (blkOk_by (by rfl)) rfl (by intro _ _ _ _ _; exact dg_name (i := 5) (pg_name (i := 5) S.nd rfl (.inl rfl))) (by intro _ _ _ _ _; exact dts_nil) (by intro _ _ _ _ _; exact de_bin op_fdivG (ops_ic fun _ _ h => cDiv_ok h) (do_val (de_bin (op_mulW.or (op_rep.or op_repT)) (ops_or (ops_ic mul_ok) (ops_or ops_repL ops_repT)) (do_var (pv 5)) (do_var (pv 3)))) (do_var (pv 4)))))) (da_nil)))))))
theorem d_q_jump (T : Txt K mg)  {f : Addr} {n : Nat} {cdv : Value} {A : Around} {outer : List Env} {s : Shared} {H : Hp} {E : XK} (hr : RoomG 0 (A.deeper (envOfC "_law_jump" (defScope s_q_jump) s.heap.objs.size f cdv))) :
    DSs (cxOf (L2.CX P w) P w K mg base ["_law_tops", "_law_bottoms", "_law_number", "_law_one"] "_law_jump" (defScope s_q_jump) f cdv A outer s H E) (fun cls d _ H => E cls d H) (defBody s_q_jump) (B_q_jump n) := by
  have S := sc_q_jump
  have tk : Takes (cxOf (L2.CX P w) P w K mg base ["_law_tops", "_law_bottoms", "_law_number", "_law_one"] "_law_jump" (defScope s_q_jump) f cdv A outer s H E) (fun cls d _ H => E cls d H) := takes_of rfl rfl rfl rfl
  have hu := hr.units
  have hu0 := hr.units0
  have hu1 := hu_of hr.room
  have hu2 := in1u hr
  exact dss_one (ds_ret (de_bin op_sub ops_i0 (do_val (de_callB call_len_seq cas_len (by rfl) T.b_len PySem.boot_len (da_cons (do_val (de_fresh (df_lc (own := [("_law_one", 3)]) rfl S.nd (di_seq (de_var (pv 0))) (blkOk_by (by rfl)) rfl (by intro _ _ _ _ _; exact dg_name (i := 3) (pg_name (i := 3) S.nd rfl (.inl rfl))) (by intro _ _ _ _ _; exact dts_one (dt_cmp (((op_eqD hu).or (op_eqK hu2 hu0)).or (op_eqL hr.u80)) (ops_or (ops_or ops_eq1 ops_eqK) ops_eqL) (do_val (de_bin op_modN (ops_ic fun _ _ h => of_decide_eq_true h) (do_var (pv 3)) (do_var (pv 2)))) (do_val (de_int)) (nomark _))) (by intro _ _ _ _ _; exact de_var (pv 3))))) (da_nil)))) (do_val (de_callB call_len_seq cas_len (by rfl) T.b_len PySem.boot_len (da_cons (do_val (de_fresh (df_lc (own := [("_law_one", 3)]) rfl S.nd (di_seq (de_var (pv 1))) (blkOk_by (by rfl)) rfl (by intro _ _ _ _ _; exact dg_name (i := 3) (pg_name (i := 3) S.nd rfl (.inl rfl))) (by intro _ _ _ _ _; exact dts_one (dt_cmp (((op_eqD hu).or (op_eqK hu2 hu0)).or (op_eqL hr.u80)) (ops_or (ops_or ops_eq1 ops_eqK) ops_eqL) (do_val (de_bin op_modN (ops_ic fun _ _ h => of_decide_eq_true h) (do_var (pv 3)) (do_var (pv 2)))) (do_val (de_int)) (nomark _))) (by intro _ _ _ _ _; exact de_var (pv 3))))) (da_nil))))))
theorem d_q_ratio_sum (T : Txt K mg) (h_q_lowest : Has P w K mg base "_law_lowest" 2 ["_law_top", "_law_bottom"] F_q_lowest) {f : Addr} {n : Nat} {cdv : Value} {A : Around} {outer : List Env} {s : Shared} {H : Hp} {E : XK} (hr : RoomG 2 (A.deeper (envOfC "_law_ratio_sum" (defScope s_q_ratio_sum) s.heap.objs.size f cdv))) :
    DSs (cxOf (L2.CX P w) P w K mg base ["_law_one", "_law_other", "_law_factor"] "_law_ratio_sum" (defScope s_q_ratio_sum) f cdv A outer s H E) (fun cls d _ H => E cls d H) (defBody s_q_ratio_sum) (B_q_ratio_sum n) := by
  have S := sc_q_ratio_sum
  have tk : Takes (cxOf (L2.CX P w) P w K mg base ["_law_one", "_law_other", "_law_factor"] "_law_ratio_sum" (defScope s_q_ratio_sum) f cdv A outer s H E) (fun cls d _ H => E cls d H) := takes_of rfl rfl rfl rfl
  have hu := hr.units
  have hu0 := hr.units0
  have hu1 := hu_of hr.room
  have hu2 := in1u hr
  exact dss_one (ds_ret (dx_de (dx_has h_q_lowest hr (by decide) tk (by rfl) (dr_val (de_bin (op_add.or (op_cat.or op_catA)) (ops_or ops_i0 (ops_or ops_catL ops_catT)) (do_val (de_bin (op_mulW.or (op_rep.or op_repT)) (ops_or (ops_ic mul_ok) (ops_or ops_repL ops_repT)) (do_val (de_ix (do_var (pv 0)) (do_val (de_int)))) (do_val (de_ix (do_var (pv 1)) (do_val (de_int)))))) (do_val (de_bin (op_mulW.or (op_rep.or op_repT)) (ops_or (ops_ic mul_ok) (ops_or ops_repL ops_repT)) (do_val (de_bin (op_mulW.or (op_rep.or op_repT)) (ops_or (ops_ic mul_ok) (ops_or ops_repL ops_repT)) (do_var (pv 2)) (do_val (de_ix (do_var (pv 1)) (do_val (de_int)))))) (do_val (de_ix (do_var (pv 0)) (do_val (de_int))))))) (dr_val (de_bin (op_mulW.or (op_rep.or op_repT)) (ops_or (ops_ic mul_ok) (ops_or ops_repL ops_repT)) (do_val (de_ix (do_var (pv 0)) (do_val (de_int)))) (do_val (de_ix (do_var (pv 1)) (do_val (de_int))))) (dr_nil))))))
theorem d_q_right (T : Txt K mg) (h_q_row_drawn : Has P w K mg base "_law_row_drawn" 5 ["_law_bag_here"] F_q_row_drawn) (h_Quotient___init__ : HasMk P w K mg base "Quotient" 6 3 F_Quotient___init__) (h_q_some_ratio : Has P w K mg base "_law_some_ratio" 3 ["_law_bag_here", "_law_member"] F_q_some_ratio) (h_q_one_of : Has P w K mg base "_law_one_of" 2 ["_law_bag_here", "_law_items"] F_q_one_of) (h_q_depth : Has P w K mg base "_law_depth" 1 ["_law_tops", "_law_bottoms", "_law_ratio"] F_q_depth) (h_q_grab : Has P w K mg base "_law_grab" 1 ["_law_bag_here", "_law_total"] F_q_grab) (h_depth : Has P w K mg base "depth" 6 ["row", "ratio"] F_depth) (h_jump : Has P w K mg base "jump" 5 ["row", "number"] F_jump) (h_q_jump : Has P w K mg base "_law_jump" 1 ["_law_tops", "_law_bottoms", "_law_number"] F_q_jump) (h_q_ratio_sum : Has P w K mg base "_law_ratio_sum" 3 ["_law_one", "_law_other", "_law_factor"] F_q_ratio_sum) {f : Addr} {n : Nat} {cdv : Value} {A : Around} {outer : List Env} {s : Shared} {H : Hp} {E : XK} (hr : RoomG 7 (A.deeper (envOfC "_law_right" (defScope s_q_right) s.heap.objs.size f cdv))) :
    DSs (cxOf (L2.CX P w) P w K mg base ["_law_bag_here", "_law_tops", "_law_bottoms", "_law_row", "_law_excess", "_law_height", "_law_members", "_law_turn", "_law_ratio", "_law_here", "_law_many", "_law_mirrored", "_law_number"] "_law_right" (defScope s_q_right) f cdv A outer s H E) (fun cls d _ H => E cls d H) (defBody s_q_right) (B_q_right n) := by
  have S := sc_q_right
  have tk : Takes (cxOf (L2.CX P w) P w K mg base ["_law_bag_here", "_law_tops", "_law_bottoms", "_law_row", "_law_excess", "_law_height", "_law_members", "_law_turn", "_law_ratio", "_law_here", "_law_many", "_law_mirrored", "_law_number"] "_law_right" (defScope s_q_right) f cdv A outer s H E) (fun cls d _ H => E cls d H) := takes_of rfl rfl rfl rfl
  have hu := hr.units
  have hu0 := hr.units0
  have hu1 := hu_of hr.room
  have hu2 := in1u hr
  exact dss_cons (ds_asg (dx_de (dx_has h_q_row_drawn hr (by decide) tk (by rfl) (dr_io (pv 0) (dr_nil)))) (dg_tup rfl (dgs_cons (dg_name (i := 1) (pg_name (i := 1) S.nd rfl (.inl rfl))) (dgs_cons (dg_name (i := 2) (pg_name (i := 2) S.nd rfl (.inl rfl))) (dgs_nil)))))
    (dss_cons (ds_par rfl S.nd rfl rfl (by decide) (by rfl) (by rfl) (dv_cons (de_fresh (df_makeH h_Quotient___init__ hr (by decide) (by rfl) (dv_cons (de_var (pv 1)) (dv_cons (de_var (pv 2)) (dv_nil))))) (dv_cons (de_bin op_sub ops_i0 (do_val (de_callB ((cr_sum rfl).or (call_sumT rfl)) (cas_or cas_sum cas_sumT) (by rfl) T.b_sum boot_sum (da_cons (do_var (pv 1)) (da_nil)))) (do_val (de_callB ((cr_sum rfl).or (call_sumT rfl)) (cas_or cas_sum cas_sumT) (by rfl) T.b_sum boot_sum (da_cons (do_var (pv 2)) (da_nil))))) (dv_nil))) (by rfl))
    (dss_cons (ds_par rfl S.nd rfl rfl (by decide) (by rfl) (by rfl) (dv_cons (de_bin op_sub ops_i0 (do_val (de_callB call_len_seq cas_len (by rfl) T.b_len PySem.boot_len (da_cons (do_var (pv 2)) (da_nil)))) (do_val (de_callB call_len_seq cas_len (by rfl) T.b_len PySem.boot_len (da_cons (do_var (pv 1)) (da_nil))))) (dv_cons (de_fresh (df_list (by rfl) T.b_list (do_val (de_bin (op_add.or (op_cat.or op_catA)) (ops_or ops_i0 (ops_or ops_catL ops_catT)) (do_var (pv 1)) (do_var (pv 2)))))) (dv_nil))) (by rfl))
    (dss_cons (ds_for (passes_of rfl) rfl (di_rng1 (by rfl) T.b_range (dv_cons (de_int) (dv_nil))) (dg_name (i := 7) (pg_name (i := 7) S.nd rfl (.inl rfl))) (dss_cons (ds_set (i := 8) S.nd rfl (.inl rfl) (dx_de (dx_has h_q_some_ratio hr (by decide) tk (by rfl) (dr_io (pv 0) (dr_val (dx_de (dx_has h_q_one_of hr (by decide) tk (by rfl) (dr_io (pv 0) (dr_val (de_var (pv 6)) (dr_nil))))) (dr_nil))))))
    (dss_cons (ds_par rfl S.nd rfl rfl (by decide) (by rfl) (by rfl) (dv_cons (dx_de (dx_has h_q_depth hr (by decide) tk (by rfl) (dr_val (de_var (pv 1)) (dr_val (de_var (pv 2)) (dr_val (de_var (pv 8)) (dr_nil)))))) (dv_cons (dx_de (dx_has h_q_grab hr (by decide) tk (by rfl) (dr_io (pv 0) (dr_val (de_bin op_powG (ops_ic fun _ _ h => cPow_ok h) (do_val (de_int)) (do_val (de_int))) (dr_nil))))) (dv_nil))) (by rfl))
    (dss_cons (ds_if (dt_bool (dw_or (dt_cmp (((op_neD hu).or (op_neK hu2 hu0)).or (op_neL hr.u80)) (ops_or (ops_or ops_ne1 ops_neK) ops_neL) (do_val (de_callB (call_rpr.or (call_rprC hr.gd hr.units)) (cas_or cas_rpr cas_rprC) (by rfl) T.b_repr boot_repr (da_cons (do_val (dx_de (dx_has h_depth hr (by decide) tk (by rfl) (dr_val (de_var (pv 3)) (dr_val (de_var (pv 8)) (dr_nil)))))) (da_nil)))) (do_val (de_callB (call_rpr.or (call_rprC hr.gd hr.units)) (cas_or cas_rpr cas_rprC) (by rfl) T.b_repr boot_repr (da_cons (do_var (pv 9)) (da_nil)))) (nomark _)) (dw_or1 (dt_cmp (((op_neD hu).or (op_neK hu2 hu0)).or (op_neL hr.u80)) (ops_or (ops_or ops_ne1 ops_neK) ops_neL) (do_val (dx_de (dx_has h_depth hr (by decide) tk (by rfl) (dr_val (de_var (pv 3)) (dr_val (dx_de (dx_has h_q_ratio_sum hr (by decide) tk (by rfl) (dr_val (de_var (pv 8)) (dr_val (de_tup (dv_cons (de_var (pv 10)) (dv_cons (de_int) (dv_nil)))) (dr_val (de_int) (dr_nil)))))) (dr_nil)))))) (do_val (de_bin (op_add.or (op_cat.or op_catA)) (ops_or ops_i0 (ops_or ops_catL ops_catT)) (do_var (pv 9)) (do_val (de_bin (op_mulW.or (op_rep.or op_repT)) (ops_or (ops_ic mul_ok) (ops_or ops_repL ops_repT)) (do_var (pv 10)) (do_var (pv 4)))))) (nomark _))))) (dss_one (ds_ret (de_bl))) (dss_nil))
    (dss_one (ds_if (dt_bool (dw_and (dt_cmp op_lt ops_b0 (do_val (de_ix (do_var (pv 8)) (do_val (de_int)))) (do_val (de_ix (do_var (pv 8)) (do_val (de_int)))) (nomark _)) (dw_and1 (dt_cmp op_gt ops_b0 (do_val (de_ix (do_var (pv 8)) (do_val (de_int)))) (do_val (de_int)) (nomark _))))) (dss_cons (ds_set (i := 11) S.nd rfl (.inl rfl) (dx_de (dx_has h_depth hr (by decide) tk (by rfl) (dr_val (de_var (pv 3)) (dr_val (de_tup (dv_cons (de_bin op_sub ops_i0 (do_val (de_ix (do_var (pv 8)) (do_val (de_int)))) (do_val (de_ix (do_var (pv 8)) (do_val (de_int))))) (dv_cons (de_ix (do_var (pv 8)) (do_val (de_int))) (dv_nil)))) (dr_nil))))))
    (dss_one (ds_if (dt_cmp (((op_neD hu).or (op_neK hu2 hu0)).or (op_neL hr.u80)) (ops_or (ops_or ops_ne1 ops_neK) ops_neL) (do_val (de_bin (op_add.or (op_cat.or op_catA)) (ops_or ops_i0 (ops_or ops_catL ops_catT)) (do_var (pv 9)) (do_var (pv 11)))) (do_val (de_bin (op_add.or (op_cat.or op_catA)) (ops_or ops_i0 (ops_or ops_catL ops_catT)) (do_val (de_bin (op_add.or (op_cat.or op_catA)) (ops_or ops_i0 (ops_or ops_catL ops_catT)) (do_var (pv 4)) (do_var (pv 5)))) (do_val (dx_de (dx_has h_q_jump hr (by decide) tk (by rfl) (dr_val (de_var (pv 1)) (dr_val (de_var (pv 2)) (dr_val (de_ix (do_var (pv 8)) (do_val (de_int))) (dr_nil))))))))) (nomark _)) (dss_one (ds_ret (de_bl))) (dss_nil)))) (dss_nil)))))))
    (dss_cons (ds_for (passes_of rfl) rfl (di_seq (de_bin (op_add.or (op_cat.or op_catA)) (ops_or ops_i0 (ops_or ops_catL ops_catT)) (do_val (de_fresh (df_lst (dv_cons (de_int) (dv_cons (de_int) (dv_cons (de_int) (dv_cons (de_int) (dv_cons (de_int) (dv_cons (de_int) (dv_cons (de_bin (op_add.or (op_cat.or op_catA)) (ops_or ops_i0 (ops_or ops_catL ops_catT)) (do_val (de_int)) (do_val (dx_de (dx_has h_q_grab hr (by decide) tk (by rfl) (dr_io (pv 0) (dr_val (de_int) (dr_nil))))))) (dv_nil))))))))))) (do_var (pv 6)))) (dg_name (i := 12) (pg_name (i := 12) S.nd rfl (.inl rfl))) (dss_one (ds_if (dt_cmp (((op_neD hu).or (op_neK hu2 hu0)).or (op_neL hr.u80)) (ops_or (ops_or ops_ne1 ops_neK) ops_neL) (do_val (de_callB (call_rpr.or (call_rprC hr.gd hr.units)) (cas_or cas_rpr cas_rprC) (by rfl) T.b_repr boot_repr (da_cons (do_val (dx_de (dx_has h_jump hr (by decide) tk (by rfl) (dr_val (de_var (pv 3)) (dr_val (de_var (pv 12)) (dr_nil)))))) (da_nil)))) (do_val (de_callB (call_rpr.or (call_rprC hr.gd hr.units)) (cas_or cas_rpr cas_rprC) (by rfl) T.b_repr boot_repr (da_cons (do_val (dx_de (dx_has h_q_jump hr (by decide) tk (by rfl) (dr_val (de_var (pv 1)) (dr_val (de_var (pv 2)) (dr_val (de_var (pv 12)) (dr_nil))))))) (da_nil)))) (nomark _)) (dss_one (ds_ret (de_bl))) (dss_nil))))
    (dss_one (ds_ret (de_and (de_cmp (((op_eqD hu).or (op_eqK hu2 hu0)).or (op_eqL hr.u80)) (ops_or (ops_or ops_eq1 ops_eqK) ops_eqL) (do_val (dx_de (dx_has h_jump hr (by decide) tk (by rfl) (dr_val (de_var (pv 3)) (dr_val (de_int) (dr_nil)))))) (do_val (de_bin op_sub ops_i0 (do_val (de_int)) (do_var (pv 5)))) (nomark _)) (de_one (de_cmp (((op_eqD hu).or (op_eqK hu2 hu0)).or (op_eqL hr.u80)) (ops_or (ops_or ops_eq1 ops_eqK) ops_eqL) (do_val (dx_de (dx_has h_depth hr (by decide) tk (by rfl) (dr_val (de_var (pv 3)) (dr_val (de_tup (dv_cons (de_int) (dv_cons (de_int) (dv_nil)))) (dr_nil)))))) (do_val (de_int)) (nomark _))))))))))
theorem d_law (T : Txt K mg) (h_q_bag : Has P w K mg base "_law_bag" 1 ["_law_script", "_law_spot"] F_q_bag) (h_Quotient___init__ : HasMk P w K mg base "Quotient" 6 3 F_Quotient___init__) (h_depth : Has P w K mg base "depth" 6 ["row", "ratio"] F_depth) (h_jump : Has P w K mg base "jump" 5 ["row", "number"] F_jump) (h_q_right : Has P w K mg base "_law_right" 8 ["_law_bag_here"] F_q_right) {f : Addr} {n : Nat} {cdv : Value} {A : Around} {outer : List Env} {s : Shared} {H : Hp} {E : XK} (hr : RoomG 8 (A.deeper (envOfC "law" (defScope s_law) s.heap.objs.size f cdv))) :
    DSs (cxOf (L2.CX P w) P w K mg base ["_law_script", "_law_spot", "_law_bag_here", "_law_great", "_law_broken", "_law_told"] "law" (defScope s_law) f cdv A outer s H E) (fun cls d _ H => E cls d H) (defBody s_law) (B_law n) := by
  have S := sc_law
  have tk : Takes (cxOf (L2.CX P w) P w K mg base ["_law_script", "_law_spot", "_law_bag_here", "_law_great", "_law_broken", "_law_told"] "law" (defScope s_law) f cdv A outer s H E) (fun cls d _ H => E cls d H) := takes_of rfl rfl rfl rfl
  have hu := hr.units
  have hu0 := hr.units0
  have hu1 := hu_of hr.room
  have hu2 := in1u hr
  exact dss_cons (ds_for (passes_of rfl) rfl (di_rng1 (by rfl) T.b_range (dv_cons (de_callB ((call_max2 rfl).or (call_maxS rfl hr.units)) (cas_or cas_max2 cas_maxS) (by rfl) T.b_max boot_max (da_cons (do_val (de_int)) (da_cons (do_val (de_callB ((call_min2 rfl).or (call_minS rfl hr.units)) (cas_or cas_min2 cas_minS) (by rfl) T.b_min boot_min (da_cons (do_val (de_int)) (da_cons (do_val (de_callB call_len_seq cas_len (by rfl) T.b_len PySem.boot_len (da_cons (do_var (pv 0)) (da_nil)))) (da_nil))))) (da_nil)))) (dv_nil))) (dg_name (i := 1) (pg_name (i := 1) S.nd rfl (.inl rfl))) (dss_cons (ds_setF (i := 2) S.nd rfl (.inl rfl) (dx_df (dx_has h_q_bag hr (by decide) tk (by rfl) (dr_val (de_var (pv 0)) (dr_val (de_var (pv 1)) (dr_nil))))))
    (dss_one (ds_if (dt_bool (dw_or (dt_not (dt_val (dx_de (dx_has h_q_right hr (by decide) tk (by rfl) (dr_io (pv 2) (dr_nil)))))) (dw_or1 (dt_not (dt_val (dx_de (dx_has h_q_right hr (by decide) tk (by rfl) (dr_io (pv 2) (dr_nil))))))))) (dss_one (ds_ret (de_bl))) (dss_nil)))))
    (dss_cons (ds_par rfl S.nd rfl rfl (by decide) (by rfl) (by rfl) (dv_cons (de_fresh (df_makeH h_Quotient___init__ hr (by decide) (by rfl) (dv_cons (de_tup (dv_cons (de_int) (dv_cons (de_int) (dv_nil)))) (dv_cons (de_tup (dv_cons (de_int) (dv_cons (de_int) (dv_cons (de_int) (dv_nil))))) (dv_nil))))) (dv_cons (de_fresh (df_makeH h_Quotient___init__ hr (by decide) (by rfl) (dv_cons (de_tup (dv_cons (de_int) (dv_cons (de_int) (dv_nil)))) (dv_cons (de_tup (dv_cons (de_int) (dv_cons (de_int) (dv_nil)))) (dv_nil))))) (dv_nil))) (by rfl))
    (dss_cons (ds_set (i := 5) S.nd rfl (.inl rfl) (de_fresh (df_lst (dv_cons (dx_de (dx_has h_depth hr (by decide) tk (by rfl) (dr_val (de_var (pv 3)) (dr_val (de_tup (dv_cons (de_int) (dv_cons (de_int) (dv_nil)))) (dr_nil))))) (dv_cons (dx_de (dx_has h_depth hr (by decide) tk (by rfl) (dr_val (de_var (pv 3)) (dr_val (de_tup (dv_cons (de_int) (dv_cons (de_int) (dv_nil)))) (dr_nil))))) (dv_cons (dx_de (dx_has h_depth hr (by decide) tk (by rfl) (dr_val (de_var (pv 4)) (dr_val (de_tup (dv_cons (de_int) (dv_cons (de_int) (dv_nil)))) (dr_nil))))) (dv_cons (dx_de (dx_has h_jump hr (by decide) tk (by rfl) (dr_val (de_var (pv 3)) (dr_val (de_int) (dr_nil))))) (dv_cons (dx_de (dx_has h_jump hr (by decide) tk (by rfl) (dr_val (de_var (pv 4)) (dr_val (de_int) (dr_nil))))) (dv_nil)))))))))
    (dss_one (ds_ret (de_cmp (((op_eqD hu).or (op_eqK hu2 hu0)).or (op_eqL hr.u80)) (ops_or (ops_or ops_eq1 ops_eqK) ops_eqL) (do_var (pv 5)) (do_val (de_fresh (df_lst (dv_cons (de_int) (dv_cons (de_int) (dv_cons (de_un un_neg uns_neg (do_val (de_int))) (dv_cons (de_un un_neg uns_neg (do_val (de_int))) (dv_cons (de_int) (dv_nil))))))))) (nomark _))))))
theorem ok_q_bag (T : Txt K mg)  {f : Addr} {fd : FuncData} (Fu : Fun K "_law_bag" "_law_bag" s_q_bag f fd) : FnG P w K mg base (L2.CX P w) 1 f fd ["_law_script", "_law_spot"] (spD K 2 F_q_bag) :=
  fn_D (N := ["_law_script", "_law_spot", "_law_cell", "_law_great", "_law_mixed"]) Fu sc_q_bag B_q_bag (fun n cdv A outer s H E hr => d_q_bag T  hr) fun as _ _ => ⟨fuel as, rfl⟩
theorem has_q_bag (T : Txt K mg)  {f : Addr} {fd : FuncData} (Fu : Fun K "_law_bag" "_law_bag" s_q_bag f fd) (g : mg "_law_bag" = some (.ref f)) : Has P w K mg base "_law_bag" 1 ["_law_script", "_law_spot"] F_q_bag :=
  ⟨f, fd, g, Fu.kp, (Fu.binds (ps := ["_law_script", "_law_spot"]) (fun _ _ _ _ _ _ us hl => match us, hl with | [_, _], _ => rfl)), ok_q_bag T  Fu⟩
theorem ok_counted (T : Txt K mg)  {f : Addr} {fd : FuncData} (Fu : Fun K "counted" "counted" s_counted f fd) : FnG P w K mg base (L2.CX P w) 1 f fd ["tops", "bottoms"] (spD K 2 F_counted) :=
  fn_D (N := ["tops", "bottoms", "found", "member"]) Fu sc_counted B_counted (fun n cdv A outer s H E hr => d_counted T  hr) fun as _ _ => ⟨fuel as, rfl⟩
theorem has_counted (T : Txt K mg)  {f : Addr} {fd : FuncData} (Fu : Fun K "counted" "counted" s_counted f fd) (g : mg "counted" = some (.ref f)) : Has P w K mg base "counted" 1 ["tops", "bottoms"] F_counted :=
  ⟨f, fd, g, Fu.kp, (Fu.binds (ps := ["tops", "bottoms"]) (fun _ _ _ _ _ _ us hl => match us, hl with | [_, _], _ => rfl)), ok_counted T  Fu⟩
theorem ok_sides_of (T : Txt K mg)  {f : Addr} {fd : FuncData} (Fu : Fun K "sides_of" "sides_of" s_sides_of f fd) : FnG P w K mg base (L2.CX P w) 1 f fd ["counts"] (spD K 1 F_sides_of) :=
  fn_D (N := ["counts", "tops", "bottoms", "member"]) Fu sc_sides_of B_sides_of (fun n cdv A outer s H E hr => d_sides_of T  hr) fun as _ _ => ⟨fuel as, rfl⟩
theorem has_sides_of (T : Txt K mg)  {f : Addr} {fd : FuncData} (Fu : Fun K "sides_of" "sides_of" s_sides_of f fd) (g : mg "sides_of" = some (.ref f)) : Has P w K mg base "sides_of" 1 ["counts"] F_sides_of :=
  ⟨f, fd, g, Fu.kp, (Fu.binds (ps := ["counts"]) (fun _ _ _ _ _ _ us hl => match us, hl with | [_], _ => rfl)), ok_sides_of T  Fu⟩
theorem ok_is_long_integer (T : Txt K mg)  {f : Addr} {fd : FuncData} (Fu : Fun K "is_long_integer" "is_long_integer" s_is_long_integer f fd) : FnG P w K mg base (L2.CX P w) 1 f fd ["value"] (spD K 1 F_is_long_integer) :=
  fn_D (N := ["value"]) Fu sc_is_long_integer B_is_long_integer (fun n cdv A outer s H E hr => d_is_long_integer T  hr) fun as _ _ => ⟨fuel as, rfl⟩
theorem has_is_long_integer (T : Txt K mg)  {f : Addr} {fd : FuncData} (Fu : Fun K "is_long_integer" "is_long_integer" s_is_long_integer f fd) (g : mg "is_long_integer" = some (.ref f)) : Has P w K mg base "is_long_integer" 1 ["value"] F_is_long_integer :=
  ⟨f, fd, g, Fu.kp, (Fu.binds (ps := ["value"]) (fun _ _ _ _ _ _ us hl => match us, hl with | [_], _ => rfl)), ok_is_long_integer T  Fu⟩
theorem ok_is_integer (T : Txt K mg) (h_is_long_integer : Has P w K mg base "is_long_integer" 1 ["value"] F_is_long_integer) {f : Addr} {fd : FuncData} (Fu : Fun K "is_integer" "is_integer" s_is_integer f fd) : FnG P w K mg base (L2.CX P w) 2 f fd ["value"] (spD K 1 F_is_integer) :=
  fn_D (N := ["value"]) Fu sc_is_integer B_is_integer (fun n cdv A outer s H E hr => d_is_integer T h_is_long_integer hr) fun as _ _ => ⟨fuel as, rfl⟩
theorem has_is_integer (T : Txt K mg) (h_is_long_integer : Has P w K mg base "is_long_integer" 1 ["value"] F_is_long_integer) {f : Addr} {fd : FuncData} (Fu : Fun K "is_integer" "is_integer" s_is_integer f fd) (g : mg "is_integer" = some (.ref f)) : Has P w K mg base "is_integer" 2 ["value"] F_is_integer :=
  ⟨f, fd, g, Fu.kp, (Fu.binds (ps := ["value"]) (fun _ _ _ _ _ _ us hl => match us, hl with | [_], _ => rfl)), ok_is_integer T h_is_long_integer Fu⟩
theorem ok_are_integers (T : Txt K mg) (h_is_integer : Has P w K mg base "is_integer" 2 ["value"] F_is_integer) {f : Addr} {fd : FuncData} (Fu : Fun K "are_integers" "are_integers" s_are_integers f fd) : FnG P w K mg base (L2.CX P w) 3 f fd ["value"] (spD K 1 F_are_integers) :=
  fn_D (N := ["value", "item"]) Fu sc_are_integers B_are_integers (fun n cdv A outer s H E hr => d_are_integers T h_is_integer hr) fun as _ _ => ⟨fuel as, rfl⟩
theorem has_are_integers (T : Txt K mg) (h_is_integer : Has P w K mg base "is_integer" 2 ["value"] F_is_integer) {f : Addr} {fd : FuncData} (Fu : Fun K "are_integers" "are_integers" s_are_integers f fd) (g : mg "are_integers" = some (.ref f)) : Has P w K mg base "are_integers" 3 ["value"] F_are_integers :=
  ⟨f, fd, g, Fu.kp, (Fu.binds (ps := ["value"]) (fun _ _ _ _ _ _ us hl => match us, hl with | [_], _ => rfl)), ok_are_integers T h_is_integer Fu⟩
theorem ok_common_multiple (T : Txt K mg) (h_are_integers : Has P w K mg base "are_integers" 3 ["value"] F_are_integers) {f : Addr} {fd : FuncData} (Fu : Fun K "common_multiple" "common_multiple" s_common_multiple f fd) : FnG P w K mg base (L2.CX P w) 4 f fd ["numbers"] (spD K 1 F_common_multiple) :=
  fn_D (N := ["numbers", "multiple", "number"]) Fu sc_common_multiple B_common_multiple (fun n cdv A outer s H E hr => d_common_multiple T h_are_integers hr) fun as _ _ => ⟨fuel as, rfl⟩
theorem has_common_multiple (T : Txt K mg) (h_are_integers : Has P w K mg base "are_integers" 3 ["value"] F_are_integers) {f : Addr} {fd : FuncData} (Fu : Fun K "common_multiple" "common_multiple" s_common_multiple f fd) (g : mg "common_multiple" = some (.ref f)) : Has P w K mg base "common_multiple" 4 ["numbers"] F_common_multiple :=
  ⟨f, fd, g, Fu.kp, (Fu.binds (ps := ["numbers"]) (fun _ _ _ _ _ _ us hl => match us, hl with | [_], _ => rfl)), ok_common_multiple T h_are_integers Fu⟩
theorem ok_does_tell_row (T : Txt K mg) (h_common_multiple : Has P w K mg base "common_multiple" 4 ["numbers"] F_common_multiple) {f : Addr} {fd : FuncData} (Fu : Fun K "does_tell_row" "does_tell_row" s_does_tell_row f fd) : FnG P w K mg base (L2.CX P w) 5 f fd ["members"] (spD K 1 F_does_tell_row) :=
  fn_D (N := ["members", "counts", "count"]) Fu sc_does_tell_row B_does_tell_row (fun n cdv A outer s H E hr => d_does_tell_row T h_common_multiple hr) fun as _ _ => ⟨fuel as, rfl⟩
theorem has_does_tell_row (T : Txt K mg) (h_common_multiple : Has P w K mg base "common_multiple" 4 ["numbers"] F_common_multiple) {f : Addr} {fd : FuncData} (Fu : Fun K "does_tell_row" "does_tell_row" s_does_tell_row f fd) (g : mg "does_tell_row" = some (.ref f)) : Has P w K mg base "does_tell_row" 5 ["members"] F_does_tell_row :=
  ⟨f, fd, g, Fu.kp, (Fu.binds (ps := ["members"]) (fun _ _ _ _ _ _ us hl => match us, hl with | [_], _ => rfl)), ok_does_tell_row T h_common_multiple Fu⟩
theorem ok_is_between (T : Txt K mg) (h_is_integer : Has P w K mg base "is_integer" 2 ["value"] F_is_integer) {f : Addr} {fd : FuncData} (Fu : Fun K "is_between" "is_between" s_is_between f fd) : FnG P w K mg base (L2.CX P w) 3 f fd ["value", "least", "most"] (spD K 3 F_is_between) :=
  fn_D (N := ["value", "least", "most"]) Fu sc_is_between B_is_between (fun n cdv A outer s H E hr => d_is_between T h_is_integer hr) fun as _ _ => ⟨fuel as, rfl⟩
theorem has_is_between (T : Txt K mg) (h_is_integer : Has P w K mg base "is_integer" 2 ["value"] F_is_integer) {f : Addr} {fd : FuncData} (Fu : Fun K "is_between" "is_between" s_is_between f fd) (g : mg "is_between" = some (.ref f)) : Has P w K mg base "is_between" 3 ["value", "least", "most"] F_is_between :=
  ⟨f, fd, g, Fu.kp, (Fu.binds (ps := ["value", "least", "most"]) (fun _ _ _ _ _ _ us hl => match us, hl with | [_, _, _], _ => rfl)), ok_is_between T h_is_integer Fu⟩
theorem ok_is_side (T : Txt K mg) (h_is_between : Has P w K mg base "is_between" 3 ["value", "least", "most"] F_is_between) {f : Addr} {fd : FuncData} (Fu : Fun K "is_side" "is_side" s_is_side f fd) : FnG P w K mg base (L2.CX P w) 4 f fd ["value"] (spD K 1 F_is_side) :=
  fn_D (N := ["value", "item"]) Fu sc_is_side B_is_side (fun n cdv A outer s H E hr => d_is_side T h_is_between hr) fun as _ _ => ⟨fuel as, rfl⟩
theorem has_is_side (T : Txt K mg) (h_is_between : Has P w K mg base "is_between" 3 ["value", "least", "most"] F_is_between) {f : Addr} {fd : FuncData} (Fu : Fun K "is_side" "is_side" s_is_side f fd) (g : mg "is_side" = some (.ref f)) : Has P w K mg base "is_side" 4 ["value"] F_is_side :=
  ⟨f, fd, g, Fu.kp, (Fu.binds (ps := ["value"]) (fun _ _ _ _ _ _ us hl => match us, hl with | [_], _ => rfl)), ok_is_side T h_is_between Fu⟩
theorem ok_Quotient___init__ (T : Txt K mg) (h_counted : Has P w K mg base "counted" 1 ["tops", "bottoms"] F_counted) (h_sides_of : Has P w K mg base "sides_of" 1 ["counts"] F_sides_of) (h_does_tell_row : Has P w K mg base "does_tell_row" 5 ["members"] F_does_tell_row) (h_is_side : Has P w K mg base "is_side" 4 ["value"] F_is_side) {f : Addr} {fd : FuncData} (Fu : Fun K "__init__" "Quotient.__init__" s_Quotient___init__ f fd) : FnG P w K mg base (L2.CX P w) 6 f fd ["self", "tops", "bottoms"] (spD K 3 F_Quotient___init__) :=
  fn_D (N := ["self", "tops", "bottoms", "members", "left", "right", "member"]) Fu sc_Quotient___init__ B_Quotient___init__ (fun n cdv A outer s H E hr => d_Quotient___init__ T h_counted h_sides_of h_does_tell_row h_is_side hr) fun as _ _ => ⟨fuel as, rfl⟩
theorem has_Quotient___init__ (T : Txt K mg) (h_counted : Has P w K mg base "counted" 1 ["tops", "bottoms"] F_counted) (h_sides_of : Has P w K mg base "sides_of" 1 ["counts"] F_sides_of) (h_does_tell_row : Has P w K mg base "does_tell_row" 5 ["members"] F_does_tell_row) (h_is_side : Has P w K mg base "is_side" 4 ["value"] F_is_side) {f C : Addr} {fd : FuncData} (Fu : Fun K "__init__" "Quotient.__init__" s_Quotient___init__ f fd) (t : ClsT K "Quotient" C) (M : Mk K C f) (g : mg "Quotient" = some (.ref C)) : HasMk P w K mg base "Quotient" 6 3 F_Quotient___init__ :=
  ⟨C, f, fd, ["self", "tops", "bottoms"], t, M, g, (Fu.binds (ps := ["self", "tops", "bottoms"]) (fun _ _ _ _ _ _ us hl => match us, hl with | [_, _, _], _ => rfl)), ok_Quotient___init__ T h_counted h_sides_of h_does_tell_row h_is_side Fu⟩
theorem ok_check_row (T : Txt K mg)  {f : Addr} {fd : FuncData} (Fu : Fun K "check_row" "check_row" s_check_row f fd) : FnG P w K mg base (L2.CX P w) 1 f fd ["row"] (spD K 1 F_check_row) :=
  fn_D (N := ["row"]) Fu sc_check_row B_check_row (fun n cdv A outer s H E hr => d_check_row T  hr) fun as _ _ => ⟨fuel as, rfl⟩
theorem has_check_row (T : Txt K mg)  {f : Addr} {fd : FuncData} (Fu : Fun K "check_row" "check_row" s_check_row f fd) (g : mg "check_row" = some (.ref f)) : Has P w K mg base "check_row" 1 ["row"] F_check_row :=
  ⟨f, fd, g, Fu.kp, (Fu.binds (ps := ["row"]) (fun _ _ _ _ _ _ us hl => match us, hl with | [_], _ => rfl)), ok_check_row T  Fu⟩
theorem ok_is_long_pair (T : Txt K mg) (h_is_long_integer : Has P w K mg base "is_long_integer" 1 ["value"] F_is_long_integer) {f : Addr} {fd : FuncData} (Fu : Fun K "is_long_pair" "is_long_pair" s_is_long_pair f fd) : FnG P w K mg base (L2.CX P w) 2 f fd ["value"] (spD K 1 F_is_long_pair) :=
  fn_D (N := ["value"]) Fu sc_is_long_pair B_is_long_pair (fun n cdv A outer s H E hr => d_is_long_pair T h_is_long_integer hr) fun as _ _ => ⟨fuel as, rfl⟩
theorem has_is_long_pair (T : Txt K mg) (h_is_long_integer : Has P w K mg base "is_long_integer" 1 ["value"] F_is_long_integer) {f : Addr} {fd : FuncData} (Fu : Fun K "is_long_pair" "is_long_pair" s_is_long_pair f fd) (g : mg "is_long_pair" = some (.ref f)) : Has P w K mg base "is_long_pair" 2 ["value"] F_is_long_pair :=
  ⟨f, fd, g, Fu.kp, (Fu.binds (ps := ["value"]) (fun _ _ _ _ _ _ us hl => match us, hl with | [_], _ => rfl)), ok_is_long_pair T h_is_long_integer Fu⟩
theorem ok_is_long_ratio (T : Txt K mg) (h_is_long_pair : Has P w K mg base "is_long_pair" 2 ["value"] F_is_long_pair) {f : Addr} {fd : FuncData} (Fu : Fun K "is_long_ratio" "is_long_ratio" s_is_long_ratio f fd) : FnG P w K mg base (L2.CX P w) 3 f fd ["value"] (spD K 1 F_is_long_ratio) :=
  fn_D (N := ["value"]) Fu sc_is_long_ratio B_is_long_ratio (fun n cdv A outer s H E hr => d_is_long_ratio T h_is_long_pair hr) fun as _ _ => ⟨fuel as, rfl⟩
theorem has_is_long_ratio (T : Txt K mg) (h_is_long_pair : Has P w K mg base "is_long_pair" 2 ["value"] F_is_long_pair) {f : Addr} {fd : FuncData} (Fu : Fun K "is_long_ratio" "is_long_ratio" s_is_long_ratio f fd) (g : mg "is_long_ratio" = some (.ref f)) : Has P w K mg base "is_long_ratio" 3 ["value"] F_is_long_ratio :=
  ⟨f, fd, g, Fu.kp, (Fu.binds (ps := ["value"]) (fun _ _ _ _ _ _ us hl => match us, hl with | [_], _ => rfl)), ok_is_long_ratio T h_is_long_pair Fu⟩
theorem ok_is_ratio (T : Txt K mg) (h_is_long_ratio : Has P w K mg base "is_long_ratio" 3 ["value"] F_is_long_ratio) (h_is_integer : Has P w K mg base "is_integer" 2 ["value"] F_is_integer) {f : Addr} {fd : FuncData} (Fu : Fun K "is_ratio" "is_ratio" s_is_ratio f fd) : FnG P w K mg base (L2.CX P w) 4 f fd ["value"] (spD K 1 F_is_ratio) :=
  fn_D (N := ["value"]) Fu sc_is_ratio B_is_ratio (fun n cdv A outer s H E hr => d_is_ratio T h_is_long_ratio h_is_integer hr) fun as _ _ => ⟨fuel as, rfl⟩
theorem has_is_ratio (T : Txt K mg) (h_is_long_ratio : Has P w K mg base "is_long_ratio" 3 ["value"] F_is_long_ratio) (h_is_integer : Has P w K mg base "is_integer" 2 ["value"] F_is_integer) {f : Addr} {fd : FuncData} (Fu : Fun K "is_ratio" "is_ratio" s_is_ratio f fd) (g : mg "is_ratio" = some (.ref f)) : Has P w K mg base "is_ratio" 4 ["value"] F_is_ratio :=
  ⟨f, fd, g, Fu.kp, (Fu.binds (ps := ["value"]) (fun _ _ _ _ _ _ us hl => match us, hl with | [_], _ => rfl)), ok_is_ratio T h_is_long_ratio h_is_integer Fu⟩
theorem ok_check_ratio (T : Txt K mg) (h_is_ratio : Has P w K mg base "is_ratio" 4 ["value"] F_is_ratio) {f : Addr} {fd : FuncData} (Fu : Fun K "check_ratio" "check_ratio" s_check_ratio f fd) : FnG P w K mg base (L2.CX P w) 5 f fd ["ratio"] (spD K 1 F_check_ratio) :=
  fn_D (N := ["ratio"]) Fu sc_check_ratio B_check_ratio (fun n cdv A outer s H E hr => d_check_ratio T h_is_ratio hr) fun as _ _ => ⟨fuel as, rfl⟩
theorem has_check_ratio (T : Txt K mg) (h_is_ratio : Has P w K mg base "is_ratio" 4 ["value"] F_is_ratio) {f : Addr} {fd : FuncData} (Fu : Fun K "check_ratio" "check_ratio" s_check_ratio f fd) (g : mg "check_ratio" = some (.ref f)) : Has P w K mg base "check_ratio" 5 ["ratio"] F_check_ratio :=
  ⟨f, fd, g, Fu.kp, (Fu.binds (ps := ["ratio"]) (fun _ _ _ _ _ _ us hl => match us, hl with | [_], _ => rfl)), ok_check_ratio T h_is_ratio Fu⟩
theorem ok_depth_at (T : Txt K mg) (it_Quotient : HasIt P w K mg base "Quotient" "_pairs") {f : Addr} {fd : FuncData} (Fu : Fun K "depth_at" "depth_at" s_depth_at f fd) : FnG P w K mg base (L2.CX P w) 2 f fd ["row", "ratio"] (spD K 2 F_depth_at) :=
  fn_D (N := ["row", "ratio", "member", "count"]) Fu sc_depth_at B_depth_at (fun n cdv A outer s H E hr => d_depth_at T it_Quotient hr) fun as _ _ => ⟨fuel as, rfl⟩
theorem has_depth_at (T : Txt K mg) (it_Quotient : HasIt P w K mg base "Quotient" "_pairs") {f : Addr} {fd : FuncData} (Fu : Fun K "depth_at" "depth_at" s_depth_at f fd) (g : mg "depth_at" = some (.ref f)) : Has P w K mg base "depth_at" 2 ["row", "ratio"] F_depth_at :=
  ⟨f, fd, g, Fu.kp, (Fu.binds (ps := ["row", "ratio"]) (fun _ _ _ _ _ _ us hl => match us, hl with | [_, _], _ => rfl)), ok_depth_at T it_Quotient Fu⟩
theorem ok_depth (T : Txt K mg) (h_check_row : Has P w K mg base "check_row" 1 ["row"] F_check_row) (h_check_ratio : Has P w K mg base "check_ratio" 5 ["ratio"] F_check_ratio) (h_depth_at : Has P w K mg base "depth_at" 2 ["row", "ratio"] F_depth_at) {f : Addr} {fd : FuncData} (Fu : Fun K "depth" "depth" s_depth f fd) : FnG P w K mg base (L2.CX P w) 6 f fd ["row", "ratio"] (spD K 2 F_depth) :=
  fn_D (N := ["row", "ratio"]) Fu sc_depth B_depth (fun n cdv A outer s H E hr => d_depth T h_check_row h_check_ratio h_depth_at hr) fun as _ _ => ⟨fuel as, rfl⟩
theorem has_depth (T : Txt K mg) (h_check_row : Has P w K mg base "check_row" 1 ["row"] F_check_row) (h_check_ratio : Has P w K mg base "check_ratio" 5 ["ratio"] F_check_ratio) (h_depth_at : Has P w K mg base "depth_at" 2 ["row", "ratio"] F_depth_at) {f : Addr} {fd : FuncData} (Fu : Fun K "depth" "depth" s_depth f fd) (g : mg "depth" = some (.ref f)) : Has P w K mg base "depth" 6 ["row", "ratio"] F_depth :=
  ⟨f, fd, g, Fu.kp, (Fu.binds (ps := ["row", "ratio"]) (fun _ _ _ _ _ _ us hl => match us, hl with | [_, _], _ => rfl)), ok_depth T h_check_row h_check_ratio h_depth_at Fu⟩
theorem ok_check_number (T : Txt K mg) (h_is_between : Has P w K mg base "is_between" 3 ["value", "least", "most"] F_is_between) {f : Addr} {fd : FuncData} (Fu : Fun K "check_number" "check_number" s_check_number f fd) : FnG P w K mg base (L2.CX P w) 4 f fd ["given", "least", "most"] (spD K 3 F_check_number) :=
  fn_D (N := ["given", "least", "most"]) Fu sc_check_number B_check_number (fun n cdv A outer s H E hr => d_check_number T h_is_between hr) fun as _ _ => ⟨fuel as, rfl⟩
theorem has_check_number (T : Txt K mg) (h_is_between : Has P w K mg base "is_between" 3 ["value", "least", "most"] F_is_between) {f : Addr} {fd : FuncData} (Fu : Fun K "check_number" "check_number" s_check_number f fd) (g : mg "check_number" = some (.ref f)) : Has P w K mg base "check_number" 4 ["given", "least", "most"] F_check_number :=
  ⟨f, fd, g, Fu.kp, (Fu.binds (ps := ["given", "least", "most"]) (fun _ _ _ _ _ _ us hl => match us, hl with | [_, _, _], _ => rfl)), ok_check_number T h_is_between Fu⟩
theorem ok_jump_of (T : Txt K mg) (it_Quotient : HasIt P w K mg base "Quotient" "_pairs") {f : Addr} {fd : FuncData} (Fu : Fun K "jump_of" "jump_of" s_jump_of f fd) : FnG P w K mg base (L2.CX P w) 2 f fd ["row", "number"] (spD K 2 F_jump_of) :=
  fn_D (N := ["row", "number", "member", "count"]) Fu sc_jump_of B_jump_of (fun n cdv A outer s H E hr => d_jump_of T it_Quotient hr) fun as _ _ => ⟨fuel as, rfl⟩
theorem has_jump_of (T : Txt K mg) (it_Quotient : HasIt P w K mg base "Quotient" "_pairs") {f : Addr} {fd : FuncData} (Fu : Fun K "jump_of" "jump_of" s_jump_of f fd) (g : mg "jump_of" = some (.ref f)) : Has P w K mg base "jump_of" 2 ["row", "number"] F_jump_of :=
  ⟨f, fd, g, Fu.kp, (Fu.binds (ps := ["row", "number"]) (fun _ _ _ _ _ _ us hl => match us, hl with | [_, _], _ => rfl)), ok_jump_of T it_Quotient Fu⟩
theorem ok_jump (T : Txt K mg) (h_check_row : Has P w K mg base "check_row" 1 ["row"] F_check_row) (h_check_number : Has P w K mg base "check_number" 4 ["given", "least", "most"] F_check_number) (h_jump_of : Has P w K mg base "jump_of" 2 ["row", "number"] F_jump_of) {f : Addr} {fd : FuncData} (Fu : Fun K "jump" "jump" s_jump f fd) : FnG P w K mg base (L2.CX P w) 5 f fd ["row", "number"] (spD K 2 F_jump) :=
  fn_D (N := ["row", "number"]) Fu sc_jump B_jump (fun n cdv A outer s H E hr => d_jump T h_check_row h_check_number h_jump_of hr) fun as _ _ => ⟨fuel as, rfl⟩
theorem has_jump (T : Txt K mg) (h_check_row : Has P w K mg base "check_row" 1 ["row"] F_check_row) (h_check_number : Has P w K mg base "check_number" 4 ["given", "least", "most"] F_check_number) (h_jump_of : Has P w K mg base "jump_of" 2 ["row", "number"] F_jump_of) {f : Addr} {fd : FuncData} (Fu : Fun K "jump" "jump" s_jump f fd) (g : mg "jump" = some (.ref f)) : Has P w K mg base "jump" 5 ["row", "number"] F_jump :=
  ⟨f, fd, g, Fu.kp, (Fu.binds (ps := ["row", "number"]) (fun _ _ _ _ _ _ us hl => match us, hl with | [_, _], _ => rfl)), ok_jump T h_check_row h_check_number h_jump_of Fu⟩
theorem ok_q_grab (T : Txt K mg)  {f : Addr} {fd : FuncData} (Fu : Fun K "_law_grab" "_law_grab" s_q_grab f fd) : FnG P w K mg base (L2.CX P w) 1 f fd ["_law_bag_here", "_law_total"] (spD K 2 F_q_grab) :=
  fn_D (N := ["_law_bag_here", "_law_total", "_law_found", "_law_one", "_law_two"]) Fu sc_q_grab B_q_grab (fun n cdv A outer s H E hr => d_q_grab T  hr) fun as _ _ => ⟨fuel as, rfl⟩
theorem has_q_grab (T : Txt K mg)  {f : Addr} {fd : FuncData} (Fu : Fun K "_law_grab" "_law_grab" s_q_grab f fd) (g : mg "_law_grab" = some (.ref f)) : Has P w K mg base "_law_grab" 1 ["_law_bag_here", "_law_total"] F_q_grab :=
  ⟨f, fd, g, Fu.kp, (Fu.binds (ps := ["_law_bag_here", "_law_total"]) (fun _ _ _ _ _ _ us hl => match us, hl with | [_, _], _ => rfl)), ok_q_grab T  Fu⟩
theorem ok_q_one_of (T : Txt K mg) (h_q_grab : Has P w K mg base "_law_grab" 1 ["_law_bag_here", "_law_total"] F_q_grab) {f : Addr} {fd : FuncData} (Fu : Fun K "_law_one_of" "_law_one_of" s_q_one_of f fd) : FnG P w K mg base (L2.CX P w) 2 f fd ["_law_bag_here", "_law_items"] (spD K 2 F_q_one_of) :=
  fn_D (N := ["_law_bag_here", "_law_items"]) Fu sc_q_one_of B_q_one_of (fun n cdv A outer s H E hr => d_q_one_of T h_q_grab hr) fun as _ _ => ⟨fuel as, rfl⟩
theorem has_q_one_of (T : Txt K mg) (h_q_grab : Has P w K mg base "_law_grab" 1 ["_law_bag_here", "_law_total"] F_q_grab) {f : Addr} {fd : FuncData} (Fu : Fun K "_law_one_of" "_law_one_of" s_q_one_of f fd) (g : mg "_law_one_of" = some (.ref f)) : Has P w K mg base "_law_one_of" 2 ["_law_bag_here", "_law_items"] F_q_one_of :=
  ⟨f, fd, g, Fu.kp, (Fu.binds (ps := ["_law_bag_here", "_law_items"]) (fun _ _ _ _ _ _ us hl => match us, hl with | [_, _], _ => rfl)), ok_q_one_of T h_q_grab Fu⟩
theorem ok_q_told_balanced (T : Txt K mg) (h_q_grab : Has P w K mg base "_law_grab" 1 ["_law_bag_here", "_law_total"] F_q_grab) (h_q_one_of : Has P w K mg base "_law_one_of" 2 ["_law_bag_here", "_law_items"] F_q_one_of) {f : Addr} {fd : FuncData} (Fu : Fun K "_law_told_balanced" "_law_told_balanced" s_q_told_balanced f fd) : FnG P w K mg base (L2.CX P w) 3 f fd ["_law_bag_here"] (spD K 1 F_q_told_balanced) :=
  fn_D (N := ["_law_bag_here", "_law_way", "_law_a", "_law_b", "_law_apart", "_law_turn", "_law_pieces", "_law_some", "_law_gap", "_law_found", "_law_one"]) Fu sc_q_told_balanced B_q_told_balanced (fun n cdv A outer s H E hr => d_q_told_balanced T h_q_grab h_q_one_of hr) fun as _ _ => ⟨fuel as, rfl⟩
theorem has_q_told_balanced (T : Txt K mg) (h_q_grab : Has P w K mg base "_law_grab" 1 ["_law_bag_here", "_law_total"] F_q_grab) (h_q_one_of : Has P w K mg base "_law_one_of" 2 ["_law_bag_here", "_law_items"] F_q_one_of) {f : Addr} {fd : FuncData} (Fu : Fun K "_law_told_balanced" "_law_told_balanced" s_q_told_balanced f fd) (g : mg "_law_told_balanced" = some (.ref f)) : Has P w K mg base "_law_told_balanced" 3 ["_law_bag_here"] F_q_told_balanced :=
  ⟨f, fd, g, Fu.kp, (Fu.binds (ps := ["_law_bag_here"]) (fun _ _ _ _ _ _ us hl => match us, hl with | [_], _ => rfl)), ok_q_told_balanced T h_q_grab h_q_one_of Fu⟩
theorem ok_q_without_shared (T : Txt K mg)  {f : Addr} {fd : FuncData} (Fu : Fun K "_law_without_shared" "_law_without_shared" s_q_without_shared f fd) : FnG P w K mg base (L2.CX P w) 1 f fd ["_law_tops", "_law_bottoms"] (spD K 2 F_q_without_shared) :=
  fn_D (N := ["_law_tops", "_law_bottoms", "_law_left", "_law_found", "_law_top"]) Fu sc_q_without_shared B_q_without_shared (fun n cdv A outer s H E hr => d_q_without_shared T  hr) fun as _ _ => ⟨fuel as, rfl⟩
theorem has_q_without_shared (T : Txt K mg)  {f : Addr} {fd : FuncData} (Fu : Fun K "_law_without_shared" "_law_without_shared" s_q_without_shared f fd) (g : mg "_law_without_shared" = some (.ref f)) : Has P w K mg base "_law_without_shared" 1 ["_law_tops", "_law_bottoms"] F_q_without_shared :=
  ⟨f, fd, g, Fu.kp, (Fu.binds (ps := ["_law_tops", "_law_bottoms"]) (fun _ _ _ _ _ _ us hl => match us, hl with | [_, _], _ => rfl)), ok_q_without_shared T  Fu⟩
theorem ok_q_common (T : Txt K mg)  {f : Addr} {fd : FuncData} (Fu : Fun K "_law_common" "_law_common" s_q_common f fd) : FnG P w K mg base (L2.CX P w) 1 f fd ["_law_numbers"] (spD K 1 F_q_common) :=
  fn_D (N := ["_law_numbers", "_law_found", "_law_number", "_law_one", "_law_other"]) Fu sc_q_common B_q_common (fun n cdv A outer s H E hr => d_q_common T  hr) fun as _ _ => ⟨fuel as, rfl⟩
theorem has_q_common (T : Txt K mg)  {f : Addr} {fd : FuncData} (Fu : Fun K "_law_common" "_law_common" s_q_common f fd) (g : mg "_law_common" = some (.ref f)) : Has P w K mg base "_law_common" 1 ["_law_numbers"] F_q_common :=
  ⟨f, fd, g, Fu.kp, (Fu.binds (ps := ["_law_numbers"]) (fun _ _ _ _ _ _ us hl => match us, hl with | [_], _ => rfl)), ok_q_common T  Fu⟩
theorem ok_q_multiple (T : Txt K mg) (h_q_common : Has P w K mg base "_law_common" 1 ["_law_numbers"] F_q_common) {f : Addr} {fd : FuncData} (Fu : Fun K "_law_multiple" "_law_multiple" s_q_multiple f fd) : FnG P w K mg base (L2.CX P w) 2 f fd ["_law_numbers"] (spD K 1 F_q_multiple) :=
  fn_D (N := ["_law_numbers", "_law_found", "_law_number"]) Fu sc_q_multiple B_q_multiple (fun n cdv A outer s H E hr => d_q_multiple T h_q_common hr) fun as _ _ => ⟨fuel as, rfl⟩
theorem has_q_multiple (T : Txt K mg) (h_q_common : Has P w K mg base "_law_common" 1 ["_law_numbers"] F_q_common) {f : Addr} {fd : FuncData} (Fu : Fun K "_law_multiple" "_law_multiple" s_q_multiple f fd) (g : mg "_law_multiple" = some (.ref f)) : Has P w K mg base "_law_multiple" 2 ["_law_numbers"] F_q_multiple :=
  ⟨f, fd, g, Fu.kp, (Fu.binds (ps := ["_law_numbers"]) (fun _ _ _ _ _ _ us hl => match us, hl with | [_], _ => rfl)), ok_q_multiple T h_q_common Fu⟩
theorem ok_q_is_row_let (T : Txt K mg) (h_q_multiple : Has P w K mg base "_law_multiple" 2 ["_law_numbers"] F_q_multiple) {f : Addr} {fd : FuncData} (Fu : Fun K "_law_is_row_let" "_law_is_row_let" s_q_is_row_let f fd) : FnG P w K mg base (L2.CX P w) 3 f fd ["_law_tops", "_law_bottoms"] (spD K 2 F_q_is_row_let) :=
  fn_D (N := ["_law_tops", "_law_bottoms", "_law_members"]) Fu sc_q_is_row_let B_q_is_row_let (fun n cdv A outer s H E hr => d_q_is_row_let T h_q_multiple hr) fun as _ _ => ⟨fuel as, rfl⟩
theorem has_q_is_row_let (T : Txt K mg) (h_q_multiple : Has P w K mg base "_law_multiple" 2 ["_law_numbers"] F_q_multiple) {f : Addr} {fd : FuncData} (Fu : Fun K "_law_is_row_let" "_law_is_row_let" s_q_is_row_let f fd) (g : mg "_law_is_row_let" = some (.ref f)) : Has P w K mg base "_law_is_row_let" 3 ["_law_tops", "_law_bottoms"] F_q_is_row_let :=
  ⟨f, fd, g, Fu.kp, (Fu.binds (ps := ["_law_tops", "_law_bottoms"]) (fun _ _ _ _ _ _ us hl => match us, hl with | [_, _], _ => rfl)), ok_q_is_row_let T h_q_multiple Fu⟩
theorem ok_q_any_balanced (T : Txt K mg) (h_q_one_of : Has P w K mg base "_law_one_of" 2 ["_law_bag_here", "_law_items"] F_q_one_of) (h_q_told_balanced : Has P w K mg base "_law_told_balanced" 3 ["_law_bag_here"] F_q_told_balanced) (h_q_without_shared : Has P w K mg base "_law_without_shared" 1 ["_law_tops", "_law_bottoms"] F_q_without_shared) (h_q_grab : Has P w K mg base "_law_grab" 1 ["_law_bag_here", "_law_total"] F_q_grab) (h_q_is_row_let : Has P w K mg base "_law_is_row_let" 3 ["_law_tops", "_law_bottoms"] F_q_is_row_let) {f : Addr} {fd : FuncData} (Fu : Fun K "_law_any_balanced" "_law_any_balanced" s_q_any_balanced f fd) : FnG P w K mg base (L2.CX P w) 4 f fd ["_law_bag_here"] (spD K 1 F_q_any_balanced) :=
  fn_D (N := ["_law_bag_here", "_law_many", "_law_tops", "_law_bottoms", "_law_one", "_law_more"]) Fu sc_q_any_balanced B_q_any_balanced (fun n cdv A outer s H E hr => d_q_any_balanced T h_q_one_of h_q_told_balanced h_q_without_shared h_q_grab h_q_is_row_let hr) fun as _ _ => ⟨fuel as, rfl⟩
theorem has_q_any_balanced (T : Txt K mg) (h_q_one_of : Has P w K mg base "_law_one_of" 2 ["_law_bag_here", "_law_items"] F_q_one_of) (h_q_told_balanced : Has P w K mg base "_law_told_balanced" 3 ["_law_bag_here"] F_q_told_balanced) (h_q_without_shared : Has P w K mg base "_law_without_shared" 1 ["_law_tops", "_law_bottoms"] F_q_without_shared) (h_q_grab : Has P w K mg base "_law_grab" 1 ["_law_bag_here", "_law_total"] F_q_grab) (h_q_is_row_let : Has P w K mg base "_law_is_row_let" 3 ["_law_tops", "_law_bottoms"] F_q_is_row_let) {f : Addr} {fd : FuncData} (Fu : Fun K "_law_any_balanced" "_law_any_balanced" s_q_any_balanced f fd) (g : mg "_law_any_balanced" = some (.ref f)) : Has P w K mg base "_law_any_balanced" 4 ["_law_bag_here"] F_q_any_balanced :=
  ⟨f, fd, g, Fu.kp, (Fu.binds (ps := ["_law_bag_here"]) (fun _ _ _ _ _ _ us hl => match us, hl with | [_], _ => rfl)), ok_q_any_balanced T h_q_one_of h_q_told_balanced h_q_without_shared h_q_grab h_q_is_row_let Fu⟩
theorem ok_q_row_drawn (T : Txt K mg) (h_q_any_balanced : Has P w K mg base "_law_any_balanced" 4 ["_law_bag_here"] F_q_any_balanced) (h_q_without_shared : Has P w K mg base "_law_without_shared" 1 ["_law_tops", "_law_bottoms"] F_q_without_shared) (h_q_grab : Has P w K mg base "_law_grab" 1 ["_law_bag_here", "_law_total"] F_q_grab) (h_q_one_of : Has P w K mg base "_law_one_of" 2 ["_law_bag_here", "_law_items"] F_q_one_of) (h_q_is_row_let : Has P w K mg base "_law_is_row_let" 3 ["_law_tops", "_law_bottoms"] F_q_is_row_let) {f : Addr} {fd : FuncData} (Fu : Fun K "_law_row_drawn" "_law_row_drawn" s_q_row_drawn f fd) : FnG P w K mg base (L2.CX P w) 5 f fd ["_law_bag_here"] (spD K 1 F_q_row_drawn) :=
  fn_D (N := ["_law_bag_here", "_law_tops", "_law_bottoms", "_law_way", "_law_here", "_law_at", "_law_more", "_law_near", "_law_under"]) Fu sc_q_row_drawn B_q_row_drawn (fun n cdv A outer s H E hr => d_q_row_drawn T h_q_any_balanced h_q_without_shared h_q_grab h_q_one_of h_q_is_row_let hr) fun as _ _ => ⟨fuel as, rfl⟩
theorem has_q_row_drawn (T : Txt K mg) (h_q_any_balanced : Has P w K mg base "_law_any_balanced" 4 ["_law_bag_here"] F_q_any_balanced) (h_q_without_shared : Has P w K mg base "_law_without_shared" 1 ["_law_tops", "_law_bottoms"] F_q_without_shared) (h_q_grab : Has P w K mg base "_law_grab" 1 ["_law_bag_here", "_law_total"] F_q_grab) (h_q_one_of : Has P w K mg base "_law_one_of" 2 ["_law_bag_here", "_law_items"] F_q_one_of) (h_q_is_row_let : Has P w K mg base "_law_is_row_let" 3 ["_law_tops", "_law_bottoms"] F_q_is_row_let) {f : Addr} {fd : FuncData} (Fu : Fun K "_law_row_drawn" "_law_row_drawn" s_q_row_drawn f fd) (g : mg "_law_row_drawn" = some (.ref f)) : Has P w K mg base "_law_row_drawn" 5 ["_law_bag_here"] F_q_row_drawn :=
  ⟨f, fd, g, Fu.kp, (Fu.binds (ps := ["_law_bag_here"]) (fun _ _ _ _ _ _ us hl => match us, hl with | [_], _ => rfl)), ok_q_row_drawn T h_q_any_balanced h_q_without_shared h_q_grab h_q_one_of h_q_is_row_let Fu⟩
theorem ok_q_lowest (T : Txt K mg) (h_q_common : Has P w K mg base "_law_common" 1 ["_law_numbers"] F_q_common) {f : Addr} {fd : FuncData} (Fu : Fun K "_law_lowest" "_law_lowest" s_q_lowest f fd) : FnG P w K mg base (L2.CX P w) 2 f fd ["_law_top", "_law_bottom"] (spD K 2 F_q_lowest) :=
  fn_D (N := ["_law_top", "_law_bottom", "_law_shared"]) Fu sc_q_lowest B_q_lowest (fun n cdv A outer s H E hr => d_q_lowest T h_q_common hr) fun as _ _ => ⟨fuel as, rfl⟩
theorem has_q_lowest (T : Txt K mg) (h_q_common : Has P w K mg base "_law_common" 1 ["_law_numbers"] F_q_common) {f : Addr} {fd : FuncData} (Fu : Fun K "_law_lowest" "_law_lowest" s_q_lowest f fd) (g : mg "_law_lowest" = some (.ref f)) : Has P w K mg base "_law_lowest" 2 ["_law_top", "_law_bottom"] F_q_lowest :=
  ⟨f, fd, g, Fu.kp, (Fu.binds (ps := ["_law_top", "_law_bottom"]) (fun _ _ _ _ _ _ us hl => match us, hl with | [_, _], _ => rfl)), ok_q_lowest T h_q_common Fu⟩
theorem ok_q_some_ratio (T : Txt K mg) (h_q_lowest : Has P w K mg base "_law_lowest" 2 ["_law_top", "_law_bottom"] F_q_lowest) (h_q_grab : Has P w K mg base "_law_grab" 1 ["_law_bag_here", "_law_total"] F_q_grab) (h_q_one_of : Has P w K mg base "_law_one_of" 2 ["_law_bag_here", "_law_items"] F_q_one_of) {f : Addr} {fd : FuncData} (Fu : Fun K "_law_some_ratio" "_law_some_ratio" s_q_some_ratio f fd) : FnG P w K mg base (L2.CX P w) 3 f fd ["_law_bag_here", "_law_member"] (spD K 2 F_q_some_ratio) :=
  fn_D (N := ["_law_bag_here", "_law_member", "_law_way", "_law_most"]) Fu sc_q_some_ratio B_q_some_ratio (fun n cdv A outer s H E hr => d_q_some_ratio T h_q_lowest h_q_grab h_q_one_of hr) fun as _ _ => ⟨fuel as, rfl⟩
theorem has_q_some_ratio (T : Txt K mg) (h_q_lowest : Has P w K mg base "_law_lowest" 2 ["_law_top", "_law_bottom"] F_q_lowest) (h_q_grab : Has P w K mg base "_law_grab" 1 ["_law_bag_here", "_law_total"] F_q_grab) (h_q_one_of : Has P w K mg base "_law_one_of" 2 ["_law_bag_here", "_law_items"] F_q_one_of) {f : Addr} {fd : FuncData} (Fu : Fun K "_law_some_ratio" "_law_some_ratio" s_q_some_ratio f fd) (g : mg "_law_some_ratio" = some (.ref f)) : Has P w K mg base "_law_some_ratio" 3 ["_law_bag_here", "_law_member"] F_q_some_ratio :=
  ⟨f, fd, g, Fu.kp, (Fu.binds (ps := ["_law_bag_here", "_law_member"]) (fun _ _ _ _ _ _ us hl => match us, hl with | [_, _], _ => rfl)), ok_q_some_ratio T h_q_lowest h_q_grab h_q_one_of Fu⟩
theorem ok_q_depth (T : Txt K mg)  {f : Addr} {fd : FuncData} (Fu : Fun K "_law_depth" "_law_depth" s_q_depth f fd) : FnG P w K mg base (L2.CX P w) 1 f fd ["_law_tops", "_law_bottoms", "_law_ratio"] (spD K 3 F_q_depth) :=
  fn_D (N := ["_law_tops", "_law_bottoms", "_law_ratio", "_law_top", "_law_bottom", "_law_member"]) Fu sc_q_depth B_q_depth (fun n cdv A outer s H E hr => d_q_depth T  hr) fun as _ _ => ⟨fuel as, rfl⟩
theorem has_q_depth (T : Txt K mg)  {f : Addr} {fd : FuncData} (Fu : Fun K "_law_depth" "_law_depth" s_q_depth f fd) (g : mg "_law_depth" = some (.ref f)) : Has P w K mg base "_law_depth" 1 ["_law_tops", "_law_bottoms", "_law_ratio"] F_q_depth :=
  ⟨f, fd, g, Fu.kp, (Fu.binds (ps := ["_law_tops", "_law_bottoms", "_law_ratio"]) (fun _ _ _ _ _ _ us hl => match us, hl with | [_, _, _], _ => rfl)), ok_q_depth T  Fu⟩
theorem ok_q_jump (T : Txt K mg)  {f : Addr} {fd : FuncData} (Fu : Fun K "_law_jump" "_law_jump" s_q_jump f fd) : FnG P w K mg base (L2.CX P w) 1 f fd ["_law_tops", "_law_bottoms", "_law_number"] (spD K 3 F_q_jump) :=
  fn_D (N := ["_law_tops", "_law_bottoms", "_law_number", "_law_one"]) Fu sc_q_jump B_q_jump (fun n cdv A outer s H E hr => d_q_jump T  hr) fun as _ _ => ⟨fuel as, rfl⟩
theorem has_q_jump (T : Txt K mg)  {f : Addr} {fd : FuncData} (Fu : Fun K "_law_jump" "_law_jump" s_q_jump f fd) (g : mg "_law_jump" = some (.ref f)) : Has P w K mg base "_law_jump" 1 ["_law_tops", "_law_bottoms", "_law_number"] F_q_jump :=
  ⟨f, fd, g, Fu.kp, (Fu.binds (ps := ["_law_tops", "_law_bottoms", "_law_number"]) (fun _ _ _ _ _ _ us hl => match us, hl with | [_, _, _], _ => rfl)), ok_q_jump T  Fu⟩
theorem ok_q_ratio_sum (T : Txt K mg) (h_q_lowest : Has P w K mg base "_law_lowest" 2 ["_law_top", "_law_bottom"] F_q_lowest) {f : Addr} {fd : FuncData} (Fu : Fun K "_law_ratio_sum" "_law_ratio_sum" s_q_ratio_sum f fd) : FnG P w K mg base (L2.CX P w) 3 f fd ["_law_one", "_law_other", "_law_factor"] (spD K 3 F_q_ratio_sum) :=
  fn_D (N := ["_law_one", "_law_other", "_law_factor"]) Fu sc_q_ratio_sum B_q_ratio_sum (fun n cdv A outer s H E hr => d_q_ratio_sum T h_q_lowest hr) fun as _ _ => ⟨fuel as, rfl⟩
theorem has_q_ratio_sum (T : Txt K mg) (h_q_lowest : Has P w K mg base "_law_lowest" 2 ["_law_top", "_law_bottom"] F_q_lowest) {f : Addr} {fd : FuncData} (Fu : Fun K "_law_ratio_sum" "_law_ratio_sum" s_q_ratio_sum f fd) (g : mg "_law_ratio_sum" = some (.ref f)) : Has P w K mg base "_law_ratio_sum" 3 ["_law_one", "_law_other", "_law_factor"] F_q_ratio_sum :=
  ⟨f, fd, g, Fu.kp, (Fu.binds (ps := ["_law_one", "_law_other", "_law_factor"]) (fun _ _ _ _ _ _ us hl => match us, hl with | [_, _, _], _ => rfl)), ok_q_ratio_sum T h_q_lowest Fu⟩
theorem ok_q_right (T : Txt K mg) (h_q_row_drawn : Has P w K mg base "_law_row_drawn" 5 ["_law_bag_here"] F_q_row_drawn) (h_Quotient___init__ : HasMk P w K mg base "Quotient" 6 3 F_Quotient___init__) (h_q_some_ratio : Has P w K mg base "_law_some_ratio" 3 ["_law_bag_here", "_law_member"] F_q_some_ratio) (h_q_one_of : Has P w K mg base "_law_one_of" 2 ["_law_bag_here", "_law_items"] F_q_one_of) (h_q_depth : Has P w K mg base "_law_depth" 1 ["_law_tops", "_law_bottoms", "_law_ratio"] F_q_depth) (h_q_grab : Has P w K mg base "_law_grab" 1 ["_law_bag_here", "_law_total"] F_q_grab) (h_depth : Has P w K mg base "depth" 6 ["row", "ratio"] F_depth) (h_jump : Has P w K mg base "jump" 5 ["row", "number"] F_jump) (h_q_jump : Has P w K mg base "_law_jump" 1 ["_law_tops", "_law_bottoms", "_law_number"] F_q_jump) (h_q_ratio_sum : Has P w K mg base "_law_ratio_sum" 3 ["_law_one", "_law_other", "_law_factor"] F_q_ratio_sum) {f : Addr} {fd : FuncData} (Fu : Fun K "_law_right" "_law_right" s_q_right f fd) : FnG P w K mg base (L2.CX P w) 8 f fd ["_law_bag_here"] (spD K 1 F_q_right) :=
  fn_D (N := ["_law_bag_here", "_law_tops", "_law_bottoms", "_law_row", "_law_excess", "_law_height", "_law_members", "_law_turn", "_law_ratio", "_law_here", "_law_many", "_law_mirrored", "_law_number"]) Fu sc_q_right B_q_right (fun n cdv A outer s H E hr => d_q_right T h_q_row_drawn h_Quotient___init__ h_q_some_ratio h_q_one_of h_q_depth h_q_grab h_depth h_jump h_q_jump h_q_ratio_sum hr) fun as _ _ => ⟨fuel as, rfl⟩
theorem has_q_right (T : Txt K mg) (h_q_row_drawn : Has P w K mg base "_law_row_drawn" 5 ["_law_bag_here"] F_q_row_drawn) (h_Quotient___init__ : HasMk P w K mg base "Quotient" 6 3 F_Quotient___init__) (h_q_some_ratio : Has P w K mg base "_law_some_ratio" 3 ["_law_bag_here", "_law_member"] F_q_some_ratio) (h_q_one_of : Has P w K mg base "_law_one_of" 2 ["_law_bag_here", "_law_items"] F_q_one_of) (h_q_depth : Has P w K mg base "_law_depth" 1 ["_law_tops", "_law_bottoms", "_law_ratio"] F_q_depth) (h_q_grab : Has P w K mg base "_law_grab" 1 ["_law_bag_here", "_law_total"] F_q_grab) (h_depth : Has P w K mg base "depth" 6 ["row", "ratio"] F_depth) (h_jump : Has P w K mg base "jump" 5 ["row", "number"] F_jump) (h_q_jump : Has P w K mg base "_law_jump" 1 ["_law_tops", "_law_bottoms", "_law_number"] F_q_jump) (h_q_ratio_sum : Has P w K mg base "_law_ratio_sum" 3 ["_law_one", "_law_other", "_law_factor"] F_q_ratio_sum) {f : Addr} {fd : FuncData} (Fu : Fun K "_law_right" "_law_right" s_q_right f fd) (g : mg "_law_right" = some (.ref f)) : Has P w K mg base "_law_right" 8 ["_law_bag_here"] F_q_right :=
  ⟨f, fd, g, Fu.kp, (Fu.binds (ps := ["_law_bag_here"]) (fun _ _ _ _ _ _ us hl => match us, hl with | [_], _ => rfl)), ok_q_right T h_q_row_drawn h_Quotient___init__ h_q_some_ratio h_q_one_of h_q_depth h_q_grab h_depth h_jump h_q_jump h_q_ratio_sum Fu⟩
theorem ok_law (T : Txt K mg) (h_q_bag : Has P w K mg base "_law_bag" 1 ["_law_script", "_law_spot"] F_q_bag) (h_Quotient___init__ : HasMk P w K mg base "Quotient" 6 3 F_Quotient___init__) (h_depth : Has P w K mg base "depth" 6 ["row", "ratio"] F_depth) (h_jump : Has P w K mg base "jump" 5 ["row", "number"] F_jump) (h_q_right : Has P w K mg base "_law_right" 8 ["_law_bag_here"] F_q_right) {f : Addr} {fd : FuncData} (Fu : Fun K "law" "law" s_law f fd) : FnG P w K mg base (L2.CX P w) 9 f fd ["_law_script"] (spD K 1 F_law) :=
  fn_D (N := ["_law_script", "_law_spot", "_law_bag_here", "_law_great", "_law_broken", "_law_told"]) Fu sc_law B_law (fun n cdv A outer s H E hr => d_law T h_q_bag h_Quotient___init__ h_depth h_jump h_q_right hr) fun as _ _ => ⟨fuel as, rfl⟩
theorem itf_Quotient (T : Txt K mg) {f C : Addr} {fd : FuncData} (Fu : Fun K "__iter__" "Quotient.__iter__" s_Quotient___iter__ f fd) (t : ClsT K "Quotient" C) (nf : NoAttr K C "_pairs") (h1 : PySem.W.findIn K (.ref C) "__iter__" = some (some (.ref f))) (h2 : PySem.W.isFn K (.ref f) = true) : HasIt P w K mg base "Quotient" "_pairs" :=
  ⟨C, f, fd, t, (Fu.binds (ps := ["self"]) (fun _ _ _ _ _ _ us hl => match us, hl with | [_], _ => rfl)), h1, h2, fnS_iter (N := ["self"]) Fu sc_Quotient___iter__ rfl rfl t.cl nf T.b_iter (.inl rfl) (fun _ _ _ _ _ _ => by rfl)⟩
end
theorem all_mk {l : PySem.W.OpenLaw} {w : World} {K : PySem.W.Frag} {h : Heap} {mg : Str → Option Value} {fa C0 f0 f1 f2 f3 f4 f5 f6 f7 f8 f9 f10 f11 f12 f13 f14 f15 f16 f17 f18 f19 f20 f21 f22 f23 f24 f25 f26 f27 f28 f29 f30 f31 f32 f33 f34 f35 f36 f37 : Addr} (X : K.In h) (G : h.Ns mainGlobals mg) (hfa : mg "law" = some (.ref fa))
    {od0 an0 od1 an1 od2 an2 od3 an3 od4 an4 od5 an5 od6 an6 od7 an7 od8 an8 od9 an9 od10 an10 od11 an11 od12 an12 od13 an13 od14 an14 od15 an15 od16 an16 od17 an17 od18 an18 od19 an19 od20 an20 od21 an21 od22 an22 od23 an23 od24 an24 od25 an25 od26 an26 od27 an27 od28 an28 od29 an29 od30 an30 od31 an31 od32 an32 od33 an33 od34 an34 od35 an35 od36 an36 od37 an37 : Option Addr} {sl0 sl1 sl2 sl3 sl4 sl5 sl6 sl7 sl8 sl9 sl10 sl11 sl12 sl13 sl14 sl15 sl16 sl17 sl18 sl19 sl20 sl21 sl22 sl23 sl24 sl25 sl26 sl27 sl28 sl29 sl30 sl31 sl32 sl33 sl34 sl35 sl36 sl37 : Array (Option Value)} {oc0 kV0 dc0 pm0 cd0 ct0 oc1 kV1 dc1 pm1 cd1 ct1 oc2 kV2 dc2 pm2 cd2 ct2 oc3 kV3 dc3 pm3 cd3 ct3 oc4 kV4 dc4 pm4 cd4 ct4 oc5 kV5 dc5 pm5 cd5 ct5 oc6 kV6 dc6 pm6 cd6 ct6 oc7 kV7 dc7 pm7 cd7 ct7 oc8 kV8 dc8 pm8 cd8 ct8 oc9 kV9 dc9 pm9 cd9 ct9 oc10 kV10 dc10 pm10 cd10 ct10 oc11 kV11 dc11 pm11 cd11 ct11 oc12 kV12 dc12 pm12 cd12 ct12 oc13 kV13 dc13 pm13 cd13 ct13 oc14 kV14 dc14 pm14 cd14 ct14 oc15 kV15 dc15 pm15 cd15 ct15 oc16 kV16 dc16 pm16 cd16 ct16 oc17 kV17 dc17 pm17 cd17 ct17 oc18 kV18 dc18 pm18 cd18 ct18 oc19 kV19 dc19 pm19 cd19 ct19 oc20 kV20 dc20 pm20 cd20 ct20 oc21 kV21 dc21 pm21 cd21 ct21 oc22 kV22 dc22 pm22 cd22 ct22 oc23 kV23 dc23 pm23 cd23 ct23 oc24 kV24 dc24 pm24 cd24 ct24 oc25 kV25 dc25 pm25 cd25 ct25 oc26 kV26 dc26 pm26 cd26 ct26 oc27 kV27 dc27 pm27 cd27 ct27 oc28 kV28 dc28 pm28 cd28 ct28 oc29 kV29 dc29 pm29 cd29 ct29 oc30 kV30 dc30 pm30 cd30 ct30 oc31 kV31 dc31 pm31 cd31 ct31 oc32 kV32 dc32 pm32 cd32 ct32 oc33 kV33 dc33 pm33 cd33 ct33 oc34 kV34 dc34 pm34 cd34 ct34 oc35 kV35 dc35 pm35 cd35 ct35 oc36 kV36 dc36 pm36 cd36 ct36 oc37 kV37 dc37 pm37 cd37 ct37 : Value}
    {t_MAX_COMMON t_MAX_COUNT t_MAX_INTEGER t_MAX_MEMBER t_MAX_SIDE : Tok}
    (ns_C0 : PySem.W.nsIn K mainGlobals "Quotient" = some (some (.ref C0)))
    (pg_C0 : PySem.W.plainGet K C0 Str.empty = true)
    (hd_C0 : PySem.W.hasDictIn K C0 = true)
    (po_C0 : PySem.W.plainOver K C0 = true)
    (sa_C0 : PySem.W.findIn K (.ref C0) "__setattr__" = some (some (.builtin "object.__setattr__")))
    (mk_C0 : PySem.W.makesIn K C0 = true)
    (kc_C0 : PySem.W.keepIn K (.ref C0) = true)
    (na_C0__bottoms : PySem.W.findIn K (.ref C0) "_bottoms" = some none)
    (na_C0__pairs : PySem.W.findIn K (.ref C0) "_pairs" = some none)
    (na_C0__sides : PySem.W.findIn K (.ref C0) "_sides" = some none)
    (na_C0__tops : PySem.W.findIn K (.ref C0) "_tops" = some none)
    (ia_C0 : PySem.W.findIn K (.ref C0) "__class__" = some (some (.builtin "object.__class__")))
    (im_C0 : PySem.W.mroIn K C0 (.type "object") = some true)
    (ign : PySem.W.specialIn K (.builtin "object.__class__") "__get__" = some (some (.builtin "getset_descriptor.__get__")))
    (itk : PySem.W.takesIn K (.builtin "object.__class__") = some true)
    (a0 : PySem.W.nsIn K mainGlobals "_law_bag" = some (some (.ref f0))) (l0 : K.lookup f0 = some ⟨oc0, od0, .func (PySem.W.fnOf "_law_bag" "_law_bag" (defArgs s_q_bag) (defBody s_q_bag) (defScope s_q_bag) .none kV0 dc0 pm0 an0 cd0 ct0), sl0⟩) (c0 : PySem.W.codeIn K cd0 "_law_bag" = true) (k0 : PySem.W.keepIn K (.ref f0) = true)
    (a1 : PySem.W.nsIn K mainGlobals "counted" = some (some (.ref f1))) (l1 : K.lookup f1 = some ⟨oc1, od1, .func (PySem.W.fnOf "counted" "counted" (defArgs s_counted) (defBody s_counted) (defScope s_counted) .none kV1 dc1 pm1 an1 cd1 ct1), sl1⟩) (c1 : PySem.W.codeIn K cd1 "counted" = true) (k1 : PySem.W.keepIn K (.ref f1) = true)
    (a2 : PySem.W.nsIn K mainGlobals "sides_of" = some (some (.ref f2))) (l2 : K.lookup f2 = some ⟨oc2, od2, .func (PySem.W.fnOf "sides_of" "sides_of" (defArgs s_sides_of) (defBody s_sides_of) (defScope s_sides_of) .none kV2 dc2 pm2 an2 cd2 ct2), sl2⟩) (c2 : PySem.W.codeIn K cd2 "sides_of" = true) (k2 : PySem.W.keepIn K (.ref f2) = true)
    (a3 : PySem.W.nsIn K mainGlobals "is_long_integer" = some (some (.ref f3))) (l3 : K.lookup f3 = some ⟨oc3, od3, .func (PySem.W.fnOf "is_long_integer" "is_long_integer" (defArgs s_is_long_integer) (defBody s_is_long_integer) (defScope s_is_long_integer) .none kV3 dc3 pm3 an3 cd3 ct3), sl3⟩) (c3 : PySem.W.codeIn K cd3 "is_long_integer" = true) (k3 : PySem.W.keepIn K (.ref f3) = true)
    (a4 : PySem.W.nsIn K mainGlobals "is_integer" = some (some (.ref f4))) (l4 : K.lookup f4 = some ⟨oc4, od4, .func (PySem.W.fnOf "is_integer" "is_integer" (defArgs s_is_integer) (defBody s_is_integer) (defScope s_is_integer) .none kV4 dc4 pm4 an4 cd4 ct4), sl4⟩) (c4 : PySem.W.codeIn K cd4 "is_integer" = true) (k4 : PySem.W.keepIn K (.ref f4) = true)
    (a5 : PySem.W.nsIn K mainGlobals "are_integers" = some (some (.ref f5))) (l5 : K.lookup f5 = some ⟨oc5, od5, .func (PySem.W.fnOf "are_integers" "are_integers" (defArgs s_are_integers) (defBody s_are_integers) (defScope s_are_integers) .none kV5 dc5 pm5 an5 cd5 ct5), sl5⟩) (c5 : PySem.W.codeIn K cd5 "are_integers" = true) (k5 : PySem.W.keepIn K (.ref f5) = true)
    (a6 : PySem.W.nsIn K mainGlobals "common_multiple" = some (some (.ref f6))) (l6 : K.lookup f6 = some ⟨oc6, od6, .func (PySem.W.fnOf "common_multiple" "common_multiple" (defArgs s_common_multiple) (defBody s_common_multiple) (defScope s_common_multiple) .none kV6 dc6 pm6 an6 cd6 ct6), sl6⟩) (c6 : PySem.W.codeIn K cd6 "common_multiple" = true) (k6 : PySem.W.keepIn K (.ref f6) = true)
    (a7 : PySem.W.nsIn K mainGlobals "does_tell_row" = some (some (.ref f7))) (l7 : K.lookup f7 = some ⟨oc7, od7, .func (PySem.W.fnOf "does_tell_row" "does_tell_row" (defArgs s_does_tell_row) (defBody s_does_tell_row) (defScope s_does_tell_row) .none kV7 dc7 pm7 an7 cd7 ct7), sl7⟩) (c7 : PySem.W.codeIn K cd7 "does_tell_row" = true) (k7 : PySem.W.keepIn K (.ref f7) = true)
    (a8 : PySem.W.nsIn K mainGlobals "is_between" = some (some (.ref f8))) (l8 : K.lookup f8 = some ⟨oc8, od8, .func (PySem.W.fnOf "is_between" "is_between" (defArgs s_is_between) (defBody s_is_between) (defScope s_is_between) .none kV8 dc8 pm8 an8 cd8 ct8), sl8⟩) (c8 : PySem.W.codeIn K cd8 "is_between" = true) (k8 : PySem.W.keepIn K (.ref f8) = true)
    (a9 : PySem.W.nsIn K mainGlobals "is_side" = some (some (.ref f9))) (l9 : K.lookup f9 = some ⟨oc9, od9, .func (PySem.W.fnOf "is_side" "is_side" (defArgs s_is_side) (defBody s_is_side) (defScope s_is_side) .none kV9 dc9 pm9 an9 cd9 ct9), sl9⟩) (c9 : PySem.W.codeIn K cd9 "is_side" = true) (k9 : PySem.W.keepIn K (.ref f9) = true)
    (a10 : PySem.W.nsIn K mainGlobals "check_row" = some (some (.ref f10))) (l10 : K.lookup f10 = some ⟨oc10, od10, .func (PySem.W.fnOf "check_row" "check_row" (defArgs s_check_row) (defBody s_check_row) (defScope s_check_row) .none kV10 dc10 pm10 an10 cd10 ct10), sl10⟩) (c10 : PySem.W.codeIn K cd10 "check_row" = true) (k10 : PySem.W.keepIn K (.ref f10) = true)
    (a11 : PySem.W.nsIn K mainGlobals "is_long_pair" = some (some (.ref f11))) (l11 : K.lookup f11 = some ⟨oc11, od11, .func (PySem.W.fnOf "is_long_pair" "is_long_pair" (defArgs s_is_long_pair) (defBody s_is_long_pair) (defScope s_is_long_pair) .none kV11 dc11 pm11 an11 cd11 ct11), sl11⟩) (c11 : PySem.W.codeIn K cd11 "is_long_pair" = true) (k11 : PySem.W.keepIn K (.ref f11) = true)
    (a12 : PySem.W.nsIn K mainGlobals "is_long_ratio" = some (some (.ref f12))) (l12 : K.lookup f12 = some ⟨oc12, od12, .func (PySem.W.fnOf "is_long_ratio" "is_long_ratio" (defArgs s_is_long_ratio) (defBody s_is_long_ratio) (defScope s_is_long_ratio) .none kV12 dc12 pm12 an12 cd12 ct12), sl12⟩) (c12 : PySem.W.codeIn K cd12 "is_long_ratio" = true) (k12 : PySem.W.keepIn K (.ref f12) = true)
    (a13 : PySem.W.nsIn K mainGlobals "is_ratio" = some (some (.ref f13))) (l13 : K.lookup f13 = some ⟨oc13, od13, .func (PySem.W.fnOf "is_ratio" "is_ratio" (defArgs s_is_ratio) (defBody s_is_ratio) (defScope s_is_ratio) .none kV13 dc13 pm13 an13 cd13 ct13), sl13⟩) (c13 : PySem.W.codeIn K cd13 "is_ratio" = true) (k13 : PySem.W.keepIn K (.ref f13) = true)
    (a14 : PySem.W.nsIn K mainGlobals "check_ratio" = some (some (.ref f14))) (l14 : K.lookup f14 = some ⟨oc14, od14, .func (PySem.W.fnOf "check_ratio" "check_ratio" (defArgs s_check_ratio) (defBody s_check_ratio) (defScope s_check_ratio) .none kV14 dc14 pm14 an14 cd14 ct14), sl14⟩) (c14 : PySem.W.codeIn K cd14 "check_ratio" = true) (k14 : PySem.W.keepIn K (.ref f14) = true)
    (a15 : PySem.W.nsIn K mainGlobals "depth_at" = some (some (.ref f15))) (l15 : K.lookup f15 = some ⟨oc15, od15, .func (PySem.W.fnOf "depth_at" "depth_at" (defArgs s_depth_at) (defBody s_depth_at) (defScope s_depth_at) .none kV15 dc15 pm15 an15 cd15 ct15), sl15⟩) (c15 : PySem.W.codeIn K cd15 "depth_at" = true) (k15 : PySem.W.keepIn K (.ref f15) = true)
    (a16 : PySem.W.nsIn K mainGlobals "depth" = some (some (.ref f16))) (l16 : K.lookup f16 = some ⟨oc16, od16, .func (PySem.W.fnOf "depth" "depth" (defArgs s_depth) (defBody s_depth) (defScope s_depth) .none kV16 dc16 pm16 an16 cd16 ct16), sl16⟩) (c16 : PySem.W.codeIn K cd16 "depth" = true) (k16 : PySem.W.keepIn K (.ref f16) = true)
    (a17 : PySem.W.nsIn K mainGlobals "check_number" = some (some (.ref f17))) (l17 : K.lookup f17 = some ⟨oc17, od17, .func (PySem.W.fnOf "check_number" "check_number" (defArgs s_check_number) (defBody s_check_number) (defScope s_check_number) .none kV17 dc17 pm17 an17 cd17 ct17), sl17⟩) (c17 : PySem.W.codeIn K cd17 "check_number" = true) (k17 : PySem.W.keepIn K (.ref f17) = true)
    (a18 : PySem.W.nsIn K mainGlobals "jump_of" = some (some (.ref f18))) (l18 : K.lookup f18 = some ⟨oc18, od18, .func (PySem.W.fnOf "jump_of" "jump_of" (defArgs s_jump_of) (defBody s_jump_of) (defScope s_jump_of) .none kV18 dc18 pm18 an18 cd18 ct18), sl18⟩) (c18 : PySem.W.codeIn K cd18 "jump_of" = true) (k18 : PySem.W.keepIn K (.ref f18) = true)
    (a19 : PySem.W.nsIn K mainGlobals "jump" = some (some (.ref f19))) (l19 : K.lookup f19 = some ⟨oc19, od19, .func (PySem.W.fnOf "jump" "jump" (defArgs s_jump) (defBody s_jump) (defScope s_jump) .none kV19 dc19 pm19 an19 cd19 ct19), sl19⟩) (c19 : PySem.W.codeIn K cd19 "jump" = true) (k19 : PySem.W.keepIn K (.ref f19) = true)
    (a20 : PySem.W.nsIn K mainGlobals "_law_grab" = some (some (.ref f20))) (l20 : K.lookup f20 = some ⟨oc20, od20, .func (PySem.W.fnOf "_law_grab" "_law_grab" (defArgs s_q_grab) (defBody s_q_grab) (defScope s_q_grab) .none kV20 dc20 pm20 an20 cd20 ct20), sl20⟩) (c20 : PySem.W.codeIn K cd20 "_law_grab" = true) (k20 : PySem.W.keepIn K (.ref f20) = true)
    (a21 : PySem.W.nsIn K mainGlobals "_law_one_of" = some (some (.ref f21))) (l21 : K.lookup f21 = some ⟨oc21, od21, .func (PySem.W.fnOf "_law_one_of" "_law_one_of" (defArgs s_q_one_of) (defBody s_q_one_of) (defScope s_q_one_of) .none kV21 dc21 pm21 an21 cd21 ct21), sl21⟩) (c21 : PySem.W.codeIn K cd21 "_law_one_of" = true) (k21 : PySem.W.keepIn K (.ref f21) = true)
    (a22 : PySem.W.nsIn K mainGlobals "_law_told_balanced" = some (some (.ref f22))) (l22 : K.lookup f22 = some ⟨oc22, od22, .func (PySem.W.fnOf "_law_told_balanced" "_law_told_balanced" (defArgs s_q_told_balanced) (defBody s_q_told_balanced) (defScope s_q_told_balanced) .none kV22 dc22 pm22 an22 cd22 ct22), sl22⟩) (c22 : PySem.W.codeIn K cd22 "_law_told_balanced" = true) (k22 : PySem.W.keepIn K (.ref f22) = true)
    (a23 : PySem.W.nsIn K mainGlobals "_law_without_shared" = some (some (.ref f23))) (l23 : K.lookup f23 = some ⟨oc23, od23, .func (PySem.W.fnOf "_law_without_shared" "_law_without_shared" (defArgs s_q_without_shared) (defBody s_q_without_shared) (defScope s_q_without_shared) .none kV23 dc23 pm23 an23 cd23 ct23), sl23⟩) (c23 : PySem.W.codeIn K cd23 "_law_without_shared" = true) (k23 : PySem.W.keepIn K (.ref f23) = true)
    (a24 : PySem.W.nsIn K mainGlobals "_law_common" = some (some (.ref f24))) (l24 : K.lookup f24 = some ⟨oc24, od24, .func (PySem.W.fnOf "_law_common" "_law_common" (defArgs s_q_common) (defBody s_q_common) (defScope s_q_common) .none kV24 dc24 pm24 an24 cd24 ct24), sl24⟩) (c24 : PySem.W.codeIn K cd24 "_law_common" = true) (k24 : PySem.W.keepIn K (.ref f24) = true)
    (a25 : PySem.W.nsIn K mainGlobals "_law_multiple" = some (some (.ref f25))) (l25 : K.lookup f25 = some ⟨oc25, od25, .func (PySem.W.fnOf "_law_multiple" "_law_multiple" (defArgs s_q_multiple) (defBody s_q_multiple) (defScope s_q_multiple) .none kV25 dc25 pm25 an25 cd25 ct25), sl25⟩) (c25 : PySem.W.codeIn K cd25 "_law_multiple" = true) (k25 : PySem.W.keepIn K (.ref f25) = true)
    (a26 : PySem.W.nsIn K mainGlobals "_law_is_row_let" = some (some (.ref f26))) (l26 : K.lookup f26 = some ⟨oc26, od26, .func (PySem.W.fnOf "_law_is_row_let" "_law_is_row_let" (defArgs s_q_is_row_let) (defBody s_q_is_row_let) (defScope s_q_is_row_let) .none kV26 dc26 pm26 an26 cd26 ct26), sl26⟩) (c26 : PySem.W.codeIn K cd26 "_law_is_row_let" = true) (k26 : PySem.W.keepIn K (.ref f26) = true)
    (a27 : PySem.W.nsIn K mainGlobals "_law_any_balanced" = some (some (.ref f27))) (l27 : K.lookup f27 = some ⟨oc27, od27, .func (PySem.W.fnOf "_law_any_balanced" "_law_any_balanced" (defArgs s_q_any_balanced) (defBody s_q_any_balanced) (defScope s_q_any_balanced) .none kV27 dc27 pm27 an27 cd27 ct27), sl27⟩) (c27 : PySem.W.codeIn K cd27 "_law_any_balanced" = true) (k27 : PySem.W.keepIn K (.ref f27) = true)
    (a28 : PySem.W.nsIn K mainGlobals "_law_row_drawn" = some (some (.ref f28))) (l28 : K.lookup f28 = some ⟨oc28, od28, .func (PySem.W.fnOf "_law_row_drawn" "_law_row_drawn" (defArgs s_q_row_drawn) (defBody s_q_row_drawn) (defScope s_q_row_drawn) .none kV28 dc28 pm28 an28 cd28 ct28), sl28⟩) (c28 : PySem.W.codeIn K cd28 "_law_row_drawn" = true) (k28 : PySem.W.keepIn K (.ref f28) = true)
    (a29 : PySem.W.nsIn K mainGlobals "_law_lowest" = some (some (.ref f29))) (l29 : K.lookup f29 = some ⟨oc29, od29, .func (PySem.W.fnOf "_law_lowest" "_law_lowest" (defArgs s_q_lowest) (defBody s_q_lowest) (defScope s_q_lowest) .none kV29 dc29 pm29 an29 cd29 ct29), sl29⟩) (c29 : PySem.W.codeIn K cd29 "_law_lowest" = true) (k29 : PySem.W.keepIn K (.ref f29) = true)
    (a30 : PySem.W.nsIn K mainGlobals "_law_some_ratio" = some (some (.ref f30))) (l30 : K.lookup f30 = some ⟨oc30, od30, .func (PySem.W.fnOf "_law_some_ratio" "_law_some_ratio" (defArgs s_q_some_ratio) (defBody s_q_some_ratio) (defScope s_q_some_ratio) .none kV30 dc30 pm30 an30 cd30 ct30), sl30⟩) (c30 : PySem.W.codeIn K cd30 "_law_some_ratio" = true) (k30 : PySem.W.keepIn K (.ref f30) = true)
    (a31 : PySem.W.nsIn K mainGlobals "_law_depth" = some (some (.ref f31))) (l31 : K.lookup f31 = some ⟨oc31, od31, .func (PySem.W.fnOf "_law_depth" "_law_depth" (defArgs s_q_depth) (defBody s_q_depth) (defScope s_q_depth) .none kV31 dc31 pm31 an31 cd31 ct31), sl31⟩) (c31 : PySem.W.codeIn K cd31 "_law_depth" = true) (k31 : PySem.W.keepIn K (.ref f31) = true)
    (a32 : PySem.W.nsIn K mainGlobals "_law_jump" = some (some (.ref f32))) (l32 : K.lookup f32 = some ⟨oc32, od32, .func (PySem.W.fnOf "_law_jump" "_law_jump" (defArgs s_q_jump) (defBody s_q_jump) (defScope s_q_jump) .none kV32 dc32 pm32 an32 cd32 ct32), sl32⟩) (c32 : PySem.W.codeIn K cd32 "_law_jump" = true) (k32 : PySem.W.keepIn K (.ref f32) = true)
    (a33 : PySem.W.nsIn K mainGlobals "_law_ratio_sum" = some (some (.ref f33))) (l33 : K.lookup f33 = some ⟨oc33, od33, .func (PySem.W.fnOf "_law_ratio_sum" "_law_ratio_sum" (defArgs s_q_ratio_sum) (defBody s_q_ratio_sum) (defScope s_q_ratio_sum) .none kV33 dc33 pm33 an33 cd33 ct33), sl33⟩) (c33 : PySem.W.codeIn K cd33 "_law_ratio_sum" = true) (k33 : PySem.W.keepIn K (.ref f33) = true)
    (a34 : PySem.W.nsIn K mainGlobals "_law_right" = some (some (.ref f34))) (l34 : K.lookup f34 = some ⟨oc34, od34, .func (PySem.W.fnOf "_law_right" "_law_right" (defArgs s_q_right) (defBody s_q_right) (defScope s_q_right) .none kV34 dc34 pm34 an34 cd34 ct34), sl34⟩) (c34 : PySem.W.codeIn K cd34 "_law_right" = true) (k34 : PySem.W.keepIn K (.ref f34) = true)
    (a35 : PySem.W.nsIn K mainGlobals "law" = some (some (.ref f35))) (l35 : K.lookup f35 = some ⟨oc35, od35, .func (PySem.W.fnOf "law" "law" (defArgs s_law) (defBody s_law) (defScope s_law) .none kV35 dc35 pm35 an35 cd35 ct35), sl35⟩) (c35 : PySem.W.codeIn K cd35 "law" = true) (k35 : PySem.W.keepIn K (.ref f35) = true)
    (a36 : PySem.W.findIn K (.ref C0) "__init__" = some (some (.ref f36))) (i36 : PySem.W.isFn K (.ref f36) = true) (l36 : K.lookup f36 = some ⟨oc36, od36, .func (PySem.W.fnOf "__init__" "Quotient.__init__" (defArgs s_Quotient___init__) (defBody s_Quotient___init__) (defScope s_Quotient___init__) .none kV36 dc36 pm36 an36 cd36 ct36), sl36⟩) (c36 : PySem.W.codeIn K cd36 "Quotient.__init__" = true) (k36 : PySem.W.keepIn K (.ref f36) = true)
    (a37 : PySem.W.findIn K (.ref C0) "__iter__" = some (some (.ref f37))) (i37 : PySem.W.isFn K (.ref f37) = true) (l37 : K.lookup f37 = some ⟨oc37, od37, .func (PySem.W.fnOf "__iter__" "Quotient.__iter__" (defArgs s_Quotient___iter__) (defBody s_Quotient___iter__) (defScope s_Quotient___iter__) .none kV37 dc37 pm37 an37 cd37 ct37), sl37⟩) (c37 : PySem.W.codeIn K cd37 "Quotient.__iter__" = true) (k37 : PySem.W.keepIn K (.ref f37) = true)
    (z_abs : PySem.W.nsIn K mainGlobals "abs" = some none)
    (z_all : PySem.W.nsIn K mainGlobals "all" = some none)
    (z_bool : PySem.W.nsIn K mainGlobals "bool" = some none)
    (z_int : PySem.W.nsIn K mainGlobals "int" = some none)
    (z_isinstance : PySem.W.nsIn K mainGlobals "isinstance" = some none)
    (z_iter : PySem.W.nsIn K mainGlobals "iter" = some none)
    (z_len : PySem.W.nsIn K mainGlobals "len" = some none)
    (z_list : PySem.W.nsIn K mainGlobals "list" = some none)
    (z_max : PySem.W.nsIn K mainGlobals "max" = some none)
    (z_min : PySem.W.nsIn K mainGlobals "min" = some none)
    (z_range : PySem.W.nsIn K mainGlobals "range" = some none)
    (z_repr : PySem.W.nsIn K mainGlobals "repr" = some none)
    (z_sorted : PySem.W.nsIn K mainGlobals "sorted" = some none)
    (z_sum : PySem.W.nsIn K mainGlobals "sum" = some none)
    (z_tuple : PySem.W.nsIn K mainGlobals "tuple" = some none)
    (q_MAX_COMMON : PySem.W.nsIn K mainGlobals "MAX_COMMON" = some (some (.int 2520 t_MAX_COMMON)))
    (q_MAX_COUNT : PySem.W.nsIn K mainGlobals "MAX_COUNT" = some (some (.int 100 t_MAX_COUNT)))
    (q_MAX_INTEGER : PySem.W.nsIn K mainGlobals "MAX_INTEGER" = some (some (.int 999999999999999999999999999999999999999999999999999999999999 t_MAX_INTEGER)))
    (q_MAX_MEMBER : PySem.W.nsIn K mainGlobals "MAX_MEMBER" = some (some (.int 60 t_MAX_MEMBER)))
    (q_MAX_SIDE : PySem.W.nsIn K mainGlobals "MAX_SIDE" = some (some (.int 8 t_MAX_SIDE)))
    (m_gcd : PySem.W.nsIn K mainGlobals "gcd" = some (some (.builtin "math.gcd")))
    (m_lcm : PySem.W.nsIn K mainGlobals "lcm" = some (some (.builtin "math.lcm")))
    : ∃ fd : FuncData, (∀ (s : Shared) (v : Value), BindsTo s fd ⟨[v], []⟩ [("_law_script", v)]) ∧ ∀ base : Heap, K.In base → base.Ns mainGlobals mg → FnG l.prog w K mg base (L2.CX l.prog w) 9 fa fd ["_law_script"] (spD K 1 F_law) := by
  have e := hfa.symm.trans (PySem.W.mg_of X G a35)
  cases e
  have cl_C0 : ClsT K "Quotient" C0 := ⟨ns_C0, ⟨pg_C0, hd_C0, po_C0, sa_C0⟩⟩
  have T : Txt K mg := { b_abs := PySem.W.mg_none_of X G z_abs, b_all := PySem.W.mg_none_of X G z_all, b_bool := PySem.W.mg_none_of X G z_bool, b_int := PySem.W.mg_none_of X G z_int, b_isinstance := PySem.W.mg_none_of X G z_isinstance, b_iter := PySem.W.mg_none_of X G z_iter, b_len := PySem.W.mg_none_of X G z_len, b_list := PySem.W.mg_none_of X G z_list, b_max := PySem.W.mg_none_of X G z_max, b_min := PySem.W.mg_none_of X G z_min, b_range := PySem.W.mg_none_of X G z_range, b_repr := PySem.W.mg_none_of X G z_repr, b_sorted := PySem.W.mg_none_of X G z_sorted, b_sum := PySem.W.mg_none_of X G z_sum, b_tuple := PySem.W.mg_none_of X G z_tuple, c_MAX_COMMON := ⟨t_MAX_COMMON, PySem.W.mg_of X G q_MAX_COMMON⟩, c_MAX_COUNT := ⟨t_MAX_COUNT, PySem.W.mg_of X G q_MAX_COUNT⟩, c_MAX_INTEGER := ⟨t_MAX_INTEGER, PySem.W.mg_of X G q_MAX_INTEGER⟩, c_MAX_MEMBER := ⟨t_MAX_MEMBER, PySem.W.mg_of X G q_MAX_MEMBER⟩, c_MAX_SIDE := ⟨t_MAX_SIDE, PySem.W.mg_of X G q_MAX_SIDE⟩, m_gcd := PySem.W.mg_of X G m_gcd, m_lcm := PySem.W.mg_of X G m_lcm, a_Quotient__bottoms := ⟨_, cl_C0, na_C0__bottoms⟩, a_Quotient__pairs := ⟨_, cl_C0, na_C0__pairs⟩, a_Quotient__sides := ⟨_, cl_C0, na_C0__sides⟩, a_Quotient__tops := ⟨_, cl_C0, na_C0__tops⟩, i_Quotient := ⟨_, ⟨cl_C0, ia_C0, ign, itk, im_C0⟩, PySem.W.mg_of X G ns_C0⟩ }
  refine ⟨PySem.W.fnOf "law" "law" (defArgs s_law) (defBody s_law) (defScope s_law) .none kV35 dc35 pm35 an35 cd35 ct35, fun s v => .of_eq rfl, fun base _ _ => ?_⟩
  have it_Quotient : HasIt l.prog w K mg base "Quotient" "_pairs" := itf_Quotient T (fun_mk (st := s_Quotient___iter__) l37 c37 k37) cl_C0 na_C0__pairs a37 i37
  have h_q_bag : Has l.prog w K mg base "_law_bag" 1 ["_law_script", "_law_spot"] F_q_bag := has_q_bag T  (fun_mk (st := s_q_bag) l0 c0 k0) (PySem.W.mg_of X G a0)
  have h_counted : Has l.prog w K mg base "counted" 1 ["tops", "bottoms"] F_counted := has_counted T  (fun_mk (st := s_counted) l1 c1 k1) (PySem.W.mg_of X G a1)
  have h_sides_of : Has l.prog w K mg base "sides_of" 1 ["counts"] F_sides_of := has_sides_of T  (fun_mk (st := s_sides_of) l2 c2 k2) (PySem.W.mg_of X G a2)
  have h_is_long_integer : Has l.prog w K mg base "is_long_integer" 1 ["value"] F_is_long_integer := has_is_long_integer T  (fun_mk (st := s_is_long_integer) l3 c3 k3) (PySem.W.mg_of X G a3)
  have h_is_integer : Has l.prog w K mg base "is_integer" 2 ["value"] F_is_integer := has_is_integer T h_is_long_integer (fun_mk (st := s_is_integer) l4 c4 k4) (PySem.W.mg_of X G a4)
  have h_are_integers : Has l.prog w K mg base "are_integers" 3 ["value"] F_are_integers := has_are_integers T h_is_integer (fun_mk (st := s_are_integers) l5 c5 k5) (PySem.W.mg_of X G a5)
  have h_common_multiple : Has l.prog w K mg base "common_multiple" 4 ["numbers"] F_common_multiple := has_common_multiple T h_are_integers (fun_mk (st := s_common_multiple) l6 c6 k6) (PySem.W.mg_of X G a6)
  have h_does_tell_row : Has l.prog w K mg base "does_tell_row" 5 ["members"] F_does_tell_row := has_does_tell_row T h_common_multiple (fun_mk (st := s_does_tell_row) l7 c7 k7) (PySem.W.mg_of X G a7)
  have h_is_between : Has l.prog w K mg base "is_between" 3 ["value", "least", "most"] F_is_between := has_is_between T h_is_integer (fun_mk (st := s_is_between) l8 c8 k8) (PySem.W.mg_of X G a8)
  have h_is_side : Has l.prog w K mg base "is_side" 4 ["value"] F_is_side := has_is_side T h_is_between (fun_mk (st := s_is_side) l9 c9 k9) (PySem.W.mg_of X G a9)
  have h_Quotient___init__ : HasMk l.prog w K mg base "Quotient" 6 3 F_Quotient___init__ := has_Quotient___init__ T h_counted h_sides_of h_does_tell_row h_is_side (fun_mk (st := s_Quotient___init__) l36 c36 k36) cl_C0 ⟨mk_C0, a36, i36, kc_C0⟩ (PySem.W.mg_of X G ns_C0)
  have h_check_row : Has l.prog w K mg base "check_row" 1 ["row"] F_check_row := has_check_row T  (fun_mk (st := s_check_row) l10 c10 k10) (PySem.W.mg_of X G a10)
  have h_is_long_pair : Has l.prog w K mg base "is_long_pair" 2 ["value"] F_is_long_pair := has_is_long_pair T h_is_long_integer (fun_mk (st := s_is_long_pair) l11 c11 k11) (PySem.W.mg_of X G a11)
  have h_is_long_ratio : Has l.prog w K mg base "is_long_ratio" 3 ["value"] F_is_long_ratio := has_is_long_ratio T h_is_long_pair (fun_mk (st := s_is_long_ratio) l12 c12 k12) (PySem.W.mg_of X G a12)
  have h_is_ratio : Has l.prog w K mg base "is_ratio" 4 ["value"] F_is_ratio := has_is_ratio T h_is_long_ratio h_is_integer (fun_mk (st := s_is_ratio) l13 c13 k13) (PySem.W.mg_of X G a13)
  have h_check_ratio : Has l.prog w K mg base "check_ratio" 5 ["ratio"] F_check_ratio := has_check_ratio T h_is_ratio (fun_mk (st := s_check_ratio) l14 c14 k14) (PySem.W.mg_of X G a14)
  have h_depth_at : Has l.prog w K mg base "depth_at" 2 ["row", "ratio"] F_depth_at := has_depth_at T it_Quotient (fun_mk (st := s_depth_at) l15 c15 k15) (PySem.W.mg_of X G a15)
  have h_depth : Has l.prog w K mg base "depth" 6 ["row", "ratio"] F_depth := has_depth T h_check_row h_check_ratio h_depth_at (fun_mk (st := s_depth) l16 c16 k16) (PySem.W.mg_of X G a16)
  have h_check_number : Has l.prog w K mg base "check_number" 4 ["given", "least", "most"] F_check_number := has_check_number T h_is_between (fun_mk (st := s_check_number) l17 c17 k17) (PySem.W.mg_of X G a17)
  have h_jump_of : Has l.prog w K mg base "jump_of" 2 ["row", "number"] F_jump_of := has_jump_of T it_Quotient (fun_mk (st := s_jump_of) l18 c18 k18) (PySem.W.mg_of X G a18)
  have h_jump : Has l.prog w K mg base "jump" 5 ["row", "number"] F_jump := has_jump T h_check_row h_check_number h_jump_of (fun_mk (st := s_jump) l19 c19 k19) (PySem.W.mg_of X G a19)
  have h_q_grab : Has l.prog w K mg base "_law_grab" 1 ["_law_bag_here", "_law_total"] F_q_grab := has_q_grab T  (fun_mk (st := s_q_grab) l20 c20 k20) (PySem.W.mg_of X G a20)
  have h_q_one_of : Has l.prog w K mg base "_law_one_of" 2 ["_law_bag_here", "_law_items"] F_q_one_of := has_q_one_of T h_q_grab (fun_mk (st := s_q_one_of) l21 c21 k21) (PySem.W.mg_of X G a21)
  have h_q_told_balanced : Has l.prog w K mg base "_law_told_balanced" 3 ["_law_bag_here"] F_q_told_balanced := has_q_told_balanced T h_q_grab h_q_one_of (fun_mk (st := s_q_told_balanced) l22 c22 k22) (PySem.W.mg_of X G a22)
  have h_q_without_shared : Has l.prog w K mg base "_law_without_shared" 1 ["_law_tops", "_law_bottoms"] F_q_without_shared := has_q_without_shared T  (fun_mk (st := s_q_without_shared) l23 c23 k23) (PySem.W.mg_of X G a23)
  have h_q_common : Has l.prog w K mg base "_law_common" 1 ["_law_numbers"] F_q_common := has_q_common T  (fun_mk (st := s_q_common) l24 c24 k24) (PySem.W.mg_of X G a24)
  have h_q_multiple : Has l.prog w K mg base "_law_multiple" 2 ["_law_numbers"] F_q_multiple := has_q_multiple T h_q_common (fun_mk (st := s_q_multiple) l25 c25 k25) (PySem.W.mg_of X G a25)
  have h_q_is_row_let : Has l.prog w K mg base "_law_is_row_let" 3 ["_law_tops", "_law_bottoms"] F_q_is_row_let := has_q_is_row_let T h_q_multiple (fun_mk (st := s_q_is_row_let) l26 c26 k26) (PySem.W.mg_of X G a26)
  have h_q_any_balanced : Has l.prog w K mg base "_law_any_balanced" 4 ["_law_bag_here"] F_q_any_balanced := has_q_any_balanced T h_q_one_of h_q_told_balanced h_q_without_shared h_q_grab h_q_is_row_let (fun_mk (st := s_q_any_balanced) l27 c27 k27) (PySem.W.mg_of X G a27)
  have h_q_row_drawn : Has l.prog w K mg base "_law_row_drawn" 5 ["_law_bag_here"] F_q_row_drawn := has_q_row_drawn T h_q_any_balanced h_q_without_shared h_q_grab h_q_one_of h_q_is_row_let (fun_mk (st := s_q_row_drawn) l28 c28 k28) (PySem.W.mg_of X G a28)
  have h_q_lowest : Has l.prog w K mg base "_law_lowest" 2 ["_law_top", "_law_bottom"] F_q_lowest := has_q_lowest T h_q_common (fun_mk (st := s_q_lowest) l29 c29 k29) (PySem.W.mg_of X G a29)
  have h_q_some_ratio : Has l.prog w K mg base "_law_some_ratio" 3 ["_law_bag_here", "_law_member"] F_q_some_ratio := has_q_some_ratio T h_q_lowest h_q_grab h_q_one_of (fun_mk (st := s_q_some_ratio) l30 c30 k30) (PySem.W.mg_of X G a30)
  have h_q_depth : Has l.prog w K mg base "_law_depth" 1 ["_law_tops", "_law_bottoms", "_law_ratio"] F_q_depth := has_q_depth T  (fun_mk (st := s_q_depth) l31 c31 k31) (PySem.W.mg_of X G a31)
  have h_q_jump : Has l.prog w K mg base "_law_jump" 1 ["_law_tops", "_law_bottoms", "_law_number"] F_q_jump := has_q_jump T  (fun_mk (st := s_q_jump) l32 c32 k32) (PySem.W.mg_of X G a32)
  have h_q_ratio_sum : Has l.prog w K mg base "_law_ratio_sum" 3 ["_law_one", "_law_other", "_law_factor"] F_q_ratio_sum := has_q_ratio_sum T h_q_lowest (fun_mk (st := s_q_ratio_sum) l33 c33 k33) (PySem.W.mg_of X G a33)
  have h_q_right : Has l.prog w K mg base "_law_right" 8 ["_law_bag_here"] F_q_right := has_q_right T h_q_row_drawn h_Quotient___init__ h_q_some_ratio h_q_one_of h_q_depth h_q_grab h_depth h_jump h_q_jump h_q_ratio_sum (fun_mk (st := s_q_right) l34 c34 k34) (PySem.W.mg_of X G a34)
  exact ok_law T h_q_bag h_Quotient___init__ h_depth h_jump h_q_right (fun_mk (st := s_law) l35 c35 k35)
end K14

namespace K14
open PySem DF
theorem log2_lt {n k : Nat} (hk : 0 < k) (h : n < 2 ^ k) : n.log2 < k := by
  by_cases h0 : n = 0
  · subst h0; simpa using hk
  · exact (Nat.log2_lt h0).mpr h
/-- not too great -/
def Sm (i : Int) : Prop := i.natAbs < 2 ^ 4000
set_option exponentiation.threshold 5000 in
theorem sm_of {i : Int} (h : i.natAbs ≤ 10 ^ 700) : Sm i := Nat.lt_of_le_of_lt h (by decide)
theorem cm {i j : Int} (hi : Sm i) (hj : Sm j) : cMul i j = true := by
  unfold cMul
  have := log2_lt (by decide) hi
  have := log2_lt (by decide) hj
  exact decide_eq_true (by omega)
theorem cd {i j : Int} (h0 : j ≠ 0) (hj : Sm j) : cDiv i j = true := by
  unfold cDiv
  have := log2_lt (by decide) hj
  rw [Bool.and_eq_true]
  exact ⟨decide_eq_true h0, decide_eq_true (by omega)⟩
theorem abs_eq (i : Int) : (if i < 0 then -i else i) = (i.natAbs : Int) := by
  split <;> omega
theorem fm {a b : Int} (hb : 0 < b) : a.fmod b = a % b := Int.fmod_eq_emod_of_nonneg _ (Int.le_of_lt hb)
theorem fd {a b : Int} (hb : 0 ≤ b) : a.fdiv b = a / b := Int.fdiv_eq_ediv_of_nonneg _ hb
/-! ### the bag -/
structure Bag (n : Nat) (d : D) : Prop where
  ex : ∃ x y z : Int, d = .lst [.int x, .int y, .int z] ∧ 0 ≤ y ∧ y < 2 ^ 61 ∧ 0 ≤ z ∧ z ≤ n
theorem Bag.mono {n m : Nat} {d : D} (h : Bag n d) (hm : n ≤ m) : Bag m d := by
  obtain ⟨x, y, z, e, h1, h2, h3, h4⟩ := h.ex
  exact ⟨x, y, z, e, h1, h2, h3, by omega⟩
theorem e_grab {n : Nat} {d : D} {t : Int} (h : Bag n d) (hn : n ≤ 1000000) (ht : 0 < t) (hs : Sm t) : ∃ (r : Int) (d' : D), 0 ≤ r ∧ r < t ∧ Bag (n + 1) d' ∧ F_q_grab [(true, d), (false, .int t)] = .ret false (.int r) [d'] := by
  obtain ⟨x, y, z, rfl, hy0, hy1, hz0, hz1⟩ := h.ex
  have hmod := modD_ap (i := x) (j := t) (by omega)
  have hdiv := divD_ap (cd (i := x) (show t ≠ 0 by omega) hs)
  by_cases hx : 0 < x
  · refine ⟨x.fmod t, .lst [.int (x.fdiv t), .int y, .int z], by rw [fm ht]; exact Int.emod_nonneg _ (by omega), by rw [fm ht]; exact Int.emod_lt_of_pos _ ht, ⟨_, y, z, rfl, hy0, hy1, hz0, by omega⟩, ?_⟩
    unfold F_q_grab B_q_grab
    simp [eqY_int, neY_int, max2_ap, min2_ap, DF.R.bind_ok, DF.R.bindS_ok, DF.R.bindN_ok, DF.SR.bind_nx, DF.SR.bind_ret, ofO, ths, setV, setF, free, set2, set3, fnRes, startE, startC, outs, argsD, putD, ioIx, isMu, look, DF.muL, ltD_ap, leD_ap, gtD_ap, geD_ap, addD_ap, subD_ap, negD_ap, absD_ap, intD_ap, intD_apB, eq_int, ne_int, ixD, L2.atI, L2.ixN, lenD, gcdD, max2D, min2D, hx, hmod, hdiv]
  · have e1 := mulD_ap (i := 1048637) (j := z + 1) (cm (sm_of (by decide)) (sm_of (by omega)))
    have e2 := modD_ap (i := y + 1048637 * (z + 1)) (j := 2305843009213693951) (by decide)
    have b2 : 0 ≤ (y + 1048637 * (z + 1)).fmod 2305843009213693951 ∧ (y + 1048637 * (z + 1)).fmod 2305843009213693951 < 2305843009213693951 := by
      rw [fm (by decide)]; exact ⟨Int.emod_nonneg _ (by decide), Int.emod_lt_of_pos _ (by decide)⟩
    generalize eo : (y + 1048637 * (z + 1)).fmod 2305843009213693951 = o at e2 b2
    have so : Sm o := sm_of (by omega)
    have e3 := mulD_ap (i := o) (j := o) (cm so so)
    have e4 := modD_ap (i := o * o) (j := 2305843009213693723) (by decide)
    have b4 : 0 ≤ (o * o).fmod 2305843009213693723 ∧ (o * o).fmod 2305843009213693723 < 2305843009213693723 := by
      rw [fm (by decide)]; exact ⟨Int.emod_nonneg _ (by decide), Int.emod_lt_of_pos _ (by decide)⟩
    generalize eq : (o * o).fmod 2305843009213693723 = q at e4 b4
    have sq : Sm q := sm_of (by omega)
    have e5 := mulD_ap (i := q) (j := o) (cm sq so)
    have e6 := mulD_ap (i := 8161) (j := z + 1) (cm (sm_of (by decide)) (sm_of (by omega)))
    generalize ew : q * o + 8161 * (z + 1) = w
    have e7 := modD_ap (i := w) (j := 2305843009213693921) (by decide)
    have b7 : 0 ≤ w.fmod 2305843009213693921 := by rw [fm (by decide)]; exact Int.emod_nonneg _ (by decide)
    generalize eu : w.fmod 2305843009213693921 = u at e7 b7
    have e8 := divD_ap (i := u) (j := 16384) (cd (by decide) (sm_of (by decide)))
    have e9 := modD_ap (i := u.fdiv 16384) (j := t) (by omega)
    refine ⟨(u.fdiv 16384).fmod t, .lst [.int x, .int y, .int (z + 1)], by rw [fm ht]; exact Int.emod_nonneg _ (by omega), by rw [fm ht]; exact Int.emod_lt_of_pos _ ht, ⟨_, y, z + 1, rfl, hy0, hy1, by omega, by omega⟩, ?_⟩
    unfold F_q_grab B_q_grab
    simp [eqY_int, neY_int, max2_ap, min2_ap, DF.R.bind_ok, DF.R.bindS_ok, DF.R.bindN_ok, DF.SR.bind_nx, DF.SR.bind_ret, ofO, ths, setV, setF, free, set2, set3, fnRes, startE, startC, outs, argsD, putD, ioIx, isMu, look, DF.muL, ltD_ap, leD_ap, gtD_ap, geD_ap, addD_ap, subD_ap, negD_ap, absD_ap, intD_ap, intD_apB, eq_int, ne_int, ixD, L2.atI, L2.ixN, lenD, gcdD, max2D, min2D, hx, e1, e2, e3, e4, e5, e6, e7, e8, e9, ew]
theorem p45l : powD (.int 10) (.int 45) = some (.int 1000000000000000000000000000000000000000000000) := powD_ap (by decide +kernel)
theorem p585 : powD (.int 1000000000000000000000000000000000000000000000) (.int 13) = some (.int 1000000000000000000000000000000000000000000000000000000000000000000000000000000000000000000000000000000000000000000000000000000000000000000000000000000000000000000000000000000000000000000000000000000000000000000000000000000000000000000000000000000000000000000000000000000000000000000000000000000000000000000000000000000000000000000000000000000000000000000000000000000000000000000000000000000000000000000000000000000000000000000000000000000000000000000000000000000000000000000000000000000000000000000000000000000000000000000000000000000000000000000000000000000000000000000000000000000000) := powD_ap (by decide +kernel)
theorem p18l : powD (.int 10) (.int 18) = some (.int 1000000000000000000) := powD_ap (by decide +kernel)
theorem bg0 (ns : List Int) (k : Nat) (h : k < ns.length ∨ (ns = [] ∧ k = 0)) : ∃ c : Int, (dSet 2 (dIte (dTst (dBin ltD (oVar 1) (oD (dCal lenD (aCons (oVar 0) (aNil)))))) (dBin ixD (oVar 0) (oVar 1)) (dBin addD (oD (dBin addD (oD (dCal sumAD (aCons (oD (dCut none (some 1) (oVar 0))) (aNil)))) (oD (dBin mulD (oD (dC (.int 151))) (oVar 1))))) (oD (dC (.int 89)))))) [some (.val (.fro (ns.map D.int))), some (.val (.int (k : Int))), none, none, none] = .nx [some (.val (.fro (ns.map D.int))), some (.val (.int (k : Int))), some (.val (.int c)), none, none] := by
  rcases h with h | ⟨rfl, rfl⟩
  · refine ⟨ns[k], ?_⟩
    have h' : (k : Int) < (ns.length : Int) := by omega
    simp [eqY_int, neY_int, max2_ap, min2_ap, DF.R.bind_ok, DF.R.bindS_ok, DF.R.bindN_ok, DF.SR.bind_nx, DF.SR.bind_ret, ofO, ths, setV, setF, free, set2, set3, fnRes, startE, startC, outs, argsD, putD, ioIx, isMu, look, DF.muL, ltD_ap, leD_ap, gtD_ap, geD_ap, addD_ap, subD_ap, negD_ap, absD_ap, intD_ap, intD_apB, eq_int, ne_int, ixD, L2.atI, L2.ixN, lenD, gcdD, max2D, min2D, h', h]
  · exact ⟨89, rfl⟩
theorem bg1 (c0 c1 : Option Cell) (c : Int) : ∃ g : Int, (dSet 3 (dBin modD (oD (dCal intD (aCons (oD (dCal absD (aCons (oVar 2) (aNil)))) (aNil)))) (oD (dBin powD (oD (dBin powD (oD (dC (.int 10))) (oD (dC (.int 45))))) (oD (dC (.int 13))))))) [c0, c1, some (.val (.int c)), none, none] = .nx [c0, c1, some (.val (.int c)), some (.val (.int g)), none] := by
  have h := modD_ap (i := (c.natAbs : Int)) (j := 1000000000000000000000000000000000000000000000000000000000000000000000000000000000000000000000000000000000000000000000000000000000000000000000000000000000000000000000000000000000000000000000000000000000000000000000000000000000000000000000000000000000000000000000000000000000000000000000000000000000000000000000000000000000000000000000000000000000000000000000000000000000000000000000000000000000000000000000000000000000000000000000000000000000000000000000000000000000000000000000000000000000000000000000000000000000000000000000000000000000000000000000000000000000000000000000000000000000) (by decide)
  refine ⟨(c.natAbs : Int).fmod 1000000000000000000000000000000000000000000000000000000000000000000000000000000000000000000000000000000000000000000000000000000000000000000000000000000000000000000000000000000000000000000000000000000000000000000000000000000000000000000000000000000000000000000000000000000000000000000000000000000000000000000000000000000000000000000000000000000000000000000000000000000000000000000000000000000000000000000000000000000000000000000000000000000000000000000000000000000000000000000000000000000000000000000000000000000000000000000000000000000000000000000000000000000000000000000000000000000000, ?_⟩
  generalize (c.natAbs : Int).fmod 1000000000000000000000000000000000000000000000000000000000000000000000000000000000000000000000000000000000000000000000000000000000000000000000000000000000000000000000000000000000000000000000000000000000000000000000000000000000000000000000000000000000000000000000000000000000000000000000000000000000000000000000000000000000000000000000000000000000000000000000000000000000000000000000000000000000000000000000000000000000000000000000000000000000000000000000000000000000000000000000000000000000000000000000000000000000000000000000000000000000000000000000000000000000000000000000000000000000 = g at *
  simp [eqY_int, neY_int, max2_ap, min2_ap, DF.R.bind_ok, DF.R.bindS_ok, DF.R.bindN_ok, DF.SR.bind_nx, DF.SR.bind_ret, ofO, ths, setV, setF, free, set2, set3, fnRes, startE, startC, outs, argsD, putD, ioIx, isMu, look, DF.muL, ltD_ap, leD_ap, gtD_ap, geD_ap, addD_ap, subD_ap, negD_ap, absD_ap, intD_ap, intD_apB, eq_int, ne_int, ixD, L2.atI, L2.ixN, lenD, gcdD, max2D, min2D, p45l, p585, h]
theorem bg2 (c0 : Option Cell) (k : Nat) (hk : k ≤ 2) (c g : Int) : ∃ m : Int, (dSet 4 (dBin addD (oD (dBin addD (oD (dBin addD (oD (dBin mulD (oD (dBin modD (oD (dCal intD (aCons (oVar 3) (aNil)))) (oD (dC (.int 2305843009213693723))))) (oD (dC (.int 1000457))))) (oD (dBin mulD (oD (dC (.int 9029))) (oVar 1))))) (oD (dBin mulD (oD (dC (.int 53))) (oD (dCal intD (aCons (oD (dBin ltD (oVar 2) (oD (dC (.int 0))))) (aNil)))))))) (oD (dC (.int 37))))) [c0, some (.val (.int (k : Int))), some (.val (.int c)), some (.val (.int g)), none] = .nx [c0, some (.val (.int (k : Int))), some (.val (.int c)), some (.val (.int g)), some (.val (.int m))] := by
  have h1 := modD_ap (i := g) (j := 2305843009213693723) (by decide)
  have b1 : 0 ≤ g.fmod 2305843009213693723 ∧ g.fmod 2305843009213693723 < 2305843009213693723 := by
    rw [fm (by decide)]; exact ⟨Int.emod_nonneg _ (by decide), Int.emod_lt_of_pos _ (by decide)⟩
  generalize g.fmod 2305843009213693723 = q at *
  have m1 := mulD_ap (i := q) (j := 1000457) (cm (sm_of (by omega)) (sm_of (by decide)))
  have m2 := mulD_ap (i := 9029) (j := (k : Int)) (cm (sm_of (by decide)) (sm_of (by omega)))
  have m3 := mulD_ap (i := 53) (j := 1) (cm (sm_of (by decide)) (sm_of (by decide)))
  have m4 := mulD_ap (i := 53) (j := 0) (cm (sm_of (by decide)) (sm_of (by decide)))
  by_cases hc : c < 0
  · refine ⟨q * 1000457 + 9029 * k + 53 * 1 + 37, ?_⟩
    simp [eqY_int, neY_int, max2_ap, min2_ap, DF.R.bind_ok, DF.R.bindS_ok, DF.R.bindN_ok, DF.SR.bind_nx, DF.SR.bind_ret, ofO, ths, setV, setF, free, set2, set3, fnRes, startE, startC, outs, argsD, putD, ioIx, isMu, look, DF.muL, ltD_ap, leD_ap, gtD_ap, geD_ap, addD_ap, subD_ap, negD_ap, absD_ap, intD_ap, intD_apB, eq_int, ne_int, ixD, L2.atI, L2.ixN, lenD, gcdD, max2D, min2D, h1, m1, m2, m3, hc]
  · refine ⟨q * 1000457 + 9029 * k + 53 * 0 + 37, ?_⟩
    simp [eqY_int, neY_int, max2_ap, min2_ap, DF.R.bind_ok, DF.R.bindS_ok, DF.R.bindN_ok, DF.SR.bind_nx, DF.SR.bind_ret, ofO, ths, setV, setF, free, set2, set3, fnRes, startE, startC, outs, argsD, putD, ioIx, isMu, look, DF.muL, ltD_ap, leD_ap, gtD_ap, geD_ap, addD_ap, subD_ap, negD_ap, absD_ap, intD_ap, intD_apB, eq_int, ne_int, ixD, L2.atI, L2.ixN, lenD, gcdD, max2D, min2D, h1, m1, m2, m4, hc]
theorem bg3 (c0 c1 c2 : Option Cell) (g m : Int) : ∃ x y : Int, 0 ≤ y ∧ y < 2 ^ 61 ∧ (dRetF (dLst (vCons (dCal (orC max2D maxSD) (aCons (oD (dC (.int 0))) (aCons (oD (dBin subD (oVar 3) (oD (dBin powD (oD (dC (.int 10))) (oD (dC (.int 18))))))) (aNil)))) (vCons (dBin modD (oD (dCal intD (aCons (oVar 4) (aNil)))) (oD (dC (.int 2305843009213693951)))) (vCons (dC (.int 0)) (vNil)))))) [c0, c1, c2, some (.val (.int g)), some (.val (.int m))] = .ret [c0, c1, c2, some (.val (.int g)), some (.val (.int m))] true (.lst [.int x, .int y, .int 0]) := by
  have h1 := modD_ap (i := m) (j := 2305843009213693951) (by decide)
  have b1 : 0 ≤ m.fmod 2305843009213693951 ∧ m.fmod 2305843009213693951 < 2305843009213693951 := by
    rw [fm (by decide)]; exact ⟨Int.emod_nonneg _ (by decide), Int.emod_lt_of_pos _ (by decide)⟩
  generalize m.fmod 2305843009213693951 = q at *
  refine ⟨if g - 1000000000000000000 > 0 then g - 1000000000000000000 else 0, q, b1.1, by omega, ?_⟩
  simp [eqY_int, neY_int, max2_ap, min2_ap, DF.R.bind_ok, DF.R.bindS_ok, DF.R.bindN_ok, DF.SR.bind_nx, DF.SR.bind_ret, ofO, ths, setV, setF, free, set2, set3, fnRes, startE, startC, outs, argsD, putD, ioIx, isMu, look, DF.muL, ltD_ap, leD_ap, gtD_ap, geD_ap, addD_ap, subD_ap, negD_ap, absD_ap, intD_ap, intD_apB, eq_int, ne_int, ixD, L2.atI, L2.ixN, lenD, gcdD, max2D, min2D, h1, p18l]
theorem e_bag (ns : List Int) (k : Nat) (h : k < ns.length ∨ (ns = [] ∧ k = 0)) (hk : k ≤ 2) : ∃ d, Bag 0 d ∧ F_q_bag [(false, .fro (ns.map D.int)), (false, .int (k : Int))] = .ret true d [] := by
  obtain ⟨c, s0⟩ := bg0 ns k h
  obtain ⟨g, s1⟩ := bg1 (some (.val (.fro (ns.map D.int)))) (some (.val (.int (k : Int)))) c
  obtain ⟨m, s2⟩ := bg2 (some (.val (.fro (ns.map D.int)))) k hk c g
  obtain ⟨x, y, hy0, hy1, s3⟩ := bg3 (some (.val (.fro (ns.map D.int)))) (some (.val (.int (k : Int)))) (some (.val (.int c))) g m
  refine ⟨.lst [.int x, .int y, .int 0], ⟨x, y, 0, rfl, hy0, hy1, by decide, by decide⟩, ?_⟩
  have hs : startE 5 [(false, .fro (ns.map D.int)), (false, .int (k : Int))] = [some (.val (.fro (ns.map D.int))), some (.val (.int (k : Int))), none, none, none] := rfl
  unfold F_q_bag B_q_bag
  rw [hs, dSeq_ap, s0, SR.bind_nx, dSeq_ap, s1, SR.bind_nx, dSeq_ap, s2, SR.bind_nx, s3]
  rfl
theorem e_one {n : Nat} {d : D} {l : List D} (h : Bag n d) (hn : n ≤ 1000000) (hl : 0 < l.length) (hl2 : l.length < 1000000) : ∃ (r : Nat) (d' : D) (x : D), l[r]? = some x ∧ Bag (n + 1) d' ∧ F_q_one_of [(true, d), (false, .lst l)] = .ret false x [d'] := by
  obtain ⟨r, d', h0, h1, hb, e⟩ := e_grab (t := l.length) h hn (by omega) (sm_of (by omega))
  obtain ⟨k, rfl⟩ : ∃ k : Nat, r = k := ⟨r.toNat, by omega⟩
  have hk : k < l.length := by omega
  refine ⟨k, d', l[k], List.getElem?_eq_getElem hk, hb, ?_⟩
  unfold F_q_one_of B_q_one_of
  simp [eqY_int, neY_int, max2_ap, min2_ap, DF.R.bind_ok, DF.R.bindS_ok, DF.R.bindN_ok, DF.SR.bind_nx, DF.SR.bind_ret, ofO, ths, setV, setF, free, set2, set3, fnRes, startE, startC, outs, argsD, putD, ioIx, isMu, look, DF.muL, ltD_ap, leD_ap, gtD_ap, geD_ap, addD_ap, subD_ap, negD_ap, absD_ap, intD_ap, intD_apB, eq_int, ne_int, ixD, L2.atI, L2.ixN, lenD, gcdD, max2D, min2D, e, hk]

end K14

namespace K14
open PySem DF
abbrev ld (l : List Int) : D := .lst (l.map D.int)
abbrev pd (l : List Int) : D := .tup (l.map D.int)
/-- few numbers, small ones above 0 -/
structure Fine (k : Nat) (m : Int) (l : List Int) : Prop where
  len : l.length ≤ k
  bd : ∀ x ∈ l, 1 ≤ x ∧ x ≤ m
theorem Fine.mono {k k' : Nat} {m m' : Int} {l : List Int} (h : Fine k m l) (hk : k ≤ k') (hm : m ≤ m') : Fine k' m' l := ⟨Nat.le_trans h.len hk, fun x hx => ⟨(h.bd x hx).1, Int.le_trans (h.bd x hx).2 hm⟩⟩
/-! ### a comprehension of drawn numbers -/
theorem cg_loop (t : Int) (ht : 0 < t) (ht2 : t ≤ 1000) {c1 c2 c3 c4 c6 c7 c8 c9 c10 : Option Cell} (l : List D) (n : Nat) (d : D) (h : Bag n d) (hn : n + l.length ≤ 1000000) :
    ∃ (L : List Int) (d' : D), dLcGo (setV 5) tYesB (dBin addD (oD (dC (.int 1))) (oD (dV (dCal2 2 F_q_grab (rIo 0 (rVal (dC (.int t)) (rNil))))))) [5] l [] [some (.mu true d), c1, c2, c3, c4, none, c6, c7, c8, c9, c10] = .ok [some (.mu true d'), c1, c2, c3, c4, none, c6, c7, c8, c9, c10] (ld L) ∧ L.length = l.length ∧ (∀ x ∈ L, 1 ≤ x ∧ x ≤ t) ∧ Bag (n + l.length) d' := by
  obtain ⟨ρ', m, e, L, d', rfl, rfl, h1, h2, h3⟩ := lc_inv (t := setV 5) (c := tYesB) (f := (dBin addD (oD (dC (.int 1))) (oD (dV (dCal2 2 F_q_grab (rIo 0 (rVal (dC (.int t)) (rNil)))))))) (vs := [5])
    (fun r acc ρ => ∃ (L : List Int) (d' : D), acc = L.map D.int ∧ ρ = [some (.mu true d'), c1, c2, c3, c4, none, c6, c7, c8, c9, c10] ∧ L.length + r.length = l.length ∧ (∀ x ∈ L, 1 ≤ x ∧ x ≤ t) ∧ Bag (n + L.length) d')
    (fun x r acc ρ ⟨L, d1, e1, e2, e3, e4, e5⟩ => by
      subst e1 e2
      rw [List.length_cons] at e3
      obtain ⟨g, d2, g0, g1, hb, eg⟩ := e_grab (t := t) e5 (by omega) ht (sm_of (by omega))
      refine ⟨by rw [List.length_map]; omega, [some (.mu true d1), c1, c2, c3, c4, some (.val x), c6, c7, c8, c9, c10], _, true, rfl, rfl, fun z => (by cases z), fun _ => ⟨[some (.mu true d2), c1, c2, c3, c4, some (.val x), c6, c7, c8, c9, c10], .int (1 + g), ?_, rfl, L ++ [1 + g], d2, by simp, rfl, by simp; omega, fun y hy => ?_, by rw [List.length_append, List.length_singleton]; exact hb⟩⟩
      · simp [eqY_int, neY_int, max2_ap, min2_ap, DF.R.bind_ok, DF.R.bindS_ok, DF.R.bindN_ok, DF.SR.bind_nx, DF.SR.bind_ret, ofO, ths, setV, setF, free, set2, set3, fnRes, startE, startC, outs, argsD, putD, ioIx, isMu, look, DF.muL, ltD_ap, leD_ap, gtD_ap, geD_ap, addD_ap, subD_ap, negD_ap, absD_ap, intD_ap, intD_apB, eq_int, ne_int, ixD, L2.atI, L2.ixN, lenD, gcdD, max2D, min2D, eg]
      · rcases List.mem_append.mp hy with hy | hy
        · exact e4 y hy
        · rw [List.mem_singleton.mp hy]; omega)
    l [] [some (.mu true d), c1, c2, c3, c4, none, c6, c7, c8, c9, c10] ⟨[], d, rfl, rfl, by simp, by simp, h⟩
  refine ⟨L, d', e, by simpa using h1, h2, ?_⟩
  have : L.length = l.length := by simpa using h1
  rw [this] at h3
  exact h3
theorem cg (p q t : Int) (hp : 0 ≤ p) (hp2 : p ≤ 1000) (hq : 0 < q) (hq2 : q ≤ 1000) (ht : 0 < t) (ht2 : t ≤ 1000) {c1 c2 c3 c4 c6 c7 c8 c9 c10 : Option Cell} (n : Nat) (d : D) (h : Bag n d) (hn : n ≤ 900000) :
    ∃ (L : List Int) (d' : D), dLc (sRng1 (vCons (dBin addD (oD (dC (.int p))) (oD (dV (dCal2 2 F_q_grab (rIo 0 (rVal (dC (.int q)) (rNil))))))) (vNil))) (setV 5) (tYesB) (dBin addD (oD (dC (.int 1))) (oD (dV (dCal2 2 F_q_grab (rIo 0 (rVal (dC (.int t)) (rNil))))))) [5] [some (.mu true d), c1, c2, c3, c4, none, c6, c7, c8, c9, c10] = .ok [some (.mu true d'), c1, c2, c3, c4, none, c6, c7, c8, c9, c10] (ld L) ∧ Fine (p + q).toNat t L ∧ p.toNat ≤ L.length ∧ Bag (n + 1 + (p + q).toNat) d' := by
  obtain ⟨g, d1, g0, g1, hb, eg⟩ := e_grab (t := q) h (by omega) hq (sm_of (by omega))
  have er : ∃ l : List D, sRng1 (vCons (dBin addD (oD (dC (.int p))) (oD (dV (dCal2 2 F_q_grab (rIo 0 (rVal (dC (.int q)) (rNil))))))) (vNil)) [some (.mu true d), c1, c2, c3, c4, none, c6, c7, c8, c9, c10] = .ok [some (.mu true d1), c1, c2, c3, c4, none, c6, c7, c8, c9, c10] l ∧ l.length = (p + g).toNat := by
    have hr : inR (p + g) = true := by unfold inR; simp; omega
    refine ⟨rng 0 (p + g).toNat, ?_, by simp [rng]⟩
    simp [eqY_int, neY_int, max2_ap, min2_ap, DF.R.bind_ok, DF.R.bindS_ok, DF.R.bindN_ok, DF.SR.bind_nx, DF.SR.bind_ret, ofO, ths, setV, setF, free, set2, set3, fnRes, startE, startC, outs, argsD, putD, ioIx, isMu, look, DF.muL, ltD_ap, leD_ap, gtD_ap, geD_ap, addD_ap, subD_ap, negD_ap, absD_ap, intD_ap, intD_apB, eq_int, ne_int, ixD, L2.atI, L2.ixN, lenD, gcdD, max2D, min2D, eg, hr]
  obtain ⟨l, e1, e2⟩ := er
  obtain ⟨L, d2, e3, e4, e5, e6⟩ := cg_loop t ht ht2 (c1 := c1) (c2 := c2) (c3 := c3) (c4 := c4) (c6 := c6) (c7 := c7) (c8 := c8) (c9 := c9) (c10 := c10) l (n + 1) d1 hb (by omega)
  exact ⟨L, d2, lc_ap e1 rfl e3, ⟨by omega, e5⟩, by omega, e6.mono (by omega)⟩
end K14

namespace K14
open PySem DF
/-! ### in, sorted, reversed -/
theorem flats_int (l : List Int) : (l.map D.int).all flatD = true := by
  rw [List.all_map, List.all_eq_true]; intro _ _; rfl
theorem inS_int (x : Int) (l : List Int) : inSD (.int x) (ld l) = some (.bl (decide (x ∈ l))) := by
  have : inSB (.int x) (ld l) = some (decide (x ∈ l)) := by
    show (if flatD (.int x) = true ∧ (l.map D.int).all flatD = true then some ((l.map D.int).any fun e => eqFD e (.int x)) else none) = _
    rw [if_pos ⟨rfl, flats_int l⟩, List.any_map]
    congr 1
    rw [Bool.eq_iff_iff]
    simp [eqFD]
  unfold inSD
  rw [this]; rfl
theorem sort_int (l : List Int) : sortO (ld l) = some ((isort l).map D.int) := by
  show (match listOf (ld l) with
    | some l => (intsD l).map fun ns => (isort ns).map D.int
    | none => none) = _
  show (intsD (l.map D.int)).map (fun ns => (isort ns).map D.int) = _
  rw [intsD_map]; rfl
theorem rev_int (l : List Int) : revO (ld l) = some (l.reverse.map D.int) := by
  show some ((l.map D.int).reverse) = _
  rw [List.map_reverse]
theorem tupD_ld (l : List D) : tupD [.lst l] = some (.tup l) := rfl
/-- one without what it shares with the other -/
theorem e_without (dT dB : D) (T B : List Int) (hT : seqOf dT = some (T.map D.int)) (hB : seqOf dB = some (B.map D.int)) (lT : T.length ≤ 100) (lB : B.length ≤ 100) :
    ∃ X Y : List Int, (∀ x ∈ X, x ∈ T) ∧ (∀ y ∈ Y, y ∈ B) ∧ X.length ≤ T.length ∧ Y.length ≤ B.length ∧ (∀ x ∈ X, x ∉ Y) ∧ F_q_without_shared [(false, dT), (false, dB)] = .ret false (.tup [pd X, pd Y]) [] := by
  refine fn_of (P := fun R => ∃ X Y : List Int, (∀ x ∈ X, x ∈ T) ∧ (∀ y ∈ Y, y ∈ B) ∧ X.length ≤ T.length ∧ Y.length ≤ B.length ∧ (∀ x ∈ X, x ∉ Y) ∧ R = .ret false (.tup [pd X, pd Y]) []) ?_
  unfold B_q_without_shared
  rw [show startE 5 [(false, dT), (false, dB)] = [some (.val dT), some (.val dB), none, none, none] from rfl]
  refine wp_seq (ρ' := [some (.val dT), some (.val dB), some (.mu false (ld B)), some (.mu false (ld [])), none]) (by simp [eqY_int, neY_int, max2_ap, min2_ap, DF.R.bind_ok, DF.R.bindS_ok, DF.R.bindN_ok, DF.SR.bind_nx, DF.SR.bind_ret, ofO, ths, setV, setF, free, set2, set3, fnRes, startE, startC, outs, argsD, putD, ioIx, isMu, look, DF.muL, ltD_ap, leD_ap, gtD_ap, geD_ap, addD_ap, subD_ap, negD_ap, absD_ap, intD_ap, intD_apB, eq_int, ne_int, ixD, L2.atI, L2.ixN, lenD, gcdD, max2D, min2D, hB]; try rfl) ?_
  refine wp_seqW (Q := fun ρ => ∃ (l f : List Int) (c4 : Option D), ρ = [some (.val dT), some (.val dB), some (.mu false (ld l)), some (.mu false (ld f)), c4.map Cell.val] ∧ f.length ≤ T.length ∧ l.length ≤ B.length ∧ (∀ x ∈ f, x ∈ T) ∧ (∀ x ∈ l, x ∈ B) ∧ (∀ x ∈ f, x ∉ l)) ?_ ?_
  · refine wp_forS (ρ' := [some (.val dT), some (.val dB), some (.mu false (ld B)), some (.mu false (ld [])), none]) (l := T.map D.int) (by simp [eqY_int, neY_int, max2_ap, min2_ap, DF.R.bind_ok, DF.R.bindS_ok, DF.R.bindN_ok, DF.SR.bind_nx, DF.SR.bind_ret, ofO, ths, setV, setF, free, set2, set3, fnRes, startE, startC, outs, argsD, putD, ioIx, isMu, look, DF.muL, ltD_ap, leD_ap, gtD_ap, geD_ap, addD_ap, subD_ap, negD_ap, absD_ap, intD_ap, intD_apB, eq_int, ne_int, ixD, L2.atI, L2.ixN, lenD, gcdD, max2D, min2D, hT]) ?_
    refine wp_for D.int (fun r ρ => ∃ (l f : List Int) (c4 : Option D), ρ = [some (.val dT), some (.val dB), some (.mu false (ld l)), some (.mu false (ld f)), c4.map Cell.val] ∧ f.length + r.length ≤ T.length ∧ l.length ≤ B.length ∧ (∀ x ∈ f, x ∈ T) ∧ (∀ x ∈ r, x ∈ T) ∧ (∀ x ∈ l, x ∈ B) ∧ (∀ x ∈ f, x ∉ l)) ?_ ?_ T _ ⟨B, [], none, rfl, by simp, Nat.le_refl _, by simp, fun x h => h, fun x h => h, by simp⟩
    · rintro x r ρ ⟨l, f, c4, rfl, h1, h2, h3, h4, h5, h6⟩
      rw [List.length_cons] at h1
      refine ⟨[some (.val dT), some (.val dB), some (.mu false (ld l)), some (.mu false (ld f)), some (.val (.int x))], by cases c4 <;> rfl, ?_⟩
      by_cases hx : x ∈ l
      · refine wp_ifT (ρ' := [some (.val dT), some (.val dB), some (.mu false (ld l)), some (.mu false (ld f)), some (.val (.int x))]) (by simp [eqY_int, neY_int, max2_ap, min2_ap, DF.R.bind_ok, DF.R.bindS_ok, DF.R.bindN_ok, DF.SR.bind_nx, DF.SR.bind_ret, ofO, ths, setV, setF, free, set2, set3, fnRes, startE, startC, outs, argsD, putD, ioIx, isMu, look, DF.muL, ltD_ap, leD_ap, gtD_ap, geD_ap, addD_ap, subD_ap, negD_ap, absD_ap, intD_ap, intD_apB, eq_int, ne_int, ixD, L2.atI, L2.ixN, lenD, gcdD, max2D, min2D, inS_int, hx]) ?_
        refine wp_nx (ρ' := [some (.val dT), some (.val dB), some (.mu false (ld (l.erase x))), some (.mu false (ld f)), some (.val (.int x))]) (by simp [eqY_int, neY_int, max2_ap, min2_ap, DF.R.bind_ok, DF.R.bindS_ok, DF.R.bindN_ok, DF.SR.bind_nx, DF.SR.bind_ret, ofO, ths, setV, setF, free, set2, set3, fnRes, startE, startC, outs, argsD, putD, ioIx, isMu, look, DF.muL, ltD_ap, leD_ap, gtD_ap, geD_ap, addD_ap, subD_ap, negD_ap, absD_ap, intD_ap, intD_apB, eq_int, ne_int, ixD, L2.atI, L2.ixN, lenD, gcdD, max2D, min2D, intsD_map, hx]) ⟨l.erase x, f, some (.int x), rfl, by omega, Nat.le_trans List.length_erase_le h2, h3, fun y hy => h4 y (List.mem_cons_of_mem _ hy), fun y hy => h5 y (List.mem_of_mem_erase hy), fun y hy z => h6 y hy (List.mem_of_mem_erase z)⟩
      · refine wp_ifF (ρ' := [some (.val dT), some (.val dB), some (.mu false (ld l)), some (.mu false (ld f)), some (.val (.int x))]) (by simp [eqY_int, neY_int, max2_ap, min2_ap, DF.R.bind_ok, DF.R.bindS_ok, DF.R.bindN_ok, DF.SR.bind_nx, DF.SR.bind_ret, ofO, ths, setV, setF, free, set2, set3, fnRes, startE, startC, outs, argsD, putD, ioIx, isMu, look, DF.muL, ltD_ap, leD_ap, gtD_ap, geD_ap, addD_ap, subD_ap, negD_ap, absD_ap, intD_ap, intD_apB, eq_int, ne_int, ixD, L2.atI, L2.ixN, lenD, gcdD, max2D, min2D, inS_int, hx]) ?_
        have hf : f.length < 16000000 := by omega
        refine wp_nx (ρ' := [some (.val dT), some (.val dB), some (.mu false (ld l)), some (.mu false (ld (f ++ [x]))), some (.val (.int x))]) (by simp [eqY_int, neY_int, max2_ap, min2_ap, DF.R.bind_ok, DF.R.bindS_ok, DF.R.bindN_ok, DF.SR.bind_nx, DF.SR.bind_ret, ofO, ths, setV, setF, free, set2, set3, fnRes, startE, startC, outs, argsD, putD, ioIx, isMu, look, DF.muL, ltD_ap, leD_ap, gtD_ap, geD_ap, addD_ap, subD_ap, negD_ap, absD_ap, intD_ap, intD_apB, eq_int, ne_int, ixD, L2.atI, L2.ixN, lenD, gcdD, max2D, min2D, hf]) ⟨l, f ++ [x], some (.int x), rfl, by rw [List.length_append, List.length_singleton]; omega, h2, fun y hy => ?_, fun y hy => h4 y (List.mem_cons_of_mem _ hy), h5, fun y hy => ?_⟩
        · rcases List.mem_append.mp hy with hy | hy
          · exact h3 y hy
          · rw [List.mem_singleton.mp hy]; exact h4 x List.mem_cons_self
        · rcases List.mem_append.mp hy with hy | hy
          · exact h6 y hy
          · rw [List.mem_singleton.mp hy]; exact hx
    · rintro ρ ⟨l, f, c4, rfl, h1, h2, h3, h4, h5, h6⟩
      exact ⟨l, f, c4, rfl, by simpa using h1, h2, h3, h5, h6⟩
  · rintro ρ ⟨l, f, c4, rfl, h1, h2, h3, h5, h6⟩
    have p1 : ∀ y (m : List Int), y ∈ (isort m).reverse ↔ y ∈ m := fun y m => by rw [List.mem_reverse]; exact (isort_perm m).mem_iff
    have p2 : ∀ (m : List Int), (isort m).reverse.length = m.length := fun m => by rw [List.length_reverse]; exact (isort_perm m).length_eq
    refine wp_rt (ρ' := [some (.val dT), some (.val dB), some (.mu false (ld l)), some (.mu false (ld f)), c4.map Cell.val]) (d := .tup [pd (isort f).reverse, pd (isort l).reverse]) (fr := false) ?_ ⟨[], rfl, (isort f).reverse, (isort l).reverse, fun x hx => h3 x ((p1 _ _).mp hx), fun x hx => h5 x ((p1 _ _).mp hx), by rw [p2]; exact h1, by rw [p2]; exact h2, fun x hx hy => h6 x ((p1 _ _).mp hx) ((p1 _ _).mp hy), rfl⟩
    generalize c4.map Cell.val = c4
    simp [eqY_int, neY_int, max2_ap, min2_ap, DF.R.bind_ok, DF.R.bindS_ok, DF.R.bindN_ok, DF.SR.bind_nx, DF.SR.bind_ret, ofO, ths, setV, setF, free, set2, set3, fnRes, startE, startC, outs, argsD, putD, ioIx, isMu, look, DF.muL, ltD_ap, leD_ap, gtD_ap, geD_ap, addD_ap, subD_ap, negD_ap, absD_ap, intD_ap, intD_apB, eq_int, ne_int, ixD, L2.atI, L2.ixN, lenD, gcdD, max2D, min2D, sort_int, rev_int, tupD_ld]
end K14

namespace K14
open PySem DF
theorem fineL {k : Nat} {m : Int} {l : List Int} (h1 : l.length ≤ k) (h2 : (l.all fun x => decide (1 ≤ x) && decide (x ≤ m)) = true) : Fine k m l := ⟨h1, fun x hx => by
  have := List.all_eq_true.mp h2 x hx
  simpa using this⟩
theorem Fine.sum {k : Nat} {m : Int} : ∀ {l : List Int}, Fine k m l → 0 ≤ m → 0 ≤ l.sum ∧ l.sum ≤ l.length * m
  | [], _, _ => by simp
  | x :: l, h, hm => by
    have ih := Fine.sum (k := k) (m := m) (l := l) ⟨by have := h.len; rw [List.length_cons] at this; omega, fun y hy => h.bd y (List.mem_cons_of_mem _ hy)⟩ hm
    have hx := h.bd x List.mem_cons_self
    rw [List.sum_cons, List.length_cons]
    have : ((l.length + 1 : Nat) : Int) * m = l.length * m + m := by
      rw [Int.natCast_add, Int.add_mul]; simp
    omega
/-- what told_balanced and its kind give -/
def TB (n : Nat) (R : FRes) : Prop := ∃ (T B : List Int) (d' : D), Fine 10 100 T ∧ Fine 10 100 B ∧ Bag (n + 40) d' ∧ R = .ret false (.tup [pd T, pd B]) [d']
def tbP (n : Nat) (as : List (Bool × D)) : Ps := { rt := fun ρ fr d => ∃ l, outs ρ 0 as = some l ∧ TB n (.ret fr d l), nx := fun ρ => ∃ l, outs ρ 0 as = some l ∧ TB n (.ret false .non l) }
theorem tb0 {n : Nat} {d : D} (h : Bag n d) (hn : n ≤ 900000) : ∃ (w a b : Int) (d' : D), 0 ≤ w ∧ w < 8 ∧ 1 ≤ a ∧ a < 10 ∧ 1 ≤ b ∧ b < 7 ∧ Bag (n + 3) d' ∧ (dParX [1, 2, 3] (xVal (dV (dCal2 2 F_q_grab (rIo 0 (rVal (dC (.int 8)) (rNil))))) (xVal (dBin addD (oD (dC (.int 1))) (oD (dV (dCal2 2 F_q_grab (rIo 0 (rVal (dC (.int 9)) (rNil))))))) (xVal (dBin addD (oD (dC (.int 1))) (oD (dV (dCal2 2 F_q_grab (rIo 0 (rVal (dC (.int 6)) (rNil))))))) (xNil))))) [some (.mu true d), none, none, none, none, none, none, none, none, none, none] = .nx [some (.mu true d'), some (.val (.int w)), some (.val (.int a)), some (.val (.int b)), none, none, none, none, none, none, none] := by
  obtain ⟨w, d1, w0, w1, h1, e1⟩ := e_grab (t := 8) h (by omega) (by decide) (sm_of (by decide))
  obtain ⟨a, d2, a0, a1, h2, e2⟩ := e_grab (t := 9) h1 (by omega) (by decide) (sm_of (by decide))
  obtain ⟨b, d3, b0, b1, h3, e3⟩ := e_grab (t := 6) h2 (by omega) (by decide) (sm_of (by decide))
  refine ⟨w, 1 + a, 1 + b, d3, w0, w1, by omega, by omega, by omega, by omega, h3, ?_⟩
  simp [eqY_int, neY_int, max2_ap, min2_ap, DF.R.bind_ok, DF.R.bindS_ok, DF.R.bindN_ok, DF.SR.bind_nx, DF.SR.bind_ret, ofO, ths, setV, setF, free, set2, set3, fnRes, startE, startC, outs, argsD, putD, ioIx, isMu, look, DF.muL, ltD_ap, leD_ap, gtD_ap, geD_ap, addD_ap, subD_ap, negD_ap, absD_ap, intD_ap, intD_apB, eq_int, ne_int, ixD, L2.atI, L2.ixN, lenD, gcdD, max2D, min2D, e1, e2, e3]
  try rfl
section
variable {n : Nat} {d : D} {w a b : Int} {c4 : Option Cell}
abbrev tbS (d : D) (w a b : Int) : DEnv := [some (.mu true d), some (.val (.int w)), some (.val (.int a)), some (.val (.int b)), none, none, none, none, none, none, none]
theorem tb1 : ¬ w < 2 → (dIf (dTst (dBin ltD (oVar 1) (oD (dC (.int 2))))) (dRet (dTup (vCons (dTup (vCons (dBin addD (oVar 2) (oVar 3)) (vNil))) (vCons (dTup (vCons (dVar 2) (vCons (dVar 3) (vNil)))) (vNil))))) (SR.nx)) (tbS d w a b) = .nx (tbS d w a b) := fun h => by simp [eqY_int, neY_int, max2_ap, min2_ap, DF.R.bind_ok, DF.R.bindS_ok, DF.R.bindN_ok, DF.SR.bind_nx, DF.SR.bind_ret, ofO, ths, setV, setF, free, set2, set3, fnRes, startE, startC, outs, argsD, putD, ioIx, isMu, look, DF.muL, ltD_ap, leD_ap, gtD_ap, geD_ap, addD_ap, subD_ap, negD_ap, absD_ap, intD_ap, intD_apB, eq_int, ne_int, ixD, L2.atI, L2.ixN, lenD, gcdD, max2D, min2D, h]
theorem tb1' : w < 2 → (dIf (dTst (dBin ltD (oVar 1) (oD (dC (.int 2))))) (dRet (dTup (vCons (dTup (vCons (dBin addD (oVar 2) (oVar 3)) (vNil))) (vCons (dTup (vCons (dVar 2) (vCons (dVar 3) (vNil)))) (vNil))))) (SR.nx)) (tbS d w a b) = .ret (tbS d w a b) false (.tup [pd [a + b], pd [a, b]]) := fun h => by simp [eqY_int, neY_int, max2_ap, min2_ap, DF.R.bind_ok, DF.R.bindS_ok, DF.R.bindN_ok, DF.SR.bind_nx, DF.SR.bind_ret, ofO, ths, setV, setF, free, set2, set3, fnRes, startE, startC, outs, argsD, putD, ioIx, isMu, look, DF.muL, ltD_ap, leD_ap, gtD_ap, geD_ap, addD_ap, subD_ap, negD_ap, absD_ap, intD_ap, intD_apB, eq_int, ne_int, ixD, L2.atI, L2.ixN, lenD, gcdD, max2D, min2D, h]
theorem m2 (a : Int) (h : 1 ≤ a ∧ a < 100) : mulD (.int 2) (.int a) = some (.int (2 * a)) := mulD_ap (cm (sm_of (by decide)) (sm_of (by omega)))
theorem tb2 : ¬ w = 2 → (dIf (dTst (dBin eqY (oVar 1) (oD (dC (.int 2))))) (dRet (dTup (vCons (dTup (vCons (dBin mulD (oD (dC (.int 2))) (oD (dBin addD (oVar 2) (oVar 3)))) (vCons (dVar 3) (vNil)))) (vCons (dTup (vCons (dBin addD (oVar 2) (oVar 3)) (vCons (dBin mulD (oD (dC (.int 2))) (oVar 3)) (vCons (dVar 2) (vNil))))) (vNil))))) (SR.nx)) (tbS d w a b) = .nx (tbS d w a b) := fun h => by simp [eqY_int, neY_int, max2_ap, min2_ap, DF.R.bind_ok, DF.R.bindS_ok, DF.R.bindN_ok, DF.SR.bind_nx, DF.SR.bind_ret, ofO, ths, setV, setF, free, set2, set3, fnRes, startE, startC, outs, argsD, putD, ioIx, isMu, look, DF.muL, ltD_ap, leD_ap, gtD_ap, geD_ap, addD_ap, subD_ap, negD_ap, absD_ap, intD_ap, intD_apB, eq_int, ne_int, ixD, L2.atI, L2.ixN, lenD, gcdD, max2D, min2D, h]
theorem tb2' (ha : 1 ≤ a ∧ a < 10) (hb : 1 ≤ b ∧ b < 7) : w = 2 → (dIf (dTst (dBin eqY (oVar 1) (oD (dC (.int 2))))) (dRet (dTup (vCons (dTup (vCons (dBin mulD (oD (dC (.int 2))) (oD (dBin addD (oVar 2) (oVar 3)))) (vCons (dVar 3) (vNil)))) (vCons (dTup (vCons (dBin addD (oVar 2) (oVar 3)) (vCons (dBin mulD (oD (dC (.int 2))) (oVar 3)) (vCons (dVar 2) (vNil))))) (vNil))))) (SR.nx)) (tbS d w a b) = .ret (tbS d w a b) false (.tup [pd [2 * (a + b), b], pd [a + b, 2 * b, a]]) := fun h => by
  have e1 := m2 (a + b) (by omega)
  have e2 := m2 b (by omega)
  simp [eqY_int, neY_int, max2_ap, min2_ap, DF.R.bind_ok, DF.R.bindS_ok, DF.R.bindN_ok, DF.SR.bind_nx, DF.SR.bind_ret, ofO, ths, setV, setF, free, set2, set3, fnRes, startE, startC, outs, argsD, putD, ioIx, isMu, look, DF.muL, ltD_ap, leD_ap, gtD_ap, geD_ap, addD_ap, subD_ap, negD_ap, absD_ap, intD_ap, intD_apB, eq_int, ne_int, ixD, L2.atI, L2.ixN, lenD, gcdD, max2D, min2D, h, e1, e2]
theorem tb3 : ¬ w = 3 → (dIf (dTst (dBin eqY (oVar 1) (oD (dC (.int 3))))) (dRet (dTup (vCons (dTup (vCons (dBin mulD (oD (dC (.int 2))) (oVar 2)) (vCons (dBin mulD (oD (dC (.int 2))) (oVar 3)) (vNil)))) (vCons (dTup (vCons (dVar 2) (vCons (dVar 3) (vCons (dBin addD (oVar 2) (oVar 3)) (vNil))))) (vNil))))) (SR.nx)) (tbS d w a b) = .nx (tbS d w a b) := fun h => by simp [eqY_int, neY_int, max2_ap, min2_ap, DF.R.bind_ok, DF.R.bindS_ok, DF.R.bindN_ok, DF.SR.bind_nx, DF.SR.bind_ret, ofO, ths, setV, setF, free, set2, set3, fnRes, startE, startC, outs, argsD, putD, ioIx, isMu, look, DF.muL, ltD_ap, leD_ap, gtD_ap, geD_ap, addD_ap, subD_ap, negD_ap, absD_ap, intD_ap, intD_apB, eq_int, ne_int, ixD, L2.atI, L2.ixN, lenD, gcdD, max2D, min2D, h]
theorem tb3' (ha : 1 ≤ a ∧ a < 10) (hb : 1 ≤ b ∧ b < 7) : w = 3 → (dIf (dTst (dBin eqY (oVar 1) (oD (dC (.int 3))))) (dRet (dTup (vCons (dTup (vCons (dBin mulD (oD (dC (.int 2))) (oVar 2)) (vCons (dBin mulD (oD (dC (.int 2))) (oVar 3)) (vNil)))) (vCons (dTup (vCons (dVar 2) (vCons (dVar 3) (vCons (dBin addD (oVar 2) (oVar 3)) (vNil))))) (vNil))))) (SR.nx)) (tbS d w a b) = .ret (tbS d w a b) false (.tup [pd [2 * a, 2 * b], pd [a, b, a + b]]) := fun h => by
  have e1 := m2 a (by omega)
  have e2 := m2 b (by omega)
  simp [eqY_int, neY_int, max2_ap, min2_ap, DF.R.bind_ok, DF.R.bindS_ok, DF.R.bindN_ok, DF.SR.bind_nx, DF.SR.bind_ret, ofO, ths, setV, setF, free, set2, set3, fnRes, startE, startC, outs, argsD, putD, ioIx, isMu, look, DF.muL, ltD_ap, leD_ap, gtD_ap, geD_ap, addD_ap, subD_ap, negD_ap, absD_ap, intD_ap, intD_apB, eq_int, ne_int, ixD, L2.atI, L2.ixN, lenD, gcdD, max2D, min2D, h, e1, e2]
theorem tb4 : ¬ w = 4 → (dIf (dTst (dBin eqY (oVar 1) (oD (dC (.int 4))))) (dSeq (dSet 4 (dLst (vCons (dTup (vCons (dTup (vCons (dC (.int 30)) (vCons (dC (.int 1)) (vNil)))) (vCons (dTup (vCons (dC (.int 15)) (vCons (dC (.int 10)) (vCons (dC (.int 6)) (vNil))))) (vNil)))) (vCons (dTup (vCons (dTup (vCons (dC (.int 12)) (vCons (dC (.int 1)) (vNil)))) (vCons (dTup (vCons (dC (.int 6)) (vCons (dC (.int 4)) (vCons (dC (.int 3)) (vNil))))) (vNil)))) (vCons (dTup (vCons (dTup (vCons (dC (.int 12)) (vCons (dC (.int 3)) (vNil)))) (vCons (dTup (vCons (dC (.int 8)) (vCons (dC (.int 6)) (vCons (dC (.int 1)) (vNil))))) (vNil)))) (vCons (dTup (vCons (dTup (vCons (dC (.int 20)) (vCons (dC (.int 1)) (vNil)))) (vCons (dTup (vCons (dC (.int 10)) (vCons (dC (.int 8)) (vCons (dC (.int 3)) (vNil))))) (vNil)))) (vCons (dTup (vCons (dTup (vCons (dC (.int 10)) (vCons (dC (.int 1)) (vNil)))) (vCons (dTup (vCons (dC (.int 5)) (vCons (dC (.int 4)) (vCons (dC (.int 2)) (vNil))))) (vNil)))) (vNil))))))))
    (dRet (dV (dCal2 2 F_q_one_of (rIo 0 (rVal (dVar 4) (rNil))))))) (SR.nx)) (tbS d w a b) = .nx (tbS d w a b) := fun h => by simp [eqY_int, neY_int, max2_ap, min2_ap, DF.R.bind_ok, DF.R.bindS_ok, DF.R.bindN_ok, DF.SR.bind_nx, DF.SR.bind_ret, ofO, ths, setV, setF, free, set2, set3, fnRes, startE, startC, outs, argsD, putD, ioIx, isMu, look, DF.muL, ltD_ap, leD_ap, gtD_ap, geD_ap, addD_ap, subD_ap, negD_ap, absD_ap, intD_ap, intD_apB, eq_int, ne_int, ixD, L2.atI, L2.ixN, lenD, gcdD, max2D, min2D, h]
def apart : List D := [.tup [pd [30, 1], pd [15, 10, 6]], .tup [pd [12, 1], pd [6, 4, 3]], .tup [pd [12, 3], pd [8, 6, 1]], .tup [pd [20, 1], pd [10, 8, 3]], .tup [pd [10, 1], pd [5, 4, 2]]]
theorem tb4' (h : Bag n d) (hn : n ≤ 900000) : w = 4 → ∃ (x d' : D) (ρ : DEnv), x ∈ apart ∧ Bag (n + 1) d' ∧ (dIf (dTst (dBin eqY (oVar 1) (oD (dC (.int 4))))) (dSeq (dSet 4 (dLst (vCons (dTup (vCons (dTup (vCons (dC (.int 30)) (vCons (dC (.int 1)) (vNil)))) (vCons (dTup (vCons (dC (.int 15)) (vCons (dC (.int 10)) (vCons (dC (.int 6)) (vNil))))) (vNil)))) (vCons (dTup (vCons (dTup (vCons (dC (.int 12)) (vCons (dC (.int 1)) (vNil)))) (vCons (dTup (vCons (dC (.int 6)) (vCons (dC (.int 4)) (vCons (dC (.int 3)) (vNil))))) (vNil)))) (vCons (dTup (vCons (dTup (vCons (dC (.int 12)) (vCons (dC (.int 3)) (vNil)))) (vCons (dTup (vCons (dC (.int 8)) (vCons (dC (.int 6)) (vCons (dC (.int 1)) (vNil))))) (vNil)))) (vCons (dTup (vCons (dTup (vCons (dC (.int 20)) (vCons (dC (.int 1)) (vNil)))) (vCons (dTup (vCons (dC (.int 10)) (vCons (dC (.int 8)) (vCons (dC (.int 3)) (vNil))))) (vNil)))) (vCons (dTup (vCons (dTup (vCons (dC (.int 10)) (vCons (dC (.int 1)) (vNil)))) (vCons (dTup (vCons (dC (.int 5)) (vCons (dC (.int 4)) (vCons (dC (.int 2)) (vNil))))) (vNil)))) (vNil))))))))
    (dRet (dV (dCal2 2 F_q_one_of (rIo 0 (rVal (dVar 4) (rNil))))))) (SR.nx)) (tbS d w a b) = .ret ρ false x ∧ ρ[0]? = some (some (.mu true d')) := fun hw => by
  obtain ⟨r, d', x, e1, hb, e2⟩ := e_one (l := apart) h (by omega) (by decide) (by decide)
  refine ⟨x, d', [some (.mu true d'), some (.val (.int w)), some (.val (.int a)), some (.val (.int b)), some (.val (.lst apart)), none, none, none, none, none, none], List.mem_of_getElem? e1, hb, ?_, rfl⟩
  have e3 : dSet 4 (dLst (vCons (dTup (vCons (dTup (vCons (dC (.int 30)) (vCons (dC (.int 1)) (vNil)))) (vCons (dTup (vCons (dC (.int 15)) (vCons (dC (.int 10)) (vCons (dC (.int 6)) (vNil))))) (vNil)))) (vCons (dTup (vCons (dTup (vCons (dC (.int 12)) (vCons (dC (.int 1)) (vNil)))) (vCons (dTup (vCons (dC (.int 6)) (vCons (dC (.int 4)) (vCons (dC (.int 3)) (vNil))))) (vNil)))) (vCons (dTup (vCons (dTup (vCons (dC (.int 12)) (vCons (dC (.int 3)) (vNil)))) (vCons (dTup (vCons (dC (.int 8)) (vCons (dC (.int 6)) (vCons (dC (.int 1)) (vNil))))) (vNil)))) (vCons (dTup (vCons (dTup (vCons (dC (.int 20)) (vCons (dC (.int 1)) (vNil)))) (vCons (dTup (vCons (dC (.int 10)) (vCons (dC (.int 8)) (vCons (dC (.int 3)) (vNil))))) (vNil)))) (vCons (dTup (vCons (dTup (vCons (dC (.int 10)) (vCons (dC (.int 1)) (vNil)))) (vCons (dTup (vCons (dC (.int 5)) (vCons (dC (.int 4)) (vCons (dC (.int 2)) (vNil))))) (vNil)))) (vNil))))))) (tbS d w a b) = .nx [some (.mu true d), some (.val (.int w)), some (.val (.int a)), some (.val (.int b)), some (.val (.lst apart)), none, none, none, none, none, none] := by
    simp [eqY_int, neY_int, max2_ap, min2_ap, DF.R.bind_ok, DF.R.bindS_ok, DF.R.bindN_ok, DF.SR.bind_nx, DF.SR.bind_ret, ofO, ths, setV, setF, free, set2, set3, fnRes, startE, startC, outs, argsD, putD, ioIx, isMu, look, DF.muL, ltD_ap, leD_ap, gtD_ap, geD_ap, addD_ap, subD_ap, negD_ap, absD_ap, intD_ap, intD_apB, eq_int, ne_int, ixD, L2.atI, L2.ixN, lenD, gcdD, max2D, min2D, apart]
  rw [dIf_ap]
  have e4 : dTst (dBin eqY (oVar 1) (oD (dC (.int 4)))) (tbS d w a b) = .ok (tbS d w a b) true := by simp [eqY_int, neY_int, max2_ap, min2_ap, DF.R.bind_ok, DF.R.bindS_ok, DF.R.bindN_ok, DF.SR.bind_nx, DF.SR.bind_ret, ofO, ths, setV, setF, free, set2, set3, fnRes, startE, startC, outs, argsD, putD, ioIx, isMu, look, DF.muL, ltD_ap, leD_ap, gtD_ap, geD_ap, addD_ap, subD_ap, negD_ap, absD_ap, intD_ap, intD_apB, eq_int, ne_int, ixD, L2.atI, L2.ixN, lenD, gcdD, max2D, min2D, hw]
  rw [e4, DF.R.bindS_ok]
  dsimp only
  rw [dSeq_ap, e3, SR.bind_nx]
  generalize apart = ap at *
  simp [eqY_int, neY_int, max2_ap, min2_ap, DF.R.bind_ok, DF.R.bindS_ok, DF.R.bindN_ok, DF.SR.bind_nx, DF.SR.bind_ret, ofO, ths, setV, setF, free, set2, set3, fnRes, startE, startC, outs, argsD, putD, ioIx, isMu, look, DF.muL, ltD_ap, leD_ap, gtD_ap, geD_ap, addD_ap, subD_ap, negD_ap, absD_ap, intD_ap, intD_apB, eq_int, ne_int, ixD, L2.atI, L2.ixN, lenD, gcdD, max2D, min2D, e2]
theorem tb5 : ¬ w = 5 → (dIf (dTst (dBin eqY (oVar 1) (oD (dC (.int 5))))) (dSeq (dSet 6 (dLc (sRng1 (vCons (dBin addD (oD (dC (.int 2))) (oD (dV (dCal2 2 F_q_grab (rIo 0 (rVal (dC (.int 4)) (rNil))))))) (vNil))) (setV 5) (tYesB) (dBin addD (oD (dC (.int 1))) (oD (dV (dCal2 2 F_q_grab (rIo 0 (rVal (dC (.int 4)) (rNil))))))) [5]))
    (dRet (dTup (vCons (dTup (vCons (dCal sumAD (aCons (oVar 6) (aNil))) (vNil))) (vCons (dCal tupD (aCons (oVar 6) (aNil))) (vNil)))))) (SR.nx)) (tbS d w a b) = .nx (tbS d w a b) := fun h => by simp [eqY_int, neY_int, max2_ap, min2_ap, DF.R.bind_ok, DF.R.bindS_ok, DF.R.bindN_ok, DF.SR.bind_nx, DF.SR.bind_ret, ofO, ths, setV, setF, free, set2, set3, fnRes, startE, startC, outs, argsD, putD, ioIx, isMu, look, DF.muL, ltD_ap, leD_ap, gtD_ap, geD_ap, addD_ap, subD_ap, negD_ap, absD_ap, intD_ap, intD_apB, eq_int, ne_int, ixD, L2.atI, L2.ixN, lenD, gcdD, max2D, min2D, h]
theorem tb5' (h : Bag n d) (hn : n ≤ 900000) : w = 5 → ∃ (L : List Int) (d' : D) (ρ : DEnv), Fine 6 4 L ∧ 2 ≤ L.length ∧ Bag (n + 7) d' ∧ (dIf (dTst (dBin eqY (oVar 1) (oD (dC (.int 5))))) (dSeq (dSet 6 (dLc (sRng1 (vCons (dBin addD (oD (dC (.int 2))) (oD (dV (dCal2 2 F_q_grab (rIo 0 (rVal (dC (.int 4)) (rNil))))))) (vNil))) (setV 5) (tYesB) (dBin addD (oD (dC (.int 1))) (oD (dV (dCal2 2 F_q_grab (rIo 0 (rVal (dC (.int 4)) (rNil))))))) [5]))
    (dRet (dTup (vCons (dTup (vCons (dCal sumAD (aCons (oVar 6) (aNil))) (vNil))) (vCons (dCal tupD (aCons (oVar 6) (aNil))) (vNil)))))) (SR.nx)) (tbS d w a b) = .ret ρ false (.tup [pd [L.sum], pd L]) ∧ ρ[0]? = some (some (.mu true d')) := fun hw => by
  obtain ⟨L, d', e1, fL, l2, hb⟩ := cg 2 4 4 (by decide) (by decide) (by decide) (by decide) (by decide) (by decide) (c1 := some (.val (.int w))) (c2 := some (.val (.int a))) (c3 := some (.val (.int b))) (c4 := none) (c6 := none) (c7 := none) (c8 := none) (c9 := none) (c10 := none) n d h hn
  refine ⟨L, d', [some (.mu true d'), some (.val (.int w)), some (.val (.int a)), some (.val (.int b)), none, none, some (.val (ld L)), none, none, none, none], fL, l2, hb.mono (by show n + 1 + 6 ≤ n + 7; omega), ?_, rfl⟩
  rw [dIf_ap]
  have e4 : dTst (dBin eqY (oVar 1) (oD (dC (.int 5)))) (tbS d w a b) = .ok (tbS d w a b) true := by simp [eqY_int, neY_int, max2_ap, min2_ap, DF.R.bind_ok, DF.R.bindS_ok, DF.R.bindN_ok, DF.SR.bind_nx, DF.SR.bind_ret, ofO, ths, setV, setF, free, set2, set3, fnRes, startE, startC, outs, argsD, putD, ioIx, isMu, look, DF.muL, ltD_ap, leD_ap, gtD_ap, geD_ap, addD_ap, subD_ap, negD_ap, absD_ap, intD_ap, intD_apB, eq_int, ne_int, ixD, L2.atI, L2.ixN, lenD, gcdD, max2D, min2D, hw]
  rw [e4, DF.R.bindS_ok]
  dsimp only
  rw [dSeq_ap, dSet_ap, e1]
  simp [eqY_int, neY_int, max2_ap, min2_ap, DF.R.bind_ok, DF.R.bindS_ok, DF.R.bindN_ok, DF.SR.bind_nx, DF.SR.bind_ret, ofO, ths, setV, setF, free, set2, set3, fnRes, startE, startC, outs, argsD, putD, ioIx, isMu, look, DF.muL, ltD_ap, leD_ap, gtD_ap, geD_ap, addD_ap, subD_ap, negD_ap, absD_ap, intD_ap, intD_apB, eq_int, ne_int, ixD, L2.atI, L2.ixN, lenD, gcdD, max2D, min2D, tupD_ld, sumAD_lst]
theorem tb6 : ¬ w = 6 → (dIf (dTst (dBin eqY (oVar 1) (oD (dC (.int 6))))) (dRet (dTup (vCons (dTup (vCons (dBin addD (oVar 2) (oVar 3)) (vCons (dBin mulD (oD (dC (.int 2))) (oVar 3)) (vNil)))) (vCons (dTup (vCons (dVar 2) (vCons (dVar 3) (vCons (dVar 3) (vCons (dVar 3) (vNil)))))) (vNil))))) (SR.nx)) (tbS d w a b) = .nx (tbS d w a b) := fun h => by simp [eqY_int, neY_int, max2_ap, min2_ap, DF.R.bind_ok, DF.R.bindS_ok, DF.R.bindN_ok, DF.SR.bind_nx, DF.SR.bind_ret, ofO, ths, setV, setF, free, set2, set3, fnRes, startE, startC, outs, argsD, putD, ioIx, isMu, look, DF.muL, ltD_ap, leD_ap, gtD_ap, geD_ap, addD_ap, subD_ap, negD_ap, absD_ap, intD_ap, intD_apB, eq_int, ne_int, ixD, L2.atI, L2.ixN, lenD, gcdD, max2D, min2D, h]
theorem tb6' (ha : 1 ≤ a ∧ a < 10) (hb : 1 ≤ b ∧ b < 7) : w = 6 → (dIf (dTst (dBin eqY (oVar 1) (oD (dC (.int 6))))) (dRet (dTup (vCons (dTup (vCons (dBin addD (oVar 2) (oVar 3)) (vCons (dBin mulD (oD (dC (.int 2))) (oVar 3)) (vNil)))) (vCons (dTup (vCons (dVar 2) (vCons (dVar 3) (vCons (dVar 3) (vCons (dVar 3) (vNil)))))) (vNil))))) (SR.nx)) (tbS d w a b) = .ret (tbS d w a b) false (.tup [pd [a + b, 2 * b], pd [a, b, b, b]]) := fun h => by
  have e2 := m2 b (by omega)
  simp [eqY_int, neY_int, max2_ap, min2_ap, DF.R.bind_ok, DF.R.bindS_ok, DF.R.bindN_ok, DF.SR.bind_nx, DF.SR.bind_ret, ofO, ths, setV, setF, free, set2, set3, fnRes, startE, startC, outs, argsD, putD, ioIx, isMu, look, DF.muL, ltD_ap, leD_ap, gtD_ap, geD_ap, addD_ap, subD_ap, negD_ap, absD_ap, intD_ap, intD_apB, eq_int, ne_int, ixD, L2.atI, L2.ixN, lenD, gcdD, max2D, min2D, h, e2]
end
end K14

namespace K14
open PySem DF
theorem add_ll (l m : List D) (h : l.length + m.length ≤ 16000000) : addD (.lst l) (.lst m) = some (.lst (l ++ m)) := by
  show (match addI (.lst l) (.lst m) with | some z => some z | none => orD catL catT (.lst l) (.lst m)) = _
  show (match catL (.lst l) (.lst m) with | some z => some z | none => catT (.lst l) (.lst m)) = _
  have e : catL (.lst l) (.lst m) = some (.lst (l ++ m)) := by
    show (if l.length + m.length ≤ 16000000 then some (D.lst (l ++ m)) else none) = _
    rw [if_pos h]
  rw [e]
theorem add_tt (l m : List D) (h : l.length + m.length ≤ 16000000) : addD (.tup l) (.tup m) = some (.tup (l ++ m)) := by
  show (match addI (.tup l) (.tup m) with | some z => some z | none => orD catL catT (.tup l) (.tup m)) = _
  show (match catL (.tup l) (.tup m) with | some z => some z | none => catT (.tup l) (.tup m)) = _
  show catT (.tup l) (.tup m) = _
  show (if l.length + m.length ≤ 16000000 then some (D.tup (l ++ m)) else none) = _
  rw [if_pos h]
section
variable {n : Nat} {d : D} {w a b : Int}
abbrev tbZ (d : D) (w a b : Int) (L F : List Int) (gap : Int) (c5 c10 : Option D) : DEnv := [some (.mu true d), some (.val (.int w)), some (.val (.int a)), some (.val (.int b)), none, c5.map Cell.val, none, some (.val (ld L)), some (.val (.int gap)), some (.val (ld F)), c10.map Cell.val]
theorem tb7 (h : Bag n d) (hn : n ≤ 900000) : ∃ (L : List Int) (d' : D), Fine 4 12 L ∧ Bag (n + 5) d' ∧ (dSet 7 (dLc (sRng1 (vCons (dBin addD (oD (dC (.int 1))) (oD (dV (dCal2 2 F_q_grab (rIo 0 (rVal (dC (.int 3)) (rNil))))))) (vNil))) (setV 5) (tYesB) (dBin addD (oD (dC (.int 1))) (oD (dV (dCal2 2 F_q_grab (rIo 0 (rVal (dC (.int 12)) (rNil))))))) [5])) (tbS d w a b) = .nx [some (.mu true d'), some (.val (.int w)), some (.val (.int a)), some (.val (.int b)), none, none, none, some (.val (ld L)), none, none, none] := by
  obtain ⟨L, d', e1, fL, _, hb⟩ := cg 1 3 12 (by decide) (by decide) (by decide) (by decide) (by decide) (by decide) (c1 := some (.val (.int w))) (c2 := some (.val (.int a))) (c3 := some (.val (.int b))) (c4 := none) (c6 := none) (c7 := none) (c8 := none) (c9 := none) (c10 := none) n d h hn
  refine ⟨L, d', fL, hb.mono (by show n + 1 + 4 ≤ n + 5; omega), ?_⟩
  rw [dSet_ap, e1]
  simp [eqY_int, neY_int, max2_ap, min2_ap, DF.R.bind_ok, DF.R.bindS_ok, DF.R.bindN_ok, DF.SR.bind_nx, DF.SR.bind_ret, ofO, ths, setV, setF, free, set2, set3, fnRes, startE, startC, outs, argsD, putD, ioIx, isMu, look, DF.muL, ltD_ap, leD_ap, gtD_ap, geD_ap, addD_ap, subD_ap, negD_ap, absD_ap, intD_ap, intD_apB, eq_int, ne_int, ixD, L2.atI, L2.ixN, lenD, gcdD, max2D, min2D]
theorem tb8 (L : List Int) : (dPar 8 9 (vCons (dCal sumAD (aCons (oVar 7) (aNil))) (vCons (dLst (vNil)) (vNil)))) [some (.mu true d), some (.val (.int w)), some (.val (.int a)), some (.val (.int b)), none, none, none, some (.val (ld L)), none, none, none] = .nx (tbZ d w a b L [] L.sum none none) := by
  simp [eqY_int, neY_int, max2_ap, min2_ap, DF.R.bind_ok, DF.R.bindS_ok, DF.R.bindN_ok, DF.SR.bind_nx, DF.SR.bind_ret, ofO, ths, setV, setF, free, set2, set3, fnRes, startE, startC, outs, argsD, putD, ioIx, isMu, look, DF.muL, ltD_ap, leD_ap, gtD_ap, geD_ap, addD_ap, subD_ap, negD_ap, absD_ap, intD_ap, intD_apB, eq_int, ne_int, ixD, L2.atI, L2.ixN, lenD, gcdD, max2D, min2D, sumAD_lst]
/-- one turn -/
theorem tbB (L F : List Int) (gap : Int) (c5 c10 : Option D) (h : Bag n d) (hn : n ≤ 900000) (hg : 0 ≤ gap) (hF : F.length ≤ 100) : ∃ (o : Int) (d' : D), 0 ≤ o ∧ o ≤ gap ∧ o ≤ 8 ∧ Bag (n + 1) d' ∧ (dSeq (dSet 10 (dCal (orC min2D minSD) (aCons (oVar 8) (aCons (oD (dBin addD (oD (dC (.int 1))) (oD (dV (dCal2 2 F_q_grab (rIo 0 (rVal (dC (.int 8)) (rNil)))))))) (aNil)))))
    (dPar 9 8 (vCons (dBin addD (oVar 9) (oD (dIte (dTst (dBin gtD (oVar 10) (oD (dC (.int 0))))) (dLst (vCons (dVar 10) (vNil))) (dLst (vNil))))) (vCons (dBin subD (oVar 8) (oVar 10)) (vNil))))) (tbZ d w a b L F gap c5 c10) = .nx (tbZ d' w a b L (if 0 < o then F ++ [o] else F) (gap - o) c5 (some (.int o))) := by
  obtain ⟨g, d', g0, g1, hb, eg⟩ := e_grab (t := 8) h (by omega) (by decide) (sm_of (by decide))
  have hmin : ∃ o : Int, 0 ≤ o ∧ o ≤ gap ∧ o ≤ 8 ∧ orC min2D minSD [.int gap, .int (1 + g)] = some (.int o) := by
    by_cases hc : 1 + g < gap
    · exact ⟨1 + g, by omega, by omega, by omega, by simp [eqY_int, neY_int, max2_ap, min2_ap, DF.R.bind_ok, DF.R.bindS_ok, DF.R.bindN_ok, DF.SR.bind_nx, DF.SR.bind_ret, ofO, ths, setV, setF, free, set2, set3, fnRes, startE, startC, outs, argsD, putD, ioIx, isMu, look, DF.muL, ltD_ap, leD_ap, gtD_ap, geD_ap, addD_ap, subD_ap, negD_ap, absD_ap, intD_ap, intD_apB, eq_int, ne_int, ixD, L2.atI, L2.ixN, lenD, gcdD, max2D, min2D, hc]⟩
    · exact ⟨gap, hg, Int.le_refl _, by omega, by simp [eqY_int, neY_int, max2_ap, min2_ap, DF.R.bind_ok, DF.R.bindS_ok, DF.R.bindN_ok, DF.SR.bind_nx, DF.SR.bind_ret, ofO, ths, setV, setF, free, set2, set3, fnRes, startE, startC, outs, argsD, putD, ioIx, isMu, look, DF.muL, ltD_ap, leD_ap, gtD_ap, geD_ap, addD_ap, subD_ap, negD_ap, absD_ap, intD_ap, intD_apB, eq_int, ne_int, ixD, L2.atI, L2.ixN, lenD, gcdD, max2D, min2D, hc]⟩
  obtain ⟨o, o0, o1, o2, eo⟩ := hmin
  refine ⟨o, d', o0, o1, o2, hb, ?_⟩
  have a1 := add_ll (F.map D.int) [.int o] (by simp; omega)
  have a2 := add_ll (F.map D.int) [] (by simp; omega)
  by_cases ho : 0 < o
  · rw [if_pos ho]
    cases c5 <;> cases c10 <;> simp [eqY_int, neY_int, max2_ap, min2_ap, DF.R.bind_ok, DF.R.bindS_ok, DF.R.bindN_ok, DF.SR.bind_nx, DF.SR.bind_ret, ofO, ths, setV, setF, free, set2, set3, fnRes, startE, startC, outs, argsD, putD, ioIx, isMu, look, DF.muL, ltD_ap, leD_ap, gtD_ap, geD_ap, addD_ap, subD_ap, negD_ap, absD_ap, intD_ap, intD_apB, eq_int, ne_int, ixD, L2.atI, L2.ixN, lenD, gcdD, max2D, min2D, eg, eo, ho, a1, a2]
  · rw [if_neg ho]
    cases c5 <;> cases c10 <;> simp [eqY_int, neY_int, max2_ap, min2_ap, DF.R.bind_ok, DF.R.bindS_ok, DF.R.bindN_ok, DF.SR.bind_nx, DF.SR.bind_ret, ofO, ths, setV, setF, free, set2, set3, fnRes, startE, startC, outs, argsD, putD, ioIx, isMu, look, DF.muL, ltD_ap, leD_ap, gtD_ap, geD_ap, addD_ap, subD_ap, negD_ap, absD_ap, intD_ap, intD_apB, eq_int, ne_int, ixD, L2.atI, L2.ixN, lenD, gcdD, max2D, min2D, eg, eo, ho, a1, a2]
theorem fine_app {k : Nat} {m : Int} {F : List Int} {o : Int} (h : Fine k m F) (h1 : 1 ≤ o) (h2 : o ≤ m) : Fine (k + 1) m (F ++ [o]) := ⟨by rw [List.length_append, List.length_singleton]; have := h.len; omega, fun x hx => by
  rcases List.mem_append.mp hx with hx | hx
  · exact h.bd x hx
  · rw [List.mem_singleton.mp hx]; exact ⟨h1, h2⟩⟩
end
theorem e_told {n : Nat} {d : D} (h : Bag n d) (hn : n ≤ 800000) : TB n (F_q_told_balanced [(true, d)]) := by
  refine fn_of (P := fun R => TB n R) ?_
  unfold B_q_told_balanced
  rw [show startE 11 [(true, d)] = [some (.mu true d), none, none, none, none, none, none, none, none, none, none] from rfl]
  obtain ⟨w, a, b, d1, w0, w1, a0, a1, b0, b1, h1, e0⟩ := tb0 h (by omega)
  refine wp_seq e0 ?_
  by_cases c1 : w < 2
  · exact wp_seqR (tb1' c1) ⟨[d1], rfl, [a + b], [a, b], d1, ⟨by simp, by simp; omega⟩, ⟨by simp, by simp; omega⟩, h1.mono (by omega), rfl⟩
  refine wp_seq (tb1 c1) ?_
  by_cases c2 : w = 2
  · exact wp_seqR (tb2' ⟨a0, a1⟩ ⟨b0, b1⟩ c2) ⟨[d1], rfl, [2 * (a + b), b], [a + b, 2 * b, a], d1, ⟨by simp, by simp; omega⟩, ⟨by simp, by simp; omega⟩, h1.mono (by omega), rfl⟩
  refine wp_seq (tb2 c2) ?_
  by_cases c3 : w = 3
  · exact wp_seqR (tb3' ⟨a0, a1⟩ ⟨b0, b1⟩ c3) ⟨[d1], rfl, [2 * a, 2 * b], [a, b, a + b], d1, ⟨by simp, by simp; omega⟩, ⟨by simp, by simp; omega⟩, h1.mono (by omega), rfl⟩
  refine wp_seq (tb3 c3) ?_
  by_cases c4 : w = 4
  · obtain ⟨x, d2, ρ, hx, hb, e, e2⟩ := tb4' (a := a) (b := b) h1 (by omega) c4
    refine wp_seqR e ⟨[d2], ?_, ?_⟩
    · show outs ρ 0 [(true, d)] = some [d2]
      simp [outs, e2]
    · simp only [apart, List.mem_cons, List.not_mem_nil, or_false] at hx
      rcases hx with rfl | rfl | rfl | rfl | rfl
      · exact ⟨[30, 1], [15, 10, 6], d2, fineL (by decide) (by decide), fineL (by decide) (by decide), hb.mono (by omega), rfl⟩
      · exact ⟨[12, 1], [6, 4, 3], d2, fineL (by decide) (by decide), fineL (by decide) (by decide), hb.mono (by omega), rfl⟩
      · exact ⟨[12, 3], [8, 6, 1], d2, fineL (by decide) (by decide), fineL (by decide) (by decide), hb.mono (by omega), rfl⟩
      · exact ⟨[20, 1], [10, 8, 3], d2, fineL (by decide) (by decide), fineL (by decide) (by decide), hb.mono (by omega), rfl⟩
      · exact ⟨[10, 1], [5, 4, 2], d2, fineL (by decide) (by decide), fineL (by decide) (by decide), hb.mono (by omega), rfl⟩
  refine wp_seq (tb4 c4) ?_
  by_cases c5 : w = 5
  · obtain ⟨L, d2, ρ, fL, l2, hb, e, e2⟩ := tb5' (a := a) (b := b) h1 (by omega) c5
    have s := fL.sum (by decide)
    have hl := fL.len
    have s1 : 1 ≤ L.sum := by
      cases L with
      | nil => simp at l2
      | cons x r =>
        have q := Fine.sum (k := 6) (m := 4) (l := r) ⟨by rw [List.length_cons] at hl; omega, fun y hy => fL.bd y (List.mem_cons_of_mem _ hy)⟩ (by decide)
        have := (fL.bd x List.mem_cons_self).1
        rw [List.sum_cons]; omega
    refine wp_seqR e ⟨[d2], ?_, [L.sum], L, d2, ⟨by simp, by simp; omega⟩, fL.mono (by decide) (by decide), hb.mono (by omega), rfl⟩
    show outs ρ 0 [(true, d)] = some [d2]
    simp [outs, e2]
  refine wp_seq (tb5 c5) ?_
  by_cases c6 : w = 6
  · exact wp_seqR (tb6' ⟨a0, a1⟩ ⟨b0, b1⟩ c6) ⟨[d1], rfl, [a + b, 2 * b], [a, b, b, b], d1, ⟨by simp, by simp; omega⟩, ⟨by simp, by simp; omega⟩, h1.mono (by omega), rfl⟩
  refine wp_seq (tb6 c6) ?_
  obtain ⟨L, d2, fL, h2, e7⟩ := tb7 (w := w) (a := a) (b := b) h1 (by omega)
  refine wp_seq e7 ?_
  refine wp_seq (tb8 L) ?_
  have sL := fL.sum (by decide)
  have lL := fL.len
  refine wp_seqW (Q := fun ρ => ∃ (F : List Int) (gap : Int) (d' : D) (c5 c10 : Option D), ρ = tbZ d' w a b L F gap c5 c10 ∧ Fine 7 8 F ∧ 0 ≤ gap ∧ gap ≤ 48 ∧ Bag (n + 15) d') ?_ ?_
  · refine wp_forS (ρ' := tbZ d2 w a b L [] L.sum none none) (l := rng 0 7) rfl ?_
    refine wp_for (ι := Int) D.int (fun r ρ => ∃ (F : List Int) (gap : Int) (d' : D) (c5 c10 : Option D), ρ = tbZ d' w a b L F gap c5 c10 ∧ Fine (7 - r.length) 8 F ∧ r.length ≤ 7 ∧ 0 ≤ gap ∧ gap ≤ 48 ∧ Bag (n + 15 - r.length) d') ?_ ?_ [0, 1, 2, 3, 4, 5, 6] _ ⟨[], L.sum, d2, none, none, rfl, ⟨by simp, by simp⟩, by decide, sL.1, by omega, h2.mono (by show n + 3 + 5 ≤ n + 15 - 7; omega)⟩
    · rintro x r ρ ⟨F, gap, d', c5', c10, rfl, fF, hr, g0, g1, hb⟩
      rw [List.length_cons] at fF hr hb
      obtain ⟨o, d3, o0, o1, o2, hb3, e⟩ := tbB (w := w) (a := a) (b := b) L F gap (some (.int x)) c10 hb (by omega) g0 (by have := fF.len; omega)
      refine ⟨tbZ d' w a b L F gap (some (.int x)) c10, by cases c5' <;> rfl, wp_nx e ⟨_, gap - o, d3, some (.int x), some (.int o), rfl, ?_, by omega, by omega, by omega, hb3.mono (by omega)⟩⟩
      split
      · exact (fine_app fF (by omega) o2).mono (by omega) (Int.le_refl _)
      · exact fF.mono (by omega) (Int.le_refl _)
    · rintro ρ ⟨F, gap, d', c5', c10, rfl, fF, hr, g0, g1, hb⟩
      exact ⟨F, gap, d', c5', c10, rfl, by simpa using fF, g0, g1, by simpa using hb⟩
  · rintro ρ ⟨F, gap, d', c5', c10, rfl, fF, g0, g1, hb⟩
    have lF := fF.len
    have a1 := add_ll (F.map D.int) [.int gap] (by simp; omega)
    have a2 := add_ll (F.map D.int) [] (by simp; omega)
    by_cases hg : 0 < gap
    · refine wp_rt (ρ' := tbZ d' w a b L F gap c5' c10) (fr := false) (d := .tup [pd L, pd (F ++ [gap])]) ?_ ⟨[d'], rfl, L, F ++ [gap], d', fL.mono (by decide) (by decide), (fine_app (fF.mono (Nat.le_refl _) (show (8 : Int) ≤ 48 by decide)) (by omega) g1).mono (by decide) (by decide), hb.mono (by omega), rfl⟩
      cases c5' <;> cases c10 <;> simp [eqY_int, neY_int, max2_ap, min2_ap, DF.R.bind_ok, DF.R.bindS_ok, DF.R.bindN_ok, DF.SR.bind_nx, DF.SR.bind_ret, ofO, ths, setV, setF, free, set2, set3, fnRes, startE, startC, outs, argsD, putD, ioIx, isMu, look, DF.muL, ltD_ap, leD_ap, gtD_ap, geD_ap, addD_ap, subD_ap, negD_ap, absD_ap, intD_ap, intD_apB, eq_int, ne_int, ixD, L2.atI, L2.ixN, lenD, gcdD, max2D, min2D, hg, a1, a2, tupD_ld]
    · refine wp_rt (ρ' := tbZ d' w a b L F gap c5' c10) (fr := false) (d := .tup [pd L, pd F]) ?_ ⟨[d'], rfl, L, F, d', fL.mono (by decide) (by decide), fF.mono (by decide) (by decide), hb.mono (by omega), rfl⟩
      cases c5' <;> cases c10 <;> simp [eqY_int, neY_int, max2_ap, min2_ap, DF.R.bind_ok, DF.R.bindS_ok, DF.R.bindN_ok, DF.SR.bind_nx, DF.SR.bind_ret, ofO, ths, setV, setF, free, set2, set3, fnRes, startE, startC, outs, argsD, putD, ioIx, isMu, look, DF.muL, ltD_ap, leD_ap, gtD_ap, geD_ap, addD_ap, subD_ap, negD_ap, absD_ap, intD_ap, intD_apB, eq_int, ne_int, ixD, L2.atI, L2.ixN, lenD, gcdD, max2D, min2D, hg, a1, a2, tupD_ld]
end K14

namespace K14
open PySem DF
/-! ### Euclid -/
def evT : DEnv → DF.R Bool := dTst (dBin neY (oVar 4) (oD (dC (.int 0))))
def evB : DEnv → SR := dPar 3 4 (vCons (dVar 4) (vCons (dBin modD (oD (dCal intD (aCons (oVar 3) (aNil)))) (oVar 4)) (vNil)))
theorem evT_ap {c0 c1 c2 c3 : Option Cell} {b : Int} : evT [c0, c1, c2, c3, some (.val (.int b))] = .ok [c0, c1, c2, c3, some (.val (.int b))] (!decide (b = 0)) := by
  simp [evT, eqY_int, neY_int, max2_ap, min2_ap, DF.R.bind_ok, DF.R.bindS_ok, DF.R.bindN_ok, DF.SR.bind_nx, DF.SR.bind_ret, ofO, ths, setV, setF, free, set2, set3, fnRes, startE, startC, outs, argsD, putD, ioIx, isMu, look, DF.muL, ltD_ap, leD_ap, gtD_ap, geD_ap, addD_ap, subD_ap, negD_ap, absD_ap, intD_ap, intD_apB, eq_int, ne_int, ixD, L2.atI, L2.ixN, lenD, gcdD, max2D, min2D]
theorem evB_ap {c0 c1 c2 : Option Cell} {a b : Int} (hb : b ≠ 0) : evB [c0, c1, c2, some (.val (.int a)), some (.val (.int b))] = .nx [c0, c1, c2, some (.val (.int b)), some (.val (.int (a.fmod b)))] := by
  simp [evB, eqY_int, neY_int, max2_ap, min2_ap, DF.R.bind_ok, DF.R.bindS_ok, DF.R.bindN_ok, DF.SR.bind_nx, DF.SR.bind_ret, ofO, ths, setV, setF, free, set2, set3, fnRes, startE, startC, outs, argsD, putD, ioIx, isMu, look, DF.muL, ltD_ap, leD_ap, gtD_ap, geD_ap, addD_ap, subD_ap, negD_ap, absD_ap, intD_ap, intD_apB, eq_int, ne_int, ixD, L2.atI, L2.ixN, lenD, gcdD, max2D, min2D, modD_ap hb]
theorem ev_loop {c0 c1 c2 : Option Cell} : ∀ (n a b : Nat), b < n → dWhile evT evB n [c0, c1, c2, some (.val (.int (a : Int))), some (.val (.int (b : Int)))] = .nx [c0, c1, c2, some (.val (.int (Nat.gcd a b : Nat))), some (.val (.int 0))]
  | 0, a, b, h => absurd h (Nat.not_lt_zero _)
  | n + 1, a, 0, h => by
    rw [dWhile_succ, evT_ap]
    simp [R.bindS_ok]
  | n + 1, a, b + 1, h => by
    have hlt : a % (b + 1) < n := Nat.lt_of_lt_of_le (Nat.mod_lt _ (Nat.succ_pos _)) (Nat.le_of_lt_succ h)
    have ih := ev_loop (c0 := c0) (c1 := c1) (c2 := c2) n (b + 1) (a % (b + 1)) hlt
    have e1 : ((a : Int)).fmod ((b + 1 : Nat) : Int) = ((a % (b + 1) : Nat) : Int) := by rw [fm (by omega)]; omega
    have e2 : Nat.gcd a (b + 1) = Nat.gcd (b + 1) (a % (b + 1)) := by rw [Nat.gcd_comm, Nat.gcd_rec, Nat.gcd_comm]
    have hp : ¬ (((b + 1 : Nat) : Int) = 0) := by omega
    rw [e2, ← ih, ← e1, dWhile_succ, evT_ap, R.bindS_ok, decide_eq_false hp]
    first | (rw [evB_ap hp]; done) | (rw [evB_ap hp]; rfl)
def coB (n : Nat) : DEnv → SR := dSeq (dPar 3 4 (vCons (dVar 1) (vCons (dCal absD (aCons (oVar 2) (aNil))) (vNil)))) (dSeq (dWhile evT evB n) (dSet 1 (dVar 3)))
theorem coB_ap {c0 : Option Cell} {c3 c4 : Option D} {n f : Nat} {x : Int} (h : x.natAbs < n) : coB n [c0, some (.val (.int (f : Int))), some (.val (.int x)), c3.map Cell.val, c4.map Cell.val] = .nx [c0, some (.val (.int (Nat.gcd f x.natAbs : Nat))), some (.val (.int x)), some (.val (.int (Nat.gcd f x.natAbs : Nat))), some (.val (.int 0))] := by
  have e := ev_loop (c0 := c0) (c1 := some (.val (.int (f : Int)))) (c2 := some (.val (.int x))) n f x.natAbs h
  have e1 : dPar 3 4 (vCons (dVar 1) (vCons (dCal absD (aCons (oVar 2) (aNil))) (vNil))) [c0, some (.val (.int (f : Int))), some (.val (.int x)), c3.map Cell.val, c4.map Cell.val] = .nx [c0, some (.val (.int (f : Int))), some (.val (.int x)), some (.val (.int (f : Int))), some (.val (.int (x.natAbs : Int)))] := by
    have ha := abs_eq x
    cases c3 <;> cases c4 <;> simp [eqY_int, neY_int, max2_ap, min2_ap, DF.R.bind_ok, DF.R.bindS_ok, DF.R.bindN_ok, DF.SR.bind_nx, DF.SR.bind_ret, ofO, ths, setV, setF, free, set2, set3, fnRes, startE, startC, outs, argsD, putD, ioIx, isMu, look, DF.muL, ltD_ap, leD_ap, gtD_ap, geD_ap, addD_ap, subD_ap, negD_ap, absD_ap, intD_ap, intD_apB, eq_int, ne_int, ixD, L2.atI, L2.ixN, lenD, gcdD, max2D, min2D, ha]
  unfold coB
  rw [dSeq_ap, e1, SR.bind_nx, dSeq_ap, e, SR.bind_nx]
  simp [eqY_int, neY_int, max2_ap, min2_ap, DF.R.bind_ok, DF.R.bindS_ok, DF.R.bindN_ok, DF.SR.bind_nx, DF.SR.bind_ret, ofO, ths, setV, setF, free, set2, set3, fnRes, startE, startC, outs, argsD, putD, ioIx, isMu, look, DF.muL, ltD_ap, leD_ap, gtD_ap, geD_ap, addD_ap, subD_ap, negD_ap, absD_ap, intD_ap, intD_apB, eq_int, ne_int, ixD, L2.atI, L2.ixN, lenD, gcdD, max2D, min2D]
theorem fuel_two (x y : Int) : x.natAbs < fuel [(false, ld [x, y])] ∧ y.natAbs < fuel [(false, ld [x, y])] := by
  have e : fuel [(false, ld [x, y])] = 1000 + intsOf (.lst [.int x, .int y]) := rfl
  have e2 : intsOf (.lst [.int x, .int y]) = x.natAbs + (y.natAbs + 0) := by simp [intsOf, intsOf.go]
  rw [e, e2]
  omega
theorem co_eq (n : Nat) : B_q_common n = dSeq (dSet 1 (dC (.int 0))) (dSeq (dForS (sSeq (dVar 0)) (setV 2) (coB n)) (dRetV 1)) := rfl
theorem e_common (x y : Int) : F_q_common [(false, ld [x, y])] = .ret false (.int (Nat.gcd x.natAbs y.natAbs : Nat)) [] := by
  obtain ⟨h1, h2⟩ := fuel_two x y
  unfold F_q_common
  rw [co_eq]
  generalize fuel [(false, ld [x, y])] = n at *
  have b1 := coB_ap (c0 := some (.val (ld [x, y]))) (c3 := none) (c4 := none) (f := 0) h1
  have b2 := coB_ap (c0 := some (.val (ld [x, y]))) (c3 := some (.int (Nat.gcd 0 x.natAbs : Nat))) (c4 := some (.int 0)) (f := Nat.gcd 0 x.natAbs) h2
  rw [Nat.gcd_zero_left] at b1 b2
  have s0 : dSet 1 (dC (.int 0)) [some (.val (ld [x, y])), none, none, none, none] = .nx [some (.val (ld [x, y])), some (.val (.int ((0 : Nat) : Int))), none, none, none] := by
    simp [eqY_int, neY_int, max2_ap, min2_ap, DF.R.bind_ok, DF.R.bindS_ok, DF.R.bindN_ok, DF.SR.bind_nx, DF.SR.bind_ret, ofO, ths, setV, setF, free, set2, set3, fnRes, startE, startC, outs, argsD, putD, ioIx, isMu, look, DF.muL, ltD_ap, leD_ap, gtD_ap, geD_ap, addD_ap, subD_ap, negD_ap, absD_ap, intD_ap, intD_apB, eq_int, ne_int, ixD, L2.atI, L2.ixN, lenD, gcdD, max2D, min2D]
  rw [show startE 5 [(false, ld [x, y])] = [some (.val (ld [x, y])), none, none, none, none] from rfl, dSeq_ap, s0, SR.bind_nx, dSeq_ap]
  have s1 : dForS (sSeq (dVar 0)) (setV 2) (coB n) [some (.val (ld [x, y])), some (.val (.int ((0 : Nat) : Int))), none, none, none] = .nx [some (.val (ld [x, y])), some (.val (.int (Nat.gcd x.natAbs y.natAbs : Nat))), some (.val (.int y)), some (.val (.int (Nat.gcd x.natAbs y.natAbs : Nat))), some (.val (.int 0))] := by
    rw [dForS_ap]
    show (dFor (setV 2) (coB n) [.int x, .int y] [some (.val (ld [x, y])), some (.val (.int ((0 : Nat) : Int))), none, none, none]) = _
    unfold dFor
    rw [show setV 2 (.int x) [some (.val (ld [x, y])), some (.val (.int ((0 : Nat) : Int))), none, none, none] = some [some (.val (ld [x, y])), some (.val (.int ((0 : Nat) : Int))), some (.val (.int x)), none, none] from rfl]
    dsimp only
    rw [show coB n [some (.val (ld [x, y])), some (.val (.int ((0 : Nat) : Int))), some (.val (.int x)), none, none] = _ from b1]
    dsimp only
    unfold dFor
    rw [show setV 2 (.int y) [some (.val (ld [x, y])), some (.val (.int (x.natAbs : Int))), some (.val (.int x)), some (.val (.int (x.natAbs : Int))), some (.val (.int 0))] = some [some (.val (ld [x, y])), some (.val (.int (x.natAbs : Int))), some (.val (.int y)), some (.val (.int (x.natAbs : Int))), some (.val (.int 0))] from rfl]
    dsimp only
    rw [show coB n [some (.val (ld [x, y])), some (.val (.int (x.natAbs : Int))), some (.val (.int y)), some (.val (.int (x.natAbs : Int))), some (.val (.int 0))] = _ from b2]
    rfl
  rw [s1, SR.bind_nx]
  rfl
/-! ### the common multiple -/
def lcmL (f : Nat) (l : List Int) : Nat := l.foldl (fun a x => Nat.lcm a x.natAbs) f
theorem lcm_div {f g : Nat} : f * (g / Nat.gcd f g) = Nat.lcm f g := by
  unfold Nat.lcm
  exact (Nat.mul_div_assoc f (Nat.gcd_dvd_right f g)).symm
theorem muB {c0 : Option Cell} {f : Nat} {x : Int} (hf : 0 < f) (hfb : f < 2 ^ 1000) (hx : 1 ≤ x) (hx2 : x ≤ 1000) :
    (dSet 1 (dBin mulD (oVar 1) (oD (dBin divD (oVar 2) (oD (dV (dCal2 1 F_q_common (rVal (dLst (vCons (dVar 1) (vCons (dVar 2) (vNil)))) (rNil))))))))) [c0, some (.val (.int (f : Int))), some (.val (.int x))] = .nx [c0, some (.val (.int (Nat.lcm f x.natAbs : Nat))), some (.val (.int x))] := by
  have e1 : F_q_common [(false, .lst [.int (f : Int), .int x])] = .ret false (.int (Nat.gcd f x.natAbs : Nat)) [] := e_common (f : Int) x
  have gp : 0 < Nat.gcd f x.natAbs := Nat.gcd_pos_of_pos_left _ hf
  have gx : Nat.gcd f x.natAbs ≤ x.natAbs := Nat.le_of_dvd (by omega) (Nat.gcd_dvd_right _ _)
  have sf : Sm (f : Int) := by unfold Sm; rw [Int.natAbs_natCast]; exact Nat.lt_of_lt_of_le hfb (Nat.pow_le_pow_right (by decide) (by decide))
  have sg : Sm ((Nat.gcd f x.natAbs : Nat) : Int) := sm_of (by rw [Int.natAbs_natCast]; omega)
  have q2 := divD_ap (cd (i := x) (show ((Nat.gcd f x.natAbs : Nat) : Int) ≠ 0 by omega) sg)
  have q3 : x.fdiv ((Nat.gcd f x.natAbs : Nat) : Int) = ((x.natAbs / Nat.gcd f x.natAbs : Nat) : Int) := by
    rw [fd (by omega)]
    have : x = ((x.natAbs : Nat) : Int) := by omega
    conv => lhs; rw [this]
    rw [Int.natAbs_natCast, ← Int.natCast_ediv]
  rw [q3] at q2
  have hq : x.natAbs / Nat.gcd f x.natAbs ≤ x.natAbs := Nat.div_le_self _ _
  have q1 := mulD_ap (i := (f : Int)) (j := ((x.natAbs / Nat.gcd f x.natAbs : Nat) : Int)) (cm sf (sm_of (by rw [Int.natAbs_natCast]; omega)))
  rw [show ((f : Int) * ((x.natAbs / Nat.gcd f x.natAbs : Nat) : Int)) = ((Nat.lcm f x.natAbs : Nat) : Int) by rw [← lcm_div]; rw [Int.natCast_mul]] at q1
  generalize Nat.gcd f x.natAbs = g at *
  generalize x.natAbs / g = h at *
  simp [eqY_int, neY_int, max2_ap, min2_ap, DF.R.bind_ok, DF.R.bindS_ok, DF.R.bindN_ok, DF.SR.bind_nx, DF.SR.bind_ret, ofO, ths, setV, setF, free, set2, set3, fnRes, startE, startC, outs, argsD, putD, ioIx, isMu, look, DF.muL, ltD_ap, leD_ap, gtD_ap, geD_ap, addD_ap, subD_ap, negD_ap, absD_ap, intD_ap, intD_apB, eq_int, ne_int, ixD, L2.atI, L2.ixN, lenD, gcdD, max2D, min2D, e1, q2, q1]
end K14

namespace K14
open PySem DF
theorem e_multiple (l : List Int) (hl : l.length ≤ 16) (hb : ∀ x ∈ l, 1 ≤ x ∧ x ≤ 60) : F_q_multiple [(false, pd l)] = .ret false (.int (lcmL 1 l : Nat)) [] := by
  refine fn_of (P := fun R => R = .ret false (.int (lcmL 1 l : Nat)) []) ?_
  unfold B_q_multiple
  rw [show startE 3 [(false, pd l)] = [some (.val (pd l)), none, none] from rfl]
  refine wp_seq (ρ' := [some (.val (pd l)), some (.val (.int ((1 : Nat) : Int))), none]) (by simp [eqY_int, neY_int, max2_ap, min2_ap, DF.R.bind_ok, DF.R.bindS_ok, DF.R.bindN_ok, DF.SR.bind_nx, DF.SR.bind_ret, ofO, ths, setV, setF, free, set2, set3, fnRes, startE, startC, outs, argsD, putD, ioIx, isMu, look, DF.muL, ltD_ap, leD_ap, gtD_ap, geD_ap, addD_ap, subD_ap, negD_ap, absD_ap, intD_ap, intD_apB, eq_int, ne_int, ixD, L2.atI, L2.ixN, lenD, gcdD, max2D, min2D]) ?_
  refine wp_seqW (Q := fun ρ => ∃ (c2 : Option D), ρ = [some (.val (pd l)), some (.val (.int (lcmL 1 l : Nat))), c2.map Cell.val]) ?_ ?_
  · refine wp_forS (ρ' := [some (.val (pd l)), some (.val (.int ((1 : Nat) : Int))), none]) (l := l.map D.int) rfl ?_
    refine wp_for D.int (fun r ρ => ∃ (f : Nat) (c2 : Option D), ρ = [some (.val (pd l)), some (.val (.int (f : Int))), c2.map Cell.val] ∧ lcmL f r = lcmL 1 l ∧ 0 < f ∧ f ≤ 60 ^ (16 - r.length) ∧ r.length ≤ 16 ∧ ∀ x ∈ r, 1 ≤ x ∧ x ≤ 60) ?_ ?_ l _ ⟨1, none, rfl, rfl, by decide, Nat.one_le_pow _ _ (by decide), hl, hb⟩
    · rintro x r ρ ⟨f, c2, rfl, h1, h2, h3, h4, h5⟩
      rw [List.length_cons] at h3 h4
      have hx := h5 x List.mem_cons_self
      have hf : f < 2 ^ 1000 := Nat.lt_of_le_of_lt h3 (Nat.lt_of_le_of_lt (Nat.pow_le_pow_right (by decide) (show 16 - (r.length + 1) ≤ 16 by omega)) (by decide))
      refine ⟨[some (.val (pd l)), some (.val (.int (f : Int))), some (.val (.int x))], by cases c2 <;> rfl, wp_nx (muB h2 hf hx.1 (by omega)) ⟨Nat.lcm f x.natAbs, some (.int x), rfl, h1, Nat.lcm_pos h2 (by omega), ?_, by omega, fun y hy => h5 y (List.mem_cons_of_mem _ hy)⟩⟩
      have e1 : Nat.lcm f x.natAbs ≤ f * x.natAbs := Nat.le_of_dvd (Nat.mul_pos h2 (by omega)) (Nat.lcm_dvd (Nat.dvd_mul_right _ _) (Nat.dvd_mul_left _ _))
      have e2 : f * x.natAbs ≤ 60 ^ (16 - (r.length + 1)) * 60 := Nat.mul_le_mul h3 (by omega)
      rw [← Nat.pow_succ, show (16 - (r.length + 1)).succ = 16 - r.length by omega] at e2
      omega
    · rintro ρ ⟨f, c2, rfl, h1, h2, h3, h4, h5⟩
      exact ⟨c2, by rw [← h1]; rfl⟩
  · rintro ρ ⟨c2, rfl⟩
    exact wp_rt rfl ⟨[], rfl, rfl⟩
theorem maxL_ge : ∀ (l : List Int) (i : Int), i ≤ maxL i l ∧ ∀ x ∈ l, x ≤ maxL i l
  | [], i => ⟨Int.le_refl _, by simp⟩
  | y :: l, i => by
    have e : maxL i (y :: l) = maxL (if i < y then y else i) l := rfl
    rw [e]
    have h3 : y ≤ (if i < y then y else i) ∧ i ≤ (if i < y then y else i) := by split <;> omega
    generalize (if i < y then y else i) = k at *
    obtain ⟨h1, h2⟩ := maxL_ge l k
    refine ⟨by omega, fun x hx => ?_⟩
    rcases List.mem_cons.mp hx with rfl | hx
    · omega
    · exact h2 x hx
theorem minL_le : ∀ (l : List Int) (i : Int), minL i l ≤ i ∧ ∀ x ∈ l, minL i l ≤ x
  | [], i => ⟨Int.le_refl _, by simp⟩
  | y :: l, i => by
    have e : minL i (y :: l) = minL (if y < i then y else i) l := rfl
    rw [e]
    have h3 : (if y < i then y else i) ≤ y ∧ (if y < i then y else i) ≤ i := by split <;> omega
    generalize (if y < i then y else i) = k at *
    obtain ⟨h1, h2⟩ := minL_le l k
    refine ⟨by omega, fun x hx => ?_⟩
    rcases List.mem_cons.mp hx with rfl | hx
    · omega
    · exact h2 x hx
theorem toPs_ints : ∀ l : List Int, ∃ ps, toPs (l.map D.int) = some ps
  | [] => ⟨[], by unfold toPs; rfl⟩
  | x :: l => by
    obtain ⟨ps, e⟩ := toPs_ints l
    exact ⟨.int x :: ps, by rw [List.map_cons]; unfold toPs; rw [e]; simp [toP]⟩
theorem plain_ints : ∀ (n : Nat) (l : List Int), plainDs n (l.map D.int) = true
  | _, [] => rfl
  | n, i :: l => by
    show (plainD n (.int i) && plainDs n (l.map D.int)) = true
    rw [plain_ints n l]
    cases n <;> rfl
theorem plain_pd (l : List Int) : plainD 9 (pd l) = true := plain_ints 8 l
theorem plain_ld (l : List Int) : plainD 9 (ld l) = true := plain_ints 8 l
theorem eqY_nil (x : Int) (l : List Int) : eqY (pd (x :: l)) (.tup []) = some (.bl false) := by
  refine eq1Y ?_
  obtain ⟨p, q, e1, e2, e3⟩ := eqP_plain (plain_pd (x :: l)) (plain_pd [])
  obtain ⟨ps, e4⟩ := toPs_ints l
  have e5 : toP (pd (x :: l)) = some (.tuple (.int x :: ps)) := by
    show toP (.tup (.int x :: l.map D.int)) = _
    unfold toP toPs
    rw [e4]
    simp [toP]
  have e6 : toP (pd []) = some (.tuple []) := by
    show toP (.tup []) = _
    unfold toP toPs
    rfl
  rw [e5] at e1
  rw [e6] at e2
  cases e1
  cases e2
  unfold eqD1
  rw [show eqP (pd (x :: l)) (.tup []) = _ from e3]
  rfl
theorem eqY_nn : eqY (pd []) (.tup []) = some (.bl true) := eq1Y (eq_same rfl)
theorem tupD_pd (l : List D) : tupD [.tup l] = some (.tup l) := rfl
theorem maxS_ap (x : Int) (l : List Int) : orC max2D maxSD [pd (x :: l)] = some (.int (maxL x l)) := by
  have e : maxSD [.tup (.int x :: l.map D.int)] = some (.int (maxL x l)) := by
    show (match intsD ((x :: l).map D.int) with | some (i :: l) => some (D.int (maxL i l)) | _ => none) = _
    rw [intsD_map]
  show (match max2D [.tup (.int x :: l.map D.int)] with | some z => some z | none => maxSD [.tup (.int x :: l.map D.int)]) = _
  rw [e]
  rfl
theorem minS_ap (x : Int) (l : List Int) : orC min2D minSD [pd (x :: l)] = some (.int (minL x l)) := by
  have e : minSD [.tup (.int x :: l.map D.int)] = some (.int (minL x l)) := by
    show (match intsD ((x :: l).map D.int) with | some (i :: l) => some (D.int (minL i l)) | _ => none) = _
    rw [intsD_map]
  show (match min2D [.tup (.int x :: l.map D.int)] with | some z => some z | none => minSD [.tup (.int x :: l.map D.int)]) = _
  rw [e]
  rfl
/-- a row that is let -/
structure LetP (X Y : List Int) : Prop where
  ne : X ++ Y ≠ []
  lx : X.length ≤ 8
  ly : Y.length ≤ 8
  bd : ∀ m ∈ X ++ Y, 1 ≤ m ∧ m ≤ 60
  cm : lcmL 1 (X ++ Y) ≤ 2520
theorem e_let (X Y : List Int) (hX : X.length ≤ 100) (hY : Y.length ≤ 100) : ∃ b : Bool, (b = true → LetP X Y) ∧ F_q_is_row_let [(false, pd X), (false, pd Y)] = .ret false (.bl b) [] := by
  have a1 := add_tt (X.map D.int) (Y.map D.int) (by simp; omega)
  rw [← List.map_append] at a1
  refine fn_of (P := fun R => ∃ b : Bool, (b = true → LetP X Y) ∧ R = .ret false (.bl b) []) ?_
  unfold B_q_is_row_let
  rw [show startE 3 [(false, pd X), (false, pd Y)] = [some (.val (pd X)), some (.val (pd Y)), none] from rfl]
  refine wp_seq (ρ' := [some (.val (pd X)), some (.val (pd Y)), some (.val (pd (X ++ Y)))]) (by simp only [dSet_ap, dBin_ap, oD_ap, dCal_ap, aCons_ap, oVar_ap, tupD_pd, eqY_int, neY_int, max2_ap, min2_ap, DF.R.bind_ok, DF.R.bindS_ok, DF.R.bindN_ok, DF.SR.bind_nx, DF.SR.bind_ret, ofO, ths, setV, setF, free, set2, set3, fnRes, startE, startC, outs, argsD, putD, ioIx, isMu, look, DF.muL, ltD_ap, leD_ap, gtD_ap, geD_ap, addD_ap, subD_ap, negD_ap, absD_ap, intD_ap, intD_apB, eq_int, ne_int, ixD, L2.atI, L2.ixN, lenD, gcdD, max2D, min2D, a1]; simp [eqY_int, neY_int, max2_ap, min2_ap, DF.R.bind_ok, DF.R.bindS_ok, DF.R.bindN_ok, DF.SR.bind_nx, DF.SR.bind_ret, ofO, ths, setV, setF, free, set2, set3, fnRes, startE, startC, outs, argsD, putD, ioIx, isMu, look, DF.muL, ltD_ap, leD_ap, gtD_ap, geD_ap, addD_ap, subD_ap, negD_ap, absD_ap, intD_ap, intD_apB, eq_int, ne_int, ixD, L2.atI, L2.ixN, lenD, gcdD, max2D, min2D, tupD_pd, a1]) ?_
  by_cases hn : X ++ Y = []
  · rw [hn]
    refine wp_seqR (ρ' := [some (.val (pd X)), some (.val (pd Y)), some (.val (pd []))]) (fr := false) (d := .bl false) (by simp [eqY_int, neY_int, max2_ap, min2_ap, DF.R.bind_ok, DF.R.bindS_ok, DF.R.bindN_ok, DF.SR.bind_nx, DF.SR.bind_ret, ofO, ths, setV, setF, free, set2, set3, fnRes, startE, startC, outs, argsD, putD, ioIx, isMu, look, DF.muL, ltD_ap, leD_ap, gtD_ap, geD_ap, addD_ap, subD_ap, negD_ap, absD_ap, intD_ap, intD_apB, eq_int, ne_int, ixD, L2.atI, L2.ixN, lenD, gcdD, max2D, min2D, eqY_nn]) ⟨[], rfl, false, fun z => (by cases z), rfl⟩
  · cases hz : X ++ Y with
    | nil => exact absurd hz hn
    | cons z zs =>
      have e1 := eqY_nil z zs
      have e2 := maxS_ap z zs
      have e3 := minS_ap z zs
      have hM : ∃ M : Int, (X.length : Int) ≤ M ∧ (Y.length : Int) ≤ M ∧ orC max2D maxSD [.int (X.length : Int), .int (Y.length : Int)] = some (.int M) := by
        by_cases hc : (X.length : Int) < (Y.length : Int)
        · exact ⟨Y.length, by omega, by omega, by simp [eqY_int, neY_int, max2_ap, min2_ap, DF.R.bind_ok, DF.R.bindS_ok, DF.R.bindN_ok, DF.SR.bind_nx, DF.SR.bind_ret, ofO, ths, setV, setF, free, set2, set3, fnRes, startE, startC, outs, argsD, putD, ioIx, isMu, look, DF.muL, ltD_ap, leD_ap, gtD_ap, geD_ap, addD_ap, subD_ap, negD_ap, absD_ap, intD_ap, intD_apB, eq_int, ne_int, ixD, L2.atI, L2.ixN, lenD, gcdD, max2D, min2D, hc]⟩
        · exact ⟨X.length, by omega, by omega, by simp [eqY_int, neY_int, max2_ap, min2_ap, DF.R.bind_ok, DF.R.bindS_ok, DF.R.bindN_ok, DF.SR.bind_nx, DF.SR.bind_ret, ofO, ths, setV, setF, free, set2, set3, fnRes, startE, startC, outs, argsD, putD, ioIx, isMu, look, DF.muL, ltD_ap, leD_ap, gtD_ap, geD_ap, addD_ap, subD_ap, negD_ap, absD_ap, intD_ap, intD_apB, eq_int, ne_int, ixD, L2.atI, L2.ixN, lenD, gcdD, max2D, min2D, hc]⟩
      obtain ⟨M, M1, M2, eM⟩ := hM
      have hbd : maxL z zs ≤ 60 → 1 ≤ minL z zs → ∀ m ∈ z :: zs, 1 ≤ m ∧ m ≤ 60 := fun m1 m2 m hm => by
        have p := maxL_ge zs z
        have q := minL_le zs z
        rcases List.mem_cons.mp hm with rfl | hm
        · omega
        · have := p.2 m hm
          have := q.2 m hm
          omega
      by_cases k1 : 8 < M
      · exact wp_seqR (ρ' := [some (.val (pd X)), some (.val (pd Y)), some (.val (pd (z :: zs)))]) (fr := false) (d := .bl false) (by simp [eqY_int, neY_int, max2_ap, min2_ap, DF.R.bind_ok, DF.R.bindS_ok, DF.R.bindN_ok, DF.SR.bind_nx, DF.SR.bind_ret, ofO, ths, setV, setF, free, set2, set3, fnRes, startE, startC, outs, argsD, putD, ioIx, isMu, look, DF.muL, ltD_ap, leD_ap, gtD_ap, geD_ap, addD_ap, subD_ap, negD_ap, absD_ap, intD_ap, intD_apB, eq_int, ne_int, ixD, L2.atI, L2.ixN, lenD, gcdD, max2D, min2D, e1, eM, k1]) ⟨[], rfl, false, fun z => (by cases z), rfl⟩
      by_cases k2 : 60 < maxL z zs
      · exact wp_seqR (ρ' := [some (.val (pd X)), some (.val (pd Y)), some (.val (pd (z :: zs)))]) (fr := false) (d := .bl false) (by simp [eqY_int, neY_int, max2_ap, min2_ap, DF.R.bind_ok, DF.R.bindS_ok, DF.R.bindN_ok, DF.SR.bind_nx, DF.SR.bind_ret, ofO, ths, setV, setF, free, set2, set3, fnRes, startE, startC, outs, argsD, putD, ioIx, isMu, look, DF.muL, ltD_ap, leD_ap, gtD_ap, geD_ap, addD_ap, subD_ap, negD_ap, absD_ap, intD_ap, intD_apB, eq_int, ne_int, ixD, L2.atI, L2.ixN, lenD, gcdD, max2D, min2D, e1, eM, k1, e2, k2]) ⟨[], rfl, false, fun z => (by cases z), rfl⟩
      by_cases k3 : minL z zs < 1
      · exact wp_seqR (ρ' := [some (.val (pd X)), some (.val (pd Y)), some (.val (pd (z :: zs)))]) (fr := false) (d := .bl false) (by simp [eqY_int, neY_int, max2_ap, min2_ap, DF.R.bind_ok, DF.R.bindS_ok, DF.R.bindN_ok, DF.SR.bind_nx, DF.SR.bind_ret, ofO, ths, setV, setF, free, set2, set3, fnRes, startE, startC, outs, argsD, putD, ioIx, isMu, look, DF.muL, ltD_ap, leD_ap, gtD_ap, geD_ap, addD_ap, subD_ap, negD_ap, absD_ap, intD_ap, intD_apB, eq_int, ne_int, ixD, L2.atI, L2.ixN, lenD, gcdD, max2D, min2D, e1, eM, k1, e2, k2, e3, k3]) ⟨[], rfl, false, fun z => (by cases z), rfl⟩
      refine wp_seq (ρ' := [some (.val (pd X)), some (.val (pd Y)), some (.val (pd (z :: zs)))]) (by simp [eqY_int, neY_int, max2_ap, min2_ap, DF.R.bind_ok, DF.R.bindS_ok, DF.R.bindN_ok, DF.SR.bind_nx, DF.SR.bind_ret, ofO, ths, setV, setF, free, set2, set3, fnRes, startE, startC, outs, argsD, putD, ioIx, isMu, look, DF.muL, ltD_ap, leD_ap, gtD_ap, geD_ap, addD_ap, subD_ap, negD_ap, absD_ap, intD_ap, intD_apB, eq_int, ne_int, ixD, L2.atI, L2.ixN, lenD, gcdD, max2D, min2D, e1, eM, k1, e2, k2, e3, k3]) ?_
      have hl : (z :: zs).length ≤ 16 := by rw [← hz, List.length_append]; omega
      have hb := hbd (by omega) (by omega)
      have e4 := e_multiple (z :: zs) hl hb
      refine wp_rt (ρ' := [some (.val (pd X)), some (.val (pd Y)), some (.val (pd (z :: zs)))]) (fr := false) (d := .bl (decide ((lcmL 1 (z :: zs) : Int) ≤ 2520))) ?_ ⟨[], rfl, _, fun e => ⟨hn, by omega, by omega, by rw [hz]; exact hb, by rw [hz]; have := of_decide_eq_true e; omega⟩, rfl⟩
      generalize lcmL 1 (z :: zs) = g at *
      simp [eqY_int, neY_int, max2_ap, min2_ap, DF.R.bind_ok, DF.R.bindS_ok, DF.R.bindN_ok, DF.SR.bind_nx, DF.SR.bind_ret, ofO, ths, setV, setF, free, set2, set3, fnRes, startE, startC, outs, argsD, putD, ioIx, isMu, look, DF.muL, ltD_ap, leD_ap, gtD_ap, geD_ap, addD_ap, subD_ap, negD_ap, absD_ap, intD_ap, intD_apB, eq_int, ne_int, ixD, L2.atI, L2.ixN, lenD, gcdD, max2D, min2D, e4]
end K14

namespace K14
open PySem DF
theorem e_one_int {n : Nat} {d : D} {l : List Int} (h : Bag n d) (hn : n ≤ 1000000) (hl : 0 < l.length) (hl2 : l.length < 1000000) : ∃ x ∈ l, ∃ d', Bag (n + 1) d' ∧ F_q_one_of [(true, d), (false, ld l)] = .ret false (.int x) [d'] := by
  obtain ⟨r, d', x, h1, h2, h3⟩ := e_one (l := l.map D.int) h hn (by rw [List.length_map]; exact hl) (by rw [List.length_map]; exact hl2)
  rw [List.getElem?_map] at h1
  obtain ⟨y, hy, rfl⟩ := Option.map_eq_some_iff.mp h1
  exact ⟨y, List.mem_of_getElem? hy, d', h2, h3⟩
structure RowP (X Y : List Int) : Prop where
  lt : LetP X Y
  dj : ∀ x ∈ X, x ∉ Y
theorem letP_of {X Y : List Int} (h : (decide (X ++ Y ≠ []) && decide (X.length ≤ 8) && decide (Y.length ≤ 8) && (X ++ Y).all (fun m => decide (1 ≤ m) && decide (m ≤ 60)) && decide (lcmL 1 (X ++ Y) ≤ 2520)) = true) : LetP X Y := by
  simp only [Bool.and_eq_true, decide_eq_true_eq, List.all_eq_true] at h
  exact ⟨h.1.1.1.1, h.1.1.1.2, h.1.1.2, fun m hm => h.1.2 m hm, h.2⟩
def RD (n : Nat) (R : FRes) : Prop := ∃ (X Y : List Int) (d' : D), RowP X Y ∧ Bag n d' ∧ R = .ret false (.tup [pd X, pd Y]) [d']
abbrev anS (d : D) (m : Int) (a b : D) (c5 : Option D) : DEnv := [some (.mu true d), some (.val (.int m)), some (.val a), some (.val b), none, c5.map Cell.val]
theorem an0 {n : Nat} {d : D} (h : Bag n d) (hn : n ≤ 900000) : ∃ (m : Int) (d' : D), 1 ≤ m ∧ m ≤ 3 ∧ Bag (n + 1) d' ∧ (dSet 1 (dV (dCal2 2 F_q_one_of (rIo 0 (rVal (dLst (vCons (dC (.int 1)) (vCons (dC (.int 1)) (vCons (dC (.int 1)) (vCons (dC (.int 2)) (vCons (dC (.int 3)) (vNil))))))) (rNil)))))) [some (.mu true d), none, none, none, none, none] = .nx [some (.mu true d'), some (.val (.int m)), none, none, none, none] := by
  obtain ⟨m, hm, d', hb, e⟩ := e_one_int (l := [1, 1, 1, 2, 3]) h (by omega) (by decide) (by decide)
  refine ⟨m, d', ?_, ?_, hb, ?_⟩
  · simp at hm; omega
  · simp at hm; omega
  · have e' : F_q_one_of [(true, d), (false, .lst [.int 1, .int 1, .int 1, .int 2, .int 3])] = .ret false (.int m) [d'] := e
    simp [eqY_int, neY_int, max2_ap, min2_ap, DF.R.bind_ok, DF.R.bindS_ok, DF.R.bindN_ok, DF.SR.bind_nx, DF.SR.bind_ret, ofO, ths, setV, setF, free, set2, set3, fnRes, startE, startC, outs, argsD, putD, ioIx, isMu, look, DF.muL, ltD_ap, leD_ap, gtD_ap, geD_ap, addD_ap, subD_ap, negD_ap, absD_ap, intD_ap, intD_apB, eq_int, ne_int, ixD, L2.atI, L2.ixN, lenD, gcdD, max2D, min2D, e']
theorem an1 {n : Nat} {d : D} {m : Int} (h : Bag n d) (hn : n ≤ 700000) : ∃ (T B : List Int) (d' : D), Fine 10 100 T ∧ Fine 10 100 B ∧ Bag (n + 40) d' ∧ (dAsg (dV (dCal2 1 F_q_told_balanced (rIo 0 (rNil)))) (gTp 2 (gsCons (setV 2) (gsCons (setV 3) (gsNil))))) [some (.mu true d), some (.val (.int m)), none, none, none, none] = .nx (anS d' m (pd T) (pd B) none) := by
  obtain ⟨T, B, d', fT, fB, hb, e⟩ := e_told h (by omega)
  refine ⟨T, B, d', fT, fB, hb, ?_⟩
  simp [eqY_int, neY_int, max2_ap, min2_ap, DF.R.bind_ok, DF.R.bindS_ok, DF.R.bindN_ok, DF.SR.bind_nx, DF.SR.bind_ret, ofO, ths, setV, setF, free, set2, set3, fnRes, startE, startC, outs, argsD, putD, ioIx, isMu, look, DF.muL, ltD_ap, leD_ap, gtD_ap, geD_ap, addD_ap, subD_ap, negD_ap, absD_ap, intD_ap, intD_apB, eq_int, ne_int, ixD, L2.atI, L2.ixN, lenD, gcdD, max2D, min2D, e]
theorem mul_comp {d : D} {m : Int} {a b s : D} (hm : 1 ≤ m ∧ m ≤ 3) {T : List Int} (fT : Fine 10 100 T) (hs : seqOf s = some (T.map D.int)) {f : DEnv → DF.R D} (hf : f (anS d m a b none) = .ok (anS d m a b none) s) :
    dLc (sSeq f) (setV 4) (tYesB) (dBin mulD (oVar 1) (oVar 4)) [4] (anS d m a b none) = .ok (anS d m a b none) (ld (T.map (m * ·))) := by
  refine lc_ap (ρ' := anS d m a b none) (l := T.map D.int) ?_ rfl ?_
  · rw [sSeq_ap, hf, R.bind_ok, hs]
  · have := lc_pure (t := setV 4) (c := tYesB) (f := dBin mulD (oVar 1) (oVar 4)) (vs := [4]) (ρ := anS d m a b none) D.int (fun _ => true) (fun x => .int (m * x)) T [] (by have := fT.len; simp; omega) (fun x hx => by
      have hb := fT.bd x hx
      have e := mulD_ap (i := m) (j := x) (cm (sm_of (by omega)) (sm_of (by omega)))
      exact ⟨[some (.mu true d), some (.val (.int m)), some (.val a), some (.val b), some (.val (.int x)), none], _, rfl, rfl, fun z => (by cases z), fun _ => ⟨[some (.mu true d), some (.val (.int m)), some (.val a), some (.val b), some (.val (.int x)), none], by simp [eqY_int, neY_int, max2_ap, min2_ap, DF.R.bind_ok, DF.R.bindS_ok, DF.R.bindN_ok, DF.SR.bind_nx, DF.SR.bind_ret, ofO, ths, setV, setF, free, set2, set3, fnRes, startE, startC, outs, argsD, putD, ioIx, isMu, look, DF.muL, ltD_ap, leD_ap, gtD_ap, geD_ap, addD_ap, subD_ap, negD_ap, absD_ap, intD_ap, intD_apB, eq_int, ne_int, ixD, L2.atI, L2.ixN, lenD, gcdD, max2D, min2D, e], rfl, rfl⟩⟩)
    rw [show wipeE (anS d m a b none) [4] = anS d m a b none from rfl, this, List.filter_eq_self.mpr (fun _ _ => rfl)]
    simp
theorem an2 {d : D} {m : Int} (hm : 1 ≤ m ∧ m ≤ 3) {T B : List Int} (fT : Fine 10 100 T) (fB : Fine 10 100 B) : (dPar 2 3 (vCons (dLc (sSeq (dVar 2)) (setV 4) (tYesB) (dBin mulD (oVar 1) (oVar 4)) [4]) (vCons (dLc (sSeq (dVar 3)) (setV 4) (tYesB) (dBin mulD (oVar 1) (oVar 4)) [4]) (vNil)))) (anS d m (pd T) (pd B) none) = .nx (anS d m (ld (T.map (m * ·))) (ld (B.map (m * ·))) none) := by
  have e1 := mul_comp (d := d) (a := pd T) (b := pd B) hm fT (s := pd T) rfl (f := dVar 2) rfl
  have e2 := mul_comp (d := d) (a := pd T) (b := pd B) hm fB (s := pd B) rfl (f := dVar 3) rfl
  rw [dPar_ap, vCons_ap, e1, R.bind_ok, vCons_ap, e2, R.bind_ok, vNil_ap]
  simp [eqY_int, neY_int, max2_ap, min2_ap, DF.R.bind_ok, DF.R.bindS_ok, DF.R.bindN_ok, DF.SR.bind_nx, DF.SR.bind_ret, ofO, ths, setV, setF, free, set2, set3, fnRes, startE, startC, outs, argsD, putD, ioIx, isMu, look, DF.muL, ltD_ap, leD_ap, gtD_ap, geD_ap, addD_ap, subD_ap, negD_ap, absD_ap, intD_ap, intD_apB, eq_int, ne_int, ixD, L2.atI, L2.ixN, lenD, gcdD, max2D, min2D]
theorem fine_mul {m : Int} (hm : 1 ≤ m ∧ m ≤ 3) {T : List Int} (fT : Fine 10 100 T) : Fine 10 300 (T.map (m * ·)) := ⟨by rw [List.length_map]; exact fT.len, fun x hx => by
  obtain ⟨y, hy, rfl⟩ := List.mem_map.mp hx
  have := fT.bd y hy
  have q : m = 1 ∨ m = 2 ∨ m = 3 := by omega
  show 1 ≤ m * y ∧ m * y ≤ 300
  rcases q with rfl | rfl | rfl <;> omega⟩
theorem Fine.app {k j : Nat} {m : Int} {T B : List Int} (h : Fine k m T) (h2 : Fine j m B) : Fine (k + j) m (T ++ B) := ⟨by rw [List.length_append]; have := h.len; have := h2.len; omega, fun x hx => by
  rcases List.mem_append.mp hx with hx | hx
  · exact h.bd x hx
  · exact h2.bd x hx⟩
theorem an3 {n : Nat} {d : D} {m : Int} {T B : List Int} (h : Bag n d) (hn : n ≤ 700000) (fT : Fine 10 300 T) (fB : Fine 10 300 B) : ∃ (T' B' d' : _) (c5 : Option D), Fine 20 300 T' ∧ Fine 20 300 B' ∧ Bag (n + 41) d' ∧ (dIf (dTst (dBin eqY (oD (dV (dCal2 2 F_q_grab (rIo 0 (rVal (dC (.int 5)) (rNil)))))) (oD (dC (.int 0))))) (dSeq (dSet 5 (dV (dCal2 1 F_q_told_balanced (rIo 0 (rNil)))))
    (dPar 2 3 (vCons (dBin addD (oVar 2) (oD (dMk seqOf (oD (dBin ixD (oVar 5) (oD (dC (.int 0)))))))) (vCons (dBin addD (oVar 3) (oD (dMk seqOf (oD (dBin ixD (oVar 5) (oD (dC (.int 1)))))))) (vNil))))) (SR.nx)) (anS d m (ld T) (ld B) none) = .nx (anS d' m (ld T') (ld B') c5) := by
  obtain ⟨g, d1, g0, g1, hb, eg⟩ := e_grab (t := 5) h (by omega) (by decide) (sm_of (by decide))
  by_cases hg : g = 0
  · obtain ⟨U, V, d2, fU, fV, hb2, e⟩ := e_told hb (by omega)
    have lT := fT.len
    have lB := fB.len
    have lU := fU.len
    have lV := fV.len
    have a1 := add_ll (T.map D.int) (U.map D.int) (by simp; omega)
    have a2 := add_ll (B.map D.int) (V.map D.int) (by simp; omega)
    rw [← List.map_append] at a1 a2
    refine ⟨T ++ U, B ++ V, d2, some (.tup [pd U, pd V]), (fT.app (fU.mono (Nat.le_refl _) (by decide))), (fB.app (fV.mono (Nat.le_refl _) (by decide))), hb2.mono (by omega), ?_⟩
    subst hg
    generalize eTU : (T ++ U).map D.int = TU at *
    generalize eBV : (B ++ V).map D.int = BV at *
    simp [eqY_int, neY_int, max2_ap, min2_ap, DF.R.bind_ok, DF.R.bindS_ok, DF.R.bindN_ok, DF.SR.bind_nx, DF.SR.bind_ret, ofO, ths, setV, setF, free, set2, set3, fnRes, startE, startC, outs, argsD, putD, ioIx, isMu, look, DF.muL, ltD_ap, leD_ap, gtD_ap, geD_ap, addD_ap, subD_ap, negD_ap, absD_ap, intD_ap, intD_apB, eq_int, ne_int, ixD, L2.atI, L2.ixN, lenD, gcdD, max2D, min2D, eg, e, a1, a2, seqOf, eTU, eBV]
  · refine ⟨T, B, d1, none, fT.mono (by decide) (Int.le_refl _), fB.mono (by decide) (Int.le_refl _), hb.mono (by omega), ?_⟩
    simp [eqY_int, neY_int, max2_ap, min2_ap, DF.R.bind_ok, DF.R.bindS_ok, DF.R.bindN_ok, DF.SR.bind_nx, DF.SR.bind_ret, ofO, ths, setV, setF, free, set2, set3, fnRes, startE, startC, outs, argsD, putD, ioIx, isMu, look, DF.muL, ltD_ap, leD_ap, gtD_ap, geD_ap, addD_ap, subD_ap, negD_ap, absD_ap, intD_ap, intD_apB, eq_int, ne_int, ixD, L2.atI, L2.ixN, lenD, gcdD, max2D, min2D, eg, hg]
theorem an4 {n : Nat} {d : D} {m : Int} {T B : List Int} {c5 : Option D} (h : Bag n d) (hn : n ≤ 700000) (fT : Fine 20 300 T) (fB : Fine 20 300 B) : ∃ (T' B' d' : _), Fine 20 300 T' ∧ Fine 20 300 B' ∧ Bag (n + 1) d' ∧ (dIf (dTst (dBin eqY (oD (dV (dCal2 2 F_q_grab (rIo 0 (rVal (dC (.int 8)) (rNil)))))) (oD (dC (.int 0))))) (dPar 2 3 (vCons (dVar 3) (vCons (dVar 2) (vNil)))) (SR.nx)) (anS d m (ld T) (ld B) c5) = .nx (anS d' m (ld T') (ld B') c5) := by
  obtain ⟨g, d1, g0, g1, hb, eg⟩ := e_grab (t := 8) h (by omega) (by decide) (sm_of (by decide))
  by_cases hg : g = 0
  · refine ⟨B, T, d1, fB, fT, hb, ?_⟩
    subst hg
    cases c5 <;> simp [eqY_int, neY_int, max2_ap, min2_ap, DF.R.bind_ok, DF.R.bindS_ok, DF.R.bindN_ok, DF.SR.bind_nx, DF.SR.bind_ret, ofO, ths, setV, setF, free, set2, set3, fnRes, startE, startC, outs, argsD, putD, ioIx, isMu, look, DF.muL, ltD_ap, leD_ap, gtD_ap, geD_ap, addD_ap, subD_ap, negD_ap, absD_ap, intD_ap, intD_apB, eq_int, ne_int, ixD, L2.atI, L2.ixN, lenD, gcdD, max2D, min2D, eg]
  · refine ⟨T, B, d1, fT, fB, hb, ?_⟩
    cases c5 <;> simp [eqY_int, neY_int, max2_ap, min2_ap, DF.R.bind_ok, DF.R.bindS_ok, DF.R.bindN_ok, DF.SR.bind_nx, DF.SR.bind_ret, ofO, ths, setV, setF, free, set2, set3, fnRes, startE, startC, outs, argsD, putD, ioIx, isMu, look, DF.muL, ltD_ap, leD_ap, gtD_ap, geD_ap, addD_ap, subD_ap, negD_ap, absD_ap, intD_ap, intD_apB, eq_int, ne_int, ixD, L2.atI, L2.ixN, lenD, gcdD, max2D, min2D, eg, hg]
theorem e_any {n : Nat} {d : D} (h : Bag n d) (hn : n ≤ 600000) : RD (n + 100) (F_q_any_balanced [(true, d)]) := by
  refine fn_of (P := fun R => RD (n + 100) R) ?_
  unfold B_q_any_balanced
  rw [show startE 6 [(true, d)] = [some (.mu true d), none, none, none, none, none] from rfl]
  obtain ⟨m, d1, m1, m2, h1, e0⟩ := an0 h (by omega)
  refine wp_seq e0 ?_
  obtain ⟨T, B, d2, fT, fB, h2, e1⟩ := an1 (m := m) h1 (by omega)
  refine wp_seq e1 ?_
  refine wp_seq (an2 ⟨m1, m2⟩ fT fB) ?_
  obtain ⟨T2, B2, d3, c5, fT2, fB2, h3, e3⟩ := an3 (m := m) h2 (by omega) (fine_mul ⟨m1, m2⟩ fT) (fine_mul ⟨m1, m2⟩ fB)
  refine wp_seq e3 ?_
  obtain ⟨T3, B3, d4, fT3, fB3, h4, e4⟩ := an4 (m := m) (c5 := c5) h3 (by omega) fT2 fB2
  refine wp_seq e4 ?_
  have lT := fT3.len
  have lB := fB3.len
  obtain ⟨X, Y, hX, hY, lX, lY, dj, e5⟩ := e_without (ld T3) (ld B3) T3 B3 rfl rfl (by omega) (by omega)
  refine wp_seq (ρ' := anS d4 m (pd X) (pd Y) c5) (by cases c5 <;> simp [eqY_int, neY_int, max2_ap, min2_ap, DF.R.bind_ok, DF.R.bindS_ok, DF.R.bindN_ok, DF.SR.bind_nx, DF.SR.bind_ret, ofO, ths, setV, setF, free, set2, set3, fnRes, startE, startC, outs, argsD, putD, ioIx, isMu, look, DF.muL, ltD_ap, leD_ap, gtD_ap, geD_ap, addD_ap, subD_ap, negD_ap, absD_ap, intD_ap, intD_apB, eq_int, ne_int, ixD, L2.atI, L2.ixN, lenD, gcdD, max2D, min2D, e5]) ?_
  obtain ⟨b, hb, e6⟩ := e_let X Y (by omega) (by omega)
  cases b with
  | true =>
    refine wp_rt (ρ' := anS d4 m (pd X) (pd Y) c5) (fr := false) (d := .tup [pd X, pd Y]) (by cases c5 <;> simp [eqY_int, neY_int, max2_ap, min2_ap, DF.R.bind_ok, DF.R.bindS_ok, DF.R.bindN_ok, DF.SR.bind_nx, DF.SR.bind_ret, ofO, ths, setV, setF, free, set2, set3, fnRes, startE, startC, outs, argsD, putD, ioIx, isMu, look, DF.muL, ltD_ap, leD_ap, gtD_ap, geD_ap, addD_ap, subD_ap, negD_ap, absD_ap, intD_ap, intD_apB, eq_int, ne_int, ixD, L2.atI, L2.ixN, lenD, gcdD, max2D, min2D, e6]) ⟨[d4], rfl, X, Y, d4, ⟨hb rfl, dj⟩, h4.mono (by omega), rfl⟩
  | false =>
    refine wp_rt (ρ' := anS d4 m (pd X) (pd Y) c5) (fr := false) (d := .tup [pd [2], pd [1, 1]]) (by cases c5 <;> simp [eqY_int, neY_int, max2_ap, min2_ap, DF.R.bind_ok, DF.R.bindS_ok, DF.R.bindN_ok, DF.SR.bind_nx, DF.SR.bind_ret, ofO, ths, setV, setF, free, set2, set3, fnRes, startE, startC, outs, argsD, putD, ioIx, isMu, look, DF.muL, ltD_ap, leD_ap, gtD_ap, geD_ap, addD_ap, subD_ap, negD_ap, absD_ap, intD_ap, intD_apB, eq_int, ne_int, ixD, L2.atI, L2.ixN, lenD, gcdD, max2D, min2D, e6]) ⟨[d4], rfl, [2], [1, 1], d4, ⟨letP_of (by decide), by decide⟩, h4.mono (by omega), rfl⟩
end K14

namespace K14
open PySem DF
theorem cut_take (l : List D) (k : Nat) (h : k ≤ l.length) : cutD l none (some (k : Int)) = l.take k := by
  unfold cutD
  have e : HT.sIx l.length l.length (some (k : Int)) = k := by
    rw [HT.sIx_nat]; omega
  have e0 : HT.sIx l.length 0 none = 0 := rfl
  rw [e, e0]
  simp
theorem cut_drop (l : List D) (k : Nat) (h : k ≤ l.length) : cutD l (some (k : Int)) none = l.drop k := by
  unfold cutD
  have e : HT.sIx l.length 0 (some (k : Int)) = k := by
    rw [HT.sIx_nat]; omega
  have e0 : HT.sIx l.length l.length none = l.length := rfl
  rw [e, e0]
  rw [List.take_of_length_le (by rw [List.length_drop]; omega)]
theorem cut_last (l : List D) (h : 1 ≤ l.length) : cutD l none (some (-1)) = l.take (l.length - 1) := by
  unfold cutD
  have e : HT.sIx l.length l.length (some (-1)) = l.length - 1 := by
    unfold HT.sIx
    simp
    omega
  have e0 : HT.sIx l.length 0 none = 0 := rfl
  rw [e, e0]
  simp
abbrev rdS (d : D) (X Y Z : List Int) (w at_ more : Int) (c7 c8 : Option D) : DEnv := [some (.mu true d), some (.val (pd X)), some (.val (pd Y)), some (.val (.int w)), some (.mu false (ld Z)), some (.val (.int at_)), some (.val (.int more)), c7.map Cell.val, c8.map Cell.val]
theorem rd1 {n : Nat} {d : D} {X Y : List Int} (h : Bag n d) (hn : n ≤ 700000) (lX : X.length ≤ 8) (lY : Y.length ≤ 8) : ∃ (w : Int) (d' : D), 0 ≤ w ∧ w < 7 ∧ Bag (n + 1) d' ∧ (dParX [3, 4] (xVal (dV (dCal2 2 F_q_grab (rIo 0 (rVal (dC (.int 7)) (rNil))))) (xFr (dMk seqOf (oD (dBin addD (oVar 1) (oVar 2)))) (xNil)))) [some (.mu true d), some (.val (pd X)), some (.val (pd Y)), none, none, none, none, none, none] = .nx [some (.mu true d'), some (.val (pd X)), some (.val (pd Y)), some (.val (.int w)), some (.mu false (ld (X ++ Y))), none, none, none, none] := by
  obtain ⟨w, d1, w0, w1, hb, e⟩ := e_grab (t := 7) h (by omega) (by decide) (sm_of (by decide))
  have a1 := add_tt (X.map D.int) (Y.map D.int) (by simp; omega)
  rw [← List.map_append] at a1
  refine ⟨w, d1, w0, w1, hb, ?_⟩
  generalize eXY : (X ++ Y).map D.int = XY at *
  simp [eqY_int, neY_int, max2_ap, min2_ap, DF.R.bind_ok, DF.R.bindS_ok, DF.R.bindN_ok, DF.SR.bind_nx, DF.SR.bind_ret, ofO, ths, setV, setF, free, set2, set3, fnRes, startE, startC, outs, argsD, putD, ioIx, isMu, look, DF.muL, ltD_ap, leD_ap, gtD_ap, geD_ap, addD_ap, subD_ap, negD_ap, absD_ap, intD_ap, intD_apB, eq_int, ne_int, ixD, L2.atI, L2.ixN, lenD, gcdD, max2D, min2D, e, a1, seqOf]
  subst eXY
  rfl
theorem rd3 {n : Nat} {d : D} {X Y Z : List Int} {w : Int} (h : Bag n d) (hn : n ≤ 700000) (l1 : 0 < Z.length) (l2 : Z.length ≤ 16) : ∃ (k : Nat) (m : Int) (d' : D), k < Z.length ∧ -1 ≤ m ∧ m ≤ 5 ∧ Bag (n + 2) d' ∧ (dPar 5 6 (vCons (dV (dCal2 2 F_q_grab (rIo 0 (rVal (dCal lenD (aCons (oVar 4) (aNil))) (rNil))))) (vCons (dV (dCal2 2 F_q_one_of (rIo 0 (rVal (dLst (vCons (dC (.int 1)) (vCons (dUn negD (oD (dC (.int 1)))) (vCons (dC (.int 2)) (vCons (dC (.int 5)) (vNil)))))) (rNil))))) (vNil)))) [some (.mu true d), some (.val (pd X)), some (.val (pd Y)), some (.val (.int w)), some (.mu false (ld Z)), none, none, none, none] = .nx (rdS d' X Y Z w (k : Int) m none none) := by
  obtain ⟨g, d1, g0, g1, hb, e⟩ := e_grab (t := (Z.length : Int)) h (by omega) (by omega) (sm_of (by omega))
  obtain ⟨m, hm, d2, hb2, e2⟩ := e_one_int (l := [1, -1, 2, 5]) hb (by omega) (by decide) (by decide)
  have e2' : F_q_one_of [(true, d1), (false, .lst [.int 1, .int (-1), .int 2, .int 5])] = .ret false (.int m) [d2] := e2
  refine ⟨g.toNat, m, d2, by omega, ?_, ?_, hb2, ?_⟩
  · simp at hm; omega
  · simp at hm; omega
  · have eg : ((g.toNat : Nat) : Int) = g := by omega
    have el : lenD [ld Z] = some (.int (Z.length : Int)) := by show some (D.int ((Z.map D.int).length : Int)) = _; rw [List.length_map]
    rw [eg]
    simp [eqY_int, neY_int, max2_ap, min2_ap, DF.R.bind_ok, DF.R.bindS_ok, DF.R.bindN_ok, DF.SR.bind_nx, DF.SR.bind_ret, ofO, ths, setV, setF, free, set2, set3, fnRes, startE, startC, outs, argsD, putD, ioIx, isMu, look, DF.muL, ltD_ap, leD_ap, gtD_ap, geD_ap, addD_ap, subD_ap, negD_ap, absD_ap, intD_ap, intD_apB, eq_int, ne_int, ixD, L2.atI, L2.ixN, lenD, gcdD, max2D, min2D, e, e2', el]
theorem rd4 {d : D} {X Y Z : List Int} {w m : Int} {k : Nat} (hk : k < Z.length) (hm : -1 ≤ m ∧ m ≤ 5) (hb : ∀ x ∈ Z, 1 ≤ x ∧ x ≤ 60) : ∃ Z' : List Int, Z'.length = Z.length ∧ (∀ x ∈ Z', 1 ≤ x ∧ x ≤ 65) ∧ (dSetI 4 (dVar 5) (dCal (orC max2D maxSD) (aCons (oD (dC (.int 1))) (aCons (oD (dBin addD (oD (dBin ixD (oVar 4) (oVar 5))) (oVar 6))) (aNil))))) (rdS d X Y Z w (k : Int) m none none) = .nx (rdS d X Y Z' w (k : Int) m none none) := by
  have hM : ∃ M : Int, 1 ≤ M ∧ M ≤ 65 ∧ orC max2D maxSD [.int 1, .int (Z[k] + m)] = some (.int M) := by
    have := hb Z[k] (List.getElem_mem hk)
    by_cases hc : 1 < Z[k] + m
    · exact ⟨Z[k] + m, by omega, by omega, by simp [eqY_int, neY_int, max2_ap, min2_ap, DF.R.bind_ok, DF.R.bindS_ok, DF.R.bindN_ok, DF.SR.bind_nx, DF.SR.bind_ret, ofO, ths, setV, setF, free, set2, set3, fnRes, startE, startC, outs, argsD, putD, ioIx, isMu, look, DF.muL, ltD_ap, leD_ap, gtD_ap, geD_ap, addD_ap, subD_ap, negD_ap, absD_ap, intD_ap, intD_apB, eq_int, ne_int, ixD, L2.atI, L2.ixN, lenD, gcdD, max2D, min2D, hc]⟩
    · exact ⟨1, by omega, by omega, by simp [eqY_int, neY_int, max2_ap, min2_ap, DF.R.bind_ok, DF.R.bindS_ok, DF.R.bindN_ok, DF.SR.bind_nx, DF.SR.bind_ret, ofO, ths, setV, setF, free, set2, set3, fnRes, startE, startC, outs, argsD, putD, ioIx, isMu, look, DF.muL, ltD_ap, leD_ap, gtD_ap, geD_ap, addD_ap, subD_ap, negD_ap, absD_ap, intD_ap, intD_apB, eq_int, ne_int, ixD, L2.atI, L2.ixN, lenD, gcdD, max2D, min2D, hc]⟩
  obtain ⟨M, M1, M2, eM⟩ := hM
  refine ⟨Z.set k M, by simp, fun x hx => ?_, ?_⟩
  · rcases List.mem_or_eq_of_mem_set hx with hx | rfl
    · have := hb x hx; omega
    · exact ⟨M1, M2⟩
  · have i1 : (Z.map D.int)[k]? = some (.int Z[k]) := by rw [List.getElem?_map, List.getElem?_eq_getElem hk]; rfl
    have i2 : ixD (ld Z) (.int (k : Int)) = some (.int Z[k]) := by
      simp [ixD, eqY_int, neY_int, max2_ap, min2_ap, DF.R.bind_ok, DF.R.bindS_ok, DF.R.bindN_ok, DF.SR.bind_nx, DF.SR.bind_ret, ofO, ths, setV, setF, free, set2, set3, fnRes, startE, startC, outs, argsD, putD, ioIx, isMu, look, DF.muL, ltD_ap, leD_ap, gtD_ap, geD_ap, addD_ap, subD_ap, negD_ap, absD_ap, intD_ap, intD_apB, eq_int, ne_int, ixD, L2.atI, L2.ixN, lenD, gcdD, max2D, min2D, hk]
    have i3 : L2.ixN (Z.map D.int).length (k : Int) = some k := by
      simp [L2.ixN, hk]
    have i4 : (Z.set k M).map D.int = (Z.map D.int).set k (.int M) := by rw [List.map_set]
    generalize hq : Z[k] = q at *
    simp [eqY_int, neY_int, max2_ap, min2_ap, DF.R.bind_ok, DF.R.bindS_ok, DF.R.bindN_ok, DF.SR.bind_nx, DF.SR.bind_ret, ofO, ths, setV, setF, free, set2, set3, fnRes, startE, startC, outs, argsD, putD, ioIx, isMu, look, DF.muL, ltD_ap, leD_ap, gtD_ap, geD_ap, addD_ap, subD_ap, negD_ap, absD_ap, intD_ap, intD_apB, eq_int, ne_int, ixD, L2.atI, L2.ixN, lenD, gcdD, max2D, min2D, eM, hk, hq]
theorem rd5 {d : D} {X Y Z : List Int} {w m : Int} {k : Nat} (hl : Z.length = X.length + Y.length) (hl2 : Z.length ≤ 16) (hb : ∀ x ∈ Z, 1 ≤ x ∧ x ≤ 65) : ∃ U V : List Int, U.length ≤ 16 ∧ V.length ≤ 16 ∧ (∀ x ∈ U, x ∉ V) ∧ (dAsg (dV (dCal2 2 F_q_without_shared (rVal (dSl (oVar 4) (pNo) (pInt (dCal lenD (aCons (oVar 1) (aNil))))) (rVal (dSl (oVar 4) (pInt (dCal lenD (aCons (oVar 1) (aNil)))) (pNo)) (rNil))))) (gTp 2 (gsCons (setV 7) (gsCons (setV 8) (gsNil))))) (rdS d X Y Z w (k : Int) m none none) = .nx (rdS d X Y Z w (k : Int) m (some (pd U)) (some (pd V))) := by
  obtain ⟨U, V, _, _, lU, lV, dj, e⟩ := e_without (ld (Z.take X.length)) (ld (Z.drop X.length)) (Z.take X.length) (Z.drop X.length) rfl rfl (by rw [List.length_take]; omega) (by rw [List.length_drop]; omega)
  rw [List.length_take] at lU
  rw [List.length_drop] at lV
  refine ⟨U, V, by omega, by omega, dj, ?_⟩
  have c1 := cut_take (Z.map D.int) X.length (by rw [List.length_map]; omega)
  have c2 := cut_drop (Z.map D.int) X.length (by rw [List.length_map]; omega)
  rw [← List.map_take] at c1
  rw [← List.map_drop] at c2
  have el : lenD [pd X] = some (.int (X.length : Int)) := by show some (D.int ((X.map D.int).length : Int)) = _; rw [List.length_map]
  have e' : F_q_without_shared [(false, .lst ((Z.take X.length).map D.int)), (false, .lst ((Z.drop X.length).map D.int))] = .ret false (.tup [pd U, pd V]) [] := e
  clear e
  generalize eT : (Z.take X.length).map D.int = T1 at *
  generalize eD : (Z.drop X.length).map D.int = D1 at *
  simp [eqY_int, neY_int, max2_ap, min2_ap, DF.R.bind_ok, DF.R.bindS_ok, DF.R.bindN_ok, DF.SR.bind_nx, DF.SR.bind_ret, ofO, ths, setV, setF, free, set2, set3, fnRes, startE, startC, outs, argsD, putD, ioIx, isMu, look, DF.muL, ltD_ap, leD_ap, gtD_ap, geD_ap, addD_ap, subD_ap, negD_ap, absD_ap, intD_ap, intD_apB, eq_int, ne_int, ixD, L2.atI, L2.ixN, lenD, gcdD, max2D, min2D, el, slO, c1, c2, e']
theorem rd6 {d : D} {X Y Z U V : List Int} {w m : Int} {k : Nat} (lX : X.length ≤ 8) (lY : Y.length ≤ 8) (lU : U.length ≤ 16) (lV : V.length ≤ 16) (dj : ∀ x ∈ U, x ∉ V) : ∃ U' V' : List Int, U'.length ≤ 16 ∧ V'.length ≤ 16 ∧ (∀ x ∈ U', x ∉ V') ∧ (dIf (dTst (dBin eqY (oVar 3) (oD (dC (.int 0))))) (dAsg (dIte (dTst (dBin gtD (oD (dCal lenD (aCons (oVar 2) (aNil)))) (oD (dC (.int 1))))) (dV (dCal2 2 F_q_without_shared (rVal (dVar 1) (rVal (dSl (oVar 2) (pNo) (pInt (dUn negD (oD (dC (.int 1)))))) (rNil))))) (dV (dCal2 2 F_q_without_shared (rVal (dBin addD (oVar 1) (oD (dTup (vCons (dC (.int 1)) (vNil))))) (rVal (dVar 2) (rNil)))))) (gTp 2 (gsCons (setV 7) (gsCons (setV 8) (gsNil))))) (SR.nx)) (rdS d X Y Z w (k : Int) m (some (pd U)) (some (pd V))) = .nx (rdS d X Y Z w (k : Int) m (some (pd U')) (some (pd V'))) := by
  have el : lenD [pd Y] = some (.int (Y.length : Int)) := by show some (D.int ((Y.map D.int).length : Int)) = _; rw [List.length_map]
  by_cases hw : w = 0
  · by_cases hy : 1 < Y.length
    · obtain ⟨U', V', _, _, lU', lV', dj', e⟩ := e_without (pd X) (pd (Y.take (Y.length - 1))) X (Y.take (Y.length - 1)) rfl rfl (by omega) (by rw [List.length_take]; omega)
      rw [List.length_take] at lV'
      refine ⟨U', V', by omega, by omega, dj', ?_⟩
      have c1 := cut_last (Y.map D.int) (by rw [List.length_map]; omega)
      rw [List.length_map, ← List.map_take] at c1
      have e' : F_q_without_shared [(false, pd X), (false, .tup ((Y.take (Y.length - 1)).map D.int))] = .ret false (.tup [pd U', pd V']) [] := e
      clear e
      generalize eT : (Y.take (Y.length - 1)).map D.int = T1 at *
      have hy' : (1 : Int) < (Y.length : Int) := by omega
      simp [eqY_int, neY_int, max2_ap, min2_ap, DF.R.bind_ok, DF.R.bindS_ok, DF.R.bindN_ok, DF.SR.bind_nx, DF.SR.bind_ret, ofO, ths, setV, setF, free, set2, set3, fnRes, startE, startC, outs, argsD, putD, ioIx, isMu, look, DF.muL, ltD_ap, leD_ap, gtD_ap, geD_ap, addD_ap, subD_ap, negD_ap, absD_ap, intD_ap, intD_apB, eq_int, ne_int, ixD, L2.atI, L2.ixN, lenD, gcdD, max2D, min2D, hw, el, hy, hy', slO, c1, e']
    · have a1 := add_tt (X.map D.int) [.int 1] (by simp; omega)
      obtain ⟨U', V', _, _, lU', lV', dj', e⟩ := e_without (pd (X ++ [1])) (pd Y) (X ++ [1]) Y rfl rfl (by simp; omega) (by omega)
      rw [List.length_append, List.length_singleton] at lU'
      refine ⟨U', V', by omega, by omega, dj', ?_⟩
      have hy' : ¬ (1 : Int) < (Y.length : Int) := by omega
      have e' : F_q_without_shared [(false, .tup (X.map D.int ++ [.int 1])), (false, pd Y)] = .ret false (.tup [pd U', pd V']) [] := by
        have q : (.tup (X.map D.int ++ [.int 1]) : D) = pd (X ++ [1]) := by
          show _ = D.tup ((X ++ [1]).map D.int)
          rw [List.map_append]; rfl
        rw [q]; exact e
      simp [eqY_int, neY_int, max2_ap, min2_ap, DF.R.bind_ok, DF.R.bindS_ok, DF.R.bindN_ok, DF.SR.bind_nx, DF.SR.bind_ret, ofO, ths, setV, setF, free, set2, set3, fnRes, startE, startC, outs, argsD, putD, ioIx, isMu, look, DF.muL, ltD_ap, leD_ap, gtD_ap, geD_ap, addD_ap, subD_ap, negD_ap, absD_ap, intD_ap, intD_apB, eq_int, ne_int, ixD, L2.atI, L2.ixN, lenD, gcdD, max2D, min2D, hw, el, hy, hy', a1, e']
  · exact ⟨U, V, lU, lV, dj, by simp [eqY_int, neY_int, max2_ap, min2_ap, DF.R.bind_ok, DF.R.bindS_ok, DF.R.bindN_ok, DF.SR.bind_nx, DF.SR.bind_ret, ofO, ths, setV, setF, free, set2, set3, fnRes, startE, startC, outs, argsD, putD, ioIx, isMu, look, DF.muL, ltD_ap, leD_ap, gtD_ap, geD_ap, addD_ap, subD_ap, negD_ap, absD_ap, intD_ap, intD_apB, eq_int, ne_int, ixD, L2.atI, L2.ixN, lenD, gcdD, max2D, min2D, hw]⟩
theorem e_row {n : Nat} {d : D} (h : Bag n d) (hn : n ≤ 500000) : RD (n + 110) (F_q_row_drawn [(true, d)]) := by
  refine fn_of (P := fun R => RD (n + 110) R) ?_
  unfold B_q_row_drawn
  rw [show startE 9 [(true, d)] = [some (.mu true d), none, none, none, none, none, none, none, none] from rfl]
  obtain ⟨X, Y, d1, hP, h1, e0⟩ := e_any h (by omega)
  refine wp_seq (ρ' := [some (.mu true d1), some (.val (pd X)), some (.val (pd Y)), none, none, none, none, none, none]) (by simp [eqY_int, neY_int, max2_ap, min2_ap, DF.R.bind_ok, DF.R.bindS_ok, DF.R.bindN_ok, DF.SR.bind_nx, DF.SR.bind_ret, ofO, ths, setV, setF, free, set2, set3, fnRes, startE, startC, outs, argsD, putD, ioIx, isMu, look, DF.muL, ltD_ap, leD_ap, gtD_ap, geD_ap, addD_ap, subD_ap, negD_ap, absD_ap, intD_ap, intD_apB, eq_int, ne_int, ixD, L2.atI, L2.ixN, lenD, gcdD, max2D, min2D, e0]) ?_
  have lX := hP.lt.lx
  have lY := hP.lt.ly
  have hne := hP.lt.ne
  have l1 : 0 < (X ++ Y).length := by
    cases hz : X ++ Y with
    | nil => exact absurd hz hne
    | cons z zs => simp
  have l2 : (X ++ Y).length ≤ 16 := by rw [List.length_append]; omega
  obtain ⟨w, d2, w0, w1, h2, e1⟩ := rd1 h1 (by omega) lX lY
  refine wp_seq e1 ?_
  by_cases hw : 1 < w
  · refine wp_seqR (ρ' := [some (.mu true d2), some (.val (pd X)), some (.val (pd Y)), some (.val (.int w)), some (.mu false (ld (X ++ Y))), none, none, none, none]) (fr := false) (d := .tup [pd X, pd Y]) (by simp [eqY_int, neY_int, max2_ap, min2_ap, DF.R.bind_ok, DF.R.bindS_ok, DF.R.bindN_ok, DF.SR.bind_nx, DF.SR.bind_ret, ofO, ths, setV, setF, free, set2, set3, fnRes, startE, startC, outs, argsD, putD, ioIx, isMu, look, DF.muL, ltD_ap, leD_ap, gtD_ap, geD_ap, addD_ap, subD_ap, negD_ap, absD_ap, intD_ap, intD_apB, eq_int, ne_int, ixD, L2.atI, L2.ixN, lenD, gcdD, max2D, min2D, hw]) ⟨[d2], rfl, X, Y, d2, hP, h2.mono (by omega), rfl⟩
  refine wp_seq (ρ' := [some (.mu true d2), some (.val (pd X)), some (.val (pd Y)), some (.val (.int w)), some (.mu false (ld (X ++ Y))), none, none, none, none]) (by simp [eqY_int, neY_int, max2_ap, min2_ap, DF.R.bind_ok, DF.R.bindS_ok, DF.R.bindN_ok, DF.SR.bind_nx, DF.SR.bind_ret, ofO, ths, setV, setF, free, set2, set3, fnRes, startE, startC, outs, argsD, putD, ioIx, isMu, look, DF.muL, ltD_ap, leD_ap, gtD_ap, geD_ap, addD_ap, subD_ap, negD_ap, absD_ap, intD_ap, intD_apB, eq_int, ne_int, ixD, L2.atI, L2.ixN, lenD, gcdD, max2D, min2D, hw]) ?_
  obtain ⟨k, m, d3, hk, m0, m1, h3, e3⟩ := rd3 (X := X) (Y := Y) (w := w) h2 (by omega) l1 l2
  refine wp_seq e3 ?_
  obtain ⟨Z, lZ, bZ, e4⟩ := rd4 (d := d3) (X := X) (Y := Y) (w := w) hk ⟨m0, m1⟩ hP.lt.bd
  refine wp_seq e4 ?_
  rw [List.length_append] at lZ
  obtain ⟨U, V, lU, lV, dj, e5⟩ := rd5 (d := d3) (X := X) (Y := Y) (w := w) (m := m) (k := k) lZ (by omega) bZ
  refine wp_seq e5 ?_
  obtain ⟨U', V', lU', lV', dj', e6⟩ := rd6 (d := d3) (X := X) (Y := Y) (Z := Z) (w := w) (m := m) (k := k) lX lY lU lV dj
  refine wp_seq e6 ?_
  obtain ⟨b, hb, e7⟩ := e_let U' V' (by omega) (by omega)
  cases b with
  | true => exact wp_rt (ρ' := rdS d3 X Y Z w (k : Int) m (some (pd U')) (some (pd V'))) (fr := false) (d := .tup [pd U', pd V']) (by simp [eqY_int, neY_int, max2_ap, min2_ap, DF.R.bind_ok, DF.R.bindS_ok, DF.R.bindN_ok, DF.SR.bind_nx, DF.SR.bind_ret, ofO, ths, setV, setF, free, set2, set3, fnRes, startE, startC, outs, argsD, putD, ioIx, isMu, look, DF.muL, ltD_ap, leD_ap, gtD_ap, geD_ap, addD_ap, subD_ap, negD_ap, absD_ap, intD_ap, intD_apB, eq_int, ne_int, ixD, L2.atI, L2.ixN, lenD, gcdD, max2D, min2D, e7]) ⟨[d3], rfl, U', V', d3, ⟨hb rfl, dj'⟩, h3.mono (by omega), rfl⟩
  | false => exact wp_rt (ρ' := rdS d3 X Y Z w (k : Int) m (some (pd U')) (some (pd V'))) (fr := false) (d := .tup [pd [4, 1], pd [3, 2]]) (by simp [eqY_int, neY_int, max2_ap, min2_ap, DF.R.bind_ok, DF.R.bindS_ok, DF.R.bindN_ok, DF.SR.bind_nx, DF.SR.bind_ret, ofO, ths, setV, setF, free, set2, set3, fnRes, startE, startC, outs, argsD, putD, ioIx, isMu, look, DF.muL, ltD_ap, leD_ap, gtD_ap, geD_ap, addD_ap, subD_ap, negD_ap, absD_ap, intD_ap, intD_apB, eq_int, ne_int, ixD, L2.atI, L2.ixN, lenD, gcdD, max2D, min2D, e7]) ⟨[d3], rfl, [4, 1], [3, 2], d3, ⟨letP_of (by decide), by decide⟩, h3.mono (by omega), rfl⟩
end K14

namespace K14
open PySem DF
theorem k_ii : L2.kitB "int" "int" = some true := rfl
theorem k_ib : L2.kitB "int" "bool" = some false := rfl
theorem k_tt : L2.kitB "tuple" "tuple" = some true := rfl
theorem e_long (i : Int) : F_is_long_integer [(false, .int i)] = .ret false (.bl true) [] := by
  unfold F_is_long_integer B_is_long_integer
  simp [eqY_int, neY_int, max2_ap, min2_ap, DF.R.bind_ok, DF.R.bindS_ok, DF.R.bindN_ok, DF.SR.bind_nx, DF.SR.bind_ret, ofO, ths, setV, setF, free, set2, set3, fnRes, startE, startC, outs, argsD, putD, ioIx, isMu, look, DF.muL, ltD_ap, leD_ap, gtD_ap, geD_ap, addD_ap, subD_ap, negD_ap, absD_ap, intD_ap, intD_apB, eq_int, ne_int, ixD, L2.atI, L2.ixN, lenD, gcdD, max2D, min2D, isiD, tyN, k_ii, k_ib]
theorem e_isint (i : Int) : F_is_integer [(false, .int i)] = .ret false (.bl (decide (i.natAbs ≤ 999999999999999999999999999999999999999999999999999999999999))) [] := by
  unfold F_is_integer B_is_integer
  simp [eqY_int, neY_int, max2_ap, min2_ap, DF.R.bind_ok, DF.R.bindS_ok, DF.R.bindN_ok, DF.SR.bind_nx, DF.SR.bind_ret, ofO, ths, setV, setF, free, set2, set3, fnRes, startE, startC, outs, argsD, putD, ioIx, isMu, look, DF.muL, ltD_ap, leD_ap, gtD_ap, geD_ap, addD_ap, subD_ap, negD_ap, absD_ap, intD_ap, intD_apB, eq_int, ne_int, ixD, L2.atI, L2.ixN, lenD, gcdD, max2D, min2D, e_long]
  omega
theorem e_between (i l m : Int) (hi : i.natAbs ≤ 999999999999999999999999999999999999999999999999999999999999) : F_is_between [(false, .int i), (false, .int l), (false, .int m)] = .ret false (.bl (decide (l ≤ i) && decide (i ≤ m))) [] := by
  unfold F_is_between B_is_between
  by_cases h1 : l ≤ i
  · simp [eqY_int, neY_int, max2_ap, min2_ap, DF.R.bind_ok, DF.R.bindS_ok, DF.R.bindN_ok, DF.SR.bind_nx, DF.SR.bind_ret, ofO, ths, setV, setF, free, set2, set3, fnRes, startE, startC, outs, argsD, putD, ioIx, isMu, look, DF.muL, ltD_ap, leD_ap, gtD_ap, geD_ap, addD_ap, subD_ap, negD_ap, absD_ap, intD_ap, intD_apB, eq_int, ne_int, ixD, L2.atI, L2.ixN, lenD, gcdD, max2D, min2D, e_isint, hi, h1]
  · simp [eqY_int, neY_int, max2_ap, min2_ap, DF.R.bind_ok, DF.R.bindS_ok, DF.R.bindN_ok, DF.SR.bind_nx, DF.SR.bind_ret, ofO, ths, setV, setF, free, set2, set3, fnRes, startE, startC, outs, argsD, putD, ioIx, isMu, look, DF.muL, ltD_ap, leD_ap, gtD_ap, geD_ap, addD_ap, subD_ap, negD_ap, absD_ap, intD_ap, intD_apB, eq_int, ne_int, ixD, L2.atI, L2.ixN, lenD, gcdD, max2D, min2D, e_isint, hi, h1]
theorem e_checknum (i l m : Int) (hi : i.natAbs ≤ 999999999999999999999999999999999999999999999999999999999999) (h1 : l ≤ i) (h2 : i ≤ m) : F_check_number [(false, .int i), (false, .int l), (false, .int m)] = .ret false .non [] := by
  unfold F_check_number B_check_number
  simp [eqY_int, neY_int, max2_ap, min2_ap, DF.R.bind_ok, DF.R.bindS_ok, DF.R.bindN_ok, DF.SR.bind_nx, DF.SR.bind_ret, ofO, ths, setV, setF, free, set2, set3, fnRes, startE, startC, outs, argsD, putD, ioIx, isMu, look, DF.muL, ltD_ap, leD_ap, gtD_ap, geD_ap, addD_ap, subD_ap, negD_ap, absD_ap, intD_ap, intD_apB, eq_int, ne_int, ixD, L2.atI, L2.ixN, lenD, gcdD, max2D, min2D, e_between i l m hi, h1, h2]
theorem all_true (l : List Int) : allD [.lst (l.map fun _ => D.bl true)] = some (.bl true) := by
  have e : l.map (fun _ => D.bl true) = (l.map fun _ => true).map D.bl := by rw [List.map_map]; rfl
  show (bls (l.map fun _ => D.bl true)).map (fun ns => D.bl (ns.all id)) = _
  rw [e, bls_map]
  simp
theorem len_pd (l : List Int) : lenD [pd l] = some (.int (l.length : Int)) := by show some (D.int ((l.map D.int).length : Int)) = _; rw [List.length_map]
theorem len_ld (l : List Int) : lenD [ld l] = some (.int (l.length : Int)) := by show some (D.int ((l.map D.int).length : Int)) = _; rw [List.length_map]
theorem e_areint (l : List Int) (h1 : 1 ≤ l.length) (h2 : l.length ≤ 100) (hb : ∀ x ∈ l, x.natAbs ≤ 999999999999999999999999999999999999999999999999999999999999) : F_are_integers [(false, pd l)] = .ret false (.bl true) [] := by
  refine fn_of (P := fun R => R = .ret false (.bl true) []) ?_
  unfold B_are_integers
  rw [show startE 2 [(false, pd l)] = [some (.val (pd l)), none] from rfl]
  have k1 : (1 : Int) ≤ (l.length : Int) := by omega
  have k2 : (l.length : Int) ≤ 100 := by omega
  refine wp_seq (ρ' := [some (.val (pd l)), none]) (by simp [eqY_int, neY_int, max2_ap, min2_ap, DF.R.bind_ok, DF.R.bindS_ok, DF.R.bindN_ok, DF.SR.bind_nx, DF.SR.bind_ret, ofO, ths, setV, setF, free, set2, set3, fnRes, startE, startC, outs, argsD, putD, ioIx, isMu, look, DF.muL, ltD_ap, leD_ap, gtD_ap, geD_ap, addD_ap, subD_ap, negD_ap, absD_ap, intD_ap, intD_apB, eq_int, ne_int, ixD, L2.atI, L2.ixN, lenD, gcdD, max2D, min2D, isiD, tyN, k_tt, len_pd, k1, k2, h1, h2]) ?_
  have lc : dLc (sSeq (dVar 0)) (setV 1) (tYesB) (dV (dCal2 1 F_is_integer (rVal (dVar 1) (rNil)))) [1] [some (.val (pd l)), none] = .ok [some (.val (pd l)), none] (.lst (l.map fun _ => D.bl true)) := by
    refine lc_ap (ρ' := [some (.val (pd l)), none]) (l := l.map D.int) rfl rfl ?_
    have := lc_pure (t := setV 1) (c := tYesB) (f := dV (dCal2 1 F_is_integer (rVal (dVar 1) (rNil)))) (vs := [1]) (ρ := [some (.val (pd l)), none]) D.int (fun _ => true) (fun x => .bl true) l [] (by simp; omega) (fun x hx => ⟨[some (.val (pd l)), some (.val (.int x))], _, rfl, rfl, fun z => (by cases z), fun _ => ⟨[some (.val (pd l)), some (.val (.int x))], by simp [eqY_int, neY_int, max2_ap, min2_ap, DF.R.bind_ok, DF.R.bindS_ok, DF.R.bindN_ok, DF.SR.bind_nx, DF.SR.bind_ret, ofO, ths, setV, setF, free, set2, set3, fnRes, startE, startC, outs, argsD, putD, ioIx, isMu, look, DF.muL, ltD_ap, leD_ap, gtD_ap, geD_ap, addD_ap, subD_ap, negD_ap, absD_ap, intD_ap, intD_apB, eq_int, ne_int, ixD, L2.atI, L2.ixN, lenD, gcdD, max2D, min2D, e_isint, hb x hx], rfl, rfl⟩⟩)
    rw [show wipeE [some (.val (pd l)), none] [1] = [some (.val (pd l)), none] from rfl, this, List.filter_eq_self.mpr (fun _ _ => rfl)]
    simp
  refine wp_rt (ρ' := [some (.val (pd l)), none]) (fr := false) (d := .bl true) ?_ ⟨[], rfl, rfl⟩
  rw [dRet_ap, dCal_ap, aCons_ap, oD_ap, lc]
  simp [eqY_int, neY_int, max2_ap, min2_ap, DF.R.bind_ok, DF.R.bindS_ok, DF.R.bindN_ok, DF.SR.bind_nx, DF.SR.bind_ret, ofO, ths, setV, setF, free, set2, set3, fnRes, startE, startC, outs, argsD, putD, ioIx, isMu, look, DF.muL, ltD_ap, leD_ap, gtD_ap, geD_ap, addD_ap, subD_ap, negD_ap, absD_ap, intD_ap, intD_apB, eq_int, ne_int, ixD, L2.atI, L2.ixN, lenD, gcdD, max2D, min2D, all_true]
theorem lcm_ap (a b : Nat) (ha : a < 2 ^ 4000) (hb : b < 2 ^ 4000) : lcmD [.int (a : Int), .int (b : Int)] = some (.int (Nat.lcm a b : Nat)) := by
  show (if ((a : Int)).natAbs < 2 ^ 4000 ∧ ((b : Int)).natAbs < 2 ^ 4000 then some (D.int ((Nat.lcm ((a : Int)).natAbs ((b : Int)).natAbs : Nat) : Int)) else none) = _
  rw [Int.natAbs_natCast, Int.natAbs_natCast, if_pos ⟨ha, hb⟩]
theorem e_commul (l : List Int) (h1 : 1 ≤ l.length) (h2 : l.length ≤ 100) (hb : ∀ x ∈ l, 1 ≤ x ∧ x ≤ 60) : F_common_multiple [(false, pd l)] = .ret false (.int (lcmL 1 l : Nat)) [] := by
  cases l with
  | nil => simp at h1
  | cons z zs =>
    have e1 := e_areint (z :: zs) h1 h2 (fun x hx => by have := hb x hx; omega)
    have e2 := minS_ap z zs
    have e3 : ¬ (minL z zs < 1) := by
      have p : ∀ (l : List Int) (i : Int), 1 ≤ i → (∀ x ∈ l, 1 ≤ x) → 1 ≤ minL i l := by
        intro l
        induction l with
        | nil => intro i h _; exact h
        | cons y l ih =>
          intro i h hx
          have hy := hx y List.mem_cons_self
          have e : minL i (y :: l) = minL (if y < i then y else i) l := rfl
          rw [e]
          exact ih _ (by split <;> omega) fun x h => hx x (List.mem_cons_of_mem _ h)
      have := p zs z (hb z List.mem_cons_self).1 fun x hx => (hb x (List.mem_cons_of_mem _ hx)).1
      omega
    refine fn_of (P := fun R => R = .ret false (.int (lcmL 1 (z :: zs) : Nat)) []) ?_
    unfold B_common_multiple
    rw [show startE 3 [(false, pd (z :: zs))] = [some (.val (pd (z :: zs))), none, none] from rfl]
    refine wp_seq (ρ' := [some (.val (pd (z :: zs))), none, none]) (by simp [eqY_int, neY_int, max2_ap, min2_ap, DF.R.bind_ok, DF.R.bindS_ok, DF.R.bindN_ok, DF.SR.bind_nx, DF.SR.bind_ret, ofO, ths, setV, setF, free, set2, set3, fnRes, startE, startC, outs, argsD, putD, ioIx, isMu, look, DF.muL, ltD_ap, leD_ap, gtD_ap, geD_ap, addD_ap, subD_ap, negD_ap, absD_ap, intD_ap, intD_apB, eq_int, ne_int, ixD, L2.atI, L2.ixN, lenD, gcdD, max2D, min2D, e1, e2, e3]) ?_
    refine wp_seq (ρ' := [some (.val (pd (z :: zs))), some (.val (.int ((1 : Nat) : Int))), none]) (by simp [eqY_int, neY_int, max2_ap, min2_ap, DF.R.bind_ok, DF.R.bindS_ok, DF.R.bindN_ok, DF.SR.bind_nx, DF.SR.bind_ret, ofO, ths, setV, setF, free, set2, set3, fnRes, startE, startC, outs, argsD, putD, ioIx, isMu, look, DF.muL, ltD_ap, leD_ap, gtD_ap, geD_ap, addD_ap, subD_ap, negD_ap, absD_ap, intD_ap, intD_apB, eq_int, ne_int, ixD, L2.atI, L2.ixN, lenD, gcdD, max2D, min2D]) ?_
    refine wp_seqW (Q := fun ρ => ∃ (c2 : Option D), ρ = [some (.val (pd (z :: zs))), some (.val (.int (lcmL 1 (z :: zs) : Nat))), c2.map Cell.val]) ?_ ?_
    · refine wp_forS (ρ' := [some (.val (pd (z :: zs))), some (.val (.int ((1 : Nat) : Int))), none]) (l := (z :: zs).map D.int) rfl ?_
      refine wp_for D.int (fun r ρ => ∃ (f : Nat) (c2 : Option D), ρ = [some (.val (pd (z :: zs))), some (.val (.int (f : Int))), c2.map Cell.val] ∧ lcmL f r = lcmL 1 (z :: zs) ∧ 0 < f ∧ f ≤ 60 ^ (100 - r.length) ∧ r.length ≤ 100 ∧ ∀ x ∈ r, 1 ≤ x ∧ x ≤ 60) ?_ ?_ (z :: zs) _ ⟨1, none, rfl, rfl, by decide, Nat.one_le_pow _ _ (by decide), h2, hb⟩
      · rintro x r ρ ⟨f, c2, rfl, h3, f0, f1, f2, h4⟩
        rw [List.length_cons] at f1 f2
        have hx := h4 x List.mem_cons_self
        have ex : x = ((x.natAbs : Nat) : Int) := by omega
        have hf : f < 2 ^ 4000 := Nat.lt_of_le_of_lt f1 (Nat.lt_of_le_of_lt (Nat.pow_le_pow_right (by decide) (show 100 - (r.length + 1) ≤ 100 by omega)) (by decide))
        have el := lcm_ap f x.natAbs hf (Nat.lt_of_le_of_lt (show x.natAbs ≤ 60 by omega) (by decide))
        rw [← ex] at el
        have e4 : Nat.lcm f x.natAbs ≤ f * x.natAbs := Nat.le_of_dvd (Nat.mul_pos f0 (by omega)) (Nat.lcm_dvd (Nat.dvd_mul_right _ _) (Nat.dvd_mul_left _ _))
        have e5 : f * x.natAbs ≤ 60 ^ (100 - (r.length + 1)) * 60 := Nat.mul_le_mul f1 (by omega)
        rw [← Nat.pow_succ, show (100 - (r.length + 1)).succ = 100 - r.length by omega] at e5
        refine ⟨[some (.val (pd (z :: zs))), some (.val (.int (f : Int))), some (.val (.int x))], by cases c2 <;> rfl, wp_nx (ρ' := [some (.val (pd (z :: zs))), some (.val (.int (Nat.lcm f x.natAbs : Nat))), some (.val (.int x))]) (by simp [eqY_int, neY_int, max2_ap, min2_ap, DF.R.bind_ok, DF.R.bindS_ok, DF.R.bindN_ok, DF.SR.bind_nx, DF.SR.bind_ret, ofO, ths, setV, setF, free, set2, set3, fnRes, startE, startC, outs, argsD, putD, ioIx, isMu, look, DF.muL, ltD_ap, leD_ap, gtD_ap, geD_ap, addD_ap, subD_ap, negD_ap, absD_ap, intD_ap, intD_apB, eq_int, ne_int, ixD, L2.atI, L2.ixN, lenD, gcdD, max2D, min2D, el]) ⟨Nat.lcm f x.natAbs, some (.int x), rfl, h3, Nat.lcm_pos f0 (by omega), Nat.le_trans e4 e5, by omega, fun y hy => h4 y (List.mem_cons_of_mem _ hy)⟩⟩
      · rintro ρ ⟨f, c2, rfl, h3, _⟩
        exact ⟨c2, by rw [← h3]; rfl⟩
    · rintro ρ ⟨c2, rfl⟩
      exact wp_rt rfl ⟨[], rfl, rfl⟩
theorem e_side (l : List Int) (h : l.length ≤ 8) (hb : ∀ x ∈ l, 1 ≤ x ∧ x ≤ 60) : F_is_side [(false, pd l)] = .ret false (.bl true) [] := by
  refine fn_of (P := fun R => R = .ret false (.bl true) []) ?_
  unfold B_is_side
  rw [show startE 2 [(false, pd l)] = [some (.val (pd l)), none] from rfl]
  have k2 : ¬ (8 < (l.length : Int)) := by omega
  have k3 : ¬ (8 < l.length) := by omega
  refine wp_seq (ρ' := [some (.val (pd l)), none]) (by simp [eqY_int, neY_int, max2_ap, min2_ap, DF.R.bind_ok, DF.R.bindS_ok, DF.R.bindN_ok, DF.SR.bind_nx, DF.SR.bind_ret, ofO, ths, setV, setF, free, set2, set3, fnRes, startE, startC, outs, argsD, putD, ioIx, isMu, look, DF.muL, ltD_ap, leD_ap, gtD_ap, geD_ap, addD_ap, subD_ap, negD_ap, absD_ap, intD_ap, intD_apB, eq_int, ne_int, ixD, L2.atI, L2.ixN, lenD, gcdD, max2D, min2D, isiD, tyN, k_tt, len_pd, k2, k3]) ?_
  have lc : dLc (sSeq (dVar 0)) (setV 1) (tYesB) (dV (dCal2 3 F_is_between (rVal (dVar 1) (rVal (dC (.int 1)) (rVal (dC (.int 60)) (rNil)))))) [1] [some (.val (pd l)), none] = .ok [some (.val (pd l)), none] (.lst (l.map fun _ => D.bl true)) := by
    refine lc_ap (ρ' := [some (.val (pd l)), none]) (l := l.map D.int) rfl rfl ?_
    have := lc_pure (t := setV 1) (c := tYesB) (f := dV (dCal2 3 F_is_between (rVal (dVar 1) (rVal (dC (.int 1)) (rVal (dC (.int 60)) (rNil)))))) (vs := [1]) (ρ := [some (.val (pd l)), none]) D.int (fun _ => true) (fun x => .bl true) l [] (by simp; omega) (fun x hx => by
      have q := hb x hx
      have eb := e_between x 1 60 (by omega)
      refine ⟨[some (.val (pd l)), some (.val (.int x))], _, rfl, rfl, fun z => (by cases z), fun _ => ⟨[some (.val (pd l)), some (.val (.int x))], by simp [eqY_int, neY_int, max2_ap, min2_ap, DF.R.bind_ok, DF.R.bindS_ok, DF.R.bindN_ok, DF.SR.bind_nx, DF.SR.bind_ret, ofO, ths, setV, setF, free, set2, set3, fnRes, startE, startC, outs, argsD, putD, ioIx, isMu, look, DF.muL, ltD_ap, leD_ap, gtD_ap, geD_ap, addD_ap, subD_ap, negD_ap, absD_ap, intD_ap, intD_apB, eq_int, ne_int, ixD, L2.atI, L2.ixN, lenD, gcdD, max2D, min2D, eb, q.1, q.2], rfl, rfl⟩⟩)
    rw [show wipeE [some (.val (pd l)), none] [1] = [some (.val (pd l)), none] from rfl, this, List.filter_eq_self.mpr (fun _ _ => rfl)]
    simp
  refine wp_rt (ρ' := [some (.val (pd l)), none]) (fr := false) (d := .bl true) ?_ ⟨[], rfl, rfl⟩
  rw [dRet_ap, dCal_ap, aCons_ap, oD_ap, lc]
  simp [eqY_int, neY_int, max2_ap, min2_ap, DF.R.bind_ok, DF.R.bindS_ok, DF.R.bindN_ok, DF.SR.bind_nx, DF.SR.bind_ret, ofO, ths, setV, setF, free, set2, set3, fnRes, startE, startC, outs, argsD, putD, ioIx, isMu, look, DF.muL, ltD_ap, leD_ap, gtD_ap, geD_ap, addD_ap, subD_ap, negD_ap, absD_ap, intD_ap, intD_apB, eq_int, ne_int, ixD, L2.atI, L2.ixN, lenD, gcdD, max2D, min2D, all_true]
end K14

namespace K14
open PySem DF
/-! ### counted -/
def cM (T B : List Int) (m : Int) : Int := (T.count m : Int) - (B.count m : Int)
abbrev coE (T B : List Int) (ks : List Int) (c : Int → Int) (c3 : Option D) : DEnv := [some (.val (pd T)), some (.val (pd B)), some (.mu false (.dic (mD ks c))), c3.map Cell.val]
theorem co1 (T B ks : List Int) (c : Int → Int) (x : Int) (h : ks.length < 16000000) : (dSetK 2 (dVar 3) (dBin addD (oD (dGet2 (oVar 2) (dVar 3) (dC (.int 0)))) (oD (dC (.int 1))))) (coE T B ks c (some (.int x))) = .nx (coE T B (insK ks x) (insC c x (val0 ks c x + 1)) (some (.int x))) := by
  have e1 := get_mD ks c x
  have e2 := insD_mD ks c x (val0 ks c x + 1)
  have e3 : (mD ks c).length < 16000000 := by rw [mD_len]; exact h
  generalize val0 ks c x = v at *
  simp [eqY_int, neY_int, max2_ap, min2_ap, DF.R.bind_ok, DF.R.bindS_ok, DF.R.bindN_ok, DF.SR.bind_nx, DF.SR.bind_ret, ofO, ths, setV, setF, free, set2, set3, fnRes, startE, startC, outs, argsD, putD, ioIx, isMu, look, DF.muL, ltD_ap, leD_ap, gtD_ap, geD_ap, addD_ap, subD_ap, negD_ap, absD_ap, intD_ap, intD_apB, eq_int, ne_int, ixD, L2.atI, L2.ixN, lenD, gcdD, max2D, min2D, DF.muD, keyOf, e1, e2, e3]
theorem co2 (T B ks : List Int) (c : Int → Int) (x : Int) (h : ks.length < 16000000) : (dSetK 2 (dVar 3) (dBin subD (oD (dGet2 (oVar 2) (dVar 3) (dC (.int 0)))) (oD (dC (.int 1))))) (coE T B ks c (some (.int x))) = .nx (coE T B (insK ks x) (insC c x (val0 ks c x - 1)) (some (.int x))) := by
  have e1 := get_mD ks c x
  have e2 := insD_mD ks c x (val0 ks c x - 1)
  have e3 : (mD ks c).length < 16000000 := by rw [mD_len]; exact h
  generalize val0 ks c x = v at *
  simp [eqY_int, neY_int, max2_ap, min2_ap, DF.R.bind_ok, DF.R.bindS_ok, DF.R.bindN_ok, DF.SR.bind_nx, DF.SR.bind_ret, ofO, ths, setV, setF, free, set2, set3, fnRes, startE, startC, outs, argsD, putD, ioIx, isMu, look, DF.muL, ltD_ap, leD_ap, gtD_ap, geD_ap, addD_ap, subD_ap, negD_ap, absD_ap, intD_ap, intD_apB, eq_int, ne_int, ixD, L2.atI, L2.ixN, lenD, gcdD, max2D, min2D, DF.muD, keyOf, e1, e2, e3]
theorem count_cons' (x m : Int) (r : List Int) : ((x :: r).count m : Int) = (r.count m : Int) + (if m = x then 1 else 0) := by
  rw [List.count_cons]
  by_cases h : m = x
  · subst h; simp
  · have : ¬ (x == m) = true := by simpa using fun z : x = m => h z.symm
    simp [this, h]
theorem e_counted (T B : List Int) (lT : T.length ≤ 8) (lB : B.length ≤ 8) : ∃ ks : List Int, ks.Nodup ∧ ks.Pairwise (· ≤ ·) ∧ (∀ m, m ∈ ks ↔ cM T B m ≠ 0) ∧ ks.length ≤ 16 ∧ F_counted [(false, pd T), (false, pd B)] = .ret false (.dic (mD ks (cM T B))) [] := by
  refine fn_of (P := fun R => ∃ ks : List Int, ks.Nodup ∧ ks.Pairwise (· ≤ ·) ∧ (∀ m, m ∈ ks ↔ cM T B m ≠ 0) ∧ ks.length ≤ 16 ∧ R = .ret false (.dic (mD ks (cM T B))) []) ?_
  unfold B_counted
  rw [show startE 4 [(false, pd T), (false, pd B)] = [some (.val (pd T)), some (.val (pd B)), none, none] from rfl]
  refine wp_seq (ρ' := coE T B [] (fun _ => 0) none) (by simp [eqY_int, neY_int, max2_ap, min2_ap, DF.R.bind_ok, DF.R.bindS_ok, DF.R.bindN_ok, DF.SR.bind_nx, DF.SR.bind_ret, ofO, ths, setV, setF, free, set2, set3, fnRes, startE, startC, outs, argsD, putD, ioIx, isMu, look, DF.muL, ltD_ap, leD_ap, gtD_ap, geD_ap, addD_ap, subD_ap, negD_ap, absD_ap, intD_ap, intD_apB, eq_int, ne_int, ixD, L2.atI, L2.ixN, lenD, gcdD, max2D, min2D]; rfl) ?_
  refine wp_seqW (Q := fun ρ => ∃ ks c c3, ρ = coE T B ks c c3 ∧ ks.Nodup ∧ ks.length ≤ 8 ∧ ∀ m, val0 ks c m = T.count m) ?_ ?_
  · refine wp_forS (ρ' := coE T B [] (fun _ => 0) none) (l := T.map D.int) rfl ?_
    refine wp_for D.int (fun r ρ => ∃ ks c c3, ρ = coE T B ks c c3 ∧ ks.Nodup ∧ ks.length + r.length ≤ 8 ∧ ∀ m, val0 ks c m + r.count m = T.count m) ?_ ?_ T _ ⟨[], fun _ => 0, none, rfl, List.nodup_nil, by simpa using lT, fun m => by simp [val0]⟩
    · rintro x r ρ ⟨ks, c, c3, rfl, h1, h2, h3⟩
      rw [List.length_cons] at h2
      refine ⟨coE T B ks c (some (.int x)), by cases c3 <;> rfl, wp_nx (co1 T B ks c x (by omega)) ⟨_, _, _, rfl, insK_nodup h1, by have := insK_len ks x; omega, fun m => ?_⟩⟩
      have q := h3 m
      rw [count_cons'] at q
      rw [val0_ins]
      by_cases hm : m = x
      · subst hm; rw [if_pos rfl] at q ⊢; omega
      · rw [if_neg hm] at q ⊢; omega
    · rintro ρ ⟨ks, c, c3, rfl, h1, h2, h3⟩
      exact ⟨ks, c, c3, rfl, h1, by simpa using h2, fun m => by have := h3 m; simpa using this⟩
  rintro ρ ⟨ks, c, c3, rfl, h1, h2, h3⟩
  refine wp_seqW (Q := fun ρ => ∃ ks c c3, ρ = coE T B ks c c3 ∧ ks.Nodup ∧ ks.length ≤ 16 ∧ ∀ m, val0 ks c m = cM T B m) ?_ ?_
  · refine wp_forS (ρ' := coE T B ks c c3) (l := B.map D.int) rfl ?_
    refine wp_for D.int (fun r ρ => ∃ ks c c3, ρ = coE T B ks c c3 ∧ ks.Nodup ∧ ks.length + r.length ≤ 16 ∧ ∀ m, val0 ks c m - r.count m = cM T B m) ?_ ?_ B _ ⟨ks, c, c3, rfl, h1, by omega, fun m => by rw [h3 m]; rfl⟩
    · rintro x r ρ ⟨ks, c, c3, rfl, h1, h2, h3⟩
      rw [List.length_cons] at h2
      refine ⟨coE T B ks c (some (.int x)), by cases c3 <;> rfl, wp_nx (co2 T B ks c x (by omega)) ⟨_, _, _, rfl, insK_nodup h1, by have := insK_len ks x; omega, fun m => ?_⟩⟩
      have q := h3 m
      rw [count_cons'] at q
      rw [val0_ins]
      by_cases hm : m = x
      · subst hm; rw [if_pos rfl] at q ⊢; omega
      · rw [if_neg hm] at q ⊢; omega
    · rintro ρ ⟨ks, c, c3, rfl, h1, h2, h3⟩
      exact ⟨ks, c, c3, rfl, h1, by simpa using h2, fun m => by have := h3 m; simpa using this⟩
  rintro ρ ⟨ks, c, c3, rfl, h1, h2, h3⟩
  have nd : (isort ks).Nodup := (isort_perm ks).nodup_iff.mpr h1
  have hc : ∀ m ∈ ks, c m = cM T B m := fun m hm => by
    have := h3 m
    unfold val0 at this
    rwa [if_pos hm] at this
  have es : sSeq (dMk sortO (oVar 2)) (coE T B ks c c3) = .ok (coE T B ks c c3) ((isort ks).map D.int) := by
    have e1 := mD_sort ks c (by omega)
    generalize isort ks = m0 at *
    cases c3 <;> simp [eqY_int, neY_int, max2_ap, min2_ap, DF.R.bind_ok, DF.R.bindS_ok, DF.R.bindN_ok, DF.SR.bind_nx, DF.SR.bind_ret, ofO, ths, setV, setF, free, set2, set3, fnRes, startE, startC, outs, argsD, putD, ioIx, isMu, look, DF.muL, ltD_ap, leD_ap, gtD_ap, geD_ap, addD_ap, subD_ap, negD_ap, absD_ap, intD_ap, intD_apB, eq_int, ne_int, ixD, L2.atI, L2.ixN, lenD, gcdD, max2D, min2D, e1, seqOf]
  have go := dc_pick (t := setV 3) (b := dTst (dBin neY (oD (dBin ixK (oVar 2) (oVar 3))) (oD (dC (.int 0))))) (fk := dVar 3) (fv := dBin ixK (oVar 2) (oVar 3)) (vs := [3]) (ρ := coE T B ks c none) c (fun x => !decide (c x = 0)) (isort ks) [] (by simpa using nd) (by have := (isort_perm ks).length_eq; simp; omega) (fun x hx => by
    have hk : x ∈ ks := (isort_perm ks).mem_iff.mp hx
    have ix := mD_ix ks c x hk
    refine ⟨coE T B ks c (some (.int x)), coE T B ks c (some (.int x)), rfl, ?_, fun _ => ⟨rfl, rfl⟩, fun _ => ⟨rfl, ?_, rfl, rfl⟩⟩
    · simp [eqY_int, neY_int, max2_ap, min2_ap, DF.R.bind_ok, DF.R.bindS_ok, DF.R.bindN_ok, DF.SR.bind_nx, DF.SR.bind_ret, ofO, ths, setV, setF, free, set2, set3, fnRes, startE, startC, outs, argsD, putD, ioIx, isMu, look, DF.muL, ltD_ap, leD_ap, gtD_ap, geD_ap, addD_ap, subD_ap, negD_ap, absD_ap, intD_ap, intD_apB, eq_int, ne_int, ixD, L2.atI, L2.ixN, lenD, gcdD, max2D, min2D, ix]
    · simp [eqY_int, neY_int, max2_ap, min2_ap, DF.R.bind_ok, DF.R.bindS_ok, DF.R.bindN_ok, DF.SR.bind_nx, DF.SR.bind_ret, ofO, ths, setV, setF, free, set2, set3, fnRes, startE, startC, outs, argsD, putD, ioIx, isMu, look, DF.muL, ltD_ap, leD_ap, gtD_ap, geD_ap, addD_ap, subD_ap, negD_ap, absD_ap, intD_ap, intD_apB, eq_int, ne_int, ixD, L2.atI, L2.ixN, lenD, gcdD, max2D, min2D, ix])
  have hw : wipeE (coE T B ks c c3) [3] = coE T B ks c none := by cases c3 <;> rfl
  have hn : noMu (coE T B ks c c3) [3] = true := by cases c3 <;> rfl
  have ed := dc_ap es hn (hw ▸ go)
  have mm : ∀ m, m ∈ (isort ks).filter (fun x => !decide (c x = 0)) ↔ cM T B m ≠ 0 := fun m => by
    rw [List.mem_filter, (isort_perm ks).mem_iff]
    have q := h3 m
    unfold val0 at q
    constructor
    · rintro ⟨a, b⟩
      rw [if_pos a] at q
      rw [← q]
      simpa using b
    · intro hne
      by_cases a : m ∈ ks
      · rw [if_pos a] at q
        exact ⟨a, by rw [q]; simpa using hne⟩
      · rw [if_neg a] at q
        exact absurd q.symm hne
  refine wp_rt (ρ' := coE T B ks c none) (fr := false) (d := .dic (mD ((isort ks).filter fun x => !decide (c x = 0)) c)) ?_ ⟨[], rfl, (isort ks).filter fun x => !decide (c x = 0), nd.filter _, (isort_sorted ks).filter _, mm, ?_, ?_⟩
  · rw [dRet_ap, ed]; rfl
  · have := List.length_filter_le (fun x => !decide (c x = 0)) (isort ks)
    have := (isort_perm ks).length_eq
    omega
  · rw [mD_congr fun m hm => hc m ((isort_perm ks).mem_iff.mp (List.mem_filter.mp hm).1)]
end K14

namespace K14
open PySem DF
/-! ### sums of counts, common multiples -/
theorem sum_ind {ks : List Int} (h : ks.Nodup) (x : Int) : (ks.map fun k => if k = x then (1 : Int) else 0).sum ≤ 1 := by
  induction ks with
  | nil => simp
  | cons k ks ih =>
    have hd := List.nodup_cons.mp h
    have q := ih hd.2
    rw [List.map_cons, List.sum_cons]
    by_cases hk : k = x
    · have z : (ks.map fun k => if k = x then (1 : Int) else 0).sum = 0 := by
        have : ks.map (fun k => if k = x then (1 : Int) else 0) = ks.map fun _ => (0 : Int) := List.map_congr_left fun m hm => by
          rw [if_neg]; intro e; exact hd.1 (by rw [hk, ← e]; exact hm)
        rw [this]
        clear this ih q hd h
        induction ks with
        | nil => rfl
        | cons a l ih => simpa using ih
      rw [if_pos hk, z]; decide
    · rw [if_neg hk]; omega
theorem sum_add (ks : List Int) (f g : Int → Int) : (ks.map fun k => f k + g k).sum = (ks.map f).sum + (ks.map g).sum := by
  induction ks with
  | nil => rfl
  | cons k ks ih => simp only [List.map_cons, List.sum_cons, ih]; omega
theorem sum_count {ks : List Int} (h : ks.Nodup) : ∀ T : List Int, (ks.map fun k => (T.count k : Int)).sum ≤ T.length
  | [] => by
    have : (ks.map fun k => (([] : List Int).count k : Int)).sum = 0 := by
      clear h
      induction ks with
      | nil => rfl
      | cons a l ih => simpa using ih
    rw [this]; exact Int.le_refl _
  | x :: T => by
    have ih := sum_count h T
    have e : (ks.map fun k => ((x :: T).count k : Int)) = ks.map fun k => (T.count k : Int) + (if k = x then 1 else 0) := List.map_congr_left fun m _ => count_cons' x m T
    rw [e, sum_add]
    have := sum_ind h x
    rw [List.length_cons]
    omega
theorem sum_pos (f c : Int → Int) (hf : ∀ k, 0 ≤ f k) (h : ∀ k, c k ≤ f k) : ∀ ks : List Int, ((ks.map c).filter fun v => decide (0 < v)).sum ≤ (ks.map f).sum
  | [] => Int.le_refl _
  | k :: ks => by
    have ih := sum_pos f c hf h ks
    have h1 := hf k
    have h2 := h k
    rw [List.map_cons, List.map_cons, List.sum_cons]
    by_cases hc : 0 < c k
    · rw [List.filter_cons_of_pos (by simpa using hc), List.sum_cons]; omega
    · rw [List.filter_cons_of_neg (by simpa using hc)]; omega
theorem dvd_lcmL : ∀ (l : List Int) (f : Nat), f ∣ lcmL f l ∧ ∀ x ∈ l, x.natAbs ∣ lcmL f l
  | [], f => ⟨Nat.dvd_refl _, by simp⟩
  | y :: l, f => by
    have e : lcmL f (y :: l) = lcmL (Nat.lcm f y.natAbs) l := rfl
    rw [e]
    obtain ⟨h1, h2⟩ := dvd_lcmL l (Nat.lcm f y.natAbs)
    refine ⟨Nat.dvd_trans (Nat.dvd_lcm_left _ _) h1, fun x hx => ?_⟩
    rcases List.mem_cons.mp hx with rfl | hx
    · exact Nat.dvd_trans (Nat.dvd_lcm_right _ _) h1
    · exact h2 x hx
theorem lcmL_dvd {N : Nat} : ∀ (l : List Int) (f : Nat), f ∣ N → (∀ x ∈ l, x.natAbs ∣ N) → lcmL f l ∣ N
  | [], f, h, _ => h
  | y :: l, f, h, h2 => by
    have e : lcmL f (y :: l) = lcmL (Nat.lcm f y.natAbs) l := rfl
    rw [e]
    exact lcmL_dvd l _ (Nat.lcm_dvd h (h2 y List.mem_cons_self)) fun x hx => h2 x (List.mem_cons_of_mem _ hx)
theorem lcmL_pos : ∀ (l : List Int) (f : Nat), 0 < f → (∀ x ∈ l, 1 ≤ x) → 0 < lcmL f l
  | [], f, h, _ => h
  | y :: l, f, h, h2 => by
    have e : lcmL f (y :: l) = lcmL (Nat.lcm f y.natAbs) l := rfl
    rw [e]
    exact lcmL_pos l _ (Nat.lcm_pos h (by have := h2 y List.mem_cons_self; omega)) fun x hx => h2 x (List.mem_cons_of_mem _ hx)
/-! ### sides_of -/
theorem mul_rep (k n : Int) (h : -8 ≤ n ∧ n ≤ 8) : mulD (.lst [.int k]) (.int n) = some (ld (List.replicate n.toNat k)) := by
  have e : repL (.lst [.int k]) (.int n) = some (ld (List.replicate n.toNat k)) := by
    show (if n < 2 ^ 62 ∧ -(2 ^ 62) ≤ n ∧ ([D.int k]).length * n.toNat ≤ 16000000 then some (D.lst (List.replicate n.toNat [D.int k]).flatten) else none) = _
    rw [if_pos ⟨by omega, by omega, by simp; omega⟩]
    simp
  show (match mulI (.lst [.int k]) (.int n) with | some z => some z | none => orD repL repT (.lst [.int k]) (.int n)) = _
  show (match repL (.lst [.int k]) (.int n) with | some z => some z | none => repT (.lst [.int k]) (.int n)) = _
  rw [e]
def tl (ks : List Int) (c : Int → Int) : List Int := ks.flatMap fun k => List.replicate (c k).toNat k
def bl (ks : List Int) (c : Int → Int) : List Int := ks.flatMap fun k => List.replicate (-(c k)).toNat k
abbrev siE (ks : List Int) (c : Int → Int) (a b : List Int) (c3 : Option D) : DEnv := [some (.val (.dic (mD ks c))), some (.val (ld a)), some (.val (ld b)), c3.map Cell.val]
theorem si1 (ks : List Int) (c : Int → Int) (a b : List Int) (k : Int) (hk : k ∈ ks) (h : -8 ≤ c k ∧ c k ≤ 8) (ha : a.length ≤ 1000) (hb : b.length ≤ 1000) : (dSeq (dSet 1 (dBin addD (oVar 1) (oD (dBin mulD (oD (dLst (vCons (dVar 3) (vNil)))) (oD (dBin ixK (oVar 0) (oVar 3)))))))
    (dSet 2 (dBin addD (oVar 2) (oD (dBin mulD (oD (dLst (vCons (dVar 3) (vNil)))) (oD (dUn negD (oD (dBin ixK (oVar 0) (oVar 3)))))))))) (siE ks c a b (some (.int k))) = .nx (siE ks c (a ++ List.replicate (c k).toNat k) (b ++ List.replicate (-(c k)).toNat k) (some (.int k))) := by
  have e1 := mD_ix ks c k hk
  have e2 := mul_rep k (c k) h
  have e3 := mul_rep k (-(c k)) (by omega)
  have a1 := add_ll (a.map D.int) ((List.replicate (c k).toNat k).map D.int) (by simp; omega)
  have a2 := add_ll (b.map D.int) ((List.replicate (-(c k)).toNat k).map D.int) (by simp; omega)
  rw [← List.map_append] at a1 a2
  generalize List.replicate (c k).toNat k = u at *
  generalize List.replicate (-(c k)).toNat k = v at *
  generalize c k = z at *
  simp only [dSeq_ap, dSet_ap, dBin_ap, eqY_int, neY_int, max2_ap, min2_ap, DF.R.bind_ok, DF.R.bindS_ok, DF.R.bindN_ok, DF.SR.bind_nx, DF.SR.bind_ret, ofO, ths, setV, setF, free, set2, set3, fnRes, startE, startC, outs, argsD, putD, ioIx, isMu, look, DF.muL, ltD_ap, leD_ap, gtD_ap, geD_ap, addD_ap, subD_ap, negD_ap, absD_ap, intD_ap, intD_apB, eq_int, ne_int, ixD, L2.atI, L2.ixN, lenD, gcdD, max2D, min2D]
  simp [eqY_int, neY_int, max2_ap, min2_ap, DF.R.bind_ok, DF.R.bindS_ok, DF.R.bindN_ok, DF.SR.bind_nx, DF.SR.bind_ret, ofO, ths, setV, setF, free, set2, set3, fnRes, startE, startC, outs, argsD, putD, ioIx, isMu, look, DF.muL, ltD_ap, leD_ap, gtD_ap, geD_ap, addD_ap, subD_ap, negD_ap, absD_ap, intD_ap, intD_apB, eq_int, ne_int, ixD, L2.atI, L2.ixN, lenD, gcdD, max2D, min2D, e1, e2, e3, a1, a2]
theorem e_sides (ks : List Int) (c : Int → Int) (hs : ks.Pairwise (· ≤ ·)) (hl : ks.length ≤ 16) (hc : ∀ k ∈ ks, -8 ≤ c k ∧ c k ≤ 8) : F_sides_of [(false, .dic (mD ks c))] = .ret false (.tup [pd (tl ks c), pd (bl ks c)]) [] := by
  refine fn_of (P := fun R => R = .ret false (.tup [pd (tl ks c), pd (bl ks c)]) []) ?_
  unfold B_sides_of
  rw [show startE 4 [(false, .dic (mD ks c))] = [some (.val (.dic (mD ks c))), none, none, none] from rfl]
  refine wp_seq (ρ' := [some (.val (.dic (mD ks c))), some (.val (ld [])), none, none]) (by simp [eqY_int, neY_int, max2_ap, min2_ap, DF.R.bind_ok, DF.R.bindS_ok, DF.R.bindN_ok, DF.SR.bind_nx, DF.SR.bind_ret, ofO, ths, setV, setF, free, set2, set3, fnRes, startE, startC, outs, argsD, putD, ioIx, isMu, look, DF.muL, ltD_ap, leD_ap, gtD_ap, geD_ap, addD_ap, subD_ap, negD_ap, absD_ap, intD_ap, intD_apB, eq_int, ne_int, ixD, L2.atI, L2.ixN, lenD, gcdD, max2D, min2D]) ?_
  refine wp_seq (ρ' := siE ks c [] [] none) (by simp [eqY_int, neY_int, max2_ap, min2_ap, DF.R.bind_ok, DF.R.bindS_ok, DF.R.bindN_ok, DF.SR.bind_nx, DF.SR.bind_ret, ofO, ths, setV, setF, free, set2, set3, fnRes, startE, startC, outs, argsD, putD, ioIx, isMu, look, DF.muL, ltD_ap, leD_ap, gtD_ap, geD_ap, addD_ap, subD_ap, negD_ap, absD_ap, intD_ap, intD_apB, eq_int, ne_int, ixD, L2.atI, L2.ixN, lenD, gcdD, max2D, min2D]) ?_
  refine wp_seqW (Q := fun ρ => ∃ c3, ρ = siE ks c (tl ks c) (bl ks c) c3) ?_ ?_
  · have es : sSeq (dMk sortO (oVar 0)) (siE ks c [] [] none) = .ok (siE ks c [] [] none) (ks.map D.int) := by
      have e1 := mD_sort ks c (by omega)
      rw [← isort_of (List.Perm.refl ks) hs] at e1
      simp [eqY_int, neY_int, max2_ap, min2_ap, DF.R.bind_ok, DF.R.bindS_ok, DF.R.bindN_ok, DF.SR.bind_nx, DF.SR.bind_ret, ofO, ths, setV, setF, free, set2, set3, fnRes, startE, startC, outs, argsD, putD, ioIx, isMu, look, DF.muL, ltD_ap, leD_ap, gtD_ap, geD_ap, addD_ap, subD_ap, negD_ap, absD_ap, intD_ap, intD_apB, eq_int, ne_int, ixD, L2.atI, L2.ixN, lenD, gcdD, max2D, min2D, e1, seqOf]
    refine wp_forS es ?_
    refine wp_for D.int (fun r ρ => ∃ a b c3, ρ = siE ks c a b c3 ∧ a ++ tl r c = tl ks c ∧ b ++ bl r c = bl ks c ∧ a.length + 8 * r.length ≤ 128 ∧ b.length + 8 * r.length ≤ 128 ∧ ∀ k ∈ r, k ∈ ks) ?_ ?_ ks _ ⟨[], [], none, rfl, rfl, rfl, by simp; omega, by simp; omega, fun k h => h⟩
    · rintro x r ρ ⟨a, b, c3, rfl, h1, h2, h3, h4, h5⟩
      rw [List.length_cons] at h3 h4
      have hk := h5 x List.mem_cons_self
      have hx := hc x hk
      refine ⟨siE ks c a b (some (.int x)), by cases c3 <;> rfl, wp_nx (si1 ks c a b x hk hx (by omega) (by omega)) ⟨_, _, _, rfl, ?_, ?_, ?_, ?_, fun y hy => h5 y (List.mem_cons_of_mem _ hy)⟩⟩
      · rw [← h1, List.append_assoc]; rfl
      · rw [← h2, List.append_assoc]; rfl
      · rw [List.length_append, List.length_replicate]; omega
      · rw [List.length_append, List.length_replicate]; omega
    · rintro ρ ⟨a, b, c3, rfl, h1, h2, _⟩
      refine ⟨c3, ?_⟩
      rw [← h1, ← h2]
      simp [tl, bl]
  · rintro ρ ⟨c3, rfl⟩
    refine wp_rt (ρ' := siE ks c (tl ks c) (bl ks c) c3) (fr := false) (d := .tup [pd (tl ks c), pd (bl ks c)]) ?_ ⟨[], rfl, rfl⟩
    generalize tl ks c = u at *
    generalize bl ks c = v at *
    cases c3 <;> simp [eqY_int, neY_int, max2_ap, min2_ap, DF.R.bind_ok, DF.R.bindS_ok, DF.R.bindN_ok, DF.SR.bind_nx, DF.SR.bind_ret, ofO, ths, setV, setF, free, set2, set3, fnRes, startE, startC, outs, argsD, putD, ioIx, isMu, look, DF.muL, ltD_ap, leD_ap, gtD_ap, geD_ap, addD_ap, subD_ap, negD_ap, absD_ap, intD_ap, intD_apB, eq_int, ne_int, ixD, L2.atI, L2.ixN, lenD, gcdD, max2D, min2D, tupD_ld]
end K14

namespace K14
open PySem DF
theorem maxL_le (m : Int) : ∀ (l : List Int) (i : Int), i ≤ m → (∀ x ∈ l, x ≤ m) → maxL i l ≤ m
  | [], i, h, _ => h
  | y :: l, i, h, hx => by
    have e : maxL i (y :: l) = maxL (if i < y then y else i) l := rfl
    have hy := hx y List.mem_cons_self
    rw [e]
    exact maxL_le m l _ (by split <;> omega) fun x h => hx x (List.mem_cons_of_mem _ h)
/-- numbers picked and told -/
theorem pick_comp {dd : D} {L : List Int} (hl : L.length ≤ 1000) {t : DEnv → DF.R Bool} {f : DEnv → DF.R D} (keep : Int → Bool) (φ : Int → Int)
    (ht : ∀ x : Int, t [some (.val dd), some (.val (ld L)), some (.val (.int x))] = .ok [some (.val dd), some (.val (ld L)), some (.val (.int x))] (keep x))
    (hf : ∀ x : Int, f [some (.val dd), some (.val (ld L)), some (.val (.int x))] = .ok [some (.val dd), some (.val (ld L)), some (.val (.int x))] (.int (φ x))) :
    dLc (sSeq (dVar 1)) (setV 2) t f [2] [some (.val dd), some (.val (ld L)), none] = .ok [some (.val dd), some (.val (ld L)), none] (ld ((L.filter keep).map φ)) := by
  refine lc_ap (ρ' := [some (.val dd), some (.val (ld L)), none]) (l := L.map D.int) rfl rfl ?_
  have := lc_pure (t := setV 2) (c := t) (f := f) (vs := [2]) (ρ := [some (.val dd), some (.val (ld L)), none]) D.int keep (fun x => .int (φ x)) L [] (by simp; omega) (fun x hx => ⟨[some (.val dd), some (.val (ld L)), some (.val (.int x))], [some (.val dd), some (.val (ld L)), some (.val (.int x))], rfl, ht x, fun _ => ⟨rfl, rfl⟩, fun _ => ⟨[some (.val dd), some (.val (ld L)), some (.val (.int x))], hf x, rfl, rfl⟩⟩)
  rw [show wipeE [some (.val dd), some (.val (ld L)), none] [2] = [some (.val dd), some (.val (ld L)), none] from rfl, this]
  simp
theorem e_tell (ks : List Int) (c : Int → Int) (hne : ks ≠ []) (hl : ks.length ≤ 16) (hb : ∀ k ∈ ks, 1 ≤ k ∧ k ≤ 60) (h1 : ((ks.map c).filter fun v => decide (0 < v)).sum ≤ 8) (h2 : (((ks.map c).filter fun v => decide (v < 0)).map fun v => -v).sum ≤ 8) (h3 : lcmL 1 ks ≤ 2520) :
    F_does_tell_row [(false, .dic (mD ks c))] = .ret false (.bl true) [] := by
  cases ks with
  | nil => exact absurd rfl hne
  | cons z zs =>
    refine fn_of (P := fun R => R = .ret false (.bl true) []) ?_
    unfold B_does_tell_row
    rw [show startE 3 [(false, .dic (mD (z :: zs) c))] = [some (.val (.dic (mD (z :: zs) c))), none, none] from rfl]
    have em := mD_max z zs c
    have hm : ¬ (60 < maxL z zs) := by
      have := maxL_le 60 zs z (hb z List.mem_cons_self).2 fun x hx => (hb x (List.mem_cons_of_mem _ hx)).2
      omega
    have ee : (mD (z :: zs) c).isEmpty = false := rfl
    have ev := mD_vals (z :: zs) c
    have et := mD_tup (z :: zs) c
    have ec : F_common_multiple [(false, .tup ((z :: zs).map D.int))] = .ret false (.int (lcmL 1 (z :: zs) : Nat)) [] := e_commul (z :: zs) (by simp) (by omega) hb
    generalize (z :: zs) = ks at *
    generalize mD ks c = dd at *
    refine wp_seq (ρ' := [some (.val (.dic dd)), none, none]) (by simp [eqY_int, neY_int, max2_ap, min2_ap, DF.R.bind_ok, DF.R.bindS_ok, DF.R.bindN_ok, DF.SR.bind_nx, DF.SR.bind_ret, ofO, ths, setV, setF, free, set2, set3, fnRes, startE, startC, outs, argsD, putD, ioIx, isMu, look, DF.muL, ltD_ap, leD_ap, gtD_ap, geD_ap, addD_ap, subD_ap, negD_ap, absD_ap, intD_ap, intD_apB, eq_int, ne_int, ixD, L2.atI, L2.ixN, lenD, gcdD, max2D, min2D, em, hm, ee]) ?_
    refine wp_seq (ρ' := [some (.val (.dic dd)), some (.val (ld (ks.map c))), none]) (by simp [eqY_int, neY_int, max2_ap, min2_ap, DF.R.bind_ok, DF.R.bindS_ok, DF.R.bindN_ok, DF.SR.bind_nx, DF.SR.bind_ret, ofO, ths, setV, setF, free, set2, set3, fnRes, startE, startC, outs, argsD, putD, ioIx, isMu, look, DF.muL, ltD_ap, leD_ap, gtD_ap, geD_ap, addD_ap, subD_ap, negD_ap, absD_ap, intD_ap, intD_apB, eq_int, ne_int, ixD, L2.atI, L2.ixN, lenD, gcdD, max2D, min2D, ev]) ?_
    have lk : (ks.map c).length ≤ 1000 := by rw [List.length_map]; omega
    have c1 := pick_comp (dd := .dic dd) (L := ks.map c) lk (t := dTst (dBin gtD (oVar 2) (oD (dC (.int 0))))) (f := dVar 2) (fun v => decide (0 < v)) (fun v => v) (fun x => by simp [eqY_int, neY_int, max2_ap, min2_ap, DF.R.bind_ok, DF.R.bindS_ok, DF.R.bindN_ok, DF.SR.bind_nx, DF.SR.bind_ret, ofO, ths, setV, setF, free, set2, set3, fnRes, startE, startC, outs, argsD, putD, ioIx, isMu, look, DF.muL, ltD_ap, leD_ap, gtD_ap, geD_ap, addD_ap, subD_ap, negD_ap, absD_ap, intD_ap, intD_apB, eq_int, ne_int, ixD, L2.atI, L2.ixN, lenD, gcdD, max2D, min2D]) (fun x => rfl)
    have c2 := pick_comp (dd := .dic dd) (L := ks.map c) lk (t := dTst (dBin ltD (oVar 2) (oD (dC (.int 0))))) (f := dUn negD (oVar 2)) (fun v => decide (v < 0)) (fun v => -v) (fun x => by simp [eqY_int, neY_int, max2_ap, min2_ap, DF.R.bind_ok, DF.R.bindS_ok, DF.R.bindN_ok, DF.SR.bind_nx, DF.SR.bind_ret, ofO, ths, setV, setF, free, set2, set3, fnRes, startE, startC, outs, argsD, putD, ioIx, isMu, look, DF.muL, ltD_ap, leD_ap, gtD_ap, geD_ap, addD_ap, subD_ap, negD_ap, absD_ap, intD_ap, intD_apB, eq_int, ne_int, ixD, L2.atI, L2.ixN, lenD, gcdD, max2D, min2D]) (fun x => by simp [eqY_int, neY_int, max2_ap, min2_ap, DF.R.bind_ok, DF.R.bindS_ok, DF.R.bindN_ok, DF.SR.bind_nx, DF.SR.bind_ret, ofO, ths, setV, setF, free, set2, set3, fnRes, startE, startC, outs, argsD, putD, ioIx, isMu, look, DF.muL, ltD_ap, leD_ap, gtD_ap, geD_ap, addD_ap, subD_ap, negD_ap, absD_ap, intD_ap, intD_apB, eq_int, ne_int, ixD, L2.atI, L2.ixN, lenD, gcdD, max2D, min2D])
    rw [List.map_id'] at c1
    generalize ((ks.map c).filter fun v => decide (0 < v)) = U1 at *
    generalize ((ks.map c).filter fun v => decide (v < 0)).map (fun v => -v) = U2 at *
    refine wp_seq (ρ' := [some (.val (.dic dd)), some (.val (ld (ks.map c))), none]) ?_ ?_
    · have q : ¬ 8 < U1.sum := by omega
      rw [dIf_ap, dTst_ap, dBin_ap, oD_ap, dCal_ap, aCons_ap, oD_ap, c1]
      simp [eqY_int, neY_int, max2_ap, min2_ap, DF.R.bind_ok, DF.R.bindS_ok, DF.R.bindN_ok, DF.SR.bind_nx, DF.SR.bind_ret, ofO, ths, setV, setF, free, set2, set3, fnRes, startE, startC, outs, argsD, putD, ioIx, isMu, look, DF.muL, ltD_ap, leD_ap, gtD_ap, geD_ap, addD_ap, subD_ap, negD_ap, absD_ap, intD_ap, intD_apB, eq_int, ne_int, ixD, L2.atI, L2.ixN, lenD, gcdD, max2D, min2D, sumAD_lst, q]
    refine wp_seq (ρ' := [some (.val (.dic dd)), some (.val (ld (ks.map c))), none]) ?_ ?_
    · have q : ¬ 8 < U2.sum := by omega
      rw [dIf_ap, dTst_ap, dBin_ap, oD_ap, dCal_ap, aCons_ap, oD_ap, c2]
      simp [eqY_int, neY_int, max2_ap, min2_ap, DF.R.bind_ok, DF.R.bindS_ok, DF.R.bindN_ok, DF.SR.bind_nx, DF.SR.bind_ret, ofO, ths, setV, setF, free, set2, set3, fnRes, startE, startC, outs, argsD, putD, ioIx, isMu, look, DF.muL, ltD_ap, leD_ap, gtD_ap, geD_ap, addD_ap, subD_ap, negD_ap, absD_ap, intD_ap, intD_apB, eq_int, ne_int, ixD, L2.atI, L2.ixN, lenD, gcdD, max2D, min2D, sumAD_lst, q]
    refine wp_rt (ρ' := [some (.val (.dic dd)), some (.val (ld (ks.map c))), none]) (fr := false) (d := .bl true) ?_ ⟨[], rfl, rfl⟩
    have q : ((lcmL 1 ks : Nat) : Int) ≤ 2520 := by omega
    generalize lcmL 1 ks = g at *
    generalize ks.map D.int = kt at *
    simp [eqY_int, neY_int, max2_ap, min2_ap, DF.R.bind_ok, DF.R.bindS_ok, DF.R.bindN_ok, DF.SR.bind_nx, DF.SR.bind_ret, ofO, ths, setV, setF, free, set2, set3, fnRes, startE, startC, outs, argsD, putD, ioIx, isMu, look, DF.muL, ltD_ap, leD_ap, gtD_ap, geD_ap, addD_ap, subD_ap, negD_ap, absD_ap, intD_ap, intD_apB, eq_int, ne_int, ixD, L2.atI, L2.ixN, lenD, gcdD, max2D, min2D, et, ec, q, h3]
/-! ### the row -/
def tlR (T B ks : List Int) : List Int := (tl ks (cM T B)).reverse
def blR (T B ks : List Int) : List Int := (bl ks (cM T B)).reverse
def prs (T B ks : List Int) : D := .tup (ks.map fun k => .tup [.int k, .int (cM T B k)])
def QO (T B ks : List Int) : D := .obj "Quotient" [(("_tops" : Str), pd (tlR T B ks)), (("_bottoms" : Str), pd (blR T B ks)), (("_sides" : Str), pd (tlR T B ks ++ blR T B ks)), (("_pairs" : Str), prs T B ks)]
structure KsP (T B ks : List Int) : Prop where
  nd : ks.Nodup
  so : ks.Pairwise (· ≤ ·)
  mem : ∀ m, m ∈ ks ↔ cM T B m ≠ 0
  len : ks.length ≤ 16
abbrev o1 (a : D) : List (Str × D) := [(("_tops" : Str), a)]
abbrev o2 (a b : D) : List (Str × D) := [(("_tops" : Str), a), (("_bottoms" : Str), b)]
abbrev o3 (a b s : D) : List (Str × D) := [(("_tops" : Str), a), (("_bottoms" : Str), b), (("_sides" : Str), s)]
abbrev o4 (a b s p : D) : List (Str × D) := [(("_tops" : Str), a), (("_bottoms" : Str), b), (("_sides" : Str), s), (("_pairs" : Str), p)]
theorem put1 (a : D) : putFD "_tops" a [] = o1 a := rfl
theorem ne12 : ¬ (("_tops" : Str) = "_bottoms") := by decide +kernel
theorem ne13 : ¬ (("_tops" : Str) = "_sides") := by decide +kernel
theorem ne14 : ¬ (("_tops" : Str) = "_pairs") := by decide +kernel
theorem ne23 : ¬ (("_bottoms" : Str) = "_sides") := by decide +kernel
theorem ne24 : ¬ (("_bottoms" : Str) = "_pairs") := by decide +kernel
theorem ne34 : ¬ (("_sides" : Str) = "_pairs") := by decide +kernel
theorem put2 (a b : D) : putFD "_bottoms" b (o1 a) = o2 a b := by
  unfold o1 putFD
  rw [if_neg ne12]; rfl
theorem put3 (a b s : D) : putFD "_sides" s (o2 a b) = o3 a b s := by
  unfold o2 putFD
  rw [if_neg ne13]
  unfold putFD
  rw [if_neg ne23]; rfl
theorem put4 (a b s p : D) : putFD "_pairs" p (o3 a b s) = o4 a b s p := by
  unfold o3 putFD
  rw [if_neg ne14]
  unfold putFD
  rw [if_neg ne24]
  unfold putFD
  rw [if_neg ne34]; rfl
theorem fld1 (a b : D) : fldD "Quotient" "_tops" (.obj "Quotient" (o2 a b)) = some a := by
  unfold fldD
  rfl
theorem fld2 (a b : D) : fldD "Quotient" "_bottoms" (.obj "Quotient" (o2 a b)) = some b := by
  unfold fldD
  rfl
end K14

namespace K14
open PySem DF
theorem revT_pd (l : List Int) : revTD (pd l) = some (pd l.reverse) := by
  show some (D.tup ((l.map D.int).reverse)) = _
  rw [← List.map_reverse]
theorem cM_bd {T B : List Int} (lT : T.length ≤ 8) (lB : B.length ≤ 8) (k : Int) : -8 ≤ cM T B k ∧ cM T B k ≤ 8 := by
  have := List.count_le_length (a := k) (l := T)
  have := List.count_le_length (a := k) (l := B)
  unfold cM
  omega
theorem cM_mem {T B : List Int} {k : Int} (h : cM T B k ≠ 0) : k ∈ T ++ B := by
  by_cases hT : k ∈ T
  · exact List.mem_append.mpr (.inl hT)
  · by_cases hB : k ∈ B
    · exact List.mem_append.mpr (.inr hB)
    · unfold cM at h
      rw [List.count_eq_zero.mpr hT, List.count_eq_zero.mpr hB] at h
      exact absurd rfl h
abbrev qiE (o : List (Str × D)) (T B : List Int) (m l r : Option D) : DEnv := [some (.mu true (.obj "Quotient" o)), some (.val (pd T)), some (.val (pd B)), m.map Cell.val, l.map Cell.val, r.map Cell.val, none]
/-- the row is made -/
theorem e_quot (T B : List Int) (h : RowP T B) : ∃ ks : List Int, KsP T B ks ∧ F_Quotient___init__ [(true, .obj "Quotient" []), (false, pd T), (false, pd B)] = .ret false .non [QO T B ks] := by
  have lT := h.lt.lx
  have lB := h.lt.ly
  have bd := h.lt.bd
  obtain ⟨ks, nd, so, mem, len, ec⟩ := e_counted T B lT lB
  have hin : ∀ k ∈ ks, k ∈ T ++ B := fun k hk => cM_mem ((mem k).mp hk)
  have hbk : ∀ k ∈ ks, 1 ≤ k ∧ k ≤ 60 := fun k hk => bd k (hin k hk)
  have hne : ks ≠ [] := by
    intro z
    cases hT : T with
    | nil =>
      cases hB : B with
      | nil => exact h.lt.ne (by rw [hT, hB]; rfl)
      | cons y B' =>
        have : y ∈ ks := (mem y).mpr (by
          have p : 0 < B.count y := List.count_pos_iff.mpr (by rw [hB]; exact List.mem_cons_self)
          unfold cM
          rw [hT]
          rw [hB] at p ⊢
          simp only [List.count_nil]
          omega)
        rw [z] at this; cases this
    | cons x T' =>
      have hx : x ∈ T := by rw [hT]; exact List.mem_cons_self
      have p : 0 < T.count x := List.count_pos_iff.mpr hx
      have q : B.count x = 0 := List.count_eq_zero.mpr (h.dj x hx)
      have : x ∈ ks := (mem x).mpr (by unfold cM; omega)
      rw [z] at this; cases this
  have hlcm : lcmL 1 ks ≤ 2520 := by
    have hp := lcmL_pos (T ++ B) 1 (by decide) (fun x hx => (bd x hx).1)
    exact Nat.le_trans (Nat.le_of_dvd hp (lcmL_dvd ks 1 (Nat.one_dvd _) fun x hx => (dvd_lcmL (T ++ B) 1).2 x (hin x hx))) h.lt.cm
  have hs1 : ((ks.map (cM T B)).filter fun v => decide (0 < v)).sum ≤ 8 := by
    have q := sum_pos (fun k => (T.count k : Int)) (cM T B) (fun k => Int.natCast_nonneg _) (fun k => by unfold cM; omega) ks
    have := sum_count nd T
    omega
  have hs2 : (((ks.map (cM T B)).filter fun v => decide (v < 0)).map fun v => -v).sum ≤ 8 := by
    have q := sum_pos (fun k => (B.count k : Int)) (fun k => -(cM T B k)) (fun k => Int.natCast_nonneg _) (fun k => by unfold cM; omega) ks
    have := sum_count nd B
    have e : ((ks.map (cM T B)).filter fun v => decide (v < 0)).map (fun v => -v) = (ks.map fun k => -(cM T B k)).filter fun v => decide (0 < v) := by
      clear mem so len ec hin hbk hne hlcm hs1 q this nd
      induction ks with
      | nil => rfl
      | cons k ks ih =>
        rw [List.map_cons, List.map_cons]
        by_cases hk : cM T B k < 0
        · rw [List.filter_cons_of_pos (by simpa using hk), List.filter_cons_of_pos (by simpa using hk), List.map_cons, ih]
        · rw [List.filter_cons_of_neg (by simpa using hk), List.filter_cons_of_neg (by simp; omega), ih]
    rw [e]
    omega
  have et := e_tell ks (cM T B) hne len hbk hs1 hs2 hlcm
  have es := e_sides ks (cM T B) so len (fun k _ => cM_bd lT lB k)
  have s1 := e_side T lT fun x hx => bd x (List.mem_append.mpr (.inl hx))
  have s2 := e_side B lB fun x hx => bd x (List.mem_append.mpr (.inr hx))
  refine ⟨ks, ⟨nd, so, mem, len⟩, ?_⟩
  have lt1 : (tl ks (cM T B)).length ≤ 128 ∧ (bl ks (cM T B)).length ≤ 128 := by
    have go : ∀ (ks : List Int) (c : Int → Int), (∀ k, -8 ≤ c k ∧ c k ≤ 8) → (tl ks c).length ≤ 8 * ks.length ∧ (bl ks c).length ≤ 8 * ks.length := by
      intro ks c hc
      induction ks with
      | nil => exact ⟨Nat.le_refl _, Nat.le_refl _⟩
      | cons k ks ih =>
        have := hc k
        unfold tl bl at ih ⊢
        rw [List.flatMap_cons, List.flatMap_cons, List.length_append, List.length_append, List.length_replicate, List.length_replicate, List.length_cons]
        omega
    have := go ks (cM T B) (cM_bd lT lB)
    omega
  refine fn_of (P := fun R => R = .ret false .non [QO T B ks]) ?_
  unfold B_Quotient___init__
  rw [show startE 7 [(true, .obj "Quotient" []), (false, pd T), (false, pd B)] = qiE [] T B none none none from rfl]
  refine wp_seq (ρ' := qiE [] T B none none none) (by simp [eqY_int, neY_int, max2_ap, min2_ap, DF.R.bind_ok, DF.R.bindS_ok, DF.R.bindN_ok, DF.SR.bind_nx, DF.SR.bind_ret, ofO, ths, setV, setF, free, set2, set3, fnRes, startE, startC, outs, argsD, putD, ioIx, isMu, look, DF.muL, ltD_ap, leD_ap, gtD_ap, geD_ap, addD_ap, subD_ap, negD_ap, absD_ap, intD_ap, intD_apB, eq_int, ne_int, ixD, L2.atI, L2.ixN, lenD, gcdD, max2D, min2D, s1, s2]) ?_
  refine wp_seq (ρ' := qiE [] T B (some (.dic (mD ks (cM T B)))) none none) (by simp [eqY_int, neY_int, max2_ap, min2_ap, DF.R.bind_ok, DF.R.bindS_ok, DF.R.bindN_ok, DF.SR.bind_nx, DF.SR.bind_ret, ofO, ths, setV, setF, free, set2, set3, fnRes, startE, startC, outs, argsD, putD, ioIx, isMu, look, DF.muL, ltD_ap, leD_ap, gtD_ap, geD_ap, addD_ap, subD_ap, negD_ap, absD_ap, intD_ap, intD_apB, eq_int, ne_int, ixD, L2.atI, L2.ixN, lenD, gcdD, max2D, min2D, ec]) ?_
  refine wp_seq (ρ' := qiE [] T B (some (.dic (mD ks (cM T B)))) none none) (by simp [eqY_int, neY_int, max2_ap, min2_ap, DF.R.bind_ok, DF.R.bindS_ok, DF.R.bindN_ok, DF.SR.bind_nx, DF.SR.bind_ret, ofO, ths, setV, setF, free, set2, set3, fnRes, startE, startC, outs, argsD, putD, ioIx, isMu, look, DF.muL, ltD_ap, leD_ap, gtD_ap, geD_ap, addD_ap, subD_ap, negD_ap, absD_ap, intD_ap, intD_apB, eq_int, ne_int, ixD, L2.atI, L2.ixN, lenD, gcdD, max2D, min2D, et]) ?_
  have r1 := revT_pd (tl ks (cM T B))
  have r2 := revT_pd (bl ks (cM T B))
  have hq : QO T B ks = .obj "Quotient" (o4 (pd (tlR T B ks)) (pd (blR T B ks)) (pd (tlR T B ks ++ blR T B ks)) (prs T B ks)) := rfl
  rw [hq]
  have a1 := add_tt ((tlR T B ks).map D.int) ((blR T B ks).map D.int) (by unfold tlR blR; simp; omega)
  rw [← List.map_append] at a1
  unfold tlR blR at a1
  unfold tlR blR
  generalize tl ks (cM T B) = u at *
  generalize bl ks (cM T B) = v at *
  refine wp_seq (ρ' := qiE [] T B (some (.dic (mD ks (cM T B)))) (some (pd u)) (some (pd v))) (by simp [eqY_int, neY_int, max2_ap, min2_ap, DF.R.bind_ok, DF.R.bindS_ok, DF.R.bindN_ok, DF.SR.bind_nx, DF.SR.bind_ret, ofO, ths, setV, setF, free, set2, set3, fnRes, startE, startC, outs, argsD, putD, ioIx, isMu, look, DF.muL, ltD_ap, leD_ap, gtD_ap, geD_ap, addD_ap, subD_ap, negD_ap, absD_ap, intD_ap, intD_apB, eq_int, ne_int, ixD, L2.atI, L2.ixN, lenD, gcdD, max2D, min2D, es]) ?_
  refine wp_seq (ρ' := qiE (o1 (pd u.reverse)) T B (some (.dic (mD ks (cM T B)))) (some (pd u)) (some (pd v))) ?_ ?_
  · simp only [dSetA_ap, dUn_ap, oVar_ap, eqY_int, neY_int, max2_ap, min2_ap, DF.R.bind_ok, DF.R.bindS_ok, DF.R.bindN_ok, DF.SR.bind_nx, DF.SR.bind_ret, ofO, ths, setV, setF, free, set2, set3, fnRes, startE, startC, outs, argsD, putD, ioIx, isMu, look, DF.muL, ltD_ap, leD_ap, gtD_ap, geD_ap, addD_ap, subD_ap, negD_ap, absD_ap, intD_ap, intD_apB, eq_int, ne_int, ixD, L2.atI, L2.ixN, lenD, gcdD, max2D, min2D]
    simp [eqY_int, neY_int, max2_ap, min2_ap, DF.R.bind_ok, DF.R.bindS_ok, DF.R.bindN_ok, DF.SR.bind_nx, DF.SR.bind_ret, ofO, ths, setV, setF, free, set2, set3, fnRes, startE, startC, outs, argsD, putD, ioIx, isMu, look, DF.muL, ltD_ap, leD_ap, gtD_ap, geD_ap, addD_ap, subD_ap, negD_ap, absD_ap, intD_ap, intD_apB, eq_int, ne_int, ixD, L2.atI, L2.ixN, lenD, gcdD, max2D, min2D, r1, DF.muO, putFD]
  refine wp_seq (ρ' := qiE (o2 (pd u.reverse) (pd v.reverse)) T B (some (.dic (mD ks (cM T B)))) (some (pd u)) (some (pd v))) ?_ ?_
  · have p2 := put2 (pd u.reverse) (pd v.reverse)
    generalize hp2 : o2 (pd u.reverse) (pd v.reverse) = z2 at *
    simp only [dSetA_ap, dUn_ap, oVar_ap, eqY_int, neY_int, max2_ap, min2_ap, DF.R.bind_ok, DF.R.bindS_ok, DF.R.bindN_ok, DF.SR.bind_nx, DF.SR.bind_ret, ofO, ths, setV, setF, free, set2, set3, fnRes, startE, startC, outs, argsD, putD, ioIx, isMu, look, DF.muL, ltD_ap, leD_ap, gtD_ap, geD_ap, addD_ap, subD_ap, negD_ap, absD_ap, intD_ap, intD_apB, eq_int, ne_int, ixD, L2.atI, L2.ixN, lenD, gcdD, max2D, min2D]
    simp [eqY_int, neY_int, max2_ap, min2_ap, DF.R.bind_ok, DF.R.bindS_ok, DF.R.bindN_ok, DF.SR.bind_nx, DF.SR.bind_ret, ofO, ths, setV, setF, free, set2, set3, fnRes, startE, startC, outs, argsD, putD, ioIx, isMu, look, DF.muL, ltD_ap, leD_ap, gtD_ap, geD_ap, addD_ap, subD_ap, negD_ap, absD_ap, intD_ap, intD_apB, eq_int, ne_int, ixD, L2.atI, L2.ixN, lenD, gcdD, max2D, min2D, r2, DF.muO, p2]
  have f1 := fld1 (pd u.reverse) (pd v.reverse)
  have f2 := fld2 (pd u.reverse) (pd v.reverse)
  have p3 := put3 (pd u.reverse) (pd v.reverse) (pd (u.reverse ++ v.reverse))
  refine wp_seq (ρ' := qiE (o3 (pd u.reverse) (pd v.reverse) (pd (u.reverse ++ v.reverse))) T B (some (.dic (mD ks (cM T B)))) (some (pd u)) (some (pd v))) ?_ ?_
  · have hl2 : (o2 (pd u.reverse) (pd v.reverse)).length < 900 := by show 2 < 900; decide
    generalize hp2 : o2 (pd u.reverse) (pd v.reverse) = z2 at *
    generalize hp3 : o3 (pd u.reverse) (pd v.reverse) (pd (u.reverse ++ v.reverse)) = z3 at *
    have a1' : addD (pd u.reverse) (pd v.reverse) = some (pd (u.reverse ++ v.reverse)) := a1
    simp only [dSetA_ap, dUn_ap, dBin_ap, oD_ap, oVar_ap, eqY_int, neY_int, max2_ap, min2_ap, DF.R.bind_ok, DF.R.bindS_ok, DF.R.bindN_ok, DF.SR.bind_nx, DF.SR.bind_ret, ofO, ths, setV, setF, free, set2, set3, fnRes, startE, startC, outs, argsD, putD, ioIx, isMu, look, DF.muL, ltD_ap, leD_ap, gtD_ap, geD_ap, addD_ap, subD_ap, negD_ap, absD_ap, intD_ap, intD_apB, eq_int, ne_int, ixD, L2.atI, L2.ixN, lenD, gcdD, max2D, min2D]
    simp [eqY_int, neY_int, max2_ap, min2_ap, DF.R.bind_ok, DF.R.bindS_ok, DF.R.bindN_ok, DF.SR.bind_nx, DF.SR.bind_ret, ofO, ths, setV, setF, free, set2, set3, fnRes, startE, startC, outs, argsD, putD, ioIx, isMu, look, DF.muL, ltD_ap, leD_ap, gtD_ap, geD_ap, addD_ap, subD_ap, negD_ap, absD_ap, intD_ap, intD_apB, eq_int, ne_int, ixD, L2.atI, L2.ixN, lenD, gcdD, max2D, min2D, f1, f2, a1', DF.muO, p3, hl2]
  have p4 := put4 (pd u.reverse) (pd v.reverse) (pd (u.reverse ++ v.reverse)) (prs T B ks)
  have lc : dLc (sKeys (dVar 3)) (setV 6) (tYesB) (dTup (vCons (dVar 6) (vCons (dBin ixK (oVar 3) (oVar 6)) (vNil)))) [6] (qiE (o3 (pd u.reverse) (pd v.reverse) (pd (u.reverse ++ v.reverse))) T B (some (.dic (mD ks (cM T B)))) (some (pd u)) (some (pd v))) = .ok (qiE (o3 (pd u.reverse) (pd v.reverse) (pd (u.reverse ++ v.reverse))) T B (some (.dic (mD ks (cM T B)))) (some (pd u)) (some (pd v))) (.lst (ks.map fun k => .tup [.int k, .int (cM T B k)])) := by
    generalize o3 (pd u.reverse) (pd v.reverse) (pd (u.reverse ++ v.reverse)) = z3 at *
    refine lc_ap (ρ' := qiE z3 T B (some (.dic (mD ks (cM T B)))) (some (pd u)) (some (pd v))) (l := ks.map D.int) ?_ rfl ?_
    · have := mD_iter ks (cM T B)
      simp [eqY_int, neY_int, max2_ap, min2_ap, DF.R.bind_ok, DF.R.bindS_ok, DF.R.bindN_ok, DF.SR.bind_nx, DF.SR.bind_ret, ofO, ths, setV, setF, free, set2, set3, fnRes, startE, startC, outs, argsD, putD, ioIx, isMu, look, DF.muL, ltD_ap, leD_ap, gtD_ap, geD_ap, addD_ap, subD_ap, negD_ap, absD_ap, intD_ap, intD_apB, eq_int, ne_int, ixD, L2.atI, L2.ixN, lenD, gcdD, max2D, min2D, this]
    · have := lc_pure (t := setV 6) (c := tYesB) (f := dTup (vCons (dVar 6) (vCons (dBin ixK (oVar 3) (oVar 6)) (vNil)))) (vs := [6]) (ρ := qiE z3 T B (some (.dic (mD ks (cM T B)))) (some (pd u)) (some (pd v))) D.int (fun _ => true) (fun k => .tup [.int k, .int (cM T B k)]) ks [] (by simp; omega) (fun k hk => by
        have ix := mD_ix ks (cM T B) k hk
        refine ⟨[some (.mu true (.obj "Quotient" z3)), some (.val (pd T)), some (.val (pd B)), some (.val (.dic (mD ks (cM T B)))), some (.val (pd u)), some (.val (pd v)), some (.val (.int k))], _, rfl, rfl, fun z => (by cases z), fun _ => ⟨[some (.mu true (.obj "Quotient" z3)), some (.val (pd T)), some (.val (pd B)), some (.val (.dic (mD ks (cM T B)))), some (.val (pd u)), some (.val (pd v)), some (.val (.int k))], by simp [eqY_int, neY_int, max2_ap, min2_ap, DF.R.bind_ok, DF.R.bindS_ok, DF.R.bindN_ok, DF.SR.bind_nx, DF.SR.bind_ret, ofO, ths, setV, setF, free, set2, set3, fnRes, startE, startC, outs, argsD, putD, ioIx, isMu, look, DF.muL, ltD_ap, leD_ap, gtD_ap, geD_ap, addD_ap, subD_ap, negD_ap, absD_ap, intD_ap, intD_apB, eq_int, ne_int, ixD, L2.atI, L2.ixN, lenD, gcdD, max2D, min2D, ix], rfl, rfl⟩⟩)
      rw [show wipeE (qiE z3 T B (some (.dic (mD ks (cM T B)))) (some (pd u)) (some (pd v))) [6] = qiE z3 T B (some (.dic (mD ks (cM T B)))) (some (pd u)) (some (pd v)) from rfl, this, List.filter_eq_self.mpr (fun _ _ => rfl)]
      simp
  refine wp_nx (ρ' := qiE (o4 (pd u.reverse) (pd v.reverse) (pd (u.reverse ++ v.reverse)) (prs T B ks)) T B (some (.dic (mD ks (cM T B)))) (some (pd u)) (some (pd v))) ?_ ⟨_, rfl, rfl⟩
  have hl3 : (o3 (pd u.reverse) (pd v.reverse) (pd (u.reverse ++ v.reverse))).length < 900 := by show 3 < 900; decide
  rw [dSetA_ap, dCal_ap, aCons_ap, oD_ap, lc]
  have ep : D.tup (ks.map fun k => .tup [.int k, .int (cM T B k)]) = prs T B ks := rfl
  generalize o3 (pd u.reverse) (pd v.reverse) (pd (u.reverse ++ v.reverse)) = z3 at *
  generalize o4 (pd u.reverse) (pd v.reverse) (pd (u.reverse ++ v.reverse)) (prs T B ks) = z4 at *
  simp [eqY_int, neY_int, max2_ap, min2_ap, DF.R.bind_ok, DF.R.bindS_ok, DF.R.bindN_ok, DF.SR.bind_nx, DF.SR.bind_ret, ofO, ths, setV, setF, free, set2, set3, fnRes, startE, startC, outs, argsD, putD, ioIx, isMu, look, DF.muL, ltD_ap, leD_ap, gtD_ap, geD_ap, addD_ap, subD_ap, negD_ap, absD_ap, intD_ap, intD_apB, eq_int, ne_int, ixD, L2.atI, L2.ixN, lenD, gcdD, max2D, min2D, tupD_ld, DF.muO, p4, hl3, ep]
end K14

namespace K14
open PySem DF
/-! ### sums over what is left -/
theorem fold_ins : ∀ (l U : List Int), U.Nodup → (l.foldl insK U).Nodup ∧ ∀ m, m ∈ l.foldl insK U ↔ m ∈ U ∨ m ∈ l
  | [], U, h => ⟨h, by simp⟩
  | x :: l, U, h => by
    obtain ⟨h1, h2⟩ := fold_ins l (insK U x) (insK_nodup h)
    refine ⟨h1, fun m => ?_⟩
    rw [List.foldl_cons, h2 m, mem_insK, List.mem_cons]
    exact or_assoc
theorem sum_one (g : Int → Int) {U : List Int} (h : U.Nodup) {x : Int} (hx : x ∈ U) : (U.map fun k => (if k = x then (1 : Int) else 0) * g k).sum = g x := by
  induction U with
  | nil => cases hx
  | cons k U ih =>
    have hd := List.nodup_cons.mp h
    rw [List.map_cons, List.sum_cons]
    by_cases hk : k = x
    · subst hk
      have z : (U.map fun j => (if j = k then (1 : Int) else 0) * g j).sum = 0 := by
        have : U.map (fun j => (if j = k then (1 : Int) else 0) * g j) = U.map fun _ => (0 : Int) := List.map_congr_left fun m hm => by
          rw [if_neg (fun e : m = k => hd.1 (e ▸ hm)), Int.zero_mul]
        rw [this]
        clear this ih hd h hx
        induction U with
        | nil => rfl
        | cons a l ih => simpa using ih
      rw [if_pos rfl, z]; omega
    · rw [if_neg hk, Int.zero_mul, ih hd.2 ((List.mem_cons.mp hx).resolve_left fun e => hk e.symm)]; omega
theorem sum_cnt (g : Int → Int) {U : List Int} (h : U.Nodup) : ∀ T : List Int, (∀ x ∈ T, x ∈ U) → (U.map fun k => (T.count k : Int) * g k).sum = (T.map g).sum
  | [], _ => by
    have : U.map (fun k => (([] : List Int).count k : Int) * g k) = U.map fun _ => (0 : Int) := List.map_congr_left fun m _ => by simp
    rw [this]
    clear h this
    induction U with
    | nil => rfl
    | cons a l ih => simpa using ih
  | x :: T, hT => by
    have ih := sum_cnt g h T fun y hy => hT y (List.mem_cons_of_mem _ hy)
    have e : (U.map fun k => ((x :: T).count k : Int) * g k) = U.map fun k => (T.count k : Int) * g k + (if k = x then (1 : Int) else 0) * g k := List.map_congr_left fun m _ => by
      rw [count_cons' x m T, Int.add_mul]
    rw [e, sum_add, ih, sum_one g h (hT x List.mem_cons_self), List.map_cons, List.sum_cons]
    omega
theorem sum_sub (U : List Int) (f g : Int → Int) : (U.map fun k => f k - g k).sum = (U.map f).sum - (U.map g).sum := by
  induction U with
  | nil => rfl
  | cons k ks ih => simp only [List.map_cons, List.sum_cons, ih]; omega
theorem sum_drop (f : Int → Int) (c : Int → Int) : ∀ U : List Int, (U.map fun k => c k * f k).sum = ((U.filter fun k => !decide (c k = 0)).map fun k => c k * f k).sum
  | [] => rfl
  | k :: U => by
    have ih := sum_drop f c U
    rw [List.map_cons, List.sum_cons, ih]
    by_cases h : c k = 0
    · rw [List.filter_cons_of_neg (by simp [h]), h, Int.zero_mul]; omega
    · rw [List.filter_cons_of_pos (by simp [h]), List.map_cons, List.sum_cons]
theorem sum_perm {l m : List Int} (h : l.Perm m) : l.sum = m.sum := by
  induction h with
  | nil => rfl
  | cons x _ ih => rw [List.sum_cons, List.sum_cons, ih]
  | swap x y l => simp only [List.sum_cons]; omega
  | trans _ _ h1 h2 => rw [h1, h2]
/-- what is left tells the sums of both sides -/
theorem row_sum (g : Int → Int) {T B ks : List Int} (h : KsP T B ks) : (ks.map fun k => cM T B k * g k).sum = (T.map g).sum - (B.map g).sum := by
  obtain ⟨hU, hm⟩ := fold_ins (T ++ B) [] List.nodup_nil
  have e1 := sum_cnt g hU T fun x hx => (hm x).mpr (.inr (List.mem_append.mpr (.inl hx)))
  have e2 := sum_cnt g hU B fun x hx => (hm x).mpr (.inr (List.mem_append.mpr (.inr hx)))
  have e3 : ((T ++ B).foldl insK []).map (fun k => cM T B k * g k) = ((T ++ B).foldl insK []).map fun k => (T.count k : Int) * g k - (B.count k : Int) * g k := List.map_congr_left fun m _ => by
    unfold cM; rw [Int.sub_mul]
  have e4 := sum_drop g (cM T B) ((T ++ B).foldl insK [])
  rw [e3, sum_sub, e1, e2] at e4
  rw [e4]
  refine sum_perm (List.Perm.map _ ?_)
  refine (List.perm_ext_iff_of_nodup h.nd (hU.filter _)).mpr fun m => ?_
  rw [List.mem_filter, h.mem m]
  constructor
  · intro hc
    exact ⟨(hm m).mpr (.inr (cM_mem hc)), by simpa using hc⟩
  · rintro ⟨_, hc⟩
    simpa using hc
/-! ### the walk -/
theorem look_pairs (a b s p : D) : List.lookup ("_pairs" : Str) (o4 a b s p) = some p := by
  unfold o4
  rw [List.lookup_cons, show (("_pairs" : Str) == ("_tops" : Str)) = false by decide +kernel]
  dsimp only
  rw [List.lookup_cons, show (("_pairs" : Str) == ("_bottoms" : Str)) = false by decide +kernel]
  dsimp only
  rw [List.lookup_cons, show (("_pairs" : Str) == ("_sides" : Str)) = false by decide +kernel]
  dsimp only
  rw [List.lookup_cons, show (("_pairs" : Str) == ("_pairs" : Str)) = true by decide +kernel]
theorem walk_row {T B ks : List Int} {ρ : DEnv} {f : DEnv → DF.R D} (hf : f ρ = .ok ρ (QO T B ks)) : sOwn "Quotient" "_pairs" f ρ = .ok ρ (ks.map fun k => .tup [.int k, .int (cM T B k)]) := by
  rw [sOwn_ap, hf, R.bind_ok]
  show (if ("Quotient" : Str) = "Quotient" then match List.lookup ("_pairs" : Str) (o4 (pd (tlR T B ks)) (pd (blR T B ks)) (pd (tlR T B ks ++ blR T B ks)) (prs T B ks)) with
    | some (.tup l) => DF.R.ok ρ l
    | _ => .no else .no) = _
  rw [if_pos rfl, look_pairs]
  rfl
theorem e_checkrow (T B ks : List Int) : F_check_row [(false, QO T B ks)] = .ret false .non [] := by
  have e : isOD "Quotient" (QO T B ks) = some (.bl true) := by
    show (if ("Quotient" : Str) = "Quotient" then some (D.bl true) else none) = _
    rw [if_pos rfl]
  unfold F_check_row B_check_row
  generalize QO T B ks = q at *
  simp [eqY_int, neY_int, max2_ap, min2_ap, DF.R.bind_ok, DF.R.bindS_ok, DF.R.bindN_ok, DF.SR.bind_nx, DF.SR.bind_ret, ofO, ths, setV, setF, free, set2, set3, fnRes, startE, startC, outs, argsD, putD, ioIx, isMu, look, DF.muL, ltD_ap, leD_ap, gtD_ap, geD_ap, addD_ap, subD_ap, negD_ap, absD_ap, intD_ap, intD_apB, eq_int, ne_int, ixD, L2.atI, L2.ixN, lenD, gcdD, max2D, min2D, e]
end K14

namespace K14
open PySem DF
def fl (a b m : Int) : Int := (m * a).fdiv b
/-- the depth -/
def DP (T B : List Int) (a b : Int) : Int := (T.map (fl a b)).sum - (B.map (fl a b)).sum
def jg (n m : Int) : Int := if m.fmod n = 0 then 1 else 0
def JP (T B : List Int) (n : Int) : Int := (T.map (jg n)).sum - (B.map (jg n)).sum
theorem fl_bd {a b m : Int} (ha : 0 ≤ a) (hb : 0 < b) (hm : 1 ≤ m ∧ m ≤ 60) : 0 ≤ fl a b m ∧ fl a b m ≤ 60 * a ∧ 0 ≤ m * a ∧ m * a ≤ 60 * a := by
  have h1 : 0 ≤ m * a := Int.mul_nonneg (by omega) ha
  have h2 : m * a ≤ 60 * a := Int.mul_le_mul_of_nonneg_right hm.2 ha
  unfold fl
  rw [fd (by omega)]
  have h3 : m * a / b ≤ m * a := Int.ediv_le_self _ h1
  exact ⟨Int.ediv_nonneg h1 (by omega), by omega, h1, h2⟩
abbrev NR : Int := 10 ^ 59
theorem e_depthat {T B ks : List Int} (h : KsP T B ks) (lT : T.length ≤ 8) (lB : B.length ≤ 8) (hk : ∀ k ∈ ks, 1 ≤ k ∧ k ≤ 60) {a b : Int} (ha : 0 ≤ a) (ha2 : a ≤ NR) (hb : 0 < b) (hb2 : b ≤ NR) : F_depth_at [(false, QO T B ks), (false, pd [a, b])] = .ret false (.int (DP T B a b)) [] := by
  refine fn_of (P := fun R => R = .ret false (.int (DP T B a b)) []) ?_
  unfold B_depth_at
  rw [show startE 4 [(false, QO T B ks), (false, pd [a, b])] = [some (.val (QO T B ks)), some (.val (pd [a, b])), none, none] from rfl]
  have e := row_sum (fl a b) h
  have hw := walk_row (T := T) (B := B) (ks := ks) (ρ := [some (.val (QO T B ks)), some (.val (pd [a, b])), none, none]) (f := dVar 0) rfl
  have len := h.len
  generalize QO T B ks = q at *
  have lc : dLc (sOwn "Quotient" "_pairs" (dVar 0)) (gTp 2 (gsCons (setV 2) (gsCons (setV 3) (gsNil)))) (tYesB) (dBin mulD (oVar 3) (oD (dBin divD (oD (dBin mulD (oVar 2) (oD (dBin ixD (oVar 1) (oD (dC (.int 0))))))) (oD (dBin ixD (oVar 1) (oD (dC (.int 1)))))))) [2, 3] [some (.val q), some (.val (pd [a, b])), none, none] = .ok [some (.val q), some (.val (pd [a, b])), none, none] (ld (ks.map fun k => cM T B k * fl a b k)) := by
    refine lc_ap hw rfl ?_
    have := lc_pure (t := gTp 2 (gsCons (setV 2) (gsCons (setV 3) (gsNil)))) (c := tYesB) (f := dBin mulD (oVar 3) (oD (dBin divD (oD (dBin mulD (oVar 2) (oD (dBin ixD (oVar 1) (oD (dC (.int 0))))))) (oD (dBin ixD (oVar 1) (oD (dC (.int 1)))))))) (vs := [2, 3]) (ρ := [some (.val q), some (.val (pd [a, b])), none, none]) (fun k => .tup [.int k, .int (cM T B k)]) (fun _ => true) (fun k => .int (cM T B k * fl a b k)) ks [] (by simp; omega) (fun k hkk => by
      have kb := hk k hkk
      have cb := cM_bd lT lB k
      have fb := fl_bd ha hb kb
      have m1 := mulD_ap (i := k) (j := a) (cm (sm_of (by omega)) (sm_of (by unfold NR at ha2; omega)))
      have m2 := divD_ap (cd (i := k * a) (show b ≠ 0 by omega) (sm_of (by unfold NR at hb2; omega)))
      have m3 := mulD_ap (i := cM T B k) (j := fl a b k) (cm (sm_of (by omega)) (sm_of (by unfold NR at ha2; omega)))
      refine ⟨[some (.val q), some (.val (pd [a, b])), some (.val (.int k)), some (.val (.int (cM T B k)))], _, rfl, rfl, fun z => (by cases z), fun _ => ⟨[some (.val q), some (.val (pd [a, b])), some (.val (.int k)), some (.val (.int (cM T B k)))], ?_, rfl, rfl⟩⟩
      unfold fl at *
      generalize cM T B k = z at *
      generalize (k * a).fdiv b = y at *
      generalize k * a = x at *
      simp [eqY_int, neY_int, max2_ap, min2_ap, DF.R.bind_ok, DF.R.bindS_ok, DF.R.bindN_ok, DF.SR.bind_nx, DF.SR.bind_ret, ofO, ths, setV, setF, free, set2, set3, fnRes, startE, startC, outs, argsD, putD, ioIx, isMu, look, DF.muL, ltD_ap, leD_ap, gtD_ap, geD_ap, addD_ap, subD_ap, negD_ap, absD_ap, intD_ap, intD_apB, eq_int, ne_int, ixD, L2.atI, L2.ixN, lenD, gcdD, max2D, min2D, m1, m2, m3])
    rw [show wipeE [some (.val q), some (.val (pd [a, b])), none, none] [2, 3] = [some (.val q), some (.val (pd [a, b])), none, none] from rfl, this, List.filter_eq_self.mpr (fun _ _ => rfl)]
    simp
  refine wp_rt (ρ' := [some (.val q), some (.val (pd [a, b])), none, none]) (fr := false) (d := .int (DP T B a b)) ?_ ⟨[], rfl, rfl⟩
  rw [dRet_ap, dCal_ap, aCons_ap, oD_ap, lc]
  simp only [R.bind_ok, aNil_ap, ths, sumAD_lst, e]
  simp [eqY_int, neY_int, max2_ap, min2_ap, DF.R.bind_ok, DF.R.bindS_ok, DF.R.bindN_ok, DF.SR.bind_nx, DF.SR.bind_ret, ofO, ths, setV, setF, free, set2, set3, fnRes, startE, startC, outs, argsD, putD, ioIx, isMu, look, DF.muL, ltD_ap, leD_ap, gtD_ap, geD_ap, addD_ap, subD_ap, negD_ap, absD_ap, intD_ap, intD_apB, eq_int, ne_int, ixD, L2.atI, L2.ixN, lenD, gcdD, max2D, min2D, sumAD_lst, e, DP]
theorem e_jumpof {T B ks : List Int} (h : KsP T B ks) {n : Int} (hn : 0 < n) : F_jump_of [(false, QO T B ks), (false, .int n)] = .ret false (.int (JP T B n)) [] := by
  refine fn_of (P := fun R => R = .ret false (.int (JP T B n)) []) ?_
  unfold B_jump_of
  rw [show startE 4 [(false, QO T B ks), (false, .int n)] = [some (.val (QO T B ks)), some (.val (.int n)), none, none] from rfl]
  have e := row_sum (jg n) h
  have hw := walk_row (T := T) (B := B) (ks := ks) (ρ := [some (.val (QO T B ks)), some (.val (.int n)), none, none]) (f := dVar 0) rfl
  have len := h.len
  generalize QO T B ks = q at *
  have es : ((ks.filter fun k => decide (k.fmod n = 0)).map fun k => cM T B k).sum = (ks.map fun k => cM T B k * jg n k).sum := by
    clear hw e len h
    induction ks with
    | nil => rfl
    | cons k ks ih =>
      rw [List.map_cons, List.sum_cons, ← ih]
      unfold jg
      by_cases hk : k.fmod n = 0
      · rw [List.filter_cons_of_pos (by simpa using hk), List.map_cons, List.sum_cons, if_pos hk]; omega
      · rw [List.filter_cons_of_neg (by simpa using hk), if_neg hk]; omega
  have lc : dLc (sOwn "Quotient" "_pairs" (dVar 0)) (gTp 2 (gsCons (setV 2) (gsCons (setV 3) (gsNil)))) (dTst (dBin eqY (oD (dBin modD (oVar 2) (oVar 1))) (oD (dC (.int 0))))) (dVar 3) [2, 3] [some (.val q), some (.val (.int n)), none, none] = .ok [some (.val q), some (.val (.int n)), none, none] (ld ((ks.filter fun k => decide (k.fmod n = 0)).map fun k => cM T B k)) := by
    refine lc_ap hw rfl ?_
    have := lc_pure (t := gTp 2 (gsCons (setV 2) (gsCons (setV 3) (gsNil)))) (c := dTst (dBin eqY (oD (dBin modD (oVar 2) (oVar 1))) (oD (dC (.int 0))))) (f := dVar 3) (vs := [2, 3]) (ρ := [some (.val q), some (.val (.int n)), none, none]) (fun k => .tup [.int k, .int (cM T B k)]) (fun k => decide (k.fmod n = 0)) (fun k => .int (cM T B k)) ks [] (by simp; omega) (fun k hkk => by
      have m1 := modD_ap (i := k) (j := n) (by omega)
      refine ⟨[some (.val q), some (.val (.int n)), some (.val (.int k)), some (.val (.int (cM T B k)))], [some (.val q), some (.val (.int n)), some (.val (.int k)), some (.val (.int (cM T B k)))], rfl, ?_, fun _ => ⟨rfl, rfl⟩, fun _ => ⟨[some (.val q), some (.val (.int n)), some (.val (.int k)), some (.val (.int (cM T B k)))], rfl, rfl, rfl⟩⟩
      simp [eqY_int, neY_int, max2_ap, min2_ap, DF.R.bind_ok, DF.R.bindS_ok, DF.R.bindN_ok, DF.SR.bind_nx, DF.SR.bind_ret, ofO, ths, setV, setF, free, set2, set3, fnRes, startE, startC, outs, argsD, putD, ioIx, isMu, look, DF.muL, ltD_ap, leD_ap, gtD_ap, geD_ap, addD_ap, subD_ap, negD_ap, absD_ap, intD_ap, intD_apB, eq_int, ne_int, ixD, L2.atI, L2.ixN, lenD, gcdD, max2D, min2D, m1])
    rw [show wipeE [some (.val q), some (.val (.int n)), none, none] [2, 3] = [some (.val q), some (.val (.int n)), none, none] from rfl, this]
    simp
  refine wp_rt (ρ' := [some (.val q), some (.val (.int n)), none, none]) (fr := false) (d := .int (JP T B n)) ?_ ⟨[], rfl, rfl⟩
  rw [dRet_ap, dCal_ap, aCons_ap, oD_ap, lc]
  simp only [R.bind_ok, aNil_ap, ths, sumAD_lst, es, e]
  simp [eqY_int, neY_int, max2_ap, min2_ap, DF.R.bind_ok, DF.R.bindS_ok, DF.R.bindN_ok, DF.SR.bind_nx, DF.SR.bind_ret, ofO, ths, setV, setF, free, set2, set3, fnRes, startE, startC, outs, argsD, putD, ioIx, isMu, look, DF.muL, ltD_ap, leD_ap, gtD_ap, geD_ap, addD_ap, subD_ap, negD_ap, absD_ap, intD_ap, intD_apB, eq_int, ne_int, ixD, L2.atI, L2.ixN, lenD, gcdD, max2D, min2D, sumAD_lst, es, e, JP]
end K14

namespace K14
open PySem DF
abbrev rt (a b : Int) : D := .tup [.int a, .int b]
theorem e_longpair (a b : Int) : F_is_long_pair [(false, rt a b)] = .ret false (.bl true) [] := by
  unfold F_is_long_pair B_is_long_pair
  simp [eqY_int, neY_int, max2_ap, min2_ap, DF.R.bind_ok, DF.R.bindS_ok, DF.R.bindN_ok, DF.SR.bind_nx, DF.SR.bind_ret, ofO, ths, setV, setF, free, set2, set3, fnRes, startE, startC, outs, argsD, putD, ioIx, isMu, look, DF.muL, ltD_ap, leD_ap, gtD_ap, geD_ap, addD_ap, subD_ap, negD_ap, absD_ap, intD_ap, intD_apB, eq_int, ne_int, ixD, L2.atI, L2.ixN, lenD, gcdD, max2D, min2D, isiD, tyN, k_tt, e_long]
theorem e_longratio (a b : Int) (hb : 0 < b) (hg : Nat.gcd a.natAbs b.natAbs = 1) : F_is_long_ratio [(false, rt a b)] = .ret false (.bl true) [] := by
  have e : gcdD [.int a, .int b] = some (.int 1) := by
    show some (D.int ((Nat.gcd a.natAbs b.natAbs : Nat) : Int)) = _
    rw [hg]; rfl
  unfold F_is_long_ratio B_is_long_ratio
  simp [eqY_int, neY_int, max2_ap, min2_ap, DF.R.bind_ok, DF.R.bindS_ok, DF.R.bindN_ok, DF.SR.bind_nx, DF.SR.bind_ret, ofO, ths, setV, setF, free, set2, set3, fnRes, startE, startC, outs, argsD, putD, ioIx, isMu, look, DF.muL, ltD_ap, leD_ap, gtD_ap, geD_ap, addD_ap, subD_ap, negD_ap, absD_ap, intD_ap, intD_apB, eq_int, ne_int, ixD, L2.atI, L2.ixN, lenD, gcdD, max2D, min2D, e_longpair, hb, e, hg, Int.gcd]
structure RatP (a b : Int) : Prop where
  a0 : 0 ≤ a
  a1 : a ≤ NR
  b0 : 0 < b
  b1 : b ≤ NR
  g : Nat.gcd a.natAbs b.natAbs = 1
theorem e_isratio {a b : Int} (h : RatP a b) : F_is_ratio [(false, rt a b)] = .ret false (.bl true) [] := by
  have e := e_longratio a b h.b0 h.g
  have k1 : a.natAbs ≤ 999999999999999999999999999999999999999999999999999999999999 := by have := h.a0; have := h.a1; unfold NR at this; omega
  have k2 : b.natAbs ≤ 999999999999999999999999999999999999999999999999999999999999 := by have := h.b0; have := h.b1; unfold NR at this; omega
  unfold F_is_ratio B_is_ratio
  simp [eqY_int, neY_int, max2_ap, min2_ap, DF.R.bind_ok, DF.R.bindS_ok, DF.R.bindN_ok, DF.SR.bind_nx, DF.SR.bind_ret, ofO, ths, setV, setF, free, set2, set3, fnRes, startE, startC, outs, argsD, putD, ioIx, isMu, look, DF.muL, ltD_ap, leD_ap, gtD_ap, geD_ap, addD_ap, subD_ap, negD_ap, absD_ap, intD_ap, intD_apB, eq_int, ne_int, ixD, L2.atI, L2.ixN, lenD, gcdD, max2D, min2D, e, e_isint, k1, k2]
theorem e_checkratio {a b : Int} (h : RatP a b) : F_check_ratio [(false, rt a b)] = .ret false .non [] := by
  unfold F_check_ratio B_check_ratio
  simp [eqY_int, neY_int, max2_ap, min2_ap, DF.R.bind_ok, DF.R.bindS_ok, DF.R.bindN_ok, DF.SR.bind_nx, DF.SR.bind_ret, ofO, ths, setV, setF, free, set2, set3, fnRes, startE, startC, outs, argsD, putD, ioIx, isMu, look, DF.muL, ltD_ap, leD_ap, gtD_ap, geD_ap, addD_ap, subD_ap, negD_ap, absD_ap, intD_ap, intD_apB, eq_int, ne_int, ixD, L2.atI, L2.ixN, lenD, gcdD, max2D, min2D, e_isratio h]
section
variable {T B ks : List Int}
theorem ks_bd (h : RowP T B) (hk : KsP T B ks) : ∀ k ∈ ks, 1 ≤ k ∧ k ≤ 60 := fun k hm => h.lt.bd k (cM_mem ((hk.mem k).mp hm))
theorem e_depth (h : RowP T B) (hk : KsP T B ks) {a b : Int} (hr : RatP a b) : F_depth [(false, QO T B ks), (false, rt a b)] = .ret false (.int (DP T B a b)) [] := by
  have e1 := e_checkrow T B ks
  have e2 := e_checkratio hr
  have e3 : F_depth_at [(false, QO T B ks), (false, rt a b)] = .ret false (.int (DP T B a b)) [] := e_depthat hk h.lt.lx h.lt.ly (ks_bd h hk) hr.a0 hr.a1 hr.b0 hr.b1
  have e4 : ¬ a < 0 := by have := hr.a0; omega
  unfold F_depth B_depth
  generalize QO T B ks = q at *
  generalize DP T B a b = z at *
  simp [eqY_int, neY_int, max2_ap, min2_ap, DF.R.bind_ok, DF.R.bindS_ok, DF.R.bindN_ok, DF.SR.bind_nx, DF.SR.bind_ret, ofO, ths, setV, setF, free, set2, set3, fnRes, startE, startC, outs, argsD, putD, ioIx, isMu, look, DF.muL, ltD_ap, leD_ap, gtD_ap, geD_ap, addD_ap, subD_ap, negD_ap, absD_ap, intD_ap, intD_apB, eq_int, ne_int, ixD, L2.atI, L2.ixN, lenD, gcdD, max2D, min2D, e1, e2, e3, e4]
theorem e_jump (hk : KsP T B ks) {n : Int} (h1 : 1 ≤ n) (h2 : n ≤ 2520) : F_jump [(false, QO T B ks), (false, .int n)] = .ret false (.int (JP T B n)) [] := by
  have e1 := e_checkrow T B ks
  have e2 := e_checknum n 1 2520 (by omega) h1 h2
  have e3 := e_jumpof hk (show 0 < n by omega)
  unfold F_jump B_jump
  generalize QO T B ks = q at *
  generalize JP T B n = z at *
  simp [eqY_int, neY_int, max2_ap, min2_ap, DF.R.bind_ok, DF.R.bindS_ok, DF.R.bindN_ok, DF.SR.bind_nx, DF.SR.bind_ret, ofO, ths, setV, setF, free, set2, set3, fnRes, startE, startC, outs, argsD, putD, ioIx, isMu, look, DF.muL, ltD_ap, leD_ap, gtD_ap, geD_ap, addD_ap, subD_ap, negD_ap, absD_ap, intD_ap, intD_apB, eq_int, ne_int, ixD, L2.atI, L2.ixN, lenD, gcdD, max2D, min2D, e1, e2, e3]
end
/-! ### the law's own depths and jumps -/
theorem fl_comp {T B : List Int} {s : D} {a b : Int} {L : List Int} {f : DEnv → DF.R D} (lL : L.length ≤ 8) (hL : ∀ x ∈ L, 1 ≤ x ∧ x ≤ 60) (ha : 0 ≤ a) (ha2 : a ≤ NR) (hb : 0 < b) (hb2 : b ≤ NR) (hf : f [some (.val (pd T)), some (.val (pd B)), some (.val s), some (.val (.int a)), some (.val (.int b)), none] = .ok [some (.val (pd T)), some (.val (pd B)), some (.val s), some (.val (.int a)), some (.val (.int b)), none] (pd L)) :
    dLc (sSeq f) (setV 5) (tYesB) (dBin divD (oD (dBin mulD (oVar 5) (oVar 3))) (oVar 4)) [5] [some (.val (pd T)), some (.val (pd B)), some (.val s), some (.val (.int a)), some (.val (.int b)), none] = .ok [some (.val (pd T)), some (.val (pd B)), some (.val s), some (.val (.int a)), some (.val (.int b)), none] (ld (L.map (fl a b))) := by
  refine lc_ap (ρ' := [some (.val (pd T)), some (.val (pd B)), some (.val s), some (.val (.int a)), some (.val (.int b)), none]) (l := L.map D.int) ?_ rfl ?_
  · rw [sSeq_ap, hf, R.bind_ok]
    rfl
  · have := lc_pure (t := setV 5) (c := tYesB) (f := dBin divD (oD (dBin mulD (oVar 5) (oVar 3))) (oVar 4)) (vs := [5]) (ρ := [some (.val (pd T)), some (.val (pd B)), some (.val s), some (.val (.int a)), some (.val (.int b)), none]) D.int (fun _ => true) (fun x => .int (fl a b x)) L [] (by simp; omega) (fun x hx => by
      have kb := hL x hx
      have fb := fl_bd ha hb kb
      have m1 := mulD_ap (i := x) (j := a) (cm (sm_of (by omega)) (sm_of (by unfold NR at ha2; omega)))
      have m2 := divD_ap (cd (i := x * a) (show b ≠ 0 by omega) (sm_of (by unfold NR at hb2; omega)))
      refine ⟨[some (.val (pd T)), some (.val (pd B)), some (.val s), some (.val (.int a)), some (.val (.int b)), some (.val (.int x))], _, rfl, rfl, fun z => (by cases z), fun _ => ⟨[some (.val (pd T)), some (.val (pd B)), some (.val s), some (.val (.int a)), some (.val (.int b)), some (.val (.int x))], ?_, rfl, rfl⟩⟩
      unfold fl at *
      generalize (x * a).fdiv b = y at *
      generalize x * a = w at *
      simp [eqY_int, neY_int, max2_ap, min2_ap, DF.R.bind_ok, DF.R.bindS_ok, DF.R.bindN_ok, DF.SR.bind_nx, DF.SR.bind_ret, ofO, ths, setV, setF, free, set2, set3, fnRes, startE, startC, outs, argsD, putD, ioIx, isMu, look, DF.muL, ltD_ap, leD_ap, gtD_ap, geD_ap, addD_ap, subD_ap, negD_ap, absD_ap, intD_ap, intD_apB, eq_int, ne_int, ixD, L2.atI, L2.ixN, lenD, gcdD, max2D, min2D, m1, m2])
    rw [show wipeE [some (.val (pd T)), some (.val (pd B)), some (.val s), some (.val (.int a)), some (.val (.int b)), none] [5] = [some (.val (pd T)), some (.val (pd B)), some (.val s), some (.val (.int a)), some (.val (.int b)), none] from rfl, this, List.filter_eq_self.mpr (fun _ _ => rfl)]
    simp
theorem sub_of {F1 F2 : DEnv → DF.R D} {ρ : DEnv} {x y : Int} (h1 : F1 ρ = .ok ρ (.int x)) (h2 : F2 ρ = .ok ρ (.int y)) : dRet (dBin subD (oD F1) (oD F2)) ρ = .ret ρ false (.int (x - y)) := by
  simp [eqY_int, neY_int, max2_ap, min2_ap, DF.R.bind_ok, DF.R.bindS_ok, DF.R.bindN_ok, DF.SR.bind_nx, DF.SR.bind_ret, ofO, ths, setV, setF, free, set2, set3, fnRes, startE, startC, outs, argsD, putD, ioIx, isMu, look, DF.muL, ltD_ap, leD_ap, gtD_ap, geD_ap, addD_ap, subD_ap, negD_ap, absD_ap, intD_ap, intD_apB, eq_int, ne_int, ixD, L2.atI, L2.ixN, lenD, gcdD, max2D, min2D, h1, h2]
theorem sum_of {F : DEnv → DF.R D} {ρ : DEnv} {l : List Int} (h : F ρ = .ok ρ (ld l)) : dCal sumAD (aCons (oD F) (aNil)) ρ = .ok ρ (.int l.sum) := by
  simp [eqY_int, neY_int, max2_ap, min2_ap, DF.R.bind_ok, DF.R.bindS_ok, DF.R.bindN_ok, DF.SR.bind_nx, DF.SR.bind_ret, ofO, ths, setV, setF, free, set2, set3, fnRes, startE, startC, outs, argsD, putD, ioIx, isMu, look, DF.muL, ltD_ap, leD_ap, gtD_ap, geD_ap, addD_ap, subD_ap, negD_ap, absD_ap, intD_ap, intD_apB, eq_int, ne_int, ixD, L2.atI, L2.ixN, lenD, gcdD, max2D, min2D, h, sumAD_lst]
theorem len_of {F : DEnv → DF.R D} {ρ : DEnv} {l : List Int} (h : F ρ = .ok ρ (ld l)) : dCal lenD (aCons (oD F) (aNil)) ρ = .ok ρ (.int l.length) := by
  have := len_ld l
  simp [eqY_int, neY_int, max2_ap, min2_ap, DF.R.bind_ok, DF.R.bindS_ok, DF.R.bindN_ok, DF.SR.bind_nx, DF.SR.bind_ret, ofO, ths, setV, setF, free, set2, set3, fnRes, startE, startC, outs, argsD, putD, ioIx, isMu, look, DF.muL, ltD_ap, leD_ap, gtD_ap, geD_ap, addD_ap, subD_ap, negD_ap, absD_ap, intD_ap, intD_apB, eq_int, ne_int, ixD, L2.atI, L2.ixN, lenD, gcdD, max2D, min2D, h]
theorem e_qdepth {T B : List Int} (h : RowP T B) {a b : Int} (ha : 0 ≤ a) (ha2 : a ≤ NR) (hb : 0 < b) (hb2 : b ≤ NR) : F_q_depth [(false, pd T), (false, pd B), (false, rt a b)] = .ret false (.int (DP T B a b)) [] := by
  refine fn_of (P := fun R => R = .ret false (.int (DP T B a b)) []) ?_
  unfold B_q_depth
  rw [show startE 6 [(false, pd T), (false, pd B), (false, rt a b)] = [some (.val (pd T)), some (.val (pd B)), some (.val (rt a b)), none, none, none] from rfl]
  refine wp_seq (ρ' := [some (.val (pd T)), some (.val (pd B)), some (.val (rt a b)), some (.val (.int a)), some (.val (.int b)), none]) (by simp [eqY_int, neY_int, max2_ap, min2_ap, DF.R.bind_ok, DF.R.bindS_ok, DF.R.bindN_ok, DF.SR.bind_nx, DF.SR.bind_ret, ofO, ths, setV, setF, free, set2, set3, fnRes, startE, startC, outs, argsD, putD, ioIx, isMu, look, DF.muL, ltD_ap, leD_ap, gtD_ap, geD_ap, addD_ap, subD_ap, negD_ap, absD_ap, intD_ap, intD_apB, eq_int, ne_int, ixD, L2.atI, L2.ixN, lenD, gcdD, max2D, min2D]) ?_
  have bd := h.lt.bd
  have c1 := fl_comp (T := T) (B := B) (s := rt a b) h.lt.lx (fun x hx => bd x (List.mem_append.mpr (.inl hx))) ha ha2 hb hb2 (f := dVar 0) rfl
  have c2 := fl_comp (T := T) (B := B) (s := rt a b) h.lt.ly (fun x hx => bd x (List.mem_append.mpr (.inr hx))) ha ha2 hb hb2 (f := dVar 1) rfl
  refine wp_rt (ρ' := [some (.val (pd T)), some (.val (pd B)), some (.val (rt a b)), some (.val (.int a)), some (.val (.int b)), none]) (fr := false) (d := .int (DP T B a b)) ?_ ⟨[], rfl, rfl⟩
  exact sub_of (sum_of c1) (sum_of c2)
theorem jp_comp {T B L : List Int} {n : Int} {f : DEnv → DF.R D} (lL : L.length ≤ 8) (hn : 0 < n) (hf : f [some (.val (pd T)), some (.val (pd B)), some (.val (.int n)), none] = .ok [some (.val (pd T)), some (.val (pd B)), some (.val (.int n)), none] (pd L)) :
    dLc (sSeq f) (setV 3) (dTst (dBin eqY (oD (dBin modD (oVar 3) (oVar 2))) (oD (dC (.int 0))))) (dVar 3) [3] [some (.val (pd T)), some (.val (pd B)), some (.val (.int n)), none] = .ok [some (.val (pd T)), some (.val (pd B)), some (.val (.int n)), none] (ld (L.filter fun x => decide (x.fmod n = 0))) := by
  refine lc_ap (ρ' := [some (.val (pd T)), some (.val (pd B)), some (.val (.int n)), none]) (l := L.map D.int) ?_ rfl ?_
  · rw [sSeq_ap, hf, R.bind_ok]
    rfl
  · have := lc_pure (t := setV 3) (c := dTst (dBin eqY (oD (dBin modD (oVar 3) (oVar 2))) (oD (dC (.int 0))))) (f := dVar 3) (vs := [3]) (ρ := [some (.val (pd T)), some (.val (pd B)), some (.val (.int n)), none]) D.int (fun x => decide (x.fmod n = 0)) (fun x => .int x) L [] (by simp; omega) (fun x hx => by
      have m1 := modD_ap (i := x) (j := n) (by omega)
      refine ⟨[some (.val (pd T)), some (.val (pd B)), some (.val (.int n)), some (.val (.int x))], [some (.val (pd T)), some (.val (pd B)), some (.val (.int n)), some (.val (.int x))], rfl, ?_, fun _ => ⟨rfl, rfl⟩, fun _ => ⟨[some (.val (pd T)), some (.val (pd B)), some (.val (.int n)), some (.val (.int x))], rfl, rfl, rfl⟩⟩
      simp [eqY_int, neY_int, max2_ap, min2_ap, DF.R.bind_ok, DF.R.bindS_ok, DF.R.bindN_ok, DF.SR.bind_nx, DF.SR.bind_ret, ofO, ths, setV, setF, free, set2, set3, fnRes, startE, startC, outs, argsD, putD, ioIx, isMu, look, DF.muL, ltD_ap, leD_ap, gtD_ap, geD_ap, addD_ap, subD_ap, negD_ap, absD_ap, intD_ap, intD_apB, eq_int, ne_int, ixD, L2.atI, L2.ixN, lenD, gcdD, max2D, min2D, m1])
    rw [show wipeE [some (.val (pd T)), some (.val (pd B)), some (.val (.int n)), none] [3] = [some (.val (pd T)), some (.val (pd B)), some (.val (.int n)), none] from rfl, this]
    rfl
theorem jg_sum (n : Int) : ∀ L : List Int, (L.map (jg n)).sum = ((L.filter fun x => decide (x.fmod n = 0)).length : Int)
  | [] => rfl
  | x :: L => by
    rw [List.map_cons, List.sum_cons, jg_sum n L]
    unfold jg
    by_cases h : x.fmod n = 0
    · rw [List.filter_cons_of_pos (by simpa using h), if_pos h, List.length_cons]; omega
    · rw [List.filter_cons_of_neg (by simpa using h), if_neg h]; omega
theorem e_qjump {T B : List Int} (h : RowP T B) {n : Int} (hn : 0 < n) : F_q_jump [(false, pd T), (false, pd B), (false, .int n)] = .ret false (.int (JP T B n)) [] := by
  refine fn_of (P := fun R => R = .ret false (.int (JP T B n)) []) ?_
  unfold B_q_jump
  rw [show startE 4 [(false, pd T), (false, pd B), (false, .int n)] = [some (.val (pd T)), some (.val (pd B)), some (.val (.int n)), none] from rfl]
  have c1 := jp_comp (T := T) (B := B) h.lt.lx hn (f := dVar 0) rfl
  have c2 := jp_comp (T := T) (B := B) h.lt.ly hn (f := dVar 1) rfl
  refine wp_rt (ρ' := [some (.val (pd T)), some (.val (pd B)), some (.val (.int n)), none]) (fr := false) (d := .int (JP T B n)) ?_ ⟨[], rfl, rfl⟩
  unfold JP
  rw [jg_sum, jg_sum]
  exact sub_of (len_of c1) (len_of c2)
end K14

namespace K14
open PySem DF
theorem low_of {t b : Int} (ht : 0 ≤ t) (hb : 0 < b) : ∃ p q : Int, 0 ≤ p ∧ p ≤ t ∧ 0 < q ∧ q ≤ b ∧ Nat.gcd p.natAbs q.natAbs = 1 ∧ t.fdiv ((Nat.gcd t.natAbs b.natAbs : Nat) : Int) = p ∧ b.fdiv ((Nat.gcd t.natAbs b.natAbs : Nat) : Int) = q ∧ (Nat.gcd t.natAbs b.natAbs = 1 → p = t ∧ q = b) := by
  obtain ⟨u, rfl⟩ : ∃ u : Nat, t = u := ⟨t.natAbs, by omega⟩
  obtain ⟨v, rfl⟩ : ∃ v : Nat, b = v := ⟨b.natAbs, by omega⟩
  rw [Int.natAbs_natCast, Int.natAbs_natCast]
  have gp : 0 < Nat.gcd u v := Nat.gcd_pos_of_pos_right _ (by omega)
  refine ⟨((u / Nat.gcd u v : Nat) : Int), ((v / Nat.gcd u v : Nat) : Int), Int.natCast_nonneg _, ?_, ?_, ?_, ?_, ?_, ?_, ?_⟩
  · have := Nat.div_le_self u (Nat.gcd u v); omega
  · have := Nat.div_pos (Nat.le_of_dvd (by omega) (Nat.gcd_dvd_right u v)) gp; omega
  · have := Nat.div_le_self v (Nat.gcd u v); omega
  · rw [Int.natAbs_natCast, Int.natAbs_natCast, Nat.gcd_div (Nat.gcd_dvd_left u v) (Nat.gcd_dvd_right u v), Nat.div_self gp]
  · rw [fd (by omega), Int.natCast_ediv]
  · rw [fd (by omega), Int.natCast_ediv]
  · intro h; rw [h, Nat.div_one, Nat.div_one]; exact ⟨rfl, rfl⟩
theorem e_lowest {t b : Int} (ht : 0 ≤ t) (ht2 : t ≤ NR) (hb : 0 < b) (hb2 : b ≤ NR) : ∃ p q : Int, RatP p q ∧ p ≤ t ∧ q ≤ b ∧ F_q_lowest [(false, .int t), (false, .int b)] = .ret false (rt p q) [] ∧ (Nat.gcd t.natAbs b.natAbs = 1 → p = t ∧ q = b) := by
  obtain ⟨p, q, p0, p1, q0, q1, g1, e1, e2, hh⟩ := low_of ht hb
  have ec : F_q_common [(false, .lst [.int t, .int b])] = .ret false (.int (Nat.gcd t.natAbs b.natAbs : Nat)) [] := e_common t b
  have gp : 0 < Nat.gcd t.natAbs b.natAbs := Nat.gcd_pos_of_pos_right _ (by omega)
  have gb : Nat.gcd t.natAbs b.natAbs ≤ b.natAbs := Nat.le_of_dvd (by omega) (Nat.gcd_dvd_right _ _)
  refine ⟨p, q, ⟨p0, by omega, q0, by omega, g1⟩, p1, q1, ?_, hh⟩
  unfold NR at hb2
  generalize Nat.gcd t.natAbs b.natAbs = g at *
  have m1 := mulD_ap (i := (g : Int)) (j := 1) (cm (sm_of (by omega)) (sm_of (by decide)))
  rw [Int.mul_one] at m1
  have d1 := divD_ap (cd (i := t) (show (g : Int) ≠ 0 by omega) (sm_of (by omega)))
  have d2 := divD_ap (cd (i := b) (show (g : Int) ≠ 0 by omega) (sm_of (by omega)))
  rw [e1] at d1
  rw [e2] at d2
  unfold F_q_lowest B_q_lowest
  simp [eqY_int, neY_int, max2_ap, min2_ap, DF.R.bind_ok, DF.R.bindS_ok, DF.R.bindN_ok, DF.SR.bind_nx, DF.SR.bind_ret, ofO, ths, setV, setF, free, set2, set3, fnRes, startE, startC, outs, argsD, putD, ioIx, isMu, look, DF.muL, ltD_ap, leD_ap, gtD_ap, geD_ap, addD_ap, subD_ap, negD_ap, absD_ap, intD_ap, intD_apB, eq_int, ne_int, ixD, L2.atI, L2.ixN, lenD, gcdD, max2D, min2D, ec, hb, m1, d1, d2]
theorem p12 : powD (.int 10) (.int 12) = some (.int 1000000000000) := powD_ap (by decide +kernel)
theorem p20 : powD (.int 10) (.int 20) = some (.int 100000000000000000000) := powD_ap (by decide +kernel)
theorem p40 : powD (.int 10) (.int 40) = some (.int 10000000000000000000000000000000000000000) := powD_ap (by decide +kernel)
theorem p15 : powD (.int 10) (.int 15) = some (.int 1000000000000000) := powD_ap (by decide +kernel)
/-- a drawn ratio -/
def SRt (n : Nat) (R : FRes) : Prop := ∃ (a b : Int) (d' : D), RatP a b ∧ a ≤ 10 ^ 41 ∧ b ≤ 10 ^ 23 ∧ Bag n d' ∧ R = .ret false (rt a b) [d']
abbrev srE (d : D) (m w k : Int) : DEnv := [some (.mu true d), some (.val (.int m)), some (.val (.int w)), some (.val (.int k))]
theorem sr0 {n : Nat} {d : D} {m : Int} (h : Bag n d) (hn : n ≤ 900000) : ∃ (w k : Int) (d' : D), 0 ≤ w ∧ w < 4 ∧ 1 ≤ k ∧ k ≤ 1000000000000 ∧ Bag (n + 2) d' ∧ (dPar 2 3 (vCons (dV (dCal2 2 F_q_grab (rIo 0 (rVal (dC (.int 4)) (rNil))))) (vCons (dV (dCal2 2 F_q_one_of (rIo 0 (rVal (dLst (vCons (dC (.int 7)) (vCons (dC (.int 60)) (vCons (dC (.int 840)) (vCons (dBin powD (oD (dC (.int 10))) (oD (dC (.int 12)))) (vNil)))))) (rNil))))) (vNil)))) [some (.mu true d), some (.val (.int m)), none, none] = .nx (srE d' m w k) := by
  obtain ⟨w, d1, w0, w1, h1, e1⟩ := e_grab (t := 4) h (by omega) (by decide) (sm_of (by decide))
  obtain ⟨k, hk, d2, h2, e2⟩ := e_one_int (l := [7, 60, 840, 1000000000000]) h1 (by omega) (by decide) (by decide)
  have e2' : F_q_one_of [(true, d1), (false, .lst [.int 7, .int 60, .int 840, .int 1000000000000])] = .ret false (.int k) [d2] := e2
  refine ⟨w, k, d2, w0, w1, ?_, ?_, h2, ?_⟩
  · simp at hk; omega
  · simp at hk; omega
  · simp [eqY_int, neY_int, max2_ap, min2_ap, DF.R.bind_ok, DF.R.bindS_ok, DF.R.bindN_ok, DF.SR.bind_nx, DF.SR.bind_ret, ofO, ths, setV, setF, free, set2, set3, fnRes, startE, startC, outs, argsD, putD, ioIx, isMu, look, DF.muL, ltD_ap, leD_ap, gtD_ap, geD_ap, addD_ap, subD_ap, negD_ap, absD_ap, intD_ap, intD_apB, eq_int, ne_int, ixD, L2.atI, L2.ixN, lenD, gcdD, max2D, min2D, e1, e2', p12]
theorem e_someratio {n : Nat} {d : D} {m : Int} (h : Bag n d) (hn : n ≤ 800000) (hm : 1 ≤ m ∧ m ≤ 60) : SRt (n + 4) (F_q_some_ratio [(true, d), (false, .int m)]) := by
  refine fn_of (P := fun R => SRt (n + 4) R) ?_
  unfold B_q_some_ratio
  rw [show startE 4 [(true, d), (false, .int m)] = [some (.mu true d), some (.val (.int m)), none, none] from rfl]
  obtain ⟨w, k, d1, w0, w1, k0, k1, h1, e0⟩ := sr0 (m := m) h (by omega)
  refine wp_seq e0 ?_
  by_cases c0 : w = 0
  · obtain ⟨g, d2, g0, g1, h2, eg⟩ := e_grab (t := m + 1) h1 (by omega) (by omega) (sm_of (by omega))
    obtain ⟨p, q, hr, hp, hq, el, _⟩ := e_lowest (t := g) (b := m) g0 (by unfold NR; omega) (by omega) (by unfold NR; omega)
    exact wp_seqR (ρ' := srE d2 m w k) (fr := false) (d := rt p q) (by simp [eqY_int, neY_int, max2_ap, min2_ap, DF.R.bind_ok, DF.R.bindS_ok, DF.R.bindN_ok, DF.SR.bind_nx, DF.SR.bind_ret, ofO, ths, setV, setF, free, set2, set3, fnRes, startE, startC, outs, argsD, putD, ioIx, isMu, look, DF.muL, ltD_ap, leD_ap, gtD_ap, geD_ap, addD_ap, subD_ap, negD_ap, absD_ap, intD_ap, intD_apB, eq_int, ne_int, ixD, L2.atI, L2.ixN, lenD, gcdD, max2D, min2D, c0, eg, el]) ⟨[d2], rfl, p, q, d2, hr, by omega, by omega, h2.mono (by omega), rfl⟩
  refine wp_seq (ρ' := srE d1 m w k) (by simp [eqY_int, neY_int, max2_ap, min2_ap, DF.R.bind_ok, DF.R.bindS_ok, DF.R.bindN_ok, DF.SR.bind_nx, DF.SR.bind_ret, ofO, ths, setV, setF, free, set2, set3, fnRes, startE, startC, outs, argsD, putD, ioIx, isMu, look, DF.muL, ltD_ap, leD_ap, gtD_ap, geD_ap, addD_ap, subD_ap, negD_ap, absD_ap, intD_ap, intD_apB, eq_int, ne_int, ixD, L2.atI, L2.ixN, lenD, gcdD, max2D, min2D, c0]) ?_
  by_cases c1 : w = 1
  · obtain ⟨g, d2, g0, g1, h2, eg⟩ := e_grab (t := m) h1 (by omega) (by omega) (sm_of (by omega))
    have m1 := mulD_ap (i := g) (j := 100000000000000000000) (cm (sm_of (by omega)) (sm_of (by omega)))
    have m2 := mulD_ap (i := m) (j := 100000000000000000000) (cm (sm_of (by omega)) (sm_of (by omega)))
    obtain ⟨p, q, hr, hp, hq, el, _⟩ := e_lowest (t := g * 100000000000000000000 + 1) (b := m * 100000000000000000000) (by omega) (by unfold NR; omega) (by omega) (by unfold NR; omega)
    exact wp_seqR (ρ' := srE d2 m w k) (fr := false) (d := rt p q) (by simp [eqY_int, neY_int, max2_ap, min2_ap, DF.R.bind_ok, DF.R.bindS_ok, DF.R.bindN_ok, DF.SR.bind_nx, DF.SR.bind_ret, ofO, ths, setV, setF, free, set2, set3, fnRes, startE, startC, outs, argsD, putD, ioIx, isMu, look, DF.muL, ltD_ap, leD_ap, gtD_ap, geD_ap, addD_ap, subD_ap, negD_ap, absD_ap, intD_ap, intD_apB, eq_int, ne_int, ixD, L2.atI, L2.ixN, lenD, gcdD, max2D, min2D, c1, eg, p20, m1, m2, el]) ⟨[d2], rfl, p, q, d2, hr, by omega, by omega, h2.mono (by omega), rfl⟩
  refine wp_seq (ρ' := srE d1 m w k) (by simp [eqY_int, neY_int, max2_ap, min2_ap, DF.R.bind_ok, DF.R.bindS_ok, DF.R.bindN_ok, DF.SR.bind_nx, DF.SR.bind_ret, ofO, ths, setV, setF, free, set2, set3, fnRes, startE, startC, outs, argsD, putD, ioIx, isMu, look, DF.muL, ltD_ap, leD_ap, gtD_ap, geD_ap, addD_ap, subD_ap, negD_ap, absD_ap, intD_ap, intD_apB, eq_int, ne_int, ixD, L2.atI, L2.ixN, lenD, gcdD, max2D, min2D, c1]) ?_
  by_cases c2 : w = 2
  · obtain ⟨g, d2, g0, g1, h2, eg⟩ := e_grab (t := m) h1 (by omega) (by omega) (sm_of (by omega))
    have m1 := mulD_ap (i := 1 + g) (j := 100000000000000000000) (cm (sm_of (by omega)) (sm_of (by omega)))
    have m2 := mulD_ap (i := m) (j := 100000000000000000000) (cm (sm_of (by omega)) (sm_of (by omega)))
    obtain ⟨p, q, hr, hp, hq, el, _⟩ := e_lowest (t := (1 + g) * 100000000000000000000 - 1) (b := m * 100000000000000000000) (by omega) (by unfold NR; omega) (by omega) (by unfold NR; omega)
    exact wp_seqR (ρ' := srE d2 m w k) (fr := false) (d := rt p q) (by simp [eqY_int, neY_int, max2_ap, min2_ap, DF.R.bind_ok, DF.R.bindS_ok, DF.R.bindN_ok, DF.SR.bind_nx, DF.SR.bind_ret, ofO, ths, setV, setF, free, set2, set3, fnRes, startE, startC, outs, argsD, putD, ioIx, isMu, look, DF.muL, ltD_ap, leD_ap, gtD_ap, geD_ap, addD_ap, subD_ap, negD_ap, absD_ap, intD_ap, intD_apB, eq_int, ne_int, ixD, L2.atI, L2.ixN, lenD, gcdD, max2D, min2D, c2, eg, p20, m1, m2, el]) ⟨[d2], rfl, p, q, d2, hr, by omega, by omega, h2.mono (by omega), rfl⟩
  refine wp_seq (ρ' := srE d1 m w k) (by simp [eqY_int, neY_int, max2_ap, min2_ap, DF.R.bind_ok, DF.R.bindS_ok, DF.R.bindN_ok, DF.SR.bind_nx, DF.SR.bind_ret, ofO, ths, setV, setF, free, set2, set3, fnRes, startE, startC, outs, argsD, putD, ioIx, isMu, look, DF.muL, ltD_ap, leD_ap, gtD_ap, geD_ap, addD_ap, subD_ap, negD_ap, absD_ap, intD_ap, intD_apB, eq_int, ne_int, ixD, L2.atI, L2.ixN, lenD, gcdD, max2D, min2D, c2]) ?_
  obtain ⟨g, d2, g0, g1, h2, eg⟩ := e_grab (t := 10000000000000000000000000000000000000000) h1 (by omega) (by decide) (sm_of (by decide))
  obtain ⟨u, d3, u0, u1, h3, eu⟩ := e_grab (t := k) h2 (by omega) (by omega) (sm_of (by omega))
  obtain ⟨p, q, hr, hp, hq, el, _⟩ := e_lowest (t := g) (b := 1 + u) g0 (by unfold NR; omega) (by omega) (by unfold NR; omega)
  exact wp_rt (ρ' := srE d3 m w k) (fr := false) (d := rt p q) (by simp [eqY_int, neY_int, max2_ap, min2_ap, DF.R.bind_ok, DF.R.bindS_ok, DF.R.bindN_ok, DF.SR.bind_nx, DF.SR.bind_ret, ofO, ths, setV, setF, free, set2, set3, fnRes, startE, startC, outs, argsD, putD, ioIx, isMu, look, DF.muL, ltD_ap, leD_ap, gtD_ap, geD_ap, addD_ap, subD_ap, negD_ap, absD_ap, intD_ap, intD_apB, eq_int, ne_int, ixD, L2.atI, L2.ixN, lenD, gcdD, max2D, min2D, eg, eu, p40, el]) ⟨[d3], rfl, p, q, d3, hr, by omega, by omega, h3.mono (by omega), rfl⟩
theorem gcd_shift (a b m : Int) (ha : 0 ≤ a) (hb : 0 < b) (hm : 0 ≤ m) (h : Nat.gcd a.natAbs b.natAbs = 1) : Nat.gcd (a + m * b).natAbs b.natAbs = 1 := by
  obtain ⟨u, rfl⟩ : ∃ u : Nat, a = u := ⟨a.natAbs, by omega⟩
  obtain ⟨v, rfl⟩ : ∃ v : Nat, b = v := ⟨b.natAbs, by omega⟩
  obtain ⟨k, rfl⟩ : ∃ k : Nat, m = k := ⟨m.natAbs, by omega⟩
  rw [Int.natAbs_natCast, Int.natAbs_natCast] at h
  rw [show ((u : Int) + (k : Int) * (v : Int)) = ((u + k * v : Nat) : Int) by rw [Int.natCast_add, Int.natCast_mul], Int.natAbs_natCast, Int.natAbs_natCast]
  rw [Nat.gcd_comm, Nat.gcd_rec] 
  by_cases hv : v = 0
  · omega
  rw [Nat.add_mul_mod_self_right]
  rw [← Nat.gcd_rec, Nat.gcd_comm]
  exact h
/-- a whole part put on -/
theorem e_ratiosum {a b m : Int} (hr : RatP a b) (ha : a ≤ 10 ^ 41) (hb : b ≤ 10 ^ 23) (hm : 0 ≤ m) (hm2 : m ≤ 1000000000000000) : RatP (a + m * b) b ∧ F_q_ratio_sum [(false, rt a b), (false, rt m 1), (false, .int 1)] = .ret false (rt (a + m * b) b) [] := by
  have a0 := hr.a0
  have b0 := hr.b0
  have mb : 0 ≤ m * b := Int.mul_nonneg hm (by omega)
  have mb2 : m * b ≤ 1000000000000000 * 10 ^ 23 := Int.mul_le_mul hm2 hb (by omega) (by decide)
  have g := gcd_shift a b m a0 b0 hm hr.g
  have hbig : a + m * b ≤ NR := by unfold NR; omega
  obtain ⟨p, q, _, _, _, el, hpq⟩ := e_lowest (t := a + m * b) (b := b) (by omega) hbig b0 hr.b1
  obtain ⟨rfl, rfl⟩ := hpq g
  refine ⟨⟨by omega, hbig, b0, hr.b1, g⟩, ?_⟩
  have m1 := mulD_ap (i := a) (j := 1) (cm (sm_of (by omega)) (sm_of (by decide)))
  have m2 := mulD_ap (i := 1) (j := m) (cm (sm_of (by decide)) (sm_of (by omega)))
  have m3 := mulD_ap (i := m) (j := q) (cm (sm_of (by omega)) (sm_of (by omega)))
  have m4 := mulD_ap (i := q) (j := 1) (cm (sm_of (by omega)) (sm_of (by decide)))
  rw [Int.mul_one] at m1 m4
  rw [Int.one_mul] at m2
  generalize m * q = z at *
  unfold F_q_ratio_sum B_q_ratio_sum
  simp [eqY_int, neY_int, max2_ap, min2_ap, DF.R.bind_ok, DF.R.bindS_ok, DF.R.bindN_ok, DF.SR.bind_nx, DF.SR.bind_ret, ofO, ths, setV, setF, free, set2, set3, fnRes, startE, startC, outs, argsD, putD, ioIx, isMu, look, DF.muL, ltD_ap, leD_ap, gtD_ap, geD_ap, addD_ap, subD_ap, negD_ap, absD_ap, intD_ap, intD_apB, eq_int, ne_int, ixD, L2.atI, L2.ixN, lenD, gcdD, max2D, min2D, m1, m2, m3, m4, el]
end K14

namespace K14
open PySem DF
def Sm2 (i : Int) : Prop := i.natAbs < 2 ^ 1920
theorem sm2_of {i : Int} (h : i.natAbs ≤ 10 ^ 100) : Sm2 i := Nat.lt_of_le_of_lt h (by decide)
theorem plain_str (s : String) : plainD 9 (.str (Str.ofString s)) = true := by
  show PyData.canLay0 (.str (Str.ofString s)) = true
  unfold PyData.canLay0
  rw [Str.ofString_eq_toList]
  show Array.all (s.toList.map Char.toNat).toArray (fun x => decide (x < 0x110000)) = true
  rw [List.all_toArray, List.all_map, List.all_eq_true]
  intro c _
  show decide (c.toNat < 0x110000) = true
  refine decide_eq_true ?_
  have := c.valid
  unfold Char.toNat
  rcases this with h | h
  · have : c.val.toNat < 0xd800 := h
    omega
  · exact h.2
theorem rprI {z : Int} (h : Sm2 z) : ∃ s, rprX [.int z] = some (.str s) ∧ neY (.str s) (.str s) = some (.bl false) := by
  refine ⟨Str.ofString (toString z), ?_, ne1Y (ne_same (plain_str _))⟩
  have e : rprD [.int z] = some (.str (Str.ofString (toString z))) := by
    show (if z.natAbs.log2 < 1920 then some (D.str (Str.ofString (toString z))) else none) = _
    rw [if_pos (log2_lt (by decide) h)]
  show (match rprD [.int z] with | some z => some z | none => rprCD [.int z]) = _
  rw [e]
theorem sum_mul_one : ∀ (L : List Int) (m : Int), (L.map fun x => x * m).sum = L.sum * m
  | [], m => by simp
  | x :: L, m => by rw [List.map_cons, List.sum_cons, List.sum_cons, sum_mul_one L m, Int.add_mul]
theorem fl_shift {a b m x : Int} (hb : 0 < b) : fl (a + m * b) b x = fl a b x + x * m := by
  unfold fl
  rw [fd (by omega), fd (by omega), show x * (a + m * b) = x * a + (x * m) * b by rw [Int.mul_add, Int.mul_assoc], Int.add_mul_ediv_right _ _ (by omega)]
theorem DP_shift {T B : List Int} {a b m : Int} (hb : 0 < b) : DP T B (a + m * b) b = DP T B a b + m * (T.sum - B.sum) := by
  have go : ∀ L : List Int, (L.map (fl (a + m * b) b)).sum = (L.map (fl a b)).sum + L.sum * m := fun L => by
    rw [show L.map (fl (a + m * b) b) = L.map fun x => fl a b x + x * m from List.map_congr_left fun x _ => fl_shift hb, sum_add, sum_mul_one]
  unfold DP
  rw [go, go, Int.mul_sub, Int.mul_comm m T.sum, Int.mul_comm m B.sum]
  omega
theorem fl_mirror {a b x : Int} (ha : 0 < a) (hb : a < b) (hg : Nat.gcd a.natAbs b.natAbs = 1) : fl a b x + fl (b - a) b x = x - 1 + jg b x := by
  unfold fl jg
  have hb0 : 0 < b := by omega
  rw [fd (by omega), fd (by omega), fm hb0, show x * (b - a) = x * b + -(x * a) by rw [Int.mul_sub]; omega]
  rw [Int.add_comm (x * b), Int.add_mul_ediv_right _ _ (by omega)]
  have hdvd : x % b = 0 ↔ (x * a) % b = 0 := by
    rw [← Int.dvd_iff_emod_eq_zero, ← Int.dvd_iff_emod_eq_zero]
    constructor
    · intro h; exact Int.dvd_mul_of_dvd_left h
    · intro h
      rw [← Int.natAbs_dvd_natAbs, Int.natAbs_mul] at h
      rw [← Int.natAbs_dvd_natAbs]
      exact Nat.Coprime.dvd_of_dvd_mul_right (by unfold Nat.Coprime; rw [Nat.gcd_comm]; exact hg) h
  have e := Int.emod_add_mul_ediv (x * a) b
  have e2 := Int.emod_add_mul_ediv (-(x * a)) b
  have r1 := Int.emod_nonneg (x * a) (show b ≠ 0 by omega)
  have r2 := Int.emod_lt_of_pos (x * a) hb0
  have r3 := Int.emod_nonneg (-(x * a)) (show b ≠ 0 by omega)
  have r4 := Int.emod_lt_of_pos (-(x * a)) hb0
  have s : (x * a) % b + (-(x * a)) % b + b * (x * a / b + -(x * a) / b) = 0 := by rw [Int.mul_add]; omega
  generalize x * a / b = p at *
  generalize -(x * a) / b = q at *
  generalize (x * a) % b = u at *
  generalize (-(x * a)) % b = v at *
  by_cases hu : u = 0
  · rw [if_pos (hdvd.mpr hu)]
    have hv : b * (p + q) = -v := by omega
    have : p + q = 0 := by
      by_cases h1 : p + q ≤ -1
      · have : b * (p + q) ≤ b * (-1) := Int.mul_le_mul_of_nonneg_left h1 (by omega)
        omega
      · by_cases h2 : 1 ≤ p + q
        · have : b * 1 ≤ b * (p + q) := Int.mul_le_mul_of_nonneg_left h2 (by omega)
          omega
        · omega
    omega
  · rw [if_neg (fun h => hu (hdvd.mp h))]
    have hv : b * (p + q) = -(u + v) := by omega
    have : p + q = -1 := by
      by_cases h1 : p + q ≤ -2
      · have : b * (p + q) ≤ b * (-2) := Int.mul_le_mul_of_nonneg_left h1 (by omega)
        omega
      · by_cases h2 : 0 ≤ p + q
        · have : b * 0 ≤ b * (p + q) := Int.mul_le_mul_of_nonneg_left h2 (by omega)
          omega
        · omega
    omega
theorem DP_mirror {T B : List Int} {a b : Int} (ha : 0 < a) (hb : a < b) (hg : Nat.gcd a.natAbs b.natAbs = 1) : DP T B a b + DP T B (b - a) b = (T.sum - B.sum) + ((B.length : Int) - (T.length : Int)) + JP T B b := by
  have go : ∀ L : List Int, (L.map (fl a b)).sum + (L.map (fl (b - a) b)).sum = L.sum - L.length + (L.map (jg b)).sum := by
    intro L
    induction L with
    | nil => rfl
    | cons x L ih =>
      have := fl_mirror (x := x) ha hb hg
      simp only [List.map_cons, List.sum_cons, List.length_cons]
      omega
  have h1 := go T
  have h2 := go B
  unfold DP JP
  omega
theorem gcd_mirror {a b : Int} (ha : 0 < a) (hb : a < b) (hg : Nat.gcd a.natAbs b.natAbs = 1) : Nat.gcd (b - a).natAbs b.natAbs = 1 := by
  rw [show (b - a).natAbs = b.natAbs - a.natAbs by omega]
  have : Nat.gcd (b.natAbs - a.natAbs) b.natAbs = Nat.gcd a.natAbs b.natAbs := by
    rw [Nat.gcd_comm, Nat.gcd_comm a.natAbs]
    exact Nat.gcd_self_sub_right (by omega)
  rw [this, hg]
theorem JP_one (T B : List Int) : JP T B 1 = (T.length : Int) - (B.length : Int) := by
  have go : ∀ L : List Int, (L.map (jg 1)).sum = (L.length : Int) := by
    intro L
    induction L with
    | nil => rfl
    | cons x L ih =>
      have : jg 1 x = 1 := by unfold jg; rw [fm (by decide), if_pos (by omega)]
      rw [List.map_cons, List.sum_cons, ih, this, List.length_cons]; omega
  unfold JP
  rw [go, go]
theorem DP_zero (T B : List Int) : DP T B 0 1 = 0 := by
  have go : ∀ L : List Int, (L.map (fl 0 1)).sum = 0 := by
    intro L
    induction L with
    | nil => rfl
    | cons x L ih =>
      have : fl 0 1 x = 0 := by unfold fl; rw [Int.mul_zero]; rfl
      rw [List.map_cons, List.sum_cons, ih, this]; rfl
  unfold DP
  rw [go, go]; rfl
end K14

namespace K14
open PySem DF
abbrev riE (d : D) (T B : List Int) (q : D) (ex ht : Int) (c7 c8 c9 c10 c11 c12 : Option D) : DEnv := [some (.mu true d), some (.val (pd T)), some (.val (pd B)), some (.val q), some (.val (.int ex)), some (.val (.int ht)), some (.val (ld (T ++ B))), c7.map Cell.val, c8.map Cell.val, c9.map Cell.val, c10.map Cell.val, c11.map Cell.val, c12.map Cell.val]
section
variable {T B ks : List Int} {n : Nat} {d q : D} {ex ht : Int} {c7 c8 c9 c10 c11 c12 : Option D}
theorem rt0 (h : Bag n d) (hn : n ≤ 700000) (hP : RowP T B) : ∃ (a b : Int) (d' : D), RatP a b ∧ a ≤ 10 ^ 41 ∧ b ≤ 10 ^ 23 ∧ Bag (n + 5) d' ∧ (dSet 8 (dV (dCal2 2 F_q_some_ratio (rIo 0 (rVal (dV (dCal2 2 F_q_one_of (rIo 0 (rVal (dVar 6) (rNil))))) (rNil)))))) (riE d T B q ex ht c7 c8 c9 c10 c11 c12) = .nx (riE d' T B q ex ht c7 (some (rt a b)) c9 c10 c11 c12) := by
  have l1 : 0 < (T ++ B).length := List.length_pos_iff.mpr hP.lt.ne
  have l2 : (T ++ B).length ≤ 16 := by have := hP.lt.lx; have := hP.lt.ly; rw [List.length_append]; omega
  obtain ⟨m, hm, d1, h1, e1⟩ := e_one_int (l := T ++ B) h (by omega) l1 (by omega)
  obtain ⟨a, b, d2, hr, ha, hb, h2, e2⟩ := e_someratio (m := m) h1 (by omega) (hP.lt.bd m hm)
  refine ⟨a, b, d2, hr, ha, hb, h2, ?_⟩
  cases c8 <;> simp [eqY_int, neY_int, max2_ap, min2_ap, DF.R.bind_ok, DF.R.bindS_ok, DF.R.bindN_ok, DF.SR.bind_nx, DF.SR.bind_ret, ofO, ths, setV, setF, free, set2, set3, fnRes, startE, startC, outs, argsD, putD, ioIx, isMu, look, DF.muL, ltD_ap, leD_ap, gtD_ap, geD_ap, addD_ap, subD_ap, negD_ap, absD_ap, intD_ap, intD_apB, eq_int, ne_int, ixD, L2.atI, L2.ixN, lenD, gcdD, max2D, min2D, e1, e2]
theorem rt1 (h : Bag n d) (hn : n ≤ 700000) (hP : RowP T B) {a b : Int} (hr : RatP a b) : ∃ (m : Int) (d' : D), 0 ≤ m ∧ m ≤ 1000000000000000 ∧ Bag (n + 1) d' ∧ (dPar 9 10 (vCons (dV (dCal2 3 F_q_depth (rVal (dVar 1) (rVal (dVar 2) (rVal (dVar 8) (rNil)))))) (vCons (dV (dCal2 2 F_q_grab (rIo 0 (rVal (dBin powD (oD (dC (.int 10))) (oD (dC (.int 15)))) (rNil))))) (vNil)))) (riE d T B q ex ht c7 (some (rt a b)) c9 c10 c11 c12) = .nx (riE d' T B q ex ht c7 (some (rt a b)) (some (.int (DP T B a b))) (some (.int m)) c11 c12) := by
  obtain ⟨m, d1, m0, m1, h1, e1⟩ := e_grab (t := 1000000000000000) h (by omega) (by decide) (sm_of (by decide))
  have e2 := e_qdepth hP hr.a0 hr.a1 hr.b0 hr.b1
  refine ⟨m, d1, m0, by omega, h1, ?_⟩
  generalize DP T B a b = H at *
  cases c9 <;> cases c10 <;> simp [eqY_int, neY_int, max2_ap, min2_ap, DF.R.bind_ok, DF.R.bindS_ok, DF.R.bindN_ok, DF.SR.bind_nx, DF.SR.bind_ret, ofO, ths, setV, setF, free, set2, set3, fnRes, startE, startC, outs, argsD, putD, ioIx, isMu, look, DF.muL, ltD_ap, leD_ap, gtD_ap, geD_ap, addD_ap, subD_ap, negD_ap, absD_ap, intD_ap, intD_apB, eq_int, ne_int, ixD, L2.atI, L2.ixN, lenD, gcdD, max2D, min2D, e1, e2, p15]
theorem rt2 {a b m H : Int} (hm : 0 ≤ m ∧ m ≤ 1000000000000000) (hex : -500 ≤ ex ∧ ex ≤ 500) (hH : Sm2 H) (e1 : F_depth [(false, q), (false, rt a b)] = .ret false (.int H) []) (e2 : F_q_ratio_sum [(false, rt a b), (false, rt m 1), (false, .int 1)] = .ret false (rt (a + m * b) b) []) (e3 : F_depth [(false, q), (false, rt (a + m * b) b)] = .ret false (.int (H + m * ex)) []) :
    (dIf (dOr (dTst (dBin neY (oD (dCal rprX (aCons (oD (dV (dCal2 2 F_depth (rVal (dVar 3) (rVal (dVar 8) (rNil)))))) (aNil)))) (oD (dCal rprX (aCons (oVar 9) (aNil)))))) (dTst (dBin neY (oD (dV (dCal2 2 F_depth (rVal (dVar 3) (rVal (dV (dCal2 3 F_q_ratio_sum (rVal (dVar 8) (rVal (dTup (vCons (dVar 10) (vCons (dC (.int 1)) (vNil)))) (rVal (dC (.int 1)) (rNil)))))) (rNil)))))) (oD (dBin addD (oVar 9) (oD (dBin mulD (oVar 10) (oVar 4)))))))) (dRet (dC (.bl false))) (SR.nx)) (riE d T B q ex ht c7 (some (rt a b)) (some (.int H)) (some (.int m)) c11 c12) = .nx (riE d T B q ex ht c7 (some (rt a b)) (some (.int H)) (some (.int m)) c11 c12) := by
  obtain ⟨s, s1, s2⟩ := rprI hH
  have m1 := mulD_ap (i := m) (j := ex) (cm (sm_of (by omega)) (sm_of (by omega)))
  generalize m * ex = z at *
  generalize a + m * b = y at *
  generalize rprX = g at *
  simp [eqY_int, neY_int, max2_ap, min2_ap, DF.R.bind_ok, DF.R.bindS_ok, DF.R.bindN_ok, DF.SR.bind_nx, DF.SR.bind_ret, ofO, ths, setV, setF, free, set2, set3, fnRes, startE, startC, outs, argsD, putD, ioIx, isMu, look, DF.muL, ltD_ap, leD_ap, gtD_ap, geD_ap, addD_ap, subD_ap, negD_ap, absD_ap, intD_ap, intD_apB, eq_int, ne_int, ixD, L2.atI, L2.ixN, lenD, gcdD, max2D, min2D, e1, e2, e3, s1, s2, m1]
theorem rt3 {a b H Mi J : Int} (e1 : 0 < a → a < b → F_depth [(false, q), (false, rt (b - a) b)] = .ret false (.int Mi) []) (e2 : F_q_jump [(false, pd T), (false, pd B), (false, .int b)] = .ret false (.int J) []) (e3 : 0 < a → a < b → H + Mi = ex + ht + J) :
    ∃ c11' : Option D, (dIf (dAnd (dTst (dBin ltD (oD (dBin ixD (oVar 8) (oD (dC (.int 0))))) (oD (dBin ixD (oVar 8) (oD (dC (.int 1))))))) (dTst (dBin gtD (oD (dBin ixD (oVar 8) (oD (dC (.int 0))))) (oD (dC (.int 0)))))) (dSeq (dSet 11 (dV (dCal2 2 F_depth (rVal (dVar 3) (rVal (dTup (vCons (dBin subD (oD (dBin ixD (oVar 8) (oD (dC (.int 1))))) (oD (dBin ixD (oVar 8) (oD (dC (.int 0)))))) (vCons (dBin ixD (oVar 8) (oD (dC (.int 1)))) (vNil)))) (rNil))))))
    (dIf (dTst (dBin neY (oD (dBin addD (oVar 9) (oVar 11))) (oD (dBin addD (oD (dBin addD (oVar 4) (oVar 5))) (oD (dV (dCal2 3 F_q_jump (rVal (dVar 1) (rVal (dVar 2) (rVal (dBin ixD (oVar 8) (oD (dC (.int 1)))) (rNil))))))))))) (dRet (dC (.bl false))) (SR.nx))) (SR.nx)) (riE d T B q ex ht c7 (some (rt a b)) (some (.int H)) c10 c11 c12) = .nx (riE d T B q ex ht c7 (some (rt a b)) (some (.int H)) c10 c11' c12) := by
  by_cases h1 : a < b
  · by_cases h2 : 0 < a
    · refine ⟨some (.int Mi), ?_⟩
      have e1 := e1 h2 h1
      have e3 := e3 h2 h1
      cases c11 <;> simp [eqY_int, neY_int, max2_ap, min2_ap, DF.R.bind_ok, DF.R.bindS_ok, DF.R.bindN_ok, DF.SR.bind_nx, DF.SR.bind_ret, ofO, ths, setV, setF, free, set2, set3, fnRes, startE, startC, outs, argsD, putD, ioIx, isMu, look, DF.muL, ltD_ap, leD_ap, gtD_ap, geD_ap, addD_ap, subD_ap, negD_ap, absD_ap, intD_ap, intD_apB, eq_int, ne_int, ixD, L2.atI, L2.ixN, lenD, gcdD, max2D, min2D, h1, h2, e1, e2, e3]
    · exact ⟨c11, by simp [eqY_int, neY_int, max2_ap, min2_ap, DF.R.bind_ok, DF.R.bindS_ok, DF.R.bindN_ok, DF.SR.bind_nx, DF.SR.bind_ret, ofO, ths, setV, setF, free, set2, set3, fnRes, startE, startC, outs, argsD, putD, ioIx, isMu, look, DF.muL, ltD_ap, leD_ap, gtD_ap, geD_ap, addD_ap, subD_ap, negD_ap, absD_ap, intD_ap, intD_apB, eq_int, ne_int, ixD, L2.atI, L2.ixN, lenD, gcdD, max2D, min2D, h1, h2]⟩
  · exact ⟨c11, by simp [eqY_int, neY_int, max2_ap, min2_ap, DF.R.bind_ok, DF.R.bindS_ok, DF.R.bindN_ok, DF.SR.bind_nx, DF.SR.bind_ret, ofO, ths, setV, setF, free, set2, set3, fnRes, startE, startC, outs, argsD, putD, ioIx, isMu, look, DF.muL, ltD_ap, leD_ap, gtD_ap, geD_ap, addD_ap, subD_ap, negD_ap, absD_ap, intD_ap, intD_apB, eq_int, ne_int, ixD, L2.atI, L2.ixN, lenD, gcdD, max2D, min2D, h1]⟩
end
theorem sum_bd : ∀ (L : List Int), (∀ x ∈ L, 1 ≤ x ∧ x ≤ 60) → 0 ≤ L.sum ∧ L.sum ≤ 60 * (L.length : Int)
  | [], _ => by simp
  | x :: L, h => by
    have := sum_bd L fun y hy => h y (List.mem_cons_of_mem _ hy)
    have := h x List.mem_cons_self
    rw [List.sum_cons, List.length_cons]; omega
theorem DP_bd {T B : List Int} (h : RowP T B) {a b : Int} (hr : RatP a b) : Sm2 (DP T B a b) := by
  have go : ∀ (L : List Int), (∀ x ∈ L, 1 ≤ x ∧ x ≤ 60) → 0 ≤ (L.map (fl a b)).sum ∧ (L.map (fl a b)).sum ≤ (L.length : Int) * (60 * NR) := by
    intro L hL
    induction L with
    | nil => simp
    | cons x L ih =>
      have q := ih fun y hy => hL y (List.mem_cons_of_mem _ hy)
      have f := fl_bd hr.a0 hr.b0 (hL x List.mem_cons_self)
      have := hr.a1
      rw [List.map_cons, List.sum_cons, List.length_cons]
      unfold NR at *
      omega
  have g1 := go T fun x hx => h.lt.bd x (List.mem_append.mpr (.inl hx))
  have g2 := go B fun x hx => h.lt.bd x (List.mem_append.mpr (.inr hx))
  have := h.lt.lx
  have := h.lt.ly
  refine sm2_of ?_
  unfold DP
  unfold NR at *
  omega
theorem JP_bd {T B : List Int} (h : RowP T B) (n : Int) : Sm2 (JP T B n) := by
  unfold JP
  rw [jg_sum, jg_sum]
  have := List.length_filter_le (fun x => decide (x.fmod n = 0)) T
  have := List.length_filter_le (fun x => decide (x.fmod n = 0)) B
  have := h.lt.lx
  have := h.lt.ly
  exact sm2_of (by omega)
end K14

namespace K14
open PySem DF
theorem jm {T B ks : List Int} {d q : D} {ex ht J n : Int} {c7 c8 c9 c10 c11 : Option D} (hJ : Sm2 J) (e1 : F_jump [(false, q), (false, .int n)] = .ret false (.int J) []) (e2 : F_q_jump [(false, pd T), (false, pd B), (false, .int n)] = .ret false (.int J) []) :
    (dIf (dTst (dBin neY (oD (dCal rprX (aCons (oD (dV (dCal2 2 F_jump (rVal (dVar 3) (rVal (dVar 12) (rNil)))))) (aNil)))) (oD (dCal rprX (aCons (oD (dV (dCal2 3 F_q_jump (rVal (dVar 1) (rVal (dVar 2) (rVal (dVar 12) (rNil))))))) (aNil)))))) (dRet (dC (.bl false))) (SR.nx)) (riE d T B q ex ht c7 c8 c9 c10 c11 (some (.int n))) = .nx (riE d T B q ex ht c7 c8 c9 c10 c11 (some (.int n))) := by
  obtain ⟨s, s1, s2⟩ := rprI hJ
  generalize rprX = g at *
  simp [eqY_int, neY_int, max2_ap, min2_ap, DF.R.bind_ok, DF.R.bindS_ok, DF.R.bindN_ok, DF.SR.bind_nx, DF.SR.bind_ret, ofO, ths, setV, setF, free, set2, set3, fnRes, startE, startC, outs, argsD, putD, ioIx, isMu, look, DF.muL, ltD_ap, leD_ap, gtD_ap, geD_ap, addD_ap, subD_ap, negD_ap, absD_ap, intD_ap, intD_apB, eq_int, ne_int, ixD, L2.atI, L2.ixN, lenD, gcdD, max2D, min2D, e1, e2, s1, s2]
theorem e_right {n : Nat} {d : D} (h : Bag n d) (hn : n ≤ 400000) : ∃ d', Bag (n + 200) d' ∧ F_q_right [(true, d)] = .ret false (.bl true) [d'] := by
  refine fn_of (P := fun R => ∃ d', Bag (n + 200) d' ∧ R = .ret false (.bl true) [d']) ?_
  unfold B_q_right
  rw [show startE 13 [(true, d)] = [some (.mu true d), none, none, none, none, none, none, none, none, none, none, none, none] from rfl]
  obtain ⟨T, B, d1, hP, h1, e0⟩ := e_row h (by omega)
  refine wp_seq (ρ' := [some (.mu true d1), some (.val (pd T)), some (.val (pd B)), none, none, none, none, none, none, none, none, none, none]) (by simp [eqY_int, neY_int, max2_ap, min2_ap, DF.R.bind_ok, DF.R.bindS_ok, DF.R.bindN_ok, DF.SR.bind_nx, DF.SR.bind_ret, ofO, ths, setV, setF, free, set2, set3, fnRes, startE, startC, outs, argsD, putD, ioIx, isMu, look, DF.muL, ltD_ap, leD_ap, gtD_ap, geD_ap, addD_ap, subD_ap, negD_ap, absD_ap, intD_ap, intD_apB, eq_int, ne_int, ixD, L2.atI, L2.ixN, lenD, gcdD, max2D, min2D, e0]) ?_
  obtain ⟨ks, hK, eq⟩ := e_quot T B hP
  have hq : ∃ o, QO T B ks = .obj "Quotient" o := ⟨_, rfl⟩
  obtain ⟨o, ho⟩ := hq
  have sT : sumAD [pd T] = some (.int T.sum) := sumAD_tup T
  have sB : sumAD [pd B] = some (.int B.sum) := sumAD_tup B
  have lT := len_pd T
  have lB := len_pd B
  have a1 := add_tt (T.map D.int) (B.map D.int) (by have := hP.lt.lx; have := hP.lt.ly; simp; omega)
  rw [← List.map_append] at a1
  refine wp_seq (ρ' := [some (.mu true d1), some (.val (pd T)), some (.val (pd B)), some (.val (QO T B ks)), some (.val (.int (T.sum - B.sum))), none, none, none, none, none, none, none, none]) ?_ ?_
  · rw [ho] at eq ⊢
    simp [eqY_int, neY_int, max2_ap, min2_ap, DF.R.bind_ok, DF.R.bindS_ok, DF.R.bindN_ok, DF.SR.bind_nx, DF.SR.bind_ret, ofO, ths, setV, setF, free, set2, set3, fnRes, startE, startC, outs, argsD, putD, ioIx, isMu, look, DF.muL, ltD_ap, leD_ap, gtD_ap, geD_ap, addD_ap, subD_ap, negD_ap, absD_ap, intD_ap, intD_apB, eq_int, ne_int, ixD, L2.atI, L2.ixN, lenD, gcdD, max2D, min2D, eq, sT, sB]
  refine wp_seq (ρ' := riE d1 T B (QO T B ks) (T.sum - B.sum) (B.length - T.length) none none none none none none) ?_ ?_
  · generalize QO T B ks = q at *
    have a1' : addD (pd T) (pd B) = some (pd (T ++ B)) := a1
    simp [eqY_int, neY_int, max2_ap, min2_ap, DF.R.bind_ok, DF.R.bindS_ok, DF.R.bindN_ok, DF.SR.bind_nx, DF.SR.bind_ret, ofO, ths, setV, setF, free, set2, set3, fnRes, startE, startC, outs, argsD, putD, ioIx, isMu, look, DF.muL, ltD_ap, leD_ap, gtD_ap, geD_ap, addD_ap, subD_ap, negD_ap, absD_ap, intD_ap, intD_apB, eq_int, ne_int, ixD, L2.atI, L2.ixN, lenD, gcdD, max2D, min2D, lT, lB, a1', seqOf]
  have bT := sum_bd T fun x hx => hP.lt.bd x (List.mem_append.mpr (.inl hx))
  have bB := sum_bd B fun x hx => hP.lt.bd x (List.mem_append.mpr (.inr hx))
  have kT := hP.lt.lx
  have kB := hP.lt.ly
  have hex : -500 ≤ T.sum - B.sum ∧ T.sum - B.sum ≤ 500 := by omega
  have dep : ∀ {a b : Int}, RatP a b → F_depth [(false, QO T B ks), (false, rt a b)] = .ret false (.int (DP T B a b)) [] := fun hr => e_depth hP hK hr
  have jmp : ∀ {m : Int}, 1 ≤ m → m ≤ 2520 → F_jump [(false, QO T B ks), (false, .int m)] = .ret false (.int (JP T B m)) [] := fun a b => e_jump hK a b
  generalize QO T B ks = q at *
  clear eq ho
  refine wp_seqW (Q := fun ρ => ∃ (d' : D) (c7 c8 c9 c10 c11 : Option D), ρ = riE d' T B q (T.sum - B.sum) (B.length - T.length) c7 c8 c9 c10 c11 none ∧ Bag (n + 160) d') ?_ ?_
  · refine wp_forS (ρ' := riE d1 T B q (T.sum - B.sum) (B.length - T.length) none none none none none none) (l := rng 0 6) rfl ?_
    refine wp_for (ι := Int) D.int (fun r ρ => ∃ (d' : D) (c7 c8 c9 c10 c11 : Option D), ρ = riE d' T B q (T.sum - B.sum) (B.length - T.length) c7 c8 c9 c10 c11 none ∧ r.length ≤ 6 ∧ Bag (n + 160 - 8 * r.length) d') ?_ ?_ [0, 1, 2, 3, 4, 5] _ ⟨d1, none, none, none, none, none, rfl, by decide, h1.mono (by show n + 110 ≤ n + 160 - 48; omega)⟩
    · rintro x r ρ ⟨d', c7, c8, c9, c10, c11, rfl, hr, hb⟩
      rw [List.length_cons] at hr hb
      refine ⟨riE d' T B q (T.sum - B.sum) (B.length - T.length) (some (.int x)) c8 c9 c10 c11 none, by cases c7 <;> rfl, ?_⟩
      obtain ⟨a, b, d2, hR, ha, hbb, h2, e1⟩ := rt0 (q := q) (ex := T.sum - B.sum) (ht := B.length - T.length) (c7 := some (.int x)) (c8 := c8) (c9 := c9) (c10 := c10) (c11 := c11) (c12 := none) hb (by omega) hP
      refine wp_seq e1 ?_
      obtain ⟨m, d3, m0, m1, h3, e2⟩ := rt1 (q := q) (ex := T.sum - B.sum) (ht := B.length - T.length) (c7 := some (.int x)) (c9 := c9) (c10 := c10) (c11 := c11) (c12 := none) h2 (by omega) hP hR
      refine wp_seq e2 ?_
      obtain ⟨hR2, ers⟩ := e_ratiosum hR ha hbb m0 m1
      have ed2 := dep hR2
      rw [DP_shift hR.b0] at ed2
      refine wp_seq (rt2 ⟨m0, m1⟩ hex (DP_bd hP hR) (dep hR) ers ed2) ?_
      obtain ⟨c11', e3⟩ := rt3 (T := T) (B := B) (d := d3) (q := q) (ex := T.sum - B.sum) (ht := (B.length : Int) - T.length) (c7 := some (.int x)) (c10 := some (.int m)) (c11 := c11) (c12 := none) (a := a) (b := b) (H := DP T B a b) (Mi := DP T B (b - a) b) (J := JP T B b) (fun p1 p2 => dep ⟨by omega, by have := hR.b1; omega, hR.b0, hR.b1, gcd_mirror p1 p2 hR.g⟩) (e_qjump hP hR.b0) (fun p1 p2 => DP_mirror p1 p2 hR.g)
      exact wp_nx e3 ⟨d3, some (.int x), some (rt a b), some (.int (DP T B a b)), some (.int m), c11', rfl, by omega, h3.mono (by omega)⟩
    · rintro ρ ⟨d', c7, c8, c9, c10, c11, rfl, hr, hb⟩
      exact ⟨d', c7, c8, c9, c10, c11, rfl, by simpa using hb⟩
  rintro ρ ⟨d2, c7, c8, c9, c10, c11, rfl, h2⟩
  obtain ⟨g, d3, g0, g1, h3, eg⟩ := e_grab (t := 2520) h2 (by omega) (by decide) (sm_of (by decide))
  refine wp_seqW (Q := fun ρ => ∃ (c12 : Option D), ρ = riE d3 T B q (T.sum - B.sum) (B.length - T.length) c7 c8 c9 c10 c11 c12) ?_ ?_
  · have a2 := add_ll [.int 1, .int 2, .int 3, .int 60, .int 61, .int 2520, .int (1 + g)] ((T ++ B).map D.int) (by simp; omega)
    refine wp_forS (ρ' := riE d3 T B q (T.sum - B.sum) (B.length - T.length) c7 c8 c9 c10 c11 none) (l := ([1, 2, 3, 60, 61, 2520, 1 + g] ++ (T ++ B)).map D.int) ?_ ?_
    · have e4 : ([.int 1, .int 2, .int 3, .int 60, .int 61, .int 2520, .int (1 + g)] ++ (T ++ B).map D.int : List D) = ([1, 2, 3, 60, 61, 2520, 1 + g] ++ (T ++ B)).map D.int := by
        show ([1, 2, 3, 60, 61, 2520, 1 + g].map D.int ++ (T ++ B).map D.int) = _
        rw [← List.map_append]
      rw [e4] at a2
      generalize hm : ([1, 2, 3, 60, 61, 2520, 1 + g] ++ (T ++ B)).map D.int = L at *
      have a2' : addD (.lst [.int 1, .int 2, .int 3, .int 60, .int 61, .int 2520, .int (1 + g)]) (ld (T ++ B)) = some (.lst L) := a2
      simp [eqY_int, neY_int, max2_ap, min2_ap, DF.R.bind_ok, DF.R.bindS_ok, DF.R.bindN_ok, DF.SR.bind_nx, DF.SR.bind_ret, ofO, ths, setV, setF, free, set2, set3, fnRes, startE, startC, outs, argsD, putD, ioIx, isMu, look, DF.muL, ltD_ap, leD_ap, gtD_ap, geD_ap, addD_ap, subD_ap, negD_ap, absD_ap, intD_ap, intD_apB, eq_int, ne_int, ixD, L2.atI, L2.ixN, lenD, gcdD, max2D, min2D, eg, a2', seqOf]
    · refine wp_for D.int (fun r ρ => ∃ (c12 : Option D), ρ = riE d3 T B q (T.sum - B.sum) (B.length - T.length) c7 c8 c9 c10 c11 c12 ∧ ∀ x ∈ r, 1 ≤ x ∧ x ≤ 2520) ?_ ?_ ([1, 2, 3, 60, 61, 2520, 1 + g] ++ (T ++ B)) _ ⟨none, rfl, fun x hx => ?_⟩
      · rintro x r ρ ⟨c12, rfl, hx⟩
        have q1 := hx x List.mem_cons_self
        exact ⟨riE d3 T B q (T.sum - B.sum) (B.length - T.length) c7 c8 c9 c10 c11 (some (.int x)), by cases c12 <;> rfl, wp_nx (jm (ks := ks) (JP_bd hP x) (jmp q1.1 q1.2) (e_qjump hP (by omega))) ⟨some (.int x), rfl, fun y hy => hx y (List.mem_cons_of_mem _ hy)⟩⟩
      · rintro ρ ⟨c12, rfl, _⟩
        exact ⟨c12, rfl⟩
      · rcases List.mem_append.mp hx with hx | hx
        · simp only [List.mem_cons, List.not_mem_nil, or_false] at hx
          omega
        · have := hP.lt.bd x hx
          omega
  rintro ρ ⟨c12, rfl⟩
  have j1 := jmp (m := 1) (by decide) (by decide)
  have d0 := dep (a := 0) (b := 1) ⟨by decide, by decide, by decide, by decide, by decide⟩
  rw [DP_zero] at d0
  rw [JP_one] at j1
  refine wp_rt (ρ' := riE d3 T B q (T.sum - B.sum) (B.length - T.length) c7 c8 c9 c10 c11 c12) (fr := false) (d := .bl true) ?_ ⟨[d3], rfl, d3, h3.mono (by omega), rfl⟩
  have z : (T.length : Int) - B.length = 0 - (B.length - T.length) := by omega
  rw [z] at j1
  generalize (B.length : Int) - T.length = w at *
  simp [eqY_int, neY_int, max2_ap, min2_ap, DF.R.bind_ok, DF.R.bindS_ok, DF.R.bindN_ok, DF.SR.bind_nx, DF.SR.bind_ret, ofO, ths, setV, setF, free, set2, set3, fnRes, startE, startC, outs, argsD, putD, ioIx, isMu, look, DF.muL, ltD_ap, leD_ap, gtD_ap, geD_ap, addD_ap, subD_ap, negD_ap, absD_ap, intD_ap, intD_apB, eq_int, ne_int, ixD, L2.atI, L2.ixN, lenD, gcdD, max2D, min2D, j1, d0]
end K14

namespace K14
open PySem DF
def lwB : DEnv → SR := (dSeq (dSetF 2 (dN (dCal2 2 F_q_bag (rVal (dVar 0) (rVal (dVar 1) (rNil))))))
    (dIf (dOr (dNot (dTst (dV (dCal2 1 F_q_right (rIo 2 (rNil)))))) (dNot (dTst (dV (dCal2 1 F_q_right (rIo 2 (rNil))))))) (dRet (dC (.bl false))) (SR.nx)))
theorem lwB_c (F_q_bag F_q_right : Fn) {s : D} {k : Int} {c2 : Option D} {d0 d1 d2 : D} (eb : F_q_bag [(false, s), (false, .int k)] = .ret true d0 []) (e1 : F_q_right [(true, d0)] = .ret false (.bl true) [d1]) (e2 : F_q_right [(true, d1)] = .ret false (.bl true) [d2]) :
    (dSeq (dSetF 2 (dN (dCal2 2 F_q_bag (rVal (dVar 0) (rVal (dVar 1) (rNil))))))
    (dIf (dOr (dNot (dTst (dV (dCal2 1 F_q_right (rIo 2 (rNil)))))) (dNot (dTst (dV (dCal2 1 F_q_right (rIo 2 (rNil))))))) (dRet (dC (.bl false))) (SR.nx))) [some (.val s), some (.val (.int k)), c2.map (Cell.mu false), none, none, none] = .nx [some (.val s), some (.val (.int k)), some (.mu false d2), none, none, none] := by
  cases c2 <;> simp [eqY_int, neY_int, max2_ap, min2_ap, DF.R.bind_ok, DF.R.bindS_ok, DF.R.bindN_ok, DF.SR.bind_nx, DF.SR.bind_ret, ofO, ths, setV, setF, free, set2, set3, fnRes, startE, startC, outs, argsD, putD, ioIx, isMu, look, DF.muL, ltD_ap, leD_ap, gtD_ap, geD_ap, addD_ap, subD_ap, negD_ap, absD_ap, intD_ap, intD_apB, eq_int, ne_int, ixD, L2.atI, L2.ixN, lenD, gcdD, max2D, min2D, eb, e1, e2]
theorem lw_iter (ns : List Int) : ∃ K : Nat, 1 ≤ K ∧ K ≤ 3 ∧ (K ≤ ns.length ∨ (ns = [] ∧ K = 1)) ∧ (sRng1 (vCons (dCal (orC max2D maxSD) (aCons (oD (dC (.int 1))) (aCons (oD (dCal (orC min2D minSD) (aCons (oD (dC (.int 3))) (aCons (oD (dCal lenD (aCons (oVar 0) (aNil)))) (aNil))))) (aNil)))) (vNil))) [some (.val (.fro (ns.map D.int))), none, none, none, none, none] = .ok [some (.val (.fro (ns.map D.int))), none, none, none, none, none] (rng 0 K) := by
  have hr : inR ((max 1 (min 3 ns.length) : Nat) : Int) = true := by unfold inR; simp; omega
  refine ⟨max 1 (min 3 ns.length), by omega, by omega, ?_, ?_⟩
  · cases ns with
    | nil => exact .inr ⟨rfl, rfl⟩
    | cons x l => left; simp only [List.length_cons]; omega
  · have hl : (ns.map D.int).length = ns.length := List.length_map ..
    generalize ns.map D.int = L at *
    have q : (if (if (L.length : Int) < 3 then (L.length : Int) else 3) > 1 then (if (L.length : Int) < 3 then (L.length : Int) else 3) else 1) = ((max 1 (min 3 ns.length) : Nat) : Int) := by
      rw [hl]; split <;> split <;> omega
    have e : (vCons (dCal (orC max2D maxSD) (aCons (oD (dC (.int 1))) (aCons (oD (dCal (orC min2D minSD) (aCons (oD (dC (.int 3))) (aCons (oD (dCal lenD (aCons (oVar 0) (aNil)))) (aNil))))) (aNil)))) (vNil)) [some (.val (.fro L)), none, none, none, none, none] = .ok [some (.val (.fro L)), none, none, none, none, none] [.int ((max 1 (min 3 ns.length) : Nat) : Int)] := by
      rw [← q]
      simp [eqY_int, neY_int, max2_ap, min2_ap, DF.R.bind_ok, DF.R.bindS_ok, DF.R.bindN_ok, DF.SR.bind_nx, DF.SR.bind_ret, ofO, ths, setV, setF, free, set2, set3, fnRes, startE, startC, outs, argsD, putD, ioIx, isMu, look, DF.muL, ltD_ap, leD_ap, gtD_ap, geD_ap, addD_ap, subD_ap, negD_ap, absD_ap, intD_ap, intD_apB, eq_int, ne_int, ixD, L2.atI, L2.ixN, lenD, gcdD, max2D, min2D]
    rw [sRng1_ap, e, R.bind_ok]
    show (if inR ((max 1 (min 3 ns.length) : Nat) : Int) = true then DF.R.ok _ (rng 0 ((max 1 (min 3 ns.length) : Nat) : Int).toNat) else .no) = _
    rw [if_pos hr, Int.toNat_natCast]
theorem lw0 (ns : List Int) {E : Ps} (hE : ∀ (c1 : Option D) (c2 : Option D), E.nx [some (.val (.fro (ns.map D.int))), c1.map Cell.val, c2.map (Cell.mu false), none, none, none]) : Wp ((dForS (sRng1 (vCons (dCal (orC max2D maxSD) (aCons (oD (dC (.int 1))) (aCons (oD (dCal (orC min2D minSD) (aCons (oD (dC (.int 3))) (aCons (oD (dCal lenD (aCons (oVar 0) (aNil)))) (aNil))))) (aNil)))) (vNil))) (setV 1) (dSeq (dSetF 2 (dN (dCal2 2 F_q_bag (rVal (dVar 0) (rVal (dVar 1) (rNil))))))
    (dIf (dOr (dNot (dTst (dV (dCal2 1 F_q_right (rIo 2 (rNil)))))) (dNot (dTst (dV (dCal2 1 F_q_right (rIo 2 (rNil))))))) (dRet (dC (.bl false))) (SR.nx)))) [some (.val (.fro (ns.map D.int))), none, none, none, none, none]) E := by
  obtain ⟨K, K1, K3, hK, it⟩ := lw_iter ns
  refine wp_forS it ?_
  refine wp_for (fun (k : Nat) => D.int (0 + (k : Int))) (fun l ρ => (∀ k ∈ l, k < K) ∧ ∃ (c1 c2 : Option D), ρ = [some (.val (.fro (ns.map D.int))), c1.map Cell.val, c2.map (Cell.mu false), none, none, none]) ?_ ?_ (List.range K) _ ⟨fun k hk => List.mem_range.mp hk, none, none, rfl⟩
  · rintro k l ρ ⟨hl, c1, c2, rfl⟩
    have kK := hl k List.mem_cons_self
    refine ⟨[some (.val (.fro (ns.map D.int))), some (.val (.int (k : Int))), c2.map (Cell.mu false), none, none, none], by rw [Int.zero_add]; cases c1 <;> rfl, ?_⟩
    obtain ⟨d0, b0, eb⟩ := e_bag ns k (by
      rcases hK with h | ⟨h1, h2⟩
      · left; omega
      · right; exact ⟨h1, by omega⟩) (by omega)
    obtain ⟨d1, b1, e1⟩ := e_right b0 (by omega)
    obtain ⟨d2, b2, e2⟩ := e_right b1 (by omega)
    exact wp_nx (f := lwB) (lwB_c F_q_bag F_q_right eb e1 e2) ⟨fun j hj => hl j (List.mem_cons_of_mem _ hj), some (.int (k : Int)), some d2, rfl⟩
  · rintro ρ ⟨_, c1, c2, rfl⟩
    exact hE c1 c2
theorem rowG : RowP [30, 1] [15, 10, 6] := ⟨letP_of (by decide), by decide⟩
theorem rowB : RowP [4, 1] [3, 2] := ⟨letP_of (by decide), by decide⟩
theorem lw1_c (F_Quotient___init__ : Fn) {a : D} {c1 c2 : Option Cell} {o p : List (Str × D)} (e1 : F_Quotient___init__ [(true, .obj "Quotient" []), (false, .tup [.int 30, .int 1]), (false, .tup [.int 15, .int 10, .int 6])] = .ret false .non [.obj "Quotient" o]) (e2 : F_Quotient___init__ [(true, .obj "Quotient" []), (false, .tup [.int 4, .int 1]), (false, .tup [.int 3, .int 2])] = .ret false .non [.obj "Quotient" p]) :
    (dPar 3 4 (vCons (dMake "Quotient" 3 F_Quotient___init__ (vCons (dTup (vCons (dC (.int 30)) (vCons (dC (.int 1)) (vNil)))) (vCons (dTup (vCons (dC (.int 15)) (vCons (dC (.int 10)) (vCons (dC (.int 6)) (vNil))))) (vNil)))) (vCons (dMake "Quotient" 3 F_Quotient___init__ (vCons (dTup (vCons (dC (.int 4)) (vCons (dC (.int 1)) (vNil)))) (vCons (dTup (vCons (dC (.int 3)) (vCons (dC (.int 2)) (vNil)))) (vNil)))) (vNil)))) [some (.val a), c1, c2, none, none, none] = .nx [some (.val a), c1, c2, some (.val (.obj "Quotient" o)), some (.val (.obj "Quotient" p)), none] := by
  simp [eqY_int, neY_int, max2_ap, min2_ap, DF.R.bind_ok, DF.R.bindS_ok, DF.R.bindN_ok, DF.SR.bind_nx, DF.SR.bind_ret, ofO, ths, setV, setF, free, set2, set3, fnRes, startE, startC, outs, argsD, putD, ioIx, isMu, look, DF.muL, ltD_ap, leD_ap, gtD_ap, geD_ap, addD_ap, subD_ap, negD_ap, absD_ap, intD_ap, intD_apB, eq_int, ne_int, ixD, L2.atI, L2.ixN, lenD, gcdD, max2D, min2D, e1, e2]
theorem lw2_c (F_depth F_jump : Fn) {a q p : D} {c1 c2 : Option Cell} (e1 : F_depth [(false, q), (false, rt 1 2)] = .ret false (.int 0) []) (e2 : F_depth [(false, q), (false, rt 31 30)] = .ret false (.int 1) []) (e3 : F_depth [(false, p), (false, rt 11 3)] = .ret false (.int (-1)) []) (e4 : F_jump [(false, q), (false, .int 5)] = .ret false (.int (-1)) []) (e5 : F_jump [(false, p), (false, .int 1)] = .ret false (.int 0) []) :
    (dSet 5 (dLst (vCons (dV (dCal2 2 F_depth (rVal (dVar 3) (rVal (dTup (vCons (dC (.int 1)) (vCons (dC (.int 2)) (vNil)))) (rNil))))) (vCons (dV (dCal2 2 F_depth (rVal (dVar 3) (rVal (dTup (vCons (dC (.int 31)) (vCons (dC (.int 30)) (vNil)))) (rNil))))) (vCons (dV (dCal2 2 F_depth (rVal (dVar 4) (rVal (dTup (vCons (dC (.int 11)) (vCons (dC (.int 3)) (vNil)))) (rNil))))) (vCons (dV (dCal2 2 F_jump (rVal (dVar 3) (rVal (dC (.int 5)) (rNil))))) (vCons (dV (dCal2 2 F_jump (rVal (dVar 4) (rVal (dC (.int 1)) (rNil))))) (vNil)))))))) [some (.val a), c1, c2, some (.val q), some (.val p), none] = .nx [some (.val a), c1, c2, some (.val q), some (.val p), some (.val (ld [0, 1, -1, -1, 0]))] := by
  simp [eqY_int, neY_int, max2_ap, min2_ap, DF.R.bind_ok, DF.R.bindS_ok, DF.R.bindN_ok, DF.SR.bind_nx, DF.SR.bind_ret, ofO, ths, setV, setF, free, set2, set3, fnRes, startE, startC, outs, argsD, putD, ioIx, isMu, look, DF.muL, ltD_ap, leD_ap, gtD_ap, geD_ap, addD_ap, subD_ap, negD_ap, absD_ap, intD_ap, intD_apB, eq_int, ne_int, ixD, L2.atI, L2.ixN, lenD, gcdD, max2D, min2D, e1, e2, e3, e4, e5]
theorem lw3 {a q p : D} {c1 c2 : Option Cell} : (dRet (dBin eqY (oVar 5) (oD (dLst (vCons (dC (.int 0)) (vCons (dC (.int 1)) (vCons (dUn negD (oD (dC (.int 1)))) (vCons (dUn negD (oD (dC (.int 1)))) (vCons (dC (.int 0)) (vNil)))))))))) [some (.val a), c1, c2, some (.val q), some (.val p), some (.val (ld [0, 1, -1, -1, 0]))] = .ret [some (.val a), c1, c2, some (.val q), some (.val p), some (.val (ld [0, 1, -1, -1, 0]))] false (.bl true) := by
  have e : eqY (ld [0, 1, -1, -1, 0]) (.lst [.int 0, .int 1, .int (-1), .int (-1), .int 0]) = some (.bl true) := eq1Y (eq_same rfl)
  simp [eqY_int, neY_int, max2_ap, min2_ap, DF.R.bind_ok, DF.R.bindS_ok, DF.R.bindN_ok, DF.SR.bind_nx, DF.SR.bind_ret, ofO, ths, setV, setF, free, set2, set3, fnRes, startE, startC, outs, argsD, putD, ioIx, isMu, look, DF.muL, ltD_ap, leD_ap, gtD_ap, geD_ap, addD_ap, subD_ap, negD_ap, absD_ap, intD_ap, intD_apB, eq_int, ne_int, ixD, L2.atI, L2.ixN, lenD, gcdD, max2D, min2D, e]
theorem law_true (ns : List Int) (h : ns.length ≤ 63) : F_law [(false, .fro (ns.map D.int))] = .ret false (.bl true) [] := by
  unfold F_law
  refine fn_of (P := fun R => R = _) ?_
  unfold B_law
  refine wp_seqW (Q := fun ρ => ∃ (c1 c2 : Option D), ρ = [some (.val (.fro (ns.map D.int))), c1.map Cell.val, c2.map (Cell.mu false), none, none, none]) (lw0 ns ?_) ?_
  · exact fun c1 c2 => ⟨c1, c2, rfl⟩
  · rintro ρ ⟨c1, c2, rfl⟩
    obtain ⟨k1, hk1, e1⟩ := e_quot _ _ rowG
    obtain ⟨k2, hk2, e2⟩ := e_quot _ _ rowB
    have d1 := e_depth rowG hk1 (a := 1) (b := 2) ⟨by decide, by decide, by decide, by decide, by decide⟩
    have d2 := e_depth rowG hk1 (a := 31) (b := 30) ⟨by decide, by decide, by decide, by decide, by decide⟩
    have d3 := e_depth rowB hk2 (a := 11) (b := 3) ⟨by decide, by decide, by decide, by decide, by decide⟩
    have d4 := e_jump hk1 (n := 5) (by decide) (by decide)
    have d5 := e_jump hk2 (n := 1) (by decide) (by decide)
    rw [show DP [30, 1] [15, 10, 6] 1 2 = 0 by decide] at d1
    rw [show DP [30, 1] [15, 10, 6] 31 30 = 1 by decide] at d2
    rw [show DP [4, 1] [3, 2] 11 3 = -1 by decide] at d3
    rw [show JP [30, 1] [15, 10, 6] 5 = -1 by decide] at d4
    rw [show JP [4, 1] [3, 2] 1 = 0 by decide] at d5
    refine wp_seq (lw1_c F_Quotient___init__ e1 e2) ?_
    refine wp_seq (lw2_c F_depth F_jump d1 d2 d3 d4 d5) ?_
    exact wp_rt lw3 ⟨[], rfl, rfl⟩
end K14

open PySem PySem.W PyProof.Rows
set_option maxHeartbeats 0 in
theorem PySem.Challenge.cw_wholerises_k14_whole_depths_and_jumps_holds : PySem.Challenge.rw_wholerises_k14_whole_depths_and_jumps.Holds := by
  w_on; o_law; k_head; (case hw => w_witness2)
  k_fill
  refine DF.walk_G (l := PySem.Challenge.rw_wholerises_k14_whole_depths_and_jumps) (n := 63) (k := 9) (x := "_law_script") (CX := fun w => L2.CX PySem.Challenge.rw_wholerises_k14_whole_depths_and_jumps.prog w) (sp := fun w => DF.spD _ 1 K14.F_law) rfl (by decide) rfl ⟨rfl, by decide, by decide⟩ (fun w h Y => PySem.W.kIn_of Y) ?F (fun _ _ a ns hl _ hS => DF.hsp_of (K14.law_true ns hl) hS) (fun _ _ _ _ _ h => DF.cx_end h)
  case F =>
    intro w mg fa h KX G hmg
    refine' K14.all_mk KX G hmg ?ns_C0 ?pg_C0 ?hd_C0 ?po_C0 ?sa_C0 ?mk_C0 ?kc_C0 ?na_C0__bottoms ?na_C0__pairs ?na_C0__sides ?na_C0__tops ?ia_C0 ?im_C0 ?ign ?itk ?a0 ?l0 ?c0 ?k0 ?a1 ?l1 ?c1 ?k1 ?a2 ?l2 ?c2 ?k2 ?a3 ?l3 ?c3 ?k3 ?a4 ?l4 ?c4 ?k4 ?a5 ?l5 ?c5 ?k5 ?a6 ?l6 ?c6 ?k6 ?a7 ?l7 ?c7 ?k7 ?a8 ?l8 ?c8 ?k8 ?a9 ?l9 ?c9 ?k9 ?a10 ?l10 ?c10 ?k10 ?a11 ?l11 ?c11 ?k11 ?a12 ?l12 ?c12 ?k12 ?a13 ?l13 ?c13 ?k13 ?a14 ?l14 ?c14 ?k14 ?a15 ?l15 ?c15 ?k15 ?a16 ?l16 ?c16 ?k16 ?a17 ?l17 ?c17 ?k17 ?a18 ?l18 ?c18 ?k18 ?a19 ?l19 ?c19 ?k19 ?a20 ?l20 ?c20 ?k20 ?a21 ?l21 ?c21 ?k21 ?a22 ?l22 ?c22 ?k22 ?a23 ?l23 ?c23 ?k23 ?a24 ?l24 ?c24 ?k24 ?a25 ?l25 ?c25 ?k25 ?a26 ?l26 ?c26 ?k26 ?a27 ?l27 ?c27 ?k27 ?a28 ?l28 ?c28 ?k28 ?a29 ?l29 ?c29 ?k29 ?a30 ?l30 ?c30 ?k30 ?a31 ?l31 ?c31 ?k31 ?a32 ?l32 ?c32 ?k32 ?a33 ?l33 ?c33 ?k33 ?a34 ?l34 ?c34 ?k34 ?a35 ?l35 ?c35 ?k35 ?a36 ?i36 ?l36 ?c36 ?k36 ?a37 ?i37 ?l37 ?c37 ?k37 ?z_abs ?z_all ?z_bool ?z_int ?z_isinstance ?z_iter ?z_len ?z_list ?z_max ?z_min ?z_range ?z_repr ?z_sorted ?z_sum ?z_tuple ?q_MAX_COMMON ?q_MAX_COUNT ?q_MAX_INTEGER ?q_MAX_MEMBER ?q_MAX_SIDE ?m_gcd ?m_lcm
    (case ns_C0 => k_is); (case pg_C0 => k_is); (case hd_C0 => k_is); (case po_C0 => k_is); (case sa_C0 => k_is); (case mk_C0 => k_is); (case kc_C0 => k_is); (case na_C0__bottoms => k_is); (case na_C0__pairs => k_is); (case na_C0__sides => k_is); (case na_C0__tops => k_is); (case ia_C0 => k_is); (case im_C0 => k_is); (case ign => k_is); (case itk => k_is); (case a0 => k_is); (case l0 => k_is); (case c0 => k_is); (case k0 => k_is); (case a1 => k_is); (case l1 => k_is); (case c1 => k_is); (case k1 => k_is); (case a2 => k_is); (case l2 => k_is); (case c2 => k_is); (case k2 => k_is); (case a3 => k_is); (case l3 => k_is); (case c3 => k_is); (case k3 => k_is); (case a4 => k_is); (case l4 => k_is); (case c4 => k_is); (case k4 => k_is); (case a5 => k_is); (case l5 => k_is); (case c5 => k_is); (case k5 => k_is); (case a6 => k_is); (case l6 => k_is); (case c6 => k_is); (case k6 => k_is); (case a7 => k_is); (case l7 => k_is); (case c7 => k_is); (case k7 => k_is); (case a8 => k_is); (case l8 => k_is); (case c8 => k_is); (case k8 => k_is); (case a9 => k_is); (case l9 => k_is); (case c9 => k_is); (case k9 => k_is); (case a10 => k_is); (case l10 => k_is); (case c10 => k_is); (case k10 => k_is); (case a11 => k_is); (case l11 => k_is); (case c11 => k_is); (case k11 => k_is); (case a12 => k_is); (case l12 => k_is); (case c12 => k_is); (case k12 => k_is); (case a13 => k_is); (case l13 => k_is); (case c13 => k_is); (case k13 => k_is); (case a14 => k_is); (case l14 => k_is); (case c14 => k_is); (case k14 => k_is); (case a15 => k_is); (case l15 => k_is); (case c15 => k_is); (case k15 => k_is); (case a16 => k_is); (case l16 => k_is); (case c16 => k_is); (case k16 => k_is); (case a17 => k_is); (case l17 => k_is); (case c17 => k_is); (case k17 => k_is); (case a18 => k_is); (case l18 => k_is); (case c18 => k_is); (case k18 => k_is); (case a19 => k_is); (case l19 => k_is); (case c19 => k_is); (case k19 => k_is); (case a20 => k_is); (case l20 => k_is); (case c20 => k_is); (case k20 => k_is); (case a21 => k_is); (case l21 => k_is); (case c21 => k_is); (case k21 => k_is); (case a22 => k_is); (case l22 => k_is); (case c22 => k_is); (case k22 => k_is); (case a23 => k_is); (case l23 => k_is); (case c23 => k_is); (case k23 => k_is); (case a24 => k_is); (case l24 => k_is); (case c24 => k_is); (case k24 => k_is); (case a25 => k_is); (case l25 => k_is); (case c25 => k_is); (case k25 => k_is); (case a26 => k_is); (case l26 => k_is); (case c26 => k_is); (case k26 => k_is); (case a27 => k_is); (case l27 => k_is); (case c27 => k_is); (case k27 => k_is); (case a28 => k_is); (case l28 => k_is); (case c28 => k_is); (case k28 => k_is); (case a29 => k_is); (case l29 => k_is); (case c29 => k_is); (case k29 => k_is); (case a30 => k_is); (case l30 => k_is); (case c30 => k_is); (case k30 => k_is); (case a31 => k_is); (case l31 => k_is); (case c31 => k_is); (case k31 => k_is); (case a32 => k_is); (case l32 => k_is); (case c32 => k_is); (case k32 => k_is); (case a33 => k_is); (case l33 => k_is); (case c33 => k_is); (case k33 => k_is); (case a34 => k_is); (case l34 => k_is); (case c34 => k_is); (case k34 => k_is); (case a35 => k_is); (case l35 => k_is); (case c35 => k_is); (case k35 => k_is); (case a36 => k_is); (case i36 => k_is); (case l36 => k_is); (case c36 => k_is); (case k36 => k_is); (case a37 => k_is); (case i37 => k_is); (case l37 => k_is); (case c37 => k_is); (case k37 => k_is); (case z_abs => k_is); (case z_all => k_is); (case z_bool => k_is); (case z_int => k_is); (case z_isinstance => k_is); (case z_iter => k_is); (case z_len => k_is); (case z_list => k_is); (case z_max => k_is); (case z_min => k_is); (case z_range => k_is); (case z_repr => k_is); (case z_sorted => k_is); (case z_sum => k_is); (case z_tuple => k_is); (case q_MAX_COMMON => k_is); (case q_MAX_COUNT => k_is); (case q_MAX_INTEGER => k_is); (case q_MAX_MEMBER => k_is); (case q_MAX_SIDE => k_is); (case m_gcd => k_is); (case m_lcm => k_is)
