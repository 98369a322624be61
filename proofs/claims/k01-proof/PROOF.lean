import PyProof.Rows.All
import HandS.ForMost
import HandS.Iter
import HandS.ForExc
import HandS.Evl
import HandS.Wide
import HandS.Gcd
import HandS.IsInst
import HandS.CallSlots
import HandS.WordsExc
import HandS.Ends
import HandS.Property
import HandS.TupAny
import HandS.TupMul
import HandS.DictComp
import PyProof.NoPylong
import HandS.RaiseMore
import HandS.Style
import HandS.Rev
import HandS.RevRange
import KE.GoesEnum
import KE.DataAny
import KE.KRevSl
import HandS.Dict
import HandS.Conv
import HandS.DeepEq
import HandS.SortInts
import HandS.Small
import KE.KMathG
import KE.DatumOrd
import HandS.ListEq
import PyProof.NeKinds
import HandS.DictEq
import Flt.RightSqrt
import PySem.Challenge.RW_wholerises_k01_whole_integers
set_option Elab.async false
set_option linter.all false
set_option maxRecDepth 100000
set_option exponentiation.threshold 5000
namespace DF
open PySem PySem.Spec PyProof.Rows L2

/-- data, as trees -/
inductive D where
  | non | bl (b : Bool) | int (i : Int) | str (x : Str)
  | tup (l : List D) | lst (l : List D) | dic (l : List (Key × D)) | fro (l : List D)
  | obj (c : Str) (fs : List (Str × D))

/-- what a slot holds: data that stays, or a list or dict that only this frame (io: only the caller's one name) reaches -/
inductive Cell where
  | val (d : D)
  | mu (io : Bool) (d : D)
abbrev DEnv := List (Option Cell)
abbrev Sl := L2.St

mutual
inductive Is (K : PySem.W.Frag) (G : Hp) : D → V → Prop
  | non : Is K G .non .non
  | bl (b : Bool) : Is K G (.bl b) (.bl b)
  | int (i : Int) : Is K G (.int i) (.int i)
  | str (x : Str) : Is K G (.str x) (.str x)
  | tup {l : List D} {a : Addr} {xs : List V} : SqT K G a xs → Iss K G l xs → Is K G (.tup l) (.ref a)
  | lst {l : List D} {a : Addr} {xs : List V} : G a = some (.lst xs) → Iss K G l xs → Is K G (.lst l) (.ref a)
  | dic {l : List (Key × D)} {a : Addr} {o : Obj} {kvs : List (Key × V)} : G a = some (.frz o (.dK kvs)) → Isk K G l kvs → Is K G (.dic l) (.ref a)
  | fro {l : List D} {a : Addr} {xs : List V} : SqL K G a xs → Iss K G l xs → Is K G (.fro l) (.ref a)
  | obj {c : Str} {fs : List (Str × D)} {a C dx : Addr} {fv : List (Str × V)} : G a = some (.ins C dx fv) → PySem.W.nsIn K mainGlobals c = some (some (.ref C)) → Isf K G fs fv → Is K G (.obj c fs) (.ref a)
inductive Iss (K : PySem.W.Frag) (G : Hp) : List D → List V → Prop
  | nil : Iss K G [] []
  | cons {d : D} {v : V} {l : List D} {xs : List V} : Is K G d v → Iss K G l xs → Iss K G (d :: l) (v :: xs)
inductive Isk (K : PySem.W.Frag) (G : Hp) : List (Key × D) → List (Key × V) → Prop
  | nil : Isk K G [] []
  | cons {k : Key} {d : D} {v : V} {l : List (Key × D)} {xs : List (Key × V)} : Is K G d v → Isk K G l xs → Isk K G ((k, d) :: l) ((k, v) :: xs)
inductive Isf (K : PySem.W.Frag) (G : Hp) : List (Str × D) → List (Str × V) → Prop
  | nil : Isf K G [] []
  | cons {k : Str} {d : D} {v : V} {l : List (Str × D)} {xs : List (Str × V)} : Is K G d v → Isf K G l xs → Isf K G ((k, d) :: l) ((k, v) :: xs)
end
section
variable {K : PySem.W.Frag} {G G' : Hp}
mutual
theorem Is.mono (e : Evl.Ex G G') : ∀ {d : D} {v : V}, Is K G d v → Is K G' d v
  | _, _, .non => .non
  | _, _, .bl b => .bl b
  | _, _, .int i => .int i
  | _, _, .str x => .str x
  | _, _, .tup h r => .tup (Evl.ex_t e h) (Iss.mono e r)
  | _, _, .lst h r => .lst (e _ _ h) (Iss.mono e r)
  | _, _, .dic h r => .dic (e _ _ h) (Isk.mono e r)
  | _, _, .fro h r => .fro (Evl.ex_l e h) (Iss.mono e r)
  | _, _, .obj h n r => .obj (e _ _ h) n (Isf.mono e r)
theorem Iss.mono (e : Evl.Ex G G') : ∀ {l : List D} {xs : List V}, Iss K G l xs → Iss K G' l xs
  | _, _, .nil => .nil
  | _, _, .cons h r => .cons (Is.mono e h) (Iss.mono e r)
theorem Isk.mono (e : Evl.Ex G G') : ∀ {l : List (Key × D)} {xs : List (Key × V)}, Isk K G l xs → Isk K G' l xs
  | _, _, .nil => .nil
  | _, _, .cons h r => .cons (Is.mono e h) (Isk.mono e r)
theorem Isf.mono (e : Evl.Ex G G') : ∀ {l : List (Str × D)} {xs : List (Str × V)}, Isf K G l xs → Isf K G' l xs
  | _, _, .nil => .nil
  | _, _, .cons h r => .cons (Is.mono e h) (Isf.mono e r)
end
theorem Iss.length : ∀ {l : List D} {xs : List V}, Iss K G l xs → l.length = xs.length
  | _, _, .nil => rfl
  | _, _, .cons _ r => congrArg (· + 1) (Iss.length r)
theorem Isk.length : ∀ {l : List (Key × D)} {xs : List (Key × V)}, Isk K G l xs → l.length = xs.length
  | _, _, .nil => rfl
  | _, _, .cons _ r => congrArg (· + 1) (Isk.length r)
theorem Iss.get : ∀ {l : List D} {xs : List V} {i : Nat} {d : D}, Iss K G l xs → l[i]? = some d → ∃ v, xs[i]? = some v ∧ Is K G d v
  | _, _, _, _, .nil, e => by simp at e
  | _, _, 0, _, .cons h _, e => by simp at e; subst e; exact ⟨_, rfl, h⟩
  | _, _, i + 1, d, .cons _ r, e => by
    obtain ⟨v, h1, h2⟩ := Iss.get (i := i) (d := d) r (by simpa using e)
    exact ⟨v, by simpa using h1, h2⟩
theorem Iss.getV : ∀ {l : List D} {xs : List V} {i : Nat} {v : V}, Iss K G l xs → xs[i]? = some v → ∃ d, l[i]? = some d ∧ Is K G d v
  | _, _, _, _, .nil, e => by simp at e
  | _, _, 0, _, .cons h _, e => by simp at e; subst e; exact ⟨_, rfl, h⟩
  | _, _, i + 1, d, .cons _ r, e => by
    obtain ⟨v, h1, h2⟩ := Iss.getV (i := i) (v := d) r (by simpa using e)
    exact ⟨v, by simpa using h1, h2⟩
theorem Iss.append : ∀ {l m : List D} {xs ys : List V}, Iss K G l xs → Iss K G m ys → Iss K G (l ++ m) (xs ++ ys)
  | _, _, _, _, .nil, s => s
  | _, _, _, _, .cons h r, s => .cons h (Iss.append r s)
theorem Iss.set {d : D} {v : V} (h : Is K G d v) : ∀ {l : List D} {xs : List V} (i : Nat), Iss K G l xs → Iss K G (l.set i d) (xs.set i v)
  | _, _, _, .nil => .nil
  | _, _, 0, .cons _ r => .cons h r
  | _, _, i + 1, .cons q r => .cons q (Iss.set h i r)
theorem Iss.take : ∀ {l : List D} {xs : List V} (n : Nat), Iss K G l xs → Iss K G (l.take n) (xs.take n)
  | _, _, 0, _ => .nil
  | _, _, _ + 1, .nil => .nil
  | _, _, n + 1, .cons q r => .cons q (Iss.take n r)
theorem Iss.drop : ∀ {l : List D} {xs : List V} (n : Nat), Iss K G l xs → Iss K G (l.drop n) (xs.drop n)
  | _, _, 0, r => r
  | _, _, _ + 1, .nil => .nil
  | _, _, n + 1, .cons _ r => Iss.drop n r
theorem Iss.reverse : ∀ {l : List D} {xs : List V}, Iss K G l xs → Iss K G l.reverse xs.reverse
  | _, _, .nil => .nil
  | _, _, .cons q r => by rw [List.reverse_cons, List.reverse_cons]; exact (Iss.reverse r).append (.cons q .nil)
theorem Iss.rep : ∀ {l : List D} {xs : List V} (n : Nat), Iss K G l xs → Iss K G (List.replicate n l).flatten (List.replicate n xs).flatten
  | _, _, 0, _ => .nil
  | _, _, n + 1, r => by rw [List.replicate_succ, List.replicate_succ, List.flatten_cons, List.flatten_cons]; exact r.append (Iss.rep n r)
theorem Iss.ints : ∀ {ns : List Int} {xs : List V}, Iss K G (ns.map D.int) xs → xs = ns.map V.int
  | [], _, .nil => rfl
  | _ :: _, _, .cons (.int _) r => by rw [Iss.ints r]; rfl
theorem Iss.of_ints : ∀ ns : List Int, Iss K G (ns.map D.int) (ns.map V.int)
  | [] => .nil
  | n :: r => .cons (.int n) (Iss.of_ints r)
theorem Iss.bls : ∀ {ns : List Bool} {xs : List V}, Iss K G (ns.map D.bl) xs → xs = ns.map V.bl
  | [], _, .nil => rfl
  | _ :: _, _, .cons (.bl _) r => by rw [Iss.bls r]; rfl
end

/-- what stands at the address of a list or dict of one's own -/
def Cont (K : PySem.W.Frag) (G H : Hp) (a : Addr) : D → Prop
  | .lst l => ∃ xs, H a = some (.lst xs) ∧ Iss K G l xs
  | .dic l => ∃ kvs, H a = some (.dK kvs) ∧ Isk K G l kvs
  | .obj c fs => ∃ C dx fv, H a = some (.ins C dx fv) ∧ PySem.W.nsIn K mainGlobals c = some (some (.ref C)) ∧ Isf K G fs fv
  | _ => False
theorem Cont.mono {K : PySem.W.Frag} {G G' H H' : Hp} {a : Addr} {d : D} (e : Evl.Ex G G') (h : ∀ o, H a = some o → H' a = some o) (c : Cont K G H a d) : Cont K G' H' a d := by
  cases d with
  | lst l => obtain ⟨xs, h1, h2⟩ := c; exact ⟨xs, h _ h1, h2.mono e⟩
  | dic l => obtain ⟨xs, h1, h2⟩ := c; exact ⟨xs, h _ h1, h2.mono e⟩
  | obj cn fs => obtain ⟨C, dx, fv, h1, h2, h3⟩ := c; exact ⟨C, dx, fv, h _ h1, h2, h3.mono e⟩
  | _ => exact False.elim c
theorem Cont.there {K : PySem.W.Frag} {G H : Hp} {a : Addr} {d : D} (c : Cont K G H a d) : ∃ o, H a = some o := by
  cases d with
  | lst l => obtain ⟨xs, h1, _⟩ := c; exact ⟨_, h1⟩
  | dic l => obtain ⟨xs, h1, _⟩ := c; exact ⟨_, h1⟩
  | obj cn fs => obtain ⟨C, dx, fv, h1, _⟩ := c; exact ⟨_, h1⟩
  | _ => exact False.elim c

structure Rep (K : PySem.W.Frag) (G H : Hp) (ρ : DEnv) (σ : Sl) : Prop where
  sub : Evl.Ex G H
  len : ρ.length = σ.length
  vl : ∀ (i : Nat) (d : D), ρ[i]? = some (some (.val d)) → ∃ v, σ[i]? = some (some v) ∧ Is K G d v
  mu : ∀ (i : Nat) (b : Bool) (d : D), ρ[i]? = some (some (.mu b d)) → ∃ a, σ[i]? = some (some (.ref a)) ∧ G a = none ∧ Cont K G H a d
  ap : ∀ (i j : Nat) (b c : Bool) (d e : D) (a : Addr), ρ[i]? = some (some (.mu b d)) → ρ[j]? = some (some (.mu c e)) → σ[i]? = some (some (.ref a)) → σ[j]? = some (some (.ref a)) → i = j
def Mu (b : Bool) (ρ : DEnv) (σ : Sl) (a : Addr) : Prop := ∃ (i : Nat) (d : D), ρ[i]? = some (some (.mu b d)) ∧ σ[i]? = some (some (.ref a))

/-- from one state to a later one -/
structure Stp (ρ : DEnv) (σ : Sl) (G H : Hp) (ρ' : DEnv) (σ' : Sl) (G' H' : Hp) : Prop where
  g : Evl.Ex G G'
  h : ∀ b o, ¬ Mu false ρ σ b → ¬ Mu true ρ σ b → H b = some o → H' b = some o
  t : ∀ b, H' b = none → H b = none
  n : ∀ b, G b = none → G' b ≠ none → H b = none ∨ Mu false ρ σ b
  ow : ∀ b, Mu false ρ' σ' b → Mu false ρ σ b ∨ H b = none
  io : ∀ (i : Nat), (∀ d, ρ[i]? = some (some (.mu true d)) → ∃ d', ρ'[i]? = some (some (.mu true d')) ∧ σ'[i]? = σ[i]?) ∧ (∀ d, ρ'[i]? = some (some (.mu true d)) → ∃ d', ρ[i]? = some (some (.mu true d')))
section
variable {K : PySem.W.Frag} {ρ ρ1 ρ2 : DEnv} {σ σ1 σ2 : Sl} {G G1 G2 H H1 H2 : Hp}
theorem Stp.refl : Stp ρ σ G H ρ σ G H := ⟨fun _ _ e => e, fun _ _ _ _ e => e, fun _ e => e, fun _ e q => absurd e q, fun _ e => .inl e, fun _ => ⟨fun d e => ⟨d, e, rfl⟩, fun d e => ⟨d, e⟩⟩⟩
theorem Stp.io_back (a : Stp ρ σ G H ρ1 σ1 G1 H1) {b : Addr} (m : Mu true ρ1 σ1 b) : Mu true ρ σ b := by
  obtain ⟨i, d, e1, e2⟩ := m
  obtain ⟨d0, e0⟩ := (a.io i).2 d e1
  obtain ⟨d', _, e3⟩ := (a.io i).1 d0 e0
  exact ⟨i, d0, e0, e3.symm.trans e2⟩
theorem Stp.trans (R : Rep K G H ρ σ) (a : Stp ρ σ G H ρ1 σ1 G1 H1) (b : Stp ρ1 σ1 G1 H1 ρ2 σ2 G2 H2) : Stp ρ σ G H ρ2 σ2 G2 H2 where
  g := fun c o e => b.g c o (a.g c o e)
  h := fun c o n1 n2 e => b.h c o (fun m => (a.ow c m).elim n1 fun z => by rw [z] at e; cases e) (fun m => n2 (a.io_back m)) (a.h c o n1 n2 e)
  t := fun c e => a.t c (b.t c e)
  n := fun c e q => by
    by_cases h : G1 c = none
    · rcases b.n c h q with z | z
      · exact .inl (a.t c z)
      · rcases a.ow c z with z | z
        · exact .inr z
        · exact .inl z
    · exact a.n c e h
  ow := fun c m => by
    rcases b.ow c m with z | z
    · exact a.ow c z
    · exact .inr (a.t c z)
  io := fun i => ⟨fun d e => by
      obtain ⟨d1, e1, s1⟩ := (a.io i).1 d e
      obtain ⟨d2, e2, s2⟩ := (b.io i).1 d1 e1
      exact ⟨d2, e2, s2.trans s1⟩, fun d e => by
      obtain ⟨d1, e1⟩ := (b.io i).2 d e
      exact (a.io i).2 d1 e1⟩

/-- only new objects -/
structure New (G H G' H' : Hp) : Prop where
  g : Evl.Ex G G'
  h : Evl.Ex H H'
  s : Evl.Ex G' H'
  n : ∀ b, G b = none → G' b ≠ none → H b = none
theorem New.refl (e : Evl.Ex G H) : New G H G H := ⟨fun _ _ e => e, fun _ _ e => e, e, fun _ e q => absurd e q⟩
theorem New.trans (a : New G H G1 H1) (b : New G1 H1 G2 H2) : New G H G2 H2 := ⟨fun c o e => b.g c o (a.g c o e), fun c o e => b.h c o (a.h c o e), b.s, fun c e q => by
  by_cases h : G1 c = none
  · have z := b.n c h q
    cases y : H c with
    | none => rfl
    | some o => rw [a.h c o y] at z; cases z
  · exact a.n c e h⟩
theorem sub_none (e : Evl.Ex G H) {p : Addr} (h : H p = none) : G p = none := by
  cases q : G p with
  | none => rfl
  | some o => rw [e p o q] at h; cases h
theorem New.put {p : Addr} {o : HO} (e : Evl.Ex G H) (h : H p = none) : New G H (upd G p o) (upd H p o) where
  g := Evl.Ex.new (sub_none e h)
  h := Evl.Ex.new h
  s := fun b u q => by
    by_cases z : b = p
    · subst z; rw [upd_same] at q ⊢; exact q
    · rw [upd_ne z] at q ⊢; exact e b u q
  n := fun b q r => by
    by_cases z : b = p
    · subst z; exact h
    · rw [upd_ne z] at r; exact absurd q r
/-- a new object that is not shown -/
theorem New.hid {p : Addr} {o : HO} (e : Evl.Ex G H) (h : H p = none) : New G H G (upd H p o) where
  g := fun _ _ e => e
  h := Evl.Ex.new h
  s := fun b u q => Evl.Ex.new h b u (e b u q)
  n := fun b q r => absurd q r
theorem New.none_back (a : New G H G1 H1) {p : Addr} (h : H1 p = none) : H p = none := by
  cases y : H p with
  | none => rfl
  | some o => rw [a.h p o y] at h; cases h
theorem New.stp (R : Rep K G H ρ σ) (a : New G H G1 H1) : Stp ρ σ G H ρ σ G1 H1 := ⟨a.g, fun b o _ _ e => a.h b o e, fun _ e => a.none_back e, fun b e q => .inl (a.n b e q), fun _ e => .inl e, fun _ => ⟨fun d e => ⟨d, e, rfl⟩, fun d e => ⟨d, e⟩⟩⟩
theorem New.rep (R : Rep K G H ρ σ) (a : New G H G1 H1) : Rep K G1 H1 ρ σ where
  sub := a.s
  len := R.len
  vl := fun i d e => by
    obtain ⟨v, e1, e2⟩ := R.vl i d e
    exact ⟨v, e1, e2.mono a.g⟩
  mu := fun i b d e => by
    obtain ⟨c, e1, e2, e3⟩ := R.mu i b d e
    refine ⟨c, e1, ?_, e3.mono a.g fun o q => a.h c o q⟩
    cases q : G1 c with
    | none => rfl
    | some o =>
      have z := a.n c e2 (by rw [q]; exact fun z => by cases z)
      obtain ⟨o', y⟩ := e3.there
      rw [z] at y; cases y
  ap := R.ap
end
end DF

namespace DF
open PySem PySem.Spec PyProof.Rows L2

/-- an exception: its class, and the one attribute that it keeps -/
structure Exc where
  cls : Value
  fld : Option (Str × D)
inductive R (α : Type) where
  | no
  | ok (ρ : DEnv) (a : α)
  | ex (ρ : DEnv) (e : Exc)
def R.bind {α β : Type} (r : R α) (f : α → DEnv → R β) : R β := match r with
  | .no => .no
  | .ok ρ a => f a ρ
  | .ex ρ e => .ex ρ e
theorem R.bind_ok {α β : Type} {ρ : DEnv} {a : α} {f : α → DEnv → R β} : (R.ok ρ a).bind f = f a ρ := rfl
def ofO {α : Type} (ρ : DEnv) : Option α → R α
  | none => .no
  | some d => .ok ρ d
def EIs (K : PySem.W.Frag) (G H : Hp) (e : Exc) (d : Option Addr) : Prop := match e.fld with
  | none => d = none
  | some (f, x) => ∃ (dd : Addr) (v : V), d = some dd ∧ H dd = some (.xd [(f, v)]) ∧ Is K G x v
/-- what follows from a state -/
def Go (K : PySem.W.Frag) (W : WX) (σ : Sl) (ρ : DEnv) (G H : Hp) {α : Type} (P : α → DEnv → Hp → Hp → Prop) (r : R α) : Prop := match r with
  | .no => False
  | .ok ρ' a => ∀ G' H', Stp ρ σ G H ρ' σ G' H' → Rep K G' H' ρ' σ → P a ρ' G' H'
  | .ex ρ' e => ∀ G' H' d, Stp ρ σ G H ρ' σ G' H' → Rep K G' H' ρ' σ → EIs K G' H' e d → W e.cls d σ H'
section
variable {K : PySem.W.Frag} {W : WX} {σ : Sl} {ρ ρ1 : DEnv} {G G1 H H1 : Hp} {α β : Type} {P P' : α → DEnv → Hp → Hp → Prop} {S : β → DEnv → Hp → Hp → Prop}
theorem Go.imp {r : R α} (h : Go K W σ ρ G H P r) (f : ∀ a ρ' G' H', Stp ρ σ G H ρ' σ G' H' → Rep K G' H' ρ' σ → P a ρ' G' H' → P' a ρ' G' H') : Go K W σ ρ G H P' r := by
  cases r with
  | no => exact h
  | ok ρ' a => exact fun G' H' s R => f a ρ' G' H' s R (h G' H' s R)
  | ex ρ' e => exact h
theorem Go.shift {r : R α} (R0 : Rep K G H ρ σ) (s : Stp ρ σ G H ρ1 σ G1 H1) (h : Go K W σ ρ G H P r) : Go K W σ ρ1 G1 H1 P r := by
  cases r with
  | no => exact h
  | ok ρ' a => exact fun G' H' s' R => h G' H' (s.trans R0 s') R
  | ex ρ' e => exact fun G' H' d s' R => h G' H' d (s.trans R0 s') R
theorem Go.bind {r : R α} {g : α → DEnv → R β} (R0 : Rep K G H ρ σ) (h : Go K W σ ρ G H S (r.bind g)) : Go K W σ ρ G H (fun a ρ' G' H' => Go K W σ ρ' G' H' S (g a ρ')) r := by
  cases r with
  | no => exact h
  | ok ρ' a => exact fun G' H' s R => Go.shift R0 s h
  | ex ρ' e => exact h
end

/-- an operand: what it is at a later state -/
abbrev Th := DEnv → Option D
/-- a value that is looked at here and now -/
def Top (K : PySem.W.Frag) (G H : Hp) (d : D) (v : V) : Prop := match d with
  | .lst l => ∃ a xs, v = .ref a ∧ H a = some (.lst xs) ∧ Iss K G l xs
  | .dic l => ∃ a kvs, v = .ref a ∧ Rd H a (.dK kvs) ∧ Isk K G l kvs
  | .obj c fs => ∃ a C dx fv, v = .ref a ∧ H a = some (.ins C dx fv) ∧ PySem.W.nsIn K mainGlobals c = some (some (.ref C)) ∧ Isf K G fs fv
  | d => Is K G d v
theorem Is.top {K : PySem.W.Frag} {G H : Hp} {d : D} {v : V} (e : Evl.Ex G H) (h : Is K G d v) : Top K G H d v := by
  cases h with
  | lst h r => exact ⟨_, _, rfl, e _ _ h, r⟩
  | dic h r => exact ⟨_, _, rfl, .inr ⟨_, e _ _ h⟩, r⟩
  | obj h n r => exact ⟨_, _, _, _, rfl, e _ _ h, n, r⟩
  | fro h r => exact .fro h r
  | non => exact .non
  | bl b => exact .bl b
  | int i => exact .int i
  | str x => exact .str x
  | tup h r => exact .tup h r
theorem Cont.top {K : PySem.W.Frag} {G H : Hp} {d : D} {a : Addr} (c : Cont K G H a d) : Top K G H d (.ref a) := by
  cases d with
  | lst l => obtain ⟨xs, h1, h2⟩ := c; exact ⟨a, xs, rfl, h1, h2⟩
  | dic l => obtain ⟨xs, h1, h2⟩ := c; exact ⟨a, xs, rfl, .inl h1, h2⟩
  | obj cn fs => obtain ⟨C, dx, fv, h1, h2, h3⟩ := c; exact ⟨a, C, dx, fv, rfl, h1, h2, h3⟩
  | _ => exact False.elim c
/-- the full view of it -/
theorem Top.is {K : PySem.W.Frag} {G H : Hp} {d : D} {v : V} (e : Evl.Ex G H) (h : Top K G H d v) (hn : ∀ l, d ≠ .dic l) : Is K H d v := by
  cases d with
  | lst l => obtain ⟨a, xs, rfl, h1, h2⟩ := h; exact .lst h1 (h2.mono e)
  | dic l => exact absurd rfl (hn l)
  | obj c fs => obtain ⟨a, C, dx, fv, rfl, h1, h2, h3⟩ := h; exact .obj h1 h2 (h3.mono e)
  | non => exact Is.mono e h
  | bl b => exact Is.mono e h
  | int i => exact Is.mono e h
  | str x => exact Is.mono e h
  | tup l => exact Is.mono e h
  | fro l => exact Is.mono e h
inductive Tops (K : PySem.W.Frag) (G H : Hp) : List D → List V → Prop
  | nil : Tops K G H [] []
  | cons {d : D} {v : V} {l : List D} {xs : List V} : Top K G H d v → Tops K G H l xs → Tops K G H (d :: l) (v :: xs)

def tD (K : PySem.W.Frag) (W : WX) (f : DEnv → R D) : TE := fun σ H Q => ∃ ρ G, Rep K G H ρ σ ∧ Go K W σ ρ G H (fun d _ G' H' => ∀ v, Is K G' d v → Q v H') (f ρ)
def OTh (K : PySem.W.Frag) (σ : Sl) (ρ : DEnv) (G H : Hp) (th : Th) (v : V) : Prop := ∀ ρ2 G2 H2 d, Stp ρ σ G H ρ2 σ G2 H2 → Rep K G2 H2 ρ2 σ → th ρ2 = some d → Top K G2 H2 d v
theorem OTh.shift {K : PySem.W.Frag} {σ : Sl} {ρ ρ1 : DEnv} {G G1 H H1 : Hp} {th : Th} {v : V} (R0 : Rep K G H ρ σ) (s : Stp ρ σ G H ρ1 σ G1 H1) (h : OTh K σ ρ G H th v) : OTh K σ ρ1 G1 H1 th v :=
  fun ρ2 G2 H2 d s2 R2 e => h ρ2 G2 H2 d (s.trans R0 s2) R2 e
def tO (K : PySem.W.Frag) (W : WX) (f : DEnv → R Th) : TE := fun σ H Q => ∃ ρ G, Rep K G H ρ σ ∧ Go K W σ ρ G H (fun th ρ' G' H' => ∀ v, OTh K σ ρ' G' H' th v → Q v H') (f ρ)
inductive OThs (K : PySem.W.Frag) (σ : Sl) (ρ : DEnv) (G H : Hp) : List Th → List V → Prop
  | nil : OThs K σ ρ G H [] []
  | cons {t : Th} {v : V} {l : List Th} {xs : List V} : OTh K σ ρ G H t v → OThs K σ ρ G H l xs → OThs K σ ρ G H (t :: l) (v :: xs)
theorem OThs.shift {K : PySem.W.Frag} {σ : Sl} {ρ ρ1 : DEnv} {G G1 H H1 : Hp} (R0 : Rep K G H ρ σ) (s : Stp ρ σ G H ρ1 σ G1 H1) : ∀ {l : List Th} {xs : List V}, OThs K σ ρ G H l xs → OThs K σ ρ1 G1 H1 l xs
  | _, _, .nil => .nil
  | _, _, .cons h r => .cons (h.shift R0 s) (OThs.shift R0 s r)
def ths (l : List Th) (ρ : DEnv) : Option (List D) := match l with
  | [] => some []
  | t :: r => match t ρ with
    | none => none
    | some d => match ths r ρ with
      | none => none
      | some ds => some (d :: ds)
theorem OThs.tops {K : PySem.W.Frag} {σ : Sl} {ρ : DEnv} {G H : Hp} (R0 : Rep K G H ρ σ) : ∀ {l : List Th} {xs : List V} {ds : List D}, OThs K σ ρ G H l xs → ths l ρ = some ds → Tops K G H ds xs
  | _, _, ds, .nil, e => by cases e; exact .nil
  | t :: l, _, ds, .cons h r, e => by
    unfold ths at e
    split at e
    · cases e
    · rename_i d e1
      split at e
      · cases e
      · rename_i ds' e2
        cases e
        exact .cons (h ρ G H d .refl R0 e1) (OThs.tops R0 r e2)
def tAs (K : PySem.W.Frag) (W : WX) (f : DEnv → R (List Th)) : TA := fun σ H Q => ∃ ρ G, Rep K G H ρ σ ∧ Go K W σ ρ G H (fun l ρ' G' H' => ∀ vs, OThs K σ ρ' G' H' l vs → Q vs H') (f ρ)
def tT (K : PySem.W.Frag) (W : WX) (f : DEnv → R Bool) : TT := fun σ H Q => ∃ ρ G, Rep K G H ρ σ ∧ Go K W σ ρ G H (fun b _ _ H' => Q b H') (f ρ)
/-- values that stay, in a row -/
def tDs (K : PySem.W.Frag) (W : WX) (f : DEnv → R (List D)) : TA := fun σ H Q => ∃ ρ G, Rep K G H ρ σ ∧ Go K W σ ρ G H (fun l _ G' H' => ∀ vs, Iss K G' l vs → Q vs H') (f ρ)
/-- a list or dict just made -/
def tF (K : PySem.W.Frag) (W : WX) (f : DEnv → R D) : TE := fun σ H Q => ∃ ρ G, Rep K G H ρ σ ∧
  Go K W σ ρ G H (fun d ρ' G' H' => ∀ a, G' a = none → ¬ Mu false ρ' σ a → ¬ Mu true ρ' σ a → H a = none → Cont K G' H' a d → Q (.ref a) H') (f ρ)

abbrev DE (X : Cx) (W : WX) (e : Expr) (f : DEnv → R D) : Prop := PE X e (tD X.K W f)
abbrev DO (X : Cx) (W : WX) (e : Expr) (f : DEnv → R Th) : Prop := PE X e (tO X.K W f)
abbrev DF' (X : Cx) (W : WX) (e : Expr) (f : DEnv → R D) : Prop := PE X e (tF X.K W f)
abbrev DT (X : Cx) (W : WX) (e : Expr) (f : DEnv → R Bool) : Prop := PT X e (tT X.K W f)
abbrev DA (X : Cx) (W : WX) (es : List Expr) (f : DEnv → R (List Th)) : Prop := PA X es (tAs X.K W f)
abbrev DVs (X : Cx) (W : WX) (es : List Expr) (f : DEnv → R (List D)) : Prop := PA X es (tDs X.K W f)
theorem pe_imp {X : Cx} {e : Expr} {t t' : TE} (h : PE X e t) (i : ∀ σ H Q, t' σ H Q → t σ H Q) : PE X e t' := ⟨fun pins s σ H Q I q => h.run pins s σ H Q I (i σ H Q q)⟩
theorem pt_imp {X : Cx} {e : Expr} {t t' : TT} (h : PT X e t) (i : ∀ σ H Q, t' σ H Q → t σ H Q) : PT X e t' := ⟨fun pins s σ H Q I q => h.run pins s σ H Q I (i σ H Q q)⟩
theorem pw_imp {X : Cx} {e : Expr} {t t' : TT} (h : PW X e t) (i : ∀ σ H Q, t' σ H Q → t σ H Q) : PW X e t' := ⟨fun wh pins s σ H Q I q => h.run wh pins s σ H Q I (i σ H Q q)⟩
theorem pa_imp {X : Cx} {es : List Expr} {t t' : TA} (h : PA X es t) (i : ∀ σ H Q, t' σ H Q → t σ H Q) : PA X es t' := ⟨fun pos pins s σ H Q I q => h.run pos pins s σ H Q I (i σ H Q q)⟩

section
variable {X : Cx} {W : WX} {e : Expr} {es : List Expr} {pos : Pos}
/-! ### names and constants -/
def dC (d : D) : DEnv → R D := fun ρ => .ok ρ d
theorem de_const {d : D} {v : V} (h : PE X e (tC v)) (hv : ∀ G, Is X.K G d v) : DE X W e (dC d) := pe_imp h fun σ H Q ⟨ρ, G, R, h⟩ => h G H .refl R v (hv G)
theorem de_int {i : Int} {j pos} : DE X W (.Constant (.int i) j pos) (dC (.int i)) := de_const pe_int fun _ => .int i
theorem de_bl {b : Bool} {j pos} : DE X W (.Constant (.bool b) j pos) (dC (.bl b)) := de_const pe_bl fun _ => .bl b
theorem de_non {j pos} : DE X W (.Constant .none j pos) (dC .non) := de_const pe_non fun _ => .non
theorem de_str {x : Str} {j pos} : DE X W (.Constant (.str x) j pos) (dC (.str x)) := de_const pe_str fun _ => .str x
/-- a module's whole number -/
theorem de_gint {x : Str} {i : Int} {t : Tok} (hg : Gl X x) (hm : X.mg x = some (.int i t)) (hd : (x == ("__debug__" : Str)) = false := by decide) : DE X W (.Name x pos) (dC (.int i)) := de_const (pe_glob hg hm (show RelV (.int i) (.int i t) from ⟨t, rfl⟩) hd) fun _ => .int i
def look (i : Nat) (ρ : DEnv) : Option D := match ρ[i]? with
  | some (some (.val d)) => some d
  | some (some (.mu _ d)) => some d
  | _ => none
/-- a name's value, to be kept: a list or dict of one's own may not be changed from here on -/
def dVar (i : Nat) : DEnv → R D := fun ρ => match ρ[i]? with
  | some (some (.val d)) => .ok ρ d
  | some (some (.mu false d)) => .ok (ρ.set i (some (.val d))) d
  | _ => .no
/-- a dict of one's own is frozen for good -/
theorem Rep.frozen {K : PySem.W.Frag} {G H : Hp} {ρ : DEnv} {σ : Sl} (R : Rep K G H ρ σ) {i : Nat} {d : D} {a : Addr} {o : HO} (e : ρ[i]? = some (some (.mu false d))) (ea : σ[i]? = some (some (.ref a))) (hi : Is K (upd G a o) d (.ref a)) :
    Stp ρ σ G H (ρ.set i (some (.val d))) σ (upd G a o) (upd H a o) ∧ Rep K (upd G a o) (upd H a o) (ρ.set i (some (.val d))) σ := by
  obtain ⟨a', e1, e2, e3⟩ := R.mu i false d e
  rw [ea] at e1; cases e1
  have eG : Evl.Ex G (upd G a o) := Evl.Ex.new e2
  have eS : Evl.Ex (upd G a o) (upd H a o) := fun b u q => by
    by_cases z : b = a
    · subst z; rw [upd_same] at q ⊢; exact q
    · rw [upd_ne z] at q ⊢; exact R.sub b u q
  have sg : ∀ {j : Nat} {y : Option Cell}, (ρ.set i (some (.val d)))[j]? = some y → (i = j ∧ some (.val d) = y) ∨ (i ≠ j ∧ ρ[j]? = some y) := fun {j y} h => by
    by_cases z : i = j
    · subst z
      by_cases q : i < ρ.length
      · rw [List.getElem?_set_self q] at h
        exact .inl ⟨rfl, Option.some.inj h⟩
      · rw [List.getElem?_eq_none (by rw [List.length_set]; omega)] at h
        cases h
    · rw [List.getElem?_set_ne z] at h
      exact .inr ⟨z, h⟩
  refine ⟨⟨eG, fun b u n1 _ q => ?_, fun b q => ?_, fun b q1 q2 => ?_, fun b ⟨j, d', q1, q2⟩ => ?_, fun j => ⟨fun d' q => ?_, fun d' q => ?_⟩⟩, ⟨eS, by rw [List.length_set]; exact R.len, fun j d' q => ?_, fun j b d' q => ?_, fun j k b c d1 d2 a' q1 q2 q3 q4 => ?_⟩⟩
  · have n : b ≠ a := fun z => by subst z; exact n1 ⟨i, d, e, ea⟩
    rw [upd_ne n]; exact q
  · by_cases z : b = a
    · subst z; rw [upd_same] at q; cases q
    · rw [upd_ne z] at q; exact q
  · by_cases z : b = a
    · subst z; exact .inr ⟨i, d, e, ea⟩
    · rw [upd_ne z] at q2; exact absurd q1 q2
  · rcases sg q1 with ⟨_, z⟩ | ⟨_, z⟩
    · cases z
    · exact .inl ⟨j, d', z, q2⟩
  · have n : i ≠ j := fun z => by subst z; rw [e] at q; cases q
    exact ⟨d', by rw [List.getElem?_set_ne n]; exact q, rfl⟩
  · rcases sg q with ⟨_, z⟩ | ⟨_, z⟩
    · cases z
    · exact ⟨d', z⟩
  · rcases sg q with ⟨z0, z⟩ | ⟨_, z⟩
    · subst z0
      cases z
      exact ⟨_, ea, hi⟩
    · obtain ⟨v, z1, z2⟩ := R.vl j d' z
      exact ⟨v, z1, z2.mono eG⟩
  · rcases sg q with ⟨z0, z⟩ | ⟨z0, z⟩
    · cases z
    · obtain ⟨c, z1, z2, z3⟩ := R.mu j b d' z
      have nc : c ≠ a := fun y => by
        subst y
        exact z0 (R.ap i j false b d d' c e z ea z1)
      exact ⟨c, z1, by rw [upd_ne nc]; exact z2, z3.mono eG fun o q => by rw [upd_ne nc]; exact q⟩
  · rcases sg q1 with ⟨_, z⟩ | ⟨_, z⟩
    · cases z
    · rcases sg q2 with ⟨_, y⟩ | ⟨_, y⟩
      · cases y
      · exact R.ap j k b c d1 d2 a' z y q3 q4
/-- .. as the machine sees it: a list stays as it is, a dict is locked -/
theorem shown_run {X : Cx} {pins : List (Addr × Obj)} {G H : Hp} {ρ : DEnv} {σ : Sl} {s : Shared} (I : Inv X pins σ H s) (R : Rep X.K G H ρ σ) {i : Nat} {d : D} {a : Addr} (e : ρ[i]? = some (some (.mu false d))) (ea : σ[i]? = some (some (.ref a))) :
    ∃ G' H', Inv X pins σ H' s ∧ Stp ρ σ G H (ρ.set i (some (.val d))) σ G' H' ∧ Rep X.K G' H' (ρ.set i (some (.val d))) σ ∧ Is X.K G' d (.ref a) := by
  obtain ⟨a', e1, e2, e3⟩ := R.mu i false d e
  rw [ea] at e1; cases e1
  have same : ∀ o, H a = some o → upd H a o = H := fun o ho => funext fun b => by
    by_cases z : b = a
    · subst z; rw [upd_same]; exact ho.symm
    · rw [upd_ne z]
  cases d with
  | lst l =>
    obtain ⟨xs, q1, q2⟩ := e3
    have hi : Is X.K (upd G a (.lst xs)) (.lst l) (.ref a) := .lst upd_same (q2.mono (Evl.Ex.new e2))
    obtain ⟨s1, R1⟩ := R.frozen e ea hi
    rw [same _ q1] at s1 R1
    exact ⟨_, H, I, s1, R1, hi⟩
  | dic l =>
    obtain ⟨kvs, q1, q2⟩ := e3
    obtain ⟨od, I1⟩ := I.lock q1 trivial
    have hi : Is X.K (upd G a (.frz od (.dK kvs))) (.dic l) (.ref a) := .dic upd_same (q2.mono (Evl.Ex.new e2))
    obtain ⟨s1, R1⟩ := R.frozen e ea hi
    exact ⟨_, _, I1, s1, R1, hi⟩
  | obj c fs =>
    obtain ⟨C, dx, fv, q1, q2, q3⟩ := e3
    have hi : Is X.K (upd G a (.ins C dx fv)) (.obj c fs) (.ref a) := .obj upd_same q2 (q3.mono (Evl.Ex.new e2))
    obtain ⟨s1, R1⟩ := R.frozen e ea hi
    rw [same _ q1] at s1 R1
    exact ⟨_, H, I, s1, R1, hi⟩
  | _ => exact False.elim e3
theorem de_var {i : Nat} (h : PE X e (tVar i)) : DE X W e (dVar i) := ⟨fun pins s σ H Q I ⟨ρ, G, R, hg⟩ => by
  unfold dVar at hg
  split at hg
  · rename_i d e1
    obtain ⟨v, e2, e3⟩ := R.vl i d e1
    exact h.run pins s σ H Q I ⟨v, e2, hg G H .refl R v e3⟩
  · rename_i d e1
    obtain ⟨a, e2, _, _⟩ := R.mu i false d e1
    obtain ⟨G', H', I', s', R', hi⟩ := shown_run I R e1 e2
    exact h.run pins s σ H' Q I' ⟨_, e2, hg G' H' s' R' _ hi⟩
  · exact False.elim hg⟩
/-- a name's value, to be looked at -/
def oVar (i : Nat) : DEnv → R Th := fun ρ => match ρ[i]? with
  | some (some _) => .ok ρ (look i)
  | _ => .no
theorem do_var {i : Nat} (h : PE X e (tVar i)) : DO X W e (oVar i) := pe_imp h fun σ H Q ⟨ρ, G, R, h⟩ => by
  unfold oVar at h
  split at h
  · rename_i c e1
    have key : ∃ v, σ[i]? = some (some v) := by
      cases c with
      | val d => obtain ⟨v, e2, _⟩ := R.vl i d e1; exact ⟨v, e2⟩
      | mu b d => obtain ⟨a, e2, _⟩ := R.mu i b d e1; exact ⟨_, e2⟩
    obtain ⟨v, e2⟩ := key
    refine ⟨v, e2, h G H .refl R v fun ρ2 G2 H2 d s2 R2 e3 => ?_⟩
    unfold look at e3
    split at e3
    · rename_i d' e4
      cases e3
      obtain ⟨v', e5, e6⟩ := R2.vl i _ e4
      rw [e2] at e5; cases e5
      exact e6.top R2.sub
    · rename_i b d' e4
      cases e3
      obtain ⟨a, e5, _, e6⟩ := R2.mu i _ _ e4
      rw [e2] at e5; cases e5
      exact e6.top
    · cases e3
  · exact False.elim h
def oD (f : DEnv → R D) : DEnv → R Th := fun ρ => (f ρ).bind fun d ρ' => .ok ρ' fun _ => some d
theorem do_val {f : DEnv → R D} (h : DE X W e f) : DO X W e (oD f) := pe_imp h fun σ H Q ⟨ρ, G, R, h⟩ =>
  ⟨ρ, G, R, (Go.bind R h).imp fun d ρ' G' H' s R' h v hv => h G' H' .refl R' v fun ρ2 G2 H2 d2 s2 R2 e => by
    cases e
    exact (hv.mono s2.g).top R2.sub⟩
def aNil : DEnv → R (List Th) := fun ρ => .ok ρ []
def aCons (f : DEnv → R Th) (g : DEnv → R (List Th)) : DEnv → R (List Th) := fun ρ => (f ρ).bind fun t ρ1 => (g ρ1).bind fun l ρ2 => .ok ρ2 (t :: l)
theorem da_nil : DA X W [] aNil := pa_imp pa_nil fun σ H Q ⟨ρ, G, R, h⟩ => h G H .refl R [] .nil
theorem da_cons {f : DEnv → R Th} {g : DEnv → R (List Th)} (h1 : DO X W e f) (h2 : DA X W es g) (hs : starEach (e :: es) X.env = (false, eval e X.env) :: starEach es X.env := by rfl) : DA X W (e :: es) (aCons f g) :=
  pa_imp (pa_cons h1 h2 hs) fun σ H Q ⟨ρ, G, R, h⟩ => ⟨ρ, G, R, (Go.bind R h).imp fun t ρ1 G1 H1 s1 R1 h1 v hv =>
    ⟨ρ1, G1, R1, (Go.bind R1 h1).imp fun l ρ2 G2 H2 s2 R2 h2 vs hvs => h2 G2 H2 .refl R2 (v :: vs) (.cons (hv.shift R1 s2) hvs)⟩⟩
def vNil : DEnv → R (List D) := fun ρ => .ok ρ []
def vCons (f : DEnv → R D) (g : DEnv → R (List D)) : DEnv → R (List D) := fun ρ => (f ρ).bind fun t ρ1 => (g ρ1).bind fun l ρ2 => .ok ρ2 (t :: l)
theorem dv_nil : DVs X W [] vNil := pa_imp pa_nil fun σ H Q ⟨ρ, G, R, h⟩ => h G H .refl R [] .nil
theorem dv_cons {f : DEnv → R D} {g : DEnv → R (List D)} (h1 : DE X W e f) (h2 : DVs X W es g) (hs : starEach (e :: es) X.env = (false, eval e X.env) :: starEach es X.env := by rfl) : DVs X W (e :: es) (vCons f g) :=
  pa_imp (pa_cons h1 h2 hs) fun σ H Q ⟨ρ, G, R, h⟩ => ⟨ρ, G, R, (Go.bind R h).imp fun t ρ1 G1 H1 s1 R1 h1 v hv =>
    ⟨ρ1, G1, R1, (Go.bind R1 h1).imp fun l ρ2 G2 H2 s2 R2 h2 vs hvs => h2 G2 H2 .refl R2 (v :: vs) (.cons (hv.mono s2.g) hvs)⟩⟩

/-! ### operations -/
def OpS (K : PySem.W.Frag) (r : R2) (g : D → D → Option D) : Prop := ∀ (x y z : D) (v u : V) (G H : Hp) (Q : VK), Evl.Ex G H → Top K G H x v → Top K G H y u → g x y = some z →
  (∀ w G' H', New G H G' H' → Is K G' z w → Q w H') → r v u H Q
def UnS (K : PySem.W.Frag) (r : V → Hp → VK → Prop) (g : D → Option D) : Prop := ∀ (x z : D) (v : V) (G H : Hp) (Q : VK), Evl.Ex G H → Top K G H x v → g x = some z →
  (∀ w G' H', New G H G' H' → Is K G' z w → Q w H') → r v H Q
def CaS (K : PySem.W.Frag) (r : List V → Hp → VK → Prop) (g : List D → Option D) : Prop := ∀ (xs : List D) (z : D) (vs : List V) (G H : Hp) (Q : VK), Evl.Ex G H → Tops K G H xs vs → g xs = some z →
  (∀ w G' H', New G H G' H' → Is K G' z w → Q w H') → r vs H Q
def dBin (g : D → D → Option D) (fa fb : DEnv → R Th) : DEnv → R D := fun ρ => (fa ρ).bind fun ta ρ1 => (fb ρ1).bind fun tb ρ2 => match ta ρ2, tb ρ2 with
  | some x, some y => ofO ρ2 (g x y)
  | _, _ => .no
theorem tbin {r : R2} {g : D → D → Option D} {fa fb : DEnv → R Th} (hs : OpS X.K r g) : ∀ σ H Q, tD X.K W (dBin g fa fb) σ H Q → tOp r (tO X.K W fa) (tO X.K W fb) σ H Q := fun σ H Q ⟨ρ, G, R, h⟩ =>
  ⟨ρ, G, R, (Go.bind R h).imp fun ta ρ1 G1 H1 s1 R1 h1 v hv => ⟨ρ1, G1, R1, (Go.bind R1 h1).imp fun tb ρ2 G2 H2 s2 R2 h2 u hu => by
    split at h2
    · rename_i x y ex ey
      cases e : g x y with
      | none => rw [e] at h2; exact False.elim h2
      | some z =>
        rw [e] at h2
        exact hs x y z v u G2 H2 Q R2.sub (hv ρ2 G2 H2 x s2 R2 ex) (hu ρ2 G2 H2 y .refl R2 ey) e fun w G' H' N hw => h2 G' H' (N.stp R2) (N.rep R2) w hw
    · exact False.elim h2⟩⟩
variable {a b : Expr} {fa fb : DEnv → R Th}
theorem de_bin {op : Operator} {r : R2} {g : D → D → Option D} (ho : OpR X (binaryOp op) r) (hs : OpS X.K r g) (ha : DO X W a fa) (hb : DO X W b fb) : DE X W (.BinOp a op b pos) (dBin g fa fb) :=
  pe_imp (pe_op ho ha hb) (tbin hs)
theorem de_cmp {op : CmpOp} {r : R2} {g : D → D → Option D} (ho : OpR X (compareOp op) r) (hs : OpS X.K r g) (ha : DO X W a fa) (hb : DO X W b fb) (hm : behindInMarks op b = false) : DE X W (.Compare a [op] [b] pos) (dBin g fa fb) :=
  pe_imp (pe_cmpR ho ha hb hm) (tbin hs)
def isB (d : D) : Option Bool := match d with | .bl b => some b | _ => none
def dTst (f : DEnv → R D) : DEnv → R Bool := fun ρ => (f ρ).bind fun d ρ' => match d with
  | .bl b => .ok ρ' b
  | _ => .no
theorem ttst {f : DEnv → R D} : ∀ σ H Q, tT X.K W (dTst f) σ H Q → tTest (tD X.K W f) σ H Q := fun σ H Q ⟨ρ, G, R, h⟩ =>
  ⟨ρ, G, R, (Go.bind R h).imp fun d ρ' G' H' s R' h v hv => by
    split at h
    · cases hv
      exact ⟨_, rfl, h G' H' .refl R'⟩
    · exact False.elim h⟩
theorem dt_cmp {op : CmpOp} {r : R2} {g : D → D → Option D} (ho : OpR X (compareOp op) r) (hs : OpS X.K r g) (ha : DO X W a fa) (hb : DO X W b fb) (hm : behindInMarks op b = false) : DT X W (.Compare a [op] [b] pos) (dTst (dBin g fa fb)) :=
  pt_imp (pt_cmpR ho ha hb hm) fun σ H Q h => by
    obtain ⟨ρ, G, R, h⟩ := ttst σ H Q h
    exact tbin hs σ H _ ⟨ρ, G, R, h⟩
def dUn (g : D → Option D) (fa : DEnv → R Th) : DEnv → R D := fun ρ => (fa ρ).bind fun ta ρ1 => match ta ρ1 with
  | some x => ofO ρ1 (g x)
  | none => .no
theorem tun {r : V → Hp → VK → Prop} {g : D → Option D} (hs : UnS X.K r g) : ∀ σ H Q, tD X.K W (dUn g fa) σ H Q → tUn r (tO X.K W fa) σ H Q := fun σ H Q ⟨ρ, G, R, h⟩ =>
  ⟨ρ, G, R, (Go.bind R h).imp fun ta ρ1 G1 H1 s1 R1 h1 v hv => by
    split at h1
    · rename_i x ex
      cases e : g x with
      | none => rw [e] at h1; exact False.elim h1
      | some z =>
        rw [e] at h1
        exact hs x z v G1 H1 Q R1.sub (hv ρ1 G1 H1 x .refl R1 ex) e fun w G' H' N hw => h1 G' H' (N.stp R1) (N.rep R1) w hw
    · exact False.elim h1⟩
theorem de_un {op : UnaryOp} {r : V → Hp → VK → Prop} {g : D → Option D} (ho : UnR X (unaryOp op) r) (hs : UnS X.K r g) (ha : DO X W a fa) : DE X W (.UnaryOp op a pos) (dUn g fa) := pe_imp (pe_un ho ha) (tun hs)
def dCal (g : List D → Option D) (f : DEnv → R (List Th)) : DEnv → R D := fun ρ => (f ρ).bind fun l ρ1 => match ths l ρ1 with
  | some xs => ofO ρ1 (g xs)
  | none => .no
theorem tcal {r : List V → Hp → VK → Prop} {g : List D → Option D} {f : DEnv → R (List Th)} (hs : CaS X.K r g) : ∀ σ H Q, tD X.K W (dCal g f) σ H Q → tCB r (tAs X.K W f) σ H Q := fun σ H Q ⟨ρ, G, R, h⟩ =>
  ⟨ρ, G, R, (Go.bind R h).imp fun l ρ1 G1 H1 s1 R1 h1 vs hv => by
    split at h1
    · rename_i xs ex
      cases e : g xs with
      | none => rw [e] at h1; exact False.elim h1
      | some z =>
        rw [e] at h1
        exact hs xs z vs G1 H1 Q R1.sub (hv.tops R1 ex) e fun w G' H' N hw => h1 G' H' (N.stp R1) (N.rep R1) w hw
    · exact False.elim h1⟩
end
end DF

namespace DF
open PySem PySem.Spec PyProof.Rows L2

inductive SR where
  | no
  | nx (ρ : DEnv)
  | brk (ρ : DEnv)
  | cnt (ρ : DEnv)
  | ret (ρ : DEnv) (fr : Bool) (d : D)
  | ex (ρ : DEnv) (e : Exc)
/-- what is handed back: data that stay, or a list or dict that nothing else reaches -/
def RIs (K : PySem.W.Frag) (ρ' : DEnv) (σ' : Sl) (G' H' H : Hp) (fr : Bool) (d : D) (v : V) : Prop := match fr with
  | false => Is K G' d v
  | true => ∃ a, v = .ref a ∧ G' a = none ∧ (Mu false ρ' σ' a ∨ H a = none) ∧ Cont K G' H' a d
def GoS (K : PySem.W.Frag) (W : WX) (σ : Sl) (ρ : DEnv) (G H : Hp) (E : Ends) (r : SR) : Prop := match r with
  | .no => False
  | .nx ρ' => ∀ σ' G' H', Stp ρ σ G H ρ' σ' G' H' → Rep K G' H' ρ' σ' → E.nx σ' H'
  | .brk ρ' => ∀ σ' G' H', Stp ρ σ G H ρ' σ' G' H' → Rep K G' H' ρ' σ' → E.bk σ' H'
  | .cnt ρ' => ∀ σ' G' H', Stp ρ σ G H ρ' σ' G' H' → Rep K G' H' ρ' σ' → E.ct σ' H'
  | .ret ρ' fr d => ∀ v σ' G' H', Stp ρ σ G H ρ' σ' G' H' → Rep K G' H' ρ' σ' → RIs K ρ' σ' G' H' H fr d v → E.rt v H'
  | .ex ρ' e => ∀ d σ' G' H', Stp ρ σ G H ρ' σ' G' H' → Rep K G' H' ρ' σ' → EIs K G' H' e d → W e.cls d σ' H'
def tS (K : PySem.W.Frag) (W : WX) (f : DEnv → SR) : TS := fun E σ H => ∃ ρ G, Rep K G H ρ σ ∧ GoS K W σ ρ G H E (f ρ)
abbrev DS (X : Cx) (W : WX) (st : Stmt) (f : DEnv → SR) : Prop := PS X st (tS X.K W f)
abbrev DSs (X : Cx) (W : WX) (st : List Stmt) (f : DEnv → SR) : Prop := PSs X st (tS X.K W f)
theorem ps_imp {X : Cx} {st : Stmt} {t t' : TS} (h : PS X st t) (i : ∀ E σ H, t' E σ H → t E σ H) : PS X st t' := ⟨fun pins s σ H E I q => h.run pins s σ H E I (i E σ H q)⟩
theorem pss_imp {X : Cx} {st : List Stmt} {t t' : TS} (h : PSs X st t) (i : ∀ E σ H, t' E σ H → t E σ H) : PSs X st t' := ⟨fun pins s σ H E I q => h.run pins s σ H E I (i E σ H q)⟩
section
variable {K : PySem.W.Frag} {W : WX} {σ σ1 : Sl} {ρ ρ1 : DEnv} {G G1 H H1 : Hp} {E E' : Ends}
theorem RIs.back {ρ' : DEnv} {σ' : Sl} {G' H' : Hp} {fr : Bool} {d : D} {v : V} (ht : ∀ b, H1 b = none → H b = none) (h : RIs K ρ' σ' G' H' H1 fr d v) : RIs K ρ' σ' G' H' H fr d v := by
  cases fr with
  | false => exact h
  | true =>
    obtain ⟨a, e1, e2, e3, e4⟩ := h
    exact ⟨a, e1, e2, e3.imp id (ht a), e4⟩
theorem GoS.shift {r : SR} (R0 : Rep K G H ρ σ) (s : Stp ρ σ G H ρ1 σ1 G1 H1) (h : GoS K W σ ρ G H E r) : GoS K W σ1 ρ1 G1 H1 E r := by
  cases r with
  | no => exact h
  | nx ρ' => exact fun σ' G' H' s' R => h σ' G' H' (s.trans R0 s') R
  | brk ρ' => exact fun σ' G' H' s' R => h σ' G' H' (s.trans R0 s') R
  | cnt ρ' => exact fun σ' G' H' s' R => h σ' G' H' (s.trans R0 s') R
  | ret ρ' fr d => exact fun v σ' G' H' s' R q => h v σ' G' H' (s.trans R0 s') R (q.back s.t)
  | ex ρ' e => exact fun d σ' G' H' s' R => h d σ' G' H' (s.trans R0 s') R
end
/-- an expression, then what its value leads to -/
def R.bindS {α : Type} (r : R α) (f : α → DEnv → SR) : SR := match r with
  | .no => .no
  | .ok ρ a => f a ρ
  | .ex ρ e => .ex ρ e
theorem R.bindS_ok {α : Type} {ρ : DEnv} {a : α} {f : α → DEnv → SR} : (R.ok ρ a).bindS f = f a ρ := rfl
section
variable {K : PySem.W.Frag} {W : WX} {σ σ1 : Sl} {ρ ρ1 : DEnv} {G G1 H H1 : Hp} {E E' : Ends}
theorem Go.bindS {α : Type} {r : R α} {g : α → DEnv → SR} (R0 : Rep K G H ρ σ) (h : GoS K W σ ρ G H E (r.bindS g)) : Go K W σ ρ G H (fun a ρ' G' H' => GoS K W σ ρ' G' H' E (g a ρ')) r := by
  cases r with
  | no => exact h
  | ok ρ' a => exact fun G' H' s R => GoS.shift R0 s h
  | ex ρ' e => exact fun G' H' d s R => h d σ G' H' s R
def SR.bind (r : SR) (g : DEnv → SR) : SR := match r with
  | .nx ρ => g ρ
  | .no => .no | .brk ρ => .brk ρ | .cnt ρ => .cnt ρ | .ret ρ fr d => .ret ρ fr d | .ex ρ e => .ex ρ e
theorem SR.bind_nx {ρ : DEnv} {g : DEnv → SR} : (SR.nx ρ).bind g = g ρ := rfl
theorem GoS.bind {r : SR} {g : DEnv → SR} (R0 : Rep K G H ρ σ) (h : GoS K W σ ρ G H E (r.bind g)) : GoS K W σ ρ G H { E with nx := tS K W g E } r := by
  cases r with
  | nx ρ' => exact fun σ' G' H' s R => ⟨ρ', G', R, GoS.shift R0 s h⟩
  | no => exact h
  | brk _ => exact h
  | cnt _ => exact h
  | ret _ _ _ => exact h
  | ex _ _ => exact h
end
def dSeq (f g : DEnv → SR) : DEnv → SR := fun ρ => (f ρ).bind g
section
variable {X : Cx} {W : WX} {st : Stmt} {rest : List Stmt} {f g : DEnv → SR} {pos : Pos} {e : Expr}
theorem dss_nil : DSs X W [] SR.nx := pss_imp pss_nil fun E σ H ⟨ρ, G, R, h⟩ => h σ G H .refl R
theorem dss_cons (h1 : DS X W st f) (h2 : DSs X W rest g) : DSs X W (st :: rest) (dSeq f g) := pss_imp (pss_cons h1 h2) fun E σ H ⟨ρ, G, R, h⟩ => ⟨ρ, G, R, GoS.bind R h⟩
theorem dss_one (h1 : DS X W st f) : DSs X W [st] f := pss_one h1
theorem ds_pass : DS X W (.Pass pos) SR.nx := ps_imp ps_pass fun E σ H ⟨ρ, G, R, h⟩ => h σ G H .refl R
theorem ds_break : DS X W (.Break pos) SR.brk := ps_imp ps_break fun E σ H ⟨ρ, G, R, h⟩ => h σ G H .refl R
theorem ds_continue : DS X W (.Continue pos) SR.cnt := ps_imp ps_continue fun E σ H ⟨ρ, G, R, h⟩ => h σ G H .refl R
def dNever : DEnv → SR := fun _ => .no
theorem ds_never : DS X W st dNever := ps_imp ps_never fun E σ H ⟨ρ, G, R, h⟩ => h
theorem dss_never {sts : List Stmt} : DSs X W sts dNever := pss_imp pss_never fun E σ H ⟨ρ, G, R, h⟩ => h
/-- an if -/
def dIf (c : DEnv → R Bool) (f g : DEnv → SR) : DEnv → SR := fun ρ => (c ρ).bindS fun b ρ' => match b with
  | true => f ρ'
  | false => g ρ'
theorem ds_if {c : Expr} {a b : List Stmt} {fc : DEnv → R Bool} (hc : DT X W c fc) (ha : DSs X W a f) (hb : DSs X W b g) : DS X W (.If c a b pos) (dIf fc f g) :=
  ps_imp (ps_if hc ha hb) fun E σ H ⟨ρ, G, R, h⟩ => ⟨ρ, G, R, (Go.bindS R h).imp fun b ρ' G' H' s R' h => by
    cases b with
    | true => rw [if_pos rfl]; exact ⟨ρ', G', R', h⟩
    | false => rw [if_neg Bool.false_ne_true]; exact ⟨ρ', G', R', h⟩⟩
/-- return -/
def dRet (f : DEnv → R D) : DEnv → SR := fun ρ => (f ρ).bindS fun d ρ' => .ret ρ' false d
theorem ds_ret {f : DEnv → R D} (h : DE X W e f) : DS X W (.Return (some e) pos) (dRet f) := ps_imp (ps_ret h) fun E σ H ⟨ρ, G, R, h⟩ => ⟨ρ, G, R, (Go.bindS R h).imp fun d ρ' G' H' s R' h v hv => h v σ G' H' .refl R' hv⟩
def dRetF (f : DEnv → R D) : DEnv → SR := fun ρ => (f ρ).bindS fun d ρ' => .ret ρ' true d
def dRetN : DEnv → SR := fun ρ => .ret ρ false .non
theorem ds_retN : DS X W (.Return none pos) dRetN := ps_imp ps_retN fun E σ H ⟨ρ, G, R, h⟩ => h .non σ G H .refl R .non
/-- return x, a slot -/
def dRetV (i : Nat) : DEnv → SR := fun ρ => match ρ[i]? with
  | some (some (.val d)) => .ret ρ false d
  | some (some (.mu false d)) => .ret ρ true d
  | _ => .no
theorem ds_retV {i : Nat} (h : PE X e (tVar i)) : DS X W (.Return (some e) pos) (dRetV i) := ps_imp (ps_ret h) fun E σ H ⟨ρ, G, R, h⟩ => by
  unfold dRetV at h
  split at h
  · rename_i d e1
    obtain ⟨v, e2, e3⟩ := R.vl i d e1
    exact ⟨v, e2, h v σ G H .refl R e3⟩
  · rename_i d e1
    obtain ⟨a, e2, e3, e4⟩ := R.mu i false d e1
    exact ⟨_, e2, h (.ref a) σ G H .refl R ⟨a, rfl, e3, .inl ⟨i, d, e1, e2⟩, e4⟩⟩
  · exact False.elim h
def dExpr (f : DEnv → R D) : DEnv → SR := fun ρ => (f ρ).bindS fun _ ρ' => .nx ρ'
theorem ds_expr {f : DEnv → R D} (h : DE X W e f) (hs : swapsWith e none pos.line X.env = pure false := by rfl) : DS X W (.Expr e pos) (dExpr f) :=
  ps_imp (ps_expr h hs) fun E σ H ⟨ρ, G, R, h⟩ => ⟨ρ, G, R, (Go.bindS R h).imp fun d ρ' G' H' s R' h v hv => h σ G' H' .refl R'⟩
theorem ds_doc {x j pos pos'} : DS X W (.Expr (.Constant (.str x) j pos) pos') SR.nx := ps_imp ps_doc fun E σ H ⟨ρ, G, R, h⟩ => h σ G H .refl R
end

/-! ### slots are filled -/
def free (ρ : DEnv) (i : Nat) : Bool := match ρ[i]? with
  | none => false
  | some (some (.mu true _)) => false
  | _ => true
theorem free_lt {ρ : DEnv} {i : Nat} (h : free ρ i = true) : i < ρ.length := by
  unfold free at h
  split at h
  · cases h
  · cases h
  · rename_i h1 h2
    exact Nat.lt_of_not_le fun z => h1 (List.getElem?_eq_none z)
theorem free_io {ρ : DEnv} {i : Nat} (h : free ρ i = true) (d : D) : ρ[i]? ≠ some (some (.mu true d)) := fun z => by
  unfold free at h
  rw [z] at h
  cases h
def setV (i : Nat) (d : D) (ρ : DEnv) : Option DEnv := if free ρ i = true then some (ρ.set i (some (.val d))) else none
def setF (i : Nat) (d : D) (ρ : DEnv) : Option DEnv := if free ρ i = true then some (ρ.set i (some (.mu false d))) else none
section
variable {K : PySem.W.Frag} {ρ ρ' : DEnv} {σ : Sl} {G H : Hp} {i : Nat} {d : D} {v : V}
theorem set_get {α : Type} {l : List α} {i j : Nat} {x y : α} (h : (l.set i x)[j]? = some y) : (i = j ∧ x = y) ∨ (i ≠ j ∧ l[j]? = some y) := by
  by_cases e : i = j
  · subst e
    by_cases q : i < l.length
    · rw [List.getElem?_set_self q] at h
      exact .inl ⟨rfl, Option.some.inj h⟩
    · rw [List.getElem?_eq_none (by rw [List.length_set]; omega)] at h
      cases h
  · rw [List.getElem?_set_ne e] at h
    exact .inr ⟨e, h⟩
theorem Rep.setV (R : Rep K G H ρ σ) (e : setV i d ρ = some ρ') (hv : Is K G d v) : Rep K G H ρ' (σ.set i (some v)) := by
  unfold DF.setV at e
  split at e
  · rename_i hf
    cases e
    have hl : i < σ.length := by rw [← R.len]; exact free_lt hf
    refine ⟨R.sub, by rw [List.length_set, List.length_set]; exact R.len, fun j d' e1 => ?_, fun j b d' e1 => ?_, fun j k b c d1 d2 a e1 e2 e3 e4 => ?_⟩
    · rcases set_get e1 with ⟨rfl, e2⟩ | ⟨n, e2⟩
      · cases e2
        exact ⟨v, List.getElem?_set_self hl, hv⟩
      · obtain ⟨v', e3, e4⟩ := R.vl j d' e2
        exact ⟨v', by rw [List.getElem?_set_ne n]; exact e3, e4⟩
    · rcases set_get e1 with ⟨rfl, e2⟩ | ⟨n, e2⟩
      · cases e2
      · obtain ⟨a, e3, e4⟩ := R.mu j b d' e2
        exact ⟨a, by rw [List.getElem?_set_ne n]; exact e3, e4⟩
    · rcases set_get e1 with ⟨rfl, z⟩ | ⟨n1, f1⟩
      · cases z
      · rcases set_get e2 with ⟨rfl, z⟩ | ⟨n2, f2⟩
        · cases z
        · rw [List.getElem?_set_ne n1] at e3
          rw [List.getElem?_set_ne n2] at e4
          exact R.ap j k b c d1 d2 a f1 f2 e3 e4
  · cases e
theorem Stp.setV (R : Rep K G H ρ σ) (e : setV i d ρ = some ρ') : Stp ρ σ G H ρ' (σ.set i (some v)) G H := by
  unfold DF.setV at e
  split at e
  · rename_i hf
    cases e
    have hl : i < σ.length := by rw [← R.len]; exact free_lt hf
    refine ⟨fun _ _ e => e, fun _ _ _ _ e => e, fun _ e => e, fun _ e q => absurd e q, fun b ⟨j, d', e1, e2⟩ => ?_, fun j => ⟨fun d' e1 => ?_, fun d' e1 => ?_⟩⟩
    · rcases set_get e1 with ⟨rfl, z⟩ | ⟨n, f1⟩
      · cases z
      · rw [List.getElem?_set_ne n] at e2
        exact .inl ⟨j, d', f1, e2⟩
    · have n : i ≠ j := fun z => by subst z; exact free_io hf d' e1
      exact ⟨d', by rw [List.getElem?_set_ne n]; exact e1, by rw [List.getElem?_set_ne n]⟩
    · rcases set_get e1 with ⟨rfl, z⟩ | ⟨n, f1⟩
      · cases z
      · exact ⟨d', f1⟩
  · cases e
theorem Rep.setF {a : Addr} (R : Rep K G H ρ σ) (e : setF i d ρ = some ρ') (h0 : G a = none) (h1 : ¬ Mu false ρ σ a) (h2 : ¬ Mu true ρ σ a) (hc : Cont K G H a d) : Rep K G H ρ' (σ.set i (some (.ref a))) := by
  unfold DF.setF at e
  split at e
  · rename_i hf
    cases e
    have hl : i < σ.length := by rw [← R.len]; exact free_lt hf
    have no : ∀ (j : Nat) (b : Bool) (d' : D), ρ[j]? = some (some (.mu b d')) → σ[j]? = some (some (.ref a)) → False := fun j b d' q1 q2 => by
      cases b with
      | false => exact h1 ⟨j, d', q1, q2⟩
      | true => exact h2 ⟨j, d', q1, q2⟩
    refine ⟨R.sub, by rw [List.length_set, List.length_set]; exact R.len, fun j d' e1 => ?_, fun j b d' e1 => ?_, fun j k b c d1 d2 a' e1 e2 e3 e4 => ?_⟩
    · rcases set_get e1 with ⟨rfl, z⟩ | ⟨n, e2⟩
      · cases z
      · obtain ⟨v', e3, e4⟩ := R.vl j d' e2
        exact ⟨v', by rw [List.getElem?_set_ne n]; exact e3, e4⟩
    · rcases set_get e1 with ⟨rfl, z⟩ | ⟨n, e2⟩
      · cases z
        exact ⟨a, List.getElem?_set_self hl, h0, hc⟩
      · obtain ⟨a', e3, e4⟩ := R.mu j b d' e2
        exact ⟨a', by rw [List.getElem?_set_ne n]; exact e3, e4⟩
    · rcases set_get e1 with ⟨q1, z1⟩ | ⟨n1, f1⟩
      · rcases set_get e2 with ⟨q2, z2⟩ | ⟨n2, f2⟩
        · exact q1.symm.trans q2
        · subst q1
          rw [List.getElem?_set_self hl] at e3
          cases e3
          rw [List.getElem?_set_ne n2] at e4
          exact (no k c d2 f2 e4).elim
      · rcases set_get e2 with ⟨q2, z2⟩ | ⟨n2, f2⟩
        · subst q2
          rw [List.getElem?_set_self hl] at e4
          cases e4
          rw [List.getElem?_set_ne n1] at e3
          exact (no j b d1 f1 e3).elim
        · rw [List.getElem?_set_ne n1] at e3
          rw [List.getElem?_set_ne n2] at e4
          exact R.ap j k b c d1 d2 a' f1 f2 e3 e4
  · cases e
/-- the step that ends with a slot filled by a thing that was made on the way -/
theorem Stp.setF {ρ0 : DEnv} {σ0 : Sl} {G0 H0 : Hp} {a : Addr} (S : Stp ρ0 σ0 G0 H0 ρ σ G H) (R : Rep K G H ρ σ) (e : setF i d ρ = some ρ') (hn : H0 a = none) : Stp ρ0 σ0 G0 H0 ρ' (σ.set i (some (.ref a))) G H := by
  unfold DF.setF at e
  split at e
  · rename_i hf
    cases e
    have hl : i < σ.length := by rw [← R.len]; exact free_lt hf
    refine ⟨S.g, S.h, S.t, S.n, fun b ⟨j, d', e1, e2⟩ => ?_, fun j => ⟨fun d' e1 => ?_, fun d' e1 => ?_⟩⟩
    · rcases set_get e1 with ⟨q, z⟩ | ⟨n, f1⟩
      · subst q
        rw [List.getElem?_set_self hl] at e2
        cases e2
        exact .inr hn
      · rw [List.getElem?_set_ne n] at e2
        exact S.ow b ⟨j, d', f1, e2⟩
    · obtain ⟨d1, f1, f2⟩ := (S.io j).1 d' e1
      have n : i ≠ j := fun z => by subst z; exact free_io hf d1 f1
      exact ⟨d1, by rw [List.getElem?_set_ne n]; exact f1, by rw [List.getElem?_set_ne n]; exact f2⟩
    · rcases set_get e1 with ⟨rfl, z⟩ | ⟨n, f1⟩
      · cases z
      · exact (S.io j).2 d' f1
  · cases e
end
def dSet (i : Nat) (f : DEnv → R D) : DEnv → SR := fun ρ => (f ρ).bindS fun d ρ' => match setV i d ρ' with
  | none => .no
  | some ρ2 => .nx ρ2
/-- where what is made is kept as one's own -/
def dSetF (i : Nat) (f : DEnv → R D) : DEnv → SR := fun ρ => match f ρ with
  | .no => .no
  | .ex ρ' e => .ex ρ' e
  | .ok ρ' d => match setF i d ρ' with
    | none => .no
    | some ρ2 => .nx ρ2
section
variable {X : Cx} {W : WX} {i : Nat} {x : Str} {e : Expr} {pos pos' : Pos} {f : DEnv → R D}
theorem tset {te : TE} (hs : ∀ σ H Q, tD X.K W f σ H Q → te σ H Q) : ∀ E σ H, tS X.K W (dSet i f) E σ H → tAsg te (gName i) E σ H := fun E σ H ⟨ρ, G, R, h⟩ =>
  hs σ H _ ⟨ρ, G, R, (Go.bindS R h).imp fun d ρ' G' H' s R' h v hv => by
    split at h
    · exact False.elim h
    · rename_i ρ2 e2
      exact h _ G' H' (Stp.setV R' e2) (R'.setV e2 hv)⟩
theorem ds_set (hN : X.N.Nodup) (hi : X.N[i]? = some x) (hx : Loc X.env.scope x) (he : DE X W e f) (hs : swapsWith e (some (.Name x pos')) pos.line X.env = pure false := by rfl) (hf : X.fn x = true ∨ X.env.scope.names.lookup x = some .local := by first | exact .inl rfl | exact .inr rfl | assumption) :
    DS X W (.Assign [.Name x pos'] e pos) (dSet i f) := ps_imp (ps_set hN hi hx he hs hf) (tset fun _ _ _ h => h)
theorem tsetF {te : TE} (hs : ∀ σ H Q, tF X.K W f σ H Q → te σ H Q) : ∀ E σ H, tS X.K W (dSetF i f) E σ H → tAsg te (gName i) E σ H := fun E σ H ⟨ρ, G, R, h⟩ => hs σ H _ ⟨ρ, G, R, by
      unfold dSetF at h
      split at h
      · exact False.elim h
      · rename_i ρ' ee e1
        rw [e1]
        exact fun G' H' d s R' hd => h d σ G' H' s R' hd
      · rename_i ρ' d e1
        rw [e1]
        split at h
        · exact False.elim h
        · rename_i ρ2 e2
          exact fun G' H' s R' a h0 h1 h2 hn hc => h _ G' H' (s.setF R' e2 hn) (R'.setF e2 h0 h1 h2 hc)⟩
theorem ds_setF (hN : X.N.Nodup) (hi : X.N[i]? = some x) (hx : Loc X.env.scope x) (he : DF' X W e f) (hs : swapsWith e (some (.Name x pos')) pos.line X.env = pure false := by rfl) (hf : X.fn x = true ∨ X.env.scope.names.lookup x = some .local := by first | exact .inl rfl | exact .inr rfl | assumption) :
    DS X W (.Assign [.Name x pos'] e pos) (dSetF i f) := ps_imp (ps_set hN hi hx he hs hf) (tsetF fun _ _ _ h => h)
theorem ds_retF (he : DF' X W e f) : DS X W (.Return (some e) pos) (dRetF f) := ps_imp (ps_ret he) fun E σ H ⟨ρ, G, R, h⟩ => ⟨ρ, G, R, by
      unfold dRetF at h
      cases e1 : f ρ with
      | no => rw [e1] at h; exact h
      | ex ρ' ee => rw [e1] at h; exact fun G' H' d s R' hd => h d σ G' H' s R' hd
      | ok ρ' d =>
        rw [e1] at h
        exact fun G' H' s R' a h0 h1 h2 hn hc => h (.ref a) σ G' H' s R' ⟨a, rfl, h0, .inr hn, hc⟩⟩
/-- what was made is looked at by others from here on -/
theorem tfresh (hL : ∀ ρ ρ' d, f ρ = .ok ρ' d → ∃ l, d = .lst l) : ∀ σ H Q, tD X.K W f σ H Q → tF X.K W f σ H Q := fun σ H Q ⟨ρ, G, R, h⟩ => ⟨ρ, G, R, by
  cases e1 : f ρ with
  | no => rw [e1] at h; exact h
  | ex ρ' ee => rw [e1] at h; exact h
  | ok ρ' d =>
    rw [e1] at h
    intro G' H' s R' a h0 h1 h2 hn hc
    obtain ⟨o, ho⟩ := hc.there
    have eG : Evl.Ex G' (upd G' a o) := Evl.Ex.new h0
    have hi : Is X.K (upd G' a o) d (.ref a) := by
      cases d with
      | lst l =>
        obtain ⟨xs, q1, q2⟩ := hc
        rw [ho] at q1; cases q1
        exact .lst upd_same (q2.mono eG)
      | dic l =>
        obtain ⟨m, hm⟩ := hL _ _ _ e1
        cases hm
      | obj c fs =>
        obtain ⟨m, hm⟩ := hL _ _ _ e1
        cases hm
      | _ => exact False.elim hc
    have eS : Evl.Ex (upd G' a o) H' := fun b u q => by
      by_cases z : b = a
      · subst z; rw [upd_same] at q; cases q; exact ho
      · rw [upd_ne z] at q; exact R'.sub b u q
    refine h (upd G' a o) H' ⟨fun b u q => eG b u (s.g b u q), s.h, s.t, fun b q1 q2 => ?_, s.ow, s.io⟩ ⟨eS, R'.len, fun j d' q => ?_, fun j b d' q => ?_, R'.ap⟩ _ hi
    · by_cases z : b = a
      · subst z; exact .inl hn
      · rw [upd_ne z] at q2; exact s.n b q1 q2
    · obtain ⟨v, z1, z2⟩ := R'.vl j d' q
      exact ⟨v, z1, z2.mono eG⟩
    · obtain ⟨c, z1, z2, z3⟩ := R'.mu j b d' q
      have nc : c ≠ a := fun z => by
        subst z
        cases b with
        | false => exact h1 ⟨j, d', q, z1⟩
        | true => exact h2 ⟨j, d', q, z1⟩
      exact ⟨c, z1, by rw [upd_ne nc]; exact z2, z3.mono eG fun o q => q⟩⟩
theorem fresh_put {K : PySem.W.Frag} {ρ0 ρ' : DEnv} {σ : Sl} {G0 H0 G' H' : Hp} {d : D} {a : Addr} {o : HO} (s : Stp ρ0 σ G0 H0 ρ' σ G' H') (R' : Rep K G' H' ρ' σ) (h0 : G' a = none) (h1 : ¬ Mu false ρ' σ a) (h2 : ¬ Mu true ρ' σ a) (hn : H0 a = none) :
    Stp ρ0 σ G0 H0 ρ' σ (upd G' a o) (upd H' a o) ∧ Rep K (upd G' a o) (upd H' a o) ρ' σ := by
  have eG : Evl.Ex G' (upd G' a o) := Evl.Ex.new h0
  have eS : Evl.Ex (upd G' a o) (upd H' a o) := fun b u q => by
    by_cases z : b = a
    · subst z; rw [upd_same] at q ⊢; exact q
    · rw [upd_ne z] at q ⊢; exact R'.sub b u q
  refine ⟨⟨fun b u q => eG b u (s.g b u q), fun b u n1 n2 q => ?_, fun b q => ?_, fun b q1 q2 => ?_, s.ow, s.io⟩, ⟨eS, R'.len, fun j d' q => ?_, fun j b d' q => ?_, R'.ap⟩⟩
  · have n : b ≠ a := fun z => by subst z; rw [hn] at q; cases q
    rw [upd_ne n]; exact s.h b u n1 n2 q
  · by_cases z : b = a
    · subst z; rw [upd_same] at q; cases q
    · rw [upd_ne z] at q; exact s.t b q
  · by_cases z : b = a
    · subst z; exact .inl hn
    · rw [upd_ne z] at q2; exact s.n b q1 q2
  · obtain ⟨v, z1, z2⟩ := R'.vl j d' q
    exact ⟨v, z1, z2.mono eG⟩
  · obtain ⟨c, z1, z2, z3⟩ := R'.mu j b d' q
    have nc : c ≠ a := fun z => by
      subst z
      cases b with
      | false => exact h1 ⟨j, d', q, z1⟩
      | true => exact h2 ⟨j, d', q, z1⟩
    exact ⟨c, z1, by rw [upd_ne nc]; exact z2, z3.mono eG fun o q => by rw [upd_ne nc]; exact q⟩
/-- .. as the machine sees it -/
theorem fresh_run {X : Cx} {pins : List (Addr × Obj)} {st : Shared} {ρ0 ρ' : DEnv} {σ : Sl} {G0 H0 G' H' : Hp} {d : D} {a : Addr} (I : Inv X pins σ H' st) (s : Stp ρ0 σ G0 H0 ρ' σ G' H') (R' : Rep X.K G' H' ρ' σ) (h0 : G' a = none) (h1 : ¬ Mu false ρ' σ a) (h2 : ¬ Mu true ρ' σ a) (hn : H0 a = none) (hc : Cont X.K G' H' a d) :
    ∃ G2 H2, Inv X pins σ H2 st ∧ Stp ρ0 σ G0 H0 ρ' σ G2 H2 ∧ Rep X.K G2 H2 ρ' σ ∧ Is X.K G2 d (.ref a) := by
  have same : ∀ o, H' a = some o → upd H' a o = H' := fun o ho => funext fun b => by
    by_cases z : b = a
    · subst z; rw [upd_same]; exact ho.symm
    · rw [upd_ne z]
  cases d with
  | lst l =>
    obtain ⟨xs, q1, q2⟩ := hc
    obtain ⟨s1, R1⟩ := fresh_put (o := .lst xs) (d := .lst l) s R' h0 h1 h2 hn
    rw [same _ q1] at s1 R1
    exact ⟨_, H', I, s1, R1, .lst upd_same (q2.mono (Evl.Ex.new h0))⟩
  | dic l =>
    obtain ⟨kvs, q1, q2⟩ := hc
    obtain ⟨od, I1⟩ := I.lock q1 trivial
    obtain ⟨s1, R1⟩ := fresh_put (o := .frz od (.dK kvs)) (d := .dic l) s R' h0 h1 h2 hn
    exact ⟨_, _, I1, s1, R1, .dic upd_same (q2.mono (Evl.Ex.new h0))⟩
  | obj c fs =>
    obtain ⟨C, dx, fv, q1, q2, q3⟩ := hc
    obtain ⟨s1, R1⟩ := fresh_put (o := .ins C dx fv) (d := .obj c fs) s R' h0 h1 h2 hn
    rw [same _ q1] at s1 R1
    exact ⟨_, H', I, s1, R1, .obj upd_same q2 (q3.mono (Evl.Ex.new h0))⟩
  | _ => exact False.elim hc
theorem de_fresh (he : DF' X W e f) : DE X W e f := ⟨fun pins s σ H Q I ⟨ρ, G, R, hg⟩ => by
  refine thn (he.run pins s σ H (fun x H1 => ∃ a d ρ' G', x = .ref a ∧ Stp ρ σ G H ρ' σ G' H1 ∧ Rep X.K G' H1 ρ' σ ∧ G' a = none ∧ ¬ Mu false ρ' σ a ∧ ¬ Mu true ρ' σ a ∧ H a = none ∧ Cont X.K G' H1 a d ∧ ∀ G2 H2, Stp ρ σ G H ρ' σ G2 H2 → Rep X.K G2 H2 ρ' σ → ∀ v, Is X.K G2 d v → Q v H2) I ⟨ρ, G, R, ?_⟩) fun u s1 ⟨x, H1, I1, rx, a, d, ρ', G', ex, k1, k2, k3, k4, k5, k6, k7, k8⟩ => ?_
  · cases e1 : f ρ with
    | no => rw [e1] at hg; exact hg
    | ex ρ' ee => rw [e1] at hg; exact hg
    | ok ρ' d =>
      rw [e1] at hg
      exact fun G' H' s R' a h0 h1 h2 hn hc => ⟨a, d, ρ', G', rfl, s, R', h0, h1, h2, hn, hc, fun G2 H2 s2 R2 v hv => hg G2 H2 s2 R2 v hv⟩
  · obtain ⟨G2, H2, I2, s2, R2, hi⟩ := fresh_run I1 k1 k2 k3 k4 k5 k6 k7
    subst ex
    exact ⟨_, H2, I2, rx, k8 G2 H2 s2 R2 _ hi⟩⟩
end

/-! ### while -/
def dWhile (c : DEnv → R Bool) (b : DEnv → SR) : Nat → DEnv → SR
  | 0, _ => .no
  | n + 1, ρ => (c ρ).bindS fun t ρ1 => match t with
    | false => .nx ρ1
    | true => match b ρ1 with
      | .nx ρ2 => dWhile c b n ρ2
      | .cnt ρ2 => dWhile c b n ρ2
      | .brk ρ2 => .nx ρ2
      | .no => .no
      | .ret ρ2 fr d => .ret ρ2 fr d
      | .ex ρ2 e => .ex ρ2 e
/-- a loop's body: its end leads on -/
theorem GoS.turn {K : PySem.W.Frag} {W : WX} {σ : Sl} {ρ : DEnv} {G H : Hp} {E : Ends} {g : DEnv → SR} {r : SR} (R0 : Rep K G H ρ σ)
    (h : GoS K W σ ρ G H E (match r with | .nx ρ2 => g ρ2 | .cnt ρ2 => g ρ2 | .brk ρ2 => .nx ρ2 | .no => .no | .ret ρ2 fr d => .ret ρ2 fr d | .ex ρ2 e => .ex ρ2 e)) :
    GoS K W σ ρ G H { E with nx := tS K W g E, ct := tS K W g E, bk := E.nx } r := by
  cases r with
  | nx ρ' => exact fun σ' G' H' s R => ⟨ρ', G', R, GoS.shift R0 s h⟩
  | cnt ρ' => exact fun σ' G' H' s R => ⟨ρ', G', R, GoS.shift R0 s h⟩
  | brk ρ' => exact h
  | no => exact h
  | ret _ _ _ => exact h
  | ex _ _ => exact h
theorem ds_while {X : Cx} {W : WX} {c : Expr} {body : List Stmt} {fc : DEnv → R Bool} {fb : DEnv → SR} {pos : Pos} (n : Nat) (hp : PassesOwn (model X.prog X.w) X.A X.env X.xe) (hc : DT X W c fc) (hb : DSs X W body fb) :
    DS X W (.While c body [] pos) (dWhile fc fb n) := ps_imp (ps_while hp hc hb) fun E σ H h => by
  refine ⟨fun m σ H => tS X.K W (dWhile fc fb m) E σ H, ⟨n, h⟩, fun m σ H ⟨ρ, G, R, h⟩ => ?_⟩
  cases m with
  | zero => exact False.elim h
  | succ m =>
    refine ⟨ρ, G, R, (Go.bindS R h).imp fun b ρ1 G1 H1 s1 R1 h1 => ?_⟩
    cases b with
    | false =>
      rw [if_neg Bool.false_ne_true]
      exact h1 σ G1 H1 .refl R1
    | true =>
      rw [if_pos rfl]
      exact ⟨tS X.K W (dWhile fc fb m) E, fun σ' H' q => ⟨m, Nat.lt_succ_self m, q⟩, ρ1, G1, R1, GoS.turn R1 h1⟩
end DF

namespace DF
open PySem PySem.Spec PyProof.Rows L2

/-! ### targets -/
abbrev Tg := D → DEnv → Option DEnv
def Agr (vs : List Nat) (σ σ' : Sl) : Prop := σ'.length = σ.length ∧ ∀ i, i ∉ vs → σ'[i]? = σ[i]?
def tG (K : PySem.W.Frag) (f : Tg) (sl : List Nat) : TG := fun v σ H Q => ∃ ρ G d, Rep K G H ρ σ ∧ Is K G d v ∧ ∃ ρ', f d ρ = some ρ' ∧ ∀ σ' G' H', Stp ρ σ G H ρ' σ' G' H' → Rep K G' H' ρ' σ' → Agr sl σ σ' → Q σ' H'
def tGs (K : PySem.W.Frag) (f : List D → DEnv → Option DEnv) (sl : List Nat) : TGs := fun vs σ H Q => ∃ ρ G ds, Rep K G H ρ σ ∧ Iss K G ds vs ∧ ∃ ρ', f ds ρ = some ρ' ∧ ∀ σ' G' H', Stp ρ σ G H ρ' σ' G' H' → Rep K G' H' ρ' σ' → Agr sl σ σ' → Q σ' H'
abbrev DG (X : Cx) (tg : Expr) (f : Tg) (sl : List Nat) : Prop := PG X tg (tG X.K f sl)
abbrev DGs (X : Cx) (ts : List Expr) (f : List D → DEnv → Option DEnv) (sl : List Nat) : Prop := PGs X ts (tGs X.K f sl)
theorem pg_imp {X : Cx} {e : Expr} {t t' : TG} (h : PG X e t) (i : ∀ v σ H Q, t' v σ H Q → t v σ H Q) : PG X e t' := ⟨fun pins s σ H v u Q I r q => h.run pins s σ H v u Q I r (i v σ H Q q)⟩
theorem pgs_imp {X : Cx} {es : List Expr} {t t' : TGs} (h : PGs X es t) (i : ∀ v σ H Q, t' v σ H Q → t v σ H Q) : PGs X es t' := ⟨fun pins s σ H v u Q I r q => h.run pins s σ H v u Q I r (i v σ H Q q)⟩
section
variable {X : Cx} {pos : Pos} {e : Expr} {es : List Expr}
theorem dg_name {i : Nat} (h : PG X e (gName i)) : DG X e (setV i) [i] := pg_imp h fun v σ H Q ⟨ρ, G, d, R, hv, ρ', e1, q⟩ => q _ G H (Stp.setV R e1) (R.setV e1 hv)
  ⟨List.length_set, fun j hj => List.getElem?_set_ne fun z => hj (by rw [z]; exact List.mem_singleton_self _)⟩
def gsNil : List D → DEnv → Option DEnv := fun ds ρ => match ds with
  | [] => some ρ
  | _ => none
def gsCons (f : Tg) (g : List D → DEnv → Option DEnv) : List D → DEnv → Option DEnv := fun ds ρ => match ds with
  | [] => none
  | d :: r => match f d ρ with
    | none => none
    | some ρ1 => g r ρ1
theorem dgs_nil : DGs X [] gsNil [] := pgs_imp pgs_nil fun vs σ H Q ⟨ρ, G, ds, R, hv, ρ', e1, q⟩ => by
  cases hv with
  | nil => cases e1; exact ⟨rfl, q σ G H .refl R ⟨rfl, fun _ _ => rfl⟩⟩
  | cons h r => cases e1
theorem dgs_cons {f : Tg} {g : List D → DEnv → Option DEnv} {s1 s2 : List Nat} (h1 : DG X e f s1) (h2 : DGs X es g s2) (hs : (assignEach (e :: es) X.env).map (·.2) = assign e X.env :: (assignEach es X.env).map (·.2) := by rfl) : DGs X (e :: es) (gsCons f g) (s1 ++ s2) :=
  pgs_imp (pgs_cons h1 h2 hs) fun vs σ H Q ⟨ρ, G, ds, R, hv, ρ', e1, q⟩ => by
    cases hv with
    | nil => cases e1
    | @cons d v l xs h r =>
      unfold gsCons at e1
      dsimp only at e1
      split at e1
      · cases e1
      · rename_i ρ1 e2
        exact ⟨v, xs, rfl, ρ, G, d, R, h, ρ1, e2, fun σ1 G1 H1 s1 R1 a1 => ⟨ρ1, G1, l, R1, r.mono s1.g, ρ', e1, fun σ' G' H' s R' a2 => q σ' G' H' (s1.trans R s) R' ⟨a2.1.trans a1.1, fun j hj => (a2.2 j fun m => hj (List.mem_append_right _ m)).trans (a1.2 j fun m => hj (List.mem_append_left _ m))⟩⟩⟩
def gTp (n : Nat) (f : List D → DEnv → Option DEnv) : Tg := fun d ρ => match d with
  | .tup l => if l.length = n then f l ρ else none
  | _ => none
theorem dg_tup {k : Nat} {n : Nat} {f : List D → DEnv → Option DEnv} {sl : List Nat} (hc : X.calm = true) (h : DGs X es f sl) (hn : (assignEach es X.env).length = n := by rfl) (hst : (assignEach es X.env).findIdx? (·.1) = none := by rfl) : DG X (.Tuple es k pos) (gTp n f) sl :=
  pg_imp (pg_tup hc h hn hst) fun v σ H Q ⟨ρ, G, d, R, hv, ρ', e1, q⟩ => by
    cases hv with
    | @tup l a xs h r =>
      unfold gTp at e1
      dsimp only at e1
      split at e1
      · rename_i e2
        exact ⟨a, xs, rfl, Evl.ex_t R.sub h, by rw [← r.length]; exact e2, ρ, G, l, R, r, ρ', e1, q⟩
      · cases e1
    | _ => cases e1
end
def dAsg (f : DEnv → R D) (g : Tg) : DEnv → SR := fun ρ => (f ρ).bindS fun d ρ' => match g d ρ' with
  | none => .no
  | some ρ2 => .nx ρ2
theorem ds_asg {X : Cx} {W : WX} {tg e : Expr} {f : DEnv → R D} {g : Tg} {sl : List Nat} {pos : Pos} (he : DE X W e f) (hg : DG X tg g sl) (hs : swapsWithSole [tg] e pos.line X.env = pure false := by rfl) (hw : swappedStores [tg] e X.env = pure none := by rfl)
    (h1 : (assignEach [tg] X.env).map (·.2) = [assign tg X.env] := by rfl) : DS X W (.Assign [tg] e pos) (dAsg f g) := ps_imp (ps_asg he hg hs hw h1) fun E σ H ⟨ρ, G, R, h⟩ => ⟨ρ, G, R, (Go.bindS R h).imp fun d ρ' G' H' s R' h v hv => by
      split at h
      · exact False.elim h
      · rename_i ρ2 e2
        exact ⟨ρ', G', d, R', hv, ρ2, e2, fun σ' G' H' s R _ => h σ' G' H' s R⟩⟩

/-! ### what is walked -/
/-- the walk yields these, one after another -/
structure ItS (K : PySem.W.Frag) (G0 : Hp) (l : List D) (J : It) : Prop where
  go : ∀ (i : Nat) (d : D) (G H : Hp), l[i]? = some d → Evl.Ex G0 G → Evl.Ex G H → J.go i H ∧ ∀ x H', J.yld i H x H' → ∃ G', New G H G' H' ∧ Is K G' d x
  stop : ∀ (i : Nat) (G H : Hp), l.length ≤ i → Evl.Ex G0 G → Evl.Ex G H → J.stop i H
def tI (K : PySem.W.Frag) (W : WX) (f : DEnv → R (List D)) : TI := fun σ H Q => ∃ ρ G, Rep K G H ρ σ ∧ Go K W σ ρ G H (fun l _ G' H' => ∀ J, ItS K G' l J → Q J H') (f ρ)
abbrev DI (X : Cx) (W : WX) (tg e : Expr) (f : DEnv → R (List D)) : Prop := PI X tg e (tI X.K W f)
theorem pi_imp {X : Cx} {tg e : Expr} {t t' : TI} (h : PI X tg e t) (i : ∀ σ H Q, t' σ H Q → t σ H Q) : PI X tg e t' := ⟨fun pins s σ H R I q => h.run pins s σ H R I (i σ H R q)⟩
section
variable {X : Cx} {W : WX} {tg e : Expr} {pos p : Pos}
def sLst (f : DEnv → R D) : DEnv → R (List D) := fun ρ => (f ρ).bind fun d ρ' => match d with
  | .lst l => .ok ρ' l
  | .fro l => .ok ρ' l
  | _ => .no
def sTup (f : DEnv → R D) : DEnv → R (List D) := fun ρ => (f ρ).bind fun d ρ' => match d with
  | .tup l => .ok ρ' l
  | _ => .no
theorem itl_s {K : PySem.W.Frag} {G0 : Hp} {l : List D} {a : Addr} {xs : List V} (h : SqL K G0 a xs) (r : Iss K G0 l xs) : ItS K G0 l (Itl K a) where
  go := fun i d G H e eG eH => by
    obtain ⟨v, e1, e2⟩ := r.get e
    have hL : SqL K H a xs := Evl.ex_l eH (Evl.ex_l eG h)
    refine ⟨⟨xs, v, hL, e1⟩, fun x H' ⟨z, y⟩ => ?_⟩
    subst z
    have q := y xs hL
    rw [e1] at q; cases q
    exact ⟨G, New.refl eH, e2.mono eG⟩
  stop := fun i G H e eG eH => ⟨xs, Evl.ex_l eH (Evl.ex_l eG h), by rw [← r.length]; exact e⟩
theorem itt_s {K : PySem.W.Frag} {G0 : Hp} {l : List D} {a : Addr} {xs : List V} (h : SqT K G0 a xs) (r : Iss K G0 l xs) : ItS K G0 l (Itt K a) where
  go := fun i d G H e eG eH => by
    obtain ⟨v, e1, e2⟩ := r.get e
    have hL : SqT K H a xs := Evl.ex_t eH (Evl.ex_t eG h)
    refine ⟨⟨xs, v, hL, e1⟩, fun x H' ⟨z, y⟩ => ?_⟩
    subst z
    have q := y xs hL
    rw [e1] at q; cases q
    exact ⟨G, New.refl eH, e2.mono eG⟩
  stop := fun i G H e eG eH => ⟨xs, Evl.ex_t eH (Evl.ex_t eG h), by rw [← r.length]; exact e⟩
theorem di_list {f : DEnv → R D} (h : DE X W e f) : DI X W tg e (sLst f) := pi_imp (pi_list h) fun σ H Q ⟨ρ, G, R, h⟩ => ⟨ρ, G, R, (Go.bind R h).imp fun d ρ' G' H' s R' h v hv => by
    cases hv with
    | @lst l a xs hL r => exact ⟨a, rfl, ⟨xs, Evl.sq_of (R'.sub _ _ hL)⟩, h G' H' .refl R' _ (itl_s (Evl.sq_of hL) r)⟩
    | @fro l a xs hL r => exact ⟨a, rfl, ⟨xs, Evl.ex_l R'.sub hL⟩, h G' H' .refl R' _ (itl_s hL r)⟩
    | _ => exact False.elim h⟩
theorem di_tup {f : DEnv → R D} (h : DE X W e f) : DI X W tg e (sTup f) := pi_imp (pi_tup h) fun σ H Q ⟨ρ, G, R, h⟩ => ⟨ρ, G, R, (Go.bind R h).imp fun d ρ' G' H' s R' h v hv => by
    cases hv with
    | @tup l a xs hL r => exact ⟨a, rfl, ⟨xs, Evl.ex_t R'.sub hL⟩, h G' H' .refl R' _ (itt_s hL r)⟩
    | _ => exact False.elim h⟩
def rng (lo : Int) (n : Nat) : List D := (List.range n).map fun (k : Nat) => D.int (lo + (k : Int))
theorem itr_s {K : PySem.W.Frag} {G0 : Hp} {lo : Int} {n : Nat} : ItS K G0 (rng lo n) (Itr lo n) where
  go := fun i d G H e eG eH => by
    unfold rng at e
    rw [List.getElem?_map] at e
    by_cases h : i < n
    · rw [List.getElem?_range h] at e
      cases e
      refine ⟨h, fun x H' ⟨z, y⟩ => ?_⟩
      subst z y
      exact ⟨G, New.refl eH, .int _⟩
    · rw [List.getElem?_eq_none (by rw [List.length_range]; omega)] at e
      cases e
  stop := fun i G H e _ _ => by
    unfold rng at e
    rw [List.length_map, List.length_range] at e
    exact e
def inR (i : Int) : Bool := decide (-(2 ^ 62) ≤ i) && decide (i < 2 ^ 62)
theorem inR_of {i : Int} (h : inR i = true) : -(2 ^ 62) ≤ i ∧ i < 2 ^ 62 := by
  unfold inR at h
  rw [Bool.and_eq_true, decide_eq_true_eq, decide_eq_true_eq] at h
  exact h
def sRng1 (f : DEnv → R (List D)) : DEnv → R (List D) := fun ρ => (f ρ).bind fun l ρ' => match l with
  | [.int j] => if inR j = true then .ok ρ' (rng 0 j.toNat) else .no
  | _ => .no
def sRng2 (f : DEnv → R (List D)) : DEnv → R (List D) := fun ρ => (f ρ).bind fun l ρ' => match l with
  | [.int i, .int j] => if inR i = true then if inR j = true then .ok ρ' (rng i (j - i).toNat) else .no else .no
  | _ => .no
theorem di_rng1 {a : Expr} {f : DEnv → R (List D)} (hg : Gl X "range") (hm : X.mg "range" = none) (ha : DVs X W [a] f) (hs : starEach [a] X.env = [(false, eval a X.env)] := by rfl) : DI X W tg (.Call (.Name "range" p) [a] [] pos) (sRng1 f) :=
  pi_imp (pi_range1 hg hm ha hs) fun σ H Q ⟨ρ, G, R, h⟩ => ⟨ρ, G, R, (Go.bind R h).imp fun l ρ' G' H' s R' h vs hv => by
    split at h
    · rename_i j
      cases hv with
      | cons h1 h2 =>
        cases h1; cases h2
        split at h
        · rename_i hj
          exact ⟨j, rfl, (inR_of hj).1, (inR_of hj).2, h G' H' .refl R' _ itr_s⟩
        · exact False.elim h
    · exact False.elim h⟩
theorem di_rng2 {a b : Expr} {f : DEnv → R (List D)} (hg : Gl X "range") (hm : X.mg "range" = none) (ha : DVs X W [a, b] f) (hs : starEach [a, b] X.env = [(false, eval a X.env), (false, eval b X.env)] := by rfl) (hs2 : starEach [b] X.env = [(false, eval b X.env)] := by rfl) :
    DI X W tg (.Call (.Name "range" p) [a, b] [] pos) (sRng2 f) :=
  pi_imp (pi_range2 hg hm ha hs hs2) fun σ H Q ⟨ρ, G, R, h⟩ => ⟨ρ, G, R, (Go.bind R h).imp fun l ρ' G' H' s R' h vs hv => by
    split at h
    · rename_i i j
      cases hv with
      | cons h1 h2 =>
        cases h2 with
        | cons h3 h4 =>
          cases h1; cases h3; cases h4
          split at h
          · rename_i hi
            split at h
            · rename_i hj
              exact ⟨i, j, rfl, ⟨(inR_of hi).1, (inR_of hi).2, (inR_of hj).1, (inR_of hj).2⟩, h G' H' .refl R' _ itr_s⟩
            · exact False.elim h
          · exact False.elim h
    · exact False.elim h⟩
end
/-! ### for -/
def dFor (g : Tg) (b : DEnv → SR) : List D → DEnv → SR
  | [], ρ => .nx ρ
  | d :: l, ρ => match g d ρ with
    | none => .no
    | some ρ1 => match b ρ1 with
      | .nx ρ2 => dFor g b l ρ2
      | .cnt ρ2 => dFor g b l ρ2
      | .brk ρ2 => .nx ρ2
      | .no => .no
      | .ret ρ2 fr d => .ret ρ2 fr d
      | .ex ρ2 e => .ex ρ2 e
def dForS (s : DEnv → R (List D)) (g : Tg) (b : DEnv → SR) : DEnv → SR := fun ρ => (s ρ).bindS fun l ρ' => dFor g b l ρ'
theorem ds_for {X : Cx} {W : WX} {tg iter : Expr} {body : List Stmt} {f : DEnv → R (List D)} {g : Tg} {b : DEnv → SR} {sl : List Nat} {pos : Pos} (hp : PassesOwn (model X.prog X.w) X.A X.env X.xe) (hc : X.calm = true) (hi : DI X W tg iter f) (hg : DG X tg g sl) (hb : DSs X W body b)
    (hs : ∀ x, foldedSetIterable iter X.env x = pure x := by intro _; rfl) : DS X W (.For tg iter body [] pos) (dForS f g b) := ps_imp (ps_for hp hc hi hg hb hs) fun E σ H ⟨ρ, G, R, h⟩ => ⟨ρ, G, R, (Go.bindS R h).imp fun l ρ0 G0 H0 s0 R0 h0 J hJ => by
    refine ⟨fun i m σ H => m = l.length - i ∧ ∃ ρ G, Rep X.K G H ρ σ ∧ Evl.Ex G0 G ∧ GoS X.K W σ ρ G H E (dFor g b (l.drop i) ρ), ⟨l.length, by simp, ρ0, G0, R0, fun _ _ e => e, h0⟩, fun i m σ H ⟨em, ρ, G, R, eG, h⟩ => ?_⟩
    cases e : l[i]? with
    | none =>
      have hl : l.length ≤ i := List.getElem?_eq_none_iff.mp e
      rw [List.drop_eq_nil_of_le hl] at h
      exact .inl ⟨hJ.stop i G H hl eG R.sub, h σ G H .refl R⟩
    | some d =>
      obtain ⟨hi, he⟩ := List.getElem?_eq_some_iff.mp e
      obtain ⟨q1, q2⟩ := hJ.go i d G H e eG R.sub
      rw [List.drop_eq_getElem_cons hi, he] at h
      refine .inr ⟨q1, fun σ' H' => ∃ ρ G, Rep X.K G H' ρ σ' ∧ Evl.Ex G0 G ∧ GoS X.K W σ' ρ G H' E (dFor g b (l.drop (i + 1)) ρ), fun σ' H' q => ⟨l.length - (i + 1), by omega, rfl, q⟩, fun x H1 hy => ?_⟩
      obtain ⟨G1, N, hx⟩ := q2 x H1 hy
      have R1 := N.rep R
      unfold dFor at h
      split at h
      · exact False.elim h
      · rename_i ρ1 e1
        refine ⟨ρ, G1, d, R1, hx, ρ1, e1, fun σ2 G2 H2 s2 R2 _ => ⟨ρ1, G2, R2, ?_⟩⟩
        have s3 := (N.stp R).trans R s2
        have h' := GoS.shift R s3 h
        cases eb : b ρ1 with
        | no => rw [eb] at h'; exact h'
        | nx ρ2 =>
          rw [eb] at h'
          exact fun σ' G' H' s R' => ⟨ρ2, G', R', fun c o q => s.g c o (s3.g c o (eG c o q)), GoS.shift R2 s h'⟩
        | cnt ρ2 =>
          rw [eb] at h'
          exact fun σ' G' H' s R' => ⟨ρ2, G', R', fun c o q => s.g c o (s3.g c o (eG c o q)), GoS.shift R2 s h'⟩
        | brk ρ2 => rw [eb] at h'; exact h'
        | ret ρ2 fr d => rw [eb] at h'; exact h'
        | ex ρ2 ee => rw [eb] at h'; exact h'⟩
end DF

namespace DF
open PySem PySem.Spec PyProof.Rows L2
section
variable {X : Cx} {W : WX} {a b c e : Expr} {rest : List Expr} {pos : Pos} {fa fb : DEnv → R D} {ta tb : DEnv → R Bool}
/-! ### tests -/
theorem tB_of {f : DEnv → R D} : ∀ σ H Q, tT X.K W (dTst f) σ H Q → tB (tD X.K W f) σ H Q := fun σ H Q ⟨ρ, G, R, h⟩ =>
  ⟨ρ, G, R, (Go.bind R h).imp fun d ρ' G' H' s R' h v hv => by
    split at h
    · cases hv
      exact ⟨_, rfl, h G' H' .refl R'⟩
    · exact False.elim h⟩
theorem dt_val (h : DE X W e fa) (he : ∀ whole, isTrue e X.env whole = (do let v ← whole; standAt e.pos; holding [v] (truthy v)) := by intro _; rfl) : DT X W e (dTst fa) := pt_imp (pt_val h he) tB_of
/-- the truth of data -/
def tru (d : D) : Option Bool := match d with
  | .non => some false
  | .bl b => some b
  | .int i => some (i != 0)
  | .lst l => some (!l.isEmpty)
  | .tup l => some (!l.isEmpty)
  | _ => none
theorem tru_of {K : PySem.W.Frag} {G H : Hp} {d : D} {v : V} {b : Bool} (eS : Evl.Ex G H) (h : Top K G H d v) (e : tru d = some b) : TruV K v H b := by
  cases d with
  | non => cases h; cases e; exact (rfl : false = false)
  | bl c => cases h; cases e; exact (rfl : b = b)
  | int i => cases h; cases e; exact (rfl : (i != 0) = (i != 0))
  | str x => cases e
  | dic l => cases e
  | obj c fs => cases e
  | lst l =>
    obtain ⟨p, xs, rfl, h1, h2⟩ := h
    cases e
    refine .inl ⟨xs, Evl.sq_of h1, ?_⟩
    cases h2 <;> rfl
  | fro l => cases e
  | tup l =>
    cases h with
    | @tup l p xs h1 h2 =>
      cases e
      refine .inr (.inl ⟨xs, Evl.ex_t eS h1, ?_⟩)
      cases h2 <;> rfl
def dTru (f : DEnv → R Th) : DEnv → R Bool := fun ρ => (f ρ).bind fun t ρ' => match t ρ' with
  | none => .no
  | some d => ofO ρ' (tru d)
theorem dt_truth {f : DEnv → R Th} (h : DO X W e f) (he : ∀ whole, isTrue e X.env whole = (do let v ← whole; standAt e.pos; holding [v] (truthy v)) := by intro _; rfl) : DT X W e (dTru f) :=
  pt_imp (pt_truth h he) fun σ H Q ⟨ρ, G, R, h⟩ => ⟨ρ, G, R, (Go.bind R h).imp fun t ρ' G' H' s R' h v hv => by
    split at h
    · exact False.elim h
    · rename_i d e1
      cases e2 : tru d with
      | none => rw [e2] at h; exact False.elim h
      | some b =>
        rw [e2] at h
        exact ⟨b, tru_of R'.sub (hv ρ' G' H' d .refl R' e1) e2, h G' H' .refl R'⟩⟩
abbrev DW (X : Cx) (W : WX) (e : Expr) (f : DEnv → R Bool) : Prop := PW X e (tT X.K W f)
def dAnd (f g : DEnv → R Bool) : DEnv → R Bool := fun ρ => (f ρ).bind fun b ρ' => match b with
  | true => g ρ'
  | false => .ok ρ' false
def dOr (f g : DEnv → R Bool) : DEnv → R Bool := fun ρ => (f ρ).bind fun b ρ' => match b with
  | true => .ok ρ' true
  | false => g ρ'
def dNot (f : DEnv → R Bool) : DEnv → R Bool := fun ρ => (f ρ).bind fun b ρ' => .ok ρ' (!b)
theorem dw_and1 (h : DT X W a ta) : DW X W (.BoolOp .And [a] pos) ta := pw_and1 h
theorem dw_or1 (h : DT X W a ta) : DW X W (.BoolOp .Or [a] pos) ta := pw_or1 h
theorem dw_and (ha : DT X W a ta) (hb : DW X W (.BoolOp .And (b :: rest) pos) tb) : DW X W (.BoolOp .And (a :: b :: rest) pos) (dAnd ta tb) :=
  pw_imp (pw_and ha hb) fun σ H Q ⟨ρ, G, R, h⟩ => ⟨ρ, G, R, (Go.bind R h).imp fun b ρ' G' H' s R' h => by
    cases b with
    | true => rw [if_pos rfl]; exact ⟨ρ', G', R', h⟩
    | false => rw [if_neg Bool.false_ne_true]; exact h G' H' .refl R'⟩
theorem dw_or (ha : DT X W a ta) (hb : DW X W (.BoolOp .Or (b :: rest) pos) tb) : DW X W (.BoolOp .Or (a :: b :: rest) pos) (dOr ta tb) :=
  pw_imp (pw_or ha hb) fun σ H Q ⟨ρ, G, R, h⟩ => ⟨ρ, G, R, (Go.bind R h).imp fun b ρ' G' H' s R' h => by
    cases b with
    | true => rw [if_pos rfl]; exact h G' H' .refl R'
    | false => rw [if_neg Bool.false_ne_true]; exact ⟨ρ', G', R', h⟩⟩
theorem dt_bool (h : DW X W e ta) : DT X W e ta := h.pt
theorem dt_not (ha : DT X W a ta) : DT X W (.UnaryOp .Not a pos) (dNot ta) :=
  pt_imp (pt_not ha) fun σ H Q ⟨ρ, G, R, h⟩ => ⟨ρ, G, R, (Go.bind R h).imp fun b ρ' G' H' s R' h => h G' H' .refl R'⟩
/-! ### and, or, not as values: of bools -/
def dAndV (f g : DEnv → R D) : DEnv → R D := fun ρ => (f ρ).bind fun d ρ' => match d with
  | .bl true => g ρ'
  | .bl false => .ok ρ' (.bl false)
  | _ => .no
def dOrV (f g : DEnv → R D) : DEnv → R D := fun ρ => (f ρ).bind fun d ρ' => match d with
  | .bl true => .ok ρ' (.bl true)
  | .bl false => g ρ'
  | _ => .no
def dNotV (f : DEnv → R D) : DEnv → R D := fun ρ => (f ρ).bind fun d ρ' => match d with
  | .bl b => .ok ρ' (.bl (!b))
  | _ => .no
theorem de_one {op} (h : DE X W a fa) : DE X W (.BoolOp op [a] pos) fa := pe_one h
theorem de_and (ha : DE X W a fa) (hb : DE X W (.BoolOp .And (b :: rest) pos) fb) : DE X W (.BoolOp .And (a :: b :: rest) pos) (dAndV fa fb) :=
  pe_imp (pe_and ha hb) fun σ H Q ⟨ρ, G, R, h⟩ => ⟨ρ, G, R, (Go.bind R h).imp fun d ρ' G' H' s R' h v hv => by
    split at h
    · cases hv; exact ⟨true, rfl, by rw [if_pos rfl]; exact ⟨ρ', G', R', h⟩⟩
    · cases hv; exact ⟨false, rfl, by rw [if_neg Bool.false_ne_true]; exact h G' H' .refl R' _ (.bl false)⟩
    · exact False.elim h⟩
theorem de_or (ha : DE X W a fa) (hb : DE X W (.BoolOp .Or (b :: rest) pos) fb) : DE X W (.BoolOp .Or (a :: b :: rest) pos) (dOrV fa fb) :=
  pe_imp (pe_or ha hb) fun σ H Q ⟨ρ, G, R, h⟩ => ⟨ρ, G, R, (Go.bind R h).imp fun d ρ' G' H' s R' h v hv => by
    split at h
    · cases hv; exact ⟨true, rfl, by rw [if_pos rfl]; exact h G' H' .refl R' _ (.bl true)⟩
    · cases hv; exact ⟨false, rfl, by rw [if_neg Bool.false_ne_true]; exact ⟨ρ', G', R', h⟩⟩
    · exact False.elim h⟩
theorem de_not (ha : DE X W a fa) : DE X W (.UnaryOp .Not a pos) (dNotV fa) :=
  pe_imp (pe_not ha) fun σ H Q ⟨ρ, G, R, h⟩ => ⟨ρ, G, R, (Go.bind R h).imp fun d ρ' G' H' s R' h v hv => by
    split at h
    · rename_i b
      cases hv; exact ⟨b, rfl, h G' H' .refl R' _ (.bl _)⟩
    · exact False.elim h⟩
def dIte (t : DEnv → R Bool) (f g : DEnv → R D) : DEnv → R D := fun ρ => (t ρ).bind fun b ρ' => match b with
  | true => f ρ'
  | false => g ρ'
theorem de_ifExp (hc : DT X W c ta) (ha : DE X W a fa) (hb : DE X W b fb) : DE X W (.IfExp c a b pos) (dIte ta fa fb) :=
  pe_imp (pe_ifExp hc ha hb) fun σ H Q ⟨ρ, G, R, h⟩ => ⟨ρ, G, R, (Go.bind R h).imp fun b ρ' G' H' s R' h => by
    cases b with
    | true => rw [if_pos rfl]; exact ⟨ρ', G', R', h⟩
    | false => rw [if_neg Bool.false_ne_true]; exact ⟨ρ', G', R', h⟩⟩
/-! ### a op b op c -/
def dChain (g g' : D → D → Option D) (f1 f2 f3 : DEnv → R Th) : DEnv → R D := fun ρ => (f1 ρ).bind fun t1 ρ1 => (f2 ρ1).bind fun t2 ρ2 => match t1 ρ2, t2 ρ2 with
  | some x, some y => match g x y with
    | some (.bl true) => (f3 ρ2).bind fun t3 ρ3 => match t2 ρ3, t3 ρ3 with
      | some y', some z => ofO ρ3 (g' y' z)
      | _, _ => .no
    | some (.bl false) => .ok ρ2 (.bl false)
    | _ => .no
  | _, _ => .no
theorem tchain {r r' : R2} {g g' : D → D → Option D} {f1 f2 f3 : DEnv → R Th} (hs : OpS X.K r g) (hs' : OpS X.K r' g') : ∀ σ H Q, tD X.K W (dChain g g' f1 f2 f3) σ H Q → tChain r r' (tO X.K W f1) (tO X.K W f2) (tO X.K W f3) σ H Q := fun σ H Q ⟨ρ, G, R, h⟩ =>
  ⟨ρ, G, R, (Go.bind R h).imp fun t1 ρ1 G1 H1 s1 R1 h1 v hv => ⟨ρ1, G1, R1, (Go.bind R1 h1).imp fun t2 ρ2 G2 H2 s2 R2 h2 u hu => by
    split at h2
    · rename_i x y ex ey
      cases e : g x y with
      | none => rw [e] at h2; exact False.elim h2
      | some z =>
        rw [e] at h2
        refine hs x y z v u G2 H2 _ R2.sub (hv ρ2 G2 H2 x s2 R2 ex) (hu ρ2 G2 H2 y .refl R2 ey) e fun w G' H' N hw => ?_
        have R' := N.rep R2
        have S' := N.stp R2
        cases z with
        | bl k =>
          cases hw
          refine ⟨k, rfl, ?_⟩
          cases k with
          | true =>
            rw [if_pos rfl]
            refine ⟨ρ2, G', R', (Go.bind R' (Go.shift R2 S' h2)).imp fun t3 ρ3 G3 H3 s3 R3 h3 w' hw' => ?_⟩
            split at h3
            · rename_i y' z ey' ez
              cases e' : g' y' z with
              | none => rw [e'] at h3; exact False.elim h3
              | some z' =>
                rw [e'] at h3
                exact hs' y' z z' u w' G3 H3 Q R3.sub (hu ρ3 G3 H3 y' (S'.trans R2 s3) R3 ey') (hw' ρ3 G3 H3 z .refl R3 ez) e' fun w G' H' N hw => h3 G' H' (N.stp R3) (N.rep R3) w hw
            · exact False.elim h3
          | false =>
            rw [if_neg Bool.false_ne_true]
            exact h2 G' H' S' R' _ (.bl false)
        | _ => exact False.elim h2
    · exact False.elim h2⟩⟩
theorem de_chain {op op' : CmpOp} {r r' : R2} {g g' : D → D → Option D} {f1 f2 f3 : DEnv → R Th} (ho : OpR X (compareOp op) r) (ho' : OpR X (compareOp op') r') (hs : OpS X.K r g) (hs' : OpS X.K r' g') (h1 : DO X W a f1) (h2 : DO X W b f2) (h3 : DO X W c f3)
    (hm : lastMarks [op, op'] [b, c] = false := by with_unfolding_all rfl) : DE X W (.Compare a [op, op'] [b, c] pos) (dChain g g' f1 f2 f3) := pe_imp (pe_chain ho ho' h1 h2 h3 hm) (tchain hs hs')
theorem dt_chain {op op' : CmpOp} {r r' : R2} {g g' : D → D → Option D} {f1 f2 f3 : DEnv → R Th} (ho : OpR X (compareOp op) r) (ho' : OpR X (compareOp op') r') (hs : OpS X.K r g) (hs' : OpS X.K r' g') (h1 : DO X W a f1) (h2 : DO X W b f2) (h3 : DO X W c f3)
    (hm : lastMarks [op, op'] [b, c] = false := by with_unfolding_all rfl) : DT X W (.Compare a [op, op'] [b, c] pos) (dTst (dChain g g' f1 f2 f3)) :=
  pt_imp (pt_chain ho ho' h1 h2 h3 hm) fun σ H Q h => by
    obtain ⟨ρ, G, R, h⟩ := ttst σ H Q h
    exact tchain hs hs' σ H _ ⟨ρ, G, R, h⟩
/-! ### displays -/
def dTup (f : DEnv → R (List D)) : DEnv → R D := fun ρ => (f ρ).bind fun l ρ' => if l.length ≤ 1000 then .ok ρ' (.tup l) else .no
def dLst (f : DEnv → R (List D)) : DEnv → R D := fun ρ => (f ρ).bind fun l ρ' => if l.length ≤ 1000 then .ok ρ' (.lst l) else .no
theorem de_tup {es : List Expr} {k : Nat} {f : DEnv → R (List D)} (h : DVs X W es f) : DE X W (.Tuple es k pos) (dTup f) := pe_imp (pe_tup h) fun σ H Q ⟨ρ, G, R, h⟩ => ⟨ρ, G, R, (Go.bind R h).imp fun l ρ' G' H' s R' h vs hv => by
    split at h
    · rename_i hl
      refine ⟨Evl.sz_of (by rw [← hv.length]; omega), fun p hp => ?_⟩
      have N : New G' H' (upd G' p (.tup vs)) (upd H' p (.tup vs)) := New.put R'.sub hp
      exact h _ _ (N.stp R') (N.rep R') _ (.tup (Evl.st_of upd_same) (hv.mono N.g))
    · exact False.elim h⟩
/-- a fresh list, as readings have it -/
theorem fresh_lst {K : PySem.W.Frag} {ρ0 ρ : DEnv} {σ : Sl} {G0 H0 G H : Hp} {l : List D} {vs : List V} {Q : VK} (R0 : Rep K G0 H0 ρ0 σ) (s : Stp ρ0 σ G0 H0 ρ σ G H) (R : Rep K G H ρ σ)
    (h : ∀ G' H', Stp ρ0 σ G0 H0 ρ σ G' H' → Rep K G' H' ρ σ → ∀ a, G' a = none → ¬ Mu false ρ σ a → ¬ Mu true ρ σ a → H0 a = none → Cont K G' H' a (.lst l) → Q (.ref a) H') (hv : Iss K G l vs) (p : Addr) (hp : H p = none) : Q (.ref p) (upd H p (.lst vs)) := by
  have N : New G H G (upd H p (.lst vs)) := New.hid R.sub hp
  have no : ∀ b, ¬ Mu b ρ σ p := fun b ⟨i, d, e1, e2⟩ => by
    obtain ⟨a, e3, _, e4⟩ := R.mu i b d e1
    rw [e2] at e3; cases e3
    obtain ⟨o, ho⟩ := e4.there
    rw [hp] at ho; cases ho
  exact h _ _ (s.trans R0 (N.stp R)) (N.rep R) p (sub_none R.sub hp) (no false) (no true) (s.t p hp) ⟨vs, upd_same, hv⟩
theorem df_lst {es : List Expr} {f : DEnv → R (List D)} (h : DVs X W es f) : DF' X W (.List es pos) (dLst f) := pe_imp (pe_lst h) fun σ H Q ⟨ρ, G, R, h⟩ => ⟨ρ, G, R, by
    cases e1 : f ρ with
    | no =>
      have h2 : dLst f ρ = .no := by unfold dLst; rw [e1]; rfl
      rw [h2] at h; exact h
    | ex ρ' ee =>
      have h2 : dLst f ρ = .ex ρ' ee := by unfold dLst; rw [e1]; rfl
      rw [h2] at h; exact h
    | ok ρ' l =>
      have h2 : dLst f ρ = if l.length ≤ 1000 then .ok ρ' (.lst l) else .no := by unfold dLst; rw [e1]; rfl
      rw [h2] at h
      intro G' H' s R' vs hv
      split at h
      · rename_i hl
        refine ⟨Evl.sz_of (by rw [← hv.length]; omega), fun p hp => ?_⟩
        exact fresh_lst R s R' (fun G' H' s R q1 q2 q3 q4 q5 q6 => h G' H' s R q1 q2 q3 q4 q5 q6) hv p hp
      · exact False.elim h⟩
/-! ### items and slices -/
def ixD (x y : D) : Option D := match x, y with
  | .lst l, .int i => atI l i
  | .tup l, .int i => atI l i
  | .fro l, .int i => atI l i
  | _, _ => none
theorem atI_iss {K : PySem.W.Frag} {G : Hp} {l : List D} {xs : List V} {i : Int} {d : D} (r : Iss K G l xs) (e : atI l i = some d) : ∃ v, atI xs i = some v ∧ Is K G d v := by
  unfold atI at e ⊢
  rw [← r.length]
  cases q : ixN l.length i with
  | none => rw [q] at e; cases e
  | some j =>
    rw [q] at e
    exact r.get e
def rIx2 (K : PySem.W.Frag) : R2 := fun x y H Q => rIxL K x y H Q ∨ rIxT K x y H Q
theorem ix2 {X : Cx} : IxR X (rIx2 X.K) := ix_list.or ix_tup
theorem ops_ix {K : PySem.W.Frag} : OpS K (rIx2 K) ixD := fun x y z v u G H Q eS hx hy e k => by
  cases y with
  | int i =>
    cases hy
    cases x with
    | lst l =>
      obtain ⟨p, xs, rfl, h1, h2⟩ := hx
      obtain ⟨w, e1, e2⟩ := atI_iss h2 e
      exact .inl ⟨p, xs, i, w, rfl, rfl, Evl.sq_of h1, e1, k w G H (New.refl eS) e2⟩
    | fro l =>
      cases hx with
      | @fro l p xs h1 h2 =>
        obtain ⟨w, e1, e2⟩ := atI_iss h2 e
        exact .inl ⟨p, xs, i, w, rfl, rfl, Evl.ex_l eS h1, e1, k w G H (New.refl eS) e2⟩
    | tup l =>
      cases hx with
      | @tup l p xs h1 h2 =>
        obtain ⟨w, e1, e2⟩ := atI_iss h2 e
        exact .inr ⟨p, xs, i, w, rfl, rfl, Evl.ex_t eS h1, e1, k w G H (New.refl eS) e2⟩
    | _ => cases e
  | _ => cases x <;> cases e
theorem de_ix {f1 f2 : DEnv → R Th} (ha : DO X W a f1) (hb : DO X W b f2) (hs : PlainIx b := by exact fun _ _ => rfl) : DE X W (.Subscript a b pos) (dBin ixD f1 f2) := pe_imp (pe_ix ix2 ha hb hs) (tbin ops_ix)
end
end DF

namespace DF
open PySem PySem.Spec PyProof.Rows L2
section
variable {K : PySem.W.Frag} {ρ : DEnv} {σ : Sl} {G H : Hp} {i : Nat} {b : Bool} {d d1 : D} {a : Addr} {o : HO}
/-- one's own list or dict is changed -/
theorem Rep.chg (R : Rep K G H ρ σ) (e : ρ[i]? = some (some (.mu b d))) (ea : σ[i]? = some (some (.ref a))) (c : Cont K G (upd H a o) a d1) :
    Stp ρ σ G H (ρ.set i (some (.mu b d1))) σ G (upd H a o) ∧ Rep K G (upd H a o) (ρ.set i (some (.mu b d1))) σ := by
  obtain ⟨a', e1, e2, e3⟩ := R.mu i b d e
  rw [ea] at e1; cases e1
  have hl : i < ρ.length := (List.getElem?_eq_some_iff.mp e).1
  have mu : ∀ (j : Nat) (c : Bool) (d' : D), (ρ.set i (some (.mu b d1)))[j]? = some (some (.mu c d')) → ∃ d'', ρ[j]? = some (some (.mu c d'')) := fun j c d' q => by
    rcases set_get q with ⟨z, y⟩ | ⟨_, z⟩
    · subst z; cases y; exact ⟨d, e⟩
    · exact ⟨d', z⟩
  refine ⟨⟨fun _ _ q => q, fun c u n1 n2 q => ?_, fun c q => ?_, fun c q1 q2 => absurd q1 q2, fun c ⟨j, d', q1, q2⟩ => ?_, fun j => ⟨fun d' q => ?_, fun d' q => mu j true d' q⟩⟩, ⟨fun c u q => ?_, by rw [List.length_set]; exact R.len, fun j d' q => ?_, fun j c' d' q => ?_, fun j k b' c' x y a' q1 q2 q3 q4 => ?_⟩⟩
  · have n : c ≠ a := fun z => by
      subst z
      cases b with
      | false => exact n1 ⟨i, d, e, ea⟩
      | true => exact n2 ⟨i, d, e, ea⟩
    rw [upd_ne n]; exact q
  · by_cases z : c = a
    · subst z; rw [upd_same] at q; cases q
    · rw [upd_ne z] at q; exact q
  · obtain ⟨d'', z⟩ := mu j false d' q1
    exact .inl ⟨j, d'', z, q2⟩
  · by_cases z : i = j
    · subst z
      rw [e] at q; cases q
      exact ⟨d1, List.getElem?_set_self hl, rfl⟩
    · exact ⟨d', by rw [List.getElem?_set_ne z]; exact q, rfl⟩
  · have n : c ≠ a := fun z => by subst z; rw [e2] at q; cases q
    rw [upd_ne n]; exact R.sub c u q
  · rcases set_get q with ⟨_, y⟩ | ⟨_, z⟩
    · cases y
    · exact R.vl j d' z
  · rcases set_get q with ⟨z, y⟩ | ⟨n, z⟩
    · subst z; cases y
      exact ⟨a, ea, e2, c⟩
    · obtain ⟨a2, z1, z2, z3⟩ := R.mu j c' d' z
      have na : a2 ≠ a := fun y => by subst y; exact n (R.ap i j b c' d d' a2 e z ea z1)
      exact ⟨a2, z1, z2, z3.mono (fun _ _ q => q) fun u q => by rw [upd_ne na]; exact q⟩
  · obtain ⟨x', z1⟩ := mu j b' x q1
    obtain ⟨y', z2⟩ := mu k c' y q2
    exact R.ap j k b' c' x' y' a' z1 z2 q3 q4
end
section
variable {X : Cx} {W : WX} {i : Nat} {o e k : Expr} {pos p1 p2 p3 : Pos} {f : DEnv → R D}
def muL (i : Nat) (ρ : DEnv) : Option (Bool × List D) := match ρ[i]? with
  | some (some (.mu b (.lst l))) => some (b, l)
  | _ => none
theorem muL_of {ρ : DEnv} {b : Bool} {l : List D} (h : muL i ρ = some (b, l)) : ρ[i]? = some (some (.mu b (.lst l))) := by
  unfold muL at h
  split at h
  · rename_i b' l' e; cases h; exact e
  · cases h
/-- x.append(e) -/
def dApp (i : Nat) (f : DEnv → R D) : DEnv → SR := fun ρ => match muL i ρ with
  | none => .no
  | some _ => (f ρ).bindS fun d ρ' => match muL i ρ' with
    | none => .no
    | some (b, l) => if l.length < 16000000 then .nx (ρ'.set i (some (.mu b (.lst (l ++ [d]))))) else .no
theorem ds_app (ho : PE X o (tVar i)) (he : DE X W e f) (hs : swapsWith (.Call (.Attribute o "append" p1) [e] [] p2) none pos.line X.env = pure false := by rfl)
    (hbase : attributeBase o "append" X.env (eval o X.env) = eval o X.env := by rfl)
    (hfew : ((backTo p2 (starEach [e] X.env)).all (fun x => !x.1) && (backToKw p2 (keywordEach [] X.env)).all (fun x => x.1.isSome) && decide ([e].length + ([] : List Keyword).length + (if ([] : List Keyword).isEmpty then 0 else 1) < 30)) = true := by rfl)
    (hline : (p1.endLine == p2.line) = true := by rfl) (hst : starEach [e] X.env = (false, eval e X.env) :: starEach [] X.env := by rfl) (hplain : (backTo p2 (starEach [] X.env)).any (·.1) = false := by rfl) :
    DS X W (.Expr (.Call (.Attribute o "append" p1) [e] [] p2) pos) (dApp i f) :=
  ps_imp (ps_expr (pe_bm PySem.F.plainAttrs_list PySem.F.slot_list_append PySem.F.type_list_append mt_append ho (pa_cons he pa_nil hst) hbase hfew hline hst hplain) hs) fun E σ H ⟨ρ, G, R, h⟩ => by
    unfold dApp at h
    split at h
    · exact False.elim h
    · rename_i q e1
      obtain ⟨b, l⟩ := q
      have e1 := muL_of e1
      obtain ⟨a, ea, e2, xs, e3, e4⟩ := R.mu i b _ e1
      refine ⟨.ref a, ea, .inl ⟨rfl, xs, Evl.sq_of e3⟩, ρ, G, R, (Go.bindS R h).imp fun d ρ' G' H' s R' h v hv => ?_⟩
      split at h
      · exact False.elim h
      · rename_i b' l' e5
        have e5 := muL_of e5
        obtain ⟨a', ea', e6, ys, e7, e8⟩ := R'.mu i b' _ e5
        rw [ea] at ea'; cases ea'
        split at h
        · rename_i hl
          refine ⟨a, ys, v, rfl, rfl, e7, by rw [← e8.length, sizeLine_eq]; omega, ?_⟩
          obtain ⟨s2, R2⟩ := R'.chg (o := .lst (ys ++ [v])) (d1 := .lst (l' ++ [d])) e5 ea ⟨_, upd_same, e8.append (.cons hv .nil)⟩
          exact h σ G' _ s2 R2
        · exact False.elim h
/-- x[k] = e -/
def dSetI (i : Nat) (fk f : DEnv → R D) : DEnv → SR := fun ρ => (f ρ).bindS fun d ρ1 => match muL i ρ1 with
  | none => .no
  | some _ => (fk ρ1).bindS fun k ρ2 => match muL i ρ2, k with
    | some (b, l), .int n => match ixN l.length n with
      | none => .no
      | some j => .nx (ρ2.set i (some (.mu b (.lst (l.set j d)))))
    | _, _ => .no
theorem ds_seti {fk : DEnv → R D} (ho : PE X o (tVar i)) (hk : DE X W k fk) (he : DE X W e f) (hs : swapsWithSole [.Subscript o k p1] e pos.line X.env = pure false := by rfl) (hw : swappedStores [.Subscript o k p1] e X.env = pure none := by rfl)
    (h1 : (assignEach [.Subscript o k p1] X.env).map (·.2) = [assign (.Subscript o k p1) X.env] := by rfl)
    (ha : ∀ v, assign (.Subscript o k p1) X.env v = (do
      let ov ← holding [v] (eval o X.env)
      let iv ← holding [v, ov] (eval k X.env)
      standAt p1
      holding [v, ov, iv] (setItem ov iv v)
      release [v, ov, iv] []) := by intro _; rfl) : DS X W (.Assign [.Subscript o k p1] e pos) (dSetI i fk f) :=
  ps_imp (ps_asg he (pg_sub ho hk set_list ha) hs hw h1) fun E σ H ⟨ρ, G, R, h⟩ => ⟨ρ, G, R, (Go.bindS R h).imp fun d ρ1 G1 H1 s1 R1 h v hv => by
    split at h
    · exact False.elim h
    · rename_i q e1
      obtain ⟨b, l⟩ := q
      have e1 := muL_of e1
      obtain ⟨a, ea, e2, xs, e3, e4⟩ := R1.mu i b _ e1
      refine ⟨.ref a, ea, ρ1, G1, R1, (Go.bindS R1 h).imp fun kd ρ2 G2 H2 s2 R2 h kv hkv => ?_⟩
      split at h
      · rename_i b' l' n e5
        have e5 := muL_of e5
        cases hkv
        obtain ⟨a', ea', e6, ys, e7, e8⟩ := R2.mu i b' _ e5
        rw [ea] at ea'; cases ea'
        split at h
        · exact False.elim h
        · rename_i j ej
          refine ⟨a, ys, n, j, rfl, rfl, e7, by rw [← e8.length]; exact ej, ?_⟩
          obtain ⟨s3, R3⟩ := R2.chg (o := .lst (ys.set j v)) (d1 := .lst (l'.set j d)) e5 ea ⟨_, upd_same, e8.set (hv.mono s2.g) j⟩
          exact h σ G2 _ s3 R3
      · exact False.elim h⟩
end

/-! ### a def's promise over data -/
inductive FRes where
  | no
  | ret (fr : Bool) (d : D) (outs : List D)
  | exc (e : Exc) (outs : List D)
abbrev Fn := List (Bool × D) → FRes
inductive ArgsIs (K : PySem.W.Frag) (G H : Hp) : List (Bool × D) → List V → Prop
  | nil : ArgsIs K G H [] []
  | val {d : D} {v : V} {as : List (Bool × D)} {vs : List V} : Is K G d v → ArgsIs K G H as vs → ArgsIs K G H ((false, d) :: as) (v :: vs)
  | io {d : D} {a : Addr} {as : List (Bool × D)} {vs : List V} : G a = none → Cont K G H a d → ArgsIs K G H as vs → ArgsIs K G H ((true, d) :: as) (.ref a :: vs)
def ioA : List (Bool × D) → List V → List Addr
  | (true, _) :: as, .ref a :: vs => a :: ioA as vs
  | _ :: as, _ :: vs => ioA as vs
  | _, _ => []
inductive OutsIs (K : PySem.W.Frag) (G H : Hp) : List (Bool × D) → List V → List D → Prop
  | nil : OutsIs K G H [] [] []
  | val {d : D} {v : V} {as : List (Bool × D)} {vs : List V} {os : List D} : OutsIs K G H as vs os → OutsIs K G H ((false, d) :: as) (v :: vs) os
  | io {d d' : D} {a : Addr} {as : List (Bool × D)} {vs : List V} {os : List D} : Cont K G H a d' → OutsIs K G H as vs os → OutsIs K G H ((true, d) :: as) (.ref a :: vs) (d' :: os)
structure FStp (io : List Addr) (G H G' H' : Hp) : Prop where
  g : Evl.Ex G G'
  h : ∀ b o, b ∉ io → H b = some o → H' b = some o
  t : ∀ b, H' b = none → H b = none
  n : ∀ b, G b = none → G' b ≠ none → H b = none
  s : Evl.Ex G' H'
def FIs (K : PySem.W.Frag) (G' H' H : Hp) (fr : Bool) (d : D) (v : V) : Prop := match fr with
  | false => Is K G' d v
  | true => ∃ a, v = .ref a ∧ G' a = none ∧ H a = none ∧ Cont K G' H' a d
def spD (K : PySem.W.Frag) (ar : Nat) (F : Fn) : Sp := fun vs H Q E => vs.length = ar ∧ ∃ G as, Evl.Ex G H ∧ ArgsIs K G H as vs ∧ (ioA as vs).Nodup ∧ match F as with
  | .no => False
  | .ret fr d outs => ∀ v G' H', FStp (ioA as vs) G H G' H' → OutsIs K G' H' as vs outs → FIs K G' H' H fr d v → Q v H'
  | .exc e outs => ∀ dd G' H', FStp (ioA as vs) G H G' H' → OutsIs K G' H' as vs outs → EIs K G' H' e dd → E e.cls dd H'
theorem ArgsIs.length {K : PySem.W.Frag} {G H : Hp} : ∀ {as : List (Bool × D)} {vs : List V}, ArgsIs K G H as vs → as.length = vs.length
  | _, _, .nil => rfl
  | _, _, .val _ r => congrArg (· + 1) (ArgsIs.length r)
  | _, _, .io _ _ r => congrArg (· + 1) (ArgsIs.length r)

/-! ### the callee's side -/
def startC (as : List (Bool × D)) : DEnv := as.map fun p => some (if p.1 then .mu true p.2 else .val p.2)
def startE (n : Nat) (as : List (Bool × D)) : DEnv := startC as ++ List.replicate (n - as.length) none
def outs (ρ : DEnv) : Nat → List (Bool × D) → Option (List D)
  | _, [] => some []
  | i, (false, _) :: as => outs ρ (i + 1) as
  | i, (true, _) :: as => match ρ[i]? with
    | some (some (.mu true d)) => match outs ρ (i + 1) as with
      | some l => some (d :: l)
      | none => none
    | _ => none
def fnRes (as : List (Bool × D)) (r : SR) : FRes := match r with
  | .nx ρ => match outs ρ 0 as with
    | some l => .ret false .non l
    | none => .no
  | .ret ρ fr d => match outs ρ 0 as with
    | some l => .ret fr d l
    | none => .no
  | .ex ρ e => match outs ρ 0 as with
    | some l => .exc e l
    | none => .no
  | _ => .no
end DF

/-! A def's promise where the guards of repr are known: none stands around. -/
namespace DF
open PySem PySem.Spec PyProof.Rows L2
/-- room, and no guard of repr around -/
structure RoomG (k : Nat) (A : Around) : Prop where
  room : Room k A
  gd : A.guards = some []
theorem RoomG.mono {j k : Nat} {A : Around} (r : RoomG k A) (h : j ≤ k) : RoomG j A := ⟨r.room.mono h, r.gd⟩
theorem RoomG.deeper {k : Nat} {A : Around} (r : RoomG (k + 1) A) (env : Env) : RoomG k (A.deeper env) := ⟨r.room.deeper env, r.gd⟩
theorem RoomG.units {k : Nat} {A : Around} (r : RoomG k A) : A.units + 64 < cLine := r.room.units
theorem RoomG.units0 {k : Nat} {A : Around} (r : RoomG k A) : A.units < cLine := r.room.units0
/-- the promise: only positional arguments, all given -/
structure FnG (P : Program) (w : World) (K : PySem.W.Frag) (mg : Str → Option Value) (base : Heap) (CX : CXT) (k : Nat) (f : Addr) (fd : FuncData) (ps : List Str) (sp : Sp) : Prop where
  len : ∀ vs H Q E, sp vs H Q E → vs.length = ps.length
  run : ∀ (A : Around) (outer : List Env) (s : Shared) (H : Hp) (us : List Value) (vs : List V) (Q : VK) (E : XK), RoomG k A → Env0 P w K mg base A outer s H → BindsTo s fd ⟨us, []⟩ (ps.zip us) → Vals vs us → sp vs H Q E →
    codeAny (model P w) A (.call (.ref f) ⟨us, []⟩) (CR CX outer P w H s Q E) s
theorem cr_ret {CX : CXT} {outer : List Env} {P : Program} {w : World} {H : Hp} {s : Shared} {Q : VK} {E : XK} {r : Result} {s' : Shared} {T : Result → Shared → Prop} (h : CR CX outer P w H s Q E r s') (h1 : ∀ u, CE outer P w H s Q u s' → T (.ok (.ret u)) s') (h2 : ∀ e, CX outer H s E e s' → T (.error e) s') : T r s' := by
  rcases r with e | fl
  · exact h2 e h
  · rcases fl with _ | _ | _ | u
    all_goals first | exact False.elim h | exact h1 _ h
section
variable {X : Cx} {CX : CXT} {k : Nat} {f : Addr} {fd : FuncData} {ps : List Str} {sp : Sp} {E : L2.St → XK} {x : Str} {p pos : Pos} {e : Expr} {es : List Expr} {t : TA}
theorem call_G {pins : List (Addr × Obj)} {σ : L2.St} {H : Hp} {s : Shared} {Q : VK} {us : List Value} {vs : List V} (F : FnG X.prog X.w X.K X.mg X.base CX k f fd ps sp) (hr : RoomG k X.A) (hb : Binds X.K fd ps []) (hx : PassesAt CX X σ (E σ))
    (I : Inv X pins σ H s) (r : Vals vs us) (h : sp vs H Q (E σ)) : wpAny (model X.prog X.w) X.A (call (.ref f) us) (EP X pins σ Q) X.xe s := by
  have hl : us.length = ps.length := by rw [← r.length]; exact F.len _ _ _ _ h
  have hb' : BindsTo s fd ⟨us, []⟩ (ps.zip us) := by simpa using hb s us I.kIn (by simpa using hl)
  exact wpAny_call (codeAny_mono (F.run X.A X.stack s H us vs Q (E σ) hr I.env0 hb' r h) fun r s' q => cr_ret (T := fun r s' => match r with | .ok (.ret u) => EP X pins σ Q u s' | .ok _ => False | .error e => X.xe e s') q (fun u c => I.after c) fun e c => hx pins H s e s' I c)
theorem pe_G (F : FnG X.prog X.w X.K X.mg X.base CX k f fd ps sp) (hr : RoomG k X.A) (hg : Gl X x) (hm : X.mg x = some (.ref f)) (hk : PySem.W.keepIn X.K (.ref f) = true) (hb : Binds X.K fd ps []) (hx : ∀ σ, PassesAt CX X σ (E σ))
    (ha : PA X (e :: es) t) (hdb : (x == ("__debug__" : Str)) = false := by decide) (he : starEach (e :: es) X.env = (false, eval e X.env) :: starEach es X.env := by rfl) (hpl : (backTo pos (starEach es X.env)).any (·.1) = false := by rfl) :
    PE X (.Call (.Name x p) (e :: es) [] pos) (tCallSD sp [] E t) :=
  ⟨fun pins s σ H Q I h => wpAny_Call_Name_kw (ld_glob I hg hm (PySem.W.callWith_K (h₀ := X.base) I.ok.mod.kin hk (thn (ha.run pos pins s σ H _ I h) fun us s1 ⟨vs, H1, I1, r, q⟩ => ⟨I1.kIn, call_G F hr hb (hx σ) I1 r (by simpa using q)⟩) he hpl) hdb)⟩
end

section
variable {CX : CXT} {P : Program} {w : World} {K : PySem.W.Frag} {mg : Str → Option Value} {base : Heap}
/-- a def by its body -/
theorem fn_G {x qual : Str} {st : Stmt} {f : Addr} {fd : FuncData} {N ps : List Str} {k : Nat} {sp : Sp} (Fu : Fun K x qual st f fd) (S : FnScope N ps (defScope st)) (len : ∀ vs H Q E, sp vs H Q E → vs.length = ps.length)
    (hB : ∀ (cdv : Value) (A : Around) (outer : List Env) (s : Shared) (H : Hp) (vs : List V) (Q : VK) (E : XK), RoomG k (A.deeper (envOfC qual (defScope st) s.heap.objs.size f cdv)) → sp vs H Q E →
      ∃ t, PSs (cxOf CX P w K mg base N qual (defScope st) f cdv A outer s H E) (defBody st) t ∧ t { nx := fun _ H' => Q .non H', rt := Q } (L2.start N vs) H) : FnG P w K mg base CX (k + 1) f fd ps sp where
  len := len
  run := by
    obtain ⟨oc, od, kV, doc, pm, an, cdv, ct, osl, rfl, lk, hcd⟩ := Fu.ex
    intro A outer s H us vs Q E hr e0 hb rv hsp
    have inK : K.In s.heap := e0.mod.kin.keeps fun b o e => (e0.bs b o e).1
    have noL := e0.mod.nolimit.keeps fun b o e => (e0.bs b o e).1
    refine codeAny_call_function hr.room.depth (inK _ _ lk) rfl S.co S.gen rfl (PySem.W.codeRec_of inK hcd) (hb _ _ _ _ (wpAny_newFunctionEnv_cells S.kind ?kinds ?body))
    case kinds =>
      rintro ⟨y, v⟩ hy
      exact (S.par y (List.of_mem_zip hy).1).elim .inl fun q => .inr ⟨q, PySem.W.cellsFrom_some _ _ _ (.inl q)⟩
    case body =>
      rintro env rfl s1 x1
      obtain ⟨t, ht, hq⟩ := hB cdv A outer s H vs Q E (hr.deeper _) hsp
      refine ⟨noL.keeps x1.toInCall.keep, codeAny_func (wpAny_mono (ht.run [] s1 _ H _ (inv_start S hr.room.hd e0 (len _ _ _ _ hsp) rv x1) hq) (fun fl s' hs => ?_) fun _ _ hs => hs)⟩
      rcases fl with _ | _ | _ | u
      · obtain ⟨_, H', J, q⟩ := hs
        exact ⟨V.non, H', J.os, J.bare, J.base, J.hok, rfl, q⟩
      · obtain ⟨_, _, _, q⟩ := hs
        exact False.elim q
      · obtain ⟨_, _, _, q⟩ := hs
        exact False.elim q
      · obtain ⟨v, _, H', J, rv', q⟩ := hs
        exact ⟨v, H', J.os, J.bare, J.base, J.hok, rv', q⟩
end

section
variable {P : Program} {w : World} {K : PySem.W.Frag} {mg mb : Str → Option Value}
/-- the script's place in a heap that shows nothing else -/
theorem script_heap {s : Shared} {a : Addr} {vs : List Value} {ns : List Int} (KX : K.In s.heap) (ha : s.heap.get? a = some { cls := .type "list", data := .seq vs.toArray }) (hi : IntsAre vs ns) (hl : ns.length ≤ sizeLine) :
    ∃ H : Hp, Only H ∧ SqL K H a (ns.map V.int) ∧ HOk P w H s.heap ∧ ∀ b, H b ≠ none → b = a ∧ K.lookup a = none := by
  have rv := vals_ints hi
  rcases hk : K.lookup a with _ | o
  · let ho : HO := .frz { cls := .type "list", data := .seq vs.toArray } (.lst (ns.map V.int))
    let H0 : Hp := fun b => if b = a then some ho else none
    have at0 : H0 a = some ho := if_pos rfl
    have off : ∀ b, b ≠ a → H0 b = none := fun b h => if_neg h
    refine ⟨H0, fun b => ?_, .inl (.inr ⟨_, at0⟩), fun b u z => ?_, fun b z => ⟨Classical.byContradiction fun h => z (off b h), rfl⟩⟩
    · rcases Classical.em (b = a) with rfl | h
      · exact .inr ⟨_, _, at0⟩
      · exact .inl (off b h)
    · rcases Classical.em (b = a) with rfl | h
      · rw [at0] at z
        cases z
        exact ⟨ha, by simpa using hl, vs, _, rv, ha⟩
      · rw [off b h] at z; cases z
  · have e := KX a o hk
    rw [ha] at e
    cases e
    exact ⟨fun _ => none, fun _ => .inl rfl, .inr ⟨_, vs.toArray, _, hk, rfl, rfl, rfl, by rw [List.size_toArray, hi.length]; exact hl, by simpa using rv⟩, fun _ _ z => (nomatch z), fun _ z => absurd rfl z⟩
/-- the state at the law's call -/
theorem top_env {s : Shared} {a : Addr} {vs : List Value} {H : Hp} (KX : K.In s.heap) (hns : s.heap.Ns mainGlobals mg) (hb : s.heap.Ns builtinsNs mb) (hbb : ∀ x : Str, x ≠ "__name__" → mb x = bootBuiltins x) (hlim : s.heap.NoLimit) (hg : s.gens = #[])
    (ha : s.heap.get? a = some { cls := .type "list", data := .seq vs.toArray }) (hok : HOk P w H s.heap) (hA : ∀ b, H b ≠ none → b = a ∧ K.lookup a = none) :
    K.In (hidT s.heap H) ∧ (hidT s.heap H).Ns mainGlobals mg ∧ Env0 P w K mg (hidT s.heap H) callerA [] s H := by
  have free : ∀ {b : Addr} {o : Obj}, s.heap.get? b = some o → (b = a → False) → H b = none := fun {b o} _ h => by
    rcases q : H b with _ | u
    · rfl
    · exact (h (hA b (by rw [q]; nofun)).1).elim
  have notA : ∀ {b : Addr} {o : Obj} {es : Array DictEntry} {ep : Nat}, s.heap.get? b = some o → o.data = .dict es ep → b = a → False := fun e d h => by
    subst h; rw [ha] at e; cases e; exact (nomatch (show Data.seq vs.toArray _ = Data.dict _ _ from d))
  have ns : ∀ {b : Addr} {m : Str → Option Value}, s.heap.Ns b m → (hidT s.heap H).Ns b m := fun ⟨o, es, ep, e, d, r⟩ => ⟨o, es, ep, hidT_get e (free e (notA e d)), d, r⟩
  have inK : K.In (hidT s.heap H) := fun b o e => hidT_get (KX b o e) (by
    rcases q : H b with _ | u
    · rfl
    · obtain ⟨e1, e2⟩ := hA b (by rw [q]; nofun)
      rw [e1, e2] at e; cases e)
  obtain ⟨mc, l1, l2⟩ := hlim
  exact ⟨inK, ns hns, rfl, ⟨inK, ns hns, ⟨mb, ns hb, hbb⟩, ⟨mc, ns l1, l2⟩⟩, fun b o e => of_hidT e, Nat.le_of_eq (hidT_size _ _), trivial, fun b z => absurd z (List.not_mem_nil), hok, .of_eq hg⟩
variable {CX : CXT} {k : Nat} {fa : Addr} {fd : FuncData} {x : Str} {sp : Sp}
/-- the call of the law -/
theorem law_G {s : Shared} {a : Addr} {vs : List Value} {ns : List Int} (KX : K.In s.heap) (hns : s.heap.Ns mainGlobals mg) (hb : s.heap.Ns builtinsNs mb) (hbb : ∀ x : Str, x ≠ "__name__" → mb x = bootBuiltins x) (hlim : s.heap.NoLimit) (hg : s.gens = #[])
    (ha : s.heap.get? a = some { cls := .type "list", data := .seq vs.toArray }) (hi : IntsAre vs ns) (hl : ns.length ≤ sizeLine) (hr : Room k callerA)
    (F : ∀ base : Heap, K.In base → base.Ns mainGlobals mg → FnG P w K mg base CX k fa fd [x] sp) (hbind : ∀ (s : Shared) (u : Value), BindsTo s fd ⟨[u], []⟩ [(x, u)])
    (hsp : ∀ H : Hp, Only H → SqL K H a (ns.map V.int) → sp [.ref a] H (fun v _ => v = .bl true) fun _ _ _ => False)
    (hCX : ∀ H e s', CX [] H s (fun _ _ _ => False) e s' → False) :
    codeAny (model P w) callerA (.call (.ref fa) ⟨[.ref a], []⟩) (fun r s' => r = .ok (.ret (.bool true)) ∧ OldK s.heap s'.heap ∧ s'.os = s.os ∧ AllBare s'.gens) s := by
  obtain ⟨H, hO, hS, hok, hA⟩ := script_heap (P := P) (w := w) KX ha hi hl
  obtain ⟨k1, k2, e0⟩ := top_env KX hns hb hbb hlim hg ha hok hA
  refine codeAny_mono ((F _ k1 k2).run callerA [] s H [.ref a] [.ref a] _ _ ⟨hr, rfl⟩ e0 (hbind s (.ref a)) (.cons rfl .nil) (hsp H hO hS)) fun r s' h => cr_ret (T := fun r s' => r = .ok (.ret (.bool true)) ∧ OldK s.heap s'.heap ∧ s'.os = s.os ∧ AllBare s'.gens) h ?_ fun e c => (hCX H e s' c).elim
  rintro u ⟨v, H', os, bare, un, hok', r', q⟩
  obtain rfl : v = .bl true := q
  obtain rfl : u = Value.bool true := r'
  refine ⟨rfl, OldK.of_keep fun b o e => ?_, os, bare⟩
  rcases hO b with z | ⟨ob, xs, z⟩
  · exact un.keep b o e z (by intro y; exact absurd y (List.not_mem_nil)) (by simp)
  · have e1 := (hok b _ z).1
    have e2 := (hok' b _ (un.frzs b ob _ z)).1
    rw [e] at e1; cases e1
    exact e2
end
/-- a law whose def's promise knows that no guard stands around -/
theorem walk_G {l : PySem.W.OpenLaw} {n k : Nat} {q : Program} {loose : List Str} {XP : (Str → Option Value) → Heap → Prop} {YP : World → Heap → Prop} {d : DefRec} {K : Params → PySem.W.Frag} {CX : World → CXT} {sp : World → Sp} {x : Str}
    (hn : l.most = some n) (hn2 : n ≤ sizeLine) (hdf : d.params.defaults = []) (hr : Room k callerA)
    (hY : ∀ (w : World) (h : Heap), YP w h → (K w.params).In h)
    (F : ∀ (w : World) (mg : Str → Option Value) (fa : Addr) (h : Heap), (K w.params).In h → h.Ns mainGlobals mg → mg d.name = some (.ref fa) →
      ∃ fd : FuncData, (∀ (s : Shared) (u : Value), BindsTo s fd ⟨[u], []⟩ [(x, u)]) ∧
        ∀ base : Heap, (K w.params).In base → base.Ns mainGlobals mg → FnG l.prog w (K w.params) mg base (CX w) k fa fd [x] (sp w))
    (hsp : ∀ (w : World) (H : Hp) (a : Addr) (ns : List Int), ns.length ≤ n → Only H → SqL (K w.params) H a (ns.map V.int) → sp w [.ref a] H (fun v _ => v = .bl true) fun _ _ _ => False)
    (hCX : ∀ (w : World) (H : Hp) (s : Shared) (e : Value) (s' : Shared), CX w [] H s (fun _ _ _ => False) e s' → False) :
    PySem.W.WalkO q loose XP YP l.row.toRowW d [] (fun f vs => PySem.call f vs) :=
  Att.attach_call hn hdf fun w s₀ s₁ mg mb fa o pm cd doc a vs ns G Y ho hd hcd hmg hobj hints hlen hg => by
    have KX := hY w _ Y
    obtain ⟨fd, hb, hF⟩ := F w mg fa _ KX G.T.g hmg
    exact law_G KX G.T.g G.T.b G.T.builtins G.T.nolimit hg hobj hints (Nat.le_trans hlen hn2) hr hF hb (fun H hO hS => hsp w H a ns hlen hO hS) fun H e s' c => hCX w H s₁ e s' c
end DF

/-! Classes, methods and properties whose defs know that no guard of repr stands around. -/
namespace DF
open PySem PySem.Spec PyProof.Rows L2
theorem RoomG.in1 {k : Nat} {A : Around} (r : RoomG (k + 1) A) : RoomG k A.in1 := ⟨r.room.in1, r.gd⟩
theorem RoomG.make {k : Nat} {A : Around} (r : RoomG (k + 1) A) (C : Addr) (us : List Value) : RoomG k (A.under (.builtin "type.__call__" ⟨.ref C :: us, []⟩)) := ⟨r.room.make C us [], by
  have q := r.gd
  simp [Around.under, Code.guards, Code.isGuard, pushGuards, guardIds, q]⟩
section
variable {X : Cx} {k : Nat} {C f p g : Addr} {fd : FuncData} {ps : List Str} {sp : Sp} {E : XK} {x m n : Str} {q pos apos : Pos} {e o : Expr} {es : List Expr} {ta : TE} {t : TA}
/-- the result of a call inside, from behind its end -/
theorem after_G {pins : List (Addr × Obj)} {σ : L2.St} {H : Hp} {s : Shared} {Q : VK} {r : Result} {s' : Shared} {T : Result → Shared → Prop} (I : Inv X pins σ H s) (h : CR (L2.CX X.prog X.w) X.stack X.prog X.w H s Q E0 r s') (k1 : ∀ u, EP X pins σ Q u s' → T (.ok (.ret u)) s') : T r s' :=
  cr_ret h (fun u c => k1 u (I.after c)) fun e c => by
    obtain ⟨_, _, _, _, _, _, _, _, _, _, _, _, z⟩ := c
    exact z.elim
theorem pe_makeG (M : Mk X.K C f) (F : FnG X.prog X.w X.K X.mg X.base (L2.CX X.prog X.w) k f fd ps sp) (hr : RoomG (k + 1) X.A) (hg : Gl X x) (hm : X.mg x = some (.ref C)) (hb : Binds X.K fd ps [])
    (ha : PA X (e :: es) t) (hdb : (x == ("__debug__" : Str)) = false := by decide) (he : starEach (e :: es) X.env = (false, eval e X.env) :: starEach es X.env := by rfl) (hpl : (backTo pos (starEach es X.env)).any (·.1) = false := by rfl) :
    PE X (.Call (.Name x q) (e :: es) [] pos) (tMake C sp [] E0 t) := by
  refine ⟨fun pins s σ H Q I h => wpAny_Call_Name_kw (ld_glob I hg hm (PySem.W.callWith_K (h₀ := X.base) I.ok.mod.kin M.kp (thn (ha.run pos pins s σ H _ I h) fun us s1 ⟨vs, H1, I1, r, hq⟩ => ⟨I1.kIn, ?_⟩) he hpl) hdb)⟩
  let n := s1.heap.objs.size
  have hs := hq (n + 1) n (I1.hok.fresh (Nat.le_succ _)) (I1.hok.fresh (Nat.le_refl _)) (by show n ≠ n + 1; omega)
  rw [List.append_nil] at hs
  have I2 := Inv.made (C := C) I1
  have r2 : Vals (V.ref (n + 1) :: vs) (Value.ref (n + 1) :: us) := .cons rfl r
  have hl : (Value.ref (n + 1) :: us).length = ps.length := by rw [← r2.length]; exact F.len _ _ _ _ hs
  have hb' := hb _ (Value.ref (n + 1) :: us) I2.kIn (by simpa using hl)
  rw [List.append_nil] at hb'
  have e2 : Env0 X.prog X.w X.K X.mg X.base (X.A.under (.builtin "type.__call__" ⟨.ref C :: us, []⟩)) X.stack _ _ := I2.env0.make C us []
  refine wpAny_call (make_map (f := f) I1.kIn M.makes M.init (beq_iff_eq.mp M.fn) (codeAny_mono (F.run _ X.stack _ _ _ _ _ E0 (hr.make C us) e2 hb' r2 hs) fun r s' hq' => after_G I2 hq' ?_))
  rintro u ⟨v, H', I3, rv, ev, q3⟩
  subst ev
  exact ⟨rv, V.ref (n + 1), H', I3, rfl, q3⟩
theorem pe_methG {pl : Sem Bool} (he : PE X o ta) (c : Cls X.K C) (hm : Meth X.K C m f) (F : FnG X.prog X.w X.K X.mg X.base (L2.CX X.prog X.w) k f fd ps sp) (hr : RoomG k X.A) (hb : Binds X.K fd ps []) (ha : PA X (e :: es) t)
    (hst : starEach (e :: es) X.env = (false, eval e X.env) :: starEach es X.env := by rfl) (hpl : (backTo pos (starEach es X.env)).any (·.1) = false := by rfl)
    (ht : eval (.Call (.Attribute o m apos) (e :: es) [] pos) X.env = (do
      let ov ← eval o X.env
      standAt apos.atName
      let (f, first) ← holding [ov] (getMethod ov m pl)
      callWith pos f first (backTo pos (starEach (e :: es) X.env)) (backToKw pos (keywordEach [] X.env))) := by rfl) : PE X (.Call (.Attribute o m apos) (e :: es) [] pos) (tMeth C m sp [] E0 ta t) := by
  refine ⟨fun pins s σ H Q I h => PySem.W.methodCall_KW (pl := pl) (thn (he.run pins s σ H _ I h) fun u s1 hu => ?_) ht⟩
  obtain ⟨_, H1, I1, rx, a, dx, fs, rfl, ea, l, q⟩ := hu
  obtain rfl : u = Value.ref a := rx
  exact getmeth_ok I1 ea c hm l (PySem.W.callWith_K (first := [.ref a]) (h₀ := X.base) I.ok.mod.kin hm.kp (thn (ha.run pos pins s1 σ H1 _ I1 q) fun us s2 ⟨vs, H2, I2, r, q2⟩ =>
    ⟨I2.kIn, call_G (E := fun _ => E0) (us := .ref a :: us) (vs := .ref a :: vs) F hr hb (fun pins H s e s1 I c => passL pins σ H s e s1 I c) I2 (.cons rfl r) (by simpa using q2)⟩) hst hpl)
theorem pe_meth0G {pl : Sem Bool} (he : PE X o ta) (c : Cls X.K C) (hm : Meth X.K C m f) (F : FnG X.prog X.w X.K X.mg X.base (L2.CX X.prog X.w) k f fd ps sp) (hr : RoomG k X.A) (hb : Binds X.K fd ps [])
    (ht : eval (.Call (.Attribute o m apos) [] [] pos) X.env = (do
      let ov ← eval o X.env
      standAt apos.atName
      let (f, first) ← holding [ov] (getMethod ov m pl)
      callWith pos f first (backTo pos (starEach [] X.env)) (backToKw pos (keywordEach [] X.env))) := by rfl) : PE X (.Call (.Attribute o m apos) [] [] pos) (tMeth C m sp [] E0 ta tNil) := by
  refine ⟨fun pins s σ H Q I h => PySem.W.methodCall_KW (pl := pl) (thn (he.run pins s σ H _ I h) fun u s1 hu => ?_) ht⟩
  obtain ⟨_, H1, I1, rx, a, dx, fs, rfl, ea, l, q⟩ := hu
  obtain rfl : u = Value.ref a := rx
  exact getmeth_ok I1 ea c hm l (PySem.W.callWith_K0 (first := [.ref a]) I1.kIn hm.kp
    (call_G (E := fun _ => E0) (us := [.ref a]) (vs := [.ref a]) F hr hb (fun pins H s e s1 I c => passL pins σ H s e s1 I c) I1 (.cons rfl .nil) q))
theorem pe_propG (he : PE X e ta) (c : Cls X.K C) (hp : PropOf X.K C n p g) (F : FnG X.prog X.w X.K X.mg X.base (L2.CX X.prog X.w) k g fd ps sp) (hr : RoomG (k + 1) X.A) (hb : Binds X.K fd ps [])
    (hab : attributeBase e n X.env (eval e X.env) = eval e X.env) : PE X (.Attribute e n pos) (tProp C sp [] E0 ta) := by
  refine ⟨fun pins s σ H Q I h => attr_of hab (thn (he.run pins s σ H _ I h) fun u s1 hu => ?_)⟩
  obtain ⟨_, H1, I1, rx, a, dx, fs, rfl, ea, q⟩ := hu
  obtain rfl : u = Value.ref a := rx
  obtain ⟨_, O, _⟩ := ins_get I1.hok ea
  obtain ⟨od, J, _⟩ := O.look
  obtain ⟨rest, hrec⟩ := hp.rec_
  have I2 := I1.tok (s1.toks + 1)
  have isC : (PySem.W.clsIn X.K C).isSome = true := by
    obtain ⟨_, z, _⟩ := PySem.W.any_some c.hd
    rw [z]; rfl
  have hb' := hb { s1 with toks := s1.toks + 1 } [.ref a] I1.kIn (by simpa using F.len _ _ _ _ q)
  rw [List.append_nil] at hb'
  refine PySem.W.get_bind I1.kIn J (PySem.W.plainGet_of (c.get n)).1 (PySem.W.findObj_data isC hp.at_ hp.get hp.tak) (PySem.W.plainGet_of (c.get n)).2 (wpAny_call (PySem.W.prop_get (s := { s1 with toks := s1.toks + 1 }) I1.kIn hrec ?_))
  refine codeAny_mono (F.run X.A.in1 X.stack { s1 with toks := s1.toks + 1 } H1 [.ref a] [.ref a] Q E0 hr.in1 I2.env0.in1 hb' (.cons rfl .nil) q) fun r s' hq => ?_
  rcases r with er | fl
  · obtain ⟨_, _, _, _, _, _, _, _, _, _, _, _, z⟩ := hq
    exact z.elim
  · rcases fl with _ | _ | _ | u'
    all_goals first | exact False.elim hq | skip
    obtain ⟨v, H', I3, rv, q3⟩ := I2.after hq
    show wpAny _ _ (handedOut u') _ _ _
    rw [PySem.W.handedOut_of (handed_of rv)]
    exact wpAny_pure ⟨v, H', I3, rv, q3⟩
end
end DF

namespace DF
open PySem PySem.Spec PyProof.Rows L2
section
variable {K : PySem.W.Frag} {G H G' H' : Hp}
theorem ArgsIs.get : ∀ {as : List (Bool × D)} {vs : List V} {i : Nat} {b : Bool} {d : D}, ArgsIs K G H as vs → as[i]? = some (b, d) → ∃ v, vs[i]? = some v ∧ match b with | false => Is K G d v | true => ∃ a, v = .ref a ∧ G a = none ∧ Cont K G H a d ∧ a ∈ ioA as vs
  | _, _, _, _, _, .nil, e => by simp at e
  | _, _, 0, _, _, .val h _, e => by simp at e; obtain ⟨rfl, rfl⟩ := e; exact ⟨_, rfl, h⟩
  | _, _, 0, _, _, .io h c _, e => by simp at e; obtain ⟨rfl, rfl⟩ := e; exact ⟨_, rfl, _, rfl, h, c, List.mem_cons_self⟩
  | _, _, i + 1, b, d, .val h r, e => by
    obtain ⟨v, e1, e2⟩ := ArgsIs.get (i := i) (b := b) (d := d) r (by simpa using e)
    refine ⟨v, by simpa using e1, ?_⟩
    cases b with
    | false => exact e2
    | true => obtain ⟨a, q1, q2, q3, q4⟩ := e2; exact ⟨a, q1, q2, q3, q4⟩
  | _, _, i + 1, b, d, .io h c r, e => by
    obtain ⟨v, e1, e2⟩ := ArgsIs.get (i := i) (b := b) (d := d) r (by simpa using e)
    refine ⟨v, by simpa using e1, ?_⟩
    cases b with
    | false => exact e2
    | true => obtain ⟨a, q1, q2, q3, q4⟩ := e2; exact ⟨a, q1, q2, q3, List.mem_cons_of_mem _ q4⟩
theorem ArgsIs.inj : ∀ {as : List (Bool × D)} {vs : List V} {i j : Nat} {d e : D} {a : Addr}, ArgsIs K G H as vs → (ioA as vs).Nodup → as[i]? = some (true, d) → as[j]? = some (true, e) → vs[i]? = some (.ref a) → vs[j]? = some (.ref a) → i = j
  | _, _, _, _, _, _, _, .nil, _, h, _, _, _ => by simp at h
  | _, _, 0, 0, _, _, _, _, _, _, _, _, _ => rfl
  | _, _, i + 1, j + 1, _, _, _, .val _ r, nd, h1, h2, h3, h4 => congrArg (· + 1) (ArgsIs.inj r nd (by simpa using h1) (by simpa using h2) (by simpa using h3) (by simpa using h4))
  | _, _, i + 1, j + 1, _, _, _, .io _ _ r, nd, h1, h2, h3, h4 => congrArg (· + 1) (ArgsIs.inj r (List.nodup_cons.mp nd).2 (by simpa using h1) (by simpa using h2) (by simpa using h3) (by simpa using h4))
  | _, _, 0, j + 1, _, _, _, .val _ r, nd, h1, h2, h3, h4 => by simp at h1
  | _, _, 0, j + 1, _, _, a, .io _ _ r, nd, h1, h2, h3, h4 => by
    simp at h3
    obtain ⟨v, e1, a', e2, _, _, e3⟩ := ArgsIs.get (i := j) r (by simpa using h2)
    have z : some v = some (V.ref a) := e1.symm.trans (by simpa using h4)
    cases z
    cases e2
    rw [← h3] at e3
    exact absurd e3 (List.nodup_cons.mp nd).1
  | _, _, i + 1, 0, _, _, _, .val _ r, nd, h1, h2, h3, h4 => by simp at h2
  | _, _, i + 1, 0, _, _, a, .io _ _ r, nd, h1, h2, h3, h4 => by
    simp at h4
    obtain ⟨v, e1, a', e2, _, _, e3⟩ := ArgsIs.get (i := i) r (by simpa using h1)
    have z : some v = some (V.ref a) := e1.symm.trans (by simpa using h3)
    cases z
    cases e2
    rw [← h4] at e3
    exact absurd e3 (List.nodup_cons.mp nd).1
theorem startC_get {as : List (Bool × D)} {i : Nat} {c : Cell} {n : Nat} (h : (startE n as)[i]? = some (some c)) : ∃ b d, as[i]? = some (b, d) ∧ c = if b then .mu true d else .val d := by
  unfold startE startC at h
  by_cases hi : i < as.length
  · rw [List.getElem?_append_left (by rw [List.length_map]; exact hi), List.getElem?_map] at h
    cases e : as[i]? with
    | none => rw [e] at h; cases h
    | some p =>
      rw [e] at h
      obtain ⟨b, d⟩ := p
      exact ⟨b, d, rfl, (Option.some.inj (Option.some.inj h)).symm⟩
  · rw [List.getElem?_append_right (by rw [List.length_map]; omega), List.getElem?_replicate] at h
    split at h <;> cases h
theorem start_get {N : List Str} {vs : List V} {i : Nat} {v : V} (h : vs[i]? = some v) : (L2.start N vs)[i]? = some (some v) := by
  unfold L2.start
  have hi : i < vs.length := (List.getElem?_eq_some_iff.mp h).1
  rw [List.getElem?_append_left (by rw [List.length_map]; exact hi), List.getElem?_map, h]
  rfl
theorem Rep.start {N : List Str} {as : List (Bool × D)} {vs : List V} (eS : Evl.Ex G H) (ha : ArgsIs K G H as vs) (nd : (ioA as vs).Nodup) : Rep K G H (startE N.length as) (L2.start N vs) where
  sub := eS
  len := by
    unfold startE startC L2.start
    rw [List.length_append, List.length_append, List.length_map, List.length_map, List.length_replicate, List.length_replicate, ha.length]
  vl := fun i d e => by
    obtain ⟨b, d', e1, e2⟩ := startC_get e
    cases b with
    | true => cases e2
    | false =>
      cases e2
      obtain ⟨v, e3, e4⟩ := ha.get e1
      exact ⟨v, start_get e3, e4⟩
  mu := fun i b d e => by
    obtain ⟨b', d', e1, e2⟩ := startC_get e
    cases b' with
    | false => cases e2
    | true =>
      cases e2
      obtain ⟨v, e3, a, rfl, e5, e6, e7⟩ := ha.get e1
      exact ⟨a, start_get e3, e5, e6⟩
  ap := fun i j b c d e a q1 q2 q3 q4 => by
    obtain ⟨b1, d1, e1, f1⟩ := startC_get q1
    obtain ⟨b2, d2, e2, f2⟩ := startC_get q2
    cases b1 with
    | false => cases f1
    | true =>
      cases b2 with
      | false => cases f2
      | true =>
        obtain ⟨v1, g1, _⟩ := ha.get e1
        obtain ⟨v2, g2, _⟩ := ha.get e2
        rw [start_get g1] at q3; cases q3
        rw [start_get g2] at q4; cases q4
        exact ha.inj nd e1 e2 g1 g2
theorem mu_start {N : List Str} {as : List (Bool × D)} {vs : List V} {b : Bool} {a : Addr} (ha : ArgsIs K G H as vs) (m : Mu b (startE N.length as) (L2.start N vs) a) : b = true ∧ a ∈ ioA as vs := by
  obtain ⟨i, d, e1, e2⟩ := m
  obtain ⟨b', d', e3, e4⟩ := startC_get e1
  cases b' with
  | false => cases e4
  | true =>
    cases e4
    obtain ⟨v, e5, a', rfl, _, _, e6⟩ := ha.get e3
    rw [start_get e5] at e2
    cases e2
    exact ⟨rfl, e6⟩
theorem outs_is {ρ' : DEnv} {σ' : Sl} (R' : Rep K G' H' ρ' σ') : ∀ {as : List (Bool × D)} {vs : List V} {i : Nat} {l : List D}, ArgsIs K G H as vs → (∀ j a, as[j]? ≠ none → vs[j]? = some (.ref a) → (∃ d, as[j]? = some (true, d)) → σ'[i + j]? = some (some (.ref a))) → outs ρ' i as = some l → OutsIs K G' H' as vs l
  | _, _, _, l, .nil, _, e => by cases e; exact .nil
  | (false, d) :: as, _, i, l, .val h r, hs, e => .val (outs_is R' (i := i + 1) r (fun j a q1 q2 q3 => by have z := hs (j + 1) a (by simpa using q1) (by simpa using q2) (by simpa using q3); rw [← z]; congr 1; omega) e)
  | (true, d) :: as, .ref a :: vs, i, l, .io h c r, hs, e => by
    unfold outs at e
    split at e
    · rename_i d' e1
      split at e
      · rename_i l' e2
        cases e
        obtain ⟨a', q1, q2, q3⟩ := R'.mu i true d' e1
        have z := hs 0 a (by simp) (by simp) ⟨d, by simp⟩
        rw [show i + 0 = i from rfl, q1] at z
        cases z
        exact .io q3 (outs_is R' (i := i + 1) r (fun j a q1 q2 q3 => by have z := hs (j + 1) a (by simpa using q1) (by simpa using q2) (by simpa using q3); rw [← z]; congr 1; omega) e2)
      · cases e
    · cases e
end
section
variable {P : Program} {w : World} {K : PySem.W.Frag} {mg : Str → Option Value} {base : Heap}
/-- a def by its body -/
theorem fn_D {x qual : Str} {st : Stmt} {f : Addr} {fd : FuncData} {N ps : List Str} {k : Nat} {F : Fn} (Fu : Fun K x qual st f fd) (S : FnScope N ps (defScope st)) (B : Nat → DEnv → SR)
    (hB : ∀ (n : Nat) (cdv : Value) (A : Around) (outer : List Env) (s : Shared) (H : Hp) (E : XK), RoomG k (A.deeper (envOfC qual (defScope st) s.heap.objs.size f cdv)) →
      DSs (cxOf (L2.CX P w) P w K mg base N qual (defScope st) f cdv A outer s H E) (fun cls d _ H => E cls d H) (defBody st) (B n))
    (hF : ∀ as, as.length = ps.length → F as ≠ .no → ∃ n, fnRes as (B n (startE N.length as)) = F as) : FnG P w K mg base (L2.CX P w) (k + 1) f fd ps (spD K ps.length F) := by
  refine fn_G Fu S (fun vs H Q E h => h.1) fun cdv A outer s H vs Q E hr ⟨hl, G, as, eS, ha, nd, hm⟩ => ?_
  have hne : F as ≠ .no := fun z => by rw [z] at hm; exact hm
  obtain ⟨n, hn⟩ := hF as (ha.length.trans hl) hne
  refine ⟨_, hB n cdv A outer s H E hr, startE N.length as, G, Rep.start eS ha nd, ?_⟩
  rw [← hn] at hm
  have fst : ∀ {ρ' : DEnv} {σ' : Sl} {G' H' : Hp}, Stp (startE N.length as) (L2.start N vs) G H ρ' σ' G' H' → Rep K G' H' ρ' σ' → FStp (ioA as vs) G H G' H' := fun {ρ' σ' G' H'} s R' =>
    ⟨s.g, fun b o n1 q => s.h b o (fun m => absurd (mu_start ha m).1 (by decide)) (fun m => n1 (mu_start ha m).2) q, s.t, fun b q1 q2 => (s.n b q1 q2).elim id fun m => absurd (mu_start ha m).1 (by decide), R'.sub⟩
  have out : ∀ {ρ' : DEnv} {σ' : Sl} {G' H' : Hp} {l : List D}, Stp (startE N.length as) (L2.start N vs) G H ρ' σ' G' H' → Rep K G' H' ρ' σ' → outs ρ' 0 as = some l → OutsIs K G' H' as vs l := fun {ρ' σ' G' H' l} s R' e =>
    outs_is R' ha (fun j a q1 q2 ⟨d, q3⟩ => by
      have hs : (startE N.length as)[j]? = some (some (.mu true d)) := by
        unfold startE startC
        have hj : j < as.length := (List.getElem?_eq_some_iff.mp q3).1
        rw [List.getElem?_append_left (by rw [List.length_map]; exact hj), List.getElem?_map, q3]
        rfl
      obtain ⟨d', _, z⟩ := (s.io j).1 d hs
      rw [Nat.zero_add, z]
      exact start_get q2) e
  cases hr : B n (startE N.length as) with
  | no => rw [hr] at hm; exact hm
  | brk _ => rw [hr] at hm; exact (show False from hm).elim
  | cnt _ => rw [hr] at hm; exact (show False from hm).elim
  | nx ρ' =>
    rw [hr] at hm
    unfold fnRes at hm
    dsimp only at hm
    cases eo : outs ρ' 0 as with
    | none => rw [eo] at hm; exact False.elim hm
    | some l =>
      rw [eo] at hm
      exact fun σ' G' H' s R' => hm .non G' H' (fst s R') (out s R' eo) .non
  | ret ρ' fr d =>
    rw [hr] at hm
    unfold fnRes at hm
    dsimp only at hm
    cases eo : outs ρ' 0 as with
    | none => rw [eo] at hm; exact False.elim hm
    | some l =>
      rw [eo] at hm
      refine fun v σ' G' H' s R' q => hm v G' H' (fst s R') (out s R' eo) ?_
      cases fr with
      | false => exact q
      | true =>
        obtain ⟨a, q1, q2, q3, q4⟩ := q
        exact ⟨a, q1, q2, q3.elim (fun m => (s.ow a m).elim (fun m => absurd (mu_start ha m).1 (by decide)) id) id, q4⟩
  | ex ρ' e =>
    rw [hr] at hm
    unfold fnRes at hm
    dsimp only at hm
    cases eo : outs ρ' 0 as with
    | none => rw [eo] at hm; exact False.elim hm
    | some l =>
      rw [eo] at hm
      exact fun d σ' G' H' s R' q => hm d G' H' (fst s R') (out s R' eo) q
end

/-! ### the caller's side -/
inductive AD where
  | v (d : D)
  | io (i : Nat)
inductive ArI (K : PySem.W.Frag) (σ : Sl) (G : Hp) : List AD → List V → Prop
  | nil : ArI K σ G [] []
  | val {d : D} {v : V} {l : List AD} {vs : List V} : Is K G d v → ArI K σ G l vs → ArI K σ G (.v d :: l) (v :: vs)
  | io {i : Nat} {v : V} {l : List AD} {vs : List V} : σ[i]? = some (some v) → ArI K σ G l vs → ArI K σ G (.io i :: l) (v :: vs)
theorem ArI.mono {K : PySem.W.Frag} {σ : Sl} {G G' : Hp} (e : Evl.Ex G G') : ∀ {l : List AD} {vs : List V}, ArI K σ G l vs → ArI K σ G' l vs
  | _, _, .nil => .nil
  | _, _, .val h r => .val (h.mono e) (ArI.mono e r)
  | _, _, .io h r => .io h (ArI.mono e r)
def tAr (K : PySem.W.Frag) (W : WX) (f : DEnv → R (List AD)) : TA := fun σ H Q => ∃ ρ G, Rep K G H ρ σ ∧ Go K W σ ρ G H (fun l _ G' H' => ∀ vs, ArI K σ G' l vs → Q vs H') (f ρ)
abbrev DR (X : Cx) (W : WX) (es : List Expr) (f : DEnv → R (List AD)) : Prop := PA X es (tAr X.K W f)
def rNil : DEnv → R (List AD) := fun ρ => .ok ρ []
def rVal (f : DEnv → R D) (g : DEnv → R (List AD)) : DEnv → R (List AD) := fun ρ => (f ρ).bind fun d ρ1 => (g ρ1).bind fun l ρ2 => .ok ρ2 (.v d :: l)
def isMu (ρ : DEnv) (i : Nat) : Bool := match ρ[i]? with
  | some (some (.mu _ _)) => true
  | _ => false
def rIo (i : Nat) (g : DEnv → R (List AD)) : DEnv → R (List AD) := fun ρ => if isMu ρ i = true then (g ρ).bind fun l ρ2 => .ok ρ2 (.io i :: l) else .no
section
variable {X : Cx} {W : WX} {e : Expr} {es : List Expr}
theorem dr_nil : DR X W [] rNil := pa_imp pa_nil fun σ H Q ⟨ρ, G, R, h⟩ => h G H .refl R [] .nil
theorem dr_val {f : DEnv → R D} {g : DEnv → R (List AD)} (h1 : DE X W e f) (h2 : DR X W es g) (hs : starEach (e :: es) X.env = (false, eval e X.env) :: starEach es X.env := by rfl) : DR X W (e :: es) (rVal f g) :=
  pa_imp (pa_cons h1 h2 hs) fun σ H Q ⟨ρ, G, R, h⟩ => ⟨ρ, G, R, (Go.bind R h).imp fun t ρ1 G1 H1 s1 R1 h1 v hv =>
    ⟨ρ1, G1, R1, (Go.bind R1 h1).imp fun l ρ2 G2 H2 s2 R2 h2 vs hvs => h2 G2 H2 .refl R2 (v :: vs) (.val (hv.mono s2.g) hvs)⟩⟩
theorem dr_io {i : Nat} {g : DEnv → R (List AD)} (h1 : PE X e (tVar i)) (h2 : DR X W es g) (hs : starEach (e :: es) X.env = (false, eval e X.env) :: starEach es X.env := by rfl) : DR X W (e :: es) (rIo i g) :=
  pa_imp (pa_cons h1 h2 hs) fun σ H Q ⟨ρ, G, R, h⟩ => by
    unfold rIo at h
    split at h
    · rename_i hm
      unfold isMu at hm
      split at hm
      · rename_i b d e1
        obtain ⟨a, e2, _⟩ := R.mu i b d e1
        exact ⟨_, e2, ρ, G, R, (Go.bind R h).imp fun l ρ2 G2 H2 s2 R2 h2 vs hvs => h2 G2 H2 .refl R2 (.ref a :: vs) (.io e2 hvs)⟩
      · cases hm
    · exact False.elim h
end
def argsD (ρ : DEnv) : List AD → Option (List (Bool × D))
  | [] => some []
  | .v d :: l => match argsD ρ l with
    | some r => some ((false, d) :: r)
    | none => none
  | .io i :: l => match ρ[i]? with
    | some (some (.mu _ d)) => match argsD ρ l with
      | some r => some ((true, d) :: r)
      | none => none
    | _ => none
def ioIx : List AD → List Nat
  | [] => []
  | .v _ :: l => ioIx l
  | .io i :: l => i :: ioIx l
def putD (ρ : DEnv) : List AD → List D → Option DEnv
  | [], [] => some ρ
  | .v _ :: l, os => putD ρ l os
  | .io i :: l, d :: os => match ρ[i]? with
    | some (some (.mu b _)) => putD (ρ.set i (some (.mu b d))) l os
    | _ => none
  | _, _ => none
section
variable {K : PySem.W.Frag} {σ : Sl} {ρ ρ2 : DEnv} {G H G' H' : Hp}
theorem argsD_is (R : Rep K G H ρ σ) : ∀ {l : List AD} {vs : List V} {as : List (Bool × D)}, ArI K σ G l vs → argsD ρ l = some as → ArgsIs K G H as vs
  | _, _, as, .nil, e => by cases e; exact .nil
  | .v d :: l, _, as, .val h r, e => by
    unfold argsD at e
    split at e
    · rename_i r' e1; cases e; exact .val h (argsD_is R r e1)
    · cases e
  | .io i :: l, _, as, .io h r, e => by
    unfold argsD at e
    split at e
    · rename_i b d e1
      split at e
      · rename_i r' e2
        cases e
        obtain ⟨a, q1, q2, q3⟩ := R.mu i b d e1
        rw [h] at q1; cases q1
        exact .io q2 q3 (argsD_is R r e2)
      · cases e
    · cases e
theorem ioA_mem (R : Rep K G H ρ σ) : ∀ {l : List AD} {vs : List V} {as : List (Bool × D)} {a : Addr}, ArI K σ G l vs → argsD ρ l = some as → (a ∈ ioA as vs ↔ ∃ i ∈ ioIx l, σ[i]? = some (some (.ref a)))
  | _, _, as, a, .nil, e => by cases e; simp [ioA, ioIx]
  | .v d :: l, _, as, a, .val h r, e => by
    unfold argsD at e
    split at e
    · rename_i r' e1; cases e; have ih := ioA_mem (a := a) R r e1; exact ih
    · cases e
  | .io i :: l, _, as, a, .io h r, e => by
    unfold argsD at e
    split at e
    · rename_i b d e1
      split at e
      · rename_i r' e2
        cases e
        obtain ⟨a', q1, q2, q3⟩ := R.mu i b d e1
        rw [h] at q1; cases q1
        have ih := ioA_mem R (a := a) r e2
        unfold ioA ioIx
        rw [List.mem_cons, ih]
        constructor
        · rintro (rfl | ⟨j, q, z⟩)
          · exact ⟨i, List.mem_cons_self, h⟩
          · exact ⟨j, List.mem_cons_of_mem _ q, z⟩
        · rintro ⟨j, q, z⟩
          rcases List.mem_cons.mp q with rfl | q
          · rw [h] at z; cases z; exact .inl rfl
          · exact .inr ⟨j, q, z⟩
      · cases e
    · cases e
theorem ioA_nodup (R : Rep K G H ρ σ) : ∀ {l : List AD} {vs : List V} {as : List (Bool × D)}, ArI K σ G l vs → argsD ρ l = some as → (ioIx l).Nodup → (ioA as vs).Nodup
  | _, _, as, .nil, e, _ => by cases e; exact List.nodup_nil
  | .v d :: l, _, as, .val h r, e, nd => by
    unfold argsD at e
    split at e
    · rename_i r' e1; cases e; have ih := ioA_nodup R r e1 nd; exact ih
    · cases e
  | .io i :: l, _, as, .io h r, e, nd => by
    unfold argsD at e
    split at e
    · rename_i b d e1
      split at e
      · rename_i r' e2
        cases e
        obtain ⟨a', q1, q2, q3⟩ := R.mu i b d e1
        rw [h] at q1; cases q1
        refine List.nodup_cons.mpr ⟨fun m => ?_, ioA_nodup R r e2 (List.nodup_cons.mp nd).2⟩
        obtain ⟨j, q, z⟩ := (ioA_mem R r e2).mp m
        have mj : ∃ b' d', ρ[j]? = some (some (.mu b' d')) := by
          have key : ∀ {l : List AD} {as : List (Bool × D)}, argsD ρ l = some as → j ∈ ioIx l → ∃ b' d', ρ[j]? = some (some (.mu b' d')) := by
            intro l
            induction l with
            | nil => intro as _ m; simp [ioIx] at m
            | cons y l ih =>
              intro as e m
              cases y with
              | v d =>
                unfold argsD at e
                split at e
                · rename_i r' e1; exact ih e1 m
                · cases e
              | io k =>
                unfold argsD at e
                split at e
                · rename_i b d e1
                  split at e
                  · rename_i r' e2
                    rcases List.mem_cons.mp (show j ∈ k :: ioIx l from m) with rfl | m
                    · exact ⟨b, d, e1⟩
                    · exact ih e2 m
                  · cases e
                · cases e
          exact key e2 q
        obtain ⟨b', d', ej⟩ := mj
        have ij : i = j := R.ap i j b b' d d' _ e1 ej h z
        subst ij
        exact (List.nodup_cons.mp nd).1 q
      · cases e
    · cases e
/-- what became of a slot -/
def Chg (K : PySem.W.Frag) (σ : Sl) (G' H' : Hp) (L : List Nat) (ρ ρ2 : DEnv) (j : Nat) : Prop :=
  (j ∈ L ∧ ∃ b d d' a, ρ[j]? = some (some (.mu b d)) ∧ ρ2[j]? = some (some (.mu b d')) ∧ σ[j]? = some (some (.ref a)) ∧ Cont K G' H' a d') ∨ (j ∉ L ∧ ρ2[j]? = ρ[j]?)
theorem putD_chg : ∀ {l : List AD} {vs : List V} {as : List (Bool × D)} {os : List D} {ρ ρ1 ρ2 : DEnv}, ArI K σ G l vs → argsD ρ1 l = some as → OutsIs K G' H' as vs os → (ioIx l).Nodup → putD ρ l os = some ρ2 → ρ2.length = ρ.length ∧ ∀ j, Chg K σ G' H' (ioIx l) ρ ρ2 j
  | _, _, as, os, ρ, ρ1, ρ2, .nil, e, o, nd, p => by
    cases e
    cases o
    cases p
    exact ⟨rfl, fun j => .inr ⟨by simp [ioIx], rfl⟩⟩
  | .v d :: l, _, as, os, ρ, ρ1, ρ2, .val h r, e, o, nd, p => by
    unfold argsD at e
    split at e
    · rename_i r' e1
      cases e
      cases o with
      | val o =>
        unfold putD at p
        have ih := putD_chg r e1 o nd p
        exact ih
    · cases e
  | .io i :: l, _, as, os, ρ, ρ1, ρ2, .io h r, e, o, nd, p => by
    unfold argsD at e
    split at e
    · rename_i b1 d1 e1
      split at e
      · rename_i r' e2
        cases e
        cases o with
        | @io d0 d' a as vs os c o =>
          unfold putD at p
          split at p
          · rename_i b d e3
            obtain ⟨hl, hc⟩ := putD_chg r e2 o (List.nodup_cons.mp nd).2 p
            have hi : i < ρ.length := (List.getElem?_eq_some_iff.mp e3).1
            refine ⟨by rw [hl, List.length_set], fun j => ?_⟩
            rcases hc j with ⟨m, b', d2, d3, a2, q1, q2, q3, q4⟩ | ⟨m, q⟩
            · have n : i ≠ j := fun z => by subst z; exact (List.nodup_cons.mp nd).1 m
              rw [List.getElem?_set_ne n] at q1
              exact .inl ⟨List.mem_cons_of_mem _ m, b', d2, d3, a2, q1, q2, q3, q4⟩
            · by_cases z : i = j
              · subst z
                rw [List.getElem?_set_self hi] at q
                exact .inl ⟨List.mem_cons_self, b, d, d', a, e3, q, h, c⟩
              · rw [List.getElem?_set_ne z] at q
                exact .inr ⟨fun y => (List.mem_cons.mp y).elim (fun y => z y.symm) m, q⟩
          · cases p
      · cases e
    · cases e
theorem after_call {l : List AD} {vs : List V} {as : List (Bool × D)} {os : List D} (R : Rep K G H ρ σ) (ha : ArI K σ G l vs) (e : argsD ρ l = some as) (nd : (ioIx l).Nodup) (p : putD ρ l os = some ρ2) (s : FStp (ioA as vs) G H G' H') (o : OutsIs K G' H' as vs os) :
    Stp ρ σ G H ρ2 σ G' H' ∧ Rep K G' H' ρ2 σ := by
  obtain ⟨hl, hc⟩ := putD_chg ha e o nd p
  have back : ∀ (j : Nat) (b : Bool) (d : D), ρ2[j]? = some (some (.mu b d)) → ∃ d', ρ[j]? = some (some (.mu b d')) := fun j b d q => by
    rcases hc j with ⟨m, b', d2, d3, a2, q1, q2, q3, q4⟩ | ⟨m, z⟩
    · rw [q] at q2; cases q2; exact ⟨d2, q1⟩
    · exact ⟨d, z ▸ q⟩
  have isM : ∀ a, a ∈ ioA as vs → Mu false ρ σ a ∨ Mu true ρ σ a := fun a m => by
    obtain ⟨i, q, z⟩ := (ioA_mem R ha e).mp m
    rcases hc i with ⟨_, b, d2, d3, a2, q1, q2, q3, q4⟩ | ⟨n, _⟩
    · cases b with
      | false => exact .inl ⟨i, d2, q1, z⟩
      | true => exact .inr ⟨i, d2, q1, z⟩
    · exact absurd q n
  refine ⟨⟨s.g, fun b ob n1 n2 q => s.h b ob (fun m => (isM b m).elim n1 n2) q, s.t, fun b q1 q2 => .inl (s.n b q1 q2), fun b ⟨j, d, q1, q2⟩ => ?_, fun j => ⟨fun d q => ?_, fun d q => back j true d q⟩⟩, ⟨s.s, by rw [hl]; exact R.len, fun j d q => ?_, fun j b d q => ?_, fun j k b c d1 d2 a q1 q2 q3 q4 => ?_⟩⟩
  · obtain ⟨d', z⟩ := back j false d q1
    exact .inl ⟨j, d', z, q2⟩
  · rcases hc j with ⟨m, b', d2, d3, a2, q1, q2, q3, q4⟩ | ⟨m, z⟩
    · rw [q] at q1; cases q1; exact ⟨d3, q2, rfl⟩
    · exact ⟨d, z.trans q, rfl⟩
  · rcases hc j with ⟨m, b', d2, d3, a2, q1, q2, q3, q4⟩ | ⟨m, z⟩
    · rw [q] at q2; cases q2
    · obtain ⟨v, y1, y2⟩ := R.vl j d (z ▸ q)
      exact ⟨v, y1, y2.mono s.g⟩
  · rcases hc j with ⟨m, b', d2, d3, a2, q1, q2, q3, q4⟩ | ⟨m, z⟩
    · rw [q] at q2; cases q2
      obtain ⟨a, y1, y2, y3⟩ := R.mu j _ _ q1
      rw [q3] at y1; cases y1
      refine ⟨_, q3, ?_, q4⟩
      cases hg : G' a2 with
      | none => rfl
      | some u =>
        have w := s.n _ y2 (by rw [hg]; exact fun z => by cases z)
        obtain ⟨ob, ho⟩ := y3.there
        rw [w] at ho; cases ho
    · obtain ⟨a, y1, y2, y3⟩ := R.mu j b d (z ▸ q)
      have na : a ∉ ioA as vs := fun m2 => by
        obtain ⟨i, q', z'⟩ := (ioA_mem R ha e).mp m2
        rcases hc i with ⟨_, b', d2, d3, a2, q1, q2, q3, q4⟩ | ⟨n, _⟩
        · have ij := R.ap i j b' b d2 d a q1 (z ▸ q) z' y1
          subst ij
          exact m q'
        · exact absurd q' n
      refine ⟨a, y1, ?_, y3.mono s.g fun ob q => s.h a ob na q⟩
      cases hg : G' a with
      | none => rfl
      | some u =>
        have w := s.n _ y2 (by rw [hg]; exact fun z => by cases z)
        obtain ⟨ob, ho⟩ := y3.there
        rw [w] at ho; cases ho
  · obtain ⟨x', z1⟩ := back j b d1 q1
    obtain ⟨y', z2⟩ := back k c d2 q2
    exact R.ap j k b c x' y' a z1 z2 q3 q4
end
/-- f(..) -/
def dCal2 (ar : Nat) (F : Fn) (f : DEnv → R (List AD)) : DEnv → R (Bool × D) := fun ρ => (f ρ).bind fun l ρ1 => if l.length = ar then match argsD ρ1 l with
  | none => .no
  | some as => if (ioIx l).Nodup then match F as with
    | .no => .no
    | .ret fr d os => match putD ρ1 l os with
      | none => .no
      | some ρ2 => .ok ρ2 (fr, d)
    | .exc e os => match putD ρ1 l os with
      | none => .no
      | some ρ2 => .ex ρ2 e
    else .no
  else .no
/-- a value that stays, or a thing just made -/
def XIs (K : PySem.W.Frag) (σ : Sl) (ρ' : DEnv) (G' H' H : Hp) (p : Bool × D) (v : V) : Prop := match p.1 with
  | false => Is K G' p.2 v
  | true => ∃ a, v = .ref a ∧ G' a = none ∧ ¬ Mu false ρ' σ a ∧ ¬ Mu true ρ' σ a ∧ H a = none ∧ Cont K G' H' a p.2
def tX (K : PySem.W.Frag) (W : WX) (f : DEnv → R (Bool × D)) : TE := fun σ H Q => ∃ ρ G, Rep K G H ρ σ ∧ Go K W σ ρ G H (fun p ρ' G' H' => ∀ v, XIs K σ ρ' G' H' H p v → Q v H') (f ρ)
theorem ArI.length {K : PySem.W.Frag} {σ : Sl} {G : Hp} : ∀ {l : List AD} {vs : List V}, ArI K σ G l vs → l.length = vs.length
  | _, _, .nil => rfl
  | _, _, .val _ r => congrArg (· + 1) (ArI.length r)
  | _, _, .io _ r => congrArg (· + 1) (ArI.length r)
theorem tcall {K : PySem.W.Frag} {W : WX} {ar : Nat} {F : Fn} {f : DEnv → R (List AD)} : ∀ σ H Q, tX K W (dCal2 ar F f) σ H Q → tCallSD (spD K ar F) [] (fun σ cls d H => W cls d σ H) (tAr K W f) σ H Q := fun σ H Q ⟨ρ, G, R, h⟩ =>
  ⟨ρ, G, R, (Go.bind R h).imp fun l ρ1 G1 H1 s1 R1 h1 vs hv => by
    show spD K ar F (vs ++ []) H1 Q (fun cls d H => W cls d σ H)
    rw [List.append_nil]
    split at h1
    · rename_i hl
      split at h1
      · exact False.elim h1
      · rename_i as ea
        split at h1
        · rename_i nd
          refine ⟨hv.length.symm.trans hl, G1, as, R1.sub, argsD_is R1 hv ea, ioA_nodup R1 hv ea nd, ?_⟩
          split at h1
          · exact False.elim h1
          · rename_i fr d os eF
            try rw [eF]
            split at h1
            · exact False.elim h1
            · rename_i ρ2 ep
              intro v G' H' fs ho hr
              obtain ⟨s2, R2⟩ := after_call R1 hv ea nd ep fs ho
              refine h1 G' H' s2 R2 v ?_
              cases fr with
              | false => exact hr
              | true =>
                obtain ⟨a, rfl, q1, q2, q3⟩ := hr
                have no : ∀ b, ¬ Mu b ρ2 σ a := fun b ⟨j, d', z1, z2⟩ => by
                  have key : ∃ o, H1 a = some o := by
                    cases b with
                    | false =>
                      rcases s2.ow a ⟨j, d', z1, z2⟩ with ⟨j', d'', y1, y2⟩ | y
                      · obtain ⟨a', y3, _, y4⟩ := R1.mu j' _ _ y1
                        rw [y2] at y3; cases y3
                        exact y4.there
                      · obtain ⟨a', y3, y5, y4⟩ := R2.mu j _ _ z1
                        rw [z2] at y3; cases y3
                        obtain ⟨d3, y6⟩ : ∃ d3, ρ1[j]? = some (some (.mu false d3)) := by
                          obtain ⟨_, hc⟩ := putD_chg hv ea ho nd ep
                          rcases hc j with ⟨_, b', d2, d3, a2, w1, w2, w3, w4⟩ | ⟨_, w⟩
                          · rw [z1] at w2; cases w2; exact ⟨d2, w1⟩
                          · exact ⟨d', w ▸ z1⟩
                        obtain ⟨a', y7, _, y8⟩ := R1.mu j _ _ y6
                        rw [z2] at y7; cases y7
                        exact y8.there
                    | true =>
                      obtain ⟨d3, y6⟩ := (s2.io j).2 d' z1
                      obtain ⟨a', y7, _, y8⟩ := R1.mu j _ _ y6
                      rw [z2] at y7; cases y7
                      exact y8.there
                  obtain ⟨o, ho⟩ := key
                  rw [q2] at ho; cases ho
                exact ⟨a, rfl, q1, no false, no true, s1.t a q2, q3⟩
          · rename_i e os eF
            try rw [eF]
            split at h1
            · exact False.elim h1
            · rename_i ρ2 ep
              intro dd G' H' fs ho hr
              obtain ⟨s2, R2⟩ := after_call R1 hv ea nd ep fs ho
              exact h1 G' H' dd s2 R2 hr
        · exact False.elim h1
    · exact False.elim h1⟩
abbrev DX (X : Cx) (W : WX) (e : Expr) (f : DEnv → R (Bool × D)) : Prop := PE X e (tX X.K W f)
def dV (f : DEnv → R (Bool × D)) : DEnv → R D := fun ρ => (f ρ).bind fun p ρ' => .ok ρ' p.2
def dN (f : DEnv → R (Bool × D)) : DEnv → R D := fun ρ => (f ρ).bind fun p ρ' => match p with
  | (true, d) => .ok ρ' d
  | (false, _) => .no
section
variable {X : Cx} {W : WX} {e : Expr} {es : List Expr}
theorem dx_de {f : DEnv → R (Bool × D)} (h : DX X W e f) : DE X W e (dV f) := ⟨fun pins s σ H Q I ⟨ρ, G, R, hg⟩ => by
  cases e1 : f ρ with
  | no =>
    have h2 : dV f ρ = .no := by unfold dV; rw [e1]; rfl
    rw [h2] at hg; exact False.elim hg
  | ex ρ' ee =>
    have h2 : dV f ρ = .ex ρ' ee := by unfold dV; rw [e1]; rfl
    rw [h2] at hg
    exact h.run pins s σ H Q I ⟨ρ, G, R, by rw [e1]; exact hg⟩
  | ok ρ' p =>
    have h2 : dV f ρ = .ok ρ' p.2 := by unfold dV; rw [e1]; rfl
    rw [h2] at hg
    obtain ⟨fr, d⟩ := p
    cases fr with
    | false => exact h.run pins s σ H Q I ⟨ρ, G, R, by rw [e1]; exact fun G' H' s R' v hx => hg G' H' s R' v hx⟩
    | true =>
      refine thn (h.run pins s σ H (fun x H1 => ∃ a G', x = .ref a ∧ Stp ρ σ G H ρ' σ G' H1 ∧ Rep X.K G' H1 ρ' σ ∧ G' a = none ∧ ¬ Mu false ρ' σ a ∧ ¬ Mu true ρ' σ a ∧ H a = none ∧ Cont X.K G' H1 a d) I ⟨ρ, G, R, ?_⟩) fun u s1 ⟨x, H1, I1, rx, a, G', ex, k1, k2, k3, k4, k5, k6, k7⟩ => ?_
      · rw [e1]
        intro G' H' s R' v hx
        obtain ⟨a, rfl, h0, h1, h2, hn, hc⟩ := hx
        exact ⟨a, G', rfl, s, R', h0, h1, h2, hn, hc⟩
      · obtain ⟨G2, H2, I2, s2, R2, hi⟩ := fresh_run I1 k1 k2 k3 k4 k5 k6 k7
        subst ex
        exact ⟨_, H2, I2, rx, hg G2 H2 s2 R2 _ hi⟩⟩
theorem dx_df {f : DEnv → R (Bool × D)} (h : DX X W e f) : DF' X W e (dN f) := pe_imp h fun σ H Q ⟨ρ, G, R, h⟩ => ⟨ρ, G, R, by
    cases e1 : f ρ with
    | no =>
      have h2 : dN f ρ = .no := by unfold dN; rw [e1]; rfl
      rw [h2] at h; exact h
    | ex ρ' ee =>
      have h2 : dN f ρ = .ex ρ' ee := by unfold dN; rw [e1]; rfl
      rw [h2] at h; exact h
    | ok ρ' p =>
      obtain ⟨fr, d⟩ := p
      cases fr with
      | false =>
        have h2 : dN f ρ = .no := by unfold dN; rw [e1]; rfl
        rw [h2] at h; exact False.elim h
      | true =>
        have h2 : dN f ρ = .ok ρ' d := by unfold dN; rw [e1]; rfl
        rw [h2] at h
        intro G' H' s R' v hx
        obtain ⟨a, rfl, q1, q2, q3, q4, q5⟩ := hx
        exact h G' H' s R' a q1 q2 q3 q4 q5⟩
variable {x : Str} {p pos : Pos} {k ar : Nat} {fa : Addr} {fd : FuncData} {ps : List Str} {F : Fn} {f : DEnv → R (List AD)}
/-- f(..), wherever what it raises is taken -/
theorem dx_call (FO : FnG X.prog X.w X.K X.mg X.base (L2.CX X.prog X.w) k fa fd ps (spD X.K ar F)) (hr : RoomG k X.A) (tk : Takes X W) (hg : Gl X x) (hm : X.mg x = some (.ref fa)) (hk : PySem.W.keepIn X.K (.ref fa) = true) (hb : Binds X.K fd ps [])
    (ha : DR X W (e :: es) f) (hdb : (x == ("__debug__" : Str)) = false := by decide) (he : starEach (e :: es) X.env = (false, eval e X.env) :: starEach es X.env := by rfl) (hpl : (backTo pos (starEach es X.env)).any (·.1) = false := by rfl) :
    DX X W (.Call (.Name x p) (e :: es) [] pos) (dCal2 ar F f) :=
  pe_imp (pe_G (E := fun σ cls d H => W cls d σ H) FO hr hg hm hk hb (fun σ => passAt tk σ) ha hdb he hpl) tcall
/-- f(..), where nothing may be raised -/
theorem dx_callN (FO : FnG X.prog X.w X.K X.mg X.base (L2.CX X.prog X.w) k fa fd ps (spD X.K ar F)) (hr : RoomG k X.A) (hg : Gl X x) (hm : X.mg x = some (.ref fa)) (hk : PySem.W.keepIn X.K (.ref fa) = true) (hb : Binds X.K fd ps [])
    (ha : DR X (fun _ _ _ _ => False) (e :: es) f) (hdb : (x == ("__debug__" : Str)) = false := by decide) (he : starEach (e :: es) X.env = (false, eval e X.env) :: starEach es X.env := by rfl) (hpl : (backTo pos (starEach es X.env)).any (·.1) = false := by rfl) :
    DX X (fun _ _ _ _ => False) (.Call (.Name x p) (e :: es) [] pos) (dCal2 ar F f) :=
  pe_imp (pe_G (E := fun _ => E0) FO hr hg hm hk hb (fun σ => fun pins H s e s1 I c => passL pins σ H s e s1 I c) ha hdb he hpl) fun σ H Q h => tcall (W := fun _ _ _ _ => False) σ H Q h
end
end DF

namespace DF
open PySem PySem.Spec PyProof.Rows L2
def wipeE (ρ : DEnv) : List Nat → DEnv
  | [] => ρ
  | v :: vs => (wipeE ρ vs).set v none
theorem wipeE_length (ρ : DEnv) : ∀ vs : List Nat, (wipeE ρ vs).length = ρ.length
  | [] => rfl
  | v :: vs => by unfold wipeE; rw [List.length_set, wipeE_length ρ vs]
theorem wipeE_some {ρ : DEnv} {i : Nat} {x : Cell} : ∀ {vs : List Nat}, (wipeE ρ vs)[i]? = some (some x) → ρ[i]? = some (some x) ∧ i ∉ vs
  | [], h => ⟨h, by simp⟩
  | v :: vs, h => by
    unfold wipeE at h
    rcases set_get h with ⟨_, z⟩ | ⟨n, z⟩
    · cases z
    · obtain ⟨h1, h2⟩ := wipeE_some z
      exact ⟨h1, fun m => (List.mem_cons.mp m).elim (fun y => n y.symm) h2⟩
theorem wipeE_out {ρ : DEnv} {i : Nat} : ∀ {vs : List Nat}, i ∉ vs → (wipeE ρ vs)[i]? = ρ[i]?
  | [], _ => rfl
  | v :: vs, h => by
    unfold wipeE
    rw [List.getElem?_set_ne (fun z => h (by rw [z]; exact List.mem_cons_self))]
    exact wipeE_out fun z => h (List.mem_cons_of_mem _ z)
/-- none of these is a slot of one's own list -/
def noMu (ρ : DEnv) (vs : List Nat) : Bool := vs.all fun i => match ρ[i]? with
  | some (some (.mu _ _)) => false
  | _ => true
theorem noMu_of {ρ : DEnv} {vs : List Nat} (h : noMu ρ vs = true) {i : Nat} (hi : i ∈ vs) {b : Bool} {d : D} : ρ[i]? ≠ some (some (.mu b d)) := fun z => by
  unfold noMu at h
  have q := List.all_eq_true.mp h i hi
  rw [z] at q
  cases q
section
variable {K : PySem.W.Frag} {ρ : DEnv} {σ σ2 : Sl} {G H : Hp} {vs : List Nat}
/-- slots of the comprehension are forgotten; σ2 holds the others as σ does -/
theorem Rep.wiped (R : Rep K G H ρ σ) (hl : σ2.length = σ.length) (hs : ∀ i, i ∉ vs → σ2[i]? = σ[i]?) : Rep K G H (wipeE ρ vs) σ2 where
  sub := R.sub
  len := by rw [wipeE_length, hl]; exact R.len
  vl := fun i d e => by
    obtain ⟨e1, e2⟩ := wipeE_some e
    obtain ⟨v, e3, e4⟩ := R.vl i d e1
    exact ⟨v, (hs i e2).trans e3, e4⟩
  mu := fun i b d e => by
    obtain ⟨e1, e2⟩ := wipeE_some e
    obtain ⟨a, e3, e4⟩ := R.mu i b d e1
    exact ⟨a, (hs i e2).trans e3, e4⟩
  ap := fun i j b c d e a q1 q2 q3 q4 => by
    obtain ⟨e1, e2⟩ := wipeE_some q1
    obtain ⟨e3, e4⟩ := wipeE_some q2
    exact R.ap i j b c d e a e1 e3 ((hs i e2).symm.trans q3) ((hs j e4).symm.trans q4)
theorem Stp.wiped (R : Rep K G H ρ σ) (hn : noMu ρ vs = true) (hs : ∀ i, i ∉ vs → σ2[i]? = σ[i]?) : Stp ρ σ G H (wipeE ρ vs) σ2 G H :=
  ⟨fun _ _ e => e, fun _ _ _ _ e => e, fun _ e => e, fun _ e q => absurd e q, fun b ⟨i, d, e1, e2⟩ => by
    obtain ⟨e3, e4⟩ := wipeE_some e1
    exact .inl ⟨i, d, e3, (hs i e4).symm.trans e2⟩, fun i => ⟨fun d e => by
      have hi : i ∉ vs := fun m => noMu_of hn m e
      exact ⟨d, (wipeE_out hi).trans e, hs i hi⟩, fun d e => ⟨d, (wipeE_some e).1⟩⟩⟩
end
/-! ### comprehensions -/
def tYesB : DEnv → R Bool := fun ρ => .ok ρ true
abbrev DTs (X : Cx) (W : WX) (ifs : List Expr) (f : DEnv → R Bool) : Prop := PTs X ifs (tT X.K W f)
theorem pts_imp {X : Cx} {es : List Expr} {t t' : TT} (h : PTs X es t) (i : ∀ σ H Q, t' σ H Q → t σ H Q) : PTs X es t' := ⟨fun pins s σ H Q I q => h.run pins s σ H Q I (i σ H Q q)⟩
theorem dts_nil {X : Cx} {W : WX} : DTs X W [] tYesB := pts_imp pts_nil fun σ H Q ⟨ρ, G, R, h⟩ => h G H .refl R
theorem dts_one {X : Cx} {W : WX} {c : Expr} {f : DEnv → R Bool} (h : DT X W c f) : DTs X W [c] f := pts_one h
/-- .. where nothing may be raised -/
def R.bindN {α β : Type} (r : R α) (f : α → DEnv → R β) : R β := match r with
  | .ok ρ a => f a ρ
  | _ => .no
theorem R.bindN_ok {α β : Type} {ρ : DEnv} {a : α} {f : α → DEnv → R β} : (R.ok ρ a).bindN f = f a ρ := rfl
/-- one item after another; acc: what is made so far -/
def dLcGo (g : Tg) (t : DEnv → R Bool) (f : DEnv → R D) (vs : List Nat) : List D → List D → DEnv → R D
  | [], acc, ρ => .ok ρ (.lst acc)
  | d :: l, acc, ρ => match g d ρ with
    | none => .no
    | some ρ1 => (t ρ1).bindN fun b ρ2 => match b with
      | false => if noMu ρ2 vs = true then dLcGo g t f vs l acc (wipeE ρ2 vs) else .no
      | true => (f ρ2).bindN fun y ρ3 => if noMu ρ3 vs = true then (if acc.length < 16000000 then dLcGo g t f vs l (acc ++ [y]) (wipeE ρ3 vs) else .no) else .no
def dLc (s : DEnv → R (List D)) (g : Tg) (t : DEnv → R Bool) (f : DEnv → R D) (vs : List Nat) : DEnv → R D := fun ρ => (s ρ).bind fun l ρ1 => if noMu ρ1 vs = true then dLcGo g t f vs l [] (wipeE ρ1 vs) else .no

theorem dLcGo_lst {g : Tg} {t : DEnv → R Bool} {f : DEnv → R D} {vs : List Nat} : ∀ (l acc : List D) (ρ ρ' : DEnv) (d : D), dLcGo g t f vs l acc ρ = .ok ρ' d → ∃ m, d = .lst m
  | [], acc, ρ, ρ', d, h => by unfold dLcGo at h; cases h; exact ⟨_, rfl⟩
  | x :: l, acc, ρ, ρ', d, h => by
    unfold dLcGo at h
    split at h
    · cases h
    · cases e1 : t ‹DEnv› with
      | no => rw [e1] at h; cases h
      | ex _ _ => rw [e1] at h; cases h
      | ok ρ2 b =>
        rw [e1] at h
        cases b with
        | false =>
          have h : (if noMu ρ2 vs = true then dLcGo g t f vs l acc (wipeE ρ2 vs) else .no) = .ok ρ' d := h
          split at h
          · exact dLcGo_lst _ _ _ _ _ h
          · cases h
        | true =>
          have h : ((f ρ2).bindN fun y ρ3 => if noMu ρ3 vs = true then (if acc.length < 16000000 then dLcGo g t f vs l (acc ++ [y]) (wipeE ρ3 vs) else .no) else .no) = .ok ρ' d := h
          cases e2 : f ρ2 with
          | no => rw [e2] at h; cases h
          | ex _ _ => rw [e2] at h; cases h
          | ok ρ3 y =>
            rw [e2] at h
            have h : (if noMu ρ3 vs = true then (if acc.length < 16000000 then dLcGo g t f vs l (acc ++ [y]) (wipeE ρ3 vs) else .no) else .no) = .ok ρ' d := h
            split at h
            · split at h
              · exact dLcGo_lst _ _ _ _ _ h
              · cases h
            · cases h
theorem dLc_lst {s : DEnv → R (List D)} {g : Tg} {t : DEnv → R Bool} {f : DEnv → R D} {vs : List Nat} : ∀ (ρ ρ' : DEnv) (d : D), dLc s g t f vs ρ = .ok ρ' d → ∃ m, d = .lst m := by
  intro ρ ρ' d h
  unfold dLc at h
  cases e1 : s ρ with
  | no => rw [e1] at h; cases h
  | ex _ _ => rw [e1] at h; cases h
  | ok ρ1 l =>
    rw [e1] at h
    have h : (if noMu ρ1 vs = true then dLcGo g t f vs l [] (wipeE ρ1 vs) else .no) = .ok ρ' d := h
    split at h
    · exact dLcGo_lst _ _ _ _ _ h
    · cases h
/-- nothing stands in these slots -/
def Clean (ρ : DEnv) (vs : List Nat) : Prop := ∀ i ∈ vs, ∀ c, ρ[i]? ≠ some (some c)
theorem clean_wipe {ρ : DEnv} {vs : List Nat} : Clean (wipeE ρ vs) vs := fun i hi c e => (wipeE_some e).2 hi
section
variable {K : PySem.W.Frag} {ρ ρ' : DEnv} {σ σ0 : Sl} {G H G' H' : Hp} {vs : List Nat}
theorem Rep.swap (R : Rep K G H ρ σ0) (hc : Clean ρ vs) (ag : Agr vs σ0 σ) : Rep K G H ρ σ where
  sub := R.sub
  len := R.len.trans ag.1.symm
  vl := fun i d e => by
    have hi : i ∉ vs := fun m => hc i m _ e
    obtain ⟨v, e1, e2⟩ := R.vl i d e
    exact ⟨v, (ag.2 i hi).trans e1, e2⟩
  mu := fun i b d e => by
    have hi : i ∉ vs := fun m => hc i m _ e
    obtain ⟨a, e1, e2⟩ := R.mu i b d e
    exact ⟨a, (ag.2 i hi).trans e1, e2⟩
  ap := fun i j b c d e a q1 q2 q3 q4 => R.ap i j b c d e a q1 q2 ((ag.2 i fun m => hc i m _ q1).symm.trans q3) ((ag.2 j fun m => hc j m _ q2).symm.trans q4)
theorem mu_swap {b : Bool} {a : Addr} (hc : Clean ρ vs) (ag : Agr vs σ0 σ) : Mu b ρ σ0 a ↔ Mu b ρ σ a :=
  ⟨fun ⟨i, d, e1, e2⟩ => ⟨i, d, e1, (ag.2 i fun m => hc i m _ e1).trans e2⟩, fun ⟨i, d, e1, e2⟩ => ⟨i, d, e1, (ag.2 i fun m => hc i m _ e1).symm.trans e2⟩⟩
theorem Stp.swap (s : Stp ρ σ0 G H ρ' σ0 G' H') (hc : Clean ρ vs) (hc' : Clean ρ' vs) (ag : Agr vs σ0 σ) : Stp ρ σ G H ρ' σ G' H' where
  g := s.g
  h := fun b o n1 n2 q => s.h b o (fun m => n1 ((mu_swap hc ag).mp m)) (fun m => n2 ((mu_swap hc ag).mp m)) q
  t := s.t
  n := fun b q1 q2 => (s.n b q1 q2).imp id fun m => (mu_swap hc ag).mp m
  ow := fun b m => (s.ow b ((mu_swap hc' ag).mpr m)).imp (fun m => (mu_swap hc ag).mp m) id
  io := fun i => ⟨fun d e => by
      obtain ⟨d', e1, _⟩ := (s.io i).1 d e
      exact ⟨d', e1, rfl⟩, (s.io i).2⟩
theorem Agr.symm {σ σ0 : Sl} (a : Agr vs σ0 σ) : Agr vs σ σ0 := ⟨a.1.symm, fun i hi => (a.2 i hi).symm⟩
theorem Agr.trans {σ σ0 σ1 : Sl} (a : Agr vs σ0 σ) (b : Agr vs σ σ1) : Agr vs σ0 σ1 := ⟨b.1.trans a.1, fun i hi => (b.2 i hi).trans (a.2 i hi)⟩
theorem agr_wipe : Agr vs σ (wipe σ vs) := ⟨wipe_length σ vs, fun i hi => wipe_out hi⟩
theorem wipe_get (σ : Sl) (i : Nat) : ∀ vs : List Nat, (wipe σ vs)[i]? = if i ∈ vs then (σ[i]?).map (fun _ => none) else σ[i]?
  | [] => by simp [wipe]
  | v :: vs => by
    unfold wipe
    by_cases h : v = i
    · subst h
      rw [if_pos List.mem_cons_self]
      by_cases hl : v < σ.length
      · rw [List.getElem?_set_self (by rw [wipe_length]; exact hl), List.getElem?_eq_getElem hl]; rfl
      · rw [List.getElem?_eq_none (by rw [List.length_set, wipe_length]; omega), List.getElem?_eq_none (by omega)]; rfl
    · rw [List.getElem?_set_ne h, wipe_get σ i vs]
      by_cases hm : i ∈ vs
      · rw [if_pos hm, if_pos (List.mem_cons_of_mem _ hm)]
      · rw [if_neg hm, if_neg fun m => (List.mem_cons.mp m).elim (fun z => h z.symm) hm]
theorem wipe_agr (ag : Agr vs σ0 σ) : wipe σ vs = wipe σ0 vs := by
  apply List.ext_getElem?
  intro i
  rw [wipe_get, wipe_get]
  by_cases hm : i ∈ vs
  · rw [if_pos hm, if_pos hm]
    by_cases hl : i < σ0.length
    · rw [List.getElem?_eq_getElem hl, List.getElem?_eq_getElem (by rw [ag.1]; exact hl)]; rfl
    · have a1 : σ0[i]? = none := List.getElem?_eq_none (by omega)
      have a2 : σ[i]? = none := List.getElem?_eq_none (by rw [ag.1]; omega)
      rw [a1, a2]
  · rw [if_neg hm, if_neg hm]
    exact ag.2 i hm
/-- an object that no name reaches is put in another's place -/
theorem Rep.other {a : Addr} {o : HO} (R : Rep K G H ρ σ) (h0 : G a = none) (h1 : ∀ b, ¬ Mu b ρ σ a) : Rep K G (upd H a o) ρ σ where
  sub := fun c u q => by
    have n : c ≠ a := fun z => by subst z; rw [h0] at q; cases q
    rw [upd_ne n]; exact R.sub c u q
  len := R.len
  vl := R.vl
  mu := fun i b d e => by
    obtain ⟨a', e1, e2, e3⟩ := R.mu i b d e
    have n : a' ≠ a := fun z => by subst z; exact h1 b ⟨i, d, e, e1⟩
    exact ⟨a', e1, e2, e3.mono (fun _ _ q => q) fun u q => by rw [upd_ne n]; exact q⟩
  ap := R.ap
theorem Stp.other {ρ0 : DEnv} {σ0 : Sl} {G0 H0 : Hp} {a : Addr} {o : HO} (s : Stp ρ0 σ0 G0 H0 ρ σ G H) (h : H0 a = none) : Stp ρ0 σ0 G0 H0 ρ σ G (upd H a o) where
  g := s.g
  h := fun b u n1 n2 q => by rw [upd_ne (ne_of_none q h)]; exact s.h b u n1 n2 q
  t := fun b q => by
    by_cases z : b = a
    · subst z; rw [upd_same] at q; cases q
    · rw [upd_ne z] at q; exact s.t b q
  n := s.n
  ow := s.ow
  io := s.io
end
abbrev WN : WX := fun _ _ _ _ => False
theorem tlc_of {X : Cx} {W : WX} {s : DEnv → R (List D)} {g : Tg} {t : DEnv → R Bool} {f : DEnv → R D} {vs : List Nat} : ∀ σ H Q, tF X.K W (dLc s g t f vs) σ H Q → tLc (tI X.K W s) (tG X.K g vs) (tT X.K WN t) (tD X.K WN f) vs σ H Q := by
  refine fun σ H Q ⟨ρ, G, R, h⟩ => ⟨ρ, G, R, (Go.bind R h).imp fun l ρ1 G1 H1 s1 R1 h1 J hJ Dl hD => ?_⟩
  split at h1
  case isFalse => exact False.elim h1
  rename_i hn1
  -- the state ahead of the first turn
  have ag0 : Agr vs σ (wipe σ vs) := agr_wipe
  have NH : New G1 H1 G1 (upd H1 Dl (.lst [])) := New.hid R1.sub hD
  have R2 : Rep X.K G1 (upd H1 Dl (.lst [])) (wipeE ρ1 vs) σ := (NH.rep R1).wiped rfl fun _ _ => rfl
  have S2 : Stp ρ1 σ G1 H1 (wipeE ρ1 vs) σ G1 (upd H1 Dl (.lst [])) := (NH.stp R1).trans R1 (Stp.wiped (NH.rep R1) hn1 fun _ _ => rfl)
  have noD : ∀ b, ¬ Mu b (wipeE ρ1 vs) σ Dl := fun b ⟨i, d, e1, e2⟩ => by
    obtain ⟨a', e3, _, e4⟩ := R1.mu i b d (wipeE_some e1).1
    rw [e2] at e3; cases e3
    obtain ⟨o, ho⟩ := e4.there
    rw [hD] at ho; cases ho
  refine ⟨fun i m H' => m = l.length - i ∧ ∃ ρw Gi acc xs, Rep X.K Gi H' ρw σ ∧ Clean ρw vs ∧ Stp ρ1 σ G1 H1 ρw σ Gi H' ∧ H' Dl = some (.lst xs) ∧ Iss X.K Gi acc xs ∧ Gi Dl = none ∧ (∀ b, ¬ Mu b ρw σ Dl) ∧
      Go X.K W σ ρ1 G1 H1 (fun d ρ' G' H' => ∀ a, G' a = none → ¬ Mu false ρ' σ a → ¬ Mu true ρ' σ a → H a = none → Cont X.K G' H' a d → Q (.ref a) H') (dLcGo g t f vs (l.drop i) acc ρw),
    ⟨l.length, by simp, wipeE ρ1 vs, G1, [], [], R2, clean_wipe, S2, upd_same, .nil, sub_none R1.sub hD, noD, h1⟩, fun i m H' ⟨em, ρw, Gi, acc, xs, Rw, cl, Sw, eD, hx, gD, nD, hgo⟩ => ?_⟩
  cases e : l[i]? with
  | none =>
    have hl : l.length ≤ i := List.getElem?_eq_none_iff.mp e
    rw [List.drop_eq_nil_of_le hl] at hgo
    exact .inl ⟨hJ.stop i Gi H' hl Sw.g Rw.sub, hgo Gi H' Sw Rw Dl gD (nD false) (nD true) (s1.t Dl hD) ⟨xs, eD, hx⟩⟩
  | some d =>
    obtain ⟨hlt, hel⟩ := List.getElem?_eq_some_iff.mp e
    obtain ⟨q1, q2⟩ := hJ.go i d Gi H' e Sw.g Rw.sub
    rw [List.drop_eq_getElem_cons hlt, hel] at hgo
    refine .inr ⟨q1, fun H' => ∃ ρw Gi acc xs, Rep X.K Gi H' ρw σ ∧ Clean ρw vs ∧ Stp ρ1 σ G1 H1 ρw σ Gi H' ∧ H' Dl = some (.lst xs) ∧ Iss X.K Gi acc xs ∧ Gi Dl = none ∧ (∀ b, ¬ Mu b ρw σ Dl) ∧
      Go X.K W σ ρ1 G1 H1 (fun d ρ' G' H' => ∀ a, G' a = none → ¬ Mu false ρ' σ a → ¬ Mu true ρ' σ a → H a = none → Cont X.K G' H' a d → Q (.ref a) H') (dLcGo g t f vs (l.drop (i + 1)) acc ρw), fun H' q => ⟨l.length - (i + 1), by omega, rfl, q⟩, fun x H2 hy => ?_⟩
    obtain ⟨G2, N2, hdx⟩ := q2 x H2 hy
    unfold dLcGo at hgo
    split at hgo
    case h_1 => exact False.elim hgo
    rename_i ρa ea
    have R0 : Rep X.K Gi H' ρw (wipe σ vs) := Rw.swap cl ag0
    have R2' := N2.rep R0
    refine ⟨ρw, G2, d, R2', hdx, ρa, ea, fun σ2 G3 H3 s3 R3 ag3 => ⟨(wipe_agr ag3).trans (wipe_agr ag0), ρa, G3, R3, ?_⟩⟩
    have T3 : Stp ρw (wipe σ vs) Gi H' ρa σ2 G3 H3 := (N2.stp R0).trans R0 s3
    -- what a turn's end is
    have fin : ∀ {ρb : DEnv} {G4 H4 : Hp}, Stp ρa σ2 G3 H3 ρb σ2 G4 H4 → Rep X.K G4 H4 ρb σ2 → noMu ρb vs = true → Rep X.K G4 H4 (wipeE ρb vs) σ ∧ Stp ρ1 σ G1 H1 (wipeE ρb vs) σ G4 H4 ∧ H4 Dl = some (.lst xs) ∧ G4 Dl = none ∧ (∀ b, ¬ Mu b (wipeE ρb vs) σ Dl) ∧ Evl.Ex Gi G4 := fun {ρb G4 H4} s4 R4 n4 => by
      have ags : Agr vs σ2 (wipe σ vs) := ag3.symm
      have R5 : Rep X.K G4 H4 (wipeE ρb vs) (wipe σ vs) := R4.wiped ags.1 ags.2
      have T4 : Stp ρw (wipe σ vs) Gi H' (wipeE ρb vs) (wipe σ vs) G4 H4 := (T3.trans R0 s4).trans R0 (Stp.wiped R4 n4 ags.2)
      have T5 : Stp ρw σ Gi H' (wipeE ρb vs) σ G4 H4 := T4.swap cl clean_wipe ag0.symm
      have gD4 : G4 Dl = none := by
        cases hg : G4 Dl with
        | none => rfl
        | some u =>
          rcases T5.n Dl gD (by rw [hg]; exact fun z => by cases z) with z | z
          · rw [eD] at z; cases z
          · exact absurd z (nD false)
      refine ⟨R5.swap clean_wipe ag0.symm, Sw.trans R1 T5, T5.h Dl _ (nD false) (nD true) eD, gD4, fun b m => ?_, T5.g⟩
      cases b with
      | false =>
        rcases T5.ow Dl m with z | z
        · exact nD false z
        · rw [eD] at z; cases z
      | true => exact nD true (T5.io_back m)
    cases et : t ρa with
    | no => rw [et] at hgo; exact False.elim hgo
    | ex _ _ => rw [et] at hgo; exact False.elim hgo
    | ok ρb b =>
      rw [et] at hgo
      intro G4 H4 s4 R4
      cases b with
      | false =>
        rw [if_neg Bool.false_ne_true]
        have hgo' : Go X.K W σ ρ1 G1 H1 _ (if noMu ρb vs = true then dLcGo g t f vs (l.drop (i + 1)) acc (wipeE ρb vs) else .no) := hgo
        split at hgo'
        · rename_i n4
          obtain ⟨a1, a2, a3, a4, a5, a6⟩ := fin s4 R4 n4
          exact ⟨wipeE ρb vs, G4, acc, xs, a1, clean_wipe, a2, a3, hx.mono a6, a4, a5, hgo'⟩
        · exact False.elim hgo'
      | true =>
        rw [if_pos rfl]
        refine ⟨ρb, G4, R4, ?_⟩
        have hgo' : Go X.K W σ ρ1 G1 H1 _ ((f ρb).bindN fun y ρ3 => if noMu ρ3 vs = true then (if acc.length < 16000000 then dLcGo g t f vs (l.drop (i + 1)) (acc ++ [y]) (wipeE ρ3 vs) else .no) else .no) := hgo
        cases ef : f ρb with
        | no => rw [ef] at hgo'; exact False.elim hgo'
        | ex _ _ => rw [ef] at hgo'; exact False.elim hgo'
        | ok ρc y =>
          rw [ef] at hgo'
          intro G5 H5 s5 R5 v hv
          have hgo2 : Go X.K W σ ρ1 G1 H1 _ (if noMu ρc vs = true then (if acc.length < 16000000 then dLcGo g t f vs (l.drop (i + 1)) (acc ++ [y]) (wipeE ρc vs) else .no) else .no) := hgo'
          split at hgo2
          · rename_i n5
            split at hgo2
            · rename_i hlen
              obtain ⟨a1, a2, a3, a4, a5, a6⟩ := fin (s4.trans R3 s5) R5 n5
              refine ⟨xs, a3, by rw [← hx.length, sizeLine_eq]; omega, wipeE ρc vs, G5, acc ++ [y], xs ++ [v], a1.other a4 a5, clean_wipe, a2.other hD, upd_same, (hx.mono a6).append (.cons hv .nil), a4, a5, hgo2⟩
            · exact False.elim hgo2
          · exact False.elim hgo2
theorem df_lc {X : Cx} {W : WX} {elt tg iter : Expr} {ifs : List Expr} {scope : Scope} {own : List (Str × Nat)} {pos : Pos} {s : DEnv → R (List D)} {g : Tg} {t : DEnv → R Bool} {f : DEnv → R D} {vs : List Nat}
    (hcalm : X.calm = true) (hN : X.N.Nodup) (hi : DI X W tg iter s) (ok : BlkOk X.N X.env.scope scope own) (hvs : own.map (·.2) = vs)
    (hg : ∀ (s : Shared) (H : Hp) (C : Addr) (cl : List (Str × Addr)) (fp : List Addr), DG (X.blk s H scope (compEnvC scope cl C X.env) fp) tg g vs)
    (ht : ∀ (s : Shared) (H : Hp) (C : Addr) (cl : List (Str × Addr)) (fp : List Addr), DTs (X.blk s H scope (compEnvC scope cl C X.env) fp) WN ifs t)
    (he : ∀ (s : Shared) (H : Hp) (C : Addr) (cl : List (Str × Addr)) (fp : List Addr), DE (X.blk s H scope (compEnvC scope cl C X.env) fp) WN elt f) (hs : ∀ x, foldedSetIterable iter X.env x = pure x := by intro _; rfl) :
    DF' X W (.ListComp elt [⟨tg, iter, ifs, 0⟩] scope pos) (dLc s g t f vs) := by
  subst hvs
  exact pe_imp (pe_lc (g := tG X.K g (own.map (·.2))) (tt := tT X.K WN t) (te := tD X.K WN f) hcalm hN hi ok hg ht he hs) tlc_of
/-- x = [..], x of this frame alone -/
theorem ps_lc0 {X : Cx} {W : WX} {i : Nat} {y : Str} {py : Pos} {elt tg iter : Expr} {ifs : List Expr} {scope : Scope} {own : List (Str × Nat)} {pos spos : Pos} {s : DEnv → R (List D)} {g : Tg} {t : DEnv → R Bool} {f : DEnv → R D}
    (hcalm : X.calm = true) (hN : X.N.Nodup) (hy : X.N[i]? = some y) (hyl : X.env.scope.names.lookup y = some .local) (hsw : swapsWith (.ListComp elt [⟨tg, iter, ifs, 0⟩] scope pos) (some (.Name y py)) spos.line X.env = pure true) (hi : DI X W tg iter s) (ok : BlkOk X.N X.env.scope scope own)
    (hg : ∀ (s : Shared) (H : Hp) (C : Addr) (cl : List (Str × Addr)) (fp : List Addr), DG (X.blk s H scope (compEnvC scope cl C X.env) fp) tg g (own.map (·.2)))
    (ht : ∀ (s : Shared) (H : Hp) (C : Addr) (cl : List (Str × Addr)) (fp : List Addr), DTs (X.blk s H scope (compEnvC scope cl C X.env) fp) WN ifs t)
    (he : ∀ (s : Shared) (H : Hp) (C : Addr) (cl : List (Str × Addr)) (fp : List Addr), DE (X.blk s H scope (compEnvC scope cl C X.env) fp) WN elt f) (hs : ∀ x, foldedSetIterable iter X.env x = pure x := by intro _; rfl) :
    PS X (.Assign [.Name y py] (.ListComp elt [⟨tg, iter, ifs, 0⟩] scope pos) spos) (tAsg (tLc (tI X.K W s) (tG X.K g (own.map (·.2))) (tT X.K WN t) (tD X.K WN f) (own.map (·.2))) (gName i)) :=
  ps_setLc hcalm hN hy hyl hsw hi ok hg ht he hs
theorem ds_setLc {X : Cx} {W : WX} {i : Nat} {y : Str} {py : Pos} {elt tg iter : Expr} {ifs : List Expr} {scope : Scope} {own : List (Str × Nat)} {pos spos : Pos} {s : DEnv → R (List D)} {g : Tg} {t : DEnv → R Bool} {f : DEnv → R D} {vs : List Nat}
    (hcalm : X.calm = true) (hN : X.N.Nodup) (hy : X.N[i]? = some y) (hyl : X.env.scope.names.lookup y = some .local) (hsw : swapsWith (.ListComp elt [⟨tg, iter, ifs, 0⟩] scope pos) (some (.Name y py)) spos.line X.env = pure true) (hi : DI X W tg iter s) (ok : BlkOk X.N X.env.scope scope own) (hvs : own.map (·.2) = vs)
    (hg : ∀ (s : Shared) (H : Hp) (C : Addr) (cl : List (Str × Addr)) (fp : List Addr), DG (X.blk s H scope (compEnvC scope cl C X.env) fp) tg g vs)
    (ht : ∀ (s : Shared) (H : Hp) (C : Addr) (cl : List (Str × Addr)) (fp : List Addr), DTs (X.blk s H scope (compEnvC scope cl C X.env) fp) WN ifs t)
    (he : ∀ (s : Shared) (H : Hp) (C : Addr) (cl : List (Str × Addr)) (fp : List Addr), DE (X.blk s H scope (compEnvC scope cl C X.env) fp) WN elt f) (hs : ∀ x, foldedSetIterable iter X.env x = pure x := by intro _; rfl) :
    DS X W (.Assign [.Name y py] (.ListComp elt [⟨tg, iter, ifs, 0⟩] scope pos) spos) (dSet i (dLc s g t f vs)) := by
  subst hvs
  exact ps_imp (ps_lc0 hcalm hN hy hyl hsw hi ok hg ht he hs) (tset fun σ H Q h => tlc_of σ H Q (tfresh dLc_lst σ H Q h))
theorem ds_setLcF {X : Cx} {W : WX} {i : Nat} {y : Str} {py : Pos} {elt tg iter : Expr} {ifs : List Expr} {scope : Scope} {own : List (Str × Nat)} {pos spos : Pos} {s : DEnv → R (List D)} {g : Tg} {t : DEnv → R Bool} {f : DEnv → R D} {vs : List Nat}
    (hcalm : X.calm = true) (hN : X.N.Nodup) (hy : X.N[i]? = some y) (hyl : X.env.scope.names.lookup y = some .local) (hsw : swapsWith (.ListComp elt [⟨tg, iter, ifs, 0⟩] scope pos) (some (.Name y py)) spos.line X.env = pure true) (hi : DI X W tg iter s) (ok : BlkOk X.N X.env.scope scope own) (hvs : own.map (·.2) = vs)
    (hg : ∀ (s : Shared) (H : Hp) (C : Addr) (cl : List (Str × Addr)) (fp : List Addr), DG (X.blk s H scope (compEnvC scope cl C X.env) fp) tg g vs)
    (ht : ∀ (s : Shared) (H : Hp) (C : Addr) (cl : List (Str × Addr)) (fp : List Addr), DTs (X.blk s H scope (compEnvC scope cl C X.env) fp) WN ifs t)
    (he : ∀ (s : Shared) (H : Hp) (C : Addr) (cl : List (Str × Addr)) (fp : List Addr), DE (X.blk s H scope (compEnvC scope cl C X.env) fp) WN elt f) (hs : ∀ x, foldedSetIterable iter X.env x = pure x := by intro _; rfl) :
    DS X W (.Assign [.Name y py] (.ListComp elt [⟨tg, iter, ifs, 0⟩] scope pos) spos) (dSetF i (dLc s g t f vs)) := by
  subst hvs
  exact ps_imp (ps_lc0 hcalm hN hy hyl hsw hi ok hg ht he hs) (tsetF tlc_of)
end DF

namespace DF
open PySem PySem.Spec PyProof.Rows L2
section
variable {X : Cx}
/-! ### whole numbers -/
def CDivG (i j : Int) : Prop := j ≠ 0 ∧ j.natAbs.log2 < 9000
theorem op_fdivG : OpR X (binaryOp .FloorDiv) (rI CDivG fun i j => .int (i.fdiv j)) := opI fun _ _ _ _ _ _ _ hc q => floordiv_int hc.1 q (.inl (PyProof.noPylong_of_log2 hc.2))
def CPowG (i j : Int) : Prop := 0 ≤ j ∧ (Builtin.Int.intBits i : Int) * j ≤ 2 ^ 27
theorem op_powG : OpR X (binaryOp .Pow) (rI CPowG fun i j => .int (i ^ j.toNat)) := opI fun _ _ _ _ _ _ _ hc q => pow_int hc.1 hc.2 q
end
variable {K : PySem.W.Frag}
def i2 (g : Int → Int → Option D) (x y : D) : Option D := match x, y with
  | .int i, .int j => g i j
  | _, _ => none
theorem i2_of {g : Int → Int → Option D} {x y z : D} (h : i2 g x y = some z) : ∃ i j, x = .int i ∧ y = .int j ∧ g i j = some z := by
  unfold i2 at h
  split at h
  · exact ⟨_, _, rfl, rfl, h⟩
  · cases h
theorem ops_i0 {g : Int → Int → Int} : OpS K (rI0 fun i j => .int (g i j)) (i2 fun i j => some (.int (g i j))) := fun x y z v u G H Q eS hx hy e k => by
  obtain ⟨i, j, rfl, rfl, e⟩ := i2_of e
  cases e
  cases hx
  cases hy
  exact ⟨i, j, rfl, rfl, k _ G H (New.refl eS) (.int _)⟩
theorem ops_b0 {g : Int → Int → Bool} : OpS K (rI0 fun i j => .bl (g i j)) (i2 fun i j => some (.bl (g i j))) := fun x y z v u G H Q eS hx hy e k => by
  obtain ⟨i, j, rfl, rfl, e⟩ := i2_of e
  cases e
  cases hx
  cases hy
  exact ⟨i, j, rfl, rfl, k _ G H (New.refl eS) (.bl _)⟩
theorem ops_ic {C : Int → Int → Prop} {g : Int → Int → Int} {c : Int → Int → Bool} (hc : ∀ i j, c i j = true → C i j) : OpS K (rI C fun i j => .int (g i j)) (i2 fun i j => if c i j = true then some (.int (g i j)) else none) := fun x y z v u G H Q eS hx hy e k => by
  obtain ⟨i, j, rfl, rfl, e'⟩ := i2_of e
  clear e
  cases hx
  cases hy
  split at e'
  · rename_i h
    cases e'
    exact ⟨i, j, rfl, rfl, hc i j h, k _ G H (New.refl eS) (.int _)⟩
  · cases e'
/-- what is found by the first that has a word -/
def orD (g g' : D → D → Option D) (x y : D) : Option D := match g x y with
  | some z => some z
  | none => g' x y
theorem ops_or {r r' : R2} {g g' : D → D → Option D} (h : OpS K r g) (h' : OpS K r' g') : OpS K (fun x y H Q => r x y H Q ∨ r' x y H Q) (orD g g') := fun x y z v u G H Q eS hx hy e k => by
  unfold orD at e
  cases q : g x y with
  | some w =>
    rw [q] at e
    cases e
    exact .inl (h x y _ v u G H Q eS hx hy q k)
  | none =>
    rw [q] at e
    exact .inr (h' x y z v u G H Q eS hx hy e k)
def cDiv (_ j : Int) : Bool := decide (j ≠ 0) && decide (j.natAbs.log2 < 9000)
theorem cDiv_ok {i j : Int} (h : cDiv i j = true) : CDivG i j := by
  unfold cDiv at h
  rw [Bool.and_eq_true, decide_eq_true_eq, decide_eq_true_eq] at h
  exact h
def cMul (i j : Int) : Bool := decide (i.natAbs.log2 + j.natAbs.log2 < 1000000)
def cPow (i j : Int) : Bool := decide (0 ≤ j) && decide ((Builtin.Int.intBits i : Int) * j ≤ 2 ^ 27)
theorem cPow_ok {i j : Int} (h : cPow i j = true) : CPowG i j := by
  unfold cPow at h
  rw [Bool.and_eq_true, decide_eq_true_eq, decide_eq_true_eq] at h
  exact h
def addI : D → D → Option D := i2 fun i j => some (.int (i + j))
def subD : D → D → Option D := i2 fun i j => some (.int (i - j))
def mulI : D → D → Option D := i2 fun i j => if cMul i j = true then some (.int (i * j)) else none
def divD : D → D → Option D := i2 fun i j => if cDiv i j = true then some (.int (i.fdiv j)) else none
def modD : D → D → Option D := i2 fun i j => if decide (j ≠ 0) = true then some (.int (i.fmod j)) else none
def powD : D → D → Option D := i2 fun i j => if cPow i j = true then some (.int (i ^ j.toNat)) else none
def ltD : D → D → Option D := i2 fun i j => some (.bl (decide (i < j)))
def leD : D → D → Option D := i2 fun i j => some (.bl (decide (i ≤ j)))
def gtD : D → D → Option D := i2 fun i j => some (.bl (decide (j < i)))
def geD : D → D → Option D := i2 fun i j => some (.bl (decide (j ≤ i)))
/-! ### lists and tuples together -/
def catL (x y : D) : Option D := match x, y with
  | .lst l, .lst m => if l.length + m.length ≤ 16000000 then some (.lst (l ++ m)) else none
  | _, _ => none
theorem ops_catL : OpS K rCat catL := fun x y z v u G H Q eS hx hy e k => by
  unfold catL at e
  split at e
  · rename_i l m
    obtain ⟨a, xs, rfl, h1, h2⟩ := hx
    obtain ⟨b, ys, rfl, h3, h4⟩ := hy
    split at e
    · rename_i hl
      cases e
      refine ⟨a, b, xs, ys, rfl, rfl, h1, h3, by rw [← h2.length, ← h4.length, sizeLine_eq]; omega, fun p hp => ?_⟩
      have N : New G H (upd G p (.lst (xs ++ ys))) (upd H p (.lst (xs ++ ys))) := New.put eS hp
      exact k _ _ _ N (.lst upd_same ((h2.append h4).mono N.g))
    · cases e
  · cases e
def catT (x y : D) : Option D := match x, y with
  | .tup l, .tup m => if l.length + m.length ≤ 16000000 then some (.tup (l ++ m)) else none
  | _, _ => none
theorem ops_catT : OpS K (rCatA K) catT := fun x y z v u G H Q eS hx hy e k => by
  unfold catT at e
  split at e
  · rename_i l m
    cases hx with
    | @tup l a xs h1 h2 =>
      cases hy with
      | @tup m b ys h3 h4 =>
        split at e
        · rename_i hl
          cases e
          refine ⟨a, b, xs, ys, rfl, rfl, Evl.ex_t eS h1, Evl.ex_t eS h3, by rw [← h2.length, ← h4.length, sizeLine_eq]; omega, fun z => ?_, fun z1 z2 => ?_, fun z1 z2 p hp => ?_⟩
          · subst z
            cases h2
            exact k _ G H (New.refl eS) (.tup h3 h4)
          · subst z2
            cases h4
            rw [List.append_nil] at *
            exact k _ G H (New.refl eS) (.tup h1 h2)
          · have N : New G H (upd G p (.tup (xs ++ ys))) (upd H p (.tup (xs ++ ys))) := New.put eS hp
            exact k _ _ _ N (.tup (Evl.st_of upd_same) ((h2.append h4).mono N.g))
        · cases e
  · cases e
def repL (x y : D) : Option D := match x, y with
  | .lst l, .int n => if n < 2 ^ 62 ∧ -(2 ^ 62) ≤ n ∧ l.length * n.toNat ≤ 16000000 then some (.lst (List.replicate n.toNat l).flatten) else none
  | _, _ => none
theorem ops_repL : OpS K rRep repL := fun x y z v u G H Q eS hx hy e k => by
  unfold repL at e
  split at e
  · rename_i l n
    obtain ⟨a, xs, rfl, h1, h2⟩ := hx
    cases hy
    split at e
    · rename_i hl
      cases e
      refine ⟨a, n, xs, rfl, rfl, h1, by omega, by omega, by rw [← h2.length, sizeLine_eq]; omega, fun p hp => ?_⟩
      have N : New G H (upd G p (.lst (List.replicate n.toNat xs).flatten)) (upd H p (.lst (List.replicate n.toNat xs).flatten)) := New.put eS hp
      exact k _ _ _ N (.lst upd_same ((h2.rep _).mono N.g))
    · cases e
  · cases e
def repT (x y : D) : Option D := match x, y with
  | .tup l, .int n => if 2 ≤ n ∧ n ≤ 1000 ∧ l.length ≤ 1000 ∧ l.length ≠ 0 then some (.tup (List.replicate n.toNat l).flatten) else none
  | _, _ => none
theorem ops_repT : OpS K (rRepT K) repT := fun x y z v u G H Q eS hx hy e k => by
  unfold repT at e
  split at e
  · rename_i l n
    cases hx with
    | @tup l a xs h1 h2 =>
      cases hy
      split at e
      · rename_i hl
        cases e
        obtain ⟨hl1, hl2, hl3, hl4⟩ := hl
        refine ⟨a, n, xs, rfl, rfl, Evl.ex_t eS h1, fun z => ?_, hl1, hl2, by rw [← h2.length]; exact hl3, fun p hp => ?_⟩
        · rw [h2.length, z] at hl4; exact hl4 rfl
        · have N : New G H (upd G p (.tup (List.replicate n.toNat xs).flatten)) (upd H p (.tup (List.replicate n.toNat xs).flatten)) := New.put eS hp
          exact k _ _ _ N (.tup (Evl.st_of upd_same) ((h2.rep _).mono N.g))
      · cases e
  · cases e
/-! ### equality -/
mutual
def toP : D → Option PyData
  | .non => some .none
  | .bl b => some (.bool b)
  | .int i => some (.int i)
  | .str x => some (.str x)
  | .lst l => (toPs l).map .list
  | .fro l => (toPs l).map .list
  | .tup l => (toPs l).map .tuple
  | .dic _ => none
  | .obj _ _ => none
def toPs : List D → Option (List PyData)
  | [] => some []
  | d :: l => match toP d with
    | none => none
    | some p => (toPs l).map (p :: ·)
end
section
variable {G H : Hp}
mutual
theorem dp_of (eS : Evl.Ex G H) : ∀ {d : D} {v : V} {p : PyData}, Is K G d v → toP d = some p → Dp K H v p
  | _, _, _, .non, e => by cases e; exact .non
  | _, _, _, .bl b, e => by cases e; exact .bl b
  | _, _, _, .int i, e => by cases e; exact .int i
  | _, _, _, .str x, e => by cases e; exact .str x
  | .lst l, _, p, .lst h r, e => by
    unfold toP at e
    cases q : toPs l with
    | none => rw [q] at e; cases e
    | some ps => rw [q] at e; cases e; exact .lst (Evl.sq_of (eS _ _ h)) (dps_of eS r q)
  | .fro l, _, p, .fro h r, e => by
    unfold toP at e
    cases q : toPs l with
    | none => rw [q] at e; cases e
    | some ps => rw [q] at e; cases e; exact .lst (Evl.ex_l eS h) (dps_of eS r q)
  | .tup l, _, p, .tup h r, e => by
    unfold toP at e
    cases q : toPs l with
    | none => rw [q] at e; cases e
    | some ps => rw [q] at e; cases e; exact .tup (Evl.ex_t eS h) (dps_of eS r q)
  | .dic l, _, p, .dic h r, e => by unfold toP at e; cases e
  | .obj c fs, _, p, .obj h n r, e => by unfold toP at e; cases e
theorem dps_of (eS : Evl.Ex G H) : ∀ {l : List D} {xs : List V} {ps : List PyData}, Iss K G l xs → toPs l = some ps → DpAll K H xs ps
  | _, _, _, .nil, e => by unfold toPs at e; cases e; exact .nil
  | d :: l, _, ps, .cons h r, e => by
    unfold toPs at e
    cases q : toP d with
    | none => rw [q] at e; cases e
    | some p =>
      rw [q] at e
      cases q2 : toPs l with
      | none => rw [q2] at e; cases e
      | some ps' => rw [q2] at e; cases e; exact .cons (dp_of eS h q) (dps_of eS r q2)
end
theorem dp_top (eS : Evl.Ex G H) {d : D} {v : V} {p : PyData} (h : Top K G H d v) (e : toP d = some p) : Dp K H v p := dp_of (fun _ _ q => q) (h.is eS fun l z => by subst z; unfold toP at e; cases e) e
end
def eqP (x y : D) : Option Bool := match toP x, toP y with
  | some p, some q => if SeqAt.shaped p = true ∧ SeqAt.shaped q = true then some (p.eqv q) else none
  | _, _ => none
def eqD1 (x y : D) : Option D := (eqP x y).map .bl
def neD1 (x y : D) : Option D := (eqP x y).map fun b => .bl (!b)
theorem eqP_of {x y : D} {b : Bool} (h : eqP x y = some b) : ∃ p q, toP x = some p ∧ toP y = some q ∧ SeqAt.shaped p = true ∧ SeqAt.shaped q = true ∧ b = p.eqv q := by
  unfold eqP at h
  split at h
  · rename_i p q e1 e2
    split at h
    · rename_i hs
      cases h
      exact ⟨p, q, e1, e2, hs.1, hs.2, rfl⟩
    · cases h
  · cases h
theorem ops_eq1 : OpS K (rEqD K) eqD1 := fun x y z v u G H Q eS hx hy e k => by
  unfold eqD1 at e
  cases q : eqP x y with
  | none => rw [q] at e; cases e
  | some b =>
    rw [q] at e
    cases e
    obtain ⟨p, r, e1, e2, s1, s2, rfl⟩ := eqP_of q
    exact ⟨p, r, dp_top eS hx e1, dp_top eS hy e2, s1, s2, k _ G H (New.refl eS) (.bl _)⟩
theorem ops_ne1 : OpS K (rNeD K) neD1 := fun x y z v u G H Q eS hx hy e k => by
  unfold neD1 at e
  cases q : eqP x y with
  | none => rw [q] at e; cases e
  | some b =>
    rw [q] at e
    cases e
    obtain ⟨p, r, e1, e2, s1, s2, rfl⟩ := eqP_of q
    exact ⟨p, r, dp_top eS hx e1, dp_top eS hy e2, s1, s2, k _ G H (New.refl eS) (.bl _)⟩
/-! ### built-in functions -/
def lenD (xs : List D) : Option D := match xs with
  | [.lst l] => some (.int l.length)
  | [.fro l] => some (.int l.length)
  | [.tup l] => some (.int l.length)
  | _ => none
theorem tops1 {G H : Hp} {d : D} {vs : List V} (h : Tops K G H [d] vs) : ∃ v, vs = [v] ∧ Top K G H d v := by
  cases h with
  | cons h r => cases r; exact ⟨_, rfl, h⟩
theorem tops2 {G H : Hp} {d e : D} {vs : List V} (h : Tops K G H [d, e] vs) : ∃ v u, vs = [v, u] ∧ Top K G H d v ∧ Top K G H e u := by
  cases h with
  | cons h r => cases r with | cons h2 r2 => cases r2; exact ⟨_, _, rfl, h, h2⟩
def rLen (K : PySem.W.Frag) : List V → Hp → VK → Prop := fun xs H Q => ∃ p ys, xs = [.ref p] ∧ (SqL K H p ys ∨ SqT K H p ys) ∧ Q (.int ys.length) H
theorem cas_len : CaS K (rLen K) lenD := fun xs z vs G H Q eS hx e k => by
  unfold lenD at e
  split at e
  · obtain ⟨v, rfl, a, ys, rfl, h1, h2⟩ := tops1 hx
    cases e
    exact ⟨a, ys, rfl, .inl (Evl.sq_of h1), k _ G H (New.refl eS) (by rw [h2.length]; exact .int _)⟩
  · obtain ⟨v, rfl, h⟩ := tops1 hx
    cases e
    cases h with
    | fro h1 h2 => exact ⟨_, _, rfl, .inl (Evl.ex_l eS h1), k _ G H (New.refl eS) (by rw [h2.length]; exact .int _)⟩
  · obtain ⟨v, rfl, h⟩ := tops1 hx
    cases e
    cases h with
    | tup h1 h2 => exact ⟨_, _, rfl, .inr (Evl.ex_t eS h1), k _ G H (New.refl eS) (by rw [h2.length]; exact .int _)⟩
  · cases e
def absD (xs : List D) : Option D := match xs with
  | [.int i] => some (.int (if i < 0 then -i else i))
  | _ => none
def rAbs : List V → Hp → VK → Prop := fun xs H Q => ∃ i, xs = [.int i] ∧ Q (.int (if i < 0 then -i else i)) H
theorem cas_abs : CaS K rAbs absD := fun xs z vs G H Q eS hx e k => by
  unfold absD at e
  split at e
  · obtain ⟨v, rfl, h⟩ := tops1 hx
    cases h; cases e
    exact ⟨_, rfl, k _ G H (New.refl eS) (.int _)⟩
  · cases e
def intD (xs : List D) : Option D := match xs with
  | [.int i] => some (.int i)
  | [.bl b] => some (.int (if b then 1 else 0))
  | _ => none
def rInt1 : List V → Hp → VK → Prop := fun xs H Q => (∃ i, xs = [.int i] ∧ Q (.int i) H) ∨ ∃ k, xs = [.bl k] ∧ Q (.int (if k then 1 else 0)) H
theorem cas_int : CaS K rInt1 intD := fun xs z vs G H Q eS hx e k => by
  unfold intD at e
  split at e
  · obtain ⟨v, rfl, h⟩ := tops1 hx
    cases h; cases e
    exact .inl ⟨_, rfl, k _ G H (New.refl eS) (.int _)⟩
  · obtain ⟨v, rfl, h⟩ := tops1 hx
    cases h; cases e
    exact .inr ⟨_, rfl, k _ G H (New.refl eS) (.int _)⟩
  · cases e
def max2D (xs : List D) : Option D := match xs with
  | [.int i, .int j] => some (.int (if j > i then j else i))
  | _ => none
def min2D (xs : List D) : Option D := match xs with
  | [.int i, .int j] => some (.int (if j < i then j else i))
  | _ => none
def rMax2 : List V → Hp → VK → Prop := fun xs H Q => ∃ i j, xs = [.int i, .int j] ∧ Q (.int (if j > i then j else i)) H
def rMin2 : List V → Hp → VK → Prop := fun xs H Q => ∃ i j, xs = [.int i, .int j] ∧ Q (.int (if j < i then j else i)) H
theorem cas_max2 : CaS K rMax2 max2D := fun xs z vs G H Q eS hx e k => by
  unfold max2D at e
  split at e
  · obtain ⟨v, u, rfl, h1, h2⟩ := tops2 hx
    cases h1; cases h2; cases e
    exact ⟨_, _, rfl, k _ G H (New.refl eS) (.int _)⟩
  · cases e
theorem cas_min2 : CaS K rMin2 min2D := fun xs z vs G H Q eS hx e k => by
  unfold min2D at e
  split at e
  · obtain ⟨v, u, rfl, h1, h2⟩ := tops2 hx
    cases h1; cases h2; cases e
    exact ⟨_, _, rfl, k _ G H (New.refl eS) (.int _)⟩
  · cases e
def gcdD (xs : List D) : Option D := match xs with
  | [.int i, .int j] => some (.int ((Nat.gcd i.natAbs j.natAbs : Nat) : Int))
  | _ => none
theorem cas_gcd : CaS K rGcd gcdD := fun xs z vs G H Q eS hx e k => by
  unfold gcdD at e
  split at e
  · obtain ⟨v, u, rfl, h1, h2⟩ := tops2 hx
    cases h1; cases h2; cases e
    exact ⟨_, _, rfl, k _ G H (New.refl eS) (.int _)⟩
  · cases e
/-- all whole numbers, all truth values -/
def intsD : List D → Option (List Int)
  | [] => some []
  | .int i :: l => match intsD l with
    | some r => some (i :: r)
    | none => none
  | _ :: _ => none
theorem intsD_of : ∀ {l : List D} {ns : List Int}, intsD l = some ns → l = ns.map D.int
  | [], _, e => by cases e; rfl
  | .int i :: l, ns, e => by
    unfold intsD at e
    split at e
    · rename_i r q; cases e; rw [intsD_of q]; rfl
    · cases e
  | .non :: _, _, e => by cases e
  | .bl _ :: _, _, e => by cases e
  | .str _ :: _, _, e => by cases e
  | .tup _ :: _, _, e => by cases e
  | .lst _ :: _, _, e => by cases e
  | .dic _ :: _, _, e => by cases e
  | .fro _ :: _, _, e => by cases e
  | .obj _ _ :: _, _, e => by cases e
theorem intsD_map : ∀ ns : List Int, intsD (ns.map D.int) = some ns
  | [] => rfl
  | n :: r => by show (match intsD (r.map D.int) with | some r => some (n :: r) | none => none) = _; rw [intsD_map r]
def bls : List D → Option (List Bool)
  | [] => some []
  | .bl i :: l => match bls l with
    | some r => some (i :: r)
    | none => none
  | _ :: _ => none
theorem bls_of : ∀ {l : List D} {ns : List Bool}, bls l = some ns → l = ns.map D.bl
  | [], _, e => by cases e; rfl
  | .bl i :: l, ns, e => by
    unfold bls at e
    split at e
    · rename_i r q; cases e; rw [bls_of q]; rfl
    · cases e
  | .non :: _, _, e => by cases e
  | .int _ :: _, _, e => by cases e
  | .str _ :: _, _, e => by cases e
  | .tup _ :: _, _, e => by cases e
  | .lst _ :: _, _, e => by cases e
  | .dic _ :: _, _, e => by cases e
  | .fro _ :: _, _, e => by cases e
  | .obj _ _ :: _, _, e => by cases e
theorem bls_map : ∀ ns : List Bool, bls (ns.map D.bl) = some ns
  | [] => rfl
  | n :: r => by show (match bls (r.map D.bl) with | some r => some (n :: r) | none => none) = _; rw [bls_map r]
def listOf (d : D) : Option (List D) := match d with
  | .lst l => some l
  | .fro l => some l
  | _ => none
theorem listOf_top {G H : Hp} {d : D} {l : List D} {v : V} (eS : Evl.Ex G H) (h : Top K G H d v) (e : listOf d = some l) : ∃ a xs, v = .ref a ∧ SqL K H a xs ∧ Iss K G l xs := by
  cases d with
  | lst m => cases e; obtain ⟨a, xs, rfl, h1, h2⟩ := h; exact ⟨a, xs, rfl, Evl.sq_of h1, h2⟩
  | fro m => cases e; cases h with | fro h1 h2 => exact ⟨_, _, rfl, Evl.ex_l eS h1, h2⟩
  | _ => cases e
def sumD (xs : List D) : Option D := match xs with
  | [d] => match listOf d with
    | some l => (intsD l).map fun ns => .int ns.sum
    | none => none
  | _ => none
theorem cas_sum : CaS K (rSum K) sumD := fun xs z vs G H Q eS hx e k => by
  unfold sumD at e
  split at e
  · rename_i d
    split at e
    · rename_i l e1
      obtain ⟨v, rfl, h⟩ := tops1 hx
      obtain ⟨a, ys, rfl, h1, h2⟩ := listOf_top eS h e1
      cases q : intsD l with
      | none => rw [q] at e; cases e
      | some ns =>
        rw [q] at e; cases e
        rw [intsD_of q] at h2
        exact ⟨a, ns, rfl, by rw [← h2.ints]; exact h1, k _ G H (New.refl eS) (.int _)⟩
    · cases e
  · cases e
def allD (xs : List D) : Option D := match xs with
  | [d] => match listOf d with
    | some l => (bls l).map fun ns => .bl (ns.all id)
    | none => none
  | _ => none
theorem cas_all : CaS K (rAll K) allD := fun xs z vs G H Q eS hx e k => by
  unfold allD at e
  split at e
  · rename_i d
    split at e
    · rename_i l e1
      obtain ⟨v, rfl, h⟩ := tops1 hx
      obtain ⟨a, ys, rfl, h1, h2⟩ := listOf_top eS h e1
      cases q : bls l with
      | none => rw [q] at e; cases e
      | some ns =>
        rw [q] at e; cases e
        rw [bls_of q] at h2
        exact ⟨a, ns, rfl, by rw [← h2.bls]; exact h1, k _ G H (New.refl eS) (.bl _)⟩
    · cases e
  · cases e
def anyD (xs : List D) : Option D := match xs with
  | [d] => match listOf d with
    | some l => (bls l).map fun ns => .bl (ns.any id)
    | none => none
  | _ => none
theorem cas_any : CaS K (rAny K) anyD := fun xs z vs G H Q eS hx e k => by
  unfold anyD at e
  split at e
  · rename_i d
    split at e
    · rename_i l e1
      obtain ⟨v, rfl, h⟩ := tops1 hx
      obtain ⟨a, ys, rfl, h1, h2⟩ := listOf_top eS h e1
      cases q : bls l with
      | none => rw [q] at e; cases e
      | some ns =>
        rw [q] at e; cases e
        rw [bls_of q] at h2
        exact ⟨a, ns, rfl, by rw [← h2.bls]; exact h1, k _ G H (New.refl eS) (.bl _)⟩
    · cases e
  · cases e
/-- tuple(xs) -/
def tupD (xs : List D) : Option D := match xs with
  | [.lst l] => some (.tup l)
  | [.fro l] => some (.tup l)
  | [.tup l] => some (.tup l)
  | _ => none
def rTupOf (K : PySem.W.Frag) : List V → Hp → VK → Prop := fun xs H Q => ∃ p ys, xs = [.ref p] ∧ ((SqL K H p ys ∧ ∀ l, H l = none → Q (.ref l) (upd H l (.tup ys))) ∨ (SqT K H p ys ∧ Q (.ref p) H))
theorem cas_tup : CaS K (rTupOf K) tupD := fun xs z vs G H Q eS hx e k => by
  have go : ∀ {l : List D} {ys : List V}, Iss K G l ys → z = .tup l → ∀ p, H p = none → Q (.ref p) (upd H p (.tup ys)) := fun {l ys} r ez p hp => by
    subst ez
    have N : New G H (upd G p (.tup ys)) (upd H p (.tup ys)) := New.put eS hp
    exact k _ _ _ N (.tup (Evl.st_of upd_same) (r.mono N.g))
  unfold tupD at e
  split at e
  · obtain ⟨v, rfl, a, ys, rfl, h1, h2⟩ := tops1 hx
    cases e
    exact ⟨a, ys, rfl, .inl ⟨Evl.sq_of h1, go h2 rfl⟩⟩
  · obtain ⟨v, rfl, h⟩ := tops1 hx
    cases e
    cases h with
    | fro h1 h2 => exact ⟨_, _, rfl, .inl ⟨Evl.ex_l eS h1, go h2 rfl⟩⟩
  · obtain ⟨v, rfl, h⟩ := tops1 hx
    cases e
    cases h with
    | tup h1 h2 => exact ⟨_, _, rfl, .inr ⟨Evl.ex_t eS h1, k _ G H (New.refl eS) (.tup h1 h2)⟩⟩
  · cases e
end DF

namespace DF
open PySem PySem.Spec PyProof.Rows L2
/-! ### isinstance(x, T), T a built-in type -/
def tyN : D → String
  | .non => "NoneType" | .bl _ => "bool" | .int _ => "int" | .str _ => "str" | .tup _ => "tuple" | .lst _ => "list" | .dic _ => "dict" | .fro _ => "list" | .obj _ _ => ""
theorem tyX_of {K : PySem.W.Frag} {G H : Hp} {d : D} {v : V} (eS : Evl.Ex G H) (h : Top K G H d v) (hn : ∀ c fs, d ≠ .obj c fs) : TyX K H v (.type (tyN d)) := by
  cases d with
  | non => cases h; exact .base .non
  | bl b => cases h; exact .base (.bl b)
  | int i => cases h; exact .base (.int i)
  | str x => cases h; exact .base (.str x)
  | obj c fs => exact absurd rfl (hn c fs)
  | tup l =>
    cases h with
    | tup h r =>
      rcases Evl.ex_t eS h with (h | ⟨o, h⟩) | ⟨o, its, n, h1, h2, _⟩
      · exact .base (.tup h)
      · exact .fTuple h
      · exact .kTuple h1 h2
  | lst l => obtain ⟨a, xs, rfl, h1, h2⟩ := h; exact .base (.lst h1)
  | dic l =>
    obtain ⟨a, xs, rfl, h1 | ⟨o, h1⟩, h2⟩ := h
    · exact .base (.dK h1)
    · exact .fDict h1
  | fro l =>
    cases h with
    | fro h r =>
      rcases Evl.ex_l eS h with (h | ⟨o, h⟩) | ⟨o, its, n, h1, h2, _⟩
      · exact .base (.lst h)
      · exact .base (.frz h)
      · exact .kList h1 h2
def isiD (n : String) (d : D) : Option D := match d with
  | .obj _ _ => none
  | d => (kitB (tyN d) n).map .bl
def dIsi (n : String) (f : DEnv → R Th) : DEnv → R D := fun ρ => (f ρ).bind fun t ρ1 => match t ρ1 with
  | some d => ofO ρ1 (isiD n d)
  | none => .no
theorem de_isi {X : Cx} {W : WX} {a c : Expr} {f : DEnv → R Th} {n : String} {p pos : Pos} (ha : DO X W a f) (hc : PE X c (tC (.ty n))) (hg : Gl X "isinstance") (hm : X.mg "isinstance" = none) (hv : bootBuiltins "isinstance" = some (.builtin "isinstance"))
    (h1 : starEach [a, c] X.env = (false, eval a X.env) :: starEach [c] X.env := by rfl) (h2 : starEach [c] X.env = (false, eval c X.env) :: starEach [] X.env := by rfl) (hpl : (backTo pos (starEach [c] X.env)).any (·.1) = false := by rfl) :
    DE X W (.Call (.Name "isinstance" p) [a, c] [] pos) (dIsi n f) :=
  pe_imp (pe_callB (x := "isinstance") call_isi hg hm hv (pa_cons ha (pa_cons hc pa_nil h2) h1) (by decide) (by decide) h1 hpl) fun σ H Q ⟨ρ, G, R, h⟩ => ⟨ρ, G, R, (Go.bind R h).imp fun t ρ1 G1 H1 s1 R1 h1 v hv => by
    split at h1
    · rename_i d e1
      by_cases hn : ∃ c fs, d = .obj c fs
      · obtain ⟨c, fs, rfl⟩ := hn
        exact False.elim h1
      · have hn : ∀ c fs, d ≠ .obj c fs := fun c fs z => hn ⟨c, fs, z⟩
        have hi : isiD n d = (kitB (tyN d) n).map .bl := by
          cases d with
          | obj c fs => exact absurd rfl (hn c fs)
          | _ => rfl
        rw [hi] at h1
        cases e2 : kitB (tyN d) n with
        | none => rw [e2] at h1; exact False.elim h1
        | some b =>
          rw [e2] at h1
          exact ⟨v, .ty n, _, _, b, rfl, .ty n, tyX_of R1.sub (hv ρ1 G1 H1 d .refl R1 e1) hn, kit_ty e2, h1 G1 H1 .refl R1 _ (.bl b)⟩
    · exact False.elim h1⟩
/-! ### repr of a truth value, of a whole number -/
def rprD (xs : List D) : Option D := match xs with
  | [.bl b] => some (.str (if b then "True" else "False"))
  | [.int i] => if i.natAbs.log2 < 1920 then some (.str (toString i)) else none
  | _ => none
def rRpr : List V → Hp → VK → Prop := fun xs H Q => (∃ b, xs = [.bl b] ∧ Q (.str (if b then "True" else "False")) H) ∨ ∃ i, xs = [.int i] ∧ i.natAbs.log2 < 1920 ∧ Q (.str (toString i)) H
theorem call_rpr {X : Cx} : CallR X (.builtin "repr") rRpr := by
  intro pins s σ H xs us Q I r h
  rcases h with ⟨b, rfl, q⟩ | ⟨i, rfl, hz, q⟩
  · obtain ⟨u, rfl, r1⟩ := vals1 r
    cases r1
    exact PySem.P.repr_of_bool ⟨.str _, H, I.tok _, ⟨_, rfl⟩, q⟩
  · obtain ⟨u, rfl, t, rfl⟩ := vals1 r
    exact PySem.P.repr_of_int hz ⟨.str _, H, I.tok _, ⟨_, rfl⟩, q⟩
theorem cas_rpr {K : PySem.W.Frag} : CaS K rRpr rprD := fun xs z vs G H Q eS hx e k => by
  unfold rprD at e
  split at e
  · obtain ⟨v, rfl, h⟩ := tops1 hx
    cases h; cases e
    exact .inl ⟨_, rfl, k _ G H (New.refl eS) (.str _)⟩
  · obtain ⟨v, rfl, h⟩ := tops1 hx
    cases h
    split at e
    · rename_i hz
      cases e
      exact .inr ⟨_, rfl, hz, k _ G H (New.refl eS) (.str _)⟩
    · cases e
  · cases e
/-! ### isqrt -/
def sqrtD (xs : List D) : Option D := match xs with
  | [.int i] => if 0 ≤ i ∧ i < 2 ^ 64 then some (.int ((Float64.isqrt i.toNat : Nat) : Int)) else none
  | _ => none
def rSqrt : List V → Hp → VK → Prop := fun xs H Q => ∃ i, xs = [.int i] ∧ 0 ≤ i ∧ i < 2 ^ 64 ∧ Q (.int ((Float64.isqrt i.toNat : Nat) : Int)) H
theorem call_sqrt {X : Cx} : CallR X (.builtin "math.isqrt") rSqrt := by
  intro pins s σ H xs us Q I r h
  obtain ⟨i, rfl, h0, h1, q⟩ := h
  obtain ⟨u, rfl, t, rfl⟩ := vals1 r
  exact PySem.W.mg_isqrt h0 h1 ⟨.int _, H, I.tok _, ⟨_, rfl⟩, q⟩
theorem cas_sqrt {K : PySem.W.Frag} : CaS K rSqrt sqrtD := fun xs z vs G H Q eS hx e k => by
  unfold sqrtD at e
  split at e
  · obtain ⟨v, rfl, h⟩ := tops1 hx
    cases h
    split at e
    · rename_i hz
      cases e
      exact ⟨_, rfl, hz.1, hz.2, k _ G H (New.refl eS) (.int _)⟩
    · cases e
  · cases e
/-! ### a, b = x, y -/
def set2 (i j : Nat) (d e : D) (ρ : DEnv) : Option DEnv := match setV i d ρ with
  | none => none
  | some ρ1 => setV j e ρ1
def dPar (i j : Nat) (f : DEnv → R (List D)) : DEnv → SR := fun ρ => (f ρ).bindS fun l ρ' => match l with
  | [d, e] => match set2 i j d e ρ' with
    | none => .no
    | some ρ2 => .nx ρ2
  | _ => .no
theorem ds_par {X : Cx} {W : WX} {i j : Nat} {x y : Str} {a b : Expr} {f : DEnv → R (List D)} {px py pt pos : Pos} {kt k2 pt2} (hc : X.calm = true) (hN : X.N.Nodup) (hi : X.N[i]? = some x) (hj : X.N[j]? = some y) (hij : i ≠ j)
    (hx : X.env.scope.names.lookup x = some .local) (hy : X.env.scope.names.lookup y = some .local) (ha : DVs X W [a, b] f)
    (hw : swappedStores [.Tuple [.Name x px, .Name y py] kt pt] (.Tuple [a, b] k2 pt2) X.env = pure (some [x, y]))
    (hs : swapsWithSole [.Tuple [.Name x px, .Name y py] kt pt] (.Tuple [a, b] k2 pt2) pos.line X.env = pure false := by rfl) :
    DS X W (.Assign [.Tuple [.Name x px, .Name y py] kt pt] (.Tuple [a, b] k2 pt2) pos) (dPar i j f) :=
  ps_imp (ps_par hc hN hi hj hij hx hy ha hw hs) fun E σ H ⟨ρ, G, R, h⟩ => ⟨ρ, G, R, (Go.bindS R h).imp fun l ρ' G' H' s R' h vs hv => by
    split at h
    · rename_i d e
      cases hv with
      | cons h1 h2 => cases h2 with
        | cons h3 h4 =>
          cases h4
          unfold set2 at h
          cases e1 : setV i d ρ' with
          | none => rw [e1] at h; exact False.elim h
          | some ρ1 =>
            rw [e1] at h
            dsimp only at h
            cases e2 : setV j e ρ1 with
            | none => rw [e2] at h; exact False.elim h
            | some ρ2 =>
              rw [e2] at h
              have R1 := R'.setV e1 h1
              refine ⟨_, _, rfl, ?_⟩
              exact h _ G' H' ((Stp.setV R' e1).trans R' (Stp.setV R1 e2)) (R1.setV e2 h3)
    · exact False.elim h⟩
/-! ### {} -/
def dDic0 : DEnv → R D := fun ρ => .ok ρ (.dic [])
theorem df_dic0 {X : Cx} {W : WX} {pos : Pos} : DF' X W (.Dict [] [] pos) dDic0 := pe_imp pe_dnewK fun σ H Q ⟨ρ, G, R, h⟩ p hp => by
  have N : New G H G (upd H p (.dK [])) := New.hid R.sub hp
  have no : ∀ b, ¬ Mu b ρ σ p := fun b ⟨i, d, e1, e2⟩ => by
    obtain ⟨a, e3, _, e4⟩ := R.mu i b d e1
    rw [e2] at e3; cases e3
    obtain ⟨o, ho⟩ := e4.there
    rw [hp] at ho; cases ho
  exact h _ _ (N.stp R) (N.rep R) p (sub_none R.sub hp) (no false) (no true) hp ⟨[], upd_same, .nil⟩
/-! ### what a row's text has -/
structure Has (P : Program) (w : World) (K : PySem.W.Frag) (mg : Str → Option Value) (base : Heap) (x : Str) (k : Nat) (ps : List Str) (F : Fn) : Prop where
  ex : ∃ (f : Addr) (fd : FuncData), mg x = some (.ref f) ∧ PySem.W.keepIn K (.ref f) = true ∧ Binds K fd ps [] ∧ FnG P w K mg base (L2.CX P w) k f fd ps (spD K ps.length F)
section
variable {X : Cx} {W : WX} {e : Expr} {es : List Expr} {x : Str} {p pos : Pos} {k j : Nat} {ps : List Str} {F : Fn} {f : DEnv → R (List AD)}
theorem dx_has (h : Has X.prog X.w X.K X.mg X.base x j ps F) (hr : RoomG k X.A) (hj : j ≤ k) (tk : Takes X W) (hg : Gl X x)
    (ha : DR X W (e :: es) f) (hdb : (x == ("__debug__" : Str)) = false := by decide) (he : starEach (e :: es) X.env = (false, eval e X.env) :: starEach es X.env := by rfl) (hpl : (backTo pos (starEach es X.env)).any (·.1) = false := by rfl) :
    DX X W (.Call (.Name x p) (e :: es) [] pos) (dCal2 ps.length F f) := by
  obtain ⟨fa, fd, hm, hk, hb, FO⟩ := h.ex
  exact dx_call FO (hr.mono hj) tk hg hm hk hb ha hdb he hpl
theorem dx_hasN (h : Has X.prog X.w X.K X.mg X.base x j ps F) (hr : RoomG k X.A) (hj : j ≤ k) (hg : Gl X x)
    (ha : DR X WN (e :: es) f) (hdb : (x == ("__debug__" : Str)) = false := by decide) (he : starEach (e :: es) X.env = (false, eval e X.env) :: starEach es X.env := by rfl) (hpl : (backTo pos (starEach es X.env)).any (·.1) = false := by rfl) {ar : Nat} (har : ps.length = ar := by rfl) :
    DX X WN (.Call (.Name x p) (e :: es) [] pos) (dCal2 ar F f) := by
  subst har
  obtain ⟨fa, fd, hm, hk, hb, FO⟩ := h.ex
  exact dx_callN FO (hr.mono hj) hg hm hk hb ha hdb he hpl
end
end DF

namespace DF
open PySem PySem.Spec PyProof.Rows L2
section
variable {X : Cx} {W : WX} {a b e : Expr} {es : List Expr} {x : Str} {id T : String} {p pos : Pos} {r : List V → Hp → VK → Prop} {g : List D → Option D} {f : DEnv → R (List Th)}
theorem de_callB (hc : CallR X (.builtin id) r) (hs : CaS X.K r g) (hg : Gl X x) (hm : X.mg x = none) (hv : bootBuiltins x = some (.builtin id)) (ha : DA X W (e :: es) f) (hn : x ≠ "__name__" := by decide) (hdb : (x == ("__debug__" : Str)) = false := by decide)
    (he : starEach (e :: es) X.env = (false, eval e X.env) :: starEach es X.env := by rfl) (hpl : (backTo pos (starEach es X.env)).any (·.1) = false := by rfl) : DE X W (.Call (.Name x p) (e :: es) [] pos) (dCal g f) :=
  pe_imp (pe_callB hc hg hm hv ha hn hdb he hpl) (tcal hs)
theorem de_callTy (hc : CallR X (.type T) r) (hs : CaS X.K r g) (hg : Gl X x) (hm : X.mg x = none) (hv : bootBuiltins x = some (.type T)) (ha : DA X W (e :: es) f) (hn : x ≠ "__name__" := by decide) (hdb : (x == ("__debug__" : Str)) = false := by decide)
    (he : starEach (e :: es) X.env = (false, eval e X.env) :: starEach es X.env := by rfl) (hpl : (backTo pos (starEach es X.env)).any (·.1) = false := by rfl) : DE X W (.Call (.Name x p) (e :: es) [] pos) (dCal g f) :=
  pe_imp (pe_callTy hc hg hm hv ha hn hdb he hpl) (tcal hs)
theorem de_callM (hc : CallR X (.builtin id) r) (hs : CaS X.K r g) (hg : Gl X x) (hm : X.mg x = some (.builtin id)) (ha : DA X W (e :: es) f) (hdb : (x == ("__debug__" : Str)) = false := by decide)
    (he : starEach (e :: es) X.env = (false, eval e X.env) :: starEach es X.env := by rfl) (hpl : (backTo pos (starEach es X.env)).any (·.1) = false := by rfl) : DE X W (.Call (.Name x p) (e :: es) [] pos) (dCal g f) :=
  pe_imp (pe_callBfun hc hg hm ha hdb he hpl) (tcal hs)
theorem pe_tyn (hg : Gl X x) (hm : X.mg x = none) (hv : bootBuiltins x = some (.type T)) (hn : x ≠ "__name__" := by decide) (hdb : (x == ("__debug__" : Str)) = false := by decide) : PE X (.Name x pos) (tC (.ty T)) :=
  ⟨fun pins s σ H Q I h => ld_blt I hg hm hv ⟨.ty T, H, I, rfl, h⟩ hn hdb⟩
end
/-! ### -x -/
def negD (x : D) : Option D := match x with
  | .int i => some (.int (-i))
  | _ => none
theorem uns_neg {K : PySem.W.Frag} : UnS K (rU fun i => .int (-i)) negD := fun x z v G H Q eS hx e k => by
  unfold negD at e
  split at e
  · cases hx; cases e
    exact ⟨_, rfl, k _ G H (New.refl eS) (.int _)⟩
  · cases e
/-! ### xs[:k], xs[k:] of lists -/
def cutD (l : List D) (lo hi : Option Int) : List D := (l.drop (HT.sIx l.length 0 lo)).take (HT.sIx l.length l.length hi - HT.sIx l.length 0 lo)
theorem cut_iss {K : PySem.W.Frag} {G : Hp} {l : List D} {xs : List V} {lo hi : Option Int} (h : Iss K G l xs) : Iss K G (cutD l lo hi) (cutV xs lo hi) := by
  unfold cutD cutV
  rw [← h.length]
  exact (h.drop _).take _
/-- a part of a slice: nothing, or a constant -/
structure CPart (X : Cx) (e : Option Expr) (i : Option Int) : Prop where
  h : ∃ t, PO X e t ∧ ∀ σ H Q, Q i H → t σ H Q
theorem cp_no {X : Cx} : CPart X none none := ⟨⟨_, po_none, fun _ _ _ q => q⟩⟩
theorem cp_int {X : Cx} {i : Int} {j pos} : CPart X (some (.Constant (.int i) j pos)) (some i) := ⟨⟨_, po_some pe_int, fun _ _ _ q => ⟨i, rfl, q⟩⟩⟩
def cutO (lo hi : Option Int) (x : D) : Option D := match listOf x with
  | some l => some (.lst (cutD l lo hi))
  | none => none
def dCut (lo hi : Option Int) (f : DEnv → R Th) : DEnv → R D := dUn (cutO lo hi) f
theorem de_cut {X : Cx} {W : WX} {e : Expr} {elo ehi : Option Expr} {p2 pos : Pos} {lo hi : Option Int} {f : DEnv → R Th} (h : DO X W e f) (hl : CPart X elo lo) (hu : CPart X ehi hi) : DE X W (.Subscript e (.Slice elo ehi none p2) pos) (dCut lo hi f) := by
  obtain ⟨tl, h1, h2⟩ := hl.h
  obtain ⟨tu, h3, h4⟩ := hu.h
  refine pe_imp (pe_slice sl_list h h1 h3) fun σ H Q ⟨ρ, G, R, h⟩ => ⟨ρ, G, R, (Go.bind R h).imp fun t ρ' G' H' s R' h v hv => ?_⟩
  split at h
  · rename_i d e1
    unfold cutO at h
    cases e2 : listOf d with
    | none => rw [e2] at h; exact False.elim h
    | some l =>
      rw [e2] at h
      obtain ⟨a, xs, rfl, q1, q2⟩ := listOf_top R'.sub (hv ρ' G' H' d .refl R' e1) e2
      refine h2 _ _ _ (h4 _ _ _ ⟨a, xs, rfl, q1, fun p hp => ?_⟩)
      have N : New G' H' (upd G' p (.lst (cutV xs lo hi))) (upd H' p (.lst (cutV xs lo hi))) := New.put R'.sub hp
      exact h _ _ (N.stp R') (N.rep R') _ (.lst upd_same ((cut_iss q2).mono N.g))
  · exact False.elim h
/-! ### unions -/
section
variable {X : Cx}
def addD : D → D → Option D := orD addI (orD catL catT)
def mulD : D → D → Option D := orD mulI (orD repL repT)
end
/-! ### a, b, c = x, y, z -/
def set3 (i j k : Nat) (d e u : D) (ρ : DEnv) : Option DEnv := match setV i d ρ with
  | none => none
  | some ρ1 => match setV j e ρ1 with
    | none => none
    | some ρ2 => setV k u ρ2
def dPar3 (i j k : Nat) (f : DEnv → R (List D)) : DEnv → SR := fun ρ => (f ρ).bindS fun l ρ' => match l with
  | [d, e, u] => match set3 i j k d e u ρ' with
    | none => .no
    | some ρ2 => .nx ρ2
  | _ => .no
/-! ### the fuel of a while -/
def intsOf : D → Nat
  | .int i => i.natAbs
  | .tup l => go l
  | .lst l => go l
  | .fro l => go l
  | _ => 0
where go : List D → Nat
  | [] => 0
  | .int i :: l => i.natAbs + go l
  | _ :: l => go l
def fuel (as : List (Bool × D)) : Nat := as.foldl (fun n p => n + intsOf p.2) 1000
end DF
namespace DF
open PySem PySem.Spec PyProof.Rows L2
theorem mul_ok : ∀ i j : Int, cMul i j = true → CMulW i j := fun i j h => by unfold cMul at h; rw [decide_eq_true_eq] at h; exact h
end DF

namespace DF
open PySem PySem.Spec PyProof.Rows L2
theorem hsp_of {K : PySem.W.Frag} {F : Fn} {ns : List Int} {H : Hp} {a : Addr} (hF : F [(false, .fro (ns.map D.int))] = .ret false (.bl true) []) (hS : SqL K H a (ns.map V.int)) :
    spD K 1 F [.ref a] H (fun v _ => v = .bl true) (fun _ _ _ => False) := by
  refine ⟨rfl, H, [(false, .fro (ns.map D.int))], fun _ _ e => e, .val (.fro hS (Iss.of_ints ns)) .nil, List.nodup_nil, ?_⟩
  rw [hF]
  intro v G' H' _ _ h
  cases h
  rfl
theorem cx_end {P : Program} {w : World} {H : Hp} {s : Shared} {e : Value} {s' : Shared} (h : L2.CX P w [] H s (fun _ _ _ => False) e s') : False := by
  obtain ⟨_, _, _, _, _, _, _, _, _, _, _, _, h⟩ := h
  exact h
end DF

namespace DF
open PySem PySem.Spec PyProof.Rows L2
@[simp] theorem dC_ap (d : D) (ρ : DEnv) : dC d ρ = .ok ρ d := id rfl
@[simp] theorem dVar_ap (i : Nat) (ρ : DEnv) : dVar i ρ = match ρ[i]? with
  | some (some (.val d)) => .ok ρ d
  | some (some (.mu false d)) => .ok (ρ.set i (some (.val d))) d
  | _ => .no := id rfl
@[simp] theorem oVar_ap (i : Nat) (ρ : DEnv) : oVar i ρ = match ρ[i]? with
  | some (some _) => .ok ρ (look i)
  | _ => .no := id rfl
@[simp] theorem oD_ap (f : DEnv → R D) (ρ : DEnv) : oD f ρ = (f ρ).bind fun d ρ' => .ok ρ' fun _ => some d := id rfl
@[simp] theorem aNil_ap  (ρ : DEnv) : aNil  ρ = .ok ρ [] := id rfl
@[simp] theorem aCons_ap (f : DEnv → R Th) (g : DEnv → R (List Th)) (ρ : DEnv) : aCons f g ρ = (f ρ).bind fun t ρ1 => (g ρ1).bind fun l ρ2 => .ok ρ2 (t :: l) := id rfl
@[simp] theorem vNil_ap  (ρ : DEnv) : vNil  ρ = .ok ρ [] := id rfl
@[simp] theorem vCons_ap (f : DEnv → R D) (g : DEnv → R (List D)) (ρ : DEnv) : vCons f g ρ = (f ρ).bind fun t ρ1 => (g ρ1).bind fun l ρ2 => .ok ρ2 (t :: l) := id rfl
@[simp] theorem dBin_ap (g : D → D → Option D) (fa fb : DEnv → R Th) (ρ : DEnv) : dBin g fa fb ρ = (fa ρ).bind fun ta ρ1 => (fb ρ1).bind fun tb ρ2 => match ta ρ2, tb ρ2 with
  | some x, some y => ofO ρ2 (g x y)
  | _, _ => .no := id rfl
@[simp] theorem dTst_ap (f : DEnv → R D) (ρ : DEnv) : dTst f ρ = (f ρ).bind fun d ρ' => match d with
  | .bl b => .ok ρ' b
  | _ => .no := id rfl
@[simp] theorem dUn_ap (g : D → Option D) (fa : DEnv → R Th) (ρ : DEnv) : dUn g fa ρ = (fa ρ).bind fun ta ρ1 => match ta ρ1 with
  | some x => ofO ρ1 (g x)
  | none => .no := id rfl
@[simp] theorem dCal_ap (g : List D → Option D) (f : DEnv → R (List Th)) (ρ : DEnv) : dCal g f ρ = (f ρ).bind fun l ρ1 => match ths l ρ1 with
  | some xs => ofO ρ1 (g xs)
  | none => .no := id rfl
@[simp] theorem dSeq_ap (f g : DEnv → SR) (ρ : DEnv) : dSeq f g ρ = (f ρ).bind g := id rfl
@[simp] theorem dNever_ap  (ρ : DEnv) : dNever  ρ = .no := id rfl
@[simp] theorem dIf_ap (c : DEnv → R Bool) (f g : DEnv → SR) (ρ : DEnv) : dIf c f g ρ = (c ρ).bindS fun b ρ' => match b with
  | true => f ρ'
  | false => g ρ' := id rfl
@[simp] theorem dRet_ap (f : DEnv → R D) (ρ : DEnv) : dRet f ρ = (f ρ).bindS fun d ρ' => .ret ρ' false d := id rfl
@[simp] theorem dRetF_ap (f : DEnv → R D) (ρ : DEnv) : dRetF f ρ = (f ρ).bindS fun d ρ' => .ret ρ' true d := id rfl
@[simp] theorem dRetN_ap  (ρ : DEnv) : dRetN  ρ = .ret ρ false .non := id rfl
@[simp] theorem dRetV_ap (i : Nat) (ρ : DEnv) : dRetV i ρ = match ρ[i]? with
  | some (some (.val d)) => .ret ρ false d
  | some (some (.mu false d)) => .ret ρ true d
  | _ => .no := id rfl
@[simp] theorem dExpr_ap (f : DEnv → R D) (ρ : DEnv) : dExpr f ρ = (f ρ).bindS fun _ ρ' => .nx ρ' := id rfl
@[simp] theorem dSet_ap (i : Nat) (f : DEnv → R D) (ρ : DEnv) : dSet i f ρ = (f ρ).bindS fun d ρ' => match setV i d ρ' with
  | none => .no
  | some ρ2 => .nx ρ2 := id rfl
@[simp] theorem dSetF_ap (i : Nat) (f : DEnv → R D) (ρ : DEnv) : dSetF i f ρ = match f ρ with
  | .no => .no
  | .ex ρ' e => .ex ρ' e
  | .ok ρ' d => match setF i d ρ' with
    | none => .no
    | some ρ2 => .nx ρ2 := id rfl
@[simp] theorem gsNil_ap  (ds : List D) (ρ : DEnv) : gsNil  ds ρ = match ds with
  | [] => some ρ
  | _ => none := id rfl
@[simp] theorem gsCons_ap (f : Tg) (g : List D → DEnv → Option DEnv) (ds : List D) (ρ : DEnv) : gsCons f g ds ρ = match ds with
  | [] => none
  | d :: r => match f d ρ with
    | none => none
    | some ρ1 => g r ρ1 := id rfl
@[simp] theorem gTp_ap (n : Nat) (f : List D → DEnv → Option DEnv) (d : D) (ρ : DEnv) : gTp n f d ρ = match d with
  | .tup l => if l.length = n then f l ρ else none
  | _ => none := id rfl
@[simp] theorem dAsg_ap (f : DEnv → R D) (g : Tg) (ρ : DEnv) : dAsg f g ρ = (f ρ).bindS fun d ρ' => match g d ρ' with
  | none => .no
  | some ρ2 => .nx ρ2 := id rfl
@[simp] theorem sLst_ap (f : DEnv → R D) (ρ : DEnv) : sLst f ρ = (f ρ).bind fun d ρ' => match d with
  | .lst l => .ok ρ' l
  | .fro l => .ok ρ' l
  | _ => .no := id rfl
@[simp] theorem sTup_ap (f : DEnv → R D) (ρ : DEnv) : sTup f ρ = (f ρ).bind fun d ρ' => match d with
  | .tup l => .ok ρ' l
  | _ => .no := id rfl
@[simp] theorem sRng1_ap (f : DEnv → R (List D)) (ρ : DEnv) : sRng1 f ρ = (f ρ).bind fun l ρ' => match l with
  | [.int j] => if inR j = true then .ok ρ' (rng 0 j.toNat) else .no
  | _ => .no := id rfl
@[simp] theorem sRng2_ap (f : DEnv → R (List D)) (ρ : DEnv) : sRng2 f ρ = (f ρ).bind fun l ρ' => match l with
  | [.int i, .int j] => if inR i = true then if inR j = true then .ok ρ' (rng i (j - i).toNat) else .no else .no
  | _ => .no := id rfl
@[simp] theorem dForS_ap (s : DEnv → R (List D)) (g : Tg) (b : DEnv → SR) (ρ : DEnv) : dForS s g b ρ = (s ρ).bindS fun l ρ' => dFor g b l ρ' := id rfl
@[simp] theorem dTru_ap (f : DEnv → R Th) (ρ : DEnv) : dTru f ρ = (f ρ).bind fun t ρ' => match t ρ' with
  | none => .no
  | some d => ofO ρ' (tru d) := id rfl
@[simp] theorem dAnd_ap (f g : DEnv → R Bool) (ρ : DEnv) : dAnd f g ρ = (f ρ).bind fun b ρ' => match b with
  | true => g ρ'
  | false => .ok ρ' false := id rfl
@[simp] theorem dOr_ap (f g : DEnv → R Bool) (ρ : DEnv) : dOr f g ρ = (f ρ).bind fun b ρ' => match b with
  | true => .ok ρ' true
  | false => g ρ' := id rfl
@[simp] theorem dNot_ap (f : DEnv → R Bool) (ρ : DEnv) : dNot f ρ = (f ρ).bind fun b ρ' => .ok ρ' (!b) := id rfl
@[simp] theorem dAndV_ap (f g : DEnv → R D) (ρ : DEnv) : dAndV f g ρ = (f ρ).bind fun d ρ' => match d with
  | .bl true => g ρ'
  | .bl false => .ok ρ' (.bl false)
  | _ => .no := id rfl
@[simp] theorem dOrV_ap (f g : DEnv → R D) (ρ : DEnv) : dOrV f g ρ = (f ρ).bind fun d ρ' => match d with
  | .bl true => .ok ρ' (.bl true)
  | .bl false => g ρ'
  | _ => .no := id rfl
@[simp] theorem dNotV_ap (f : DEnv → R D) (ρ : DEnv) : dNotV f ρ = (f ρ).bind fun d ρ' => match d with
  | .bl b => .ok ρ' (.bl (!b))
  | _ => .no := id rfl
@[simp] theorem dIte_ap (t : DEnv → R Bool) (f g : DEnv → R D) (ρ : DEnv) : dIte t f g ρ = (t ρ).bind fun b ρ' => match b with
  | true => f ρ'
  | false => g ρ' := id rfl
@[simp] theorem dChain_ap (g g' : D → D → Option D) (f1 f2 f3 : DEnv → R Th) (ρ : DEnv) : dChain g g' f1 f2 f3 ρ = (f1 ρ).bind fun t1 ρ1 => (f2 ρ1).bind fun t2 ρ2 => match t1 ρ2, t2 ρ2 with
  | some x, some y => match g x y with
    | some (.bl true) => (f3 ρ2).bind fun t3 ρ3 => match t2 ρ3, t3 ρ3 with
      | some y', some z => ofO ρ3 (g' y' z)
      | _, _ => .no
    | some (.bl false) => .ok ρ2 (.bl false)
    | _ => .no
  | _, _ => .no := id rfl
@[simp] theorem dTup_ap (f : DEnv → R (List D)) (ρ : DEnv) : dTup f ρ = (f ρ).bind fun l ρ' => if l.length ≤ 1000 then .ok ρ' (.tup l) else .no := id rfl
@[simp] theorem dLst_ap (f : DEnv → R (List D)) (ρ : DEnv) : dLst f ρ = (f ρ).bind fun l ρ' => if l.length ≤ 1000 then .ok ρ' (.lst l) else .no := id rfl
@[simp] theorem dApp_ap (i : Nat) (f : DEnv → R D) (ρ : DEnv) : dApp i f ρ = match muL i ρ with
  | none => .no
  | some _ => (f ρ).bindS fun d ρ' => match muL i ρ' with
    | none => .no
    | some (b, l) => if l.length < 16000000 then .nx (ρ'.set i (some (.mu b (.lst (l ++ [d]))))) else .no := id rfl
@[simp] theorem dSetI_ap (i : Nat) (fk f : DEnv → R D) (ρ : DEnv) : dSetI i fk f ρ = (f ρ).bindS fun d ρ1 => match muL i ρ1 with
  | none => .no
  | some _ => (fk ρ1).bindS fun k ρ2 => match muL i ρ2, k with
    | some (b, l), .int n => match ixN l.length n with
      | none => .no
      | some j => .nx (ρ2.set i (some (.mu b (.lst (l.set j d)))))
    | _, _ => .no := id rfl
@[simp] theorem rNil_ap  (ρ : DEnv) : rNil  ρ = .ok ρ [] := id rfl
@[simp] theorem rVal_ap (f : DEnv → R D) (g : DEnv → R (List AD)) (ρ : DEnv) : rVal f g ρ = (f ρ).bind fun d ρ1 => (g ρ1).bind fun l ρ2 => .ok ρ2 (.v d :: l) := id rfl
@[simp] theorem rIo_ap (i : Nat) (g : DEnv → R (List AD)) (ρ : DEnv) : rIo i g ρ = if isMu ρ i = true then (g ρ).bind fun l ρ2 => .ok ρ2 (.io i :: l) else .no := id rfl
@[simp] theorem dCal2_ap (ar : Nat) (F : Fn) (f : DEnv → R (List AD)) (ρ : DEnv) : dCal2 ar F f ρ = (f ρ).bind fun l ρ1 => if l.length = ar then match argsD ρ1 l with
  | none => .no
  | some as => if (ioIx l).Nodup then match F as with
    | .no => .no
    | .ret fr d os => match putD ρ1 l os with
      | none => .no
      | some ρ2 => .ok ρ2 (fr, d)
    | .exc e os => match putD ρ1 l os with
      | none => .no
      | some ρ2 => .ex ρ2 e
    else .no
  else .no := id rfl
@[simp] theorem dV_ap (f : DEnv → R (Bool × D)) (ρ : DEnv) : dV f ρ = (f ρ).bind fun p ρ' => .ok ρ' p.2 := id rfl
@[simp] theorem dN_ap (f : DEnv → R (Bool × D)) (ρ : DEnv) : dN f ρ = (f ρ).bind fun p ρ' => match p with
  | (true, d) => .ok ρ' d
  | (false, _) => .no := id rfl
@[simp] theorem tYesB_ap  (ρ : DEnv) : tYesB  ρ = .ok ρ true := id rfl
@[simp] theorem dLc_ap (s : DEnv → R (List D)) (g : Tg) (t : DEnv → R Bool) (f : DEnv → R D) (vs : List Nat) (ρ : DEnv) : dLc s g t f vs ρ = (s ρ).bind fun l ρ1 => if noMu ρ1 vs = true then dLcGo g t f vs l [] (wipeE ρ1 vs) else .no
 := id rfl
@[simp] theorem dIsi_ap (n : String) (f : DEnv → R Th) (ρ : DEnv) : dIsi n f ρ = (f ρ).bind fun t ρ1 => match t ρ1 with
  | some d => ofO ρ1 (isiD n d)
  | none => .no := id rfl
@[simp] theorem dPar_ap (i j : Nat) (f : DEnv → R (List D)) (ρ : DEnv) : dPar i j f ρ = (f ρ).bindS fun l ρ' => match l with
  | [d, e] => match set2 i j d e ρ' with
    | none => .no
    | some ρ2 => .nx ρ2
  | _ => .no := id rfl
@[simp] theorem dDic0_ap  (ρ : DEnv) : dDic0  ρ = .ok ρ (.dic []) := id rfl
@[simp] theorem dPar3_ap (i j k : Nat) (f : DEnv → R (List D)) (ρ : DEnv) : dPar3 i j k f ρ = (f ρ).bindS fun l ρ' => match l with
  | [d, e, u] => match set3 i j k d e u ρ' with
    | none => .no
    | some ρ2 => .nx ρ2
  | _ => .no := id rfl
theorem SR.bind_ret {ρ : DEnv} {fr : Bool} {d : D} {g : DEnv → SR} : (SR.ret ρ fr d).bind g = .ret ρ fr d := rfl
theorem ltD_ap (i j : Int) : ltD (.int i) (.int j) = some (.bl (decide (i < j))) := rfl
theorem leD_ap (i j : Int) : leD (.int i) (.int j) = some (.bl (decide (i ≤ j))) := rfl
theorem gtD_ap (i j : Int) : gtD (.int i) (.int j) = some (.bl (decide (j < i))) := rfl
theorem geD_ap (i j : Int) : geD (.int i) (.int j) = some (.bl (decide (j ≤ i))) := rfl
theorem addD_ap (i j : Int) : addD (.int i) (.int j) = some (.int (i + j)) := rfl
theorem subD_ap (i j : Int) : subD (.int i) (.int j) = some (.int (i - j)) := rfl
theorem mulI_ap {i j : Int} (h : cMul i j = true) : mulI (.int i) (.int j) = some (.int (i * j)) := by
  show (if cMul i j = true then some (D.int (i * j)) else none) = _
  rw [if_pos h]
theorem mulD_ap {i j : Int} (h : cMul i j = true) : mulD (.int i) (.int j) = some (.int (i * j)) := by
  unfold mulD orD
  rw [mulI_ap h]
theorem divD_ap {i j : Int} (h : cDiv i j = true) : divD (.int i) (.int j) = some (.int (i.fdiv j)) := by
  show (if cDiv i j = true then some (D.int (i.fdiv j)) else none) = _
  rw [if_pos h]
theorem modD_ap {i j : Int} (h : j ≠ 0) : modD (.int i) (.int j) = some (.int (i.fmod j)) := by
  show (if decide (j ≠ 0) = true then some (D.int (i.fmod j)) else none) = _
  rw [if_pos (decide_eq_true h)]
theorem powD_ap {i j : Int} (h : cPow i j = true) : powD (.int i) (.int j) = some (.int (i ^ j.toNat)) := by
  show (if cPow i j = true then some (D.int (i ^ j.toNat)) else none) = _
  rw [if_pos h]
theorem negD_ap (i : Int) : negD (.int i) = some (.int (-i)) := rfl
theorem absD_ap (i : Int) : absD [.int i] = some (.int i.natAbs) := by
  show some (D.int (if i < 0 then -i else i)) = _
  congr 2
  split <;> omega
theorem intD_ap (i : Int) : intD [.int i] = some (.int i) := rfl
theorem intD_apB (b : Bool) : intD [.bl b] = some (.int (if b then 1 else 0)) := rfl
theorem catL_ap {l m : List D} (h : l.length + m.length ≤ 16000000) : addD (.lst l) (.lst m) = some (.lst (l ++ m)) := by
  unfold addD orD addI i2 catL
  simp only [h, if_true]
theorem catT_ap {l m : List D} (h : l.length + m.length ≤ 16000000) : addD (.tup l) (.tup m) = some (.tup (l ++ m)) := by
  show (match catL (.tup l) (.tup m) with | some z => some z | none => catT (.tup l) (.tup m)) = _
  unfold catL catT
  simp only [h, if_true]
/-! ### equality by shape -/
mutual
def plainD : Nat → D → Bool
  | _, .int _ => true
  | _, .bl _ => true
  | _, .str x => PyData.canLay0 (.str x)
  | _, .non => true
  | n + 1, .tup l => plainDs n l
  | n + 1, .lst l => plainDs n l
  | n + 1, .fro l => plainDs n l
  | _, _ => false
def plainDs : Nat → List D → Bool
  | _, [] => true
  | n, d :: l => plainD n d && plainDs n l
end
mutual
theorem plain_toP : ∀ {n : Nat} {d : D}, plainD n d = true → ∃ p, toP d = some p ∧ p.canLay0 = true ∧ p.depth ≤ n
  | _, .int i, _ => ⟨_, rfl, rfl, Nat.zero_le _⟩
  | _, .bl i, _ => ⟨_, rfl, rfl, Nat.zero_le _⟩
  | _, .str i, h => ⟨_, rfl, by unfold plainD at h; exact h, Nat.zero_le _⟩
  | _, .non, _ => ⟨_, rfl, rfl, Nat.zero_le _⟩
  | n + 1, .tup l, h => by
    obtain ⟨ps, e, h1, h2⟩ := plain_toPs (n := n) (l := l) h
    exact ⟨.tuple ps, by unfold toP; rw [e]; rfl, h1, Nat.succ_le_succ h2⟩
  | n + 1, .lst l, h => by
    obtain ⟨ps, e, h1, h2⟩ := plain_toPs (n := n) (l := l) h
    exact ⟨.list ps, by unfold toP; rw [e]; rfl, h1, Nat.succ_le_succ h2⟩
  | n + 1, .fro l, h => by
    obtain ⟨ps, e, h1, h2⟩ := plain_toPs (n := n) (l := l) h
    exact ⟨.list ps, by unfold toP; rw [e]; rfl, h1, Nat.succ_le_succ h2⟩
  | 0, .tup l, h => by cases h
  | 0, .lst l, h => by cases h
  | 0, .fro l, h => by cases h
  | 0, .dic l, h => by cases h
  | 0, .obj c fs, h => by cases h
  | _ + 1, .obj c fs, h => by cases h
  | _ + 1, .dic l, h => by cases h
theorem plain_toPs : ∀ {n : Nat} {l : List D}, plainDs n l = true → ∃ ps, toPs l = some ps ∧ PyData.canLayAll0 ps = true ∧ PyData.depthAll ps ≤ n
  | _, [], _ => ⟨[], rfl, rfl, Nat.zero_le _⟩
  | n, d :: l, h => by
    have h' : (plainD n d && plainDs n l) = true := by unfold plainDs at h; exact h
    rw [Bool.and_eq_true] at h'
    obtain ⟨p, e1, h1, h2⟩ := plain_toP h'.1
    obtain ⟨ps, e2, h3, h4⟩ := plain_toPs h'.2
    refine ⟨p :: ps, by unfold toPs; rw [e1, e2]; rfl, ?_, ?_⟩
    · unfold PyData.canLayAll0; rw [h1, h3]; rfl
    · unfold PyData.depthAll; exact Nat.max_le.mpr ⟨h2, h4⟩
end
theorem eqP_plain {d e : D} (h1 : plainD 9 d = true) (h2 : plainD 9 e = true) : ∃ p q, toP d = some p ∧ toP e = some q ∧ eqP d e = some (p.eqv q) := by
  obtain ⟨p, e1, c1, d1⟩ := plain_toP h1
  obtain ⟨q, e2, c2, d2⟩ := plain_toP h2
  refine ⟨p, q, e1, e2, ?_⟩
  unfold eqP
  rw [e1, e2]
  have s : ∀ {r : PyData}, r.canLay0 = true → r.depth ≤ 9 → SeqAt.shaped r = true := fun {r} a b => by
    unfold SeqAt.shaped
    rw [a, Bool.true_and]
    exact decide_eq_true (by omega)
  show (if SeqAt.shaped p = true ∧ SeqAt.shaped q = true then some (p.eqv q) else none) = _
  rw [if_pos ⟨s c1 d1, s c2 d2⟩]
mutual
theorem eqv_refl : ∀ {d : D} {p : PyData}, toP d = some p → p.eqv p = true
  | .non, _, e => by cases e; rfl
  | .bl b, _, e => by cases e; exact beq_self_eq_true b
  | .int i, _, e => by cases e; exact beq_self_eq_true i
  | .str x, _, e => by cases e; exact beq_self_eq_true x
  | .tup l, _, e => by
    unfold toP at e
    cases q : toPs l with
    | none => rw [q] at e; cases e
    | some ps => rw [q] at e; cases e; exact eqvs_refl q
  | .lst l, _, e => by
    unfold toP at e
    cases q : toPs l with
    | none => rw [q] at e; cases e
    | some ps => rw [q] at e; cases e; exact eqvs_refl q
  | .fro l, _, e => by
    unfold toP at e
    cases q : toPs l with
    | none => rw [q] at e; cases e
    | some ps => rw [q] at e; cases e; exact eqvs_refl q
  | .dic l, _, e => by unfold toP at e; cases e
  | .obj c fs, _, e => by unfold toP at e; cases e
theorem eqvs_refl : ∀ {l : List D} {ps : List PyData}, toPs l = some ps → PyData.eqvAll ps ps = true
  | [], _, e => by unfold toPs at e; cases e; rfl
  | d :: l, _, e => by
    unfold toPs at e
    cases q : toP d with
    | none => rw [q] at e; cases e
    | some p =>
      rw [q] at e
      cases q2 : toPs l with
      | none => rw [q2] at e; cases e
      | some ps =>
        rw [q2] at e
        cases e
        unfold PyData.eqvAll
        rw [eqv_refl q, eqvs_refl q2]
        rfl
end
/-- the same data are equal -/
theorem eq_same {d : D} (h : plainD 9 d = true) : eqD1 d d = some (.bl true) := by
  obtain ⟨p, q, e1, e2, e3⟩ := eqP_plain h h
  rw [e1] at e2
  cases e2
  unfold eqD1
  rw [e3, eqv_refl e1]
  rfl
theorem ne_same {d : D} (h : plainD 9 d = true) : neD1 d d = some (.bl false) := by
  obtain ⟨p, q, e1, e2, e3⟩ := eqP_plain h h
  rw [e1] at e2
  cases e2
  unfold neD1
  rw [e3, eqv_refl e1]
  rfl
theorem eq_int (i j : Int) : eqD1 (.int i) (.int j) = some (.bl (decide (i = j))) := by
  obtain ⟨p, q, e1, e2, e3⟩ := eqP_plain (d := .int i) (e := .int j) rfl rfl
  cases e1
  cases e2
  unfold eqD1
  rw [e3]
  rfl
theorem ne_int (i j : Int) : neD1 (.int i) (.int j) = some (.bl (!decide (i = j))) := by
  obtain ⟨p, q, e1, e2, e3⟩ := eqP_plain (d := .int i) (e := .int j) rfl rfl
  cases e1
  cases e2
  unfold neD1
  rw [e3]
  rfl
theorem dWhile_succ (c : DEnv → R Bool) (b : DEnv → SR) (n : Nat) (ρ : DEnv) : dWhile c b (n + 1) ρ = (c ρ).bindS fun t ρ1 => match t with
    | false => .nx ρ1
    | true => match b ρ1 with
      | .nx ρ2 => dWhile c b n ρ2
      | .cnt ρ2 => dWhile c b n ρ2
      | .brk ρ2 => .nx ρ2
      | .no => .no
      | .ret ρ2 fr d => .ret ρ2 fr d
      | .ex ρ2 e => .ex ρ2 e := rfl
end DF

namespace DF
open PySem PySem.Spec PyProof.Rows L2
/-! ### list(x): a new list -/
def seqOf (d : D) : Option (List D) := match d with
  | .lst l => some l
  | .fro l => some l
  | .tup l => some l
  | _ => none
theorem seqOf_top {K : PySem.W.Frag} {G H : Hp} {d : D} {l : List D} {v : V} (eS : Evl.Ex G H) (h : Top K G H d v) (e : seqOf d = some l) : ∃ a xs, v = .ref a ∧ (SqL K H a xs ∨ SqT K H a xs) ∧ Iss K G l xs := by
  cases d with
  | lst m => cases e; obtain ⟨a, xs, rfl, h1, h2⟩ := h; exact ⟨a, xs, rfl, .inl (Evl.sq_of h1), h2⟩
  | fro m => cases e; cases h with | fro h1 h2 => exact ⟨_, _, rfl, .inl (Evl.ex_l eS h1), h2⟩
  | tup m => cases e; cases h with | tup h1 h2 => exact ⟨_, _, rfl, .inr (Evl.ex_t eS h1), h2⟩
  | _ => cases e
/-- a new list made from an operand -/
def dMk (g : D → Option (List D)) (f : DEnv → R Th) : DEnv → R D := fun ρ => (f ρ).bind fun t ρ' => match t ρ' with
  | none => .no
  | some d => match g d with
    | none => .no
    | some l => .ok ρ' (.lst l)
theorem dMk_go {K : PySem.W.Frag} {W : WX} {g : D → Option (List D)} {f : DEnv → R Th} {te : TE}
    (hs : ∀ (d : D) (l : List D) (v : V) (G H : Hp) (Q : VK), Evl.Ex G H → Top K G H d v → g d = some l → (∀ p vs, H p = none → Iss K G l vs → Q (.ref p) (upd H p (.lst vs))) → te [] H Q → True) : True := trivial
theorem df_mk {X : Cx} {W : WX} {e : Expr} {g : D → Option (List D)} {f : DEnv → R Th} {r : V → Hp → VK → Prop} (h : PE X e fun σ H Q => tO X.K W f σ H fun v H1 => r v H1 Q)
    (hs : ∀ (d : D) (l : List D) (v : V) (G H : Hp) (Q : VK), Evl.Ex G H → Top X.K G H d v → g d = some l → (∀ p vs, H p = none → Iss X.K G l vs → Q (.ref p) (upd H p (.lst vs))) → r v H Q) : DF' X W e (dMk g f) :=
  pe_imp h fun σ H Q ⟨ρ, G, R, h⟩ => ⟨ρ, G, R, by
    cases e1 : f ρ with
    | no =>
      have h2 : dMk g f ρ = .no := by unfold dMk; rw [e1]; rfl
      rw [h2] at h; exact h
    | ex ρ' ee =>
      have h2 : dMk g f ρ = .ex ρ' ee := by unfold dMk; rw [e1]; rfl
      rw [h2] at h; exact h
    | ok ρ' t =>
      have h2 : dMk g f ρ = match t ρ' with
        | none => .no
        | some d => match g d with
          | none => .no
          | some l => .ok ρ' (.lst l) := by unfold dMk; rw [e1]; rfl
      rw [h2] at h
      intro G' H' s R' v hv
      split at h
      · exact False.elim h
      · rename_i d e2
        split at h
        · exact False.elim h
        · rename_i l e3
          exact hs d l v G' H' Q R'.sub (hv ρ' G' H' d .refl R' e2) e3 fun p vs hp hvs => fresh_lst R s R' (fun G' H' s R q1 q2 q3 q4 q5 q6 => h G' H' s R q1 q2 q3 q4 q5 q6) hvs p hp⟩
section
variable {X : Cx} {W : WX} {e : Expr} {p pos : Pos} {f : DEnv → R Th}
theorem df_list (hg : Gl X "list") (hm : X.mg "list" = none) (ha : DO X W e f) (h1 : starEach [e] X.env = (false, eval e X.env) :: starEach [] X.env := by rfl) (hpl : (backTo pos (starEach [] X.env)).any (·.1) = false := by rfl) : DF' X W (.Call (.Name "list" p) [e] [] pos) (dMk seqOf f) :=
  df_mk (r := fun v H1 Q => ∃ p ys, v = .ref p ∧ (SqL X.K H1 p ys ∨ SqT X.K H1 p ys) ∧ ∀ l, H1 l = none → Q (.ref l) (upd H1 l (.lst ys)))
    (pe_imp (pe_callTy call_list_of hg hm boot_list (pa_cons ha pa_nil h1) (by decide) (by decide) h1 hpl) fun σ H Q ⟨ρ, G, R, h⟩ => ⟨ρ, G, R, h.imp fun t ρ' G' H' s R' h v hv => by
      obtain ⟨p, ys, rfl, q1, q2⟩ := h v hv
      exact ⟨p, ys, rfl, q1, q2⟩⟩)
    fun d l v G H Q eS ht e k => by
      obtain ⟨a, xs, rfl, q1, q2⟩ := seqOf_top eS ht e
      exact ⟨a, xs, rfl, q1, fun l hl => k l xs hl q2⟩
/-! ### xs[::-1] -/
def revO (d : D) : Option (List D) := (listOf d).map List.reverse
theorem df_rev {k : Nat} {p1 p2 p3 : Pos} (ha : DO X W e f) : DF' X W (.Subscript e (.Slice none none (some (.UnaryOp .USub (.Constant (.int 1) k p1) p2)) p3) pos) (dMk revO f) :=
  df_mk (r := fun v H1 Q => ∃ a xs, v = .ref a ∧ SqL X.K H1 a xs ∧ ∀ p, H1 p = none → Q (.ref p) (upd H1 p (.lst xs.reverse))) (pe_revL ha)
    fun d l v G H Q eS ht e k => by
      unfold revO at e
      cases q : listOf d with
      | none => rw [q] at e; cases e
      | some m =>
        rw [q] at e
        cases e
        obtain ⟨a, xs, rfl, q1, q2⟩ := listOf_top eS ht q
        exact ⟨a, xs, rfl, q1, fun p hp => k p _ hp q2.reverse⟩
/-! ### x.pop() -/
def dPop (i : Nat) : DEnv → SR := fun ρ => match muL i ρ with
  | none => .no
  | some (b, l) => if l.length = 0 then .no else .nx (ρ.set i (some (.mu b (.lst l.dropLast))))
theorem Iss.dropLast {K : PySem.W.Frag} {G : Hp} {l : List D} {xs : List V} (h : Iss K G l xs) : Iss K G l.dropLast xs.dropLast := by
  rw [List.dropLast_eq_take, List.dropLast_eq_take, h.length]
  exact h.take _
theorem ds_pop {o : Expr} {i : Nat} {p1 p2 : Pos} (ho : PE X o (tVar i)) (hs : swapsWith (.Call (.Attribute o "pop" p1) [] [] p2) none pos.line X.env = pure false := by rfl)
    (hbase : attributeBase o "pop" X.env (eval o X.env) = eval o X.env := by rfl) (hline : (p1.endLine == p2.line) = true := by rfl) : DS X W (.Expr (.Call (.Attribute o "pop" p1) [] [] p2) pos) (dPop i) :=
  ps_imp (ps_expr (pe_bm0 PySem.F.plainAttrs_list PySem.F.slot_list_pop PySem.F.type_list_pop mt_pop ho hbase hline) hs) fun E σ H ⟨ρ, G, R, h⟩ => by
    unfold dPop at h
    split at h
    · exact False.elim h
    · rename_i b l e1
      have e1 := muL_of e1
      obtain ⟨a, ea, e2, xs, e3, e4⟩ := R.mu i b _ e1
      split at h
      · exact False.elim h
      · rename_i hl
        have hx : xs ≠ [] := fun z => by subst z; exact hl e4.length
        refine ⟨.ref a, ea, .inl ⟨rfl, xs, Evl.sq_of e3⟩, a, xs, xs[xs.length - 1]'(by have := List.length_pos_iff.mpr hx; omega), rfl, rfl, e3, List.getElem?_eq_getElem _, ?_⟩
        obtain ⟨s2, R2⟩ := R.chg (o := .lst xs.dropLast) (d1 := .lst l.dropLast) e1 ea ⟨_, upd_same, e4.dropLast⟩
        exact h σ G _ s2 R2
end
end DF

/-! enumerate over a tuple -/
namespace DF
open PySem PySem.Spec PyProof.Rows L2
abbrev enO (a : Addr) : Obj := { cls := .type "enumerate", data := .fields #[.none, .bool false, .ref a, rawInt 0, .none, .none] }
set_option maxHeartbeats 1000000 in
theorem enum_new1 {u : Value} {ob : Obj} {HH : Heap → Prop} (BB : Begins u ob HH) : Meets (Builtin.«enumerate.__new__» ⟨[.type "enumerate", u], []⟩) (fun _ R s => HH s.heap ∧ R (.ok (.ret (.ref (s.heap.push ob).objs.size))) { s with heap := (s.heap.push ob).push (enO s.heap.objs.size) }) :=
  .of_wp fun pg wl A R s hyp => by
    obtain ⟨hp0, g0, d0, tk0, os0⟩ := s
    obtain ⟨hb, hyp⟩ := hyp
    have hsb := sub_enumerate
    have qq : ∀ {A' : Around} {EE : Value → Shared → Prop} {QQ : Value → Shared → Prop}, QQ (.ref hp0.objs.size) ⟨hp0.push ob, g0, d0, tk0, os0⟩ → wpAny (model pg wl) A' (pyIter u) QQ EE ⟨hp0, g0, d0, tk0, os0⟩ :=
      fun q => BB.iter pg wl _ _ ⟨hp0, g0, d0, tk0, os0⟩ _ hb q
    wp_walk using qq
    refine wpAny_stack_any fun st => wpAny_pure ?_
    split
    · rename_i c _ _ _ _ _
      cases (c == Value.type "enumerate")
      · wp_walk using qq
        exact ⟨_, rfl, hyp⟩
      · wp_walk using qq
        exact ⟨_, rfl, hyp⟩
    · wp_walk using qq
      exact ⟨_, rfl, hyp⟩
theorem enum_call1 {prog : Program} {w : World} {A : Around} {E : Value → Shared → Prop} {s : Shared} {u : Value} {ob : Obj} {HH : Heap → Prop} {Q : Value → Shared → Prop} (BB : Begins u ob HH) (h1 : HH s.heap)
    (h : ∀ h', IsEnum h' (s.heap.objs.size + 1) s.heap.objs.size 0 .none → h'.get? s.heap.objs.size = some ob → (∀ b o, s.heap.get? b = some o → h'.get? b = some o) → Q (.ref (s.heap.objs.size + 1)) { s with heap := h' }) :
    wpAny (model prog w) A (call (.type "enumerate") [u]) Q E s := by
  refine callType_new F.called_enumerate (by decide) (F.typeCall_enumerate_1 _) (F.newCall_enumerate_1 _) (fun obj => F.args_object_init_2 obj _) F.entry_enumerate_new (enum_new1 BB) ⟨h1, ?_⟩
  have sz : (s.heap.push ob).objs.size = s.heap.objs.size + 1 := Heap.size_push ..
  show _ ∧ _
  rw [sz]
  have he : IsEnum ((s.heap.push ob).push (enO s.heap.objs.size)) (s.heap.objs.size + 1) s.heap.objs.size 0 .none := by
    have q := Heap.get?_push_size (s.heap.push ob) (o := enO s.heap.objs.size) rfl
    rw [sz] at q
    exact q
  exact ⟨⟨_, he, rfl⟩, h _ he (Heap.get?_push_of_some _ (Heap.get?_push_size _ BB.free)) fun b o x => Heap.get?_push_of_some _ (Heap.get?_push_of_some _ x)⟩
/-- the tuple at a, each item in a new pair -/
def Itp (K : PySem.W.Frag) (a : Addr) (n : Nat) : It :=
  ⟨fun i H => ∃ (xs : List V) (x : V), SqT K H a xs ∧ xs.length = n ∧ xs[i]? = some x, fun i H v H' => ∃ T x, v = .ref T ∧ H T = none ∧ H' = upd H T (.tup [.int (i : Nat), x]) ∧ ∀ xs, SqT K H a xs → xs[i]? = some x, fun i H => ∃ xs : List V, SqT K H a xs ∧ xs.length = n ∧ n ≤ i⟩
theorem turn_enumT {P : Program} {w : World} {K : PySem.W.Frag} {elts : List Expr} {kk : Nat} {tpos : Pos} (a e it : Addr) (n : Nat) :
    Turn P w K (.Tuple elts kk tpos) (Itp K a n) [e, it] e (fun i h => (∃ old, IsEnum h e it ((i : Nat) : Int) old) ∧ h.IsTupleIter it a i ∧ e ≠ it ∧ a ≠ it ∧ a ≠ e ∧ i ≤ n) where
  mem := List.mem_cons_self
  obj := fun i h st b hb => by
    obtain ⟨⟨old, he⟩, ⟨o, ho, hc, hd⟩, _⟩ := st
    rcases List.mem_cons.mp hb with z | z
    · subst z; exact ⟨_, he, fun v q => nomatch q⟩
    · have z := List.mem_singleton.mp z
      subst z; exact ⟨o, ho, fun v q => by rw [hd] at q; cases q⟩
  keep := fun i h h' st k => by
    obtain ⟨⟨old, he⟩, hi, hne⟩ := st
    exact ⟨⟨old, k e (by simp) _ he⟩, hi.at fun o q => k it (by simp) o q, hne⟩
  item := by
    intro X eP eW eK hc i pins s σ H E I hf st hg
    subst eP eW eK
    obtain ⟨⟨old, he⟩, hit, hne, hai, hae, hin⟩ := st
    obtain ⟨xs, x, hq, hxn, hx⟩ := hg
    obtain ⟨its, rv, p, hz⟩ := I.tuple hq
    have hlt : i < its.toArray.size := by
      rw [List.size_toArray, ← rv.length]
      exact (List.getElem?_eq_some_iff.mp hx).1
    have hel : e < s.heap.objs.size := Heap.lt_size he
    have hil : it < s.heap.objs.size := by obtain ⟨_, q, _⟩ := hit; exact Heap.lt_size q
    refine wpAny_pyNext_enum_itemD (Draws.tuple (prog := X.prog) (w := X.w) (A := X.A.in1) (show X.A.in1.handled = none from I.ok.hd hc) it a hai its.toArray) he ⟨hit, p⟩ hlt hne (by simp; exact ⟨hne, fun z => hae z.symm⟩) fun u h' tk hu ho hs' hT hsz hk => ?_
    have ru : RelV x u := by
      obtain ⟨u', hu', ru⟩ := rv.get hx
      have : its.toArray[i]? = some u' := by simpa using hu'
      rw [hu] at this
      cases this
      exact ru
    refine ⟨_, rfl, wpAny_letOwnedTupleGo_enum (s := { s with heap := h', toks := tk + 1 }) ho fun h'' he' sb => ?_⟩
    have hT2 : h''.get? s.heap.objs.size = some { cls := .type "tuple", data := .seq #[.int i tk, u] } := (sb.2 _ (Nat.ne_of_gt hel)).trans hT
    have nw : ObjOk X.prog X.w (upd H s.heap.objs.size (.tup [.int (i : Nat), x])) h'' s.heap.objs.size (.tup [.int (i : Nat), x]) :=
      ⟨show 2 ≤ sizeLine by decide, [.int i tk, u], .cons ⟨_, rfl⟩ (.cons ru .nil), ⟨_, hT2, rfl, _, rfl⟩⟩
    have I1 : Inv X pins σ (upd H s.heap.objs.size (.tup [.int (i : Nat), x])) { s with heap := h'', toks := tk + 1 } :=
      I.turnedNew (t' := tk + 1) (ch := [e, it]) (fun b ob nb q => (sb.2 b fun z => nb (by simp [z])).trans (hk b ob (fun z => nb (by simp [z])) (fun z => nb (by simp [z])) q)) hf (Nat.le_refl _) nw
    refine ⟨.ref s.heap.objs.size, _, I1, rfl, ⟨_, x, rfl, I.hok.fresh (Nat.le_refl _), rfl, fun ys hy => ?_⟩, ⟨⟨u, ?_⟩, hs'.1.at fun o q => (sb.2 it hne.symm).trans q, hne, hai, hae, by rw [← hxn]; exact (List.getElem?_eq_some_iff.mp hx).1⟩, fun b hb => ?_⟩
    · have z : ys = xs := I.tuple_inj hy hq
      rw [z]; exact hx
    · rw [show ((i + 1 : Nat) : Int) = (i : Int) + 1 by omega]; exact he'
    · have lb : b < s.heap.objs.size := by
        rcases List.mem_cons.mp hb with z | z
        · rw [z]; exact hel
        · rw [List.mem_singleton.mp z]; exact hil
      rw [upd_ne (Nat.ne_of_lt lb)]
      exact (hf b hb).1
  done := by
    intro X eP eW eK hc i pins s σ H E I hf st hg
    subst eP eW eK
    obtain ⟨⟨old, he⟩, hit, hne, hai, hae, hin⟩ := st
    obtain ⟨xs, hq, hxn, hx⟩ := hg
    obtain ⟨its, rv, p, hz⟩ := I.tuple hq
    obtain ⟨f0, f1, f2, f3, f4, f5⟩ := hf it (by simp)
    have ei : i = its.toArray.size := by rw [List.size_toArray, ← rv.length]; omega
    subst ei
    exact wpAny_pyNext_enum_endD (Draws.tuple (prog := X.prog) (w := X.w) (A := X.A.in1) (show X.A.in1.handled = none from I.ok.hd hc) it a hai its.toArray) he ⟨hit, p⟩ fun h' eb => ⟨rfl, I.turned (t' := s.toks) (fun b o hb q => eb b o hb q) f0 f1 f3 f4 f5⟩
  self := fun A i s Q E st h => by
    obtain ⟨⟨_, he⟩, _⟩ := st
    exact wpAny_pyIter_enum he h
def iEnumT (K : PySem.W.Frag) (ta : TA) : TI := fun σ H R => ta σ H fun vs H1 => ∃ a xs, vs = [.ref a] ∧ SqT K H1 a xs ∧ R (Itp K a xs.length) H1
theorem pi_enumT {X : Cx} {e : Expr} {ta : TA} {p pos tpos : Pos} {elts : List Expr} {kk : Nat} (hg : Gl X "enumerate") (hm : X.mg "enumerate" = none) (ha : PA X [e] ta) (hs : starEach [e] X.env = [(false, eval e X.env)] := by rfl) :
    PI X (.Tuple elts kk tpos) (.Call (.Name "enumerate" p) [e] [] pos) (iEnumT X.K ta) := by
  refine ⟨fun pins s σ H R I hyp => ?_⟩
  refine Call_ (ld_blt I hg hm boot_enumerate (PyProof.Rows.callWith_type1 (thn (ha.run pos pins s σ H _ I hyp) fun us s1 ⟨vs, H1, I1, r1, qq⟩ => ?_) hs rfl))
  obtain ⟨a, xs, ex, hq, q⟩ := qq
  subst ex
  cases r1 with
  | cons r rr =>
    cases rr
    cases r
    obtain ⟨its, rv, pt, hz⟩ := I1.tuple hq
    refine enum_call1 (begins_tuple a its.toArray) pt fun h' he hit hk => wpAny_pyIter_enum he ?_
    have I2 : Inv X pins σ H1 { s1 with heap := h' } := I1.kept (t' := s1.toks) hk
    have la : a < s1.heap.objs.size := by obtain ⟨_, z, _⟩ := pt; exact Heap.lt_size z
    refine ⟨s1.heap.objs.size + 1, [s1.heap.objs.size + 1, s1.heap.objs.size], _, _, H1, rfl, I2, turn_enumT a (s1.heap.objs.size + 1) s1.heap.objs.size xs.length, ⟨⟨.none, he⟩, ⟨_, hit, rfl, rfl⟩, Nat.succ_ne_self _, Nat.ne_of_lt la, Nat.ne_of_lt (Nat.lt_succ_of_lt la), Nat.zero_le _⟩, fun b hb => ?_, q⟩
    have lb : s1.heap.objs.size ≤ b := by
      rcases List.mem_cons.mp hb with z | z
      · rw [z]; exact Nat.le_succ _
      · rw [List.mem_singleton.mp z]; exact Nat.le_refl _
    exact I1.fpOk lb (I1.hok.fresh lb)
/-! ### enumerate over data -/
def enD : Nat → List D → List D
  | _, [] => []
  | i, x :: r => .tup [.int (i : Nat), x] :: enD (i + 1) r
theorem enD_length : ∀ (i : Nat) (l : List D), (enD i l).length = l.length
  | _, [] => rfl
  | i, x :: r => congrArg (· + 1) (enD_length (i + 1) r)
theorem enD_get : ∀ (k : Nat) (l : List D) (i : Nat) (d : D), (enD k l)[i]? = some d → ∃ x, l[i]? = some x ∧ d = .tup [.int ((k + i : Nat) : Int), x]
  | _, [], _, _, e => by simp [enD] at e
  | k, x :: r, 0, d, e => by
    simp [enD] at e
    exact ⟨x, rfl, e.symm⟩
  | k, x :: r, i + 1, d, e => by
    obtain ⟨y, h1, h2⟩ := enD_get (k + 1) r i d (by simpa [enD] using e)
    exact ⟨y, by simpa using h1, by rw [h2, show k + 1 + i = k + (i + 1) by omega]⟩
theorem enum_yield {K : PySem.W.Frag} {G H H' : Hp} {T : Addr} {i : Nat} {d : D} {x : V} (eS : Evl.Ex G H) (hT : H T = none) (e : H' = upd H T (.tup [.int (i : Nat), x])) (hx : Is K G d x) : ∃ G', New G H G' H' ∧ Is K G' (.tup [.int (i : Nat), d]) (.ref T) := by
  subst e
  have N : New G H (upd G T (.tup [.int (i : Nat), x])) (upd H T (.tup [.int (i : Nat), x])) := New.put eS hT
  exact ⟨_, N, .tup (Evl.st_of upd_same) (.cons (.int _) (.cons (hx.mono N.g) .nil))⟩
theorem ite_s {K : PySem.W.Frag} {G0 : Hp} {l : List D} {a : Addr} {xs : List V} (h : SqL K G0 a xs) (r : Iss K G0 l xs) : ItS K G0 (enD 0 l) (Ite K a) where
  go := fun i d G H e eG eH => by
    obtain ⟨y, h1, rfl⟩ := enD_get 0 l i d e
    obtain ⟨v, e1, e2⟩ := r.get h1
    have hL : SqL K H a xs := Evl.ex_l eH (Evl.ex_l eG h)
    refine ⟨⟨xs, v, hL, e1⟩, fun x H' ⟨T, z, ev, hT, eH', q⟩ => ?_⟩
    subst ev
    have q1 := q xs hL
    rw [e1] at q1; cases q1
    rw [Nat.zero_add]
    exact enum_yield eH hT eH' (e2.mono eG)
  stop := fun i G H e eG eH => ⟨xs, Evl.ex_l eH (Evl.ex_l eG h), by rw [← r.length]; rw [enD_length] at e; exact e⟩
theorem itp_s {K : PySem.W.Frag} {G0 : Hp} {l : List D} {a : Addr} {xs : List V} (h : SqT K G0 a xs) (r : Iss K G0 l xs) : ItS K G0 (enD 0 l) (Itp K a xs.length) where
  go := fun i d G H e eG eH => by
    obtain ⟨y, h1, rfl⟩ := enD_get 0 l i d e
    obtain ⟨v, e1, e2⟩ := r.get h1
    have hL : SqT K H a xs := Evl.ex_t eH (Evl.ex_t eG h)
    refine ⟨⟨xs, v, hL, rfl, e1⟩, fun x H' ⟨T, z, ev, hT, eH', q⟩ => ?_⟩
    subst ev
    have q1 := q xs hL
    rw [e1] at q1; cases q1
    rw [Nat.zero_add]
    exact enum_yield eH hT eH' (e2.mono eG)
  stop := fun i G H e eG eH => ⟨xs, Evl.ex_t eH (Evl.ex_t eG h), rfl, by rw [← r.length]; rw [enD_length] at e; exact e⟩
def sEnL (f : DEnv → R (List D)) : DEnv → R (List D) := fun ρ => (f ρ).bind fun l ρ' => match l with
  | [.lst m] => .ok ρ' (enD 0 m)
  | [.fro m] => .ok ρ' (enD 0 m)
  | _ => .no
def sEnT (f : DEnv → R (List D)) : DEnv → R (List D) := fun ρ => (f ρ).bind fun l ρ' => match l with
  | [.tup m] => .ok ρ' (enD 0 m)
  | _ => .no
section
variable {X : Cx} {W : WX} {e : Expr} {p pos tpos : Pos} {elts : List Expr} {kk : Nat} {f : DEnv → R (List D)}
theorem di_enL (hg : Gl X "enumerate") (hm : X.mg "enumerate" = none) (ha : DVs X W [e] f) (hs : starEach [e] X.env = [(false, eval e X.env)] := by rfl) : DI X W (.Tuple elts kk tpos) (.Call (.Name "enumerate" p) [e] [] pos) (sEnL f) :=
  pi_imp (pi_enum hg hm ha hs) fun σ H Q ⟨ρ, G, R, h⟩ => ⟨ρ, G, R, (Go.bind R h).imp fun l ρ' G' H' s R' h vs hv => by
    split at h
    · cases hv with
      | cons h1 h2 =>
        cases h2
        cases h1 with
        | lst q1 q2 => exact ⟨_, _, rfl, Evl.sq_of (R'.sub _ _ q1), h G' H' .refl R' _ (ite_s (Evl.sq_of q1) q2)⟩
    · cases hv with
      | cons h1 h2 =>
        cases h2
        cases h1 with
        | fro q1 q2 => exact ⟨_, _, rfl, Evl.ex_l R'.sub q1, h G' H' .refl R' _ (ite_s q1 q2)⟩
    · exact False.elim h⟩
theorem di_enT (hg : Gl X "enumerate") (hm : X.mg "enumerate" = none) (ha : DVs X W [e] f) (hs : starEach [e] X.env = [(false, eval e X.env)] := by rfl) : DI X W (.Tuple elts kk tpos) (.Call (.Name "enumerate" p) [e] [] pos) (sEnT f) :=
  pi_imp (pi_enumT hg hm ha hs) fun σ H Q ⟨ρ, G, R, h⟩ => ⟨ρ, G, R, (Go.bind R h).imp fun l ρ' G' H' s R' h vs hv => by
    split at h
    · cases hv with
      | cons h1 h2 =>
        cases h2
        cases h1 with
        | tup q1 q2 => exact ⟨_, _, rfl, Evl.ex_t R'.sub q1, h G' H' .refl R' _ (itp_s q1 q2)⟩
    · exact False.elim h⟩
end
end DF

namespace DF
open PySem PySem.Spec PyProof.Rows L2
/-! ### reversed(range(n)) -/
def sRevR (f : DEnv → R D) : DEnv → R (List D) := fun ρ => (f ρ).bind fun d ρ' => match d with
  | .int j => if inR j = true then .ok ρ' (rng 0 j.toNat).reverse else .no
  | _ => .no
theorem itc_s {K : PySem.W.Frag} {G0 : Hp} {j : Int} : ItS K G0 (rng 0 j.toNat).reverse (Itc (0 + (((j - 0).toNat : Nat) : Int) - 1) (-1) (j - 0).toNat) where
  go := fun i d G H e eG eH => by
    have hi : i < (rng 0 j.toNat).reverse.length := (List.getElem?_eq_some_iff.mp e).1
    have hlen : (rng 0 j.toNat).length = j.toNat := by unfold rng; rw [List.length_map, List.length_range]
    rw [List.length_reverse, hlen] at hi
    rw [List.getElem?_reverse (by rw [hlen]; exact hi), hlen] at e
    unfold rng at e
    rw [List.getElem?_map, List.getElem?_range (by omega)] at e
    cases e
    refine ⟨show i < (j - 0).toNat by rw [Int.sub_zero]; exact hi, fun x H' ⟨z, y⟩ => ?_⟩
    subst z y
    refine ⟨G, New.refl eH, ?_⟩
    have : (0 : Int) + ((j.toNat - 1 - i : Nat) : Int) = 0 + (((j - 0).toNat : Nat) : Int) - 1 + (i : Int) * -1 := by
      rw [Int.sub_zero]; omega
    show Is K G (.int (0 + ((j.toNat - 1 - i : Nat) : Int))) _
    rw [this]
    exact .int _
  stop := fun i G H e _ _ => by
    rw [List.length_reverse] at e
    unfold rng at e
    rw [List.length_map, List.length_range] at e
    show (j - 0).toNat ≤ i
    rw [Int.sub_zero]
    exact e
theorem di_revR {X : Cx} {W : WX} {tg a : Expr} {p p2 pos pos2 : Pos} {f : DEnv → R D} (hg : Gl X "reversed") (hm : X.mg "reversed" = none) (hg2 : Gl X "range") (hm2 : X.mg "range" = none) (ha : DE X W a f)
    (na : starEach [a] X.env = (false, eval a X.env) :: starEach [] X.env := by rfl)
    (hs : starEach [.Call (.Name "range" p2) [a] [] pos2] X.env = (false, eval (.Call (.Name "range" p2) [a] [] pos2) X.env) :: starEach [] X.env := by rfl) :
    DI X W tg (.Call (.Name "reversed" p) [.Call (.Name "range" p2) [a] [] pos2] [] pos) (sRevR f) :=
  pi_imp (pi_revR hg hm (prg_1 hg2 hm2 ha na) hs) fun σ H Q ⟨ρ, G, R, h⟩ => ⟨ρ, G, R, (Go.bind R h).imp fun d ρ' G' H' s R' h v hv => by
    split at h
    · rename_i j
      cases hv
      split at h
      · rename_i hj
        exact ⟨j, rfl, by decide, by decide, (inR_of hj).1, (inR_of hj).2, h G' H' .refl R' _ itc_s⟩
      · exact False.elim h
    · exact False.elim h⟩
/-! ### x[a:b], a and b reckoned -/
def tP (K : PySem.W.Frag) (W : WX) (f : DEnv → R (Option Int)) : TO := fun σ H Q => ∃ ρ G, Rep K G H ρ σ ∧ Go K W σ ρ G H (fun o _ _ H' => Q o H') (f ρ)
abbrev DP (X : Cx) (W : WX) (e : Option Expr) (f : DEnv → R (Option Int)) : Prop := PO X e (tP X.K W f)
theorem po_imp {X : Cx} {e : Option Expr} {t t' : TO} (h : PO X e t) (i : ∀ σ H Q, t' σ H Q → t σ H Q) : PO X e t' := ⟨fun pins s σ H Q I q => h.run pins s σ H Q I (i σ H Q q)⟩
def pNo : DEnv → R (Option Int) := fun ρ => .ok ρ none
def pInt (f : DEnv → R D) : DEnv → R (Option Int) := fun ρ => (f ρ).bind fun d ρ' => match d with
  | .int i => .ok ρ' (some i)
  | _ => .no
section
variable {X : Cx} {W : WX} {e : Expr} {elo ehi : Option Expr} {p2 pos : Pos}
theorem dp_no : DP X W none pNo := po_imp po_none fun σ H Q ⟨ρ, G, R, h⟩ => h G H .refl R
theorem dp_int {f : DEnv → R D} (h : DE X W e f) : DP X W (some e) (pInt f) := po_imp (po_some h) fun σ H Q ⟨ρ, G, R, h⟩ => ⟨ρ, G, R, (Go.bind R h).imp fun d ρ' G' H' s R' h v hv => by
  split at h
  · cases hv
    exact ⟨_, rfl, h G' H' .refl R'⟩
  · exact False.elim h⟩
def slO (d : D) (lo hi : Option Int) : Option D := match d with
  | .lst l => some (.lst (cutD l lo hi))
  | .fro l => some (.lst (cutD l lo hi))
  | .tup l => some (.tup (cutD l lo hi))
  | _ => none
def dSl (f : DEnv → R Th) (fl fu : DEnv → R (Option Int)) : DEnv → R D := fun ρ => (f ρ).bind fun t ρ1 => (fl ρ1).bind fun lo ρ2 => (fu ρ2).bind fun hi ρ3 => match t ρ3 with
  | none => .no
  | some d => ofO ρ3 (slO d lo hi)
theorem cut_whole {α : Type} {l : List α} {lo hi : Option Int} (h : HT.sIx l.length 0 lo = 0 ∧ HT.sIx l.length l.length hi = l.length) : (l.drop (HT.sIx l.length 0 lo)).take (HT.sIx l.length l.length hi - HT.sIx l.length 0 lo) = l := by
  rw [h.1, h.2, List.drop_zero, Nat.sub_zero, List.take_length]
theorem de_sl {f : DEnv → R Th} {fl fu : DEnv → R (Option Int)} (h : DO X W e f) (hl : DP X W elo fl) (hu : DP X W ehi fu) : DE X W (.Subscript e (.Slice elo ehi none p2) pos) (dSl f fl fu) :=
  pe_imp (pe_slice (sl_list.or sl_tupA) h hl hu) fun σ H Q ⟨ρ, G, R, h⟩ => ⟨ρ, G, R, (Go.bind R h).imp fun t ρ1 G1 H1 s1 R1 h1 v hv => ⟨ρ1, G1, R1, (Go.bind R1 h1).imp fun lo ρ2 G2 H2 s2 R2 h2 => ⟨ρ2, G2, R2, (Go.bind R2 h2).imp fun hi ρ3 G3 H3 s3 R3 h3 => by
    split at h3
    · exact False.elim h3
    · rename_i d e1
      have ht := hv ρ3 G3 H3 d (s2.trans R1 s3) R3 e1
      have lst : ∀ {l : List D} {a : Addr} {xs : List V}, SqL X.K H3 a xs → Iss X.K G3 l xs → slO d lo hi = some (.lst (cutD l lo hi)) → v = .ref a → (rSlL X.K v lo hi H3 Q ∨ rSlA X.K v lo hi H3 Q) := fun {l a xs} q1 q2 q3 q4 => by
        rw [q3] at h3
        refine .inl ⟨a, xs, q4, q1, fun p hp => ?_⟩
        have N : New G3 H3 (upd G3 p (.lst (cutV xs lo hi))) (upd H3 p (.lst (cutV xs lo hi))) := New.put R3.sub hp
        exact h3 _ _ (N.stp R3) (N.rep R3) _ (.lst upd_same ((cut_iss q2).mono N.g))
      cases d with
      | lst l =>
        obtain ⟨a, xs, q0, q1, q2⟩ := ht
        exact lst (Evl.sq_of q1) q2 rfl q0
      | fro l =>
        cases ht with
        | fro q1 q2 => exact lst (Evl.ex_l R3.sub q1) q2 rfl rfl
      | tup l =>
        cases ht with
        | @tup l a xs q1 q2 =>
          refine .inr ⟨a, xs, rfl, Evl.ex_t R3.sub q1, fun z => ?_, fun z p hp => ?_⟩
          · have hz : cutD l lo hi = l := by
              unfold cutD
              rw [q2.length]
              rw [← q2.length] at z
              rw [← q2.length]
              exact cut_whole z
            have h4 : Go X.K W σ ρ3 G3 H3 (fun d _ G' H' => ∀ v, Is X.K G' d v → Q v H') (DF.R.ok ρ3 (D.tup (cutD l lo hi))) := h3
            rw [hz] at h4
            exact h4 G3 H3 .refl R3 _ (.tup q1 q2)
          · have N : New G3 H3 (upd G3 p (.tup (cutV xs lo hi))) (upd H3 p (.tup (cutV xs lo hi))) := New.put R3.sub hp
            exact h3 _ _ (N.stp R3) (N.rep R3) _ (.tup (Evl.st_of upd_same) ((cut_iss q2).mono N.g))
      | _ => exact False.elim h3⟩⟩⟩
end
end DF

namespace DF
open PySem PySem.Spec PyProof.Rows L2
/-! ### any(xs), all(xs) of whole numbers -/
theorem ints_plain : ∀ ns : List Int, PyData.plainAll (ns.map PyData.int) = true
  | [] => rfl
  | n :: r => by
    show (PyData.plain (.int n) && PyData.plainAll (r.map PyData.int)) = true
    rw [ints_plain r]
    rfl
theorem ints_dp {K : PySem.W.Frag} {H : Hp} : ∀ ns : List Int, DpAll K H (ns.map V.int) (ns.map PyData.int)
  | [] => .nil
  | n :: r => .cons (.int n) (ints_dp r)
def rAnyI (K : PySem.W.Frag) : List V → Hp → VK → Prop := fun vs H Q => ∃ (a : Addr) (ns : List Int), vs = [V.ref a] ∧ SqL K H a (ns.map V.int) ∧ Q (.bl (ns.any fun i => i != 0)) H
theorem call_anyI {X : Cx} (hc : X.calm = true) : CallR X (.builtin "any") (rAnyI X.K) := by
  intro pins s σ H vs us Q I r hyp
  obtain ⟨a, ns, ev, hq, q⟩ := hyp
  subst ev
  obtain ⟨its, rv, pl, _⟩ := I.list hq
  rw [Vals.ref1 r]
  obtain ⟨as, rd⟩ := Dp.readsAll I _ _ _ (ints_dp ns) rv
  refine PySem.W.any_list_data (vs := its.toArray) (I.ok.hd hc) pl.isList (by simpa using rd) (ints_plain ns) (fun x hx => by
    obtain ⟨i, _, rfl⟩ := List.mem_map.mp hx
    exact trivial) fun h' tk hk => ⟨.bl _, H, I.kept (t' := tk) hk, ?_, q⟩
  show Value.bool _ = Value.bool _
  rw [List.any_map]
  rfl
def anyID (xs : List D) : Option D := match xs with
  | [d] => match listOf d with
    | some l => (intsD l).map fun ns => .bl (ns.any fun i => i != 0)
    | none => none
  | _ => none
theorem cas_anyI {K : PySem.W.Frag} : CaS K (rAnyI K) anyID := fun xs z vs G H Q eS hx e k => by
  unfold anyID at e
  split at e
  · rename_i d
    split at e
    · rename_i l e1
      obtain ⟨v, rfl, h⟩ := tops1 hx
      obtain ⟨a, ys, rfl, h1, h2⟩ := listOf_top eS h e1
      cases q : intsD l with
      | none => rw [q] at e; cases e
      | some ns =>
        rw [q] at e; cases e
        rw [intsD_of q] at h2
        exact ⟨a, ns, rfl, by rw [← h2.ints]; exact h1, k _ G H (New.refl eS) (.bl _)⟩
    · cases e
  · cases e
/-- the first of two readings that has a word -/
def orC (g g' : List D → Option D) (xs : List D) : Option D := match g xs with
  | some z => some z
  | none => g' xs
theorem cas_or {K : PySem.W.Frag} {r r' : List V → Hp → VK → Prop} {g g' : List D → Option D} (h : CaS K r g) (h' : CaS K r' g') : CaS K (fun xs H Q => r xs H Q ∨ r' xs H Q) (orC g g') := fun xs z vs G H Q eS hx e k => by
  unfold orC at e
  cases q : g xs with
  | some w =>
    rw [q] at e
    cases e
    exact .inl (h xs _ vs G H Q eS hx q k)
  | none =>
    rw [q] at e
    exact .inr (h' xs z vs G H Q eS hx e k)
def anyAD : List D → Option D := orC anyD anyID
end DF

/-! t[::-1], t a tuple -/
namespace DF
open PySem PySem.Spec PyProof.Rows L2
theorem rv_adj (n : Nat) : Builtin.Slice.sliceAdjust none none (-1) (n : Int) = ((n : Int) - 1, -1) := rfl
theorem rv_places (n : Nat) : Builtin.Slice.slicePlaces ((n : Int) - 1) (-1) (-1) = n := by
  unfold Builtin.Slice.slicePlaces
  rw [if_neg (by decide)]
  by_cases h : n = 0
  · subst h; rfl
  · rw [if_pos (by omega)]
    show (((n : Int) - 1 - -1 - 1) / 1 + 1).toNat = n
    rw [Int.ediv_one]
    omega
theorem fmap_cong {α β : Type} {f g : α → Option β} : ∀ {l : List α}, (∀ a ∈ l, f a = g a) → l.filterMap f = l.filterMap g
  | [], _ => rfl
  | a :: l, h => by
    rw [List.filterMap_cons, List.filterMap_cons, h a List.mem_cons_self, fmap_cong fun b hb => h b (List.mem_cons_of_mem _ hb)]
theorem rv_pick (xs : List Value) : ((List.range xs.length).filterMap fun (m : Nat) => xs.toArray[(((xs.length : Int) - 1) + (m : Int) * -1).toNat]?).toArray = xs.reverse.toArray := by
  congr 1
  have e1 : (List.range xs.length).filterMap (fun (m : Nat) => xs.toArray[(((xs.length : Int) - 1) + (m : Int) * -1).toNat]?) = (List.range xs.length).filterMap fun m => xs.reverse[m]? := by
    refine fmap_cong fun m hm => ?_
    have hm := List.mem_range.mp hm
    rw [List.getElem?_reverse hm]
    have : (((xs.length : Int) - 1) + (m : Int) * -1).toNat = xs.length - 1 - m := by omega
    rw [this]
    simp
  rw [e1]
  have e2 : ∀ l : List Value, (List.range l.length).filterMap (fun m => l[m]?) = l := by
    intro l
    induction l with
    | nil => rfl
    | cons a r ih =>
      rw [List.length_cons, List.range_succ_eq_map, List.filterMap_cons]
      simp only [List.getElem?_cons_zero, List.filterMap_map]
      congr 1
  have := e2 xs.reverse
  rw [List.length_reverse] at this
  exact this
section
variable {prog : Program} {w : World} {A : Around} {E : Value → Shared → Prop} {s : Shared}
theorem rv_applied {sl : Addr} {vk : Value} {n : Nat} {Q : Int × Int × Nat → Shared → Prop} (hsl : s.heap.IsSliceOf sl .none .none vk) (pk : IsPart vk (some (-1))) (hyp : Q ((n : Int) - 1, -1, n) s) :
    wpAny (model prog w) A (Builtin.Slice.sliceApplied (.ref sl) (pure (n : Int))) Q E s := by
  obtain ⟨ob, hob, hcb, hdb⟩ := id hsl
  unfold Builtin.Slice.sliceApplied Builtin.Slice.sliceFields
  refine wpAny_bind (wpAny_bind (wpAny_field hob hdb (x := .none) rfl (wpAny_bind (wpAny_field hob hdb (x := .none) rfl (wpAny_bind (wpAny_field hob hdb (x := vk) rfl (wpAny_pure ?_)))))))
  refine wpAny_bind (HT.slicePart_ pk ?_)
  show wpAny _ _ (if ((-1 : Int) == 0) = true then _ else _) _ _ s
  rw [if_neg (by decide)]
  refine wpAny_bind (HT.slicePart_ .none (wpAny_bind (HT.slicePart_ .none (wpAny_bind (wpAny_pure ?_)))))
  show wpAny _ _ (match Builtin.Slice.sliceAdjust none none (-1) (n : Int) with | (lo, hi) => pure (lo, (-1 : Int), Builtin.Slice.slicePlaces lo hi (-1))) _ _ s
  rw [rv_adj n]
  show wpAny _ _ (pure ((n : Int) - 1, (-1 : Int), Builtin.Slice.slicePlaces ((n : Int) - 1) (-1) (-1))) _ _ s
  rw [rv_places]
  exact wpAny_pure hyp
theorem rv_get {t sl : Addr} {xs : List Value} {vk : Value} {Q : Value → Shared → Prop} (htp : IsTup s.heap t xs.toArray) (hsl : s.heap.IsSliceOf sl .none .none vk) (pk : IsPart vk (some (-1)))
    (hyp : Q (.ref s.heap.objs.size) { s with heap := s.heap.push { cls := .type "tuple", data := .seq xs.reverse.toArray } }) (hz : xs.length ≤ sizeLine) : wpAny (model prog w) A (getItem (.ref t) (.ref sl)) Q E s := by
  have hok : sizeOk (.seq xs.reverse.toArray) := by
    show xs.reverse.toArray.size ≤ sizeLine
    rw [List.size_toArray, List.length_reverse]
    exact hz
  obtain ⟨ob, hob, hcb, hdb⟩ := id hsl
  have hty : s.TypeIs (.ref sl) "slice" := ⟨ob, hob, hcb⟩
  unfold getItem
  try with_reducible refine wpAny_holding ?_
  first | refine wpAny_bind (wpAny_pure ?_) | skip
  refine wpAny_bind (wpAny_sequenceKey htp.typeIs (by decide) (wpAny_bind (wpAny_callSpecial?_slot (name := Str.ofString "__getitem__") htp.typeIs PyProof.Rows.slot_tuple_getitem
    (wpAny_call_entry PyProof.Rows.slot_tuple_getitem htp.typeIs entry_tuple_getitem ?_ (args_tuple_getitem _ _)))))
  show wpAny _ _ (Builtin.Tuple.tupleItemsOf (.ref t) >>= _) _ _ s
  refine wpAny_bind (tupleItemsOf_ htp (wpAny_bind (wpAny_typeOf hty ?_)))
  rw [if_pos (by decide)]
  refine wpAny_bind (rv_applied (n := xs.toArray.size) hsl pk ?_)
  have hno : ¬ ((((xs.toArray.size : Nat) : Int) - 1 == 0 && (-1 : Int) == 1 && xs.toArray.size == xs.toArray.size) = true) := by
    intro q
    rw [Bool.and_eq_true, Bool.and_eq_true] at q
    exact absurd q.1.2 (by decide)
  show wpAny _ _ (if (((xs.toArray.size : Nat) : Int) - 1 == 0 && (-1 : Int) == 1 && xs.toArray.size == xs.toArray.size) = true then _ else _) _ _ s
  rw [if_neg hno, List.size_toArray, rv_pick]
  first
    | exact wpAny_bind (m := Builtin.Tuple.tupleExact _) (wpAny_newObj_type (wpAny_pure ⟨_, rfl, wpAny_pure hyp⟩) hok)
    | exact wpAny_bind (m := Builtin.Tuple.tupleExact _) (wpAny_newObj_type (wpAny_bind (wpAny_pure (wpAny_pure ⟨_, rfl, wpAny_pure hyp⟩))) hok)
    | exact wpAny_bind (wpAny_bind (m := Builtin.Tuple.tupleExact _) (wpAny_newObj_type (wpAny_pure (wpAny_pure ⟨_, rfl, wpAny_pure hyp⟩)) hok))
    | exact wpAny_bind (wpAny_bind (m := Builtin.Tuple.tupleExact _) (wpAny_newObj_type (wpAny_pure ⟨_, rfl, wpAny_pure hyp⟩) hok))
end
def tRevT (K : PySem.W.Frag) (te : TE) : TE := fun σ H Q => te σ H fun x H1 => ∃ a xs, x = .ref a ∧ SqT K H1 a xs ∧ ∀ p, H1 p = none → Q (.ref p) (upd H1 p (.tup xs.reverse))
theorem pe_revT {X : Cx} {e : Expr} {te : TE} {k : Nat} {p1 p2 p3 pos : Pos} (he : PE X e te) : PE X (.Subscript e (.Slice none none (some (.UnaryOp .USub (.Constant (.int 1) k p1) p2)) p3) pos) (tRevT X.K te) := by
  refine ⟨fun pins s σ H Q I hyp => Subscript_ (thn (he.run pins s σ H _ I hyp) fun v s1 ⟨x, H1, I1, r1, q1⟩ => ?_)⟩
  obtain ⟨a, xs, ev, hx, q⟩ := q1
  subst ev
  cases r1
  have hneg : PO X (some (.UnaryOp .USub (.Constant (.int 1) k p1) p2)) (tPart (tUn (rU fun i => .int (-i)) (tC (.int 1)))) := po_some (pe_un un_neg pe_int)
  refine wpAny_Slice (thn (po_none.run pins s1 σ H1 (fun o J => o = none ∧ J = H1) I1 ⟨rfl, rfl⟩) fun vl s2 ⟨l, J2, I2, pl, el, e2⟩ => thn (po_none.run pins s2 σ J2 (fun o J => o = none ∧ J = J2) I2 ⟨rfl, rfl⟩) fun vu s3 ⟨u, J3, I3, pu, eu, e3⟩ =>
    thn (hneg.run pins s3 σ J3 (fun o J => o = some (-1) ∧ J = J3) I3 ⟨1, rfl, -1, rfl, rfl, rfl⟩) fun vs s4 ⟨o, J4, I4, ps, eo, e4⟩ => ?_)
  subst el e2 eu e3 eo e4
  cases pl
  cases pu
  have I5 : Inv X pins σ J4 { s4 with heap := s4.heap.push { cls := .type "slice", data := .fields #[.none, .none, vs] } } := I4.kept (t' := s4.toks) fun b ob z => Heap.get?_push_of_some _ z
  obtain ⟨its, r, ht, hz⟩ := I5.tuple hx
  show wpAny (model X.prog X.w) X.A (subscriptTail e (.Slice none none (some (.UnaryOp .USub (.Constant (.int 1) k p1) p2)) p3) (.ref a) (.ref s4.heap.objs.size)) _ X.xe _
  refine tail_any (ops := [.ref a, .ref s4.heap.objs.size]) ht.typeIs PyProof.Rows.slot_tuple_getitem.lookup (rv_get ht (Heap.IsSliceOf.new _ .none .none vs) ps ?_ (by rw [← r.length]; exact hz)) (by with_unfolding_all rfl)
  refine ⟨.ref _, _, I5.laid (t' := s4.toks) (o := .tup xs.reverse) (fun b ob z => Heap.get?_push_of_some _ z) (Nat.le_refl _) ?_, rfl, q _ (I5.hok.fresh (Nat.le_refl _))⟩
  exact ⟨by rw [List.length_reverse]; exact hz, _, r.reverse, IsTup.new _ _⟩
def revTD (d : D) : Option D := match d with
  | .tup l => some (.tup l.reverse)
  | _ => none
theorem de_revT {X : Cx} {W : WX} {e : Expr} {k : Nat} {p1 p2 p3 pos : Pos} {f : DEnv → R Th} (ha : DO X W e f) : DE X W (.Subscript e (.Slice none none (some (.UnaryOp .USub (.Constant (.int 1) k p1) p2)) p3) pos) (dUn revTD f) :=
  pe_imp (pe_revT ha) fun σ H Q ⟨ρ, G, R, h⟩ => ⟨ρ, G, R, (Go.bind R h).imp fun t ρ' G' H' s R' h v hv => by
    split at h
    · rename_i d e1
      have ht := hv ρ' G' H' d .refl R' e1
      cases d with
      | tup l =>
        cases ht with
        | @tup l a xs q1 q2 =>
          refine ⟨a, xs, rfl, Evl.ex_t R'.sub q1, fun p hp => ?_⟩
          have N : New G' H' (upd G' p (.tup xs.reverse)) (upd H' p (.tup xs.reverse)) := New.put R'.sub hp
          exact h _ _ (N.stp R') (N.rep R') _ (.tup (Evl.st_of upd_same) (q2.reverse.mono N.g))
      | _ => exact False.elim h
    · exact False.elim h⟩
end DF

/-! a, b = x, y where some of these are lists or dicts just made -/
namespace DF
open PySem PySem.Spec PyProof.Rows L2
abbrev FreshAt (K : PySem.W.Frag) (σ : Sl) (ρ : DEnv) (G H H0 : Hp) (a : Addr) (d : D) : Prop := G a = none ∧ ¬ Mu false ρ σ a ∧ ¬ Mu true ρ σ a ∧ H0 a = none ∧ Cont K G H a d
inductive XAll (K : PySem.W.Frag) (σ : Sl) (ρ : DEnv) (G H H0 : Hp) : List (Bool × D) → List V → List Addr → Prop
  | nil : XAll K σ ρ G H H0 [] [] []
  | val {d : D} {v : V} {l : List (Bool × D)} {vs : List V} {as : List Addr} : Is K G d v → XAll K σ ρ G H H0 l vs as → XAll K σ ρ G H H0 ((false, d) :: l) (v :: vs) as
  | fr {d : D} {a : Addr} {l : List (Bool × D)} {vs : List V} {as : List Addr} : FreshAt K σ ρ G H H0 a d → a ∉ as → XAll K σ ρ G H H0 l vs as → XAll K σ ρ G H H0 ((true, d) :: l) (.ref a :: vs) (a :: as)
theorem XAll.base {K : PySem.W.Frag} {σ : Sl} {ρ : DEnv} {G H H0 H1 : Hp} (t : ∀ b, H1 b = none → H0 b = none) : ∀ {l : List (Bool × D)} {vs : List V} {as : List Addr}, XAll K σ ρ G H H1 l vs as → XAll K σ ρ G H H0 l vs as
  | _, _, _, .nil => .nil
  | _, _, _, .val h r => .val h (XAll.base t r)
  | _, _, _, .fr h n r => .fr ⟨h.1, h.2.1, h.2.2.1, t _ h.2.2.2.1, h.2.2.2.2⟩ n (XAll.base t r)
theorem XAll.none {K : PySem.W.Frag} {σ : Sl} {ρ : DEnv} {G H H0 : Hp} : ∀ {l : List (Bool × D)} {vs : List V} {as : List Addr}, XAll K σ ρ G H H0 l vs as → ∀ a ∈ as, H0 a = none
  | _, _, _, .nil, a, m => by cases m
  | _, _, _, .val h r, a, m => XAll.none r a m
  | _, _, _, .fr h n r, a, m => by
    rcases List.mem_cons.mp m with z | z
    · rw [z]; exact h.2.2.2.1
    · exact XAll.none r a z
theorem FreshAt.later {K : PySem.W.Frag} {σ : Sl} {ρ ρ1 : DEnv} {G H H0 G1 H1 : Hp} {a : Addr} {d : D} (h : FreshAt K σ ρ G H H0 a d) (s : Stp ρ σ G H ρ1 σ G1 H1) : FreshAt K σ ρ1 G1 H1 H0 a d := by
  obtain ⟨h0, h1, h2, h3, h4⟩ := h
  obtain ⟨o, ho⟩ := h4.there
  refine ⟨?_, fun m => ?_, fun m => h2 (s.io_back m), h3, h4.mono s.g fun o q => s.h a o h1 h2 q⟩
  · cases q : G1 a with
    | none => rfl
    | some u =>
      rcases s.n a h0 (by rw [q]; exact fun z => by cases z) with z | z
      · rw [z] at ho; cases ho
      · exact absurd z h1
  · rcases s.ow a m with z | z
    · exact h1 z
    · rw [z] at ho; cases ho
def tXs (K : PySem.W.Frag) (W : WX) (f : DEnv → R (List (Bool × D))) : TA := fun σ H Q => ∃ ρ G, Rep K G H ρ σ ∧ Go K W σ ρ G H (fun l ρ' G' H' => ∀ vs as, XAll K σ ρ' G' H' H l vs as → Q vs H') (f ρ)
abbrev DXs (X : Cx) (W : WX) (es : List Expr) (f : DEnv → R (List (Bool × D))) : Prop := PA X es (tXs X.K W f)
def xNil : DEnv → R (List (Bool × D)) := fun ρ => .ok ρ []
def xVal (f : DEnv → R D) (g : DEnv → R (List (Bool × D))) : DEnv → R (List (Bool × D)) := fun ρ => (f ρ).bind fun d ρ1 => (g ρ1).bind fun l ρ2 => .ok ρ2 ((false, d) :: l)
def xFr (f : DEnv → R D) (g : DEnv → R (List (Bool × D))) : DEnv → R (List (Bool × D)) := fun ρ => (f ρ).bind fun d ρ1 => (g ρ1).bind fun l ρ2 => .ok ρ2 ((true, d) :: l)
section
variable {X : Cx} {W : WX} {e : Expr} {es : List Expr} {f : DEnv → R D} {g : DEnv → R (List (Bool × D))}
theorem xs_nil : DXs X W [] xNil := pa_imp pa_nil fun σ H Q ⟨ρ, G, R, h⟩ => h G H .refl R [] [] .nil
theorem xs_val (h1 : DE X W e f) (h2 : DXs X W es g) (hs : starEach (e :: es) X.env = (false, eval e X.env) :: starEach es X.env := by rfl) : DXs X W (e :: es) (xVal f g) :=
  pa_imp (pa_cons h1 h2 hs) fun σ H Q ⟨ρ, G, R, h⟩ => ⟨ρ, G, R, by
    unfold xVal at h
    cases e1 : f ρ with
    | no => rw [e1] at h; exact h
    | ex ρ' ee => rw [e1] at h; exact h
    | ok ρ1 d =>
      rw [e1] at h
      intro G1 H1 s1 R1 v hv
      have h1 := Go.shift R s1 (show Go X.K W σ ρ G H _ ((g ρ1).bind fun l ρ2 => DF.R.ok ρ2 ((false, d) :: l)) from h)
      refine ⟨ρ1, G1, R1, ?_⟩
      cases e2 : g ρ1 with
      | no => rw [e2] at h1; exact h1
      | ex ρ' ee => rw [e2] at h1; exact h1
      | ok ρ2 l =>
        rw [e2] at h1
        intro G2 H2 s2 R2 vs as hx
        exact h1 G2 H2 s2 R2 (v :: vs) as (.val (hv.mono s2.g) (hx.base s1.t))⟩
theorem xs_fr (h1 : DF' X W e f) (h2 : DXs X W es g) (hs : starEach (e :: es) X.env = (false, eval e X.env) :: starEach es X.env := by rfl) : DXs X W (e :: es) (xFr f g) :=
  pa_imp (pa_cons h1 h2 hs) fun σ H Q ⟨ρ, G, R, h⟩ => ⟨ρ, G, R, by
    unfold xFr at h
    cases e1 : f ρ with
    | no => rw [e1] at h; exact h
    | ex ρ' ee => rw [e1] at h; exact h
    | ok ρ1 d =>
      rw [e1] at h
      intro G1 H1 s1 R1 a q0 q1 q2 q3 q4
      have h1 := Go.shift R s1 (show Go X.K W σ ρ G H _ ((g ρ1).bind fun l ρ2 => DF.R.ok ρ2 ((true, d) :: l)) from h)
      refine ⟨ρ1, G1, R1, ?_⟩
      cases e2 : g ρ1 with
      | no => rw [e2] at h1; exact h1
      | ex ρ' ee => rw [e2] at h1; exact h1
      | ok ρ2 l =>
        rw [e2] at h1
        intro G2 H2 s2 R2 vs as hx
        have F1 : FreshAt X.K σ ρ1 G1 H1 H a d := ⟨q0, q1, q2, q3, q4⟩
        refine h1 G2 H2 s2 R2 (.ref a :: vs) (a :: as) (.fr (F1.later s2) (fun m => ?_) (hx.base s1.t))
        obtain ⟨o, ho⟩ := q4.there
        rw [hx.none a m] at ho
        cases ho⟩
end
/-- the slots are filled one after another -/
def putA : List Nat → List (Bool × D) → DEnv → Option DEnv
  | [], [], ρ => some ρ
  | i :: is, (false, d) :: l, ρ => match setV i d ρ with
    | none => none
    | some ρ1 => putA is l ρ1
  | i :: is, (true, d) :: l, ρ => match setF i d ρ with
    | none => none
    | some ρ1 => putA is l ρ1
  | _, _, _ => none
def putS : List Nat → List V → Sl → Sl
  | i :: is, v :: vs, σ => putS is vs (σ.set i (some v))
  | _, _, σ => σ
theorem mu_setF {ρ ρ1 : DEnv} {σ : Sl} {i : Nat} {d : D} {a b : Addr} {k : Bool} (e : setF i d ρ = some ρ1) (hl : i < σ.length) (m : Mu k ρ1 (σ.set i (some (.ref a))) b) : b = a ∨ Mu k ρ σ b := by
  unfold setF at e
  split at e
  · cases e
    obtain ⟨j, d', q1, q2⟩ := m
    rcases set_get q1 with ⟨z, y⟩ | ⟨n, y⟩
    · subst z
      rw [List.getElem?_set_self hl] at q2
      cases q2
      exact .inl rfl
    · rw [List.getElem?_set_ne n] at q2
      exact .inr ⟨j, d', y, q2⟩
  · cases e
theorem mu_setV {ρ ρ1 : DEnv} {σ : Sl} {i : Nat} {d : D} {v : V} {b : Addr} {k : Bool} (e : setV i d ρ = some ρ1) (m : Mu k ρ1 (σ.set i (some v)) b) : Mu k ρ σ b := by
  unfold setV at e
  split at e
  · cases e
    obtain ⟨j, d', q1, q2⟩ := m
    rcases set_get q1 with ⟨z, y⟩ | ⟨n, y⟩
    · cases y
    · rw [List.getElem?_set_ne n] at q2
      exact ⟨j, d', y, q2⟩
  · cases e
theorem XAll.sets {K : PySem.W.Frag} {σ σ' : Sl} {ρ ρ' : DEnv} {G H H0 : Hp} : ∀ {l : List (Bool × D)} {vs : List V} {as : List Addr}, XAll K σ ρ G H H0 l vs as → (∀ a ∈ as, ∀ k, Mu k ρ' σ' a → Mu k ρ σ a) → XAll K σ' ρ' G H H0 l vs as
  | _, _, _, .nil, _ => .nil
  | _, _, _, .val h r, q => .val h (XAll.sets r q)
  | _, _, _, .fr h n r, q => .fr ⟨h.1, fun m => h.2.1 (q _ List.mem_cons_self _ m), fun m => h.2.2.1 (q _ List.mem_cons_self _ m), h.2.2.2⟩ n (XAll.sets r fun a m => q a (List.mem_cons_of_mem _ m))
theorem putA_ok {K : PySem.W.Frag} {ρ0 : DEnv} {σ0 : Sl} {G0 H0 G H : Hp} : ∀ {is : List Nat} {l : List (Bool × D)} {vs : List V} {as : List Addr} {ρ ρ2 : DEnv} {σ : Sl}, XAll K σ ρ G H H0 l vs as → Rep K G H ρ σ → Stp ρ0 σ0 G0 H0 ρ σ G H → putA is l ρ = some ρ2 →
    Rep K G H ρ2 (putS is vs σ) ∧ Stp ρ0 σ0 G0 H0 ρ2 (putS is vs σ) G H
  | [], [], [], _, ρ, ρ2, σ, _, R, s, e => by cases e; exact ⟨R, s⟩
  | i :: is, (false, d) :: l, _, as, ρ, ρ2, σ, .val (v := v) (vs := vs) h r, R, s, e => by
    have e : (match setV i d ρ with
      | none => none
      | some ρ1 => putA is l ρ1) = some ρ2 := e
    cases e1 : setV i d ρ with
    | none => rw [e1] at e; cases e
    | some ρ1 =>
      rw [e1] at e
      have hs := Stp.setV (v := v) R e1
      have R1 := R.setV e1 h
      have r1 : XAll K (σ.set i (some v)) ρ1 G H H0 l vs as := XAll.sets r fun a m k => mu_setV e1
      have s1 : Stp ρ0 σ0 G0 H0 ρ1 (σ.set i (some v)) G H := by
        refine ⟨s.g, s.h, s.t, s.n, fun b m => s.ow b (mu_setV e1 m), fun j => ⟨fun d' q => ?_, fun d' q => ?_⟩⟩
        · obtain ⟨d1, f1, f2⟩ := (s.io j).1 d' q
          obtain ⟨d2, f3, f4⟩ := (hs.io j).1 d1 f1
          exact ⟨d2, f3, f4.trans f2⟩
        · obtain ⟨d1, f1⟩ := (hs.io j).2 d' q
          exact (s.io j).2 d1 f1
      have e : putA is l ρ1 = some ρ2 := e
      have z := putA_ok r1 R1 s1 e
      exact z
  | i :: is, (true, d) :: l, _, _, ρ, ρ2, σ, .fr (a := a) (vs := vs) (as := as) h n r, R, s, e => by
    have e : (match setF i d ρ with
      | none => none
      | some ρ1 => putA is l ρ1) = some ρ2 := e
    cases e1 : setF i d ρ with
    | none => rw [e1] at e; cases e
    | some ρ1 =>
      rw [e1] at e
      have hl : i < σ.length := by
        rw [← R.len]
        unfold setF at e1
        split at e1
        · rename_i hf; exact free_lt hf
        · cases e1
      have s1 := s.setF R e1 h.2.2.2.1
      have R1 := R.setF e1 h.1 h.2.1 h.2.2.1 h.2.2.2.2
      have r1 : XAll K (σ.set i (some (.ref a))) ρ1 G H H0 l vs as := XAll.sets r fun b m k q => (mu_setF e1 hl q).resolve_left fun z => n (by rw [← z]; exact m)
      have e : putA is l ρ1 = some ρ2 := e
      have z := putA_ok r1 R1 s1 e
      exact z
  | [], _ :: _, _, _, _, _, _, _, _, _, e => by unfold putA at e; cases e
def dParX (is : List Nat) (f : DEnv → R (List (Bool × D))) : DEnv → SR := fun ρ => match f ρ with
  | .no => .no
  | .ex ρ' e => .ex ρ' e
  | .ok ρ' l => match putA is l ρ' with
    | none => .no
    | some ρ2 => .nx ρ2
theorem tparX {K : PySem.W.Frag} {W : WX} {is : List Nat} {f : DEnv → R (List (Bool × D))} {ts : TS} {ta : TA} (hs : ∀ E σ H, ta σ H (fun vs H1 => E.nx (putS is vs σ) H1 ∧ vs.length = is.length) → ts E σ H) (ha : ∀ σ H Q, tXs K W f σ H Q → ta σ H Q) : ∀ E σ H, tS K W (dParX is f) E σ H → ts E σ H := fun E σ H ⟨ρ, G, R, h⟩ => hs E σ H (ha σ H _ ⟨ρ, G, R, by
  unfold dParX at h
  cases e1 : f ρ with
  | no => rw [e1] at h; exact h
  | ex ρ' e => rw [e1] at h; exact fun G' H' d s R' hd => h d σ G' H' s R' hd
  | ok ρ' l =>
    rw [e1] at h
    intro G' H' s R' vs as hx
    have h : GoS K W σ ρ G H E (match putA is l ρ' with
      | none => SR.no
      | some ρ2 => SR.nx ρ2) := h
    cases e2 : putA is l ρ' with
    | none => rw [e2] at h; exact False.elim h
    | some ρ2 =>
      rw [e2] at h
      obtain ⟨R2, s2⟩ := putA_ok hx R' s e2
      refine ⟨h _ G' H' s2 R2, ?_⟩
      have len : ∀ {is : List Nat} {l : List (Bool × D)} {vs : List V} {as : List Addr} {ρ ρ2 : DEnv}, XAll K σ ρ' G' H' H l vs as → putA is l ρ = some ρ2 → vs.length = is.length := by
        intro is l
        induction l generalizing is with
        | nil =>
          intro vs as ρ ρ2 hx e
          cases hx
          cases is with
          | nil => rfl
          | cons _ _ => unfold putA at e; cases e
        | cons p l ih =>
          intro vs as ρ ρ2 hx e
          cases is with
          | nil => unfold putA at e; cases e
          | cons i is =>
            obtain ⟨b, d⟩ := p
            cases hx with
            | val h r =>
              unfold putA at e
              split at e
              · cases e
              · exact congrArg (· + 1) (ih r e)
            | fr h n r =>
              unfold putA at e
              split at e
              · cases e
              · exact congrArg (· + 1) (ih r e)
      exact len hx e2⟩)
section
variable {X : Cx} {W : WX} {i j l : Nat} {x y z : Str} {a b c : Expr} {f : DEnv → R (List (Bool × D))} {px py pz pt pos : Pos} {kt k2 pt2}
theorem ds_parX (hc : X.calm = true) (hN : X.N.Nodup) (hi : X.N[i]? = some x) (hj : X.N[j]? = some y) (hij : i ≠ j)
    (hx : X.env.scope.names.lookup x = some .local) (hy : X.env.scope.names.lookup y = some .local) (ha : DXs X W [a, b] f)
    (hw : swappedStores [.Tuple [.Name x px, .Name y py] kt pt] (.Tuple [a, b] k2 pt2) X.env = pure (some [x, y]))
    (hs : swapsWithSole [.Tuple [.Name x px, .Name y py] kt pt] (.Tuple [a, b] k2 pt2) pos.line X.env = pure false := by rfl) :
    DS X W (.Assign [.Tuple [.Name x px, .Name y py] kt pt] (.Tuple [a, b] k2 pt2) pos) (dParX [i, j] f) :=
  ps_imp (ps_par hc hN hi hj hij hx hy ha hw hs) (tparX (ta := tXs X.K W f) (fun E σ H ⟨ρ, G, R, h⟩ => ⟨ρ, G, R, h.imp fun l ρ' G' H' s R' q vs as hx => by
    obtain ⟨q1, q2⟩ := q vs as hx
    match vs, q2 with
    | [v, w], _ => exact ⟨v, w, rfl, q1⟩⟩) fun _ _ _ q => q)
theorem ds_parX3 (hc : X.calm = true) (hN : X.N.Nodup) (hi : X.N[i]? = some x) (hj : X.N[j]? = some y) (hl : X.N[l]? = some z) (hij : i ≠ j) (hil : i ≠ l) (hjl : j ≠ l)
    (hx : X.env.scope.names.lookup x = some .local) (hy : X.env.scope.names.lookup y = some .local) (hz : X.env.scope.names.lookup z = some .local) (ha : DXs X W [a, b, c] f)
    (hw : swappedStores [.Tuple [.Name x px, .Name y py, .Name z pz] kt pt] (.Tuple [a, b, c] k2 pt2) X.env = pure (some [x, y, z]))
    (hs : swapsWithSole [.Tuple [.Name x px, .Name y py, .Name z pz] kt pt] (.Tuple [a, b, c] k2 pt2) pos.line X.env = pure false := by rfl) :
    DS X W (.Assign [.Tuple [.Name x px, .Name y py, .Name z pz] kt pt] (.Tuple [a, b, c] k2 pt2) pos) (dParX [i, j, l] f) :=
  ps_imp (ps_par3 hc hN hi hj hl hij hil hjl hx hy hz ha hw hs) (tparX (ta := tXs X.K W f) (fun E σ H ⟨ρ, G, R, h⟩ => ⟨ρ, G, R, h.imp fun l ρ' G' H' s R' q vs as hx => by
    obtain ⟨q1, q2⟩ := q vs as hx
    match vs, q2 with
    | [v, w, u], _ => exact ⟨v, w, u, rfl, q1⟩⟩) fun _ _ _ q => q)
end
end DF

namespace DF
open PySem PySem.Spec PyProof.Rows L2
/-- a new list by a test -/
theorem df_ifExp {X : Cx} {W : WX} {a b c : Expr} {pos : Pos} {ta : DEnv → R Bool} {fa fb : DEnv → R D} (hc : DT X W c ta) (ha : DF' X W a fa) (hb : DF' X W b fb) : DF' X W (.IfExp c a b pos) (dIte ta fa fb) :=
  pe_imp (pe_ifExp hc ha hb) fun σ H Q ⟨ρ, G, R, h⟩ => ⟨ρ, G, R, by
    unfold dIte at h
    cases e1 : ta ρ with
    | no => rw [e1] at h; exact h
    | ex ρ' ee => rw [e1] at h; exact h
    | ok ρ1 k =>
      rw [e1] at h
      intro G1 H1 s1 R1
      cases k with
      | true =>
        rw [if_pos rfl]
        exact ⟨ρ1, G1, R1, (Go.shift R s1 (show Go X.K W σ ρ G H _ (fa ρ1) from h)).imp fun d ρ' G' H' s R' h a q0 q1 q2 q3 q4 => h a q0 q1 q2 (s1.t a q3) q4⟩
      | false =>
        rw [if_neg (by decide)]
        exact ⟨ρ1, G1, R1, (Go.shift R s1 (show Go X.K W σ ρ G H _ (fb ρ1) from h)).imp fun d ρ' G' H' s R' h a q0 q1 q2 q3 q4 => h a q0 q1 q2 (s1.t a q3) q4⟩⟩
end DF

namespace DF
open PySem PySem.Spec PyProof.Rows L2
/-- what an operation makes anew -/
def OpF (K : PySem.W.Frag) (r : R2) (g : D → D → Option D) : Prop := ∀ (x y z : D) (v u : V) (G H : Hp) (Q : VK), Evl.Ex G H → Top K G H x v → Top K G H y u → g x y = some z →
  (∀ p l vs, z = .lst l → H p = none → Iss K G l vs → Q (.ref p) (upd H p (.lst vs))) → r v u H Q
theorem opf_cat {K : PySem.W.Frag} : OpF K rCat catL := fun x y z v u G H Q eS hx hy e k => by
  unfold catL at e
  split at e
  · obtain ⟨a, xs, rfl, h1, h2⟩ := hx
    obtain ⟨b, ys, rfl, h3, h4⟩ := hy
    split at e
    · rename_i hl
      cases e
      exact ⟨a, b, xs, ys, rfl, rfl, h1, h3, by rw [← h2.length, ← h4.length, sizeLine_eq]; omega, fun p hp => k p _ _ rfl hp (h2.append h4)⟩
    · cases e
  · cases e
theorem opf_rep {K : PySem.W.Frag} : OpF K rRep repL := fun x y z v u G H Q eS hx hy e k => by
  unfold repL at e
  split at e
  · rename_i l n
    obtain ⟨a, xs, rfl, h1, h2⟩ := hx
    cases hy
    split at e
    · rename_i hl
      cases e
      exact ⟨a, n, xs, rfl, rfl, h1, by omega, by omega, by rw [← h2.length, sizeLine_eq]; omega, fun p hp => k p _ _ rfl hp (h2.rep _)⟩
    · cases e
  · cases e
theorem df_op {X : Cx} {W : WX} {a b : Expr} {op : Operator} {pos : Pos} {r : R2} {g : D → D → Option D} {fa fb : DEnv → R Th} (ho : OpR X (binaryOp op) r) (hs : OpF X.K r g) (hg : ∀ x y z, g x y = some z → ∃ l, z = .lst l) (ha : DO X W a fa) (hb : DO X W b fb) : DF' X W (.BinOp a op b pos) (dBin g fa fb) :=
  pe_imp (pe_op ho ha hb) fun σ H Q ⟨ρ, G, R, h⟩ => ⟨ρ, G, R, by
    unfold dBin at h
    cases e1 : fa ρ with
    | no => rw [e1] at h; exact h
    | ex ρ' ee => rw [e1] at h; exact h
    | ok ρ1 ta =>
      rw [e1] at h
      intro G1 H1 s1 R1 v hv
      refine ⟨ρ1, G1, R1, ?_⟩
      have h : Go X.K W σ ρ G H _ ((fb ρ1).bind fun tb ρ2 => match ta ρ2, tb ρ2 with
        | some x, some y => ofO ρ2 (g x y)
        | _, _ => .no) := h
      cases e2 : fb ρ1 with
      | no => rw [e2] at h; exact h
      | ex ρ' ee => rw [e2] at h; exact fun G2 H2 d s2 R2 => h G2 H2 d (s1.trans R s2) R2
      | ok ρ2 tb =>
        rw [e2] at h
        intro G2 H2 s2 R2 u hu
        have h : Go X.K W σ ρ G H _ (match ta ρ2, tb ρ2 with
          | some x, some y => ofO ρ2 (g x y)
          | _, _ => .no) := h
        split at h
        · rename_i x y ex ey
          cases e : g x y with
          | none => rw [e] at h; exact False.elim h
          | some z =>
            rw [e] at h
            obtain ⟨l, rfl⟩ := hg x y z e
            refine hs x y _ v u G2 H2 Q R2.sub (hv ρ2 G2 H2 x s2 R2 ex) (hu ρ2 G2 H2 y .refl R2 ey) e fun p l' vs ez hp hvs => ?_
            cases ez
            exact fresh_lst R (s1.trans R s2) R2 (fun G' H' s R q1 q2 q3 q4 q5 q6 => h G' H' s R q1 q2 q3 q4 q5 q6) hvs p hp
        · exact False.elim h⟩
theorem catL_lst (x y z : D) (e : catL x y = some z) : ∃ l, z = .lst l := by
  unfold catL at e
  split at e
  · split at e
    · cases e; exact ⟨_, rfl⟩
    · cases e
  · cases e
theorem repL_lst (x y z : D) (e : repL x y = some z) : ∃ l, z = .lst l := by
  unfold repL at e
  split at e
  · split at e
    · cases e; exact ⟨_, rfl⟩
    · cases e
  · cases e
end DF

namespace DF
open PySem PySem.Spec PyProof.Rows L2
def rngC (lo c : Int) (n : Nat) : List D := (List.range n).map fun (k : Nat) => D.int (lo + (k : Int) * c)
theorem itcC_s {K : PySem.W.Frag} {G0 : Hp} {lo c : Int} {n : Nat} : ItS K G0 (rngC lo c n) (Itc lo c n) where
  go := fun i d G H e eG eH => by
    unfold rngC at e
    rw [List.getElem?_map] at e
    by_cases h : i < n
    · rw [List.getElem?_range h] at e
      cases e
      refine ⟨h, fun x H' ⟨z, y⟩ => ?_⟩
      subst z y
      exact ⟨G, New.refl eH, .int _⟩
    · rw [List.getElem?_eq_none (by rw [List.length_range]; omega)] at e
      cases e
  stop := fun i G H e _ _ => by
    unfold rngC at e
    rw [List.length_map, List.length_range] at e
    exact e
def okC (i j c : Int) : Bool := decide (c ≠ 0) && decide (c.natAbs < 1073741824) && Builtin.Range.small i j c && decide (Builtin.Range.rangeSize i j c = ((Builtin.Range.rangeSize i j c).toNat : Int))
def sRng3 (f : DEnv → R (List D)) : DEnv → R (List D) := fun ρ => (f ρ).bind fun l ρ' => match l with
  | [.int i, .int j, .int c] => if okC i j c = true then .ok ρ' (rngC i c (Builtin.Range.rangeSize i j c).toNat) else .no
  | _ => .no
theorem okC_of {i j c : Int} (h : okC i j c = true) : RgC i j c (Builtin.Range.rangeSize i j c).toNat := by
  unfold okC at h
  simp only [Bool.and_eq_true, decide_eq_true_eq] at h
  exact ⟨h.1.1.1, h.1.1.2, h.1.2, h.2⟩
section
variable {X : Cx} {W : WX} {tg : Expr} {p pos : Pos}
theorem di_rng3 {a b c : Expr} {f : DEnv → R (List D)} (hg : Gl X "range") (hm : X.mg "range" = none) (ha : DVs X W [a, b, c] f)
    (hs : starEach [a, b, c] X.env = (false, eval a X.env) :: starEach [b, c] X.env := by rfl) (hpl : (backTo pos (starEach [b, c] X.env)).any (·.1) = false := by rfl) :
    DI X W tg (.Call (.Name "range" p) [a, b, c] [] pos) (sRng3 f) :=
  pi_imp (pi_range3 hg hm ha hs hpl) fun σ H Q ⟨ρ, G, R, h⟩ => ⟨ρ, G, R, (Go.bind R h).imp fun l ρ' G' H' s R' h vs hv => by
    split at h
    · rename_i i j c
      cases hv with
      | cons h1 h2 =>
        cases h2 with
        | cons h3 h4 =>
          cases h4 with
          | cons h5 h6 =>
            cases h1; cases h3; cases h5; cases h6
            split at h
            · rename_i hi
              exact ⟨i, j, c, _, rfl, okC_of hi, h G' H' .refl R' _ itcC_s⟩
            · exact False.elim h
    · exact False.elim h⟩
theorem sRng3_ap (f : DEnv → R (List D)) (ρ : DEnv) : sRng3 f ρ = (f ρ).bind fun l ρ' => match l with
  | [.int i, .int j, .int c] => if okC i j c = true then .ok ρ' (rngC i c (Builtin.Range.rangeSize i j c).toNat) else .no
  | _ => .no := rfl
end
end DF

/-! dicts -/
namespace DF
open PySem PySem.Spec PyProof.Rows L2
def valD (l : List (Key × D)) (k : Key) : Option D := (l.find? fun p => decide (p.1 = k)).map (·.2)
def insD (l : List (Key × D)) (k : Key) (d : D) : List (Key × D) :=
  if (l.any fun p => decide (p.1 = k)) = true then l.map (fun p => if p.1 = k then (p.1, d) else p) else l ++ [(k, d)]
def keyOf : D → Option Key
  | .int i => some (.inl i)
  | .str x => some (.inr x)
  | _ => none
def keyD : Key → D
  | .inl i => .int i
  | .inr x => .str x
theorem keyOf_is {K : PySem.W.Frag} {G : Hp} {d : D} {v : V} {k : Key} (h : Is K G d v) (e : keyOf d = some k) : v = kV k := by
  cases d with
  | int i => cases h; cases e; rfl
  | str x => cases h; cases e; rfl
  | _ => cases e
theorem keyOf_top {K : PySem.W.Frag} {G H : Hp} {d : D} {v : V} {k : Key} (h : Top K G H d v) (e : keyOf d = some k) : v = kV k := by
  cases d with
  | int i => cases h; cases e; rfl
  | str x => cases h; cases e; rfl
  | _ => cases e
theorem keyD_is {K : PySem.W.Frag} {G : Hp} (k : Key) : Is K G (keyD k) (kV k) := by
  cases k with
  | inl i => exact .int i
  | inr x => exact .str x
section
variable {K : PySem.W.Frag} {G : Hp}
theorem Isk.val : ∀ {l : List (Key × D)} {kvs : List (Key × V)}, Isk K G l kvs → ∀ k : Key, match valD l k with
    | some d => ∃ v, valV kvs k = some v ∧ Is K G d v
    | none => valV kvs k = none
  | _, _, .nil, k => rfl
  | _, _, @Isk.cons _ _ k0 d v l xs h r, k => by
    have ih := Isk.val r k
    by_cases e : k0 = k
    · have e1 : valD ((k0, d) :: l) k = some d := by simp [valD, List.find?_cons, e]
      rw [e1]
      exact ⟨v, valV_pos e, h⟩
    · have e1 : valD ((k0, d) :: l) k = valD l k := by simp [valD, List.find?_cons, e]
      rw [e1]
      have e2 : valV ((k0, v) :: xs) k = valV xs k := valV_neg e
      rw [e2]
      exact ih
theorem Isk.any : ∀ {l : List (Key × D)} {kvs : List (Key × V)}, Isk K G l kvs → ∀ k : Key, (l.any fun p => decide (p.1 = k)) = (kvs.any fun p => decide (p.1 = k))
  | _, _, .nil, k => rfl
  | _, _, .cons h r, k => by rw [List.any_cons, List.any_cons, Isk.any r k]
theorem Isk.repl {d : D} {v : V} (hd : Is K G d v) : ∀ {l : List (Key × D)} {kvs : List (Key × V)}, Isk K G l kvs → ∀ k : Key, Isk K G (l.map fun p => if p.1 = k then (p.1, d) else p) (kvs.map fun p => if p.1 = k then (p.1, v) else p)
  | _, _, .nil, k => .nil
  | _, _, @Isk.cons _ _ k0 d0 v0 l xs h r, k => by
    rw [List.map_cons, List.map_cons]
    by_cases e : k0 = k
    · rw [if_pos e, if_pos e]
      exact .cons hd (Isk.repl hd r k)
    · rw [if_neg e, if_neg e]
      exact .cons h (Isk.repl hd r k)
theorem Isk.append : ∀ {l m : List (Key × D)} {xs ys : List (Key × V)}, Isk K G l xs → Isk K G m ys → Isk K G (l ++ m) (xs ++ ys)
  | _, _, _, _, .nil, s => s
  | _, _, _, _, .cons h r, s => .cons h (Isk.append r s)
theorem Isk.put {d : D} {v : V} (hd : Is K G d v) {l : List (Key × D)} {kvs : List (Key × V)} (r : Isk K G l kvs) (k : Key) : Isk K G (insD l k d) (putK kvs k v) := by
  unfold insD putK
  rw [r.any k]
  split
  · exact r.repl hd k
  · exact r.append (.cons hd .nil)
theorem Isk.get : ∀ {l : List (Key × D)} {xs : List (Key × V)} {i : Nat} {k : Key} {d : D}, Isk K G l xs → l[i]? = some (k, d) → ∃ v, xs[i]? = some (k, v) ∧ Is K G d v
  | _, _, _, _, _, .nil, e => by simp at e
  | _, _, 0, _, _, .cons h _, e => by simp at e; obtain ⟨rfl, rfl⟩ := e; exact ⟨_, rfl, h⟩
  | _, _, i + 1, k, d, .cons _ r, e => by
    obtain ⟨v, h1, h2⟩ := Isk.get (i := i) (k := k) (d := d) r (by simpa using e)
    exact ⟨v, by simpa using h1, h2⟩
end
section
variable {X : Cx} {W : WX} {e o k f : Expr} {pos p1 p2 apos cpos : Pos}
/-! ### reading -/
def dGet2 (fo : DEnv → R Th) (fk fx : DEnv → R D) : DEnv → R D := fun ρ => (fo ρ).bind fun t ρ1 => match t ρ1 with
  | some (.dic _) => (fk ρ1).bind fun kd ρ2 => (fx ρ2).bind fun x ρ3 => match t ρ3, keyOf kd with
    | some (.dic l), some key => .ok ρ3 ((valD l key).getD x)
    | _, _ => .no
  | _ => .no
theorem de_get2 {fo : DEnv → R Th} {fk fx : DEnv → R D} (hu : X.A.units + 1 < cLine) (ho : DO X W o fo) (hk : DE X W k fk) (hx : DE X W f fx) (m : M2 X o "get" apos k f cpos) :
    DE X W (.Call (.Attribute o "get" apos) [k, f] [] cpos) (dGet2 fo fk fx) :=
  pe_imp (pe_dget2 hu ho hk hx m) fun σ H Q ⟨ρ, G, R, h⟩ => ⟨ρ, G, R, (Go.bind R h).imp fun t ρ1 G1 H1 s1 R1 h1 v hv => by
    split at h1
    · rename_i l0 e0
      obtain ⟨a, kvs0, rfl, q1, _⟩ := hv ρ1 G1 H1 _ .refl R1 e0
      refine ⟨a, rfl, .inl ⟨kvs0, q1⟩, ρ1, G1, R1, (Go.bind R1 h1).imp fun kd ρ2 G2 H2 s2 R2 h2 y hy => ⟨ρ2, G2, R2, (Go.bind R2 h2).imp fun x ρ3 G3 H3 s3 R3 h3 z hz => ?_⟩⟩
      split at h3
      · rename_i l key e1 e2
        obtain ⟨a', kvs, ea, q2, q3⟩ := hv ρ3 G3 H3 _ (s2.trans R1 s3) R3 e1
        cases ea
        have ey := keyOf_is hy e2
        subst ey
        refine ⟨valV kvs key, .inl ⟨kvs, key, q2, rfl, rfl⟩, ?_⟩
        have q := q3.val key
        cases ev : valD l key with
        | none =>
          rw [ev] at q h3
          rw [q]
          exact h3 G3 H3 .refl R3 z hz
        | some d =>
          rw [ev] at q h3
          obtain ⟨u, q4, q5⟩ := q
          rw [q4]
          exact h3 G3 H3 .refl R3 u q5
      · exact False.elim h3
    · exact False.elim h1⟩
def ixK (x y : D) : Option D := match x, keyOf y with
  | .dic l, some key => valD l key
  | _, _ => none
theorem de_ixK {fo fk : DEnv → R Th} (hu : X.A.units + 1 < cLine) (ho : DO X W o fo) (hk : DO X W k fk) (hs : NoSl k) : DE X W (.Subscript o k pos) (dBin ixK fo fk) :=
  pe_imp (pe_dget hu ho hk hs) fun σ H Q ⟨ρ, G, R, h⟩ => ⟨ρ, G, R, (Go.bind R h).imp fun ta ρ1 G1 H1 s1 R1 h1 v hv => ⟨ρ1, G1, R1, (Go.bind R1 h1).imp fun tb ρ2 G2 H2 s2 R2 h2 u hu => by
    split at h2
    · rename_i x y ex ey
      have hx := hv ρ2 G2 H2 x s2 R2 ex
      have hy := hu ρ2 G2 H2 y .refl R2 ey
      unfold ixK at h2
      split at h2
      · rename_i l key ek
        obtain ⟨a, kvs, rfl, q1, q2⟩ := hx
        have := keyOf_top hy ek
        subst this
        have q := q2.val key
        cases ev : valD l key with
        | none => rw [ev] at h2; exact False.elim h2
        | some d =>
          rw [ev] at q h2
          obtain ⟨w, q4, q5⟩ := q
          exact ⟨a, w, rfl, .inl ⟨kvs, key, q1, rfl, q4.symm⟩, h2 G2 H2 .refl R2 w q5⟩
      · exact False.elim h2
    · exact False.elim h2⟩⟩
def inK (x y : D) : Option D := match y, keyOf x with
  | .dic l, some key => some (.bl (valD l key).isSome)
  | _, _ => none
def ninK (x y : D) : Option D := match y, keyOf x with
  | .dic l, some key => some (.bl (!(valD l key).isSome))
  | _, _ => none
theorem isSome_of {K : PySem.W.Frag} {G : Hp} {l : List (Key × D)} {kvs : List (Key × V)} (r : Isk K G l kvs) (k : Key) : (valV kvs k).isSome = (valD l k).isSome := by
  have q := r.val k
  cases ev : valD l k with
  | none => rw [ev] at q; rw [q]; rfl
  | some d => rw [ev] at q; obtain ⟨u, q4, _⟩ := q; rw [q4]; rfl
theorem tin {fo fk : DEnv → R Th} : ∀ σ H Q, tD X.K W (dBin inK fk fo) σ H Q → tDIn (tO X.K W fk) (tO X.K W fo) σ H Q := fun σ H Q ⟨ρ, G, R, h⟩ => ⟨ρ, G, R, (Go.bind R h).imp fun ta ρ1 G1 H1 s1 R1 h1 v hv => ⟨ρ1, G1, R1, (Go.bind R1 h1).imp fun tb ρ2 G2 H2 s2 R2 h2 u hu => by
    split at h2
    · rename_i x y ex ey
      have hx := hv ρ2 G2 H2 x s2 R2 ex
      have hy := hu ρ2 G2 H2 y .refl R2 ey
      unfold inK at h2
      split at h2
      · rename_i l key ek
        obtain ⟨a, kvs, rfl, q1, q2⟩ := hy
        have := keyOf_top hx ek
        subst this
        refine ⟨a, valV kvs key, rfl, .inl ⟨kvs, key, q1, rfl, rfl⟩, h2 G2 H2 .refl R2 _ ?_⟩
        rw [isSome_of q2]
        exact .bl _
      · exact False.elim h2
    · exact False.elim h2⟩⟩
theorem tnin {fo fk : DEnv → R Th} : ∀ σ H Q, tD X.K W (dBin ninK fk fo) σ H Q → tDNotIn (tO X.K W fk) (tO X.K W fo) σ H Q := fun σ H Q ⟨ρ, G, R, h⟩ => ⟨ρ, G, R, (Go.bind R h).imp fun ta ρ1 G1 H1 s1 R1 h1 v hv => ⟨ρ1, G1, R1, (Go.bind R1 h1).imp fun tb ρ2 G2 H2 s2 R2 h2 u hu => by
    split at h2
    · rename_i x y ex ey
      have hx := hv ρ2 G2 H2 x s2 R2 ex
      have hy := hu ρ2 G2 H2 y .refl R2 ey
      unfold ninK at h2
      split at h2
      · rename_i l key ek
        obtain ⟨a, kvs, rfl, q1, q2⟩ := hy
        have := keyOf_top hx ek
        subst this
        refine ⟨a, valV kvs key, rfl, .inl ⟨kvs, key, q1, rfl, rfl⟩, h2 G2 H2 .refl R2 _ ?_⟩
        rw [isSome_of q2]
        exact .bl _
      · exact False.elim h2
    · exact False.elim h2⟩⟩
theorem de_in {fo fk : DEnv → R Th} (hu : X.A.units + 1 < cLine) (hk : DO X W k fk) (ho : DO X W o fo) (hm : behindInMarks .In o = false := by rfl) : DE X W (.Compare k [.In] [o] pos) (dBin inK fk fo) := pe_imp (pe_cmp (pc_din hu hk ho) hm) tin
theorem de_nin {fo fk : DEnv → R Th} (hu : X.A.units + 1 < cLine) (hk : DO X W k fk) (ho : DO X W o fo) (hm : behindInMarks .NotIn o = false := by rfl) : DE X W (.Compare k [.NotIn] [o] pos) (dBin ninK fk fo) := pe_imp (pe_cmp (pc_dnotin hu hk ho) hm) tnin
theorem dt_in {fo fk : DEnv → R Th} (hu : X.A.units + 1 < cLine) (hk : DO X W k fk) (ho : DO X W o fo) (hm : behindInMarks .In o = false := by rfl) : DT X W (.Compare k [.In] [o] pos) (dTst (dBin inK fk fo)) :=
  pt_imp (pt_cmp (pc_din hu hk ho) hm) fun σ H Q h => by
    obtain ⟨ρ, G, R, h⟩ := ttst σ H Q h
    exact tin σ H _ ⟨ρ, G, R, h⟩
theorem dt_nin {fo fk : DEnv → R Th} (hu : X.A.units + 1 < cLine) (hk : DO X W k fk) (ho : DO X W o fo) (hm : behindInMarks .NotIn o = false := by rfl) : DT X W (.Compare k [.NotIn] [o] pos) (dTst (dBin ninK fk fo)) :=
  pt_imp (pt_cmp (pc_dnotin hu hk ho) hm) fun σ H Q h => by
    obtain ⟨ρ, G, R, h⟩ := ttst σ H Q h
    exact tnin σ H _ ⟨ρ, G, R, h⟩
/-! ### x[k] = e -/
def muD (i : Nat) (ρ : DEnv) : Option (Bool × List (Key × D)) := match ρ[i]? with
  | some (some (.mu b (.dic l))) => some (b, l)
  | _ => none
theorem muD_of {ρ : DEnv} {i : Nat} {b : Bool} {l : List (Key × D)} (h : muD i ρ = some (b, l)) : ρ[i]? = some (some (.mu b (.dic l))) := by
  unfold muD at h
  split at h
  · rename_i b' l' e; cases h; exact e
  · cases h
def dSetK (i : Nat) (fk f : DEnv → R D) : DEnv → SR := fun ρ => (f ρ).bindS fun d ρ1 => match muD i ρ1 with
  | none => .no
  | some _ => (fk ρ1).bindS fun kd ρ2 => match muD i ρ2, keyOf kd with
    | some (b, l), some key => if l.length < 16000000 then .nx (ρ2.set i (some (.mu b (.dic (insD l key d))))) else .no
    | _, _ => .no
theorem ds_setk {i : Nat} {fk fe : DEnv → R D} (hu : X.A.units + 1 < cLine) (ho : PE X o (tVar i)) (hk : DE X W k fk) (he : DE X W e fe) (hs : swapsWith e (some (.Subscript o k p1)) pos.line X.env = pure false := by rfl) :
    DS X W (.Assign [.Subscript o k p1] e pos) (dSetK i fk fe) :=
  ps_imp (ps_dput hu ho hk he hs) fun E σ H ⟨ρ, G, R, h⟩ => ⟨ρ, G, R, (Go.bindS R h).imp fun d ρ1 G1 H1 s1 R1 h v hv => by
    split at h
    · exact False.elim h
    · rename_i q e1
      obtain ⟨b, l⟩ := q
      have e1 := muD_of e1
      obtain ⟨a, ea, e2, xs, e3, e4⟩ := R1.mu i b _ e1
      refine ⟨.ref a, ea, ρ1, G1, R1, (Go.bindS R1 h).imp fun kd ρ2 G2 H2 s2 R2 h y hy => ?_⟩
      split at h
      · rename_i b' l' key e5 e6
        have e5 := muD_of e5
        obtain ⟨a', ea', e7, ys, e8, e9⟩ := R2.mu i b' _ e5
        rw [ea] at ea'; cases ea'
        have := keyOf_is hy e6
        subst this
        split at h
        · rename_i hl
          refine ⟨a, _, rfl, .inl ⟨ys, key, e8, rfl, by rw [← e9.length, sizeLine_eq]; omega, rfl⟩, ?_⟩
          obtain ⟨s3, R3⟩ := R2.chg (o := .dK (putK ys key v)) (d1 := .dic (insD l' key d)) e5 ea ⟨_, upd_same, e9.put (hv.mono s2.g) key⟩
          exact h σ G2 _ s3 R3
        · exact False.elim h
      · exact False.elim h⟩
/-! ### what is walked -/
theorem itk_s {K : PySem.W.Frag} {G0 : Hp} {l : List (Key × D)} {d : Addr} {o : Obj} {kvs : List (Key × V)} (h : G0 d = some (.frz o (.dK kvs))) (r : Isk K G0 l kvs) : ItS K G0 (l.map fun p => keyD p.1) (Itk d o kvs) where
  go := fun i x G H e eG eH => by
    rw [List.getElem?_map] at e
    cases q : l[i]? with
    | none => rw [q] at e; cases e
    | some p =>
      rw [q] at e
      cases e
      obtain ⟨key, y⟩ := p
      obtain ⟨v, e1, e2⟩ := r.get q
      refine ⟨⟨eH _ _ (eG _ _ h), (List.getElem?_eq_some_iff.mp e1).1⟩, fun x H' ⟨z, k', v', q1, q2⟩ => ?_⟩
      subst z q2
      rw [e1] at q1; cases q1
      exact ⟨G, New.refl eH, keyD_is _⟩
  stop := fun i G H e eG eH => ⟨eH _ _ (eG _ _ h), by rw [← r.length]; rw [List.length_map] at e; exact e⟩
theorem itd_s {K : PySem.W.Frag} {G0 : Hp} {l : List (Key × D)} {d : Addr} {o : Obj} {kvs : List (Key × V)} (h : G0 d = some (.frz o (.dK kvs))) (r : Isk K G0 l kvs) : ItS K G0 (l.map fun p => p.2) (Itd d o kvs) where
  go := fun i x G H e eG eH => by
    rw [List.getElem?_map] at e
    cases q : l[i]? with
    | none => rw [q] at e; cases e
    | some p =>
      rw [q] at e
      cases e
      obtain ⟨key, y⟩ := p
      obtain ⟨v, e1, e2⟩ := r.get q
      refine ⟨⟨eH _ _ (eG _ _ h), (List.getElem?_eq_some_iff.mp e1).1⟩, fun x H' ⟨z, k', q1⟩ => ?_⟩
      subst z
      rw [e1] at q1; cases q1
      exact ⟨G, New.refl eH, e2.mono eG⟩
  stop := fun i G H e eG eH => ⟨eH _ _ (eG _ _ h), by rw [← r.length]; rw [List.length_map] at e; exact e⟩
theorem iti_s {K : PySem.W.Frag} {G0 : Hp} {l : List (Key × D)} {d : Addr} {o : Obj} {kvs : List (Key × V)} (h : G0 d = some (.frz o (.dK kvs))) (r : Isk K G0 l kvs) : ItS K G0 (l.map fun p => D.tup [keyD p.1, p.2]) (Iti d o kvs) where
  go := fun i x G H e eG eH => by
    rw [List.getElem?_map] at e
    cases q : l[i]? with
    | none => rw [q] at e; cases e
    | some p =>
      rw [q] at e
      cases e
      obtain ⟨key, y⟩ := p
      obtain ⟨v, e1, e2⟩ := r.get q
      refine ⟨⟨eH _ _ (eG _ _ h), (List.getElem?_eq_some_iff.mp e1).1⟩, fun x H' ⟨T, k', v', q1, q2, q3, q4⟩ => ?_⟩
      subst q2 q4
      rw [e1] at q1; cases q1
      have N : New G H (upd G T (.tup [kV key, v])) (upd H T (.tup [kV key, v])) := New.put eH q3
      exact ⟨_, N, .tup (Evl.st_of upd_same) (.cons (keyD_is _) (.cons ((e2.mono eG).mono N.g) .nil))⟩
  stop := fun i G H e eG eH => ⟨eH _ _ (eG _ _ h), by rw [← r.length]; rw [List.length_map] at e; exact e⟩
def sKeys (f : DEnv → R D) : DEnv → R (List D) := fun ρ => (f ρ).bind fun d ρ' => match d with
  | .dic l => .ok ρ' (l.map fun p => keyD p.1)
  | _ => .no
def sVals (f : DEnv → R D) : DEnv → R (List D) := fun ρ => (f ρ).bind fun d ρ' => match d with
  | .dic l => .ok ρ' (l.map fun p => p.2)
  | _ => .no
def sItems (f : DEnv → R D) : DEnv → R (List D) := fun ρ => (f ρ).bind fun d ρ' => match d with
  | .dic l => .ok ρ' (l.map fun p => D.tup [keyD p.1, p.2])
  | _ => .no
variable {tg : Expr} {elts : List Expr} {kk : Nat} {tpos : Pos}
theorem di_keys {f : DEnv → R D} (h : DE X W e f) : DI X W tg e (sKeys f) := pi_imp (pi_keys h) fun σ H Q ⟨ρ, G, R, h⟩ => ⟨ρ, G, R, (Go.bind R h).imp fun d ρ' G' H' s R' h v hv => by
    cases hv with
    | dic q1 q2 => exact ⟨_, _, rfl, .inl ⟨_, R'.sub _ _ q1, h G' H' .refl R' _ (itk_s q1 q2)⟩⟩
    | _ => exact False.elim h⟩
theorem di_vals {f : DEnv → R D} (h : DE X W e f) (hbase : attributeBase e "values" X.env (eval e X.env) = eval e X.env := by rfl) (hline : (apos.endLine == cpos.line) = true := by rfl) : DI X W tg (.Call (.Attribute e "values" apos) [] [] cpos) (sVals f) := pi_imp (pi_values h hbase hline) fun σ H Q ⟨ρ, G, R, h⟩ => ⟨ρ, G, R, (Go.bind R h).imp fun d ρ' G' H' s R' h v hv => by
    cases hv with
    | dic q1 q2 => exact ⟨_, _, _, rfl, R'.sub _ _ q1, h G' H' .refl R' _ (itd_s q1 q2)⟩
    | _ => exact False.elim h⟩
theorem di_items {f : DEnv → R D} (h : DE X W e f) (hbase : attributeBase e "items" X.env (eval e X.env) = eval e X.env := by rfl) (hline : (apos.endLine == cpos.line) = true := by rfl) : DI X W (.Tuple elts kk tpos) (.Call (.Attribute e "items" apos) [] [] cpos) (sItems f) := pi_imp (pi_items h hbase hline) fun σ H Q ⟨ρ, G, R, h⟩ => ⟨ρ, G, R, (Go.bind R h).imp fun d ρ' G' H' s R' h v hv => by
    cases hv with
    | dic q1 q2 => exact ⟨_, _, _, rfl, R'.sub _ _ q1, h G' H' .refl R' _ (iti_s q1 q2)⟩
    | _ => exact False.elim h⟩
end
end DF

/-! list(d.values()), list(d) -/
namespace DF
open PySem PySem.Spec PyProof.Rows L2
def tListV (td : TE) : TE := fun σ H Q => td σ H fun x H1 => ∃ d kvs, x = .ref d ∧ Rd H1 d (.dK kvs) ∧ ∀ p, H1 p = none → Q (.ref p) (upd H1 p (.lst (kvs.map (·.2))))
theorem pe_listVals {X : Cx} {e : Expr} {td : TE} {p pos apos cpos : Pos} (hc : X.calm = true) (he : PE X e td) (hg : Gl X "list") (hm : X.mg "list" = none)
    (hbase : attributeBase e "values" X.env (eval e X.env) = eval e X.env := by rfl) (hline : (apos.endLine == cpos.line) = true := by rfl)
    (h1 : starEach [.Call (.Attribute e "values" apos) [] [] cpos] X.env = (false, eval (.Call (.Attribute e "values" apos) [] [] cpos) X.env) :: starEach [] X.env := by rfl) (hpl : (backTo pos (starEach [] X.env)).any (·.1) = false := by rfl) :
    PE X (.Call (.Name "list" p) [.Call (.Attribute e "values" apos) [] [] cpos] [] pos) (tListV td) := by
  refine ⟨fun pins s σ H Q I h => ?_⟩
  refine wpAny_Call_Name_kw (ld_blt I hg hm boot_list ?_ (by decide) (by decide))
  refine PyProof.Rows.callWith_type1 (args_cons ?_ h1) h1 hpl
  refine wpAny_Call_method (T := "dict") (id := "dict.values") hbase rfl hline F.plainAttrs_dict F.slot_dict_values F.type_dict_values (thn (he.run pins s σ H _ I h) fun u s1 ⟨x, H1, I1, rx, d, kvs, ex, hd, q⟩ => ?_)
  subst ex
  obtain rfl : u = Value.ref d := rx
  obtain ⟨z, lo, vs, rk, dd⟩ := dk_rd I1.hok hd
  obtain ⟨ep, hat⟩ := dd.dictAt
  have hl : kvs.length = vs.length := Paired.length rk
  refine ⟨dd.typeIs, dd.mapOf.noDict, ?_⟩
  have I2 : Inv X pins σ H1 { s1 with heap := s1.heap.push { cls := .type "dict_values", data := .fields #[.ref d] } } := I1.kept (t' := s1.toks) fun b ob q => Heap.get?_push_of_some _ q
  show wpAny _ _ (callWith cpos (.builtin "dict.values") [.ref d] [] []) _ X.xe s1
  refine method_meetsIn F.slot_dict_values F.entry_dict_values rfl (PySem.evalArgs_none ⟨rfl, dd.typeIs, F.args_dict_values_1 _, _, meets_dict_values (mixKind X.prog X.w) d lo, ⟨vs, dd⟩, args_nil ?_⟩)
  refine PySem.W.kdl_call (s := { s1 with heap := s1.heap.push { cls := .type "dict_values", data := .fields #[.ref d] } }) (PySem.W.kdl_values (knd := mixKind X.prog X.w) (kvs := vs) (ep := ep) (d := d) (r := s1.heap.objs.size)) (I2.ok.hd hc) ⟨⟨_, Heap.get?_push_size _ rfl, rfl, rfl⟩, hat.push _⟩ (by rw [← hl]; exact z) fun h' tk acc' c' hkeep hS hacc => ?_
  refine ⟨.ref _, upd H1 _ (.lst (kvs.map (·.2))), I2.laid hkeep (Nat.le_refl _) (show ObjOk X.prog X.w _ _ _ (.lst (kvs.map (·.2))) from ⟨?_, acc'.toList, c', ?_, ?_⟩), rfl, q _ (I2.hok.fresh (Nat.le_refl _))⟩
  · rw [List.length_map]; exact z
  · have el : acc'.toList.length = acc'.size := by simp
    refine vals_of_at (by rw [List.length_map, el, hacc.1, hl]) fun j x w h1 h2 => ?_
    obtain ⟨k, hky⟩ := hacc.2 j w (by rw [← Array.getElem?_toList]; exact h2)
    rw [List.getElem?_map] at h1
    cases hq : kvs[j]? with
    | none => rw [hq] at h1; cases h1
    | some p =>
      rw [hq] at h1
      cases h1
      obtain ⟨k', y⟩ := p
      obtain ⟨u, hu, ru⟩ := kv_get rk hq
      rw [hky] at hu
      cases hu
      exact ru
  · rw [Array.toArray_toList]; exact hS
def dLvals (f : DEnv → R D) : DEnv → R D := fun ρ => (f ρ).bind fun d ρ' => match d with
  | .dic l => .ok ρ' (.lst (l.map fun p => p.2))
  | _ => .no
theorem Isk.vals {K : PySem.W.Frag} {G : Hp} : ∀ {l : List (Key × D)} {kvs : List (Key × V)}, Isk K G l kvs → Iss K G (l.map fun p => p.2) (kvs.map (·.2))
  | _, _, .nil => .nil
  | _, _, .cons h r => .cons h (Isk.vals r)
theorem Isk.keys {K : PySem.W.Frag} {G : Hp} : ∀ {l : List (Key × D)} {kvs : List (Key × V)}, Isk K G l kvs → Iss K G (l.map fun p => keyD p.1) (kvs.map fun p => kV p.1)
  | _, _, .nil => .nil
  | _, _, .cons h r => .cons (keyD_is _) (Isk.keys r)
section
variable {X : Cx} {W : WX} {e : Expr} {p pos apos cpos : Pos} {f : DEnv → R D}
theorem fresh_new {K : PySem.W.Frag} {G H : Hp} {ρ : DEnv} {σ : Sl} (R : Rep K G H ρ σ) {p : Addr} (hp : H p = none) (o : HO) : Stp ρ σ G H ρ σ G (upd H p o) ∧ Rep K G (upd H p o) ρ σ ∧ G p = none ∧ ¬ Mu false ρ σ p ∧ ¬ Mu true ρ σ p := by
  have N : New G H G (upd H p o) := New.hid R.sub hp
  have no : ∀ b, ¬ Mu b ρ σ p := fun b ⟨i, d, e1, e2⟩ => by
    obtain ⟨a, e3, _, e4⟩ := R.mu i b d e1
    rw [e2] at e3; cases e3
    obtain ⟨o, ho⟩ := e4.there
    rw [hp] at ho; cases ho
  exact ⟨N.stp R, N.rep R, sub_none R.sub hp, no false, no true⟩
theorem df_lvals (hc : X.calm = true) (hg : Gl X "list") (hm : X.mg "list" = none) (he : DE X W e f)
    (hbase : attributeBase e "values" X.env (eval e X.env) = eval e X.env := by rfl) (hline : (apos.endLine == cpos.line) = true := by rfl)
    (h1 : starEach [.Call (.Attribute e "values" apos) [] [] cpos] X.env = (false, eval (.Call (.Attribute e "values" apos) [] [] cpos) X.env) :: starEach [] X.env := by rfl) (hpl : (backTo pos (starEach [] X.env)).any (·.1) = false := by rfl) :
    DF' X W (.Call (.Name "list" p) [.Call (.Attribute e "values" apos) [] [] cpos] [] pos) (dLvals f) :=
  pe_imp (pe_listVals hc he hg hm hbase hline h1 hpl) fun σ H Q ⟨ρ, G, R, h⟩ => ⟨ρ, G, R, (Go.bind R h).imp fun d ρ' G' H' s R' h v hv => by
    cases hv with
    | @dic l a o kvs q1 q2 =>
      refine ⟨a, kvs, rfl, .inr ⟨_, R'.sub _ _ q1⟩, fun p hp => ?_⟩
      obtain ⟨s2, R2, k1, k2, k3⟩ := fresh_new R' hp (.lst (kvs.map (·.2)))
      have h : Go X.K W σ ρ' G' H' _ (DF.R.ok ρ' (D.lst (l.map fun p => p.2))) := h
      exact h G' _ s2 R2 p k1 k2 k3 (s.t p hp) ⟨_, upd_same, q2.vals⟩
    | _ => exact False.elim h⟩
end
end DF

/-! repr of a list or a tuple, where no guard of repr stands around. -/
namespace DF
open PySem PySem.Spec PyProof.Rows L2
def rprOk (p : PyData) : Bool := (match p with | .list _ => true | .tuple _ => true | _ => false) && p.showable && !p.hasDict && decide (p.depth ≤ 50) && decide (p.shown.length ≤ sizeLine)
def rprCD (xs : List D) : Option D := match xs with
  | [d] => match toP d with
    | some p => if rprOk p = true then some (.str p.shown) else none
    | none => none
  | _ => none
def rRprC (K : PySem.W.Frag) : List V → Hp → VK → Prop := fun vs H Q => ∃ v p, vs = [v] ∧ Dp K H v p ∧ rprOk p = true ∧ Q (.str p.shown) H
theorem call_rprC {X : Cx} (hg : X.A.guards = some []) (hu : X.A.units + 64 < cLine) : CallR X (.builtin "repr") (rRprC X.K) := by
  intro pins s σ H vs us Q I r h
  obtain ⟨v, p, rfl, hd, hok, q⟩ := h
  obtain ⟨u, rfl, rv⟩ := vals1 r
  unfold rprOk at hok
  simp only [Bool.and_eq_true, Bool.not_eq_true', decide_eq_true_eq] at hok
  obtain ⟨⟨⟨⟨h0, h1⟩, h2⟩, h3⟩, h4⟩ := hok
  obtain ⟨as, rd⟩ := Dp.reads I p v u hd rv
  have hr : ∃ a, u = .ref a := by
    cases hd with
    | lst _ _ => cases rv; exact ⟨_, rfl⟩
    | tup _ _ => cases rv; exact ⟨_, rfl⟩
    | _ => cases h0
  obtain ⟨a, rfl⟩ := hr
  exact repr_of_reads' rd h1 (PyData.noDict_hsm h2) hg (by omega) (fun _ _ e => e) (fun h' t tk hk => ⟨.str p.shown, H, I.kept (t' := tk) hk, ⟨t, rfl⟩, q⟩) h4
theorem cas_rprC {K : PySem.W.Frag} : CaS K (rRprC K) rprCD := fun xs z vs G H Q eS hx e k => by
  unfold rprCD at e
  split at e
  · rename_i d
    obtain ⟨v, rfl, h⟩ := tops1 hx
    split at e
    · rename_i p e1
      split at e
      · rename_i hok
        cases e
        exact ⟨v, p, rfl, dp_top eS h e1, hok, k _ G H (New.refl eS) (.str _)⟩
      · cases e
    · cases e
  · cases e
def rprX : List D → Option D := orC rprD rprCD
end DF

/-! == and != of two dicts -/
namespace DF
open PySem PySem.Spec PyProof.Rows L2
inductive HitsV (K : PySem.W.Frag) (H : Hp) (ls : List (Key × V)) : List (Key × V) → Bool → Prop
  | nil : HitsV K H ls [] true
  | miss {k : Key} {v : V} {r : List (Key × V)} : valV ls k = none → HitsV K H ls ((k, v) :: r) false
  | hit {k : Key} {v y : V} {p q : PyData} {r : List (Key × V)} {b : Bool} : valV ls k = some y → Dp K H v p → Dp K H y q → SeqAt.shaped p = true → SeqAt.shaped q = true → HitsV K H ls r b → HitsV K H ls ((k, v) :: r) (p.eqv q && b)
theorem hitsV_run {X : Cx} {pins : List (Addr × Obj)} {σ : L2.St} {H : Hp} {s : Shared} (I : L2.Inv X pins σ H s) {A : Around} (hu : A.in1.units + 64 < cLine) {ls : List (Key × V)} {vb : List (Key × Value)} (rb : KV ls vb) : ∀ {ks : List (Key × V)} {r : Bool}, HitsV X.K H ls ks r → ∀ {va : List (Key × Value)}, KV ks va → PySem.W.KeqHits A.in1 s vb va r := by
  intro ks r h
  induction h with
  | nil =>
    intro va ra
    cases ra
    exact .nil
  | @miss k v r hk =>
    intro va ra
    cases ra with
    | @cons p q ps qs h t =>
      obtain ⟨k', u⟩ := q
      obtain ⟨h1, h2⟩ := h
      have h1 : k = k' := h1
      subst h1
      have rr : RelO (valV ls k) (valueAt vb k) := rb.val k
      rw [hk] at rr
      have : valueAt vb k = none := by
        cases e : valueAt vb k with
        | none => rfl
        | some w => rw [e] at rr; exact False.elim rr
      exact .miss this
  | @hit k v y p q r b hk hp hq sp sq hr ih =>
    intro va ra
    cases ra with
    | @cons pp qq ps qs h t =>
      obtain ⟨k', u⟩ := qq
      obtain ⟨h1, h2⟩ := h
      have h1 : k = k' := h1
      subst h1
      have rr : RelO (some y) (valueAt vb k) := by rw [← hk]; exact rb.val k
      obtain ⟨w, hw, ry⟩ := rr.some_of
      obtain ⟨as, r1⟩ := Dp.reads I p v u hp h2
      obtain ⟨bs, r2⟩ := Dp.reads I q y w hq ry
      exact .hit hw (PySem.W.keq_at r1 r2 sp sq hu) (ih t)
def rEqK (K : PySem.W.Frag) : R2 := fun x y H Q => ∃ a b ks ls r, x = .ref a ∧ y = .ref b ∧ Rd H a (.dK ks) ∧ Rd H b (.dK ls) ∧ HitsV K H ls ks r ∧ Q (.bl (ks.length == ls.length && r)) H
def rNeK (K : PySem.W.Frag) : R2 := fun x y H Q => ∃ a b ks ls r, x = .ref a ∧ y = .ref b ∧ Rd H a (.dK ks) ∧ Rd H b (.dK ls) ∧ HitsV K H ls ks r ∧ Q (.bl (!(ks.length == ls.length && r))) H
theorem op_eqK {X : Cx} (hu : X.A.in1.units + 64 < cLine) (hu0 : X.A.units < cLine) : OpR X (compareOp .Eq) (rEqK X.K) := by
  intro pins s σ H x y v u Q I rx ry h
  obtain ⟨a, b, ks, ls, r, rfl, rfl, ha, hb, hh, q⟩ := h
  cases (show v = Value.ref a from rx)
  cases (show u = Value.ref b from ry)
  obtain ⟨_, ya, va, ra, da⟩ := dk_rd I.hok ha
  obtain ⟨_, yb, vb, rb, db⟩ := dk_rd I.hok hb
  refine PySem.W.keq_eq (knd := mixKind X.prog X.w) (r := r) ya yb da db hu0 (fun _ => hitsV_run I hu rb hh ra) ?_
  have e1 : ks.length = va.length := Paired.length ra
  have e2 : ls.length = vb.length := Paired.length rb
  rw [← e1, ← e2]
  exact ⟨.bl _, H, I, rfl, q⟩
theorem op_neK {X : Cx} (hu : X.A.in1.units + 64 < cLine) (hu0 : X.A.units < cLine) : OpR X (compareOp .NotEq) (rNeK X.K) := by
  intro pins s σ H x y v u Q I rx ry h
  obtain ⟨a, b, ks, ls, r, rfl, rfl, ha, hb, hh, q⟩ := h
  cases (show v = Value.ref a from rx)
  cases (show u = Value.ref b from ry)
  obtain ⟨_, ya, va, ra, da⟩ := dk_rd I.hok ha
  obtain ⟨_, yb, vb, rb, db⟩ := dk_rd I.hok hb
  refine PySem.W.keq_ne (knd := mixKind X.prog X.w) (r := r) ya yb da db hu0 (fun _ => hitsV_run I hu rb hh ra) ?_
  have e1 : ks.length = va.length := Paired.length ra
  have e2 : ls.length = vb.length := Paired.length rb
  rw [← e1, ← e2]
  exact ⟨.bl _, H, I, rfl, q⟩
/-- over data -/
def hitsD (m : List (Key × D)) : List (Key × D) → Option Bool
  | [] => some true
  | p :: r => match valD m p.1 with
    | none => some false
    | some e => match eqP p.2 e, hitsD m r with
      | some b, some c => some (b && c)
      | _, _ => none
theorem Is.dp {K : PySem.W.Frag} {G H : Hp} {d : D} {v : V} {p : PyData} (eS : Evl.Ex G H) (h : Is K G d v) (e : toP d = some p) : Dp K H v p := dp_of eS h e
theorem hitsD_run {K : PySem.W.Frag} {G H : Hp} (eS : Evl.Ex G H) {m : List (Key × D)} {ls : List (Key × V)} (rm : Isk K G m ls) : ∀ {l : List (Key × D)} {ks : List (Key × V)} {r : Bool}, Isk K G l ks → hitsD m l = some r → HitsV K H ls ks r
  | _, _, r, .nil, e => by cases e; exact .nil
  | _, _, r, @Isk.cons _ _ k d v l xs h t, e => by
    unfold hitsD at e
    have q := rm.val k
    cases ev : valD m k with
    | none =>
      rw [ev] at q
      have e : (match valD m k with
        | none => some false
        | some e => match eqP d e, hitsD m l with
          | some b, some c => some (b && c)
          | _, _ => none) = some r := e
      rw [ev] at e
      cases e
      exact .miss q
    | some d2 =>
      rw [ev] at q
      obtain ⟨y, q1, q2⟩ := q
      have e : (match valD m k with
        | none => some false
        | some e => match eqP d e, hitsD m l with
          | some b, some c => some (b && c)
          | _, _ => none) = some r := e
      rw [ev] at e
      dsimp only at e
      cases e1 : eqP d d2 with
      | none => rw [e1] at e; cases e
      | some b =>
        cases e2 : hitsD m l with
        | none => rw [e1, e2] at e; cases e
        | some c =>
          rw [e1, e2] at e
          cases e
          obtain ⟨p, pq, t1, t2, s1, s2, rfl⟩ := eqP_of e1
          exact .hit q1 (Is.dp eS h t1) (Is.dp eS q2 t2) s1 s2 (hitsD_run eS rm t e2)
def eqKB (x y : D) : Option Bool := match x, y with
  | .dic l, .dic m => (hitsD m l).map fun b => l.length == m.length && b
  | _, _ => none
def eqK (x y : D) : Option D := (eqKB x y).map .bl
def neK (x y : D) : Option D := (eqKB x y).map fun b => .bl (!b)
theorem eqKB_run {K : PySem.W.Frag} {G H : Hp} (eS : Evl.Ex G H) {x y : D} {v u : V} {b : Bool} (hx : Top K G H x v) (hy : Top K G H y u) (e : eqKB x y = some b) :
    ∃ a c ks ls r, v = .ref a ∧ u = .ref c ∧ Rd H a (.dK ks) ∧ Rd H c (.dK ls) ∧ HitsV K H ls ks r ∧ b = (ks.length == ls.length && r) := by
  unfold eqKB at e
  split at e
  · rename_i l m
    obtain ⟨a, ks, rfl, q1, q2⟩ := hx
    obtain ⟨c, ls, rfl, q3, q4⟩ := hy
    cases e1 : hitsD m l with
    | none => rw [e1] at e; cases e
    | some r =>
      rw [e1] at e
      have e : some (l.length == m.length && r) = some b := e
      cases e
      exact ⟨a, c, ks, ls, r, rfl, rfl, q1, q3, hitsD_run eS q4 q2 e1, by rw [q2.length, q4.length]⟩
  · cases e
theorem ops_eqK {K : PySem.W.Frag} : OpS K (rEqK K) eqK := fun x y z v u G H Q eS hx hy e k => by
  unfold eqK at e
  cases e1 : eqKB x y with
  | none => rw [e1] at e; cases e
  | some b =>
    rw [e1] at e
    cases e
    obtain ⟨a, c, ks, ls, r, rfl, rfl, q1, q2, q3, rfl⟩ := eqKB_run eS hx hy e1
    exact ⟨a, c, ks, ls, r, rfl, rfl, q1, q2, q3, k _ G H (New.refl eS) (.bl _)⟩
theorem ops_neK {K : PySem.W.Frag} : OpS K (rNeK K) neK := fun x y z v u G H Q eS hx hy e k => by
  unfold neK at e
  cases e1 : eqKB x y with
  | none => rw [e1] at e; cases e
  | some b =>
    rw [e1] at e
    cases e
    obtain ⟨a, c, ks, ls, r, rfl, rfl, q1, q2, q3, rfl⟩ := eqKB_run eS hx hy e1
    exact ⟨a, c, ks, ls, r, rfl, rfl, q1, q2, q3, k _ G H (New.refl eS) (.bl _)⟩
end DF
namespace DF
open PySem PySem.Spec PyProof.Rows L2
theorem in1u {k : Nat} {A : Around} (hr : RoomG k A) : A.in1.units + 64 < cLine := by
  have := hr.room.un
  show A.units + 1 + 64 < cLine
  omega
def eqX : D → D → Option D := orD eqD1 eqK
def neX : D → D → Option D := orD neD1 neK
end DF

namespace DF
open PySem PySem.Spec PyProof.Rows L2
/-! ### sorted(..) of whole numbers, also of a dict of them -/
def insI (i : Int) : List Int → List Int
  | [] => [i]
  | j :: l => if i ≤ j then i :: j :: l else j :: insI i l
def isort : List Int → List Int
  | [] => []
  | i :: l => insI i (isort l)
theorem insI_perm (i : Int) : ∀ l : List Int, (insI i l).Perm (i :: l)
  | [] => .refl _
  | j :: l => by
    unfold insI
    split
    · exact .refl _
    · exact ((insI_perm i l).cons j).trans (.swap i j l)
theorem isort_perm : ∀ l : List Int, (isort l).Perm l
  | [] => .refl _
  | i :: l => (insI_perm i _).trans ((isort_perm l).cons i)
theorem insI_sorted (i : Int) : ∀ {l : List Int}, l.Pairwise (· ≤ ·) → (insI i l).Pairwise (· ≤ ·)
  | [], _ => List.pairwise_singleton _ _
  | j :: l, h => by
    obtain ⟨h1, h2⟩ := List.pairwise_cons.mp h
    unfold insI
    split
    · rename_i q
      exact List.pairwise_cons.mpr ⟨fun x hx => (List.mem_cons.mp hx).elim (fun e => e ▸ q) fun m => Int.le_trans q (h1 x m), h⟩
    · rename_i q
      exact List.pairwise_cons.mpr ⟨fun x hx => ((insI_perm i l).mem_iff.mp hx |> List.mem_cons.mp).elim (fun e => e ▸ (by omega)) fun m => h1 x m, insI_sorted i h2⟩
theorem isort_sorted : ∀ l : List Int, (isort l).Pairwise (· ≤ ·)
  | [] => .nil
  | i :: l => insI_sorted i (isort_sorted l)
theorem isort_of {l m : List Int} (h : m.Perm l) (s : m.Pairwise (· ≤ ·)) : m = isort l :=
  List.Perm.eq_of_pairwise (le := (· ≤ ·)) (fun a b _ _ h1 h2 => Int.le_antisymm h1 h2) s (isort_sorted l) (h.trans (isort_perm l).symm)
def intKeys : List (Key × D) → Option (List Int)
  | [] => some []
  | (.inl i, _) :: l => (intKeys l).map (i :: ·)
  | (.inr _, _) :: _ => none
theorem intKeys_of {K : PySem.W.Frag} {G : Hp} : ∀ {l : List (Key × D)} {kvs : List (Key × V)} {ks : List Int}, Isk K G l kvs → intKeys l = some ks → kvs.map (·.1) = ks.map Sum.inl
  | _, _, _, .nil, e => by cases e; rfl
  | (.inl i, _) :: l, _, _, .cons h r, e => by
    unfold intKeys at e
    cases q : intKeys l with
    | none => rw [q] at e; cases e
    | some m => rw [q] at e; cases e; simp [intKeys_of r q]
  | (.inr _, _) :: l, _, _, .cons h r, e => by cases e
def sortO (d : D) : Option (List D) := match d with
  | .dic l => match intKeys l with
    | some ks => if ks.length < 64 then some ((isort ks).map D.int) else none
    | none => none
  | d => match listOf d with
    | some l => (intsD l).map fun ns => (isort ns).map D.int
    | none => none
section
variable {X : Cx} {W : WX} {e o k : Expr} {es : List Expr} {p pos : Pos} {f : DEnv → R Th}
theorem df_sorted (hc : X.calm = true) (hg : Gl X "sorted") (hm : X.mg "sorted" = none) (ha : DO X W e f) (h1 : starEach [e] X.env = (false, eval e X.env) :: starEach [] X.env := by rfl) (hpl : (backTo pos (starEach [] X.env)).any (·.1) = false := by rfl) : DF' X W (.Call (.Name "sorted" p) [e] [] pos) (dMk sortO f) :=
  df_mk (r := fun v H1 Q => rSortedI X.K [v] H1 Q ∨ ∃ (a : Addr) (kvs : List (Key × V)) (ks : List Int), [v] = [V.ref a] ∧ Rd H1 a (.dK kvs) ∧ kvs.map (·.1) = ks.map Sum.inl ∧ ks.length < 64 ∧
      ∀ (ys : List Int) (p : Addr), ys.Perm ks → ys.Pairwise (· ≤ ·) → H1 p = none → Q (.ref p) (upd H1 p (.lst (ys.map V.int))))
    (pe_imp (pe_callB (cr_sortedI.or (call_sortedDI hc)) hg hm boot_sorted (pa_cons ha pa_nil h1) (by decide) (by decide) h1 hpl) fun σ H Q ⟨ρ, G, R, h⟩ => ⟨ρ, G, R, h.imp fun t ρ' G' H' s R' h v hv => h v hv⟩)
    fun d l v G H Q eS ht e k => by
      unfold sortO at e
      split at e
      · rename_i m
        split at e
        · rename_i ks e2
          split at e
          · rename_i hl
            cases e
            obtain ⟨a, kvs, rfl, h2, h3⟩ := ht
            refine .inr ⟨a, kvs, ks, rfl, h2, intKeys_of h3 e2, hl, fun ys p k1 k2 hp => ?_⟩
            rw [isort_of k1 k2]
            exact k p _ hp (Iss.of_ints _)
          · cases e
        · cases e
      · split at e
        · rename_i m e2
          cases q : intsD m with
          | none => rw [q] at e; cases e
          | some ns =>
            rw [q] at e; cases e
            obtain ⟨a, xs, rfl, q1, q2⟩ := listOf_top eS ht e2
            rw [intsD_of q] at q2
            refine .inl ⟨a, ns, rfl, by rw [← q2.ints]; exact q1, fun ys p k1 k2 hp => ?_⟩
            rw [isort_of k1 k2]
            exact k p _ hp (Iss.of_ints _)
        · cases e
/-! ### list(d): its keys -/
def keysO (d : D) : Option (List D) := match d with
  | .dic l => some (l.map fun p => keyD p.1)
  | _ => none
theorem df_listK (hc : X.calm = true) (hg : Gl X "list") (hm : X.mg "list" = none) (ha : DO X W e f) (h1 : starEach [e] X.env = (false, eval e X.env) :: starEach [] X.env := by rfl) (hpl : (backTo pos (starEach [] X.env)).any (·.1) = false := by rfl) : DF' X W (.Call (.Name "list" p) [e] [] pos) (dMk keysO f) :=
  df_mk (r := fun v H1 Q => ∃ (a : Addr) (kvs : List (Key × V)), [v] = [V.ref a] ∧ Rd H1 a (.dK kvs) ∧ ∀ p, H1 p = none → Q (.ref p) (upd H1 p (.lst (kvs.map fun kv : Key × V => kV kv.1))))
    (pe_imp (pe_callTy (call_listD hc) hg hm boot_list (pa_cons ha pa_nil h1) (by decide) (by decide) h1 hpl) fun σ H Q ⟨ρ, G, R, h⟩ => ⟨ρ, G, R, h.imp fun t ρ' G' H' s R' h v hv => h v hv⟩)
    fun d l v G H Q eS ht e k => by
      unfold keysO at e
      split at e
      · cases e
        obtain ⟨a, kvs, rfl, h2, h3⟩ := ht
        exact ⟨a, kvs, rfl, h2, fun p hp => k p _ hp h3.keys⟩
      · cases e
end
/-! ### the least common multiple -/
def lcmD (xs : List D) : Option D := match xs with
  | [.int i, .int j] => if i.natAbs < 2 ^ 4000 ∧ j.natAbs < 2 ^ 4000 then some (.int ((Nat.lcm i.natAbs j.natAbs : Nat) : Int)) else none
  | _ => none
def rLcm : List V → Hp → VK → Prop := fun xs H Q => ∃ i j, xs = [.int i, .int j] ∧ i.natAbs < 2 ^ 4000 ∧ j.natAbs < 2 ^ 4000 ∧ Q (.int ((Nat.lcm i.natAbs j.natAbs : Nat) : Int)) H
theorem log_small {n : Nat} (h : n < 2 ^ 4000) : n.log2 < 4000 ∨ n = 0 := by
  rcases Nat.eq_zero_or_pos n with z | z
  · exact .inr z
  · exact .inl ((Nat.log2_lt (by omega)).mpr h)
theorem call_lcm {X : Cx} : CallR X (.builtin "math.lcm") rLcm := by
  intro pins s σ H xs us Q I r h
  obtain ⟨i, j, rfl, h1, h2, q⟩ := h
  cases r with
  | cons r1 r =>
    cases r with
    | cons r2 r =>
      cases r
      obtain ⟨t, rfl⟩ := r1
      obtain ⟨u, rfl⟩ := r2
      have k1 : (max 1 i.natAbs).log2 < 4000 := (Nat.log2_lt (by omega)).mpr (Nat.max_lt.mpr ⟨Nat.one_lt_two_pow (by decide), h1⟩)
      have k2 : (max i.natAbs j.natAbs).log2 < 4001 := by
        rcases Nat.eq_zero_or_pos (max i.natAbs j.natAbs) with z | z
        · rw [z]; decide
        · exact Nat.lt_succ_of_lt ((Nat.log2_lt (by omega)).mpr (Nat.max_lt.mpr ⟨h1, h2⟩))
      have e1 : Nat.lcm 1 i.natAbs = i.natAbs := Nat.lcm_one_left _
      have k3 : (Nat.lcm i.natAbs j.natAbs) < 2 ^ 8001 := by
        rcases Nat.eq_zero_or_pos (Nat.lcm i.natAbs j.natAbs) with z | z
        · rw [z]; exact Nat.two_pow_pos _
        · refine Nat.lt_of_le_of_lt (Nat.le_trans (Nat.le_of_dvd ?_ (Nat.lcm_dvd_mul _ _)) (Nat.mul_le_mul (Nat.le_of_lt h1) (Nat.le_of_lt h2))) ?_
          · rcases Nat.eq_zero_or_pos i.natAbs with y | y
            · rw [y, Nat.lcm_zero_left] at z; omega
            · rcases Nat.eq_zero_or_pos j.natAbs with y2 | y2
              · rw [y2, Nat.lcm_zero_right] at z; omega
              · exact Nat.mul_pos y y2
          · rw [← Nat.pow_add]; exact Nat.pow_lt_pow_right (by decide) (by decide)
      have k4 : ((((Nat.lcm 1 i.natAbs).lcm j.natAbs : Nat) : Int)).natAbs.log2 < bitsLine := by
        rw [e1, Int.natAbs_natCast]
        rcases Nat.eq_zero_or_pos (Nat.lcm i.natAbs j.natAbs) with z | z
        · rw [z]; decide +kernel
        · exact Nat.lt_trans ((Nat.log2_lt (by omega)).mpr k3) (by decide +kernel)
      refine call_function_meets PySem.W.MGF.kind_lcm PySem.W.MGF.plain_lcm PySem.W.MGF.entry_lcm (PySem.W.MGF.args_lcm _ _) (PySem.W.mg_run_lcm i t j u (by omega) (by omega) k4).meets ?_
      exact ⟨.int _, H, I.tok _, ⟨_, rfl⟩, by rw [e1]; exact q⟩
theorem cas_lcm {K : PySem.W.Frag} : CaS K rLcm lcmD := fun xs z vs G H Q eS hx e k => by
  unfold lcmD at e
  split at e
  · split at e
    · rename_i hz
      obtain ⟨v, u, rfl, h1, h2⟩ := tops2 hx
      cases h1; cases h2; cases e
      exact ⟨_, _, rfl, hz.1, hz.2, k _ G H (New.refl eS) (.int _)⟩
    · cases e
  · cases e
/-! ### min, max of a tuple or a list of whole numbers -/
def minL (i : Int) (l : List Int) : Int := l.foldl (fun a y => if y < a then y else a) i
def maxL (i : Int) (l : List Int) : Int := l.foldl (fun a y => if a < y then y else a) i
theorem minL_of : ∀ (l : List Int) (i : Int), PySem.W.minOf i l = minL i l
  | [], _ => rfl
  | y :: l, i => by
    have h : PySem.W.minOf i (y :: l) = PySem.W.minOf (if y < i then y else i) l := by
      show List.foldl _ (if PySem.W.DatumOrd.lt y i = true then y else i) l = _
      congr 1
      show (if decide (y < i) = true then y else i) = _
      simp only [decide_eq_true_eq]
    rw [h, minL_of l]
    rfl
theorem maxL_of : ∀ (l : List Int) (i : Int), PySem.W.maxOf i l = maxL i l
  | [], _ => rfl
  | y :: l, i => by
    have h : PySem.W.maxOf i (y :: l) = PySem.W.maxOf (if i < y then y else i) l := by
      show List.foldl _ (if PySem.W.DatumOrd.lt i y = true then y else i) l = _
      congr 1
      show (if decide (i < y) = true then y else i) = _
      simp only [decide_eq_true_eq]
    rw [h, maxL_of l]
    rfl
def minSD (xs : List D) : Option D := match xs with
  | [d] => match (seqOf d).bind intsD with
    | some (i :: l) => some (.int (minL i l))
    | _ => none
  | _ => none
def maxSD (xs : List D) : Option D := match xs with
  | [d] => match (seqOf d).bind intsD with
    | some (i :: l) => some (.int (maxL i l))
    | _ => none
  | _ => none
def rMinS (K : PySem.W.Frag) : List V → Hp → VK → Prop := fun vs H Q => ∃ (a : Addr) (i : Int) (l : List Int), vs = [V.ref a] ∧ (SqL K H a ((i :: l).map V.int) ∨ SqT K H a ((i :: l).map V.int)) ∧ Q (.int (minL i l)) H
def rMaxS (K : PySem.W.Frag) : List V → Hp → VK → Prop := fun vs H Q => ∃ (a : Addr) (i : Int) (l : List Int), vs = [V.ref a] ∧ (SqL K H a ((i :: l).map V.int) ∨ SqT K H a ((i :: l).map V.int)) ∧ Q (.int (maxL i l)) H
theorem int_held {h : Heap} {v : Value} {m : Int} (x : PySem.W.Holds h v m) : ∃ t, v = .int m t := by
  obtain ⟨as, r⟩ := x
  cases (show Reads h v (.int m) as from r)
  exact ⟨_, rfl⟩
theorem held_all {X : Cx} {pins : List (Addr × Obj)} {σ : Sl} {H : Hp} {s : Shared} {its : List Value} {ns : List Int} (I : Inv X pins σ H s) (rv : Vals (ns.map V.int) its) : PySem.W.HoldAll s.heap its.toArray.toList ns := by
  obtain ⟨as, rd⟩ := Dp.readsAll I _ _ _ (ints_dp ns) rv
  exact ⟨as, by show ReadsAll s.heap its.toArray.toList (ns.map PyData.int) as; simpa using rd⟩
theorem call_minS {X : Cx} (hc : X.calm = true) (hu : X.A.units + 64 < cLine) : CallR X (.builtin "min") (rMinS X.K) := by
  intro pins s σ H vs us Q I r hyp
  obtain ⟨a, i, l, rfl, hq, q⟩ := hyp
  rw [Vals.ref1 r]
  have hz : X.A.units + 1 + PySem.W.Datum.depth Int < cLine := by show X.A.units + 1 + 0 < cLine; omega
  rcases hq with hq | hq
  · obtain ⟨its, rv, pl, _⟩ := I.list hq
    refine PySem.W.min_list_datum (x := i) (xs := l) (I.ok.hd hc) pl.isList (held_all I rv) hz fun j v h' tk _ hv hk => ?_
    obtain ⟨t, rfl⟩ := int_held hv
    exact ⟨.int (minL i l), H, I.kept (t' := tk) hk, ⟨t, by rw [minL_of]⟩, q⟩
  · obtain ⟨its, rv, pl, _⟩ := I.tuple hq
    refine PySem.W.min_tuple_datum (x := i) (xs := l) (I.ok.hd hc) pl (held_all I rv) hz fun j v h' tk _ hv hk => ?_
    obtain ⟨t, rfl⟩ := int_held hv
    exact ⟨.int (minL i l), H, I.kept (t' := tk) hk, ⟨t, by rw [minL_of]⟩, q⟩
theorem call_maxS {X : Cx} (hc : X.calm = true) (hu : X.A.units + 64 < cLine) : CallR X (.builtin "max") (rMaxS X.K) := by
  intro pins s σ H vs us Q I r hyp
  obtain ⟨a, i, l, rfl, hq, q⟩ := hyp
  rw [Vals.ref1 r]
  have hz : X.A.units + 1 + PySem.W.Datum.depth Int < cLine := by show X.A.units + 1 + 0 < cLine; omega
  rcases hq with hq | hq
  · obtain ⟨its, rv, pl, _⟩ := I.list hq
    refine PySem.W.max_list_datum (x := i) (xs := l) (I.ok.hd hc) pl.isList (held_all I rv) hz fun j v h' tk _ hv hk => ?_
    obtain ⟨t, rfl⟩ := int_held hv
    exact ⟨.int (maxL i l), H, I.kept (t' := tk) hk, ⟨t, by rw [maxL_of]⟩, q⟩
  · obtain ⟨its, rv, pl, _⟩ := I.tuple hq
    refine PySem.W.max_tuple_datum (x := i) (xs := l) (I.ok.hd hc) pl (held_all I rv) hz fun j v h' tk _ hv hk => ?_
    obtain ⟨t, rfl⟩ := int_held hv
    exact ⟨.int (maxL i l), H, I.kept (t' := tk) hk, ⟨t, by rw [maxL_of]⟩, q⟩
theorem seqI_top {K : PySem.W.Frag} {G H : Hp} {d : D} {ns : List Int} {v : V} (eS : Evl.Ex G H) (h : Top K G H d v) (e : (seqOf d).bind intsD = some ns) : ∃ a, v = .ref a ∧ (SqL K H a (ns.map V.int) ∨ SqT K H a (ns.map V.int)) := by
  cases q : seqOf d with
  | none => rw [q] at e; cases e
  | some l =>
    rw [q] at e
    obtain ⟨a, xs, rfl, q1, q2⟩ := seqOf_top eS h q
    rw [intsD_of e] at q2
    rw [q2.ints] at q1
    exact ⟨a, rfl, q1⟩
theorem cas_minS {K : PySem.W.Frag} : CaS K (rMinS K) minSD := fun xs z vs G H Q eS hx e k => by
  unfold minSD at e
  split at e
  · split at e
    · rename_i e2
      obtain ⟨v, rfl, h⟩ := tops1 hx
      obtain ⟨a, rfl, q1⟩ := seqI_top eS h e2
      cases e
      exact ⟨a, _, _, rfl, q1, k _ G H (New.refl eS) (.int _)⟩
    · cases e
  · cases e
theorem cas_maxS {K : PySem.W.Frag} : CaS K (rMaxS K) maxSD := fun xs z vs G H Q eS hx e k => by
  unfold maxSD at e
  split at e
  · split at e
    · rename_i e2
      obtain ⟨v, rfl, h⟩ := tops1 hx
      obtain ⟨a, rfl, q1⟩ := seqI_top eS h e2
      cases e
      exact ⟨a, _, _, rfl, q1, k _ G H (New.refl eS) (.int _)⟩
    · cases e
  · cases e
/-! ### x[k], .. = .. -/
def setK (i : Nat) (fk : DEnv → R D) : Tg := fun d ρ => match muD i ρ with
  | none => none
  | some _ => match fk ρ with
    | .ok ρ1 kd => match muD i ρ1, keyOf kd with
      | some (b, l), some key => if l.length < 16000000 then some (ρ1.set i (some (.mu b (.dic (insD l key d))))) else none
      | _, _ => none
    | _ => none
theorem dg_setK {X : Cx} {o k : Expr} {pos : Pos} {i : Nat} {W : WX} {fk : DEnv → R D} (hu : X.A.units + 1 < cLine) (ho : PE X o (tVar i)) (hk : DE X W k fk)
    (ha : ∀ v, assign (.Subscript o k pos) X.env v = (do
      let ov ← holding [v] (eval o X.env)
      let iv ← holding [v, ov] (eval k X.env)
      standAt pos
      holding [v, ov, iv] (setItem ov iv v)
      release [v, ov, iv] []) := by intro _; rfl) : DG X (.Subscript o k pos) (setK i fk) [] :=
  pg_imp (pg_sub ho hk (set_dict hu) ha) fun v σ H Q ⟨ρ, G, d, R, hv, ρ', e1, q⟩ => by
    unfold setK at e1
    cases e2 : muD i ρ with
    | none => rw [e2] at e1; cases e1
    | some bl =>
      obtain ⟨b, l⟩ := bl
      rw [e2] at e1
      dsimp only at e1
      obtain ⟨a, ea, _⟩ := R.mu i b _ (muD_of e2)
      refine ⟨.ref a, ea, ρ, G, R, ?_⟩
      cases e3 : fk ρ with
      | no => rw [e3] at e1; cases e1
      | ex _ _ => rw [e3] at e1; cases e1
      | ok ρ1 kd =>
        rw [e3] at e1
        dsimp only at e1
        intro G2 H2 s2 R2 y hy
        split at e1
        · rename_i b' l' key e5 e6
          have e5 := muD_of e5
          obtain ⟨a', ea', e7, ys, e8, e9⟩ := R2.mu i b' _ e5
          rw [ea] at ea'; cases ea'
          have := keyOf_is hy e6
          subst this
          split at e1
          · rename_i hl
            cases e1
            obtain ⟨s3, R3⟩ := R2.chg (o := .dK (putK ys key v)) (d1 := .dic (insD l' key d)) e5 ea ⟨_, upd_same, e9.put (hv.mono s2.g) key⟩
            exact ⟨a, _, rfl, .inl ⟨ys, key, e8, rfl, by rw [← e9.length, sizeLine_eq]; omega, rfl⟩, q σ G2 _ (s2.trans R s3) R3 ⟨rfl, fun _ _ => rfl⟩⟩
          · cases e1
        · cases e1
end DF

/-! {k: v, ..} -/
namespace DF
open PySem PySem.Spec PyProof.Rows L2
def vPs : List ((DEnv → R D) × (DEnv → R D)) → DEnv → R (List (Key × D))
  | [], ρ => .ok ρ []
  | f :: r, ρ => (f.1 ρ).bind fun kd ρ1 => (f.2 ρ1).bind fun d ρ2 => match keyOf kd with
    | some key => (vPs r ρ2).bind fun l ρ3 => .ok ρ3 ((key, d) :: l)
    | none => .no
def disD (l : List (Key × D)) : List (Key × D) := l.foldl (fun acc kv => insD acc kv.1 kv.2) []
def dDisp (fs : List ((DEnv → R D) × (DEnv → R D))) : DEnv → R D := fun ρ => (vPs fs ρ).bind fun l ρ' => if l.length ≤ 15 then .ok ρ' (.dic (disD l)) else .no
theorem tps {K : PySem.W.Frag} {W : WX} {σ : Sl} : ∀ (fs : List ((DEnv → R D) × (DEnv → R D))) {ρ : DEnv} {G H : Hp} {Q : List (V × V) → Hp → Prop}, Rep K G H ρ σ →
    Go K W σ ρ G H (fun l _ G' H' => ∀ kvs, Isk K G' l kvs → Q (kvs.map fun kv => (kV kv.1, kv.2)) H') (vPs fs ρ) → tPairs (fs.map fun f => (tD K W f.1, tD K W f.2)) σ H Q
  | [], ρ, G, H, Q, R, h => h G H .refl R [] .nil
  | f :: r, ρ, G, H, Q, R, h => ⟨ρ, G, R, (Go.bind R h).imp fun kd ρ1 G1 H1 s1 R1 h1 v hv => ⟨ρ1, G1, R1, (Go.bind R1 h1).imp fun d ρ2 G2 H2 s2 R2 h2 y hy => by
      split at h2
      · rename_i key e
        have := keyOf_is hv e
        subst this
        exact tps r R2 ((Go.bind R2 h2).imp fun l ρ3 G3 H3 s3 R3 h3 kvs hk => h3 G3 H3 .refl R3 ((key, y) :: kvs) (.cons (hy.mono s3.g) hk))
      · exact False.elim h2⟩⟩
theorem Isk.dis {K : PySem.W.Frag} {G : Hp} : ∀ {l : List (Key × D)} {kvs : List (Key × V)} {l0 : List (Key × D)} {k0 : List (Key × V)}, Isk K G l kvs → Isk K G l0 k0 → Isk K G (l.foldl (fun acc kv => insD acc kv.1 kv.2) l0) (kvs.foldl (fun acc kv => putK acc kv.1 kv.2) k0)
  | _, _, _, _, .nil, r => r
  | _, _, _, _, .cons h t, r => by rw [List.foldl_cons, List.foldl_cons]; exact Isk.dis t (r.put h _)
section
variable {K : PySem.W.Frag} {ρ ρ' : DEnv} {σ : Sl} {G H G' H' : Hp} {p : Addr} {o o2 : HO}
/-- from ahead of a new object that is not shown, to behind its change -/
theorem Stp.chgHid (R : Rep K G H ρ σ) (hp : H p = none) (s : Stp ρ σ G (upd H p o) ρ' σ G' H') (R' : Rep K G' H' ρ' σ) : H' p = some o ∧ G' p = none ∧ ¬ Mu false ρ' σ p ∧ ¬ Mu true ρ' σ p ∧ Stp ρ σ G H ρ' σ G' (upd H' p o2) ∧ Rep K G' (upd H' p o2) ρ' σ := by
  have no : ∀ b, ¬ Mu b ρ σ p := fun b ⟨i, d, e1, e2⟩ => by
    obtain ⟨a, e3, _, e4⟩ := R.mu i b d e1
    rw [e2] at e3; cases e3
    obtain ⟨o, ho⟩ := e4.there
    rw [hp] at ho; cases ho
  have k1 : H' p = some o := s.h p o (no false) (no true) upd_same
  have k2 : G' p = none := by
    cases q : G' p with
    | none => rfl
    | some u =>
      rcases s.n p (sub_none R.sub hp) (by rw [q]; exact fun z => by cases z) with z | z
      · rw [upd_same] at z; cases z
      · exact (no false z).elim
  have k3 : ¬ Mu false ρ' σ p := fun m => by
    rcases s.ow p m with z | z
    · exact no false z
    · rw [upd_same] at z; cases z
  have k4 : ¬ Mu true ρ' σ p := fun m => no true (s.io_back m)
  have back : ∀ b, upd H p o b = none → H b = none := fun b q => by
    by_cases z : b = p
    · subst z; exact hp
    · rwa [upd_ne z] at q
  refine ⟨k1, k2, k3, k4, ⟨s.g, fun b u m1 m2 q => ?_, fun b q => ?_, fun b q1 q2 => (s.n b q1 q2).imp_left (back b), fun b m => (s.ow b m).imp_right (back b), s.io⟩, ⟨fun b u q => ?_, R'.len, R'.vl, fun i b d e => ?_, R'.ap⟩⟩
  · have z : b ≠ p := ne_of_none q hp
    rw [upd_ne z]
    exact s.h b u m1 m2 (by rw [upd_ne z]; exact q)
  · by_cases z : b = p
    · subst z; rw [upd_same] at q; cases q
    · rw [upd_ne z] at q; exact back b (s.t b q)
  · have z : b ≠ p := ne_of_none q k2
    rw [upd_ne z]; exact R'.sub b u q
  · obtain ⟨a, e1, e2, e3⟩ := R'.mu i b d e
    have z : a ≠ p := fun z => by
      subst z
      cases b with
      | false => exact k3 ⟨i, d, e, e1⟩
      | true => exact k4 ⟨i, d, e, e1⟩
    exact ⟨a, e1, e2, e3.mono (fun _ _ q => q) fun u q => by rw [upd_ne z]; exact q⟩
end
section
variable {X : Cx} {W : WX} {pos : Pos} {keys : List (Option Expr)} {values : List Expr} {fs : List ((DEnv → R D) × (DEnv → R D))} {k v : Expr} {fk fv : DEnv → R D}
abbrev DPs (X : Cx) (W : WX) (pos : Pos) (keys : List (Option Expr)) (values : List Expr) (fs : List ((DEnv → R D) × (DEnv → R D))) : Prop := PPs X pos keys values (fs.map fun f => (tD X.K W f.1, tD X.K W f.2))
theorem dps_nil : DPs X W pos [] [] [] := pps_nil
theorem dps_cons (hk : DE X W k fk) (hv : DE X W v fv) (h : DPs X W pos keys values fs) : DPs X W pos (some k :: keys) (v :: values) ((fk, fv) :: fs) := pps_cons hk hv h
theorem df_disp (h : DPs X W pos keys values fs) (hall : keys.all (·.isSome) = true := by rfl) (hl : keys.length = values.length := by rfl) (h0 : keys ≠ [] := by simp) (h15 : keys.length ≤ 15 := by decide) : DF' X W (.Dict keys values pos) (dDisp fs) :=
  pe_imp (pe_disp h hall hl h0 h15) fun σ H Q ⟨ρ, G, R, h⟩ p hp => by
    have N : New G H G (upd H p (.dK [])) := New.hid R.sub hp
    refine tps fs (N.rep R) ?_
    unfold dDisp at h
    cases e : vPs fs ρ with
    | no => rw [e] at h; exact h
    | ex ρ' ee =>
      rw [e] at h
      exact fun G' H' d s R' he => h G' H' d ((N.stp R).trans R s) R' he
    | ok ρ' l =>
      rw [e] at h
      have h : Go X.K W σ ρ G H _ (if l.length ≤ 15 then DF.R.ok ρ' (D.dic (disD l)) else DF.R.no) := h
      split at h
      · rename_i hn
        intro G' H' s R' kvs hk
        obtain ⟨k1, k2, k3, k4, s2, R2⟩ := Stp.chgHid (o2 := .dK (mergeK [] kvs)) R hp s R'
        exact ⟨k1, kvs, rfl, by rw [← hk.length]; exact hn, h G' _ s2 R2 p k2 k3 k4 hp ⟨_, upd_same, hk.dis .nil⟩⟩
      · exact False.elim h
end
end DF

/-! != of two lists whose items are all equal, within one model -/
namespace DF
open PySem PySem.SeqAt
open AutoSeq1 (wpAny_loadPart')
open MeetsSeq MeetsSeq2 MeetsSeq3 SeqRoads2
section
variable {prog : Program} {w : World}
/-- what both bodies ask for: the two lists, equal items, and the end -/
def NeQ (prog : Program) (w : World) (l b : Addr) (o o2 : Obj) (us ws : Array Value) : Around → (Result → Shared → Prop) → Shared → Prop := fun A R s =>
  s.heap.get? l = some o ∧ s.heap.get? b = some o2 ∧ (∀ j (h1 : j < us.size) (h2 : j < ws.size), EqP prog w A.in1 s us[j] ws[j] true) ∧ R (.ok (.ret (.bool false))) s
theorem ne_turn (l b : Addr) (us ws : Array Value) (n n2 : Nat) (dd dd2 : Option Addr) (sl sl2 : Array (Option Value)) (hsz : us.size = ws.size) : ∀ (k i : Nat), us.size - i = k →
    MeetsIn prog w (Builtin.«list.__eq__.loop» ⟨[.ref l, .ref b, rawInt i, rawInt 3], []⟩) (NeQ prog w l b { cls := .type "list", dict := dd, data := .seq us n, slots := sl } { cls := .type "list", dict := dd2, data := .seq ws n2, slots := sl2 } us ws)
  | 0, i, hk => by
    rintro A R ⟨hp, g, d, tk, os⟩ ⟨hl, hb, he, h⟩
    have e1 : us[((i : Nat) : Int).toNat]? = none := by simp; omega
    have e2 : ws[((i : Nat) : Int).toNat]? = none := by simp; omega
    wp_walk using wpAny_loadPart' hl, wpAny_loadPart' hb
    rw [e1, e2]
    wp_walk using wpAny_loadPart' hl, wpAny_loadPart' hb
    show R (.ok (.ret (.bool (us.size != ws.size)))) _
    rw [hsz, bne_self_eq_false]
    exact h
  | k + 1, i, hk => by
    rintro A R ⟨hp, g, d, tk, os⟩ ⟨hl, hb, he, h⟩
    have l1 : i < us.size := by omega
    have l2 : i < ws.size := by omega
    have e1 : us[((i : Nat) : Int).toNat]? = some us[i] := by simp [l1]
    have e2 : ws[((i : Nat) : Int).toNat]? = some ws[i] := by simp [l2]
    wp_walk using wpAny_loadPart' hl, wpAny_loadPart' hb
    rw [e1, e2]
    refine wpAny_bind (he i l1 l2 _ _ ?_)
    wp_walk
    rw [show ((i : Int) + 1) = ((i + 1 : Nat) : Int) by push_cast; rfl]
    exact ⟨plainId_quiet plain_eq_loop _, codeAny_builtin entry_eq_loop (by
      rw [Around.under_plainId plain_eq_loop _]
      exact ne_turn l b us ws n n2 dd dd2 sl sl2 hsz k (i + 1) (by omega) A R _ ⟨hl, hb, he, h⟩)⟩
theorem ne_body (l b : Addr) (us ws : Array Value) (n n2 : Nat) (dd dd2 : Option Addr) (sl sl2 : Array (Option Value)) (hsz : us.size = ws.size) :
    MeetsIn prog w (Builtin.«list.__ne__» ⟨[.ref l, .ref b], []⟩) (NeQ prog w l b { cls := .type "list", dict := dd, data := .seq us n, slots := sl } { cls := .type "list", dict := dd2, data := .seq ws n2, slots := sl2 } us ws) := by
  rintro A R ⟨hp, g, d, tk, os⟩ ⟨hl, hb, he, h⟩
  have f3 := AutoSeq1.sub_list_list
  have hne : ¬ (us.size != ws.size) = true := by simp [hsz]
  wp_walk using wpAny_loadPart' hl, wpAny_loadPart' hb
  exact ⟨plainId_quiet plain_eq_loop _, codeAny_builtin entry_eq_loop (by
    rw [Around.under_plainId plain_eq_loop _]
    exact ne_turn l b us ws n n2 dd dd2 sl sl2 hsz _ 0 rfl A R _ ⟨hl, hb, he, h⟩)⟩
theorem ne_lists {A : Around} {s : Shared} {l b : Addr} {us ws : Array Value} (hl : s.heap.IsList l us) (hb : s.heap.IsList b ws) (hsz : us.size = ws.size) (hu : A.units < cLine)
    (he : ∀ j (h1 : j < us.size) (h2 : j < ws.size), EqP prog w A.in1 s us[j] ws[j] true) (E Q : Value → Shared → Prop) (h : Q (.bool false) s) : wpAny (model prog w) A (richCompare .NotEq (.ref l) (.ref b)) Q E s := by
  obtain ⟨⟨_, dd, _, sl⟩, ho, rfl, n, rfl⟩ := id hl
  obtain ⟨⟨_, dd2, _, sl2⟩, ho2, rfl, n2, rfl⟩ := id hb
  have ta : s.TypeIs (.ref l) "list" := ⟨_, ho, rfl⟩
  exact wpAny_richCompare_same_room (op := .NotEq) ta ⟨_, ho2, rfl⟩ F.slot_list_ne (call_meetsIn F.slot_list_ne ta F.entry_list_ne (F.args_list_ne_2 _ _) (ne_body l b us ws n n2 dd dd2 sl sl2 hsz) ⟨ho, ho2, he, ⟨(fun x => nomatch x), h⟩⟩) hu
end
end DF

/-! == and != of two lists whose items are plain data and dicts of plain data; told only where all items are equal, or the lengths differ -/
namespace DF
open PySem PySem.Spec PyProof.Rows L2
def deqB (x y : D) : Bool := match eqP x y with
  | some b => b
  | none => match eqKB x y with
    | some b => b
    | none => false
def deqsB : List D → List D → Bool
  | [], [] => true
  | x :: l, y :: m => deqB x y && deqsB l m
  | _, _ => false
def eqLB (x y : D) : Option Bool := match listOf x, listOf y with
  | some l, some m => if l.length = m.length then (if deqsB l m = true then some true else none) else some false
  | _, _ => none
def eqL (x y : D) : Option D := (eqLB x y).map .bl
def neL (x y : D) : Option D := (eqLB x y).map fun b => .bl (!b)
/-- two equal items -/
def DeqV (K : PySem.W.Frag) (H : Hp) (x y : V) : Prop := (∃ p q, Dp K H x p ∧ Dp K H y q ∧ SeqAt.shaped p = true ∧ SeqAt.shaped q = true ∧ p.eqv q = true) ∨
  ∃ a b ks ls r, x = .ref a ∧ y = .ref b ∧ Rd H a (.dK ks) ∧ Rd H b (.dK ls) ∧ HitsV K H ls ks r ∧ (ks.length == ls.length && r) = true
theorem deqV_run {X : Cx} {pins : List (Addr × Obj)} {σ : L2.St} {H : Hp} {s : Shared} (I : L2.Inv X pins σ H s) (hu : X.A.units + 80 < cLine) {x y : V} {v u : Value} (h : DeqV X.K H x y) (rx : RelV x v) (ry : RelV y u) : SeqAt.EqP X.prog X.w X.A.in1 s v u true := by
  rcases h with ⟨p, q, h1, h2, h3, h4, h5⟩ | ⟨a, b, ks, ls, r, rfl, rfl, ha, hb, hh, hr⟩
  · obtain ⟨as, r1⟩ := Dp.reads I p x v h1 rx
    obtain ⟨bs, r2⟩ := Dp.reads I q y u h2 ry
    have k := PySem.W.keq_at (A := X.A) r1 r2 h3 h4 (by show X.A.units + 1 + 64 < cLine; omega)
    rw [h5] at k
    exact k.eqP
  · cases (show v = Value.ref a from rx)
    cases (show u = Value.ref b from ry)
    obtain ⟨_, ya, va, ra, da⟩ := dk_rd I.hok ha
    obtain ⟨_, yb, vb, rb, db⟩ := dk_rd I.hok hb
    by_cases e : a = b
    · subst e
      exact (SeqAt.EqAt.same _).eqP
    · refine SeqAt.eqP_refs e fun E Q hq => ?_
      refine PySem.W.keq_eq (knd := mixKind X.prog X.w) (r := r) ya yb da db (by show X.A.units + 1 < cLine; omega) (fun _ => hitsV_run I (A := X.A.in1) (by show X.A.units + 1 + 1 + 64 < cLine; omega) rb hh ra) ?_
      have e1 : ks.length = va.length := Paired.length ra
      have e2 : ls.length = vb.length := Paired.length rb
      rw [← e1, ← e2, hr]
      exact hq
def rEqL (K : PySem.W.Frag) : R2 := fun x y H Q => ∃ a b xs ys r, x = .ref a ∧ y = .ref b ∧ SqL K H a xs ∧ SqL K H b ys ∧ ((xs.length ≠ ys.length ∧ r = false) ∨ (Paired (DeqV K H) xs ys ∧ r = true)) ∧ Q (.bl r) H
def rNeL (K : PySem.W.Frag) : R2 := fun x y H Q => ∃ a b xs ys r, x = .ref a ∧ y = .ref b ∧ SqL K H a xs ∧ SqL K H b ys ∧ ((xs.length ≠ ys.length ∧ r = false) ∨ (Paired (DeqV K H) xs ys ∧ r = true)) ∧ Q (.bl (!r)) H
theorem deqs_run {X : Cx} {pins : List (Addr × Obj)} {σ : L2.St} {H : Hp} {s : Shared} (I : L2.Inv X pins σ H s) (hu : X.A.units + 80 < cLine) {xs ys : List V} (hp : Paired (DeqV X.K H) xs ys) :
    ∀ {us ws : List Value}, Vals xs us → Vals ys ws → ∀ j (h1 : j < us.length) (h2 : j < ws.length), SeqAt.EqP X.prog X.w X.A.in1 s us[j] ws[j] true := by
  induction hp with
  | nil =>
    intro us ws r1 r2 j h1 h2
    cases r1
    exact absurd h1 (Nat.not_lt_zero j)
  | cons h _ ih =>
    intro us ws r1 r2 j h1 h2
    cases r1 with
    | cons a1 b1 => cases r2 with
      | cons a2 b2 => cases j with
        | zero => exact deqV_run I hu h a1 a2
        | succ j => exact ih b1 b2 j (Nat.lt_of_succ_lt_succ h1) (Nat.lt_of_succ_lt_succ h2)
theorem all_true (n : Nat) : ((List.range n).all fun _ => true) = true := List.all_eq_true.mpr fun _ _ => rfl
theorem op_eqL {X : Cx} (hu : X.A.units + 80 < cLine) : OpR X (compareOp .Eq) (rEqL X.K) := by
  intro pins s σ H x y v u Q I rx ry h
  obtain ⟨a, b, xs, ys, r, rfl, rfl, ha, hb, hh, q⟩ := h
  cases (show v = Value.ref a from rx)
  cases (show u = Value.ref b from ry)
  obtain ⟨us, r1, p1, _⟩ := I.list ha
  obtain ⟨ws, r2, p2, _⟩ := I.list hb
  rcases hh with ⟨hn, rfl⟩ | ⟨hp, rfl⟩
  · exact SeqAt.RcAt.lists_lengths p1.isList p2.isList (by rw [List.size_toArray, List.size_toArray, ← r1.length, ← r2.length]; exact bne_iff_ne.mpr hn) (by omega) _ _ _ _ ⟨.bl false, H, I, rfl, q⟩
  · refine SeqAt.rcP_lists (e := fun _ => true) p1.isList p2.isList (by rw [List.size_toArray, List.size_toArray, ← r1.length, ← r2.length]; exact Paired.length hp) (by omega) (fun j h1 h2 => ?_) _ _ ?_
    · have k := deqs_run I hu hp r1 r2 j (by simpa using h1) (by simpa using h2)
      simpa using k
    · rw [all_true]
      exact ⟨.bl true, H, I, rfl, q⟩
theorem op_neL {X : Cx} (hu : X.A.units + 80 < cLine) : OpR X (compareOp .NotEq) (rNeL X.K) := by
  intro pins s σ H x y v u Q I rx ry h
  obtain ⟨a, b, xs, ys, r, rfl, rfl, ha, hb, hh, q⟩ := h
  cases (show v = Value.ref a from rx)
  cases (show u = Value.ref b from ry)
  obtain ⟨us, r1, p1, _⟩ := I.list ha
  obtain ⟨ws, r2, p2, _⟩ := I.list hb
  rcases hh with ⟨hn, rfl⟩ | ⟨hp, rfl⟩
  · exact SeqAt.RcNeAt.lists_lengths p1.isList p2.isList (by rw [List.size_toArray, List.size_toArray, ← r1.length, ← r2.length]; exact bne_iff_ne.mpr hn) (by omega) _ _ _ _ ⟨.bl true, H, I, rfl, q⟩
  · refine ne_lists p1.isList p2.isList (by rw [List.size_toArray, List.size_toArray, ← r1.length, ← r2.length]; exact Paired.length hp) (by omega) (fun j h1 h2 => ?_) _ _ ⟨.bl false, H, I, rfl, q⟩
    have k := deqs_run I hu hp r1 r2 j (by simpa using h1) (by simpa using h2)
    simpa using k
theorem deq_of {K : PySem.W.Frag} {G H : Hp} (eS : Evl.Ex G H) {x y : D} {v u : V} (hx : Is K G x v) (hy : Is K G y u) (e : deqB x y = true) : DeqV K H v u := by
  unfold deqB at e
  split at e
  · rename_i b e1
    subst e
    obtain ⟨p, q, t1, t2, s1, s2, e3⟩ := eqP_of e1
    exact .inl ⟨p, q, Is.dp eS hx t1, Is.dp eS hy t2, s1, s2, e3.symm⟩
  · split at e
    · rename_i b e1
      subst e
      obtain ⟨a, c, ks, ls, r, rfl, rfl, q1, q2, q3, q4⟩ := eqKB_run eS (hx.top eS) (hy.top eS) e1
      exact .inr ⟨a, c, ks, ls, r, rfl, rfl, q1, q2, q3, q4.symm⟩
    · cases e
theorem deqs_of {K : PySem.W.Frag} {G H : Hp} (eS : Evl.Ex G H) : ∀ {l m : List D} {xs ys : List V}, Iss K G l xs → Iss K G m ys → deqsB l m = true → Paired (DeqV K H) xs ys
  | _, _, _, _, .nil, .nil, _ => .nil
  | _, _, _, _, .cons h r, .cons h2 r2, e => by
    unfold deqsB at e
    rw [Bool.and_eq_true] at e
    exact .cons (deq_of eS h h2 e.1) (deqs_of eS r r2 e.2)
  | _, _, _, _, .nil, .cons _ _, e => by cases e
  | _, _, _, _, .cons _ _, .nil, e => by cases e
theorem eqLB_run {K : PySem.W.Frag} {G H : Hp} (eS : Evl.Ex G H) {x y : D} {v u : V} {r : Bool} (hx : Top K G H x v) (hy : Top K G H y u) (e : eqLB x y = some r) :
    ∃ a b xs ys, v = .ref a ∧ u = .ref b ∧ SqL K H a xs ∧ SqL K H b ys ∧ ((xs.length ≠ ys.length ∧ r = false) ∨ (Paired (DeqV K H) xs ys ∧ r = true)) := by
  unfold eqLB at e
  split at e
  · rename_i l m e1 e2
    obtain ⟨a, xs, rfl, q1, q2⟩ := listOf_top eS hx e1
    obtain ⟨b, ys, rfl, q3, q4⟩ := listOf_top eS hy e2
    split at e
    · split at e
      · rename_i h
        cases e
        exact ⟨a, b, xs, ys, rfl, rfl, q1, q3, .inr ⟨deqs_of eS q2 q4 h, rfl⟩⟩
      · cases e
    · rename_i hn
      cases e
      exact ⟨a, b, xs, ys, rfl, rfl, q1, q3, .inl ⟨by rw [← q2.length, ← q4.length]; exact hn, rfl⟩⟩
  · cases e
theorem ops_eqL {K : PySem.W.Frag} : OpS K (rEqL K) eqL := fun x y z v u G H Q eS hx hy e k => by
  unfold eqL at e
  cases e1 : eqLB x y with
  | none => rw [e1] at e; cases e
  | some b =>
    rw [e1] at e; cases e
    obtain ⟨a, c, xs, ys, rfl, rfl, q1, q2, q3⟩ := eqLB_run eS hx hy e1
    exact ⟨a, c, xs, ys, b, rfl, rfl, q1, q2, q3, k _ G H (New.refl eS) (.bl _)⟩
theorem ops_neL {K : PySem.W.Frag} : OpS K (rNeL K) neL := fun x y z v u G H Q eS hx hy e k => by
  unfold neL at e
  cases e1 : eqLB x y with
  | none => rw [e1] at e; cases e
  | some b =>
    rw [e1] at e; cases e
    obtain ⟨a, c, xs, ys, rfl, rfl, q1, q2, q3⟩ := eqLB_run eS hx hy e1
    exact ⟨a, c, xs, ys, b, rfl, rfl, q1, q2, q3, k _ G H (New.refl eS) (.bl _)⟩
theorem RoomG.u80 {k : Nat} {A : Around} (r : RoomG k A) : A.units + 80 < cLine := by have := r.room.un; omega
def eqY : D → D → Option D := orD eqX eqL
def neY : D → D → Option D := orD neX neL
end DF

namespace DF
open PySem PySem.Spec PyProof.Rows L2
@[simp] theorem dMk_ap (g : D → Option (List D)) (f : DEnv → R Th) (ρ : DEnv) : dMk g f ρ = (f ρ).bind fun t ρ' => match t ρ' with
  | none => .no
  | some d => match g d with
    | none => .no
    | some l => .ok ρ' (.lst l) := id rfl
@[simp] theorem dPop_ap (i : Nat) (ρ : DEnv) : dPop i ρ = match muL i ρ with
  | none => .no
  | some (b, l) => if l.length = 0 then .no else .nx (ρ.set i (some (.mu b (.lst l.dropLast)))) := id rfl
@[simp] theorem sEnL_ap (f : DEnv → R (List D)) (ρ : DEnv) : sEnL f ρ = (f ρ).bind fun l ρ' => match l with
  | [.lst m] => .ok ρ' (enD 0 m)
  | [.fro m] => .ok ρ' (enD 0 m)
  | _ => .no := id rfl
@[simp] theorem sEnT_ap (f : DEnv → R (List D)) (ρ : DEnv) : sEnT f ρ = (f ρ).bind fun l ρ' => match l with
  | [.tup m] => .ok ρ' (enD 0 m)
  | _ => .no := id rfl
@[simp] theorem sRevR_ap (f : DEnv → R D) (ρ : DEnv) : sRevR f ρ = (f ρ).bind fun d ρ' => match d with
  | .int j => if inR j = true then .ok ρ' (rng 0 j.toNat).reverse else .no
  | _ => .no := id rfl
@[simp] theorem pNo_ap  (ρ : DEnv) : pNo  ρ = .ok ρ none := id rfl
@[simp] theorem pInt_ap (f : DEnv → R D) (ρ : DEnv) : pInt f ρ = (f ρ).bind fun d ρ' => match d with
  | .int i => .ok ρ' (some i)
  | _ => .no := id rfl
@[simp] theorem dSl_ap (f : DEnv → R Th) (fl fu : DEnv → R (Option Int)) (ρ : DEnv) : dSl f fl fu ρ = (f ρ).bind fun t ρ1 => (fl ρ1).bind fun lo ρ2 => (fu ρ2).bind fun hi ρ3 => match t ρ3 with
  | none => .no
  | some d => ofO ρ3 (slO d lo hi) := id rfl
@[simp] theorem xNil_ap  (ρ : DEnv) : xNil  ρ = .ok ρ [] := id rfl
@[simp] theorem xVal_ap (f : DEnv → R D) (g : DEnv → R (List (Bool × D))) (ρ : DEnv) : xVal f g ρ = (f ρ).bind fun d ρ1 => (g ρ1).bind fun l ρ2 => .ok ρ2 ((false, d) :: l) := id rfl
@[simp] theorem xFr_ap (f : DEnv → R D) (g : DEnv → R (List (Bool × D))) (ρ : DEnv) : xFr f g ρ = (f ρ).bind fun d ρ1 => (g ρ1).bind fun l ρ2 => .ok ρ2 ((true, d) :: l) := id rfl
@[simp] theorem dParX_ap (is : List Nat) (f : DEnv → R (List (Bool × D))) (ρ : DEnv) : dParX is f ρ = match f ρ with
  | .no => .no
  | .ex ρ' e => .ex ρ' e
  | .ok ρ' l => match putA is l ρ' with
    | none => .no
    | some ρ2 => .nx ρ2 := id rfl
@[simp] theorem dGet2_ap (fo : DEnv → R Th) (fk fx : DEnv → R D) (ρ : DEnv) : dGet2 fo fk fx ρ = (fo ρ).bind fun t ρ1 => match t ρ1 with
  | some (.dic _) => (fk ρ1).bind fun kd ρ2 => (fx ρ2).bind fun x ρ3 => match t ρ3, keyOf kd with
    | some (.dic l), some key => .ok ρ3 ((valD l key).getD x)
    | _, _ => .no
  | _ => .no := id rfl
@[simp] theorem dSetK_ap (i : Nat) (fk f : DEnv → R D) (ρ : DEnv) : dSetK i fk f ρ = (f ρ).bindS fun d ρ1 => match muD i ρ1 with
  | none => .no
  | some _ => (fk ρ1).bindS fun kd ρ2 => match muD i ρ2, keyOf kd with
    | some (b, l), some key => if l.length < 16000000 then .nx (ρ2.set i (some (.mu b (.dic (insD l key d))))) else .no
    | _, _ => .no := id rfl
@[simp] theorem sKeys_ap (f : DEnv → R D) (ρ : DEnv) : sKeys f ρ = (f ρ).bind fun d ρ' => match d with
  | .dic l => .ok ρ' (l.map fun p => keyD p.1)
  | _ => .no := id rfl
@[simp] theorem sVals_ap (f : DEnv → R D) (ρ : DEnv) : sVals f ρ = (f ρ).bind fun d ρ' => match d with
  | .dic l => .ok ρ' (l.map fun p => p.2)
  | _ => .no := id rfl
@[simp] theorem sItems_ap (f : DEnv → R D) (ρ : DEnv) : sItems f ρ = (f ρ).bind fun d ρ' => match d with
  | .dic l => .ok ρ' (l.map fun p => D.tup [keyD p.1, p.2])
  | _ => .no := id rfl
@[simp] theorem dLvals_ap (f : DEnv → R D) (ρ : DEnv) : dLvals f ρ = (f ρ).bind fun d ρ' => match d with
  | .dic l => .ok ρ' (.lst (l.map fun p => p.2))
  | _ => .no := id rfl
@[simp] theorem setK_ap (i : Nat) (fk : DEnv → R D) (d : D) (ρ : DEnv) : setK i fk d ρ = match muD i ρ with
  | none => none
  | some _ => match fk ρ with
    | .ok ρ1 kd => match muD i ρ1, keyOf kd with
      | some (b, l), some key => if l.length < 16000000 then some (ρ1.set i (some (.mu b (.dic (insD l key d))))) else none
      | _, _ => none
    | _ => none := id rfl
@[simp] theorem dDisp_ap (fs : List ((DEnv → R D) × (DEnv → R D))) (ρ : DEnv) : dDisp fs ρ = (vPs fs ρ).bind fun l ρ' => if l.length ≤ 15 then .ok ρ' (.dic (disD l)) else .no := id rfl
theorem eqY_int (i j : Int) : eqY (.int i) (.int j) = some (.bl (decide (i = j))) := by
  unfold eqY eqX orD
  rw [eq_int]
theorem neY_int (i j : Int) : neY (.int i) (.int j) = some (.bl (!decide (i = j))) := by
  unfold neY neX orD
  rw [ne_int]
theorem max2_ap (i j : Int) : orC max2D maxSD [.int i, .int j] = max2D [.int i, .int j] := rfl
theorem min2_ap (i j : Int) : orC min2D minSD [.int i, .int j] = min2D [.int i, .int j] := rfl
theorem ne1Y {x y z : D} (h : neD1 x y = some z) : neY x y = some z := by
  unfold neY neX orD
  rw [h]
theorem eq1Y {x y z : D} (h : eqD1 x y = some z) : eqY x y = some z := by
  unfold eqY eqX orD
  rw [h]
end DF

namespace DF
open PySem PySem.Spec PyProof.Rows L2
/-! ### running by steps -/
/-- what a run of statements may end in -/
structure Ps where
  nx : DEnv → Prop := fun _ => False
  ct : DEnv → Prop := fun _ => False
  bk : DEnv → Prop := fun _ => False
  rt : DEnv → Bool → D → Prop := fun _ _ _ => False
def wpD (r : SR) (E : Ps) : Prop := match r with
  | .nx ρ => E.nx ρ
  | .cnt ρ => E.ct ρ
  | .brk ρ => E.bk ρ
  | .ret ρ fr d => E.rt ρ fr d
  | _ => False
/-- a structure, so that looking at a goal does not run it -/
structure Wp (r : SR) (E : Ps) : Prop where
  run : wpD r E
theorem Wp.imp {r : SR} {E F : Ps} (h : Wp r E) (h1 : ∀ ρ, E.nx ρ → F.nx ρ) (h2 : ∀ ρ, E.ct ρ → F.ct ρ) (h3 : ∀ ρ, E.bk ρ → F.bk ρ) (h4 : ∀ ρ fr d, E.rt ρ fr d → F.rt ρ fr d) : Wp r F := by
  obtain ⟨h⟩ := h
  constructor
  cases r with
  | nx ρ => exact h1 _ h
  | cnt ρ => exact h2 _ h
  | brk ρ => exact h3 _ h
  | ret ρ fr d => exact h4 _ _ _ h
  | no => exact h
  | ex ρ e => exact h
section
variable {f g : DEnv → SR} {ρ ρ' : DEnv} {E : Ps} {Q : DEnv → Prop} {fr : Bool} {d : D}
theorem wp_nx (h : f ρ = .nx ρ') (k : E.nx ρ') : Wp (f ρ) E := ⟨by rw [h]; exact k⟩
theorem wp_ct (h : f ρ = .cnt ρ') (k : E.ct ρ') : Wp (f ρ) E := ⟨by rw [h]; exact k⟩
theorem wp_rt (h : f ρ = .ret ρ' fr d) (k : E.rt ρ' fr d) : Wp (f ρ) E := ⟨by rw [h]; exact k⟩
theorem dSeq_nx (h : f ρ = .nx ρ') : dSeq f g ρ = g ρ' := by
  show (f ρ).bind g = _
  rw [h]; rfl
theorem wp_seq (h : f ρ = .nx ρ') (k : Wp (g ρ') E) : Wp (dSeq f g ρ) E := by
  rw [dSeq_nx h]; exact k
theorem wp_seqR (h : f ρ = .ret ρ' fr d) (k : E.rt ρ' fr d) : Wp (dSeq f g ρ) E := ⟨by
  show wpD ((f ρ).bind g) E
  rw [h]; exact k⟩
theorem wp_seqC (h : f ρ = .cnt ρ') (k : E.ct ρ') : Wp (dSeq f g ρ) E := ⟨by
  show wpD ((f ρ).bind g) E
  rw [h]; exact k⟩
theorem wp_seqW (h : Wp (f ρ) { E with nx := Q }) (k : ∀ ρ', Q ρ' → Wp (g ρ') E) : Wp (dSeq f g ρ) E := by
  obtain ⟨h⟩ := h
  cases e : f ρ with
  | nx ρ1 => rw [e] at h; rw [dSeq_nx e]; exact k _ h
  | _ =>
    rw [e] at h
    constructor
    show wpD ((f ρ).bind g) E
    rw [e]
    exact h
/-- a for loop by its invariant -/
theorem wp_forL {t : Tg} {b : DEnv → SR} (Inv : List D → DEnv → Prop) (hs : ∀ x l ρ, Inv (x :: l) ρ → ∃ ρ1, t x ρ = some ρ1 ∧ Wp (b ρ1) { nx := Inv l, ct := Inv l, bk := E.nx, rt := E.rt }) (hN : ∀ ρ, Inv [] ρ → E.nx ρ) :
    ∀ (l : List D) (ρ : DEnv), Inv l ρ → Wp (dFor t b l ρ) E
  | [], ρ, h => ⟨hN ρ h⟩
  | x :: l, ρ, h => by
    obtain ⟨ρ1, e, w⟩ := hs x l ρ h
    unfold dFor
    rw [e]
    dsimp only
    obtain ⟨w⟩ := w
    cases q : b ρ1 with
    | nx ρ => rw [q] at w; exact wp_forL Inv hs hN l ρ w
    | cnt ρ => rw [q] at w; exact wp_forL Inv hs hN l ρ w
    | brk ρ => rw [q] at w; exact ⟨w⟩
    | ret ρ fr d => rw [q] at w; exact ⟨w⟩
    | no => rw [q] at w; exact ⟨w⟩
    | ex ρ x => rw [q] at w; exact ⟨w⟩
/-- the same over data of one kind; the invariant tells what is done -/
theorem wp_for {ι : Type} {t : Tg} {b : DEnv → SR} (enc : ι → D) (Inv : List ι → DEnv → Prop) (hs : ∀ x l ρ, Inv (x :: l) ρ → ∃ ρ1, t (enc x) ρ = some ρ1 ∧ Wp (b ρ1) { nx := Inv l, ct := Inv l, bk := E.nx, rt := E.rt }) (hN : ∀ ρ, Inv [] ρ → E.nx ρ)
    (l : List ι) (ρ : DEnv) (h : Inv l ρ) : Wp (dFor t b (l.map enc) ρ) E :=
  wp_forL (fun ds ρ => ∃ l, ds = l.map enc ∧ Inv l ρ) (fun x ds ρ ⟨l, e, h⟩ => by
    cases l with
    | nil => cases e
    | cons y l =>
      rw [List.map_cons] at e
      cases e
      obtain ⟨ρ1, e1, w⟩ := hs y l ρ h
      exact ⟨ρ1, e1, w.imp (fun _ q => ⟨l, rfl, q⟩) (fun _ q => ⟨l, rfl, q⟩) (fun _ q => q) fun _ _ _ q => q⟩)
    (fun ρ ⟨l, e, h⟩ => by
      cases l with
      | nil => exact hN ρ h
      | cons y l => cases e) _ ρ ⟨l, rfl, h⟩
theorem wp_forS {s : DEnv → R (List D)} {t : Tg} {b : DEnv → SR} {l : List D} (e : s ρ = .ok ρ' l) (h : Wp (dFor t b l ρ') E) : Wp (dForS s t b ρ) E := by
  have : dForS s t b ρ = dFor t b l ρ' := by
    show (s ρ).bindS _ = _
    rw [e]; rfl
  rw [this]; exact h
/-- a while loop by its invariant; the number falls -/
theorem wp_while {c : DEnv → R Bool} {b : DEnv → SR} (Inv : Nat → DEnv → Prop)
    (hs : ∀ m ρ, Inv m ρ → (∃ ρ1, c ρ = .ok ρ1 false ∧ E.nx ρ1) ∨ (∃ ρ1, c ρ = .ok ρ1 true ∧ Wp (b ρ1) { nx := fun ρ => ∃ m', m' < m ∧ Inv m' ρ, ct := fun ρ => ∃ m', m' < m ∧ Inv m' ρ, bk := E.nx, rt := E.rt })) :
    ∀ (n m : Nat) (ρ : DEnv), m < n → Inv m ρ → Wp (dWhile c b n ρ) E
  | 0, m, ρ, h, _ => absurd h (Nat.not_lt_zero _)
  | n + 1, m, ρ, h, i => by
    rw [dWhile_succ]
    rcases hs m ρ i with ⟨ρ1, e, k⟩ | ⟨ρ1, e, w⟩
    · rw [e]; exact ⟨k⟩
    · rw [e, R.bindS_ok]
      dsimp only
      obtain ⟨w⟩ := w
      cases q : b ρ1 with
      | nx ρ => rw [q] at w; obtain ⟨m', h', i'⟩ := w; exact wp_while Inv hs n m' ρ (by omega) i'
      | cnt ρ => rw [q] at w; obtain ⟨m', h', i'⟩ := w; exact wp_while Inv hs n m' ρ (by omega) i'
      | brk ρ => rw [q] at w; exact ⟨w⟩
      | ret ρ fr d => rw [q] at w; exact ⟨w⟩
      | no => rw [q] at w; exact ⟨w⟩
      | ex ρ x => rw [q] at w; exact ⟨w⟩
theorem wp_ifT {c : DEnv → R Bool} (e : c ρ = .ok ρ' true) (h : Wp (f ρ') E) : Wp (dIf c f g ρ) E := by
  have : dIf c f g ρ = f ρ' := by
    show (c ρ).bindS _ = _
    rw [e]; rfl
  rw [this]; exact h
theorem wp_ifF {c : DEnv → R Bool} (e : c ρ = .ok ρ' false) (h : Wp (g ρ') E) : Wp (dIf c f g ρ) E := by
  have : dIf c f g ρ = g ρ' := by
    show (c ρ).bindS _ = _
    rw [e]; rfl
  rw [this]; exact h
theorem wp_if {c : DEnv → R Bool} {b : Bool} (e : c ρ = .ok ρ' b) (h1 : b = true → Wp (f ρ') E) (h2 : b = false → Wp (g ρ') E) : Wp (dIf c f g ρ) E := by
  cases b with
  | true => exact wp_ifT e (h1 rfl)
  | false => exact wp_ifF e (h2 rfl)
/-- what comes of a def -/
theorem fn_of {as : List (Bool × D)} {r : SR} {P : FRes → Prop} (h : Wp r { rt := fun ρ fr d => ∃ l, outs ρ 0 as = some l ∧ P (.ret fr d l), nx := fun ρ => ∃ l, outs ρ 0 as = some l ∧ P (.ret false .non l) }) : P (fnRes as r) := by
  obtain ⟨h⟩ := h
  cases r with
  | nx ρ => obtain ⟨l, e, p⟩ := h; unfold fnRes; simp only [e]; exact p
  | ret ρ fr d => obtain ⟨l, e, p⟩ := h; unfold fnRes; simp only [e]; exact p
  | cnt ρ => exact False.elim h
  | brk ρ => exact False.elim h
  | no => exact False.elim h
  | ex ρ x => exact False.elim h
/-- a comprehension whose items leave no trace -/
theorem lc_pure {ι : Type} {t : Tg} {c : DEnv → R Bool} {f : DEnv → R D} {vs : List Nat} {ρ : DEnv} (enc : ι → D) (keep : ι → Bool) (φ : ι → D) : ∀ (xs : List ι) (acc : List D), acc.length + xs.length ≤ 16000000 →
    (∀ x ∈ xs, ∃ ρ1 ρ2, t (enc x) ρ = some ρ1 ∧ c ρ1 = .ok ρ2 (keep x) ∧ (keep x = false → noMu ρ2 vs = true ∧ wipeE ρ2 vs = ρ) ∧ (keep x = true → ∃ ρ3, f ρ2 = .ok ρ3 (φ x) ∧ noMu ρ3 vs = true ∧ wipeE ρ3 vs = ρ)) →
    dLcGo t c f vs (xs.map enc) acc ρ = .ok ρ (.lst (acc ++ (xs.filter keep).map φ))
  | [], acc, _, _ => by simp [dLcGo]
  | x :: xs, acc, hl, h => by
    rw [List.length_cons] at hl
    obtain ⟨ρ1, ρ2, e1, e2, k1, k2⟩ := h x List.mem_cons_self
    rw [List.map_cons]
    unfold dLcGo
    rw [e1]
    dsimp only
    rw [e2, R.bindN_ok]
    cases hk : keep x with
    | false =>
      obtain ⟨n1, n2⟩ := k1 hk
      dsimp only
      rw [if_pos n1, n2, lc_pure enc keep φ xs acc (by omega) fun y hy => h y (List.mem_cons_of_mem _ hy), List.filter_cons_of_neg (by rw [hk]; decide)]
    | true =>
      obtain ⟨ρ3, e3, n1, n2⟩ := k2 hk
      dsimp only
      rw [e3, R.bindN_ok, if_pos n1, if_pos (by omega), n2, lc_pure enc keep φ xs (acc ++ [φ x]) (by rw [List.length_append, List.length_singleton]; omega) fun y hy => h y (List.mem_cons_of_mem _ hy), List.filter_cons_of_pos hk, List.map_cons, List.append_assoc]
      rfl
/-- a comprehension that changes something: an invariant over what is made so far -/
theorem lc_inv {t : Tg} {c : DEnv → R Bool} {f : DEnv → R D} {vs : List Nat} (Inv : List D → List D → DEnv → Prop)
    (hs : ∀ x l acc ρ, Inv (x :: l) acc ρ → acc.length < 16000000 ∧ ∃ ρ1 ρ2 b, t x ρ = some ρ1 ∧ c ρ1 = .ok ρ2 b ∧ (b = false → noMu ρ2 vs = true ∧ Inv l acc (wipeE ρ2 vs)) ∧ (b = true → ∃ ρ3 y, f ρ2 = .ok ρ3 y ∧ noMu ρ3 vs = true ∧ Inv l (acc ++ [y]) (wipeE ρ3 vs))) :
    ∀ (l acc : List D) (ρ : DEnv), Inv l acc ρ → ∃ ρ' m, dLcGo t c f vs l acc ρ = .ok ρ' (.lst m) ∧ Inv [] m ρ'
  | [], acc, ρ, h => ⟨ρ, acc, rfl, h⟩
  | x :: l, acc, ρ, h => by
    obtain ⟨hl, ρ1, ρ2, b, e1, e2, k1, k2⟩ := hs x l acc ρ h
    unfold dLcGo
    rw [e1]
    dsimp only
    rw [e2, R.bindN_ok]
    cases b with
    | false =>
      obtain ⟨n1, n2⟩ := k1 rfl
      dsimp only
      rw [if_pos n1]
      exact lc_inv Inv hs l acc _ n2
    | true =>
      obtain ⟨ρ3, y, e3, n1, n2⟩ := k2 rfl
      dsimp only
      rw [e3, R.bindN_ok, if_pos n1, if_pos hl]
      exact lc_inv Inv hs l (acc ++ [y]) _ n2
theorem lc_ap {s : DEnv → R (List D)} {t : Tg} {c : DEnv → R Bool} {f : DEnv → R D} {vs : List Nat} {l : List D} {r : R D} (e : s ρ = .ok ρ' l) (n : noMu ρ' vs = true) (h : dLcGo t c f vs l [] (wipeE ρ' vs) = r) : dLc s t c f vs ρ = r := by
  show (s ρ).bind _ = _
  rw [e, R.bind_ok, if_pos n, h]
end
end DF

/-! Prime factors by trial division; no kit in it. -/
namespace KF
/-! ### how often d goes into n, and what is left -/
def dv : Nat → Nat → Nat → Nat × Nat
  | 0, _, n => (0, n)
  | k + 1, d, n => if n % d = 0 then ((dv k d (n / d)).1 + 1, (dv k d (n / d)).2) else (0, n)
theorem dv_spec {d : Nat} (hd : 2 ≤ d) : ∀ (k n : Nat), 1 ≤ n → n ≤ k → n = d ^ (dv k d n).1 * (dv k d n).2 ∧ ¬ d ∣ (dv k d n).2 ∧ 1 ≤ (dv k d n).2
  | 0, n, h, hk => by omega
  | k + 1, n, h, hk => by
    unfold dv
    split
    · rename_i e
      have dn : d ∣ n := Nat.dvd_of_mod_eq_zero e
      obtain ⟨m, rfl⟩ := dn
      have hm : 1 ≤ m := by
        rcases Nat.eq_zero_or_pos m with z | z
        · subst z; simp at h
        · exact z
      rw [Nat.mul_div_cancel_left _ (by omega)]
      have lt : m ≤ k := by
        have : 2 * m ≤ d * m := Nat.mul_le_mul_right _ hd
        omega
      obtain ⟨h1, h2, h3⟩ := dv_spec hd k m hm lt
      refine ⟨?_, h2, h3⟩
      dsimp only
      rw [Nat.pow_succ, Nat.mul_right_comm, ← h1, Nat.mul_comm]
    · rename_i e
      exact ⟨by simp, fun z => e (Nat.mod_eq_zero_of_dvd z), h⟩
/-- a power and what is left are told by what they multiply to -/
theorem pow_uniq {d : Nat} (hd : 2 ≤ d) : ∀ {a b r s : Nat}, d ^ a * r = d ^ b * s → ¬ d ∣ r → ¬ d ∣ s → a = b ∧ r = s
  | 0, 0, r, s, h, _, _ => by simpa using h
  | 0, b + 1, r, s, h, h1, _ => by
    exfalso; apply h1
    rw [Nat.pow_zero, Nat.one_mul, Nat.pow_succ] at h
    exact ⟨d ^ b * s, by rw [h, Nat.mul_right_comm, Nat.mul_comm]⟩
  | a + 1, 0, r, s, h, _, h2 => by
    exfalso; apply h2
    rw [Nat.pow_zero, Nat.one_mul, Nat.pow_succ] at h
    exact ⟨d ^ a * r, by rw [← h, Nat.mul_right_comm, Nat.mul_comm]⟩
  | a + 1, b + 1, r, s, h, h1, h2 => by
    rw [Nat.pow_succ, Nat.pow_succ, Nat.mul_right_comm, Nat.mul_right_comm (d ^ b)] at h
    obtain ⟨e1, e2⟩ := pow_uniq hd (Nat.eq_of_mul_eq_mul_right (by omega) h) h1 h2
    exact ⟨by rw [e1], e2⟩
def tm (d n : Nat) : Nat := (dv n d n).1
def rs (d n : Nat) : Nat := (dv n d n).2
theorem tr_spec {d n : Nat} (hd : 2 ≤ d) (hn : 1 ≤ n) : n = d ^ tm d n * rs d n ∧ ¬ d ∣ rs d n ∧ 1 ≤ rs d n := dv_spec hd n n hn (Nat.le_refl _)
theorem tr_of {d n e r : Nat} (hd : 2 ≤ d) (hn : 1 ≤ n) (h : n = d ^ e * r) (hr : ¬ d ∣ r) : tm d n = e ∧ rs d n = r := by
  obtain ⟨h1, h2, _⟩ := tr_spec hd hn
  exact pow_uniq hd (h1.symm.trans h) h2 hr
theorem tm_pos {d n : Nat} (hd : 2 ≤ d) (hn : 1 ≤ n) (h : d ∣ n) : 1 ≤ tm d n := by
  obtain ⟨h1, h2, _⟩ := tr_spec hd hn
  rcases Nat.eq_zero_or_pos (tm d n) with z | z
  · rw [z, Nat.pow_zero, Nat.one_mul] at h1
    rw [← h1] at h2
    exact (h2 h).elim
  · exact z
theorem rs_le {d n : Nat} (hd : 2 ≤ d) (hn : 1 ≤ n) : rs d n ≤ n := by
  obtain ⟨h1, _, _⟩ := tr_spec hd hn
  exact Nat.le_of_dvd hn ⟨d ^ tm d n, by rw [Nat.mul_comm]; exact h1⟩
theorem rs_dvd {d n : Nat} (hd : 2 ≤ d) (hn : 1 ≤ n) : rs d n ∣ n := by
  obtain ⟨h1, _, _⟩ := tr_spec hd hn
  exact ⟨d ^ tm d n, by rw [Nat.mul_comm]; exact h1⟩
/-! ### the factors from d on -/
def last (n : Nat) : List (Nat × Nat) := if 1 < n then [(n, 1)] else []
def facs (d n : Nat) : List (Nat × Nat) :=
  if h : d * d ≤ n ∧ 2 ≤ d then
    if n % d = 0 then (d, tm d n) :: facs (d + 1) (rs d n) else facs (d + 1) n
  else last n
termination_by n + 1 - d
decreasing_by
  · have h1 : d * 1 ≤ d * d := Nat.mul_le_mul_left _ (by omega)
    have h2 := rs_le (d := d) (n := n) h.2 (by omega)
    omega
  · have h1 : d * 1 ≤ d * d := Nat.mul_le_mul_left _ (by omega)
    omega
theorem facs_end {d n : Nat} (h : n < d * d) : facs d n = last n := by
  rw [facs, dif_neg (by omega)]
theorem facs_hit {d n : Nat} (hd : 2 ≤ d) (h : d * d ≤ n) (e : d ∣ n) : facs d n = (d, tm d n) :: facs (d + 1) (rs d n) := by
  rw [facs, dif_pos ⟨h, hd⟩, if_pos (Nat.mod_eq_zero_of_dvd e)]
theorem facs_skip {d n : Nat} (hd : 2 ≤ d) (e : ¬ d ∣ n) : facs d n = facs (d + 1) n := by
  by_cases h : d * d ≤ n
  · rw [facs, dif_pos ⟨h, hd⟩, if_neg fun z => e (Nat.dvd_of_mod_eq_zero z)]
  · rw [facs_end (by omega), facs_end (by have : d * d ≤ (d + 1) * (d + 1) := Nat.mul_le_mul (by omega) (by omega); omega)]
/-- nothing below d (and above 1) goes into n -/
def No (d n : Nat) : Prop := ∀ p, 2 ≤ p → p < d → ¬ p ∣ n
theorem No.dvd {d n m : Nat} (h : No d n) (k : m ∣ n) : No d m := fun p h1 h2 z => h p h1 h2 (Nat.dvd_trans z k)
theorem No.step {d n : Nat} (h : No d n) (e : ¬ d ∣ n) : No (d + 1) n := fun p h1 h2 z => by
  rcases Nat.lt_or_ge p d with q | q
  · exact h p h1 q z
  · have : p = d := by omega
    subst this
    exact e z
theorem facs_from {n : Nat} : ∀ {k : Nat}, No (2 + k) n → facs 2 n = facs (2 + k) n
  | 0, _ => rfl
  | k + 1, h => (facs_from (k := k) fun p h1 h2 => h p h1 (by omega)).trans (facs_skip (by omega) (h (2 + k) (by omega) (by omega)))
theorem facs_no {d n : Nat} (hd : 2 ≤ d) (h : No d n) : facs 2 n = facs d n := by
  obtain ⟨k, rfl⟩ := Nat.exists_eq_add_of_le hd
  exact facs_from h
/-- odd from odd -/
theorem facs_odd {d n : Nat} (hd : 2 ≤ d) (h1 : d % 2 = 1) (h2 : n % 2 = 1) : facs (d + 1) n = facs (d + 2) n :=
  facs_skip (by omega) fun ⟨m, z⟩ => by
    have : n % 2 = ((d + 1) * m) % 2 := by rw [z]
    rw [Nat.mul_mod, show (d + 1) % 2 = 0 by omega] at this
    simp at this
    omega
theorem odd_dvd {n m : Nat} (h : n % 2 = 1) (k : m ∣ n) : m % 2 = 1 := by
  obtain ⟨c, rfl⟩ := k
  rcases Nat.mod_two_eq_zero_or_one m with z | z
  · rw [Nat.mul_mod, z] at h; simp at h
  · exact z
end KF

namespace KF
/-! ### primes -/
def Pr (n : Nat) : Prop := ∀ d, 2 ≤ d → d * d ≤ n → ¬ d ∣ n
theorem facs_pr {n : Nat} (hn : 2 ≤ n) (h : Pr n) : ∀ (j d : Nat), n + 1 - d ≤ j → 2 ≤ d → d ≤ n → facs d n = [(n, 1)]
  | j, d, hj, hd, hdn => by
    by_cases q : d * d ≤ n
    · rw [facs_skip hd (h d hd q)]
      have h1 : 2 * d ≤ d * d := Nat.mul_le_mul_right _ hd
      cases j with
      | zero => omega
      | succ j => exact facs_pr hn h j (d + 1) (by omega) (by omega) (by omega)
    · rw [facs_end (by omega), last, if_pos (by omega)]
theorem pr_facs {n : Nat} (hn : 2 ≤ n) : ∀ (j d : Nat), n + 1 - d ≤ j → 2 ≤ d → No d n → facs d n = [(n, 1)] → Pr n
  | j, d, hj, hd, no, h => by
    by_cases q : d * d ≤ n
    · have h1 : 2 * d ≤ d * d := Nat.mul_le_mul_right _ hd
      by_cases e : d ∣ n
      · rw [facs_hit hd q e] at h
        injection h with h2
        injection h2 with h3
        omega
      · rw [facs_skip hd e] at h
        cases j with
        | zero => omega
        | succ j => exact pr_facs hn j (d + 1) (by omega) (by omega) (no.step e) h
    · intro p hp hpp hpn
      refine no p hp ?_ hpn
      rcases Nat.lt_or_ge p d with z | z
      · exact z
      · exact (q (Nat.le_trans (Nat.mul_le_mul z z) hpp)).elim
theorem prime_facs {n : Nat} (hn : 2 ≤ n) : facs 2 n = [(n, 1)] ↔ Pr n :=
  ⟨pr_facs hn _ 2 (Nat.le_refl _) (Nat.le_refl _) fun p h1 h2 => by omega, fun h => facs_pr hn h _ 2 (Nat.le_refl _) (Nat.le_refl _) hn⟩
/-- the wheel of six -/
theorem wheel {v s : Nat} (h1 : s * s ≤ v) (h2 : v < (s + 1) * (s + 1)) (h5 : 5 ≤ v) (hv2 : v % 2 ≠ 0) (hv3 : v % 3 ≠ 0) :
    Pr v ↔ ∀ j, 5 + 6 * j ≤ s → ¬ (5 + 6 * j) ∣ v ∧ ¬ (7 + 6 * j) ∣ v := by
  constructor
  · intro h j hj
    have k1 : (5 + 6 * j) * (5 + 6 * j) ≤ v := Nat.le_trans (Nat.mul_le_mul hj hj) h1
    refine ⟨h _ (by omega) k1, fun ⟨c, hc⟩ => ?_⟩
    have k2 : 5 * (5 + 6 * j) ≤ (5 + 6 * j) * (5 + 6 * j) := Nat.mul_le_mul_right _ (by omega)
    have c2 : 2 ≤ c := by
      rcases c with _ | _ | c
      · omega
      · omega
      · omega
    rcases Nat.lt_or_ge c (7 + 6 * j) with z | z
    · exact h c c2 (by rw [hc]; exact Nat.mul_le_mul_right _ (by omega)) ⟨7 + 6 * j, by rw [hc, Nat.mul_comm]⟩
    · exact h (7 + 6 * j) (by omega) (by rw [hc]; exact Nat.mul_le_mul_left _ z) ⟨c, hc⟩
  · intro h d hd hdd hdv
    have o2 : d % 2 ≠ 0 := fun z => hv2 (Nat.mod_eq_zero_of_dvd (Nat.dvd_trans (Nat.dvd_of_mod_eq_zero z) hdv))
    have o3 : d % 3 ≠ 0 := fun z => hv3 (Nat.mod_eq_zero_of_dvd (Nat.dvd_trans (Nat.dvd_of_mod_eq_zero z) hdv))
    have ds : d ≤ s := by
      rcases Nat.lt_or_ge s d with z | z
      · have := Nat.mul_le_mul (show s + 1 ≤ d from z) (show s + 1 ≤ d from z)
        omega
      · exact z
    have cs : d % 6 = 1 ∨ d % 6 = 5 := by omega
    rcases cs with c | c
    · obtain ⟨j, rfl⟩ : ∃ j, d = 7 + 6 * j := ⟨(d - 7) / 6, by omega⟩
      exact (h j (by omega)).2 hdv
    · obtain ⟨j, rfl⟩ : ∃ j, d = 5 + 6 * j := ⟨(d - 5) / 6, by omega⟩
      exact (h j (by omega)).1 hdv
/-! ### the sign -/
def muL : List (Nat × Nat) → Int
  | [] => 1
  | p :: l => if 1 < p.2 then 0 else - muL l
def mu (n : Nat) : Int := muL (facs 2 n)
/-- the least factor -/
theorem least {n : Nat} (hn : 2 ≤ n) : ∃ p, 2 ≤ p ∧ p ∣ n ∧ No p n := by
  have go : ∀ j d, n + 1 - d ≤ j → 2 ≤ d → No d n → d ≤ n → ∃ p, 2 ≤ p ∧ p ∣ n ∧ No p n := by
    intro j
    induction j with
    | zero => intro d h1 h2 h3 h4; omega
    | succ j ih =>
      intro d h1 h2 h3 h4
      by_cases e : d ∣ n
      · exact ⟨d, h2, e, h3⟩
      · rcases Nat.lt_or_ge d n with z | z
        · exact ih (d + 1) (by omega) (by omega) (h3.step e) (by omega)
        · have : d = n := by omega
          subst this
          exact (e (Nat.dvd_refl _)).elim
  exact go _ 2 (Nat.le_refl _) (Nat.le_refl _) (fun p h1 h2 => by omega) hn
theorem mu_times {p e : Nat} (hp : 2 ≤ p) (he : 1 ≤ e) (no : No p (p * e)) : mu (p * e) = if p ∣ e then 0 else - mu e := by
  have noe : No p e := no.dvd ⟨p, Nat.mul_comm _ _⟩
  unfold mu
  rw [facs_no hp no]
  split
  · rename_i h
    obtain ⟨c, rfl⟩ := h
    have hc : 1 ≤ c := by
      rcases Nat.eq_zero_or_pos c with z | z
      · subst z; simp at he
      · exact z
    have k : p * p ≤ p * (p * c) := Nat.mul_le_mul_left _ (Nat.le_mul_of_pos_right _ hc)
    have pos : 1 ≤ p * (p * c) := by have := Nat.mul_le_mul hp hp; omega
    rw [facs_hit hp k ⟨_, rfl⟩]
    obtain ⟨h1, h2, h3⟩ := tr_spec hp pos
    have t1 := tm_pos hp pos ⟨_, rfl⟩
    have t2 : 1 < tm p (p * (p * c)) := by
      rcases Nat.lt_or_ge 1 (tm p (p * (p * c))) with z | z
      · exact z
      · have z : tm p (p * (p * c)) = 1 := by omega
        rw [z, Nat.pow_one] at h1
        have : p * c = rs p (p * (p * c)) := Nat.eq_of_mul_eq_mul_left (by omega) h1
        exact (h2 ⟨c, this.symm⟩).elim
    show (if 1 < tm p (p * (p * c)) then (0 : Int) else _) = 0
    rw [if_pos t2]
  · rename_i h
    have e2 : facs 2 e = facs (p + 1) e := facs_no (by omega) (noe.step h)
    rw [e2]
    have key : facs p (p * e) = (p, 1) :: facs (p + 1) e := by
      by_cases k : p * p ≤ p * e
      · have pos : 1 ≤ p * e := by have := Nat.mul_le_mul hp hp; omega
        obtain ⟨t1, t2⟩ := tr_of (e := 1) (r := e) hp pos (by rw [Nat.pow_one]) h
        rw [facs_hit hp k ⟨_, rfl⟩, t1, t2]
      · have lt : e < p := by
          rcases Nat.lt_or_ge e p with z | z
          · exact z
          · exact (k (Nat.mul_le_mul_left _ z)).elim
        have e1 : e = 1 := by
          rcases Nat.lt_or_ge e 2 with z | z
          · omega
          · exact (noe e z lt (Nat.dvd_refl _)).elim
        subst e1
        rw [facs_end (by omega), facs_end (by have := Nat.mul_le_mul (show 2 ≤ p + 1 by omega) (show 2 ≤ p + 1 by omega); omega), last, last, Nat.mul_one, if_pos (by omega), if_neg (by omega)]
    rw [key]
    show (if 1 < 1 then (0 : Int) else _) = _
    rw [if_neg (by omega)]
end KF

namespace KF
/-! ### the sum of the signs of the divisors -/
def sum1 (f : Nat → Int) : Nat → Int
  | 0 => 0
  | m + 1 => sum1 f m + f (m + 1)
theorem sum1_congr {f g : Nat → Int} : ∀ {m : Nat}, (∀ d, 1 ≤ d → d ≤ m → f d = g d) → sum1 f m = sum1 g m
  | 0, _ => rfl
  | m + 1, h => by
    show sum1 f m + f (m + 1) = sum1 g m + g (m + 1)
    rw [sum1_congr fun d h1 h2 => h d h1 (by omega), h (m + 1) (by omega) (by omega)]
theorem sum1_add (f g : Nat → Int) : ∀ m, sum1 (fun d => f d + g d) m = sum1 f m + sum1 g m
  | 0 => rfl
  | m + 1 => by
    show sum1 (fun d => f d + g d) m + (f (m + 1) + g (m + 1)) = sum1 f m + f (m + 1) + (sum1 g m + g (m + 1))
    rw [sum1_add f g m]; omega
theorem sum1_neg (f : Nat → Int) : ∀ m, sum1 (fun d => - f d) m = - sum1 f m
  | 0 => rfl
  | m + 1 => by
    show sum1 (fun d => - f d) m + - f (m + 1) = - (sum1 f m + f (m + 1))
    rw [sum1_neg f m]; omega
theorem sum1_zero {f : Nat → Int} : ∀ {m : Nat}, (∀ d, 1 ≤ d → d ≤ m → f d = 0) → sum1 f m = 0
  | 0, _ => rfl
  | m + 1, h => by
    show sum1 f m + f (m + 1) = 0
    rw [sum1_zero fun d h1 h2 => h d h1 (by omega), h (m + 1) (by omega) (by omega)]; rfl
/-- what stands behind q is naught -/
theorem sum1_cut {f : Nat → Int} {q : Nat} : ∀ {m : Nat}, q ≤ m → (∀ d, q < d → d ≤ m → f d = 0) → sum1 f m = sum1 f q
  | 0, h, _ => by have : q = 0 := by omega
                  subst this; rfl
  | m + 1, h, z => by
    rcases Nat.lt_or_ge q (m + 1) with k | k
    · show sum1 f m + f (m + 1) = _
      rw [sum1_cut (by omega) fun d h1 h2 => z d h1 (by omega), z (m + 1) k (Nat.le_refl _)]
      omega
    · have : q = m + 1 := by omega
      subst this; rfl
/-- over the multiples of p only -/
theorem sum1_mult {f : Nat → Int} {p : Nat} (hp : 1 ≤ p) (h : ∀ d, ¬ p ∣ d → f d = 0) : ∀ q, sum1 f (p * q) = sum1 (fun e => f (p * e)) q
  | 0 => rfl
  | q + 1 => by
    have blk : ∀ r, r < p → sum1 f (p * q + r) = sum1 f (p * q) := by
      intro r
      induction r with
      | zero => intro _; rfl
      | succ r ih =>
        intro hr
        show sum1 f (p * q + r) + f (p * q + r + 1) = _
        rw [ih (by omega), h (p * q + r + 1) fun ⟨c, hc⟩ => ?_]
        · omega
        · have k1 : p * q < p * c := by omega
          have k2 : p * c < p * (q + 1) := by rw [Nat.mul_succ]; omega
          have k1 := Nat.lt_of_mul_lt_mul_left k1
          have k2 := Nat.lt_of_mul_lt_mul_left k2
          omega
    have e : p * (q + 1) = (p * q + (p - 1)) + 1 := by rw [Nat.mul_succ]; omega
    have l : sum1 f (p * (q + 1)) = sum1 f (p * q + (p - 1)) + f (p * (q + 1)) := by
      conv => lhs; rw [e]
      show sum1 f (p * q + (p - 1)) + f (p * q + (p - 1) + 1) = _
      rw [← e]
    rw [l, blk (p - 1) (by omega), sum1_mult hp h q]
    rfl
def onD (n : Nat) (f : Nat → Int) (d : Nat) : Int := if n % d = 0 then f d else 0
theorem onD_of {n d : Nat} {f : Nat → Int} (h : d ∣ n) : onD n f d = f d := if_pos (Nat.mod_eq_zero_of_dvd h)
theorem onD_no {n d : Nat} {f : Nat → Int} (h : ¬ d ∣ n) : onD n f d = 0 := if_neg fun z => h (Nat.dvd_of_mod_eq_zero z)
theorem cop {p d n : Nat} (hp : 2 ≤ p) (hpn : p ∣ n) (no : No p n) (h : ¬ p ∣ d) : Nat.Coprime p d := by
  have g1 : Nat.gcd p d ∣ p := Nat.gcd_dvd_left _ _
  have g2 : Nat.gcd p d ∣ d := Nat.gcd_dvd_right _ _
  have gp : 0 < Nat.gcd p d := Nat.gcd_pos_of_pos_left _ (by omega)
  have gl : Nat.gcd p d ≤ p := Nat.le_of_dvd (by omega) g1
  rcases Nat.lt_or_ge (Nat.gcd p d) 2 with z | z
  · show Nat.gcd p d = 1
    omega
  · rcases Nat.lt_or_ge (Nat.gcd p d) p with y | y
    · exact (no _ z y (Nat.dvd_trans g1 hpn)).elim
    · have : Nat.gcd p d = p := by omega
      rw [this] at g2
      exact (h g2).elim
theorem mu_sum {n : Nat} (hn : 1 ≤ n) : sum1 (onD n mu) n = if n = 1 then 1 else 0 := by
  by_cases h1 : n = 1
  · subst h1
    rw [if_pos rfl]
    show (0 : Int) + onD 1 mu 1 = 1
    rw [onD_of (Nat.dvd_refl _)]
    unfold mu
    rw [facs_end (by decide), last, if_neg (by omega)]
    rfl
  · rw [if_neg h1]
    obtain ⟨p, hp, ⟨q, hq⟩, no⟩ := least (n := n) (by omega)
    subst hq
    have hq1 : 1 ≤ q := by
      rcases Nat.eq_zero_or_pos q with z | z
      · subst z; simp at hn
      · exact z
    let a : Nat → Int := fun d => if p ∣ d then 0 else onD (p * q) mu d
    let b : Nat → Int := fun d => if p ∣ d then onD (p * q) mu d else 0
    have s1 : sum1 (onD (p * q) mu) (p * q) = sum1 a (p * q) + sum1 b (p * q) := by
      rw [← sum1_add]
      refine sum1_congr fun d _ _ => ?_
      show _ = (if p ∣ d then 0 else onD (p * q) mu d) + (if p ∣ d then onD (p * q) mu d else 0)
      split <;> omega
    have s2 : sum1 b (p * q) = sum1 (fun e => b (p * e)) q := sum1_mult (by omega) (fun d h => if_neg h) q
    have s3 : sum1 a (p * q) = sum1 a q := by
      refine sum1_cut (Nat.le_mul_of_pos_left _ (by omega)) fun d k1 k2 => ?_
      show (if p ∣ d then 0 else onD (p * q) mu d) = 0
      split
      · rfl
      · rename_i hpd
        refine onD_no fun hd => ?_
        have := (cop hp ⟨q, rfl⟩ no hpd).symm.dvd_of_dvd_mul_left hd
        have := Nat.le_of_dvd hq1 this
        omega
    have s4 : ∀ e, 1 ≤ e → e ≤ q → b (p * e) = - a e := by
      intro e he1 he2
      show (if p ∣ p * e then onD (p * q) mu (p * e) else 0) = - (if p ∣ e then 0 else onD (p * q) mu e)
      rw [if_pos ⟨e, rfl⟩]
      by_cases k : e ∣ q
      · have nope : No p (p * e) := no.dvd (Nat.mul_dvd_mul_left p k)
        rw [onD_of (Nat.mul_dvd_mul_left p k), mu_times hp he1 nope]
        split
        · rfl
        · rw [onD_of (Nat.dvd_trans k ⟨p, Nat.mul_comm _ _⟩)]
      · rw [onD_no fun z => k (Nat.dvd_of_mul_dvd_mul_left (by omega) z)]
        split
        · rfl
        · rename_i hpe
          rw [onD_no fun z => k ((cop hp ⟨q, rfl⟩ no hpe).symm.dvd_of_dvd_mul_left z)]
          rfl
    rw [s1, s2, s3, sum1_congr s4, sum1_neg]
    omega
end KF

namespace KF
theorem tm_zero {d n : Nat} (hd : 2 ≤ d) (hn : 1 ≤ n) (h : ¬ d ∣ n) : tm d n = 0 ∧ rs d n = n :=
  tr_of hd hn (by rw [Nat.pow_zero, Nat.one_mul]) h
/-- keys ascend, from d on -/
def Asc : Nat → List (Nat × Nat) → Prop
  | _, [] => True
  | d, p :: l => d ≤ p.1 ∧ Asc (p.1 + 1) l
theorem Asc.mono : ∀ {l : List (Nat × Nat)} {d e : Nat}, Asc d l → e ≤ d → Asc e l
  | [], _, _, _, _ => trivial
  | p :: l, d, e, h, k => ⟨Nat.le_trans k h.1, h.2⟩
theorem Asc.mem : ∀ {l : List (Nat × Nat)} {d : Nat}, Asc d l → ∀ p ∈ l, d ≤ p.1
  | [], _, _, _, m => by cases m
  | q :: l, d, h, p, m => by
    rcases List.mem_cons.mp m with rfl | m
    · exact h.1
    · have := Asc.mem h.2 p m
      have := h.1
      omega
theorem Asc.app : ∀ {l m : List (Nat × Nat)} {d e : Nat}, Asc d l → (∀ p ∈ l, p.1 < e) → Asc e m → d ≤ e → Asc d (l ++ m)
  | [], m, d, e, _, _, h, k => h.mono k
  | q :: l, m, d, e, h, hl, hm, k => ⟨h.1, Asc.app h.2 (fun p hp => hl p (List.mem_cons_of_mem _ hp)) hm (hl q List.mem_cons_self)⟩
theorem last_asc {d n : Nat} (hd : 2 ≤ d) (no : No d n) : Asc d (last n) := by
  unfold last
  split
  · rename_i h
    refine ⟨?_, trivial⟩
    rcases Nat.lt_or_ge n d with z | z
    · exact (no n (by omega) z (Nat.dvd_refl _)).elim
    · exact z
  · trivial
theorem facs_asc : ∀ (j d n : Nat), n + 1 - d ≤ j → 2 ≤ d → 1 ≤ n → No d n → Asc d (facs d n)
  | j, d, n, hj, hd, hn, no => by
    by_cases q : d * d ≤ n
    · have h1 : 2 * d ≤ d * d := Nat.mul_le_mul_right _ hd
      by_cases e : d ∣ n
      · rw [facs_hit hd q e]
        have h2 := rs_le hd hn
        have h3 := tr_spec hd hn
        cases j with
        | zero => omega
        | succ j => exact ⟨Nat.le_refl _, facs_asc j (d + 1) (rs d n) (by omega) (by omega) h3.2.2 ((no.dvd (rs_dvd hd hn)).step h3.2.1)⟩
      · rw [facs_skip hd e]
        cases j with
        | zero => omega
        | succ j => exact (facs_asc j (d + 1) n (by omega) (by omega) hn (no.step e)).mono (by omega)
    · rw [facs_end (by omega)]
      exact last_asc hd no
theorem facs2_asc {n : Nat} (hn : 1 ≤ n) : Asc 2 (facs 2 n) := facs_asc _ 2 n (Nat.le_refl _) (Nat.le_refl _) hn fun p h1 h2 => by omega
theorem last_len {n : Nat} (hn : 1 ≤ n) : 2 ^ (last n).length ≤ n := by
  unfold last
  split
  · rename_i h
    show 2 ^ 1 ≤ n
    omega
  · show 2 ^ 0 ≤ n
    omega
theorem facs_len : ∀ (j d n : Nat), n + 1 - d ≤ j → 2 ≤ d → 1 ≤ n → 2 ^ (facs d n).length ≤ n
  | j, d, n, hj, hd, hn => by
    by_cases q : d * d ≤ n
    · have h1 : 2 * d ≤ d * d := Nat.mul_le_mul_right _ hd
      by_cases e : d ∣ n
      · rw [facs_hit hd q e]
        have h2 := rs_le hd hn
        have h3 := tr_spec hd hn
        have h4 := tm_pos hd hn e
        cases j with
        | zero => omega
        | succ j =>
          have ih := facs_len j (d + 1) (rs d n) (by omega) (by omega) h3.2.2
          rw [List.length_cons, Nat.pow_succ]
          have h5 : 2 ≤ d ^ tm d n := Nat.le_trans hd (Nat.le_self_pow (by omega) d)
          have h6 : 2 * rs d n ≤ d ^ tm d n * rs d n := Nat.mul_le_mul_right _ h5
          rw [← h3.1] at h6
          omega
      · rw [facs_skip hd e]
        cases j with
        | zero => omega
        | succ j => exact facs_len j (d + 1) n (by omega) (by omega) hn
    · rw [facs_end (by omega)]
      exact last_len hn
theorem facs2_len {n : Nat} (hn : 1 ≤ n) (h : n < 2 ^ 30) : (facs 2 n).length < 30 := by
  have h1 := facs_len _ 2 n (Nat.le_refl _) (Nat.le_refl _) hn
  rcases Nat.lt_or_ge (facs 2 n).length 30 with z | z
  · exact z
  · have := Nat.pow_le_pow_right (show 0 < 2 by decide) z
    omega
/-- how the sign is told by how many there are -/
theorem muL_eq : ∀ l : List (Nat × Nat), muL l = if l.any (fun p => decide (1 < p.2)) = true then 0 else if l.length % 2 = 0 then 1 else -1
  | [] => rfl
  | p :: l => by
    show (if 1 < p.2 then 0 else - muL l) = _
    rw [muL_eq l, List.any_cons, List.length_cons]
    by_cases h : 1 < p.2
    · rw [if_pos h, decide_eq_true h, Bool.true_or, if_pos rfl]
    · rw [if_neg h, decide_eq_false h, Bool.false_or]
      split
      · rfl
      · split <;> split <;> omega
end KF

namespace DF
open PySem PySem.Spec PyProof.Rows L2 KF
/-! ### dicts of factors -/
def fdD (l : List (Nat × Nat)) : List (Key × D) := l.map fun p => (.inl (p.1 : Int), .int (p.2 : Int))
theorem fdD_length (l : List (Nat × Nat)) : (fdD l).length = l.length := List.length_map ..
theorem fdD_app (l m : List (Nat × Nat)) : fdD (l ++ m) = fdD l ++ fdD m := List.map_append
theorem fdD_any {l : List (Nat × Nat)} {k : Nat} (h : ∀ p ∈ l, p.1 ≠ k) : ((fdD l).any fun p => decide (p.1 = Sum.inl (k : Int))) = false := by
  rw [List.any_eq_false]
  intro p hp
  obtain ⟨q, hq, rfl⟩ := List.mem_map.mp hp
  have := h q hq
  simp only [decide_eq_true_eq, Sum.inl.injEq]
  omega
theorem fdD_find {l : List (Nat × Nat)} {k : Nat} (h : ∀ p ∈ l, p.1 ≠ k) : ((fdD l).find? fun p => decide (p.1 = Sum.inl (k : Int))) = none := by
  rw [List.find?_eq_none]
  intro p hp
  obtain ⟨q, hq, rfl⟩ := List.mem_map.mp hp
  have := h q hq
  simp only [decide_eq_true_eq, Sum.inl.injEq]
  omega
theorem fd_val0 {l : List (Nat × Nat)} {k : Nat} (h : ∀ p ∈ l, p.1 ≠ k) : valD (fdD l) (.inl (k : Int)) = none := by
  unfold valD
  rw [fdD_find h]; rfl
theorem fd_ins0 {l : List (Nat × Nat)} {k v : Nat} (h : ∀ p ∈ l, p.1 ≠ k) : insD (fdD l) (.inl (k : Int)) (.int (v : Int)) = fdD (l ++ [(k, v)]) := by
  unfold insD
  rw [fdD_any h, fdD_app]
  rfl
theorem fd_val1 {l : List (Nat × Nat)} {k e : Nat} (h : ∀ p ∈ l, p.1 ≠ k) : valD (fdD (l ++ [(k, e)])) (.inl (k : Int)) = some (.int (e : Int)) := by
  unfold valD
  rw [fdD_app, List.find?_append, fdD_find h]
  simp [fdD]
theorem map_same {l : List (Nat × Nat)} {k : Nat} {v : D} (h : ∀ p ∈ l, p.1 ≠ k) : (fdD l).map (fun p => if p.1 = Sum.inl (k : Int) then (p.1, v) else p) = fdD l := by
  unfold fdD
  rw [List.map_map]
  refine List.map_congr_left fun p hp => ?_
  have := h p hp
  have : ¬ (Sum.inl (p.1 : Int) : Key) = Sum.inl (k : Int) := fun z => by cases z; omega
  show (if (Sum.inl (p.1 : Int) : Key) = Sum.inl (k : Int) then _ else _) = _
  rw [if_neg this]
theorem fd_ins1 {l : List (Nat × Nat)} {k e v : Nat} (h : ∀ p ∈ l, p.1 ≠ k) : insD (fdD (l ++ [(k, e)])) (.inl (k : Int)) (.int (v : Int)) = fdD (l ++ [(k, v)]) := by
  unfold insD
  have : ((fdD (l ++ [(k, e)])).any fun p => decide (p.1 = Sum.inl (k : Int))) = true := by
    rw [fdD_app, List.any_append]
    simp [fdD]
  rw [this, if_pos rfl, fdD_app, List.map_append, map_same h, fdD_app]
  simp [fdD]
/-- what stands in the dict when d was found e times -/
def stE (l : List (Nat × Nat)) (d e : Nat) : List (Nat × Nat) := if e = 0 then l else l ++ [(d, e)]
theorem st_val {l : List (Nat × Nat)} {d e : Nat} (h : ∀ p ∈ l, p.1 ≠ d) : (valD (fdD (stE l d e)) (.inl (d : Int))).getD (.int 0) = .int (e : Int) := by
  unfold stE
  split
  · rename_i z; subst z; rw [fd_val0 h]; rfl
  · rw [fd_val1 h]; rfl
theorem st_ins {l : List (Nat × Nat)} {d e : Nat} (h : ∀ p ∈ l, p.1 ≠ d) : insD (fdD (stE l d e)) (.inl (d : Int)) (.int ((e : Int) + 1)) = fdD (stE l d (e + 1)) := by
  have c : ((e : Int) + 1) = ((e + 1 : Nat) : Int) := rfl
  rw [c]
  unfold stE
  rw [if_neg (Nat.succ_ne_zero e)]
  split
  · exact fd_ins0 h
  · exact fd_ins1 h
theorem stE_length (l : List (Nat × Nat)) (d e : Nat) : (stE l d e).length ≤ l.length + 1 := by
  unfold stE
  split
  · omega
  · rw [List.length_append]; exact Nat.le_refl _
abbrev fEnv (c0 : Option Cell) (l : List (Nat × Nat)) (m d : Nat) : DEnv := [c0, some (.mu false (.dic (fdD l))), some (.val (.int (m : Int))), some (.val (.int (d : Int)))]
/-- trial division, in any dress -/
structure Trial (cI cO : DEnv → R Bool) (bI bS : DEnv → SR) (nx : Nat → Nat) : Prop where
  tI : ∀ c0 l m d, 2 ≤ d → d ≤ 100000 → cI (fEnv c0 l m d) = .ok (fEnv c0 l m d) (decide (m % d = 0))
  tO : ∀ c0 l m d, d ≤ 100000 → cO (fEnv c0 l m d) = .ok (fEnv c0 l m d) (decide (d * d ≤ m))
  bI : ∀ c0 (l l' : List (Nat × Nat)) (e m d : Nat), 2 ≤ d → d ≤ 100000 → (valD (fdD l) (.inl (d : Int))).getD (.int 0) = .int (e : Int) → insD (fdD l) (.inl (d : Int)) (.int ((e : Int) + 1)) = fdD l' → l.length < 16000000 → bI (fEnv c0 l m d) = .nx (fEnv c0 l' (m / d) d)
  bS : ∀ c0 l m d, d ≤ 100000 → bS (fEnv c0 l m d) = .nx (fEnv c0 l m (nx d))
  up : ∀ d, d < nx d ∧ nx d ≤ d + 2
theorem trial_in {cI cO : DEnv → R Bool} {bI bS : DEnv → SR} {nx : Nat → Nat} (T : Trial cI cO bI bS nx) {c0 : Option Cell} {acc : List (Nat × Nat)} {d m n : Nat} (hd : 2 ≤ d) (hd2 : d ≤ 100000) (hm : 1 ≤ m) (hn : m < n) (hk : ∀ p ∈ acc, p.1 ≠ d) (hl : acc.length < 1000) :
    dWhile cI bI n (fEnv c0 acc m d) = .nx (fEnv c0 (stE acc d (tm d m)) (rs d m) d) := by
  have := wp_while (E := { nx := fun ρ => ρ = fEnv c0 (stE acc d (tm d m)) (rs d m) d }) (c := cI) (b := bI) (fun cur ρ => ∃ e, 1 ≤ cur ∧ m = d ^ e * cur ∧ ρ = fEnv c0 (stE acc d e) cur d) (by
    rintro cur ρ ⟨e, h1, h2, rfl⟩
    by_cases hz : cur % d = 0
    · right
      refine ⟨_, (T.tI _ _ _ _ hd hd2).trans (by rw [decide_eq_true hz]), ?_⟩
      refine wp_nx (T.bI c0 _ _ e cur d hd hd2 (st_val hk) (st_ins hk) (by have := stE_length acc d e; omega)) ?_
      obtain ⟨k, rfl⟩ := Nat.dvd_of_mod_eq_zero hz
      have kp : 1 ≤ k := Nat.one_le_iff_ne_zero.mpr fun z => by rw [z] at h1; simp at h1
      rw [Nat.mul_div_cancel_left k (by omega)]
      refine ⟨k, ?_, e + 1, kp, ?_, rfl⟩
      · exact Nat.lt_of_lt_of_le (by omega) (Nat.mul_le_mul_right k hd)
      · rw [h2, Nat.pow_succ, Nat.mul_assoc]
    · left
      refine ⟨_, (T.tI _ _ _ _ hd hd2).trans (by rw [decide_eq_false hz]), ?_⟩
      obtain ⟨q1, q2⟩ := tr_of hd hm h2 fun z => hz (Nat.mod_eq_zero_of_dvd z)
      show _ = _
      rw [q1, q2]) n m (fEnv c0 acc m d) hn ⟨0, hm, by rw [Nat.pow_zero, Nat.one_mul], rfl⟩
  cases e : dWhile cI bI n (fEnv c0 acc m d) with
  | nx ρ => rw [e] at this; exact congrArg SR.nx this.run
  | _ => rw [e] at this; exact False.elim this.run
theorem trial_out {cI cO : DEnv → R Bool} {bI bS : DEnv → SR} {nx : Nat → Nat} (T : Trial cI cO bI bS nx) {c0 : Option Cell} {n N : Nat} (Ok : Nat → Nat → Prop) (hN1 : 1 ≤ N) (hN : N ≤ 10 ^ 9) (hn : N < n) (h2 : Ok 2 N)
    (hs : ∀ d m, 2 ≤ d → Ok d m → 1 ≤ m → (∀ p, d < p → p < nx d → ¬ p ∣ rs d m) ∧ Ok (nx d) (rs d m)) :
    ∃ acc d m, 2 ≤ d ∧ 1 ≤ m ∧ No d m ∧ (∀ p ∈ acc, p.1 < d) ∧ acc.length ≤ d ∧ d ≤ 40000 ∧ m < d * d ∧ facs 2 N = acc ++ last m ∧
      dWhile cO (dSeq (dWhile cI bI n) bS) n (fEnv c0 [] N 2) = .nx (fEnv c0 acc m d) := by
  have := wp_while (E := { nx := fun ρ => ∃ acc d m, 2 ≤ d ∧ 1 ≤ m ∧ No d m ∧ (∀ p ∈ acc, p.1 < d) ∧ acc.length ≤ d ∧ d ≤ 40000 ∧ m < d * d ∧ facs 2 N = acc ++ last m ∧ ρ = fEnv c0 acc m d }) (c := cO) (b := dSeq (dWhile cI bI n) bS)
    (fun k ρ => ∃ acc d m, k = N + 1 - d ∧ 2 ≤ d ∧ 1 ≤ m ∧ m ≤ N ∧ No d m ∧ Ok d m ∧ (∀ p ∈ acc, p.1 < d) ∧ acc.length ≤ d ∧ d ≤ 40000 ∧ facs 2 N = acc ++ facs d m ∧ ρ = fEnv c0 acc m d) (by
    rintro k ρ ⟨acc, d, m, rfl, hd, hm, hmN, hno, hok, hacc, hal, hd2, hf, rfl⟩
    by_cases hz : d * d ≤ m
    · right
      refine ⟨_, (T.tO _ _ _ _ (by omega)).trans (by rw [decide_eq_true hz]), ?_⟩
      have d3 : d ≤ 31622 := by
        rcases Nat.lt_or_ge 31622 d with z | z
        · have := Nat.mul_le_mul (show 31623 ≤ d from z) (show 31623 ≤ d from z)
          omega
        · exact z
      refine wp_seq (trial_in T hd (by omega) hm (by omega) (fun p hp => by have := hacc p hp; omega) (by
        have l1 := hal
        have l2 : acc.length < 1000 := by
          have e2 : acc.length ≤ (facs 2 N).length := by rw [hf, List.length_append]; omega
          have := facs2_len hN1 (show N < 2 ^ 30 by omega)
          omega
        exact l2)) ?_
      refine wp_nx (T.bS _ _ _ _ (by omega)) ?_
      obtain ⟨t1, t2, t3⟩ := tr_spec (d := d) (n := m) hd hm
      have no' : No (d + 1) (rs d m) := fun p p1 p2 pd => by
        rcases Nat.lt_or_ge p d with q | q
        · exact hno p p1 q (Nat.dvd_trans pd (rs_dvd hd hm))
        · have : p = d := by omega
          subst this
          exact t2 pd
      obtain ⟨s1, s2⟩ := hs d m hd hok hm
      obtain ⟨u1, u2⟩ := T.up d
      have s0 : facs (d + 1) (rs d m) = facs (nx d) (rs d m) := by
        rcases (show nx d = d + 1 ∨ nx d = d + 2 by omega) with z | z
        · rw [z]
        · rw [z]; exact facs_skip (by omega) (s1 (d + 1) (by omega) (by omega))
      have fe : facs d m = (if d ∣ m then [(d, tm d m)] else []) ++ facs (nx d) (rs d m) := by
        by_cases hdv : d ∣ m
        · rw [facs_hit hd hz hdv, if_pos hdv, s0]; rfl
        · rw [facs_skip hd hdv, if_neg hdv, ← s0, (tm_zero hd hm hdv).2]; rfl
      refine ⟨N + 1 - nx d, by have : d * 2 ≤ d * d := Nat.mul_le_mul_left _ hd; omega, stE acc d (tm d m), nx d, rs d m, rfl, by omega, t3, Nat.le_trans (rs_le hd hm) hmN, ?_, s2, ?_, ?_, by omega, ?_, rfl⟩
      · intro p p1 p2 pd
        rcases Nat.lt_or_ge p (d + 1) with q | q
        · exact no' p p1 q pd
        · exact s1 p q p2 pd
      · intro p hp
        unfold stE at hp
        split at hp
        · have := hacc p hp; omega
        · rcases List.mem_append.mp hp with q | q
          · have := hacc p q; omega
          · rw [List.mem_singleton.mp q]; exact u1
      · have := stE_length acc d (tm d m); omega
      · rw [hf, fe, ← List.append_assoc]
        congr 1
        unfold stE
        by_cases hdv : d ∣ m
        · have := tm_pos hd hm hdv
          rw [if_pos hdv, if_neg (by omega)]
        · rw [if_neg hdv, (tm_zero hd hm hdv).1, if_pos rfl, List.append_nil]
    · left
      refine ⟨_, (T.tO _ _ _ _ (by omega)).trans (by rw [decide_eq_false hz]), acc, d, m, hd, hm, hno, hacc, hal, hd2, by omega, ?_, rfl⟩
      rw [hf, facs_end (by omega)]) n (N + 1 - 2) (fEnv c0 [] N 2) (by omega) ⟨[], 2, N, rfl, Nat.le_refl _, hN1, Nat.le_refl _, fun p h1 h2 => by omega, h2, by simp, by simp, by decide, by simp, rfl⟩
  cases e : dWhile cO (dSeq (dWhile cI bI n) bS) n (fEnv c0 [] N 2) with
  | nx ρ =>
    rw [e] at this
    obtain ⟨acc, d, m, h1, h2, h3, h4, h5, h6, h7, h8, h9⟩ := this.run
    exact ⟨acc, d, m, h1, h2, h3, h4, h5, h6, h7, h8, by rw [h9]⟩
  | _ => rw [e] at this; exact False.elim this.run
end DF
namespace DF
open PySem PySem.Spec PyProof.Rows L2 KF
/-! ### comparing such dicts -/
def flk (m : List (Nat × Nat)) (k : Nat) : Option Nat := (m.find? fun p => decide (p.1 = k)).map (·.2)
theorem fd_val (m : List (Nat × Nat)) (k : Nat) : valD (fdD m) (.inl (k : Int)) = (flk m k).map fun (e : Nat) => D.int (e : Int) := by
  induction m with
  | nil => rfl
  | cons p m ih =>
    unfold valD flk fdD at *
    rw [List.map_cons, List.find?_cons, List.find?_cons]
    by_cases h : p.1 = k
    · have h' : (Sum.inl (p.1 : Int) : Key) = Sum.inl (k : Int) := by rw [h]
      simp only [decide_eq_true h, decide_eq_true h']
      rfl
    · have h' : ¬ (Sum.inl (p.1 : Int) : Key) = Sum.inl (k : Int) := fun z => by cases z; omega
      simp only [decide_eq_false h, decide_eq_false h']
      exact ih
theorem eqP_int (i j : Int) : eqP (.int i) (.int j) = some (decide (i = j)) := by
  obtain ⟨p, q, e1, e2, e3⟩ := eqP_plain (d := .int i) (e := .int j) rfl rfl
  cases e1
  cases e2
  rw [e3]
  rfl
def hitF (m l : List (Nat × Nat)) : Bool := l.all fun p => decide (flk m p.1 = some p.2)
theorem hits_fd (m : List (Nat × Nat)) : ∀ l : List (Nat × Nat), hitsD (fdD m) (fdD l) = some (hitF m l)
  | [] => rfl
  | p :: l => by
    have ih := hits_fd m l
    have e : fdD (p :: l) = (.inl (p.1 : Int), .int (p.2 : Int)) :: fdD l := rfl
    rw [e]
    unfold hitsD
    simp only [fd_val, ih]
    unfold hitF
    rw [List.all_cons]
    cases q : flk m p.1 with
    | none => simp
    | some x =>
      simp only [Option.map_some, eqP_int]
      congr 2
      have : ((p.2 : Int) = (x : Int)) ↔ (some x = some p.2) := by
        constructor
        · intro z; congr 1; omega
        · intro z; cases z; rfl
      simp only [this]
def eqF (l m : List (Nat × Nat)) : Bool := l.length == m.length && hitF m l
theorem eqY_fd (l m : List (Nat × Nat)) : eqY (.dic (fdD l)) (.dic (fdD m)) = some (.bl (eqF l m)) := by
  have : eqK (.dic (fdD l)) (.dic (fdD m)) = some (.bl (eqF l m)) := by
    unfold eqK eqKB
    simp only [hits_fd, fdD_length]
    rfl
  unfold eqY eqX orD
  rw [this]
  rfl
theorem neY_fd (l m : List (Nat × Nat)) : neY (.dic (fdD l)) (.dic (fdD m)) = some (.bl (!eqF l m)) := by
  have : neK (.dic (fdD l)) (.dic (fdD m)) = some (.bl (!eqF l m)) := by
    unfold neK eqKB
    simp only [hits_fd, fdD_length]
    rfl
  unfold neY neX orD
  rw [this]
  rfl
theorem eqF_one (l : List (Nat × Nat)) (k e : Nat) : eqF l [(k, e)] = decide (l = [(k, e)]) := by
  unfold eqF
  match l with
  | [] => rfl
  | [p] =>
    obtain ⟨a, b⟩ := p
    have : hitF [(k, e)] [(a, b)] = decide ([(a, b)] = [(k, e)]) := by
      unfold hitF flk
      rw [List.all_cons, List.all_nil, Bool.and_true, List.find?_cons]
      by_cases h : k = a
      · subst h
        rw [decide_eq_true (show (k, e).1 = k from rfl)]
        apply decide_eq_decide.mpr
        constructor
        · intro z; cases z; rfl
        · intro z; cases z; rfl
      · rw [decide_eq_false (show ¬ (k, e).1 = a from h)]
        apply decide_eq_decide.mpr
        constructor
        · intro z; cases z
        · intro z; cases z; exact absurd rfl h
    rw [this]
    rfl
  | p :: q :: r =>
    rw [decide_eq_false (fun z => by cases z)]
    have : ((p :: q :: r).length == [(k, e)].length) = false := by
      rw [List.length_cons, List.length_cons]
      simp
    rw [this]; rfl
theorem flk_asc : ∀ {l : List (Nat × Nat)} {d : Nat}, Asc d l → ∀ p ∈ l, flk l p.1 = some p.2
  | [], _, _, p, m => by cases m
  | q :: l, d, h, p, m => by
    unfold flk
    rw [List.find?_cons]
    rcases List.mem_cons.mp m with rfl | m'
    · rw [decide_eq_true rfl]; rfl
    · have : ¬ q.1 = p.1 := by
        have := Asc.mem h.2 p m'
        omega
      rw [decide_eq_false this]
      exact flk_asc h.2 p m'
theorem eqF_same {l : List (Nat × Nat)} {d : Nat} (h : Asc d l) : eqF l l = true := by
  unfold eqF hitF
  rw [beq_self_eq_true, Bool.true_and, List.all_eq_true]
  exact fun p hp => decide_eq_true (flk_asc h p hp)
theorem fd_intKeys : ∀ l : List (Nat × Nat), intKeys (fdD l) = some (l.map fun p => (p.1 : Int))
  | [] => rfl
  | p :: l => by
    have e : fdD (p :: l) = (.inl (p.1 : Int), .int (p.2 : Int)) :: fdD l := rfl
    rw [e]
    unfold intKeys
    rw [fd_intKeys l]
    rfl
theorem asc_sorted : ∀ {l : List (Nat × Nat)} {d : Nat}, Asc d l → (l.map fun p => (p.1 : Int)).Pairwise (· ≤ ·)
  | [], _, _ => .nil
  | q :: l, d, h => by
    rw [List.map_cons]
    refine .cons (fun x hx => ?_) (asc_sorted h.2)
    obtain ⟨p, hp, rfl⟩ := List.mem_map.mp hx
    have := Asc.mem h.2 p hp
    omega
theorem sort_fd {l : List (Nat × Nat)} {d : Nat} (h : Asc d l) (hl : l.length < 64) : sortO (.dic (fdD l)) = some ((l.map fun p => (p.1 : Int)).map D.int) := by
  unfold sortO
  simp only [fd_intKeys]
  rw [List.length_map, if_pos hl, ← isort_of (List.Perm.refl _) (asc_sorted h)]
theorem keys_fd (l : List (Nat × Nat)) : keysO (.dic (fdD l)) = some ((l.map fun p => (p.1 : Int)).map D.int) := by
  show some ((fdD l).map fun p => keyD p.1) = _
  unfold fdD
  rw [List.map_map, List.map_map]
  rfl
end DF

namespace K01
open PySem PySem.Spec PyProof.Rows L2 DF
def topS (i : Nat) : Stmt := PySem.Challenge.pw_wholerises_k01_whole_integers.main.body.getD i (.Pass ⟨0, 0, 0, 0⟩)
abbrev s_q_bag : Stmt := topS 28
theorem sc_q_bag : FnScope ["_law_script", "_law_spot", "_law_cell", "_law_great", "_law_mixed"] ["_law_script", "_law_spot"] (defScope s_q_bag) := ⟨rfl, rfl, rfl, by decide +kernel, rfl, by decide +kernel, by decide +kernel⟩
abbrev s_is_long_integer : Stmt := topS 13
theorem sc_is_long_integer : FnScope ["value"] ["value"] (defScope s_is_long_integer) := ⟨rfl, rfl, rfl, by decide +kernel, rfl, by decide +kernel, by decide +kernel⟩
abbrev s_is_integer : Stmt := topS 14
theorem sc_is_integer : FnScope ["value"] ["value"] (defScope s_is_integer) := ⟨rfl, rfl, rfl, by decide +kernel, rfl, by decide +kernel, by decide +kernel⟩
abbrev s_is_between : Stmt := topS 15
theorem sc_is_between : FnScope ["value", "least", "most"] ["value", "least", "most"] (defScope s_is_between) := ⟨rfl, rfl, rfl, by decide +kernel, rfl, by decide +kernel, by decide +kernel⟩
abbrev s_check_number : Stmt := topS 16
theorem sc_check_number : FnScope ["given", "least", "most"] ["given", "least", "most"] (defScope s_check_number) := ⟨rfl, rfl, rfl, by decide +kernel, rfl, by decide +kernel, by decide +kernel⟩
abbrev s_prime_factors : Stmt := topS 18
theorem sc_prime_factors : FnScope ["number", "found", "left", "divisor"] ["number"] (defScope s_prime_factors) := ⟨rfl, rfl, rfl, by decide +kernel, rfl, by decide +kernel, by decide +kernel⟩
abbrev s_moebius : Stmt := topS 19
theorem sc_moebius : FnScope ["number", "sign", "times"] ["number"] (defScope s_moebius) := ⟨rfl, rfl, rfl, by decide +kernel, rfl, by decide +kernel, by decide +kernel⟩
abbrev s_units_of : Stmt := topS 20
theorem sc_units_of : FnScope ["number", "unit"] ["number"] (defScope s_units_of) := ⟨rfl, rfl, rfl, by decide +kernel, rfl, by decide +kernel, by decide +kernel⟩
abbrev s_digits_to : Stmt := topS 26
theorem sc_digits_to : FnScope ["number", "base", "digits", "left"] ["number", "base"] (defScope s_digits_to) := ⟨rfl, rfl, rfl, by decide +kernel, rfl, by decide +kernel, by decide +kernel⟩
abbrev s_digits_of : Stmt := topS 25
theorem sc_digits_of : FnScope ["number", "base"] ["number", "base"] (defScope s_digits_of) := ⟨rfl, rfl, rfl, by decide +kernel, rfl, by decide +kernel, by decide +kernel⟩
abbrev s_divisor_of_all : Stmt := topS 22
theorem sc_divisor_of_all : FnScope ["numbers", "divisor", "number"] ["numbers"] (defScope s_divisor_of_all) := ⟨rfl, rfl, rfl, by decide +kernel, rfl, by decide +kernel, by decide +kernel⟩
abbrev s_are_integers : Stmt := topS 21
theorem sc_are_integers : FnScope ["value", "item"] ["value"] (defScope s_are_integers) := ⟨rfl, rfl, rfl, by decide +kernel, rfl, by decide +kernel, by decide +kernel⟩
abbrev s_common_divisor : Stmt := topS 23
theorem sc_common_divisor : FnScope ["numbers"] ["numbers"] (defScope s_common_divisor) := ⟨rfl, rfl, rfl, by decide +kernel, rfl, by decide +kernel, by decide +kernel⟩
abbrev s_common_multiple : Stmt := topS 24
theorem sc_common_multiple : FnScope ["numbers", "multiple", "number"] ["numbers"] (defScope s_common_multiple) := ⟨rfl, rfl, rfl, by decide +kernel, rfl, by decide +kernel, by decide +kernel⟩
abbrev s_q_grab : Stmt := topS 29
theorem sc_q_grab : FnScope ["_law_bag_here", "_law_total", "_law_found", "_law_one", "_law_two"] ["_law_bag_here", "_law_total"] (defScope s_q_grab) := ⟨rfl, rfl, rfl, by decide +kernel, rfl, by decide +kernel, by decide +kernel⟩
abbrev s_q_one_of : Stmt := topS 30
theorem sc_q_one_of : FnScope ["_law_bag_here", "_law_items"] ["_law_bag_here", "_law_items"] (defScope s_q_one_of) := ⟨rfl, rfl, rfl, by decide +kernel, rfl, by decide +kernel, by decide +kernel⟩
abbrev s_q_nb_drawn : Stmt := topS 36
theorem sc_q_nb_drawn : FnScope ["_law_bag_here", "_law_most", "_law_found", "_law_turn", "_law_part"] ["_law_bag_here", "_law_most"] (defScope s_q_nb_drawn) := ⟨rfl, rfl, rfl, by decide +kernel, rfl, by decide +kernel, by decide +kernel⟩
abbrev s_q_nb_is_short : Stmt := topS 34
theorem sc_q_nb_is_short : FnScope ["_law_value"] ["_law_value"] (defScope s_q_nb_is_short) := ⟨rfl, rfl, rfl, by decide +kernel, rfl, by decide +kernel, by decide +kernel⟩
abbrev s_q_nb_factors : Stmt := topS 32
theorem sc_q_nb_factors : FnScope ["_law_number", "_law_found", "_law_left", "_law_part"] ["_law_number"] (defScope s_q_nb_factors) := ⟨rfl, rfl, rfl, by decide +kernel, rfl, by decide +kernel, by decide +kernel⟩
abbrev s_q_nb_is_prime : Stmt := topS 35
theorem sc_q_nb_is_prime : FnScope ["_law_value"] ["_law_value"] (defScope s_q_nb_is_prime) := ⟨rfl, rfl, rfl, by decide +kernel, rfl, by decide +kernel, by decide +kernel⟩
abbrev s_is_prime : Stmt := topS 17
theorem sc_is_prime : FnScope ["value", "divisor"] ["value"] (defScope s_is_prime) := ⟨rfl, rfl, rfl, by decide +kernel, rfl, by decide +kernel, by decide +kernel⟩
abbrev s_q_judged_right : Stmt := topS 37
theorem sc_q_judged_right : FnScope ["_law_bag_here", "_law_turn", "_law_some", "_law_value", "_law_due"] ["_law_bag_here"] (defScope s_q_judged_right) := ⟨rfl, rfl, rfl, by decide +kernel, rfl, by decide +kernel, by decide +kernel⟩
abbrev s_q_nb_sign : Stmt := topS 33
theorem sc_q_nb_sign : FnScope ["_law_number", "_law_often", "_law_many"] ["_law_number"] (defScope s_q_nb_sign) := ⟨rfl, rfl, rfl, by decide +kernel, rfl, by decide +kernel, by decide +kernel⟩
abbrev s_q_nb_divisor : Stmt := topS 31
theorem sc_q_nb_divisor : FnScope ["_law_numbers", "_law_found", "_law_number", "_law_other"] ["_law_numbers"] (defScope s_q_nb_divisor) := ⟨rfl, rfl, rfl, by decide +kernel, rfl, by decide +kernel, by decide +kernel⟩
abbrev s_q_factors_right : Stmt := topS 38
theorem sc_q_factors_right : FnScope ["_law_bag_here", "_law_number", "_law_lesser", "_law_few", "_law_told", "_law_one"] ["_law_bag_here"] (defScope s_q_factors_right) := ⟨rfl, rfl, rfl, by decide +kernel, rfl, by decide +kernel, by decide +kernel⟩
abbrev s_q_commons_right : Stmt := topS 39
theorem sc_q_commons_right : FnScope ["_law_bag_here", "_law_share", "_law_high", "_law_many", "_law_turn", "_law_numbers", "_law_number", "_law_above", "_law_due"] ["_law_bag_here"] (defScope s_q_commons_right) := ⟨rfl, rfl, rfl, by decide +kernel, rfl, by decide +kernel, by decide +kernel⟩
abbrev s_q_digits_right : Stmt := topS 40
theorem sc_q_digits_right : FnScope ["_law_bag_here", "_law_number", "_law_base", "_law_due", "_law_left"] ["_law_bag_here"] (defScope s_q_digits_right) := ⟨rfl, rfl, rfl, by decide +kernel, rfl, by decide +kernel, by decide +kernel⟩
abbrev s_law : Stmt := topS 41
theorem sc_law : FnScope ["_law_script", "_law_spot", "_law_bag_here", "_law_told"] ["_law_script"] (defScope s_law) := ⟨rfl, rfl, rfl, by decide +kernel, rfl, by decide +kernel, by decide +kernel⟩
/-! ### what the defs do -/
def B_q_bag (n : Nat) : DEnv → SR := dSeq (dSet 2 (dIte (dTst (dBin ltD (oVar 1) (oD (dCal lenD (aCons (oVar 0) (aNil)))))) (dBin ixD (oVar 0) (oVar 1)) (dBin addD (oD (dBin addD (oD (dCal sumD (aCons (oD (dCut none (some 1) (oVar 0))) (aNil)))) (oD (dBin mulD (oD (dC (.int 151))) (oVar 1))))) (oD (dC (.int 89))))))
    (dSeq (dSet 3 (dBin modD (oD (dCal intD (aCons (oD (dCal absD (aCons (oVar 2) (aNil)))) (aNil)))) (oD (dBin powD (oD (dBin powD (oD (dC (.int 10))) (oD (dC (.int 45))))) (oD (dC (.int 13)))))))
    (dSeq (dSet 4 (dBin addD (oD (dBin addD (oD (dBin addD (oD (dBin mulD (oD (dBin modD (oD (dCal intD (aCons (oVar 3) (aNil)))) (oD (dC (.int 2305843009213693723))))) (oD (dC (.int 1000457))))) (oD (dBin mulD (oD (dC (.int 9029))) (oVar 1))))) (oD (dBin mulD (oD (dC (.int 53))) (oD (dCal intD (aCons (oD (dBin ltD (oVar 2) (oD (dC (.int 0))))) (aNil)))))))) (oD (dC (.int 37)))))
    (dRetF (dLst (vCons (dCal (orC max2D maxSD) (aCons (oD (dC (.int 0))) (aCons (oD (dBin subD (oVar 3) (oD (dBin powD (oD (dC (.int 10))) (oD (dC (.int 18))))))) (aNil)))) (vCons (dBin modD (oD (dCal intD (aCons (oVar 4) (aNil)))) (oD (dC (.int 2305843009213693951)))) (vCons (dC (.int 0)) (vNil))))))))
def F_q_bag : Fn := fun as => fnRes as (B_q_bag (fuel as) (startE 5 as))
def B_is_long_integer (n : Nat) : DEnv → SR := dRet (dAndV (dIsi "int" (oVar 0)) (dNotV (dIsi "bool" (oVar 0))))
def F_is_long_integer : Fn := fun as => fnRes as (B_is_long_integer (fuel as) (startE 1 as))
def B_is_integer (n : Nat) : DEnv → SR := dRet (dAndV (dV (dCal2 1 F_is_long_integer (rVal (dVar 0) (rNil)))) (dBin leD (oD (dCal absD (aCons (oVar 0) (aNil)))) (oD (dC (.int 999999999999999999999999999999999999999999999999999999999999)))))
def F_is_integer : Fn := fun as => fnRes as (B_is_integer (fuel as) (startE 1 as))
def B_is_between (n : Nat) : DEnv → SR := dRet (dAndV (dV (dCal2 1 F_is_integer (rVal (dVar 0) (rNil)))) (dChain leD leD (oVar 1) (oVar 0) (oVar 2)))
def F_is_between : Fn := fun as => fnRes as (B_is_between (fuel as) (startE 3 as))
def B_check_number (n : Nat) : DEnv → SR := dIf (dNot (dTst (dV (dCal2 3 F_is_between (rVal (dVar 0) (rVal (dVar 1) (rVal (dVar 2) (rNil)))))))) (dNever) (SR.nx)
def F_check_number : Fn := fun as => fnRes as (B_check_number (fuel as) (startE 3 as))
def B_prime_factors (n : Nat) : DEnv → SR := dSeq (dExpr (dV (dCal2 3 F_check_number (rVal (dVar 0) (rVal (dC (.int 1)) (rVal (dC (.int 1000000000)) (rNil)))))))
    (dSeq (dSetF 1 (dDic0))
    (dSeq (dSet 2 (dVar 0))
    (dSeq (dSet 3 (dC (.int 2)))
    (dSeq (dWhile (dTst (dBin leD (oD (dBin mulD (oVar 3) (oVar 3))) (oVar 2))) (dSeq (dWhile (dTst (dBin eqY (oD (dBin modD (oVar 2) (oVar 3))) (oD (dC (.int 0))))) (dSeq (dSetK 1 (dVar 3) (dBin addD (oD (dGet2 (oVar 1) (dVar 3) (dC (.int 0)))) (oD (dC (.int 1)))))
    (dSet 2 (dBin divD (oVar 2) (oVar 3)))) n)
    (dSet 3 (dIte (dTst (dBin eqY (oVar 3) (oD (dC (.int 2))))) (dBin addD (oVar 3) (oD (dC (.int 1)))) (dBin addD (oVar 3) (oD (dC (.int 2))))))) n)
    (dSeq (dIf (dTst (dBin gtD (oVar 2) (oD (dC (.int 1))))) (dSetK 1 (dVar 2) (dC (.int 1))) (SR.nx))
    (dRetV 1))))))
def F_prime_factors : Fn := fun as => fnRes as (B_prime_factors (fuel as) (startE 4 as))
def B_moebius (n : Nat) : DEnv → SR := dSeq (dExpr (dV (dCal2 3 F_check_number (rVal (dVar 0) (rVal (dC (.int 1)) (rVal (dC (.int 1000000)) (rNil)))))))
    (dSeq (dSet 1 (dC (.int 1)))
    (dSeq (dForS (sVals (dV (dCal2 1 F_prime_factors (rVal (dVar 0) (rNil))))) (setV 2) (dSeq (dIf (dTst (dBin gtD (oVar 2) (oD (dC (.int 1))))) (dRet (dC (.int 0))) (SR.nx))
    (dSet 1 (dUn negD (oVar 1)))))
    (dRetV 1)))
def F_moebius : Fn := fun as => fnRes as (B_moebius (fuel as) (startE 3 as))
def B_units_of (n : Nat) : DEnv → SR := dSeq (dExpr (dV (dCal2 3 F_check_number (rVal (dVar 0) (rVal (dC (.int 1)) (rVal (dC (.int 2520)) (rNil)))))))
    (dRet (dCal tupD (aCons (oD (dLc (sRng2 (vCons (dC (.int 1)) (vCons (dBin addD (oVar 0) (oD (dC (.int 1)))) (vNil)))) (setV 1) (dTst (dBin eqY (oD (dCal gcdD (aCons (oVar 1) (aCons (oVar 0) (aNil))))) (oD (dC (.int 1))))) (dVar 1) [1])) (aNil))))
def F_units_of : Fn := fun as => fnRes as (B_units_of (fuel as) (startE 2 as))
def B_digits_to (n : Nat) : DEnv → SR := dSeq (dSetF 2 (dLst (vNil)))
    (dSeq (dSet 3 (dVar 0))
    (dSeq (dWhile (dTst (dBin gtD (oVar 3) (oD (dC (.int 0))))) (dSeq (dApp 2 (dBin modD (oVar 3) (oVar 1)))
    (dSet 3 (dBin divD (oVar 3) (oVar 1)))) n)
    (dRetV 2)))
def F_digits_to : Fn := fun as => fnRes as (B_digits_to (fuel as) (startE 4 as))
def B_digits_of (n : Nat) : DEnv → SR := dSeq (dExpr (dV (dCal2 3 F_check_number (rVal (dVar 0) (rVal (dC (.int 0)) (rVal (dC (.int 999999999999999999999999999999999999999999999999999999999999)) (rNil)))))))
    (dSeq (dExpr (dV (dCal2 3 F_check_number (rVal (dVar 1) (rVal (dC (.int 2)) (rVal (dC (.int 1000000)) (rNil)))))))
    (dRet (dCal tupD (aCons (oD (dV (dCal2 2 F_digits_to (rVal (dVar 0) (rVal (dVar 1) (rNil)))))) (aNil)))))
def F_digits_of : Fn := fun as => fnRes as (B_digits_of (fuel as) (startE 2 as))
def B_divisor_of_all (n : Nat) : DEnv → SR := dSeq (dSet 1 (dC (.int 0)))
    (dSeq (dForS (sTup (dVar 0)) (setV 2) (dSet 1 (dCal gcdD (aCons (oVar 1) (aCons (oVar 2) (aNil))))))
    (dRetV 1))
def F_divisor_of_all : Fn := fun as => fnRes as (B_divisor_of_all (fuel as) (startE 3 as))
def B_are_integers (n : Nat) : DEnv → SR := dSeq (dIf (dOr (dNot (dTst (dIsi "tuple" (oVar 0)))) (dNot (dTst (dChain leD leD (oD (dC (.int 1))) (oD (dCal lenD (aCons (oVar 0) (aNil)))) (oD (dC (.int 100))))))) (dRet (dC (.bl false))) (SR.nx))
    (dRet (dCal allD (aCons (oD (dLc (sTup (dVar 0)) (setV 1) (tYesB) (dV (dCal2 1 F_is_integer (rVal (dVar 1) (rNil)))) [1])) (aNil))))
def F_are_integers : Fn := fun as => fnRes as (B_are_integers (fuel as) (startE 2 as))
def B_common_divisor (n : Nat) : DEnv → SR := dSeq (dIf (dNot (dTst (dV (dCal2 1 F_are_integers (rVal (dVar 0) (rNil)))))) (dNever) (SR.nx))
    (dRet (dV (dCal2 1 F_divisor_of_all (rVal (dVar 0) (rNil)))))
def F_common_divisor : Fn := fun as => fnRes as (B_common_divisor (fuel as) (startE 1 as))
def B_common_multiple (n : Nat) : DEnv → SR := dSeq (dIf (dOr (dNot (dTst (dV (dCal2 1 F_are_integers (rVal (dVar 0) (rNil)))))) (dTst (dBin ltD (oD (dCal (orC min2D minSD) (aCons (oVar 0) (aNil)))) (oD (dC (.int 1)))))) (dNever) (SR.nx))
    (dSeq (dSet 1 (dC (.int 1)))
    (dSeq (dForS (sTup (dVar 0)) (setV 2) (dSet 1 (dCal lcmD (aCons (oVar 1) (aCons (oVar 2) (aNil))))))
    (dRetV 1)))
def F_common_multiple : Fn := fun as => fnRes as (B_common_multiple (fuel as) (startE 3 as))
def B_q_grab (n : Nat) : DEnv → SR := dSeq (dIf (dTst (dBin gtD (oD (dBin ixD (oVar 0) (oD (dC (.int 0))))) (oD (dC (.int 0))))) (dSeq (dSet 2 (dBin modD (oD (dCal intD (aCons (oD (dBin ixD (oVar 0) (oD (dC (.int 0))))) (aNil)))) (oVar 1)))
    (dSeq (dSetI 0 (dC (.int 0)) (dBin divD (oD (dBin ixD (oVar 0) (oD (dC (.int 0))))) (oVar 1)))
    (dRetV 2))) (SR.nx))
    (dSeq (dSetI 0 (dC (.int 2)) (dBin addD (oD (dBin ixD (oVar 0) (oD (dC (.int 2))))) (oD (dC (.int 1)))))
    (dSeq (dSet 3 (dBin modD (oD (dCal intD (aCons (oD (dBin addD (oD (dBin ixD (oVar 0) (oD (dC (.int 1))))) (oD (dBin mulD (oD (dC (.int 1048637))) (oD (dBin ixD (oVar 0) (oD (dC (.int 2))))))))) (aNil)))) (oD (dC (.int 2305843009213693951)))))
    (dSeq (dSet 4 (dBin addD (oD (dBin mulD (oD (dBin modD (oD (dCal intD (aCons (oD (dBin mulD (oVar 3) (oVar 3))) (aNil)))) (oD (dC (.int 2305843009213693723))))) (oVar 3))) (oD (dBin mulD (oD (dC (.int 8161))) (oD (dBin ixD (oVar 0) (oD (dC (.int 2)))))))))
    (dRet (dBin modD (oD (dCal intD (aCons (oD (dBin divD (oD (dBin modD (oD (dCal intD (aCons (oVar 4) (aNil)))) (oD (dC (.int 2305843009213693921))))) (oD (dC (.int 16384))))) (aNil)))) (oVar 1))))))
def F_q_grab : Fn := fun as => fnRes as (B_q_grab (fuel as) (startE 5 as))
def B_q_one_of (n : Nat) : DEnv → SR := dRet (dBin ixD (oVar 1) (oD (dV (dCal2 2 F_q_grab (rIo 0 (rVal (dCal lenD (aCons (oVar 1) (aNil))) (rNil)))))))
def F_q_one_of : Fn := fun as => fnRes as (B_q_one_of (fuel as) (startE 2 as))
def B_q_nb_drawn (n : Nat) : DEnv → SR := dSeq (dSet 2 (dC (.int 1)))
    (dSeq (dForS (sRng1 (vCons (dV (dCal2 2 F_q_grab (rIo 0 (rVal (dC (.int 9)) (rNil))))) (vNil))) (setV 3) (dSeq (dSet 4 (dV (dCal2 2 F_q_one_of (rIo 0 (rVal (dLst (vCons (dC (.int 2)) (vCons (dC (.int 2)) (vCons (dC (.int 3)) (vCons (dC (.int 3)) (vCons (dC (.int 5)) (vCons (dC (.int 7)) (vCons (dC (.int 11)) (vCons (dC (.int 13)) (vCons (dC (.int 97)) (vCons (dC (.int 101)) (vCons (dC (.int 997)) (vNil))))))))))))) (rNil))))))
    (dSet 2 (dIte (dTst (dBin leD (oD (dBin mulD (oVar 2) (oVar 4))) (oVar 1))) (dBin mulD (oVar 2) (oVar 4)) (dVar 2)))))
    (dRet (dIte (dTst (dBin gtD (oD (dV (dCal2 2 F_q_grab (rIo 0 (rVal (dC (.int 3)) (rNil)))))) (oD (dC (.int 0))))) (dVar 2) (dBin addD (oD (dC (.int 1))) (oD (dV (dCal2 2 F_q_grab (rIo 0 (rVal (dVar 1) (rNil))))))))))
def F_q_nb_drawn : Fn := fun as => fnRes as (B_q_nb_drawn (fuel as) (startE 5 as))
def B_q_nb_is_short (n : Nat) : DEnv → SR := dRet (dAndV (dIsi "int" (oVar 0)) (dAndV (dNotV (dIsi "bool" (oVar 0))) (dBin ltD (oD (dCal absD (aCons (oVar 0) (aNil)))) (oD (dBin powD (oD (dC (.int 10))) (oD (dC (.int 60))))))))
def F_q_nb_is_short : Fn := fun as => fnRes as (B_q_nb_is_short (fuel as) (startE 1 as))
def B_q_nb_factors (n : Nat) : DEnv → SR := dSeq (dParX [1, 2, 3] (xFr (dDic0) (xVal (dVar 0) (xVal (dC (.int 2)) (xNil)))))
    (dSeq (dWhile (dTst (dBin leD (oD (dBin mulD (oVar 3) (oVar 3))) (oVar 2))) (dSeq (dWhile (dTst (dBin eqY (oD (dBin modD (oVar 2) (oVar 3))) (oD (dC (.int 0))))) (dAsg (dTup (vCons (dBin addD (oD (dGet2 (oVar 1) (dVar 3) (dC (.int 0)))) (oD (dC (.int 1)))) (vCons (dBin divD (oVar 2) (oVar 3)) (vNil)))) (gTp 2 (gsCons (setK 1 (dVar 3)) (gsCons (setV 2) (gsNil))))) n)
    (dSet 3 (dBin addD (oVar 3) (oD (dC (.int 1)))))) n)
    (dSeq (dIf (dTst (dBin gtD (oVar 2) (oD (dC (.int 1))))) (dSetK 1 (dVar 2) (dBin addD (oD (dGet2 (oVar 1) (dVar 2) (dC (.int 0)))) (oD (dC (.int 1))))) (SR.nx))
    (dRetV 1)))
def F_q_nb_factors : Fn := fun as => fnRes as (B_q_nb_factors (fuel as) (startE 4 as))
def B_q_nb_is_prime (n : Nat) : DEnv → SR := dRet (dAndV (dV (dCal2 1 F_q_nb_is_short (rVal (dVar 0) (rNil)))) (dAndV (dChain leD leD (oD (dC (.int 2))) (oVar 0) (oD (dBin powD (oD (dC (.int 10))) (oD (dC (.int 6)))))) (dBin eqY (oD (dV (dCal2 1 F_q_nb_factors (rVal (dVar 0) (rNil))))) (oD (dDisp [(dVar 0, dC (.int 1))])))))
def F_q_nb_is_prime : Fn := fun as => fnRes as (B_q_nb_is_prime (fuel as) (startE 1 as))
def B_is_prime (n : Nat) : DEnv → SR := dSeq (dIf (dNot (dTst (dV (dCal2 3 F_is_between (rVal (dVar 0) (rVal (dC (.int 2)) (rVal (dC (.int 1000000)) (rNil)))))))) (dRet (dC (.bl false))) (SR.nx))
    (dSeq (dIf (dOr (dTst (dBin ltD (oVar 0) (oD (dC (.int 5))))) (dOr (dTst (dBin eqY (oD (dBin modD (oVar 0) (oD (dC (.int 2))))) (oD (dC (.int 0))))) (dTst (dBin eqY (oD (dBin modD (oVar 0) (oD (dC (.int 3))))) (oD (dC (.int 0))))))) (dRet (dBin ltD (oVar 0) (oD (dC (.int 4))))) (SR.nx))
    (dSeq (dForS (sRng3 (vCons (dC (.int 5)) (vCons (dBin addD (oD (dCal sqrtD (aCons (oVar 0) (aNil)))) (oD (dC (.int 1)))) (vCons (dC (.int 6)) (vNil))))) (setV 1) (dIf (dOr (dTst (dBin eqY (oD (dBin modD (oVar 0) (oVar 1))) (oD (dC (.int 0))))) (dTst (dBin eqY (oD (dBin modD (oVar 0) (oD (dBin addD (oVar 1) (oD (dC (.int 2))))))) (oD (dC (.int 0)))))) (dRet (dC (.bl false))) (SR.nx)))
    (dRet (dC (.bl true)))))
def F_is_prime : Fn := fun as => fnRes as (B_is_prime (fuel as) (startE 2 as))
def B_q_judged_right (n : Nat) : DEnv → SR := dSeq (dSet 2 (dBin addD (oD (dLc (sRng1 (vCons (dC (.int 6)) (vNil))) (setV 1) (tYesB) (dV (dCal2 2 F_q_grab (rIo 0 (rVal (dBin addD (oD (dBin powD (oD (dC (.int 10))) (oD (dC (.int 6))))) (oD (dC (.int 50)))) (rNil))))) [1])) (oD (dLc (sRng1 (vCons (dC (.int 3)) (vNil))) (setV 1) (tYesB) (dV (dCal2 2 F_q_nb_drawn (rIo 0 (rVal (dBin powD (oD (dC (.int 10))) (oD (dC (.int 6)))) (rNil))))) [1]))))
    (dSeq (dSet 2 (dBin addD (oVar 2) (oD (dLst (vCons (dC (.int 0)) (vCons (dC (.int 1)) (vCons (dC (.int 2)) (vCons (dC (.int 4)) (vCons (dC (.int 9)) (vCons (dC (.int 91)) (vCons (dUn negD (oD (dC (.int 7)))) (vCons (dBin mulD (oD (dC (.int 997))) (oD (dC (.int 997)))) (vCons (dC (.int 999983)) (vCons (dBin powD (oD (dC (.int 10))) (oD (dC (.int 6)))) (vCons (dBin addD (oD (dBin powD (oD (dC (.int 10))) (oD (dC (.int 6))))) (oD (dC (.int 3)))) (vCons (dBin powD (oD (dC (.int 10))) (oD (dC (.int 60)))) (vCons (dBin subD (oD (dBin powD (oD (dC (.int 10))) (oD (dC (.int 60))))) (oD (dC (.int 1)))) (vCons (dBin subD (oD (dC (.int 1))) (oD (dBin powD (oD (dC (.int 10))) (oD (dC (.int 60)))))) (vCons (dUn negD (oD (dBin powD (oD (dC (.int 10))) (oD (dC (.int 60)))))) (vNil))))))))))))))))))))
    (dSeq (dSet 2 (dBin addD (oVar 2) (oD (dLst (vCons (dC (.bl true)) (vCons (dC (.bl false)) (vCons (dC .non) (vCons (dC (.str (Str.ofString "7"))) (vCons (dTup (vCons (dC (.int 7)) (vNil))) (vCons (dLst (vCons (dC (.int 7)) (vNil))) (vCons (dDic0) (vCons (dTup (vNil)) (vCons (dC (.str (Str.ofString ""))) (vCons (dTup (vCons (dTup (vCons (dC (.int 7)) (vCons (dC (.int 1)) (vNil)))) (vNil))) (vNil)))))))))))))))
    (dSeq (dForS (sLst (dVar 2)) (setV 3) (dSeq (dSet 4 (dLst (vCons (dV (dCal2 1 F_q_nb_is_short (rVal (dVar 3) (rNil)))) (vCons (dV (dCal2 1 F_q_nb_is_prime (rVal (dVar 3) (rNil)))) (vNil)))))
    (dIf (dTst (dBin neY (oD (dCal rprX (aCons (oD (dLst (vCons (dV (dCal2 1 F_is_integer (rVal (dVar 3) (rNil)))) (vCons (dV (dCal2 1 F_is_prime (rVal (dVar 3) (rNil)))) (vNil))))) (aNil)))) (oD (dCal rprX (aCons (oVar 4) (aNil)))))) (dRet (dC (.bl false))) (SR.nx))))
    (dRet (dC (.bl true))))))
def F_q_judged_right : Fn := fun as => fnRes as (B_q_judged_right (fuel as) (startE 5 as))
def B_q_nb_sign (n : Nat) : DEnv → SR := dSeq (dSet 1 (dLvals (dV (dCal2 1 F_q_nb_factors (rVal (dVar 0) (rNil))))))
    (dSeq (dIf (dTst (dBin neY (oD (dLc (sLst (dVar 1)) (setV 2) (dTst (dBin gtD (oVar 2) (oD (dC (.int 1))))) (dVar 2) [2])) (oD (dLst (vNil))))) (dRet (dC (.int 0))) (SR.nx))
    (dRet (dIte (dTst (dBin eqY (oD (dBin modD (oD (dCal lenD (aCons (oVar 1) (aNil)))) (oD (dC (.int 2))))) (oD (dC (.int 0))))) (dC (.int 1)) (dUn negD (oD (dC (.int 1)))))))
def F_q_nb_sign : Fn := fun as => fnRes as (B_q_nb_sign (fuel as) (startE 3 as))
def B_q_nb_divisor (n : Nat) : DEnv → SR := dSeq (dSet 1 (dC (.int 0)))
    (dSeq (dForS (sTup (dVar 0)) (setV 2) (dSeq (dSet 3 (dCal absD (aCons (oVar 2) (aNil))))
    (dWhile (dTst (dBin gtD (oVar 3) (oD (dC (.int 0))))) (dPar 1 3 (vCons (dVar 3) (vCons (dBin modD (oVar 1) (oVar 3)) (vNil)))) n)))
    (dRetV 1))
def F_q_nb_divisor : Fn := fun as => fnRes as (B_q_nb_divisor (fuel as) (startE 4 as))
def B_q_factors_right (n : Nat) : DEnv → SR := dSeq (dAsg (dTup (vCons (dV (dCal2 2 F_q_nb_drawn (rIo 0 (rVal (dBin powD (oD (dC (.int 10))) (oD (dC (.int 9)))) (rNil))))) (vCons (dV (dCal2 2 F_q_nb_drawn (rIo 0 (rVal (dBin powD (oD (dC (.int 10))) (oD (dC (.int 6)))) (rNil))))) (vCons (dV (dCal2 2 F_q_nb_drawn (rIo 0 (rVal (dC (.int 2520)) (rNil))))) (vNil))))) (gTp 3 (gsCons (setV 1) (gsCons (setV 2) (gsCons (setV 3) (gsNil))))))
    (dSeq (dSet 4 (dV (dCal2 1 F_prime_factors (rVal (dVar 1) (rNil)))))
    (dSeq (dIf (dOr (dTst (dBin neY (oVar 4) (oD (dV (dCal2 1 F_q_nb_factors (rVal (dVar 1) (rNil))))))) (dOr (dTst (dBin neY (oD (dMk keysO (oVar 4))) (oD (dMk sortO (oVar 4))))) (dTst (dBin neY (oD (dV (dCal2 1 F_moebius (rVal (dVar 2) (rNil))))) (oD (dV (dCal2 1 F_q_nb_sign (rVal (dVar 2) (rNil))))))))) (dRet (dC (.bl false))) (SR.nx))
    (dSeq (dIf (dTst (dBin neY (oD (dCal sumD (aCons (oD (dLc (sRng2 (vCons (dC (.int 1)) (vCons (dBin addD (oVar 3) (oD (dC (.int 1)))) (vNil)))) (setV 5) (dTst (dBin eqY (oD (dBin modD (oVar 3) (oVar 5))) (oD (dC (.int 0))))) (dV (dCal2 1 F_moebius (rVal (dVar 5) (rNil)))) [5])) (aNil)))) (oD (dCal intD (aCons (oD (dBin eqY (oVar 3) (oD (dC (.int 1))))) (aNil)))))) (dRet (dC (.bl false))) (SR.nx))
    (dRet (dBin eqY (oD (dV (dCal2 1 F_units_of (rVal (dVar 3) (rNil))))) (oD (dCal tupD (aCons (oD (dLc (sRng2 (vCons (dC (.int 1)) (vCons (dBin addD (oVar 3) (oD (dC (.int 1)))) (vNil)))) (setV 5) (dTst (dBin eqY (oD (dV (dCal2 1 F_q_nb_divisor (rVal (dTup (vCons (dVar 5) (vCons (dVar 3) (vNil)))) (rNil))))) (oD (dC (.int 1))))) (dVar 5) [5])) (aNil)))))))))
def F_q_factors_right : Fn := fun as => fnRes as (B_q_factors_right (fuel as) (startE 6 as))
def B_q_commons_right (n : Nat) : DEnv → SR := dSeq (dAsg (dTup (vCons (dV (dCal2 2 F_q_one_of (rIo 0 (rVal (dLst (vCons (dC (.int 1)) (vCons (dC (.int 1)) (vCons (dC (.int 2)) (vCons (dC (.int 6)) (vCons (dBin powD (oD (dC (.int 10))) (oD (dC (.int 30)))) (vNil))))))) (rNil))))) (vCons (dV (dCal2 2 F_q_one_of (rIo 0 (rVal (dLst (vCons (dC (.int 5)) (vCons (dC (.int 60)) (vCons (dBin powD (oD (dC (.int 10))) (oD (dC (.int 25)))) (vNil))))) (rNil))))) (vNil)))) (gTp 2 (gsCons (setV 1) (gsCons (setV 2) (gsNil)))))
    (dSeq (dSet 3 (dV (dCal2 2 F_q_one_of (rIo 0 (rVal (dLst (vCons (dC (.int 1)) (vCons (dC (.int 2)) (vCons (dC (.int 3)) (vCons (dC (.int 5)) (vCons (dC (.int 9)) (vNil))))))) (rNil))))))
    (dSeq (dSet 5 (dCal tupD (aCons (oD (dLc (sRng1 (vCons (dVar 3) (vNil))) (setV 4) (tYesB) (dBin mulD (oVar 1) (oD (dBin subD (oD (dV (dCal2 2 F_q_grab (rIo 0 (rVal (dBin addD (oD (dBin mulD (oD (dC (.int 2))) (oVar 2))) (oD (dC (.int 1)))) (rNil)))))) (oVar 2)))) [4])) (aNil))))
    (dSeq (dIf (dOr (dTst (dBin neY (oD (dV (dCal2 1 F_common_divisor (rVal (dVar 5) (rNil))))) (oD (dV (dCal2 1 F_q_nb_divisor (rVal (dVar 5) (rNil))))))) (dTst (dBin neY (oD (dV (dCal2 1 F_common_divisor (rVal (dBin addD (oVar 5) (oD (dBin mulD (oD (dTup (vCons (dC (.int 0)) (vNil)))) (oD (dBin subD (oD (dC (.int 100))) (oVar 3)))))) (rNil))))) (oD (dV (dCal2 1 F_q_nb_divisor (rVal (dVar 5) (rNil)))))))) (dRet (dC (.bl false))) (SR.nx))
    (dSeq (dPar 7 8 (vCons (dCal tupD (aCons (oD (dLc (sTup (dVar 5)) (setV 6) (tYesB) (dBin addD (oD (dCal absD (aCons (oVar 6) (aNil)))) (oD (dC (.int 1)))) [6])) (aNil))) (vCons (dC (.int 1)) (vNil))))
    (dSeq (dForS (sTup (dVar 7)) (setV 6) (dSet 8 (dBin divD (oD (dBin mulD (oVar 8) (oVar 6))) (oD (dV (dCal2 1 F_q_nb_divisor (rVal (dTup (vCons (dVar 8) (vCons (dVar 6) (vNil)))) (rNil))))))))
    (dRet (dAndV (dBin eqY (oD (dV (dCal2 1 F_common_multiple (rVal (dVar 7) (rNil))))) (oVar 8)) (dBin eqY (oD (dV (dCal2 1 F_common_multiple (rVal (dBin addD (oVar 7) (oD (dBin mulD (oD (dTup (vCons (dC (.int 1)) (vNil)))) (oD (dBin subD (oD (dC (.int 100))) (oVar 3)))))) (rNil))))) (oVar 8)))))))))
def F_q_commons_right : Fn := fun as => fnRes as (B_q_commons_right (fuel as) (startE 9 as))
def B_q_digits_right (n : Nat) : DEnv → SR := dSeq (dPar 1 2 (vCons (dV (dCal2 2 F_q_grab (rIo 0 (rVal (dV (dCal2 2 F_q_one_of (rIo 0 (rVal (dLst (vCons (dC (.int 3)) (vCons (dC (.int 100)) (vCons (dBin powD (oD (dC (.int 10))) (oD (dC (.int 12)))) (vCons (dBin powD (oD (dC (.int 10))) (oD (dC (.int 59)))) (vNil)))))) (rNil))))) (rNil))))) (vCons (dBin addD (oD (dC (.int 2))) (oD (dV (dCal2 2 F_q_grab (rIo 0 (rVal (dV (dCal2 2 F_q_one_of (rIo 0 (rVal (dLst (vCons (dC (.int 9)) (vCons (dC (.int 99)) (vCons (dC (.int 999999)) (vNil))))) (rNil))))) (rNil))))))) (vNil))))
    (dSeq (dParX [3, 4] (xFr (dLst (vNil)) (xVal (dVar 1) (xNil))))
    (dSeq (dWhile (dTst (dBin gtD (oVar 4) (oD (dC (.int 0))))) (dSeq (dApp 3 (dBin modD (oD (dCal intD (aCons (oVar 4) (aNil)))) (oVar 2)))
    (dSet 4 (dBin divD (oVar 4) (oVar 2)))) n)
    (dRet (dAndV (dBin eqY (oD (dV (dCal2 2 F_digits_of (rVal (dVar 1) (rVal (dVar 2) (rNil)))))) (oD (dCal tupD (aCons (oVar 3) (aNil))))) (dBin eqY (oD (dV (dCal2 2 F_digits_of (rVal (dC (.int 0)) (rVal (dVar 2) (rNil)))))) (oD (dTup (vNil))))))))
def F_q_digits_right : Fn := fun as => fnRes as (B_q_digits_right (fuel as) (startE 5 as))
def B_law (n : Nat) : DEnv → SR := dSeq (dForS (sRng1 (vCons (dCal (orC max2D maxSD) (aCons (oD (dC (.int 1))) (aCons (oD (dCal (orC min2D minSD) (aCons (oD (dC (.int 3))) (aCons (oD (dCal lenD (aCons (oVar 0) (aNil)))) (aNil))))) (aNil)))) (vNil))) (setV 1) (dSeq (dSetF 2 (dN (dCal2 2 F_q_bag (rVal (dVar 0) (rVal (dVar 1) (rNil))))))
    (dIf (dOr (dNot (dTst (dV (dCal2 1 F_q_judged_right (rIo 2 (rNil)))))) (dOr (dNot (dTst (dV (dCal2 1 F_q_factors_right (rIo 2 (rNil)))))) (dOr (dNot (dTst (dV (dCal2 1 F_q_commons_right (rIo 2 (rNil)))))) (dNot (dTst (dV (dCal2 1 F_q_digits_right (rIo 2 (rNil))))))))) (dRet (dC (.bl false))) (SR.nx))))
    (dSeq (dSet 3 (dLst (vCons (dV (dCal2 1 F_prime_factors (rVal (dC (.int 360)) (rNil)))) (vCons (dV (dCal2 1 F_prime_factors (rVal (dC (.int 1)) (rNil)))) (vCons (dV (dCal2 1 F_moebius (rVal (dC (.int 30)) (rNil)))) (vCons (dV (dCal2 1 F_moebius (rVal (dC (.int 12)) (rNil)))) (vCons (dV (dCal2 1 F_units_of (rVal (dC (.int 12)) (rNil)))) (vCons (dV (dCal2 1 F_units_of (rVal (dC (.int 1)) (rNil)))) (vCons (dV (dCal2 2 F_digits_of (rVal (dC (.int 45)) (rVal (dC (.int 7)) (rNil))))) (vNil))))))))))
    (dSeq (dIf (dTst (dBin neY (oVar 3) (oD (dLst (vCons (dDisp [(dC (.int 2), dC (.int 3)), (dC (.int 3), dC (.int 2)), (dC (.int 5), dC (.int 1))]) (vCons (dDic0) (vCons (dUn negD (oD (dC (.int 1)))) (vCons (dC (.int 0)) (vCons (dTup (vCons (dC (.int 1)) (vCons (dC (.int 5)) (vCons (dC (.int 7)) (vCons (dC (.int 11)) (vNil)))))) (vCons (dTup (vCons (dC (.int 1)) (vNil))) (vCons (dTup (vCons (dC (.int 3)) (vCons (dC (.int 6)) (vNil)))) (vNil)))))))))))) (dRet (dC (.bl false))) (SR.nx))
    (dRet (dBin eqY (oD (dLst (vCons (dV (dCal2 1 F_common_divisor (rVal (dTup (vCons (dC (.int 0)) (vNil))) (rNil)))) (vCons (dV (dCal2 1 F_common_multiple (rVal (dTup (vCons (dC (.int 30)) (vCons (dC (.int 15)) (vCons (dC (.int 10)) (vCons (dC (.int 6)) (vNil)))))) (rNil)))) (vCons (dV (dCal2 2 F_digits_of (rVal (dBin powD (oD (dC (.int 10))) (oD (dC (.int 6)))) (rVal (dBin powD (oD (dC (.int 10))) (oD (dC (.int 6)))) (rNil))))) (vCons (dV (dCal2 1 F_prime_factors (rVal (dBin powD (oD (dC (.int 10))) (oD (dC (.int 9)))) (rNil)))) (vNil))))))) (oD (dLst (vCons (dC (.int 0)) (vCons (dC (.int 30)) (vCons (dTup (vCons (dC (.int 0)) (vCons (dC (.int 1)) (vNil)))) (vCons (dDisp [(dC (.int 2), dC (.int 9)), (dC (.int 5), dC (.int 9))]) (vNil)))))))))))
def F_law : Fn := fun as => fnRes as (B_law (fuel as) (startE 4 as))
/-! ### the names behind the top -/
structure Txt (mg : Str → Option Value) : Prop where
  b_abs : mg "abs" = none
  b_all : mg "all" = none
  b_bool : mg "bool" = none
  b_int : mg "int" = none
  b_isinstance : mg "isinstance" = none
  b_len : mg "len" = none
  b_list : mg "list" = none
  b_max : mg "max" = none
  b_min : mg "min" = none
  b_range : mg "range" = none
  b_repr : mg "repr" = none
  b_sorted : mg "sorted" = none
  b_sum : mg "sum" = none
  b_tuple : mg "tuple" = none
  c_MAX_BASE : ∃ t, mg "MAX_BASE" = some (.int 1000000 t)
  c_MAX_COMMON : ∃ t, mg "MAX_COMMON" = some (.int 2520 t)
  c_MAX_COUNT : ∃ t, mg "MAX_COUNT" = some (.int 100 t)
  c_MAX_FACTORED : ∃ t, mg "MAX_FACTORED" = some (.int 1000000000 t)
  c_MAX_INTEGER : ∃ t, mg "MAX_INTEGER" = some (.int 999999999999999999999999999999999999999999999999999999999999 t)
  c_MAX_PRIME : ∃ t, mg "MAX_PRIME" = some (.int 1000000 t)
  m_gcd : mg "gcd" = some (.builtin "math.gcd")
  m_isqrt : mg "isqrt" = some (.builtin "math.isqrt")
  m_lcm : mg "lcm" = some (.builtin "math.lcm")
section
variable {P : Program} {w : World} {K : PySem.W.Frag} {mg : Str → Option Value} {base : Heap}
theorem d_q_bag (T : Txt mg)  {f : Addr} {n : Nat} {cdv : Value} {A : Around} {outer : List Env} {s : Shared} {H : Hp} {E : XK} (hr : RoomG 0 (A.deeper (envOfC "_law_bag" (defScope s_q_bag) s.heap.objs.size f cdv))) :
    DSs (cxOf (L2.CX P w) P w K mg base ["_law_script", "_law_spot", "_law_cell", "_law_great", "_law_mixed"] "_law_bag" (defScope s_q_bag) f cdv A outer s H E) (fun cls d _ H => E cls d H) (defBody s_q_bag) (B_q_bag n) := by
  have S := sc_q_bag
  have tk : Takes (cxOf (L2.CX P w) P w K mg base ["_law_script", "_law_spot", "_law_cell", "_law_great", "_law_mixed"] "_law_bag" (defScope s_q_bag) f cdv A outer s H E) (fun cls d _ H => E cls d H) := takes_of rfl rfl rfl rfl
  have hu := hr.units
  have hu0 := hr.units0
  have hu1 := hu_of hr.room
  have hu2 := in1u hr
  exact dss_cons (ds_set (i := 2) S.nd rfl (.inl rfl) (de_ifExp (dt_cmp op_lt ops_b0 (do_var (pv 1)) (do_val (de_callB call_len_seq cas_len (by rfl) T.b_len PySem.boot_len (da_cons (do_var (pv 0)) (da_nil)))) (nomark _)) (de_ix (do_var (pv 0)) (do_var (pv 1))) (de_bin (op_add.or (op_cat.or op_catA)) (ops_or ops_i0 (ops_or ops_catL ops_catT)) (do_val (de_bin (op_add.or (op_cat.or op_catA)) (ops_or ops_i0 (ops_or ops_catL ops_catT)) (do_val (de_callB (cr_sum rfl) cas_sum (by rfl) T.b_sum boot_sum (da_cons (do_val (de_cut (do_var (pv 0)) cp_no cp_int)) (da_nil)))) (do_val (de_bin (op_mulW.or (op_rep.or op_repT)) (ops_or (ops_ic mul_ok) (ops_or ops_repL ops_repT)) (do_val (de_int)) (do_var (pv 1)))))) (do_val (de_int)))))
    (dss_cons (ds_set (i := 3) S.nd rfl (.inl rfl) (de_bin op_modN (ops_ic fun _ _ h => of_decide_eq_true h) (do_val (de_callTy call_int1 cas_int (by rfl) T.b_int boot_int (da_cons (do_val (de_callB call_abs cas_abs (by rfl) T.b_abs boot_abs (da_cons (do_var (pv 2)) (da_nil)))) (da_nil)))) (do_val (de_bin op_powG (ops_ic fun _ _ h => cPow_ok h) (do_val (de_bin op_powG (ops_ic fun _ _ h => cPow_ok h) (do_val (de_int)) (do_val (de_int)))) (do_val (de_int))))))
    (dss_cons (ds_set (i := 4) S.nd rfl (.inl rfl) (de_bin (op_add.or (op_cat.or op_catA)) (ops_or ops_i0 (ops_or ops_catL ops_catT)) (do_val (de_bin (op_add.or (op_cat.or op_catA)) (ops_or ops_i0 (ops_or ops_catL ops_catT)) (do_val (de_bin (op_add.or (op_cat.or op_catA)) (ops_or ops_i0 (ops_or ops_catL ops_catT)) (do_val (de_bin (op_mulW.or (op_rep.or op_repT)) (ops_or (ops_ic mul_ok) (ops_or ops_repL ops_repT)) (do_val (de_bin op_modN (ops_ic fun _ _ h => of_decide_eq_true h) (do_val (de_callTy call_int1 cas_int (by rfl) T.b_int boot_int (da_cons (do_var (pv 3)) (da_nil)))) (do_val (de_int)))) (do_val (de_int)))) (do_val (de_bin (op_mulW.or (op_rep.or op_repT)) (ops_or (ops_ic mul_ok) (ops_or ops_repL ops_repT)) (do_val (de_int)) (do_var (pv 1)))))) (do_val (de_bin (op_mulW.or (op_rep.or op_repT)) (ops_or (ops_ic mul_ok) (ops_or ops_repL ops_repT)) (do_val (de_int)) (do_val (de_callTy call_int1 cas_int (by rfl) T.b_int boot_int (da_cons (do_val (de_cmp op_lt ops_b0 (do_var (pv 2)) (do_val (de_int)) (nomark _))) (da_nil)))))))) (do_val (de_int))))
    (dss_one (ds_retF (df_lst (dv_cons (de_callB ((call_max2 rfl).or (call_maxS rfl hr.units)) (cas_or cas_max2 cas_maxS) (by rfl) T.b_max boot_max (da_cons (do_val (de_int)) (da_cons (do_val (de_bin op_sub ops_i0 (do_var (pv 3)) (do_val (de_bin op_powG (ops_ic fun _ _ h => cPow_ok h) (do_val (de_int)) (do_val (de_int)))))) (da_nil)))) (dv_cons (de_bin op_modN (ops_ic fun _ _ h => of_decide_eq_true h) (do_val (de_callTy call_int1 cas_int (by rfl) T.b_int boot_int (da_cons (do_var (pv 4)) (da_nil)))) (do_val (de_int))) (dv_cons (de_int) (dv_nil)))))))))
theorem d_is_long_integer (T : Txt mg)  {f : Addr} {n : Nat} {cdv : Value} {A : Around} {outer : List Env} {s : Shared} {H : Hp} {E : XK} (hr : RoomG 0 (A.deeper (envOfC "is_long_integer" (defScope s_is_long_integer) s.heap.objs.size f cdv))) :
    DSs (cxOf (L2.CX P w) P w K mg base ["value"] "is_long_integer" (defScope s_is_long_integer) f cdv A outer s H E) (fun cls d _ H => E cls d H) (defBody s_is_long_integer) (B_is_long_integer n) := by
  have S := sc_is_long_integer
  have tk : Takes (cxOf (L2.CX P w) P w K mg base ["value"] "is_long_integer" (defScope s_is_long_integer) f cdv A outer s H E) (fun cls d _ H => E cls d H) := takes_of rfl rfl rfl rfl
  have hu := hr.units
  have hu0 := hr.units0
  have hu1 := hu_of hr.room
  have hu2 := in1u hr
  exact dss_one (ds_ret (de_and (de_isi (do_var (pv 0)) (pe_tyn (T := "int") (by rfl) T.b_int boot_int) (by rfl) T.b_isinstance boot_isinstance) (de_one (de_not (de_isi (do_var (pv 0)) (pe_tyn (T := "bool") (by rfl) T.b_bool boot_bool) (by rfl) T.b_isinstance boot_isinstance)))))
theorem d_is_integer (T : Txt mg) (h_is_long_integer : Has P w K mg base "is_long_integer" 1 ["value"] F_is_long_integer) {f : Addr} {n : Nat} {cdv : Value} {A : Around} {outer : List Env} {s : Shared} {H : Hp} {E : XK} (hr : RoomG 1 (A.deeper (envOfC "is_integer" (defScope s_is_integer) s.heap.objs.size f cdv))) :
    DSs (cxOf (L2.CX P w) P w K mg base ["value"] "is_integer" (defScope s_is_integer) f cdv A outer s H E) (fun cls d _ H => E cls d H) (defBody s_is_integer) (B_is_integer n) := by
  have S := sc_is_integer
  have tk : Takes (cxOf (L2.CX P w) P w K mg base ["value"] "is_integer" (defScope s_is_integer) f cdv A outer s H E) (fun cls d _ H => E cls d H) := takes_of rfl rfl rfl rfl
  have hu := hr.units
  have hu0 := hr.units0
  have hu1 := hu_of hr.room
  have hu2 := in1u hr
  exact dss_one (ds_ret (de_and (dx_de (dx_has h_is_long_integer hr (by decide) tk (by rfl) (dr_val (de_var (pv 0)) (dr_nil)))) (de_one (de_cmp op_le ops_b0 (do_val (de_callB call_abs cas_abs (by rfl) T.b_abs boot_abs (da_cons (do_var (pv 0)) (da_nil)))) (do_val (de_gint (by rfl) T.c_MAX_INTEGER.choose_spec)) (nomark _)))))
theorem d_is_between (T : Txt mg) (h_is_integer : Has P w K mg base "is_integer" 2 ["value"] F_is_integer) {f : Addr} {n : Nat} {cdv : Value} {A : Around} {outer : List Env} {s : Shared} {H : Hp} {E : XK} (hr : RoomG 2 (A.deeper (envOfC "is_between" (defScope s_is_between) s.heap.objs.size f cdv))) :
    DSs (cxOf (L2.CX P w) P w K mg base ["value", "least", "most"] "is_between" (defScope s_is_between) f cdv A outer s H E) (fun cls d _ H => E cls d H) (defBody s_is_between) (B_is_between n) := by
  have S := sc_is_between
  have tk : Takes (cxOf (L2.CX P w) P w K mg base ["value", "least", "most"] "is_between" (defScope s_is_between) f cdv A outer s H E) (fun cls d _ H => E cls d H) := takes_of rfl rfl rfl rfl
  have hu := hr.units
  have hu0 := hr.units0
  have hu1 := hu_of hr.room
  have hu2 := in1u hr
  exact dss_one (ds_ret (de_and (dx_de (dx_has h_is_integer hr (by decide) tk (by rfl) (dr_val (de_var (pv 0)) (dr_nil)))) (de_one (de_chain op_le op_le ops_b0 ops_b0 (do_var (pv 1)) (do_var (pv 0)) (do_var (pv 2))))))
theorem d_check_number (T : Txt mg) (h_is_between : Has P w K mg base "is_between" 3 ["value", "least", "most"] F_is_between) {f : Addr} {n : Nat} {cdv : Value} {A : Around} {outer : List Env} {s : Shared} {H : Hp} {E : XK} (hr : RoomG 3 (A.deeper (envOfC "check_number" (defScope s_check_number) s.heap.objs.size f cdv))) :
    DSs (cxOf (L2.CX P w) P w K mg base ["given", "least", "most"] "check_number" (defScope s_check_number) f cdv A outer s H E) (fun cls d _ H => E cls d H) (defBody s_check_number) (B_check_number n) := by
  have S := sc_check_number
  have tk : Takes (cxOf (L2.CX P w) P w K mg base ["given", "least", "most"] "check_number" (defScope s_check_number) f cdv A outer s H E) (fun cls d _ H => E cls d H) := takes_of rfl rfl rfl rfl
  have hu := hr.units
  have hu0 := hr.units0
  have hu1 := hu_of hr.room
  have hu2 := in1u hr
  exact dss_one (ds_if (dt_not (dt_val (dx_de (dx_has h_is_between hr (by decide) tk (by rfl) (dr_val (de_var (pv 0)) (dr_val (de_var (pv 1)) (dr_val (de_var (pv 2)) (dr_nil)))))))) (dss_one (ds_never)) (dss_nil))
theorem d_prime_factors (T : Txt mg) (h_check_number : Has P w K mg base "check_number" 4 ["given", "least", "most"] F_check_number) {f : Addr} {n : Nat} {cdv : Value} {A : Around} {outer : List Env} {s : Shared} {H : Hp} {E : XK} (hr : RoomG 4 (A.deeper (envOfC "prime_factors" (defScope s_prime_factors) s.heap.objs.size f cdv))) :
    DSs (cxOf (L2.CX P w) P w K mg base ["number", "found", "left", "divisor"] "prime_factors" (defScope s_prime_factors) f cdv A outer s H E) (fun cls d _ H => E cls d H) (defBody s_prime_factors) (B_prime_factors n) := by
  have S := sc_prime_factors
  have tk : Takes (cxOf (L2.CX P w) P w K mg base ["number", "found", "left", "divisor"] "prime_factors" (defScope s_prime_factors) f cdv A outer s H E) (fun cls d _ H => E cls d H) := takes_of rfl rfl rfl rfl
  have hu := hr.units
  have hu0 := hr.units0
  have hu1 := hu_of hr.room
  have hu2 := in1u hr
  exact dss_cons (ds_expr (dx_de (dx_has h_check_number hr (by decide) tk (by rfl) (dr_val (de_var (pv 0)) (dr_val (de_int) (dr_val (de_gint (by rfl) T.c_MAX_FACTORED.choose_spec) (dr_nil)))))))
    (dss_cons (ds_setF (i := 1) S.nd rfl (.inl rfl) (df_dic0))
    (dss_cons (ds_set (i := 2) S.nd rfl (.inl rfl) (de_var (pv 0)))
    (dss_cons (ds_set (i := 3) S.nd rfl (.inl rfl) (de_int))
    (dss_cons (ds_while n (passes_of rfl) (dt_cmp op_le ops_b0 (do_val (de_bin (op_mulW.or (op_rep.or op_repT)) (ops_or (ops_ic mul_ok) (ops_or ops_repL ops_repT)) (do_var (pv 3)) (do_var (pv 3)))) (do_var (pv 2)) (nomark _)) (dss_cons (ds_while n (passes_of rfl) (dt_cmp (((op_eqD hu).or (op_eqK hu2 hu0)).or (op_eqL hr.u80)) (ops_or (ops_or ops_eq1 ops_eqK) ops_eqL) (do_val (de_bin op_modN (ops_ic fun _ _ h => of_decide_eq_true h) (do_var (pv 2)) (do_var (pv 3)))) (do_val (de_int)) (nomark _)) (dss_cons (ds_setk hu1 (pv 1) (de_var (pv 3)) (de_bin (op_add.or (op_cat.or op_catA)) (ops_or ops_i0 (ops_or ops_catL ops_catT)) (do_val (de_get2 hu1 (do_var (pv 1)) (de_var (pv 3)) (de_int) ⟨by rfl, by rfl, by rfl, by rfl⟩)) (do_val (de_int))))
    (dss_one (ds_set (i := 2) S.nd rfl (.inl rfl) (de_bin op_fdivG (ops_ic fun _ _ h => cDiv_ok h) (do_var (pv 2)) (do_var (pv 3)))))))
    (dss_one (ds_set (i := 3) S.nd rfl (.inl rfl) (de_ifExp (dt_cmp (((op_eqD hu).or (op_eqK hu2 hu0)).or (op_eqL hr.u80)) (ops_or (ops_or ops_eq1 ops_eqK) ops_eqL) (do_var (pv 3)) (do_val (de_int)) (nomark _)) (de_bin (op_add.or (op_cat.or op_catA)) (ops_or ops_i0 (ops_or ops_catL ops_catT)) (do_var (pv 3)) (do_val (de_int))) (de_bin (op_add.or (op_cat.or op_catA)) (ops_or ops_i0 (ops_or ops_catL ops_catT)) (do_var (pv 3)) (do_val (de_int))))))))
    (dss_cons (ds_if (dt_cmp op_gt ops_b0 (do_var (pv 2)) (do_val (de_int)) (nomark _)) (dss_one (ds_setk hu1 (pv 1) (de_var (pv 2)) (de_int))) (dss_nil))
    (dss_one (ds_retV (pv 1))))))))
theorem d_moebius (T : Txt mg) (h_check_number : Has P w K mg base "check_number" 4 ["given", "least", "most"] F_check_number) (h_prime_factors : Has P w K mg base "prime_factors" 5 ["number"] F_prime_factors) {f : Addr} {n : Nat} {cdv : Value} {A : Around} {outer : List Env} {s : Shared} {H : Hp} {E : XK} (hr : RoomG 5 (A.deeper (envOfC "moebius" (defScope s_moebius) s.heap.objs.size f cdv))) :
    DSs (cxOf (L2.CX P w) P w K mg base ["number", "sign", "times"] "moebius" (defScope s_moebius) f cdv A outer s H E) (fun cls d _ H => E cls d H) (defBody s_moebius) (B_moebius n) := by
  have S := sc_moebius
  have tk : Takes (cxOf (L2.CX P w) P w K mg base ["number", "sign", "times"] "moebius" (defScope s_moebius) f cdv A outer s H E) (fun cls d _ H => E cls d H) := takes_of rfl rfl rfl rfl
  have hu := hr.units
  have hu0 := hr.units0
  have hu1 := hu_of hr.room
  have hu2 := in1u hr
  exact dss_cons (ds_expr (dx_de (dx_has h_check_number hr (by decide) tk (by rfl) (dr_val (de_var (pv 0)) (dr_val (de_int) (dr_val (de_gint (by rfl) T.c_MAX_PRIME.choose_spec) (dr_nil)))))))
    (dss_cons (ds_set (i := 1) S.nd rfl (.inl rfl) (de_int))
    (dss_cons (ds_for (passes_of rfl) rfl (di_vals (dx_de (dx_has h_prime_factors hr (by decide) tk (by rfl) (dr_val (de_var (pv 0)) (dr_nil))))) (dg_name (i := 2) (pg_name (i := 2) S.nd rfl (.inl rfl))) (dss_cons (ds_if (dt_cmp op_gt ops_b0 (do_var (pv 2)) (do_val (de_int)) (nomark _)) (dss_one (ds_ret (de_int))) (dss_nil))
    (dss_one (ds_set (i := 1) S.nd rfl (.inl rfl) (de_un un_neg uns_neg (do_var (pv 1)))))))
    (dss_one (ds_retV (pv 1)))))
theorem d_units_of (T : Txt mg) (h_check_number : Has P w K mg base "check_number" 4 ["given", "least", "most"] F_check_number) {f : Addr} {n : Nat} {cdv : Value} {A : Around} {outer : List Env} {s : Shared} {H : Hp} {E : XK} (hr : RoomG 4 (A.deeper (envOfC "units_of" (defScope s_units_of) s.heap.objs.size f cdv))) :
    DSs (cxOf (L2.CX P w) P w K mg base ["number", "unit"] "units_of" (defScope s_units_of) f cdv A outer s H E) (fun cls d _ H => E cls d H) (defBody s_units_of) (B_units_of n) := by
  have S := sc_units_of
  have tk : Takes (cxOf (L2.CX P w) P w K mg base ["number", "unit"] "units_of" (defScope s_units_of) f cdv A outer s H E) (fun cls d _ H => E cls d H) := takes_of rfl rfl rfl rfl
  have hu := hr.units
  have hu0 := hr.units0
  have hu1 := hu_of hr.room
  have hu2 := in1u hr
  exact dss_cons (ds_expr (dx_de (dx_has h_check_number hr (by decide) tk (by rfl) (dr_val (de_var (pv 0)) (dr_val (de_int) (dr_val (de_gint (by rfl) T.c_MAX_COMMON.choose_spec) (dr_nil)))))))
    (dss_one (ds_ret (de_callTy call_tuple_of cas_tup (by rfl) T.b_tuple boot_tuple (da_cons (do_val (de_fresh (df_lc (own := [("unit", 1)]) rfl S.nd (di_rng2 (by rfl) T.b_range (dv_cons (de_int) (dv_cons (de_bin (op_add.or (op_cat.or op_catA)) (ops_or ops_i0 (ops_or ops_catL ops_catT)) (do_var (pv 0)) (do_val (de_int))) (dv_nil)))) (blkOk_by (by rfl)) rfl (by intro _ _ _ _ _; exact dg_name (i := 1) (pg_name (i := 1) S.nd rfl (.inl rfl))) (by intro _ _ _ _ _; exact dts_one (dt_cmp (((op_eqD hu).or (op_eqK hu2 hu0)).or (op_eqL hr.u80)) (ops_or (ops_or ops_eq1 ops_eqK) ops_eqL) (do_val (de_callM cr_gcd cas_gcd (by rfl) T.m_gcd (da_cons (do_var (pv 1)) (da_cons (do_var (pv 0)) (da_nil))))) (do_val (de_int)) (nomark _))) (by intro _ _ _ _ _; exact de_var (pv 1))))) (da_nil)))))
theorem d_digits_to (T : Txt mg)  {f : Addr} {n : Nat} {cdv : Value} {A : Around} {outer : List Env} {s : Shared} {H : Hp} {E : XK} (hr : RoomG 0 (A.deeper (envOfC "digits_to" (defScope s_digits_to) s.heap.objs.size f cdv))) :
    DSs (cxOf (L2.CX P w) P w K mg base ["number", "base", "digits", "left"] "digits_to" (defScope s_digits_to) f cdv A outer s H E) (fun cls d _ H => E cls d H) (defBody s_digits_to) (B_digits_to n) := by
  have S := sc_digits_to
  have tk : Takes (cxOf (L2.CX P w) P w K mg base ["number", "base", "digits", "left"] "digits_to" (defScope s_digits_to) f cdv A outer s H E) (fun cls d _ H => E cls d H) := takes_of rfl rfl rfl rfl
  have hu := hr.units
  have hu0 := hr.units0
  have hu1 := hu_of hr.room
  have hu2 := in1u hr
  exact dss_cons (ds_setF (i := 2) S.nd rfl (.inl rfl) (df_lst (dv_nil)))
    (dss_cons (ds_set (i := 3) S.nd rfl (.inl rfl) (de_var (pv 0)))
    (dss_cons (ds_while n (passes_of rfl) (dt_cmp op_gt ops_b0 (do_var (pv 3)) (do_val (de_int)) (nomark _)) (dss_cons (ds_app (pv 2) (de_bin op_modN (ops_ic fun _ _ h => of_decide_eq_true h) (do_var (pv 3)) (do_var (pv 1))))
    (dss_one (ds_set (i := 3) S.nd rfl (.inl rfl) (de_bin op_fdivG (ops_ic fun _ _ h => cDiv_ok h) (do_var (pv 3)) (do_var (pv 1)))))))
    (dss_one (ds_retV (pv 2)))))
theorem d_digits_of (T : Txt mg) (h_check_number : Has P w K mg base "check_number" 4 ["given", "least", "most"] F_check_number) (h_digits_to : Has P w K mg base "digits_to" 1 ["number", "base"] F_digits_to) {f : Addr} {n : Nat} {cdv : Value} {A : Around} {outer : List Env} {s : Shared} {H : Hp} {E : XK} (hr : RoomG 4 (A.deeper (envOfC "digits_of" (defScope s_digits_of) s.heap.objs.size f cdv))) :
    DSs (cxOf (L2.CX P w) P w K mg base ["number", "base"] "digits_of" (defScope s_digits_of) f cdv A outer s H E) (fun cls d _ H => E cls d H) (defBody s_digits_of) (B_digits_of n) := by
  have S := sc_digits_of
  have tk : Takes (cxOf (L2.CX P w) P w K mg base ["number", "base"] "digits_of" (defScope s_digits_of) f cdv A outer s H E) (fun cls d _ H => E cls d H) := takes_of rfl rfl rfl rfl
  have hu := hr.units
  have hu0 := hr.units0
  have hu1 := hu_of hr.room
  have hu2 := in1u hr
  exact dss_cons (ds_expr (dx_de (dx_has h_check_number hr (by decide) tk (by rfl) (dr_val (de_var (pv 0)) (dr_val (de_int) (dr_val (de_gint (by rfl) T.c_MAX_INTEGER.choose_spec) (dr_nil)))))))
    (dss_cons (ds_expr (dx_de (dx_has h_check_number hr (by decide) tk (by rfl) (dr_val (de_var (pv 1)) (dr_val (de_int) (dr_val (de_gint (by rfl) T.c_MAX_BASE.choose_spec) (dr_nil)))))))
    (dss_one (ds_ret (de_callTy call_tuple_of cas_tup (by rfl) T.b_tuple boot_tuple (da_cons (do_val (dx_de (dx_has h_digits_to hr (by decide) tk (by rfl) (dr_val (de_var (pv 0)) (dr_val (de_var (pv 1)) (dr_nil)))))) (da_nil))))))
theorem d_divisor_of_all (T : Txt mg)  {f : Addr} {n : Nat} {cdv : Value} {A : Around} {outer : List Env} {s : Shared} {H : Hp} {E : XK} (hr : RoomG 0 (A.deeper (envOfC "divisor_of_all" (defScope s_divisor_of_all) s.heap.objs.size f cdv))) :
    DSs (cxOf (L2.CX P w) P w K mg base ["numbers", "divisor", "number"] "divisor_of_all" (defScope s_divisor_of_all) f cdv A outer s H E) (fun cls d _ H => E cls d H) (defBody s_divisor_of_all) (B_divisor_of_all n) := by
  have S := sc_divisor_of_all
  have tk : Takes (cxOf (L2.CX P w) P w K mg base ["numbers", "divisor", "number"] "divisor_of_all" (defScope s_divisor_of_all) f cdv A outer s H E) (fun cls d _ H => E cls d H) := takes_of rfl rfl rfl rfl
  have hu := hr.units
  have hu0 := hr.units0
  have hu1 := hu_of hr.room
  have hu2 := in1u hr
  exact dss_cons (ds_set (i := 1) S.nd rfl (.inl rfl) (de_int))
    (dss_cons (ds_for (passes_of rfl) rfl (di_tup (de_var (pv 0))) (dg_name (i := 2) (pg_name (i := 2) S.nd rfl (.inl rfl))) (dss_one (ds_set (i := 1) S.nd rfl (.inl rfl) (de_callM cr_gcd cas_gcd (by rfl) T.m_gcd (da_cons (do_var (pv 1)) (da_cons (do_var (pv 2)) (da_nil)))))))
    (dss_one (ds_retV (pv 1))))
theorem d_are_integers (T : Txt mg) (h_is_integer : Has P w K mg base "is_integer" 2 ["value"] F_is_integer) {f : Addr} {n : Nat} {cdv : Value} {A : Around} {outer : List Env} {s : Shared} {H : Hp} {E : XK} (hr : RoomG 2 (A.deeper (envOfC "are_integers" (defScope s_are_integers) s.heap.objs.size f cdv))) :
    DSs (cxOf (L2.CX P w) P w K mg base ["value", "item"] "are_integers" (defScope s_are_integers) f cdv A outer s H E) (fun cls d _ H => E cls d H) (defBody s_are_integers) (B_are_integers n) := by
  have S := sc_are_integers
  have tk : Takes (cxOf (L2.CX P w) P w K mg base ["value", "item"] "are_integers" (defScope s_are_integers) f cdv A outer s H E) (fun cls d _ H => E cls d H) := takes_of rfl rfl rfl rfl
  have hu := hr.units
  have hu0 := hr.units0
  have hu1 := hu_of hr.room
  have hu2 := in1u hr
  exact dss_cons (ds_if (dt_bool (dw_or (dt_not (dt_val (de_isi (do_var (pv 0)) (pe_tyn (T := "tuple") (by rfl) T.b_tuple boot_tuple) (by rfl) T.b_isinstance boot_isinstance))) (dw_or1 (dt_not (dt_chain op_le op_le ops_b0 ops_b0 (do_val (de_int)) (do_val (de_callB call_len_seq cas_len (by rfl) T.b_len PySem.boot_len (da_cons (do_var (pv 0)) (da_nil)))) (do_val (de_gint (by rfl) T.c_MAX_COUNT.choose_spec))))))) (dss_one (ds_ret (de_bl))) (dss_nil))
    (dss_one (ds_ret (de_callB (cr_all rfl) cas_all (by rfl) T.b_all boot_all (da_cons (do_val (de_fresh (df_lc (own := [("item", 1)]) rfl S.nd (di_tup (de_var (pv 0))) (blkOk_by (by rfl)) rfl (by intro _ _ _ _ _; exact dg_name (i := 1) (pg_name (i := 1) S.nd rfl (.inl rfl))) (by intro _ _ _ _ _; exact dts_nil) (by intro _ _ _ _ _; exact dx_de (dx_hasN h_is_integer hr (by decide) (by rfl) (dr_val (de_var (pv 1)) (dr_nil))))))) (da_nil)))))
theorem d_common_divisor (T : Txt mg) (h_divisor_of_all : Has P w K mg base "divisor_of_all" 1 ["numbers"] F_divisor_of_all) (h_are_integers : Has P w K mg base "are_integers" 3 ["value"] F_are_integers) {f : Addr} {n : Nat} {cdv : Value} {A : Around} {outer : List Env} {s : Shared} {H : Hp} {E : XK} (hr : RoomG 3 (A.deeper (envOfC "common_divisor" (defScope s_common_divisor) s.heap.objs.size f cdv))) :
    DSs (cxOf (L2.CX P w) P w K mg base ["numbers"] "common_divisor" (defScope s_common_divisor) f cdv A outer s H E) (fun cls d _ H => E cls d H) (defBody s_common_divisor) (B_common_divisor n) := by
  have S := sc_common_divisor
  have tk : Takes (cxOf (L2.CX P w) P w K mg base ["numbers"] "common_divisor" (defScope s_common_divisor) f cdv A outer s H E) (fun cls d _ H => E cls d H) := takes_of rfl rfl rfl rfl
  have hu := hr.units
  have hu0 := hr.units0
  have hu1 := hu_of hr.room
  have hu2 := in1u hr
  exact dss_cons (ds_if (dt_not (dt_val (dx_de (dx_has h_are_integers hr (by decide) tk (by rfl) (dr_val (de_var (pv 0)) (dr_nil)))))) (dss_one (ds_never)) (dss_nil))
    (dss_one (ds_ret (dx_de (dx_has h_divisor_of_all hr (by decide) tk (by rfl) (dr_val (de_var (pv 0)) (dr_nil))))))
theorem d_common_multiple (T : Txt mg) (h_are_integers : Has P w K mg base "are_integers" 3 ["value"] F_are_integers) {f : Addr} {n : Nat} {cdv : Value} {A : Around} {outer : List Env} {s : Shared} {H : Hp} {E : XK} (hr : RoomG 3 (A.deeper (envOfC "common_multiple" (defScope s_common_multiple) s.heap.objs.size f cdv))) :
    DSs (cxOf (L2.CX P w) P w K mg base ["numbers", "multiple", "number"] "common_multiple" (defScope s_common_multiple) f cdv A outer s H E) (fun cls d _ H => E cls d H) (defBody s_common_multiple) (B_common_multiple n) := by
  have S := sc_common_multiple
  have tk : Takes (cxOf (L2.CX P w) P w K mg base ["numbers", "multiple", "number"] "common_multiple" (defScope s_common_multiple) f cdv A outer s H E) (fun cls d _ H => E cls d H) := takes_of rfl rfl rfl rfl
  have hu := hr.units
  have hu0 := hr.units0
  have hu1 := hu_of hr.room
  have hu2 := in1u hr
  exact dss_cons (ds_if (dt_bool (dw_or (dt_not (dt_val (dx_de (dx_has h_are_integers hr (by decide) tk (by rfl) (dr_val (de_var (pv 0)) (dr_nil)))))) (dw_or1 (dt_cmp op_lt ops_b0 (do_val (de_callB ((call_min2 rfl).or (call_minS rfl hr.units)) (cas_or cas_min2 cas_minS) (by rfl) T.b_min boot_min (da_cons (do_var (pv 0)) (da_nil)))) (do_val (de_int)) (nomark _))))) (dss_one (ds_never)) (dss_nil))
    (dss_cons (ds_set (i := 1) S.nd rfl (.inl rfl) (de_int))
    (dss_cons (ds_for (passes_of rfl) rfl (di_tup (de_var (pv 0))) (dg_name (i := 2) (pg_name (i := 2) S.nd rfl (.inl rfl))) (dss_one (ds_set (i := 1) S.nd rfl (.inl rfl) (de_callM call_lcm cas_lcm (by rfl) T.m_lcm (da_cons (do_var (pv 1)) (da_cons (do_var (pv 2)) (da_nil)))))))
    (dss_one (ds_retV (pv 1)))))
theorem d_q_grab (T : Txt mg)  {f : Addr} {n : Nat} {cdv : Value} {A : Around} {outer : List Env} {s : Shared} {H : Hp} {E : XK} (hr : RoomG 0 (A.deeper (envOfC "_law_grab" (defScope s_q_grab) s.heap.objs.size f cdv))) :
    DSs (cxOf (L2.CX P w) P w K mg base ["_law_bag_here", "_law_total", "_law_found", "_law_one", "_law_two"] "_law_grab" (defScope s_q_grab) f cdv A outer s H E) (fun cls d _ H => E cls d H) (defBody s_q_grab) (B_q_grab n) := by
  have S := sc_q_grab
  have tk : Takes (cxOf (L2.CX P w) P w K mg base ["_law_bag_here", "_law_total", "_law_found", "_law_one", "_law_two"] "_law_grab" (defScope s_q_grab) f cdv A outer s H E) (fun cls d _ H => E cls d H) := takes_of rfl rfl rfl rfl
  have hu := hr.units
  have hu0 := hr.units0
  have hu1 := hu_of hr.room
  have hu2 := in1u hr
  exact dss_cons (ds_if (dt_cmp op_gt ops_b0 (do_val (de_ix (do_var (pv 0)) (do_val (de_int)))) (do_val (de_int)) (nomark _)) (dss_cons (ds_set (i := 2) S.nd rfl (.inl rfl) (de_bin op_modN (ops_ic fun _ _ h => of_decide_eq_true h) (do_val (de_callTy call_int1 cas_int (by rfl) T.b_int boot_int (da_cons (do_val (de_ix (do_var (pv 0)) (do_val (de_int)))) (da_nil)))) (do_var (pv 1))))
    (dss_cons (ds_seti (pv 0) (de_int) (de_bin op_fdivG (ops_ic fun _ _ h => cDiv_ok h) (do_val (de_ix (do_var (pv 0)) (do_val (de_int)))) (do_var (pv 1))))
    (dss_one (ds_retV (pv 2))))) (dss_nil))
    (dss_cons (ds_seti (pv 0) (de_int) (de_bin (op_add.or (op_cat.or op_catA)) (ops_or ops_i0 (ops_or ops_catL ops_catT)) (do_val (de_ix (do_var (pv 0)) (do_val (de_int)))) (do_val (de_int))))
    (dss_cons (ds_set (i := 3) S.nd rfl (.inl rfl) (de_bin op_modN (ops_ic fun _ _ h => of_decide_eq_true h) (do_val (de_callTy call_int1 cas_int (by rfl) T.b_int boot_int (da_cons (do_val (de_bin (op_add.or (op_cat.or op_catA)) (ops_or ops_i0 (ops_or ops_catL ops_catT)) (do_val (de_ix (do_var (pv 0)) (do_val (de_int)))) (do_val (de_bin (op_mulW.or (op_rep.or op_repT)) (ops_or (ops_ic mul_ok) (ops_or ops_repL ops_repT)) (do_val (de_int)) (do_val (de_ix (do_var (pv 0)) (do_val (de_int)))))))) (da_nil)))) (do_val (de_int))))
    (dss_cons (ds_set (i := 4) S.nd rfl (.inl rfl) (de_bin (op_add.or (op_cat.or op_catA)) (ops_or ops_i0 (ops_or ops_catL ops_catT)) (do_val (de_bin (op_mulW.or (op_rep.or op_repT)) (ops_or (ops_ic mul_ok) (ops_or ops_repL ops_repT)) (do_val (de_bin op_modN (ops_ic fun _ _ h => of_decide_eq_true h) (do_val (de_callTy call_int1 cas_int (by rfl) T.b_int boot_int (da_cons (do_val (de_bin (op_mulW.or (op_rep.or op_repT)) (ops_or (ops_ic mul_ok) (ops_or ops_repL ops_repT)) (do_var (pv 3)) (do_var (pv 3)))) (da_nil)))) (do_val (de_int)))) (do_var (pv 3)))) (do_val (de_bin (op_mulW.or (op_rep.or op_repT)) (ops_or (ops_ic mul_ok) (ops_or ops_repL ops_repT)) (do_val (de_int)) (do_val (de_ix (do_var (pv 0)) (do_val (de_int))))))))
    (dss_one (ds_ret (de_bin op_modN (ops_ic fun _ _ h => of_decide_eq_true h) (do_val (de_callTy call_int1 cas_int (by rfl) T.b_int boot_int (da_cons (do_val (de_bin op_fdivG (ops_ic fun _ _ h => cDiv_ok h) (do_val (de_bin op_modN (ops_ic fun _ _ h => of_decide_eq_true h) (do_val (de_callTy call_int1 cas_int (by rfl) T.b_int boot_int (da_cons (do_var (pv 4)) (da_nil)))) (do_val (de_int)))) (do_val (de_int)))) (da_nil)))) (do_var (pv 1))))))))
theorem d_q_one_of (T : Txt mg) (h_q_grab : Has P w K mg base "_law_grab" 1 ["_law_bag_here", "_law_total"] F_q_grab) {f : Addr} {n : Nat} {cdv : Value} {A : Around} {outer : List Env} {s : Shared} {H : Hp} {E : XK} (hr : RoomG 1 (A.deeper (envOfC "_law_one_of" (defScope s_q_one_of) s.heap.objs.size f cdv))) :
    DSs (cxOf (L2.CX P w) P w K mg base ["_law_bag_here", "_law_items"] "_law_one_of" (defScope s_q_one_of) f cdv A outer s H E) (fun cls d _ H => E cls d H) (defBody s_q_one_of) (B_q_one_of n) := by
  have S := sc_q_one_of
  have tk : Takes (cxOf (L2.CX P w) P w K mg base ["_law_bag_here", "_law_items"] "_law_one_of" (defScope s_q_one_of) f cdv A outer s H E) (fun cls d _ H => E cls d H) := takes_of rfl rfl rfl rfl
  have hu := hr.units
  have hu0 := hr.units0
  have hu1 := hu_of hr.room
  have hu2 := in1u hr
  exact dss_one (ds_ret (de_ix (do_var (pv 1)) (do_val (dx_de (dx_has h_q_grab hr (by decide) tk (by rfl) (dr_io (pv 0) (dr_val (de_callB call_len_seq cas_len (by rfl) T.b_len PySem.boot_len (da_cons (do_var (pv 1)) (da_nil))) (dr_nil))))))))
theorem d_q_nb_drawn (T : Txt mg) (h_q_grab : Has P w K mg base "_law_grab" 1 ["_law_bag_here", "_law_total"] F_q_grab) (h_q_one_of : Has P w K mg base "_law_one_of" 2 ["_law_bag_here", "_law_items"] F_q_one_of) {f : Addr} {n : Nat} {cdv : Value} {A : Around} {outer : List Env} {s : Shared} {H : Hp} {E : XK} (hr : RoomG 2 (A.deeper (envOfC "_law_nb_drawn" (defScope s_q_nb_drawn) s.heap.objs.size f cdv))) :
    DSs (cxOf (L2.CX P w) P w K mg base ["_law_bag_here", "_law_most", "_law_found", "_law_turn", "_law_part"] "_law_nb_drawn" (defScope s_q_nb_drawn) f cdv A outer s H E) (fun cls d _ H => E cls d H) (defBody s_q_nb_drawn) (B_q_nb_drawn n) := by
  have S := sc_q_nb_drawn
  have tk : Takes (cxOf (L2.CX P w) P w K mg base ["_law_bag_here", "_law_most", "_law_found", "_law_turn", "_law_part"] "_law_nb_drawn" (defScope s_q_nb_drawn) f cdv A outer s H E) (fun cls d _ H => E cls d H) := takes_of rfl rfl rfl rfl
  have hu := hr.units
  have hu0 := hr.units0
  have hu1 := hu_of hr.room
  have hu2 := in1u hr
  exact dss_cons (ds_set (i := 2) S.nd rfl (.inl rfl) (de_int))
    (dss_cons (ds_for (passes_of rfl) rfl (di_rng1 (by rfl) T.b_range (dv_cons (dx_de (dx_has h_q_grab hr (by decide) tk (by rfl) (dr_io (pv 0) (dr_val (de_int) (dr_nil))))) (dv_nil))) (dg_name (i := 3) (pg_name (i := 3) S.nd rfl (.inl rfl))) (dss_cons (ds_set (i := 4) S.nd rfl (.inl rfl) (dx_de (dx_has h_q_one_of hr (by decide) tk (by rfl) (dr_io (pv 0) (dr_val (de_fresh (df_lst (dv_cons (de_int) (dv_cons (de_int) (dv_cons (de_int) (dv_cons (de_int) (dv_cons (de_int) (dv_cons (de_int) (dv_cons (de_int) (dv_cons (de_int) (dv_cons (de_int) (dv_cons (de_int) (dv_cons (de_int) (dv_nil)))))))))))))) (dr_nil))))))
    (dss_one (ds_set (i := 2) S.nd rfl (.inl rfl) (de_ifExp (dt_cmp op_le ops_b0 (do_val (de_bin (op_mulW.or (op_rep.or op_repT)) (ops_or (ops_ic mul_ok) (ops_or ops_repL ops_repT)) (do_var (pv 2)) (do_var (pv 4)))) (do_var (pv 1)) (nomark _)) (de_bin (op_mulW.or (op_rep.or op_repT)) (ops_or (ops_ic mul_ok) (ops_or ops_repL ops_repT)) (do_var (pv 2)) (do_var (pv 4))) (de_var (pv 2)))))))
    (dss_one (ds_ret (de_ifExp (dt_cmp op_gt ops_b0 (do_val (dx_de (dx_has h_q_grab hr (by decide) tk (by rfl) (dr_io (pv 0) (dr_val (de_int) (dr_nil)))))) (do_val (de_int)) (nomark _)) (de_var (pv 2)) (de_bin (op_add.or (op_cat.or op_catA)) (ops_or ops_i0 (ops_or ops_catL ops_catT)) (do_val (de_int)) (do_val (dx_de (dx_has h_q_grab hr (by decide) tk (by rfl) (dr_io (pv 0) (dr_val (de_var (pv 1)) (dr_nil)))))))))))
theorem d_q_nb_is_short (T : Txt mg)  {f : Addr} {n : Nat} {cdv : Value} {A : Around} {outer : List Env} {s : Shared} {H : Hp} {E : XK} (hr : RoomG 0 (A.deeper (envOfC "_law_nb_is_short" (defScope s_q_nb_is_short) s.heap.objs.size f cdv))) :
    DSs (cxOf (L2.CX P w) P w K mg base ["_law_value"] "_law_nb_is_short" (defScope s_q_nb_is_short) f cdv A outer s H E) (fun cls d _ H => E cls d H) (defBody s_q_nb_is_short) (B_q_nb_is_short n) := by
  have S := sc_q_nb_is_short
  have tk : Takes (cxOf (L2.CX P w) P w K mg base ["_law_value"] "_law_nb_is_short" (defScope s_q_nb_is_short) f cdv A outer s H E) (fun cls d _ H => E cls d H) := takes_of rfl rfl rfl rfl
  have hu := hr.units
  have hu0 := hr.units0
  have hu1 := hu_of hr.room
  have hu2 := in1u hr
  exact dss_one (ds_ret (de_and (de_isi (do_var (pv 0)) (pe_tyn (T := "int") (by rfl) T.b_int boot_int) (by rfl) T.b_isinstance boot_isinstance) (de_and (de_not (de_isi (do_var (pv 0)) (pe_tyn (T := "bool") (by rfl) T.b_bool boot_bool) (by rfl) T.b_isinstance boot_isinstance)) (de_one (de_cmp op_lt ops_b0 (do_val (de_callB call_abs cas_abs (by rfl) T.b_abs boot_abs (da_cons (do_var (pv 0)) (da_nil)))) (do_val (de_bin op_powG (ops_ic fun _ _ h => cPow_ok h) (do_val (de_int)) (do_val (de_int)))) (nomark _))))))
theorem d_q_nb_factors (T : Txt mg)  {f : Addr} {n : Nat} {cdv : Value} {A : Around} {outer : List Env} {s : Shared} {H : Hp} {E : XK} (hr : RoomG 0 (A.deeper (envOfC "_law_nb_factors" (defScope s_q_nb_factors) s.heap.objs.size f cdv))) :
    DSs (cxOf (L2.CX P w) P w K mg base ["_law_number", "_law_found", "_law_left", "_law_part"] "_law_nb_factors" (defScope s_q_nb_factors) f cdv A outer s H E) (fun cls d _ H => E cls d H) (defBody s_q_nb_factors) (B_q_nb_factors n) := by
  have S := sc_q_nb_factors
  have tk : Takes (cxOf (L2.CX P w) P w K mg base ["_law_number", "_law_found", "_law_left", "_law_part"] "_law_nb_factors" (defScope s_q_nb_factors) f cdv A outer s H E) (fun cls d _ H => E cls d H) := takes_of rfl rfl rfl rfl
  have hu := hr.units
  have hu0 := hr.units0
  have hu1 := hu_of hr.room
  have hu2 := in1u hr
  exact dss_cons (ds_parX3 rfl S.nd rfl rfl rfl (by decide) (by decide) (by decide) (by rfl) (by rfl) (by rfl) (xs_fr (df_dic0) (xs_val (de_var (pv 0)) (xs_val (de_int) (xs_nil)))) (by rfl))
    (dss_cons (ds_while n (passes_of rfl) (dt_cmp op_le ops_b0 (do_val (de_bin (op_mulW.or (op_rep.or op_repT)) (ops_or (ops_ic mul_ok) (ops_or ops_repL ops_repT)) (do_var (pv 3)) (do_var (pv 3)))) (do_var (pv 2)) (nomark _)) (dss_cons (ds_while n (passes_of rfl) (dt_cmp (((op_eqD hu).or (op_eqK hu2 hu0)).or (op_eqL hr.u80)) (ops_or (ops_or ops_eq1 ops_eqK) ops_eqL) (do_val (de_bin op_modN (ops_ic fun _ _ h => of_decide_eq_true h) (do_var (pv 2)) (do_var (pv 3)))) (do_val (de_int)) (nomark _)) (dss_one (ds_asg (de_tup (dv_cons (de_bin (op_add.or (op_cat.or op_catA)) (ops_or ops_i0 (ops_or ops_catL ops_catT)) (do_val (de_get2 hu1 (do_var (pv 1)) (de_var (pv 3)) (de_int) ⟨by rfl, by rfl, by rfl, by rfl⟩)) (do_val (de_int))) (dv_cons (de_bin op_fdivG (ops_ic fun _ _ h => cDiv_ok h) (do_var (pv 2)) (do_var (pv 3))) (dv_nil)))) (dg_tup rfl (dgs_cons (dg_setK (W := WN) hu1 (pv 1) (de_var (pv 3))) (dgs_cons (dg_name (i := 2) (pg_name (i := 2) S.nd rfl (.inl rfl))) (dgs_nil)))))))
    (dss_one (ds_set (i := 3) S.nd rfl (.inl rfl) (de_bin (op_add.or (op_cat.or op_catA)) (ops_or ops_i0 (ops_or ops_catL ops_catT)) (do_var (pv 3)) (do_val (de_int)))))))
    (dss_cons (ds_if (dt_cmp op_gt ops_b0 (do_var (pv 2)) (do_val (de_int)) (nomark _)) (dss_one (ds_setk hu1 (pv 1) (de_var (pv 2)) (de_bin (op_add.or (op_cat.or op_catA)) (ops_or ops_i0 (ops_or ops_catL ops_catT)) (do_val (de_get2 hu1 (do_var (pv 1)) (de_var (pv 2)) (de_int) ⟨by rfl, by rfl, by rfl, by rfl⟩)) (do_val (de_int))))) (dss_nil))
    (dss_one (ds_retV (pv 1)))))
theorem d_q_nb_is_prime (T : Txt mg) (h_q_nb_is_short : Has P w K mg base "_law_nb_is_short" 1 ["_law_value"] F_q_nb_is_short) (h_q_nb_factors : Has P w K mg base "_law_nb_factors" 1 ["_law_number"] F_q_nb_factors) {f : Addr} {n : Nat} {cdv : Value} {A : Around} {outer : List Env} {s : Shared} {H : Hp} {E : XK} (hr : RoomG 1 (A.deeper (envOfC "_law_nb_is_prime" (defScope s_q_nb_is_prime) s.heap.objs.size f cdv))) :
    DSs (cxOf (L2.CX P w) P w K mg base ["_law_value"] "_law_nb_is_prime" (defScope s_q_nb_is_prime) f cdv A outer s H E) (fun cls d _ H => E cls d H) (defBody s_q_nb_is_prime) (B_q_nb_is_prime n) := by
  have S := sc_q_nb_is_prime
  have tk : Takes (cxOf (L2.CX P w) P w K mg base ["_law_value"] "_law_nb_is_prime" (defScope s_q_nb_is_prime) f cdv A outer s H E) (fun cls d _ H => E cls d H) := takes_of rfl rfl rfl rfl
  have hu := hr.units
  have hu0 := hr.units0
  have hu1 := hu_of hr.room
  have hu2 := in1u hr
  exact dss_one (ds_ret (de_and (dx_de (dx_has h_q_nb_is_short hr (by decide) tk (by rfl) (dr_val (de_var (pv 0)) (dr_nil)))) (de_and (de_chain op_le op_le ops_b0 ops_b0 (do_val (de_int)) (do_var (pv 0)) (do_val (de_bin op_powG (ops_ic fun _ _ h => cPow_ok h) (do_val (de_int)) (do_val (de_int))))) (de_one (de_cmp (((op_eqD hu).or (op_eqK hu2 hu0)).or (op_eqL hr.u80)) (ops_or (ops_or ops_eq1 ops_eqK) ops_eqL) (do_val (dx_de (dx_has h_q_nb_factors hr (by decide) tk (by rfl) (dr_val (de_var (pv 0)) (dr_nil))))) (do_val (de_fresh (df_disp (dps_cons (de_var (pv 0)) (de_int) (dps_nil))))) (nomark _))))))
theorem d_is_prime (T : Txt mg) (h_is_between : Has P w K mg base "is_between" 3 ["value", "least", "most"] F_is_between) {f : Addr} {n : Nat} {cdv : Value} {A : Around} {outer : List Env} {s : Shared} {H : Hp} {E : XK} (hr : RoomG 3 (A.deeper (envOfC "is_prime" (defScope s_is_prime) s.heap.objs.size f cdv))) :
    DSs (cxOf (L2.CX P w) P w K mg base ["value", "divisor"] "is_prime" (defScope s_is_prime) f cdv A outer s H E) (fun cls d _ H => E cls d H) (defBody s_is_prime) (B_is_prime n) := by
  have S := sc_is_prime
  have tk : Takes (cxOf (L2.CX P w) P w K mg base ["value", "divisor"] "is_prime" (defScope s_is_prime) f cdv A outer s H E) (fun cls d _ H => E cls d H) := takes_of rfl rfl rfl rfl
  have hu := hr.units
  have hu0 := hr.units0
  have hu1 := hu_of hr.room
  have hu2 := in1u hr
  exact dss_cons (ds_if (dt_not (dt_val (dx_de (dx_has h_is_between hr (by decide) tk (by rfl) (dr_val (de_var (pv 0)) (dr_val (de_int) (dr_val (de_gint (by rfl) T.c_MAX_PRIME.choose_spec) (dr_nil)))))))) (dss_one (ds_ret (de_bl))) (dss_nil))
    (dss_cons (ds_if (dt_bool (dw_or (dt_cmp op_lt ops_b0 (do_var (pv 0)) (do_val (de_int)) (nomark _)) (dw_or (dt_cmp (((op_eqD hu).or (op_eqK hu2 hu0)).or (op_eqL hr.u80)) (ops_or (ops_or ops_eq1 ops_eqK) ops_eqL) (do_val (de_bin op_modN (ops_ic fun _ _ h => of_decide_eq_true h) (do_var (pv 0)) (do_val (de_int)))) (do_val (de_int)) (nomark _)) (dw_or1 (dt_cmp (((op_eqD hu).or (op_eqK hu2 hu0)).or (op_eqL hr.u80)) (ops_or (ops_or ops_eq1 ops_eqK) ops_eqL) (do_val (de_bin op_modN (ops_ic fun _ _ h => of_decide_eq_true h) (do_var (pv 0)) (do_val (de_int)))) (do_val (de_int)) (nomark _)))))) (dss_one (ds_ret (de_cmp op_lt ops_b0 (do_var (pv 0)) (do_val (de_int)) (nomark _)))) (dss_nil))
    (dss_cons (ds_for (passes_of rfl) rfl (di_rng3 (by rfl) T.b_range (dv_cons (de_int) (dv_cons (de_bin (op_add.or (op_cat.or op_catA)) (ops_or ops_i0 (ops_or ops_catL ops_catT)) (do_val (de_callM call_sqrt cas_sqrt (by rfl) T.m_isqrt (da_cons (do_var (pv 0)) (da_nil)))) (do_val (de_int))) (dv_cons (de_int) (dv_nil))))) (dg_name (i := 1) (pg_name (i := 1) S.nd rfl (.inl rfl))) (dss_one (ds_if (dt_bool (dw_or (dt_cmp (((op_eqD hu).or (op_eqK hu2 hu0)).or (op_eqL hr.u80)) (ops_or (ops_or ops_eq1 ops_eqK) ops_eqL) (do_val (de_bin op_modN (ops_ic fun _ _ h => of_decide_eq_true h) (do_var (pv 0)) (do_var (pv 1)))) (do_val (de_int)) (nomark _)) (dw_or1 (dt_cmp (((op_eqD hu).or (op_eqK hu2 hu0)).or (op_eqL hr.u80)) (ops_or (ops_or ops_eq1 ops_eqK) ops_eqL) (do_val (de_bin op_modN (ops_ic fun _ _ h => of_decide_eq_true h) (do_var (pv 0)) (do_val (de_bin (op_add.or (op_cat.or op_catA)) (ops_or ops_i0 (ops_or ops_catL ops_catT)) (do_var (pv 1)) (do_val (de_int)))))) (do_val (de_int)) (nomark _))))) (dss_one (ds_ret (de_bl))) (dss_nil))))
    (dss_one (ds_ret (de_bl)))))
theorem d_q_judged_right (T : Txt mg) (h_q_grab : Has P w K mg base "_law_grab" 1 ["_law_bag_here", "_law_total"] F_q_grab) (h_q_nb_drawn : Has P w K mg base "_law_nb_drawn" 3 ["_law_bag_here", "_law_most"] F_q_nb_drawn) (h_q_nb_is_short : Has P w K mg base "_law_nb_is_short" 1 ["_law_value"] F_q_nb_is_short) (h_q_nb_is_prime : Has P w K mg base "_law_nb_is_prime" 2 ["_law_value"] F_q_nb_is_prime) (h_is_integer : Has P w K mg base "is_integer" 2 ["value"] F_is_integer) (h_is_prime : Has P w K mg base "is_prime" 4 ["value"] F_is_prime) {f : Addr} {n : Nat} {cdv : Value} {A : Around} {outer : List Env} {s : Shared} {H : Hp} {E : XK} (hr : RoomG 4 (A.deeper (envOfC "_law_judged_right" (defScope s_q_judged_right) s.heap.objs.size f cdv))) :
    DSs (cxOf (L2.CX P w) P w K mg base ["_law_bag_here", "_law_turn", "_law_some", "_law_value", "_law_due"] "_law_judged_right" (defScope s_q_judged_right) f cdv A outer s H E) (fun cls d _ H => E cls d H) (defBody s_q_judged_right) (B_q_judged_right n) := by
  have S := sc_q_judged_right
  have tk : Takes (cxOf (L2.CX P w) P w K mg base ["_law_bag_here", "_law_turn", "_law_some", "_law_value", "_law_due"] "_law_judged_right" (defScope s_q_judged_right) f cdv A outer s H E) (fun cls d _ H => E cls d H) := takes_of rfl rfl rfl rfl
  have hu := hr.units
  have hu0 := hr.units0
  have hu1 := hu_of hr.room
  have hu2 := in1u hr
  exact dss_cons (ds_set (i := 2) S.nd rfl (.inl rfl) (de_bin (op_add.or (op_cat.or op_catA)) (ops_or ops_i0 (ops_or ops_catL ops_catT)) (do_val (de_fresh (df_lc (own := [("_law_turn", 1)]) rfl S.nd (di_rng1 (by rfl) T.b_range (dv_cons (de_int) (dv_nil))) (blkOk_by (by rfl)) rfl (by intro _ _ _ _ _; exact dg_name (i := 1) (pg_name (i := 1) S.nd rfl (.inl rfl))) (by intro _ _ _ _ _; exact dts_nil) (by intro _ _ _ _ _; exact dx_de (dx_hasN h_q_grab hr (by decide) (by rfl) (dr_io (pv 0) (dr_val (de_bin (op_add.or (op_cat.or op_catA)) (ops_or ops_i0 (ops_or ops_catL ops_catT)) (do_val (de_bin op_powG (ops_ic fun _ _ h => cPow_ok h) (do_val (de_int)) (do_val (de_int)))) (do_val (de_int))) (dr_nil)))))))) (do_val (de_fresh (df_lc (own := [("_law_turn", 1)]) rfl S.nd (di_rng1 (by rfl) T.b_range (dv_cons (de_int) (dv_nil))) (blkOk_by (by rfl)) rfl (by intro _ _ _ _ _; exact dg_name (i := 1) (pg_name (i := 1) S.nd rfl (.inl rfl))) (by intro _ _ _ _ _; exact dts_nil) (by intro _ _ _ _ _; exact dx_de (dx_hasN h_q_nb_drawn hr (by decide) (by rfl) (dr_io (pv 0) (dr_val (de_bin op_powG (ops_ic fun _ _ h => cPow_ok h) (do_val (de_int)) (do_val (de_int))) (dr_nil))))))))))
    (dss_cons (ds_set (i := 2) S.nd rfl (.inl rfl) (de_bin (op_add.or (op_cat.or op_catA)) (ops_or ops_i0 (ops_or ops_catL ops_catT)) (do_var (pv 2)) (do_val (de_fresh (df_lst (dv_cons (de_int) (dv_cons (de_int) (dv_cons (de_int) (dv_cons (de_int) (dv_cons (de_int) (dv_cons (de_int) (dv_cons (de_un un_neg uns_neg (do_val (de_int))) (dv_cons (de_bin (op_mulW.or (op_rep.or op_repT)) (ops_or (ops_ic mul_ok) (ops_or ops_repL ops_repT)) (do_val (de_int)) (do_val (de_int))) (dv_cons (de_int) (dv_cons (de_bin op_powG (ops_ic fun _ _ h => cPow_ok h) (do_val (de_int)) (do_val (de_int))) (dv_cons (de_bin (op_add.or (op_cat.or op_catA)) (ops_or ops_i0 (ops_or ops_catL ops_catT)) (do_val (de_bin op_powG (ops_ic fun _ _ h => cPow_ok h) (do_val (de_int)) (do_val (de_int)))) (do_val (de_int))) (dv_cons (de_bin op_powG (ops_ic fun _ _ h => cPow_ok h) (do_val (de_int)) (do_val (de_int))) (dv_cons (de_bin op_sub ops_i0 (do_val (de_bin op_powG (ops_ic fun _ _ h => cPow_ok h) (do_val (de_int)) (do_val (de_int)))) (do_val (de_int))) (dv_cons (de_bin op_sub ops_i0 (do_val (de_int)) (do_val (de_bin op_powG (ops_ic fun _ _ h => cPow_ok h) (do_val (de_int)) (do_val (de_int))))) (dv_cons (de_un un_neg uns_neg (do_val (de_bin op_powG (ops_ic fun _ _ h => cPow_ok h) (do_val (de_int)) (do_val (de_int))))) (dv_nil)))))))))))))))))))))
    (dss_cons (ds_set (i := 2) S.nd rfl (.inl rfl) (de_bin (op_add.or (op_cat.or op_catA)) (ops_or ops_i0 (ops_or ops_catL ops_catT)) (do_var (pv 2)) (do_val (de_fresh (df_lst (dv_cons (de_bl) (dv_cons (de_bl) (dv_cons (de_non) (dv_cons (de_str) (dv_cons (de_tup (dv_cons (de_int) (dv_nil))) (dv_cons (de_fresh (df_lst (dv_cons (de_int) (dv_nil)))) (dv_cons (de_fresh (df_dic0)) (dv_cons (de_tup (dv_nil)) (dv_cons (de_str) (dv_cons (de_tup (dv_cons (de_tup (dv_cons (de_int) (dv_cons (de_int) (dv_nil)))) (dv_nil))) (dv_nil))))))))))))))))
    (dss_cons (ds_for (passes_of rfl) rfl (di_list (de_var (pv 2))) (dg_name (i := 3) (pg_name (i := 3) S.nd rfl (.inl rfl))) (dss_cons (ds_set (i := 4) S.nd rfl (.inl rfl) (de_fresh (df_lst (dv_cons (dx_de (dx_has h_q_nb_is_short hr (by decide) tk (by rfl) (dr_val (de_var (pv 3)) (dr_nil)))) (dv_cons (dx_de (dx_has h_q_nb_is_prime hr (by decide) tk (by rfl) (dr_val (de_var (pv 3)) (dr_nil)))) (dv_nil))))))
    (dss_one (ds_if (dt_cmp (((op_neD hu).or (op_neK hu2 hu0)).or (op_neL hr.u80)) (ops_or (ops_or ops_ne1 ops_neK) ops_neL) (do_val (de_callB (call_rpr.or (call_rprC hr.gd hr.units)) (cas_or cas_rpr cas_rprC) (by rfl) T.b_repr boot_repr (da_cons (do_val (de_fresh (df_lst (dv_cons (dx_de (dx_has h_is_integer hr (by decide) tk (by rfl) (dr_val (de_var (pv 3)) (dr_nil)))) (dv_cons (dx_de (dx_has h_is_prime hr (by decide) tk (by rfl) (dr_val (de_var (pv 3)) (dr_nil)))) (dv_nil)))))) (da_nil)))) (do_val (de_callB (call_rpr.or (call_rprC hr.gd hr.units)) (cas_or cas_rpr cas_rprC) (by rfl) T.b_repr boot_repr (da_cons (do_var (pv 4)) (da_nil)))) (nomark _)) (dss_one (ds_ret (de_bl))) (dss_nil)))))
    (dss_one (ds_ret (de_bl))))))
theorem d_q_nb_sign (T : Txt mg) (h_q_nb_factors : Has P w K mg base "_law_nb_factors" 1 ["_law_number"] F_q_nb_factors) {f : Addr} {n : Nat} {cdv : Value} {A : Around} {outer : List Env} {s : Shared} {H : Hp} {E : XK} (hr : RoomG 1 (A.deeper (envOfC "_law_nb_sign" (defScope s_q_nb_sign) s.heap.objs.size f cdv))) :
    DSs (cxOf (L2.CX P w) P w K mg base ["_law_number", "_law_often", "_law_many"] "_law_nb_sign" (defScope s_q_nb_sign) f cdv A outer s H E) (fun cls d _ H => E cls d H) (defBody s_q_nb_sign) (B_q_nb_sign n) := by
  have S := sc_q_nb_sign
  have tk : Takes (cxOf (L2.CX P w) P w K mg base ["_law_number", "_law_often", "_law_many"] "_law_nb_sign" (defScope s_q_nb_sign) f cdv A outer s H E) (fun cls d _ H => E cls d H) := takes_of rfl rfl rfl rfl
  have hu := hr.units
  have hu0 := hr.units0
  have hu1 := hu_of hr.room
  have hu2 := in1u hr
  exact dss_cons (ds_set (i := 1) S.nd rfl (.inl rfl) (de_fresh (df_lvals rfl (by rfl) T.b_list (dx_de (dx_has h_q_nb_factors hr (by decide) tk (by rfl) (dr_val (de_var (pv 0)) (dr_nil)))))))
    (dss_cons (ds_if (dt_cmp (((op_neD hu).or (op_neK hu2 hu0)).or (op_neL hr.u80)) (ops_or (ops_or ops_ne1 ops_neK) ops_neL) (do_val (de_fresh (df_lc (own := [("_law_many", 2)]) rfl S.nd (di_list (de_var (pv 1))) (blkOk_by (by rfl)) rfl (by intro _ _ _ _ _; exact dg_name (i := 2) (pg_name (i := 2) S.nd rfl (.inl rfl))) (by intro _ _ _ _ _; exact dts_one (dt_cmp op_gt ops_b0 (do_var (pv 2)) (do_val (de_int)) (nomark _))) (by intro _ _ _ _ _; exact de_var (pv 2))))) (do_val (de_fresh (df_lst (dv_nil)))) (nomark _)) (dss_one (ds_ret (de_int))) (dss_nil))
    (dss_one (ds_ret (de_ifExp (dt_cmp (((op_eqD hu).or (op_eqK hu2 hu0)).or (op_eqL hr.u80)) (ops_or (ops_or ops_eq1 ops_eqK) ops_eqL) (do_val (de_bin op_modN (ops_ic fun _ _ h => of_decide_eq_true h) (do_val (de_callB call_len_seq cas_len (by rfl) T.b_len PySem.boot_len (da_cons (do_var (pv 1)) (da_nil)))) (do_val (de_int)))) (do_val (de_int)) (nomark _)) (de_int) (de_un un_neg uns_neg (do_val (de_int)))))))
theorem d_q_nb_divisor (T : Txt mg)  {f : Addr} {n : Nat} {cdv : Value} {A : Around} {outer : List Env} {s : Shared} {H : Hp} {E : XK} (hr : RoomG 0 (A.deeper (envOfC "_law_nb_divisor" (defScope s_q_nb_divisor) s.heap.objs.size f cdv))) :
    DSs (cxOf (L2.CX P w) P w K mg base ["_law_numbers", "_law_found", "_law_number", "_law_other"] "_law_nb_divisor" (defScope s_q_nb_divisor) f cdv A outer s H E) (fun cls d _ H => E cls d H) (defBody s_q_nb_divisor) (B_q_nb_divisor n) := by
  have S := sc_q_nb_divisor
  have tk : Takes (cxOf (L2.CX P w) P w K mg base ["_law_numbers", "_law_found", "_law_number", "_law_other"] "_law_nb_divisor" (defScope s_q_nb_divisor) f cdv A outer s H E) (fun cls d _ H => E cls d H) := takes_of rfl rfl rfl rfl
  have hu := hr.units
  have hu0 := hr.units0
  have hu1 := hu_of hr.room
  have hu2 := in1u hr
  exact dss_cons (ds_set (i := 1) S.nd rfl (.inl rfl) (de_int))
    (dss_cons (ds_for (passes_of rfl) rfl (di_tup (de_var (pv 0))) (dg_name (i := 2) (pg_name (i := 2) S.nd rfl (.inl rfl))) (dss_cons (ds_set (i := 3) S.nd rfl (.inl rfl) (de_callB call_abs cas_abs (by rfl) T.b_abs boot_abs (da_cons (do_var (pv 2)) (da_nil))))
    (dss_one (ds_while n (passes_of rfl) (dt_cmp op_gt ops_b0 (do_var (pv 3)) (do_val (de_int)) (nomark _)) (dss_one (ds_par rfl S.nd rfl rfl (by decide) (by rfl) (by rfl) (dv_cons (de_var (pv 3)) (dv_cons (de_bin op_modN (ops_ic fun _ _ h => of_decide_eq_true h) (do_var (pv 1)) (do_var (pv 3))) (dv_nil))) (by rfl)))))))
    (dss_one (ds_retV (pv 1))))
theorem d_q_factors_right (T : Txt mg) (h_prime_factors : Has P w K mg base "prime_factors" 5 ["number"] F_prime_factors) (h_q_nb_drawn : Has P w K mg base "_law_nb_drawn" 3 ["_law_bag_here", "_law_most"] F_q_nb_drawn) (h_units_of : Has P w K mg base "units_of" 5 ["number"] F_units_of) (h_q_nb_factors : Has P w K mg base "_law_nb_factors" 1 ["_law_number"] F_q_nb_factors) (h_moebius : Has P w K mg base "moebius" 6 ["number"] F_moebius) (h_q_nb_sign : Has P w K mg base "_law_nb_sign" 2 ["_law_number"] F_q_nb_sign) (h_q_nb_divisor : Has P w K mg base "_law_nb_divisor" 1 ["_law_numbers"] F_q_nb_divisor) {f : Addr} {n : Nat} {cdv : Value} {A : Around} {outer : List Env} {s : Shared} {H : Hp} {E : XK} (hr : RoomG 6 (A.deeper (envOfC "_law_factors_right" (defScope s_q_factors_right) s.heap.objs.size f cdv))) :
    DSs (cxOf (L2.CX P w) P w K mg base ["_law_bag_here", "_law_number", "_law_lesser", "_law_few", "_law_told", "_law_one"] "_law_factors_right" (defScope s_q_factors_right) f cdv A outer s H E) (fun cls d _ H => E cls d H) (defBody s_q_factors_right) (B_q_factors_right n) := by
  have S := sc_q_factors_right
  have tk : Takes (cxOf (L2.CX P w) P w K mg base ["_law_bag_here", "_law_number", "_law_lesser", "_law_few", "_law_told", "_law_one"] "_law_factors_right" (defScope s_q_factors_right) f cdv A outer s H E) (fun cls d _ H => E cls d H) := takes_of rfl rfl rfl rfl
  have hu := hr.units
  have hu0 := hr.units0
  have hu1 := hu_of hr.room
  have hu2 := in1u hr
  exact dss_cons (ds_asg (de_tup (dv_cons (dx_de (dx_has h_q_nb_drawn hr (by decide) tk (by rfl) (dr_io (pv 0) (dr_val (de_bin op_powG (ops_ic fun _ _ h => cPow_ok h) (do_val (de_int)) (do_val (de_int))) (dr_nil))))) (dv_cons (dx_de (dx_has h_q_nb_drawn hr (by decide) tk (by rfl) (dr_io (pv 0) (dr_val (de_bin op_powG (ops_ic fun _ _ h => cPow_ok h) (do_val (de_int)) (do_val (de_int))) (dr_nil))))) (dv_cons (dx_de (dx_has h_q_nb_drawn hr (by decide) tk (by rfl) (dr_io (pv 0) (dr_val (de_int) (dr_nil))))) (dv_nil))))) (dg_tup rfl (dgs_cons (dg_name (i := 1) (pg_name (i := 1) S.nd rfl (.inl rfl))) (dgs_cons (dg_name (i := 2) (pg_name (i := 2) S.nd rfl (.inl rfl))) (dgs_cons (dg_name (i := 3) (pg_name (i := 3) S.nd rfl (.inr rfl))) (dgs_nil))))))
    (dss_cons (ds_set (i := 4) S.nd rfl (.inl rfl) (dx_de (dx_has h_prime_factors hr (by decide) tk (by rfl) (dr_val (de_var (pv 1)) (dr_nil)))))
    (dss_cons (ds_if (dt_bool (dw_or (dt_cmp (((op_neD hu).or (op_neK hu2 hu0)).or (op_neL hr.u80)) (ops_or (ops_or ops_ne1 ops_neK) ops_neL) (do_var (pv 4)) (do_val (dx_de (dx_has h_q_nb_factors hr (by decide) tk (by rfl) (dr_val (de_var (pv 1)) (dr_nil))))) (nomark _)) (dw_or (dt_cmp (((op_neD hu).or (op_neK hu2 hu0)).or (op_neL hr.u80)) (ops_or (ops_or ops_ne1 ops_neK) ops_neL) (do_val (de_fresh (df_listK rfl (by rfl) T.b_list (do_var (pv 4))))) (do_val (de_fresh (df_sorted rfl (by rfl) T.b_sorted (do_var (pv 4))))) (nomark _)) (dw_or1 (dt_cmp (((op_neD hu).or (op_neK hu2 hu0)).or (op_neL hr.u80)) (ops_or (ops_or ops_ne1 ops_neK) ops_neL) (do_val (dx_de (dx_has h_moebius hr (by decide) tk (by rfl) (dr_val (de_var (pv 2)) (dr_nil))))) (do_val (dx_de (dx_has h_q_nb_sign hr (by decide) tk (by rfl) (dr_val (de_var (pv 2)) (dr_nil))))) (nomark _)))))) (dss_one (ds_ret (de_bl))) (dss_nil))
    (dss_cons (ds_if (dt_cmp (((op_neD hu).or (op_neK hu2 hu0)).or (op_neL hr.u80)) (ops_or (ops_or ops_ne1 ops_neK) ops_neL) (do_val (de_callB (cr_sum rfl) cas_sum (by rfl) T.b_sum boot_sum (da_cons (do_val (de_fresh (df_lc (own := [("_law_one", 5)]) rfl S.nd (di_rng2 (by rfl) T.b_range (dv_cons (de_int) (dv_cons (de_bin (op_add.or (op_cat.or op_catA)) (ops_or ops_i0 (ops_or ops_catL ops_catT)) (do_var (pv 3)) (do_val (de_int))) (dv_nil)))) (blkOk_by (by rfl)) rfl (by intro _ _ _ _ _; exact dg_name (i := 5) (pg_name (i := 5) S.nd rfl (.inl rfl))) (by intro _ _ _ _ _; exact dts_one (dt_cmp (((op_eqD hu).or (op_eqK hu2 hu0)).or (op_eqL hr.u80)) (ops_or (ops_or ops_eq1 ops_eqK) ops_eqL) (do_val (de_bin op_modN (ops_ic fun _ _ h => of_decide_eq_true h) (do_var (pv 3)) (do_var (pv 5)))) (do_val (de_int)) (nomark _))) (by intro _ _ _ _ _; exact dx_de (dx_hasN h_moebius hr (by decide) (by rfl) (dr_val (de_var (pv 5)) (dr_nil))))))) (da_nil)))) (do_val (de_callTy call_int1 cas_int (by rfl) T.b_int boot_int (da_cons (do_val (de_cmp (((op_eqD hu).or (op_eqK hu2 hu0)).or (op_eqL hr.u80)) (ops_or (ops_or ops_eq1 ops_eqK) ops_eqL) (do_var (pv 3)) (do_val (de_int)) (nomark _))) (da_nil)))) (nomark _)) (dss_one (ds_ret (de_bl))) (dss_nil))
    (dss_one (ds_ret (de_cmp (((op_eqD hu).or (op_eqK hu2 hu0)).or (op_eqL hr.u80)) (ops_or (ops_or ops_eq1 ops_eqK) ops_eqL) (do_val (dx_de (dx_has h_units_of hr (by decide) tk (by rfl) (dr_val (de_var (pv 3)) (dr_nil))))) (do_val (de_callTy call_tuple_of cas_tup (by rfl) T.b_tuple boot_tuple (da_cons (do_val (de_fresh (df_lc (own := [("_law_one", 5)]) rfl S.nd (di_rng2 (by rfl) T.b_range (dv_cons (de_int) (dv_cons (de_bin (op_add.or (op_cat.or op_catA)) (ops_or ops_i0 (ops_or ops_catL ops_catT)) (do_var (pv 3)) (do_val (de_int))) (dv_nil)))) (blkOk_by (by rfl)) rfl (by intro _ _ _ _ _; exact dg_name (i := 5) (pg_name (i := 5) S.nd rfl (.inl rfl))) (by intro _ _ _ _ _; exact dts_one (dt_cmp (((op_eqD hu).or (op_eqK hu2 hu0)).or (op_eqL hr.u80)) (ops_or (ops_or ops_eq1 ops_eqK) ops_eqL) (do_val (dx_de (dx_hasN h_q_nb_divisor hr (by decide) (by rfl) (dr_val (de_tup (dv_cons (de_var (pv 5)) (dv_cons (de_var (pv 3)) (dv_nil)))) (dr_nil))))) (do_val (de_int)) (nomark _))) (by intro _ _ _ _ _; exact de_var (pv 5))))) (da_nil)))) (nomark _)))))))
theorem d_q_commons_right (T : Txt mg) (h_q_one_of : Has P w K mg base "_law_one_of" 2 ["_law_bag_here", "_law_items"] F_q_one_of) (h_common_divisor : Has P w K mg base "common_divisor" 4 ["numbers"] F_common_divisor) (h_q_nb_divisor : Has P w K mg base "_law_nb_divisor" 1 ["_law_numbers"] F_q_nb_divisor) (h_common_multiple : Has P w K mg base "common_multiple" 4 ["numbers"] F_common_multiple) (h_q_grab : Has P w K mg base "_law_grab" 1 ["_law_bag_here", "_law_total"] F_q_grab) {f : Addr} {n : Nat} {cdv : Value} {A : Around} {outer : List Env} {s : Shared} {H : Hp} {E : XK} (hr : RoomG 4 (A.deeper (envOfC "_law_commons_right" (defScope s_q_commons_right) s.heap.objs.size f cdv))) :
    DSs (cxOf (L2.CX P w) P w K mg base ["_law_bag_here", "_law_share", "_law_high", "_law_many", "_law_turn", "_law_numbers", "_law_number", "_law_above", "_law_due"] "_law_commons_right" (defScope s_q_commons_right) f cdv A outer s H E) (fun cls d _ H => E cls d H) (defBody s_q_commons_right) (B_q_commons_right n) := by
  have S := sc_q_commons_right
  have tk : Takes (cxOf (L2.CX P w) P w K mg base ["_law_bag_here", "_law_share", "_law_high", "_law_many", "_law_turn", "_law_numbers", "_law_number", "_law_above", "_law_due"] "_law_commons_right" (defScope s_q_commons_right) f cdv A outer s H E) (fun cls d _ H => E cls d H) := takes_of rfl rfl rfl rfl
  have hu := hr.units
  have hu0 := hr.units0
  have hu1 := hu_of hr.room
  have hu2 := in1u hr
  exact dss_cons (ds_asg (de_tup (dv_cons (dx_de (dx_has h_q_one_of hr (by decide) tk (by rfl) (dr_io (pv 0) (dr_val (de_fresh (df_lst (dv_cons (de_int) (dv_cons (de_int) (dv_cons (de_int) (dv_cons (de_int) (dv_cons (de_bin op_powG (ops_ic fun _ _ h => cPow_ok h) (do_val (de_int)) (do_val (de_int))) (dv_nil)))))))) (dr_nil))))) (dv_cons (dx_de (dx_has h_q_one_of hr (by decide) tk (by rfl) (dr_io (pv 0) (dr_val (de_fresh (df_lst (dv_cons (de_int) (dv_cons (de_int) (dv_cons (de_bin op_powG (ops_ic fun _ _ h => cPow_ok h) (do_val (de_int)) (do_val (de_int))) (dv_nil)))))) (dr_nil))))) (dv_nil)))) (dg_tup rfl (dgs_cons (dg_name (i := 1) (pg_name (i := 1) S.nd rfl (.inr rfl))) (dgs_cons (dg_name (i := 2) (pg_name (i := 2) S.nd rfl (.inr rfl))) (dgs_nil)))))
    (dss_cons (ds_set (i := 3) S.nd rfl (.inl rfl) (dx_de (dx_has h_q_one_of hr (by decide) tk (by rfl) (dr_io (pv 0) (dr_val (de_fresh (df_lst (dv_cons (de_int) (dv_cons (de_int) (dv_cons (de_int) (dv_cons (de_int) (dv_cons (de_int) (dv_nil)))))))) (dr_nil))))))
    (dss_cons (ds_set (i := 5) S.nd rfl (.inl rfl) (de_callTy call_tuple_of cas_tup (by rfl) T.b_tuple boot_tuple (da_cons (do_val (de_fresh (df_lc (own := [("_law_turn", 4)]) rfl S.nd (di_rng1 (by rfl) T.b_range (dv_cons (de_var (pv 3)) (dv_nil))) (blkOk_by (by rfl)) rfl (by intro _ _ _ _ _; exact dg_name (i := 4) (pg_name (i := 4) S.nd rfl (.inl rfl))) (by intro _ _ _ _ _; exact dts_nil) (by intro _ _ _ _ _; exact de_bin (op_mulW.or (op_rep.or op_repT)) (ops_or (ops_ic mul_ok) (ops_or ops_repL ops_repT)) (do_var (pv 1)) (do_val (de_bin op_sub ops_i0 (do_val (dx_de (dx_hasN h_q_grab hr (by decide) (by rfl) (dr_io (pv 0) (dr_val (de_bin (op_add.or (op_cat.or op_catA)) (ops_or ops_i0 (ops_or ops_catL ops_catT)) (do_val (de_bin (op_mulW.or (op_rep.or op_repT)) (ops_or (ops_ic mul_ok) (ops_or ops_repL ops_repT)) (do_val (de_int)) (do_var (pv 2)))) (do_val (de_int))) (dr_nil)))))) (do_var (pv 2)))))))) (da_nil))))
    (dss_cons (ds_if (dt_bool (dw_or (dt_cmp (((op_neD hu).or (op_neK hu2 hu0)).or (op_neL hr.u80)) (ops_or (ops_or ops_ne1 ops_neK) ops_neL) (do_val (dx_de (dx_has h_common_divisor hr (by decide) tk (by rfl) (dr_val (de_var (pv 5)) (dr_nil))))) (do_val (dx_de (dx_has h_q_nb_divisor hr (by decide) tk (by rfl) (dr_val (de_var (pv 5)) (dr_nil))))) (nomark _)) (dw_or1 (dt_cmp (((op_neD hu).or (op_neK hu2 hu0)).or (op_neL hr.u80)) (ops_or (ops_or ops_ne1 ops_neK) ops_neL) (do_val (dx_de (dx_has h_common_divisor hr (by decide) tk (by rfl) (dr_val (de_bin (op_add.or (op_cat.or op_catA)) (ops_or ops_i0 (ops_or ops_catL ops_catT)) (do_var (pv 5)) (do_val (de_bin (op_mulW.or (op_rep.or op_repT)) (ops_or (ops_ic mul_ok) (ops_or ops_repL ops_repT)) (do_val (de_tup (dv_cons (de_int) (dv_nil)))) (do_val (de_bin op_sub ops_i0 (do_val (de_int)) (do_var (pv 3))))))) (dr_nil))))) (do_val (dx_de (dx_has h_q_nb_divisor hr (by decide) tk (by rfl) (dr_val (de_var (pv 5)) (dr_nil))))) (nomark _))))) (dss_one (ds_ret (de_bl))) (dss_nil))
    (dss_cons (ds_par rfl S.nd rfl rfl (by decide) (by rfl) (by rfl) (dv_cons (de_callTy call_tuple_of cas_tup (by rfl) T.b_tuple boot_tuple (da_cons (do_val (de_fresh (df_lc (own := [("_law_number", 6)]) rfl S.nd (di_tup (de_var (pv 5))) (blkOk_by (by rfl)) rfl (by intro _ _ _ _ _; exact dg_name (i := 6) (pg_name (i := 6) S.nd rfl (.inl rfl))) (by intro _ _ _ _ _; exact dts_nil) (by intro _ _ _ _ _; exact de_bin (op_add.or (op_cat.or op_catA)) (ops_or ops_i0 (ops_or ops_catL ops_catT)) (do_val (de_callB call_abs cas_abs (by rfl) T.b_abs boot_abs (da_cons (do_var (pv 6)) (da_nil)))) (do_val (de_int)))))) (da_nil))) (dv_cons (de_int) (dv_nil))) (by rfl))
    (dss_cons (ds_for (passes_of rfl) rfl (di_tup (de_var (pv 7))) (dg_name (i := 6) (pg_name (i := 6) S.nd rfl (.inl rfl))) (dss_one (ds_set (i := 8) S.nd rfl (.inl rfl) (de_bin op_fdivG (ops_ic fun _ _ h => cDiv_ok h) (do_val (de_bin (op_mulW.or (op_rep.or op_repT)) (ops_or (ops_ic mul_ok) (ops_or ops_repL ops_repT)) (do_var (pv 8)) (do_var (pv 6)))) (do_val (dx_de (dx_has h_q_nb_divisor hr (by decide) tk (by rfl) (dr_val (de_tup (dv_cons (de_var (pv 8)) (dv_cons (de_var (pv 6)) (dv_nil)))) (dr_nil)))))))))
    (dss_one (ds_ret (de_and (de_cmp (((op_eqD hu).or (op_eqK hu2 hu0)).or (op_eqL hr.u80)) (ops_or (ops_or ops_eq1 ops_eqK) ops_eqL) (do_val (dx_de (dx_has h_common_multiple hr (by decide) tk (by rfl) (dr_val (de_var (pv 7)) (dr_nil))))) (do_var (pv 8)) (nomark _)) (de_one (de_cmp (((op_eqD hu).or (op_eqK hu2 hu0)).or (op_eqL hr.u80)) (ops_or (ops_or ops_eq1 ops_eqK) ops_eqL) (do_val (dx_de (dx_has h_common_multiple hr (by decide) tk (by rfl) (dr_val (de_bin (op_add.or (op_cat.or op_catA)) (ops_or ops_i0 (ops_or ops_catL ops_catT)) (do_var (pv 7)) (do_val (de_bin (op_mulW.or (op_rep.or op_repT)) (ops_or (ops_ic mul_ok) (ops_or ops_repL ops_repT)) (do_val (de_tup (dv_cons (de_int) (dv_nil)))) (do_val (de_bin op_sub ops_i0 (do_val (de_int)) (do_var (pv 3))))))) (dr_nil))))) (do_var (pv 8)) (nomark _)))))))))))
theorem d_q_digits_right (T : Txt mg) (h_q_grab : Has P w K mg base "_law_grab" 1 ["_law_bag_here", "_law_total"] F_q_grab) (h_q_one_of : Has P w K mg base "_law_one_of" 2 ["_law_bag_here", "_law_items"] F_q_one_of) (h_digits_of : Has P w K mg base "digits_of" 5 ["number", "base"] F_digits_of) {f : Addr} {n : Nat} {cdv : Value} {A : Around} {outer : List Env} {s : Shared} {H : Hp} {E : XK} (hr : RoomG 5 (A.deeper (envOfC "_law_digits_right" (defScope s_q_digits_right) s.heap.objs.size f cdv))) :
    DSs (cxOf (L2.CX P w) P w K mg base ["_law_bag_here", "_law_number", "_law_base", "_law_due", "_law_left"] "_law_digits_right" (defScope s_q_digits_right) f cdv A outer s H E) (fun cls d _ H => E cls d H) (defBody s_q_digits_right) (B_q_digits_right n) := by
  have S := sc_q_digits_right
  have tk : Takes (cxOf (L2.CX P w) P w K mg base ["_law_bag_here", "_law_number", "_law_base", "_law_due", "_law_left"] "_law_digits_right" (defScope s_q_digits_right) f cdv A outer s H E) (fun cls d _ H => E cls d H) := takes_of rfl rfl rfl rfl
  have hu := hr.units
  have hu0 := hr.units0
  have hu1 := hu_of hr.room
  have hu2 := in1u hr
  exact dss_cons (ds_par rfl S.nd rfl rfl (by decide) (by rfl) (by rfl) (dv_cons (dx_de (dx_has h_q_grab hr (by decide) tk (by rfl) (dr_io (pv 0) (dr_val (dx_de (dx_has h_q_one_of hr (by decide) tk (by rfl) (dr_io (pv 0) (dr_val (de_fresh (df_lst (dv_cons (de_int) (dv_cons (de_int) (dv_cons (de_bin op_powG (ops_ic fun _ _ h => cPow_ok h) (do_val (de_int)) (do_val (de_int))) (dv_cons (de_bin op_powG (ops_ic fun _ _ h => cPow_ok h) (do_val (de_int)) (do_val (de_int))) (dv_nil))))))) (dr_nil))))) (dr_nil))))) (dv_cons (de_bin (op_add.or (op_cat.or op_catA)) (ops_or ops_i0 (ops_or ops_catL ops_catT)) (do_val (de_int)) (do_val (dx_de (dx_has h_q_grab hr (by decide) tk (by rfl) (dr_io (pv 0) (dr_val (dx_de (dx_has h_q_one_of hr (by decide) tk (by rfl) (dr_io (pv 0) (dr_val (de_fresh (df_lst (dv_cons (de_int) (dv_cons (de_int) (dv_cons (de_int) (dv_nil)))))) (dr_nil))))) (dr_nil))))))) (dv_nil))) (by rfl))
    (dss_cons (ds_parX rfl S.nd rfl rfl (by decide) (by rfl) (by rfl) (xs_fr (df_lst (dv_nil)) (xs_val (de_var (pv 1)) (xs_nil))) (by rfl))
    (dss_cons (ds_while n (passes_of rfl) (dt_cmp op_gt ops_b0 (do_var (pv 4)) (do_val (de_int)) (nomark _)) (dss_cons (ds_app (pv 3) (de_bin op_modN (ops_ic fun _ _ h => of_decide_eq_true h) (do_val (de_callTy call_int1 cas_int (by rfl) T.b_int boot_int (da_cons (do_var (pv 4)) (da_nil)))) (do_var (pv 2))))
    (dss_one (ds_set (i := 4) S.nd rfl (.inl rfl) (de_bin op_fdivG (ops_ic fun _ _ h => cDiv_ok h) (do_var (pv 4)) (do_var (pv 2)))))))
    (dss_one (ds_ret (de_and (de_cmp (((op_eqD hu).or (op_eqK hu2 hu0)).or (op_eqL hr.u80)) (ops_or (ops_or ops_eq1 ops_eqK) ops_eqL) (do_val (dx_de (dx_has h_digits_of hr (by decide) tk (by rfl) (dr_val (de_var (pv 1)) (dr_val (de_var (pv 2)) (dr_nil)))))) (do_val (de_callTy call_tuple_of cas_tup (by rfl) T.b_tuple boot_tuple (da_cons (do_var (pv 3)) (da_nil)))) (nomark _)) (de_one (de_cmp (((op_eqD hu).or (op_eqK hu2 hu0)).or (op_eqL hr.u80)) (ops_or (ops_or ops_eq1 ops_eqK) ops_eqL) (do_val (dx_de (dx_has h_digits_of hr (by decide) tk (by rfl) (dr_val (de_int) (dr_val (de_var (pv 2)) (dr_nil)))))) (do_val (de_tup (dv_nil))) (nomark _))))))))
theorem d_law (T : Txt mg) (h_q_bag : Has P w K mg base "_law_bag" 1 ["_law_script", "_law_spot"] F_q_bag) (h_prime_factors : Has P w K mg base "prime_factors" 5 ["number"] F_prime_factors) (h_moebius : Has P w K mg base "moebius" 6 ["number"] F_moebius) (h_units_of : Has P w K mg base "units_of" 5 ["number"] F_units_of) (h_digits_of : Has P w K mg base "digits_of" 5 ["number", "base"] F_digits_of) (h_common_divisor : Has P w K mg base "common_divisor" 4 ["numbers"] F_common_divisor) (h_common_multiple : Has P w K mg base "common_multiple" 4 ["numbers"] F_common_multiple) (h_q_judged_right : Has P w K mg base "_law_judged_right" 5 ["_law_bag_here"] F_q_judged_right) (h_q_factors_right : Has P w K mg base "_law_factors_right" 7 ["_law_bag_here"] F_q_factors_right) (h_q_commons_right : Has P w K mg base "_law_commons_right" 5 ["_law_bag_here"] F_q_commons_right) (h_q_digits_right : Has P w K mg base "_law_digits_right" 6 ["_law_bag_here"] F_q_digits_right) {f : Addr} {n : Nat} {cdv : Value} {A : Around} {outer : List Env} {s : Shared} {H : Hp} {E : XK} (hr : RoomG 7 (A.deeper (envOfC "law" (defScope s_law) s.heap.objs.size f cdv))) :
    DSs (cxOf (L2.CX P w) P w K mg base ["_law_script", "_law_spot", "_law_bag_here", "_law_told"] "law" (defScope s_law) f cdv A outer s H E) (fun cls d _ H => E cls d H) (defBody s_law) (B_law n) := by
  have S := sc_law
  have tk : Takes (cxOf (L2.CX P w) P w K mg base ["_law_script", "_law_spot", "_law_bag_here", "_law_told"] "law" (defScope s_law) f cdv A outer s H E) (fun cls d _ H => E cls d H) := takes_of rfl rfl rfl rfl
  have hu := hr.units
  have hu0 := hr.units0
  have hu1 := hu_of hr.room
  have hu2 := in1u hr
  exact dss_cons (ds_for (passes_of rfl) rfl (di_rng1 (by rfl) T.b_range (dv_cons (de_callB ((call_max2 rfl).or (call_maxS rfl hr.units)) (cas_or cas_max2 cas_maxS) (by rfl) T.b_max boot_max (da_cons (do_val (de_int)) (da_cons (do_val (de_callB ((call_min2 rfl).or (call_minS rfl hr.units)) (cas_or cas_min2 cas_minS) (by rfl) T.b_min boot_min (da_cons (do_val (de_int)) (da_cons (do_val (de_callB call_len_seq cas_len (by rfl) T.b_len PySem.boot_len (da_cons (do_var (pv 0)) (da_nil)))) (da_nil))))) (da_nil)))) (dv_nil))) (dg_name (i := 1) (pg_name (i := 1) S.nd rfl (.inl rfl))) (dss_cons (ds_setF (i := 2) S.nd rfl (.inl rfl) (dx_df (dx_has h_q_bag hr (by decide) tk (by rfl) (dr_val (de_var (pv 0)) (dr_val (de_var (pv 1)) (dr_nil))))))
    (dss_one (ds_if (dt_bool (dw_or (dt_not (dt_val (dx_de (dx_has h_q_judged_right hr (by decide) tk (by rfl) (dr_io (pv 2) (dr_nil)))))) (dw_or (dt_not (dt_val (dx_de (dx_has h_q_factors_right hr (by decide) tk (by rfl) (dr_io (pv 2) (dr_nil)))))) (dw_or (dt_not (dt_val (dx_de (dx_has h_q_commons_right hr (by decide) tk (by rfl) (dr_io (pv 2) (dr_nil)))))) (dw_or1 (dt_not (dt_val (dx_de (dx_has h_q_digits_right hr (by decide) tk (by rfl) (dr_io (pv 2) (dr_nil))))))))))) (dss_one (ds_ret (de_bl))) (dss_nil)))))
    (dss_cons (ds_set (i := 3) S.nd rfl (.inl rfl) (de_fresh (df_lst (dv_cons (dx_de (dx_has h_prime_factors hr (by decide) tk (by rfl) (dr_val (de_int) (dr_nil)))) (dv_cons (dx_de (dx_has h_prime_factors hr (by decide) tk (by rfl) (dr_val (de_int) (dr_nil)))) (dv_cons (dx_de (dx_has h_moebius hr (by decide) tk (by rfl) (dr_val (de_int) (dr_nil)))) (dv_cons (dx_de (dx_has h_moebius hr (by decide) tk (by rfl) (dr_val (de_int) (dr_nil)))) (dv_cons (dx_de (dx_has h_units_of hr (by decide) tk (by rfl) (dr_val (de_int) (dr_nil)))) (dv_cons (dx_de (dx_has h_units_of hr (by decide) tk (by rfl) (dr_val (de_int) (dr_nil)))) (dv_cons (dx_de (dx_has h_digits_of hr (by decide) tk (by rfl) (dr_val (de_int) (dr_val (de_int) (dr_nil))))) (dv_nil)))))))))))
    (dss_cons (ds_if (dt_cmp (((op_neD hu).or (op_neK hu2 hu0)).or (op_neL hr.u80)) (ops_or (ops_or ops_ne1 ops_neK) ops_neL) (do_var (pv 3)) (do_val (de_fresh (df_lst (dv_cons (de_fresh (df_disp (dps_cons (de_int) (de_int) (dps_cons (de_int) (de_int) (dps_cons (de_int) (de_int) (dps_nil)))))) (dv_cons (de_fresh (df_dic0)) (dv_cons (de_un un_neg uns_neg (do_val (de_int))) (dv_cons (de_int) (dv_cons (de_tup (dv_cons (de_int) (dv_cons (de_int) (dv_cons (de_int) (dv_cons (de_int) (dv_nil)))))) (dv_cons (de_tup (dv_cons (de_int) (dv_nil))) (dv_cons (de_tup (dv_cons (de_int) (dv_cons (de_int) (dv_nil)))) (dv_nil))))))))))) (nomark _)) (dss_one (ds_ret (de_bl))) (dss_nil))
    (dss_one (ds_ret (de_cmp (((op_eqD hu).or (op_eqK hu2 hu0)).or (op_eqL hr.u80)) (ops_or (ops_or ops_eq1 ops_eqK) ops_eqL) (do_val (de_fresh (df_lst (dv_cons (dx_de (dx_has h_common_divisor hr (by decide) tk (by rfl) (dr_val (de_tup (dv_cons (de_int) (dv_nil))) (dr_nil)))) (dv_cons (dx_de (dx_has h_common_multiple hr (by decide) tk (by rfl) (dr_val (de_tup (dv_cons (de_int) (dv_cons (de_int) (dv_cons (de_int) (dv_cons (de_int) (dv_nil)))))) (dr_nil)))) (dv_cons (dx_de (dx_has h_digits_of hr (by decide) tk (by rfl) (dr_val (de_bin op_powG (ops_ic fun _ _ h => cPow_ok h) (do_val (de_int)) (do_val (de_int))) (dr_val (de_bin op_powG (ops_ic fun _ _ h => cPow_ok h) (do_val (de_int)) (do_val (de_int))) (dr_nil))))) (dv_cons (dx_de (dx_has h_prime_factors hr (by decide) tk (by rfl) (dr_val (de_bin op_powG (ops_ic fun _ _ h => cPow_ok h) (do_val (de_int)) (do_val (de_int))) (dr_nil)))) (dv_nil)))))))) (do_val (de_fresh (df_lst (dv_cons (de_int) (dv_cons (de_int) (dv_cons (de_tup (dv_cons (de_int) (dv_cons (de_int) (dv_nil)))) (dv_cons (de_fresh (df_disp (dps_cons (de_int) (de_int) (dps_cons (de_int) (de_int) (dps_nil))))) (dv_nil)))))))) (nomark _))))))
theorem ok_q_bag (T : Txt mg)  {f : Addr} {fd : FuncData} (Fu : Fun K "_law_bag" "_law_bag" s_q_bag f fd) : FnG P w K mg base (L2.CX P w) 1 f fd ["_law_script", "_law_spot"] (spD K 2 F_q_bag) :=
  fn_D (N := ["_law_script", "_law_spot", "_law_cell", "_law_great", "_law_mixed"]) Fu sc_q_bag B_q_bag (fun n cdv A outer s H E hr => d_q_bag T  hr) fun as _ _ => ⟨fuel as, rfl⟩
theorem has_q_bag (T : Txt mg)  {f : Addr} {fd : FuncData} (Fu : Fun K "_law_bag" "_law_bag" s_q_bag f fd) (g : mg "_law_bag" = some (.ref f)) : Has P w K mg base "_law_bag" 1 ["_law_script", "_law_spot"] F_q_bag :=
  ⟨f, fd, g, Fu.kp, Fu.binds (ps := ["_law_script", "_law_spot"]) (fun _ _ _ _ _ _ us hl => match us, hl with | [_, _], _ => rfl), ok_q_bag T  Fu⟩
theorem ok_is_long_integer (T : Txt mg)  {f : Addr} {fd : FuncData} (Fu : Fun K "is_long_integer" "is_long_integer" s_is_long_integer f fd) : FnG P w K mg base (L2.CX P w) 1 f fd ["value"] (spD K 1 F_is_long_integer) :=
  fn_D (N := ["value"]) Fu sc_is_long_integer B_is_long_integer (fun n cdv A outer s H E hr => d_is_long_integer T  hr) fun as _ _ => ⟨fuel as, rfl⟩
theorem has_is_long_integer (T : Txt mg)  {f : Addr} {fd : FuncData} (Fu : Fun K "is_long_integer" "is_long_integer" s_is_long_integer f fd) (g : mg "is_long_integer" = some (.ref f)) : Has P w K mg base "is_long_integer" 1 ["value"] F_is_long_integer :=
  ⟨f, fd, g, Fu.kp, Fu.binds (ps := ["value"]) (fun _ _ _ _ _ _ us hl => match us, hl with | [_], _ => rfl), ok_is_long_integer T  Fu⟩
theorem ok_is_integer (T : Txt mg) (h_is_long_integer : Has P w K mg base "is_long_integer" 1 ["value"] F_is_long_integer) {f : Addr} {fd : FuncData} (Fu : Fun K "is_integer" "is_integer" s_is_integer f fd) : FnG P w K mg base (L2.CX P w) 2 f fd ["value"] (spD K 1 F_is_integer) :=
  fn_D (N := ["value"]) Fu sc_is_integer B_is_integer (fun n cdv A outer s H E hr => d_is_integer T h_is_long_integer hr) fun as _ _ => ⟨fuel as, rfl⟩
theorem has_is_integer (T : Txt mg) (h_is_long_integer : Has P w K mg base "is_long_integer" 1 ["value"] F_is_long_integer) {f : Addr} {fd : FuncData} (Fu : Fun K "is_integer" "is_integer" s_is_integer f fd) (g : mg "is_integer" = some (.ref f)) : Has P w K mg base "is_integer" 2 ["value"] F_is_integer :=
  ⟨f, fd, g, Fu.kp, Fu.binds (ps := ["value"]) (fun _ _ _ _ _ _ us hl => match us, hl with | [_], _ => rfl), ok_is_integer T h_is_long_integer Fu⟩
theorem ok_is_between (T : Txt mg) (h_is_integer : Has P w K mg base "is_integer" 2 ["value"] F_is_integer) {f : Addr} {fd : FuncData} (Fu : Fun K "is_between" "is_between" s_is_between f fd) : FnG P w K mg base (L2.CX P w) 3 f fd ["value", "least", "most"] (spD K 3 F_is_between) :=
  fn_D (N := ["value", "least", "most"]) Fu sc_is_between B_is_between (fun n cdv A outer s H E hr => d_is_between T h_is_integer hr) fun as _ _ => ⟨fuel as, rfl⟩
theorem has_is_between (T : Txt mg) (h_is_integer : Has P w K mg base "is_integer" 2 ["value"] F_is_integer) {f : Addr} {fd : FuncData} (Fu : Fun K "is_between" "is_between" s_is_between f fd) (g : mg "is_between" = some (.ref f)) : Has P w K mg base "is_between" 3 ["value", "least", "most"] F_is_between :=
  ⟨f, fd, g, Fu.kp, Fu.binds (ps := ["value", "least", "most"]) (fun _ _ _ _ _ _ us hl => match us, hl with | [_, _, _], _ => rfl), ok_is_between T h_is_integer Fu⟩
theorem ok_check_number (T : Txt mg) (h_is_between : Has P w K mg base "is_between" 3 ["value", "least", "most"] F_is_between) {f : Addr} {fd : FuncData} (Fu : Fun K "check_number" "check_number" s_check_number f fd) : FnG P w K mg base (L2.CX P w) 4 f fd ["given", "least", "most"] (spD K 3 F_check_number) :=
  fn_D (N := ["given", "least", "most"]) Fu sc_check_number B_check_number (fun n cdv A outer s H E hr => d_check_number T h_is_between hr) fun as _ _ => ⟨fuel as, rfl⟩
theorem has_check_number (T : Txt mg) (h_is_between : Has P w K mg base "is_between" 3 ["value", "least", "most"] F_is_between) {f : Addr} {fd : FuncData} (Fu : Fun K "check_number" "check_number" s_check_number f fd) (g : mg "check_number" = some (.ref f)) : Has P w K mg base "check_number" 4 ["given", "least", "most"] F_check_number :=
  ⟨f, fd, g, Fu.kp, Fu.binds (ps := ["given", "least", "most"]) (fun _ _ _ _ _ _ us hl => match us, hl with | [_, _, _], _ => rfl), ok_check_number T h_is_between Fu⟩
theorem ok_prime_factors (T : Txt mg) (h_check_number : Has P w K mg base "check_number" 4 ["given", "least", "most"] F_check_number) {f : Addr} {fd : FuncData} (Fu : Fun K "prime_factors" "prime_factors" s_prime_factors f fd) : FnG P w K mg base (L2.CX P w) 5 f fd ["number"] (spD K 1 F_prime_factors) :=
  fn_D (N := ["number", "found", "left", "divisor"]) Fu sc_prime_factors B_prime_factors (fun n cdv A outer s H E hr => d_prime_factors T h_check_number hr) fun as _ _ => ⟨fuel as, rfl⟩
theorem has_prime_factors (T : Txt mg) (h_check_number : Has P w K mg base "check_number" 4 ["given", "least", "most"] F_check_number) {f : Addr} {fd : FuncData} (Fu : Fun K "prime_factors" "prime_factors" s_prime_factors f fd) (g : mg "prime_factors" = some (.ref f)) : Has P w K mg base "prime_factors" 5 ["number"] F_prime_factors :=
  ⟨f, fd, g, Fu.kp, Fu.binds (ps := ["number"]) (fun _ _ _ _ _ _ us hl => match us, hl with | [_], _ => rfl), ok_prime_factors T h_check_number Fu⟩
theorem ok_moebius (T : Txt mg) (h_check_number : Has P w K mg base "check_number" 4 ["given", "least", "most"] F_check_number) (h_prime_factors : Has P w K mg base "prime_factors" 5 ["number"] F_prime_factors) {f : Addr} {fd : FuncData} (Fu : Fun K "moebius" "moebius" s_moebius f fd) : FnG P w K mg base (L2.CX P w) 6 f fd ["number"] (spD K 1 F_moebius) :=
  fn_D (N := ["number", "sign", "times"]) Fu sc_moebius B_moebius (fun n cdv A outer s H E hr => d_moebius T h_check_number h_prime_factors hr) fun as _ _ => ⟨fuel as, rfl⟩
theorem has_moebius (T : Txt mg) (h_check_number : Has P w K mg base "check_number" 4 ["given", "least", "most"] F_check_number) (h_prime_factors : Has P w K mg base "prime_factors" 5 ["number"] F_prime_factors) {f : Addr} {fd : FuncData} (Fu : Fun K "moebius" "moebius" s_moebius f fd) (g : mg "moebius" = some (.ref f)) : Has P w K mg base "moebius" 6 ["number"] F_moebius :=
  ⟨f, fd, g, Fu.kp, Fu.binds (ps := ["number"]) (fun _ _ _ _ _ _ us hl => match us, hl with | [_], _ => rfl), ok_moebius T h_check_number h_prime_factors Fu⟩
theorem ok_units_of (T : Txt mg) (h_check_number : Has P w K mg base "check_number" 4 ["given", "least", "most"] F_check_number) {f : Addr} {fd : FuncData} (Fu : Fun K "units_of" "units_of" s_units_of f fd) : FnG P w K mg base (L2.CX P w) 5 f fd ["number"] (spD K 1 F_units_of) :=
  fn_D (N := ["number", "unit"]) Fu sc_units_of B_units_of (fun n cdv A outer s H E hr => d_units_of T h_check_number hr) fun as _ _ => ⟨fuel as, rfl⟩
theorem has_units_of (T : Txt mg) (h_check_number : Has P w K mg base "check_number" 4 ["given", "least", "most"] F_check_number) {f : Addr} {fd : FuncData} (Fu : Fun K "units_of" "units_of" s_units_of f fd) (g : mg "units_of" = some (.ref f)) : Has P w K mg base "units_of" 5 ["number"] F_units_of :=
  ⟨f, fd, g, Fu.kp, Fu.binds (ps := ["number"]) (fun _ _ _ _ _ _ us hl => match us, hl with | [_], _ => rfl), ok_units_of T h_check_number Fu⟩
theorem ok_digits_to (T : Txt mg)  {f : Addr} {fd : FuncData} (Fu : Fun K "digits_to" "digits_to" s_digits_to f fd) : FnG P w K mg base (L2.CX P w) 1 f fd ["number", "base"] (spD K 2 F_digits_to) :=
  fn_D (N := ["number", "base", "digits", "left"]) Fu sc_digits_to B_digits_to (fun n cdv A outer s H E hr => d_digits_to T  hr) fun as _ _ => ⟨fuel as, rfl⟩
theorem has_digits_to (T : Txt mg)  {f : Addr} {fd : FuncData} (Fu : Fun K "digits_to" "digits_to" s_digits_to f fd) (g : mg "digits_to" = some (.ref f)) : Has P w K mg base "digits_to" 1 ["number", "base"] F_digits_to :=
  ⟨f, fd, g, Fu.kp, Fu.binds (ps := ["number", "base"]) (fun _ _ _ _ _ _ us hl => match us, hl with | [_, _], _ => rfl), ok_digits_to T  Fu⟩
theorem ok_digits_of (T : Txt mg) (h_check_number : Has P w K mg base "check_number" 4 ["given", "least", "most"] F_check_number) (h_digits_to : Has P w K mg base "digits_to" 1 ["number", "base"] F_digits_to) {f : Addr} {fd : FuncData} (Fu : Fun K "digits_of" "digits_of" s_digits_of f fd) : FnG P w K mg base (L2.CX P w) 5 f fd ["number", "base"] (spD K 2 F_digits_of) :=
  fn_D (N := ["number", "base"]) Fu sc_digits_of B_digits_of (fun n cdv A outer s H E hr => d_digits_of T h_check_number h_digits_to hr) fun as _ _ => ⟨fuel as, rfl⟩
theorem has_digits_of (T : Txt mg) (h_check_number : Has P w K mg base "check_number" 4 ["given", "least", "most"] F_check_number) (h_digits_to : Has P w K mg base "digits_to" 1 ["number", "base"] F_digits_to) {f : Addr} {fd : FuncData} (Fu : Fun K "digits_of" "digits_of" s_digits_of f fd) (g : mg "digits_of" = some (.ref f)) : Has P w K mg base "digits_of" 5 ["number", "base"] F_digits_of :=
  ⟨f, fd, g, Fu.kp, Fu.binds (ps := ["number", "base"]) (fun _ _ _ _ _ _ us hl => match us, hl with | [_, _], _ => rfl), ok_digits_of T h_check_number h_digits_to Fu⟩
theorem ok_divisor_of_all (T : Txt mg)  {f : Addr} {fd : FuncData} (Fu : Fun K "divisor_of_all" "divisor_of_all" s_divisor_of_all f fd) : FnG P w K mg base (L2.CX P w) 1 f fd ["numbers"] (spD K 1 F_divisor_of_all) :=
  fn_D (N := ["numbers", "divisor", "number"]) Fu sc_divisor_of_all B_divisor_of_all (fun n cdv A outer s H E hr => d_divisor_of_all T  hr) fun as _ _ => ⟨fuel as, rfl⟩
theorem has_divisor_of_all (T : Txt mg)  {f : Addr} {fd : FuncData} (Fu : Fun K "divisor_of_all" "divisor_of_all" s_divisor_of_all f fd) (g : mg "divisor_of_all" = some (.ref f)) : Has P w K mg base "divisor_of_all" 1 ["numbers"] F_divisor_of_all :=
  ⟨f, fd, g, Fu.kp, Fu.binds (ps := ["numbers"]) (fun _ _ _ _ _ _ us hl => match us, hl with | [_], _ => rfl), ok_divisor_of_all T  Fu⟩
theorem ok_are_integers (T : Txt mg) (h_is_integer : Has P w K mg base "is_integer" 2 ["value"] F_is_integer) {f : Addr} {fd : FuncData} (Fu : Fun K "are_integers" "are_integers" s_are_integers f fd) : FnG P w K mg base (L2.CX P w) 3 f fd ["value"] (spD K 1 F_are_integers) :=
  fn_D (N := ["value", "item"]) Fu sc_are_integers B_are_integers (fun n cdv A outer s H E hr => d_are_integers T h_is_integer hr) fun as _ _ => ⟨fuel as, rfl⟩
theorem has_are_integers (T : Txt mg) (h_is_integer : Has P w K mg base "is_integer" 2 ["value"] F_is_integer) {f : Addr} {fd : FuncData} (Fu : Fun K "are_integers" "are_integers" s_are_integers f fd) (g : mg "are_integers" = some (.ref f)) : Has P w K mg base "are_integers" 3 ["value"] F_are_integers :=
  ⟨f, fd, g, Fu.kp, Fu.binds (ps := ["value"]) (fun _ _ _ _ _ _ us hl => match us, hl with | [_], _ => rfl), ok_are_integers T h_is_integer Fu⟩
theorem ok_common_divisor (T : Txt mg) (h_divisor_of_all : Has P w K mg base "divisor_of_all" 1 ["numbers"] F_divisor_of_all) (h_are_integers : Has P w K mg base "are_integers" 3 ["value"] F_are_integers) {f : Addr} {fd : FuncData} (Fu : Fun K "common_divisor" "common_divisor" s_common_divisor f fd) : FnG P w K mg base (L2.CX P w) 4 f fd ["numbers"] (spD K 1 F_common_divisor) :=
  fn_D (N := ["numbers"]) Fu sc_common_divisor B_common_divisor (fun n cdv A outer s H E hr => d_common_divisor T h_divisor_of_all h_are_integers hr) fun as _ _ => ⟨fuel as, rfl⟩
theorem has_common_divisor (T : Txt mg) (h_divisor_of_all : Has P w K mg base "divisor_of_all" 1 ["numbers"] F_divisor_of_all) (h_are_integers : Has P w K mg base "are_integers" 3 ["value"] F_are_integers) {f : Addr} {fd : FuncData} (Fu : Fun K "common_divisor" "common_divisor" s_common_divisor f fd) (g : mg "common_divisor" = some (.ref f)) : Has P w K mg base "common_divisor" 4 ["numbers"] F_common_divisor :=
  ⟨f, fd, g, Fu.kp, Fu.binds (ps := ["numbers"]) (fun _ _ _ _ _ _ us hl => match us, hl with | [_], _ => rfl), ok_common_divisor T h_divisor_of_all h_are_integers Fu⟩
theorem ok_common_multiple (T : Txt mg) (h_are_integers : Has P w K mg base "are_integers" 3 ["value"] F_are_integers) {f : Addr} {fd : FuncData} (Fu : Fun K "common_multiple" "common_multiple" s_common_multiple f fd) : FnG P w K mg base (L2.CX P w) 4 f fd ["numbers"] (spD K 1 F_common_multiple) :=
  fn_D (N := ["numbers", "multiple", "number"]) Fu sc_common_multiple B_common_multiple (fun n cdv A outer s H E hr => d_common_multiple T h_are_integers hr) fun as _ _ => ⟨fuel as, rfl⟩
theorem has_common_multiple (T : Txt mg) (h_are_integers : Has P w K mg base "are_integers" 3 ["value"] F_are_integers) {f : Addr} {fd : FuncData} (Fu : Fun K "common_multiple" "common_multiple" s_common_multiple f fd) (g : mg "common_multiple" = some (.ref f)) : Has P w K mg base "common_multiple" 4 ["numbers"] F_common_multiple :=
  ⟨f, fd, g, Fu.kp, Fu.binds (ps := ["numbers"]) (fun _ _ _ _ _ _ us hl => match us, hl with | [_], _ => rfl), ok_common_multiple T h_are_integers Fu⟩
theorem ok_q_grab (T : Txt mg)  {f : Addr} {fd : FuncData} (Fu : Fun K "_law_grab" "_law_grab" s_q_grab f fd) : FnG P w K mg base (L2.CX P w) 1 f fd ["_law_bag_here", "_law_total"] (spD K 2 F_q_grab) :=
  fn_D (N := ["_law_bag_here", "_law_total", "_law_found", "_law_one", "_law_two"]) Fu sc_q_grab B_q_grab (fun n cdv A outer s H E hr => d_q_grab T  hr) fun as _ _ => ⟨fuel as, rfl⟩
theorem has_q_grab (T : Txt mg)  {f : Addr} {fd : FuncData} (Fu : Fun K "_law_grab" "_law_grab" s_q_grab f fd) (g : mg "_law_grab" = some (.ref f)) : Has P w K mg base "_law_grab" 1 ["_law_bag_here", "_law_total"] F_q_grab :=
  ⟨f, fd, g, Fu.kp, Fu.binds (ps := ["_law_bag_here", "_law_total"]) (fun _ _ _ _ _ _ us hl => match us, hl with | [_, _], _ => rfl), ok_q_grab T  Fu⟩
theorem ok_q_one_of (T : Txt mg) (h_q_grab : Has P w K mg base "_law_grab" 1 ["_law_bag_here", "_law_total"] F_q_grab) {f : Addr} {fd : FuncData} (Fu : Fun K "_law_one_of" "_law_one_of" s_q_one_of f fd) : FnG P w K mg base (L2.CX P w) 2 f fd ["_law_bag_here", "_law_items"] (spD K 2 F_q_one_of) :=
  fn_D (N := ["_law_bag_here", "_law_items"]) Fu sc_q_one_of B_q_one_of (fun n cdv A outer s H E hr => d_q_one_of T h_q_grab hr) fun as _ _ => ⟨fuel as, rfl⟩
theorem has_q_one_of (T : Txt mg) (h_q_grab : Has P w K mg base "_law_grab" 1 ["_law_bag_here", "_law_total"] F_q_grab) {f : Addr} {fd : FuncData} (Fu : Fun K "_law_one_of" "_law_one_of" s_q_one_of f fd) (g : mg "_law_one_of" = some (.ref f)) : Has P w K mg base "_law_one_of" 2 ["_law_bag_here", "_law_items"] F_q_one_of :=
  ⟨f, fd, g, Fu.kp, Fu.binds (ps := ["_law_bag_here", "_law_items"]) (fun _ _ _ _ _ _ us hl => match us, hl with | [_, _], _ => rfl), ok_q_one_of T h_q_grab Fu⟩
theorem ok_q_nb_drawn (T : Txt mg) (h_q_grab : Has P w K mg base "_law_grab" 1 ["_law_bag_here", "_law_total"] F_q_grab) (h_q_one_of : Has P w K mg base "_law_one_of" 2 ["_law_bag_here", "_law_items"] F_q_one_of) {f : Addr} {fd : FuncData} (Fu : Fun K "_law_nb_drawn" "_law_nb_drawn" s_q_nb_drawn f fd) : FnG P w K mg base (L2.CX P w) 3 f fd ["_law_bag_here", "_law_most"] (spD K 2 F_q_nb_drawn) :=
  fn_D (N := ["_law_bag_here", "_law_most", "_law_found", "_law_turn", "_law_part"]) Fu sc_q_nb_drawn B_q_nb_drawn (fun n cdv A outer s H E hr => d_q_nb_drawn T h_q_grab h_q_one_of hr) fun as _ _ => ⟨fuel as, rfl⟩
theorem has_q_nb_drawn (T : Txt mg) (h_q_grab : Has P w K mg base "_law_grab" 1 ["_law_bag_here", "_law_total"] F_q_grab) (h_q_one_of : Has P w K mg base "_law_one_of" 2 ["_law_bag_here", "_law_items"] F_q_one_of) {f : Addr} {fd : FuncData} (Fu : Fun K "_law_nb_drawn" "_law_nb_drawn" s_q_nb_drawn f fd) (g : mg "_law_nb_drawn" = some (.ref f)) : Has P w K mg base "_law_nb_drawn" 3 ["_law_bag_here", "_law_most"] F_q_nb_drawn :=
  ⟨f, fd, g, Fu.kp, Fu.binds (ps := ["_law_bag_here", "_law_most"]) (fun _ _ _ _ _ _ us hl => match us, hl with | [_, _], _ => rfl), ok_q_nb_drawn T h_q_grab h_q_one_of Fu⟩
theorem ok_q_nb_is_short (T : Txt mg)  {f : Addr} {fd : FuncData} (Fu : Fun K "_law_nb_is_short" "_law_nb_is_short" s_q_nb_is_short f fd) : FnG P w K mg base (L2.CX P w) 1 f fd ["_law_value"] (spD K 1 F_q_nb_is_short) :=
  fn_D (N := ["_law_value"]) Fu sc_q_nb_is_short B_q_nb_is_short (fun n cdv A outer s H E hr => d_q_nb_is_short T  hr) fun as _ _ => ⟨fuel as, rfl⟩
theorem has_q_nb_is_short (T : Txt mg)  {f : Addr} {fd : FuncData} (Fu : Fun K "_law_nb_is_short" "_law_nb_is_short" s_q_nb_is_short f fd) (g : mg "_law_nb_is_short" = some (.ref f)) : Has P w K mg base "_law_nb_is_short" 1 ["_law_value"] F_q_nb_is_short :=
  ⟨f, fd, g, Fu.kp, Fu.binds (ps := ["_law_value"]) (fun _ _ _ _ _ _ us hl => match us, hl with | [_], _ => rfl), ok_q_nb_is_short T  Fu⟩
theorem ok_q_nb_factors (T : Txt mg)  {f : Addr} {fd : FuncData} (Fu : Fun K "_law_nb_factors" "_law_nb_factors" s_q_nb_factors f fd) : FnG P w K mg base (L2.CX P w) 1 f fd ["_law_number"] (spD K 1 F_q_nb_factors) :=
  fn_D (N := ["_law_number", "_law_found", "_law_left", "_law_part"]) Fu sc_q_nb_factors B_q_nb_factors (fun n cdv A outer s H E hr => d_q_nb_factors T  hr) fun as _ _ => ⟨fuel as, rfl⟩
theorem has_q_nb_factors (T : Txt mg)  {f : Addr} {fd : FuncData} (Fu : Fun K "_law_nb_factors" "_law_nb_factors" s_q_nb_factors f fd) (g : mg "_law_nb_factors" = some (.ref f)) : Has P w K mg base "_law_nb_factors" 1 ["_law_number"] F_q_nb_factors :=
  ⟨f, fd, g, Fu.kp, Fu.binds (ps := ["_law_number"]) (fun _ _ _ _ _ _ us hl => match us, hl with | [_], _ => rfl), ok_q_nb_factors T  Fu⟩
theorem ok_q_nb_is_prime (T : Txt mg) (h_q_nb_is_short : Has P w K mg base "_law_nb_is_short" 1 ["_law_value"] F_q_nb_is_short) (h_q_nb_factors : Has P w K mg base "_law_nb_factors" 1 ["_law_number"] F_q_nb_factors) {f : Addr} {fd : FuncData} (Fu : Fun K "_law_nb_is_prime" "_law_nb_is_prime" s_q_nb_is_prime f fd) : FnG P w K mg base (L2.CX P w) 2 f fd ["_law_value"] (spD K 1 F_q_nb_is_prime) :=
  fn_D (N := ["_law_value"]) Fu sc_q_nb_is_prime B_q_nb_is_prime (fun n cdv A outer s H E hr => d_q_nb_is_prime T h_q_nb_is_short h_q_nb_factors hr) fun as _ _ => ⟨fuel as, rfl⟩
theorem has_q_nb_is_prime (T : Txt mg) (h_q_nb_is_short : Has P w K mg base "_law_nb_is_short" 1 ["_law_value"] F_q_nb_is_short) (h_q_nb_factors : Has P w K mg base "_law_nb_factors" 1 ["_law_number"] F_q_nb_factors) {f : Addr} {fd : FuncData} (Fu : Fun K "_law_nb_is_prime" "_law_nb_is_prime" s_q_nb_is_prime f fd) (g : mg "_law_nb_is_prime" = some (.ref f)) : Has P w K mg base "_law_nb_is_prime" 2 ["_law_value"] F_q_nb_is_prime :=
  ⟨f, fd, g, Fu.kp, Fu.binds (ps := ["_law_value"]) (fun _ _ _ _ _ _ us hl => match us, hl with | [_], _ => rfl), ok_q_nb_is_prime T h_q_nb_is_short h_q_nb_factors Fu⟩
theorem ok_is_prime (T : Txt mg) (h_is_between : Has P w K mg base "is_between" 3 ["value", "least", "most"] F_is_between) {f : Addr} {fd : FuncData} (Fu : Fun K "is_prime" "is_prime" s_is_prime f fd) : FnG P w K mg base (L2.CX P w) 4 f fd ["value"] (spD K 1 F_is_prime) :=
  fn_D (N := ["value", "divisor"]) Fu sc_is_prime B_is_prime (fun n cdv A outer s H E hr => d_is_prime T h_is_between hr) fun as _ _ => ⟨fuel as, rfl⟩
theorem has_is_prime (T : Txt mg) (h_is_between : Has P w K mg base "is_between" 3 ["value", "least", "most"] F_is_between) {f : Addr} {fd : FuncData} (Fu : Fun K "is_prime" "is_prime" s_is_prime f fd) (g : mg "is_prime" = some (.ref f)) : Has P w K mg base "is_prime" 4 ["value"] F_is_prime :=
  ⟨f, fd, g, Fu.kp, Fu.binds (ps := ["value"]) (fun _ _ _ _ _ _ us hl => match us, hl with | [_], _ => rfl), ok_is_prime T h_is_between Fu⟩
theorem ok_q_judged_right (T : Txt mg) (h_q_grab : Has P w K mg base "_law_grab" 1 ["_law_bag_here", "_law_total"] F_q_grab) (h_q_nb_drawn : Has P w K mg base "_law_nb_drawn" 3 ["_law_bag_here", "_law_most"] F_q_nb_drawn) (h_q_nb_is_short : Has P w K mg base "_law_nb_is_short" 1 ["_law_value"] F_q_nb_is_short) (h_q_nb_is_prime : Has P w K mg base "_law_nb_is_prime" 2 ["_law_value"] F_q_nb_is_prime) (h_is_integer : Has P w K mg base "is_integer" 2 ["value"] F_is_integer) (h_is_prime : Has P w K mg base "is_prime" 4 ["value"] F_is_prime) {f : Addr} {fd : FuncData} (Fu : Fun K "_law_judged_right" "_law_judged_right" s_q_judged_right f fd) : FnG P w K mg base (L2.CX P w) 5 f fd ["_law_bag_here"] (spD K 1 F_q_judged_right) :=
  fn_D (N := ["_law_bag_here", "_law_turn", "_law_some", "_law_value", "_law_due"]) Fu sc_q_judged_right B_q_judged_right (fun n cdv A outer s H E hr => d_q_judged_right T h_q_grab h_q_nb_drawn h_q_nb_is_short h_q_nb_is_prime h_is_integer h_is_prime hr) fun as _ _ => ⟨fuel as, rfl⟩
theorem has_q_judged_right (T : Txt mg) (h_q_grab : Has P w K mg base "_law_grab" 1 ["_law_bag_here", "_law_total"] F_q_grab) (h_q_nb_drawn : Has P w K mg base "_law_nb_drawn" 3 ["_law_bag_here", "_law_most"] F_q_nb_drawn) (h_q_nb_is_short : Has P w K mg base "_law_nb_is_short" 1 ["_law_value"] F_q_nb_is_short) (h_q_nb_is_prime : Has P w K mg base "_law_nb_is_prime" 2 ["_law_value"] F_q_nb_is_prime) (h_is_integer : Has P w K mg base "is_integer" 2 ["value"] F_is_integer) (h_is_prime : Has P w K mg base "is_prime" 4 ["value"] F_is_prime) {f : Addr} {fd : FuncData} (Fu : Fun K "_law_judged_right" "_law_judged_right" s_q_judged_right f fd) (g : mg "_law_judged_right" = some (.ref f)) : Has P w K mg base "_law_judged_right" 5 ["_law_bag_here"] F_q_judged_right :=
  ⟨f, fd, g, Fu.kp, Fu.binds (ps := ["_law_bag_here"]) (fun _ _ _ _ _ _ us hl => match us, hl with | [_], _ => rfl), ok_q_judged_right T h_q_grab h_q_nb_drawn h_q_nb_is_short h_q_nb_is_prime h_is_integer h_is_prime Fu⟩
theorem ok_q_nb_sign (T : Txt mg) (h_q_nb_factors : Has P w K mg base "_law_nb_factors" 1 ["_law_number"] F_q_nb_factors) {f : Addr} {fd : FuncData} (Fu : Fun K "_law_nb_sign" "_law_nb_sign" s_q_nb_sign f fd) : FnG P w K mg base (L2.CX P w) 2 f fd ["_law_number"] (spD K 1 F_q_nb_sign) :=
  fn_D (N := ["_law_number", "_law_often", "_law_many"]) Fu sc_q_nb_sign B_q_nb_sign (fun n cdv A outer s H E hr => d_q_nb_sign T h_q_nb_factors hr) fun as _ _ => ⟨fuel as, rfl⟩
theorem has_q_nb_sign (T : Txt mg) (h_q_nb_factors : Has P w K mg base "_law_nb_factors" 1 ["_law_number"] F_q_nb_factors) {f : Addr} {fd : FuncData} (Fu : Fun K "_law_nb_sign" "_law_nb_sign" s_q_nb_sign f fd) (g : mg "_law_nb_sign" = some (.ref f)) : Has P w K mg base "_law_nb_sign" 2 ["_law_number"] F_q_nb_sign :=
  ⟨f, fd, g, Fu.kp, Fu.binds (ps := ["_law_number"]) (fun _ _ _ _ _ _ us hl => match us, hl with | [_], _ => rfl), ok_q_nb_sign T h_q_nb_factors Fu⟩
theorem ok_q_nb_divisor (T : Txt mg)  {f : Addr} {fd : FuncData} (Fu : Fun K "_law_nb_divisor" "_law_nb_divisor" s_q_nb_divisor f fd) : FnG P w K mg base (L2.CX P w) 1 f fd ["_law_numbers"] (spD K 1 F_q_nb_divisor) :=
  fn_D (N := ["_law_numbers", "_law_found", "_law_number", "_law_other"]) Fu sc_q_nb_divisor B_q_nb_divisor (fun n cdv A outer s H E hr => d_q_nb_divisor T  hr) fun as _ _ => ⟨fuel as, rfl⟩
theorem has_q_nb_divisor (T : Txt mg)  {f : Addr} {fd : FuncData} (Fu : Fun K "_law_nb_divisor" "_law_nb_divisor" s_q_nb_divisor f fd) (g : mg "_law_nb_divisor" = some (.ref f)) : Has P w K mg base "_law_nb_divisor" 1 ["_law_numbers"] F_q_nb_divisor :=
  ⟨f, fd, g, Fu.kp, Fu.binds (ps := ["_law_numbers"]) (fun _ _ _ _ _ _ us hl => match us, hl with | [_], _ => rfl), ok_q_nb_divisor T  Fu⟩
theorem ok_q_factors_right (T : Txt mg) (h_prime_factors : Has P w K mg base "prime_factors" 5 ["number"] F_prime_factors) (h_q_nb_drawn : Has P w K mg base "_law_nb_drawn" 3 ["_law_bag_here", "_law_most"] F_q_nb_drawn) (h_units_of : Has P w K mg base "units_of" 5 ["number"] F_units_of) (h_q_nb_factors : Has P w K mg base "_law_nb_factors" 1 ["_law_number"] F_q_nb_factors) (h_moebius : Has P w K mg base "moebius" 6 ["number"] F_moebius) (h_q_nb_sign : Has P w K mg base "_law_nb_sign" 2 ["_law_number"] F_q_nb_sign) (h_q_nb_divisor : Has P w K mg base "_law_nb_divisor" 1 ["_law_numbers"] F_q_nb_divisor) {f : Addr} {fd : FuncData} (Fu : Fun K "_law_factors_right" "_law_factors_right" s_q_factors_right f fd) : FnG P w K mg base (L2.CX P w) 7 f fd ["_law_bag_here"] (spD K 1 F_q_factors_right) :=
  fn_D (N := ["_law_bag_here", "_law_number", "_law_lesser", "_law_few", "_law_told", "_law_one"]) Fu sc_q_factors_right B_q_factors_right (fun n cdv A outer s H E hr => d_q_factors_right T h_prime_factors h_q_nb_drawn h_units_of h_q_nb_factors h_moebius h_q_nb_sign h_q_nb_divisor hr) fun as _ _ => ⟨fuel as, rfl⟩
theorem has_q_factors_right (T : Txt mg) (h_prime_factors : Has P w K mg base "prime_factors" 5 ["number"] F_prime_factors) (h_q_nb_drawn : Has P w K mg base "_law_nb_drawn" 3 ["_law_bag_here", "_law_most"] F_q_nb_drawn) (h_units_of : Has P w K mg base "units_of" 5 ["number"] F_units_of) (h_q_nb_factors : Has P w K mg base "_law_nb_factors" 1 ["_law_number"] F_q_nb_factors) (h_moebius : Has P w K mg base "moebius" 6 ["number"] F_moebius) (h_q_nb_sign : Has P w K mg base "_law_nb_sign" 2 ["_law_number"] F_q_nb_sign) (h_q_nb_divisor : Has P w K mg base "_law_nb_divisor" 1 ["_law_numbers"] F_q_nb_divisor) {f : Addr} {fd : FuncData} (Fu : Fun K "_law_factors_right" "_law_factors_right" s_q_factors_right f fd) (g : mg "_law_factors_right" = some (.ref f)) : Has P w K mg base "_law_factors_right" 7 ["_law_bag_here"] F_q_factors_right :=
  ⟨f, fd, g, Fu.kp, Fu.binds (ps := ["_law_bag_here"]) (fun _ _ _ _ _ _ us hl => match us, hl with | [_], _ => rfl), ok_q_factors_right T h_prime_factors h_q_nb_drawn h_units_of h_q_nb_factors h_moebius h_q_nb_sign h_q_nb_divisor Fu⟩
theorem ok_q_commons_right (T : Txt mg) (h_q_one_of : Has P w K mg base "_law_one_of" 2 ["_law_bag_here", "_law_items"] F_q_one_of) (h_common_divisor : Has P w K mg base "common_divisor" 4 ["numbers"] F_common_divisor) (h_q_nb_divisor : Has P w K mg base "_law_nb_divisor" 1 ["_law_numbers"] F_q_nb_divisor) (h_common_multiple : Has P w K mg base "common_multiple" 4 ["numbers"] F_common_multiple) (h_q_grab : Has P w K mg base "_law_grab" 1 ["_law_bag_here", "_law_total"] F_q_grab) {f : Addr} {fd : FuncData} (Fu : Fun K "_law_commons_right" "_law_commons_right" s_q_commons_right f fd) : FnG P w K mg base (L2.CX P w) 5 f fd ["_law_bag_here"] (spD K 1 F_q_commons_right) :=
  fn_D (N := ["_law_bag_here", "_law_share", "_law_high", "_law_many", "_law_turn", "_law_numbers", "_law_number", "_law_above", "_law_due"]) Fu sc_q_commons_right B_q_commons_right (fun n cdv A outer s H E hr => d_q_commons_right T h_q_one_of h_common_divisor h_q_nb_divisor h_common_multiple h_q_grab hr) fun as _ _ => ⟨fuel as, rfl⟩
theorem has_q_commons_right (T : Txt mg) (h_q_one_of : Has P w K mg base "_law_one_of" 2 ["_law_bag_here", "_law_items"] F_q_one_of) (h_common_divisor : Has P w K mg base "common_divisor" 4 ["numbers"] F_common_divisor) (h_q_nb_divisor : Has P w K mg base "_law_nb_divisor" 1 ["_law_numbers"] F_q_nb_divisor) (h_common_multiple : Has P w K mg base "common_multiple" 4 ["numbers"] F_common_multiple) (h_q_grab : Has P w K mg base "_law_grab" 1 ["_law_bag_here", "_law_total"] F_q_grab) {f : Addr} {fd : FuncData} (Fu : Fun K "_law_commons_right" "_law_commons_right" s_q_commons_right f fd) (g : mg "_law_commons_right" = some (.ref f)) : Has P w K mg base "_law_commons_right" 5 ["_law_bag_here"] F_q_commons_right :=
  ⟨f, fd, g, Fu.kp, Fu.binds (ps := ["_law_bag_here"]) (fun _ _ _ _ _ _ us hl => match us, hl with | [_], _ => rfl), ok_q_commons_right T h_q_one_of h_common_divisor h_q_nb_divisor h_common_multiple h_q_grab Fu⟩
theorem ok_q_digits_right (T : Txt mg) (h_q_grab : Has P w K mg base "_law_grab" 1 ["_law_bag_here", "_law_total"] F_q_grab) (h_q_one_of : Has P w K mg base "_law_one_of" 2 ["_law_bag_here", "_law_items"] F_q_one_of) (h_digits_of : Has P w K mg base "digits_of" 5 ["number", "base"] F_digits_of) {f : Addr} {fd : FuncData} (Fu : Fun K "_law_digits_right" "_law_digits_right" s_q_digits_right f fd) : FnG P w K mg base (L2.CX P w) 6 f fd ["_law_bag_here"] (spD K 1 F_q_digits_right) :=
  fn_D (N := ["_law_bag_here", "_law_number", "_law_base", "_law_due", "_law_left"]) Fu sc_q_digits_right B_q_digits_right (fun n cdv A outer s H E hr => d_q_digits_right T h_q_grab h_q_one_of h_digits_of hr) fun as _ _ => ⟨fuel as, rfl⟩
theorem has_q_digits_right (T : Txt mg) (h_q_grab : Has P w K mg base "_law_grab" 1 ["_law_bag_here", "_law_total"] F_q_grab) (h_q_one_of : Has P w K mg base "_law_one_of" 2 ["_law_bag_here", "_law_items"] F_q_one_of) (h_digits_of : Has P w K mg base "digits_of" 5 ["number", "base"] F_digits_of) {f : Addr} {fd : FuncData} (Fu : Fun K "_law_digits_right" "_law_digits_right" s_q_digits_right f fd) (g : mg "_law_digits_right" = some (.ref f)) : Has P w K mg base "_law_digits_right" 6 ["_law_bag_here"] F_q_digits_right :=
  ⟨f, fd, g, Fu.kp, Fu.binds (ps := ["_law_bag_here"]) (fun _ _ _ _ _ _ us hl => match us, hl with | [_], _ => rfl), ok_q_digits_right T h_q_grab h_q_one_of h_digits_of Fu⟩
theorem ok_law (T : Txt mg) (h_q_bag : Has P w K mg base "_law_bag" 1 ["_law_script", "_law_spot"] F_q_bag) (h_prime_factors : Has P w K mg base "prime_factors" 5 ["number"] F_prime_factors) (h_moebius : Has P w K mg base "moebius" 6 ["number"] F_moebius) (h_units_of : Has P w K mg base "units_of" 5 ["number"] F_units_of) (h_digits_of : Has P w K mg base "digits_of" 5 ["number", "base"] F_digits_of) (h_common_divisor : Has P w K mg base "common_divisor" 4 ["numbers"] F_common_divisor) (h_common_multiple : Has P w K mg base "common_multiple" 4 ["numbers"] F_common_multiple) (h_q_judged_right : Has P w K mg base "_law_judged_right" 5 ["_law_bag_here"] F_q_judged_right) (h_q_factors_right : Has P w K mg base "_law_factors_right" 7 ["_law_bag_here"] F_q_factors_right) (h_q_commons_right : Has P w K mg base "_law_commons_right" 5 ["_law_bag_here"] F_q_commons_right) (h_q_digits_right : Has P w K mg base "_law_digits_right" 6 ["_law_bag_here"] F_q_digits_right) {f : Addr} {fd : FuncData} (Fu : Fun K "law" "law" s_law f fd) : FnG P w K mg base (L2.CX P w) 8 f fd ["_law_script"] (spD K 1 F_law) :=
  fn_D (N := ["_law_script", "_law_spot", "_law_bag_here", "_law_told"]) Fu sc_law B_law (fun n cdv A outer s H E hr => d_law T h_q_bag h_prime_factors h_moebius h_units_of h_digits_of h_common_divisor h_common_multiple h_q_judged_right h_q_factors_right h_q_commons_right h_q_digits_right hr) fun as _ _ => ⟨fuel as, rfl⟩
end
theorem all_mk {l : PySem.W.OpenLaw} {w : World} {K : PySem.W.Frag} {h : Heap} {mg : Str → Option Value} {fa f0 f1 f2 f3 f4 f5 f6 f7 f8 f9 f10 f11 f12 f13 f14 f15 f16 f17 f18 f19 f20 f21 f22 f23 f24 f25 f26 f27 : Addr} (X : K.In h) (G : h.Ns mainGlobals mg) (hfa : mg "law" = some (.ref fa))
    {od0 an0 od1 an1 od2 an2 od3 an3 od4 an4 od5 an5 od6 an6 od7 an7 od8 an8 od9 an9 od10 an10 od11 an11 od12 an12 od13 an13 od14 an14 od15 an15 od16 an16 od17 an17 od18 an18 od19 an19 od20 an20 od21 an21 od22 an22 od23 an23 od24 an24 od25 an25 od26 an26 od27 an27 : Option Addr} {sl0 sl1 sl2 sl3 sl4 sl5 sl6 sl7 sl8 sl9 sl10 sl11 sl12 sl13 sl14 sl15 sl16 sl17 sl18 sl19 sl20 sl21 sl22 sl23 sl24 sl25 sl26 sl27 : Array (Option Value)} {oc0 kV0 dc0 pm0 cd0 ct0 oc1 kV1 dc1 pm1 cd1 ct1 oc2 kV2 dc2 pm2 cd2 ct2 oc3 kV3 dc3 pm3 cd3 ct3 oc4 kV4 dc4 pm4 cd4 ct4 oc5 kV5 dc5 pm5 cd5 ct5 oc6 kV6 dc6 pm6 cd6 ct6 oc7 kV7 dc7 pm7 cd7 ct7 oc8 kV8 dc8 pm8 cd8 ct8 oc9 kV9 dc9 pm9 cd9 ct9 oc10 kV10 dc10 pm10 cd10 ct10 oc11 kV11 dc11 pm11 cd11 ct11 oc12 kV12 dc12 pm12 cd12 ct12 oc13 kV13 dc13 pm13 cd13 ct13 oc14 kV14 dc14 pm14 cd14 ct14 oc15 kV15 dc15 pm15 cd15 ct15 oc16 kV16 dc16 pm16 cd16 ct16 oc17 kV17 dc17 pm17 cd17 ct17 oc18 kV18 dc18 pm18 cd18 ct18 oc19 kV19 dc19 pm19 cd19 ct19 oc20 kV20 dc20 pm20 cd20 ct20 oc21 kV21 dc21 pm21 cd21 ct21 oc22 kV22 dc22 pm22 cd22 ct22 oc23 kV23 dc23 pm23 cd23 ct23 oc24 kV24 dc24 pm24 cd24 ct24 oc25 kV25 dc25 pm25 cd25 ct25 oc26 kV26 dc26 pm26 cd26 ct26 oc27 kV27 dc27 pm27 cd27 ct27 : Value}
    {t_MAX_BASE t_MAX_COMMON t_MAX_COUNT t_MAX_FACTORED t_MAX_INTEGER t_MAX_PRIME : Tok}
    (a0 : PySem.W.nsIn K mainGlobals "_law_bag" = some (some (.ref f0))) (l0 : K.lookup f0 = some ⟨oc0, od0, .func (PySem.W.fnOf "_law_bag" "_law_bag" (defArgs s_q_bag) (defBody s_q_bag) (defScope s_q_bag) .none kV0 dc0 pm0 an0 cd0 ct0), sl0⟩) (c0 : PySem.W.codeIn K cd0 "_law_bag" = true) (k0 : PySem.W.keepIn K (.ref f0) = true)
    (a1 : PySem.W.nsIn K mainGlobals "is_long_integer" = some (some (.ref f1))) (l1 : K.lookup f1 = some ⟨oc1, od1, .func (PySem.W.fnOf "is_long_integer" "is_long_integer" (defArgs s_is_long_integer) (defBody s_is_long_integer) (defScope s_is_long_integer) .none kV1 dc1 pm1 an1 cd1 ct1), sl1⟩) (c1 : PySem.W.codeIn K cd1 "is_long_integer" = true) (k1 : PySem.W.keepIn K (.ref f1) = true)
    (a2 : PySem.W.nsIn K mainGlobals "is_integer" = some (some (.ref f2))) (l2 : K.lookup f2 = some ⟨oc2, od2, .func (PySem.W.fnOf "is_integer" "is_integer" (defArgs s_is_integer) (defBody s_is_integer) (defScope s_is_integer) .none kV2 dc2 pm2 an2 cd2 ct2), sl2⟩) (c2 : PySem.W.codeIn K cd2 "is_integer" = true) (k2 : PySem.W.keepIn K (.ref f2) = true)
    (a3 : PySem.W.nsIn K mainGlobals "is_between" = some (some (.ref f3))) (l3 : K.lookup f3 = some ⟨oc3, od3, .func (PySem.W.fnOf "is_between" "is_between" (defArgs s_is_between) (defBody s_is_between) (defScope s_is_between) .none kV3 dc3 pm3 an3 cd3 ct3), sl3⟩) (c3 : PySem.W.codeIn K cd3 "is_between" = true) (k3 : PySem.W.keepIn K (.ref f3) = true)
    (a4 : PySem.W.nsIn K mainGlobals "check_number" = some (some (.ref f4))) (l4 : K.lookup f4 = some ⟨oc4, od4, .func (PySem.W.fnOf "check_number" "check_number" (defArgs s_check_number) (defBody s_check_number) (defScope s_check_number) .none kV4 dc4 pm4 an4 cd4 ct4), sl4⟩) (c4 : PySem.W.codeIn K cd4 "check_number" = true) (k4 : PySem.W.keepIn K (.ref f4) = true)
    (a5 : PySem.W.nsIn K mainGlobals "prime_factors" = some (some (.ref f5))) (l5 : K.lookup f5 = some ⟨oc5, od5, .func (PySem.W.fnOf "prime_factors" "prime_factors" (defArgs s_prime_factors) (defBody s_prime_factors) (defScope s_prime_factors) .none kV5 dc5 pm5 an5 cd5 ct5), sl5⟩) (c5 : PySem.W.codeIn K cd5 "prime_factors" = true) (k5 : PySem.W.keepIn K (.ref f5) = true)
    (a6 : PySem.W.nsIn K mainGlobals "moebius" = some (some (.ref f6))) (l6 : K.lookup f6 = some ⟨oc6, od6, .func (PySem.W.fnOf "moebius" "moebius" (defArgs s_moebius) (defBody s_moebius) (defScope s_moebius) .none kV6 dc6 pm6 an6 cd6 ct6), sl6⟩) (c6 : PySem.W.codeIn K cd6 "moebius" = true) (k6 : PySem.W.keepIn K (.ref f6) = true)
    (a7 : PySem.W.nsIn K mainGlobals "units_of" = some (some (.ref f7))) (l7 : K.lookup f7 = some ⟨oc7, od7, .func (PySem.W.fnOf "units_of" "units_of" (defArgs s_units_of) (defBody s_units_of) (defScope s_units_of) .none kV7 dc7 pm7 an7 cd7 ct7), sl7⟩) (c7 : PySem.W.codeIn K cd7 "units_of" = true) (k7 : PySem.W.keepIn K (.ref f7) = true)
    (a8 : PySem.W.nsIn K mainGlobals "digits_to" = some (some (.ref f8))) (l8 : K.lookup f8 = some ⟨oc8, od8, .func (PySem.W.fnOf "digits_to" "digits_to" (defArgs s_digits_to) (defBody s_digits_to) (defScope s_digits_to) .none kV8 dc8 pm8 an8 cd8 ct8), sl8⟩) (c8 : PySem.W.codeIn K cd8 "digits_to" = true) (k8 : PySem.W.keepIn K (.ref f8) = true)
    (a9 : PySem.W.nsIn K mainGlobals "digits_of" = some (some (.ref f9))) (l9 : K.lookup f9 = some ⟨oc9, od9, .func (PySem.W.fnOf "digits_of" "digits_of" (defArgs s_digits_of) (defBody s_digits_of) (defScope s_digits_of) .none kV9 dc9 pm9 an9 cd9 ct9), sl9⟩) (c9 : PySem.W.codeIn K cd9 "digits_of" = true) (k9 : PySem.W.keepIn K (.ref f9) = true)
    (a10 : PySem.W.nsIn K mainGlobals "divisor_of_all" = some (some (.ref f10))) (l10 : K.lookup f10 = some ⟨oc10, od10, .func (PySem.W.fnOf "divisor_of_all" "divisor_of_all" (defArgs s_divisor_of_all) (defBody s_divisor_of_all) (defScope s_divisor_of_all) .none kV10 dc10 pm10 an10 cd10 ct10), sl10⟩) (c10 : PySem.W.codeIn K cd10 "divisor_of_all" = true) (k10 : PySem.W.keepIn K (.ref f10) = true)
    (a11 : PySem.W.nsIn K mainGlobals "are_integers" = some (some (.ref f11))) (l11 : K.lookup f11 = some ⟨oc11, od11, .func (PySem.W.fnOf "are_integers" "are_integers" (defArgs s_are_integers) (defBody s_are_integers) (defScope s_are_integers) .none kV11 dc11 pm11 an11 cd11 ct11), sl11⟩) (c11 : PySem.W.codeIn K cd11 "are_integers" = true) (k11 : PySem.W.keepIn K (.ref f11) = true)
    (a12 : PySem.W.nsIn K mainGlobals "common_divisor" = some (some (.ref f12))) (l12 : K.lookup f12 = some ⟨oc12, od12, .func (PySem.W.fnOf "common_divisor" "common_divisor" (defArgs s_common_divisor) (defBody s_common_divisor) (defScope s_common_divisor) .none kV12 dc12 pm12 an12 cd12 ct12), sl12⟩) (c12 : PySem.W.codeIn K cd12 "common_divisor" = true) (k12 : PySem.W.keepIn K (.ref f12) = true)
    (a13 : PySem.W.nsIn K mainGlobals "common_multiple" = some (some (.ref f13))) (l13 : K.lookup f13 = some ⟨oc13, od13, .func (PySem.W.fnOf "common_multiple" "common_multiple" (defArgs s_common_multiple) (defBody s_common_multiple) (defScope s_common_multiple) .none kV13 dc13 pm13 an13 cd13 ct13), sl13⟩) (c13 : PySem.W.codeIn K cd13 "common_multiple" = true) (k13 : PySem.W.keepIn K (.ref f13) = true)
    (a14 : PySem.W.nsIn K mainGlobals "_law_grab" = some (some (.ref f14))) (l14 : K.lookup f14 = some ⟨oc14, od14, .func (PySem.W.fnOf "_law_grab" "_law_grab" (defArgs s_q_grab) (defBody s_q_grab) (defScope s_q_grab) .none kV14 dc14 pm14 an14 cd14 ct14), sl14⟩) (c14 : PySem.W.codeIn K cd14 "_law_grab" = true) (k14 : PySem.W.keepIn K (.ref f14) = true)
    (a15 : PySem.W.nsIn K mainGlobals "_law_one_of" = some (some (.ref f15))) (l15 : K.lookup f15 = some ⟨oc15, od15, .func (PySem.W.fnOf "_law_one_of" "_law_one_of" (defArgs s_q_one_of) (defBody s_q_one_of) (defScope s_q_one_of) .none kV15 dc15 pm15 an15 cd15 ct15), sl15⟩) (c15 : PySem.W.codeIn K cd15 "_law_one_of" = true) (k15 : PySem.W.keepIn K (.ref f15) = true)
    (a16 : PySem.W.nsIn K mainGlobals "_law_nb_drawn" = some (some (.ref f16))) (l16 : K.lookup f16 = some ⟨oc16, od16, .func (PySem.W.fnOf "_law_nb_drawn" "_law_nb_drawn" (defArgs s_q_nb_drawn) (defBody s_q_nb_drawn) (defScope s_q_nb_drawn) .none kV16 dc16 pm16 an16 cd16 ct16), sl16⟩) (c16 : PySem.W.codeIn K cd16 "_law_nb_drawn" = true) (k16 : PySem.W.keepIn K (.ref f16) = true)
    (a17 : PySem.W.nsIn K mainGlobals "_law_nb_is_short" = some (some (.ref f17))) (l17 : K.lookup f17 = some ⟨oc17, od17, .func (PySem.W.fnOf "_law_nb_is_short" "_law_nb_is_short" (defArgs s_q_nb_is_short) (defBody s_q_nb_is_short) (defScope s_q_nb_is_short) .none kV17 dc17 pm17 an17 cd17 ct17), sl17⟩) (c17 : PySem.W.codeIn K cd17 "_law_nb_is_short" = true) (k17 : PySem.W.keepIn K (.ref f17) = true)
    (a18 : PySem.W.nsIn K mainGlobals "_law_nb_factors" = some (some (.ref f18))) (l18 : K.lookup f18 = some ⟨oc18, od18, .func (PySem.W.fnOf "_law_nb_factors" "_law_nb_factors" (defArgs s_q_nb_factors) (defBody s_q_nb_factors) (defScope s_q_nb_factors) .none kV18 dc18 pm18 an18 cd18 ct18), sl18⟩) (c18 : PySem.W.codeIn K cd18 "_law_nb_factors" = true) (k18 : PySem.W.keepIn K (.ref f18) = true)
    (a19 : PySem.W.nsIn K mainGlobals "_law_nb_is_prime" = some (some (.ref f19))) (l19 : K.lookup f19 = some ⟨oc19, od19, .func (PySem.W.fnOf "_law_nb_is_prime" "_law_nb_is_prime" (defArgs s_q_nb_is_prime) (defBody s_q_nb_is_prime) (defScope s_q_nb_is_prime) .none kV19 dc19 pm19 an19 cd19 ct19), sl19⟩) (c19 : PySem.W.codeIn K cd19 "_law_nb_is_prime" = true) (k19 : PySem.W.keepIn K (.ref f19) = true)
    (a20 : PySem.W.nsIn K mainGlobals "is_prime" = some (some (.ref f20))) (l20 : K.lookup f20 = some ⟨oc20, od20, .func (PySem.W.fnOf "is_prime" "is_prime" (defArgs s_is_prime) (defBody s_is_prime) (defScope s_is_prime) .none kV20 dc20 pm20 an20 cd20 ct20), sl20⟩) (c20 : PySem.W.codeIn K cd20 "is_prime" = true) (k20 : PySem.W.keepIn K (.ref f20) = true)
    (a21 : PySem.W.nsIn K mainGlobals "_law_judged_right" = some (some (.ref f21))) (l21 : K.lookup f21 = some ⟨oc21, od21, .func (PySem.W.fnOf "_law_judged_right" "_law_judged_right" (defArgs s_q_judged_right) (defBody s_q_judged_right) (defScope s_q_judged_right) .none kV21 dc21 pm21 an21 cd21 ct21), sl21⟩) (c21 : PySem.W.codeIn K cd21 "_law_judged_right" = true) (k21 : PySem.W.keepIn K (.ref f21) = true)
    (a22 : PySem.W.nsIn K mainGlobals "_law_nb_sign" = some (some (.ref f22))) (l22 : K.lookup f22 = some ⟨oc22, od22, .func (PySem.W.fnOf "_law_nb_sign" "_law_nb_sign" (defArgs s_q_nb_sign) (defBody s_q_nb_sign) (defScope s_q_nb_sign) .none kV22 dc22 pm22 an22 cd22 ct22), sl22⟩) (c22 : PySem.W.codeIn K cd22 "_law_nb_sign" = true) (k22 : PySem.W.keepIn K (.ref f22) = true)
    (a23 : PySem.W.nsIn K mainGlobals "_law_nb_divisor" = some (some (.ref f23))) (l23 : K.lookup f23 = some ⟨oc23, od23, .func (PySem.W.fnOf "_law_nb_divisor" "_law_nb_divisor" (defArgs s_q_nb_divisor) (defBody s_q_nb_divisor) (defScope s_q_nb_divisor) .none kV23 dc23 pm23 an23 cd23 ct23), sl23⟩) (c23 : PySem.W.codeIn K cd23 "_law_nb_divisor" = true) (k23 : PySem.W.keepIn K (.ref f23) = true)
    (a24 : PySem.W.nsIn K mainGlobals "_law_factors_right" = some (some (.ref f24))) (l24 : K.lookup f24 = some ⟨oc24, od24, .func (PySem.W.fnOf "_law_factors_right" "_law_factors_right" (defArgs s_q_factors_right) (defBody s_q_factors_right) (defScope s_q_factors_right) .none kV24 dc24 pm24 an24 cd24 ct24), sl24⟩) (c24 : PySem.W.codeIn K cd24 "_law_factors_right" = true) (k24 : PySem.W.keepIn K (.ref f24) = true)
    (a25 : PySem.W.nsIn K mainGlobals "_law_commons_right" = some (some (.ref f25))) (l25 : K.lookup f25 = some ⟨oc25, od25, .func (PySem.W.fnOf "_law_commons_right" "_law_commons_right" (defArgs s_q_commons_right) (defBody s_q_commons_right) (defScope s_q_commons_right) .none kV25 dc25 pm25 an25 cd25 ct25), sl25⟩) (c25 : PySem.W.codeIn K cd25 "_law_commons_right" = true) (k25 : PySem.W.keepIn K (.ref f25) = true)
    (a26 : PySem.W.nsIn K mainGlobals "_law_digits_right" = some (some (.ref f26))) (l26 : K.lookup f26 = some ⟨oc26, od26, .func (PySem.W.fnOf "_law_digits_right" "_law_digits_right" (defArgs s_q_digits_right) (defBody s_q_digits_right) (defScope s_q_digits_right) .none kV26 dc26 pm26 an26 cd26 ct26), sl26⟩) (c26 : PySem.W.codeIn K cd26 "_law_digits_right" = true) (k26 : PySem.W.keepIn K (.ref f26) = true)
    (a27 : PySem.W.nsIn K mainGlobals "law" = some (some (.ref f27))) (l27 : K.lookup f27 = some ⟨oc27, od27, .func (PySem.W.fnOf "law" "law" (defArgs s_law) (defBody s_law) (defScope s_law) .none kV27 dc27 pm27 an27 cd27 ct27), sl27⟩) (c27 : PySem.W.codeIn K cd27 "law" = true) (k27 : PySem.W.keepIn K (.ref f27) = true)
    (z_abs : PySem.W.nsIn K mainGlobals "abs" = some none)
    (z_all : PySem.W.nsIn K mainGlobals "all" = some none)
    (z_bool : PySem.W.nsIn K mainGlobals "bool" = some none)
    (z_int : PySem.W.nsIn K mainGlobals "int" = some none)
    (z_isinstance : PySem.W.nsIn K mainGlobals "isinstance" = some none)
    (z_len : PySem.W.nsIn K mainGlobals "len" = some none)
    (z_list : PySem.W.nsIn K mainGlobals "list" = some none)
    (z_max : PySem.W.nsIn K mainGlobals "max" = some none)
    (z_min : PySem.W.nsIn K mainGlobals "min" = some none)
    (z_range : PySem.W.nsIn K mainGlobals "range" = some none)
    (z_repr : PySem.W.nsIn K mainGlobals "repr" = some none)
    (z_sorted : PySem.W.nsIn K mainGlobals "sorted" = some none)
    (z_sum : PySem.W.nsIn K mainGlobals "sum" = some none)
    (z_tuple : PySem.W.nsIn K mainGlobals "tuple" = some none)
    (q_MAX_BASE : PySem.W.nsIn K mainGlobals "MAX_BASE" = some (some (.int 1000000 t_MAX_BASE)))
    (q_MAX_COMMON : PySem.W.nsIn K mainGlobals "MAX_COMMON" = some (some (.int 2520 t_MAX_COMMON)))
    (q_MAX_COUNT : PySem.W.nsIn K mainGlobals "MAX_COUNT" = some (some (.int 100 t_MAX_COUNT)))
    (q_MAX_FACTORED : PySem.W.nsIn K mainGlobals "MAX_FACTORED" = some (some (.int 1000000000 t_MAX_FACTORED)))
    (q_MAX_INTEGER : PySem.W.nsIn K mainGlobals "MAX_INTEGER" = some (some (.int 999999999999999999999999999999999999999999999999999999999999 t_MAX_INTEGER)))
    (q_MAX_PRIME : PySem.W.nsIn K mainGlobals "MAX_PRIME" = some (some (.int 1000000 t_MAX_PRIME)))
    (m_gcd : PySem.W.nsIn K mainGlobals "gcd" = some (some (.builtin "math.gcd")))
    (m_isqrt : PySem.W.nsIn K mainGlobals "isqrt" = some (some (.builtin "math.isqrt")))
    (m_lcm : PySem.W.nsIn K mainGlobals "lcm" = some (some (.builtin "math.lcm")))
    : ∃ fd : FuncData, (∀ (s : Shared) (v : Value), BindsTo s fd ⟨[v], []⟩ [("_law_script", v)]) ∧ ∀ base : Heap, K.In base → base.Ns mainGlobals mg → FnG l.prog w K mg base (L2.CX l.prog w) 8 fa fd ["_law_script"] (spD K 1 F_law) := by
  have e := hfa.symm.trans (PySem.W.mg_of X G a27)
  cases e
  have T : Txt mg := { b_abs := PySem.W.mg_none_of X G z_abs, b_all := PySem.W.mg_none_of X G z_all, b_bool := PySem.W.mg_none_of X G z_bool, b_int := PySem.W.mg_none_of X G z_int, b_isinstance := PySem.W.mg_none_of X G z_isinstance, b_len := PySem.W.mg_none_of X G z_len, b_list := PySem.W.mg_none_of X G z_list, b_max := PySem.W.mg_none_of X G z_max, b_min := PySem.W.mg_none_of X G z_min, b_range := PySem.W.mg_none_of X G z_range, b_repr := PySem.W.mg_none_of X G z_repr, b_sorted := PySem.W.mg_none_of X G z_sorted, b_sum := PySem.W.mg_none_of X G z_sum, b_tuple := PySem.W.mg_none_of X G z_tuple, c_MAX_BASE := ⟨t_MAX_BASE, PySem.W.mg_of X G q_MAX_BASE⟩, c_MAX_COMMON := ⟨t_MAX_COMMON, PySem.W.mg_of X G q_MAX_COMMON⟩, c_MAX_COUNT := ⟨t_MAX_COUNT, PySem.W.mg_of X G q_MAX_COUNT⟩, c_MAX_FACTORED := ⟨t_MAX_FACTORED, PySem.W.mg_of X G q_MAX_FACTORED⟩, c_MAX_INTEGER := ⟨t_MAX_INTEGER, PySem.W.mg_of X G q_MAX_INTEGER⟩, c_MAX_PRIME := ⟨t_MAX_PRIME, PySem.W.mg_of X G q_MAX_PRIME⟩, m_gcd := PySem.W.mg_of X G m_gcd, m_isqrt := PySem.W.mg_of X G m_isqrt, m_lcm := PySem.W.mg_of X G m_lcm }
  refine ⟨PySem.W.fnOf "law" "law" (defArgs s_law) (defBody s_law) (defScope s_law) .none kV27 dc27 pm27 an27 cd27 ct27, fun s v => .of_eq rfl, fun base _ _ => ?_⟩
  have h_q_bag : Has l.prog w K mg base "_law_bag" 1 ["_law_script", "_law_spot"] F_q_bag := has_q_bag T  (fun_mk (st := s_q_bag) l0 c0 k0) (PySem.W.mg_of X G a0)
  have h_is_long_integer : Has l.prog w K mg base "is_long_integer" 1 ["value"] F_is_long_integer := has_is_long_integer T  (fun_mk (st := s_is_long_integer) l1 c1 k1) (PySem.W.mg_of X G a1)
  have h_is_integer : Has l.prog w K mg base "is_integer" 2 ["value"] F_is_integer := has_is_integer T h_is_long_integer (fun_mk (st := s_is_integer) l2 c2 k2) (PySem.W.mg_of X G a2)
  have h_is_between : Has l.prog w K mg base "is_between" 3 ["value", "least", "most"] F_is_between := has_is_between T h_is_integer (fun_mk (st := s_is_between) l3 c3 k3) (PySem.W.mg_of X G a3)
  have h_check_number : Has l.prog w K mg base "check_number" 4 ["given", "least", "most"] F_check_number := has_check_number T h_is_between (fun_mk (st := s_check_number) l4 c4 k4) (PySem.W.mg_of X G a4)
  have h_prime_factors : Has l.prog w K mg base "prime_factors" 5 ["number"] F_prime_factors := has_prime_factors T h_check_number (fun_mk (st := s_prime_factors) l5 c5 k5) (PySem.W.mg_of X G a5)
  have h_moebius : Has l.prog w K mg base "moebius" 6 ["number"] F_moebius := has_moebius T h_check_number h_prime_factors (fun_mk (st := s_moebius) l6 c6 k6) (PySem.W.mg_of X G a6)
  have h_units_of : Has l.prog w K mg base "units_of" 5 ["number"] F_units_of := has_units_of T h_check_number (fun_mk (st := s_units_of) l7 c7 k7) (PySem.W.mg_of X G a7)
  have h_digits_to : Has l.prog w K mg base "digits_to" 1 ["number", "base"] F_digits_to := has_digits_to T  (fun_mk (st := s_digits_to) l8 c8 k8) (PySem.W.mg_of X G a8)
  have h_digits_of : Has l.prog w K mg base "digits_of" 5 ["number", "base"] F_digits_of := has_digits_of T h_check_number h_digits_to (fun_mk (st := s_digits_of) l9 c9 k9) (PySem.W.mg_of X G a9)
  have h_divisor_of_all : Has l.prog w K mg base "divisor_of_all" 1 ["numbers"] F_divisor_of_all := has_divisor_of_all T  (fun_mk (st := s_divisor_of_all) l10 c10 k10) (PySem.W.mg_of X G a10)
  have h_are_integers : Has l.prog w K mg base "are_integers" 3 ["value"] F_are_integers := has_are_integers T h_is_integer (fun_mk (st := s_are_integers) l11 c11 k11) (PySem.W.mg_of X G a11)
  have h_common_divisor : Has l.prog w K mg base "common_divisor" 4 ["numbers"] F_common_divisor := has_common_divisor T h_divisor_of_all h_are_integers (fun_mk (st := s_common_divisor) l12 c12 k12) (PySem.W.mg_of X G a12)
  have h_common_multiple : Has l.prog w K mg base "common_multiple" 4 ["numbers"] F_common_multiple := has_common_multiple T h_are_integers (fun_mk (st := s_common_multiple) l13 c13 k13) (PySem.W.mg_of X G a13)
  have h_q_grab : Has l.prog w K mg base "_law_grab" 1 ["_law_bag_here", "_law_total"] F_q_grab := has_q_grab T  (fun_mk (st := s_q_grab) l14 c14 k14) (PySem.W.mg_of X G a14)
  have h_q_one_of : Has l.prog w K mg base "_law_one_of" 2 ["_law_bag_here", "_law_items"] F_q_one_of := has_q_one_of T h_q_grab (fun_mk (st := s_q_one_of) l15 c15 k15) (PySem.W.mg_of X G a15)
  have h_q_nb_drawn : Has l.prog w K mg base "_law_nb_drawn" 3 ["_law_bag_here", "_law_most"] F_q_nb_drawn := has_q_nb_drawn T h_q_grab h_q_one_of (fun_mk (st := s_q_nb_drawn) l16 c16 k16) (PySem.W.mg_of X G a16)
  have h_q_nb_is_short : Has l.prog w K mg base "_law_nb_is_short" 1 ["_law_value"] F_q_nb_is_short := has_q_nb_is_short T  (fun_mk (st := s_q_nb_is_short) l17 c17 k17) (PySem.W.mg_of X G a17)
  have h_q_nb_factors : Has l.prog w K mg base "_law_nb_factors" 1 ["_law_number"] F_q_nb_factors := has_q_nb_factors T  (fun_mk (st := s_q_nb_factors) l18 c18 k18) (PySem.W.mg_of X G a18)
  have h_q_nb_is_prime : Has l.prog w K mg base "_law_nb_is_prime" 2 ["_law_value"] F_q_nb_is_prime := has_q_nb_is_prime T h_q_nb_is_short h_q_nb_factors (fun_mk (st := s_q_nb_is_prime) l19 c19 k19) (PySem.W.mg_of X G a19)
  have h_is_prime : Has l.prog w K mg base "is_prime" 4 ["value"] F_is_prime := has_is_prime T h_is_between (fun_mk (st := s_is_prime) l20 c20 k20) (PySem.W.mg_of X G a20)
  have h_q_judged_right : Has l.prog w K mg base "_law_judged_right" 5 ["_law_bag_here"] F_q_judged_right := has_q_judged_right T h_q_grab h_q_nb_drawn h_q_nb_is_short h_q_nb_is_prime h_is_integer h_is_prime (fun_mk (st := s_q_judged_right) l21 c21 k21) (PySem.W.mg_of X G a21)
  have h_q_nb_sign : Has l.prog w K mg base "_law_nb_sign" 2 ["_law_number"] F_q_nb_sign := has_q_nb_sign T h_q_nb_factors (fun_mk (st := s_q_nb_sign) l22 c22 k22) (PySem.W.mg_of X G a22)
  have h_q_nb_divisor : Has l.prog w K mg base "_law_nb_divisor" 1 ["_law_numbers"] F_q_nb_divisor := has_q_nb_divisor T  (fun_mk (st := s_q_nb_divisor) l23 c23 k23) (PySem.W.mg_of X G a23)
  have h_q_factors_right : Has l.prog w K mg base "_law_factors_right" 7 ["_law_bag_here"] F_q_factors_right := has_q_factors_right T h_prime_factors h_q_nb_drawn h_units_of h_q_nb_factors h_moebius h_q_nb_sign h_q_nb_divisor (fun_mk (st := s_q_factors_right) l24 c24 k24) (PySem.W.mg_of X G a24)
  have h_q_commons_right : Has l.prog w K mg base "_law_commons_right" 5 ["_law_bag_here"] F_q_commons_right := has_q_commons_right T h_q_one_of h_common_divisor h_q_nb_divisor h_common_multiple h_q_grab (fun_mk (st := s_q_commons_right) l25 c25 k25) (PySem.W.mg_of X G a25)
  have h_q_digits_right : Has l.prog w K mg base "_law_digits_right" 6 ["_law_bag_here"] F_q_digits_right := has_q_digits_right T h_q_grab h_q_one_of h_digits_of (fun_mk (st := s_q_digits_right) l26 c26 k26) (PySem.W.mg_of X G a26)
  exact ok_law T h_q_bag h_prime_factors h_moebius h_units_of h_digits_of h_common_divisor h_common_multiple h_q_judged_right h_q_factors_right h_q_commons_right h_q_digits_right (fun_mk (st := s_law) l27 c27 k27)
end K01

namespace K01
open PySem DF
theorem log2_lt {n k : Nat} (hk : 0 < k) (h : n < 2 ^ k) : n.log2 < k := by
  by_cases h0 : n = 0
  · subst h0; simpa using hk
  · exact (Nat.log2_lt h0).mpr h
/-- not too great -/
def Sm (i : Int) : Prop := i.natAbs < 2 ^ 4000
set_option exponentiation.threshold 5000 in
theorem sm_of {i : Int} (h : i.natAbs ≤ 10 ^ 700) : Sm i := Nat.lt_of_le_of_lt h (by decide)
theorem cm {i j : Int} (hi : Sm i) (hj : Sm j) : cMul i j = true := by
  unfold cMul
  have := log2_lt (by decide) hi
  have := log2_lt (by decide) hj
  exact decide_eq_true (by omega)
theorem cd {i j : Int} (h0 : j ≠ 0) (hj : Sm j) : cDiv i j = true := by
  unfold cDiv
  have := log2_lt (by decide) hj
  rw [Bool.and_eq_true]
  exact ⟨decide_eq_true h0, decide_eq_true (by omega)⟩
theorem abs_eq (i : Int) : (if i < 0 then -i else i) = (i.natAbs : Int) := by
  split <;> omega
theorem fm {a b : Int} (hb : 0 < b) : a.fmod b = a % b := Int.fmod_eq_emod_of_nonneg _ (Int.le_of_lt hb)
theorem fd {a b : Int} (hb : 0 ≤ b) : a.fdiv b = a / b := Int.fdiv_eq_ediv_of_nonneg _ hb
/-! ### the bag -/
structure Bag (n : Nat) (d : D) : Prop where
  ex : ∃ x y z : Int, d = .lst [.int x, .int y, .int z] ∧ 0 ≤ y ∧ y < 2 ^ 61 ∧ 0 ≤ z ∧ z ≤ n
theorem Bag.mono {n m : Nat} {d : D} (h : Bag n d) (hm : n ≤ m) : Bag m d := by
  obtain ⟨x, y, z, e, h1, h2, h3, h4⟩ := h.ex
  exact ⟨x, y, z, e, h1, h2, h3, by omega⟩
theorem e_grab {n : Nat} {d : D} {t : Int} (h : Bag n d) (hn : n ≤ 1000000) (ht : 0 < t) (hs : Sm t) : ∃ (r : Int) (d' : D), 0 ≤ r ∧ r < t ∧ Bag (n + 1) d' ∧ F_q_grab [(true, d), (false, .int t)] = .ret false (.int r) [d'] := by
  obtain ⟨x, y, z, rfl, hy0, hy1, hz0, hz1⟩ := h.ex
  have hmod := modD_ap (i := x) (j := t) (by omega)
  have hdiv := divD_ap (cd (i := x) (show t ≠ 0 by omega) hs)
  by_cases hx : 0 < x
  · refine ⟨x.fmod t, .lst [.int (x.fdiv t), .int y, .int z], by rw [fm ht]; exact Int.emod_nonneg _ (by omega), by rw [fm ht]; exact Int.emod_lt_of_pos _ ht, ⟨_, y, z, rfl, hy0, hy1, hz0, by omega⟩, ?_⟩
    unfold F_q_grab B_q_grab
    simp [eqY_int, neY_int, max2_ap, min2_ap, DF.R.bind_ok, DF.R.bindS_ok, DF.R.bindN_ok, DF.SR.bind_nx, DF.SR.bind_ret, ofO, ths, setV, setF, free, set2, set3, fnRes, startE, startC, outs, argsD, putD, ioIx, isMu, look, DF.muL, ltD_ap, leD_ap, gtD_ap, geD_ap, addD_ap, subD_ap, negD_ap, absD_ap, intD_ap, intD_apB, eq_int, ne_int, ixD, L2.atI, L2.ixN, lenD, gcdD, max2D, min2D, hx, hmod, hdiv]
  · have e1 := mulD_ap (i := 1048637) (j := z + 1) (cm (sm_of (by decide)) (sm_of (by omega)))
    have e2 := modD_ap (i := y + 1048637 * (z + 1)) (j := 2305843009213693951) (by decide)
    have b2 : 0 ≤ (y + 1048637 * (z + 1)).fmod 2305843009213693951 ∧ (y + 1048637 * (z + 1)).fmod 2305843009213693951 < 2305843009213693951 := by
      rw [fm (by decide)]; exact ⟨Int.emod_nonneg _ (by decide), Int.emod_lt_of_pos _ (by decide)⟩
    generalize eo : (y + 1048637 * (z + 1)).fmod 2305843009213693951 = o at e2 b2
    have so : Sm o := sm_of (by omega)
    have e3 := mulD_ap (i := o) (j := o) (cm so so)
    have e4 := modD_ap (i := o * o) (j := 2305843009213693723) (by decide)
    have b4 : 0 ≤ (o * o).fmod 2305843009213693723 ∧ (o * o).fmod 2305843009213693723 < 2305843009213693723 := by
      rw [fm (by decide)]; exact ⟨Int.emod_nonneg _ (by decide), Int.emod_lt_of_pos _ (by decide)⟩
    generalize eq : (o * o).fmod 2305843009213693723 = q at e4 b4
    have sq : Sm q := sm_of (by omega)
    have e5 := mulD_ap (i := q) (j := o) (cm sq so)
    have e6 := mulD_ap (i := 8161) (j := z + 1) (cm (sm_of (by decide)) (sm_of (by omega)))
    generalize ew : q * o + 8161 * (z + 1) = w
    have e7 := modD_ap (i := w) (j := 2305843009213693921) (by decide)
    have b7 : 0 ≤ w.fmod 2305843009213693921 := by rw [fm (by decide)]; exact Int.emod_nonneg _ (by decide)
    generalize eu : w.fmod 2305843009213693921 = u at e7 b7
    have e8 := divD_ap (i := u) (j := 16384) (cd (by decide) (sm_of (by decide)))
    have e9 := modD_ap (i := u.fdiv 16384) (j := t) (by omega)
    refine ⟨(u.fdiv 16384).fmod t, .lst [.int x, .int y, .int (z + 1)], by rw [fm ht]; exact Int.emod_nonneg _ (by omega), by rw [fm ht]; exact Int.emod_lt_of_pos _ ht, ⟨_, y, z + 1, rfl, hy0, hy1, by omega, by omega⟩, ?_⟩
    unfold F_q_grab B_q_grab
    simp [eqY_int, neY_int, max2_ap, min2_ap, DF.R.bind_ok, DF.R.bindS_ok, DF.R.bindN_ok, DF.SR.bind_nx, DF.SR.bind_ret, ofO, ths, setV, setF, free, set2, set3, fnRes, startE, startC, outs, argsD, putD, ioIx, isMu, look, DF.muL, ltD_ap, leD_ap, gtD_ap, geD_ap, addD_ap, subD_ap, negD_ap, absD_ap, intD_ap, intD_apB, eq_int, ne_int, ixD, L2.atI, L2.ixN, lenD, gcdD, max2D, min2D, hx, e1, e2, e3, e4, e5, e6, e7, e8, e9, ew]
theorem p45l : powD (.int 10) (.int 45) = some (.int 1000000000000000000000000000000000000000000000) := powD_ap (by decide +kernel)
theorem p585 : powD (.int 1000000000000000000000000000000000000000000000) (.int 13) = some (.int 1000000000000000000000000000000000000000000000000000000000000000000000000000000000000000000000000000000000000000000000000000000000000000000000000000000000000000000000000000000000000000000000000000000000000000000000000000000000000000000000000000000000000000000000000000000000000000000000000000000000000000000000000000000000000000000000000000000000000000000000000000000000000000000000000000000000000000000000000000000000000000000000000000000000000000000000000000000000000000000000000000000000000000000000000000000000000000000000000000000000000000000000000000000000000000000000000000000000) := powD_ap (by decide +kernel)
theorem p18l : powD (.int 10) (.int 18) = some (.int 1000000000000000000) := powD_ap (by decide +kernel)
theorem bg0 (ns : List Int) (k : Nat) (h : k < ns.length ∨ (ns = [] ∧ k = 0)) : ∃ c : Int, (dSet 2 (dIte (dTst (dBin ltD (oVar 1) (oD (dCal lenD (aCons (oVar 0) (aNil)))))) (dBin ixD (oVar 0) (oVar 1)) (dBin addD (oD (dBin addD (oD (dCal sumD (aCons (oD (dCut none (some 1) (oVar 0))) (aNil)))) (oD (dBin mulD (oD (dC (.int 151))) (oVar 1))))) (oD (dC (.int 89)))))) [some (.val (.fro (ns.map D.int))), some (.val (.int (k : Int))), none, none, none] = .nx [some (.val (.fro (ns.map D.int))), some (.val (.int (k : Int))), some (.val (.int c)), none, none] := by
  rcases h with h | ⟨rfl, rfl⟩
  · refine ⟨ns[k], ?_⟩
    have h' : (k : Int) < (ns.length : Int) := by omega
    simp [eqY_int, neY_int, max2_ap, min2_ap, DF.R.bind_ok, DF.R.bindS_ok, DF.R.bindN_ok, DF.SR.bind_nx, DF.SR.bind_ret, ofO, ths, setV, setF, free, set2, set3, fnRes, startE, startC, outs, argsD, putD, ioIx, isMu, look, DF.muL, ltD_ap, leD_ap, gtD_ap, geD_ap, addD_ap, subD_ap, negD_ap, absD_ap, intD_ap, intD_apB, eq_int, ne_int, ixD, L2.atI, L2.ixN, lenD, gcdD, max2D, min2D, h', h]
  · exact ⟨89, rfl⟩
theorem bg1 (c0 c1 : Option Cell) (c : Int) : ∃ g : Int, (dSet 3 (dBin modD (oD (dCal intD (aCons (oD (dCal absD (aCons (oVar 2) (aNil)))) (aNil)))) (oD (dBin powD (oD (dBin powD (oD (dC (.int 10))) (oD (dC (.int 45))))) (oD (dC (.int 13))))))) [c0, c1, some (.val (.int c)), none, none] = .nx [c0, c1, some (.val (.int c)), some (.val (.int g)), none] := by
  have h := modD_ap (i := (c.natAbs : Int)) (j := 1000000000000000000000000000000000000000000000000000000000000000000000000000000000000000000000000000000000000000000000000000000000000000000000000000000000000000000000000000000000000000000000000000000000000000000000000000000000000000000000000000000000000000000000000000000000000000000000000000000000000000000000000000000000000000000000000000000000000000000000000000000000000000000000000000000000000000000000000000000000000000000000000000000000000000000000000000000000000000000000000000000000000000000000000000000000000000000000000000000000000000000000000000000000000000000000000000000000) (by decide)
  refine ⟨(c.natAbs : Int).fmod 1000000000000000000000000000000000000000000000000000000000000000000000000000000000000000000000000000000000000000000000000000000000000000000000000000000000000000000000000000000000000000000000000000000000000000000000000000000000000000000000000000000000000000000000000000000000000000000000000000000000000000000000000000000000000000000000000000000000000000000000000000000000000000000000000000000000000000000000000000000000000000000000000000000000000000000000000000000000000000000000000000000000000000000000000000000000000000000000000000000000000000000000000000000000000000000000000000000000, ?_⟩
  generalize (c.natAbs : Int).fmod 1000000000000000000000000000000000000000000000000000000000000000000000000000000000000000000000000000000000000000000000000000000000000000000000000000000000000000000000000000000000000000000000000000000000000000000000000000000000000000000000000000000000000000000000000000000000000000000000000000000000000000000000000000000000000000000000000000000000000000000000000000000000000000000000000000000000000000000000000000000000000000000000000000000000000000000000000000000000000000000000000000000000000000000000000000000000000000000000000000000000000000000000000000000000000000000000000000000000 = g at *
  simp [eqY_int, neY_int, max2_ap, min2_ap, DF.R.bind_ok, DF.R.bindS_ok, DF.R.bindN_ok, DF.SR.bind_nx, DF.SR.bind_ret, ofO, ths, setV, setF, free, set2, set3, fnRes, startE, startC, outs, argsD, putD, ioIx, isMu, look, DF.muL, ltD_ap, leD_ap, gtD_ap, geD_ap, addD_ap, subD_ap, negD_ap, absD_ap, intD_ap, intD_apB, eq_int, ne_int, ixD, L2.atI, L2.ixN, lenD, gcdD, max2D, min2D, p45l, p585, h]
theorem bg2 (c0 : Option Cell) (k : Nat) (hk : k ≤ 2) (c g : Int) : ∃ m : Int, (dSet 4 (dBin addD (oD (dBin addD (oD (dBin addD (oD (dBin mulD (oD (dBin modD (oD (dCal intD (aCons (oVar 3) (aNil)))) (oD (dC (.int 2305843009213693723))))) (oD (dC (.int 1000457))))) (oD (dBin mulD (oD (dC (.int 9029))) (oVar 1))))) (oD (dBin mulD (oD (dC (.int 53))) (oD (dCal intD (aCons (oD (dBin ltD (oVar 2) (oD (dC (.int 0))))) (aNil)))))))) (oD (dC (.int 37))))) [c0, some (.val (.int (k : Int))), some (.val (.int c)), some (.val (.int g)), none] = .nx [c0, some (.val (.int (k : Int))), some (.val (.int c)), some (.val (.int g)), some (.val (.int m))] := by
  have h1 := modD_ap (i := g) (j := 2305843009213693723) (by decide)
  have b1 : 0 ≤ g.fmod 2305843009213693723 ∧ g.fmod 2305843009213693723 < 2305843009213693723 := by
    rw [fm (by decide)]; exact ⟨Int.emod_nonneg _ (by decide), Int.emod_lt_of_pos _ (by decide)⟩
  generalize g.fmod 2305843009213693723 = q at *
  have m1 := mulD_ap (i := q) (j := 1000457) (cm (sm_of (by omega)) (sm_of (by decide)))
  have m2 := mulD_ap (i := 9029) (j := (k : Int)) (cm (sm_of (by decide)) (sm_of (by omega)))
  have m3 := mulD_ap (i := 53) (j := 1) (cm (sm_of (by decide)) (sm_of (by decide)))
  have m4 := mulD_ap (i := 53) (j := 0) (cm (sm_of (by decide)) (sm_of (by decide)))
  by_cases hc : c < 0
  · refine ⟨q * 1000457 + 9029 * k + 53 * 1 + 37, ?_⟩
    simp [eqY_int, neY_int, max2_ap, min2_ap, DF.R.bind_ok, DF.R.bindS_ok, DF.R.bindN_ok, DF.SR.bind_nx, DF.SR.bind_ret, ofO, ths, setV, setF, free, set2, set3, fnRes, startE, startC, outs, argsD, putD, ioIx, isMu, look, DF.muL, ltD_ap, leD_ap, gtD_ap, geD_ap, addD_ap, subD_ap, negD_ap, absD_ap, intD_ap, intD_apB, eq_int, ne_int, ixD, L2.atI, L2.ixN, lenD, gcdD, max2D, min2D, h1, m1, m2, m3, hc]
  · refine ⟨q * 1000457 + 9029 * k + 53 * 0 + 37, ?_⟩
    simp [eqY_int, neY_int, max2_ap, min2_ap, DF.R.bind_ok, DF.R.bindS_ok, DF.R.bindN_ok, DF.SR.bind_nx, DF.SR.bind_ret, ofO, ths, setV, setF, free, set2, set3, fnRes, startE, startC, outs, argsD, putD, ioIx, isMu, look, DF.muL, ltD_ap, leD_ap, gtD_ap, geD_ap, addD_ap, subD_ap, negD_ap, absD_ap, intD_ap, intD_apB, eq_int, ne_int, ixD, L2.atI, L2.ixN, lenD, gcdD, max2D, min2D, h1, m1, m2, m4, hc]
theorem bg3 (c0 c1 c2 : Option Cell) (g m : Int) : ∃ x y : Int, 0 ≤ y ∧ y < 2 ^ 61 ∧ (dRetF (dLst (vCons (dCal (orC max2D maxSD) (aCons (oD (dC (.int 0))) (aCons (oD (dBin subD (oVar 3) (oD (dBin powD (oD (dC (.int 10))) (oD (dC (.int 18))))))) (aNil)))) (vCons (dBin modD (oD (dCal intD (aCons (oVar 4) (aNil)))) (oD (dC (.int 2305843009213693951)))) (vCons (dC (.int 0)) (vNil)))))) [c0, c1, c2, some (.val (.int g)), some (.val (.int m))] = .ret [c0, c1, c2, some (.val (.int g)), some (.val (.int m))] true (.lst [.int x, .int y, .int 0]) := by
  have h1 := modD_ap (i := m) (j := 2305843009213693951) (by decide)
  have b1 : 0 ≤ m.fmod 2305843009213693951 ∧ m.fmod 2305843009213693951 < 2305843009213693951 := by
    rw [fm (by decide)]; exact ⟨Int.emod_nonneg _ (by decide), Int.emod_lt_of_pos _ (by decide)⟩
  generalize m.fmod 2305843009213693951 = q at *
  refine ⟨if g - 1000000000000000000 > 0 then g - 1000000000000000000 else 0, q, b1.1, by omega, ?_⟩
  simp [eqY_int, neY_int, max2_ap, min2_ap, DF.R.bind_ok, DF.R.bindS_ok, DF.R.bindN_ok, DF.SR.bind_nx, DF.SR.bind_ret, ofO, ths, setV, setF, free, set2, set3, fnRes, startE, startC, outs, argsD, putD, ioIx, isMu, look, DF.muL, ltD_ap, leD_ap, gtD_ap, geD_ap, addD_ap, subD_ap, negD_ap, absD_ap, intD_ap, intD_apB, eq_int, ne_int, ixD, L2.atI, L2.ixN, lenD, gcdD, max2D, min2D, h1, p18l]
theorem e_bag (ns : List Int) (k : Nat) (h : k < ns.length ∨ (ns = [] ∧ k = 0)) (hk : k ≤ 2) : ∃ d, Bag 0 d ∧ F_q_bag [(false, .fro (ns.map D.int)), (false, .int (k : Int))] = .ret true d [] := by
  obtain ⟨c, s0⟩ := bg0 ns k h
  obtain ⟨g, s1⟩ := bg1 (some (.val (.fro (ns.map D.int)))) (some (.val (.int (k : Int)))) c
  obtain ⟨m, s2⟩ := bg2 (some (.val (.fro (ns.map D.int)))) k hk c g
  obtain ⟨x, y, hy0, hy1, s3⟩ := bg3 (some (.val (.fro (ns.map D.int)))) (some (.val (.int (k : Int)))) (some (.val (.int c))) g m
  refine ⟨.lst [.int x, .int y, .int 0], ⟨x, y, 0, rfl, hy0, hy1, by decide, by decide⟩, ?_⟩
  have hs : startE 5 [(false, .fro (ns.map D.int)), (false, .int (k : Int))] = [some (.val (.fro (ns.map D.int))), some (.val (.int (k : Int))), none, none, none] := rfl
  unfold F_q_bag B_q_bag
  rw [hs, dSeq_ap, s0, SR.bind_nx, dSeq_ap, s1, SR.bind_nx, dSeq_ap, s2, SR.bind_nx, s3]
  rfl
end K01

namespace K01
open PySem DF
abbrev ld (l : List Int) : D := .lst (l.map D.int)
abbrev pd (l : List Int) : D := .tup (l.map D.int)
theorem k_ii : L2.kitB "int" "int" = some true := rfl
theorem k_ib : L2.kitB "int" "bool" = some false := rfl
theorem k_tt : L2.kitB "tuple" "tuple" = some true := rfl
theorem e_long (i : Int) : F_is_long_integer [(false, .int i)] = .ret false (.bl true) [] := by
  unfold F_is_long_integer B_is_long_integer
  simp [eqY_int, neY_int, max2_ap, min2_ap, DF.R.bind_ok, DF.R.bindS_ok, DF.R.bindN_ok, DF.SR.bind_nx, DF.SR.bind_ret, ofO, ths, setV, setF, free, set2, set3, fnRes, startE, startC, outs, argsD, putD, ioIx, isMu, look, DF.muL, ltD_ap, leD_ap, gtD_ap, geD_ap, addD_ap, subD_ap, negD_ap, absD_ap, intD_ap, intD_apB, eq_int, ne_int, ixD, L2.atI, L2.ixN, lenD, gcdD, max2D, min2D, isiD, tyN, k_ii, k_ib]
theorem e_isint (i : Int) : F_is_integer [(false, .int i)] = .ret false (.bl (decide (i.natAbs ≤ 999999999999999999999999999999999999999999999999999999999999))) [] := by
  unfold F_is_integer B_is_integer
  simp [eqY_int, neY_int, max2_ap, min2_ap, DF.R.bind_ok, DF.R.bindS_ok, DF.R.bindN_ok, DF.SR.bind_nx, DF.SR.bind_ret, ofO, ths, setV, setF, free, set2, set3, fnRes, startE, startC, outs, argsD, putD, ioIx, isMu, look, DF.muL, ltD_ap, leD_ap, gtD_ap, geD_ap, addD_ap, subD_ap, negD_ap, absD_ap, intD_ap, intD_apB, eq_int, ne_int, ixD, L2.atI, L2.ixN, lenD, gcdD, max2D, min2D, e_long]
  omega
theorem e_between (i l m : Int) (hi : i.natAbs ≤ 999999999999999999999999999999999999999999999999999999999999) : F_is_between [(false, .int i), (false, .int l), (false, .int m)] = .ret false (.bl (decide (l ≤ i) && decide (i ≤ m))) [] := by
  unfold F_is_between B_is_between
  by_cases h1 : l ≤ i
  · simp [eqY_int, neY_int, max2_ap, min2_ap, DF.R.bind_ok, DF.R.bindS_ok, DF.R.bindN_ok, DF.SR.bind_nx, DF.SR.bind_ret, ofO, ths, setV, setF, free, set2, set3, fnRes, startE, startC, outs, argsD, putD, ioIx, isMu, look, DF.muL, ltD_ap, leD_ap, gtD_ap, geD_ap, addD_ap, subD_ap, negD_ap, absD_ap, intD_ap, intD_apB, eq_int, ne_int, ixD, L2.atI, L2.ixN, lenD, gcdD, max2D, min2D, e_isint, hi, h1]
  · simp [eqY_int, neY_int, max2_ap, min2_ap, DF.R.bind_ok, DF.R.bindS_ok, DF.R.bindN_ok, DF.SR.bind_nx, DF.SR.bind_ret, ofO, ths, setV, setF, free, set2, set3, fnRes, startE, startC, outs, argsD, putD, ioIx, isMu, look, DF.muL, ltD_ap, leD_ap, gtD_ap, geD_ap, addD_ap, subD_ap, negD_ap, absD_ap, intD_ap, intD_apB, eq_int, ne_int, ixD, L2.atI, L2.ixN, lenD, gcdD, max2D, min2D, e_isint, hi, h1]
theorem e_checknum (i l m : Int) (hi : i.natAbs ≤ 999999999999999999999999999999999999999999999999999999999999) (h1 : l ≤ i) (h2 : i ≤ m) : F_check_number [(false, .int i), (false, .int l), (false, .int m)] = .ret false .non [] := by
  unfold F_check_number B_check_number
  simp [eqY_int, neY_int, max2_ap, min2_ap, DF.R.bind_ok, DF.R.bindS_ok, DF.R.bindN_ok, DF.SR.bind_nx, DF.SR.bind_ret, ofO, ths, setV, setF, free, set2, set3, fnRes, startE, startC, outs, argsD, putD, ioIx, isMu, look, DF.muL, ltD_ap, leD_ap, gtD_ap, geD_ap, addD_ap, subD_ap, negD_ap, absD_ap, intD_ap, intD_apB, eq_int, ne_int, ixD, L2.atI, L2.ixN, lenD, gcdD, max2D, min2D, e_between i l m hi, h1, h2]
/-! ### digits -/
def digs (b : Int) : Nat → Int → List Int
  | 0, _ => []
  | k + 1, n => if 0 < n then n.fmod b :: digs b k (n.fdiv b) else []
def dgT : DEnv → DF.R Bool := dTst (dBin gtD (oVar 3) (oD (dC (.int 0))))
def dgB : DEnv → SR := dSeq (dApp 2 (dBin modD (oVar 3) (oVar 1))) (dSet 3 (dBin divD (oVar 3) (oVar 1)))
theorem dgT_ap (c0 c1 c2 : Option Cell) (n : Int) : dgT [c0, c1, c2, some (.val (.int n))] = .ok [c0, c1, c2, some (.val (.int n))] (decide (0 < n)) := by
  unfold dgT
  simp [eqY_int, neY_int, max2_ap, min2_ap, DF.R.bind_ok, DF.R.bindS_ok, DF.R.bindN_ok, DF.SR.bind_nx, DF.SR.bind_ret, ofO, ths, setV, setF, free, set2, set3, fnRes, startE, startC, outs, argsD, putD, ioIx, isMu, look, DF.muL, ltD_ap, leD_ap, gtD_ap, geD_ap, addD_ap, subD_ap, negD_ap, absD_ap, intD_ap, intD_apB, eq_int, ne_int, ixD, L2.atI, L2.ixN, lenD, gcdD, max2D, min2D]
theorem dgB_ap (c0 : Option Cell) (b n : Int) (l : List Int) (hb : 2 ≤ b) (hs : Sm b) (hl : l.length < 16000000) : dgB [c0, some (.val (.int b)), some (.mu false (ld l)), some (.val (.int n))] = .nx [c0, some (.val (.int b)), some (.mu false (ld (l ++ [n.fmod b]))), some (.val (.int (n.fdiv b)))] := by
  have e1 := modD_ap (i := n) (j := b) (by omega)
  have e2 := divD_ap (cd (i := n) (show b ≠ 0 by omega) hs)
  unfold dgB
  simp [eqY_int, neY_int, max2_ap, min2_ap, DF.R.bind_ok, DF.R.bindS_ok, DF.R.bindN_ok, DF.SR.bind_nx, DF.SR.bind_ret, ofO, ths, setV, setF, free, set2, set3, fnRes, startE, startC, outs, argsD, putD, ioIx, isMu, look, DF.muL, ltD_ap, leD_ap, gtD_ap, geD_ap, addD_ap, subD_ap, negD_ap, absD_ap, intD_ap, intD_apB, eq_int, ne_int, ixD, L2.atI, L2.ixN, lenD, gcdD, max2D, min2D, e1, e2, hl]
theorem half {n b : Int} {k : Nat} (h0 : 0 ≤ n) (hb : 2 ≤ b) (h : n < 2 ^ (k + 1)) : 0 ≤ n.fdiv b ∧ n.fdiv b < 2 ^ k := by
  rw [fd (by omega)]
  refine ⟨Int.ediv_nonneg h0 (by omega), Int.ediv_lt_of_lt_mul (by omega) ?_⟩
  have : (2 : Int) ^ k * 2 ≤ 2 ^ k * b := Int.mul_le_mul_of_nonneg_left hb (Int.le_of_lt (Int.pow_pos (by decide)))
  rw [Int.pow_succ] at h
  omega
theorem dg_loop (c0 : Option Cell) (b : Int) (hb : 2 ≤ b) (hs : Sm b) : ∀ (k m : Nat) (n : Int) (l : List Int), 0 ≤ n → n < 2 ^ k → k < m → l.length + k < 1000 →
    dWhile dgT dgB m [c0, some (.val (.int b)), some (.mu false (ld l)), some (.val (.int n))] = .nx [c0, some (.val (.int b)), some (.mu false (ld (l ++ digs b k n))), some (.val (.int 0))]
  | _, 0, _, _, _, _, h, _ => absurd h (Nat.not_lt_zero _)
  | 0, m + 1, n, l, h0, h1, _, _ => by
    have : n = 0 := by rw [Int.pow_zero] at h1; omega
    subst this
    rw [dWhile_succ, dgT_ap, DF.R.bindS_ok]
    simp [digs]
  | k + 1, m + 1, n, l, h0, h1, hm, hl => by
    rw [dWhile_succ, dgT_ap, DF.R.bindS_ok]
    by_cases hn : 0 < n
    · obtain ⟨g1, g2⟩ := half h0 hb h1
      have ih := dg_loop c0 b hb hs k m (n.fdiv b) (l ++ [n.fmod b]) g1 g2 (by omega) (by rw [List.length_append, List.length_singleton]; omega)
      rw [decide_eq_true hn]
      dsimp only
      rw [dgB_ap c0 b n l hb hs (by omega)]
      dsimp only
      rw [ih, digs, if_pos hn, List.append_assoc]
      rfl
    · have : n = 0 := by omega
      subst this
      simp [digs]
theorem e_digto (n b : Int) (h0 : 0 ≤ n) (h1 : n < 2 ^ 199) (hb : 2 ≤ b) (hb2 : b ≤ 1000000) : F_digits_to [(false, .int n), (false, .int b)] = .ret true (ld (digs b 199 n)) [] := by
  have lp := dg_loop (some (.val (.int n))) b hb (sm_of (by omega)) 199 (fuel [(false, .int n), (false, .int b)]) n [] h0 h1 (by simp [fuel]; omega) (by decide)
  unfold F_digits_to
  refine fn_of (P := fun r => r = _) ?_
  unfold B_digits_to
  refine wp_seq (ρ' := [some (.val (.int n)), some (.val (.int b)), some (.mu false (ld [])), none]) rfl ?_
  refine wp_seq (ρ' := [some (.val (.int n)), some (.val (.int b)), some (.mu false (ld [])), some (.val (.int n))]) rfl ?_
  refine wp_seq lp ?_
  rw [List.nil_append]
  exact wp_rt rfl ⟨[], rfl, rfl⟩
theorem e_digits (n b : Int) (h0 : 0 ≤ n) (h1 : n < 2 ^ 199) (hb : 2 ≤ b) (hb2 : b ≤ 1000000) : F_digits_of [(false, .int n), (false, .int b)] = .ret false (pd (digs b 199 n)) [] := by
  have s0 := e_checknum n 0 999999999999999999999999999999999999999999999999999999999999 (by omega) h0 (by omega)
  have s1 := e_checknum b 2 1000000 (by omega) hb hb2
  have s2 := e_digto n b h0 h1 hb hb2
  unfold F_digits_of
  refine fn_of (P := fun r => r = _) ?_
  unfold B_digits_of
  refine wp_seq (ρ' := [some (.val (.int n)), some (.val (.int b))]) (by simp [eqY_int, neY_int, max2_ap, min2_ap, DF.R.bind_ok, DF.R.bindS_ok, DF.R.bindN_ok, DF.SR.bind_nx, DF.SR.bind_ret, ofO, ths, setV, setF, free, set2, set3, fnRes, startE, startC, outs, argsD, putD, ioIx, isMu, look, DF.muL, ltD_ap, leD_ap, gtD_ap, geD_ap, addD_ap, subD_ap, negD_ap, absD_ap, intD_ap, intD_apB, eq_int, ne_int, ixD, L2.atI, L2.ixN, lenD, gcdD, max2D, min2D, s0]) ?_
  refine wp_seq (ρ' := [some (.val (.int n)), some (.val (.int b))]) (by simp [eqY_int, neY_int, max2_ap, min2_ap, DF.R.bind_ok, DF.R.bindS_ok, DF.R.bindN_ok, DF.SR.bind_nx, DF.SR.bind_ret, ofO, ths, setV, setF, free, set2, set3, fnRes, startE, startC, outs, argsD, putD, ioIx, isMu, look, DF.muL, ltD_ap, leD_ap, gtD_ap, geD_ap, addD_ap, subD_ap, negD_ap, absD_ap, intD_ap, intD_apB, eq_int, ne_int, ixD, L2.atI, L2.ixN, lenD, gcdD, max2D, min2D, s1]) ?_
  refine wp_rt (fr := false) (d := pd (digs b 199 n)) (ρ' := [some (.val (.int n)), some (.val (.int b))]) ?_ ⟨[], rfl, rfl⟩
  generalize digs b 199 n = l at *
  simp [eqY_int, neY_int, max2_ap, min2_ap, DF.R.bind_ok, DF.R.bindS_ok, DF.R.bindN_ok, DF.SR.bind_nx, DF.SR.bind_ret, ofO, ths, setV, setF, free, set2, set3, fnRes, startE, startC, outs, argsD, putD, ioIx, isMu, look, DF.muL, ltD_ap, leD_ap, gtD_ap, geD_ap, addD_ap, subD_ap, negD_ap, absD_ap, intD_ap, intD_apB, eq_int, ne_int, ixD, L2.atI, L2.ixN, lenD, gcdD, max2D, min2D, s2, tupD]
end K01

namespace K01
open PySem DF
theorem e_one {n : Nat} {d : D} {l : List D} (h : Bag n d) (hn : n ≤ 1000000) (hl : 0 < l.length) (hl2 : l.length < 1000000) : ∃ (r : Nat) (d' : D) (x : D), l[r]? = some x ∧ Bag (n + 1) d' ∧ F_q_one_of [(true, d), (false, .lst l)] = .ret false x [d'] := by
  obtain ⟨r, d', h0, h1, hb, e⟩ := e_grab (t := l.length) h hn (by omega) (sm_of (by omega))
  obtain ⟨k, rfl⟩ : ∃ k : Nat, r = k := ⟨r.toNat, by omega⟩
  have hk : k < l.length := by omega
  refine ⟨k, d', l[k], List.getElem?_eq_getElem hk, hb, ?_⟩
  unfold F_q_one_of B_q_one_of
  simp [eqY_int, neY_int, max2_ap, min2_ap, DF.R.bind_ok, DF.R.bindS_ok, DF.R.bindN_ok, DF.SR.bind_nx, DF.SR.bind_ret, ofO, ths, setV, setF, free, set2, set3, fnRes, startE, startC, outs, argsD, putD, ioIx, isMu, look, DF.muL, ltD_ap, leD_ap, gtD_ap, geD_ap, addD_ap, subD_ap, negD_ap, absD_ap, intD_ap, intD_apB, eq_int, ne_int, ixD, L2.atI, L2.ixN, lenD, gcdD, max2D, min2D, e, hk]
theorem e_one_int {n : Nat} {d : D} {l : List Int} (h : Bag n d) (hn : n ≤ 1000000) (hl : 0 < l.length) (hl2 : l.length < 1000000) : ∃ x ∈ l, ∃ d', Bag (n + 1) d' ∧ F_q_one_of [(true, d), (false, ld l)] = .ret false (.int x) [d'] := by
  obtain ⟨r, d', x, h1, h2, h3⟩ := e_one (l := l.map D.int) h hn (by rw [List.length_map]; exact hl) (by rw [List.length_map]; exact hl2)
  rw [List.getElem?_map] at h1
  obtain ⟨y, hy, rfl⟩ := Option.map_eq_some_iff.mp h1
  exact ⟨y, List.mem_of_getElem? hy, d', h2, h3⟩
theorem plain_ints : ∀ (n : Nat) (l : List Int), plainDs n (l.map D.int) = true
  | _, [] => rfl
  | n, i :: l => by
    show (plainD n (.int i) && plainDs n (l.map D.int)) = true
    rw [plain_ints n l]
    cases n <;> rfl
theorem plain_pd (l : List Int) : plainD 9 (pd l) = true := plain_ints 8 l
theorem plain_ld (l : List Int) : plainD 9 (ld l) = true := plain_ints 8 l
theorem eqY_pd (l : List Int) : eqY (pd l) (pd l) = some (.bl true) := eq1Y (eq_same (plain_pd l))
theorem neY_pd (l : List Int) : neY (pd l) (pd l) = some (.bl false) := ne1Y (ne_same (plain_pd l))
/-! ### q_digits_right -/
def dhT : DEnv → DF.R Bool := dTst (dBin gtD (oVar 4) (oD (dC (.int 0))))
def dhB : DEnv → SR := dSeq (dApp 3 (dBin modD (oD (dCal intD (aCons (oVar 4) (aNil)))) (oVar 2))) (dSet 4 (dBin divD (oVar 4) (oVar 2)))
theorem dhT_ap (c0 c1 c2 c3 : Option Cell) (n : Int) : dhT [c0, c1, c2, c3, some (.val (.int n))] = .ok [c0, c1, c2, c3, some (.val (.int n))] (decide (0 < n)) := by
  unfold dhT
  simp [eqY_int, neY_int, max2_ap, min2_ap, DF.R.bind_ok, DF.R.bindS_ok, DF.R.bindN_ok, DF.SR.bind_nx, DF.SR.bind_ret, ofO, ths, setV, setF, free, set2, set3, fnRes, startE, startC, outs, argsD, putD, ioIx, isMu, look, DF.muL, ltD_ap, leD_ap, gtD_ap, geD_ap, addD_ap, subD_ap, negD_ap, absD_ap, intD_ap, intD_apB, eq_int, ne_int, ixD, L2.atI, L2.ixN, lenD, gcdD, max2D, min2D]
theorem dhB_ap (c0 c1 : Option Cell) (b n : Int) (l : List Int) (hb : 2 ≤ b) (hs : Sm b) (hl : l.length < 16000000) : dhB [c0, c1, some (.val (.int b)), some (.mu false (ld l)), some (.val (.int n))] = .nx [c0, c1, some (.val (.int b)), some (.mu false (ld (l ++ [n.fmod b]))), some (.val (.int (n.fdiv b)))] := by
  have e1 := modD_ap (i := n) (j := b) (by omega)
  have e2 := divD_ap (cd (i := n) (show b ≠ 0 by omega) hs)
  unfold dhB
  simp [eqY_int, neY_int, max2_ap, min2_ap, DF.R.bind_ok, DF.R.bindS_ok, DF.R.bindN_ok, DF.SR.bind_nx, DF.SR.bind_ret, ofO, ths, setV, setF, free, set2, set3, fnRes, startE, startC, outs, argsD, putD, ioIx, isMu, look, DF.muL, ltD_ap, leD_ap, gtD_ap, geD_ap, addD_ap, subD_ap, negD_ap, absD_ap, intD_ap, intD_apB, eq_int, ne_int, ixD, L2.atI, L2.ixN, lenD, gcdD, max2D, min2D, e1, e2, hl]
theorem dh_loop (c0 c1 : Option Cell) (b : Int) (hb : 2 ≤ b) (hs : Sm b) : ∀ (k m : Nat) (n : Int) (l : List Int), 0 ≤ n → n < 2 ^ k → k < m → l.length + k < 1000 →
    dWhile dhT dhB m [c0, c1, some (.val (.int b)), some (.mu false (ld l)), some (.val (.int n))] = .nx [c0, c1, some (.val (.int b)), some (.mu false (ld (l ++ digs b k n))), some (.val (.int 0))]
  | _, 0, _, _, _, _, h, _ => absurd h (Nat.not_lt_zero _)
  | 0, m + 1, n, l, h0, h1, _, _ => by
    have : n = 0 := by rw [Int.pow_zero] at h1; omega
    subst this
    rw [dWhile_succ, dhT_ap, DF.R.bindS_ok]
    simp [digs]
  | k + 1, m + 1, n, l, h0, h1, hm, hl => by
    rw [dWhile_succ, dhT_ap, DF.R.bindS_ok]
    by_cases hn : 0 < n
    · obtain ⟨g1, g2⟩ := half h0 hb h1
      have ih := dh_loop c0 c1 b hb hs k m (n.fdiv b) (l ++ [n.fmod b]) g1 g2 (by omega) (by rw [List.length_append, List.length_singleton]; omega)
      rw [decide_eq_true hn]
      dsimp only
      rw [dhB_ap c0 c1 b n l hb hs (by omega)]
      dsimp only
      rw [ih, digs, if_pos hn, List.append_assoc]
      rfl
    · have : n = 0 := by omega
      subst this
      simp [digs]
theorem p12 : powD (.int 10) (.int 12) = some (.int 1000000000000) := powD_ap (by decide +kernel)
theorem p59 : powD (.int 10) (.int 59) = some (.int 100000000000000000000000000000000000000000000000000000000000) := powD_ap (by decide +kernel)
theorem qd0 {n : Nat} {d : D} (h : Bag n d) (hn : n ≤ 999990) : ∃ (a b : Int) (d' : D), 0 ≤ a ∧ a < 100000000000000000000000000000000000000000000000000000000000 ∧ 2 ≤ b ∧ b ≤ 1000000 ∧ Bag (n + 4) d' ∧
    (dPar 1 2 (vCons (dV (dCal2 2 F_q_grab (rIo 0 (rVal (dV (dCal2 2 F_q_one_of (rIo 0 (rVal (dLst (vCons (dC (.int 3)) (vCons (dC (.int 100)) (vCons (dBin powD (oD (dC (.int 10))) (oD (dC (.int 12)))) (vCons (dBin powD (oD (dC (.int 10))) (oD (dC (.int 59)))) (vNil)))))) (rNil))))) (rNil))))) (vCons (dBin addD (oD (dC (.int 2))) (oD (dV (dCal2 2 F_q_grab (rIo 0 (rVal (dV (dCal2 2 F_q_one_of (rIo 0 (rVal (dLst (vCons (dC (.int 9)) (vCons (dC (.int 99)) (vCons (dC (.int 999999)) (vNil))))) (rNil))))) (rNil))))))) (vNil)))) [some (.mu true d), none, none, none, none] = .nx [some (.mu true d'), some (.val (.int a)), some (.val (.int b)), none, none] := by
  obtain ⟨m1, hm1, d1, b1, e1⟩ := e_one_int (l := [3, 100, 1000000000000, 100000000000000000000000000000000000000000000000000000000000]) h (by omega) (by decide) (by decide)
  have r1 : 0 < m1 ∧ m1 ≤ 100000000000000000000000000000000000000000000000000000000000 := by simp at hm1; omega
  obtain ⟨a, d2, a0, a1, b2, e2⟩ := e_grab (t := m1) b1 (by omega) r1.1 (sm_of (by omega))
  obtain ⟨m2, hm2, d3, b3, e3⟩ := e_one_int (l := [9, 99, 999999]) b2 (by omega) (by decide) (by decide)
  have r2 : 0 < m2 ∧ m2 ≤ 999999 := by simp at hm2; omega
  obtain ⟨g, d4, g0, g1, b4, e4⟩ := e_grab (t := m2) b3 (by omega) r2.1 (sm_of (by omega))
  refine ⟨a, 2 + g, d4, a0, by omega, by omega, by omega, b4, ?_⟩
  have e1 : F_q_one_of [(true, d), (false, .lst [.int 3, .int 100, .int 1000000000000, .int 100000000000000000000000000000000000000000000000000000000000])] = .ret false (.int m1) [d1] := e1
  have e3 : F_q_one_of [(true, d2), (false, .lst [.int 9, .int 99, .int 999999])] = .ret false (.int m2) [d3] := e3
  simp [eqY_int, neY_int, max2_ap, min2_ap, DF.R.bind_ok, DF.R.bindS_ok, DF.R.bindN_ok, DF.SR.bind_nx, DF.SR.bind_ret, ofO, ths, setV, setF, free, set2, set3, fnRes, startE, startC, outs, argsD, putD, ioIx, isMu, look, DF.muL, ltD_ap, leD_ap, gtD_ap, geD_ap, addD_ap, subD_ap, negD_ap, absD_ap, intD_ap, intD_apB, eq_int, ne_int, ixD, L2.atI, L2.ixN, lenD, gcdD, max2D, min2D, p12, p59, e1, e2, e3, e4]
end K01

namespace K01
open PySem DF
theorem qd3 (a b : Int) (d : D) (h0 : 0 ≤ a) (h1 : a < 100000000000000000000000000000000000000000000000000000000000) (hb : 2 ≤ b) (hb2 : b ≤ 1000000) :
    (dRet (dAndV (dBin eqY (oD (dV (dCal2 2 F_digits_of (rVal (dVar 1) (rVal (dVar 2) (rNil)))))) (oD (dCal tupD (aCons (oVar 3) (aNil))))) (dBin eqY (oD (dV (dCal2 2 F_digits_of (rVal (dC (.int 0)) (rVal (dVar 2) (rNil)))))) (oD (dTup (vNil)))))) [some (.mu true d), some (.val (.int a)), some (.val (.int b)), some (.mu false (ld (digs b 199 a))), some (.val (.int 0))] =
      .ret [some (.mu true d), some (.val (.int a)), some (.val (.int b)), some (.mu false (ld (digs b 199 a))), some (.val (.int 0))] false (.bl true) := by
  have e1 := e_digits a b h0 (by omega) hb hb2
  have e2 : F_digits_of [(false, .int 0), (false, .int b)] = .ret false (.tup []) [] := by
    rw [e_digits 0 b (by omega) (by decide) hb hb2]
    rfl
  have q1 : eqY (.tup ((digs b 199 a).map D.int)) (.tup ((digs b 199 a).map D.int)) = some (.bl true) := eqY_pd _
  have q2 : eqY (.tup []) (.tup []) = some (.bl true) := eqY_pd []
  generalize digs b 199 a = l at *
  simp [eqY_int, neY_int, max2_ap, min2_ap, DF.R.bind_ok, DF.R.bindS_ok, DF.R.bindN_ok, DF.SR.bind_nx, DF.SR.bind_ret, ofO, ths, setV, setF, free, set2, set3, fnRes, startE, startC, outs, argsD, putD, ioIx, isMu, look, DF.muL, ltD_ap, leD_ap, gtD_ap, geD_ap, addD_ap, subD_ap, negD_ap, absD_ap, intD_ap, intD_apB, eq_int, ne_int, ixD, L2.atI, L2.ixN, lenD, gcdD, max2D, min2D, e1, e2, q1, q2, tupD]
theorem e_digits_right {n : Nat} {d : D} (h : Bag n d) (hn : n ≤ 999990) : ∃ d', Bag (n + 4) d' ∧ F_q_digits_right [(true, d)] = .ret false (.bl true) [d'] := by
  obtain ⟨a, b, d', a0, a1, b0, b1, hB, s0⟩ := qd0 h hn
  refine ⟨d', hB, ?_⟩
  have hs : startE 5 [(true, d)] = [some (.mu true d), none, none, none, none] := rfl
  have s1 : (dParX [3, 4] (xFr (dLst (vNil)) (xVal (dVar 1) (xNil)))) [some (.mu true d'), some (.val (.int a)), some (.val (.int b)), none, none] = .nx [some (.mu true d'), some (.val (.int a)), some (.val (.int b)), some (.mu false (ld [])), some (.val (.int a))] := by
    simp [eqY_int, neY_int, max2_ap, min2_ap, DF.R.bind_ok, DF.R.bindS_ok, DF.R.bindN_ok, DF.SR.bind_nx, DF.SR.bind_ret, ofO, ths, setV, setF, free, set2, set3, fnRes, startE, startC, outs, argsD, putD, ioIx, isMu, look, DF.muL, ltD_ap, leD_ap, gtD_ap, geD_ap, addD_ap, subD_ap, negD_ap, absD_ap, intD_ap, intD_apB, eq_int, ne_int, ixD, L2.atI, L2.ixN, lenD, gcdD, max2D, min2D]
    rfl
  have lp := dh_loop (some (.mu true d')) (some (.val (.int a))) b b0 (sm_of (by omega)) 199 (fuel [(true, d)]) a [] a0 (by omega) (by simp [fuel]; omega) (by decide)
  have s3 := qd3 a b d' a0 a1 b0 b1
  unfold F_q_digits_right B_q_digits_right
  rw [show (dTst (dBin gtD (oVar 4) (oD (dC (.int 0))))) = dhT from rfl, show (dSeq (dApp 3 (dBin modD (oD (dCal intD (aCons (oVar 4) (aNil)))) (oVar 2))) (dSet 4 (dBin divD (oVar 4) (oVar 2)))) = dhB from rfl]
  rw [hs, dSeq_ap, s0, SR.bind_nx, dSeq_ap, s1, SR.bind_nx, dSeq_ap, lp, SR.bind_nx, List.nil_append, s3]
  rfl
end K01

namespace K01
open PySem DF
/-- a name that is not yet bound, or bound to a value -/
def Vc (c : Option Cell) : Prop := c = none ∨ ∃ d, c = some (.val d)
/-! ### Euclid -/
def evB : DEnv → SR := dPar 1 3 (vCons (dVar 3) (vCons (dBin modD (oVar 1) (oVar 3)) (vNil)))
theorem evB_ap {c0 c2 : Option Cell} {a b : Int} (hb : b ≠ 0) : evB [c0, some (.val (.int a)), c2, some (.val (.int b))] = .nx [c0, some (.val (.int b)), c2, some (.val (.int (a.fmod b)))] := by
  simp [evB, eqY_int, neY_int, max2_ap, min2_ap, DF.R.bind_ok, DF.R.bindS_ok, DF.R.bindN_ok, DF.SR.bind_nx, DF.SR.bind_ret, ofO, ths, setV, setF, free, set2, set3, fnRes, startE, startC, outs, argsD, putD, ioIx, isMu, look, DF.muL, ltD_ap, leD_ap, gtD_ap, geD_ap, addD_ap, subD_ap, negD_ap, absD_ap, intD_ap, intD_apB, eq_int, ne_int, ixD, L2.atI, L2.ixN, lenD, gcdD, max2D, min2D, modD_ap hb]
theorem ev_loop {c0 c2 : Option Cell} : ∀ (n a b : Nat), b < n → dWhile dgT evB n [c0, some (.val (.int (a : Int))), c2, some (.val (.int (b : Int)))] = .nx [c0, some (.val (.int (Nat.gcd a b : Nat))), c2, some (.val (.int 0))]
  | 0, a, b, h => absurd h (Nat.not_lt_zero _)
  | n + 1, a, 0, h => by
    rw [dWhile_succ, dgT_ap]
    simp [R.bindS_ok]
  | n + 1, a, b + 1, h => by
    have hlt : a % (b + 1) < n := Nat.lt_of_lt_of_le (Nat.mod_lt _ (Nat.succ_pos _)) (Nat.le_of_lt_succ h)
    have ih := ev_loop (c0 := c0) (c2 := c2) n (b + 1) (a % (b + 1)) hlt
    have e1 : ((a : Int)).fmod ((b + 1 : Nat) : Int) = ((a % (b + 1) : Nat) : Int) := by rw [fm (by omega)]; omega
    have e2 : Nat.gcd a (b + 1) = Nat.gcd (b + 1) (a % (b + 1)) := by rw [Nat.gcd_comm, Nat.gcd_rec, Nat.gcd_comm]
    have hp : (0 : Int) < ((b + 1 : Nat) : Int) := by omega
    rw [e2, ← ih, ← e1, dWhile_succ, dgT_ap, R.bindS_ok, decide_eq_true hp]
    dsimp only
    rw [evB_ap (by omega)]
def nbB (n : Nat) : DEnv → SR := dSeq (dSet 3 (dCal absD (aCons (oVar 2) (aNil)))) (dWhile dgT evB n)
theorem nbB_ap {c0 c3 : Option Cell} {n f : Nat} {x : Int} (h3 : Vc c3) (h : x.natAbs < n) : nbB n [c0, some (.val (.int (f : Int))), some (.val (.int x)), c3] = .nx [c0, some (.val (.int (Nat.gcd f x.natAbs : Nat))), some (.val (.int x)), some (.val (.int 0))] := by
  have e := ev_loop (c0 := c0) (c2 := some (.val (.int x))) n f x.natAbs h
  have e1 : dSet 3 (dCal absD (aCons (oVar 2) (aNil))) [c0, some (.val (.int (f : Int))), some (.val (.int x)), c3] = .nx [c0, some (.val (.int (f : Int))), some (.val (.int x)), some (.val (.int (x.natAbs : Int)))] := by
    have ha := abs_eq x
    rcases h3 with rfl | ⟨d3, rfl⟩ <;> simp [eqY_int, neY_int, max2_ap, min2_ap, DF.R.bind_ok, DF.R.bindS_ok, DF.R.bindN_ok, DF.SR.bind_nx, DF.SR.bind_ret, ofO, ths, setV, setF, free, set2, set3, fnRes, startE, startC, outs, argsD, putD, ioIx, isMu, look, DF.muL, ltD_ap, leD_ap, gtD_ap, geD_ap, addD_ap, subD_ap, negD_ap, absD_ap, intD_ap, intD_apB, eq_int, ne_int, ixD, L2.atI, L2.ixN, lenD, gcdD, max2D, min2D, ha]
  unfold nbB
  rw [dSeq_ap, e1, SR.bind_nx, e]
def gcdL (f : Nat) (l : List Int) : Nat := l.foldl (fun a x => Nat.gcd a x.natAbs) f
theorem nb_loop {c0 : Option Cell} {n : Nat} : ∀ (l : List Int) (f : Nat) (c2 c3 : Option Cell), Vc c2 → Vc c3 → (∀ x ∈ l, x.natAbs < n) →
    ∃ e2 e3 : Option Cell, Vc e2 ∧ Vc e3 ∧ dFor (setV 2) (nbB n) (l.map D.int) [c0, some (.val (.int (f : Int))), c2, c3] = .nx [c0, some (.val (.int (gcdL f l : Nat))), e2, e3]
  | [], f, c2, c3, h2, h3, _ => ⟨c2, c3, h2, h3, rfl⟩
  | x :: l, f, c2, c3, h2, h3, h => by
    have e := nbB_ap (c0 := c0) (c3 := c3) (f := f) h3 (h x List.mem_cons_self)
    obtain ⟨e2, e3, k2, k3, ih⟩ := nb_loop (c0 := c0) l (Nat.gcd f x.natAbs) (some (.val (.int x))) (some (.val (.int 0))) (.inr ⟨_, rfl⟩) (.inr ⟨_, rfl⟩) fun y hy => h y (List.mem_cons_of_mem _ hy)
    refine ⟨e2, e3, k2, k3, ?_⟩
    rw [List.map_cons]
    unfold dFor
    have hs : setV 2 (.int x) [c0, some (.val (.int (f : Int))), c2, c3] = some [c0, some (.val (.int (f : Int))), some (.val (.int x)), c3] := by
      rcases h2 with rfl | ⟨d, rfl⟩ <;> rfl
    rw [hs]
    dsimp only
    rw [e]
    exact ih
theorem nb_eq (n : Nat) : B_q_nb_divisor n = dSeq (dSet 1 (dC (.int 0))) (dSeq (dForS (sTup (dVar 0)) (setV 2) (nbB n)) (dRetV 1)) := rfl
theorem fuel_ge {l : List Int} : ∀ x ∈ l, x.natAbs < fuel [(false, pd l)] := by
  have go : ∀ (l : List Int), ∀ x ∈ l, x.natAbs ≤ intsOf.go (l.map D.int) := by
    intro l
    induction l with
    | nil => intro x hx; cases hx
    | cons y l ih =>
      intro x hx
      have e : intsOf.go ((y :: l).map D.int) = y.natAbs + intsOf.go (l.map D.int) := by
        rw [List.map_cons]; simp [intsOf.go, intsOf]
      rw [e]
      rcases List.mem_cons.mp hx with rfl | m
      · omega
      · have := ih x m; omega
  intro x hx
  have := go l x hx
  have e : fuel [(false, pd l)] = 1000 + intsOf (.tup (l.map D.int)) := rfl
  have e2 : intsOf (.tup (l.map D.int)) = intsOf.go (l.map D.int) := by rw [intsOf]
  rw [e, e2]
  omega
theorem e_nbdiv (l : List Int) : F_q_nb_divisor [(false, pd l)] = .ret false (.int (gcdL 0 l : Nat)) [] := by
  have hfu := fuel_ge (l := l)
  unfold F_q_nb_divisor
  rw [nb_eq]
  generalize fuel [(false, pd l)] = n at *
  obtain ⟨e2, e3, k2, k3, lp⟩ := nb_loop (c0 := some (.val (pd l))) l 0 none none (.inl rfl) (.inl rfl) hfu
  have s0 : dSet 1 (dC (.int 0)) [some (.val (pd l)), none, none, none] = .nx [some (.val (pd l)), some (.val (.int ((0 : Nat) : Int))), none, none] := by
    simp [eqY_int, neY_int, max2_ap, min2_ap, DF.R.bind_ok, DF.R.bindS_ok, DF.R.bindN_ok, DF.SR.bind_nx, DF.SR.bind_ret, ofO, ths, setV, setF, free, set2, set3, fnRes, startE, startC, outs, argsD, putD, ioIx, isMu, look, DF.muL, ltD_ap, leD_ap, gtD_ap, geD_ap, addD_ap, subD_ap, negD_ap, absD_ap, intD_ap, intD_apB, eq_int, ne_int, ixD, L2.atI, L2.ixN, lenD, gcdD, max2D, min2D]
  rw [show startE 4 [(false, pd l)] = [some (.val (pd l)), none, none, none] from rfl, dSeq_ap, s0, SR.bind_nx, dSeq_ap, dForS_ap]
  simp only [sTup_ap, dVar_ap, List.getElem?_cons_zero, List.getElem?_cons_succ, DF.R.bind_ok, DF.R.bindS_ok]
  rw [lp, SR.bind_nx]
  rfl
end K01

namespace K01
open PySem DF
/-! ### the greatest common divisor of the program -/
def doB : DEnv → SR := dSet 1 (dCal gcdD (aCons (oVar 1) (aCons (oVar 2) (aNil))))
theorem do_loop {c0 : Option Cell} : ∀ (l : List Int) (f : Nat) (c2 : Option Cell), Vc c2 →
    ∃ e2 : Option Cell, Vc e2 ∧ dFor (setV 2) doB (l.map D.int) [c0, some (.val (.int (f : Int))), c2] = .nx [c0, some (.val (.int (gcdL f l : Nat))), e2]
  | [], f, c2, h2 => ⟨c2, h2, rfl⟩
  | x :: l, f, c2, h2 => by
    obtain ⟨e2, k2, ih⟩ := do_loop (c0 := c0) l (Nat.gcd f x.natAbs) (some (.val (.int x))) (.inr ⟨_, rfl⟩)
    refine ⟨e2, k2, ?_⟩
    rw [List.map_cons]
    unfold dFor
    have hs : setV 2 (.int x) [c0, some (.val (.int (f : Int))), c2] = some [c0, some (.val (.int (f : Int))), some (.val (.int x))] := by
      rcases h2 with rfl | ⟨d, rfl⟩ <;> rfl
    have e : doB [c0, some (.val (.int (f : Int))), some (.val (.int x))] = .nx [c0, some (.val (.int (Nat.gcd f x.natAbs : Nat))), some (.val (.int x))] := by
      simp [doB, eqY_int, neY_int, max2_ap, min2_ap, DF.R.bind_ok, DF.R.bindS_ok, DF.R.bindN_ok, DF.SR.bind_nx, DF.SR.bind_ret, ofO, ths, setV, setF, free, set2, set3, fnRes, startE, startC, outs, argsD, putD, ioIx, isMu, look, DF.muL, ltD_ap, leD_ap, gtD_ap, geD_ap, addD_ap, subD_ap, negD_ap, absD_ap, intD_ap, intD_apB, eq_int, ne_int, ixD, L2.atI, L2.ixN, lenD, gcdD, max2D, min2D]
    rw [hs]
    dsimp only
    rw [e]
    exact ih
theorem do_eq (n : Nat) : B_divisor_of_all n = dSeq (dSet 1 (dC (.int 0))) (dSeq (dForS (sTup (dVar 0)) (setV 2) doB) (dRetV 1)) := rfl
theorem e_doa (l : List Int) : F_divisor_of_all [(false, pd l)] = .ret false (.int (gcdL 0 l : Nat)) [] := by
  unfold F_divisor_of_all
  rw [do_eq]
  obtain ⟨e2, k2, lp⟩ := do_loop (c0 := some (.val (pd l))) l 0 none (.inl rfl)
  have s0 : dSet 1 (dC (.int 0)) [some (.val (pd l)), none, none] = .nx [some (.val (pd l)), some (.val (.int ((0 : Nat) : Int))), none] := by
    simp [eqY_int, neY_int, max2_ap, min2_ap, DF.R.bind_ok, DF.R.bindS_ok, DF.R.bindN_ok, DF.SR.bind_nx, DF.SR.bind_ret, ofO, ths, setV, setF, free, set2, set3, fnRes, startE, startC, outs, argsD, putD, ioIx, isMu, look, DF.muL, ltD_ap, leD_ap, gtD_ap, geD_ap, addD_ap, subD_ap, negD_ap, absD_ap, intD_ap, intD_apB, eq_int, ne_int, ixD, L2.atI, L2.ixN, lenD, gcdD, max2D, min2D]
  rw [show startE 3 [(false, pd l)] = [some (.val (pd l)), none, none] from rfl, dSeq_ap, s0, SR.bind_nx, dSeq_ap, dForS_ap]
  simp only [sTup_ap, dVar_ap, List.getElem?_cons_zero, List.getElem?_cons_succ, DF.R.bind_ok, DF.R.bindS_ok]
  rw [lp, SR.bind_nx]
  rfl
/-! ### tuples of integers -/
def aiE : DEnv → DF.R D := dV (dCal2 1 F_is_integer (rVal (dVar 1) (rNil)))
theorem ai_loop (c0 : Option Cell) : ∀ (l : List Int) (acc : List D), (∀ x ∈ l, x.natAbs ≤ 999999999999999999999999999999999999999999999999999999999999) → acc.length + l.length ≤ 1000 → dLcGo (setV 1) tYesB aiE [1] (l.map D.int) acc [c0, none] = .ok [c0, none] (.lst (acc ++ (l.map fun _ => D.bl true)))
  | [], acc, _, _ => by simp [dLcGo]
  | x :: r, acc, h, hl => by
    rw [List.length_cons] at hl
    have ih := ai_loop c0 r (acc ++ [.bl true]) (fun y hy => h y (List.mem_cons_of_mem _ hy)) (by rw [List.length_append, List.length_singleton]; omega)
    have e : aiE [c0, some (.val (.int x))] = .ok [c0, some (.val (.int x))] (.bl true) := by
      have := e_isint x
      rw [decide_eq_true (h x List.mem_cons_self)] at this
      simp [aiE, eqY_int, neY_int, max2_ap, min2_ap, DF.R.bind_ok, DF.R.bindS_ok, DF.R.bindN_ok, DF.SR.bind_nx, DF.SR.bind_ret, ofO, ths, setV, setF, free, set2, set3, fnRes, startE, startC, outs, argsD, putD, ioIx, isMu, look, DF.muL, ltD_ap, leD_ap, gtD_ap, geD_ap, addD_ap, subD_ap, negD_ap, absD_ap, intD_ap, intD_apB, eq_int, ne_int, ixD, L2.atI, L2.ixN, lenD, gcdD, max2D, min2D, this]
    have hl' : acc.length < 16000000 := by omega
    rw [List.map_cons, List.map_cons]
    unfold dLcGo
    simp [setV, free, tYesB, R.bindN_ok, e, noMu, wipeE, hl']
    rw [List.append_assoc] at ih
    simpa using ih
theorem bls_true (l : List Int) : bls (l.map fun _ => D.bl true) = some (l.map fun _ => true) := by
  have := bls_map (l.map fun _ => true)
  rw [List.map_map] at this
  exact this
structure Tu (l : List Int) : Prop where
  pos : 1 ≤ l.length
  len : l.length ≤ 100
  sm : ∀ x ∈ l, x.natAbs ≤ 999999999999999999999999999999999999999999999999999999999999
theorem e_areint {l : List Int} (h : Tu l) : F_are_integers [(false, pd l)] = .ret false (.bl true) [] := by
  have hpos := h.pos
  have hlen := h.len
  have e := ai_loop (some (.val (pd l))) l [] h.sm (by simp; omega)
  rw [List.nil_append] at e
  have ha : allD [.lst (l.map fun _ => D.bl true)] = some (.bl true) := by
    unfold allD
    dsimp only
    rw [show DF.listOf (.lst (l.map fun _ => D.bl true)) = some (l.map fun _ => D.bl true) from rfl]
    dsimp only
    rw [bls_true]
    simp
  have hs : startE 2 [(false, pd l)] = [some (.val (pd l)), none] := rfl
  have h1 : (1 : Int) ≤ (l.length : Int) := by omega
  have h2 : (l.length : Int) ≤ 100 := by omega
  have s0 : (dIf (dOr (dNot (dTst (dIsi "tuple" (oVar 0)))) (dNot (dTst (dChain leD leD (oD (dC (.int 1))) (oD (dCal lenD (aCons (oVar 0) (aNil)))) (oD (dC (.int 100))))))) (dRet (dC (.bl false))) (SR.nx)) [some (.val (pd l)), none] = .nx [some (.val (pd l)), none] := by
    simp [eqY_int, neY_int, max2_ap, min2_ap, DF.R.bind_ok, DF.R.bindS_ok, DF.R.bindN_ok, DF.SR.bind_nx, DF.SR.bind_ret, ofO, ths, setV, setF, free, set2, set3, fnRes, startE, startC, outs, argsD, putD, ioIx, isMu, look, DF.muL, ltD_ap, leD_ap, gtD_ap, geD_ap, addD_ap, subD_ap, negD_ap, absD_ap, intD_ap, intD_apB, eq_int, ne_int, ixD, L2.atI, L2.ixN, lenD, gcdD, max2D, min2D, isiD, tyN, k_tt, h1, h2]
  have s1 : (dRet (dCal allD (aCons (oD (dLc (sTup (dVar 0)) (setV 1) (tYesB) (dV (dCal2 1 F_is_integer (rVal (dVar 1) (rNil)))) [1])) (aNil)))) [some (.val (pd l)), none] = .ret [some (.val (pd l)), none] false (.bl true) := by
    rw [show (dV (dCal2 1 F_is_integer (rVal (dVar 1) (rNil)))) = aiE from rfl]
    simp [eqY_int, neY_int, max2_ap, min2_ap, DF.R.bind_ok, DF.R.bindS_ok, DF.R.bindN_ok, DF.SR.bind_nx, DF.SR.bind_ret, ofO, ths, setV, setF, free, set2, set3, fnRes, startE, startC, outs, argsD, putD, ioIx, isMu, look, DF.muL, ltD_ap, leD_ap, gtD_ap, geD_ap, addD_ap, subD_ap, negD_ap, absD_ap, intD_ap, intD_apB, eq_int, ne_int, ixD, L2.atI, L2.ixN, lenD, gcdD, max2D, min2D, noMu, wipeE, e, ha]
  unfold F_are_integers B_are_integers
  rw [hs, dSeq_ap, s0, SR.bind_nx, s1]
  rfl
theorem e_comdiv {l : List Int} (h : Tu l) : F_common_divisor [(false, pd l)] = .ret false (.int (gcdL 0 l : Nat)) [] := by
  have e1 : F_are_integers [(false, .tup (l.map D.int))] = .ret false (.bl true) [] := e_areint h
  have e2 : F_divisor_of_all [(false, .tup (l.map D.int))] = .ret false (.int (gcdL 0 l : Nat)) [] := e_doa l
  generalize gcdL 0 l = g at *
  unfold F_common_divisor B_common_divisor
  simp [eqY_int, neY_int, max2_ap, min2_ap, DF.R.bind_ok, DF.R.bindS_ok, DF.R.bindN_ok, DF.SR.bind_nx, DF.SR.bind_ret, ofO, ths, setV, setF, free, set2, set3, fnRes, startE, startC, outs, argsD, putD, ioIx, isMu, look, DF.muL, ltD_ap, leD_ap, gtD_ap, geD_ap, addD_ap, subD_ap, negD_ap, absD_ap, intD_ap, intD_apB, eq_int, ne_int, ixD, L2.atI, L2.ixN, lenD, gcdD, max2D, min2D, e1, e2]
/-! ### the least common multiple -/
def lcmL (f : Nat) (l : List Int) : Nat := l.foldl (fun a x => Nat.lcm a x.natAbs) f
theorem lcmL_dvd : ∀ (l : List Int) (f : Nat), f ∣ lcmL f l
  | [], f => Nat.dvd_refl _
  | x :: l, f => Nat.dvd_trans (Nat.dvd_lcm_left f x.natAbs) (lcmL_dvd l _)
theorem lcmL_pos : ∀ (l : List Int) (f : Nat), 0 < f → (∀ x ∈ l, 1 ≤ x) → 0 < lcmL f l
  | [], f, h, _ => h
  | x :: l, f, h, k => lcmL_pos l _ (Nat.lcm_pos h (by have := k x List.mem_cons_self; omega)) fun y hy => k y (List.mem_cons_of_mem _ hy)
def cmB : DEnv → SR := dSet 1 (dCal lcmD (aCons (oVar 1) (aCons (oVar 2) (aNil))))
theorem cm_loop {c0 : Option Cell} : ∀ (l : List Int) (f : Nat) (c2 : Option Cell), Vc c2 → 0 < f → (∀ x ∈ l, 1 ≤ x ∧ x.natAbs ≤ 999999999999999999999999999999999999999999999999999999999999) → lcmL f l < 2 ^ 4000 →
    ∃ e2 : Option Cell, Vc e2 ∧ dFor (setV 2) cmB (l.map D.int) [c0, some (.val (.int (f : Int))), c2] = .nx [c0, some (.val (.int (lcmL f l : Nat))), e2]
  | [], f, c2, h2, _, _, _ => ⟨c2, h2, rfl⟩
  | x :: l, f, c2, h2, hf, hx, hb => by
    have x1 := hx x List.mem_cons_self
    have pos : 0 < Nat.lcm f x.natAbs := Nat.lcm_pos hf (by omega)
    obtain ⟨e2, k2, ih⟩ := cm_loop (c0 := c0) l (Nat.lcm f x.natAbs) (some (.val (.int x))) (.inr ⟨_, rfl⟩) pos (fun y hy => hx y (List.mem_cons_of_mem _ hy)) hb
    refine ⟨e2, k2, ?_⟩
    have fl : f < 2 ^ 4000 := Nat.lt_of_le_of_lt (Nat.le_of_dvd (lcmL_pos (x :: l) f hf fun y hy => (hx y hy).1) (lcmL_dvd (x :: l) f)) hb
    have xl : x.natAbs < 2 ^ 4000 := Nat.lt_of_le_of_lt x1.2 (by decide)
    rw [List.map_cons]
    unfold dFor
    have hs : setV 2 (.int x) [c0, some (.val (.int (f : Int))), c2] = some [c0, some (.val (.int (f : Int))), some (.val (.int x))] := by
      rcases h2 with rfl | ⟨d, rfl⟩ <;> rfl
    have el : lcmD [.int (f : Int), .int x] = some (.int (Nat.lcm f x.natAbs : Nat)) := by
      show (if (f : Int).natAbs < 2 ^ 4000 ∧ x.natAbs < 2 ^ 4000 then some (D.int ((Nat.lcm (f : Int).natAbs x.natAbs : Nat) : Int)) else none) = _
      rw [Int.natAbs_natCast, if_pos ⟨fl, xl⟩]
    have e : cmB [c0, some (.val (.int (f : Int))), some (.val (.int x))] = .nx [c0, some (.val (.int (Nat.lcm f x.natAbs : Nat))), some (.val (.int x))] := by
      simp [cmB, eqY_int, neY_int, max2_ap, min2_ap, DF.R.bind_ok, DF.R.bindS_ok, DF.R.bindN_ok, DF.SR.bind_nx, DF.SR.bind_ret, ofO, ths, setV, setF, free, set2, set3, fnRes, startE, startC, outs, argsD, putD, ioIx, isMu, look, DF.muL, ltD_ap, leD_ap, gtD_ap, geD_ap, addD_ap, subD_ap, negD_ap, absD_ap, intD_ap, intD_apB, eq_int, ne_int, ixD, L2.atI, L2.ixN, lenD, gcdD, max2D, min2D, el]
    rw [hs]
    dsimp only
    rw [e]
    exact ih
theorem cm_eq (n : Nat) : B_common_multiple n = dSeq ((dIf (dOr (dNot (dTst (dV (dCal2 1 F_are_integers (rVal (dVar 0) (rNil)))))) (dTst (dBin ltD (oD (dCal (orC min2D minSD) (aCons (oVar 0) (aNil)))) (oD (dC (.int 1)))))) (dNever) (SR.nx))) (dSeq (dSet 1 (dC (.int 1))) (dSeq (dForS (sTup (dVar 0)) (setV 2) cmB) (dRetV 1))) := rfl
theorem minL_ge : ∀ (l : List Int) (i : Int), 1 ≤ i → (∀ x ∈ l, 1 ≤ x) → 1 ≤ minL i l
  | [], i, h, _ => h
  | x :: l, i, h, k => by
    show 1 ≤ minL (if x < i then x else i) l
    refine minL_ge l _ ?_ fun y hy => k y (List.mem_cons_of_mem _ hy)
    have := k x List.mem_cons_self
    split <;> omega
theorem intsD_map : ∀ l : List Int, intsD (l.map D.int) = some l
  | [] => rfl
  | x :: l => by
    rw [List.map_cons]
    unfold intsD
    rw [intsD_map l]
theorem e_commul {l : List Int} (h : Tu l) (h1 : ∀ x ∈ l, 1 ≤ x) (hb : lcmL 1 l < 2 ^ 4000) : F_common_multiple [(false, pd l)] = .ret false (.int (lcmL 1 l : Nat)) [] := by
  unfold F_common_multiple
  rw [cm_eq]
  obtain ⟨e2, k2, lp⟩ := cm_loop (c0 := some (.val (pd l))) l 1 none (.inl rfl) (by decide) (fun x hx => ⟨h1 x hx, h.sm x hx⟩) hb
  have ea : F_are_integers [(false, .tup (l.map D.int))] = .ret false (.bl true) [] := e_areint h
  obtain ⟨m, hm, em⟩ : ∃ m : Int, 1 ≤ m ∧ orC min2D minSD [.tup (l.map D.int)] = some (.int m) := by
    cases l with
    | nil => exact absurd h.pos (by decide)
    | cons x r =>
      refine ⟨minL x r, minL_ge r x (h1 x List.mem_cons_self) fun y hy => h1 y (List.mem_cons_of_mem _ hy), ?_⟩
      show (match (seqOf (.tup ((x :: r).map D.int))).bind intsD with
        | some (i :: l) => some (D.int (minL i l))
        | _ => none) = _
      show (match intsD ((x :: r).map D.int) with
        | some (i :: l) => some (D.int (minL i l))
        | _ => none) = _
      rw [intsD_map]
  have s0 : (dIf (dOr (dNot (dTst (dV (dCal2 1 F_are_integers (rVal (dVar 0) (rNil)))))) (dTst (dBin ltD (oD (dCal (orC min2D minSD) (aCons (oVar 0) (aNil)))) (oD (dC (.int 1)))))) (dNever) (SR.nx)) [some (.val (pd l)), none, none] = .nx [some (.val (pd l)), none, none] := by
    have hm' : ¬ m < 1 := by omega
    simp [eqY_int, neY_int, max2_ap, min2_ap, DF.R.bind_ok, DF.R.bindS_ok, DF.R.bindN_ok, DF.SR.bind_nx, DF.SR.bind_ret, ofO, ths, setV, setF, free, set2, set3, fnRes, startE, startC, outs, argsD, putD, ioIx, isMu, look, DF.muL, ltD_ap, leD_ap, gtD_ap, geD_ap, addD_ap, subD_ap, negD_ap, absD_ap, intD_ap, intD_apB, eq_int, ne_int, ixD, L2.atI, L2.ixN, lenD, gcdD, max2D, min2D, ea, em, hm']
  have s1 : dSet 1 (dC (.int 1)) [some (.val (pd l)), none, none] = .nx [some (.val (pd l)), some (.val (.int ((1 : Nat) : Int))), none] := by
    simp [eqY_int, neY_int, max2_ap, min2_ap, DF.R.bind_ok, DF.R.bindS_ok, DF.R.bindN_ok, DF.SR.bind_nx, DF.SR.bind_ret, ofO, ths, setV, setF, free, set2, set3, fnRes, startE, startC, outs, argsD, putD, ioIx, isMu, look, DF.muL, ltD_ap, leD_ap, gtD_ap, geD_ap, addD_ap, subD_ap, negD_ap, absD_ap, intD_ap, intD_apB, eq_int, ne_int, ixD, L2.atI, L2.ixN, lenD, gcdD, max2D, min2D]
  rw [show startE 3 [(false, pd l)] = [some (.val (pd l)), none, none] from rfl, dSeq_ap, s0, SR.bind_nx, dSeq_ap, s1, SR.bind_nx, dSeq_ap, dForS_ap]
  simp only [sTup_ap, dVar_ap, List.getElem?_cons_zero, List.getElem?_cons_succ, DF.R.bind_ok, DF.R.bindS_ok]
  rw [lp, SR.bind_nx]
  rfl
end K01

namespace K01
open PySem DF
theorem inR_nat {n : Nat} (h : n ≤ 100000) : inR (n : Int) = true := by
  unfold inR
  rw [Bool.and_eq_true]
  exact ⟨decide_eq_true (by omega), decide_eq_true (by omega)⟩
theorem rng1_ap {f : DEnv → DF.R (List D)} {ρ ρ' : DEnv} {n : Nat} (hr : inR (n : Int) = true) (e : f ρ = .ok ρ' [.int (n : Int)]) : sRng1 f ρ = .ok ρ' (rng 0 n) := by
  rw [sRng1_ap, e, DF.R.bind_ok]
  dsimp only
  rw [if_pos hr, Int.toNat_natCast]
theorem rng_len (i : Int) (n : Nat) : (rng i n).length = n := by unfold rng; rw [List.length_map, List.length_range]
theorem p30 : powD (.int 10) (.int 30) = some (.int 1000000000000000000000000000000) := powD_ap (by decide +kernel)
theorem p25 : powD (.int 10) (.int 25) = some (.int 10000000000000000000000000) := powD_ap (by decide +kernel)
theorem cr0 {n : Nat} {d : D} (h : Bag n d) (hn : n ≤ 999000) : ∃ (s hi : Int) (d' : D), 1 ≤ s ∧ s ≤ 1000000000000000000000000000000 ∧ 1 ≤ hi ∧ hi ≤ 10000000000000000000000000 ∧ Bag (n + 2) d' ∧
    (dAsg (dTup (vCons (dV (dCal2 2 F_q_one_of (rIo 0 (rVal (dLst (vCons (dC (.int 1)) (vCons (dC (.int 1)) (vCons (dC (.int 2)) (vCons (dC (.int 6)) (vCons (dBin powD (oD (dC (.int 10))) (oD (dC (.int 30)))) (vNil))))))) (rNil))))) (vCons (dV (dCal2 2 F_q_one_of (rIo 0 (rVal (dLst (vCons (dC (.int 5)) (vCons (dC (.int 60)) (vCons (dBin powD (oD (dC (.int 10))) (oD (dC (.int 25)))) (vNil))))) (rNil))))) (vNil)))) (gTp 2 (gsCons (setV 1) (gsCons (setV 2) (gsNil))))) [some (.mu true d), none, none, none, none, none, none, none, none] = .nx [some (.mu true d'), some (.val (.int s)), some (.val (.int hi)), none, none, none, none, none, none] := by
  obtain ⟨m1, hm1, d1, b1, e1⟩ := e_one_int (l := [1, 1, 2, 6, 1000000000000000000000000000000]) h (by omega) (by decide) (by decide)
  obtain ⟨m2, hm2, d2, b2, e2⟩ := e_one_int (l := [5, 60, 10000000000000000000000000]) b1 (by omega) (by decide) (by decide)
  have r1 : 1 ≤ m1 ∧ m1 ≤ 1000000000000000000000000000000 := by simp at hm1; omega
  have r2 : 1 ≤ m2 ∧ m2 ≤ 10000000000000000000000000 := by simp at hm2; omega
  refine ⟨m1, m2, d2, r1.1, r1.2, r2.1, r2.2, b2, ?_⟩
  have e1 : F_q_one_of [(true, d), (false, .lst [.int 1, .int 1, .int 2, .int 6, .int 1000000000000000000000000000000])] = .ret false (.int m1) [d1] := e1
  have e2 : F_q_one_of [(true, d1), (false, .lst [.int 5, .int 60, .int 10000000000000000000000000])] = .ret false (.int m2) [d2] := e2
  simp [eqY_int, neY_int, max2_ap, min2_ap, DF.R.bind_ok, DF.R.bindS_ok, DF.R.bindN_ok, DF.SR.bind_nx, DF.SR.bind_ret, ofO, ths, setV, setF, free, set2, set3, fnRes, startE, startC, outs, argsD, putD, ioIx, isMu, look, DF.muL, ltD_ap, leD_ap, gtD_ap, geD_ap, addD_ap, subD_ap, negD_ap, absD_ap, intD_ap, intD_apB, eq_int, ne_int, ixD, L2.atI, L2.ixN, lenD, gcdD, max2D, min2D, p30, p25, e1, e2]
theorem cr1 {n : Nat} {d : D} {c1 c2 : Option Cell} (h : Bag n d) (hn : n ≤ 999000) : ∃ (m : Nat) (d' : D), 1 ≤ m ∧ m ≤ 9 ∧ Bag (n + 1) d' ∧
    (dSet 3 (dV (dCal2 2 F_q_one_of (rIo 0 (rVal (dLst (vCons (dC (.int 1)) (vCons (dC (.int 2)) (vCons (dC (.int 3)) (vCons (dC (.int 5)) (vCons (dC (.int 9)) (vNil))))))) (rNil)))))) [some (.mu true d), c1, c2, none, none, none, none, none, none] = .nx [some (.mu true d'), c1, c2, some (.val (.int (m : Int))), none, none, none, none, none] := by
  obtain ⟨m1, hm1, d1, b1, e1⟩ := e_one_int (l := [1, 2, 3, 5, 9]) h (by omega) (by decide) (by decide)
  have r1 : 1 ≤ m1 ∧ m1 ≤ 9 := by simp at hm1; omega
  refine ⟨m1.toNat, d1, by omega, by omega, b1, ?_⟩
  have e1 : F_q_one_of [(true, d), (false, .lst [.int 1, .int 2, .int 3, .int 5, .int 9])] = .ret false (.int m1) [d1] := e1
  rw [show ((m1.toNat : Nat) : Int) = m1 by omega]
  simp [eqY_int, neY_int, max2_ap, min2_ap, DF.R.bind_ok, DF.R.bindS_ok, DF.R.bindN_ok, DF.SR.bind_nx, DF.SR.bind_ret, ofO, ths, setV, setF, free, set2, set3, fnRes, startE, startC, outs, argsD, putD, ioIx, isMu, look, DF.muL, ltD_ap, leD_ap, gtD_ap, geD_ap, addD_ap, subD_ap, negD_ap, absD_ap, intD_ap, intD_apB, eq_int, ne_int, ixD, L2.atI, L2.ixN, lenD, gcdD, max2D, min2D, e1]
def crE : DEnv → DF.R D := dBin mulD (oVar 1) (oD (dBin subD (oD (dV (dCal2 2 F_q_grab (rIo 0 (rVal (dBin addD (oD (dBin mulD (oD (dC (.int 2))) (oVar 2))) (oD (dC (.int 1)))) (rNil)))))) (oVar 2)))
theorem crE_ap {n : Nat} {d : D} {s hi : Int} {c3 c4 c5 c6 c7 c8 : Option Cell} (h : Bag n d) (hn : n ≤ 999000) (h1 : 1 ≤ s ∧ s ≤ 1000000000000000000000000000000) (h2 : 1 ≤ hi ∧ hi ≤ 10000000000000000000000000) : ∃ (x : Int) (d' : D), x.natAbs ≤ 10000000000000000000000000000000000000000000000000000000 ∧ Bag (n + 1) d' ∧
    crE [some (.mu true d), some (.val (.int s)), some (.val (.int hi)), c3, c4, c5, c6, c7, c8] = .ok [some (.mu true d'), some (.val (.int s)), some (.val (.int hi)), c3, c4, c5, c6, c7, c8] (.int x) := by
  obtain ⟨r, d', r0, r1, hb, e⟩ := e_grab (t := 2 * hi + 1) h (by omega) (by omega) (sm_of (by omega))
  have q1 := mulD_ap (i := 2) (j := hi) (cm (sm_of (by decide)) (sm_of (by omega)))
  have q2 := mulD_ap (i := s) (j := r - hi) (cm (sm_of (by omega)) (sm_of (by omega)))
  refine ⟨s * (r - hi), d', ?_, hb, ?_⟩
  · rw [Int.natAbs_mul]
    exact Nat.le_trans (Nat.mul_le_mul (show s.natAbs ≤ 1000000000000000000000000000000 by omega) (show (r - hi).natAbs ≤ 10000000000000000000000000 by omega)) (by decide)
  · simp [crE, eqY_int, neY_int, max2_ap, min2_ap, DF.R.bind_ok, DF.R.bindS_ok, DF.R.bindN_ok, DF.SR.bind_nx, DF.SR.bind_ret, ofO, ths, setV, setF, free, set2, set3, fnRes, startE, startC, outs, argsD, putD, ioIx, isMu, look, DF.muL, ltD_ap, leD_ap, gtD_ap, geD_ap, addD_ap, subD_ap, negD_ap, absD_ap, intD_ap, intD_apB, eq_int, ne_int, ixD, L2.atI, L2.ixN, lenD, gcdD, max2D, min2D, q1, q2, e]
theorem cr_loop {s hi : Int} {c3 : Option Cell} (h1 : 1 ≤ s ∧ s ≤ 1000000000000000000000000000000) (h2 : 1 ≤ hi ∧ hi ≤ 10000000000000000000000000) : ∀ (its : List D) (acc : List Int) (n : Nat) (d : D), Bag n d → n + its.length ≤ 990000 → acc.length + its.length ≤ 1000 →
    ∃ (l : List Int) (d' : D), l.length = its.length ∧ (∀ x ∈ l, x.natAbs ≤ 10000000000000000000000000000000000000000000000000000000) ∧ Bag (n + its.length) d' ∧ dLcGo (setV 4) tYesB crE [4] its (acc.map D.int) [some (.mu true d), some (.val (.int s)), some (.val (.int hi)), c3, none, none, none, none, none] = .ok [some (.mu true d'), some (.val (.int s)), some (.val (.int hi)), c3, none, none, none, none, none] (ld (acc ++ l))
  | [], acc, n, d, h, _, _ => ⟨[], d, rfl, (fun x hx => by cases hx), h, by rw [List.append_nil]; rfl⟩
  | z :: its, acc, n, d, h, hn, hl => by
    rw [List.length_cons] at hn hl
    obtain ⟨x, d1, hx, hb1, e1⟩ := crE_ap (c3 := c3) (c4 := some (.val z)) (c5 := none) (c6 := none) (c7 := none) (c8 := none) h (by omega) h1 h2
    obtain ⟨l, d', g1, g2, g3, e⟩ := cr_loop (c3 := c3) h1 h2 its (acc ++ [x]) (n + 1) d1 hb1 (by omega) (by rw [List.length_append, List.length_singleton]; omega)
    refine ⟨x :: l, d', by rw [List.length_cons, List.length_cons, g1], fun y hy => ?_, by rw [List.length_cons, show n + (its.length + 1) = n + 1 + its.length by omega]; exact g3, ?_⟩
    · rcases List.mem_cons.mp hy with rfl | hy
      · exact hx
      · exact g2 y hy
    · have hl : (acc.map D.int).length < 16000000 := by rw [List.length_map]; omega
      unfold dLcGo
      simp only [setV, free, List.getElem?_cons_zero, List.getElem?_cons_succ, if_true, List.set_cons_zero, List.set_cons_succ, tYesB, R.bindN_ok, e1, noMu, wipeE, List.all_cons, List.all_nil, Bool.and_true, hl]
      rw [List.map_append, List.append_assoc] at e
      exact e
theorem cr2_eq : (dSet 5 (dCal tupD (aCons (oD (dLc (sRng1 (vCons (dVar 3) (vNil))) (setV 4) (tYesB) (dBin mulD (oVar 1) (oD (dBin subD (oD (dV (dCal2 2 F_q_grab (rIo 0 (rVal (dBin addD (oD (dBin mulD (oD (dC (.int 2))) (oVar 2))) (oD (dC (.int 1)))) (rNil)))))) (oVar 2)))) [4])) (aNil)))) = dSet 5 (dCal tupD (aCons (oD (dLc (sRng1 (vCons (dVar 3) (vNil))) (setV 4) (tYesB) crE [4])) (aNil))) := rfl
theorem cr2 {n : Nat} {d : D} {s hi : Int} {m : Nat} (h : Bag n d) (hn : n ≤ 900000) (h1 : 1 ≤ s ∧ s ≤ 1000000000000000000000000000000) (h2 : 1 ≤ hi ∧ hi ≤ 10000000000000000000000000) (hm : m ≤ 9) : ∃ (l : List Int) (d' : D), l.length = m ∧ (∀ x ∈ l, x.natAbs ≤ 10000000000000000000000000000000000000000000000000000000) ∧ Bag (n + m) d' ∧
    (dSet 5 (dCal tupD (aCons (oD (dLc (sRng1 (vCons (dVar 3) (vNil))) (setV 4) (tYesB) (dBin mulD (oVar 1) (oD (dBin subD (oD (dV (dCal2 2 F_q_grab (rIo 0 (rVal (dBin addD (oD (dBin mulD (oD (dC (.int 2))) (oVar 2))) (oD (dC (.int 1)))) (rNil)))))) (oVar 2)))) [4])) (aNil)))) [some (.mu true d), some (.val (.int s)), some (.val (.int hi)), some (.val (.int (m : Int))), none, none, none, none, none] = .nx [some (.mu true d'), some (.val (.int s)), some (.val (.int hi)), some (.val (.int (m : Int))), none, some (.val (pd l)), none, none, none] := by
  have a1 : vCons (dVar 3) (vNil) [some (.mu true d), some (.val (.int s)), some (.val (.int hi)), some (.val (.int (m : Int))), none, none, none, none, none] = .ok [some (.mu true d), some (.val (.int s)), some (.val (.int hi)), some (.val (.int (m : Int))), none, none, none, none, none] [.int (m : Int)] := by
    simp [eqY_int, neY_int, max2_ap, min2_ap, DF.R.bind_ok, DF.R.bindS_ok, DF.R.bindN_ok, DF.SR.bind_nx, DF.SR.bind_ret, ofO, ths, setV, setF, free, set2, set3, fnRes, startE, startC, outs, argsD, putD, ioIx, isMu, look, DF.muL, ltD_ap, leD_ap, gtD_ap, geD_ap, addD_ap, subD_ap, negD_ap, absD_ap, intD_ap, intD_apB, eq_int, ne_int, ixD, L2.atI, L2.ixN, lenD, gcdD, max2D, min2D]
  have e2 := rng1_ap (inR_nat (show m ≤ 100000 by omega)) a1
  obtain ⟨l, d', g1, g2, g3, e⟩ := cr_loop (c3 := some (.val (.int (m : Int)))) h1 h2 (rng 0 m) [] n d h (by rw [rng_len]; omega) (by rw [rng_len]; simp; omega)
  rw [rng_len] at g1 g3
  refine ⟨l, d', g1, g2, g3, ?_⟩
  rw [List.nil_append] at e
  have e : dLcGo (setV 4) tYesB crE [4] (rng 0 m) [] _ = _ := e
  rw [cr2_eq, dSet_ap, dCal_ap, aCons_ap, oD_ap, dLc_ap, e2, DF.R.bind_ok]
  simp only [noMu, List.all_cons, List.all_nil, List.getElem?_cons_zero, List.getElem?_cons_succ, Bool.and_true, if_true, wipeE, List.set_cons_zero, List.set_cons_succ, e, setV, free, DF.R.bind_ok, aNil_ap, ths, ofO, DF.R.bindS_ok, tupD, look]
end K01

namespace K01
open PySem DF
theorem flat_rep (z : D) : ∀ k : Nat, (List.replicate k [z]).flatten = List.replicate k z
  | 0 => rfl
  | k + 1 => by rw [List.replicate_succ, List.replicate_succ, List.flatten_cons, flat_rep z k]; rfl
theorem pad_ap {z : Int} {k : Nat} (h1 : 2 ≤ k) (h2 : k ≤ 1000) : mulD (.tup [.int z]) (.int (k : Int)) = some (.tup ((List.replicate k z).map D.int)) := by
  show (if 2 ≤ (k : Int) ∧ (k : Int) ≤ 1000 ∧ [D.int z].length ≤ 1000 ∧ [D.int z].length ≠ 0 then some (D.tup (List.replicate (k : Int).toNat [D.int z]).flatten) else none) = _
  rw [if_pos ⟨by omega, by omega, by simp, by simp⟩, Int.toNat_natCast, flat_rep, List.map_replicate]
theorem gcdL_zeros : ∀ (k : Nat) (f : Nat), gcdL f (List.replicate k 0) = f
  | 0, f => rfl
  | k + 1, f => by
    rw [List.replicate_succ]
    show gcdL (Nat.gcd f (0 : Int).natAbs) (List.replicate k 0) = f
    rw [show ((0 : Int).natAbs) = 0 from rfl, Nat.gcd_zero_right, gcdL_zeros k f]
theorem lcmL_ones : ∀ (k : Nat) (f : Nat), lcmL f (List.replicate k 1) = f
  | 0, f => rfl
  | k + 1, f => by
    rw [List.replicate_succ]
    show lcmL (Nat.lcm f (1 : Int).natAbs) (List.replicate k 1) = f
    rw [show ((1 : Int).natAbs) = 1 from rfl, Nat.lcm_one_right, lcmL_ones k f]
theorem gcdL_app (f : Nat) (l m : List Int) : gcdL f (l ++ m) = gcdL (gcdL f l) m := by unfold gcdL; rw [List.foldl_append]
theorem lcmL_app (f : Nat) (l m : List Int) : lcmL f (l ++ m) = lcmL (lcmL f l) m := by unfold lcmL; rw [List.foldl_append]
theorem tu_of {l : List Int} (h1 : 1 ≤ l.length) (h9 : l.length ≤ 9) (h : ∀ x ∈ l, x.natAbs ≤ 10000000000000000000000000000000000000000000000000000000 + 1) : Tu l := ⟨h1, by omega, fun x hx => by have := h x hx; omega⟩
theorem tu_pad {l : List Int} {z : Int} (h1 : 1 ≤ l.length) (h9 : l.length ≤ 9) (h : ∀ x ∈ l, x.natAbs ≤ 10000000000000000000000000000000000000000000000000000000 + 1) (hz : z.natAbs ≤ 1) : Tu (l ++ List.replicate (100 - l.length) z) :=
  ⟨by rw [List.length_append]; omega, by rw [List.length_append, List.length_replicate]; omega, fun x hx => by
    rcases List.mem_append.mp hx with m | m
    · have := h x m; omega
    · rw [(List.mem_replicate.mp m).2]; omega⟩
theorem cr3 {c0 c1 c2 c4 c6 c7 c8 : Option Cell} {l : List Int} (h1 : 1 ≤ l.length) (h9 : l.length ≤ 9) (h : ∀ x ∈ l, x.natAbs ≤ 10000000000000000000000000000000000000000000000000000000 + 1) :
    (dIf (dOr (dTst (dBin neY (oD (dV (dCal2 1 F_common_divisor (rVal (dVar 5) (rNil))))) (oD (dV (dCal2 1 F_q_nb_divisor (rVal (dVar 5) (rNil))))))) (dTst (dBin neY (oD (dV (dCal2 1 F_common_divisor (rVal (dBin addD (oVar 5) (oD (dBin mulD (oD (dTup (vCons (dC (.int 0)) (vNil)))) (oD (dBin subD (oD (dC (.int 100))) (oVar 3)))))) (rNil))))) (oD (dV (dCal2 1 F_q_nb_divisor (rVal (dVar 5) (rNil)))))))) (dRet (dC (.bl false))) (SR.nx)) [c0, c1, c2, some (.val (.int (l.length : Int))), c4, some (.val (pd l)), c6, c7, c8] = .nx [c0, c1, c2, some (.val (.int (l.length : Int))), c4, some (.val (pd l)), c6, c7, c8] := by
  have e1 : F_common_divisor [(false, .tup (l.map D.int))] = .ret false (.int (gcdL 0 l : Nat)) [] := e_comdiv (tu_of h1 h9 h)
  have e2 : F_q_nb_divisor [(false, .tup (l.map D.int))] = .ret false (.int (gcdL 0 l : Nat)) [] := e_nbdiv l
  have e3 : F_common_divisor [(false, .tup (l.map D.int ++ (List.replicate (100 - l.length) (0 : Int)).map D.int))] = .ret false (.int (gcdL 0 l : Nat)) [] := by
    have e3 := e_comdiv (tu_pad (z := 0) h1 h9 h (by decide))
    rw [gcdL_app, gcdL_zeros] at e3
    rw [← List.map_append]
    exact e3
  have q1 : (100 : Int) - (l.length : Int) = ((100 - l.length : Nat) : Int) := by omega
  have q2 := pad_ap (z := 0) (k := 100 - l.length) (by omega) (by omega)
  have q3 : addD (.tup (l.map D.int)) (.tup ((List.replicate (100 - l.length) (0 : Int)).map D.int)) = some (.tup (l.map D.int ++ (List.replicate (100 - l.length) (0 : Int)).map D.int)) := catT_ap (by rw [List.length_map, List.length_map, List.length_replicate]; omega)
  show (dIf (dOr (dTst (dBin neY (oD (dV (dCal2 1 F_common_divisor (rVal (dVar 5) (rNil))))) (oD (dV (dCal2 1 F_q_nb_divisor (rVal (dVar 5) (rNil))))))) (dTst (dBin neY (oD (dV (dCal2 1 F_common_divisor (rVal (dBin addD (oVar 5) (oD (dBin mulD (oD (dTup (vCons (dC (.int 0)) (vNil)))) (oD (dBin subD (oD (dC (.int 100))) (oVar 3)))))) (rNil))))) (oD (dV (dCal2 1 F_q_nb_divisor (rVal (dVar 5) (rNil)))))))) (dRet (dC (.bl false))) (SR.nx)) [c0, c1, c2, some (.val (.int (l.length : Int))), c4, some (.val (.tup (l.map D.int))), c6, c7, c8] = .nx [c0, c1, c2, some (.val (.int (l.length : Int))), c4, some (.val (.tup (l.map D.int))), c6, c7, c8]
  generalize gcdL 0 l = g at *
  generalize (List.replicate (100 - l.length) (0 : Int)).map D.int = zs at *
  generalize l.map D.int = ls at *
  generalize 100 - l.length = k at *
  simp [eqY_int, neY_int, max2_ap, min2_ap, DF.R.bind_ok, DF.R.bindS_ok, DF.R.bindN_ok, DF.SR.bind_nx, DF.SR.bind_ret, ofO, ths, setV, setF, free, set2, set3, fnRes, startE, startC, outs, argsD, putD, ioIx, isMu, look, DF.muL, ltD_ap, leD_ap, gtD_ap, geD_ap, addD_ap, subD_ap, negD_ap, absD_ap, intD_ap, intD_apB, eq_int, ne_int, ixD, L2.atI, L2.ixN, lenD, gcdD, max2D, min2D, e1, e2, e3, q1, q2, q3]
def abE : DEnv → DF.R D := dBin addD (oD (dCal absD (aCons (oVar 6) (aNil)))) (oD (dC (.int 1)))
def ab1 (l : List Int) : List Int := l.map fun x => (x.natAbs : Int) + 1
theorem ab_loop {c0 c1 c2 c3 c4 c5 c7 c8 : Option Cell} : ∀ (l : List Int) (acc : List D), acc.length + l.length ≤ 1000 → dLcGo (setV 6) tYesB abE [6] (l.map D.int) acc [c0, c1, c2, c3, c4, c5, none, c7, c8] = .ok [c0, c1, c2, c3, c4, c5, none, c7, c8] (.lst (acc ++ (ab1 l).map D.int))
  | [], acc, _ => by simp [dLcGo, ab1]
  | x :: r, acc, hl => by
    rw [List.length_cons] at hl
    have ih := ab_loop (c0 := c0) (c1 := c1) (c2 := c2) (c3 := c3) (c4 := c4) (c5 := c5) (c7 := c7) (c8 := c8) r (acc ++ [.int ((x.natAbs : Int) + 1)]) (by rw [List.length_append, List.length_singleton]; omega)
    have e : abE [c0, c1, c2, c3, c4, c5, some (.val (.int x)), c7, c8] = .ok [c0, c1, c2, c3, c4, c5, some (.val (.int x)), c7, c8] (.int ((x.natAbs : Int) + 1)) := by
      have ha := abs_eq x
      simp [abE, eqY_int, neY_int, max2_ap, min2_ap, DF.R.bind_ok, DF.R.bindS_ok, DF.R.bindN_ok, DF.SR.bind_nx, DF.SR.bind_ret, ofO, ths, setV, setF, free, set2, set3, fnRes, startE, startC, outs, argsD, putD, ioIx, isMu, look, DF.muL, ltD_ap, leD_ap, gtD_ap, geD_ap, addD_ap, subD_ap, negD_ap, absD_ap, intD_ap, intD_apB, eq_int, ne_int, ixD, L2.atI, L2.ixN, lenD, gcdD, max2D, min2D, ha]
    have hl' : acc.length < 16000000 := by omega
    rw [List.map_cons]
    unfold dLcGo
    simp only [setV, free, List.getElem?_cons_zero, List.getElem?_cons_succ, if_true, List.set_cons_zero, List.set_cons_succ, tYesB, R.bindN_ok, e, noMu, wipeE, List.all_cons, List.all_nil, Bool.and_true, hl']
    rw [ih, List.append_assoc]
    rfl
theorem cr4_eq : (dPar 7 8 (vCons (dCal tupD (aCons (oD (dLc (sTup (dVar 5)) (setV 6) (tYesB) (dBin addD (oD (dCal absD (aCons (oVar 6) (aNil)))) (oD (dC (.int 1)))) [6])) (aNil))) (vCons (dC (.int 1)) (vNil)))) = dPar 7 8 (vCons (dCal tupD (aCons (oD (dLc (sTup (dVar 5)) (setV 6) (tYesB) abE [6])) (aNil))) (vCons (dC (.int 1)) (vNil))) := rfl
theorem cr4 {c0 c1 c2 c3 c4 : Option Cell} {l : List Int} (h9 : l.length ≤ 9) :
    (dPar 7 8 (vCons (dCal tupD (aCons (oD (dLc (sTup (dVar 5)) (setV 6) (tYesB) (dBin addD (oD (dCal absD (aCons (oVar 6) (aNil)))) (oD (dC (.int 1)))) [6])) (aNil))) (vCons (dC (.int 1)) (vNil)))) [c0, c1, c2, c3, c4, some (.val (pd l)), none, none, none] = .nx [c0, c1, c2, c3, c4, some (.val (pd l)), none, some (.val (pd (ab1 l))), some (.val (.int ((1 : Nat) : Int)))] := by
  have e := ab_loop (c0 := c0) (c1 := c1) (c2 := c2) (c3 := c3) (c4 := c4) (c5 := some (.val (pd l))) (c7 := none) (c8 := none) l [] (by simp; omega)
  rw [List.nil_append] at e
  rw [cr4_eq, dPar_ap, vCons_ap, dCal_ap, aCons_ap, oD_ap, dLc_ap, sTup_ap, dVar_ap]
  simp only [noMu, List.all_cons, List.all_nil, List.getElem?_cons_zero, List.getElem?_cons_succ, Bool.and_true, if_true, wipeE, List.set_cons_zero, List.set_cons_succ, e, setV, free, DF.R.bind_ok, aNil_ap, ths, ofO, DF.R.bindS_ok, tupD, look, vCons_ap, vNil_ap, dC_ap]
  rfl
end K01

namespace K01
open PySem DF
def duB : DEnv → SR := dSet 8 (dBin divD (oD (dBin mulD (oVar 8) (oVar 6))) (oD (dV (dCal2 1 F_q_nb_divisor (rVal (dTup (vCons (dVar 8) (vCons (dVar 6) (vNil)))) (rNil))))))
theorem duB_ap {c0 c1 c2 c3 c4 c5 c7 : Option Cell} {f : Nat} {x : Int} (hf : 0 < f) (hfb : f < 2 ^ 4000) (hx : 1 ≤ x) (hxs : Sm x) :
    duB [c0, c1, c2, c3, c4, c5, some (.val (.int x)), c7, some (.val (.int (f : Int)))] = .nx [c0, c1, c2, c3, c4, c5, some (.val (.int x)), c7, some (.val (.int (Nat.lcm f x.natAbs : Nat)))] := by
  have e1 : F_q_nb_divisor [(false, .tup [.int (f : Int), .int x])] = .ret false (.int (Nat.gcd f x.natAbs : Nat)) [] := by
    have := e_nbdiv [(f : Int), x]
    have g : gcdL 0 [(f : Int), x] = Nat.gcd f x.natAbs := by
      show Nat.gcd (Nat.gcd 0 (f : Int).natAbs) x.natAbs = _
      rw [Int.natAbs_natCast, Nat.gcd_zero_left]
    rw [g] at this
    exact this
  have gp : 0 < Nat.gcd f x.natAbs := Nat.gcd_pos_of_pos_left _ hf
  have sf : Sm (f : Int) := by unfold Sm; rw [Int.natAbs_natCast]; exact hfb
  have sg : Sm ((Nat.gcd f x.natAbs : Nat) : Int) := by
    unfold Sm
    rw [Int.natAbs_natCast]
    exact Nat.lt_of_le_of_lt (Nat.le_of_dvd hf (Nat.gcd_dvd_left _ _)) hfb
  have q1 := mulD_ap (i := (f : Int)) (j := x) (cm sf hxs)
  have q2 := divD_ap (cd (i := (f : Int) * x) (show ((Nat.gcd f x.natAbs : Nat) : Int) ≠ 0 by omega) sg)
  have q3 : ((f : Int) * x).fdiv ((Nat.gcd f x.natAbs : Nat) : Int) = ((Nat.lcm f x.natAbs : Nat) : Int) := by
    rw [fd (by omega)]
    have : x = ((x.natAbs : Nat) : Int) := by omega
    conv => lhs; rw [this]
    rw [Int.natAbs_natCast, ← Int.natCast_mul, ← Int.natCast_ediv]
    rfl
  rw [q3] at q2
  generalize Nat.gcd f x.natAbs = g at *
  generalize Nat.lcm f x.natAbs = m at *
  simp [duB, eqY_int, neY_int, max2_ap, min2_ap, DF.R.bind_ok, DF.R.bindS_ok, DF.R.bindN_ok, DF.SR.bind_nx, DF.SR.bind_ret, ofO, ths, setV, setF, free, set2, set3, fnRes, startE, startC, outs, argsD, putD, ioIx, isMu, look, DF.muL, ltD_ap, leD_ap, gtD_ap, geD_ap, addD_ap, subD_ap, negD_ap, absD_ap, intD_ap, intD_apB, eq_int, ne_int, ixD, L2.atI, L2.ixN, lenD, gcdD, max2D, min2D, e1, q1, q2]
theorem du_loop {c0 c1 c2 c3 c4 c5 c7 : Option Cell} : ∀ (l : List Int) (f : Nat) (c6 : Option Cell), Vc c6 → 0 < f → (∀ x ∈ l, 1 ≤ x ∧ x.natAbs ≤ 999999999999999999999999999999999999999999999999999999999999) → lcmL f l < 2 ^ 4000 →
    ∃ e6 : Option Cell, Vc e6 ∧ dFor (setV 6) duB (l.map D.int) [c0, c1, c2, c3, c4, c5, c6, c7, some (.val (.int (f : Int)))] = .nx [c0, c1, c2, c3, c4, c5, e6, c7, some (.val (.int (lcmL f l : Nat)))]
  | [], f, c6, h6, _, _, _ => ⟨c6, h6, rfl⟩
  | x :: l, f, c6, h6, hf, hx, hb => by
    have x1 := hx x List.mem_cons_self
    have pos : 0 < Nat.lcm f x.natAbs := Nat.lcm_pos hf (by omega)
    obtain ⟨e6, k6, ih⟩ := du_loop (c0 := c0) (c1 := c1) (c2 := c2) (c3 := c3) (c4 := c4) (c5 := c5) (c7 := c7) l (Nat.lcm f x.natAbs) (some (.val (.int x))) (.inr ⟨_, rfl⟩) pos (fun y hy => hx y (List.mem_cons_of_mem _ hy)) hb
    refine ⟨e6, k6, ?_⟩
    have fl : f < 2 ^ 4000 := Nat.lt_of_le_of_lt (Nat.le_of_dvd (lcmL_pos (x :: l) f hf fun y hy => (hx y hy).1) (lcmL_dvd (x :: l) f)) hb
    have e := duB_ap (c0 := c0) (c1 := c1) (c2 := c2) (c3 := c3) (c4 := c4) (c5 := c5) (c7 := c7) hf fl x1.1 (sm_of (by have := x1.2; omega))
    rw [List.map_cons]
    unfold dFor
    have hs : setV 6 (.int x) [c0, c1, c2, c3, c4, c5, c6, c7, some (.val (.int (f : Int)))] = some [c0, c1, c2, c3, c4, c5, some (.val (.int x)), c7, some (.val (.int (f : Int)))] := by
      rcases h6 with rfl | ⟨d, rfl⟩ <;> rfl
    rw [hs]
    dsimp only
    rw [e]
    exact ih
theorem lcmL_le {B : Nat} : ∀ (l : List Int) (f : Nat), 0 < f → (∀ x ∈ l, 1 ≤ x ∧ x.natAbs ≤ B) → lcmL f l ≤ f * B ^ l.length
  | [], f, _, _ => by simp [lcmL]
  | x :: l, f, hf, h => by
    have x1 := h x List.mem_cons_self
    have pos : 0 < Nat.lcm f x.natAbs := Nat.lcm_pos hf (by omega)
    have k1 : Nat.lcm f x.natAbs ≤ f * B := Nat.le_trans (Nat.le_of_dvd (Nat.mul_pos hf (by omega)) (Nat.lcm_dvd_mul _ _)) (Nat.mul_le_mul_left _ x1.2)
    refine Nat.le_trans (lcmL_le l _ pos fun y hy => h y (List.mem_cons_of_mem _ hy)) ?_
    rw [List.length_cons, Nat.pow_succ, Nat.mul_comm (B ^ l.length) B, ← Nat.mul_assoc]
    exact Nat.mul_le_mul_right _ k1
theorem lcm9 {l : List Int} (h9 : l.length ≤ 9) (h : ∀ x ∈ l, 1 ≤ x ∧ x.natAbs ≤ 10000000000000000000000000000000000000000000000000000000 + 1) : lcmL 1 l < 2 ^ 4000 := by
  refine Nat.lt_of_le_of_lt (lcmL_le l 1 (by decide) h) ?_
  rw [Nat.one_mul]
  refine Nat.lt_of_le_of_lt (Nat.pow_le_pow_right (by decide) h9) ?_
  decide +kernel
theorem cr6 {c0 c1 c2 c4 c5 c6 : Option Cell} {a : List Int} (h1 : 1 ≤ a.length) (h9 : a.length ≤ 9) (h : ∀ x ∈ a, 1 ≤ x ∧ x.natAbs ≤ 10000000000000000000000000000000000000000000000000000000 + 1) :
    (dRet (dAndV (dBin eqY (oD (dV (dCal2 1 F_common_multiple (rVal (dVar 7) (rNil))))) (oVar 8)) (dBin eqY (oD (dV (dCal2 1 F_common_multiple (rVal (dBin addD (oVar 7) (oD (dBin mulD (oD (dTup (vCons (dC (.int 1)) (vNil)))) (oD (dBin subD (oD (dC (.int 100))) (oVar 3)))))) (rNil))))) (oVar 8)))) [c0, c1, c2, some (.val (.int (a.length : Int))), c4, c5, c6, some (.val (pd a)), some (.val (.int (lcmL 1 a : Nat)))] = .ret [c0, c1, c2, some (.val (.int (a.length : Int))), c4, c5, c6, some (.val (pd a)), some (.val (.int (lcmL 1 a : Nat)))] false (.bl true) := by
  have hs : ∀ x ∈ a, x.natAbs ≤ 10000000000000000000000000000000000000000000000000000000 + 1 := fun x hx => (h x hx).2
  have hb := lcm9 h9 h
  have e1 : F_common_multiple [(false, .tup (a.map D.int))] = .ret false (.int (lcmL 1 a : Nat)) [] := e_commul (tu_of h1 h9 hs) (fun x hx => (h x hx).1) hb
  have e3 : F_common_multiple [(false, .tup (a.map D.int ++ (List.replicate (100 - a.length) (1 : Int)).map D.int))] = .ret false (.int (lcmL 1 a : Nat)) [] := by
    have e3 := e_commul (tu_pad (z := 1) h1 h9 hs (by decide)) (fun x hx => by
      rcases List.mem_append.mp hx with m | m
      · exact (h x m).1
      · rw [(List.mem_replicate.mp m).2]; decide) (by rw [lcmL_app, lcmL_ones]; exact hb)
    rw [lcmL_app, lcmL_ones] at e3
    rw [← List.map_append]
    exact e3
  have q1 : (100 : Int) - (a.length : Int) = ((100 - a.length : Nat) : Int) := by omega
  have q2 := pad_ap (z := 1) (k := 100 - a.length) (by omega) (by omega)
  have q3 : addD (.tup (a.map D.int)) (.tup ((List.replicate (100 - a.length) (1 : Int)).map D.int)) = some (.tup (a.map D.int ++ (List.replicate (100 - a.length) (1 : Int)).map D.int)) := catT_ap (by rw [List.length_map, List.length_map, List.length_replicate]; omega)
  show (dRet (dAndV (dBin eqY (oD (dV (dCal2 1 F_common_multiple (rVal (dVar 7) (rNil))))) (oVar 8)) (dBin eqY (oD (dV (dCal2 1 F_common_multiple (rVal (dBin addD (oVar 7) (oD (dBin mulD (oD (dTup (vCons (dC (.int 1)) (vNil)))) (oD (dBin subD (oD (dC (.int 100))) (oVar 3)))))) (rNil))))) (oVar 8)))) [c0, c1, c2, some (.val (.int (a.length : Int))), c4, c5, c6, some (.val (.tup (a.map D.int))), some (.val (.int (lcmL 1 a : Nat)))] = .ret [c0, c1, c2, some (.val (.int (a.length : Int))), c4, c5, c6, some (.val (.tup (a.map D.int))), some (.val (.int (lcmL 1 a : Nat)))] false (.bl true)
  generalize lcmL 1 a = g at *
  generalize (List.replicate (100 - a.length) (1 : Int)).map D.int = zs at *
  generalize a.map D.int = ls at *
  generalize 100 - a.length = k at *
  simp [eqY_int, neY_int, max2_ap, min2_ap, DF.R.bind_ok, DF.R.bindS_ok, DF.R.bindN_ok, DF.SR.bind_nx, DF.SR.bind_ret, ofO, ths, setV, setF, free, set2, set3, fnRes, startE, startC, outs, argsD, putD, ioIx, isMu, look, DF.muL, ltD_ap, leD_ap, gtD_ap, geD_ap, addD_ap, subD_ap, negD_ap, absD_ap, intD_ap, intD_apB, eq_int, ne_int, ixD, L2.atI, L2.ixN, lenD, gcdD, max2D, min2D, e1, e3, q1, q2, q3]
theorem cr5_eq : (dForS (sTup (dVar 7)) (setV 6) (dSet 8 (dBin divD (oD (dBin mulD (oVar 8) (oVar 6))) (oD (dV (dCal2 1 F_q_nb_divisor (rVal (dTup (vCons (dVar 8) (vCons (dVar 6) (vNil)))) (rNil)))))))) = dForS (sTup (dVar 7)) (setV 6) duB := rfl
theorem ab1_len (l : List Int) : (ab1 l).length = l.length := by unfold ab1; rw [List.length_map]
theorem ab1_mem {l : List Int} (h : ∀ x ∈ l, x.natAbs ≤ 10000000000000000000000000000000000000000000000000000000) : ∀ x ∈ ab1 l, 1 ≤ x ∧ x.natAbs ≤ 10000000000000000000000000000000000000000000000000000000 + 1 := fun x hx => by
  obtain ⟨y, hy, rfl⟩ := List.mem_map.mp hx
  have := h y hy
  omega
theorem e_commons {n : Nat} {d : D} (h : Bag n d) (hn : n ≤ 800000) : ∃ d', Bag (n + 12) d' ∧ F_q_commons_right [(true, d)] = .ret false (.bl true) [d'] := by
  obtain ⟨s, hi, d1, s1, s2, h1, h2, b1, t0⟩ := cr0 h (by omega)
  obtain ⟨m, d2, m1, m9, b2, t1⟩ := cr1 (c1 := some (.val (.int s))) (c2 := some (.val (.int hi))) b1 (by omega)
  obtain ⟨l, d3, hl, hx, b3, t2⟩ := cr2 b2 (by omega) ⟨s1, s2⟩ ⟨h1, h2⟩ m9
  subst hl
  have t3 := cr3 (c0 := some (.mu true d3)) (c1 := some (.val (.int s))) (c2 := some (.val (.int hi))) (c4 := none) (c6 := none) (c7 := none) (c8 := none) m1 m9 (fun x k => by have := hx x k; omega)
  have t4 := cr4 (c0 := some (.mu true d3)) (c1 := some (.val (.int s))) (c2 := some (.val (.int hi))) (c3 := some (.val (.int (l.length : Int)))) (c4 := none) m9
  have hab := ab1_mem hx
  have hal := ab1_len l
  obtain ⟨e6, k6, lp⟩ := du_loop (c0 := some (.mu true d3)) (c1 := some (.val (.int s))) (c2 := some (.val (.int hi))) (c3 := some (.val (.int (l.length : Int)))) (c4 := none) (c5 := some (.val (pd l))) (c7 := some (.val (pd (ab1 l)))) (ab1 l) 1 none (.inl rfl) (by decide)
    (fun x k => ⟨(hab x k).1, by have := (hab x k).2; omega⟩) (lcm9 (by omega) hab)
  have t6 := cr6 (c0 := some (.mu true d3)) (c1 := some (.val (.int s))) (c2 := some (.val (.int hi))) (c4 := none) (c5 := some (.val (pd l))) (c6 := e6) (a := ab1 l) (by omega) (by omega) hab
  rw [hal] at t6
  refine ⟨d3, b3.mono (by omega), ?_⟩
  have t5 : (dForS (sTup (dVar 7)) (setV 6) (dSet 8 (dBin divD (oD (dBin mulD (oVar 8) (oVar 6))) (oD (dV (dCal2 1 F_q_nb_divisor (rVal (dTup (vCons (dVar 8) (vCons (dVar 6) (vNil)))) (rNil)))))))) [some (.mu true d3), some (.val (.int s)), some (.val (.int hi)), some (.val (.int (l.length : Int))), none, some (.val (pd l)), none, some (.val (pd (ab1 l))), some (.val (.int ((1 : Nat) : Int)))] = .nx [some (.mu true d3), some (.val (.int s)), some (.val (.int hi)), some (.val (.int (l.length : Int))), none, some (.val (pd l)), e6, some (.val (pd (ab1 l))), some (.val (.int (lcmL 1 (ab1 l) : Nat)))] := by
    rw [cr5_eq, dForS_ap, sTup_ap, dVar_ap]
    simp only [List.getElem?_cons_zero, List.getElem?_cons_succ, DF.R.bind_ok, DF.R.bindS_ok]
    exact lp
  unfold F_q_commons_right B_q_commons_right
  rw [show startE 9 [(true, d)] = [some (.mu true d), none, none, none, none, none, none, none, none] from rfl, dSeq_ap, t0, SR.bind_nx, dSeq_ap, t1, SR.bind_nx, dSeq_ap, t2, SR.bind_nx, dSeq_ap, t3, SR.bind_nx, dSeq_ap, t4, SR.bind_nx, dSeq_ap, t5, SR.bind_nx, t6]
  rfl
end K01

namespace K01
open PySem DF KF
/-! ### factors -/
def pfI : DEnv → DF.R Bool := dTst (dBin eqY (oD (dBin modD (oVar 2) (oVar 3))) (oD (dC (.int 0))))
def pfO : DEnv → DF.R Bool := dTst (dBin leD (oD (dBin mulD (oVar 3) (oVar 3))) (oVar 2))
def pfB : DEnv → SR := dSeq (dSetK 1 (dVar 3) (dBin addD (oD (dGet2 (oVar 1) (dVar 3) (dC (.int 0)))) (oD (dC (.int 1))))) (dSet 2 (dBin divD (oVar 2) (oVar 3)))
def pfS : DEnv → SR := dSet 3 (dIte (dTst (dBin eqY (oVar 3) (oD (dC (.int 2))))) (dBin addD (oVar 3) (oD (dC (.int 1)))) (dBin addD (oVar 3) (oD (dC (.int 2)))))
def pnx (d : Nat) : Nat := if d = 2 then 3 else d + 2
theorem nmod {m d : Nat} (h : 0 < d) : modD (.int (m : Int)) (.int (d : Int)) = some (.int ((m % d : Nat) : Int)) := by
  rw [modD_ap (by omega), fm (by omega)]; rfl
theorem ndiv {m d : Nat} (h : 0 < d) (h2 : Sm d) : divD (.int (m : Int)) (.int (d : Int)) = some (.int ((m / d : Nat) : Int)) := by
  rw [divD_ap (cd (by omega) h2), fd (by omega)]; rfl
theorem nmul {m d : Nat} (h : Sm m) (h2 : Sm d) : mulD (.int (m : Int)) (.int (d : Int)) = some (.int ((m * d : Nat) : Int)) := by
  rw [mulD_ap (cm h h2)]; rfl
theorem pfI_ap (c0 : Option Cell) (l : List (Nat × Nat)) (m d : Nat) (h : 2 ≤ d) : pfI (fEnv c0 l m d) = .ok (fEnv c0 l m d) (decide (m % d = 0)) := by
  have e := nmod (m := m) (d := d) (by omega)
  generalize m % d = r at *
  unfold pfI fEnv
  generalize fdD l = L
  simp [eqY_int, neY_int, max2_ap, min2_ap, DF.R.bind_ok, DF.R.bindS_ok, DF.R.bindN_ok, DF.SR.bind_nx, DF.SR.bind_ret, ofO, ths, setV, setF, free, set2, set3, fnRes, startE, startC, outs, argsD, putD, ioIx, isMu, look, DF.muL, ltD_ap, leD_ap, gtD_ap, geD_ap, addD_ap, subD_ap, negD_ap, absD_ap, intD_ap, intD_apB, eq_int, ne_int, ixD, L2.atI, L2.ixN, lenD, gcdD, max2D, min2D, e]
theorem pfO_ap (c0 : Option Cell) (l : List (Nat × Nat)) (m d : Nat) (h : d ≤ 100000) : pfO (fEnv c0 l m d) = .ok (fEnv c0 l m d) (decide (d * d ≤ m)) := by
  have e := nmul (m := d) (d := d) (sm_of (by omega)) (sm_of (by omega))
  generalize d * d = r at *
  unfold pfO fEnv
  generalize fdD l = L
  simp [eqY_int, neY_int, max2_ap, min2_ap, DF.R.bind_ok, DF.R.bindS_ok, DF.R.bindN_ok, DF.SR.bind_nx, DF.SR.bind_ret, ofO, ths, setV, setF, free, set2, set3, fnRes, startE, startC, outs, argsD, putD, ioIx, isMu, look, DF.muL, ltD_ap, leD_ap, gtD_ap, geD_ap, addD_ap, subD_ap, negD_ap, absD_ap, intD_ap, intD_apB, eq_int, ne_int, ixD, L2.atI, L2.ixN, lenD, gcdD, max2D, min2D, e]
theorem pfB_ap (c0 : Option Cell) (l l' : List (Nat × Nat)) (e m d : Nat) (h : 2 ≤ d) (h2 : d ≤ 100000) (hv : (valD (fdD l) (.inl (d : Int))).getD (.int 0) = .int (e : Int)) (hi : insD (fdD l) (.inl (d : Int)) (.int ((e : Int) + 1)) = fdD l') (hl : l.length < 16000000) :
    pfB (fEnv c0 l m d) = .nx (fEnv c0 l' (m / d) d) := by
  have q := ndiv (m := m) (d := d) (by omega) (sm_of (by omega))
  rw [← fdD_length] at hl
  generalize m / d = r at *
  unfold pfB fEnv
  generalize fdD l = L at *
  generalize fdD l' = L' at *
  simp [eqY_int, neY_int, max2_ap, min2_ap, DF.R.bind_ok, DF.R.bindS_ok, DF.R.bindN_ok, DF.SR.bind_nx, DF.SR.bind_ret, ofO, ths, setV, setF, free, set2, set3, fnRes, startE, startC, outs, argsD, putD, ioIx, isMu, look, DF.muL, ltD_ap, leD_ap, gtD_ap, geD_ap, addD_ap, subD_ap, negD_ap, absD_ap, intD_ap, intD_apB, eq_int, ne_int, ixD, L2.atI, L2.ixN, lenD, gcdD, max2D, min2D, q, hv, hi, hl, muD, keyOf]
theorem pfS_ap (c0 : Option Cell) (l : List (Nat × Nat)) (m d : Nat) : pfS (fEnv c0 l m d) = .nx (fEnv c0 l m (pnx d)) := by
  unfold pfS fEnv pnx
  generalize fdD l = L
  by_cases h : d = 2
  · subst h; simp [eqY_int, neY_int, max2_ap, min2_ap, DF.R.bind_ok, DF.R.bindS_ok, DF.R.bindN_ok, DF.SR.bind_nx, DF.SR.bind_ret, ofO, ths, setV, setF, free, set2, set3, fnRes, startE, startC, outs, argsD, putD, ioIx, isMu, look, DF.muL, ltD_ap, leD_ap, gtD_ap, geD_ap, addD_ap, subD_ap, negD_ap, absD_ap, intD_ap, intD_apB, eq_int, ne_int, ixD, L2.atI, L2.ixN, lenD, gcdD, max2D, min2D]
  · have h' : ¬ ((d : Int) = 2) := by omega
    simp [eqY_int, neY_int, max2_ap, min2_ap, DF.R.bind_ok, DF.R.bindS_ok, DF.R.bindN_ok, DF.SR.bind_nx, DF.SR.bind_ret, ofO, ths, setV, setF, free, set2, set3, fnRes, startE, startC, outs, argsD, putD, ioIx, isMu, look, DF.muL, ltD_ap, leD_ap, gtD_ap, geD_ap, addD_ap, subD_ap, negD_ap, absD_ap, intD_ap, intD_apB, eq_int, ne_int, ixD, L2.atI, L2.ixN, lenD, gcdD, max2D, min2D, h, h']
theorem pf_trial : Trial pfI pfO pfB pfS pnx where
  tI c0 l m d h _ := pfI_ap c0 l m d h
  tO c0 l m d h := pfO_ap c0 l m d h
  bI := pfB_ap
  bS c0 l m d _ := pfS_ap c0 l m d
  up d := by unfold pnx; split <;> omega
theorem last_key {acc : List (Nat × Nat)} {d m : Nat} (hno : No d m) (hk : ∀ p ∈ acc, p.1 < d) (hm : 1 < m) : ∀ p ∈ acc, p.1 ≠ m := fun p hp z => by
  have := hk p hp
  exact hno m (by omega) (by omega) (Nat.dvd_refl _)
theorem pf5 (c0 : Option Cell) (acc : List (Nat × Nat)) (m d : Nat) (hm : 1 ≤ m) (hl : acc.length < 16000000) (hk : 1 < m → ∀ p ∈ acc, p.1 ≠ m) : (dIf (dTst (dBin gtD (oVar 2) (oD (dC (.int 1))))) (dSetK 1 (dVar 2) (dC (.int 1))) (SR.nx)) (fEnv c0 acc m d) = .nx (fEnv c0 (acc ++ last m) m d) := by
  unfold last fEnv
  by_cases h : 1 < m
  · have hi := fd_ins0 (v := 1) (hk h)
    have hl' : (fdD acc).length < 16000000 := by rw [fdD_length]; exact hl
    have hi : insD (fdD acc) (.inl (m : Int)) (.int 1) = fdD (acc ++ [(m, 1)]) := hi
    have h' : (1 : Int) < (m : Int) := by omega
    rw [if_pos h]
    generalize fdD (acc ++ [(m, 1)]) = L' at *
    generalize fdD acc = L at *
    simp [eqY_int, neY_int, max2_ap, min2_ap, DF.R.bind_ok, DF.R.bindS_ok, DF.R.bindN_ok, DF.SR.bind_nx, DF.SR.bind_ret, ofO, ths, setV, setF, free, set2, set3, fnRes, startE, startC, outs, argsD, putD, ioIx, isMu, look, DF.muL, ltD_ap, leD_ap, gtD_ap, geD_ap, addD_ap, subD_ap, negD_ap, absD_ap, intD_ap, intD_apB, eq_int, ne_int, ixD, L2.atI, L2.ixN, lenD, gcdD, max2D, min2D, h', hi, hl', muD, keyOf]
  · rw [if_neg h, List.append_nil]
    have h' : ¬ (1 : Int) < (m : Int) := by omega
    generalize fdD acc = L at *
    simp [eqY_int, neY_int, max2_ap, min2_ap, DF.R.bind_ok, DF.R.bindS_ok, DF.R.bindN_ok, DF.SR.bind_nx, DF.SR.bind_ret, ofO, ths, setV, setF, free, set2, set3, fnRes, startE, startC, outs, argsD, putD, ioIx, isMu, look, DF.muL, ltD_ap, leD_ap, gtD_ap, geD_ap, addD_ap, subD_ap, negD_ap, absD_ap, intD_ap, intD_apB, eq_int, ne_int, ixD, L2.atI, L2.ixN, lenD, gcdD, max2D, min2D, h']
theorem e_pf {N : Nat} (h1 : 1 ≤ N) (h2 : N ≤ 10 ^ 9) : F_prime_factors [(false, .int (N : Int))] = .ret true (.dic (fdD (facs 2 N))) [] := by
  have s0 := e_checknum (N : Int) 1 1000000000 (by omega) (by omega) (by omega)
  have hfu : N < fuel [(false, .int (N : Int))] := by simp [fuel, intsOf]
  obtain ⟨acc, d, m, d2, m1, hno, hk, hl, hd4, hdd, hf, lp⟩ := trial_out pf_trial (c0 := some (.val (.int (N : Int)))) (n := fuel [(false, .int (N : Int))]) (N := N) (fun d m => d = 2 ∨ (d % 2 = 1 ∧ m % 2 = 1)) h1 h2 hfu (.inl rfl) (by
    intro d m hd ok hm
    obtain ⟨t1, t2, t3⟩ := tr_spec hd hm
    rcases ok with rfl | ⟨o1, o2⟩
    · refine ⟨fun p p1 p2 => by unfold pnx at p2; simp at p2; omega, .inr ⟨rfl, by omega⟩⟩
    · have or := odd_dvd o2 (rs_dvd hd hm)
      have hd2 : d ≠ 2 := by omega
      unfold pnx
      rw [if_neg hd2]
      refine ⟨fun p p1 p2 pd => ?_, .inr ⟨by omega, or⟩⟩
      have := odd_dvd or pd
      omega)
  unfold F_prime_factors
  refine fn_of (P := fun r => r = _) ?_
  unfold B_prime_factors
  refine wp_seq (ρ' := [some (.val (.int (N : Int))), none, none, none]) (by simp [eqY_int, neY_int, max2_ap, min2_ap, DF.R.bind_ok, DF.R.bindS_ok, DF.R.bindN_ok, DF.SR.bind_nx, DF.SR.bind_ret, ofO, ths, setV, setF, free, set2, set3, fnRes, startE, startC, outs, argsD, putD, ioIx, isMu, look, DF.muL, ltD_ap, leD_ap, gtD_ap, geD_ap, addD_ap, subD_ap, negD_ap, absD_ap, intD_ap, intD_apB, eq_int, ne_int, ixD, L2.atI, L2.ixN, lenD, gcdD, max2D, min2D, s0]) ?_
  refine wp_seq (ρ' := [some (.val (.int (N : Int))), some (.mu false (.dic [])), none, none]) (by simp [eqY_int, neY_int, max2_ap, min2_ap, DF.R.bind_ok, DF.R.bindS_ok, DF.R.bindN_ok, DF.SR.bind_nx, DF.SR.bind_ret, ofO, ths, setV, setF, free, set2, set3, fnRes, startE, startC, outs, argsD, putD, ioIx, isMu, look, DF.muL, ltD_ap, leD_ap, gtD_ap, geD_ap, addD_ap, subD_ap, negD_ap, absD_ap, intD_ap, intD_apB, eq_int, ne_int, ixD, L2.atI, L2.ixN, lenD, gcdD, max2D, min2D]) ?_
  refine wp_seq (ρ' := [some (.val (.int (N : Int))), some (.mu false (.dic [])), some (.val (.int (N : Int))), none]) (by simp [eqY_int, neY_int, max2_ap, min2_ap, DF.R.bind_ok, DF.R.bindS_ok, DF.R.bindN_ok, DF.SR.bind_nx, DF.SR.bind_ret, ofO, ths, setV, setF, free, set2, set3, fnRes, startE, startC, outs, argsD, putD, ioIx, isMu, look, DF.muL, ltD_ap, leD_ap, gtD_ap, geD_ap, addD_ap, subD_ap, negD_ap, absD_ap, intD_ap, intD_apB, eq_int, ne_int, ixD, L2.atI, L2.ixN, lenD, gcdD, max2D, min2D]) ?_
  refine wp_seq (ρ' := [some (.val (.int (N : Int))), some (.mu false (.dic [])), some (.val (.int (N : Int))), some (.val (.int 2))]) (by simp [eqY_int, neY_int, max2_ap, min2_ap, DF.R.bind_ok, DF.R.bindS_ok, DF.R.bindN_ok, DF.SR.bind_nx, DF.SR.bind_ret, ofO, ths, setV, setF, free, set2, set3, fnRes, startE, startC, outs, argsD, putD, ioIx, isMu, look, DF.muL, ltD_ap, leD_ap, gtD_ap, geD_ap, addD_ap, subD_ap, negD_ap, absD_ap, intD_ap, intD_apB, eq_int, ne_int, ixD, L2.atI, L2.ixN, lenD, gcdD, max2D, min2D]) ?_
  refine wp_seq lp ?_
  refine wp_seq (pf5 _ acc m d m1 (by omega) (last_key hno hk)) ?_
  rw [← hf]
  exact wp_rt rfl ⟨[], rfl, rfl⟩
end K01

namespace K01
open PySem DF KF
/-! ### the law's own factors -/
def nfB : DEnv → SR := dAsg (dTup (vCons (dBin addD (oD (dGet2 (oVar 1) (dVar 3) (dC (.int 0)))) (oD (dC (.int 1)))) (vCons (dBin divD (oVar 2) (oVar 3)) (vNil)))) (gTp 2 (gsCons (setK 1 (dVar 3)) (gsCons (setV 2) (gsNil))))
def nfS : DEnv → SR := dSet 3 (dBin addD (oVar 3) (oD (dC (.int 1))))
theorem nfB_ap (c0 : Option Cell) (l l' : List (Nat × Nat)) (e m d : Nat) (h : 2 ≤ d) (h2 : d ≤ 100000) (hv : (valD (fdD l) (.inl (d : Int))).getD (.int 0) = .int (e : Int)) (hi : insD (fdD l) (.inl (d : Int)) (.int ((e : Int) + 1)) = fdD l') (hl : l.length < 16000000) :
    nfB (fEnv c0 l m d) = .nx (fEnv c0 l' (m / d) d) := by
  have q := ndiv (m := m) (d := d) (by omega) (sm_of (by omega))
  rw [← fdD_length] at hl
  generalize m / d = r at *
  unfold nfB fEnv
  generalize fdD l = L at *
  generalize fdD l' = L' at *
  simp [eqY_int, neY_int, max2_ap, min2_ap, DF.R.bind_ok, DF.R.bindS_ok, DF.R.bindN_ok, DF.SR.bind_nx, DF.SR.bind_ret, ofO, ths, setV, setF, free, set2, set3, fnRes, startE, startC, outs, argsD, putD, ioIx, isMu, look, DF.muL, ltD_ap, leD_ap, gtD_ap, geD_ap, addD_ap, subD_ap, negD_ap, absD_ap, intD_ap, intD_apB, eq_int, ne_int, ixD, L2.atI, L2.ixN, lenD, gcdD, max2D, min2D, q, hv, hi, hl, muD, keyOf, setK]
theorem nfS_ap (c0 : Option Cell) (l : List (Nat × Nat)) (m d : Nat) : nfS (fEnv c0 l m d) = .nx (fEnv c0 l m (d + 1)) := by
  unfold nfS fEnv
  generalize fdD l = L
  simp [eqY_int, neY_int, max2_ap, min2_ap, DF.R.bind_ok, DF.R.bindS_ok, DF.R.bindN_ok, DF.SR.bind_nx, DF.SR.bind_ret, ofO, ths, setV, setF, free, set2, set3, fnRes, startE, startC, outs, argsD, putD, ioIx, isMu, look, DF.muL, ltD_ap, leD_ap, gtD_ap, geD_ap, addD_ap, subD_ap, negD_ap, absD_ap, intD_ap, intD_apB, eq_int, ne_int, ixD, L2.atI, L2.ixN, lenD, gcdD, max2D, min2D]
theorem nf_trial : Trial pfI pfO nfB nfS (· + 1) where
  tI c0 l m d h _ := pfI_ap c0 l m d h
  tO c0 l m d h := pfO_ap c0 l m d h
  bI := nfB_ap
  bS c0 l m d _ := nfS_ap c0 l m d
  up d := by omega
theorem nf2 (c0 : Option Cell) (acc : List (Nat × Nat)) (m d : Nat) (hm : 1 ≤ m) (hl : acc.length < 16000000) (hk : 1 < m → ∀ p ∈ acc, p.1 ≠ m) : (dIf (dTst (dBin gtD (oVar 2) (oD (dC (.int 1))))) (dSetK 1 (dVar 2) (dBin addD (oD (dGet2 (oVar 1) (dVar 2) (dC (.int 0)))) (oD (dC (.int 1))))) (SR.nx)) (fEnv c0 acc m d) = .nx (fEnv c0 (acc ++ last m) m d) := by
  unfold last fEnv
  by_cases h : 1 < m
  · have hv := fd_val0 (hk h)
    have hi := fd_ins0 (v := 1) (hk h)
    have hl' : (fdD acc).length < 16000000 := by rw [fdD_length]; exact hl
    have hi : insD (fdD acc) (.inl (m : Int)) (.int 1) = fdD (acc ++ [(m, 1)]) := hi
    have h' : (1 : Int) < (m : Int) := by omega
    rw [if_pos h]
    generalize fdD (acc ++ [(m, 1)]) = L' at *
    generalize fdD acc = L at *
    simp [eqY_int, neY_int, max2_ap, min2_ap, DF.R.bind_ok, DF.R.bindS_ok, DF.R.bindN_ok, DF.SR.bind_nx, DF.SR.bind_ret, ofO, ths, setV, setF, free, set2, set3, fnRes, startE, startC, outs, argsD, putD, ioIx, isMu, look, DF.muL, ltD_ap, leD_ap, gtD_ap, geD_ap, addD_ap, subD_ap, negD_ap, absD_ap, intD_ap, intD_apB, eq_int, ne_int, ixD, L2.atI, L2.ixN, lenD, gcdD, max2D, min2D, h', hi, hl', hv, muD, keyOf]
  · rw [if_neg h, List.append_nil]
    have h' : ¬ (1 : Int) < (m : Int) := by omega
    generalize fdD acc = L at *
    simp [eqY_int, neY_int, max2_ap, min2_ap, DF.R.bind_ok, DF.R.bindS_ok, DF.R.bindN_ok, DF.SR.bind_nx, DF.SR.bind_ret, ofO, ths, setV, setF, free, set2, set3, fnRes, startE, startC, outs, argsD, putD, ioIx, isMu, look, DF.muL, ltD_ap, leD_ap, gtD_ap, geD_ap, addD_ap, subD_ap, negD_ap, absD_ap, intD_ap, intD_apB, eq_int, ne_int, ixD, L2.atI, L2.ixN, lenD, gcdD, max2D, min2D, h']
theorem e_nf {N : Nat} (h1 : 1 ≤ N) (h2 : N ≤ 10 ^ 9) : F_q_nb_factors [(false, .int (N : Int))] = .ret true (.dic (fdD (facs 2 N))) [] := by
  have hfu : N < fuel [(false, .int (N : Int))] := by simp [fuel, intsOf]
  obtain ⟨acc, d, m, d2, m1, hno, hk, hl, hd4, hdd, hf, lp⟩ := trial_out nf_trial (c0 := some (.val (.int (N : Int)))) (n := fuel [(false, .int (N : Int))]) (N := N) (fun d m => True) h1 h2 hfu trivial
    (fun d m _ _ _ => ⟨fun p p1 p2 => by omega, trivial⟩)
  unfold F_q_nb_factors
  refine fn_of (P := fun r => r = _) ?_
  unfold B_q_nb_factors
  refine wp_seq (ρ' := [some (.val (.int (N : Int))), some (.mu false (.dic [])), some (.val (.int (N : Int))), some (.val (.int 2))]) rfl ?_
  refine wp_seq lp ?_
  refine wp_seq (nf2 _ acc m d m1 (by omega) (last_key hno hk)) ?_
  rw [← hf]
  exact wp_rt rfl ⟨[], rfl, rfl⟩
/-! ### primes -/
theorem pr2 : Pr 2 := fun d h1 h2 _ => by have : 2 * d ≤ d * d := Nat.mul_le_mul_right _ h1; omega
theorem pr3 : Pr 3 := fun d h1 h2 _ => by have : 2 * d ≤ d * d := Nat.mul_le_mul_right _ h1; omega
theorem small_pr {v : Nat} (h2 : 2 ≤ v) (h : v < 5 ∨ v % 2 = 0 ∨ v % 3 = 0) : decide (v < 4) = decide (facs 2 v = [(v, 1)]) := by
  apply decide_eq_decide.mpr
  rw [prime_facs h2]
  constructor
  · intro z
    rcases (show v = 2 ∨ v = 3 by omega) with rfl | rfl
    · exact pr2
    · exact pr3
  · intro pr
    rcases Nat.lt_or_ge v 4 with z | z
    · exact z
    · exfalso
      rcases Nat.mod_two_eq_zero_or_one v with w | w
      · exact pr 2 (Nat.le_refl _) z (Nat.dvd_of_mod_eq_zero w)
      · have h3 : v % 3 = 0 := by omega
        exact pr 3 (by decide) (by omega) (Nat.dvd_of_mod_eq_zero h3)
theorem okC_s {s : Nat} (h : s ≤ 1000) : okC 5 ((s : Int) + 1) 6 = true := by
  unfold okC Builtin.Range.small Builtin.Range.rangeFitsLong Builtin.Range.rangeSize
  by_cases h5 : (5 : Int) < s + 1
  · simp [h5]; omega
  · simp [h5]; omega
theorem size_s {s : Nat} (k : Nat) : k < (Builtin.Range.rangeSize 5 ((s : Int) + 1) 6).toNat ↔ 5 + 6 * k ≤ s := by
  unfold Builtin.Range.rangeSize
  by_cases h5 : (5 : Int) < s + 1
  · simp [h5]; omega
  · simp [h5]; omega
def ipB : DEnv → SR := dIf (dOr (dTst (dBin eqY (oD (dBin modD (oVar 0) (oVar 1))) (oD (dC (.int 0))))) (dTst (dBin eqY (oD (dBin modD (oVar 0) (oD (dBin addD (oVar 1) (oD (dC (.int 2))))))) (oD (dC (.int 0)))))) (dRet (dC (.bl false))) (SR.nx)
theorem ipB_no {v d : Nat} (hd : 0 < d) (h1 : ¬ d ∣ v) (h2 : ¬ (d + 2) ∣ v) : ipB [some (.val (.int (v : Int))), some (.val (.int (d : Int)))] = .nx [some (.val (.int (v : Int))), some (.val (.int (d : Int)))] := by
  have e1 := nmod (m := v) (d := d) hd
  have e2 := nmod (m := v) (d := d + 2) (by omega)
  have z1 : v % d ≠ 0 := fun z => h1 (Nat.dvd_of_mod_eq_zero z)
  have z2 : v % (d + 2) ≠ 0 := fun z => h2 (Nat.dvd_of_mod_eq_zero z)
  rw [show ((d + 2 : Nat) : Int) = (d : Int) + 2 from rfl] at e2
  generalize v % d = r1 at *
  generalize v % (d + 2) = r2 at *
  unfold ipB
  simp [eqY_int, neY_int, max2_ap, min2_ap, DF.R.bind_ok, DF.R.bindS_ok, DF.R.bindN_ok, DF.SR.bind_nx, DF.SR.bind_ret, ofO, ths, setV, setF, free, set2, set3, fnRes, startE, startC, outs, argsD, putD, ioIx, isMu, look, DF.muL, ltD_ap, leD_ap, gtD_ap, geD_ap, addD_ap, subD_ap, negD_ap, absD_ap, intD_ap, intD_apB, eq_int, ne_int, ixD, L2.atI, L2.ixN, lenD, gcdD, max2D, min2D, e1, e2, z1, z2]
theorem ipB_yes {v d : Nat} (hd : 0 < d) (h1 : d ∣ v ∨ (d + 2) ∣ v) : ipB [some (.val (.int (v : Int))), some (.val (.int (d : Int)))] = .ret [some (.val (.int (v : Int))), some (.val (.int (d : Int)))] false (.bl false) := by
  have e1 := nmod (m := v) (d := d) hd
  have e2 := nmod (m := v) (d := d + 2) (by omega)
  rw [show ((d + 2 : Nat) : Int) = (d : Int) + 2 from rfl] at e2
  have z : v % d = 0 ∨ v % (d + 2) = 0 := h1.imp Nat.mod_eq_zero_of_dvd Nat.mod_eq_zero_of_dvd
  generalize v % d = r1 at *
  generalize v % (d + 2) = r2 at *
  unfold ipB
  rcases z with rfl | rfl
  · simp [eqY_int, neY_int, max2_ap, min2_ap, DF.R.bind_ok, DF.R.bindS_ok, DF.R.bindN_ok, DF.SR.bind_nx, DF.SR.bind_ret, ofO, ths, setV, setF, free, set2, set3, fnRes, startE, startC, outs, argsD, putD, ioIx, isMu, look, DF.muL, ltD_ap, leD_ap, gtD_ap, geD_ap, addD_ap, subD_ap, negD_ap, absD_ap, intD_ap, intD_apB, eq_int, ne_int, ixD, L2.atI, L2.ixN, lenD, gcdD, max2D, min2D, e1]
  · by_cases z1 : r1 = 0
    · subst z1; simp [eqY_int, neY_int, max2_ap, min2_ap, DF.R.bind_ok, DF.R.bindS_ok, DF.R.bindN_ok, DF.SR.bind_nx, DF.SR.bind_ret, ofO, ths, setV, setF, free, set2, set3, fnRes, startE, startC, outs, argsD, putD, ioIx, isMu, look, DF.muL, ltD_ap, leD_ap, gtD_ap, geD_ap, addD_ap, subD_ap, negD_ap, absD_ap, intD_ap, intD_apB, eq_int, ne_int, ixD, L2.atI, L2.ixN, lenD, gcdD, max2D, min2D, e1]
    · simp [eqY_int, neY_int, max2_ap, min2_ap, DF.R.bind_ok, DF.R.bindS_ok, DF.R.bindN_ok, DF.SR.bind_nx, DF.SR.bind_ret, ofO, ths, setV, setF, free, set2, set3, fnRes, startE, startC, outs, argsD, putD, ioIx, isMu, look, DF.muL, ltD_ap, leD_ap, gtD_ap, geD_ap, addD_ap, subD_ap, negD_ap, absD_ap, intD_ap, intD_apB, eq_int, ne_int, ixD, L2.atI, L2.ixN, lenD, gcdD, max2D, min2D, e1, e2, z1]
theorem ip_loop {v n : Nat} {E : Ps} (hyes : ∀ k, k < n → ((5 + 6 * k) ∣ v ∨ (7 + 6 * k) ∣ v) → ∀ ρ, E.rt ρ false (.bl false)) (hno : (∀ k, k < n → ¬ (5 + 6 * k) ∣ v ∧ ¬ (7 + 6 * k) ∣ v) → ∀ c1, E.nx [some (.val (.int (v : Int))), c1]) :
    Wp (dFor (setV 1) ipB ((List.range n).map fun (k : Nat) => D.int (5 + (k : Int) * 6)) [some (.val (.int (v : Int))), none]) E := by
  refine wp_for (fun (k : Nat) => D.int (5 + (k : Int) * 6)) (fun l ρ => (∀ k ∈ l, k < n) ∧ (∀ k, k < n → k ∈ l ∨ (¬ (5 + 6 * k) ∣ v ∧ ¬ (7 + 6 * k) ∣ v)) ∧ ∃ c1, Vc c1 ∧ ρ = [some (.val (.int (v : Int))), c1]) ?_ ?_ _ _ ⟨fun k hk => List.mem_range.mp hk, fun k hk => .inl (List.mem_range.mpr hk), none, .inl rfl, rfl⟩
  · rintro k l ρ ⟨hl, hh, c1, hc, rfl⟩
    refine ⟨[some (.val (.int (v : Int))), some (.val (.int (5 + (k : Int) * 6)))], by rcases hc with rfl | ⟨d, rfl⟩ <;> rfl, ?_⟩
    have ek : (5 + (k : Int) * 6) = ((5 + 6 * k : Nat) : Int) := by omega
    have kn : k < n := hl k List.mem_cons_self
    rw [ek]
    by_cases hz : (5 + 6 * k) ∣ v ∨ (7 + 6 * k) ∣ v
    · exact wp_rt (f := ipB) (ipB_yes (by omega) (by rw [show 5 + 6 * k + 2 = 7 + 6 * k by omega]; exact hz)) (hyes k kn hz _)
    · refine wp_nx (f := ipB) (ipB_no (by omega) (fun z => hz (.inl z)) (by rw [show 5 + 6 * k + 2 = 7 + 6 * k by omega]; exact fun z => hz (.inr z))) ⟨fun j hj => hl j (List.mem_cons_of_mem _ hj), fun j hj => ?_, _, .inr ⟨_, rfl⟩, rfl⟩
      rcases hh j hj with m | m
      · rcases List.mem_cons.mp m with rfl | m
        · exact .inr ⟨fun z => hz (.inl z), fun z => hz (.inr z)⟩
        · exact .inl m
      · exact .inr m
  · rintro ρ ⟨_, hh, c1, hc, rfl⟩
    exact hno (fun k hk => (hh k hk).resolve_left (by simp)) c1
theorem ip1_yes {v : Nat} (hs : v < 5 ∨ v % 2 = 0 ∨ v % 3 = 0) : (dIf (dOr (dTst (dBin ltD (oVar 0) (oD (dC (.int 5))))) (dOr (dTst (dBin eqY (oD (dBin modD (oVar 0) (oD (dC (.int 2))))) (oD (dC (.int 0))))) (dTst (dBin eqY (oD (dBin modD (oVar 0) (oD (dC (.int 3))))) (oD (dC (.int 0))))))) (dRet (dBin ltD (oVar 0) (oD (dC (.int 4))))) (SR.nx)) [some (.val (.int (v : Int))), none] = .ret [some (.val (.int (v : Int))), none] false (.bl (decide (v < 4))) := by
  have m2 : modD (.int (v : Int)) (.int 2) = some (.int ((v % 2 : Nat) : Int)) := nmod (m := v) (d := 2) (by omega)
  have m3 : modD (.int (v : Int)) (.int 3) = some (.int ((v % 3 : Nat) : Int)) := nmod (m := v) (d := 3) (by omega)
  generalize v % 2 = r2 at *
  generalize v % 3 = r3 at *
  have c1 : ((v : Int) < 4) ↔ v < 4 := by omega
  by_cases h5 : v < 5
  · have h5' : (v : Int) < 5 := by omega
    simp [eqY_int, neY_int, max2_ap, min2_ap, DF.R.bind_ok, DF.R.bindS_ok, DF.R.bindN_ok, DF.SR.bind_nx, DF.SR.bind_ret, ofO, ths, setV, setF, free, set2, set3, fnRes, startE, startC, outs, argsD, putD, ioIx, isMu, look, DF.muL, ltD_ap, leD_ap, gtD_ap, geD_ap, addD_ap, subD_ap, negD_ap, absD_ap, intD_ap, intD_apB, eq_int, ne_int, ixD, L2.atI, L2.ixN, lenD, gcdD, max2D, min2D, m2, m3, h5', c1]
  · have h5' : ¬ (v : Int) < 5 := by omega
    by_cases z2 : r2 = 0
    · subst z2
      simp [eqY_int, neY_int, max2_ap, min2_ap, DF.R.bind_ok, DF.R.bindS_ok, DF.R.bindN_ok, DF.SR.bind_nx, DF.SR.bind_ret, ofO, ths, setV, setF, free, set2, set3, fnRes, startE, startC, outs, argsD, putD, ioIx, isMu, look, DF.muL, ltD_ap, leD_ap, gtD_ap, geD_ap, addD_ap, subD_ap, negD_ap, absD_ap, intD_ap, intD_apB, eq_int, ne_int, ixD, L2.atI, L2.ixN, lenD, gcdD, max2D, min2D, m2, m3, h5', c1]
    · have z3 : r3 = 0 := by omega
      subst z3
      simp [eqY_int, neY_int, max2_ap, min2_ap, DF.R.bind_ok, DF.R.bindS_ok, DF.R.bindN_ok, DF.SR.bind_nx, DF.SR.bind_ret, ofO, ths, setV, setF, free, set2, set3, fnRes, startE, startC, outs, argsD, putD, ioIx, isMu, look, DF.muL, ltD_ap, leD_ap, gtD_ap, geD_ap, addD_ap, subD_ap, negD_ap, absD_ap, intD_ap, intD_apB, eq_int, ne_int, ixD, L2.atI, L2.ixN, lenD, gcdD, max2D, min2D, m2, m3, h5', c1, z2]
theorem ip1_no {v : Nat} (hs : ¬ (v < 5 ∨ v % 2 = 0 ∨ v % 3 = 0)) : (dIf (dOr (dTst (dBin ltD (oVar 0) (oD (dC (.int 5))))) (dOr (dTst (dBin eqY (oD (dBin modD (oVar 0) (oD (dC (.int 2))))) (oD (dC (.int 0))))) (dTst (dBin eqY (oD (dBin modD (oVar 0) (oD (dC (.int 3))))) (oD (dC (.int 0))))))) (dRet (dBin ltD (oVar 0) (oD (dC (.int 4))))) (SR.nx)) [some (.val (.int (v : Int))), none] = .nx [some (.val (.int (v : Int))), none] := by
  have m2 : modD (.int (v : Int)) (.int 2) = some (.int ((v % 2 : Nat) : Int)) := nmod (m := v) (d := 2) (by omega)
  have m3 : modD (.int (v : Int)) (.int 3) = some (.int ((v % 3 : Nat) : Int)) := nmod (m := v) (d := 3) (by omega)
  generalize v % 2 = r2 at *
  generalize v % 3 = r3 at *
  have h5' : ¬ (v : Int) < 5 := by omega
  have z2 : ¬ r2 = 0 := by omega
  have z3 : ¬ r3 = 0 := by omega
  simp [eqY_int, neY_int, max2_ap, min2_ap, DF.R.bind_ok, DF.R.bindS_ok, DF.R.bindN_ok, DF.SR.bind_nx, DF.SR.bind_ret, ofO, ths, setV, setF, free, set2, set3, fnRes, startE, startC, outs, argsD, putD, ioIx, isMu, look, DF.muL, ltD_ap, leD_ap, gtD_ap, geD_ap, addD_ap, subD_ap, negD_ap, absD_ap, intD_ap, intD_apB, eq_int, ne_int, ixD, L2.atI, L2.ixN, lenD, gcdD, max2D, min2D, m2, m3, h5', z2, z3]
theorem sqrt_ap (v : Nat) (h : v ≤ 1000000) : sqrtD [.int (v : Int)] = some (.int ((Float64.isqrt v : Nat) : Int)) := by
  unfold sqrtD
  dsimp only
  rw [if_pos ⟨by omega, by omega⟩, Int.toNat_natCast]
theorem rng3_ap {f : DEnv → DF.R (List D)} {ρ ρ' : DEnv} {i j c : Int} (e : f ρ = .ok ρ' [.int i, .int j, .int c]) (h : okC i j c = true) : sRng3 f ρ = .ok ρ' (rngC i c (Builtin.Range.rangeSize i j c).toNat) := by
  unfold sRng3
  rw [e, DF.R.bind_ok]
  dsimp only
  rw [if_pos h]
theorem ip_v {v s : Nat} (g : List D → Option D) (hsq : g [.int (v : Int)] = some (.int (s : Int))) : vCons (dC (.int 5)) (vCons (dBin addD (oD (dCal g (aCons (oVar 0) (aNil)))) (oD (dC (.int 1)))) (vCons (dC (.int 6)) (vNil))) [some (.val (.int (v : Int))), none] = .ok [some (.val (.int (v : Int))), none] [.int 5, .int ((s : Int) + 1), .int 6] := by
  simp [eqY_int, neY_int, max2_ap, min2_ap, DF.R.bind_ok, DF.R.bindS_ok, DF.R.bindN_ok, DF.SR.bind_nx, DF.SR.bind_ret, ofO, ths, setV, setF, free, set2, set3, fnRes, startE, startC, outs, argsD, putD, ioIx, isMu, look, DF.muL, ltD_ap, leD_ap, gtD_ap, geD_ap, addD_ap, subD_ap, negD_ap, absD_ap, intD_ap, intD_apB, eq_int, ne_int, ixD, L2.atI, L2.ixN, lenD, gcdD, max2D, min2D, hsq]
theorem ip_rng {v s : Nat} (hsq : sqrtD [.int (v : Int)] = some (.int (s : Int))) (s1000 : s ≤ 1000) : sRng3 (vCons (dC (.int 5)) (vCons (dBin addD (oD (dCal sqrtD (aCons (oVar 0) (aNil)))) (oD (dC (.int 1)))) (vCons (dC (.int 6)) (vNil)))) [some (.val (.int (v : Int))), none] = .ok [some (.val (.int (v : Int))), none] ((List.range (Builtin.Range.rangeSize 5 ((s : Int) + 1) 6).toNat).map fun (k : Nat) => D.int (5 + (k : Int) * 6)) := by
  have e : vCons (dC (.int 5)) (vCons (dBin addD (oD (dCal sqrtD (aCons (oVar 0) (aNil)))) (oD (dC (.int 1)))) (vCons (dC (.int 6)) (vNil))) [some (.val (.int (v : Int))), none] = .ok [some (.val (.int (v : Int))), none] [.int 5, .int ((s : Int) + 1), .int 6] := by
    exact ip_v sqrtD hsq
  exact rng3_ap e (okC_s s1000)
theorem ip2 {v : Nat} {E : Ps} (h2 : 2 ≤ v) (hm : v ≤ 1000000) (hs : ¬ (v < 5 ∨ v % 2 = 0 ∨ v % 3 = 0)) (hyes : facs 2 v ≠ [(v, 1)] → ∀ ρ, E.rt ρ false (.bl false)) (hno : facs 2 v = [(v, 1)] → ∀ c1, E.nx [some (.val (.int (v : Int))), c1]) : Wp ((dForS (sRng3 (vCons (dC (.int 5)) (vCons (dBin addD (oD (dCal sqrtD (aCons (oVar 0) (aNil)))) (oD (dC (.int 1)))) (vCons (dC (.int 6)) (vNil))))) (setV 1) (dIf (dOr (dTst (dBin eqY (oD (dBin modD (oVar 0) (oVar 1))) (oD (dC (.int 0))))) (dTst (dBin eqY (oD (dBin modD (oVar 0) (oD (dBin addD (oVar 1) (oD (dC (.int 2))))))) (oD (dC (.int 0)))))) (dRet (dC (.bl false))) (SR.nx))) [some (.val (.int (v : Int))), none]) E := by
  have sq := Float64.isqrt_spec v
  have hsq := sqrt_ap v hm
  have wh := wheel sq.1 sq.2 (by omega) (by omega) (by omega)
  generalize Float64.isqrt v = s at *
  have s1000 : s ≤ 1000 := by
    rcases Nat.lt_or_ge 1000 s with z | z
    · have := Nat.mul_le_mul (show 1001 ≤ s from z) (show 1001 ≤ s from z)
      omega
    · exact z
  have rg := ip_rng hsq s1000
  have hsz := size_s (s := s)
  generalize (Builtin.Range.rangeSize 5 ((s : Int) + 1) 6).toNat = n at *
  generalize sRng3 (vCons (dC (.int 5)) (vCons (dBin addD (oD (dCal sqrtD (aCons (oVar 0) (aNil)))) (oD (dC (.int 1)))) (vCons (dC (.int 6)) (vNil)))) = f at *
  refine wp_forS rg (ip_loop (fun k kn hz ρ => hyes (fun z => ?_) ρ) fun hh c1 => hno ((prime_facs h2).mpr (wh.mpr fun j hj => hh j ((hsz j).mpr hj))) c1)
  have := (wh.mp ((prime_facs h2).mp z)) k ((hsz k).mp kn)
  exact hz.elim this.1 this.2
theorem ip0 {v : Nat} (h2 : 2 ≤ v) (hm : v ≤ 1000000) : (dIf (dNot (dTst (dV (dCal2 3 F_is_between (rVal (dVar 0) (rVal (dC (.int 2)) (rVal (dC (.int 1000000)) (rNil)))))))) (dRet (dC (.bl false))) (SR.nx)) [some (.val (.int (v : Int))), none] = .nx [some (.val (.int (v : Int))), none] := by
  have s0 := e_between (v : Int) 2 1000000 (by omega)
  rw [decide_eq_true (show (2 : Int) ≤ v by omega), decide_eq_true (show (v : Int) ≤ 1000000 by omega)] at s0
  simp [eqY_int, neY_int, max2_ap, min2_ap, DF.R.bind_ok, DF.R.bindS_ok, DF.R.bindN_ok, DF.SR.bind_nx, DF.SR.bind_ret, ofO, ths, setV, setF, free, set2, set3, fnRes, startE, startC, outs, argsD, putD, ioIx, isMu, look, DF.muL, ltD_ap, leD_ap, gtD_ap, geD_ap, addD_ap, subD_ap, negD_ap, absD_ap, intD_ap, intD_apB, eq_int, ne_int, ixD, L2.atI, L2.ixN, lenD, gcdD, max2D, min2D, s0]
theorem e_prime {v : Nat} (h2 : 2 ≤ v) (hm : v ≤ 1000000) : F_is_prime [(false, .int (v : Int))] = .ret false (.bl (decide (facs 2 v = [(v, 1)]))) [] := by
  unfold F_is_prime
  refine fn_of (P := fun r => r = _) ?_
  unfold B_is_prime
  refine wp_seq (ip0 h2 hm) ?_
  by_cases hs : v < 5 ∨ v % 2 = 0 ∨ v % 3 = 0
  · rw [← small_pr h2 hs]
    exact wp_seqR (ip1_yes hs) ⟨[], rfl, rfl⟩
  · refine wp_seq (ip1_no hs) ?_
    refine wp_seqW (Q := fun ρ => facs 2 v = [(v, 1)] ∧ ∃ c1, ρ = [some (.val (.int (v : Int))), c1]) (ip2 h2 hm hs (fun z ρ => ⟨[], rfl, by rw [decide_eq_false z]⟩) fun z c1 => ⟨z, c1, rfl⟩) ?_
    rintro ρ ⟨hh, c1, rfl⟩
    rw [decide_eq_true hh]
    exact wp_rt (fr := false) (d := .bl true) rfl ⟨[], rfl, rfl⟩
end K01

namespace K01
open PySem DF KF
theorem p60 : powD (.int 10) (.int 60) = some (.int 1000000000000000000000000000000000000000000000000000000000000) := powD_ap (by decide +kernel)
theorem p6 : powD (.int 10) (.int 6) = some (.int 1000000) := powD_ap (by decide +kernel)
theorem p9 : powD (.int 10) (.int 9) = some (.int 1000000000) := powD_ap (by decide +kernel)
def shB (i : Int) : Bool := decide (i.natAbs ≤ 999999999999999999999999999999999999999999999999999999999999)
def prB (i : Int) : Bool := decide (2 ≤ i) && (decide (i ≤ 1000000) && decide (facs 2 i.toNat = [(i.toNat, 1)]))
theorem e_short (i : Int) : F_q_nb_is_short [(false, .int i)] = .ret false (.bl (shB i)) [] := by
  unfold F_q_nb_is_short B_q_nb_is_short shB
  simp [eqY_int, neY_int, max2_ap, min2_ap, DF.R.bind_ok, DF.R.bindS_ok, DF.R.bindN_ok, DF.SR.bind_nx, DF.SR.bind_ret, ofO, ths, setV, setF, free, set2, set3, fnRes, startE, startC, outs, argsD, putD, ioIx, isMu, look, DF.muL, ltD_ap, leD_ap, gtD_ap, geD_ap, addD_ap, subD_ap, negD_ap, absD_ap, intD_ap, intD_apB, eq_int, ne_int, ixD, L2.atI, L2.ixN, lenD, gcdD, max2D, min2D, isiD, tyN, k_ii, k_ib, p60]
  omega
theorem e_between' (i : Int) : F_is_between [(false, .int i), (false, .int 2), (false, .int 1000000)] = .ret false (.bl (decide (2 ≤ i) && decide (i ≤ 1000000))) [] := by
  by_cases hi : i.natAbs ≤ 999999999999999999999999999999999999999999999999999999999999
  · exact e_between i 2 1000000 hi
  · have : (decide (2 ≤ i) && decide (i ≤ 1000000)) = false := by
      rw [Bool.and_eq_false_iff]
      by_cases h : 2 ≤ i
      · right; exact decide_eq_false (by omega)
      · left; exact decide_eq_false h
    rw [this]
    unfold F_is_between B_is_between
    simp [eqY_int, neY_int, max2_ap, min2_ap, DF.R.bind_ok, DF.R.bindS_ok, DF.R.bindN_ok, DF.SR.bind_nx, DF.SR.bind_ret, ofO, ths, setV, setF, free, set2, set3, fnRes, startE, startC, outs, argsD, putD, ioIx, isMu, look, DF.muL, ltD_ap, leD_ap, gtD_ap, geD_ap, addD_ap, subD_ap, negD_ap, absD_ap, intD_ap, intD_apB, eq_int, ne_int, ixD, L2.atI, L2.ixN, lenD, gcdD, max2D, min2D, e_isint, hi]
theorem e_primeI (i : Int) : F_is_prime [(false, .int i)] = .ret false (.bl (prB i)) [] := by
  by_cases h : 2 ≤ i ∧ i ≤ 1000000
  · have e := e_prime (v := i.toNat) (by omega) (by omega)
    rw [show ((i.toNat : Nat) : Int) = i by omega] at e
    rw [e]
    unfold prB
    rw [decide_eq_true h.1, decide_eq_true h.2, Bool.true_and, Bool.true_and]
  · have e := e_between' i
    have z : (decide (2 ≤ i) && decide (i ≤ 1000000)) = false := by
      rw [Bool.and_eq_false_iff, decide_eq_false_iff_not, decide_eq_false_iff_not]; omega
    have z2 : prB i = false := by
      unfold prB
      rw [← Bool.and_assoc, z, Bool.false_and]
    rw [z] at e
    rw [z2]
    unfold F_is_prime
    refine fn_of (P := fun r => r = _) ?_
    unfold B_is_prime
    exact wp_seqR (fr := false) (d := .bl false) (ρ' := [some (.val (.int i)), none]) (by simp [eqY_int, neY_int, max2_ap, min2_ap, DF.R.bind_ok, DF.R.bindS_ok, DF.R.bindN_ok, DF.SR.bind_nx, DF.SR.bind_ret, ofO, ths, setV, setF, free, set2, set3, fnRes, startE, startC, outs, argsD, putD, ioIx, isMu, look, DF.muL, ltD_ap, leD_ap, gtD_ap, geD_ap, addD_ap, subD_ap, negD_ap, absD_ap, intD_ap, intD_apB, eq_int, ne_int, ixD, L2.atI, L2.ixN, lenD, gcdD, max2D, min2D, e]) ⟨[], rfl, rfl⟩
theorem disp1 (v : Nat) : dDisp [(dVar 0, dC (.int 1))] [some (.val (.int (v : Int)))] = .ok [some (.val (.int (v : Int)))] (.dic (fdD [(v, 1)])) := rfl
theorem e_nbprime (i : Int) : F_q_nb_is_prime [(false, .int i)] = .ret false (.bl (prB i)) [] := by
  have es := e_short i
  by_cases hs : shB i = true
  · rw [hs] at es
    by_cases h : 2 ≤ i ∧ i ≤ 1000000
    · have e := e_nf (N := i.toNat) (by omega) (by omega)
      have hq := eqY_fd (facs 2 i.toNat) [(i.toNat, 1)]
      have hp := disp1 i.toNat
      rw [eqF_one] at hq
      have hb : prB i = decide (facs 2 i.toNat = [(i.toNat, 1)]) := by
        unfold prB
        rw [decide_eq_true h.1, decide_eq_true h.2, Bool.true_and, Bool.true_and]
      rw [hb]
      rw [show ((i.toNat : Nat) : Int) = i by omega] at e hp
      generalize decide (facs 2 i.toNat = [(i.toNat, 1)]) = b at *
      generalize fdD [(i.toNat, 1)] = L' at *
      generalize fdD (facs 2 i.toNat) = L at *
      unfold F_q_nb_is_prime B_q_nb_is_prime
      generalize dDisp [(dVar 0, dC (.int 1))] = g at *
      simp [eqY_int, neY_int, max2_ap, min2_ap, DF.R.bind_ok, DF.R.bindS_ok, DF.R.bindN_ok, DF.SR.bind_nx, DF.SR.bind_ret, ofO, ths, setV, setF, free, set2, set3, fnRes, startE, startC, outs, argsD, putD, ioIx, isMu, look, DF.muL, ltD_ap, leD_ap, gtD_ap, geD_ap, addD_ap, subD_ap, negD_ap, absD_ap, intD_ap, intD_apB, eq_int, ne_int, ixD, L2.atI, L2.ixN, lenD, gcdD, max2D, min2D, es, p6, h.1, h.2, e, hp, hq]
    · have z2 : prB i = false := by
        unfold prB
        rw [← Bool.and_assoc]
        have z : (decide (2 ≤ i) && decide (i ≤ 1000000)) = false := by
          rw [Bool.and_eq_false_iff, decide_eq_false_iff_not, decide_eq_false_iff_not]; omega
        rw [z, Bool.false_and]
      rw [z2]
      unfold F_q_nb_is_prime B_q_nb_is_prime
      generalize dDisp [(dVar 0, dC (.int 1))] = g at *
      by_cases h1 : 2 ≤ i
      · have h2 : ¬ i ≤ 1000000 := by omega
        simp [eqY_int, neY_int, max2_ap, min2_ap, DF.R.bind_ok, DF.R.bindS_ok, DF.R.bindN_ok, DF.SR.bind_nx, DF.SR.bind_ret, ofO, ths, setV, setF, free, set2, set3, fnRes, startE, startC, outs, argsD, putD, ioIx, isMu, look, DF.muL, ltD_ap, leD_ap, gtD_ap, geD_ap, addD_ap, subD_ap, negD_ap, absD_ap, intD_ap, intD_apB, eq_int, ne_int, ixD, L2.atI, L2.ixN, lenD, gcdD, max2D, min2D, es, p6, h1, h2]
      · simp [eqY_int, neY_int, max2_ap, min2_ap, DF.R.bind_ok, DF.R.bindS_ok, DF.R.bindN_ok, DF.SR.bind_nx, DF.SR.bind_ret, ofO, ths, setV, setF, free, set2, set3, fnRes, startE, startC, outs, argsD, putD, ioIx, isMu, look, DF.muL, ltD_ap, leD_ap, gtD_ap, geD_ap, addD_ap, subD_ap, negD_ap, absD_ap, intD_ap, intD_apB, eq_int, ne_int, ixD, L2.atI, L2.ixN, lenD, gcdD, max2D, min2D, es, p6, h1]
  · have hs : shB i = false := by simpa using hs
    rw [hs] at es
    have z2 : prB i = false := by
      unfold shB at hs
      unfold prB
      rw [decide_eq_false_iff_not] at hs
      rw [← Bool.and_assoc]
      have z : (decide (2 ≤ i) && decide (i ≤ 1000000)) = false := by
        rw [Bool.and_eq_false_iff, decide_eq_false_iff_not, decide_eq_false_iff_not]; omega
      rw [z, Bool.false_and]
    rw [z2]
    unfold F_q_nb_is_prime B_q_nb_is_prime
    generalize dDisp [(dVar 0, dC (.int 1))] = g at *
    simp [eqY_int, neY_int, max2_ap, min2_ap, DF.R.bind_ok, DF.R.bindS_ok, DF.R.bindN_ok, DF.SR.bind_nx, DF.SR.bind_ret, ofO, ths, setV, setF, free, set2, set3, fnRes, startE, startC, outs, argsD, putD, ioIx, isMu, look, DF.muL, ltD_ap, leD_ap, gtD_ap, geD_ap, addD_ap, subD_ap, negD_ap, absD_ap, intD_ap, intD_apB, eq_int, ne_int, ixD, L2.atI, L2.ixN, lenD, gcdD, max2D, min2D, es]
/-! ### the sign -/
theorem fd_vals (l : List (Nat × Nat)) : (fdD l).map (fun p => p.2) = l.map fun p => D.int (p.2 : Int) := by
  unfold fdD
  rw [List.map_map]
  rfl
theorem e_mu {N : Nat} (h1 : 1 ≤ N) (h2 : N ≤ 1000000) : F_moebius [(false, .int (N : Int))] = .ret false (.int (mu N)) [] := by
  have s0 := e_checknum (N : Int) 1 1000000 (by omega) (by omega) (by omega)
  have e := e_pf h1 (show N ≤ 10 ^ 9 by omega)
  unfold mu F_moebius
  generalize facs 2 N = l0 at *
  refine fn_of (P := fun r => r = _) ?_
  unfold B_moebius
  refine wp_seq (ρ' := [some (.val (.int (N : Int))), none, none]) (by simp [eqY_int, neY_int, max2_ap, min2_ap, DF.R.bind_ok, DF.R.bindS_ok, DF.R.bindN_ok, DF.SR.bind_nx, DF.SR.bind_ret, ofO, ths, setV, setF, free, set2, set3, fnRes, startE, startC, outs, argsD, putD, ioIx, isMu, look, DF.muL, ltD_ap, leD_ap, gtD_ap, geD_ap, addD_ap, subD_ap, negD_ap, absD_ap, intD_ap, intD_apB, eq_int, ne_int, ixD, L2.atI, L2.ixN, lenD, gcdD, max2D, min2D, s0]) ?_
  refine wp_seq (ρ' := [some (.val (.int (N : Int))), some (.val (.int 1)), none]) (by simp [eqY_int, neY_int, max2_ap, min2_ap, DF.R.bind_ok, DF.R.bindS_ok, DF.R.bindN_ok, DF.SR.bind_nx, DF.SR.bind_ret, ofO, ths, setV, setF, free, set2, set3, fnRes, startE, startC, outs, argsD, putD, ioIx, isMu, look, DF.muL, ltD_ap, leD_ap, gtD_ap, geD_ap, addD_ap, subD_ap, negD_ap, absD_ap, intD_ap, intD_apB, eq_int, ne_int, ixD, L2.atI, L2.ixN, lenD, gcdD, max2D, min2D]) ?_
  have rg : sVals (dV (dCal2 1 F_prime_factors (rVal (dVar 0) (rNil)))) [some (.val (.int (N : Int))), some (.val (.int 1)), none] = .ok [some (.val (.int (N : Int))), some (.val (.int 1)), none] (l0.map fun p => D.int (p.2 : Int)) := by
    rw [← fd_vals]
    generalize fdD l0 = L at *
    simp [eqY_int, neY_int, max2_ap, min2_ap, DF.R.bind_ok, DF.R.bindS_ok, DF.R.bindN_ok, DF.SR.bind_nx, DF.SR.bind_ret, ofO, ths, setV, setF, free, set2, set3, fnRes, startE, startC, outs, argsD, putD, ioIx, isMu, look, DF.muL, ltD_ap, leD_ap, gtD_ap, geD_ap, addD_ap, subD_ap, negD_ap, absD_ap, intD_ap, intD_apB, eq_int, ne_int, ixD, L2.atI, L2.ixN, lenD, gcdD, max2D, min2D, e]
  refine wp_seqW (Q := fun ρ => ∃ c2, ρ = [some (.val (.int (N : Int))), some (.val (.int (muL l0))), c2]) (wp_forS rg (wp_for (fun (p : Nat × Nat) => D.int (p.2 : Int)) (fun l ρ => ∃ s c2, Vc c2 ∧ s * muL l = muL l0 ∧ ρ = [some (.val (.int (N : Int))), some (.val (.int s)), c2]) ?_ ?_ _ _ ⟨1, none, .inl rfl, Int.one_mul _, rfl⟩)) ?_
  · rintro p l ρ ⟨s, c2, hc, hm, rfl⟩
    refine ⟨[some (.val (.int (N : Int))), some (.val (.int s)), some (.val (.int (p.2 : Int)))], by rcases hc with rfl | ⟨d, rfl⟩ <;> rfl, ?_⟩
    have hp : muL (p :: l) = if 1 < p.2 then 0 else - muL l := rfl
    rw [hp] at hm
    have c1 : ((1 : Int) < (p.2 : Int)) ↔ 1 < p.2 := by omega
    by_cases hz : 1 < p.2
    · rw [if_pos hz, Int.mul_zero] at hm
      refine wp_seqR (fr := false) (d := .int 0) (ρ' := [some (.val (.int (N : Int))), some (.val (.int s)), some (.val (.int (p.2 : Int)))]) (by simp [eqY_int, neY_int, max2_ap, min2_ap, DF.R.bind_ok, DF.R.bindS_ok, DF.R.bindN_ok, DF.SR.bind_nx, DF.SR.bind_ret, ofO, ths, setV, setF, free, set2, set3, fnRes, startE, startC, outs, argsD, putD, ioIx, isMu, look, DF.muL, ltD_ap, leD_ap, gtD_ap, geD_ap, addD_ap, subD_ap, negD_ap, absD_ap, intD_ap, intD_apB, eq_int, ne_int, ixD, L2.atI, L2.ixN, lenD, gcdD, max2D, min2D, hz, c1]) ⟨[], rfl, by rw [← hm]⟩
    · rw [if_neg hz] at hm
      refine wp_seq (ρ' := [some (.val (.int (N : Int))), some (.val (.int s)), some (.val (.int (p.2 : Int)))]) (by simp [eqY_int, neY_int, max2_ap, min2_ap, DF.R.bind_ok, DF.R.bindS_ok, DF.R.bindN_ok, DF.SR.bind_nx, DF.SR.bind_ret, ofO, ths, setV, setF, free, set2, set3, fnRes, startE, startC, outs, argsD, putD, ioIx, isMu, look, DF.muL, ltD_ap, leD_ap, gtD_ap, geD_ap, addD_ap, subD_ap, negD_ap, absD_ap, intD_ap, intD_apB, eq_int, ne_int, ixD, L2.atI, L2.ixN, lenD, gcdD, max2D, min2D, hz, c1]) ?_
      exact wp_nx (ρ' := [some (.val (.int (N : Int))), some (.val (.int (-s))), some (.val (.int (p.2 : Int)))]) (by simp [eqY_int, neY_int, max2_ap, min2_ap, DF.R.bind_ok, DF.R.bindS_ok, DF.R.bindN_ok, DF.SR.bind_nx, DF.SR.bind_ret, ofO, ths, setV, setF, free, set2, set3, fnRes, startE, startC, outs, argsD, putD, ioIx, isMu, look, DF.muL, ltD_ap, leD_ap, gtD_ap, geD_ap, addD_ap, subD_ap, negD_ap, absD_ap, intD_ap, intD_apB, eq_int, ne_int, ixD, L2.atI, L2.ixN, lenD, gcdD, max2D, min2D]) ⟨-s, _, .inr ⟨_, rfl⟩, by rw [← hm, Int.neg_mul, Int.mul_neg], rfl⟩
  · rintro ρ ⟨s, c2, hc, hm, rfl⟩
    refine ⟨c2, ?_⟩
    rw [show KF.muL [] = 1 from rfl, Int.mul_one] at hm
    rw [← hm]
  · rintro ρ ⟨c2, rfl⟩
    exact wp_rt (fr := false) (d := .int (muL l0)) rfl ⟨[], rfl, rfl⟩
theorem ne_nil (d : D) (l : List D) (h : plainDs 8 (d :: l) = true) : neD1 (.lst (d :: l)) (.lst []) = some (.bl true) := by
  obtain ⟨p, q, e1, e2, e3⟩ := eqP_plain (d := .lst (d :: l)) (e := .lst []) h rfl
  cases e2
  obtain ⟨ps, f1, _, _⟩ := plain_toPs h
  unfold toP at e1
  rw [f1] at e1
  cases e1
  unfold neD1
  rw [e3]
  cases ps with
  | nil =>
    unfold toPs at f1
    cases g1 : toP d with
    | none => rw [g1] at f1; cases f1
    | some x =>
      rw [g1] at f1
      cases g2 : toPs l with
      | none => rw [g2] at f1; cases f1
      | some y => rw [g2] at f1; cases f1
  | cons x y => rfl
theorem e_sign {N : Nat} (h1 : 1 ≤ N) (h2 : N ≤ 1000000) : F_q_nb_sign [(false, .int (N : Int))] = .ret false (.int (mu N)) [] := by
  have e := e_nf h1 (show N ≤ 10 ^ 9 by omega)
  have hlen := facs2_len h1 (by omega)
  unfold mu
  rw [muL_eq]
  unfold F_q_nb_sign
  generalize facs 2 N = l0 at *
  refine fn_of (P := fun r => r = _) ?_
  unfold B_q_nb_sign
  refine wp_seq (ρ' := [some (.val (.int (N : Int))), some (.val (.lst (l0.map fun p => D.int (p.2 : Int)))), none]) ?_ ?_
  · rw [← fd_vals]
    generalize fdD l0 = L at *
    simp [eqY_int, neY_int, max2_ap, min2_ap, DF.R.bind_ok, DF.R.bindS_ok, DF.R.bindN_ok, DF.SR.bind_nx, DF.SR.bind_ret, ofO, ths, setV, setF, free, set2, set3, fnRes, startE, startC, outs, argsD, putD, ioIx, isMu, look, DF.muL, ltD_ap, leD_ap, gtD_ap, geD_ap, addD_ap, subD_ap, negD_ap, absD_ap, intD_ap, intD_apB, eq_int, ne_int, ixD, L2.atI, L2.ixN, lenD, gcdD, max2D, min2D, e]
  · have lc : dLc (sLst (dVar 1)) (setV 2) (dTst (dBin gtD (oVar 2) (oD (dC (.int 1))))) (dVar 2) [2] [some (.val (.int (N : Int))), some (.val (.lst (l0.map fun p => D.int (p.2 : Int)))), none] = .ok [some (.val (.int (N : Int))), some (.val (.lst (l0.map fun p => D.int (p.2 : Int)))), none] (.lst ((l0.filter fun p => decide (1 < p.2)).map fun p => D.int (p.2 : Int))) := by
      refine lc_ap (l := l0.map fun p => D.int (p.2 : Int)) rfl rfl (lc_pure (fun (p : Nat × Nat) => D.int (p.2 : Int)) (fun p => decide (1 < p.2)) (fun (p : Nat × Nat) => D.int (p.2 : Int)) l0 [] (by simp; omega) fun p _ => ?_)
      generalize l0.map (fun p => D.int (p.2 : Int)) = L
      refine ⟨[some (.val (.int (N : Int))), some (.val (.lst L)), some (.val (.int (p.2 : Int)))], [some (.val (.int (N : Int))), some (.val (.lst L)), some (.val (.int (p.2 : Int)))], rfl, ?_, fun _ => ⟨rfl, rfl⟩, fun _ => ⟨_, rfl, rfl, rfl⟩⟩
      have c1 : ((1 : Int) < (p.2 : Int)) ↔ 1 < p.2 := by omega
      simp [eqY_int, neY_int, max2_ap, min2_ap, DF.R.bind_ok, DF.R.bindS_ok, DF.R.bindN_ok, DF.SR.bind_nx, DF.SR.bind_ret, ofO, ths, setV, setF, free, set2, set3, fnRes, startE, startC, outs, argsD, putD, ioIx, isMu, look, DF.muL, ltD_ap, leD_ap, gtD_ap, geD_ap, addD_ap, subD_ap, negD_ap, absD_ap, intD_ap, intD_apB, eq_int, ne_int, ixD, L2.atI, L2.ixN, lenD, gcdD, max2D, min2D, c1]
    have hn : (l0.map fun p => D.int (p.2 : Int)).length = l0.length := List.length_map ..
    generalize l0.map (fun p => D.int (p.2 : Int)) = L at *
    generalize dLc (sLst (dVar 1)) (setV 2) (dTst (dBin gtD (oVar 2) (oD (dC (.int 1))))) (dVar 2) [2] = lcf at *
    by_cases hany : l0.any (fun p => decide (1 < p.2)) = true
    · rw [if_pos hany]
      obtain ⟨p, hp, hp1⟩ := List.any_eq_true.mp hany
      have hm : p ∈ l0.filter fun p => decide (1 < p.2) := List.mem_filter.mpr ⟨hp, hp1⟩
      cases hf : l0.filter fun p => decide (1 < p.2) with
      | nil => rw [hf] at hm; cases hm
      | cons q r =>
        rw [hf, List.map_cons] at lc
        have hne : neY (.lst (D.int (q.2 : Int) :: r.map fun p => D.int (p.2 : Int))) (.lst []) = some (.bl true) := ne1Y (ne_nil _ _ (by
          rw [show (D.int (q.2 : Int) :: r.map fun p => D.int (p.2 : Int)) = ((q.2 : Int) :: r.map fun p => (p.2 : Int)).map D.int by rw [List.map_cons, List.map_map]; rfl]
          exact plain_ints 8 _))
        refine wp_seqR (fr := false) (d := .int 0) (ρ' := [some (.val (.int (N : Int))), some (.val (.lst L)), none]) ?_ ⟨[], rfl, rfl⟩
        simp [eqY_int, neY_int, max2_ap, min2_ap, DF.R.bind_ok, DF.R.bindS_ok, DF.R.bindN_ok, DF.SR.bind_nx, DF.SR.bind_ret, ofO, ths, setV, setF, free, set2, set3, fnRes, startE, startC, outs, argsD, putD, ioIx, isMu, look, DF.muL, ltD_ap, leD_ap, gtD_ap, geD_ap, addD_ap, subD_ap, negD_ap, absD_ap, intD_ap, intD_apB, eq_int, ne_int, ixD, L2.atI, L2.ixN, lenD, gcdD, max2D, min2D, lc, hne]
    · rw [if_neg hany]
      have hf : (l0.filter fun p => decide (1 < p.2)) = [] := by
        rw [List.filter_eq_nil_iff]
        exact fun p hp hz => hany (List.any_eq_true.mpr ⟨p, hp, hz⟩)
      rw [hf, List.map_nil] at lc
      have hne : neY (.lst []) (.lst []) = some (.bl false) := ne1Y (ne_same rfl)
      refine wp_seq (ρ' := [some (.val (.int (N : Int))), some (.val (.lst L)), none]) ?_ ?_
      · simp [eqY_int, neY_int, max2_ap, min2_ap, DF.R.bind_ok, DF.R.bindS_ok, DF.R.bindN_ok, DF.SR.bind_nx, DF.SR.bind_ret, ofO, ths, setV, setF, free, set2, set3, fnRes, startE, startC, outs, argsD, putD, ioIx, isMu, look, DF.muL, ltD_ap, leD_ap, gtD_ap, geD_ap, addD_ap, subD_ap, negD_ap, absD_ap, intD_ap, intD_apB, eq_int, ne_int, ixD, L2.atI, L2.ixN, lenD, gcdD, max2D, min2D, lc, hne]
      · have hmod := nmod (m := L.length) (d := 2) (by decide)
        rw [hn] at hmod
        have hmod : modD (.int (l0.length : Int)) (.int 2) = some (.int ((l0.length % 2 : Nat) : Int)) := hmod
        refine wp_rt (fr := false) (d := .int (if l0.length % 2 = 0 then 1 else -1)) (ρ' := [some (.val (.int (N : Int))), some (.val (.lst L)), none]) ?_ ⟨[], rfl, rfl⟩
        generalize l0.length % 2 = r at *
        by_cases hr : r = 0
        · subst hr; simp [eqY_int, neY_int, max2_ap, min2_ap, DF.R.bind_ok, DF.R.bindS_ok, DF.R.bindN_ok, DF.SR.bind_nx, DF.SR.bind_ret, ofO, ths, setV, setF, free, set2, set3, fnRes, startE, startC, outs, argsD, putD, ioIx, isMu, look, DF.muL, ltD_ap, leD_ap, gtD_ap, geD_ap, addD_ap, subD_ap, negD_ap, absD_ap, intD_ap, intD_apB, eq_int, ne_int, ixD, L2.atI, L2.ixN, lenD, gcdD, max2D, min2D, hn, hmod]
        · simp [eqY_int, neY_int, max2_ap, min2_ap, DF.R.bind_ok, DF.R.bindS_ok, DF.R.bindN_ok, DF.SR.bind_nx, DF.SR.bind_ret, ofO, ths, setV, setF, free, set2, set3, fnRes, startE, startC, outs, argsD, putD, ioIx, isMu, look, DF.muL, ltD_ap, leD_ap, gtD_ap, geD_ap, addD_ap, subD_ap, negD_ap, absD_ap, intD_ap, intD_apB, eq_int, ne_int, ixD, L2.atI, L2.ixN, lenD, gcdD, max2D, min2D, hn, hmod, hr]
end K01

namespace K01
open PySem DF KF
theorem rng2_ap {f : DEnv → DF.R (List D)} {ρ ρ' : DEnv} {i j : Int} (e : f ρ = .ok ρ' [.int i, .int j]) (h1 : inR i = true) (h2 : inR j = true) : sRng2 f ρ = .ok ρ' (rng i (j - i).toNat) := by
  rw [sRng2_ap, e, DF.R.bind_ok]
  dsimp only
  rw [if_pos h1, if_pos h2]
/-! ### units -/
def unitsL (n : Nat) : List D := ((List.range n).filter fun k => decide (Nat.gcd (k + 1) n = 1)).map fun (k : Nat) => D.int (1 + (k : Int))
theorem rg_to (n : Nat) (hn : n ≤ 90000) (c : Option Cell) : sRng2 (vCons (dC (.int 1)) (vCons (dBin addD (oVar 0) (oD (dC (.int 1)))) (vNil))) [some (.val (.int (n : Int))), c] = .ok [some (.val (.int (n : Int))), c] ((List.range n).map fun (k : Nat) => D.int (1 + (k : Int))) := by
  have e : vCons (dC (.int 1)) (vCons (dBin addD (oVar 0) (oD (dC (.int 1)))) (vNil)) [some (.val (.int (n : Int))), c] = .ok [some (.val (.int (n : Int))), c] [.int 1, .int ((n : Int) + 1)] := by simp [eqY_int, neY_int, max2_ap, min2_ap, DF.R.bind_ok, DF.R.bindS_ok, DF.R.bindN_ok, DF.SR.bind_nx, DF.SR.bind_ret, ofO, ths, setV, setF, free, set2, set3, fnRes, startE, startC, outs, argsD, putD, ioIx, isMu, look, DF.muL, ltD_ap, leD_ap, gtD_ap, geD_ap, addD_ap, subD_ap, negD_ap, absD_ap, intD_ap, intD_apB, eq_int, ne_int, ixD, L2.atI, L2.ixN, lenD, gcdD, max2D, min2D]
  have r := rng2_ap e (by decide) (inR_nat (n := n + 1) (by omega))
  rw [r, show ((n : Int) + 1 - 1).toNat = n by omega]
  rfl
theorem e_units {n : Nat} (h1 : 1 ≤ n) (h2 : n ≤ 2520) : F_units_of [(false, .int (n : Int))] = .ret false (.tup (unitsL n)) [] := by
  have s0 := e_checknum (n : Int) 1 2520 (by omega) (by omega) (by omega)
  have lc : dLc (sRng2 (vCons (dC (.int 1)) (vCons (dBin addD (oVar 0) (oD (dC (.int 1)))) (vNil)))) (setV 1) (dTst (dBin eqY (oD (dCal gcdD (aCons (oVar 1) (aCons (oVar 0) (aNil))))) (oD (dC (.int 1))))) (dVar 1) [1] [some (.val (.int (n : Int))), none] = .ok [some (.val (.int (n : Int))), none] (.lst (unitsL n)) := by
    refine lc_ap (rg_to n (by omega) none) rfl (lc_pure (fun (k : Nat) => D.int (1 + (k : Int))) (fun k => decide (Nat.gcd (k + 1) n = 1)) (fun (k : Nat) => D.int (1 + (k : Int))) (List.range n) [] (by simp; omega) fun k _ => ?_)
    refine ⟨[some (.val (.int (n : Int))), some (.val (.int (1 + (k : Int))))], [some (.val (.int (n : Int))), some (.val (.int (1 + (k : Int))))], rfl, ?_, fun _ => ⟨rfl, rfl⟩, fun _ => ⟨_, rfl, rfl, rfl⟩⟩
    have hk : (1 + (k : Int)).natAbs = k + 1 := by omega
    have c1 : (((Nat.gcd (k + 1) n : Nat) : Int) = 1) ↔ Nat.gcd (k + 1) n = 1 := by omega
    simp [eqY_int, neY_int, max2_ap, min2_ap, DF.R.bind_ok, DF.R.bindS_ok, DF.R.bindN_ok, DF.SR.bind_nx, DF.SR.bind_ret, ofO, ths, setV, setF, free, set2, set3, fnRes, startE, startC, outs, argsD, putD, ioIx, isMu, look, DF.muL, ltD_ap, leD_ap, gtD_ap, geD_ap, addD_ap, subD_ap, negD_ap, absD_ap, intD_ap, intD_apB, eq_int, ne_int, ixD, L2.atI, L2.ixN, lenD, gcdD, max2D, min2D, hk, c1]
  generalize unitsL n = L at *
  unfold F_units_of
  refine fn_of (P := fun r => r = _) ?_
  unfold B_units_of
  refine wp_seq (ρ' := [some (.val (.int (n : Int))), none]) (by simp [eqY_int, neY_int, max2_ap, min2_ap, DF.R.bind_ok, DF.R.bindS_ok, DF.R.bindN_ok, DF.SR.bind_nx, DF.SR.bind_ret, ofO, ths, setV, setF, free, set2, set3, fnRes, startE, startC, outs, argsD, putD, ioIx, isMu, look, DF.muL, ltD_ap, leD_ap, gtD_ap, geD_ap, addD_ap, subD_ap, negD_ap, absD_ap, intD_ap, intD_apB, eq_int, ne_int, ixD, L2.atI, L2.ixN, lenD, gcdD, max2D, min2D, s0]) ?_
  generalize dLc (sRng2 (vCons (dC (.int 1)) (vCons (dBin addD (oVar 0) (oD (dC (.int 1)))) (vNil)))) (setV 1) (dTst (dBin eqY (oD (dCal gcdD (aCons (oVar 1) (aCons (oVar 0) (aNil))))) (oD (dC (.int 1))))) (dVar 1) [1] = g at *
  exact wp_rt (fr := false) (d := .tup L) (ρ' := [some (.val (.int (n : Int))), none]) (by simp [eqY_int, neY_int, max2_ap, min2_ap, DF.R.bind_ok, DF.R.bindS_ok, DF.R.bindN_ok, DF.SR.bind_nx, DF.SR.bind_ret, ofO, ths, setV, setF, free, set2, set3, fnRes, startE, startC, outs, argsD, putD, ioIx, isMu, look, DF.muL, ltD_ap, leD_ap, gtD_ap, geD_ap, addD_ap, subD_ap, negD_ap, absD_ap, intD_ap, intD_apB, eq_int, ne_int, ixD, L2.atI, L2.ixN, lenD, gcdD, max2D, min2D, lc, tupD]) ⟨[], rfl, rfl⟩
/-! ### drawn numbers -/
theorem e_drawn {n : Nat} {d : D} {most : Int} (h : Bag n d) (hn : n ≤ 900000) (h1 : 1 ≤ most) (h2 : most ≤ 1000000000) : ∃ (r : Int) (d' : D), 1 ≤ r ∧ r ≤ most ∧ Bag (n + 11) d' ∧ F_q_nb_drawn [(true, d), (false, .int most)] = .ret false (.int r) [d'] := by
  obtain ⟨t, d1, t0, t1, b1, g1⟩ := e_grab (t := 9) h (by omega) (by decide) (sm_of (by decide))
  unfold F_q_nb_drawn
  refine fn_of (P := fun R => ∃ (r : Int) (d' : D), 1 ≤ r ∧ r ≤ most ∧ Bag (n + 11) d' ∧ R = .ret false (.int r) [d']) ?_
  unfold B_q_nb_drawn
  refine wp_seq (ρ' := [some (.mu true d), some (.val (.int most)), some (.val (.int 1)), none, none]) (by simp [eqY_int, neY_int, max2_ap, min2_ap, DF.R.bind_ok, DF.R.bindS_ok, DF.R.bindN_ok, DF.SR.bind_nx, DF.SR.bind_ret, ofO, ths, setV, setF, free, set2, set3, fnRes, startE, startC, outs, argsD, putD, ioIx, isMu, look, DF.muL, ltD_ap, leD_ap, gtD_ap, geD_ap, addD_ap, subD_ap, negD_ap, absD_ap, intD_ap, intD_apB, eq_int, ne_int, ixD, L2.atI, L2.ixN, lenD, gcdD, max2D, min2D]) ?_
  have rg : sRng1 (vCons (dV (dCal2 2 F_q_grab (rIo 0 (rVal (dC (.int 9)) (rNil))))) (vNil)) [some (.mu true d), some (.val (.int most)), some (.val (.int 1)), none, none] = .ok [some (.mu true d1), some (.val (.int most)), some (.val (.int 1)), none, none] (rng 0 t.toNat) := by
    have e : vCons (dV (dCal2 2 F_q_grab (rIo 0 (rVal (dC (.int 9)) (rNil))))) (vNil) [some (.mu true d), some (.val (.int most)), some (.val (.int 1)), none, none] = .ok [some (.mu true d1), some (.val (.int most)), some (.val (.int 1)), none, none] [.int ((t.toNat : Nat) : Int)] := by
      rw [show ((t.toNat : Nat) : Int) = t by omega]
      simp [eqY_int, neY_int, max2_ap, min2_ap, DF.R.bind_ok, DF.R.bindS_ok, DF.R.bindN_ok, DF.SR.bind_nx, DF.SR.bind_ret, ofO, ths, setV, setF, free, set2, set3, fnRes, startE, startC, outs, argsD, putD, ioIx, isMu, look, DF.muL, ltD_ap, leD_ap, gtD_ap, geD_ap, addD_ap, subD_ap, negD_ap, absD_ap, intD_ap, intD_apB, eq_int, ne_int, ixD, L2.atI, L2.ixN, lenD, gcdD, max2D, min2D, g1]
    exact rng1_ap (inR_nat (by omega)) e
  refine wp_seqW (Q := fun ρ => ∃ (f : Int) (d' : D) (c3 c4 : Option Cell), 1 ≤ f ∧ f ≤ most ∧ Bag (n + 9) d' ∧ ρ = [some (.mu true d'), some (.val (.int most)), some (.val (.int f)), c3, c4])
    (wp_forS rg (wp_forL (fun l ρ => ∃ (f : Int) (d' : D) (c3 c4 : Option Cell), l.length ≤ 8 ∧ 1 ≤ f ∧ f ≤ most ∧ Bag (n + 9 - l.length) d' ∧ Vc c3 ∧ Vc c4 ∧ ρ = [some (.mu true d'), some (.val (.int most)), some (.val (.int f)), c3, c4]) ?_ ?_ _ _
      ⟨1, d1, none, none, by rw [rng_len]; omega, by decide, h1, b1.mono (by rw [rng_len]; omega), .inl rfl, .inl rfl, rfl⟩)) ?_
  · rintro x l ρ ⟨f, d', c3, c4, hl, f1, f2, hb, k3, k4, rfl⟩
    rw [List.length_cons] at hl hb
    refine ⟨[some (.mu true d'), some (.val (.int most)), some (.val (.int f)), some (.val x), c4], by rcases k3 with rfl | ⟨d, rfl⟩ <;> rfl, ?_⟩
    obtain ⟨m, hm, d2, b2, e2⟩ := e_one_int (l := [2, 2, 3, 3, 5, 7, 11, 13, 97, 101, 997]) hb (by omega) (by decide) (by decide)
    have r2 : 1 ≤ m ∧ m ≤ 997 := by simp at hm; omega
    have e2 : F_q_one_of [(true, d'), (false, .lst [.int 2, .int 2, .int 3, .int 3, .int 5, .int 7, .int 11, .int 13, .int 97, .int 101, .int 997])] = .ret false (.int m) [d2] := e2
    refine wp_seq (ρ' := [some (.mu true d2), some (.val (.int most)), some (.val (.int f)), some (.val x), some (.val (.int m))]) ?_ ?_
    · rcases k4 with rfl | ⟨d, rfl⟩ <;> simp [eqY_int, neY_int, max2_ap, min2_ap, DF.R.bind_ok, DF.R.bindS_ok, DF.R.bindN_ok, DF.SR.bind_nx, DF.SR.bind_ret, ofO, ths, setV, setF, free, set2, set3, fnRes, startE, startC, outs, argsD, putD, ioIx, isMu, look, DF.muL, ltD_ap, leD_ap, gtD_ap, geD_ap, addD_ap, subD_ap, negD_ap, absD_ap, intD_ap, intD_apB, eq_int, ne_int, ixD, L2.atI, L2.ixN, lenD, gcdD, max2D, min2D, e2]
    · have q := mulD_ap (i := f) (j := m) (cm (sm_of (by omega)) (sm_of (by omega)))
      have qp : 1 ≤ f * m := by have := Int.mul_le_mul f1 r2.1 (by decide) (by omega); omega
      generalize f * m = w at *
      refine wp_nx (ρ' := [some (.mu true d2), some (.val (.int most)), some (.val (.int (if w ≤ most then w else f))), some (.val x), some (.val (.int m))]) ?_ ⟨_, d2, _, _, by omega, by split <;> omega, by split <;> omega, b2.mono (by omega), .inr ⟨_, rfl⟩, .inr ⟨_, rfl⟩, rfl⟩
      by_cases hw : w ≤ most <;> simp [eqY_int, neY_int, max2_ap, min2_ap, DF.R.bind_ok, DF.R.bindS_ok, DF.R.bindN_ok, DF.SR.bind_nx, DF.SR.bind_ret, ofO, ths, setV, setF, free, set2, set3, fnRes, startE, startC, outs, argsD, putD, ioIx, isMu, look, DF.muL, ltD_ap, leD_ap, gtD_ap, geD_ap, addD_ap, subD_ap, negD_ap, absD_ap, intD_ap, intD_apB, eq_int, ne_int, ixD, L2.atI, L2.ixN, lenD, gcdD, max2D, min2D, q, hw]
  · rintro ρ ⟨f, d', c3, c4, hl, f1, f2, hb, k3, k4, rfl⟩
    exact ⟨f, d', c3, c4, f1, f2, hb, rfl⟩
  · rintro ρ ⟨f, d', c3, c4, f1, f2, hb, rfl⟩
    obtain ⟨a, d2, a0, a1, b2, e2⟩ := e_grab (t := 3) hb (by omega) (by decide) (sm_of (by decide))
    by_cases ha : 0 < a
    · exact wp_rt (fr := false) (d := .int f) (ρ' := [some (.mu true d2), some (.val (.int most)), some (.val (.int f)), c3, c4]) (by simp [eqY_int, neY_int, max2_ap, min2_ap, DF.R.bind_ok, DF.R.bindS_ok, DF.R.bindN_ok, DF.SR.bind_nx, DF.SR.bind_ret, ofO, ths, setV, setF, free, set2, set3, fnRes, startE, startC, outs, argsD, putD, ioIx, isMu, look, DF.muL, ltD_ap, leD_ap, gtD_ap, geD_ap, addD_ap, subD_ap, negD_ap, absD_ap, intD_ap, intD_apB, eq_int, ne_int, ixD, L2.atI, L2.ixN, lenD, gcdD, max2D, min2D, e2, ha]) ⟨[d2], rfl, f, d2, f1, f2, b2.mono (by omega), rfl⟩
    · obtain ⟨c, d3, c0, cc, b3, e3⟩ := e_grab (t := most) b2 (by omega) (by omega) (sm_of (by omega))
      exact wp_rt (fr := false) (d := .int (1 + c)) (ρ' := [some (.mu true d3), some (.val (.int most)), some (.val (.int f)), c3, c4]) (by simp [eqY_int, neY_int, max2_ap, min2_ap, DF.R.bind_ok, DF.R.bindS_ok, DF.R.bindN_ok, DF.SR.bind_nx, DF.SR.bind_ret, ofO, ths, setV, setF, free, set2, set3, fnRes, startE, startC, outs, argsD, putD, ioIx, isMu, look, DF.muL, ltD_ap, leD_ap, gtD_ap, geD_ap, addD_ap, subD_ap, negD_ap, absD_ap, intD_ap, intD_apB, eq_int, ne_int, ixD, L2.atI, L2.ixN, lenD, gcdD, max2D, min2D, e2, e3, ha]) ⟨[d3], rfl, 1 + c, d3, by omega, by omega, b3.mono (by omega), rfl⟩
end K01

namespace K01
open PySem DF KF
/-! ### judged -/
structure Good (x : D) : Prop where
  ex : ∃ a b : Bool, F_is_integer [(false, x)] = .ret false (.bl a) [] ∧ F_q_nb_is_short [(false, x)] = .ret false (.bl a) [] ∧ F_is_prime [(false, x)] = .ret false (.bl b) [] ∧ F_q_nb_is_prime [(false, x)] = .ret false (.bl b) []
theorem good_int (i : Int) : Good (.int i) := ⟨_, _, e_isint i, e_short i, e_primeI i, e_nbprime i⟩
theorem rpr2 (a b : Bool) : ∃ s, rprX [.lst [.bl a, .bl b]] = some (.str s) ∧ neY (.str s) (.str s) = some (.bl false) := by
  cases a <;> cases b <;> exact ⟨_, rfl, ne1Y (ne_same (by kernel_rfl))⟩
def juB : DEnv → SR := dSeq (dSet 4 (dLst (vCons (dV (dCal2 1 F_q_nb_is_short (rVal (dVar 3) (rNil)))) (vCons (dV (dCal2 1 F_q_nb_is_prime (rVal (dVar 3) (rNil)))) (vNil)))))
    (dIf (dTst (dBin neY (oD (dCal rprX (aCons (oD (dLst (vCons (dV (dCal2 1 F_is_integer (rVal (dVar 3) (rNil)))) (vCons (dV (dCal2 1 F_is_prime (rVal (dVar 3) (rNil)))) (vNil))))) (aNil)))) (oD (dCal rprX (aCons (oVar 4) (aNil)))))) (dRet (dC (.bl false))) (SR.nx))
theorem juB_ap {x : D} (h : Good x) (c0 c1 c2 c4 : Option Cell) (k4 : Vc c4) : ∃ d4, juB [c0, c1, c2, some (.val x), c4] = .nx [c0, c1, c2, some (.val x), some (.val d4)] := by
  obtain ⟨a, b, e1, e2, e3, e4⟩ := h.ex
  obtain ⟨s, r1, r2⟩ := rpr2 a b
  refine ⟨.lst [.bl a, .bl b], ?_⟩
  unfold juB
  generalize rprX = g at *
  rcases k4 with rfl | ⟨d, rfl⟩ <;> simp [eqY_int, neY_int, max2_ap, min2_ap, DF.R.bind_ok, DF.R.bindS_ok, DF.R.bindN_ok, DF.SR.bind_nx, DF.SR.bind_ret, ofO, ths, setV, setF, free, set2, set3, fnRes, startE, startC, outs, argsD, putD, ioIx, isMu, look, DF.muL, ltD_ap, leD_ap, gtD_ap, geD_ap, addD_ap, subD_ap, negD_ap, absD_ap, intD_ap, intD_apB, eq_int, ne_int, ixD, L2.atI, L2.ixN, lenD, gcdD, max2D, min2D, e1, e2, e3, e4, r1, r2]
theorem ju_loop {E : Ps} (c0 c1 c2 : Option Cell) (hE : ∀ c3 c4, E.nx [c0, c1, c2, c3, c4]) : ∀ (l : List D), (∀ x ∈ l, Good x) → Wp (dFor (setV 3) juB l [c0, c1, c2, none, none]) E := fun l hl => by
  refine wp_forL (fun l ρ => (∀ x ∈ l, Good x) ∧ ∃ c3 c4, Vc c3 ∧ Vc c4 ∧ ρ = [c0, c1, c2, c3, c4]) ?_ ?_ _ _ ⟨hl, none, none, .inl rfl, .inl rfl, rfl⟩
  · rintro x l ρ ⟨hl, c3, c4, k3, k4, rfl⟩
    obtain ⟨d4, e⟩ := juB_ap (hl x List.mem_cons_self) c0 c1 c2 c4 k4
    exact ⟨_, by rcases k3 with rfl | ⟨d, rfl⟩ <;> rfl, wp_nx e ⟨fun y hy => hl y (List.mem_cons_of_mem _ hy), _, _, .inr ⟨_, rfl⟩, .inr ⟨_, rfl⟩, rfl⟩⟩
  · rintro ρ ⟨_, c3, c4, _, _, rfl⟩
    exact hE c3 c4
theorem good_mix : ∀ x ∈ [D.bl true, .bl false, .non, .str (Str.ofString "7"), .tup [.int 7], .lst [.int 7], .dic [], .tup [], .str (Str.ofString ""), .tup [.tup [.int 7, .int 1]]], Good x := by
  intro x hx
  simp only [List.mem_cons, List.not_mem_nil, or_false] at hx
  rcases hx with rfl | rfl | rfl | rfl | rfl | rfl | rfl | rfl | rfl | rfl <;> exact ⟨false, false, by rfl, by rfl, by rfl, by rfl⟩
def fixI : List Int := [0, 1, 2, 4, 9, 91, -7, 994009, 999983, 1000000, 1000003, 1000000000000000000000000000000000000000000000000000000000000, 999999999999999999999999999999999999999999999999999999999999, -999999999999999999999999999999999999999999999999999999999999, -1000000000000000000000000000000000000000000000000000000000000]
theorem ju1 (c0 c1 : Option Cell) (L : List D) (hl : L.length ≤ 100) : (dSet 2 (dBin addD (oVar 2) (oD (dLst (vCons (dC (.int 0)) (vCons (dC (.int 1)) (vCons (dC (.int 2)) (vCons (dC (.int 4)) (vCons (dC (.int 9)) (vCons (dC (.int 91)) (vCons (dUn negD (oD (dC (.int 7)))) (vCons (dBin mulD (oD (dC (.int 997))) (oD (dC (.int 997)))) (vCons (dC (.int 999983)) (vCons (dBin powD (oD (dC (.int 10))) (oD (dC (.int 6)))) (vCons (dBin addD (oD (dBin powD (oD (dC (.int 10))) (oD (dC (.int 6))))) (oD (dC (.int 3)))) (vCons (dBin powD (oD (dC (.int 10))) (oD (dC (.int 60)))) (vCons (dBin subD (oD (dBin powD (oD (dC (.int 10))) (oD (dC (.int 60))))) (oD (dC (.int 1)))) (vCons (dBin subD (oD (dC (.int 1))) (oD (dBin powD (oD (dC (.int 10))) (oD (dC (.int 60)))))) (vCons (dUn negD (oD (dBin powD (oD (dC (.int 10))) (oD (dC (.int 60)))))) (vNil)))))))))))))))))))) [c0, c1, some (.val (.lst L)), none, none] = .nx [c0, c1, some (.val (.lst (L ++ fixI.map D.int))), none, none] := by
  have q1 := mulD_ap (i := 997) (j := 997) (by decide +kernel)
  have q2 : addD (.lst L) (.lst (fixI.map D.int)) = some (.lst (L ++ fixI.map D.int)) := catL_ap (by rw [List.length_map]; show L.length + 15 ≤ _; omega)
  generalize L ++ fixI.map D.int = M2 at *
  unfold fixI at q2
  simp only [List.map_cons, List.map_nil] at q2
  simp [eqY_int, neY_int, max2_ap, min2_ap, DF.R.bind_ok, DF.R.bindS_ok, DF.R.bindN_ok, DF.SR.bind_nx, DF.SR.bind_ret, ofO, ths, setV, setF, free, set2, set3, fnRes, startE, startC, outs, argsD, putD, ioIx, isMu, look, DF.muL, ltD_ap, leD_ap, gtD_ap, geD_ap, addD_ap, subD_ap, negD_ap, absD_ap, intD_ap, intD_apB, eq_int, ne_int, ixD, L2.atI, L2.ixN, lenD, gcdD, max2D, min2D, p6, p60, q1, q2]
theorem ju2 (c0 c1 : Option Cell) (L : List D) (hl : L.length ≤ 200) : (dSet 2 (dBin addD (oVar 2) (oD (dLst (vCons (dC (.bl true)) (vCons (dC (.bl false)) (vCons (dC .non) (vCons (dC (.str (Str.ofString "7"))) (vCons (dTup (vCons (dC (.int 7)) (vNil))) (vCons (dLst (vCons (dC (.int 7)) (vNil))) (vCons (dDic0) (vCons (dTup (vNil)) (vCons (dC (.str (Str.ofString ""))) (vCons (dTup (vCons (dTup (vCons (dC (.int 7)) (vCons (dC (.int 1)) (vNil)))) (vNil))) (vNil))))))))))))))) [c0, c1, some (.val (.lst L)), none, none] = .nx [c0, c1, some (.val (.lst (L ++ [D.bl true, .bl false, .non, .str (Str.ofString "7"), .tup [.int 7], .lst [.int 7], .dic [], .tup [], .str (Str.ofString ""), .tup [.tup [.int 7, .int 1]]]))), none, none] := by
  have q2 := catL_ap (l := L) (m := [D.bl true, .bl false, .non, .str (Str.ofString "7"), .tup [.int 7], .lst [.int 7], .dic [], .tup [], .str (Str.ofString ""), .tup [.tup [.int 7, .int 1]]]) (by simp; omega)
  generalize L ++ [D.bl true, .bl false, .non, .str (Str.ofString "7"), .tup [.int 7], .lst [.int 7], .dic [], .tup [], .str (Str.ofString ""), .tup [.tup [.int 7, .int 1]]] = M2 at *
  simp [eqY_int, neY_int, max2_ap, min2_ap, DF.R.bind_ok, DF.R.bindS_ok, DF.R.bindN_ok, DF.SR.bind_nx, DF.SR.bind_ret, ofO, ths, setV, setF, free, set2, set3, fnRes, startE, startC, outs, argsD, putD, ioIx, isMu, look, DF.muL, ltD_ap, leD_ap, gtD_ap, geD_ap, addD_ap, subD_ap, negD_ap, absD_ap, intD_ap, intD_apB, eq_int, ne_int, ixD, L2.atI, L2.ixN, lenD, gcdD, max2D, min2D, q2]
theorem ju_lc {f : DEnv → DF.R D} (w : Nat) (hw : w ≤ 20) (hf : ∀ n d c0 c1, Bag n d → n ≤ 900000 → ∃ (i : Int) (d' : D), Bag (n + w) d' ∧ f [some (.mu true d), c0, c1, none, none] = .ok [some (.mu true d'), c0, c1, none, none] (.int i)) :
    ∀ (its acc : List D) (n : Nat) (d : D), Bag n d → n + w * its.length ≤ 900000 → acc.length + its.length ≤ 100 → (∀ x ∈ acc, Good x) →
      ∃ (l : List D) (d' : D), (∀ x ∈ l, Good x) ∧ l.length = acc.length + its.length ∧ Bag (n + w * its.length) d' ∧ dLcGo (setV 1) tYesB f [1] its acc [some (.mu true d), none, none, none, none] = .ok [some (.mu true d'), none, none, none, none] (.lst l) := by
  intro its
  induction its with
  | nil => exact fun acc n d h _ _ ha => ⟨acc, d, ha, rfl, h, rfl⟩
  | cons z its ih =>
    intro acc n d h hn hl ha
    rw [List.length_cons] at hn hl
    have hw2 : w * (its.length + 1) = w * its.length + w := Nat.mul_succ _ _
    obtain ⟨i, d1, b1, e1⟩ := hf n d (some (.val z)) none h (by omega)
    obtain ⟨l, d', g1, g2, g3, e⟩ := ih (acc ++ [.int i]) (n + w) d1 b1 (by omega) (by rw [List.length_append, List.length_singleton]; omega) (fun x hx => by
      rcases List.mem_append.mp hx with m | m
      · exact ha x m
      · rw [List.mem_singleton.mp m]; exact good_int i)
    refine ⟨l, d', g1, by rw [g2, List.length_append, List.length_singleton, List.length_cons]; omega, by rw [List.length_cons, hw2, show n + (w * its.length + w) = n + w + w * its.length by omega]; exact g3, ?_⟩
    have hl : acc.length < 16000000 := by omega
    unfold dLcGo
    simp only [setV, free, List.getElem?_cons_zero, List.getElem?_cons_succ, if_true, List.set_cons_zero, List.set_cons_succ, tYesB, R.bindN_ok, e1, noMu, wipeE, List.all_cons, List.all_nil, Bool.and_true, hl]
    exact e
theorem ju0 {n : Nat} {d : D} (h : Bag n d) (hn : n ≤ 800000) : ∃ (L : List D) (d' : D), (∀ x ∈ L, Good x) ∧ L.length = 9 ∧ Bag (n + 39) d' ∧ (dSet 2 (dBin addD (oD (dLc (sRng1 (vCons (dC (.int 6)) (vNil))) (setV 1) (tYesB) (dV (dCal2 2 F_q_grab (rIo 0 (rVal (dBin addD (oD (dBin powD (oD (dC (.int 10))) (oD (dC (.int 6))))) (oD (dC (.int 50)))) (rNil))))) [1])) (oD (dLc (sRng1 (vCons (dC (.int 3)) (vNil))) (setV 1) (tYesB) (dV (dCal2 2 F_q_nb_drawn (rIo 0 (rVal (dBin powD (oD (dC (.int 10))) (oD (dC (.int 6)))) (rNil))))) [1])))) [some (.mu true d), none, none, none, none] = .nx [some (.mu true d'), none, some (.val (.lst L)), none, none] := by
  obtain ⟨l1, d1, g1, n1, b1, e1⟩ := ju_lc (f := dV (dCal2 2 F_q_grab (rIo 0 (rVal (dBin addD (oD (dBin powD (oD (dC (.int 10))) (oD (dC (.int 6))))) (oD (dC (.int 50)))) (rNil))))) 1 (by decide) (fun n d c0 c1 hb hn => by
    obtain ⟨r, d', _, _, b, e⟩ := e_grab (t := 1000050) hb (by omega) (by decide) (sm_of (by decide))
    exact ⟨r, d', b, by simp [eqY_int, neY_int, max2_ap, min2_ap, DF.R.bind_ok, DF.R.bindS_ok, DF.R.bindN_ok, DF.SR.bind_nx, DF.SR.bind_ret, ofO, ths, setV, setF, free, set2, set3, fnRes, startE, startC, outs, argsD, putD, ioIx, isMu, look, DF.muL, ltD_ap, leD_ap, gtD_ap, geD_ap, addD_ap, subD_ap, negD_ap, absD_ap, intD_ap, intD_apB, eq_int, ne_int, ixD, L2.atI, L2.ixN, lenD, gcdD, max2D, min2D, p6, e]⟩) (rng 0 6) [] n d h (by rw [rng_len]; omega) (by rw [rng_len]; simp) (by simp)
  obtain ⟨l2, d2, g2, n2, b2, e2⟩ := ju_lc (f := dV (dCal2 2 F_q_nb_drawn (rIo 0 (rVal (dBin powD (oD (dC (.int 10))) (oD (dC (.int 6)))) (rNil))))) 11 (by decide) (fun n d c0 c1 hb hn => by
    obtain ⟨r, d', _, _, b, e⟩ := e_drawn (most := 1000000) hb (by omega) (by decide) (by decide)
    exact ⟨r, d', b, by simp [eqY_int, neY_int, max2_ap, min2_ap, DF.R.bind_ok, DF.R.bindS_ok, DF.R.bindN_ok, DF.SR.bind_nx, DF.SR.bind_ret, ofO, ths, setV, setF, free, set2, set3, fnRes, startE, startC, outs, argsD, putD, ioIx, isMu, look, DF.muL, ltD_ap, leD_ap, gtD_ap, geD_ap, addD_ap, subD_ap, negD_ap, absD_ap, intD_ap, intD_apB, eq_int, ne_int, ixD, L2.atI, L2.ixN, lenD, gcdD, max2D, min2D, p6, e]⟩) (rng 0 3) [] _ d1 b1 (by rw [rng_len, rng_len]; omega) (by rw [rng_len]; simp) (by simp)
  rw [rng_len] at n1 n2 b1 b2
  rw [rng_len] at b2
  refine ⟨l1 ++ l2, d2, fun x hx => (List.mem_append.mp hx).elim (g1 x) (g2 x), by rw [List.length_append, n1, n2]; rfl, b2.mono (by omega), ?_⟩
  have q1 := lc_ap (s := sRng1 (vCons (dC (.int 6)) (vNil))) (l := rng 0 6) (ρ := [some (.mu true d), none, none, none, none]) (ρ' := [some (.mu true d), none, none, none, none]) rfl rfl e1
  have q2 := lc_ap (s := sRng1 (vCons (dC (.int 3)) (vNil))) (l := rng 0 3) (ρ := [some (.mu true d1), none, none, none, none]) (ρ' := [some (.mu true d1), none, none, none, none]) rfl rfl e2
  have q3 := catL_ap (l := l1) (m := l2) (by rw [n1, n2]; decide)
  generalize l1 ++ l2 = l3 at *
  generalize dLc (sRng1 (vCons (dC (.int 6)) (vNil))) (setV 1) tYesB (dV (dCal2 2 F_q_grab (rIo 0 (rVal (dBin addD (oD (dBin powD (oD (dC (.int 10))) (oD (dC (.int 6))))) (oD (dC (.int 50)))) (rNil))))) [1] = f1 at *
  generalize dLc (sRng1 (vCons (dC (.int 3)) (vNil))) (setV 1) tYesB (dV (dCal2 2 F_q_nb_drawn (rIo 0 (rVal (dBin powD (oD (dC (.int 10))) (oD (dC (.int 6)))) (rNil))))) [1] = f2 at *
  simp [eqY_int, neY_int, max2_ap, min2_ap, DF.R.bind_ok, DF.R.bindS_ok, DF.R.bindN_ok, DF.SR.bind_nx, DF.SR.bind_ret, ofO, ths, setV, setF, free, set2, set3, fnRes, startE, startC, outs, argsD, putD, ioIx, isMu, look, DF.muL, ltD_ap, leD_ap, gtD_ap, geD_ap, addD_ap, subD_ap, negD_ap, absD_ap, intD_ap, intD_apB, eq_int, ne_int, ixD, L2.atI, L2.ixN, lenD, gcdD, max2D, min2D, q1, q2, q3]
theorem e_judged {n : Nat} {d : D} (h : Bag n d) (hn : n ≤ 800000) : ∃ d', Bag (n + 39) d' ∧ F_q_judged_right [(true, d)] = .ret false (.bl true) [d'] := by
  obtain ⟨L, d', g, hl, hb, e0⟩ := ju0 h hn
  unfold F_q_judged_right
  refine fn_of (P := fun R => ∃ d', Bag (n + 39) d' ∧ R = .ret false (.bl true) [d']) ?_
  unfold B_q_judged_right
  refine wp_seq e0 ?_
  refine wp_seq (ju1 _ _ L (by omega)) ?_
  refine wp_seq (ju2 _ _ _ (by rw [List.length_append, List.length_map, hl]; decide)) ?_
  refine wp_seqW (Q := fun ρ => ∃ c2 c3 c4, ρ = [some (.mu true d'), none, c2, c3, c4]) (wp_forS (l := L ++ fixI.map D.int ++ [D.bl true, .bl false, .non, .str (Str.ofString "7"), .tup [.int 7], .lst [.int 7], .dic [], .tup [], .str (Str.ofString ""), .tup [.tup [.int 7, .int 1]]]) rfl (ju_loop _ _ _ (fun c3 c4 => ?_) _ ?_)) ?_
  · exact ⟨_, c3, c4, rfl⟩
  · intro x hx
    rcases List.mem_append.mp hx with m | m
    · rcases List.mem_append.mp m with m | m
      · exact g x m
      · obtain ⟨i, _, rfl⟩ := List.mem_map.mp m
        exact good_int i
    · exact good_mix x m
  · rintro ρ ⟨c2, c3, c4, rfl⟩
    exact wp_rt (fr := false) (d := .bl true) rfl ⟨[d'], rfl, d', hb, rfl⟩
end K01

namespace K01
open PySem DF KF
theorem sum_list (n : Nat) : ∀ m, (((List.range m).filter fun k => decide (n % (k + 1) = 0)).map fun k => mu (k + 1)).sum = sum1 (onD n mu) m
  | 0 => rfl
  | m + 1 => by
    rw [List.range_succ, List.filter_append, List.map_append, List.sum_append, sum_list n m]
    show _ = sum1 (onD n mu) m + onD n mu (m + 1)
    unfold onD
    rw [List.filter_cons, List.filter_nil]
    by_cases h : n % (m + 1) = 0
    · simp [h]
    · simp [h]
abbrev frE (d : D) (a b c : Int) (t : D) : DEnv := [some (.mu true d), some (.val (.int a)), some (.val (.int b)), some (.val (.int c)), some (.val t), none]
theorem fr0 {n : Nat} {d : D} (h : Bag n d) (hn : n ≤ 800000) : ∃ (a b c : Int) (d' : D), 1 ≤ a ∧ a ≤ 1000000000 ∧ 1 ≤ b ∧ b ≤ 1000000 ∧ 1 ≤ c ∧ c ≤ 2520 ∧ Bag (n + 33) d' ∧ (dAsg (dTup (vCons (dV (dCal2 2 F_q_nb_drawn (rIo 0 (rVal (dBin powD (oD (dC (.int 10))) (oD (dC (.int 9)))) (rNil))))) (vCons (dV (dCal2 2 F_q_nb_drawn (rIo 0 (rVal (dBin powD (oD (dC (.int 10))) (oD (dC (.int 6)))) (rNil))))) (vCons (dV (dCal2 2 F_q_nb_drawn (rIo 0 (rVal (dC (.int 2520)) (rNil))))) (vNil))))) (gTp 3 (gsCons (setV 1) (gsCons (setV 2) (gsCons (setV 3) (gsNil)))))) [some (.mu true d), none, none, none, none, none] = .nx [some (.mu true d'), some (.val (.int a)), some (.val (.int b)), some (.val (.int c)), none, none] := by
  obtain ⟨a, d1, a1, a2, b1, e1⟩ := e_drawn (most := 1000000000) h (by omega) (by decide) (by decide)
  obtain ⟨b, d2, a3, a4, b2, e2⟩ := e_drawn (most := 1000000) b1 (by omega) (by decide) (by decide)
  obtain ⟨c, d3, a5, a6, b3, e3⟩ := e_drawn (most := 2520) b2 (by omega) (by decide) (by decide)
  exact ⟨a, b, c, d3, a1, a2, a3, a4, a5, a6, b3, by simp [eqY_int, neY_int, max2_ap, min2_ap, DF.R.bind_ok, DF.R.bindS_ok, DF.R.bindN_ok, DF.SR.bind_nx, DF.SR.bind_ret, ofO, ths, setV, setF, free, set2, set3, fnRes, startE, startC, outs, argsD, putD, ioIx, isMu, look, DF.muL, ltD_ap, leD_ap, gtD_ap, geD_ap, addD_ap, subD_ap, negD_ap, absD_ap, intD_ap, intD_apB, eq_int, ne_int, ixD, L2.atI, L2.ixN, lenD, gcdD, max2D, min2D, p9, p6, e1, e2, e3]⟩
theorem fr1 {d : D} {N : Nat} {b c : Int} (h1 : 1 ≤ N) (h2 : N ≤ 1000000000) : (dSet 4 (dV (dCal2 1 F_prime_factors (rVal (dVar 1) (rNil))))) [some (.mu true d), some (.val (.int (N : Int))), some (.val (.int b)), some (.val (.int c)), none, none] = .nx (frE d N b c (.dic (fdD (facs 2 N)))) := by
  have e := e_pf h1 (show N ≤ 10 ^ 9 by omega)
  generalize fdD (facs 2 N) = L at *
  simp [eqY_int, neY_int, max2_ap, min2_ap, DF.R.bind_ok, DF.R.bindS_ok, DF.R.bindN_ok, DF.SR.bind_nx, DF.SR.bind_ret, ofO, ths, setV, setF, free, set2, set3, fnRes, startE, startC, outs, argsD, putD, ioIx, isMu, look, DF.muL, ltD_ap, leD_ap, gtD_ap, geD_ap, addD_ap, subD_ap, negD_ap, absD_ap, intD_ap, intD_apB, eq_int, ne_int, ixD, L2.atI, L2.ixN, lenD, gcdD, max2D, min2D, e]
theorem fr2_c (F_q_nb_factors F_moebius F_q_nb_sign : Fn) (sortO keysO : D → Option (List D)) {d : D} {N B c : Int} {L : List (L2.Key × D)} {ks : List D} {m : Int} (e : F_q_nb_factors [(false, .int N)] = .ret true (.dic L) []) (f1 : F_moebius [(false, .int B)] = .ret false (.int m) []) (f2 : F_q_nb_sign [(false, .int B)] = .ret false (.int m) []) (q1 : neY (.dic L) (.dic L) = some (.bl false)) (k1 : keysO (.dic L) = some ks) (k2 : sortO (.dic L) = some ks) (k3 : neY (.lst ks) (.lst ks) = some (.bl false)) :
    (dIf (dOr (dTst (dBin neY (oVar 4) (oD (dV (dCal2 1 F_q_nb_factors (rVal (dVar 1) (rNil))))))) (dOr (dTst (dBin neY (oD (dMk keysO (oVar 4))) (oD (dMk sortO (oVar 4))))) (dTst (dBin neY (oD (dV (dCal2 1 F_moebius (rVal (dVar 2) (rNil))))) (oD (dV (dCal2 1 F_q_nb_sign (rVal (dVar 2) (rNil))))))))) (dRet (dC (.bl false))) (SR.nx)) (frE d N B c (.dic L)) = .nx (frE d N B c (.dic L)) := by
  unfold frE
  simp [eqY_int, neY_int, max2_ap, min2_ap, DF.R.bind_ok, DF.R.bindS_ok, DF.R.bindN_ok, DF.SR.bind_nx, DF.SR.bind_ret, ofO, ths, setV, setF, free, set2, set3, fnRes, startE, startC, outs, argsD, putD, ioIx, isMu, look, DF.muL, ltD_ap, leD_ap, gtD_ap, geD_ap, addD_ap, subD_ap, negD_ap, absD_ap, intD_ap, intD_apB, eq_int, ne_int, ixD, L2.atI, L2.ixN, lenD, gcdD, max2D, min2D, e, f1, f2, q1, k1, k2, k3]
theorem fr2 {d : D} {N B : Nat} {c : Int} (h1 : 1 ≤ N) (h2 : N ≤ 1000000000) (h3 : 1 ≤ B) (h4 : B ≤ 1000000) : (dIf (dOr (dTst (dBin neY (oVar 4) (oD (dV (dCal2 1 F_q_nb_factors (rVal (dVar 1) (rNil))))))) (dOr (dTst (dBin neY (oD (dMk keysO (oVar 4))) (oD (dMk sortO (oVar 4))))) (dTst (dBin neY (oD (dV (dCal2 1 F_moebius (rVal (dVar 2) (rNil))))) (oD (dV (dCal2 1 F_q_nb_sign (rVal (dVar 2) (rNil))))))))) (dRet (dC (.bl false))) (SR.nx)) (frE d N B c (.dic (fdD (facs 2 N)))) = .nx (frE d N B c (.dic (fdD (facs 2 N)))) := by
  have q1 := neY_fd (facs 2 N) (facs 2 N)
  rw [eqF_same (facs2_asc h1)] at q1
  have e := e_nf h1 (show N ≤ 10 ^ 9 by omega)
  have f1 := e_mu h3 h4
  have f2 := e_sign h3 h4
  have k1 := keys_fd (facs 2 N)
  have k2 := sort_fd (facs2_asc h1) (by have := facs2_len h1 (show N < 2 ^ 30 by omega); omega)
  have k3 : neY (.lst (((facs 2 N).map fun p => (p.1 : Int)).map D.int)) (.lst (((facs 2 N).map fun p => (p.1 : Int)).map D.int)) = some (.bl false) := ne1Y (ne_same (plain_ints 8 _))
  exact fr2_c _ _ _ _ _ e f1 f2 q1 k1 k2 k3
theorem rg_few (n : Nat) (hn : n ≤ 90000) (c0 c1 c2 c4 c5 : Option Cell) : sRng2 (vCons (dC (.int 1)) (vCons (dBin addD (oVar 3) (oD (dC (.int 1)))) (vNil))) [c0, c1, c2, some (.val (.int (n : Int))), c4, c5] = .ok [c0, c1, c2, some (.val (.int (n : Int))), c4, c5] ((List.range n).map fun (k : Nat) => D.int (1 + (k : Int))) := by
  have e : vCons (dC (.int 1)) (vCons (dBin addD (oVar 3) (oD (dC (.int 1)))) (vNil)) [c0, c1, c2, some (.val (.int (n : Int))), c4, c5] = .ok [c0, c1, c2, some (.val (.int (n : Int))), c4, c5] [.int 1, .int ((n : Int) + 1)] := by simp [eqY_int, neY_int, max2_ap, min2_ap, DF.R.bind_ok, DF.R.bindS_ok, DF.R.bindN_ok, DF.SR.bind_nx, DF.SR.bind_ret, ofO, ths, setV, setF, free, set2, set3, fnRes, startE, startC, outs, argsD, putD, ioIx, isMu, look, DF.muL, ltD_ap, leD_ap, gtD_ap, geD_ap, addD_ap, subD_ap, negD_ap, absD_ap, intD_ap, intD_apB, eq_int, ne_int, ixD, L2.atI, L2.ixN, lenD, gcdD, max2D, min2D]
  have r := rng2_ap e (by decide) (inR_nat (n := n + 1) (by omega))
  rw [r, show ((n : Int) + 1 - 1).toNat = n by omega]
  rfl
def smT : DEnv → DF.R Bool := dTst (dBin eqY (oD (dBin modD (oVar 3) (oVar 5))) (oD (dC (.int 0))))
def smE : DEnv → DF.R D := dV (dCal2 1 F_moebius (rVal (dVar 5) (rNil)))
theorem smT_c {d t : D} {a b z : Int} {n k : Nat} (hz : z = ((k + 1 : Nat) : Int)) : smT [some (.mu true d), some (.val (.int a)), some (.val (.int b)), some (.val (.int (n : Int))), some (.val t), some (.val (.int z))] = .ok [some (.mu true d), some (.val (.int a)), some (.val (.int b)), some (.val (.int (n : Int))), some (.val t), some (.val (.int z))] (decide (n % (k + 1) = 0)) := by
  have e := nmod (m := n) (d := k + 1) (by omega)
  rw [← hz] at e
  generalize n % (k + 1) = r at *
  simp [smT, eqY_int, neY_int, max2_ap, min2_ap, DF.R.bind_ok, DF.R.bindS_ok, DF.R.bindN_ok, DF.SR.bind_nx, DF.SR.bind_ret, ofO, ths, setV, setF, free, set2, set3, fnRes, startE, startC, outs, argsD, putD, ioIx, isMu, look, DF.muL, ltD_ap, leD_ap, gtD_ap, geD_ap, addD_ap, subD_ap, negD_ap, absD_ap, intD_ap, intD_apB, eq_int, ne_int, ixD, L2.atI, L2.ixN, lenD, gcdD, max2D, min2D, e]
theorem smE_c (F_moebius : Fn) {d t : D} {a b n z m : Int} (e : F_moebius [(false, .int z)] = .ret false (.int m) []) : dV (dCal2 1 F_moebius (rVal (dVar 5) (rNil))) [some (.mu true d), some (.val (.int a)), some (.val (.int b)), some (.val (.int n)), some (.val t), some (.val (.int z))] = .ok [some (.mu true d), some (.val (.int a)), some (.val (.int b)), some (.val (.int n)), some (.val t), some (.val (.int z))] (.int m) := by
  simp [eqY_int, neY_int, max2_ap, min2_ap, DF.R.bind_ok, DF.R.bindS_ok, DF.R.bindN_ok, DF.SR.bind_nx, DF.SR.bind_ret, ofO, ths, setV, setF, free, set2, set3, fnRes, startE, startC, outs, argsD, putD, ioIx, isMu, look, DF.muL, ltD_ap, leD_ap, gtD_ap, geD_ap, addD_ap, subD_ap, negD_ap, absD_ap, intD_ap, intD_apB, eq_int, ne_int, ixD, L2.atI, L2.ixN, lenD, gcdD, max2D, min2D, e]
theorem fr3_c {g : DEnv → DF.R D} (sumD : List D → Option D) {d t : D} {a b : Int} {n : Nat} {L : List D} (lc : g (frE d a b n t) = .ok (frE d a b n t) (.lst L)) (sm : sumD [.lst L] = some (.int (if n = 1 then 1 else 0))) :
    dIf (dTst (dBin neY (oD (dCal sumD (aCons (oD g) (aNil)))) (oD (dCal intD (aCons (oD (dBin eqY (oVar 3) (oD (dC (.int 1))))) (aNil)))))) (dRet (dC (.bl false))) (SR.nx) (frE d a b n t) = .nx (frE d a b n t) := by
  unfold frE at *
  by_cases hn : n = 1
  · rw [if_pos hn] at sm
    have c2 : ((n : Int) = 1) ↔ True := ⟨fun _ => trivial, fun _ => by omega⟩
    simp [eqY_int, neY_int, max2_ap, min2_ap, DF.R.bind_ok, DF.R.bindS_ok, DF.R.bindN_ok, DF.SR.bind_nx, DF.SR.bind_ret, ofO, ths, setV, setF, free, set2, set3, fnRes, startE, startC, outs, argsD, putD, ioIx, isMu, look, DF.muL, ltD_ap, leD_ap, gtD_ap, geD_ap, addD_ap, subD_ap, negD_ap, absD_ap, intD_ap, intD_apB, eq_int, ne_int, ixD, L2.atI, L2.ixN, lenD, gcdD, max2D, min2D, lc, sm, c2]
  · rw [if_neg hn] at sm
    have c2 : ((n : Int) = 1) ↔ False := ⟨fun z => by omega, fun z => z.elim⟩
    simp [eqY_int, neY_int, max2_ap, min2_ap, DF.R.bind_ok, DF.R.bindS_ok, DF.R.bindN_ok, DF.SR.bind_nx, DF.SR.bind_ret, ofO, ths, setV, setF, free, set2, set3, fnRes, startE, startC, outs, argsD, putD, ioIx, isMu, look, DF.muL, ltD_ap, leD_ap, gtD_ap, geD_ap, addD_ap, subD_ap, negD_ap, absD_ap, intD_ap, intD_apB, eq_int, ne_int, ixD, L2.atI, L2.ixN, lenD, gcdD, max2D, min2D, lc, sm, c2]
theorem fr3 {d t : D} {a b : Int} {n : Nat} (h1 : 1 ≤ n) (h2 : n ≤ 2520) : (dIf (dTst (dBin neY (oD (dCal sumD (aCons (oD (dLc (sRng2 (vCons (dC (.int 1)) (vCons (dBin addD (oVar 3) (oD (dC (.int 1)))) (vNil)))) (setV 5) (dTst (dBin eqY (oD (dBin modD (oVar 3) (oVar 5))) (oD (dC (.int 0))))) (dV (dCal2 1 F_moebius (rVal (dVar 5) (rNil)))) [5])) (aNil)))) (oD (dCal intD (aCons (oD (dBin eqY (oVar 3) (oD (dC (.int 1))))) (aNil)))))) (dRet (dC (.bl false))) (SR.nx)) (frE d a b n t) = .nx (frE d a b n t) := by
  have lc : dLc (sRng2 (vCons (dC (.int 1)) (vCons (dBin addD (oVar 3) (oD (dC (.int 1)))) (vNil)))) (setV 5) smT smE [5] (frE d a b n t) = .ok (frE d a b n t) (.lst (((List.range n).filter fun k => decide (n % (k + 1) = 0)).map fun k => D.int (mu (k + 1)))) := by
    refine lc_ap (rg_few n (by omega) _ _ _ _ _) rfl (lc_pure (fun (k : Nat) => D.int (1 + (k : Int))) (fun k => decide (n % (k + 1) = 0)) (fun (k : Nat) => D.int (mu (k + 1))) (List.range n) [] (by simp; omega) fun k hk => ?_)
    have hk := List.mem_range.mp hk
    have ek : (1 + (k : Int)) = ((k + 1 : Nat) : Int) := by omega
    have e := e_mu (N := k + 1) (by omega) (by omega)
    rw [← ek] at e
    exact ⟨_, _, rfl, smT_c ek, fun _ => ⟨rfl, rfl⟩, fun _ => ⟨_, smE_c F_moebius e, rfl, rfl⟩⟩
  have sm : sumD [.lst (((List.range n).filter fun k => decide (n % (k + 1) = 0)).map fun k => D.int (mu (k + 1)))] = some (.int (if n = 1 then 1 else 0)) := by
    have e := intsD_map (((List.range n).filter fun k => decide (n % (k + 1) = 0)).map fun k => mu (k + 1))
    rw [List.map_map] at e
    have e : intsD (((List.range n).filter fun k => decide (n % (k + 1) = 0)).map fun k => D.int (mu (k + 1))) = _ := e
    show (intsD _).map (fun ns => D.int ns.sum) = _
    rw [e, Option.map_some, sum_list, mu_sum h1]
  exact fr3_c sumD lc sm
def nuT : DEnv → DF.R Bool := dTst (dBin eqY (oD (dV (dCal2 1 F_q_nb_divisor (rVal (dTup (vCons (dVar 5) (vCons (dVar 3) (vNil)))) (rNil))))) (oD (dC (.int 1))))
theorem plain_units (n : Nat) : plainDs 8 (unitsL n) = true := by
  have : unitsL n = (((List.range n).filter fun k => decide (Nat.gcd (k + 1) n = 1)).map fun (k : Nat) => (1 + (k : Int))).map D.int := by
    rw [List.map_map]; rfl
  rw [this]
  exact plain_ints 8 _
theorem nu_c (F_q_nb_divisor : Fn) {d t : D} {a b n z : Int} {g : Nat} (e : F_q_nb_divisor [(false, .tup [.int z, .int n])] = .ret false (.int (g : Int)) []) :
    dTst (dBin eqY (oD (dV (dCal2 1 F_q_nb_divisor (rVal (dTup (vCons (dVar 5) (vCons (dVar 3) (vNil)))) (rNil))))) (oD (dC (.int 1)))) [some (.mu true d), some (.val (.int a)), some (.val (.int b)), some (.val (.int n)), some (.val t), some (.val (.int z))] = .ok [some (.mu true d), some (.val (.int a)), some (.val (.int b)), some (.val (.int n)), some (.val t), some (.val (.int z))] (decide (g = 1)) := by
  have c1 : ((g : Int) = 1) ↔ g = 1 := by omega
  simp [eqY_int, neY_int, max2_ap, min2_ap, DF.R.bind_ok, DF.R.bindS_ok, DF.R.bindN_ok, DF.SR.bind_nx, DF.SR.bind_ret, ofO, ths, setV, setF, free, set2, set3, fnRes, startE, startC, outs, argsD, putD, ioIx, isMu, look, DF.muL, ltD_ap, leD_ap, gtD_ap, geD_ap, addD_ap, subD_ap, negD_ap, absD_ap, intD_ap, intD_apB, eq_int, ne_int, ixD, L2.atI, L2.ixN, lenD, gcdD, max2D, min2D, e, c1]
theorem fr4_c (F_units_of : Fn) {g : DEnv → DF.R D} {d t : D} {a b n : Int} {L : List D} (lc : g (frE d a b n t) = .ok (frE d a b n t) (.lst L)) (eu : F_units_of [(false, .int n)] = .ret false (.tup L) []) (q : eqY (.tup L) (.tup L) = some (.bl true)) :
    dRet (dBin eqY (oD (dV (dCal2 1 F_units_of (rVal (dVar 3) (rNil))))) (oD (dCal tupD (aCons (oD g) (aNil))))) (frE d a b n t) = .ret (frE d a b n t) false (.bl true) := by
  unfold frE at *
  simp [eqY_int, neY_int, max2_ap, min2_ap, DF.R.bind_ok, DF.R.bindS_ok, DF.R.bindN_ok, DF.SR.bind_nx, DF.SR.bind_ret, ofO, ths, setV, setF, free, set2, set3, fnRes, startE, startC, outs, argsD, putD, ioIx, isMu, look, DF.muL, ltD_ap, leD_ap, gtD_ap, geD_ap, addD_ap, subD_ap, negD_ap, absD_ap, intD_ap, intD_apB, eq_int, ne_int, ixD, L2.atI, L2.ixN, lenD, gcdD, max2D, min2D, lc, eu, q, tupD]
theorem fr4 {d t : D} {a b : Int} {n : Nat} (h1 : 1 ≤ n) (h2 : n ≤ 2520) : (dRet (dBin eqY (oD (dV (dCal2 1 F_units_of (rVal (dVar 3) (rNil))))) (oD (dCal tupD (aCons (oD (dLc (sRng2 (vCons (dC (.int 1)) (vCons (dBin addD (oVar 3) (oD (dC (.int 1)))) (vNil)))) (setV 5) (dTst (dBin eqY (oD (dV (dCal2 1 F_q_nb_divisor (rVal (dTup (vCons (dVar 5) (vCons (dVar 3) (vNil)))) (rNil))))) (oD (dC (.int 1))))) (dVar 5) [5])) (aNil)))))) (frE d a b n t) = .ret (frE d a b n t) false (.bl true) := by
  have lc : dLc (sRng2 (vCons (dC (.int 1)) (vCons (dBin addD (oVar 3) (oD (dC (.int 1)))) (vNil)))) (setV 5) nuT (dVar 5) [5] (frE d a b n t) = .ok (frE d a b n t) (.lst (unitsL n)) := by
    refine lc_ap (rg_few n (by omega) _ _ _ _ _) rfl (lc_pure (fun (k : Nat) => D.int (1 + (k : Int))) (fun k => decide (Nat.gcd (k + 1) n = 1)) (fun (k : Nat) => D.int (1 + (k : Int))) (List.range n) [] (by simp; omega) fun k hk => ?_)
    have e := e_nbdiv [1 + (k : Int), (n : Int)]
    have g : gcdL 0 [1 + (k : Int), (n : Int)] = Nat.gcd (k + 1) n := by
      show Nat.gcd (Nat.gcd 0 (1 + (k : Int)).natAbs) (n : Int).natAbs = _
      rw [Int.natAbs_natCast, Nat.gcd_zero_left, show (1 + (k : Int)).natAbs = k + 1 by omega]
    rw [g] at e
    exact ⟨_, _, rfl, nu_c F_q_nb_divisor e, fun _ => ⟨rfl, rfl⟩, fun _ => ⟨_, rfl, rfl, rfl⟩⟩
  exact fr4_c F_units_of lc (e_units h1 h2) (eq1Y (eq_same (plain_units n)))
theorem e_factors {n : Nat} {d : D} (h : Bag n d) (hn : n ≤ 800000) : ∃ d', Bag (n + 33) d' ∧ F_q_factors_right [(true, d)] = .ret false (.bl true) [d'] := by
  obtain ⟨a, b, c, d', a1, a2, a3, a4, a5, a6, hb, e0⟩ := fr0 h hn
  obtain ⟨N, rfl⟩ : ∃ N : Nat, a = N := ⟨a.toNat, by omega⟩
  obtain ⟨B, rfl⟩ : ∃ N : Nat, b = N := ⟨b.toNat, by omega⟩
  obtain ⟨C, rfl⟩ : ∃ N : Nat, c = N := ⟨c.toNat, by omega⟩
  unfold F_q_factors_right
  refine fn_of (P := fun R => ∃ d', Bag (n + 33) d' ∧ R = .ret false (.bl true) [d']) ?_
  unfold B_q_factors_right
  refine wp_seq e0 ?_
  refine wp_seq (fr1 (by omega) (by omega)) ?_
  refine wp_seq (fr2 (by omega) (by omega) (by omega) (by omega)) ?_
  refine wp_seq (fr3 (by omega) (by omega)) ?_
  exact wp_rt (fr4 (by omega) (by omega)) ⟨[d'], rfl, d', hb, rfl⟩
end K01

namespace K01
open PySem DF KF
def lwB : DEnv → SR := (dSeq (dSetF 2 (dN (dCal2 2 F_q_bag (rVal (dVar 0) (rVal (dVar 1) (rNil))))))
    (dIf (dOr (dNot (dTst (dV (dCal2 1 F_q_judged_right (rIo 2 (rNil)))))) (dOr (dNot (dTst (dV (dCal2 1 F_q_factors_right (rIo 2 (rNil)))))) (dOr (dNot (dTst (dV (dCal2 1 F_q_commons_right (rIo 2 (rNil)))))) (dNot (dTst (dV (dCal2 1 F_q_digits_right (rIo 2 (rNil))))))))) (dRet (dC (.bl false))) (SR.nx)))
theorem lwB_c (F_q_bag F_q_judged_right F_q_factors_right F_q_commons_right F_q_digits_right : Fn) {s : D} {k : Int} {c2 : Option Cell} {d0 d1 d2 d3 d4 : D} (k2 : c2 = none ∨ ∃ d, c2 = some (.mu false d)) (eb : F_q_bag [(false, s), (false, .int k)] = .ret true d0 []) (e1 : F_q_judged_right [(true, d0)] = .ret false (.bl true) [d1]) (e2 : F_q_factors_right [(true, d1)] = .ret false (.bl true) [d2]) (e3 : F_q_commons_right [(true, d2)] = .ret false (.bl true) [d3]) (e4 : F_q_digits_right [(true, d3)] = .ret false (.bl true) [d4]) :
    (dSeq (dSetF 2 (dN (dCal2 2 F_q_bag (rVal (dVar 0) (rVal (dVar 1) (rNil))))))
    (dIf (dOr (dNot (dTst (dV (dCal2 1 F_q_judged_right (rIo 2 (rNil)))))) (dOr (dNot (dTst (dV (dCal2 1 F_q_factors_right (rIo 2 (rNil)))))) (dOr (dNot (dTst (dV (dCal2 1 F_q_commons_right (rIo 2 (rNil)))))) (dNot (dTst (dV (dCal2 1 F_q_digits_right (rIo 2 (rNil))))))))) (dRet (dC (.bl false))) (SR.nx))) [some (.val s), some (.val (.int k)), c2, none] = .nx [some (.val s), some (.val (.int k)), some (.mu false d4), none] := by
  rcases k2 with rfl | ⟨d, rfl⟩ <;> simp [eqY_int, neY_int, max2_ap, min2_ap, DF.R.bind_ok, DF.R.bindS_ok, DF.R.bindN_ok, DF.SR.bind_nx, DF.SR.bind_ret, ofO, ths, setV, setF, free, set2, set3, fnRes, startE, startC, outs, argsD, putD, ioIx, isMu, look, DF.muL, ltD_ap, leD_ap, gtD_ap, geD_ap, addD_ap, subD_ap, negD_ap, absD_ap, intD_ap, intD_apB, eq_int, ne_int, ixD, L2.atI, L2.ixN, lenD, gcdD, max2D, min2D, eb, e1, e2, e3, e4]
theorem lw_iter (ns : List Int) : ∃ K : Nat, 1 ≤ K ∧ K ≤ 3 ∧ (K ≤ ns.length ∨ (ns = [] ∧ K = 1)) ∧ (sRng1 (vCons (dCal (orC max2D maxSD) (aCons (oD (dC (.int 1))) (aCons (oD (dCal (orC min2D minSD) (aCons (oD (dC (.int 3))) (aCons (oD (dCal lenD (aCons (oVar 0) (aNil)))) (aNil))))) (aNil)))) (vNil))) [some (.val (.fro (ns.map D.int))), none, none, none] = .ok [some (.val (.fro (ns.map D.int))), none, none, none] (rng 0 K) := by
  have e : (vCons (dCal (orC max2D maxSD) (aCons (oD (dC (.int 1))) (aCons (oD (dCal (orC min2D minSD) (aCons (oD (dC (.int 3))) (aCons (oD (dCal lenD (aCons (oVar 0) (aNil)))) (aNil))))) (aNil)))) (vNil)) [some (.val (.fro (ns.map D.int))), none, none, none] = .ok [some (.val (.fro (ns.map D.int))), none, none, none] [.int ((max 1 (min 3 ns.length) : Nat) : Int)] := by
    have hl : (ns.map D.int).length = ns.length := List.length_map ..
    generalize ns.map D.int = L at *
    have q : (if (if (L.length : Int) < 3 then (L.length : Int) else 3) > 1 then (if (L.length : Int) < 3 then (L.length : Int) else 3) else 1) = ((max 1 (min 3 ns.length) : Nat) : Int) := by
      rw [hl]; split <;> split <;> omega
    rw [← q]
    simp [eqY_int, neY_int, max2_ap, min2_ap, DF.R.bind_ok, DF.R.bindS_ok, DF.R.bindN_ok, DF.SR.bind_nx, DF.SR.bind_ret, ofO, ths, setV, setF, free, set2, set3, fnRes, startE, startC, outs, argsD, putD, ioIx, isMu, look, DF.muL, ltD_ap, leD_ap, gtD_ap, geD_ap, addD_ap, subD_ap, negD_ap, absD_ap, intD_ap, intD_apB, eq_int, ne_int, ixD, L2.atI, L2.ixN, lenD, gcdD, max2D, min2D]
  refine ⟨max 1 (min 3 ns.length), by omega, by omega, ?_, rng1_ap (inR_nat (by omega)) e⟩
  cases ns with
  | nil => exact .inr ⟨rfl, rfl⟩
  | cons x l => left; simp only [List.length_cons]; omega
theorem lw0 (ns : List Int) {E : Ps} (hE : ∀ c1 c2, E.nx [some (.val (.fro (ns.map D.int))), c1, c2, none]) : Wp ((dForS (sRng1 (vCons (dCal (orC max2D maxSD) (aCons (oD (dC (.int 1))) (aCons (oD (dCal (orC min2D minSD) (aCons (oD (dC (.int 3))) (aCons (oD (dCal lenD (aCons (oVar 0) (aNil)))) (aNil))))) (aNil)))) (vNil))) (setV 1) (dSeq (dSetF 2 (dN (dCal2 2 F_q_bag (rVal (dVar 0) (rVal (dVar 1) (rNil))))))
    (dIf (dOr (dNot (dTst (dV (dCal2 1 F_q_judged_right (rIo 2 (rNil)))))) (dOr (dNot (dTst (dV (dCal2 1 F_q_factors_right (rIo 2 (rNil)))))) (dOr (dNot (dTst (dV (dCal2 1 F_q_commons_right (rIo 2 (rNil)))))) (dNot (dTst (dV (dCal2 1 F_q_digits_right (rIo 2 (rNil))))))))) (dRet (dC (.bl false))) (SR.nx)))) [some (.val (.fro (ns.map D.int))), none, none, none]) E := by
  obtain ⟨K, K1, K3, hK, it⟩ := lw_iter ns
  refine wp_forS it ?_
  refine wp_for (fun (k : Nat) => D.int (0 + (k : Int))) (fun l ρ => (∀ k ∈ l, k < K) ∧ ∃ c1 c2, Vc c1 ∧ (c2 = none ∨ ∃ d, c2 = some (.mu false d)) ∧ ρ = [some (.val (.fro (ns.map D.int))), c1, c2, none]) ?_ ?_ (List.range K) _ ⟨fun k hk => List.mem_range.mp hk, none, none, .inl rfl, .inl rfl, rfl⟩
  · rintro k l ρ ⟨hl, c1, c2, k1, k2, rfl⟩
    have kK := hl k List.mem_cons_self
    refine ⟨[some (.val (.fro (ns.map D.int))), some (.val (.int (k : Int))), c2, none], by rw [Int.zero_add]; rcases k1 with rfl | ⟨d, rfl⟩ <;> rfl, ?_⟩
    obtain ⟨d0, b0, eb⟩ := e_bag ns k (by
      rcases hK with h | ⟨h1, h2⟩
      · left; omega
      · right; exact ⟨h1, by omega⟩) (by omega)
    obtain ⟨d1, b1, e1⟩ := e_judged b0 (by omega)
    obtain ⟨d2, b2, e2⟩ := e_factors b1 (by omega)
    obtain ⟨d3, b3, e3⟩ := e_commons b2 (by omega)
    obtain ⟨d4, b4, e4⟩ := e_digits_right b3 (by omega)
    exact wp_nx (f := lwB) (lwB_c F_q_bag F_q_judged_right F_q_factors_right F_q_commons_right F_q_digits_right k2 eb e1 e2 e3 e4) ⟨fun j hj => hl j (List.mem_cons_of_mem _ hj), _, _, .inr ⟨_, rfl⟩, .inr ⟨_, rfl⟩, rfl⟩
  · rintro ρ ⟨_, c1, c2, _, _, rfl⟩
    exact hE c1 c2
def told : D := .lst [.dic [(.inl 2, .int 3), (.inl 3, .int 2), (.inl 5, .int 1)], .dic [], .int (-1), .int 0, .tup [.int 1, .int 5, .int 7, .int 11], .tup [.int 1], .tup [.int 3, .int 6]]
theorem lw1 (c0 c1 c2 : Option Cell) : (dSet 3 (dLst (vCons (dV (dCal2 1 F_prime_factors (rVal (dC (.int 360)) (rNil)))) (vCons (dV (dCal2 1 F_prime_factors (rVal (dC (.int 1)) (rNil)))) (vCons (dV (dCal2 1 F_moebius (rVal (dC (.int 30)) (rNil)))) (vCons (dV (dCal2 1 F_moebius (rVal (dC (.int 12)) (rNil)))) (vCons (dV (dCal2 1 F_units_of (rVal (dC (.int 12)) (rNil)))) (vCons (dV (dCal2 1 F_units_of (rVal (dC (.int 1)) (rNil)))) (vCons (dV (dCal2 2 F_digits_of (rVal (dC (.int 45)) (rVal (dC (.int 7)) (rNil))))) (vNil)))))))))) [c0, c1, c2, none] = .nx [c0, c1, c2, some (.val told)] := by kernel_rfl
theorem lw2 (c0 c1 c2 : Option Cell) : (dIf (dTst (dBin neY (oVar 3) (oD (dLst (vCons (dDisp [(dC (.int 2), dC (.int 3)), (dC (.int 3), dC (.int 2)), (dC (.int 5), dC (.int 1))]) (vCons (dDic0) (vCons (dUn negD (oD (dC (.int 1)))) (vCons (dC (.int 0)) (vCons (dTup (vCons (dC (.int 1)) (vCons (dC (.int 5)) (vCons (dC (.int 7)) (vCons (dC (.int 11)) (vNil)))))) (vCons (dTup (vCons (dC (.int 1)) (vNil))) (vCons (dTup (vCons (dC (.int 3)) (vCons (dC (.int 6)) (vNil)))) (vNil)))))))))))) (dRet (dC (.bl false))) (SR.nx)) [c0, c1, c2, some (.val told)] = .nx [c0, c1, c2, some (.val told)] := by kernel_rfl
theorem lw3 (c0 c1 c2 : Option Cell) : (dRet (dBin eqY (oD (dLst (vCons (dV (dCal2 1 F_common_divisor (rVal (dTup (vCons (dC (.int 0)) (vNil))) (rNil)))) (vCons (dV (dCal2 1 F_common_multiple (rVal (dTup (vCons (dC (.int 30)) (vCons (dC (.int 15)) (vCons (dC (.int 10)) (vCons (dC (.int 6)) (vNil)))))) (rNil)))) (vCons (dV (dCal2 2 F_digits_of (rVal (dBin powD (oD (dC (.int 10))) (oD (dC (.int 6)))) (rVal (dBin powD (oD (dC (.int 10))) (oD (dC (.int 6)))) (rNil))))) (vCons (dV (dCal2 1 F_prime_factors (rVal (dBin powD (oD (dC (.int 10))) (oD (dC (.int 9)))) (rNil)))) (vNil))))))) (oD (dLst (vCons (dC (.int 0)) (vCons (dC (.int 30)) (vCons (dTup (vCons (dC (.int 0)) (vCons (dC (.int 1)) (vNil)))) (vCons (dDisp [(dC (.int 2), dC (.int 9)), (dC (.int 5), dC (.int 9))]) (vNil))))))))) [c0, c1, c2, some (.val told)] = .ret [c0, c1, c2, some (.val told)] false (.bl true) := by kernel_rfl
theorem law_true (ns : List Int) (h : ns.length ≤ 63) : F_law [(false, .fro (ns.map D.int))] = .ret false (.bl true) [] := by
  unfold F_law
  refine fn_of (P := fun R => R = _) ?_
  unfold B_law
  refine wp_seqW (Q := fun ρ => ∃ c1 c2, ρ = [some (.val (.fro (ns.map D.int))), c1, c2, none]) (lw0 ns ?_) ?_
  · exact fun c1 c2 => ⟨c1, c2, rfl⟩
  · rintro ρ ⟨c1, c2, rfl⟩
    refine wp_seq (lw1 _ _ _) ?_
    refine wp_seq (lw2 _ _ _) ?_
    exact wp_rt (lw3 _ _ _) ⟨[], rfl, rfl⟩
end K01

open PySem PySem.W PyProof.Rows
set_option maxHeartbeats 0 in
theorem PySem.Challenge.cw_wholerises_k01_whole_integers_holds : PySem.Challenge.rw_wholerises_k01_whole_integers.Holds := by
  w_on; o_law; k_head; (case hw => w_witness2)
  k_fill
  refine DF.walk_G (l := PySem.Challenge.rw_wholerises_k01_whole_integers) (n := 63) (k := 8) (x := "_law_script") (CX := fun w => L2.CX PySem.Challenge.rw_wholerises_k01_whole_integers.prog w) (sp := fun w => DF.spD _ 1 K01.F_law) rfl (by decide) rfl ⟨rfl, by decide, by decide⟩ (fun w h Y => PySem.W.kIn_of Y) ?F (fun _ _ a ns hl _ hS => DF.hsp_of (K01.law_true ns hl) hS) (fun _ _ _ _ _ h => DF.cx_end h)
  case F =>
    intro w mg fa h KX G hmg
    refine' K01.all_mk KX G hmg ?a0 ?l0 ?c0 ?k0 ?a1 ?l1 ?c1 ?k1 ?a2 ?l2 ?c2 ?k2 ?a3 ?l3 ?c3 ?k3 ?a4 ?l4 ?c4 ?k4 ?a5 ?l5 ?c5 ?k5 ?a6 ?l6 ?c6 ?k6 ?a7 ?l7 ?c7 ?k7 ?a8 ?l8 ?c8 ?k8 ?a9 ?l9 ?c9 ?k9 ?a10 ?l10 ?c10 ?k10 ?a11 ?l11 ?c11 ?k11 ?a12 ?l12 ?c12 ?k12 ?a13 ?l13 ?c13 ?k13 ?a14 ?l14 ?c14 ?k14 ?a15 ?l15 ?c15 ?k15 ?a16 ?l16 ?c16 ?k16 ?a17 ?l17 ?c17 ?k17 ?a18 ?l18 ?c18 ?k18 ?a19 ?l19 ?c19 ?k19 ?a20 ?l20 ?c20 ?k20 ?a21 ?l21 ?c21 ?k21 ?a22 ?l22 ?c22 ?k22 ?a23 ?l23 ?c23 ?k23 ?a24 ?l24 ?c24 ?k24 ?a25 ?l25 ?c25 ?k25 ?a26 ?l26 ?c26 ?k26 ?a27 ?l27 ?c27 ?k27 ?z_abs ?z_all ?z_bool ?z_int ?z_isinstance ?z_len ?z_list ?z_max ?z_min ?z_range ?z_repr ?z_sorted ?z_sum ?z_tuple ?q_MAX_BASE ?q_MAX_COMMON ?q_MAX_COUNT ?q_MAX_FACTORED ?q_MAX_INTEGER ?q_MAX_PRIME ?m_gcd ?m_isqrt ?m_lcm
    (case a0 => k_is); (case l0 => k_is); (case c0 => k_is); (case k0 => k_is); (case a1 => k_is); (case l1 => k_is); (case c1 => k_is); (case k1 => k_is); (case a2 => k_is); (case l2 => k_is); (case c2 => k_is); (case k2 => k_is); (case a3 => k_is); (case l3 => k_is); (case c3 => k_is); (case k3 => k_is); (case a4 => k_is); (case l4 => k_is); (case c4 => k_is); (case k4 => k_is); (case a5 => k_is); (case l5 => k_is); (case c5 => k_is); (case k5 => k_is); (case a6 => k_is); (case l6 => k_is); (case c6 => k_is); (case k6 => k_is); (case a7 => k_is); (case l7 => k_is); (case c7 => k_is); (case k7 => k_is); (case a8 => k_is); (case l8 => k_is); (case c8 => k_is); (case k8 => k_is); (case a9 => k_is); (case l9 => k_is); (case c9 => k_is); (case k9 => k_is); (case a10 => k_is); (case l10 => k_is); (case c10 => k_is); (case k10 => k_is); (case a11 => k_is); (case l11 => k_is); (case c11 => k_is); (case k11 => k_is); (case a12 => k_is); (case l12 => k_is); (case c12 => k_is); (case k12 => k_is); (case a13 => k_is); (case l13 => k_is); (case c13 => k_is); (case k13 => k_is); (case a14 => k_is); (case l14 => k_is); (case c14 => k_is); (case k14 => k_is); (case a15 => k_is); (case l15 => k_is); (case c15 => k_is); (case k15 => k_is); (case a16 => k_is); (case l16 => k_is); (case c16 => k_is); (case k16 => k_is); (case a17 => k_is); (case l17 => k_is); (case c17 => k_is); (case k17 => k_is); (case a18 => k_is); (case l18 => k_is); (case c18 => k_is); (case k18 => k_is); (case a19 => k_is); (case l19 => k_is); (case c19 => k_is); (case k19 => k_is); (case a20 => k_is); (case l20 => k_is); (case c20 => k_is); (case k20 => k_is); (case a21 => k_is); (case l21 => k_is); (case c21 => k_is); (case k21 => k_is); (case a22 => k_is); (case l22 => k_is); (case c22 => k_is); (case k22 => k_is); (case a23 => k_is); (case l23 => k_is); (case c23 => k_is); (case k23 => k_is); (case a24 => k_is); (case l24 => k_is); (case c24 => k_is); (case k24 => k_is); (case a25 => k_is); (case l25 => k_is); (case c25 => k_is); (case k25 => k_is); (case a26 => k_is); (case l26 => k_is); (case c26 => k_is); (case k26 => k_is); (case a27 => k_is); (case l27 => k_is); (case c27 => k_is); (case k27 => k_is); (case z_abs => k_is); (case z_all => k_is); (case z_bool => k_is); (case z_int => k_is); (case z_isinstance => k_is); (case z_len => k_is); (case z_list => k_is); (case z_max => k_is); (case z_min => k_is); (case z_range => k_is); (case z_repr => k_is); (case z_sorted => k_is); (case z_sum => k_is); (case z_tuple => k_is); (case q_MAX_BASE => k_is); (case q_MAX_COMMON => k_is); (case q_MAX_COUNT => k_is); (case q_MAX_FACTORED => k_is); (case q_MAX_INTEGER => k_is); (case q_MAX_PRIME => k_is); (case m_gcd => k_is); (case m_isqrt => k_is); (case m_lcm => k_is)
