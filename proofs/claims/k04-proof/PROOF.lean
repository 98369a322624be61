import PyProof.Rows.All
import HandS.ForMost
import HandS.ForExc
import HandS.Evl
import HandS.Wide
import HandS.Gcd
import HandS.IsInst
import HandS.CallSlots
import HandS.TupAny
import HandS.TupMul
import HandS.DictComp
import PyProof.NoPylong
import HandS.RaiseMore
import HandS.Style
import HandS.Rev
import HandS.RevRange
import KE.GoesEnum
import HandS.Iter
import KE.DataAny
import KE.KRevSl
import PySem.Challenge.RW_wholerises_k04_whole_polynomials
set_option Elab.async false
set_option linter.all false
set_option maxRecDepth 100000
set_option exponentiation.threshold 5000
namespace DF
open PySem PySem.Spec PyProof.Rows L2

/-- data, as trees -/
inductive D where
  | non | bl (b : Bool) | int (i : Int) | str (x : Str)
  | tup (l : List D) | lst (l : List D) | dic (l : List (Key × D)) | fro (l : List D)

/-- what a slot holds: data that stays, or a list or dict that only this frame (io: only the caller's one name) reaches -/
inductive Cell where
  | val (d : D)
  | mu (io : Bool) (d : D)
abbrev DEnv := List (Option Cell)
abbrev Sl := L2.St

mutual
inductive Is (K : PySem.W.Frag) (G : Hp) : D → V → Prop
  | non : Is K G .non .non
  | bl (b : Bool) : Is K G (.bl b) (.bl b)
  | int (i : Int) : Is K G (.int i) (.int i)
  | str (x : Str) : Is K G (.str x) (.str x)
  | tup {l : List D} {a : Addr} {xs : List V} : SqT K G a xs → Iss K G l xs → Is K G (.tup l) (.ref a)
  | lst {l : List D} {a : Addr} {xs : List V} : G a = some (.lst xs) → Iss K G l xs → Is K G (.lst l) (.ref a)
  | dic {l : List (Key × D)} {a : Addr} {kvs : List (Key × V)} : G a = some (.dK kvs) → Isk K G l kvs → Is K G (.dic l) (.ref a)
  | fro {l : List D} {a : Addr} {xs : List V} : SqL K G a xs → Iss K G l xs → Is K G (.fro l) (.ref a)
inductive Iss (K : PySem.W.Frag) (G : Hp) : List D → List V → Prop
  | nil : Iss K G [] []
  | cons {d : D} {v : V} {l : List D} {xs : List V} : Is K G d v → Iss K G l xs → Iss K G (d :: l) (v :: xs)
inductive Isk (K : PySem.W.Frag) (G : Hp) : List (Key × D) → List (Key × V) → Prop
  | nil : Isk K G [] []
  | cons {k : Key} {d : D} {v : V} {l : List (Key × D)} {xs : List (Key × V)} : Is K G d v → Isk K G l xs → Isk K G ((k, d) :: l) ((k, v) :: xs)
end
section
variable {K : PySem.W.Frag} {G G' : Hp}
mutual
theorem Is.mono (e : Evl.Ex G G') : ∀ {d : D} {v : V}, Is K G d v → Is K G' d v
  | _, _, .non => .non
  | _, _, .bl b => .bl b
  | _, _, .int i => .int i
  | _, _, .str x => .str x
  | _, _, .tup h r => .tup (Evl.ex_t e h) (Iss.mono e r)
  | _, _, .lst h r => .lst (e _ _ h) (Iss.mono e r)
  | _, _, .dic h r => .dic (e _ _ h) (Isk.mono e r)
  | _, _, .fro h r => .fro (Evl.ex_l e h) (Iss.mono e r)
theorem Iss.mono (e : Evl.Ex G G') : ∀ {l : List D} {xs : List V}, Iss K G l xs → Iss K G' l xs
  | _, _, .nil => .nil
  | _, _, .cons h r => .cons (Is.mono e h) (Iss.mono e r)
theorem Isk.mono (e : Evl.Ex G G') : ∀ {l : List (Key × D)} {xs : List (Key × V)}, Isk K G l xs → Isk K G' l xs
  | _, _, .nil => .nil
  | _, _, .cons h r => .cons (Is.mono e h) (Isk.mono e r)
end
theorem Iss.length : ∀ {l : List D} {xs : List V}, Iss K G l xs → l.length = xs.length
  | _, _, .nil => rfl
  | _, _, .cons _ r => congrArg (· + 1) (Iss.length r)
theorem Isk.length : ∀ {l : List (Key × D)} {xs : List (Key × V)}, Isk K G l xs → l.length = xs.length
  | _, _, .nil => rfl
  | _, _, .cons _ r => congrArg (· + 1) (Isk.length r)
theorem Iss.get : ∀ {l : List D} {xs : List V} {i : Nat} {d : D}, Iss K G l xs → l[i]? = some d → ∃ v, xs[i]? = some v ∧ Is K G d v
  | _, _, _, _, .nil, e => by simp at e
  | _, _, 0, _, .cons h _, e => by simp at e; subst e; exact ⟨_, rfl, h⟩
  | _, _, i + 1, d, .cons _ r, e => by
    obtain ⟨v, h1, h2⟩ := Iss.get (i := i) (d := d) r (by simpa using e)
    exact ⟨v, by simpa using h1, h2⟩
theorem Iss.getV : ∀ {l : List D} {xs : List V} {i : Nat} {v : V}, Iss K G l xs → xs[i]? = some v → ∃ d, l[i]? = some d ∧ Is K G d v
  | _, _, _, _, .nil, e => by simp at e
  | _, _, 0, _, .cons h _, e => by simp at e; subst e; exact ⟨_, rfl, h⟩
  | _, _, i + 1, d, .cons _ r, e => by
    obtain ⟨v, h1, h2⟩ := Iss.getV (i := i) (v := d) r (by simpa using e)
    exact ⟨v, by simpa using h1, h2⟩
theorem Iss.append : ∀ {l m : List D} {xs ys : List V}, Iss K G l xs → Iss K G m ys → Iss K G (l ++ m) (xs ++ ys)
  | _, _, _, _, .nil, s => s
  | _, _, _, _, .cons h r, s => .cons h (Iss.append r s)
theorem Iss.set {d : D} {v : V} (h : Is K G d v) : ∀ {l : List D} {xs : List V} (i : Nat), Iss K G l xs → Iss K G (l.set i d) (xs.set i v)
  | _, _, _, .nil => .nil
  | _, _, 0, .cons _ r => .cons h r
  | _, _, i + 1, .cons q r => .cons q (Iss.set h i r)
theorem Iss.take : ∀ {l : List D} {xs : List V} (n : Nat), Iss K G l xs → Iss K G (l.take n) (xs.take n)
  | _, _, 0, _ => .nil
  | _, _, _ + 1, .nil => .nil
  | _, _, n + 1, .cons q r => .cons q (Iss.take n r)
theorem Iss.drop : ∀ {l : List D} {xs : List V} (n : Nat), Iss K G l xs → Iss K G (l.drop n) (xs.drop n)
  | _, _, 0, r => r
  | _, _, _ + 1, .nil => .nil
  | _, _, n + 1, .cons _ r => Iss.drop n r
theorem Iss.reverse : ∀ {l : List D} {xs : List V}, Iss K G l xs → Iss K G l.reverse xs.reverse
  | _, _, .nil => .nil
  | _, _, .cons q r => by rw [List.reverse_cons, List.reverse_cons]; exact (Iss.reverse r).append (.cons q .nil)
theorem Iss.rep : ∀ {l : List D} {xs : List V} (n : Nat), Iss K G l xs → Iss K G (List.replicate n l).flatten (List.replicate n xs).flatten
  | _, _, 0, _ => .nil
  | _, _, n + 1, r => by rw [List.replicate_succ, List.replicate_succ, List.flatten_cons, List.flatten_cons]; exact r.append (Iss.rep n r)
theorem Iss.ints : ∀ {ns : List Int} {xs : List V}, Iss K G (ns.map D.int) xs → xs = ns.map V.int
  | [], _, .nil => rfl
  | _ :: _, _, .cons (.int _) r => by rw [Iss.ints r]; rfl
theorem Iss.of_ints : ∀ ns : List Int, Iss K G (ns.map D.int) (ns.map V.int)
  | [] => .nil
  | n :: r => .cons (.int n) (Iss.of_ints r)
theorem Iss.bls : ∀ {ns : List Bool} {xs : List V}, Iss K G (ns.map D.bl) xs → xs = ns.map V.bl
  | [], _, .nil => rfl
  | _ :: _, _, .cons (.bl _) r => by rw [Iss.bls r]; rfl
end

/-- what stands at the address of a list or dict of one's own -/
def Cont (K : PySem.W.Frag) (G H : Hp) (a : Addr) : D → Prop
  | .lst l => ∃ xs, H a = some (.lst xs) ∧ Iss K G l xs
  | .dic l => ∃ kvs, H a = some (.dK kvs) ∧ Isk K G l kvs
  | _ => False
theorem Cont.mono {K : PySem.W.Frag} {G G' H H' : Hp} {a : Addr} {d : D} (e : Evl.Ex G G') (h : ∀ o, H a = some o → H' a = some o) (c : Cont K G H a d) : Cont K G' H' a d := by
  cases d with
  | lst l => obtain ⟨xs, h1, h2⟩ := c; exact ⟨xs, h _ h1, h2.mono e⟩
  | dic l => obtain ⟨xs, h1, h2⟩ := c; exact ⟨xs, h _ h1, h2.mono e⟩
  | _ => exact False.elim c
theorem Cont.there {K : PySem.W.Frag} {G H : Hp} {a : Addr} {d : D} (c : Cont K G H a d) : ∃ o, H a = some o := by
  cases d with
  | lst l => obtain ⟨xs, h1, _⟩ := c; exact ⟨_, h1⟩
  | dic l => obtain ⟨xs, h1, _⟩ := c; exact ⟨_, h1⟩
  | _ => exact False.elim c

structure Rep (K : PySem.W.Frag) (G H : Hp) (ρ : DEnv) (σ : Sl) : Prop where
  sub : Evl.Ex G H
  len : ρ.length = σ.length
  vl : ∀ (i : Nat) (d : D), ρ[i]? = some (some (.val d)) → ∃ v, σ[i]? = some (some v) ∧ Is K G d v
  mu : ∀ (i : Nat) (b : Bool) (d : D), ρ[i]? = some (some (.mu b d)) → ∃ a, σ[i]? = some (some (.ref a)) ∧ G a = none ∧ Cont K G H a d
  ap : ∀ (i j : Nat) (b c : Bool) (d e : D) (a : Addr), ρ[i]? = some (some (.mu b d)) → ρ[j]? = some (some (.mu c e)) → σ[i]? = some (some (.ref a)) → σ[j]? = some (some (.ref a)) → i = j
def Mu (b : Bool) (ρ : DEnv) (σ : Sl) (a : Addr) : Prop := ∃ (i : Nat) (d : D), ρ[i]? = some (some (.mu b d)) ∧ σ[i]? = some (some (.ref a))

/-- from one state to a later one -/
structure Stp (ρ : DEnv) (σ : Sl) (G H : Hp) (ρ' : DEnv) (σ' : Sl) (G' H' : Hp) : Prop where
  g : Evl.Ex G G'
  h : ∀ b o, ¬ Mu false ρ σ b → ¬ Mu true ρ σ b → H b = some o → H' b = some o
  t : ∀ b, H' b = none → H b = none
  n : ∀ b, G b = none → G' b ≠ none → H b = none ∨ Mu false ρ σ b
  ow : ∀ b, Mu false ρ' σ' b → Mu false ρ σ b ∨ H b = none
  io : ∀ (i : Nat), (∀ d, ρ[i]? = some (some (.mu true d)) → ∃ d', ρ'[i]? = some (some (.mu true d')) ∧ σ'[i]? = σ[i]?) ∧ (∀ d, ρ'[i]? = some (some (.mu true d)) → ∃ d', ρ[i]? = some (some (.mu true d')))
section
variable {K : PySem.W.Frag} {ρ ρ1 ρ2 : DEnv} {σ σ1 σ2 : Sl} {G G1 G2 H H1 H2 : Hp}
theorem Stp.refl : Stp ρ σ G H ρ σ G H := ⟨fun _ _ e => e, fun _ _ _ _ e => e, fun _ e => e, fun _ e q => absurd e q, fun _ e => .inl e, fun _ => ⟨fun d e => ⟨d, e, rfl⟩, fun d e => ⟨d, e⟩⟩⟩
theorem Stp.io_back (a : Stp ρ σ G H ρ1 σ1 G1 H1) {b : Addr} (m : Mu true ρ1 σ1 b) : Mu true ρ σ b := by
  obtain ⟨i, d, e1, e2⟩ := m
  obtain ⟨d0, e0⟩ := (a.io i).2 d e1
  obtain ⟨d', _, e3⟩ := (a.io i).1 d0 e0
  exact ⟨i, d0, e0, e3.symm.trans e2⟩
theorem Stp.trans (R : Rep K G H ρ σ) (a : Stp ρ σ G H ρ1 σ1 G1 H1) (b : Stp ρ1 σ1 G1 H1 ρ2 σ2 G2 H2) : Stp ρ σ G H ρ2 σ2 G2 H2 where
  g := fun c o e => b.g c o (a.g c o e)
  h := fun c o n1 n2 e => b.h c o (fun m => (a.ow c m).elim n1 fun z => by rw [z] at e; cases e) (fun m => n2 (a.io_back m)) (a.h c o n1 n2 e)
  t := fun c e => a.t c (b.t c e)
  n := fun c e q => by
    by_cases h : G1 c = none
    · rcases b.n c h q with z | z
      · exact .inl (a.t c z)
      · rcases a.ow c z with z | z
        · exact .inr z
        · exact .inl z
    · exact a.n c e h
  ow := fun c m => by
    rcases b.ow c m with z | z
    · exact a.ow c z
    · exact .inr (a.t c z)
  io := fun i => ⟨fun d e => by
      obtain ⟨d1, e1, s1⟩ := (a.io i).1 d e
      obtain ⟨d2, e2, s2⟩ := (b.io i).1 d1 e1
      exact ⟨d2, e2, s2.trans s1⟩, fun d e => by
      obtain ⟨d1, e1⟩ := (b.io i).2 d e
      exact (a.io i).2 d1 e1⟩

/-- only new objects -/
structure New (G H G' H' : Hp) : Prop where
  g : Evl.Ex G G'
  h : Evl.Ex H H'
  s : Evl.Ex G' H'
  n : ∀ b, G b = none → G' b ≠ none → H b = none
theorem New.refl (e : Evl.Ex G H) : New G H G H := ⟨fun _ _ e => e, fun _ _ e => e, e, fun _ e q => absurd e q⟩
theorem New.trans (a : New G H G1 H1) (b : New G1 H1 G2 H2) : New G H G2 H2 := ⟨fun c o e => b.g c o (a.g c o e), fun c o e => b.h c o (a.h c o e), b.s, fun c e q => by
  by_cases h : G1 c = none
  · have z := b.n c h q
    cases y : H c with
    | none => rfl
    | some o => rw [a.h c o y] at z; cases z
  · exact a.n c e h⟩
theorem sub_none (e : Evl.Ex G H) {p : Addr} (h : H p = none) : G p = none := by
  cases q : G p with
  | none => rfl
  | some o => rw [e p o q] at h; cases h
theorem New.put {p : Addr} {o : HO} (e : Evl.Ex G H) (h : H p = none) : New G H (upd G p o) (upd H p o) where
  g := Evl.Ex.new (sub_none e h)
  h := Evl.Ex.new h
  s := fun b u q => by
    by_cases z : b = p
    · subst z; rw [upd_same] at q ⊢; exact q
    · rw [upd_ne z] at q ⊢; exact e b u q
  n := fun b q r => by
    by_cases z : b = p
    · subst z; exact h
    · rw [upd_ne z] at r; exact absurd q r
/-- a new object that is not shown -/
theorem New.hid {p : Addr} {o : HO} (e : Evl.Ex G H) (h : H p = none) : New G H G (upd H p o) where
  g := fun _ _ e => e
  h := Evl.Ex.new h
  s := fun b u q => Evl.Ex.new h b u (e b u q)
  n := fun b q r => absurd q r
theorem New.none_back (a : New G H G1 H1) {p : Addr} (h : H1 p = none) : H p = none := by
  cases y : H p with
  | none => rfl
  | some o => rw [a.h p o y] at h; cases h
theorem New.stp (R : Rep K G H ρ σ) (a : New G H G1 H1) : Stp ρ σ G H ρ σ G1 H1 := ⟨a.g, fun b o _ _ e => a.h b o e, fun _ e => a.none_back e, fun b e q => .inl (a.n b e q), fun _ e => .inl e, fun _ => ⟨fun d e => ⟨d, e, rfl⟩, fun d e => ⟨d, e⟩⟩⟩
theorem New.rep (R : Rep K G H ρ σ) (a : New G H G1 H1) : Rep K G1 H1 ρ σ where
  sub := a.s
  len := R.len
  vl := fun i d e => by
    obtain ⟨v, e1, e2⟩ := R.vl i d e
    exact ⟨v, e1, e2.mono a.g⟩
  mu := fun i b d e => by
    obtain ⟨c, e1, e2, e3⟩ := R.mu i b d e
    refine ⟨c, e1, ?_, e3.mono a.g fun o q => a.h c o q⟩
    cases q : G1 c with
    | none => rfl
    | some o =>
      have z := a.n c e2 (by rw [q]; exact fun z => by cases z)
      obtain ⟨o', y⟩ := e3.there
      rw [z] at y; cases y
  ap := R.ap
end
end DF

namespace DF
open PySem PySem.Spec PyProof.Rows L2

/-- an exception: its class, and the one attribute that it keeps -/
structure Exc where
  cls : Value
  fld : Option (Str × D)
inductive R (α : Type) where
  | no
  | ok (ρ : DEnv) (a : α)
  | ex (ρ : DEnv) (e : Exc)
def R.bind {α β : Type} (r : R α) (f : α → DEnv → R β) : R β := match r with
  | .no => .no
  | .ok ρ a => f a ρ
  | .ex ρ e => .ex ρ e
theorem R.bind_ok {α β : Type} {ρ : DEnv} {a : α} {f : α → DEnv → R β} : (R.ok ρ a).bind f = f a ρ := rfl
def ofO {α : Type} (ρ : DEnv) : Option α → R α
  | none => .no
  | some d => .ok ρ d
def EIs (K : PySem.W.Frag) (G H : Hp) (e : Exc) (d : Option Addr) : Prop := match e.fld with
  | none => d = none
  | some (f, x) => ∃ (dd : Addr) (v : V), d = some dd ∧ H dd = some (.xd [(f, v)]) ∧ Is K G x v
/-- what follows from a state -/
def Go (K : PySem.W.Frag) (W : WX) (σ : Sl) (ρ : DEnv) (G H : Hp) {α : Type} (P : α → DEnv → Hp → Hp → Prop) (r : R α) : Prop := match r with
  | .no => False
  | .ok ρ' a => ∀ G' H', Stp ρ σ G H ρ' σ G' H' → Rep K G' H' ρ' σ → P a ρ' G' H'
  | .ex ρ' e => ∀ G' H' d, Stp ρ σ G H ρ' σ G' H' → Rep K G' H' ρ' σ → EIs K G' H' e d → W e.cls d σ H'
section
variable {K : PySem.W.Frag} {W : WX} {σ : Sl} {ρ ρ1 : DEnv} {G G1 H H1 : Hp} {α β : Type} {P P' : α → DEnv → Hp → Hp → Prop} {S : β → DEnv → Hp → Hp → Prop}
theorem Go.imp {r : R α} (h : Go K W σ ρ G H P r) (f : ∀ a ρ' G' H', Stp ρ σ G H ρ' σ G' H' → Rep K G' H' ρ' σ → P a ρ' G' H' → P' a ρ' G' H') : Go K W σ ρ G H P' r := by
  cases r with
  | no => exact h
  | ok ρ' a => exact fun G' H' s R => f a ρ' G' H' s R (h G' H' s R)
  | ex ρ' e => exact h
theorem Go.shift {r : R α} (R0 : Rep K G H ρ σ) (s : Stp ρ σ G H ρ1 σ G1 H1) (h : Go K W σ ρ G H P r) : Go K W σ ρ1 G1 H1 P r := by
  cases r with
  | no => exact h
  | ok ρ' a => exact fun G' H' s' R => h G' H' (s.trans R0 s') R
  | ex ρ' e => exact fun G' H' d s' R => h G' H' d (s.trans R0 s') R
theorem Go.bind {r : R α} {g : α → DEnv → R β} (R0 : Rep K G H ρ σ) (h : Go K W σ ρ G H S (r.bind g)) : Go K W σ ρ G H (fun a ρ' G' H' => Go K W σ ρ' G' H' S (g a ρ')) r := by
  cases r with
  | no => exact h
  | ok ρ' a => exact fun G' H' s R => Go.shift R0 s h
  | ex ρ' e => exact h
end

/-- an operand: what it is at a later state -/
abbrev Th := DEnv → Option D
/-- a value that is looked at here and now -/
def Top (K : PySem.W.Frag) (G H : Hp) (d : D) (v : V) : Prop := match d with
  | .lst l => ∃ a xs, v = .ref a ∧ H a = some (.lst xs) ∧ Iss K G l xs
  | .dic l => ∃ a kvs, v = .ref a ∧ H a = some (.dK kvs) ∧ Isk K G l kvs
  | d => Is K G d v
theorem Is.top {K : PySem.W.Frag} {G H : Hp} {d : D} {v : V} (e : Evl.Ex G H) (h : Is K G d v) : Top K G H d v := by
  cases h with
  | lst h r => exact ⟨_, _, rfl, e _ _ h, r⟩
  | dic h r => exact ⟨_, _, rfl, e _ _ h, r⟩
  | fro h r => exact .fro h r
  | non => exact .non
  | bl b => exact .bl b
  | int i => exact .int i
  | str x => exact .str x
  | tup h r => exact .tup h r
theorem Cont.top {K : PySem.W.Frag} {G H : Hp} {d : D} {a : Addr} (c : Cont K G H a d) : Top K G H d (.ref a) := by
  cases d with
  | lst l => obtain ⟨xs, h1, h2⟩ := c; exact ⟨a, xs, rfl, h1, h2⟩
  | dic l => obtain ⟨xs, h1, h2⟩ := c; exact ⟨a, xs, rfl, h1, h2⟩
  | _ => exact False.elim c
/-- the full view of it -/
theorem Top.is {K : PySem.W.Frag} {G H : Hp} {d : D} {v : V} (e : Evl.Ex G H) (h : Top K G H d v) : Is K H d v := by
  cases d with
  | lst l => obtain ⟨a, xs, rfl, h1, h2⟩ := h; exact .lst h1 (h2.mono e)
  | dic l => obtain ⟨a, xs, rfl, h1, h2⟩ := h; exact .dic h1 (h2.mono e)
  | non => exact Is.mono e h
  | bl b => exact Is.mono e h
  | int i => exact Is.mono e h
  | str x => exact Is.mono e h
  | tup l => exact Is.mono e h
  | fro l => exact Is.mono e h
inductive Tops (K : PySem.W.Frag) (G H : Hp) : List D → List V → Prop
  | nil : Tops K G H [] []
  | cons {d : D} {v : V} {l : List D} {xs : List V} : Top K G H d v → Tops K G H l xs → Tops K G H (d :: l) (v :: xs)

def tD (K : PySem.W.Frag) (W : WX) (f : DEnv → R D) : TE := fun σ H Q => ∃ ρ G, Rep K G H ρ σ ∧ Go K W σ ρ G H (fun d _ G' H' => ∀ v, Is K G' d v → Q v H') (f ρ)
def OTh (K : PySem.W.Frag) (σ : Sl) (ρ : DEnv) (G H : Hp) (th : Th) (v : V) : Prop := ∀ ρ2 G2 H2 d, Stp ρ σ G H ρ2 σ G2 H2 → Rep K G2 H2 ρ2 σ → th ρ2 = some d → Top K G2 H2 d v
theorem OTh.shift {K : PySem.W.Frag} {σ : Sl} {ρ ρ1 : DEnv} {G G1 H H1 : Hp} {th : Th} {v : V} (R0 : Rep K G H ρ σ) (s : Stp ρ σ G H ρ1 σ G1 H1) (h : OTh K σ ρ G H th v) : OTh K σ ρ1 G1 H1 th v :=
  fun ρ2 G2 H2 d s2 R2 e => h ρ2 G2 H2 d (s.trans R0 s2) R2 e
def tO (K : PySem.W.Frag) (W : WX) (f : DEnv → R Th) : TE := fun σ H Q => ∃ ρ G, Rep K G H ρ σ ∧ Go K W σ ρ G H (fun th ρ' G' H' => ∀ v, OTh K σ ρ' G' H' th v → Q v H') (f ρ)
inductive OThs (K : PySem.W.Frag) (σ : Sl) (ρ : DEnv) (G H : Hp) : List Th → List V → Prop
  | nil : OThs K σ ρ G H [] []
  | cons {t : Th} {v : V} {l : List Th} {xs : List V} : OTh K σ ρ G H t v → OThs K σ ρ G H l xs → OThs K σ ρ G H (t :: l) (v :: xs)
theorem OThs.shift {K : PySem.W.Frag} {σ : Sl} {ρ ρ1 : DEnv} {G G1 H H1 : Hp} (R0 : Rep K G H ρ σ) (s : Stp ρ σ G H ρ1 σ G1 H1) : ∀ {l : List Th} {xs : List V}, OThs K σ ρ G H l xs → OThs K σ ρ1 G1 H1 l xs
  | _, _, .nil => .nil
  | _, _, .cons h r => .cons (h.shift R0 s) (OThs.shift R0 s r)
def ths (l : List Th) (ρ : DEnv) : Option (List D) := match l with
  | [] => some []
  | t :: r => match t ρ with
    | none => none
    | some d => match ths r ρ with
      | none => none
      | some ds => some (d :: ds)
theorem OThs.tops {K : PySem.W.Frag} {σ : Sl} {ρ : DEnv} {G H : Hp} (R0 : Rep K G H ρ σ) : ∀ {l : List Th} {xs : List V} {ds : List D}, OThs K σ ρ G H l xs → ths l ρ = some ds → Tops K G H ds xs
  | _, _, ds, .nil, e => by cases e; exact .nil
  | t :: l, _, ds, .cons h r, e => by
    unfold ths at e
    split at e
    · cases e
    · rename_i d e1
      split at e
      · cases e
      · rename_i ds' e2
        cases e
        exact .cons (h ρ G H d .refl R0 e1) (OThs.tops R0 r e2)
def tAs (K : PySem.W.Frag) (W : WX) (f : DEnv → R (List Th)) : TA := fun σ H Q => ∃ ρ G, Rep K G H ρ σ ∧ Go K W σ ρ G H (fun l ρ' G' H' => ∀ vs, OThs K σ ρ' G' H' l vs → Q vs H') (f ρ)
def tT (K : PySem.W.Frag) (W : WX) (f : DEnv → R Bool) : TT := fun σ H Q => ∃ ρ G, Rep K G H ρ σ ∧ Go K W σ ρ G H (fun b _ _ H' => Q b H') (f ρ)
/-- values that stay, in a row -/
def tDs (K : PySem.W.Frag) (W : WX) (f : DEnv → R (List D)) : TA := fun σ H Q => ∃ ρ G, Rep K G H ρ σ ∧ Go K W σ ρ G H (fun l _ G' H' => ∀ vs, Iss K G' l vs → Q vs H') (f ρ)
/-- a list or dict just made -/
def tF (K : PySem.W.Frag) (W : WX) (f : DEnv → R D) : TE := fun σ H Q => ∃ ρ G, Rep K G H ρ σ ∧
  Go K W σ ρ G H (fun d ρ' G' H' => ∀ a, G' a = none → ¬ Mu false ρ' σ a → ¬ Mu true ρ' σ a → H a = none → Cont K G' H' a d → Q (.ref a) H') (f ρ)

abbrev DE (X : Cx) (W : WX) (e : Expr) (f : DEnv → R D) : Prop := PE X e (tD X.K W f)
abbrev DO (X : Cx) (W : WX) (e : Expr) (f : DEnv → R Th) : Prop := PE X e (tO X.K W f)
abbrev DF' (X : Cx) (W : WX) (e : Expr) (f : DEnv → R D) : Prop := PE X e (tF X.K W f)
abbrev DT (X : Cx) (W : WX) (e : Expr) (f : DEnv → R Bool) : Prop := PT X e (tT X.K W f)
abbrev DA (X : Cx) (W : WX) (es : List Expr) (f : DEnv → R (List Th)) : Prop := PA X es (tAs X.K W f)
abbrev DVs (X : Cx) (W : WX) (es : List Expr) (f : DEnv → R (List D)) : Prop := PA X es (tDs X.K W f)
theorem pe_imp {X : Cx} {e : Expr} {t t' : TE} (h : PE X e t) (i : ∀ σ H Q, t' σ H Q → t σ H Q) : PE X e t' := ⟨fun pins s σ H Q I q => h.run pins s σ H Q I (i σ H Q q)⟩
theorem pt_imp {X : Cx} {e : Expr} {t t' : TT} (h : PT X e t) (i : ∀ σ H Q, t' σ H Q → t σ H Q) : PT X e t' := ⟨fun pins s σ H Q I q => h.run pins s σ H Q I (i σ H Q q)⟩
theorem pw_imp {X : Cx} {e : Expr} {t t' : TT} (h : PW X e t) (i : ∀ σ H Q, t' σ H Q → t σ H Q) : PW X e t' := ⟨fun wh pins s σ H Q I q => h.run wh pins s σ H Q I (i σ H Q q)⟩
theorem pa_imp {X : Cx} {es : List Expr} {t t' : TA} (h : PA X es t) (i : ∀ σ H Q, t' σ H Q → t σ H Q) : PA X es t' := ⟨fun pos pins s σ H Q I q => h.run pos pins s σ H Q I (i σ H Q q)⟩

section
variable {X : Cx} {W : WX} {e : Expr} {es : List Expr} {pos : Pos}
/-! ### names and constants -/
def dC (d : D) : DEnv → R D := fun ρ => .ok ρ d
theorem de_const {d : D} {v : V} (h : PE X e (tC v)) (hv : ∀ G, Is X.K G d v) : DE X W e (dC d) := pe_imp h fun σ H Q ⟨ρ, G, R, h⟩ => h G H .refl R v (hv G)
theorem de_int {i : Int} {j pos} : DE X W (.Constant (.int i) j pos) (dC (.int i)) := de_const pe_int fun _ => .int i
theorem de_bl {b : Bool} {j pos} : DE X W (.Constant (.bool b) j pos) (dC (.bl b)) := de_const pe_bl fun _ => .bl b
theorem de_non {j pos} : DE X W (.Constant .none j pos) (dC .non) := de_const pe_non fun _ => .non
theorem de_str {x : Str} {j pos} : DE X W (.Constant (.str x) j pos) (dC (.str x)) := de_const pe_str fun _ => .str x
/-- a module's whole number -/
theorem de_gint {x : Str} {i : Int} {t : Tok} (hg : Gl X x) (hm : X.mg x = some (.int i t)) (hd : (x == ("__debug__" : Str)) = false := by decide) : DE X W (.Name x pos) (dC (.int i)) := de_const (pe_glob hg hm (show RelV (.int i) (.int i t) from ⟨t, rfl⟩) hd) fun _ => .int i
def look (i : Nat) (ρ : DEnv) : Option D := match ρ[i]? with
  | some (some (.val d)) => some d
  | some (some (.mu _ d)) => some d
  | _ => none
/-- a name's value, to be kept: a list or dict of one's own may not be changed from here on -/
def dVar (i : Nat) : DEnv → R D := fun ρ => match ρ[i]? with
  | some (some (.val d)) => .ok ρ d
  | some (some (.mu false d)) => .ok (ρ.set i (some (.val d))) d
  | _ => .no
theorem Rep.shown {K : PySem.W.Frag} {G H : Hp} {ρ : DEnv} {σ : Sl} (R : Rep K G H ρ σ) {i : Nat} {d : D} {a : Addr} (e : ρ[i]? = some (some (.mu false d))) (ea : σ[i]? = some (some (.ref a))) :
    ∃ G', Stp ρ σ G H (ρ.set i (some (.val d))) σ G' H ∧ Rep K G' H (ρ.set i (some (.val d))) σ ∧ Is K G' d (.ref a) := by
  obtain ⟨a', e1, e2, e3⟩ := R.mu i false d e
  rw [ea] at e1; cases e1
  obtain ⟨o, ho⟩ := e3.there
  have eG : Evl.Ex G (upd G a o) := Evl.Ex.new e2
  have hi : Is K (upd G a o) d (.ref a) := by
    cases d with
    | lst l =>
      obtain ⟨xs, q1, q2⟩ := e3
      rw [ho] at q1; cases q1
      exact .lst upd_same (q2.mono eG)
    | dic l =>
      obtain ⟨xs, q1, q2⟩ := e3
      rw [ho] at q1; cases q1
      exact .dic upd_same (q2.mono eG)
    | _ => exact False.elim e3
  have eS : Evl.Ex (upd G a o) H := fun b u q => by
    by_cases z : b = a
    · subst z; rw [upd_same] at q; cases q; exact ho
    · rw [upd_ne z] at q; exact R.sub b u q
  have sg : ∀ {j : Nat} {y : Option Cell}, (ρ.set i (some (.val d)))[j]? = some y → (i = j ∧ some (.val d) = y) ∨ (i ≠ j ∧ ρ[j]? = some y) := fun {j y} h => by
    by_cases z : i = j
    · subst z
      by_cases q : i < ρ.length
      · rw [List.getElem?_set_self q] at h
        exact .inl ⟨rfl, Option.some.inj h⟩
      · rw [List.getElem?_eq_none (by rw [List.length_set]; omega)] at h
        cases h
    · rw [List.getElem?_set_ne z] at h
      exact .inr ⟨z, h⟩
  refine ⟨upd G a o, ⟨eG, fun _ _ _ _ q => q, fun _ q => q, fun b q1 q2 => ?_, fun b ⟨j, d', q1, q2⟩ => ?_, fun j => ⟨fun d' q => ?_, fun d' q => ?_⟩⟩, ⟨eS, by rw [List.length_set]; exact R.len, fun j d' q => ?_, fun j b d' q => ?_, fun j k b c d1 d2 a' q1 q2 q3 q4 => ?_⟩, hi⟩
  · by_cases z : b = a
    · subst z; exact .inr ⟨i, d, e, ea⟩
    · rw [upd_ne z] at q2; exact absurd q1 q2
  · rcases sg q1 with ⟨_, z⟩ | ⟨_, z⟩
    · cases z
    · exact .inl ⟨j, d', z, q2⟩
  · have n : i ≠ j := fun z => by subst z; rw [e] at q; cases q
    exact ⟨d', by rw [List.getElem?_set_ne n]; exact q, rfl⟩
  · rcases sg q with ⟨_, z⟩ | ⟨_, z⟩
    · cases z
    · exact ⟨d', z⟩
  · rcases sg q with ⟨z0, z⟩ | ⟨_, z⟩
    · subst z0
      cases z
      exact ⟨_, ea, hi⟩
    · obtain ⟨v, z1, z2⟩ := R.vl j d' z
      exact ⟨v, z1, z2.mono eG⟩
  · rcases sg q with ⟨z0, z⟩ | ⟨z0, z⟩
    · cases z
    · obtain ⟨c, z1, z2, z3⟩ := R.mu j b d' z
      have nc : c ≠ a := fun y => by
        subst y
        exact z0 (R.ap i j false b d d' c e z ea z1)
      exact ⟨c, z1, by rw [upd_ne nc]; exact z2, z3.mono eG fun o q => q⟩
  · rcases sg q1 with ⟨_, z⟩ | ⟨_, z⟩
    · cases z
    · rcases sg q2 with ⟨_, y⟩ | ⟨_, y⟩
      · cases y
      · exact R.ap j k b c d1 d2 a' z y q3 q4
theorem de_var {i : Nat} (h : PE X e (tVar i)) : DE X W e (dVar i) := pe_imp h fun σ H Q ⟨ρ, G, R, h⟩ => by
  unfold dVar at h
  split at h
  · rename_i d e1
    obtain ⟨v, e2, e3⟩ := R.vl i d e1
    exact ⟨v, e2, h G H .refl R v e3⟩
  · rename_i d e1
    obtain ⟨a, e2, _, _⟩ := R.mu i false d e1
    obtain ⟨G', s, R', hi⟩ := R.shown e1 e2
    exact ⟨_, e2, h G' H s R' _ hi⟩
  · exact False.elim h
/-- a name's value, to be looked at -/
def oVar (i : Nat) : DEnv → R Th := fun ρ => match ρ[i]? with
  | some (some _) => .ok ρ (look i)
  | _ => .no
theorem do_var {i : Nat} (h : PE X e (tVar i)) : DO X W e (oVar i) := pe_imp h fun σ H Q ⟨ρ, G, R, h⟩ => by
  unfold oVar at h
  split at h
  · rename_i c e1
    have key : ∃ v, σ[i]? = some (some v) := by
      cases c with
      | val d => obtain ⟨v, e2, _⟩ := R.vl i d e1; exact ⟨v, e2⟩
      | mu b d => obtain ⟨a, e2, _⟩ := R.mu i b d e1; exact ⟨_, e2⟩
    obtain ⟨v, e2⟩ := key
    refine ⟨v, e2, h G H .refl R v fun ρ2 G2 H2 d s2 R2 e3 => ?_⟩
    unfold look at e3
    split at e3
    · rename_i d' e4
      cases e3
      obtain ⟨v', e5, e6⟩ := R2.vl i _ e4
      rw [e2] at e5; cases e5
      exact e6.top R2.sub
    · rename_i b d' e4
      cases e3
      obtain ⟨a, e5, _, e6⟩ := R2.mu i _ _ e4
      rw [e2] at e5; cases e5
      exact e6.top
    · cases e3
  · exact False.elim h
def oD (f : DEnv → R D) : DEnv → R Th := fun ρ => (f ρ).bind fun d ρ' => .ok ρ' fun _ => some d
theorem do_val {f : DEnv → R D} (h : DE X W e f) : DO X W e (oD f) := pe_imp h fun σ H Q ⟨ρ, G, R, h⟩ =>
  ⟨ρ, G, R, (Go.bind R h).imp fun d ρ' G' H' s R' h v hv => h G' H' .refl R' v fun ρ2 G2 H2 d2 s2 R2 e => by
    cases e
    exact (hv.mono s2.g).top R2.sub⟩
def aNil : DEnv → R (List Th) := fun ρ => .ok ρ []
def aCons (f : DEnv → R Th) (g : DEnv → R (List Th)) : DEnv → R (List Th) := fun ρ => (f ρ).bind fun t ρ1 => (g ρ1).bind fun l ρ2 => .ok ρ2 (t :: l)
theorem da_nil : DA X W [] aNil := pa_imp pa_nil fun σ H Q ⟨ρ, G, R, h⟩ => h G H .refl R [] .nil
theorem da_cons {f : DEnv → R Th} {g : DEnv → R (List Th)} (h1 : DO X W e f) (h2 : DA X W es g) (hs : starEach (e :: es) X.env = (false, eval e X.env) :: starEach es X.env := by rfl) : DA X W (e :: es) (aCons f g) :=
  pa_imp (pa_cons h1 h2 hs) fun σ H Q ⟨ρ, G, R, h⟩ => ⟨ρ, G, R, (Go.bind R h).imp fun t ρ1 G1 H1 s1 R1 h1 v hv =>
    ⟨ρ1, G1, R1, (Go.bind R1 h1).imp fun l ρ2 G2 H2 s2 R2 h2 vs hvs => h2 G2 H2 .refl R2 (v :: vs) (.cons (hv.shift R1 s2) hvs)⟩⟩
def vNil : DEnv → R (List D) := fun ρ => .ok ρ []
def vCons (f : DEnv → R D) (g : DEnv → R (List D)) : DEnv → R (List D) := fun ρ => (f ρ).bind fun t ρ1 => (g ρ1).bind fun l ρ2 => .ok ρ2 (t :: l)
theorem dv_nil : DVs X W [] vNil := pa_imp pa_nil fun σ H Q ⟨ρ, G, R, h⟩ => h G H .refl R [] .nil
theorem dv_cons {f : DEnv → R D} {g : DEnv → R (List D)} (h1 : DE X W e f) (h2 : DVs X W es g) (hs : starEach (e :: es) X.env = (false, eval e X.env) :: starEach es X.env := by rfl) : DVs X W (e :: es) (vCons f g) :=
  pa_imp (pa_cons h1 h2 hs) fun σ H Q ⟨ρ, G, R, h⟩ => ⟨ρ, G, R, (Go.bind R h).imp fun t ρ1 G1 H1 s1 R1 h1 v hv =>
    ⟨ρ1, G1, R1, (Go.bind R1 h1).imp fun l ρ2 G2 H2 s2 R2 h2 vs hvs => h2 G2 H2 .refl R2 (v :: vs) (.cons (hv.mono s2.g) hvs)⟩⟩

/-! ### operations -/
def OpS (K : PySem.W.Frag) (r : R2) (g : D → D → Option D) : Prop := ∀ (x y z : D) (v u : V) (G H : Hp) (Q : VK), Evl.Ex G H → Top K G H x v → Top K G H y u → g x y = some z →
  (∀ w G' H', New G H G' H' → Is K G' z w → Q w H') → r v u H Q
def UnS (K : PySem.W.Frag) (r : V → Hp → VK → Prop) (g : D → Option D) : Prop := ∀ (x z : D) (v : V) (G H : Hp) (Q : VK), Evl.Ex G H → Top K G H x v → g x = some z →
  (∀ w G' H', New G H G' H' → Is K G' z w → Q w H') → r v H Q
def CaS (K : PySem.W.Frag) (r : List V → Hp → VK → Prop) (g : List D → Option D) : Prop := ∀ (xs : List D) (z : D) (vs : List V) (G H : Hp) (Q : VK), Evl.Ex G H → Tops K G H xs vs → g xs = some z →
  (∀ w G' H', New G H G' H' → Is K G' z w → Q w H') → r vs H Q
def dBin (g : D → D → Option D) (fa fb : DEnv → R Th) : DEnv → R D := fun ρ => (fa ρ).bind fun ta ρ1 => (fb ρ1).bind fun tb ρ2 => match ta ρ2, tb ρ2 with
  | some x, some y => ofO ρ2 (g x y)
  | _, _ => .no
theorem tbin {r : R2} {g : D → D → Option D} {fa fb : DEnv → R Th} (hs : OpS X.K r g) : ∀ σ H Q, tD X.K W (dBin g fa fb) σ H Q → tOp r (tO X.K W fa) (tO X.K W fb) σ H Q := fun σ H Q ⟨ρ, G, R, h⟩ =>
  ⟨ρ, G, R, (Go.bind R h).imp fun ta ρ1 G1 H1 s1 R1 h1 v hv => ⟨ρ1, G1, R1, (Go.bind R1 h1).imp fun tb ρ2 G2 H2 s2 R2 h2 u hu => by
    split at h2
    · rename_i x y ex ey
      cases e : g x y with
      | none => rw [e] at h2; exact False.elim h2
      | some z =>
        rw [e] at h2
        exact hs x y z v u G2 H2 Q R2.sub (hv ρ2 G2 H2 x s2 R2 ex) (hu ρ2 G2 H2 y .refl R2 ey) e fun w G' H' N hw => h2 G' H' (N.stp R2) (N.rep R2) w hw
    · exact False.elim h2⟩⟩
variable {a b : Expr} {fa fb : DEnv → R Th}
theorem de_bin {op : Operator} {r : R2} {g : D → D → Option D} (ho : OpR X (binaryOp op) r) (hs : OpS X.K r g) (ha : DO X W a fa) (hb : DO X W b fb) : DE X W (.BinOp a op b pos) (dBin g fa fb) :=
  pe_imp (pe_op ho ha hb) (tbin hs)
theorem de_cmp {op : CmpOp} {r : R2} {g : D → D → Option D} (ho : OpR X (compareOp op) r) (hs : OpS X.K r g) (ha : DO X W a fa) (hb : DO X W b fb) (hm : behindInMarks op b = false) : DE X W (.Compare a [op] [b] pos) (dBin g fa fb) :=
  pe_imp (pe_cmpR ho ha hb hm) (tbin hs)
def isB (d : D) : Option Bool := match d with | .bl b => some b | _ => none
def dTst (f : DEnv → R D) : DEnv → R Bool := fun ρ => (f ρ).bind fun d ρ' => match d with
  | .bl b => .ok ρ' b
  | _ => .no
theorem ttst {f : DEnv → R D} : ∀ σ H Q, tT X.K W (dTst f) σ H Q → tTest (tD X.K W f) σ H Q := fun σ H Q ⟨ρ, G, R, h⟩ =>
  ⟨ρ, G, R, (Go.bind R h).imp fun d ρ' G' H' s R' h v hv => by
    split at h
    · cases hv
      exact ⟨_, rfl, h G' H' .refl R'⟩
    · exact False.elim h⟩
theorem dt_cmp {op : CmpOp} {r : R2} {g : D → D → Option D} (ho : OpR X (compareOp op) r) (hs : OpS X.K r g) (ha : DO X W a fa) (hb : DO X W b fb) (hm : behindInMarks op b = false) : DT X W (.Compare a [op] [b] pos) (dTst (dBin g fa fb)) :=
  pt_imp (pt_cmpR ho ha hb hm) fun σ H Q h => by
    obtain ⟨ρ, G, R, h⟩ := ttst σ H Q h
    exact tbin hs σ H _ ⟨ρ, G, R, h⟩
def dUn (g : D → Option D) (fa : DEnv → R Th) : DEnv → R D := fun ρ => (fa ρ).bind fun ta ρ1 => match ta ρ1 with
  | some x => ofO ρ1 (g x)
  | none => .no
theorem tun {r : V → Hp → VK → Prop} {g : D → Option D} (hs : UnS X.K r g) : ∀ σ H Q, tD X.K W (dUn g fa) σ H Q → tUn r (tO X.K W fa) σ H Q := fun σ H Q ⟨ρ, G, R, h⟩ =>
  ⟨ρ, G, R, (Go.bind R h).imp fun ta ρ1 G1 H1 s1 R1 h1 v hv => by
    split at h1
    · rename_i x ex
      cases e : g x with
      | none => rw [e] at h1; exact False.elim h1
      | some z =>
        rw [e] at h1
        exact hs x z v G1 H1 Q R1.sub (hv ρ1 G1 H1 x .refl R1 ex) e fun w G' H' N hw => h1 G' H' (N.stp R1) (N.rep R1) w hw
    · exact False.elim h1⟩
theorem de_un {op : UnaryOp} {r : V → Hp → VK → Prop} {g : D → Option D} (ho : UnR X (unaryOp op) r) (hs : UnS X.K r g) (ha : DO X W a fa) : DE X W (.UnaryOp op a pos) (dUn g fa) := pe_imp (pe_un ho ha) (tun hs)
def dCal (g : List D → Option D) (f : DEnv → R (List Th)) : DEnv → R D := fun ρ => (f ρ).bind fun l ρ1 => match ths l ρ1 with
  | some xs => ofO ρ1 (g xs)
  | none => .no
theorem tcal {r : List V → Hp → VK → Prop} {g : List D → Option D} {f : DEnv → R (List Th)} (hs : CaS X.K r g) : ∀ σ H Q, tD X.K W (dCal g f) σ H Q → tCB r (tAs X.K W f) σ H Q := fun σ H Q ⟨ρ, G, R, h⟩ =>
  ⟨ρ, G, R, (Go.bind R h).imp fun l ρ1 G1 H1 s1 R1 h1 vs hv => by
    split at h1
    · rename_i xs ex
      cases e : g xs with
      | none => rw [e] at h1; exact False.elim h1
      | some z =>
        rw [e] at h1
        exact hs xs z vs G1 H1 Q R1.sub (hv.tops R1 ex) e fun w G' H' N hw => h1 G' H' (N.stp R1) (N.rep R1) w hw
    · exact False.elim h1⟩
end
end DF

namespace DF
open PySem PySem.Spec PyProof.Rows L2

inductive SR where
  | no
  | nx (ρ : DEnv)
  | brk (ρ : DEnv)
  | cnt (ρ : DEnv)
  | ret (ρ : DEnv) (fr : Bool) (d : D)
  | ex (ρ : DEnv) (e : Exc)
/-- what is handed back: data that stay, or a list or dict that nothing else reaches -/
def RIs (K : PySem.W.Frag) (ρ' : DEnv) (σ' : Sl) (G' H' H : Hp) (fr : Bool) (d : D) (v : V) : Prop := match fr with
  | false => Is K G' d v
  | true => ∃ a, v = .ref a ∧ G' a = none ∧ (Mu false ρ' σ' a ∨ H a = none) ∧ Cont K G' H' a d
def GoS (K : PySem.W.Frag) (W : WX) (σ : Sl) (ρ : DEnv) (G H : Hp) (E : Ends) (r : SR) : Prop := match r with
  | .no => False
  | .nx ρ' => ∀ σ' G' H', Stp ρ σ G H ρ' σ' G' H' → Rep K G' H' ρ' σ' → E.nx σ' H'
  | .brk ρ' => ∀ σ' G' H', Stp ρ σ G H ρ' σ' G' H' → Rep K G' H' ρ' σ' → E.bk σ' H'
  | .cnt ρ' => ∀ σ' G' H', Stp ρ σ G H ρ' σ' G' H' → Rep K G' H' ρ' σ' → E.ct σ' H'
  | .ret ρ' fr d => ∀ v σ' G' H', Stp ρ σ G H ρ' σ' G' H' → Rep K G' H' ρ' σ' → RIs K ρ' σ' G' H' H fr d v → E.rt v H'
  | .ex ρ' e => ∀ d σ' G' H', Stp ρ σ G H ρ' σ' G' H' → Rep K G' H' ρ' σ' → EIs K G' H' e d → W e.cls d σ' H'
def tS (K : PySem.W.Frag) (W : WX) (f : DEnv → SR) : TS := fun E σ H => ∃ ρ G, Rep K G H ρ σ ∧ GoS K W σ ρ G H E (f ρ)
abbrev DS (X : Cx) (W : WX) (st : Stmt) (f : DEnv → SR) : Prop := PS X st (tS X.K W f)
abbrev DSs (X : Cx) (W : WX) (st : List Stmt) (f : DEnv → SR) : Prop := PSs X st (tS X.K W f)
theorem ps_imp {X : Cx} {st : Stmt} {t t' : TS} (h : PS X st t) (i : ∀ E σ H, t' E σ H → t E σ H) : PS X st t' := ⟨fun pins s σ H E I q => h.run pins s σ H E I (i E σ H q)⟩
theorem pss_imp {X : Cx} {st : List Stmt} {t t' : TS} (h : PSs X st t) (i : ∀ E σ H, t' E σ H → t E σ H) : PSs X st t' := ⟨fun pins s σ H E I q => h.run pins s σ H E I (i E σ H q)⟩
section
variable {K : PySem.W.Frag} {W : WX} {σ σ1 : Sl} {ρ ρ1 : DEnv} {G G1 H H1 : Hp} {E E' : Ends}
theorem RIs.back {ρ' : DEnv} {σ' : Sl} {G' H' : Hp} {fr : Bool} {d : D} {v : V} (ht : ∀ b, H1 b = none → H b = none) (h : RIs K ρ' σ' G' H' H1 fr d v) : RIs K ρ' σ' G' H' H fr d v := by
  cases fr with
  | false => exact h
  | true =>
    obtain ⟨a, e1, e2, e3, e4⟩ := h
    exact ⟨a, e1, e2, e3.imp id (ht a), e4⟩
theorem GoS.shift {r : SR} (R0 : Rep K G H ρ σ) (s : Stp ρ σ G H ρ1 σ1 G1 H1) (h : GoS K W σ ρ G H E r) : GoS K W σ1 ρ1 G1 H1 E r := by
  cases r with
  | no => exact h
  | nx ρ' => exact fun σ' G' H' s' R => h σ' G' H' (s.trans R0 s') R
  | brk ρ' => exact fun σ' G' H' s' R => h σ' G' H' (s.trans R0 s') R
  | cnt ρ' => exact fun σ' G' H' s' R => h σ' G' H' (s.trans R0 s') R
  | ret ρ' fr d => exact fun v σ' G' H' s' R q => h v σ' G' H' (s.trans R0 s') R (q.back s.t)
  | ex ρ' e => exact fun d σ' G' H' s' R => h d σ' G' H' (s.trans R0 s') R
end
/-- an expression, then what its value leads to -/
def R.bindS {α : Type} (r : R α) (f : α → DEnv → SR) : SR := match r with
  | .no => .no
  | .ok ρ a => f a ρ
  | .ex ρ e => .ex ρ e
theorem R.bindS_ok {α : Type} {ρ : DEnv} {a : α} {f : α → DEnv → SR} : (R.ok ρ a).bindS f = f a ρ := rfl
section
variable {K : PySem.W.Frag} {W : WX} {σ σ1 : Sl} {ρ ρ1 : DEnv} {G G1 H H1 : Hp} {E E' : Ends}
theorem Go.bindS {α : Type} {r : R α} {g : α → DEnv → SR} (R0 : Rep K G H ρ σ) (h : GoS K W σ ρ G H E (r.bindS g)) : Go K W σ ρ G H (fun a ρ' G' H' => GoS K W σ ρ' G' H' E (g a ρ')) r := by
  cases r with
  | no => exact h
  | ok ρ' a => exact fun G' H' s R => GoS.shift R0 s h
  | ex ρ' e => exact fun G' H' d s R => h d σ G' H' s R
def SR.bind (r : SR) (g : DEnv → SR) : SR := match r with
  | .nx ρ => g ρ
  | .no => .no | .brk ρ => .brk ρ | .cnt ρ => .cnt ρ | .ret ρ fr d => .ret ρ fr d | .ex ρ e => .ex ρ e
theorem SR.bind_nx {ρ : DEnv} {g : DEnv → SR} : (SR.nx ρ).bind g = g ρ := rfl
theorem GoS.bind {r : SR} {g : DEnv → SR} (R0 : Rep K G H ρ σ) (h : GoS K W σ ρ G H E (r.bind g)) : GoS K W σ ρ G H { E with nx := tS K W g E } r := by
  cases r with
  | nx ρ' => exact fun σ' G' H' s R => ⟨ρ', G', R, GoS.shift R0 s h⟩
  | no => exact h
  | brk _ => exact h
  | cnt _ => exact h
  | ret _ _ _ => exact h
  | ex _ _ => exact h
end
def dSeq (f g : DEnv → SR) : DEnv → SR := fun ρ => (f ρ).bind g
section
variable {X : Cx} {W : WX} {st : Stmt} {rest : List Stmt} {f g : DEnv → SR} {pos : Pos} {e : Expr}
theorem dss_nil : DSs X W [] SR.nx := pss_imp pss_nil fun E σ H ⟨ρ, G, R, h⟩ => h σ G H .refl R
theorem dss_cons (h1 : DS X W st f) (h2 : DSs X W rest g) : DSs X W (st :: rest) (dSeq f g) := pss_imp (pss_cons h1 h2) fun E σ H ⟨ρ, G, R, h⟩ => ⟨ρ, G, R, GoS.bind R h⟩
theorem dss_one (h1 : DS X W st f) : DSs X W [st] f := pss_one h1
theorem ds_pass : DS X W (.Pass pos) SR.nx := ps_imp ps_pass fun E σ H ⟨ρ, G, R, h⟩ => h σ G H .refl R
theorem ds_break : DS X W (.Break pos) SR.brk := ps_imp ps_break fun E σ H ⟨ρ, G, R, h⟩ => h σ G H .refl R
theorem ds_continue : DS X W (.Continue pos) SR.cnt := ps_imp ps_continue fun E σ H ⟨ρ, G, R, h⟩ => h σ G H .refl R
def dNever : DEnv → SR := fun _ => .no
theorem ds_never : DS X W st dNever := ps_imp ps_never fun E σ H ⟨ρ, G, R, h⟩ => h
theorem dss_never {sts : List Stmt} : DSs X W sts dNever := pss_imp pss_never fun E σ H ⟨ρ, G, R, h⟩ => h
/-- an if -/
def dIf (c : DEnv → R Bool) (f g : DEnv → SR) : DEnv → SR := fun ρ => (c ρ).bindS fun b ρ' => match b with
  | true => f ρ'
  | false => g ρ'
theorem ds_if {c : Expr} {a b : List Stmt} {fc : DEnv → R Bool} (hc : DT X W c fc) (ha : DSs X W a f) (hb : DSs X W b g) : DS X W (.If c a b pos) (dIf fc f g) :=
  ps_imp (ps_if hc ha hb) fun E σ H ⟨ρ, G, R, h⟩ => ⟨ρ, G, R, (Go.bindS R h).imp fun b ρ' G' H' s R' h => by
    cases b with
    | true => rw [if_pos rfl]; exact ⟨ρ', G', R', h⟩
    | false => rw [if_neg Bool.false_ne_true]; exact ⟨ρ', G', R', h⟩⟩
/-- return -/
def dRet (f : DEnv → R D) : DEnv → SR := fun ρ => (f ρ).bindS fun d ρ' => .ret ρ' false d
theorem ds_ret {f : DEnv → R D} (h : DE X W e f) : DS X W (.Return (some e) pos) (dRet f) := ps_imp (ps_ret h) fun E σ H ⟨ρ, G, R, h⟩ => ⟨ρ, G, R, (Go.bindS R h).imp fun d ρ' G' H' s R' h v hv => h v σ G' H' .refl R' hv⟩
def dRetF (f : DEnv → R D) : DEnv → SR := fun ρ => (f ρ).bindS fun d ρ' => .ret ρ' true d
def dRetN : DEnv → SR := fun ρ => .ret ρ false .non
theorem ds_retN : DS X W (.Return none pos) dRetN := ps_imp ps_retN fun E σ H ⟨ρ, G, R, h⟩ => h .non σ G H .refl R .non
/-- return x, a slot -/
def dRetV (i : Nat) : DEnv → SR := fun ρ => match ρ[i]? with
  | some (some (.val d)) => .ret ρ false d
  | some (some (.mu false d)) => .ret ρ true d
  | _ => .no
theorem ds_retV {i : Nat} (h : PE X e (tVar i)) : DS X W (.Return (some e) pos) (dRetV i) := ps_imp (ps_ret h) fun E σ H ⟨ρ, G, R, h⟩ => by
  unfold dRetV at h
  split at h
  · rename_i d e1
    obtain ⟨v, e2, e3⟩ := R.vl i d e1
    exact ⟨v, e2, h v σ G H .refl R e3⟩
  · rename_i d e1
    obtain ⟨a, e2, e3, e4⟩ := R.mu i false d e1
    exact ⟨_, e2, h (.ref a) σ G H .refl R ⟨a, rfl, e3, .inl ⟨i, d, e1, e2⟩, e4⟩⟩
  · exact False.elim h
def dExpr (f : DEnv → R D) : DEnv → SR := fun ρ => (f ρ).bindS fun _ ρ' => .nx ρ'
theorem ds_expr {f : DEnv → R D} (h : DE X W e f) (hs : swapsWith e none pos.line X.env = pure false := by rfl) : DS X W (.Expr e pos) (dExpr f) :=
  ps_imp (ps_expr h hs) fun E σ H ⟨ρ, G, R, h⟩ => ⟨ρ, G, R, (Go.bindS R h).imp fun d ρ' G' H' s R' h v hv => h σ G' H' .refl R'⟩
theorem ds_doc {x j pos pos'} : DS X W (.Expr (.Constant (.str x) j pos) pos') SR.nx := ps_imp ps_doc fun E σ H ⟨ρ, G, R, h⟩ => h σ G H .refl R
end

/-! ### slots are filled -/
def free (ρ : DEnv) (i : Nat) : Bool := match ρ[i]? with
  | none => false
  | some (some (.mu true _)) => false
  | _ => true
theorem free_lt {ρ : DEnv} {i : Nat} (h : free ρ i = true) : i < ρ.length := by
  unfold free at h
  split at h
  · cases h
  · cases h
  · rename_i h1 h2
    exact Nat.lt_of_not_le fun z => h1 (List.getElem?_eq_none z)
theorem free_io {ρ : DEnv} {i : Nat} (h : free ρ i = true) (d : D) : ρ[i]? ≠ some (some (.mu true d)) := fun z => by
  unfold free at h
  rw [z] at h
  cases h
def setV (i : Nat) (d : D) (ρ : DEnv) : Option DEnv := if free ρ i = true then some (ρ.set i (some (.val d))) else none
def setF (i : Nat) (d : D) (ρ : DEnv) : Option DEnv := if free ρ i = true then some (ρ.set i (some (.mu false d))) else none
section
variable {K : PySem.W.Frag} {ρ ρ' : DEnv} {σ : Sl} {G H : Hp} {i : Nat} {d : D} {v : V}
theorem set_get {α : Type} {l : List α} {i j : Nat} {x y : α} (h : (l.set i x)[j]? = some y) : (i = j ∧ x = y) ∨ (i ≠ j ∧ l[j]? = some y) := by
  by_cases e : i = j
  · subst e
    by_cases q : i < l.length
    · rw [List.getElem?_set_self q] at h
      exact .inl ⟨rfl, Option.some.inj h⟩
    · rw [List.getElem?_eq_none (by rw [List.length_set]; omega)] at h
      cases h
  · rw [List.getElem?_set_ne e] at h
    exact .inr ⟨e, h⟩
theorem Rep.setV (R : Rep K G H ρ σ) (e : setV i d ρ = some ρ') (hv : Is K G d v) : Rep K G H ρ' (σ.set i (some v)) := by
  unfold DF.setV at e
  split at e
  · rename_i hf
    cases e
    have hl : i < σ.length := by rw [← R.len]; exact free_lt hf
    refine ⟨R.sub, by rw [List.length_set, List.length_set]; exact R.len, fun j d' e1 => ?_, fun j b d' e1 => ?_, fun j k b c d1 d2 a e1 e2 e3 e4 => ?_⟩
    · rcases set_get e1 with ⟨rfl, e2⟩ | ⟨n, e2⟩
      · cases e2
        exact ⟨v, List.getElem?_set_self hl, hv⟩
      · obtain ⟨v', e3, e4⟩ := R.vl j d' e2
        exact ⟨v', by rw [List.getElem?_set_ne n]; exact e3, e4⟩
    · rcases set_get e1 with ⟨rfl, e2⟩ | ⟨n, e2⟩
      · cases e2
      · obtain ⟨a, e3, e4⟩ := R.mu j b d' e2
        exact ⟨a, by rw [List.getElem?_set_ne n]; exact e3, e4⟩
    · rcases set_get e1 with ⟨rfl, z⟩ | ⟨n1, f1⟩
      · cases z
      · rcases set_get e2 with ⟨rfl, z⟩ | ⟨n2, f2⟩
        · cases z
        · rw [List.getElem?_set_ne n1] at e3
          rw [List.getElem?_set_ne n2] at e4
          exact R.ap j k b c d1 d2 a f1 f2 e3 e4
  · cases e
theorem Stp.setV (R : Rep K G H ρ σ) (e : setV i d ρ = some ρ') : Stp ρ σ G H ρ' (σ.set i (some v)) G H := by
  unfold DF.setV at e
  split at e
  · rename_i hf
    cases e
    have hl : i < σ.length := by rw [← R.len]; exact free_lt hf
    refine ⟨fun _ _ e => e, fun _ _ _ _ e => e, fun _ e => e, fun _ e q => absurd e q, fun b ⟨j, d', e1, e2⟩ => ?_, fun j => ⟨fun d' e1 => ?_, fun d' e1 => ?_⟩⟩
    · rcases set_get e1 with ⟨rfl, z⟩ | ⟨n, f1⟩
      · cases z
      · rw [List.getElem?_set_ne n] at e2
        exact .inl ⟨j, d', f1, e2⟩
    · have n : i ≠ j := fun z => by subst z; exact free_io hf d' e1
      exact ⟨d', by rw [List.getElem?_set_ne n]; exact e1, by rw [List.getElem?_set_ne n]⟩
    · rcases set_get e1 with ⟨rfl, z⟩ | ⟨n, f1⟩
      · cases z
      · exact ⟨d', f1⟩
  · cases e
theorem Rep.setF {a : Addr} (R : Rep K G H ρ σ) (e : setF i d ρ = some ρ') (h0 : G a = none) (h1 : ¬ Mu false ρ σ a) (h2 : ¬ Mu true ρ σ a) (hc : Cont K G H a d) : Rep K G H ρ' (σ.set i (some (.ref a))) := by
  unfold DF.setF at e
  split at e
  · rename_i hf
    cases e
    have hl : i < σ.length := by rw [← R.len]; exact free_lt hf
    have no : ∀ (j : Nat) (b : Bool) (d' : D), ρ[j]? = some (some (.mu b d')) → σ[j]? = some (some (.ref a)) → False := fun j b d' q1 q2 => by
      cases b with
      | false => exact h1 ⟨j, d', q1, q2⟩
      | true => exact h2 ⟨j, d', q1, q2⟩
    refine ⟨R.sub, by rw [List.length_set, List.length_set]; exact R.len, fun j d' e1 => ?_, fun j b d' e1 => ?_, fun j k b c d1 d2 a' e1 e2 e3 e4 => ?_⟩
    · rcases set_get e1 with ⟨rfl, z⟩ | ⟨n, e2⟩
      · cases z
      · obtain ⟨v', e3, e4⟩ := R.vl j d' e2
        exact ⟨v', by rw [List.getElem?_set_ne n]; exact e3, e4⟩
    · rcases set_get e1 with ⟨rfl, z⟩ | ⟨n, e2⟩
      · cases z
        exact ⟨a, List.getElem?_set_self hl, h0, hc⟩
      · obtain ⟨a', e3, e4⟩ := R.mu j b d' e2
        exact ⟨a', by rw [List.getElem?_set_ne n]; exact e3, e4⟩
    · rcases set_get e1 with ⟨q1, z1⟩ | ⟨n1, f1⟩
      · rcases set_get e2 with ⟨q2, z2⟩ | ⟨n2, f2⟩
        · exact q1.symm.trans q2
        · subst q1
          rw [List.getElem?_set_self hl] at e3
          cases e3
          rw [List.getElem?_set_ne n2] at e4
          exact (no k c d2 f2 e4).elim
      · rcases set_get e2 with ⟨q2, z2⟩ | ⟨n2, f2⟩
        · subst q2
          rw [List.getElem?_set_self hl] at e4
          cases e4
          rw [List.getElem?_set_ne n1] at e3
          exact (no j b d1 f1 e3).elim
        · rw [List.getElem?_set_ne n1] at e3
          rw [List.getElem?_set_ne n2] at e4
          exact R.ap j k b c d1 d2 a' f1 f2 e3 e4
  · cases e
/-- the step that ends with a slot filled by a thing that was made on the way -/
theorem Stp.setF {ρ0 : DEnv} {σ0 : Sl} {G0 H0 : Hp} {a : Addr} (S : Stp ρ0 σ0 G0 H0 ρ σ G H) (R : Rep K G H ρ σ) (e : setF i d ρ = some ρ') (hn : H0 a = none) : Stp ρ0 σ0 G0 H0 ρ' (σ.set i (some (.ref a))) G H := by
  unfold DF.setF at e
  split at e
  · rename_i hf
    cases e
    have hl : i < σ.length := by rw [← R.len]; exact free_lt hf
    refine ⟨S.g, S.h, S.t, S.n, fun b ⟨j, d', e1, e2⟩ => ?_, fun j => ⟨fun d' e1 => ?_, fun d' e1 => ?_⟩⟩
    · rcases set_get e1 with ⟨q, z⟩ | ⟨n, f1⟩
      · subst q
        rw [List.getElem?_set_self hl] at e2
        cases e2
        exact .inr hn
      · rw [List.getElem?_set_ne n] at e2
        exact S.ow b ⟨j, d', f1, e2⟩
    · obtain ⟨d1, f1, f2⟩ := (S.io j).1 d' e1
      have n : i ≠ j := fun z => by subst z; exact free_io hf d1 f1
      exact ⟨d1, by rw [List.getElem?_set_ne n]; exact f1, by rw [List.getElem?_set_ne n]; exact f2⟩
    · rcases set_get e1 with ⟨rfl, z⟩ | ⟨n, f1⟩
      · cases z
      · exact (S.io j).2 d' f1
  · cases e
end
def dSet (i : Nat) (f : DEnv → R D) : DEnv → SR := fun ρ => (f ρ).bindS fun d ρ' => match setV i d ρ' with
  | none => .no
  | some ρ2 => .nx ρ2
/-- where what is made is kept as one's own -/
def dSetF (i : Nat) (f : DEnv → R D) : DEnv → SR := fun ρ => match f ρ with
  | .no => .no
  | .ex ρ' e => .ex ρ' e
  | .ok ρ' d => match setF i d ρ' with
    | none => .no
    | some ρ2 => .nx ρ2
section
variable {X : Cx} {W : WX} {i : Nat} {x : Str} {e : Expr} {pos pos' : Pos} {f : DEnv → R D}
theorem tset {te : TE} (hs : ∀ σ H Q, tD X.K W f σ H Q → te σ H Q) : ∀ E σ H, tS X.K W (dSet i f) E σ H → tAsg te (gName i) E σ H := fun E σ H ⟨ρ, G, R, h⟩ =>
  hs σ H _ ⟨ρ, G, R, (Go.bindS R h).imp fun d ρ' G' H' s R' h v hv => by
    split at h
    · exact False.elim h
    · rename_i ρ2 e2
      exact h _ G' H' (Stp.setV R' e2) (R'.setV e2 hv)⟩
theorem ds_set (hN : X.N.Nodup) (hi : X.N[i]? = some x) (hx : Loc X.env.scope x) (he : DE X W e f) (hs : swapsWith e (some (.Name x pos')) pos.line X.env = pure false := by rfl) (hf : X.fn x = true ∨ X.env.scope.names.lookup x = some .local := by first | exact .inl rfl | exact .inr rfl | assumption) :
    DS X W (.Assign [.Name x pos'] e pos) (dSet i f) := ps_imp (ps_set hN hi hx he hs hf) (tset fun _ _ _ h => h)
theorem tsetF {te : TE} (hs : ∀ σ H Q, tF X.K W f σ H Q → te σ H Q) : ∀ E σ H, tS X.K W (dSetF i f) E σ H → tAsg te (gName i) E σ H := fun E σ H ⟨ρ, G, R, h⟩ => hs σ H _ ⟨ρ, G, R, by
      unfold dSetF at h
      split at h
      · exact False.elim h
      · rename_i ρ' ee e1
        rw [e1]
        exact fun G' H' d s R' hd => h d σ G' H' s R' hd
      · rename_i ρ' d e1
        rw [e1]
        split at h
        · exact False.elim h
        · rename_i ρ2 e2
          exact fun G' H' s R' a h0 h1 h2 hn hc => h _ G' H' (s.setF R' e2 hn) (R'.setF e2 h0 h1 h2 hc)⟩
theorem ds_setF (hN : X.N.Nodup) (hi : X.N[i]? = some x) (hx : Loc X.env.scope x) (he : DF' X W e f) (hs : swapsWith e (some (.Name x pos')) pos.line X.env = pure false := by rfl) (hf : X.fn x = true ∨ X.env.scope.names.lookup x = some .local := by first | exact .inl rfl | exact .inr rfl | assumption) :
    DS X W (.Assign [.Name x pos'] e pos) (dSetF i f) := ps_imp (ps_set hN hi hx he hs hf) (tsetF fun _ _ _ h => h)
theorem ds_retF (he : DF' X W e f) : DS X W (.Return (some e) pos) (dRetF f) := ps_imp (ps_ret he) fun E σ H ⟨ρ, G, R, h⟩ => ⟨ρ, G, R, by
      unfold dRetF at h
      cases e1 : f ρ with
      | no => rw [e1] at h; exact h
      | ex ρ' ee => rw [e1] at h; exact fun G' H' d s R' hd => h d σ G' H' s R' hd
      | ok ρ' d =>
        rw [e1] at h
        exact fun G' H' s R' a h0 h1 h2 hn hc => h (.ref a) σ G' H' s R' ⟨a, rfl, h0, .inr hn, hc⟩⟩
/-- what was made is looked at by others from here on -/
theorem tfresh : ∀ σ H Q, tD X.K W f σ H Q → tF X.K W f σ H Q := fun σ H Q ⟨ρ, G, R, h⟩ => ⟨ρ, G, R, by
  cases e1 : f ρ with
  | no => rw [e1] at h; exact h
  | ex ρ' ee => rw [e1] at h; exact h
  | ok ρ' d =>
    rw [e1] at h
    intro G' H' s R' a h0 h1 h2 hn hc
    obtain ⟨o, ho⟩ := hc.there
    have eG : Evl.Ex G' (upd G' a o) := Evl.Ex.new h0
    have hi : Is X.K (upd G' a o) d (.ref a) := by
      cases d with
      | lst l =>
        obtain ⟨xs, q1, q2⟩ := hc
        rw [ho] at q1; cases q1
        exact .lst upd_same (q2.mono eG)
      | dic l =>
        obtain ⟨xs, q1, q2⟩ := hc
        rw [ho] at q1; cases q1
        exact .dic upd_same (q2.mono eG)
      | _ => exact False.elim hc
    have eS : Evl.Ex (upd G' a o) H' := fun b u q => by
      by_cases z : b = a
      · subst z; rw [upd_same] at q; cases q; exact ho
      · rw [upd_ne z] at q; exact R'.sub b u q
    refine h (upd G' a o) H' ⟨fun b u q => eG b u (s.g b u q), s.h, s.t, fun b q1 q2 => ?_, s.ow, s.io⟩ ⟨eS, R'.len, fun j d' q => ?_, fun j b d' q => ?_, R'.ap⟩ _ hi
    · by_cases z : b = a
      · subst z; exact .inl hn
      · rw [upd_ne z] at q2; exact s.n b q1 q2
    · obtain ⟨v, z1, z2⟩ := R'.vl j d' q
      exact ⟨v, z1, z2.mono eG⟩
    · obtain ⟨c, z1, z2, z3⟩ := R'.mu j b d' q
      have nc : c ≠ a := fun z => by
        subst z
        cases b with
        | false => exact h1 ⟨j, d', q, z1⟩
        | true => exact h2 ⟨j, d', q, z1⟩
      exact ⟨c, z1, by rw [upd_ne nc]; exact z2, z3.mono eG fun o q => q⟩⟩
theorem de_fresh (he : DF' X W e f) : DE X W e f := pe_imp he tfresh
end

/-! ### while -/
def dWhile (c : DEnv → R Bool) (b : DEnv → SR) : Nat → DEnv → SR
  | 0, _ => .no
  | n + 1, ρ => (c ρ).bindS fun t ρ1 => match t with
    | false => .nx ρ1
    | true => match b ρ1 with
      | .nx ρ2 => dWhile c b n ρ2
      | .cnt ρ2 => dWhile c b n ρ2
      | .brk ρ2 => .nx ρ2
      | .no => .no
      | .ret ρ2 fr d => .ret ρ2 fr d
      | .ex ρ2 e => .ex ρ2 e
/-- a loop's body: its end leads on -/
theorem GoS.turn {K : PySem.W.Frag} {W : WX} {σ : Sl} {ρ : DEnv} {G H : Hp} {E : Ends} {g : DEnv → SR} {r : SR} (R0 : Rep K G H ρ σ)
    (h : GoS K W σ ρ G H E (match r with | .nx ρ2 => g ρ2 | .cnt ρ2 => g ρ2 | .brk ρ2 => .nx ρ2 | .no => .no | .ret ρ2 fr d => .ret ρ2 fr d | .ex ρ2 e => .ex ρ2 e)) :
    GoS K W σ ρ G H { E with nx := tS K W g E, ct := tS K W g E, bk := E.nx } r := by
  cases r with
  | nx ρ' => exact fun σ' G' H' s R => ⟨ρ', G', R, GoS.shift R0 s h⟩
  | cnt ρ' => exact fun σ' G' H' s R => ⟨ρ', G', R, GoS.shift R0 s h⟩
  | brk ρ' => exact h
  | no => exact h
  | ret _ _ _ => exact h
  | ex _ _ => exact h
theorem ds_while {X : Cx} {W : WX} {c : Expr} {body : List Stmt} {fc : DEnv → R Bool} {fb : DEnv → SR} {pos : Pos} (n : Nat) (hp : PassesOwn (model X.prog X.w) X.A X.env X.xe) (hc : DT X W c fc) (hb : DSs X W body fb) :
    DS X W (.While c body [] pos) (dWhile fc fb n) := ps_imp (ps_while hp hc hb) fun E σ H h => by
  refine ⟨fun m σ H => tS X.K W (dWhile fc fb m) E σ H, ⟨n, h⟩, fun m σ H ⟨ρ, G, R, h⟩ => ?_⟩
  cases m with
  | zero => exact False.elim h
  | succ m =>
    refine ⟨ρ, G, R, (Go.bindS R h).imp fun b ρ1 G1 H1 s1 R1 h1 => ?_⟩
    cases b with
    | false =>
      rw [if_neg Bool.false_ne_true]
      exact h1 σ G1 H1 .refl R1
    | true =>
      rw [if_pos rfl]
      exact ⟨tS X.K W (dWhile fc fb m) E, fun σ' H' q => ⟨m, Nat.lt_succ_self m, q⟩, ρ1, G1, R1, GoS.turn R1 h1⟩
end DF

namespace DF
open PySem PySem.Spec PyProof.Rows L2

/-! ### targets -/
abbrev Tg := D → DEnv → Option DEnv
def Agr (vs : List Nat) (σ σ' : Sl) : Prop := σ'.length = σ.length ∧ ∀ i, i ∉ vs → σ'[i]? = σ[i]?
def tG (K : PySem.W.Frag) (f : Tg) (sl : List Nat) : TG := fun v σ H Q => ∃ ρ G d, Rep K G H ρ σ ∧ Is K G d v ∧ ∃ ρ', f d ρ = some ρ' ∧ ∀ σ' G' H', Stp ρ σ G H ρ' σ' G' H' → Rep K G' H' ρ' σ' → Agr sl σ σ' → Q σ' H'
def tGs (K : PySem.W.Frag) (f : List D → DEnv → Option DEnv) (sl : List Nat) : TGs := fun vs σ H Q => ∃ ρ G ds, Rep K G H ρ σ ∧ Iss K G ds vs ∧ ∃ ρ', f ds ρ = some ρ' ∧ ∀ σ' G' H', Stp ρ σ G H ρ' σ' G' H' → Rep K G' H' ρ' σ' → Agr sl σ σ' → Q σ' H'
abbrev DG (X : Cx) (tg : Expr) (f : Tg) (sl : List Nat) : Prop := PG X tg (tG X.K f sl)
abbrev DGs (X : Cx) (ts : List Expr) (f : List D → DEnv → Option DEnv) (sl : List Nat) : Prop := PGs X ts (tGs X.K f sl)
theorem pg_imp {X : Cx} {e : Expr} {t t' : TG} (h : PG X e t) (i : ∀ v σ H Q, t' v σ H Q → t v σ H Q) : PG X e t' := ⟨fun pins s σ H v u Q I r q => h.run pins s σ H v u Q I r (i v σ H Q q)⟩
theorem pgs_imp {X : Cx} {es : List Expr} {t t' : TGs} (h : PGs X es t) (i : ∀ v σ H Q, t' v σ H Q → t v σ H Q) : PGs X es t' := ⟨fun pins s σ H v u Q I r q => h.run pins s σ H v u Q I r (i v σ H Q q)⟩
section
variable {X : Cx} {pos : Pos} {e : Expr} {es : List Expr}
theorem dg_name {i : Nat} (h : PG X e (gName i)) : DG X e (setV i) [i] := pg_imp h fun v σ H Q ⟨ρ, G, d, R, hv, ρ', e1, q⟩ => q _ G H (Stp.setV R e1) (R.setV e1 hv)
  ⟨List.length_set, fun j hj => List.getElem?_set_ne fun z => hj (by rw [z]; exact List.mem_singleton_self _)⟩
def gsNil : List D → DEnv → Option DEnv := fun ds ρ => match ds with
  | [] => some ρ
  | _ => none
def gsCons (f : Tg) (g : List D → DEnv → Option DEnv) : List D → DEnv → Option DEnv := fun ds ρ => match ds with
  | [] => none
  | d :: r => match f d ρ with
    | none => none
    | some ρ1 => g r ρ1
theorem dgs_nil : DGs X [] gsNil [] := pgs_imp pgs_nil fun vs σ H Q ⟨ρ, G, ds, R, hv, ρ', e1, q⟩ => by
  cases hv with
  | nil => cases e1; exact ⟨rfl, q σ G H .refl R ⟨rfl, fun _ _ => rfl⟩⟩
  | cons h r => cases e1
theorem dgs_cons {f : Tg} {g : List D → DEnv → Option DEnv} {s1 s2 : List Nat} (h1 : DG X e f s1) (h2 : DGs X es g s2) (hs : (assignEach (e :: es) X.env).map (·.2) = assign e X.env :: (assignEach es X.env).map (·.2) := by rfl) : DGs X (e :: es) (gsCons f g) (s1 ++ s2) :=
  pgs_imp (pgs_cons h1 h2 hs) fun vs σ H Q ⟨ρ, G, ds, R, hv, ρ', e1, q⟩ => by
    cases hv with
    | nil => cases e1
    | @cons d v l xs h r =>
      unfold gsCons at e1
      dsimp only at e1
      split at e1
      · cases e1
      · rename_i ρ1 e2
        exact ⟨v, xs, rfl, ρ, G, d, R, h, ρ1, e2, fun σ1 G1 H1 s1 R1 a1 => ⟨ρ1, G1, l, R1, r.mono s1.g, ρ', e1, fun σ' G' H' s R' a2 => q σ' G' H' (s1.trans R s) R' ⟨a2.1.trans a1.1, fun j hj => (a2.2 j fun m => hj (List.mem_append_right _ m)).trans (a1.2 j fun m => hj (List.mem_append_left _ m))⟩⟩⟩
def gTp (n : Nat) (f : List D → DEnv → Option DEnv) : Tg := fun d ρ => match d with
  | .tup l => if l.length = n then f l ρ else none
  | _ => none
theorem dg_tup {k : Nat} {n : Nat} {f : List D → DEnv → Option DEnv} {sl : List Nat} (hc : X.calm = true) (h : DGs X es f sl) (hn : (assignEach es X.env).length = n := by rfl) (hst : (assignEach es X.env).findIdx? (·.1) = none := by rfl) : DG X (.Tuple es k pos) (gTp n f) sl :=
  pg_imp (pg_tup hc h hn hst) fun v σ H Q ⟨ρ, G, d, R, hv, ρ', e1, q⟩ => by
    cases hv with
    | @tup l a xs h r =>
      unfold gTp at e1
      dsimp only at e1
      split at e1
      · rename_i e2
        exact ⟨a, xs, rfl, Evl.ex_t R.sub h, by rw [← r.length]; exact e2, ρ, G, l, R, r, ρ', e1, q⟩
      · cases e1
    | _ => cases e1
end
def dAsg (f : DEnv → R D) (g : Tg) : DEnv → SR := fun ρ => (f ρ).bindS fun d ρ' => match g d ρ' with
  | none => .no
  | some ρ2 => .nx ρ2
theorem ds_asg {X : Cx} {W : WX} {tg e : Expr} {f : DEnv → R D} {g : Tg} {sl : List Nat} {pos : Pos} (he : DE X W e f) (hg : DG X tg g sl) (hs : swapsWithSole [tg] e pos.line X.env = pure false := by rfl) (hw : swappedStores [tg] e X.env = pure none := by rfl)
    (h1 : (assignEach [tg] X.env).map (·.2) = [assign tg X.env] := by rfl) : DS X W (.Assign [tg] e pos) (dAsg f g) := ps_imp (ps_asg he hg hs hw h1) fun E σ H ⟨ρ, G, R, h⟩ => ⟨ρ, G, R, (Go.bindS R h).imp fun d ρ' G' H' s R' h v hv => by
      split at h
      · exact False.elim h
      · rename_i ρ2 e2
        exact ⟨ρ', G', d, R', hv, ρ2, e2, fun σ' G' H' s R _ => h σ' G' H' s R⟩⟩

/-! ### what is walked -/
/-- the walk yields these, one after another -/
structure ItS (K : PySem.W.Frag) (G0 : Hp) (l : List D) (J : It) : Prop where
  go : ∀ (i : Nat) (d : D) (G H : Hp), l[i]? = some d → Evl.Ex G0 G → Evl.Ex G H → J.go i H ∧ ∀ x H', J.yld i H x H' → ∃ G', New G H G' H' ∧ Is K G' d x
  stop : ∀ (i : Nat) (G H : Hp), l.length ≤ i → Evl.Ex G0 G → Evl.Ex G H → J.stop i H
def tI (K : PySem.W.Frag) (W : WX) (f : DEnv → R (List D)) : TI := fun σ H Q => ∃ ρ G, Rep K G H ρ σ ∧ Go K W σ ρ G H (fun l _ G' H' => ∀ J, ItS K G' l J → Q J H') (f ρ)
abbrev DI (X : Cx) (W : WX) (tg e : Expr) (f : DEnv → R (List D)) : Prop := PI X tg e (tI X.K W f)
theorem pi_imp {X : Cx} {tg e : Expr} {t t' : TI} (h : PI X tg e t) (i : ∀ σ H Q, t' σ H Q → t σ H Q) : PI X tg e t' := ⟨fun pins s σ H R I q => h.run pins s σ H R I (i σ H R q)⟩
section
variable {X : Cx} {W : WX} {tg e : Expr} {pos p : Pos}
def sLst (f : DEnv → R D) : DEnv → R (List D) := fun ρ => (f ρ).bind fun d ρ' => match d with
  | .lst l => .ok ρ' l
  | .fro l => .ok ρ' l
  | _ => .no
def sTup (f : DEnv → R D) : DEnv → R (List D) := fun ρ => (f ρ).bind fun d ρ' => match d with
  | .tup l => .ok ρ' l
  | _ => .no
theorem itl_s {K : PySem.W.Frag} {G0 : Hp} {l : List D} {a : Addr} {xs : List V} (h : SqL K G0 a xs) (r : Iss K G0 l xs) : ItS K G0 l (Itl K a) where
  go := fun i d G H e eG eH => by
    obtain ⟨v, e1, e2⟩ := r.get e
    have hL : SqL K H a xs := Evl.ex_l eH (Evl.ex_l eG h)
    refine ⟨⟨xs, v, hL, e1⟩, fun x H' ⟨z, y⟩ => ?_⟩
    subst z
    have q := y xs hL
    rw [e1] at q; cases q
    exact ⟨G, New.refl eH, e2.mono eG⟩
  stop := fun i G H e eG eH => ⟨xs, Evl.ex_l eH (Evl.ex_l eG h), by rw [← r.length]; exact e⟩
theorem itt_s {K : PySem.W.Frag} {G0 : Hp} {l : List D} {a : Addr} {xs : List V} (h : SqT K G0 a xs) (r : Iss K G0 l xs) : ItS K G0 l (Itt K a) where
  go := fun i d G H e eG eH => by
    obtain ⟨v, e1, e2⟩ := r.get e
    have hL : SqT K H a xs := Evl.ex_t eH (Evl.ex_t eG h)
    refine ⟨⟨xs, v, hL, e1⟩, fun x H' ⟨z, y⟩ => ?_⟩
    subst z
    have q := y xs hL
    rw [e1] at q; cases q
    exact ⟨G, New.refl eH, e2.mono eG⟩
  stop := fun i G H e eG eH => ⟨xs, Evl.ex_t eH (Evl.ex_t eG h), by rw [← r.length]; exact e⟩
theorem di_list {f : DEnv → R D} (h : DE X W e f) : DI X W tg e (sLst f) := pi_imp (pi_list h) fun σ H Q ⟨ρ, G, R, h⟩ => ⟨ρ, G, R, (Go.bind R h).imp fun d ρ' G' H' s R' h v hv => by
    cases hv with
    | @lst l a xs hL r => exact ⟨a, rfl, ⟨xs, Evl.sq_of (R'.sub _ _ hL)⟩, h G' H' .refl R' _ (itl_s (Evl.sq_of hL) r)⟩
    | @fro l a xs hL r => exact ⟨a, rfl, ⟨xs, Evl.ex_l R'.sub hL⟩, h G' H' .refl R' _ (itl_s hL r)⟩
    | _ => exact False.elim h⟩
theorem di_tup {f : DEnv → R D} (h : DE X W e f) : DI X W tg e (sTup f) := pi_imp (pi_tup h) fun σ H Q ⟨ρ, G, R, h⟩ => ⟨ρ, G, R, (Go.bind R h).imp fun d ρ' G' H' s R' h v hv => by
    cases hv with
    | @tup l a xs hL r => exact ⟨a, rfl, ⟨xs, Evl.ex_t R'.sub hL⟩, h G' H' .refl R' _ (itt_s hL r)⟩
    | _ => exact False.elim h⟩
def rng (lo : Int) (n : Nat) : List D := (List.range n).map fun (k : Nat) => D.int (lo + (k : Int))
theorem itr_s {K : PySem.W.Frag} {G0 : Hp} {lo : Int} {n : Nat} : ItS K G0 (rng lo n) (Itr lo n) where
  go := fun i d G H e eG eH => by
    unfold rng at e
    rw [List.getElem?_map] at e
    by_cases h : i < n
    · rw [List.getElem?_range h] at e
      cases e
      refine ⟨h, fun x H' ⟨z, y⟩ => ?_⟩
      subst z y
      exact ⟨G, New.refl eH, .int _⟩
    · rw [List.getElem?_eq_none (by rw [List.length_range]; omega)] at e
      cases e
  stop := fun i G H e _ _ => by
    unfold rng at e
    rw [List.length_map, List.length_range] at e
    exact e
def inR (i : Int) : Bool := decide (-(2 ^ 62) ≤ i) && decide (i < 2 ^ 62)
theorem inR_of {i : Int} (h : inR i = true) : -(2 ^ 62) ≤ i ∧ i < 2 ^ 62 := by
  unfold inR at h
  rw [Bool.and_eq_true, decide_eq_true_eq, decide_eq_true_eq] at h
  exact h
def sRng1 (f : DEnv → R (List D)) : DEnv → R (List D) := fun ρ => (f ρ).bind fun l ρ' => match l with
  | [.int j] => if inR j = true then .ok ρ' (rng 0 j.toNat) else .no
  | _ => .no
def sRng2 (f : DEnv → R (List D)) : DEnv → R (List D) := fun ρ => (f ρ).bind fun l ρ' => match l with
  | [.int i, .int j] => if inR i = true then if inR j = true then .ok ρ' (rng i (j - i).toNat) else .no else .no
  | _ => .no
theorem di_rng1 {a : Expr} {f : DEnv → R (List D)} (hg : Gl X "range") (hm : X.mg "range" = none) (ha : DVs X W [a] f) (hs : starEach [a] X.env = [(false, eval a X.env)] := by rfl) : DI X W tg (.Call (.Name "range" p) [a] [] pos) (sRng1 f) :=
  pi_imp (pi_range1 hg hm ha hs) fun σ H Q ⟨ρ, G, R, h⟩ => ⟨ρ, G, R, (Go.bind R h).imp fun l ρ' G' H' s R' h vs hv => by
    split at h
    · rename_i j
      cases hv with
      | cons h1 h2 =>
        cases h1; cases h2
        split at h
        · rename_i hj
          exact ⟨j, rfl, (inR_of hj).1, (inR_of hj).2, h G' H' .refl R' _ itr_s⟩
        · exact False.elim h
    · exact False.elim h⟩
theorem di_rng2 {a b : Expr} {f : DEnv → R (List D)} (hg : Gl X "range") (hm : X.mg "range" = none) (ha : DVs X W [a, b] f) (hs : starEach [a, b] X.env = [(false, eval a X.env), (false, eval b X.env)] := by rfl) (hs2 : starEach [b] X.env = [(false, eval b X.env)] := by rfl) :
    DI X W tg (.Call (.Name "range" p) [a, b] [] pos) (sRng2 f) :=
  pi_imp (pi_range2 hg hm ha hs hs2) fun σ H Q ⟨ρ, G, R, h⟩ => ⟨ρ, G, R, (Go.bind R h).imp fun l ρ' G' H' s R' h vs hv => by
    split at h
    · rename_i i j
      cases hv with
      | cons h1 h2 =>
        cases h2 with
        | cons h3 h4 =>
          cases h1; cases h3; cases h4
          split at h
          · rename_i hi
            split at h
            · rename_i hj
              exact ⟨i, j, rfl, ⟨(inR_of hi).1, (inR_of hi).2, (inR_of hj).1, (inR_of hj).2⟩, h G' H' .refl R' _ itr_s⟩
            · exact False.elim h
          · exact False.elim h
    · exact False.elim h⟩
end
/-! ### for -/
def dFor (g : Tg) (b : DEnv → SR) : List D → DEnv → SR
  | [], ρ => .nx ρ
  | d :: l, ρ => match g d ρ with
    | none => .no
    | some ρ1 => match b ρ1 with
      | .nx ρ2 => dFor g b l ρ2
      | .cnt ρ2 => dFor g b l ρ2
      | .brk ρ2 => .nx ρ2
      | .no => .no
      | .ret ρ2 fr d => .ret ρ2 fr d
      | .ex ρ2 e => .ex ρ2 e
def dForS (s : DEnv → R (List D)) (g : Tg) (b : DEnv → SR) : DEnv → SR := fun ρ => (s ρ).bindS fun l ρ' => dFor g b l ρ'
theorem ds_for {X : Cx} {W : WX} {tg iter : Expr} {body : List Stmt} {f : DEnv → R (List D)} {g : Tg} {b : DEnv → SR} {sl : List Nat} {pos : Pos} (hp : PassesOwn (model X.prog X.w) X.A X.env X.xe) (hc : X.calm = true) (hi : DI X W tg iter f) (hg : DG X tg g sl) (hb : DSs X W body b)
    (hs : ∀ x, foldedSetIterable iter X.env x = pure x := by intro _; rfl) : DS X W (.For tg iter body [] pos) (dForS f g b) := ps_imp (ps_for hp hc hi hg hb hs) fun E σ H ⟨ρ, G, R, h⟩ => ⟨ρ, G, R, (Go.bindS R h).imp fun l ρ0 G0 H0 s0 R0 h0 J hJ => by
    refine ⟨fun i m σ H => m = l.length - i ∧ ∃ ρ G, Rep X.K G H ρ σ ∧ Evl.Ex G0 G ∧ GoS X.K W σ ρ G H E (dFor g b (l.drop i) ρ), ⟨l.length, by simp, ρ0, G0, R0, fun _ _ e => e, h0⟩, fun i m σ H ⟨em, ρ, G, R, eG, h⟩ => ?_⟩
    cases e : l[i]? with
    | none =>
      have hl : l.length ≤ i := List.getElem?_eq_none_iff.mp e
      rw [List.drop_eq_nil_of_le hl] at h
      exact .inl ⟨hJ.stop i G H hl eG R.sub, h σ G H .refl R⟩
    | some d =>
      obtain ⟨hi, he⟩ := List.getElem?_eq_some_iff.mp e
      obtain ⟨q1, q2⟩ := hJ.go i d G H e eG R.sub
      rw [List.drop_eq_getElem_cons hi, he] at h
      refine .inr ⟨q1, fun σ' H' => ∃ ρ G, Rep X.K G H' ρ σ' ∧ Evl.Ex G0 G ∧ GoS X.K W σ' ρ G H' E (dFor g b (l.drop (i + 1)) ρ), fun σ' H' q => ⟨l.length - (i + 1), by omega, rfl, q⟩, fun x H1 hy => ?_⟩
      obtain ⟨G1, N, hx⟩ := q2 x H1 hy
      have R1 := N.rep R
      unfold dFor at h
      split at h
      · exact False.elim h
      · rename_i ρ1 e1
        refine ⟨ρ, G1, d, R1, hx, ρ1, e1, fun σ2 G2 H2 s2 R2 _ => ⟨ρ1, G2, R2, ?_⟩⟩
        have s3 := (N.stp R).trans R s2
        have h' := GoS.shift R s3 h
        cases eb : b ρ1 with
        | no => rw [eb] at h'; exact h'
        | nx ρ2 =>
          rw [eb] at h'
          exact fun σ' G' H' s R' => ⟨ρ2, G', R', fun c o q => s.g c o (s3.g c o (eG c o q)), GoS.shift R2 s h'⟩
        | cnt ρ2 =>
          rw [eb] at h'
          exact fun σ' G' H' s R' => ⟨ρ2, G', R', fun c o q => s.g c o (s3.g c o (eG c o q)), GoS.shift R2 s h'⟩
        | brk ρ2 => rw [eb] at h'; exact h'
        | ret ρ2 fr d => rw [eb] at h'; exact h'
        | ex ρ2 ee => rw [eb] at h'; exact h'⟩
end DF

namespace DF
open PySem PySem.Spec PyProof.Rows L2
section
variable {X : Cx} {W : WX} {a b c e : Expr} {rest : List Expr} {pos : Pos} {fa fb : DEnv → R D} {ta tb : DEnv → R Bool}
/-! ### tests -/
theorem tB_of {f : DEnv → R D} : ∀ σ H Q, tT X.K W (dTst f) σ H Q → tB (tD X.K W f) σ H Q := fun σ H Q ⟨ρ, G, R, h⟩ =>
  ⟨ρ, G, R, (Go.bind R h).imp fun d ρ' G' H' s R' h v hv => by
    split at h
    · cases hv
      exact ⟨_, rfl, h G' H' .refl R'⟩
    · exact False.elim h⟩
theorem dt_val (h : DE X W e fa) (he : ∀ whole, isTrue e X.env whole = (do let v ← whole; standAt e.pos; holding [v] (truthy v)) := by intro _; rfl) : DT X W e (dTst fa) := pt_imp (pt_val h he) tB_of
/-- the truth of data -/
def tru (d : D) : Option Bool := match d with
  | .non => some false
  | .bl b => some b
  | .int i => some (i != 0)
  | .lst l => some (!l.isEmpty)
  | .tup l => some (!l.isEmpty)
  | _ => none
theorem tru_of {K : PySem.W.Frag} {G H : Hp} {d : D} {v : V} {b : Bool} (eS : Evl.Ex G H) (h : Top K G H d v) (e : tru d = some b) : TruV K v H b := by
  cases d with
  | non => cases h; cases e; exact (rfl : false = false)
  | bl c => cases h; cases e; exact (rfl : b = b)
  | int i => cases h; cases e; exact (rfl : (i != 0) = (i != 0))
  | str x => cases e
  | dic l => cases e
  | lst l =>
    obtain ⟨p, xs, rfl, h1, h2⟩ := h
    cases e
    refine .inl ⟨xs, Evl.sq_of h1, ?_⟩
    cases h2 <;> rfl
  | fro l => cases e
  | tup l =>
    cases h with
    | @tup l p xs h1 h2 =>
      cases e
      refine .inr (.inl ⟨xs, Evl.ex_t eS h1, ?_⟩)
      cases h2 <;> rfl
def dTru (f : DEnv → R Th) : DEnv → R Bool := fun ρ => (f ρ).bind fun t ρ' => match t ρ' with
  | none => .no
  | some d => ofO ρ' (tru d)
theorem dt_truth {f : DEnv → R Th} (h : DO X W e f) (he : ∀ whole, isTrue e X.env whole = (do let v ← whole; standAt e.pos; holding [v] (truthy v)) := by intro _; rfl) : DT X W e (dTru f) :=
  pt_imp (pt_truth h he) fun σ H Q ⟨ρ, G, R, h⟩ => ⟨ρ, G, R, (Go.bind R h).imp fun t ρ' G' H' s R' h v hv => by
    split at h
    · exact False.elim h
    · rename_i d e1
      cases e2 : tru d with
      | none => rw [e2] at h; exact False.elim h
      | some b =>
        rw [e2] at h
        exact ⟨b, tru_of R'.sub (hv ρ' G' H' d .refl R' e1) e2, h G' H' .refl R'⟩⟩
abbrev DW (X : Cx) (W : WX) (e : Expr) (f : DEnv → R Bool) : Prop := PW X e (tT X.K W f)
def dAnd (f g : DEnv → R Bool) : DEnv → R Bool := fun ρ => (f ρ).bind fun b ρ' => match b with
  | true => g ρ'
  | false => .ok ρ' false
def dOr (f g : DEnv → R Bool) : DEnv → R Bool := fun ρ => (f ρ).bind fun b ρ' => match b with
  | true => .ok ρ' true
  | false => g ρ'
def dNot (f : DEnv → R Bool) : DEnv → R Bool := fun ρ => (f ρ).bind fun b ρ' => .ok ρ' (!b)
theorem dw_and1 (h : DT X W a ta) : DW X W (.BoolOp .And [a] pos) ta := pw_and1 h
theorem dw_or1 (h : DT X W a ta) : DW X W (.BoolOp .Or [a] pos) ta := pw_or1 h
theorem dw_and (ha : DT X W a ta) (hb : DW X W (.BoolOp .And (b :: rest) pos) tb) : DW X W (.BoolOp .And (a :: b :: rest) pos) (dAnd ta tb) :=
  pw_imp (pw_and ha hb) fun σ H Q ⟨ρ, G, R, h⟩ => ⟨ρ, G, R, (Go.bind R h).imp fun b ρ' G' H' s R' h => by
    cases b with
    | true => rw [if_pos rfl]; exact ⟨ρ', G', R', h⟩
    | false => rw [if_neg Bool.false_ne_true]; exact h G' H' .refl R'⟩
theorem dw_or (ha : DT X W a ta) (hb : DW X W (.BoolOp .Or (b :: rest) pos) tb) : DW X W (.BoolOp .Or (a :: b :: rest) pos) (dOr ta tb) :=
  pw_imp (pw_or ha hb) fun σ H Q ⟨ρ, G, R, h⟩ => ⟨ρ, G, R, (Go.bind R h).imp fun b ρ' G' H' s R' h => by
    cases b with
    | true => rw [if_pos rfl]; exact h G' H' .refl R'
    | false => rw [if_neg Bool.false_ne_true]; exact ⟨ρ', G', R', h⟩⟩
theorem dt_bool (h : DW X W e ta) : DT X W e ta := h.pt
theorem dt_not (ha : DT X W a ta) : DT X W (.UnaryOp .Not a pos) (dNot ta) :=
  pt_imp (pt_not ha) fun σ H Q ⟨ρ, G, R, h⟩ => ⟨ρ, G, R, (Go.bind R h).imp fun b ρ' G' H' s R' h => h G' H' .refl R'⟩
/-! ### and, or, not as values: of bools -/
def dAndV (f g : DEnv → R D) : DEnv → R D := fun ρ => (f ρ).bind fun d ρ' => match d with
  | .bl true => g ρ'
  | .bl false => .ok ρ' (.bl false)
  | _ => .no
def dOrV (f g : DEnv → R D) : DEnv → R D := fun ρ => (f ρ).bind fun d ρ' => match d with
  | .bl true => .ok ρ' (.bl true)
  | .bl false => g ρ'
  | _ => .no
def dNotV (f : DEnv → R D) : DEnv → R D := fun ρ => (f ρ).bind fun d ρ' => match d with
  | .bl b => .ok ρ' (.bl (!b))
  | _ => .no
theorem de_one {op} (h : DE X W a fa) : DE X W (.BoolOp op [a] pos) fa := pe_one h
theorem de_and (ha : DE X W a fa) (hb : DE X W (.BoolOp .And (b :: rest) pos) fb) : DE X W (.BoolOp .And (a :: b :: rest) pos) (dAndV fa fb) :=
  pe_imp (pe_and ha hb) fun σ H Q ⟨ρ, G, R, h⟩ => ⟨ρ, G, R, (Go.bind R h).imp fun d ρ' G' H' s R' h v hv => by
    split at h
    · cases hv; exact ⟨true, rfl, by rw [if_pos rfl]; exact ⟨ρ', G', R', h⟩⟩
    · cases hv; exact ⟨false, rfl, by rw [if_neg Bool.false_ne_true]; exact h G' H' .refl R' _ (.bl false)⟩
    · exact False.elim h⟩
theorem de_or (ha : DE X W a fa) (hb : DE X W (.BoolOp .Or (b :: rest) pos) fb) : DE X W (.BoolOp .Or (a :: b :: rest) pos) (dOrV fa fb) :=
  pe_imp (pe_or ha hb) fun σ H Q ⟨ρ, G, R, h⟩ => ⟨ρ, G, R, (Go.bind R h).imp fun d ρ' G' H' s R' h v hv => by
    split at h
    · cases hv; exact ⟨true, rfl, by rw [if_pos rfl]; exact h G' H' .refl R' _ (.bl true)⟩
    · cases hv; exact ⟨false, rfl, by rw [if_neg Bool.false_ne_true]; exact ⟨ρ', G', R', h⟩⟩
    · exact False.elim h⟩
theorem de_not (ha : DE X W a fa) : DE X W (.UnaryOp .Not a pos) (dNotV fa) :=
  pe_imp (pe_not ha) fun σ H Q ⟨ρ, G, R, h⟩ => ⟨ρ, G, R, (Go.bind R h).imp fun d ρ' G' H' s R' h v hv => by
    split at h
    · rename_i b
      cases hv; exact ⟨b, rfl, h G' H' .refl R' _ (.bl _)⟩
    · exact False.elim h⟩
def dIte (t : DEnv → R Bool) (f g : DEnv → R D) : DEnv → R D := fun ρ => (t ρ).bind fun b ρ' => match b with
  | true => f ρ'
  | false => g ρ'
theorem de_ifExp (hc : DT X W c ta) (ha : DE X W a fa) (hb : DE X W b fb) : DE X W (.IfExp c a b pos) (dIte ta fa fb) :=
  pe_imp (pe_ifExp hc ha hb) fun σ H Q ⟨ρ, G, R, h⟩ => ⟨ρ, G, R, (Go.bind R h).imp fun b ρ' G' H' s R' h => by
    cases b with
    | true => rw [if_pos rfl]; exact ⟨ρ', G', R', h⟩
    | false => rw [if_neg Bool.false_ne_true]; exact ⟨ρ', G', R', h⟩⟩
/-! ### a op b op c -/
def dChain (g g' : D → D → Option D) (f1 f2 f3 : DEnv → R Th) : DEnv → R D := fun ρ => (f1 ρ).bind fun t1 ρ1 => (f2 ρ1).bind fun t2 ρ2 => match t1 ρ2, t2 ρ2 with
  | some x, some y => match g x y with
    | some (.bl true) => (f3 ρ2).bind fun t3 ρ3 => match t2 ρ3, t3 ρ3 with
      | some y', some z => ofO ρ3 (g' y' z)
      | _, _ => .no
    | some (.bl false) => .ok ρ2 (.bl false)
    | _ => .no
  | _, _ => .no
theorem tchain {r r' : R2} {g g' : D → D → Option D} {f1 f2 f3 : DEnv → R Th} (hs : OpS X.K r g) (hs' : OpS X.K r' g') : ∀ σ H Q, tD X.K W (dChain g g' f1 f2 f3) σ H Q → tChain r r' (tO X.K W f1) (tO X.K W f2) (tO X.K W f3) σ H Q := fun σ H Q ⟨ρ, G, R, h⟩ =>
  ⟨ρ, G, R, (Go.bind R h).imp fun t1 ρ1 G1 H1 s1 R1 h1 v hv => ⟨ρ1, G1, R1, (Go.bind R1 h1).imp fun t2 ρ2 G2 H2 s2 R2 h2 u hu => by
    split at h2
    · rename_i x y ex ey
      cases e : g x y with
      | none => rw [e] at h2; exact False.elim h2
      | some z =>
        rw [e] at h2
        refine hs x y z v u G2 H2 _ R2.sub (hv ρ2 G2 H2 x s2 R2 ex) (hu ρ2 G2 H2 y .refl R2 ey) e fun w G' H' N hw => ?_
        have R' := N.rep R2
        have S' := N.stp R2
        cases z with
        | bl k =>
          cases hw
          refine ⟨k, rfl, ?_⟩
          cases k with
          | true =>
            rw [if_pos rfl]
            refine ⟨ρ2, G', R', (Go.bind R' (Go.shift R2 S' h2)).imp fun t3 ρ3 G3 H3 s3 R3 h3 w' hw' => ?_⟩
            split at h3
            · rename_i y' z ey' ez
              cases e' : g' y' z with
              | none => rw [e'] at h3; exact False.elim h3
              | some z' =>
                rw [e'] at h3
                exact hs' y' z z' u w' G3 H3 Q R3.sub (hu ρ3 G3 H3 y' (S'.trans R2 s3) R3 ey') (hw' ρ3 G3 H3 z .refl R3 ez) e' fun w G' H' N hw => h3 G' H' (N.stp R3) (N.rep R3) w hw
            · exact False.elim h3
          | false =>
            rw [if_neg Bool.false_ne_true]
            exact h2 G' H' S' R' _ (.bl false)
        | _ => exact False.elim h2
    · exact False.elim h2⟩⟩
theorem de_chain {op op' : CmpOp} {r r' : R2} {g g' : D → D → Option D} {f1 f2 f3 : DEnv → R Th} (ho : OpR X (compareOp op) r) (ho' : OpR X (compareOp op') r') (hs : OpS X.K r g) (hs' : OpS X.K r' g') (h1 : DO X W a f1) (h2 : DO X W b f2) (h3 : DO X W c f3)
    (hm : lastMarks [op, op'] [b, c] = false := by with_unfolding_all rfl) : DE X W (.Compare a [op, op'] [b, c] pos) (dChain g g' f1 f2 f3) := pe_imp (pe_chain ho ho' h1 h2 h3 hm) (tchain hs hs')
theorem dt_chain {op op' : CmpOp} {r r' : R2} {g g' : D → D → Option D} {f1 f2 f3 : DEnv → R Th} (ho : OpR X (compareOp op) r) (ho' : OpR X (compareOp op') r') (hs : OpS X.K r g) (hs' : OpS X.K r' g') (h1 : DO X W a f1) (h2 : DO X W b f2) (h3 : DO X W c f3)
    (hm : lastMarks [op, op'] [b, c] = false := by with_unfolding_all rfl) : DT X W (.Compare a [op, op'] [b, c] pos) (dTst (dChain g g' f1 f2 f3)) :=
  pt_imp (pt_chain ho ho' h1 h2 h3 hm) fun σ H Q h => by
    obtain ⟨ρ, G, R, h⟩ := ttst σ H Q h
    exact tchain hs hs' σ H _ ⟨ρ, G, R, h⟩
/-! ### displays -/
def dTup (f : DEnv → R (List D)) : DEnv → R D := fun ρ => (f ρ).bind fun l ρ' => if l.length ≤ 1000 then .ok ρ' (.tup l) else .no
def dLst (f : DEnv → R (List D)) : DEnv → R D := fun ρ => (f ρ).bind fun l ρ' => if l.length ≤ 1000 then .ok ρ' (.lst l) else .no
theorem de_tup {es : List Expr} {k : Nat} {f : DEnv → R (List D)} (h : DVs X W es f) : DE X W (.Tuple es k pos) (dTup f) := pe_imp (pe_tup h) fun σ H Q ⟨ρ, G, R, h⟩ => ⟨ρ, G, R, (Go.bind R h).imp fun l ρ' G' H' s R' h vs hv => by
    split at h
    · rename_i hl
      refine ⟨Evl.sz_of (by rw [← hv.length]; omega), fun p hp => ?_⟩
      have N : New G' H' (upd G' p (.tup vs)) (upd H' p (.tup vs)) := New.put R'.sub hp
      exact h _ _ (N.stp R') (N.rep R') _ (.tup (Evl.st_of upd_same) (hv.mono N.g))
    · exact False.elim h⟩
/-- a fresh list, as readings have it -/
theorem fresh_lst {K : PySem.W.Frag} {ρ0 ρ : DEnv} {σ : Sl} {G0 H0 G H : Hp} {l : List D} {vs : List V} {Q : VK} (R0 : Rep K G0 H0 ρ0 σ) (s : Stp ρ0 σ G0 H0 ρ σ G H) (R : Rep K G H ρ σ)
    (h : ∀ G' H', Stp ρ0 σ G0 H0 ρ σ G' H' → Rep K G' H' ρ σ → ∀ a, G' a = none → ¬ Mu false ρ σ a → ¬ Mu true ρ σ a → H0 a = none → Cont K G' H' a (.lst l) → Q (.ref a) H') (hv : Iss K G l vs) (p : Addr) (hp : H p = none) : Q (.ref p) (upd H p (.lst vs)) := by
  have N : New G H G (upd H p (.lst vs)) := New.hid R.sub hp
  have no : ∀ b, ¬ Mu b ρ σ p := fun b ⟨i, d, e1, e2⟩ => by
    obtain ⟨a, e3, _, e4⟩ := R.mu i b d e1
    rw [e2] at e3; cases e3
    obtain ⟨o, ho⟩ := e4.there
    rw [hp] at ho; cases ho
  exact h _ _ (s.trans R0 (N.stp R)) (N.rep R) p (sub_none R.sub hp) (no false) (no true) (s.t p hp) ⟨vs, upd_same, hv⟩
theorem df_lst {es : List Expr} {f : DEnv → R (List D)} (h : DVs X W es f) : DF' X W (.List es pos) (dLst f) := pe_imp (pe_lst h) fun σ H Q ⟨ρ, G, R, h⟩ => ⟨ρ, G, R, by
    cases e1 : f ρ with
    | no =>
      have h2 : dLst f ρ = .no := by unfold dLst; rw [e1]; rfl
      rw [h2] at h; exact h
    | ex ρ' ee =>
      have h2 : dLst f ρ = .ex ρ' ee := by unfold dLst; rw [e1]; rfl
      rw [h2] at h; exact h
    | ok ρ' l =>
      have h2 : dLst f ρ = if l.length ≤ 1000 then .ok ρ' (.lst l) else .no := by unfold dLst; rw [e1]; rfl
      rw [h2] at h
      intro G' H' s R' vs hv
      split at h
      · rename_i hl
        refine ⟨Evl.sz_of (by rw [← hv.length]; omega), fun p hp => ?_⟩
        exact fresh_lst R s R' (fun G' H' s R q1 q2 q3 q4 q5 q6 => h G' H' s R q1 q2 q3 q4 q5 q6) hv p hp
      · exact False.elim h⟩
/-! ### items and slices -/
def ixD (x y : D) : Option D := match x, y with
  | .lst l, .int i => atI l i
  | .tup l, .int i => atI l i
  | .fro l, .int i => atI l i
  | _, _ => none
theorem atI_iss {K : PySem.W.Frag} {G : Hp} {l : List D} {xs : List V} {i : Int} {d : D} (r : Iss K G l xs) (e : atI l i = some d) : ∃ v, atI xs i = some v ∧ Is K G d v := by
  unfold atI at e ⊢
  rw [← r.length]
  cases q : ixN l.length i with
  | none => rw [q] at e; cases e
  | some j =>
    rw [q] at e
    exact r.get e
def rIx2 (K : PySem.W.Frag) : R2 := fun x y H Q => rIxL K x y H Q ∨ rIxT K x y H Q
theorem ix2 {X : Cx} : IxR X (rIx2 X.K) := ix_list.or ix_tup
theorem ops_ix {K : PySem.W.Frag} : OpS K (rIx2 K) ixD := fun x y z v u G H Q eS hx hy e k => by
  cases y with
  | int i =>
    cases hy
    cases x with
    | lst l =>
      obtain ⟨p, xs, rfl, h1, h2⟩ := hx
      obtain ⟨w, e1, e2⟩ := atI_iss h2 e
      exact .inl ⟨p, xs, i, w, rfl, rfl, Evl.sq_of h1, e1, k w G H (New.refl eS) e2⟩
    | fro l =>
      cases hx with
      | @fro l p xs h1 h2 =>
        obtain ⟨w, e1, e2⟩ := atI_iss h2 e
        exact .inl ⟨p, xs, i, w, rfl, rfl, Evl.ex_l eS h1, e1, k w G H (New.refl eS) e2⟩
    | tup l =>
      cases hx with
      | @tup l p xs h1 h2 =>
        obtain ⟨w, e1, e2⟩ := atI_iss h2 e
        exact .inr ⟨p, xs, i, w, rfl, rfl, Evl.ex_t eS h1, e1, k w G H (New.refl eS) e2⟩
    | _ => cases e
  | _ => cases x <;> cases e
theorem de_ix {f1 f2 : DEnv → R Th} (ha : DO X W a f1) (hb : DO X W b f2) (hs : PlainIx b := by exact fun _ _ => rfl) : DE X W (.Subscript a b pos) (dBin ixD f1 f2) := pe_imp (pe_ix ix2 ha hb hs) (tbin ops_ix)
end
end DF

namespace DF
open PySem PySem.Spec PyProof.Rows L2
section
variable {K : PySem.W.Frag} {ρ : DEnv} {σ : Sl} {G H : Hp} {i : Nat} {b : Bool} {d d1 : D} {a : Addr} {o : HO}
/-- one's own list or dict is changed -/
theorem Rep.chg (R : Rep K G H ρ σ) (e : ρ[i]? = some (some (.mu b d))) (ea : σ[i]? = some (some (.ref a))) (c : Cont K G (upd H a o) a d1) :
    Stp ρ σ G H (ρ.set i (some (.mu b d1))) σ G (upd H a o) ∧ Rep K G (upd H a o) (ρ.set i (some (.mu b d1))) σ := by
  obtain ⟨a', e1, e2, e3⟩ := R.mu i b d e
  rw [ea] at e1; cases e1
  have hl : i < ρ.length := (List.getElem?_eq_some_iff.mp e).1
  have mu : ∀ (j : Nat) (c : Bool) (d' : D), (ρ.set i (some (.mu b d1)))[j]? = some (some (.mu c d')) → ∃ d'', ρ[j]? = some (some (.mu c d'')) := fun j c d' q => by
    rcases set_get q with ⟨z, y⟩ | ⟨_, z⟩
    · subst z; cases y; exact ⟨d, e⟩
    · exact ⟨d', z⟩
  refine ⟨⟨fun _ _ q => q, fun c u n1 n2 q => ?_, fun c q => ?_, fun c q1 q2 => absurd q1 q2, fun c ⟨j, d', q1, q2⟩ => ?_, fun j => ⟨fun d' q => ?_, fun d' q => mu j true d' q⟩⟩, ⟨fun c u q => ?_, by rw [List.length_set]; exact R.len, fun j d' q => ?_, fun j c' d' q => ?_, fun j k b' c' x y a' q1 q2 q3 q4 => ?_⟩⟩
  · have n : c ≠ a := fun z => by
      subst z
      cases b with
      | false => exact n1 ⟨i, d, e, ea⟩
      | true => exact n2 ⟨i, d, e, ea⟩
    rw [upd_ne n]; exact q
  · by_cases z : c = a
    · subst z; rw [upd_same] at q; cases q
    · rw [upd_ne z] at q; exact q
  · obtain ⟨d'', z⟩ := mu j false d' q1
    exact .inl ⟨j, d'', z, q2⟩
  · by_cases z : i = j
    · subst z
      rw [e] at q; cases q
      exact ⟨d1, List.getElem?_set_self hl, rfl⟩
    · exact ⟨d', by rw [List.getElem?_set_ne z]; exact q, rfl⟩
  · have n : c ≠ a := fun z => by subst z; rw [e2] at q; cases q
    rw [upd_ne n]; exact R.sub c u q
  · rcases set_get q with ⟨_, y⟩ | ⟨_, z⟩
    · cases y
    · exact R.vl j d' z
  · rcases set_get q with ⟨z, y⟩ | ⟨n, z⟩
    · subst z; cases y
      exact ⟨a, ea, e2, c⟩
    · obtain ⟨a2, z1, z2, z3⟩ := R.mu j c' d' z
      have na : a2 ≠ a := fun y => by subst y; exact n (R.ap i j b c' d d' a2 e z ea z1)
      exact ⟨a2, z1, z2, z3.mono (fun _ _ q => q) fun u q => by rw [upd_ne na]; exact q⟩
  · obtain ⟨x', z1⟩ := mu j b' x q1
    obtain ⟨y', z2⟩ := mu k c' y q2
    exact R.ap j k b' c' x' y' a' z1 z2 q3 q4
end
section
variable {X : Cx} {W : WX} {i : Nat} {o e k : Expr} {pos p1 p2 p3 : Pos} {f : DEnv → R D}
def muL (i : Nat) (ρ : DEnv) : Option (Bool × List D) := match ρ[i]? with
  | some (some (.mu b (.lst l))) => some (b, l)
  | _ => none
theorem muL_of {ρ : DEnv} {b : Bool} {l : List D} (h : muL i ρ = some (b, l)) : ρ[i]? = some (some (.mu b (.lst l))) := by
  unfold muL at h
  split at h
  · rename_i b' l' e; cases h; exact e
  · cases h
/-- x.append(e) -/
def dApp (i : Nat) (f : DEnv → R D) : DEnv → SR := fun ρ => match muL i ρ with
  | none => .no
  | some _ => (f ρ).bindS fun d ρ' => match muL i ρ' with
    | none => .no
    | some (b, l) => if l.length < 16000000 then .nx (ρ'.set i (some (.mu b (.lst (l ++ [d]))))) else .no
theorem ds_app (ho : PE X o (tVar i)) (he : DE X W e f) (hs : swapsWith (.Call (.Attribute o "append" p1) [e] [] p2) none pos.line X.env = pure false := by rfl)
    (hbase : attributeBase o "append" X.env (eval o X.env) = eval o X.env := by rfl)
    (hfew : ((backTo p2 (starEach [e] X.env)).all (fun x => !x.1) && (backToKw p2 (keywordEach [] X.env)).all (fun x => x.1.isSome) && decide ([e].length + ([] : List Keyword).length + (if ([] : List Keyword).isEmpty then 0 else 1) < 30)) = true := by rfl)
    (hline : (p1.endLine == p2.line) = true := by rfl) (hst : starEach [e] X.env = (false, eval e X.env) :: starEach [] X.env := by rfl) (hplain : (backTo p2 (starEach [] X.env)).any (·.1) = false := by rfl) :
    DS X W (.Expr (.Call (.Attribute o "append" p1) [e] [] p2) pos) (dApp i f) :=
  ps_imp (ps_expr (pe_bm PySem.F.plainAttrs_list PySem.F.slot_list_append PySem.F.type_list_append mt_append ho (pa_cons he pa_nil hst) hbase hfew hline hst hplain) hs) fun E σ H ⟨ρ, G, R, h⟩ => by
    unfold dApp at h
    split at h
    · exact False.elim h
    · rename_i q e1
      obtain ⟨b, l⟩ := q
      have e1 := muL_of e1
      obtain ⟨a, ea, e2, xs, e3, e4⟩ := R.mu i b _ e1
      refine ⟨.ref a, ea, .inl ⟨rfl, xs, Evl.sq_of e3⟩, ρ, G, R, (Go.bindS R h).imp fun d ρ' G' H' s R' h v hv => ?_⟩
      split at h
      · exact False.elim h
      · rename_i b' l' e5
        have e5 := muL_of e5
        obtain ⟨a', ea', e6, ys, e7, e8⟩ := R'.mu i b' _ e5
        rw [ea] at ea'; cases ea'
        split at h
        · rename_i hl
          refine ⟨a, ys, v, rfl, rfl, e7, by rw [← e8.length, sizeLine_eq]; omega, ?_⟩
          obtain ⟨s2, R2⟩ := R'.chg (o := .lst (ys ++ [v])) (d1 := .lst (l' ++ [d])) e5 ea ⟨_, upd_same, e8.append (.cons hv .nil)⟩
          exact h σ G' _ s2 R2
        · exact False.elim h
/-- x[k] = e -/
def dSetI (i : Nat) (fk f : DEnv → R D) : DEnv → SR := fun ρ => (f ρ).bindS fun d ρ1 => match muL i ρ1 with
  | none => .no
  | some _ => (fk ρ1).bindS fun k ρ2 => match muL i ρ2, k with
    | some (b, l), .int n => match ixN l.length n with
      | none => .no
      | some j => .nx (ρ2.set i (some (.mu b (.lst (l.set j d)))))
    | _, _ => .no
theorem ds_seti {fk : DEnv → R D} (ho : PE X o (tVar i)) (hk : DE X W k fk) (he : DE X W e f) (hs : swapsWithSole [.Subscript o k p1] e pos.line X.env = pure false := by rfl) (hw : swappedStores [.Subscript o k p1] e X.env = pure none := by rfl)
    (h1 : (assignEach [.Subscript o k p1] X.env).map (·.2) = [assign (.Subscript o k p1) X.env] := by rfl)
    (ha : ∀ v, assign (.Subscript o k p1) X.env v = (do
      let ov ← holding [v] (eval o X.env)
      let iv ← holding [v, ov] (eval k X.env)
      standAt p1
      holding [v, ov, iv] (setItem ov iv v)
      release [v, ov, iv] []) := by intro _; rfl) : DS X W (.Assign [.Subscript o k p1] e pos) (dSetI i fk f) :=
  ps_imp (ps_asg he (pg_sub ho hk set_list ha) hs hw h1) fun E σ H ⟨ρ, G, R, h⟩ => ⟨ρ, G, R, (Go.bindS R h).imp fun d ρ1 G1 H1 s1 R1 h v hv => by
    split at h
    · exact False.elim h
    · rename_i q e1
      obtain ⟨b, l⟩ := q
      have e1 := muL_of e1
      obtain ⟨a, ea, e2, xs, e3, e4⟩ := R1.mu i b _ e1
      refine ⟨.ref a, ea, ρ1, G1, R1, (Go.bindS R1 h).imp fun kd ρ2 G2 H2 s2 R2 h kv hkv => ?_⟩
      split at h
      · rename_i b' l' n e5
        have e5 := muL_of e5
        cases hkv
        obtain ⟨a', ea', e6, ys, e7, e8⟩ := R2.mu i b' _ e5
        rw [ea] at ea'; cases ea'
        split at h
        · exact False.elim h
        · rename_i j ej
          refine ⟨a, ys, n, j, rfl, rfl, e7, by rw [← e8.length]; exact ej, ?_⟩
          obtain ⟨s3, R3⟩ := R2.chg (o := .lst (ys.set j v)) (d1 := .lst (l'.set j d)) e5 ea ⟨_, upd_same, e8.set (hv.mono s2.g) j⟩
          exact h σ G2 _ s3 R3
      · exact False.elim h⟩
end

/-! ### a def's promise over data -/
inductive FRes where
  | no
  | ret (fr : Bool) (d : D) (outs : List D)
  | exc (e : Exc) (outs : List D)
abbrev Fn := List (Bool × D) → FRes
inductive ArgsIs (K : PySem.W.Frag) (G H : Hp) : List (Bool × D) → List V → Prop
  | nil : ArgsIs K G H [] []
  | val {d : D} {v : V} {as : List (Bool × D)} {vs : List V} : Is K G d v → ArgsIs K G H as vs → ArgsIs K G H ((false, d) :: as) (v :: vs)
  | io {d : D} {a : Addr} {as : List (Bool × D)} {vs : List V} : G a = none → Cont K G H a d → ArgsIs K G H as vs → ArgsIs K G H ((true, d) :: as) (.ref a :: vs)
def ioA : List (Bool × D) → List V → List Addr
  | (true, _) :: as, .ref a :: vs => a :: ioA as vs
  | _ :: as, _ :: vs => ioA as vs
  | _, _ => []
inductive OutsIs (K : PySem.W.Frag) (G H : Hp) : List (Bool × D) → List V → List D → Prop
  | nil : OutsIs K G H [] [] []
  | val {d : D} {v : V} {as : List (Bool × D)} {vs : List V} {os : List D} : OutsIs K G H as vs os → OutsIs K G H ((false, d) :: as) (v :: vs) os
  | io {d d' : D} {a : Addr} {as : List (Bool × D)} {vs : List V} {os : List D} : Cont K G H a d' → OutsIs K G H as vs os → OutsIs K G H ((true, d) :: as) (.ref a :: vs) (d' :: os)
structure FStp (io : List Addr) (G H G' H' : Hp) : Prop where
  g : Evl.Ex G G'
  h : ∀ b o, b ∉ io → H b = some o → H' b = some o
  t : ∀ b, H' b = none → H b = none
  n : ∀ b, G b = none → G' b ≠ none → H b = none
  s : Evl.Ex G' H'
def FIs (K : PySem.W.Frag) (G' H' H : Hp) (fr : Bool) (d : D) (v : V) : Prop := match fr with
  | false => Is K G' d v
  | true => ∃ a, v = .ref a ∧ G' a = none ∧ H a = none ∧ Cont K G' H' a d
def spD (K : PySem.W.Frag) (ar : Nat) (F : Fn) : Sp := fun vs H Q E => vs.length = ar ∧ ∃ G as, Evl.Ex G H ∧ ArgsIs K G H as vs ∧ (ioA as vs).Nodup ∧ match F as with
  | .no => False
  | .ret fr d outs => ∀ v G' H', FStp (ioA as vs) G H G' H' → OutsIs K G' H' as vs outs → FIs K G' H' H fr d v → Q v H'
  | .exc e outs => ∀ dd G' H', FStp (ioA as vs) G H G' H' → OutsIs K G' H' as vs outs → EIs K G' H' e dd → E e.cls dd H'
theorem ArgsIs.length {K : PySem.W.Frag} {G H : Hp} : ∀ {as : List (Bool × D)} {vs : List V}, ArgsIs K G H as vs → as.length = vs.length
  | _, _, .nil => rfl
  | _, _, .val _ r => congrArg (· + 1) (ArgsIs.length r)
  | _, _, .io _ _ r => congrArg (· + 1) (ArgsIs.length r)

/-! ### the callee's side -/
def startC (as : List (Bool × D)) : DEnv := as.map fun p => some (if p.1 then .mu true p.2 else .val p.2)
def startE (n : Nat) (as : List (Bool × D)) : DEnv := startC as ++ List.replicate (n - as.length) none
def outs (ρ : DEnv) : Nat → List (Bool × D) → Option (List D)
  | _, [] => some []
  | i, (false, _) :: as => outs ρ (i + 1) as
  | i, (true, _) :: as => match ρ[i]? with
    | some (some (.mu true d)) => match outs ρ (i + 1) as with
      | some l => some (d :: l)
      | none => none
    | _ => none
def fnRes (as : List (Bool × D)) (r : SR) : FRes := match r with
  | .nx ρ => match outs ρ 0 as with
    | some l => .ret false .non l
    | none => .no
  | .ret ρ fr d => match outs ρ 0 as with
    | some l => .ret fr d l
    | none => .no
  | .ex ρ e => match outs ρ 0 as with
    | some l => .exc e l
    | none => .no
  | _ => .no
end DF

namespace DF
open PySem PySem.Spec PyProof.Rows L2
section
variable {K : PySem.W.Frag} {G H G' H' : Hp}
theorem ArgsIs.get : ∀ {as : List (Bool × D)} {vs : List V} {i : Nat} {b : Bool} {d : D}, ArgsIs K G H as vs → as[i]? = some (b, d) → ∃ v, vs[i]? = some v ∧ match b with | false => Is K G d v | true => ∃ a, v = .ref a ∧ G a = none ∧ Cont K G H a d ∧ a ∈ ioA as vs
  | _, _, _, _, _, .nil, e => by simp at e
  | _, _, 0, _, _, .val h _, e => by simp at e; obtain ⟨rfl, rfl⟩ := e; exact ⟨_, rfl, h⟩
  | _, _, 0, _, _, .io h c _, e => by simp at e; obtain ⟨rfl, rfl⟩ := e; exact ⟨_, rfl, _, rfl, h, c, List.mem_cons_self⟩
  | _, _, i + 1, b, d, .val h r, e => by
    obtain ⟨v, e1, e2⟩ := ArgsIs.get (i := i) (b := b) (d := d) r (by simpa using e)
    refine ⟨v, by simpa using e1, ?_⟩
    cases b with
    | false => exact e2
    | true => obtain ⟨a, q1, q2, q3, q4⟩ := e2; exact ⟨a, q1, q2, q3, q4⟩
  | _, _, i + 1, b, d, .io h c r, e => by
    obtain ⟨v, e1, e2⟩ := ArgsIs.get (i := i) (b := b) (d := d) r (by simpa using e)
    refine ⟨v, by simpa using e1, ?_⟩
    cases b with
    | false => exact e2
    | true => obtain ⟨a, q1, q2, q3, q4⟩ := e2; exact ⟨a, q1, q2, q3, List.mem_cons_of_mem _ q4⟩
theorem ArgsIs.inj : ∀ {as : List (Bool × D)} {vs : List V} {i j : Nat} {d e : D} {a : Addr}, ArgsIs K G H as vs → (ioA as vs).Nodup → as[i]? = some (true, d) → as[j]? = some (true, e) → vs[i]? = some (.ref a) → vs[j]? = some (.ref a) → i = j
  | _, _, _, _, _, _, _, .nil, _, h, _, _, _ => by simp at h
  | _, _, 0, 0, _, _, _, _, _, _, _, _, _ => rfl
  | _, _, i + 1, j + 1, _, _, _, .val _ r, nd, h1, h2, h3, h4 => congrArg (· + 1) (ArgsIs.inj r nd (by simpa using h1) (by simpa using h2) (by simpa using h3) (by simpa using h4))
  | _, _, i + 1, j + 1, _, _, _, .io _ _ r, nd, h1, h2, h3, h4 => congrArg (· + 1) (ArgsIs.inj r (List.nodup_cons.mp nd).2 (by simpa using h1) (by simpa using h2) (by simpa using h3) (by simpa using h4))
  | _, _, 0, j + 1, _, _, _, .val _ r, nd, h1, h2, h3, h4 => by simp at h1
  | _, _, 0, j + 1, _, _, a, .io _ _ r, nd, h1, h2, h3, h4 => by
    simp at h3
    obtain ⟨v, e1, a', e2, _, _, e3⟩ := ArgsIs.get (i := j) r (by simpa using h2)
    have z : some v = some (V.ref a) := e1.symm.trans (by simpa using h4)
    cases z
    cases e2
    rw [← h3] at e3
    exact absurd e3 (List.nodup_cons.mp nd).1
  | _, _, i + 1, 0, _, _, _, .val _ r, nd, h1, h2, h3, h4 => by simp at h2
  | _, _, i + 1, 0, _, _, a, .io _ _ r, nd, h1, h2, h3, h4 => by
    simp at h4
    obtain ⟨v, e1, a', e2, _, _, e3⟩ := ArgsIs.get (i := i) r (by simpa using h1)
    have z : some v = some (V.ref a) := e1.symm.trans (by simpa using h3)
    cases z
    cases e2
    rw [← h4] at e3
    exact absurd e3 (List.nodup_cons.mp nd).1
theorem startC_get {as : List (Bool × D)} {i : Nat} {c : Cell} {n : Nat} (h : (startE n as)[i]? = some (some c)) : ∃ b d, as[i]? = some (b, d) ∧ c = if b then .mu true d else .val d := by
  unfold startE startC at h
  by_cases hi : i < as.length
  · rw [List.getElem?_append_left (by rw [List.length_map]; exact hi), List.getElem?_map] at h
    cases e : as[i]? with
    | none => rw [e] at h; cases h
    | some p =>
      rw [e] at h
      obtain ⟨b, d⟩ := p
      exact ⟨b, d, rfl, (Option.some.inj (Option.some.inj h)).symm⟩
  · rw [List.getElem?_append_right (by rw [List.length_map]; omega), List.getElem?_replicate] at h
    split at h <;> cases h
theorem start_get {N : List Str} {vs : List V} {i : Nat} {v : V} (h : vs[i]? = some v) : (L2.start N vs)[i]? = some (some v) := by
  unfold L2.start
  have hi : i < vs.length := (List.getElem?_eq_some_iff.mp h).1
  rw [List.getElem?_append_left (by rw [List.length_map]; exact hi), List.getElem?_map, h]
  rfl
theorem Rep.start {N : List Str} {as : List (Bool × D)} {vs : List V} (eS : Evl.Ex G H) (ha : ArgsIs K G H as vs) (nd : (ioA as vs).Nodup) : Rep K G H (startE N.length as) (L2.start N vs) where
  sub := eS
  len := by
    unfold startE startC L2.start
    rw [List.length_append, List.length_append, List.length_map, List.length_map, List.length_replicate, List.length_replicate, ha.length]
  vl := fun i d e => by
    obtain ⟨b, d', e1, e2⟩ := startC_get e
    cases b with
    | true => cases e2
    | false =>
      cases e2
      obtain ⟨v, e3, e4⟩ := ha.get e1
      exact ⟨v, start_get e3, e4⟩
  mu := fun i b d e => by
    obtain ⟨b', d', e1, e2⟩ := startC_get e
    cases b' with
    | false => cases e2
    | true =>
      cases e2
      obtain ⟨v, e3, a, rfl, e5, e6, e7⟩ := ha.get e1
      exact ⟨a, start_get e3, e5, e6⟩
  ap := fun i j b c d e a q1 q2 q3 q4 => by
    obtain ⟨b1, d1, e1, f1⟩ := startC_get q1
    obtain ⟨b2, d2, e2, f2⟩ := startC_get q2
    cases b1 with
    | false => cases f1
    | true =>
      cases b2 with
      | false => cases f2
      | true =>
        obtain ⟨v1, g1, _⟩ := ha.get e1
        obtain ⟨v2, g2, _⟩ := ha.get e2
        rw [start_get g1] at q3; cases q3
        rw [start_get g2] at q4; cases q4
        exact ha.inj nd e1 e2 g1 g2
theorem mu_start {N : List Str} {as : List (Bool × D)} {vs : List V} {b : Bool} {a : Addr} (ha : ArgsIs K G H as vs) (m : Mu b (startE N.length as) (L2.start N vs) a) : b = true ∧ a ∈ ioA as vs := by
  obtain ⟨i, d, e1, e2⟩ := m
  obtain ⟨b', d', e3, e4⟩ := startC_get e1
  cases b' with
  | false => cases e4
  | true =>
    cases e4
    obtain ⟨v, e5, a', rfl, _, _, e6⟩ := ha.get e3
    rw [start_get e5] at e2
    cases e2
    exact ⟨rfl, e6⟩
theorem outs_is {ρ' : DEnv} {σ' : Sl} (R' : Rep K G' H' ρ' σ') : ∀ {as : List (Bool × D)} {vs : List V} {i : Nat} {l : List D}, ArgsIs K G H as vs → (∀ j a, as[j]? ≠ none → vs[j]? = some (.ref a) → (∃ d, as[j]? = some (true, d)) → σ'[i + j]? = some (some (.ref a))) → outs ρ' i as = some l → OutsIs K G' H' as vs l
  | _, _, _, l, .nil, _, e => by cases e; exact .nil
  | (false, d) :: as, _, i, l, .val h r, hs, e => .val (outs_is R' (i := i + 1) r (fun j a q1 q2 q3 => by have z := hs (j + 1) a (by simpa using q1) (by simpa using q2) (by simpa using q3); rw [← z]; congr 1; omega) e)
  | (true, d) :: as, .ref a :: vs, i, l, .io h c r, hs, e => by
    unfold outs at e
    split at e
    · rename_i d' e1
      split at e
      · rename_i l' e2
        cases e
        obtain ⟨a', q1, q2, q3⟩ := R'.mu i true d' e1
        have z := hs 0 a (by simp) (by simp) ⟨d, by simp⟩
        rw [show i + 0 = i from rfl, q1] at z
        cases z
        exact .io q3 (outs_is R' (i := i + 1) r (fun j a q1 q2 q3 => by have z := hs (j + 1) a (by simpa using q1) (by simpa using q2) (by simpa using q3); rw [← z]; congr 1; omega) e2)
      · cases e
    · cases e
end
section
variable {P : Program} {w : World} {K : PySem.W.Frag} {mg : Str → Option Value} {base : Heap}
/-- a def by its body -/
theorem fn_D {x qual : Str} {st : Stmt} {f : Addr} {fd : FuncData} {N ps : List Str} {k : Nat} {F : Fn} (Fu : Fun K x qual st f fd) (S : FnScope N ps (defScope st)) (B : Nat → DEnv → SR)
    (hB : ∀ (n : Nat) (cdv : Value) (A : Around) (outer : List Env) (s : Shared) (H : Hp) (E : XK), Room k (A.deeper (envOfC qual (defScope st) s.heap.objs.size f cdv)) →
      DSs (cxOf (L2.CX P w) P w K mg base N qual (defScope st) f cdv A outer s H E) (fun cls d _ H => E cls d H) (defBody st) (B n))
    (hF : ∀ as, as.length = ps.length → F as ≠ .no → ∃ n, fnRes as (B n (startE N.length as)) = F as) : FnOk P w K mg base (L2.CX P w) (k + 1) f fd ps (spD K ps.length F) := by
  refine Fu.okX S (fun vs H Q E h => h.1) fun cdv A outer s H vs Q E hr ⟨hl, G, as, eS, ha, nd, hm⟩ => ?_
  have hne : F as ≠ .no := fun z => by rw [z] at hm; exact hm
  obtain ⟨n, hn⟩ := hF as (ha.length.trans hl) hne
  refine ⟨_, hB n cdv A outer s H E hr, startE N.length as, G, Rep.start eS ha nd, ?_⟩
  rw [← hn] at hm
  have fst : ∀ {ρ' : DEnv} {σ' : Sl} {G' H' : Hp}, Stp (startE N.length as) (L2.start N vs) G H ρ' σ' G' H' → Rep K G' H' ρ' σ' → FStp (ioA as vs) G H G' H' := fun {ρ' σ' G' H'} s R' =>
    ⟨s.g, fun b o n1 q => s.h b o (fun m => absurd (mu_start ha m).1 (by decide)) (fun m => n1 (mu_start ha m).2) q, s.t, fun b q1 q2 => (s.n b q1 q2).elim id fun m => absurd (mu_start ha m).1 (by decide), R'.sub⟩
  have out : ∀ {ρ' : DEnv} {σ' : Sl} {G' H' : Hp} {l : List D}, Stp (startE N.length as) (L2.start N vs) G H ρ' σ' G' H' → Rep K G' H' ρ' σ' → outs ρ' 0 as = some l → OutsIs K G' H' as vs l := fun {ρ' σ' G' H' l} s R' e =>
    outs_is R' ha (fun j a q1 q2 ⟨d, q3⟩ => by
      have hs : (startE N.length as)[j]? = some (some (.mu true d)) := by
        unfold startE startC
        have hj : j < as.length := (List.getElem?_eq_some_iff.mp q3).1
        rw [List.getElem?_append_left (by rw [List.length_map]; exact hj), List.getElem?_map, q3]
        rfl
      obtain ⟨d', _, z⟩ := (s.io j).1 d hs
      rw [Nat.zero_add, z]
      exact start_get q2) e
  cases hr : B n (startE N.length as) with
  | no => rw [hr] at hm; exact hm
  | brk _ => rw [hr] at hm; exact (show False from hm).elim
  | cnt _ => rw [hr] at hm; exact (show False from hm).elim
  | nx ρ' =>
    rw [hr] at hm
    unfold fnRes at hm
    dsimp only at hm
    cases eo : outs ρ' 0 as with
    | none => rw [eo] at hm; exact False.elim hm
    | some l =>
      rw [eo] at hm
      exact fun σ' G' H' s R' => hm .non G' H' (fst s R') (out s R' eo) .non
  | ret ρ' fr d =>
    rw [hr] at hm
    unfold fnRes at hm
    dsimp only at hm
    cases eo : outs ρ' 0 as with
    | none => rw [eo] at hm; exact False.elim hm
    | some l =>
      rw [eo] at hm
      refine fun v σ' G' H' s R' q => hm v G' H' (fst s R') (out s R' eo) ?_
      cases fr with
      | false => exact q
      | true =>
        obtain ⟨a, q1, q2, q3, q4⟩ := q
        exact ⟨a, q1, q2, q3.elim (fun m => (s.ow a m).elim (fun m => absurd (mu_start ha m).1 (by decide)) id) id, q4⟩
  | ex ρ' e =>
    rw [hr] at hm
    unfold fnRes at hm
    dsimp only at hm
    cases eo : outs ρ' 0 as with
    | none => rw [eo] at hm; exact False.elim hm
    | some l =>
      rw [eo] at hm
      exact fun d σ' G' H' s R' q => hm d G' H' (fst s R') (out s R' eo) q
end

/-! ### the caller's side -/
inductive AD where
  | v (d : D)
  | io (i : Nat)
inductive ArI (K : PySem.W.Frag) (σ : Sl) (G : Hp) : List AD → List V → Prop
  | nil : ArI K σ G [] []
  | val {d : D} {v : V} {l : List AD} {vs : List V} : Is K G d v → ArI K σ G l vs → ArI K σ G (.v d :: l) (v :: vs)
  | io {i : Nat} {v : V} {l : List AD} {vs : List V} : σ[i]? = some (some v) → ArI K σ G l vs → ArI K σ G (.io i :: l) (v :: vs)
theorem ArI.mono {K : PySem.W.Frag} {σ : Sl} {G G' : Hp} (e : Evl.Ex G G') : ∀ {l : List AD} {vs : List V}, ArI K σ G l vs → ArI K σ G' l vs
  | _, _, .nil => .nil
  | _, _, .val h r => .val (h.mono e) (ArI.mono e r)
  | _, _, .io h r => .io h (ArI.mono e r)
def tAr (K : PySem.W.Frag) (W : WX) (f : DEnv → R (List AD)) : TA := fun σ H Q => ∃ ρ G, Rep K G H ρ σ ∧ Go K W σ ρ G H (fun l _ G' H' => ∀ vs, ArI K σ G' l vs → Q vs H') (f ρ)
abbrev DR (X : Cx) (W : WX) (es : List Expr) (f : DEnv → R (List AD)) : Prop := PA X es (tAr X.K W f)
def rNil : DEnv → R (List AD) := fun ρ => .ok ρ []
def rVal (f : DEnv → R D) (g : DEnv → R (List AD)) : DEnv → R (List AD) := fun ρ => (f ρ).bind fun d ρ1 => (g ρ1).bind fun l ρ2 => .ok ρ2 (.v d :: l)
def isMu (ρ : DEnv) (i : Nat) : Bool := match ρ[i]? with
  | some (some (.mu _ _)) => true
  | _ => false
def rIo (i : Nat) (g : DEnv → R (List AD)) : DEnv → R (List AD) := fun ρ => if isMu ρ i = true then (g ρ).bind fun l ρ2 => .ok ρ2 (.io i :: l) else .no
section
variable {X : Cx} {W : WX} {e : Expr} {es : List Expr}
theorem dr_nil : DR X W [] rNil := pa_imp pa_nil fun σ H Q ⟨ρ, G, R, h⟩ => h G H .refl R [] .nil
theorem dr_val {f : DEnv → R D} {g : DEnv → R (List AD)} (h1 : DE X W e f) (h2 : DR X W es g) (hs : starEach (e :: es) X.env = (false, eval e X.env) :: starEach es X.env := by rfl) : DR X W (e :: es) (rVal f g) :=
  pa_imp (pa_cons h1 h2 hs) fun σ H Q ⟨ρ, G, R, h⟩ => ⟨ρ, G, R, (Go.bind R h).imp fun t ρ1 G1 H1 s1 R1 h1 v hv =>
    ⟨ρ1, G1, R1, (Go.bind R1 h1).imp fun l ρ2 G2 H2 s2 R2 h2 vs hvs => h2 G2 H2 .refl R2 (v :: vs) (.val (hv.mono s2.g) hvs)⟩⟩
theorem dr_io {i : Nat} {g : DEnv → R (List AD)} (h1 : PE X e (tVar i)) (h2 : DR X W es g) (hs : starEach (e :: es) X.env = (false, eval e X.env) :: starEach es X.env := by rfl) : DR X W (e :: es) (rIo i g) :=
  pa_imp (pa_cons h1 h2 hs) fun σ H Q ⟨ρ, G, R, h⟩ => by
    unfold rIo at h
    split at h
    · rename_i hm
      unfold isMu at hm
      split at hm
      · rename_i b d e1
        obtain ⟨a, e2, _⟩ := R.mu i b d e1
        exact ⟨_, e2, ρ, G, R, (Go.bind R h).imp fun l ρ2 G2 H2 s2 R2 h2 vs hvs => h2 G2 H2 .refl R2 (.ref a :: vs) (.io e2 hvs)⟩
      · cases hm
    · exact False.elim h
end
def argsD (ρ : DEnv) : List AD → Option (List (Bool × D))
  | [] => some []
  | .v d :: l => match argsD ρ l with
    | some r => some ((false, d) :: r)
    | none => none
  | .io i :: l => match ρ[i]? with
    | some (some (.mu _ d)) => match argsD ρ l with
      | some r => some ((true, d) :: r)
      | none => none
    | _ => none
def ioIx : List AD → List Nat
  | [] => []
  | .v _ :: l => ioIx l
  | .io i :: l => i :: ioIx l
def putD (ρ : DEnv) : List AD → List D → Option DEnv
  | [], [] => some ρ
  | .v _ :: l, os => putD ρ l os
  | .io i :: l, d :: os => match ρ[i]? with
    | some (some (.mu b _)) => putD (ρ.set i (some (.mu b d))) l os
    | _ => none
  | _, _ => none
section
variable {K : PySem.W.Frag} {σ : Sl} {ρ ρ2 : DEnv} {G H G' H' : Hp}
theorem argsD_is (R : Rep K G H ρ σ) : ∀ {l : List AD} {vs : List V} {as : List (Bool × D)}, ArI K σ G l vs → argsD ρ l = some as → ArgsIs K G H as vs
  | _, _, as, .nil, e => by cases e; exact .nil
  | .v d :: l, _, as, .val h r, e => by
    unfold argsD at e
    split at e
    · rename_i r' e1; cases e; exact .val h (argsD_is R r e1)
    · cases e
  | .io i :: l, _, as, .io h r, e => by
    unfold argsD at e
    split at e
    · rename_i b d e1
      split at e
      · rename_i r' e2
        cases e
        obtain ⟨a, q1, q2, q3⟩ := R.mu i b d e1
        rw [h] at q1; cases q1
        exact .io q2 q3 (argsD_is R r e2)
      · cases e
    · cases e
theorem ioA_mem (R : Rep K G H ρ σ) : ∀ {l : List AD} {vs : List V} {as : List (Bool × D)} {a : Addr}, ArI K σ G l vs → argsD ρ l = some as → (a ∈ ioA as vs ↔ ∃ i ∈ ioIx l, σ[i]? = some (some (.ref a)))
  | _, _, as, a, .nil, e => by cases e; simp [ioA, ioIx]
  | .v d :: l, _, as, a, .val h r, e => by
    unfold argsD at e
    split at e
    · rename_i r' e1; cases e; have ih := ioA_mem (a := a) R r e1; exact ih
    · cases e
  | .io i :: l, _, as, a, .io h r, e => by
    unfold argsD at e
    split at e
    · rename_i b d e1
      split at e
      · rename_i r' e2
        cases e
        obtain ⟨a', q1, q2, q3⟩ := R.mu i b d e1
        rw [h] at q1; cases q1
        have ih := ioA_mem R (a := a) r e2
        unfold ioA ioIx
        rw [List.mem_cons, ih]
        constructor
        · rintro (rfl | ⟨j, q, z⟩)
          · exact ⟨i, List.mem_cons_self, h⟩
          · exact ⟨j, List.mem_cons_of_mem _ q, z⟩
        · rintro ⟨j, q, z⟩
          rcases List.mem_cons.mp q with rfl | q
          · rw [h] at z; cases z; exact .inl rfl
          · exact .inr ⟨j, q, z⟩
      · cases e
    · cases e
theorem ioA_nodup (R : Rep K G H ρ σ) : ∀ {l : List AD} {vs : List V} {as : List (Bool × D)}, ArI K σ G l vs → argsD ρ l = some as → (ioIx l).Nodup → (ioA as vs).Nodup
  | _, _, as, .nil, e, _ => by cases e; exact List.nodup_nil
  | .v d :: l, _, as, .val h r, e, nd => by
    unfold argsD at e
    split at e
    · rename_i r' e1; cases e; have ih := ioA_nodup R r e1 nd; exact ih
    · cases e
  | .io i :: l, _, as, .io h r, e, nd => by
    unfold argsD at e
    split at e
    · rename_i b d e1
      split at e
      · rename_i r' e2
        cases e
        obtain ⟨a', q1, q2, q3⟩ := R.mu i b d e1
        rw [h] at q1; cases q1
        refine List.nodup_cons.mpr ⟨fun m => ?_, ioA_nodup R r e2 (List.nodup_cons.mp nd).2⟩
        obtain ⟨j, q, z⟩ := (ioA_mem R r e2).mp m
        have mj : ∃ b' d', ρ[j]? = some (some (.mu b' d')) := by
          have key : ∀ {l : List AD} {as : List (Bool × D)}, argsD ρ l = some as → j ∈ ioIx l → ∃ b' d', ρ[j]? = some (some (.mu b' d')) := by
            intro l
            induction l with
            | nil => intro as _ m; simp [ioIx] at m
            | cons y l ih =>
              intro as e m
              cases y with
              | v d =>
                unfold argsD at e
                split at e
                · rename_i r' e1; exact ih e1 m
                · cases e
              | io k =>
                unfold argsD at e
                split at e
                · rename_i b d e1
                  split at e
                  · rename_i r' e2
                    rcases List.mem_cons.mp (show j ∈ k :: ioIx l from m) with rfl | m
                    · exact ⟨b, d, e1⟩
                    · exact ih e2 m
                  · cases e
                · cases e
          exact key e2 q
        obtain ⟨b', d', ej⟩ := mj
        have ij : i = j := R.ap i j b b' d d' _ e1 ej h z
        subst ij
        exact (List.nodup_cons.mp nd).1 q
      · cases e
    · cases e
/-- what became of a slot -/
def Chg (K : PySem.W.Frag) (σ : Sl) (G' H' : Hp) (L : List Nat) (ρ ρ2 : DEnv) (j : Nat) : Prop :=
  (j ∈ L ∧ ∃ b d d' a, ρ[j]? = some (some (.mu b d)) ∧ ρ2[j]? = some (some (.mu b d')) ∧ σ[j]? = some (some (.ref a)) ∧ Cont K G' H' a d') ∨ (j ∉ L ∧ ρ2[j]? = ρ[j]?)
theorem putD_chg : ∀ {l : List AD} {vs : List V} {as : List (Bool × D)} {os : List D} {ρ ρ1 ρ2 : DEnv}, ArI K σ G l vs → argsD ρ1 l = some as → OutsIs K G' H' as vs os → (ioIx l).Nodup → putD ρ l os = some ρ2 → ρ2.length = ρ.length ∧ ∀ j, Chg K σ G' H' (ioIx l) ρ ρ2 j
  | _, _, as, os, ρ, ρ1, ρ2, .nil, e, o, nd, p => by
    cases e
    cases o
    cases p
    exact ⟨rfl, fun j => .inr ⟨by simp [ioIx], rfl⟩⟩
  | .v d :: l, _, as, os, ρ, ρ1, ρ2, .val h r, e, o, nd, p => by
    unfold argsD at e
    split at e
    · rename_i r' e1
      cases e
      cases o with
      | val o =>
        unfold putD at p
        have ih := putD_chg r e1 o nd p
        exact ih
    · cases e
  | .io i :: l, _, as, os, ρ, ρ1, ρ2, .io h r, e, o, nd, p => by
    unfold argsD at e
    split at e
    · rename_i b1 d1 e1
      split at e
      · rename_i r' e2
        cases e
        cases o with
        | @io d0 d' a as vs os c o =>
          unfold putD at p
          split at p
          · rename_i b d e3
            obtain ⟨hl, hc⟩ := putD_chg r e2 o (List.nodup_cons.mp nd).2 p
            have hi : i < ρ.length := (List.getElem?_eq_some_iff.mp e3).1
            refine ⟨by rw [hl, List.length_set], fun j => ?_⟩
            rcases hc j with ⟨m, b', d2, d3, a2, q1, q2, q3, q4⟩ | ⟨m, q⟩
            · have n : i ≠ j := fun z => by subst z; exact (List.nodup_cons.mp nd).1 m
              rw [List.getElem?_set_ne n] at q1
              exact .inl ⟨List.mem_cons_of_mem _ m, b', d2, d3, a2, q1, q2, q3, q4⟩
            · by_cases z : i = j
              · subst z
                rw [List.getElem?_set_self hi] at q
                exact .inl ⟨List.mem_cons_self, b, d, d', a, e3, q, h, c⟩
              · rw [List.getElem?_set_ne z] at q
                exact .inr ⟨fun y => (List.mem_cons.mp y).elim (fun y => z y.symm) m, q⟩
          · cases p
      · cases e
    · cases e
theorem after_call {l : List AD} {vs : List V} {as : List (Bool × D)} {os : List D} (R : Rep K G H ρ σ) (ha : ArI K σ G l vs) (e : argsD ρ l = some as) (nd : (ioIx l).Nodup) (p : putD ρ l os = some ρ2) (s : FStp (ioA as vs) G H G' H') (o : OutsIs K G' H' as vs os) :
    Stp ρ σ G H ρ2 σ G' H' ∧ Rep K G' H' ρ2 σ := by
  obtain ⟨hl, hc⟩ := putD_chg ha e o nd p
  have back : ∀ (j : Nat) (b : Bool) (d : D), ρ2[j]? = some (some (.mu b d)) → ∃ d', ρ[j]? = some (some (.mu b d')) := fun j b d q => by
    rcases hc j with ⟨m, b', d2, d3, a2, q1, q2, q3, q4⟩ | ⟨m, z⟩
    · rw [q] at q2; cases q2; exact ⟨d2, q1⟩
    · exact ⟨d, z ▸ q⟩
  have isM : ∀ a, a ∈ ioA as vs → Mu false ρ σ a ∨ Mu true ρ σ a := fun a m => by
    obtain ⟨i, q, z⟩ := (ioA_mem R ha e).mp m
    rcases hc i with ⟨_, b, d2, d3, a2, q1, q2, q3, q4⟩ | ⟨n, _⟩
    · cases b with
      | false => exact .inl ⟨i, d2, q1, z⟩
      | true => exact .inr ⟨i, d2, q1, z⟩
    · exact absurd q n
  refine ⟨⟨s.g, fun b ob n1 n2 q => s.h b ob (fun m => (isM b m).elim n1 n2) q, s.t, fun b q1 q2 => .inl (s.n b q1 q2), fun b ⟨j, d, q1, q2⟩ => ?_, fun j => ⟨fun d q => ?_, fun d q => back j true d q⟩⟩, ⟨s.s, by rw [hl]; exact R.len, fun j d q => ?_, fun j b d q => ?_, fun j k b c d1 d2 a q1 q2 q3 q4 => ?_⟩⟩
  · obtain ⟨d', z⟩ := back j false d q1
    exact .inl ⟨j, d', z, q2⟩
  · rcases hc j with ⟨m, b', d2, d3, a2, q1, q2, q3, q4⟩ | ⟨m, z⟩
    · rw [q] at q1; cases q1; exact ⟨d3, q2, rfl⟩
    · exact ⟨d, z.trans q, rfl⟩
  · rcases hc j with ⟨m, b', d2, d3, a2, q1, q2, q3, q4⟩ | ⟨m, z⟩
    · rw [q] at q2; cases q2
    · obtain ⟨v, y1, y2⟩ := R.vl j d (z ▸ q)
      exact ⟨v, y1, y2.mono s.g⟩
  · rcases hc j with ⟨m, b', d2, d3, a2, q1, q2, q3, q4⟩ | ⟨m, z⟩
    · rw [q] at q2; cases q2
      obtain ⟨a, y1, y2, y3⟩ := R.mu j _ _ q1
      rw [q3] at y1; cases y1
      refine ⟨_, q3, ?_, q4⟩
      cases hg : G' a2 with
      | none => rfl
      | some u =>
        have w := s.n _ y2 (by rw [hg]; exact fun z => by cases z)
        obtain ⟨ob, ho⟩ := y3.there
        rw [w] at ho; cases ho
    · obtain ⟨a, y1, y2, y3⟩ := R.mu j b d (z ▸ q)
      have na : a ∉ ioA as vs := fun m2 => by
        obtain ⟨i, q', z'⟩ := (ioA_mem R ha e).mp m2
        rcases hc i with ⟨_, b', d2, d3, a2, q1, q2, q3, q4⟩ | ⟨n, _⟩
        · have ij := R.ap i j b' b d2 d a q1 (z ▸ q) z' y1
          subst ij
          exact m q'
        · exact absurd q' n
      refine ⟨a, y1, ?_, y3.mono s.g fun ob q => s.h a ob na q⟩
      cases hg : G' a with
      | none => rfl
      | some u =>
        have w := s.n _ y2 (by rw [hg]; exact fun z => by cases z)
        obtain ⟨ob, ho⟩ := y3.there
        rw [w] at ho; cases ho
  · obtain ⟨x', z1⟩ := back j b d1 q1
    obtain ⟨y', z2⟩ := back k c d2 q2
    exact R.ap j k b c x' y' a z1 z2 q3 q4
end
/-- f(..) -/
def dCal2 (ar : Nat) (F : Fn) (f : DEnv → R (List AD)) : DEnv → R (Bool × D) := fun ρ => (f ρ).bind fun l ρ1 => if l.length = ar then match argsD ρ1 l with
  | none => .no
  | some as => if (ioIx l).Nodup then match F as with
    | .no => .no
    | .ret fr d os => match putD ρ1 l os with
      | none => .no
      | some ρ2 => .ok ρ2 (fr, d)
    | .exc e os => match putD ρ1 l os with
      | none => .no
      | some ρ2 => .ex ρ2 e
    else .no
  else .no
/-- a value that stays, or a thing just made -/
def XIs (K : PySem.W.Frag) (σ : Sl) (ρ' : DEnv) (G' H' H : Hp) (p : Bool × D) (v : V) : Prop := match p.1 with
  | false => Is K G' p.2 v
  | true => ∃ a, v = .ref a ∧ G' a = none ∧ ¬ Mu false ρ' σ a ∧ ¬ Mu true ρ' σ a ∧ H a = none ∧ Cont K G' H' a p.2
def tX (K : PySem.W.Frag) (W : WX) (f : DEnv → R (Bool × D)) : TE := fun σ H Q => ∃ ρ G, Rep K G H ρ σ ∧ Go K W σ ρ G H (fun p ρ' G' H' => ∀ v, XIs K σ ρ' G' H' H p v → Q v H') (f ρ)
theorem ArI.length {K : PySem.W.Frag} {σ : Sl} {G : Hp} : ∀ {l : List AD} {vs : List V}, ArI K σ G l vs → l.length = vs.length
  | _, _, .nil => rfl
  | _, _, .val _ r => congrArg (· + 1) (ArI.length r)
  | _, _, .io _ r => congrArg (· + 1) (ArI.length r)
theorem tcall {K : PySem.W.Frag} {W : WX} {ar : Nat} {F : Fn} {f : DEnv → R (List AD)} : ∀ σ H Q, tX K W (dCal2 ar F f) σ H Q → tCallSD (spD K ar F) [] (fun σ cls d H => W cls d σ H) (tAr K W f) σ H Q := fun σ H Q ⟨ρ, G, R, h⟩ =>
  ⟨ρ, G, R, (Go.bind R h).imp fun l ρ1 G1 H1 s1 R1 h1 vs hv => by
    show spD K ar F (vs ++ []) H1 Q (fun cls d H => W cls d σ H)
    rw [List.append_nil]
    split at h1
    · rename_i hl
      split at h1
      · exact False.elim h1
      · rename_i as ea
        split at h1
        · rename_i nd
          refine ⟨hv.length.symm.trans hl, G1, as, R1.sub, argsD_is R1 hv ea, ioA_nodup R1 hv ea nd, ?_⟩
          split at h1
          · exact False.elim h1
          · rename_i fr d os eF
            try rw [eF]
            split at h1
            · exact False.elim h1
            · rename_i ρ2 ep
              intro v G' H' fs ho hr
              obtain ⟨s2, R2⟩ := after_call R1 hv ea nd ep fs ho
              refine h1 G' H' s2 R2 v ?_
              cases fr with
              | false => exact hr
              | true =>
                obtain ⟨a, rfl, q1, q2, q3⟩ := hr
                have no : ∀ b, ¬ Mu b ρ2 σ a := fun b ⟨j, d', z1, z2⟩ => by
                  have key : ∃ o, H1 a = some o := by
                    cases b with
                    | false =>
                      rcases s2.ow a ⟨j, d', z1, z2⟩ with ⟨j', d'', y1, y2⟩ | y
                      · obtain ⟨a', y3, _, y4⟩ := R1.mu j' _ _ y1
                        rw [y2] at y3; cases y3
                        exact y4.there
                      · obtain ⟨a', y3, y5, y4⟩ := R2.mu j _ _ z1
                        rw [z2] at y3; cases y3
                        obtain ⟨d3, y6⟩ : ∃ d3, ρ1[j]? = some (some (.mu false d3)) := by
                          obtain ⟨_, hc⟩ := putD_chg hv ea ho nd ep
                          rcases hc j with ⟨_, b', d2, d3, a2, w1, w2, w3, w4⟩ | ⟨_, w⟩
                          · rw [z1] at w2; cases w2; exact ⟨d2, w1⟩
                          · exact ⟨d', w ▸ z1⟩
                        obtain ⟨a', y7, _, y8⟩ := R1.mu j _ _ y6
                        rw [z2] at y7; cases y7
                        exact y8.there
                    | true =>
                      obtain ⟨d3, y6⟩ := (s2.io j).2 d' z1
                      obtain ⟨a', y7, _, y8⟩ := R1.mu j _ _ y6
                      rw [z2] at y7; cases y7
                      exact y8.there
                  obtain ⟨o, ho⟩ := key
                  rw [q2] at ho; cases ho
                exact ⟨a, rfl, q1, no false, no true, s1.t a q2, q3⟩
          · rename_i e os eF
            try rw [eF]
            split at h1
            · exact False.elim h1
            · rename_i ρ2 ep
              intro dd G' H' fs ho hr
              obtain ⟨s2, R2⟩ := after_call R1 hv ea nd ep fs ho
              exact h1 G' H' dd s2 R2 hr
        · exact False.elim h1
    · exact False.elim h1⟩
abbrev DX (X : Cx) (W : WX) (e : Expr) (f : DEnv → R (Bool × D)) : Prop := PE X e (tX X.K W f)
def dV (f : DEnv → R (Bool × D)) : DEnv → R D := fun ρ => (f ρ).bind fun p ρ' => .ok ρ' p.2
def dN (f : DEnv → R (Bool × D)) : DEnv → R D := fun ρ => (f ρ).bind fun p ρ' => match p with
  | (true, d) => .ok ρ' d
  | (false, _) => .no
theorem show_fresh {K : PySem.W.Frag} {ρ0 ρ' : DEnv} {σ : Sl} {G0 H0 G' H' : Hp} {d : D} {a : Addr} (s : Stp ρ0 σ G0 H0 ρ' σ G' H') (R' : Rep K G' H' ρ' σ) (h0 : G' a = none) (h1 : ¬ Mu false ρ' σ a) (h2 : ¬ Mu true ρ' σ a) (hn : H0 a = none) (hc : Cont K G' H' a d) :
    ∃ G2, Stp ρ0 σ G0 H0 ρ' σ G2 H' ∧ Rep K G2 H' ρ' σ ∧ Is K G2 d (.ref a) := by
  obtain ⟨o, ho⟩ := hc.there
  have eG : Evl.Ex G' (upd G' a o) := Evl.Ex.new h0
  have hi : Is K (upd G' a o) d (.ref a) := by
    cases d with
    | lst l =>
      obtain ⟨xs, q1, q2⟩ := hc
      rw [ho] at q1; cases q1
      exact .lst upd_same (q2.mono eG)
    | dic l =>
      obtain ⟨xs, q1, q2⟩ := hc
      rw [ho] at q1; cases q1
      exact .dic upd_same (q2.mono eG)
    | _ => exact False.elim hc
  have eS : Evl.Ex (upd G' a o) H' := fun b u q => by
    by_cases z : b = a
    · subst z; rw [upd_same] at q; cases q; exact ho
    · rw [upd_ne z] at q; exact R'.sub b u q
  refine ⟨upd G' a o, ⟨fun b u q => eG b u (s.g b u q), s.h, s.t, fun b q1 q2 => ?_, s.ow, s.io⟩, ⟨eS, R'.len, fun j d' q => ?_, fun j b d' q => ?_, R'.ap⟩, hi⟩
  · by_cases z : b = a
    · subst z; exact .inl hn
    · rw [upd_ne z] at q2; exact s.n b q1 q2
  · obtain ⟨v, z1, z2⟩ := R'.vl j d' q
    exact ⟨v, z1, z2.mono eG⟩
  · obtain ⟨c, z1, z2, z3⟩ := R'.mu j b d' q
    have nc : c ≠ a := fun z => by
      subst z
      cases b with
      | false => exact h1 ⟨j, d', q, z1⟩
      | true => exact h2 ⟨j, d', q, z1⟩
    exact ⟨c, z1, by rw [upd_ne nc]; exact z2, z3.mono eG fun o q => q⟩
section
variable {X : Cx} {W : WX} {e : Expr} {es : List Expr}
theorem dx_de {f : DEnv → R (Bool × D)} (h : DX X W e f) : DE X W e (dV f) := pe_imp h fun σ H Q ⟨ρ, G, R, h⟩ => ⟨ρ, G, R, by
    cases e1 : f ρ with
    | no =>
      have h2 : dV f ρ = .no := by unfold dV; rw [e1]; rfl
      rw [h2] at h; exact h
    | ex ρ' ee =>
      have h2 : dV f ρ = .ex ρ' ee := by unfold dV; rw [e1]; rfl
      rw [h2] at h; exact h
    | ok ρ' p =>
      have h2 : dV f ρ = .ok ρ' p.2 := by unfold dV; rw [e1]; rfl
      rw [h2] at h
      intro G' H' s R' v hx
      obtain ⟨fr, d⟩ := p
      cases fr with
      | false => exact h G' H' s R' v hx
      | true =>
        obtain ⟨a, rfl, h0, h1, h2, hn, hc⟩ := hx
        obtain ⟨G2, s2, R2, hi⟩ := show_fresh s R' h0 h1 h2 hn hc
        exact h G2 H' s2 R2 _ hi⟩
theorem dx_df {f : DEnv → R (Bool × D)} (h : DX X W e f) : DF' X W e (dN f) := pe_imp h fun σ H Q ⟨ρ, G, R, h⟩ => ⟨ρ, G, R, by
    cases e1 : f ρ with
    | no =>
      have h2 : dN f ρ = .no := by unfold dN; rw [e1]; rfl
      rw [h2] at h; exact h
    | ex ρ' ee =>
      have h2 : dN f ρ = .ex ρ' ee := by unfold dN; rw [e1]; rfl
      rw [h2] at h; exact h
    | ok ρ' p =>
      obtain ⟨fr, d⟩ := p
      cases fr with
      | false =>
        have h2 : dN f ρ = .no := by unfold dN; rw [e1]; rfl
        rw [h2] at h; exact False.elim h
      | true =>
        have h2 : dN f ρ = .ok ρ' d := by unfold dN; rw [e1]; rfl
        rw [h2] at h
        intro G' H' s R' v hx
        obtain ⟨a, rfl, q1, q2, q3, q4, q5⟩ := hx
        exact h G' H' s R' a q1 q2 q3 q4 q5⟩
variable {x : Str} {p pos : Pos} {k ar : Nat} {fa : Addr} {fd : FuncData} {ps : List Str} {F : Fn} {f : DEnv → R (List AD)}
/-- f(..), wherever what it raises is taken -/
theorem dx_call (FO : FnOk X.prog X.w X.K X.mg X.base (L2.CX X.prog X.w) k fa fd ps (spD X.K ar F)) (hr : Room k X.A) (tk : Takes X W) (hg : Gl X x) (hm : X.mg x = some (.ref fa)) (hk : PySem.W.keepIn X.K (.ref fa) = true) (hb : Binds X.K fd ps [])
    (ha : DR X W (e :: es) f) (hdb : (x == ("__debug__" : Str)) = false := by decide) (he : starEach (e :: es) X.env = (false, eval e X.env) :: starEach es X.env := by rfl) (hpl : (backTo pos (starEach es X.env)).any (·.1) = false := by rfl) :
    DX X W (.Call (.Name x p) (e :: es) [] pos) (dCal2 ar F f) :=
  pe_imp (pe_callSD (E := fun σ cls d H => W cls d σ H) FO hr hg hm hk hb .nil (fun σ => passAt tk σ) ha hdb he hpl) tcall
/-- f(..), where nothing may be raised -/
theorem dx_callN (FO : FnOk X.prog X.w X.K X.mg X.base (L2.CX X.prog X.w) k fa fd ps (spD X.K ar F)) (hr : Room k X.A) (hg : Gl X x) (hm : X.mg x = some (.ref fa)) (hk : PySem.W.keepIn X.K (.ref fa) = true) (hb : Binds X.K fd ps [])
    (ha : DR X (fun _ _ _ _ => False) (e :: es) f) (hdb : (x == ("__debug__" : Str)) = false := by decide) (he : starEach (e :: es) X.env = (false, eval e X.env) :: starEach es X.env := by rfl) (hpl : (backTo pos (starEach es X.env)).any (·.1) = false := by rfl) :
    DX X (fun _ _ _ _ => False) (.Call (.Name x p) (e :: es) [] pos) (dCal2 ar F f) :=
  pe_imp (pe_call (E := E0) FO hr hg hm hk hb .nil passL ha hdb he hpl) fun σ H Q h => tcall (W := fun _ _ _ _ => False) σ H Q h
end
end DF

namespace DF
open PySem PySem.Spec PyProof.Rows L2
def wipeE (ρ : DEnv) : List Nat → DEnv
  | [] => ρ
  | v :: vs => (wipeE ρ vs).set v none
theorem wipeE_length (ρ : DEnv) : ∀ vs : List Nat, (wipeE ρ vs).length = ρ.length
  | [] => rfl
  | v :: vs => by unfold wipeE; rw [List.length_set, wipeE_length ρ vs]
theorem wipeE_some {ρ : DEnv} {i : Nat} {x : Cell} : ∀ {vs : List Nat}, (wipeE ρ vs)[i]? = some (some x) → ρ[i]? = some (some x) ∧ i ∉ vs
  | [], h => ⟨h, by simp⟩
  | v :: vs, h => by
    unfold wipeE at h
    rcases set_get h with ⟨_, z⟩ | ⟨n, z⟩
    · cases z
    · obtain ⟨h1, h2⟩ := wipeE_some z
      exact ⟨h1, fun m => (List.mem_cons.mp m).elim (fun y => n y.symm) h2⟩
theorem wipeE_out {ρ : DEnv} {i : Nat} : ∀ {vs : List Nat}, i ∉ vs → (wipeE ρ vs)[i]? = ρ[i]?
  | [], _ => rfl
  | v :: vs, h => by
    unfold wipeE
    rw [List.getElem?_set_ne (fun z => h (by rw [z]; exact List.mem_cons_self))]
    exact wipeE_out fun z => h (List.mem_cons_of_mem _ z)
/-- none of these is a slot of one's own list -/
def noMu (ρ : DEnv) (vs : List Nat) : Bool := vs.all fun i => match ρ[i]? with
  | some (some (.mu _ _)) => false
  | _ => true
theorem noMu_of {ρ : DEnv} {vs : List Nat} (h : noMu ρ vs = true) {i : Nat} (hi : i ∈ vs) {b : Bool} {d : D} : ρ[i]? ≠ some (some (.mu b d)) := fun z => by
  unfold noMu at h
  have q := List.all_eq_true.mp h i hi
  rw [z] at q
  cases q
section
variable {K : PySem.W.Frag} {ρ : DEnv} {σ σ2 : Sl} {G H : Hp} {vs : List Nat}
/-- slots of the comprehension are forgotten; σ2 holds the others as σ does -/
theorem Rep.wiped (R : Rep K G H ρ σ) (hl : σ2.length = σ.length) (hs : ∀ i, i ∉ vs → σ2[i]? = σ[i]?) : Rep K G H (wipeE ρ vs) σ2 where
  sub := R.sub
  len := by rw [wipeE_length, hl]; exact R.len
  vl := fun i d e => by
    obtain ⟨e1, e2⟩ := wipeE_some e
    obtain ⟨v, e3, e4⟩ := R.vl i d e1
    exact ⟨v, (hs i e2).trans e3, e4⟩
  mu := fun i b d e => by
    obtain ⟨e1, e2⟩ := wipeE_some e
    obtain ⟨a, e3, e4⟩ := R.mu i b d e1
    exact ⟨a, (hs i e2).trans e3, e4⟩
  ap := fun i j b c d e a q1 q2 q3 q4 => by
    obtain ⟨e1, e2⟩ := wipeE_some q1
    obtain ⟨e3, e4⟩ := wipeE_some q2
    exact R.ap i j b c d e a e1 e3 ((hs i e2).symm.trans q3) ((hs j e4).symm.trans q4)
theorem Stp.wiped (R : Rep K G H ρ σ) (hn : noMu ρ vs = true) (hs : ∀ i, i ∉ vs → σ2[i]? = σ[i]?) : Stp ρ σ G H (wipeE ρ vs) σ2 G H :=
  ⟨fun _ _ e => e, fun _ _ _ _ e => e, fun _ e => e, fun _ e q => absurd e q, fun b ⟨i, d, e1, e2⟩ => by
    obtain ⟨e3, e4⟩ := wipeE_some e1
    exact .inl ⟨i, d, e3, (hs i e4).symm.trans e2⟩, fun i => ⟨fun d e => by
      have hi : i ∉ vs := fun m => noMu_of hn m e
      exact ⟨d, (wipeE_out hi).trans e, hs i hi⟩, fun d e => ⟨d, (wipeE_some e).1⟩⟩⟩
end
/-! ### comprehensions -/
def tYesB : DEnv → R Bool := fun ρ => .ok ρ true
abbrev DTs (X : Cx) (W : WX) (ifs : List Expr) (f : DEnv → R Bool) : Prop := PTs X ifs (tT X.K W f)
theorem pts_imp {X : Cx} {es : List Expr} {t t' : TT} (h : PTs X es t) (i : ∀ σ H Q, t' σ H Q → t σ H Q) : PTs X es t' := ⟨fun pins s σ H Q I q => h.run pins s σ H Q I (i σ H Q q)⟩
theorem dts_nil {X : Cx} {W : WX} : DTs X W [] tYesB := pts_imp pts_nil fun σ H Q ⟨ρ, G, R, h⟩ => h G H .refl R
theorem dts_one {X : Cx} {W : WX} {c : Expr} {f : DEnv → R Bool} (h : DT X W c f) : DTs X W [c] f := pts_one h
/-- .. where nothing may be raised -/
def R.bindN {α β : Type} (r : R α) (f : α → DEnv → R β) : R β := match r with
  | .ok ρ a => f a ρ
  | _ => .no
theorem R.bindN_ok {α β : Type} {ρ : DEnv} {a : α} {f : α → DEnv → R β} : (R.ok ρ a).bindN f = f a ρ := rfl
/-- one item after another; acc: what is made so far -/
def dLcGo (g : Tg) (t : DEnv → R Bool) (f : DEnv → R D) (vs : List Nat) : List D → List D → DEnv → R D
  | [], acc, ρ => .ok ρ (.lst acc)
  | d :: l, acc, ρ => match g d ρ with
    | none => .no
    | some ρ1 => (t ρ1).bindN fun b ρ2 => match b with
      | false => if noMu ρ2 vs = true then dLcGo g t f vs l acc (wipeE ρ2 vs) else .no
      | true => (f ρ2).bindN fun y ρ3 => if noMu ρ3 vs = true then (if acc.length < 16000000 then dLcGo g t f vs l (acc ++ [y]) (wipeE ρ3 vs) else .no) else .no
def dLc (s : DEnv → R (List D)) (g : Tg) (t : DEnv → R Bool) (f : DEnv → R D) (vs : List Nat) : DEnv → R D := fun ρ => (s ρ).bind fun l ρ1 => if noMu ρ1 vs = true then dLcGo g t f vs l [] (wipeE ρ1 vs) else .no

/-- nothing stands in these slots -/
def Clean (ρ : DEnv) (vs : List Nat) : Prop := ∀ i ∈ vs, ∀ c, ρ[i]? ≠ some (some c)
theorem clean_wipe {ρ : DEnv} {vs : List Nat} : Clean (wipeE ρ vs) vs := fun i hi c e => (wipeE_some e).2 hi
section
variable {K : PySem.W.Frag} {ρ ρ' : DEnv} {σ σ0 : Sl} {G H G' H' : Hp} {vs : List Nat}
theorem Rep.swap (R : Rep K G H ρ σ0) (hc : Clean ρ vs) (ag : Agr vs σ0 σ) : Rep K G H ρ σ where
  sub := R.sub
  len := R.len.trans ag.1.symm
  vl := fun i d e => by
    have hi : i ∉ vs := fun m => hc i m _ e
    obtain ⟨v, e1, e2⟩ := R.vl i d e
    exact ⟨v, (ag.2 i hi).trans e1, e2⟩
  mu := fun i b d e => by
    have hi : i ∉ vs := fun m => hc i m _ e
    obtain ⟨a, e1, e2⟩ := R.mu i b d e
    exact ⟨a, (ag.2 i hi).trans e1, e2⟩
  ap := fun i j b c d e a q1 q2 q3 q4 => R.ap i j b c d e a q1 q2 ((ag.2 i fun m => hc i m _ q1).symm.trans q3) ((ag.2 j fun m => hc j m _ q2).symm.trans q4)
theorem mu_swap {b : Bool} {a : Addr} (hc : Clean ρ vs) (ag : Agr vs σ0 σ) : Mu b ρ σ0 a ↔ Mu b ρ σ a :=
  ⟨fun ⟨i, d, e1, e2⟩ => ⟨i, d, e1, (ag.2 i fun m => hc i m _ e1).trans e2⟩, fun ⟨i, d, e1, e2⟩ => ⟨i, d, e1, (ag.2 i fun m => hc i m _ e1).symm.trans e2⟩⟩
theorem Stp.swap (s : Stp ρ σ0 G H ρ' σ0 G' H') (hc : Clean ρ vs) (hc' : Clean ρ' vs) (ag : Agr vs σ0 σ) : Stp ρ σ G H ρ' σ G' H' where
  g := s.g
  h := fun b o n1 n2 q => s.h b o (fun m => n1 ((mu_swap hc ag).mp m)) (fun m => n2 ((mu_swap hc ag).mp m)) q
  t := s.t
  n := fun b q1 q2 => (s.n b q1 q2).imp id fun m => (mu_swap hc ag).mp m
  ow := fun b m => (s.ow b ((mu_swap hc' ag).mpr m)).imp (fun m => (mu_swap hc ag).mp m) id
  io := fun i => ⟨fun d e => by
      obtain ⟨d', e1, _⟩ := (s.io i).1 d e
      exact ⟨d', e1, rfl⟩, (s.io i).2⟩
theorem Agr.symm {σ σ0 : Sl} (a : Agr vs σ0 σ) : Agr vs σ σ0 := ⟨a.1.symm, fun i hi => (a.2 i hi).symm⟩
theorem Agr.trans {σ σ0 σ1 : Sl} (a : Agr vs σ0 σ) (b : Agr vs σ σ1) : Agr vs σ0 σ1 := ⟨b.1.trans a.1, fun i hi => (b.2 i hi).trans (a.2 i hi)⟩
theorem agr_wipe : Agr vs σ (wipe σ vs) := ⟨wipe_length σ vs, fun i hi => wipe_out hi⟩
theorem wipe_get (σ : Sl) (i : Nat) : ∀ vs : List Nat, (wipe σ vs)[i]? = if i ∈ vs then (σ[i]?).map (fun _ => none) else σ[i]?
  | [] => by simp [wipe]
  | v :: vs => by
    unfold wipe
    by_cases h : v = i
    · subst h
      rw [if_pos List.mem_cons_self]
      by_cases hl : v < σ.length
      · rw [List.getElem?_set_self (by rw [wipe_length]; exact hl), List.getElem?_eq_getElem hl]; rfl
      · rw [List.getElem?_eq_none (by rw [List.length_set, wipe_length]; omega), List.getElem?_eq_none (by omega)]; rfl
    · rw [List.getElem?_set_ne h, wipe_get σ i vs]
      by_cases hm : i ∈ vs
      · rw [if_pos hm, if_pos (List.mem_cons_of_mem _ hm)]
      · rw [if_neg hm, if_neg fun m => (List.mem_cons.mp m).elim (fun z => h z.symm) hm]
theorem wipe_agr (ag : Agr vs σ0 σ) : wipe σ vs = wipe σ0 vs := by
  apply List.ext_getElem?
  intro i
  rw [wipe_get, wipe_get]
  by_cases hm : i ∈ vs
  · rw [if_pos hm, if_pos hm]
    by_cases hl : i < σ0.length
    · rw [List.getElem?_eq_getElem hl, List.getElem?_eq_getElem (by rw [ag.1]; exact hl)]; rfl
    · have a1 : σ0[i]? = none := List.getElem?_eq_none (by omega)
      have a2 : σ[i]? = none := List.getElem?_eq_none (by rw [ag.1]; omega)
      rw [a1, a2]
  · rw [if_neg hm, if_neg hm]
    exact ag.2 i hm
/-- an object that no name reaches is put in another's place -/
theorem Rep.other {a : Addr} {o : HO} (R : Rep K G H ρ σ) (h0 : G a = none) (h1 : ∀ b, ¬ Mu b ρ σ a) : Rep K G (upd H a o) ρ σ where
  sub := fun c u q => by
    have n : c ≠ a := fun z => by subst z; rw [h0] at q; cases q
    rw [upd_ne n]; exact R.sub c u q
  len := R.len
  vl := R.vl
  mu := fun i b d e => by
    obtain ⟨a', e1, e2, e3⟩ := R.mu i b d e
    have n : a' ≠ a := fun z => by subst z; exact h1 b ⟨i, d, e, e1⟩
    exact ⟨a', e1, e2, e3.mono (fun _ _ q => q) fun u q => by rw [upd_ne n]; exact q⟩
  ap := R.ap
theorem Stp.other {ρ0 : DEnv} {σ0 : Sl} {G0 H0 : Hp} {a : Addr} {o : HO} (s : Stp ρ0 σ0 G0 H0 ρ σ G H) (h : H0 a = none) : Stp ρ0 σ0 G0 H0 ρ σ G (upd H a o) where
  g := s.g
  h := fun b u n1 n2 q => by rw [upd_ne (ne_of_none q h)]; exact s.h b u n1 n2 q
  t := fun b q => by
    by_cases z : b = a
    · subst z; rw [upd_same] at q; cases q
    · rw [upd_ne z] at q; exact s.t b q
  n := s.n
  ow := s.ow
  io := s.io
end
abbrev WN : WX := fun _ _ _ _ => False
theorem tlc_of {X : Cx} {W : WX} {s : DEnv → R (List D)} {g : Tg} {t : DEnv → R Bool} {f : DEnv → R D} {vs : List Nat} : ∀ σ H Q, tF X.K W (dLc s g t f vs) σ H Q → tLc (tI X.K W s) (tG X.K g vs) (tT X.K WN t) (tD X.K WN f) vs σ H Q := by
  refine fun σ H Q ⟨ρ, G, R, h⟩ => ⟨ρ, G, R, (Go.bind R h).imp fun l ρ1 G1 H1 s1 R1 h1 J hJ Dl hD => ?_⟩
  split at h1
  case isFalse => exact False.elim h1
  rename_i hn1
  -- the state ahead of the first turn
  have ag0 : Agr vs σ (wipe σ vs) := agr_wipe
  have NH : New G1 H1 G1 (upd H1 Dl (.lst [])) := New.hid R1.sub hD
  have R2 : Rep X.K G1 (upd H1 Dl (.lst [])) (wipeE ρ1 vs) σ := (NH.rep R1).wiped rfl fun _ _ => rfl
  have S2 : Stp ρ1 σ G1 H1 (wipeE ρ1 vs) σ G1 (upd H1 Dl (.lst [])) := (NH.stp R1).trans R1 (Stp.wiped (NH.rep R1) hn1 fun _ _ => rfl)
  have noD : ∀ b, ¬ Mu b (wipeE ρ1 vs) σ Dl := fun b ⟨i, d, e1, e2⟩ => by
    obtain ⟨a', e3, _, e4⟩ := R1.mu i b d (wipeE_some e1).1
    rw [e2] at e3; cases e3
    obtain ⟨o, ho⟩ := e4.there
    rw [hD] at ho; cases ho
  refine ⟨fun i m H' => m = l.length - i ∧ ∃ ρw Gi acc xs, Rep X.K Gi H' ρw σ ∧ Clean ρw vs ∧ Stp ρ1 σ G1 H1 ρw σ Gi H' ∧ H' Dl = some (.lst xs) ∧ Iss X.K Gi acc xs ∧ Gi Dl = none ∧ (∀ b, ¬ Mu b ρw σ Dl) ∧
      Go X.K W σ ρ1 G1 H1 (fun d ρ' G' H' => ∀ a, G' a = none → ¬ Mu false ρ' σ a → ¬ Mu true ρ' σ a → H a = none → Cont X.K G' H' a d → Q (.ref a) H') (dLcGo g t f vs (l.drop i) acc ρw),
    ⟨l.length, by simp, wipeE ρ1 vs, G1, [], [], R2, clean_wipe, S2, upd_same, .nil, sub_none R1.sub hD, noD, h1⟩, fun i m H' ⟨em, ρw, Gi, acc, xs, Rw, cl, Sw, eD, hx, gD, nD, hgo⟩ => ?_⟩
  cases e : l[i]? with
  | none =>
    have hl : l.length ≤ i := List.getElem?_eq_none_iff.mp e
    rw [List.drop_eq_nil_of_le hl] at hgo
    exact .inl ⟨hJ.stop i Gi H' hl Sw.g Rw.sub, hgo Gi H' Sw Rw Dl gD (nD false) (nD true) (s1.t Dl hD) ⟨xs, eD, hx⟩⟩
  | some d =>
    obtain ⟨hlt, hel⟩ := List.getElem?_eq_some_iff.mp e
    obtain ⟨q1, q2⟩ := hJ.go i d Gi H' e Sw.g Rw.sub
    rw [List.drop_eq_getElem_cons hlt, hel] at hgo
    refine .inr ⟨q1, fun H' => ∃ ρw Gi acc xs, Rep X.K Gi H' ρw σ ∧ Clean ρw vs ∧ Stp ρ1 σ G1 H1 ρw σ Gi H' ∧ H' Dl = some (.lst xs) ∧ Iss X.K Gi acc xs ∧ Gi Dl = none ∧ (∀ b, ¬ Mu b ρw σ Dl) ∧
      Go X.K W σ ρ1 G1 H1 (fun d ρ' G' H' => ∀ a, G' a = none → ¬ Mu false ρ' σ a → ¬ Mu true ρ' σ a → H a = none → Cont X.K G' H' a d → Q (.ref a) H') (dLcGo g t f vs (l.drop (i + 1)) acc ρw), fun H' q => ⟨l.length - (i + 1), by omega, rfl, q⟩, fun x H2 hy => ?_⟩
    obtain ⟨G2, N2, hdx⟩ := q2 x H2 hy
    unfold dLcGo at hgo
    split at hgo
    case h_1 => exact False.elim hgo
    rename_i ρa ea
    have R0 : Rep X.K Gi H' ρw (wipe σ vs) := Rw.swap cl ag0
    have R2' := N2.rep R0
    refine ⟨ρw, G2, d, R2', hdx, ρa, ea, fun σ2 G3 H3 s3 R3 ag3 => ⟨(wipe_agr ag3).trans (wipe_agr ag0), ρa, G3, R3, ?_⟩⟩
    have T3 : Stp ρw (wipe σ vs) Gi H' ρa σ2 G3 H3 := (N2.stp R0).trans R0 s3
    -- what a turn's end is
    have fin : ∀ {ρb : DEnv} {G4 H4 : Hp}, Stp ρa σ2 G3 H3 ρb σ2 G4 H4 → Rep X.K G4 H4 ρb σ2 → noMu ρb vs = true → Rep X.K G4 H4 (wipeE ρb vs) σ ∧ Stp ρ1 σ G1 H1 (wipeE ρb vs) σ G4 H4 ∧ H4 Dl = some (.lst xs) ∧ G4 Dl = none ∧ (∀ b, ¬ Mu b (wipeE ρb vs) σ Dl) ∧ Evl.Ex Gi G4 := fun {ρb G4 H4} s4 R4 n4 => by
      have ags : Agr vs σ2 (wipe σ vs) := ag3.symm
      have R5 : Rep X.K G4 H4 (wipeE ρb vs) (wipe σ vs) := R4.wiped ags.1 ags.2
      have T4 : Stp ρw (wipe σ vs) Gi H' (wipeE ρb vs) (wipe σ vs) G4 H4 := (T3.trans R0 s4).trans R0 (Stp.wiped R4 n4 ags.2)
      have T5 : Stp ρw σ Gi H' (wipeE ρb vs) σ G4 H4 := T4.swap cl clean_wipe ag0.symm
      have gD4 : G4 Dl = none := by
        cases hg : G4 Dl with
        | none => rfl
        | some u =>
          rcases T5.n Dl gD (by rw [hg]; exact fun z => by cases z) with z | z
          · rw [eD] at z; cases z
          · exact absurd z (nD false)
      refine ⟨R5.swap clean_wipe ag0.symm, Sw.trans R1 T5, T5.h Dl _ (nD false) (nD true) eD, gD4, fun b m => ?_, T5.g⟩
      cases b with
      | false =>
        rcases T5.ow Dl m with z | z
        · exact nD false z
        · rw [eD] at z; cases z
      | true => exact nD true (T5.io_back m)
    cases et : t ρa with
    | no => rw [et] at hgo; exact False.elim hgo
    | ex _ _ => rw [et] at hgo; exact False.elim hgo
    | ok ρb b =>
      rw [et] at hgo
      intro G4 H4 s4 R4
      cases b with
      | false =>
        rw [if_neg Bool.false_ne_true]
        have hgo' : Go X.K W σ ρ1 G1 H1 _ (if noMu ρb vs = true then dLcGo g t f vs (l.drop (i + 1)) acc (wipeE ρb vs) else .no) := hgo
        split at hgo'
        · rename_i n4
          obtain ⟨a1, a2, a3, a4, a5, a6⟩ := fin s4 R4 n4
          exact ⟨wipeE ρb vs, G4, acc, xs, a1, clean_wipe, a2, a3, hx.mono a6, a4, a5, hgo'⟩
        · exact False.elim hgo'
      | true =>
        rw [if_pos rfl]
        refine ⟨ρb, G4, R4, ?_⟩
        have hgo' : Go X.K W σ ρ1 G1 H1 _ ((f ρb).bindN fun y ρ3 => if noMu ρ3 vs = true then (if acc.length < 16000000 then dLcGo g t f vs (l.drop (i + 1)) (acc ++ [y]) (wipeE ρ3 vs) else .no) else .no) := hgo
        cases ef : f ρb with
        | no => rw [ef] at hgo'; exact False.elim hgo'
        | ex _ _ => rw [ef] at hgo'; exact False.elim hgo'
        | ok ρc y =>
          rw [ef] at hgo'
          intro G5 H5 s5 R5 v hv
          have hgo2 : Go X.K W σ ρ1 G1 H1 _ (if noMu ρc vs = true then (if acc.length < 16000000 then dLcGo g t f vs (l.drop (i + 1)) (acc ++ [y]) (wipeE ρc vs) else .no) else .no) := hgo'
          split at hgo2
          · rename_i n5
            split at hgo2
            · rename_i hlen
              obtain ⟨a1, a2, a3, a4, a5, a6⟩ := fin (s4.trans R3 s5) R5 n5
              refine ⟨xs, a3, by rw [← hx.length, sizeLine_eq]; omega, wipeE ρc vs, G5, acc ++ [y], xs ++ [v], a1.other a4 a5, clean_wipe, a2.other hD, upd_same, (hx.mono a6).append (.cons hv .nil), a4, a5, hgo2⟩
            · exact False.elim hgo2
          · exact False.elim hgo2
theorem df_lc {X : Cx} {W : WX} {elt tg iter : Expr} {ifs : List Expr} {scope : Scope} {own : List (Str × Nat)} {pos : Pos} {s : DEnv → R (List D)} {g : Tg} {t : DEnv → R Bool} {f : DEnv → R D} {vs : List Nat}
    (hcalm : X.calm = true) (hN : X.N.Nodup) (hi : DI X W tg iter s) (ok : BlkOk X.N X.env.scope scope own) (hvs : own.map (·.2) = vs)
    (hg : ∀ (s : Shared) (H : Hp) (C : Addr) (cl : List (Str × Addr)) (fp : List Addr), DG (X.blk s H scope (compEnvC scope cl C X.env) fp) tg g vs)
    (ht : ∀ (s : Shared) (H : Hp) (C : Addr) (cl : List (Str × Addr)) (fp : List Addr), DTs (X.blk s H scope (compEnvC scope cl C X.env) fp) WN ifs t)
    (he : ∀ (s : Shared) (H : Hp) (C : Addr) (cl : List (Str × Addr)) (fp : List Addr), DE (X.blk s H scope (compEnvC scope cl C X.env) fp) WN elt f) (hs : ∀ x, foldedSetIterable iter X.env x = pure x := by intro _; rfl) :
    DF' X W (.ListComp elt [⟨tg, iter, ifs, 0⟩] scope pos) (dLc s g t f vs) := by
  subst hvs
  exact pe_imp (pe_lc (g := tG X.K g (own.map (·.2))) (tt := tT X.K WN t) (te := tD X.K WN f) hcalm hN hi ok hg ht he hs) tlc_of
/-- x = [..], x of this frame alone -/
theorem ps_lc0 {X : Cx} {W : WX} {i : Nat} {y : Str} {py : Pos} {elt tg iter : Expr} {ifs : List Expr} {scope : Scope} {own : List (Str × Nat)} {pos spos : Pos} {s : DEnv → R (List D)} {g : Tg} {t : DEnv → R Bool} {f : DEnv → R D}
    (hcalm : X.calm = true) (hN : X.N.Nodup) (hy : X.N[i]? = some y) (hyl : X.env.scope.names.lookup y = some .local) (hsw : swapsWith (.ListComp elt [⟨tg, iter, ifs, 0⟩] scope pos) (some (.Name y py)) spos.line X.env = pure true) (hi : DI X W tg iter s) (ok : BlkOk X.N X.env.scope scope own)
    (hg : ∀ (s : Shared) (H : Hp) (C : Addr) (cl : List (Str × Addr)) (fp : List Addr), DG (X.blk s H scope (compEnvC scope cl C X.env) fp) tg g (own.map (·.2)))
    (ht : ∀ (s : Shared) (H : Hp) (C : Addr) (cl : List (Str × Addr)) (fp : List Addr), DTs (X.blk s H scope (compEnvC scope cl C X.env) fp) WN ifs t)
    (he : ∀ (s : Shared) (H : Hp) (C : Addr) (cl : List (Str × Addr)) (fp : List Addr), DE (X.blk s H scope (compEnvC scope cl C X.env) fp) WN elt f) (hs : ∀ x, foldedSetIterable iter X.env x = pure x := by intro _; rfl) :
    PS X (.Assign [.Name y py] (.ListComp elt [⟨tg, iter, ifs, 0⟩] scope pos) spos) (tAsg (tLc (tI X.K W s) (tG X.K g (own.map (·.2))) (tT X.K WN t) (tD X.K WN f) (own.map (·.2))) (gName i)) :=
  ps_setLc hcalm hN hy hyl hsw hi ok hg ht he hs
theorem ds_setLc {X : Cx} {W : WX} {i : Nat} {y : Str} {py : Pos} {elt tg iter : Expr} {ifs : List Expr} {scope : Scope} {own : List (Str × Nat)} {pos spos : Pos} {s : DEnv → R (List D)} {g : Tg} {t : DEnv → R Bool} {f : DEnv → R D} {vs : List Nat}
    (hcalm : X.calm = true) (hN : X.N.Nodup) (hy : X.N[i]? = some y) (hyl : X.env.scope.names.lookup y = some .local) (hsw : swapsWith (.ListComp elt [⟨tg, iter, ifs, 0⟩] scope pos) (some (.Name y py)) spos.line X.env = pure true) (hi : DI X W tg iter s) (ok : BlkOk X.N X.env.scope scope own) (hvs : own.map (·.2) = vs)
    (hg : ∀ (s : Shared) (H : Hp) (C : Addr) (cl : List (Str × Addr)) (fp : List Addr), DG (X.blk s H scope (compEnvC scope cl C X.env) fp) tg g vs)
    (ht : ∀ (s : Shared) (H : Hp) (C : Addr) (cl : List (Str × Addr)) (fp : List Addr), DTs (X.blk s H scope (compEnvC scope cl C X.env) fp) WN ifs t)
    (he : ∀ (s : Shared) (H : Hp) (C : Addr) (cl : List (Str × Addr)) (fp : List Addr), DE (X.blk s H scope (compEnvC scope cl C X.env) fp) WN elt f) (hs : ∀ x, foldedSetIterable iter X.env x = pure x := by intro _; rfl) :
    DS X W (.Assign [.Name y py] (.ListComp elt [⟨tg, iter, ifs, 0⟩] scope pos) spos) (dSet i (dLc s g t f vs)) := by
  subst hvs
  exact ps_imp (ps_lc0 hcalm hN hy hyl hsw hi ok hg ht he hs) (tset fun σ H Q h => tlc_of σ H Q (tfresh σ H Q h))
theorem ds_setLcF {X : Cx} {W : WX} {i : Nat} {y : Str} {py : Pos} {elt tg iter : Expr} {ifs : List Expr} {scope : Scope} {own : List (Str × Nat)} {pos spos : Pos} {s : DEnv → R (List D)} {g : Tg} {t : DEnv → R Bool} {f : DEnv → R D} {vs : List Nat}
    (hcalm : X.calm = true) (hN : X.N.Nodup) (hy : X.N[i]? = some y) (hyl : X.env.scope.names.lookup y = some .local) (hsw : swapsWith (.ListComp elt [⟨tg, iter, ifs, 0⟩] scope pos) (some (.Name y py)) spos.line X.env = pure true) (hi : DI X W tg iter s) (ok : BlkOk X.N X.env.scope scope own) (hvs : own.map (·.2) = vs)
    (hg : ∀ (s : Shared) (H : Hp) (C : Addr) (cl : List (Str × Addr)) (fp : List Addr), DG (X.blk s H scope (compEnvC scope cl C X.env) fp) tg g vs)
    (ht : ∀ (s : Shared) (H : Hp) (C : Addr) (cl : List (Str × Addr)) (fp : List Addr), DTs (X.blk s H scope (compEnvC scope cl C X.env) fp) WN ifs t)
    (he : ∀ (s : Shared) (H : Hp) (C : Addr) (cl : List (Str × Addr)) (fp : List Addr), DE (X.blk s H scope (compEnvC scope cl C X.env) fp) WN elt f) (hs : ∀ x, foldedSetIterable iter X.env x = pure x := by intro _; rfl) :
    DS X W (.Assign [.Name y py] (.ListComp elt [⟨tg, iter, ifs, 0⟩] scope pos) spos) (dSetF i (dLc s g t f vs)) := by
  subst hvs
  exact ps_imp (ps_lc0 hcalm hN hy hyl hsw hi ok hg ht he hs) (tsetF tlc_of)
end DF

namespace DF
open PySem PySem.Spec PyProof.Rows L2
section
variable {X : Cx}
/-! ### whole numbers -/
def CDivG (i j : Int) : Prop := j ≠ 0 ∧ j.natAbs.log2 < 9000
theorem op_fdivG : OpR X (binaryOp .FloorDiv) (rI CDivG fun i j => .int (i.fdiv j)) := opI fun _ _ _ _ _ _ _ hc q => floordiv_int hc.1 q (.inl (PyProof.noPylong_of_log2 hc.2))
def CPowG (i j : Int) : Prop := 0 ≤ j ∧ (Builtin.Int.intBits i : Int) * j ≤ 2 ^ 27
theorem op_powG : OpR X (binaryOp .Pow) (rI CPowG fun i j => .int (i ^ j.toNat)) := opI fun _ _ _ _ _ _ _ hc q => pow_int hc.1 hc.2 q
end
variable {K : PySem.W.Frag}
def i2 (g : Int → Int → Option D) (x y : D) : Option D := match x, y with
  | .int i, .int j => g i j
  | _, _ => none
theorem i2_of {g : Int → Int → Option D} {x y z : D} (h : i2 g x y = some z) : ∃ i j, x = .int i ∧ y = .int j ∧ g i j = some z := by
  unfold i2 at h
  split at h
  · exact ⟨_, _, rfl, rfl, h⟩
  · cases h
theorem ops_i0 {g : Int → Int → Int} : OpS K (rI0 fun i j => .int (g i j)) (i2 fun i j => some (.int (g i j))) := fun x y z v u G H Q eS hx hy e k => by
  obtain ⟨i, j, rfl, rfl, e⟩ := i2_of e
  cases e
  cases hx
  cases hy
  exact ⟨i, j, rfl, rfl, k _ G H (New.refl eS) (.int _)⟩
theorem ops_b0 {g : Int → Int → Bool} : OpS K (rI0 fun i j => .bl (g i j)) (i2 fun i j => some (.bl (g i j))) := fun x y z v u G H Q eS hx hy e k => by
  obtain ⟨i, j, rfl, rfl, e⟩ := i2_of e
  cases e
  cases hx
  cases hy
  exact ⟨i, j, rfl, rfl, k _ G H (New.refl eS) (.bl _)⟩
theorem ops_ic {C : Int → Int → Prop} {g : Int → Int → Int} {c : Int → Int → Bool} (hc : ∀ i j, c i j = true → C i j) : OpS K (rI C fun i j => .int (g i j)) (i2 fun i j => if c i j = true then some (.int (g i j)) else none) := fun x y z v u G H Q eS hx hy e k => by
  obtain ⟨i, j, rfl, rfl, e'⟩ := i2_of e
  clear e
  cases hx
  cases hy
  split at e'
  · rename_i h
    cases e'
    exact ⟨i, j, rfl, rfl, hc i j h, k _ G H (New.refl eS) (.int _)⟩
  · cases e'
/-- what is found by the first that has a word -/
def orD (g g' : D → D → Option D) (x y : D) : Option D := match g x y with
  | some z => some z
  | none => g' x y
theorem ops_or {r r' : R2} {g g' : D → D → Option D} (h : OpS K r g) (h' : OpS K r' g') : OpS K (fun x y H Q => r x y H Q ∨ r' x y H Q) (orD g g') := fun x y z v u G H Q eS hx hy e k => by
  unfold orD at e
  cases q : g x y with
  | some w =>
    rw [q] at e
    cases e
    exact .inl (h x y _ v u G H Q eS hx hy q k)
  | none =>
    rw [q] at e
    exact .inr (h' x y z v u G H Q eS hx hy e k)
def cDiv (_ j : Int) : Bool := decide (j ≠ 0) && decide (j.natAbs.log2 < 9000)
theorem cDiv_ok {i j : Int} (h : cDiv i j = true) : CDivG i j := by
  unfold cDiv at h
  rw [Bool.and_eq_true, decide_eq_true_eq, decide_eq_true_eq] at h
  exact h
def cMul (i j : Int) : Bool := decide (i.natAbs.log2 + j.natAbs.log2 < 1000000)
def cPow (i j : Int) : Bool := decide (0 ≤ j) && decide ((Builtin.Int.intBits i : Int) * j ≤ 2 ^ 27)
theorem cPow_ok {i j : Int} (h : cPow i j = true) : CPowG i j := by
  unfold cPow at h
  rw [Bool.and_eq_true, decide_eq_true_eq, decide_eq_true_eq] at h
  exact h
def addI : D → D → Option D := i2 fun i j => some (.int (i + j))
def subD : D → D → Option D := i2 fun i j => some (.int (i - j))
def mulI : D → D → Option D := i2 fun i j => if cMul i j = true then some (.int (i * j)) else none
def divD : D → D → Option D := i2 fun i j => if cDiv i j = true then some (.int (i.fdiv j)) else none
def modD : D → D → Option D := i2 fun i j => if decide (j ≠ 0) = true then some (.int (i.fmod j)) else none
def powD : D → D → Option D := i2 fun i j => if cPow i j = true then some (.int (i ^ j.toNat)) else none
def ltD : D → D → Option D := i2 fun i j => some (.bl (decide (i < j)))
def leD : D → D → Option D := i2 fun i j => some (.bl (decide (i ≤ j)))
def gtD : D → D → Option D := i2 fun i j => some (.bl (decide (j < i)))
def geD : D → D → Option D := i2 fun i j => some (.bl (decide (j ≤ i)))
/-! ### lists and tuples together -/
def catL (x y : D) : Option D := match x, y with
  | .lst l, .lst m => if l.length + m.length ≤ 16000000 then some (.lst (l ++ m)) else none
  | _, _ => none
theorem ops_catL : OpS K rCat catL := fun x y z v u G H Q eS hx hy e k => by
  unfold catL at e
  split at e
  · rename_i l m
    obtain ⟨a, xs, rfl, h1, h2⟩ := hx
    obtain ⟨b, ys, rfl, h3, h4⟩ := hy
    split at e
    · rename_i hl
      cases e
      refine ⟨a, b, xs, ys, rfl, rfl, h1, h3, by rw [← h2.length, ← h4.length, sizeLine_eq]; omega, fun p hp => ?_⟩
      have N : New G H (upd G p (.lst (xs ++ ys))) (upd H p (.lst (xs ++ ys))) := New.put eS hp
      exact k _ _ _ N (.lst upd_same ((h2.append h4).mono N.g))
    · cases e
  · cases e
def catT (x y : D) : Option D := match x, y with
  | .tup l, .tup m => if l.length + m.length ≤ 16000000 then some (.tup (l ++ m)) else none
  | _, _ => none
theorem ops_catT : OpS K (rCatA K) catT := fun x y z v u G H Q eS hx hy e k => by
  unfold catT at e
  split at e
  · rename_i l m
    cases hx with
    | @tup l a xs h1 h2 =>
      cases hy with
      | @tup m b ys h3 h4 =>
        split at e
        · rename_i hl
          cases e
          refine ⟨a, b, xs, ys, rfl, rfl, Evl.ex_t eS h1, Evl.ex_t eS h3, by rw [← h2.length, ← h4.length, sizeLine_eq]; omega, fun z => ?_, fun z1 z2 => ?_, fun z1 z2 p hp => ?_⟩
          · subst z
            cases h2
            exact k _ G H (New.refl eS) (.tup h3 h4)
          · subst z2
            cases h4
            rw [List.append_nil] at *
            exact k _ G H (New.refl eS) (.tup h1 h2)
          · have N : New G H (upd G p (.tup (xs ++ ys))) (upd H p (.tup (xs ++ ys))) := New.put eS hp
            exact k _ _ _ N (.tup (Evl.st_of upd_same) ((h2.append h4).mono N.g))
        · cases e
  · cases e
def repL (x y : D) : Option D := match x, y with
  | .lst l, .int n => if n < 2 ^ 62 ∧ -(2 ^ 62) ≤ n ∧ l.length * n.toNat ≤ 16000000 then some (.lst (List.replicate n.toNat l).flatten) else none
  | _, _ => none
theorem ops_repL : OpS K rRep repL := fun x y z v u G H Q eS hx hy e k => by
  unfold repL at e
  split at e
  · rename_i l n
    obtain ⟨a, xs, rfl, h1, h2⟩ := hx
    cases hy
    split at e
    · rename_i hl
      cases e
      refine ⟨a, n, xs, rfl, rfl, h1, by omega, by omega, by rw [← h2.length, sizeLine_eq]; omega, fun p hp => ?_⟩
      have N : New G H (upd G p (.lst (List.replicate n.toNat xs).flatten)) (upd H p (.lst (List.replicate n.toNat xs).flatten)) := New.put eS hp
      exact k _ _ _ N (.lst upd_same ((h2.rep _).mono N.g))
    · cases e
  · cases e
def repT (x y : D) : Option D := match x, y with
  | .tup l, .int n => if 2 ≤ n ∧ n ≤ 1000 ∧ l.length ≤ 1000 ∧ l.length ≠ 0 then some (.tup (List.replicate n.toNat l).flatten) else none
  | _, _ => none
theorem ops_repT : OpS K (rRepT K) repT := fun x y z v u G H Q eS hx hy e k => by
  unfold repT at e
  split at e
  · rename_i l n
    cases hx with
    | @tup l a xs h1 h2 =>
      cases hy
      split at e
      · rename_i hl
        cases e
        obtain ⟨hl1, hl2, hl3, hl4⟩ := hl
        refine ⟨a, n, xs, rfl, rfl, Evl.ex_t eS h1, fun z => ?_, hl1, hl2, by rw [← h2.length]; exact hl3, fun p hp => ?_⟩
        · rw [h2.length, z] at hl4; exact hl4 rfl
        · have N : New G H (upd G p (.tup (List.replicate n.toNat xs).flatten)) (upd H p (.tup (List.replicate n.toNat xs).flatten)) := New.put eS hp
          exact k _ _ _ N (.tup (Evl.st_of upd_same) ((h2.rep _).mono N.g))
      · cases e
  · cases e
/-! ### equality -/
mutual
def toP : D → Option PyData
  | .non => some .none
  | .bl b => some (.bool b)
  | .int i => some (.int i)
  | .str x => some (.str x)
  | .lst l => (toPs l).map .list
  | .fro l => (toPs l).map .list
  | .tup l => (toPs l).map .tuple
  | .dic _ => none
def toPs : List D → Option (List PyData)
  | [] => some []
  | d :: l => match toP d with
    | none => none
    | some p => (toPs l).map (p :: ·)
end
section
variable {G H : Hp}
mutual
theorem dp_of (eS : Evl.Ex G H) : ∀ {d : D} {v : V} {p : PyData}, Is K G d v → toP d = some p → Dp K H v p
  | _, _, _, .non, e => by cases e; exact .non
  | _, _, _, .bl b, e => by cases e; exact .bl b
  | _, _, _, .int i, e => by cases e; exact .int i
  | _, _, _, .str x, e => by cases e; exact .str x
  | .lst l, _, p, .lst h r, e => by
    unfold toP at e
    cases q : toPs l with
    | none => rw [q] at e; cases e
    | some ps => rw [q] at e; cases e; exact .lst (Evl.sq_of (eS _ _ h)) (dps_of eS r q)
  | .fro l, _, p, .fro h r, e => by
    unfold toP at e
    cases q : toPs l with
    | none => rw [q] at e; cases e
    | some ps => rw [q] at e; cases e; exact .lst (Evl.ex_l eS h) (dps_of eS r q)
  | .tup l, _, p, .tup h r, e => by
    unfold toP at e
    cases q : toPs l with
    | none => rw [q] at e; cases e
    | some ps => rw [q] at e; cases e; exact .tup (Evl.ex_t eS h) (dps_of eS r q)
  | .dic l, _, p, .dic h r, e => by unfold toP at e; cases e
theorem dps_of (eS : Evl.Ex G H) : ∀ {l : List D} {xs : List V} {ps : List PyData}, Iss K G l xs → toPs l = some ps → DpAll K H xs ps
  | _, _, _, .nil, e => by unfold toPs at e; cases e; exact .nil
  | d :: l, _, ps, .cons h r, e => by
    unfold toPs at e
    cases q : toP d with
    | none => rw [q] at e; cases e
    | some p =>
      rw [q] at e
      cases q2 : toPs l with
      | none => rw [q2] at e; cases e
      | some ps' => rw [q2] at e; cases e; exact .cons (dp_of eS h q) (dps_of eS r q2)
end
theorem dp_top (eS : Evl.Ex G H) {d : D} {v : V} {p : PyData} (h : Top K G H d v) (e : toP d = some p) : Dp K H v p := dp_of (fun _ _ q => q) (h.is eS) e
end
def eqP (x y : D) : Option Bool := match toP x, toP y with
  | some p, some q => if SeqAt.shaped p = true ∧ SeqAt.shaped q = true then some (p.eqv q) else none
  | _, _ => none
def eqD1 (x y : D) : Option D := (eqP x y).map .bl
def neD1 (x y : D) : Option D := (eqP x y).map fun b => .bl (!b)
theorem eqP_of {x y : D} {b : Bool} (h : eqP x y = some b) : ∃ p q, toP x = some p ∧ toP y = some q ∧ SeqAt.shaped p = true ∧ SeqAt.shaped q = true ∧ b = p.eqv q := by
  unfold eqP at h
  split at h
  · rename_i p q e1 e2
    split at h
    · rename_i hs
      cases h
      exact ⟨p, q, e1, e2, hs.1, hs.2, rfl⟩
    · cases h
  · cases h
theorem ops_eq1 : OpS K (rEqD K) eqD1 := fun x y z v u G H Q eS hx hy e k => by
  unfold eqD1 at e
  cases q : eqP x y with
  | none => rw [q] at e; cases e
  | some b =>
    rw [q] at e
    cases e
    obtain ⟨p, r, e1, e2, s1, s2, rfl⟩ := eqP_of q
    exact ⟨p, r, dp_top eS hx e1, dp_top eS hy e2, s1, s2, k _ G H (New.refl eS) (.bl _)⟩
theorem ops_ne1 : OpS K (rNeD K) neD1 := fun x y z v u G H Q eS hx hy e k => by
  unfold neD1 at e
  cases q : eqP x y with
  | none => rw [q] at e; cases e
  | some b =>
    rw [q] at e
    cases e
    obtain ⟨p, r, e1, e2, s1, s2, rfl⟩ := eqP_of q
    exact ⟨p, r, dp_top eS hx e1, dp_top eS hy e2, s1, s2, k _ G H (New.refl eS) (.bl _)⟩
/-! ### built-in functions -/
def lenD (xs : List D) : Option D := match xs with
  | [.lst l] => some (.int l.length)
  | [.fro l] => some (.int l.length)
  | [.tup l] => some (.int l.length)
  | _ => none
theorem tops1 {G H : Hp} {d : D} {vs : List V} (h : Tops K G H [d] vs) : ∃ v, vs = [v] ∧ Top K G H d v := by
  cases h with
  | cons h r => cases r; exact ⟨_, rfl, h⟩
theorem tops2 {G H : Hp} {d e : D} {vs : List V} (h : Tops K G H [d, e] vs) : ∃ v u, vs = [v, u] ∧ Top K G H d v ∧ Top K G H e u := by
  cases h with
  | cons h r => cases r with | cons h2 r2 => cases r2; exact ⟨_, _, rfl, h, h2⟩
def rLen (K : PySem.W.Frag) : List V → Hp → VK → Prop := fun xs H Q => ∃ p ys, xs = [.ref p] ∧ (SqL K H p ys ∨ SqT K H p ys) ∧ Q (.int ys.length) H
theorem cas_len : CaS K (rLen K) lenD := fun xs z vs G H Q eS hx e k => by
  unfold lenD at e
  split at e
  · obtain ⟨v, rfl, a, ys, rfl, h1, h2⟩ := tops1 hx
    cases e
    exact ⟨a, ys, rfl, .inl (Evl.sq_of h1), k _ G H (New.refl eS) (by rw [h2.length]; exact .int _)⟩
  · obtain ⟨v, rfl, h⟩ := tops1 hx
    cases e
    cases h with
    | fro h1 h2 => exact ⟨_, _, rfl, .inl (Evl.ex_l eS h1), k _ G H (New.refl eS) (by rw [h2.length]; exact .int _)⟩
  · obtain ⟨v, rfl, h⟩ := tops1 hx
    cases e
    cases h with
    | tup h1 h2 => exact ⟨_, _, rfl, .inr (Evl.ex_t eS h1), k _ G H (New.refl eS) (by rw [h2.length]; exact .int _)⟩
  · cases e
def absD (xs : List D) : Option D := match xs with
  | [.int i] => some (.int (if i < 0 then -i else i))
  | _ => none
def rAbs : List V → Hp → VK → Prop := fun xs H Q => ∃ i, xs = [.int i] ∧ Q (.int (if i < 0 then -i else i)) H
theorem cas_abs : CaS K rAbs absD := fun xs z vs G H Q eS hx e k => by
  unfold absD at e
  split at e
  · obtain ⟨v, rfl, h⟩ := tops1 hx
    cases h; cases e
    exact ⟨_, rfl, k _ G H (New.refl eS) (.int _)⟩
  · cases e
def intD (xs : List D) : Option D := match xs with
  | [.int i] => some (.int i)
  | [.bl b] => some (.int (if b then 1 else 0))
  | _ => none
def rInt1 : List V → Hp → VK → Prop := fun xs H Q => (∃ i, xs = [.int i] ∧ Q (.int i) H) ∨ ∃ k, xs = [.bl k] ∧ Q (.int (if k then 1 else 0)) H
theorem cas_int : CaS K rInt1 intD := fun xs z vs G H Q eS hx e k => by
  unfold intD at e
  split at e
  · obtain ⟨v, rfl, h⟩ := tops1 hx
    cases h; cases e
    exact .inl ⟨_, rfl, k _ G H (New.refl eS) (.int _)⟩
  · obtain ⟨v, rfl, h⟩ := tops1 hx
    cases h; cases e
    exact .inr ⟨_, rfl, k _ G H (New.refl eS) (.int _)⟩
  · cases e
def max2D (xs : List D) : Option D := match xs with
  | [.int i, .int j] => some (.int (if j > i then j else i))
  | _ => none
def min2D (xs : List D) : Option D := match xs with
  | [.int i, .int j] => some (.int (if j < i then j else i))
  | _ => none
def rMax2 : List V → Hp → VK → Prop := fun xs H Q => ∃ i j, xs = [.int i, .int j] ∧ Q (.int (if j > i then j else i)) H
def rMin2 : List V → Hp → VK → Prop := fun xs H Q => ∃ i j, xs = [.int i, .int j] ∧ Q (.int (if j < i then j else i)) H
theorem cas_max2 : CaS K rMax2 max2D := fun xs z vs G H Q eS hx e k => by
  unfold max2D at e
  split at e
  · obtain ⟨v, u, rfl, h1, h2⟩ := tops2 hx
    cases h1; cases h2; cases e
    exact ⟨_, _, rfl, k _ G H (New.refl eS) (.int _)⟩
  · cases e
theorem cas_min2 : CaS K rMin2 min2D := fun xs z vs G H Q eS hx e k => by
  unfold min2D at e
  split at e
  · obtain ⟨v, u, rfl, h1, h2⟩ := tops2 hx
    cases h1; cases h2; cases e
    exact ⟨_, _, rfl, k _ G H (New.refl eS) (.int _)⟩
  · cases e
def gcdD (xs : List D) : Option D := match xs with
  | [.int i, .int j] => some (.int ((Nat.gcd i.natAbs j.natAbs : Nat) : Int))
  | _ => none
theorem cas_gcd : CaS K rGcd gcdD := fun xs z vs G H Q eS hx e k => by
  unfold gcdD at e
  split at e
  · obtain ⟨v, u, rfl, h1, h2⟩ := tops2 hx
    cases h1; cases h2; cases e
    exact ⟨_, _, rfl, k _ G H (New.refl eS) (.int _)⟩
  · cases e
/-- all whole numbers, all truth values -/
def intsD : List D → Option (List Int)
  | [] => some []
  | .int i :: l => match intsD l with
    | some r => some (i :: r)
    | none => none
  | _ :: _ => none
theorem intsD_of : ∀ {l : List D} {ns : List Int}, intsD l = some ns → l = ns.map D.int
  | [], _, e => by cases e; rfl
  | .int i :: l, ns, e => by
    unfold intsD at e
    split at e
    · rename_i r q; cases e; rw [intsD_of q]; rfl
    · cases e
  | .non :: _, _, e => by cases e
  | .bl _ :: _, _, e => by cases e
  | .str _ :: _, _, e => by cases e
  | .tup _ :: _, _, e => by cases e
  | .lst _ :: _, _, e => by cases e
  | .dic _ :: _, _, e => by cases e
  | .fro _ :: _, _, e => by cases e
theorem intsD_map : ∀ ns : List Int, intsD (ns.map D.int) = some ns
  | [] => rfl
  | n :: r => by show (match intsD (r.map D.int) with | some r => some (n :: r) | none => none) = _; rw [intsD_map r]
def bls : List D → Option (List Bool)
  | [] => some []
  | .bl i :: l => match bls l with
    | some r => some (i :: r)
    | none => none
  | _ :: _ => none
theorem bls_of : ∀ {l : List D} {ns : List Bool}, bls l = some ns → l = ns.map D.bl
  | [], _, e => by cases e; rfl
  | .bl i :: l, ns, e => by
    unfold bls at e
    split at e
    · rename_i r q; cases e; rw [bls_of q]; rfl
    · cases e
  | .non :: _, _, e => by cases e
  | .int _ :: _, _, e => by cases e
  | .str _ :: _, _, e => by cases e
  | .tup _ :: _, _, e => by cases e
  | .lst _ :: _, _, e => by cases e
  | .dic _ :: _, _, e => by cases e
  | .fro _ :: _, _, e => by cases e
theorem bls_map : ∀ ns : List Bool, bls (ns.map D.bl) = some ns
  | [] => rfl
  | n :: r => by show (match bls (r.map D.bl) with | some r => some (n :: r) | none => none) = _; rw [bls_map r]
def listOf (d : D) : Option (List D) := match d with
  | .lst l => some l
  | .fro l => some l
  | _ => none
theorem listOf_top {G H : Hp} {d : D} {l : List D} {v : V} (eS : Evl.Ex G H) (h : Top K G H d v) (e : listOf d = some l) : ∃ a xs, v = .ref a ∧ SqL K H a xs ∧ Iss K G l xs := by
  cases d with
  | lst m => cases e; obtain ⟨a, xs, rfl, h1, h2⟩ := h; exact ⟨a, xs, rfl, Evl.sq_of h1, h2⟩
  | fro m => cases e; cases h with | fro h1 h2 => exact ⟨_, _, rfl, Evl.ex_l eS h1, h2⟩
  | _ => cases e
def sumD (xs : List D) : Option D := match xs with
  | [d] => match listOf d with
    | some l => (intsD l).map fun ns => .int ns.sum
    | none => none
  | _ => none
theorem cas_sum : CaS K (rSum K) sumD := fun xs z vs G H Q eS hx e k => by
  unfold sumD at e
  split at e
  · rename_i d
    split at e
    · rename_i l e1
      obtain ⟨v, rfl, h⟩ := tops1 hx
      obtain ⟨a, ys, rfl, h1, h2⟩ := listOf_top eS h e1
      cases q : intsD l with
      | none => rw [q] at e; cases e
      | some ns =>
        rw [q] at e; cases e
        rw [intsD_of q] at h2
        exact ⟨a, ns, rfl, by rw [← h2.ints]; exact h1, k _ G H (New.refl eS) (.int _)⟩
    · cases e
  · cases e
def allD (xs : List D) : Option D := match xs with
  | [d] => match listOf d with
    | some l => (bls l).map fun ns => .bl (ns.all id)
    | none => none
  | _ => none
theorem cas_all : CaS K (rAll K) allD := fun xs z vs G H Q eS hx e k => by
  unfold allD at e
  split at e
  · rename_i d
    split at e
    · rename_i l e1
      obtain ⟨v, rfl, h⟩ := tops1 hx
      obtain ⟨a, ys, rfl, h1, h2⟩ := listOf_top eS h e1
      cases q : bls l with
      | none => rw [q] at e; cases e
      | some ns =>
        rw [q] at e; cases e
        rw [bls_of q] at h2
        exact ⟨a, ns, rfl, by rw [← h2.bls]; exact h1, k _ G H (New.refl eS) (.bl _)⟩
    · cases e
  · cases e
def anyD (xs : List D) : Option D := match xs with
  | [d] => match listOf d with
    | some l => (bls l).map fun ns => .bl (ns.any id)
    | none => none
  | _ => none
theorem cas_any : CaS K (rAny K) anyD := fun xs z vs G H Q eS hx e k => by
  unfold anyD at e
  split at e
  · rename_i d
    split at e
    · rename_i l e1
      obtain ⟨v, rfl, h⟩ := tops1 hx
      obtain ⟨a, ys, rfl, h1, h2⟩ := listOf_top eS h e1
      cases q : bls l with
      | none => rw [q] at e; cases e
      | some ns =>
        rw [q] at e; cases e
        rw [bls_of q] at h2
        exact ⟨a, ns, rfl, by rw [← h2.bls]; exact h1, k _ G H (New.refl eS) (.bl _)⟩
    · cases e
  · cases e
/-- tuple(xs) -/
def tupD (xs : List D) : Option D := match xs with
  | [.lst l] => some (.tup l)
  | [.fro l] => some (.tup l)
  | [.tup l] => some (.tup l)
  | _ => none
def rTupOf (K : PySem.W.Frag) : List V → Hp → VK → Prop := fun xs H Q => ∃ p ys, xs = [.ref p] ∧ ((SqL K H p ys ∧ ∀ l, H l = none → Q (.ref l) (upd H l (.tup ys))) ∨ (SqT K H p ys ∧ Q (.ref p) H))
theorem cas_tup : CaS K (rTupOf K) tupD := fun xs z vs G H Q eS hx e k => by
  have go : ∀ {l : List D} {ys : List V}, Iss K G l ys → z = .tup l → ∀ p, H p = none → Q (.ref p) (upd H p (.tup ys)) := fun {l ys} r ez p hp => by
    subst ez
    have N : New G H (upd G p (.tup ys)) (upd H p (.tup ys)) := New.put eS hp
    exact k _ _ _ N (.tup (Evl.st_of upd_same) (r.mono N.g))
  unfold tupD at e
  split at e
  · obtain ⟨v, rfl, a, ys, rfl, h1, h2⟩ := tops1 hx
    cases e
    exact ⟨a, ys, rfl, .inl ⟨Evl.sq_of h1, go h2 rfl⟩⟩
  · obtain ⟨v, rfl, h⟩ := tops1 hx
    cases e
    cases h with
    | fro h1 h2 => exact ⟨_, _, rfl, .inl ⟨Evl.ex_l eS h1, go h2 rfl⟩⟩
  · obtain ⟨v, rfl, h⟩ := tops1 hx
    cases e
    cases h with
    | tup h1 h2 => exact ⟨_, _, rfl, .inr ⟨Evl.ex_t eS h1, k _ G H (New.refl eS) (.tup h1 h2)⟩⟩
  · cases e
end DF

namespace DF
open PySem PySem.Spec PyProof.Rows L2
/-! ### isinstance(x, T), T a built-in type -/
def tyN : D → String
  | .non => "NoneType" | .bl _ => "bool" | .int _ => "int" | .str _ => "str" | .tup _ => "tuple" | .lst _ => "list" | .dic _ => "dict" | .fro _ => "list"
theorem tyX_of {K : PySem.W.Frag} {G H : Hp} {d : D} {v : V} (eS : Evl.Ex G H) (h : Top K G H d v) : TyX K H v (.type (tyN d)) := by
  cases d with
  | non => cases h; exact .base .non
  | bl b => cases h; exact .base (.bl b)
  | int i => cases h; exact .base (.int i)
  | str x => cases h; exact .base (.str x)
  | tup l =>
    cases h with
    | tup h r =>
      rcases Evl.ex_t eS h with (h | ⟨o, h⟩) | ⟨o, its, n, h1, h2, _⟩
      · exact .base (.tup h)
      · exact .fTuple h
      · exact .kTuple h1 h2
  | lst l => obtain ⟨a, xs, rfl, h1, h2⟩ := h; exact .base (.lst h1)
  | dic l => obtain ⟨a, xs, rfl, h1, h2⟩ := h; exact .base (.dK h1)
  | fro l =>
    cases h with
    | fro h r =>
      rcases Evl.ex_l eS h with (h | ⟨o, h⟩) | ⟨o, its, n, h1, h2, _⟩
      · exact .base (.lst h)
      · exact .base (.frz h)
      · exact .kList h1 h2
def isiD (n : String) (d : D) : Option D := (kitB (tyN d) n).map .bl
def dIsi (n : String) (f : DEnv → R Th) : DEnv → R D := fun ρ => (f ρ).bind fun t ρ1 => match t ρ1 with
  | some d => ofO ρ1 (isiD n d)
  | none => .no
theorem de_isi {X : Cx} {W : WX} {a c : Expr} {f : DEnv → R Th} {n : String} {p pos : Pos} (ha : DO X W a f) (hc : PE X c (tC (.ty n))) (hg : Gl X "isinstance") (hm : X.mg "isinstance" = none) (hv : bootBuiltins "isinstance" = some (.builtin "isinstance"))
    (h1 : starEach [a, c] X.env = (false, eval a X.env) :: starEach [c] X.env := by rfl) (h2 : starEach [c] X.env = (false, eval c X.env) :: starEach [] X.env := by rfl) (hpl : (backTo pos (starEach [c] X.env)).any (·.1) = false := by rfl) :
    DE X W (.Call (.Name "isinstance" p) [a, c] [] pos) (dIsi n f) :=
  pe_imp (pe_callB (x := "isinstance") call_isi hg hm hv (pa_cons ha (pa_cons hc pa_nil h2) h1) (by decide) (by decide) h1 hpl) fun σ H Q ⟨ρ, G, R, h⟩ => ⟨ρ, G, R, (Go.bind R h).imp fun t ρ1 G1 H1 s1 R1 h1 v hv => by
    split at h1
    · rename_i d e1
      unfold isiD at h1
      cases e2 : kitB (tyN d) n with
      | none => rw [e2] at h1; exact False.elim h1
      | some b =>
        rw [e2] at h1
        exact ⟨v, .ty n, _, _, b, rfl, .ty n, tyX_of R1.sub (hv ρ1 G1 H1 d .refl R1 e1), kit_ty e2, h1 G1 H1 .refl R1 _ (.bl b)⟩
    · exact False.elim h1⟩
/-! ### repr of a truth value, of a whole number -/
def rprD (xs : List D) : Option D := match xs with
  | [.bl b] => some (.str (if b then "True" else "False"))
  | [.int i] => if i.natAbs.log2 < 1920 then some (.str (toString i)) else none
  | _ => none
def rRpr : List V → Hp → VK → Prop := fun xs H Q => (∃ b, xs = [.bl b] ∧ Q (.str (if b then "True" else "False")) H) ∨ ∃ i, xs = [.int i] ∧ i.natAbs.log2 < 1920 ∧ Q (.str (toString i)) H
theorem call_rpr {X : Cx} : CallR X (.builtin "repr") rRpr := by
  intro pins s σ H xs us Q I r h
  rcases h with ⟨b, rfl, q⟩ | ⟨i, rfl, hz, q⟩
  · obtain ⟨u, rfl, r1⟩ := vals1 r
    cases r1
    exact PySem.P.repr_of_bool ⟨.str _, H, I.tok _, ⟨_, rfl⟩, q⟩
  · obtain ⟨u, rfl, t, rfl⟩ := vals1 r
    exact PySem.P.repr_of_int hz ⟨.str _, H, I.tok _, ⟨_, rfl⟩, q⟩
theorem cas_rpr {K : PySem.W.Frag} : CaS K rRpr rprD := fun xs z vs G H Q eS hx e k => by
  unfold rprD at e
  split at e
  · obtain ⟨v, rfl, h⟩ := tops1 hx
    cases h; cases e
    exact .inl ⟨_, rfl, k _ G H (New.refl eS) (.str _)⟩
  · obtain ⟨v, rfl, h⟩ := tops1 hx
    cases h
    split at e
    · rename_i hz
      cases e
      exact .inr ⟨_, rfl, hz, k _ G H (New.refl eS) (.str _)⟩
    · cases e
  · cases e
/-! ### isqrt -/
def sqrtD (xs : List D) : Option D := match xs with
  | [.int i] => if 0 ≤ i ∧ i < 2 ^ 64 then some (.int ((Float64.isqrt i.toNat : Nat) : Int)) else none
  | _ => none
def rSqrt : List V → Hp → VK → Prop := fun xs H Q => ∃ i, xs = [.int i] ∧ 0 ≤ i ∧ i < 2 ^ 64 ∧ Q (.int ((Float64.isqrt i.toNat : Nat) : Int)) H
theorem call_sqrt {X : Cx} : CallR X (.builtin "math.isqrt") rSqrt := by
  intro pins s σ H xs us Q I r h
  obtain ⟨i, rfl, h0, h1, q⟩ := h
  obtain ⟨u, rfl, t, rfl⟩ := vals1 r
  exact PySem.W.mg_isqrt h0 h1 ⟨.int _, H, I.tok _, ⟨_, rfl⟩, q⟩
theorem cas_sqrt {K : PySem.W.Frag} : CaS K rSqrt sqrtD := fun xs z vs G H Q eS hx e k => by
  unfold sqrtD at e
  split at e
  · obtain ⟨v, rfl, h⟩ := tops1 hx
    cases h
    split at e
    · rename_i hz
      cases e
      exact ⟨_, rfl, hz.1, hz.2, k _ G H (New.refl eS) (.int _)⟩
    · cases e
  · cases e
/-! ### a, b = x, y -/
def set2 (i j : Nat) (d e : D) (ρ : DEnv) : Option DEnv := match setV i d ρ with
  | none => none
  | some ρ1 => setV j e ρ1
def dPar (i j : Nat) (f : DEnv → R (List D)) : DEnv → SR := fun ρ => (f ρ).bindS fun l ρ' => match l with
  | [d, e] => match set2 i j d e ρ' with
    | none => .no
    | some ρ2 => .nx ρ2
  | _ => .no
theorem ds_par {X : Cx} {W : WX} {i j : Nat} {x y : Str} {a b : Expr} {f : DEnv → R (List D)} {px py pt pos : Pos} {kt k2 pt2} (hc : X.calm = true) (hN : X.N.Nodup) (hi : X.N[i]? = some x) (hj : X.N[j]? = some y) (hij : i ≠ j)
    (hx : X.env.scope.names.lookup x = some .local) (hy : X.env.scope.names.lookup y = some .local) (ha : DVs X W [a, b] f)
    (hw : swappedStores [.Tuple [.Name x px, .Name y py] kt pt] (.Tuple [a, b] k2 pt2) X.env = pure (some [x, y]))
    (hs : swapsWithSole [.Tuple [.Name x px, .Name y py] kt pt] (.Tuple [a, b] k2 pt2) pos.line X.env = pure false := by rfl) :
    DS X W (.Assign [.Tuple [.Name x px, .Name y py] kt pt] (.Tuple [a, b] k2 pt2) pos) (dPar i j f) :=
  ps_imp (ps_par hc hN hi hj hij hx hy ha hw hs) fun E σ H ⟨ρ, G, R, h⟩ => ⟨ρ, G, R, (Go.bindS R h).imp fun l ρ' G' H' s R' h vs hv => by
    split at h
    · rename_i d e
      cases hv with
      | cons h1 h2 => cases h2 with
        | cons h3 h4 =>
          cases h4
          unfold set2 at h
          cases e1 : setV i d ρ' with
          | none => rw [e1] at h; exact False.elim h
          | some ρ1 =>
            rw [e1] at h
            dsimp only at h
            cases e2 : setV j e ρ1 with
            | none => rw [e2] at h; exact False.elim h
            | some ρ2 =>
              rw [e2] at h
              have R1 := R'.setV e1 h1
              refine ⟨_, _, rfl, ?_⟩
              exact h _ G' H' ((Stp.setV R' e1).trans R' (Stp.setV R1 e2)) (R1.setV e2 h3)
    · exact False.elim h⟩
/-! ### {} -/
def dDic0 : DEnv → R D := fun ρ => .ok ρ (.dic [])
theorem df_dic0 {X : Cx} {W : WX} {pos : Pos} : DF' X W (.Dict [] [] pos) dDic0 := pe_imp pe_dnewK fun σ H Q ⟨ρ, G, R, h⟩ p hp => by
  have N : New G H G (upd H p (.dK [])) := New.hid R.sub hp
  have no : ∀ b, ¬ Mu b ρ σ p := fun b ⟨i, d, e1, e2⟩ => by
    obtain ⟨a, e3, _, e4⟩ := R.mu i b d e1
    rw [e2] at e3; cases e3
    obtain ⟨o, ho⟩ := e4.there
    rw [hp] at ho; cases ho
  exact h _ _ (N.stp R) (N.rep R) p (sub_none R.sub hp) (no false) (no true) hp ⟨[], upd_same, .nil⟩
/-! ### what a row's text has -/
structure Has (P : Program) (w : World) (K : PySem.W.Frag) (mg : Str → Option Value) (base : Heap) (x : Str) (k : Nat) (ps : List Str) (F : Fn) : Prop where
  ex : ∃ (f : Addr) (fd : FuncData), mg x = some (.ref f) ∧ PySem.W.keepIn K (.ref f) = true ∧ Binds K fd ps [] ∧ FnOk P w K mg base (L2.CX P w) k f fd ps (spD K ps.length F)
section
variable {X : Cx} {W : WX} {e : Expr} {es : List Expr} {x : Str} {p pos : Pos} {k j : Nat} {ps : List Str} {F : Fn} {f : DEnv → R (List AD)}
theorem dx_has (h : Has X.prog X.w X.K X.mg X.base x j ps F) (hr : Room k X.A) (hj : j ≤ k) (tk : Takes X W) (hg : Gl X x)
    (ha : DR X W (e :: es) f) (hdb : (x == ("__debug__" : Str)) = false := by decide) (he : starEach (e :: es) X.env = (false, eval e X.env) :: starEach es X.env := by rfl) (hpl : (backTo pos (starEach es X.env)).any (·.1) = false := by rfl) :
    DX X W (.Call (.Name x p) (e :: es) [] pos) (dCal2 ps.length F f) := by
  obtain ⟨fa, fd, hm, hk, hb, FO⟩ := h.ex
  exact dx_call FO (hr.mono hj) tk hg hm hk hb ha hdb he hpl
theorem dx_hasN (h : Has X.prog X.w X.K X.mg X.base x j ps F) (hr : Room k X.A) (hj : j ≤ k) (hg : Gl X x)
    (ha : DR X WN (e :: es) f) (hdb : (x == ("__debug__" : Str)) = false := by decide) (he : starEach (e :: es) X.env = (false, eval e X.env) :: starEach es X.env := by rfl) (hpl : (backTo pos (starEach es X.env)).any (·.1) = false := by rfl) {ar : Nat} (har : ps.length = ar := by rfl) :
    DX X WN (.Call (.Name x p) (e :: es) [] pos) (dCal2 ar F f) := by
  subst har
  obtain ⟨fa, fd, hm, hk, hb, FO⟩ := h.ex
  exact dx_callN FO (hr.mono hj) hg hm hk hb ha hdb he hpl
end
end DF

namespace DF
open PySem PySem.Spec PyProof.Rows L2
section
variable {X : Cx} {W : WX} {a b e : Expr} {es : List Expr} {x : Str} {id T : String} {p pos : Pos} {r : List V → Hp → VK → Prop} {g : List D → Option D} {f : DEnv → R (List Th)}
theorem de_callB (hc : CallR X (.builtin id) r) (hs : CaS X.K r g) (hg : Gl X x) (hm : X.mg x = none) (hv : bootBuiltins x = some (.builtin id)) (ha : DA X W (e :: es) f) (hn : x ≠ "__name__" := by decide) (hdb : (x == ("__debug__" : Str)) = false := by decide)
    (he : starEach (e :: es) X.env = (false, eval e X.env) :: starEach es X.env := by rfl) (hpl : (backTo pos (starEach es X.env)).any (·.1) = false := by rfl) : DE X W (.Call (.Name x p) (e :: es) [] pos) (dCal g f) :=
  pe_imp (pe_callB hc hg hm hv ha hn hdb he hpl) (tcal hs)
theorem de_callTy (hc : CallR X (.type T) r) (hs : CaS X.K r g) (hg : Gl X x) (hm : X.mg x = none) (hv : bootBuiltins x = some (.type T)) (ha : DA X W (e :: es) f) (hn : x ≠ "__name__" := by decide) (hdb : (x == ("__debug__" : Str)) = false := by decide)
    (he : starEach (e :: es) X.env = (false, eval e X.env) :: starEach es X.env := by rfl) (hpl : (backTo pos (starEach es X.env)).any (·.1) = false := by rfl) : DE X W (.Call (.Name x p) (e :: es) [] pos) (dCal g f) :=
  pe_imp (pe_callTy hc hg hm hv ha hn hdb he hpl) (tcal hs)
theorem de_callM (hc : CallR X (.builtin id) r) (hs : CaS X.K r g) (hg : Gl X x) (hm : X.mg x = some (.builtin id)) (ha : DA X W (e :: es) f) (hdb : (x == ("__debug__" : Str)) = false := by decide)
    (he : starEach (e :: es) X.env = (false, eval e X.env) :: starEach es X.env := by rfl) (hpl : (backTo pos (starEach es X.env)).any (·.1) = false := by rfl) : DE X W (.Call (.Name x p) (e :: es) [] pos) (dCal g f) :=
  pe_imp (pe_callBfun hc hg hm ha hdb he hpl) (tcal hs)
theorem pe_tyn (hg : Gl X x) (hm : X.mg x = none) (hv : bootBuiltins x = some (.type T)) (hn : x ≠ "__name__" := by decide) (hdb : (x == ("__debug__" : Str)) = false := by decide) : PE X (.Name x pos) (tC (.ty T)) :=
  ⟨fun pins s σ H Q I h => ld_blt I hg hm hv ⟨.ty T, H, I, rfl, h⟩ hn hdb⟩
end
/-! ### -x -/
def negD (x : D) : Option D := match x with
  | .int i => some (.int (-i))
  | _ => none
theorem uns_neg {K : PySem.W.Frag} : UnS K (rU fun i => .int (-i)) negD := fun x z v G H Q eS hx e k => by
  unfold negD at e
  split at e
  · cases hx; cases e
    exact ⟨_, rfl, k _ G H (New.refl eS) (.int _)⟩
  · cases e
/-! ### xs[:k], xs[k:] of lists -/
def cutD (l : List D) (lo hi : Option Int) : List D := (l.drop (HT.sIx l.length 0 lo)).take (HT.sIx l.length l.length hi - HT.sIx l.length 0 lo)
theorem cut_iss {K : PySem.W.Frag} {G : Hp} {l : List D} {xs : List V} {lo hi : Option Int} (h : Iss K G l xs) : Iss K G (cutD l lo hi) (cutV xs lo hi) := by
  unfold cutD cutV
  rw [← h.length]
  exact (h.drop _).take _
/-- a part of a slice: nothing, or a constant -/
structure CPart (X : Cx) (e : Option Expr) (i : Option Int) : Prop where
  h : ∃ t, PO X e t ∧ ∀ σ H Q, Q i H → t σ H Q
theorem cp_no {X : Cx} : CPart X none none := ⟨⟨_, po_none, fun _ _ _ q => q⟩⟩
theorem cp_int {X : Cx} {i : Int} {j pos} : CPart X (some (.Constant (.int i) j pos)) (some i) := ⟨⟨_, po_some pe_int, fun _ _ _ q => ⟨i, rfl, q⟩⟩⟩
def cutO (lo hi : Option Int) (x : D) : Option D := match listOf x with
  | some l => some (.lst (cutD l lo hi))
  | none => none
def dCut (lo hi : Option Int) (f : DEnv → R Th) : DEnv → R D := dUn (cutO lo hi) f
theorem de_cut {X : Cx} {W : WX} {e : Expr} {elo ehi : Option Expr} {p2 pos : Pos} {lo hi : Option Int} {f : DEnv → R Th} (h : DO X W e f) (hl : CPart X elo lo) (hu : CPart X ehi hi) : DE X W (.Subscript e (.Slice elo ehi none p2) pos) (dCut lo hi f) := by
  obtain ⟨tl, h1, h2⟩ := hl.h
  obtain ⟨tu, h3, h4⟩ := hu.h
  refine pe_imp (pe_slice sl_list h h1 h3) fun σ H Q ⟨ρ, G, R, h⟩ => ⟨ρ, G, R, (Go.bind R h).imp fun t ρ' G' H' s R' h v hv => ?_⟩
  split at h
  · rename_i d e1
    unfold cutO at h
    cases e2 : listOf d with
    | none => rw [e2] at h; exact False.elim h
    | some l =>
      rw [e2] at h
      obtain ⟨a, xs, rfl, q1, q2⟩ := listOf_top R'.sub (hv ρ' G' H' d .refl R' e1) e2
      refine h2 _ _ _ (h4 _ _ _ ⟨a, xs, rfl, q1, fun p hp => ?_⟩)
      have N : New G' H' (upd G' p (.lst (cutV xs lo hi))) (upd H' p (.lst (cutV xs lo hi))) := New.put R'.sub hp
      exact h _ _ (N.stp R') (N.rep R') _ (.lst upd_same ((cut_iss q2).mono N.g))
  · exact False.elim h
/-! ### unions -/
section
variable {X : Cx}
def addD : D → D → Option D := orD addI (orD catL catT)
def mulD : D → D → Option D := orD mulI (orD repL repT)
end
/-! ### a, b, c = x, y, z -/
def set3 (i j k : Nat) (d e u : D) (ρ : DEnv) : Option DEnv := match setV i d ρ with
  | none => none
  | some ρ1 => match setV j e ρ1 with
    | none => none
    | some ρ2 => setV k u ρ2
def dPar3 (i j k : Nat) (f : DEnv → R (List D)) : DEnv → SR := fun ρ => (f ρ).bindS fun l ρ' => match l with
  | [d, e, u] => match set3 i j k d e u ρ' with
    | none => .no
    | some ρ2 => .nx ρ2
  | _ => .no
/-! ### the fuel of a while -/
def intsOf : D → Nat
  | .int i => i.natAbs
  | .tup l => go l
  | .lst l => go l
  | .fro l => go l
  | _ => 0
where go : List D → Nat
  | [] => 0
  | .int i :: l => i.natAbs + go l
  | _ :: l => go l
def fuel (as : List (Bool × D)) : Nat := as.foldl (fun n p => n + intsOf p.2) 1000
end DF
namespace DF
open PySem PySem.Spec PyProof.Rows L2
theorem mul_ok : ∀ i j : Int, cMul i j = true → CMulW i j := fun i j h => by unfold cMul at h; rw [decide_eq_true_eq] at h; exact h
end DF

namespace DF
open PySem PySem.Spec PyProof.Rows L2
theorem hsp_of {K : PySem.W.Frag} {F : Fn} {ns : List Int} {H : Hp} {a : Addr} (hF : F [(false, .fro (ns.map D.int))] = .ret false (.bl true) []) (hS : SqL K H a (ns.map V.int)) :
    spD K 1 F [.ref a] H (fun v _ => v = .bl true) (fun _ _ _ => False) := by
  refine ⟨rfl, H, [(false, .fro (ns.map D.int))], fun _ _ e => e, .val (.fro hS (Iss.of_ints ns)) .nil, List.nodup_nil, ?_⟩
  rw [hF]
  intro v G' H' _ _ h
  cases h
  rfl
theorem cx_end {P : Program} {w : World} {H : Hp} {s : Shared} {e : Value} {s' : Shared} (h : L2.CX P w [] H s (fun _ _ _ => False) e s') : False := by
  obtain ⟨_, _, _, _, _, _, _, _, _, _, _, _, h⟩ := h
  exact h
end DF

namespace DF
open PySem PySem.Spec PyProof.Rows L2
theorem dC_ap (d : D) (ρ : DEnv) : dC d ρ = .ok ρ d := rfl
theorem dVar_ap (i : Nat) (ρ : DEnv) : dVar i ρ = match ρ[i]? with
  | some (some (.val d)) => .ok ρ d
  | some (some (.mu false d)) => .ok (ρ.set i (some (.val d))) d
  | _ => .no := rfl
theorem oVar_ap (i : Nat) (ρ : DEnv) : oVar i ρ = match ρ[i]? with
  | some (some _) => .ok ρ (look i)
  | _ => .no := rfl
theorem oD_ap (f : DEnv → R D) (ρ : DEnv) : oD f ρ = (f ρ).bind fun d ρ' => .ok ρ' fun _ => some d := rfl
theorem aNil_ap  (ρ : DEnv) : aNil  ρ = .ok ρ [] := rfl
theorem aCons_ap (f : DEnv → R Th) (g : DEnv → R (List Th)) (ρ : DEnv) : aCons f g ρ = (f ρ).bind fun t ρ1 => (g ρ1).bind fun l ρ2 => .ok ρ2 (t :: l) := rfl
theorem vNil_ap  (ρ : DEnv) : vNil  ρ = .ok ρ [] := rfl
theorem vCons_ap (f : DEnv → R D) (g : DEnv → R (List D)) (ρ : DEnv) : vCons f g ρ = (f ρ).bind fun t ρ1 => (g ρ1).bind fun l ρ2 => .ok ρ2 (t :: l) := rfl
theorem dBin_ap (g : D → D → Option D) (fa fb : DEnv → R Th) (ρ : DEnv) : dBin g fa fb ρ = (fa ρ).bind fun ta ρ1 => (fb ρ1).bind fun tb ρ2 => match ta ρ2, tb ρ2 with
  | some x, some y => ofO ρ2 (g x y)
  | _, _ => .no := rfl
theorem dTst_ap (f : DEnv → R D) (ρ : DEnv) : dTst f ρ = (f ρ).bind fun d ρ' => match d with
  | .bl b => .ok ρ' b
  | _ => .no := rfl
theorem dUn_ap (g : D → Option D) (fa : DEnv → R Th) (ρ : DEnv) : dUn g fa ρ = (fa ρ).bind fun ta ρ1 => match ta ρ1 with
  | some x => ofO ρ1 (g x)
  | none => .no := rfl
theorem dCal_ap (g : List D → Option D) (f : DEnv → R (List Th)) (ρ : DEnv) : dCal g f ρ = (f ρ).bind fun l ρ1 => match ths l ρ1 with
  | some xs => ofO ρ1 (g xs)
  | none => .no := rfl
theorem dSeq_ap (f g : DEnv → SR) (ρ : DEnv) : dSeq f g ρ = (f ρ).bind g := rfl
theorem dNever_ap  (ρ : DEnv) : dNever  ρ = .no := rfl
theorem dIf_ap (c : DEnv → R Bool) (f g : DEnv → SR) (ρ : DEnv) : dIf c f g ρ = (c ρ).bindS fun b ρ' => match b with
  | true => f ρ'
  | false => g ρ' := rfl
theorem dRet_ap (f : DEnv → R D) (ρ : DEnv) : dRet f ρ = (f ρ).bindS fun d ρ' => .ret ρ' false d := rfl
theorem dRetF_ap (f : DEnv → R D) (ρ : DEnv) : dRetF f ρ = (f ρ).bindS fun d ρ' => .ret ρ' true d := rfl
theorem dRetN_ap  (ρ : DEnv) : dRetN  ρ = .ret ρ false .non := rfl
theorem dRetV_ap (i : Nat) (ρ : DEnv) : dRetV i ρ = match ρ[i]? with
  | some (some (.val d)) => .ret ρ false d
  | some (some (.mu false d)) => .ret ρ true d
  | _ => .no := rfl
theorem dExpr_ap (f : DEnv → R D) (ρ : DEnv) : dExpr f ρ = (f ρ).bindS fun _ ρ' => .nx ρ' := rfl
theorem dSet_ap (i : Nat) (f : DEnv → R D) (ρ : DEnv) : dSet i f ρ = (f ρ).bindS fun d ρ' => match setV i d ρ' with
  | none => .no
  | some ρ2 => .nx ρ2 := rfl
theorem dSetF_ap (i : Nat) (f : DEnv → R D) (ρ : DEnv) : dSetF i f ρ = match f ρ with
  | .no => .no
  | .ex ρ' e => .ex ρ' e
  | .ok ρ' d => match setF i d ρ' with
    | none => .no
    | some ρ2 => .nx ρ2 := rfl
theorem gsNil_ap  (ds : List D) (ρ : DEnv) : gsNil  ds ρ = match ds with
  | [] => some ρ
  | _ => none := rfl
theorem gsCons_ap (f : Tg) (g : List D → DEnv → Option DEnv) (ds : List D) (ρ : DEnv) : gsCons f g ds ρ = match ds with
  | [] => none
  | d :: r => match f d ρ with
    | none => none
    | some ρ1 => g r ρ1 := rfl
theorem gTp_ap (n : Nat) (f : List D → DEnv → Option DEnv) (d : D) (ρ : DEnv) : gTp n f d ρ = match d with
  | .tup l => if l.length = n then f l ρ else none
  | _ => none := rfl
theorem dAsg_ap (f : DEnv → R D) (g : Tg) (ρ : DEnv) : dAsg f g ρ = (f ρ).bindS fun d ρ' => match g d ρ' with
  | none => .no
  | some ρ2 => .nx ρ2 := rfl
theorem sLst_ap (f : DEnv → R D) (ρ : DEnv) : sLst f ρ = (f ρ).bind fun d ρ' => match d with
  | .lst l => .ok ρ' l
  | .fro l => .ok ρ' l
  | _ => .no := rfl
theorem sTup_ap (f : DEnv → R D) (ρ : DEnv) : sTup f ρ = (f ρ).bind fun d ρ' => match d with
  | .tup l => .ok ρ' l
  | _ => .no := rfl
theorem sRng1_ap (f : DEnv → R (List D)) (ρ : DEnv) : sRng1 f ρ = (f ρ).bind fun l ρ' => match l with
  | [.int j] => if inR j = true then .ok ρ' (rng 0 j.toNat) else .no
  | _ => .no := rfl
theorem sRng2_ap (f : DEnv → R (List D)) (ρ : DEnv) : sRng2 f ρ = (f ρ).bind fun l ρ' => match l with
  | [.int i, .int j] => if inR i = true then if inR j = true then .ok ρ' (rng i (j - i).toNat) else .no else .no
  | _ => .no := rfl
theorem dForS_ap (s : DEnv → R (List D)) (g : Tg) (b : DEnv → SR) (ρ : DEnv) : dForS s g b ρ = (s ρ).bindS fun l ρ' => dFor g b l ρ' := rfl
theorem dTru_ap (f : DEnv → R Th) (ρ : DEnv) : dTru f ρ = (f ρ).bind fun t ρ' => match t ρ' with
  | none => .no
  | some d => ofO ρ' (tru d) := rfl
theorem dAnd_ap (f g : DEnv → R Bool) (ρ : DEnv) : dAnd f g ρ = (f ρ).bind fun b ρ' => match b with
  | true => g ρ'
  | false => .ok ρ' false := rfl
theorem dOr_ap (f g : DEnv → R Bool) (ρ : DEnv) : dOr f g ρ = (f ρ).bind fun b ρ' => match b with
  | true => .ok ρ' true
  | false => g ρ' := rfl
theorem dNot_ap (f : DEnv → R Bool) (ρ : DEnv) : dNot f ρ = (f ρ).bind fun b ρ' => .ok ρ' (!b) := rfl
theorem dAndV_ap (f g : DEnv → R D) (ρ : DEnv) : dAndV f g ρ = (f ρ).bind fun d ρ' => match d with
  | .bl true => g ρ'
  | .bl false => .ok ρ' (.bl false)
  | _ => .no := rfl
theorem dOrV_ap (f g : DEnv → R D) (ρ : DEnv) : dOrV f g ρ = (f ρ).bind fun d ρ' => match d with
  | .bl true => .ok ρ' (.bl true)
  | .bl false => g ρ'
  | _ => .no := rfl
theorem dNotV_ap (f : DEnv → R D) (ρ : DEnv) : dNotV f ρ = (f ρ).bind fun d ρ' => match d with
  | .bl b => .ok ρ' (.bl (!b))
  | _ => .no := rfl
theorem dIte_ap (t : DEnv → R Bool) (f g : DEnv → R D) (ρ : DEnv) : dIte t f g ρ = (t ρ).bind fun b ρ' => match b with
  | true => f ρ'
  | false => g ρ' := rfl
theorem dChain_ap (g g' : D → D → Option D) (f1 f2 f3 : DEnv → R Th) (ρ : DEnv) : dChain g g' f1 f2 f3 ρ = (f1 ρ).bind fun t1 ρ1 => (f2 ρ1).bind fun t2 ρ2 => match t1 ρ2, t2 ρ2 with
  | some x, some y => match g x y with
    | some (.bl true) => (f3 ρ2).bind fun t3 ρ3 => match t2 ρ3, t3 ρ3 with
      | some y', some z => ofO ρ3 (g' y' z)
      | _, _ => .no
    | some (.bl false) => .ok ρ2 (.bl false)
    | _ => .no
  | _, _ => .no := rfl
theorem dTup_ap (f : DEnv → R (List D)) (ρ : DEnv) : dTup f ρ = (f ρ).bind fun l ρ' => if l.length ≤ 1000 then .ok ρ' (.tup l) else .no := rfl
theorem dLst_ap (f : DEnv → R (List D)) (ρ : DEnv) : dLst f ρ = (f ρ).bind fun l ρ' => if l.length ≤ 1000 then .ok ρ' (.lst l) else .no := rfl
theorem dApp_ap (i : Nat) (f : DEnv → R D) (ρ : DEnv) : dApp i f ρ = match muL i ρ with
  | none => .no
  | some _ => (f ρ).bindS fun d ρ' => match muL i ρ' with
    | none => .no
    | some (b, l) => if l.length < 16000000 then .nx (ρ'.set i (some (.mu b (.lst (l ++ [d]))))) else .no := rfl
theorem dSetI_ap (i : Nat) (fk f : DEnv → R D) (ρ : DEnv) : dSetI i fk f ρ = (f ρ).bindS fun d ρ1 => match muL i ρ1 with
  | none => .no
  | some _ => (fk ρ1).bindS fun k ρ2 => match muL i ρ2, k with
    | some (b, l), .int n => match ixN l.length n with
      | none => .no
      | some j => .nx (ρ2.set i (some (.mu b (.lst (l.set j d)))))
    | _, _ => .no := rfl
theorem rNil_ap  (ρ : DEnv) : rNil  ρ = .ok ρ [] := rfl
theorem rVal_ap (f : DEnv → R D) (g : DEnv → R (List AD)) (ρ : DEnv) : rVal f g ρ = (f ρ).bind fun d ρ1 => (g ρ1).bind fun l ρ2 => .ok ρ2 (.v d :: l) := rfl
theorem rIo_ap (i : Nat) (g : DEnv → R (List AD)) (ρ : DEnv) : rIo i g ρ = if isMu ρ i = true then (g ρ).bind fun l ρ2 => .ok ρ2 (.io i :: l) else .no := rfl
theorem dCal2_ap (ar : Nat) (F : Fn) (f : DEnv → R (List AD)) (ρ : DEnv) : dCal2 ar F f ρ = (f ρ).bind fun l ρ1 => if l.length = ar then match argsD ρ1 l with
  | none => .no
  | some as => if (ioIx l).Nodup then match F as with
    | .no => .no
    | .ret fr d os => match putD ρ1 l os with
      | none => .no
      | some ρ2 => .ok ρ2 (fr, d)
    | .exc e os => match putD ρ1 l os with
      | none => .no
      | some ρ2 => .ex ρ2 e
    else .no
  else .no := rfl
theorem dV_ap (f : DEnv → R (Bool × D)) (ρ : DEnv) : dV f ρ = (f ρ).bind fun p ρ' => .ok ρ' p.2 := rfl
theorem dN_ap (f : DEnv → R (Bool × D)) (ρ : DEnv) : dN f ρ = (f ρ).bind fun p ρ' => match p with
  | (true, d) => .ok ρ' d
  | (false, _) => .no := rfl
theorem tYesB_ap  (ρ : DEnv) : tYesB  ρ = .ok ρ true := rfl
theorem dLc_ap (s : DEnv → R (List D)) (g : Tg) (t : DEnv → R Bool) (f : DEnv → R D) (vs : List Nat) (ρ : DEnv) : dLc s g t f vs ρ = (s ρ).bind fun l ρ1 => if noMu ρ1 vs = true then dLcGo g t f vs l [] (wipeE ρ1 vs) else .no
 := rfl
theorem dIsi_ap (n : String) (f : DEnv → R Th) (ρ : DEnv) : dIsi n f ρ = (f ρ).bind fun t ρ1 => match t ρ1 with
  | some d => ofO ρ1 (isiD n d)
  | none => .no := rfl
theorem dPar_ap (i j : Nat) (f : DEnv → R (List D)) (ρ : DEnv) : dPar i j f ρ = (f ρ).bindS fun l ρ' => match l with
  | [d, e] => match set2 i j d e ρ' with
    | none => .no
    | some ρ2 => .nx ρ2
  | _ => .no := rfl
theorem dDic0_ap  (ρ : DEnv) : dDic0  ρ = .ok ρ (.dic []) := rfl
theorem dPar3_ap (i j k : Nat) (f : DEnv → R (List D)) (ρ : DEnv) : dPar3 i j k f ρ = (f ρ).bindS fun l ρ' => match l with
  | [d, e, u] => match set3 i j k d e u ρ' with
    | none => .no
    | some ρ2 => .nx ρ2
  | _ => .no := rfl
theorem SR.bind_ret {ρ : DEnv} {fr : Bool} {d : D} {g : DEnv → SR} : (SR.ret ρ fr d).bind g = .ret ρ fr d := rfl
theorem ltD_ap (i j : Int) : ltD (.int i) (.int j) = some (.bl (decide (i < j))) := rfl
theorem leD_ap (i j : Int) : leD (.int i) (.int j) = some (.bl (decide (i ≤ j))) := rfl
theorem gtD_ap (i j : Int) : gtD (.int i) (.int j) = some (.bl (decide (j < i))) := rfl
theorem geD_ap (i j : Int) : geD (.int i) (.int j) = some (.bl (decide (j ≤ i))) := rfl
theorem addD_ap (i j : Int) : addD (.int i) (.int j) = some (.int (i + j)) := rfl
theorem subD_ap (i j : Int) : subD (.int i) (.int j) = some (.int (i - j)) := rfl
theorem mulI_ap {i j : Int} (h : cMul i j = true) : mulI (.int i) (.int j) = some (.int (i * j)) := by
  show (if cMul i j = true then some (D.int (i * j)) else none) = _
  rw [if_pos h]
theorem mulD_ap {i j : Int} (h : cMul i j = true) : mulD (.int i) (.int j) = some (.int (i * j)) := by
  unfold mulD orD
  rw [mulI_ap h]
theorem divD_ap {i j : Int} (h : cDiv i j = true) : divD (.int i) (.int j) = some (.int (i.fdiv j)) := by
  show (if cDiv i j = true then some (D.int (i.fdiv j)) else none) = _
  rw [if_pos h]
theorem modD_ap {i j : Int} (h : j ≠ 0) : modD (.int i) (.int j) = some (.int (i.fmod j)) := by
  show (if decide (j ≠ 0) = true then some (D.int (i.fmod j)) else none) = _
  rw [if_pos (decide_eq_true h)]
theorem powD_ap {i j : Int} (h : cPow i j = true) : powD (.int i) (.int j) = some (.int (i ^ j.toNat)) := by
  show (if cPow i j = true then some (D.int (i ^ j.toNat)) else none) = _
  rw [if_pos h]
theorem negD_ap (i : Int) : negD (.int i) = some (.int (-i)) := rfl
theorem absD_ap (i : Int) : absD [.int i] = some (.int i.natAbs) := by
  show some (D.int (if i < 0 then -i else i)) = _
  congr 2
  split <;> omega
theorem intD_ap (i : Int) : intD [.int i] = some (.int i) := rfl
theorem intD_apB (b : Bool) : intD [.bl b] = some (.int (if b then 1 else 0)) := rfl
theorem catL_ap {l m : List D} (h : l.length + m.length ≤ 16000000) : addD (.lst l) (.lst m) = some (.lst (l ++ m)) := by
  unfold addD orD addI i2 catL
  simp only [h, if_true]
theorem catT_ap {l m : List D} (h : l.length + m.length ≤ 16000000) : addD (.tup l) (.tup m) = some (.tup (l ++ m)) := by
  show (match catL (.tup l) (.tup m) with | some z => some z | none => catT (.tup l) (.tup m)) = _
  unfold catL catT
  simp only [h, if_true]
/-! ### equality by shape -/
mutual
def plainD : Nat → D → Bool
  | _, .int _ => true
  | _, .bl _ => true
  | _, .str x => PyData.canLay0 (.str x)
  | _, .non => true
  | n + 1, .tup l => plainDs n l
  | n + 1, .lst l => plainDs n l
  | n + 1, .fro l => plainDs n l
  | _, _ => false
def plainDs : Nat → List D → Bool
  | _, [] => true
  | n, d :: l => plainD n d && plainDs n l
end
mutual
theorem plain_toP : ∀ {n : Nat} {d : D}, plainD n d = true → ∃ p, toP d = some p ∧ p.canLay0 = true ∧ p.depth ≤ n
  | _, .int i, _ => ⟨_, rfl, rfl, Nat.zero_le _⟩
  | _, .bl i, _ => ⟨_, rfl, rfl, Nat.zero_le _⟩
  | _, .str i, h => ⟨_, rfl, by unfold plainD at h; exact h, Nat.zero_le _⟩
  | _, .non, _ => ⟨_, rfl, rfl, Nat.zero_le _⟩
  | n + 1, .tup l, h => by
    obtain ⟨ps, e, h1, h2⟩ := plain_toPs (n := n) (l := l) h
    exact ⟨.tuple ps, by unfold toP; rw [e]; rfl, h1, Nat.succ_le_succ h2⟩
  | n + 1, .lst l, h => by
    obtain ⟨ps, e, h1, h2⟩ := plain_toPs (n := n) (l := l) h
    exact ⟨.list ps, by unfold toP; rw [e]; rfl, h1, Nat.succ_le_succ h2⟩
  | n + 1, .fro l, h => by
    obtain ⟨ps, e, h1, h2⟩ := plain_toPs (n := n) (l := l) h
    exact ⟨.list ps, by unfold toP; rw [e]; rfl, h1, Nat.succ_le_succ h2⟩
  | 0, .tup l, h => by cases h
  | 0, .lst l, h => by cases h
  | 0, .fro l, h => by cases h
  | 0, .dic l, h => by cases h
  | _ + 1, .dic l, h => by cases h
theorem plain_toPs : ∀ {n : Nat} {l : List D}, plainDs n l = true → ∃ ps, toPs l = some ps ∧ PyData.canLayAll0 ps = true ∧ PyData.depthAll ps ≤ n
  | _, [], _ => ⟨[], rfl, rfl, Nat.zero_le _⟩
  | n, d :: l, h => by
    have h' : (plainD n d && plainDs n l) = true := by unfold plainDs at h; exact h
    rw [Bool.and_eq_true] at h'
    obtain ⟨p, e1, h1, h2⟩ := plain_toP h'.1
    obtain ⟨ps, e2, h3, h4⟩ := plain_toPs h'.2
    refine ⟨p :: ps, by unfold toPs; rw [e1, e2]; rfl, ?_, ?_⟩
    · unfold PyData.canLayAll0; rw [h1, h3]; rfl
    · unfold PyData.depthAll; exact Nat.max_le.mpr ⟨h2, h4⟩
end
theorem eqP_plain {d e : D} (h1 : plainD 9 d = true) (h2 : plainD 9 e = true) : ∃ p q, toP d = some p ∧ toP e = some q ∧ eqP d e = some (p.eqv q) := by
  obtain ⟨p, e1, c1, d1⟩ := plain_toP h1
  obtain ⟨q, e2, c2, d2⟩ := plain_toP h2
  refine ⟨p, q, e1, e2, ?_⟩
  unfold eqP
  rw [e1, e2]
  have s : ∀ {r : PyData}, r.canLay0 = true → r.depth ≤ 9 → SeqAt.shaped r = true := fun {r} a b => by
    unfold SeqAt.shaped
    rw [a, Bool.true_and]
    exact decide_eq_true (by omega)
  show (if SeqAt.shaped p = true ∧ SeqAt.shaped q = true then some (p.eqv q) else none) = _
  rw [if_pos ⟨s c1 d1, s c2 d2⟩]
mutual
theorem eqv_refl : ∀ {d : D} {p : PyData}, toP d = some p → p.eqv p = true
  | .non, _, e => by cases e; rfl
  | .bl b, _, e => by cases e; exact beq_self_eq_true b
  | .int i, _, e => by cases e; exact beq_self_eq_true i
  | .str x, _, e => by cases e; exact beq_self_eq_true x
  | .tup l, _, e => by
    unfold toP at e
    cases q : toPs l with
    | none => rw [q] at e; cases e
    | some ps => rw [q] at e; cases e; exact eqvs_refl q
  | .lst l, _, e => by
    unfold toP at e
    cases q : toPs l with
    | none => rw [q] at e; cases e
    | some ps => rw [q] at e; cases e; exact eqvs_refl q
  | .fro l, _, e => by
    unfold toP at e
    cases q : toPs l with
    | none => rw [q] at e; cases e
    | some ps => rw [q] at e; cases e; exact eqvs_refl q
  | .dic l, _, e => by unfold toP at e; cases e
theorem eqvs_refl : ∀ {l : List D} {ps : List PyData}, toPs l = some ps → PyData.eqvAll ps ps = true
  | [], _, e => by unfold toPs at e; cases e; rfl
  | d :: l, _, e => by
    unfold toPs at e
    cases q : toP d with
    | none => rw [q] at e; cases e
    | some p =>
      rw [q] at e
      cases q2 : toPs l with
      | none => rw [q2] at e; cases e
      | some ps =>
        rw [q2] at e
        cases e
        unfold PyData.eqvAll
        rw [eqv_refl q, eqvs_refl q2]
        rfl
end
/-- the same data are equal -/
theorem eq_same {d : D} (h : plainD 9 d = true) : eqD1 d d = some (.bl true) := by
  obtain ⟨p, q, e1, e2, e3⟩ := eqP_plain h h
  rw [e1] at e2
  cases e2
  unfold eqD1
  rw [e3, eqv_refl e1]
  rfl
theorem ne_same {d : D} (h : plainD 9 d = true) : neD1 d d = some (.bl false) := by
  obtain ⟨p, q, e1, e2, e3⟩ := eqP_plain h h
  rw [e1] at e2
  cases e2
  unfold neD1
  rw [e3, eqv_refl e1]
  rfl
theorem eq_int (i j : Int) : eqD1 (.int i) (.int j) = some (.bl (decide (i = j))) := by
  obtain ⟨p, q, e1, e2, e3⟩ := eqP_plain (d := .int i) (e := .int j) rfl rfl
  cases e1
  cases e2
  unfold eqD1
  rw [e3]
  rfl
theorem ne_int (i j : Int) : neD1 (.int i) (.int j) = some (.bl (!decide (i = j))) := by
  obtain ⟨p, q, e1, e2, e3⟩ := eqP_plain (d := .int i) (e := .int j) rfl rfl
  cases e1
  cases e2
  unfold neD1
  rw [e3]
  rfl
theorem dWhile_succ (c : DEnv → R Bool) (b : DEnv → SR) (n : Nat) (ρ : DEnv) : dWhile c b (n + 1) ρ = (c ρ).bindS fun t ρ1 => match t with
    | false => .nx ρ1
    | true => match b ρ1 with
      | .nx ρ2 => dWhile c b n ρ2
      | .cnt ρ2 => dWhile c b n ρ2
      | .brk ρ2 => .nx ρ2
      | .no => .no
      | .ret ρ2 fr d => .ret ρ2 fr d
      | .ex ρ2 e => .ex ρ2 e := rfl
end DF

namespace DF
open PySem PySem.Spec PyProof.Rows L2
/-! ### list(x): a new list -/
def seqOf (d : D) : Option (List D) := match d with
  | .lst l => some l
  | .fro l => some l
  | .tup l => some l
  | _ => none
theorem seqOf_top {K : PySem.W.Frag} {G H : Hp} {d : D} {l : List D} {v : V} (eS : Evl.Ex G H) (h : Top K G H d v) (e : seqOf d = some l) : ∃ a xs, v = .ref a ∧ (SqL K H a xs ∨ SqT K H a xs) ∧ Iss K G l xs := by
  cases d with
  | lst m => cases e; obtain ⟨a, xs, rfl, h1, h2⟩ := h; exact ⟨a, xs, rfl, .inl (Evl.sq_of h1), h2⟩
  | fro m => cases e; cases h with | fro h1 h2 => exact ⟨_, _, rfl, .inl (Evl.ex_l eS h1), h2⟩
  | tup m => cases e; cases h with | tup h1 h2 => exact ⟨_, _, rfl, .inr (Evl.ex_t eS h1), h2⟩
  | _ => cases e
/-- a new list made from an operand -/
def dMk (g : D → Option (List D)) (f : DEnv → R Th) : DEnv → R D := fun ρ => (f ρ).bind fun t ρ' => match t ρ' with
  | none => .no
  | some d => match g d with
    | none => .no
    | some l => .ok ρ' (.lst l)
theorem dMk_go {K : PySem.W.Frag} {W : WX} {g : D → Option (List D)} {f : DEnv → R Th} {te : TE}
    (hs : ∀ (d : D) (l : List D) (v : V) (G H : Hp) (Q : VK), Evl.Ex G H → Top K G H d v → g d = some l → (∀ p vs, H p = none → Iss K G l vs → Q (.ref p) (upd H p (.lst vs))) → te [] H Q → True) : True := trivial
theorem df_mk {X : Cx} {W : WX} {e : Expr} {g : D → Option (List D)} {f : DEnv → R Th} {r : V → Hp → VK → Prop} (h : PE X e fun σ H Q => tO X.K W f σ H fun v H1 => r v H1 Q)
    (hs : ∀ (d : D) (l : List D) (v : V) (G H : Hp) (Q : VK), Evl.Ex G H → Top X.K G H d v → g d = some l → (∀ p vs, H p = none → Iss X.K G l vs → Q (.ref p) (upd H p (.lst vs))) → r v H Q) : DF' X W e (dMk g f) :=
  pe_imp h fun σ H Q ⟨ρ, G, R, h⟩ => ⟨ρ, G, R, by
    cases e1 : f ρ with
    | no =>
      have h2 : dMk g f ρ = .no := by unfold dMk; rw [e1]; rfl
      rw [h2] at h; exact h
    | ex ρ' ee =>
      have h2 : dMk g f ρ = .ex ρ' ee := by unfold dMk; rw [e1]; rfl
      rw [h2] at h; exact h
    | ok ρ' t =>
      have h2 : dMk g f ρ = match t ρ' with
        | none => .no
        | some d => match g d with
          | none => .no
          | some l => .ok ρ' (.lst l) := by unfold dMk; rw [e1]; rfl
      rw [h2] at h
      intro G' H' s R' v hv
      split at h
      · exact False.elim h
      · rename_i d e2
        split at h
        · exact False.elim h
        · rename_i l e3
          exact hs d l v G' H' Q R'.sub (hv ρ' G' H' d .refl R' e2) e3 fun p vs hp hvs => fresh_lst R s R' (fun G' H' s R q1 q2 q3 q4 q5 q6 => h G' H' s R q1 q2 q3 q4 q5 q6) hvs p hp⟩
section
variable {X : Cx} {W : WX} {e : Expr} {p pos : Pos} {f : DEnv → R Th}
theorem df_list (hg : Gl X "list") (hm : X.mg "list" = none) (ha : DO X W e f) (h1 : starEach [e] X.env = (false, eval e X.env) :: starEach [] X.env := by rfl) (hpl : (backTo pos (starEach [] X.env)).any (·.1) = false := by rfl) : DF' X W (.Call (.Name "list" p) [e] [] pos) (dMk seqOf f) :=
  df_mk (r := fun v H1 Q => ∃ p ys, v = .ref p ∧ (SqL X.K H1 p ys ∨ SqT X.K H1 p ys) ∧ ∀ l, H1 l = none → Q (.ref l) (upd H1 l (.lst ys)))
    (pe_imp (pe_callTy call_list_of hg hm boot_list (pa_cons ha pa_nil h1) (by decide) (by decide) h1 hpl) fun σ H Q ⟨ρ, G, R, h⟩ => ⟨ρ, G, R, h.imp fun t ρ' G' H' s R' h v hv => by
      obtain ⟨p, ys, rfl, q1, q2⟩ := h v hv
      exact ⟨p, ys, rfl, q1, q2⟩⟩)
    fun d l v G H Q eS ht e k => by
      obtain ⟨a, xs, rfl, q1, q2⟩ := seqOf_top eS ht e
      exact ⟨a, xs, rfl, q1, fun l hl => k l xs hl q2⟩
/-! ### xs[::-1] -/
def revO (d : D) : Option (List D) := (listOf d).map List.reverse
theorem df_rev {k : Nat} {p1 p2 p3 : Pos} (ha : DO X W e f) : DF' X W (.Subscript e (.Slice none none (some (.UnaryOp .USub (.Constant (.int 1) k p1) p2)) p3) pos) (dMk revO f) :=
  df_mk (r := fun v H1 Q => ∃ a xs, v = .ref a ∧ SqL X.K H1 a xs ∧ ∀ p, H1 p = none → Q (.ref p) (upd H1 p (.lst xs.reverse))) (pe_revL ha)
    fun d l v G H Q eS ht e k => by
      unfold revO at e
      cases q : listOf d with
      | none => rw [q] at e; cases e
      | some m =>
        rw [q] at e
        cases e
        obtain ⟨a, xs, rfl, q1, q2⟩ := listOf_top eS ht q
        exact ⟨a, xs, rfl, q1, fun p hp => k p _ hp q2.reverse⟩
/-! ### x.pop() -/
def dPop (i : Nat) : DEnv → SR := fun ρ => match muL i ρ with
  | none => .no
  | some (b, l) => if l.length = 0 then .no else .nx (ρ.set i (some (.mu b (.lst l.dropLast))))
theorem Iss.dropLast {K : PySem.W.Frag} {G : Hp} {l : List D} {xs : List V} (h : Iss K G l xs) : Iss K G l.dropLast xs.dropLast := by
  rw [List.dropLast_eq_take, List.dropLast_eq_take, h.length]
  exact h.take _
theorem ds_pop {o : Expr} {i : Nat} {p1 p2 : Pos} (ho : PE X o (tVar i)) (hs : swapsWith (.Call (.Attribute o "pop" p1) [] [] p2) none pos.line X.env = pure false := by rfl)
    (hbase : attributeBase o "pop" X.env (eval o X.env) = eval o X.env := by rfl) (hline : (p1.endLine == p2.line) = true := by rfl) : DS X W (.Expr (.Call (.Attribute o "pop" p1) [] [] p2) pos) (dPop i) :=
  ps_imp (ps_expr (pe_bm0 PySem.F.plainAttrs_list PySem.F.slot_list_pop PySem.F.type_list_pop mt_pop ho hbase hline) hs) fun E σ H ⟨ρ, G, R, h⟩ => by
    unfold dPop at h
    split at h
    · exact False.elim h
    · rename_i b l e1
      have e1 := muL_of e1
      obtain ⟨a, ea, e2, xs, e3, e4⟩ := R.mu i b _ e1
      split at h
      · exact False.elim h
      · rename_i hl
        have hx : xs ≠ [] := fun z => by subst z; exact hl e4.length
        refine ⟨.ref a, ea, .inl ⟨rfl, xs, Evl.sq_of e3⟩, a, xs, xs[xs.length - 1]'(by have := List.length_pos_iff.mpr hx; omega), rfl, rfl, e3, List.getElem?_eq_getElem _, ?_⟩
        obtain ⟨s2, R2⟩ := R.chg (o := .lst xs.dropLast) (d1 := .lst l.dropLast) e1 ea ⟨_, upd_same, e4.dropLast⟩
        exact h σ G _ s2 R2
end
end DF

/-! enumerate over a tuple -/
namespace DF
open PySem PySem.Spec PyProof.Rows L2
abbrev enO (a : Addr) : Obj := { cls := .type "enumerate", data := .fields #[.none, .bool false, .ref a, rawInt 0, .none, .none] }
set_option maxHeartbeats 1000000 in
theorem enum_new1 {u : Value} {ob : Obj} {HH : Heap → Prop} (BB : Begins u ob HH) : Meets (Builtin.«enumerate.__new__» ⟨[.type "enumerate", u], []⟩) (fun _ R s => HH s.heap ∧ R (.ok (.ret (.ref (s.heap.push ob).objs.size))) { s with heap := (s.heap.push ob).push (enO s.heap.objs.size) }) :=
  .of_wp fun pg wl A R s hyp => by
    obtain ⟨hp0, g0, d0, tk0, os0⟩ := s
    obtain ⟨hb, hyp⟩ := hyp
    have hsb := sub_enumerate
    have qq : ∀ {A' : Around} {EE : Value → Shared → Prop} {QQ : Value → Shared → Prop}, QQ (.ref hp0.objs.size) ⟨hp0.push ob, g0, d0, tk0, os0⟩ → wpAny (model pg wl) A' (pyIter u) QQ EE ⟨hp0, g0, d0, tk0, os0⟩ :=
      fun q => BB.iter pg wl _ _ ⟨hp0, g0, d0, tk0, os0⟩ _ hb q
    wp_walk using qq
    refine wpAny_stack_any fun st => wpAny_pure ?_
    split
    · rename_i c _ _ _ _ _
      cases (c == Value.type "enumerate")
      · wp_walk using qq
        exact ⟨_, rfl, hyp⟩
      · wp_walk using qq
        exact ⟨_, rfl, hyp⟩
    · wp_walk using qq
      exact ⟨_, rfl, hyp⟩
theorem enum_call1 {prog : Program} {w : World} {A : Around} {E : Value → Shared → Prop} {s : Shared} {u : Value} {ob : Obj} {HH : Heap → Prop} {Q : Value → Shared → Prop} (BB : Begins u ob HH) (h1 : HH s.heap)
    (h : ∀ h', IsEnum h' (s.heap.objs.size + 1) s.heap.objs.size 0 .none → h'.get? s.heap.objs.size = some ob → (∀ b o, s.heap.get? b = some o → h'.get? b = some o) → Q (.ref (s.heap.objs.size + 1)) { s with heap := h' }) :
    wpAny (model prog w) A (call (.type "enumerate") [u]) Q E s := by
  refine callType_new F.called_enumerate (by decide) (F.typeCall_enumerate_1 _) (F.newCall_enumerate_1 _) (fun obj => F.args_object_init_2 obj _) F.entry_enumerate_new (enum_new1 BB) ⟨h1, ?_⟩
  have sz : (s.heap.push ob).objs.size = s.heap.objs.size + 1 := Heap.size_push ..
  show _ ∧ _
  rw [sz]
  have he : IsEnum ((s.heap.push ob).push (enO s.heap.objs.size)) (s.heap.objs.size + 1) s.heap.objs.size 0 .none := by
    have q := Heap.get?_push_size (s.heap.push ob) (o := enO s.heap.objs.size) rfl
    rw [sz] at q
    exact q
  exact ⟨⟨_, he, rfl⟩, h _ he (Heap.get?_push_of_some _ (Heap.get?_push_size _ BB.free)) fun b o x => Heap.get?_push_of_some _ (Heap.get?_push_of_some _ x)⟩
/-- the tuple at a, each item in a new pair -/
def Itp (K : PySem.W.Frag) (a : Addr) (n : Nat) : It :=
  ⟨fun i H => ∃ (xs : List V) (x : V), SqT K H a xs ∧ xs.length = n ∧ xs[i]? = some x, fun i H v H' => ∃ T x, v = .ref T ∧ H T = none ∧ H' = upd H T (.tup [.int (i : Nat), x]) ∧ ∀ xs, SqT K H a xs → xs[i]? = some x, fun i H => ∃ xs : List V, SqT K H a xs ∧ xs.length = n ∧ n ≤ i⟩
theorem turn_enumT {P : Program} {w : World} {K : PySem.W.Frag} {elts : List Expr} {kk : Nat} {tpos : Pos} (a e it : Addr) (n : Nat) :
    Turn P w K (.Tuple elts kk tpos) (Itp K a n) [e, it] e (fun i h => (∃ old, IsEnum h e it ((i : Nat) : Int) old) ∧ h.IsTupleIter it a i ∧ e ≠ it ∧ a ≠ it ∧ a ≠ e ∧ i ≤ n) where
  mem := List.mem_cons_self
  obj := fun i h st b hb => by
    obtain ⟨⟨old, he⟩, ⟨o, ho, hc, hd⟩, _⟩ := st
    rcases List.mem_cons.mp hb with z | z
    · subst z; exact ⟨_, he, fun v q => nomatch q⟩
    · have z := List.mem_singleton.mp z
      subst z; exact ⟨o, ho, fun v q => by rw [hd] at q; cases q⟩
  keep := fun i h h' st k => by
    obtain ⟨⟨old, he⟩, hi, hne⟩ := st
    exact ⟨⟨old, k e (by simp) _ he⟩, hi.at fun o q => k it (by simp) o q, hne⟩
  item := by
    intro X eP eW eK hc i pins s σ H E I hf st hg
    subst eP eW eK
    obtain ⟨⟨old, he⟩, hit, hne, hai, hae, hin⟩ := st
    obtain ⟨xs, x, hq, hxn, hx⟩ := hg
    obtain ⟨its, rv, p, hz⟩ := I.tuple hq
    have hlt : i < its.toArray.size := by
      rw [List.size_toArray, ← rv.length]
      exact (List.getElem?_eq_some_iff.mp hx).1
    have hel : e < s.heap.objs.size := Heap.lt_size he
    have hil : it < s.heap.objs.size := by obtain ⟨_, q, _⟩ := hit; exact Heap.lt_size q
    refine wpAny_pyNext_enum_itemD (Draws.tuple (prog := X.prog) (w := X.w) (A := X.A.in1) (show X.A.in1.handled = none from I.ok.hd hc) it a hai its.toArray) he ⟨hit, p⟩ hlt hne (by simp; exact ⟨hne, fun z => hae z.symm⟩) fun u h' tk hu ho hs' hT hsz hk => ?_
    have ru : RelV x u := by
      obtain ⟨u', hu', ru⟩ := rv.get hx
      have : its.toArray[i]? = some u' := by simpa using hu'
      rw [hu] at this
      cases this
      exact ru
    refine ⟨_, rfl, wpAny_letOwnedTupleGo_enum (s := { s with heap := h', toks := tk + 1 }) ho fun h'' he' sb => ?_⟩
    have hT2 : h''.get? s.heap.objs.size = some { cls := .type "tuple", data := .seq #[.int i tk, u] } := (sb.2 _ (Nat.ne_of_gt hel)).trans hT
    have nw : ObjOk X.prog X.w (upd H s.heap.objs.size (.tup [.int (i : Nat), x])) h'' s.heap.objs.size (.tup [.int (i : Nat), x]) :=
      ⟨show 2 ≤ sizeLine by decide, [.int i tk, u], .cons ⟨_, rfl⟩ (.cons ru .nil), ⟨_, hT2, rfl, _, rfl⟩⟩
    have I1 : Inv X pins σ (upd H s.heap.objs.size (.tup [.int (i : Nat), x])) { s with heap := h'', toks := tk + 1 } :=
      I.turnedNew (t' := tk + 1) (ch := [e, it]) (fun b ob nb q => (sb.2 b fun z => nb (by simp [z])).trans (hk b ob (fun z => nb (by simp [z])) (fun z => nb (by simp [z])) q)) hf (Nat.le_refl _) nw
    refine ⟨.ref s.heap.objs.size, _, I1, rfl, ⟨_, x, rfl, I.hok.fresh (Nat.le_refl _), rfl, fun ys hy => ?_⟩, ⟨⟨u, ?_⟩, hs'.1.at fun o q => (sb.2 it hne.symm).trans q, hne, hai, hae, by rw [← hxn]; exact (List.getElem?_eq_some_iff.mp hx).1⟩, fun b hb => ?_⟩
    · have z : ys = xs := I.tuple_inj hy hq
      rw [z]; exact hx
    · rw [show ((i + 1 : Nat) : Int) = (i : Int) + 1 by omega]; exact he'
    · have lb : b < s.heap.objs.size := by
        rcases List.mem_cons.mp hb with z | z
        · rw [z]; exact hel
        · rw [List.mem_singleton.mp z]; exact hil
      rw [upd_ne (Nat.ne_of_lt lb)]
      exact (hf b hb).1
  done := by
    intro X eP eW eK hc i pins s σ H E I hf st hg
    subst eP eW eK
    obtain ⟨⟨old, he⟩, hit, hne, hai, hae, hin⟩ := st
    obtain ⟨xs, hq, hxn, hx⟩ := hg
    obtain ⟨its, rv, p, hz⟩ := I.tuple hq
    obtain ⟨f0, f1, f2, f3, f4, f5⟩ := hf it (by simp)
    have ei : i = its.toArray.size := by rw [List.size_toArray, ← rv.length]; omega
    subst ei
    exact wpAny_pyNext_enum_endD (Draws.tuple (prog := X.prog) (w := X.w) (A := X.A.in1) (show X.A.in1.handled = none from I.ok.hd hc) it a hai its.toArray) he ⟨hit, p⟩ fun h' eb => ⟨rfl, I.turned (t' := s.toks) (fun b o hb q => eb b o hb q) f0 f1 f3 f4 f5⟩
  self := fun A i s Q E st h => by
    obtain ⟨⟨_, he⟩, _⟩ := st
    exact wpAny_pyIter_enum he h
def iEnumT (K : PySem.W.Frag) (ta : TA) : TI := fun σ H R => ta σ H fun vs H1 => ∃ a xs, vs = [.ref a] ∧ SqT K H1 a xs ∧ R (Itp K a xs.length) H1
theorem pi_enumT {X : Cx} {e : Expr} {ta : TA} {p pos tpos : Pos} {elts : List Expr} {kk : Nat} (hg : Gl X "enumerate") (hm : X.mg "enumerate" = none) (ha : PA X [e] ta) (hs : starEach [e] X.env = [(false, eval e X.env)] := by rfl) :
    PI X (.Tuple elts kk tpos) (.Call (.Name "enumerate" p) [e] [] pos) (iEnumT X.K ta) := by
  refine ⟨fun pins s σ H R I hyp => ?_⟩
  refine Call_ (ld_blt I hg hm boot_enumerate (PyProof.Rows.callWith_type1 (thn (ha.run pos pins s σ H _ I hyp) fun us s1 ⟨vs, H1, I1, r1, qq⟩ => ?_) hs rfl))
  obtain ⟨a, xs, ex, hq, q⟩ := qq
  subst ex
  cases r1 with
  | cons r rr =>
    cases rr
    cases r
    obtain ⟨its, rv, pt, hz⟩ := I1.tuple hq
    refine enum_call1 (begins_tuple a its.toArray) pt fun h' he hit hk => wpAny_pyIter_enum he ?_
    have I2 : Inv X pins σ H1 { s1 with heap := h' } := I1.kept (t' := s1.toks) hk
    have la : a < s1.heap.objs.size := by obtain ⟨_, z, _⟩ := pt; exact Heap.lt_size z
    refine ⟨s1.heap.objs.size + 1, [s1.heap.objs.size + 1, s1.heap.objs.size], _, _, H1, rfl, I2, turn_enumT a (s1.heap.objs.size + 1) s1.heap.objs.size xs.length, ⟨⟨.none, he⟩, ⟨_, hit, rfl, rfl⟩, Nat.succ_ne_self _, Nat.ne_of_lt la, Nat.ne_of_lt (Nat.lt_succ_of_lt la), Nat.zero_le _⟩, fun b hb => ?_, q⟩
    have lb : s1.heap.objs.size ≤ b := by
      rcases List.mem_cons.mp hb with z | z
      · rw [z]; exact Nat.le_succ _
      · rw [List.mem_singleton.mp z]; exact Nat.le_refl _
    exact I1.fpOk lb (I1.hok.fresh lb)
/-! ### enumerate over data -/
def enD : Nat → List D → List D
  | _, [] => []
  | i, x :: r => .tup [.int (i : Nat), x] :: enD (i + 1) r
theorem enD_length : ∀ (i : Nat) (l : List D), (enD i l).length = l.length
  | _, [] => rfl
  | i, x :: r => congrArg (· + 1) (enD_length (i + 1) r)
theorem enD_get : ∀ (k : Nat) (l : List D) (i : Nat) (d : D), (enD k l)[i]? = some d → ∃ x, l[i]? = some x ∧ d = .tup [.int ((k + i : Nat) : Int), x]
  | _, [], _, _, e => by simp [enD] at e
  | k, x :: r, 0, d, e => by
    simp [enD] at e
    exact ⟨x, rfl, e.symm⟩
  | k, x :: r, i + 1, d, e => by
    obtain ⟨y, h1, h2⟩ := enD_get (k + 1) r i d (by simpa [enD] using e)
    exact ⟨y, by simpa using h1, by rw [h2, show k + 1 + i = k + (i + 1) by omega]⟩
theorem enum_yield {K : PySem.W.Frag} {G H H' : Hp} {T : Addr} {i : Nat} {d : D} {x : V} (eS : Evl.Ex G H) (hT : H T = none) (e : H' = upd H T (.tup [.int (i : Nat), x])) (hx : Is K G d x) : ∃ G', New G H G' H' ∧ Is K G' (.tup [.int (i : Nat), d]) (.ref T) := by
  subst e
  have N : New G H (upd G T (.tup [.int (i : Nat), x])) (upd H T (.tup [.int (i : Nat), x])) := New.put eS hT
  exact ⟨_, N, .tup (Evl.st_of upd_same) (.cons (.int _) (.cons (hx.mono N.g) .nil))⟩
theorem ite_s {K : PySem.W.Frag} {G0 : Hp} {l : List D} {a : Addr} {xs : List V} (h : SqL K G0 a xs) (r : Iss K G0 l xs) : ItS K G0 (enD 0 l) (Ite K a) where
  go := fun i d G H e eG eH => by
    obtain ⟨y, h1, rfl⟩ := enD_get 0 l i d e
    obtain ⟨v, e1, e2⟩ := r.get h1
    have hL : SqL K H a xs := Evl.ex_l eH (Evl.ex_l eG h)
    refine ⟨⟨xs, v, hL, e1⟩, fun x H' ⟨T, z, ev, hT, eH', q⟩ => ?_⟩
    subst ev
    have q1 := q xs hL
    rw [e1] at q1; cases q1
    rw [Nat.zero_add]
    exact enum_yield eH hT eH' (e2.mono eG)
  stop := fun i G H e eG eH => ⟨xs, Evl.ex_l eH (Evl.ex_l eG h), by rw [← r.length]; rw [enD_length] at e; exact e⟩
theorem itp_s {K : PySem.W.Frag} {G0 : Hp} {l : List D} {a : Addr} {xs : List V} (h : SqT K G0 a xs) (r : Iss K G0 l xs) : ItS K G0 (enD 0 l) (Itp K a xs.length) where
  go := fun i d G H e eG eH => by
    obtain ⟨y, h1, rfl⟩ := enD_get 0 l i d e
    obtain ⟨v, e1, e2⟩ := r.get h1
    have hL : SqT K H a xs := Evl.ex_t eH (Evl.ex_t eG h)
    refine ⟨⟨xs, v, hL, rfl, e1⟩, fun x H' ⟨T, z, ev, hT, eH', q⟩ => ?_⟩
    subst ev
    have q1 := q xs hL
    rw [e1] at q1; cases q1
    rw [Nat.zero_add]
    exact enum_yield eH hT eH' (e2.mono eG)
  stop := fun i G H e eG eH => ⟨xs, Evl.ex_t eH (Evl.ex_t eG h), rfl, by rw [← r.length]; rw [enD_length] at e; exact e⟩
def sEnL (f : DEnv → R (List D)) : DEnv → R (List D) := fun ρ => (f ρ).bind fun l ρ' => match l with
  | [.lst m] => .ok ρ' (enD 0 m)
  | [.fro m] => .ok ρ' (enD 0 m)
  | _ => .no
def sEnT (f : DEnv → R (List D)) : DEnv → R (List D) := fun ρ => (f ρ).bind fun l ρ' => match l with
  | [.tup m] => .ok ρ' (enD 0 m)
  | _ => .no
section
variable {X : Cx} {W : WX} {e : Expr} {p pos tpos : Pos} {elts : List Expr} {kk : Nat} {f : DEnv → R (List D)}
theorem di_enL (hg : Gl X "enumerate") (hm : X.mg "enumerate" = none) (ha : DVs X W [e] f) (hs : starEach [e] X.env = [(false, eval e X.env)] := by rfl) : DI X W (.Tuple elts kk tpos) (.Call (.Name "enumerate" p) [e] [] pos) (sEnL f) :=
  pi_imp (pi_enum hg hm ha hs) fun σ H Q ⟨ρ, G, R, h⟩ => ⟨ρ, G, R, (Go.bind R h).imp fun l ρ' G' H' s R' h vs hv => by
    split at h
    · cases hv with
      | cons h1 h2 =>
        cases h2
        cases h1 with
        | lst q1 q2 => exact ⟨_, _, rfl, Evl.sq_of (R'.sub _ _ q1), h G' H' .refl R' _ (ite_s (Evl.sq_of q1) q2)⟩
    · cases hv with
      | cons h1 h2 =>
        cases h2
        cases h1 with
        | fro q1 q2 => exact ⟨_, _, rfl, Evl.ex_l R'.sub q1, h G' H' .refl R' _ (ite_s q1 q2)⟩
    · exact False.elim h⟩
theorem di_enT (hg : Gl X "enumerate") (hm : X.mg "enumerate" = none) (ha : DVs X W [e] f) (hs : starEach [e] X.env = [(false, eval e X.env)] := by rfl) : DI X W (.Tuple elts kk tpos) (.Call (.Name "enumerate" p) [e] [] pos) (sEnT f) :=
  pi_imp (pi_enumT hg hm ha hs) fun σ H Q ⟨ρ, G, R, h⟩ => ⟨ρ, G, R, (Go.bind R h).imp fun l ρ' G' H' s R' h vs hv => by
    split at h
    · cases hv with
      | cons h1 h2 =>
        cases h2
        cases h1 with
        | tup q1 q2 => exact ⟨_, _, rfl, Evl.ex_t R'.sub q1, h G' H' .refl R' _ (itp_s q1 q2)⟩
    · exact False.elim h⟩
end
end DF

namespace DF
open PySem PySem.Spec PyProof.Rows L2
/-! ### reversed(range(n)) -/
def sRevR (f : DEnv → R D) : DEnv → R (List D) := fun ρ => (f ρ).bind fun d ρ' => match d with
  | .int j => if inR j = true then .ok ρ' (rng 0 j.toNat).reverse else .no
  | _ => .no
theorem itc_s {K : PySem.W.Frag} {G0 : Hp} {j : Int} : ItS K G0 (rng 0 j.toNat).reverse (Itc (0 + (((j - 0).toNat : Nat) : Int) - 1) (-1) (j - 0).toNat) where
  go := fun i d G H e eG eH => by
    have hi : i < (rng 0 j.toNat).reverse.length := (List.getElem?_eq_some_iff.mp e).1
    have hlen : (rng 0 j.toNat).length = j.toNat := by unfold rng; rw [List.length_map, List.length_range]
    rw [List.length_reverse, hlen] at hi
    rw [List.getElem?_reverse (by rw [hlen]; exact hi), hlen] at e
    unfold rng at e
    rw [List.getElem?_map, List.getElem?_range (by omega)] at e
    cases e
    refine ⟨show i < (j - 0).toNat by rw [Int.sub_zero]; exact hi, fun x H' ⟨z, y⟩ => ?_⟩
    subst z y
    refine ⟨G, New.refl eH, ?_⟩
    have : (0 : Int) + ((j.toNat - 1 - i : Nat) : Int) = 0 + (((j - 0).toNat : Nat) : Int) - 1 + (i : Int) * -1 := by
      rw [Int.sub_zero]; omega
    show Is K G (.int (0 + ((j.toNat - 1 - i : Nat) : Int))) _
    rw [this]
    exact .int _
  stop := fun i G H e _ _ => by
    rw [List.length_reverse] at e
    unfold rng at e
    rw [List.length_map, List.length_range] at e
    show (j - 0).toNat ≤ i
    rw [Int.sub_zero]
    exact e
theorem di_revR {X : Cx} {W : WX} {tg a : Expr} {p p2 pos pos2 : Pos} {f : DEnv → R D} (hg : Gl X "reversed") (hm : X.mg "reversed" = none) (hg2 : Gl X "range") (hm2 : X.mg "range" = none) (ha : DE X W a f)
    (na : starEach [a] X.env = (false, eval a X.env) :: starEach [] X.env := by rfl)
    (hs : starEach [.Call (.Name "range" p2) [a] [] pos2] X.env = (false, eval (.Call (.Name "range" p2) [a] [] pos2) X.env) :: starEach [] X.env := by rfl) :
    DI X W tg (.Call (.Name "reversed" p) [.Call (.Name "range" p2) [a] [] pos2] [] pos) (sRevR f) :=
  pi_imp (pi_revR hg hm (prg_1 hg2 hm2 ha na) hs) fun σ H Q ⟨ρ, G, R, h⟩ => ⟨ρ, G, R, (Go.bind R h).imp fun d ρ' G' H' s R' h v hv => by
    split at h
    · rename_i j
      cases hv
      split at h
      · rename_i hj
        exact ⟨j, rfl, by decide, by decide, (inR_of hj).1, (inR_of hj).2, h G' H' .refl R' _ itc_s⟩
      · exact False.elim h
    · exact False.elim h⟩
/-! ### x[a:b], a and b reckoned -/
def tP (K : PySem.W.Frag) (W : WX) (f : DEnv → R (Option Int)) : TO := fun σ H Q => ∃ ρ G, Rep K G H ρ σ ∧ Go K W σ ρ G H (fun o _ _ H' => Q o H') (f ρ)
abbrev DP (X : Cx) (W : WX) (e : Option Expr) (f : DEnv → R (Option Int)) : Prop := PO X e (tP X.K W f)
theorem po_imp {X : Cx} {e : Option Expr} {t t' : TO} (h : PO X e t) (i : ∀ σ H Q, t' σ H Q → t σ H Q) : PO X e t' := ⟨fun pins s σ H Q I q => h.run pins s σ H Q I (i σ H Q q)⟩
def pNo : DEnv → R (Option Int) := fun ρ => .ok ρ none
def pInt (f : DEnv → R D) : DEnv → R (Option Int) := fun ρ => (f ρ).bind fun d ρ' => match d with
  | .int i => .ok ρ' (some i)
  | _ => .no
section
variable {X : Cx} {W : WX} {e : Expr} {elo ehi : Option Expr} {p2 pos : Pos}
theorem dp_no : DP X W none pNo := po_imp po_none fun σ H Q ⟨ρ, G, R, h⟩ => h G H .refl R
theorem dp_int {f : DEnv → R D} (h : DE X W e f) : DP X W (some e) (pInt f) := po_imp (po_some h) fun σ H Q ⟨ρ, G, R, h⟩ => ⟨ρ, G, R, (Go.bind R h).imp fun d ρ' G' H' s R' h v hv => by
  split at h
  · cases hv
    exact ⟨_, rfl, h G' H' .refl R'⟩
  · exact False.elim h⟩
def slO (d : D) (lo hi : Option Int) : Option D := match d with
  | .lst l => some (.lst (cutD l lo hi))
  | .fro l => some (.lst (cutD l lo hi))
  | .tup l => some (.tup (cutD l lo hi))
  | _ => none
def dSl (f : DEnv → R Th) (fl fu : DEnv → R (Option Int)) : DEnv → R D := fun ρ => (f ρ).bind fun t ρ1 => (fl ρ1).bind fun lo ρ2 => (fu ρ2).bind fun hi ρ3 => match t ρ3 with
  | none => .no
  | some d => ofO ρ3 (slO d lo hi)
theorem cut_whole {α : Type} {l : List α} {lo hi : Option Int} (h : HT.sIx l.length 0 lo = 0 ∧ HT.sIx l.length l.length hi = l.length) : (l.drop (HT.sIx l.length 0 lo)).take (HT.sIx l.length l.length hi - HT.sIx l.length 0 lo) = l := by
  rw [h.1, h.2, List.drop_zero, Nat.sub_zero, List.take_length]
theorem de_sl {f : DEnv → R Th} {fl fu : DEnv → R (Option Int)} (h : DO X W e f) (hl : DP X W elo fl) (hu : DP X W ehi fu) : DE X W (.Subscript e (.Slice elo ehi none p2) pos) (dSl f fl fu) :=
  pe_imp (pe_slice (sl_list.or sl_tupA) h hl hu) fun σ H Q ⟨ρ, G, R, h⟩ => ⟨ρ, G, R, (Go.bind R h).imp fun t ρ1 G1 H1 s1 R1 h1 v hv => ⟨ρ1, G1, R1, (Go.bind R1 h1).imp fun lo ρ2 G2 H2 s2 R2 h2 => ⟨ρ2, G2, R2, (Go.bind R2 h2).imp fun hi ρ3 G3 H3 s3 R3 h3 => by
    split at h3
    · exact False.elim h3
    · rename_i d e1
      have ht := hv ρ3 G3 H3 d (s2.trans R1 s3) R3 e1
      have lst : ∀ {l : List D} {a : Addr} {xs : List V}, SqL X.K H3 a xs → Iss X.K G3 l xs → slO d lo hi = some (.lst (cutD l lo hi)) → v = .ref a → (rSlL X.K v lo hi H3 Q ∨ rSlA X.K v lo hi H3 Q) := fun {l a xs} q1 q2 q3 q4 => by
        rw [q3] at h3
        refine .inl ⟨a, xs, q4, q1, fun p hp => ?_⟩
        have N : New G3 H3 (upd G3 p (.lst (cutV xs lo hi))) (upd H3 p (.lst (cutV xs lo hi))) := New.put R3.sub hp
        exact h3 _ _ (N.stp R3) (N.rep R3) _ (.lst upd_same ((cut_iss q2).mono N.g))
      cases d with
      | lst l =>
        obtain ⟨a, xs, q0, q1, q2⟩ := ht
        exact lst (Evl.sq_of q1) q2 rfl q0
      | fro l =>
        cases ht with
        | fro q1 q2 => exact lst (Evl.ex_l R3.sub q1) q2 rfl rfl
      | tup l =>
        cases ht with
        | @tup l a xs q1 q2 =>
          refine .inr ⟨a, xs, rfl, Evl.ex_t R3.sub q1, fun z => ?_, fun z p hp => ?_⟩
          · have hz : cutD l lo hi = l := by
              unfold cutD
              rw [q2.length]
              rw [← q2.length] at z
              rw [← q2.length]
              exact cut_whole z
            have h4 : Go X.K W σ ρ3 G3 H3 (fun d _ G' H' => ∀ v, Is X.K G' d v → Q v H') (DF.R.ok ρ3 (D.tup (cutD l lo hi))) := h3
            rw [hz] at h4
            exact h4 G3 H3 .refl R3 _ (.tup q1 q2)
          · have N : New G3 H3 (upd G3 p (.tup (cutV xs lo hi))) (upd H3 p (.tup (cutV xs lo hi))) := New.put R3.sub hp
            exact h3 _ _ (N.stp R3) (N.rep R3) _ (.tup (Evl.st_of upd_same) ((cut_iss q2).mono N.g))
      | _ => exact False.elim h3⟩⟩⟩
end
end DF

namespace DF
open PySem PySem.Spec PyProof.Rows L2
/-! ### any(xs), all(xs) of whole numbers -/
theorem ints_plain : ∀ ns : List Int, PyData.plainAll (ns.map PyData.int) = true
  | [] => rfl
  | n :: r => by
    show (PyData.plain (.int n) && PyData.plainAll (r.map PyData.int)) = true
    rw [ints_plain r]
    rfl
theorem ints_dp {K : PySem.W.Frag} {H : Hp} : ∀ ns : List Int, DpAll K H (ns.map V.int) (ns.map PyData.int)
  | [] => .nil
  | n :: r => .cons (.int n) (ints_dp r)
def rAnyI (K : PySem.W.Frag) : List V → Hp → VK → Prop := fun vs H Q => ∃ (a : Addr) (ns : List Int), vs = [V.ref a] ∧ SqL K H a (ns.map V.int) ∧ Q (.bl (ns.any fun i => i != 0)) H
theorem call_anyI {X : Cx} (hc : X.calm = true) : CallR X (.builtin "any") (rAnyI X.K) := by
  intro pins s σ H vs us Q I r hyp
  obtain ⟨a, ns, ev, hq, q⟩ := hyp
  subst ev
  obtain ⟨its, rv, pl, _⟩ := I.list hq
  rw [Vals.ref1 r]
  obtain ⟨as, rd⟩ := Dp.readsAll I _ _ _ (ints_dp ns) rv
  refine PySem.W.any_list_data (vs := its.toArray) (I.ok.hd hc) pl.isList (by simpa using rd) (ints_plain ns) (fun x hx => by
    obtain ⟨i, _, rfl⟩ := List.mem_map.mp hx
    exact trivial) fun h' tk hk => ⟨.bl _, H, I.kept (t' := tk) hk, ?_, q⟩
  show Value.bool _ = Value.bool _
  rw [List.any_map]
  rfl
def anyID (xs : List D) : Option D := match xs with
  | [d] => match listOf d with
    | some l => (intsD l).map fun ns => .bl (ns.any fun i => i != 0)
    | none => none
  | _ => none
theorem cas_anyI {K : PySem.W.Frag} : CaS K (rAnyI K) anyID := fun xs z vs G H Q eS hx e k => by
  unfold anyID at e
  split at e
  · rename_i d
    split at e
    · rename_i l e1
      obtain ⟨v, rfl, h⟩ := tops1 hx
      obtain ⟨a, ys, rfl, h1, h2⟩ := listOf_top eS h e1
      cases q : intsD l with
      | none => rw [q] at e; cases e
      | some ns =>
        rw [q] at e; cases e
        rw [intsD_of q] at h2
        exact ⟨a, ns, rfl, by rw [← h2.ints]; exact h1, k _ G H (New.refl eS) (.bl _)⟩
    · cases e
  · cases e
/-- the first of two readings that has a word -/
def orC (g g' : List D → Option D) (xs : List D) : Option D := match g xs with
  | some z => some z
  | none => g' xs
theorem cas_or {K : PySem.W.Frag} {r r' : List V → Hp → VK → Prop} {g g' : List D → Option D} (h : CaS K r g) (h' : CaS K r' g') : CaS K (fun xs H Q => r xs H Q ∨ r' xs H Q) (orC g g') := fun xs z vs G H Q eS hx e k => by
  unfold orC at e
  cases q : g xs with
  | some w =>
    rw [q] at e
    cases e
    exact .inl (h xs _ vs G H Q eS hx q k)
  | none =>
    rw [q] at e
    exact .inr (h' xs z vs G H Q eS hx e k)
def anyAD : List D → Option D := orC anyD anyID
end DF

/-! t[::-1], t a tuple -/
namespace DF
open PySem PySem.Spec PyProof.Rows L2
theorem rv_adj (n : Nat) : Builtin.Slice.sliceAdjust none none (-1) (n : Int) = ((n : Int) - 1, -1) := rfl
theorem rv_places (n : Nat) : Builtin.Slice.slicePlaces ((n : Int) - 1) (-1) (-1) = n := by
  unfold Builtin.Slice.slicePlaces
  rw [if_neg (by decide)]
  by_cases h : n = 0
  · subst h; rfl
  · rw [if_pos (by omega)]
    show (((n : Int) - 1 - -1 - 1) / 1 + 1).toNat = n
    rw [Int.ediv_one]
    omega
theorem fmap_cong {α β : Type} {f g : α → Option β} : ∀ {l : List α}, (∀ a ∈ l, f a = g a) → l.filterMap f = l.filterMap g
  | [], _ => rfl
  | a :: l, h => by
    rw [List.filterMap_cons, List.filterMap_cons, h a List.mem_cons_self, fmap_cong fun b hb => h b (List.mem_cons_of_mem _ hb)]
theorem rv_pick (xs : List Value) : ((List.range xs.length).filterMap fun (m : Nat) => xs.toArray[(((xs.length : Int) - 1) + (m : Int) * -1).toNat]?).toArray = xs.reverse.toArray := by
  congr 1
  have e1 : (List.range xs.length).filterMap (fun (m : Nat) => xs.toArray[(((xs.length : Int) - 1) + (m : Int) * -1).toNat]?) = (List.range xs.length).filterMap fun m => xs.reverse[m]? := by
    refine fmap_cong fun m hm => ?_
    have hm := List.mem_range.mp hm
    rw [List.getElem?_reverse hm]
    have : (((xs.length : Int) - 1) + (m : Int) * -1).toNat = xs.length - 1 - m := by omega
    rw [this]
    simp
  rw [e1]
  have e2 : ∀ l : List Value, (List.range l.length).filterMap (fun m => l[m]?) = l := by
    intro l
    induction l with
    | nil => rfl
    | cons a r ih =>
      rw [List.length_cons, List.range_succ_eq_map, List.filterMap_cons]
      simp only [List.getElem?_cons_zero, List.filterMap_map]
      congr 1
  have := e2 xs.reverse
  rw [List.length_reverse] at this
  exact this
section
variable {prog : Program} {w : World} {A : Around} {E : Value → Shared → Prop} {s : Shared}
theorem rv_applied {sl : Addr} {vk : Value} {n : Nat} {Q : Int × Int × Nat → Shared → Prop} (hsl : s.heap.IsSliceOf sl .none .none vk) (pk : IsPart vk (some (-1))) (hyp : Q ((n : Int) - 1, -1, n) s) :
    wpAny (model prog w) A (Builtin.Slice.sliceApplied (.ref sl) (pure (n : Int))) Q E s := by
  obtain ⟨ob, hob, hcb, hdb⟩ := id hsl
  unfold Builtin.Slice.sliceApplied Builtin.Slice.sliceFields
  refine wpAny_bind (wpAny_bind (wpAny_field hob hdb (x := .none) rfl (wpAny_bind (wpAny_field hob hdb (x := .none) rfl (wpAny_bind (wpAny_field hob hdb (x := vk) rfl (wpAny_pure ?_)))))))
  refine wpAny_bind (HT.slicePart_ pk ?_)
  show wpAny _ _ (if ((-1 : Int) == 0) = true then _ else _) _ _ s
  rw [if_neg (by decide)]
  refine wpAny_bind (HT.slicePart_ .none (wpAny_bind (HT.slicePart_ .none (wpAny_bind (wpAny_pure ?_)))))
  show wpAny _ _ (match Builtin.Slice.sliceAdjust none none (-1) (n : Int) with | (lo, hi) => pure (lo, (-1 : Int), Builtin.Slice.slicePlaces lo hi (-1))) _ _ s
  rw [rv_adj n]
  show wpAny _ _ (pure ((n : Int) - 1, (-1 : Int), Builtin.Slice.slicePlaces ((n : Int) - 1) (-1) (-1))) _ _ s
  rw [rv_places]
  exact wpAny_pure hyp
theorem rv_get {t sl : Addr} {xs : List Value} {vk : Value} {Q : Value → Shared → Prop} (htp : IsTup s.heap t xs.toArray) (hsl : s.heap.IsSliceOf sl .none .none vk) (pk : IsPart vk (some (-1)))
    (hyp : Q (.ref s.heap.objs.size) { s with heap := s.heap.push { cls := .type "tuple", data := .seq xs.reverse.toArray } }) (hz : xs.length ≤ sizeLine) : wpAny (model prog w) A (getItem (.ref t) (.ref sl)) Q E s := by
  have hok : sizeOk (.seq xs.reverse.toArray) := by
    show xs.reverse.toArray.size ≤ sizeLine
    rw [List.size_toArray, List.length_reverse]
    exact hz
  obtain ⟨ob, hob, hcb, hdb⟩ := id hsl
  have hty : s.TypeIs (.ref sl) "slice" := ⟨ob, hob, hcb⟩
  unfold getItem
  try with_reducible refine wpAny_holding ?_
  first | refine wpAny_bind (wpAny_pure ?_) | skip
  refine wpAny_bind (wpAny_sequenceKey htp.typeIs (by decide) (wpAny_bind (wpAny_callSpecial?_slot (name := Str.ofString "__getitem__") htp.typeIs PyProof.Rows.slot_tuple_getitem
    (wpAny_call_entry PyProof.Rows.slot_tuple_getitem htp.typeIs entry_tuple_getitem ?_ (args_tuple_getitem _ _)))))
  show wpAny _ _ (Builtin.Tuple.tupleItemsOf (.ref t) >>= _) _ _ s
  refine wpAny_bind (tupleItemsOf_ htp (wpAny_bind (wpAny_typeOf hty ?_)))
  rw [if_pos (by decide)]
  refine wpAny_bind (rv_applied (n := xs.toArray.size) hsl pk ?_)
  have hno : ¬ ((((xs.toArray.size : Nat) : Int) - 1 == 0 && (-1 : Int) == 1 && xs.toArray.size == xs.toArray.size) = true) := by
    intro q
    rw [Bool.and_eq_true, Bool.and_eq_true] at q
    exact absurd q.1.2 (by decide)
  show wpAny _ _ (if (((xs.toArray.size : Nat) : Int) - 1 == 0 && (-1 : Int) == 1 && xs.toArray.size == xs.toArray.size) = true then _ else _) _ _ s
  rw [if_neg hno, List.size_toArray, rv_pick]
  first
    | exact wpAny_bind (m := Builtin.Tuple.tupleExact _) (wpAny_newObj_type (wpAny_pure ⟨_, rfl, wpAny_pure hyp⟩) hok)
    | exact wpAny_bind (m := Builtin.Tuple.tupleExact _) (wpAny_newObj_type (wpAny_bind (wpAny_pure (wpAny_pure ⟨_, rfl, wpAny_pure hyp⟩))) hok)
    | exact wpAny_bind (wpAny_bind (m := Builtin.Tuple.tupleExact _) (wpAny_newObj_type (wpAny_pure (wpAny_pure ⟨_, rfl, wpAny_pure hyp⟩)) hok))
    | exact wpAny_bind (wpAny_bind (m := Builtin.Tuple.tupleExact _) (wpAny_newObj_type (wpAny_pure ⟨_, rfl, wpAny_pure hyp⟩) hok))
end
def tRevT (K : PySem.W.Frag) (te : TE) : TE := fun σ H Q => te σ H fun x H1 => ∃ a xs, x = .ref a ∧ SqT K H1 a xs ∧ ∀ p, H1 p = none → Q (.ref p) (upd H1 p (.tup xs.reverse))
theorem pe_revT {X : Cx} {e : Expr} {te : TE} {k : Nat} {p1 p2 p3 pos : Pos} (he : PE X e te) : PE X (.Subscript e (.Slice none none (some (.UnaryOp .USub (.Constant (.int 1) k p1) p2)) p3) pos) (tRevT X.K te) := by
  refine ⟨fun pins s σ H Q I hyp => Subscript_ (thn (he.run pins s σ H _ I hyp) fun v s1 ⟨x, H1, I1, r1, q1⟩ => ?_)⟩
  obtain ⟨a, xs, ev, hx, q⟩ := q1
  subst ev
  cases r1
  have hneg : PO X (some (.UnaryOp .USub (.Constant (.int 1) k p1) p2)) (tPart (tUn (rU fun i => .int (-i)) (tC (.int 1)))) := po_some (pe_un un_neg pe_int)
  refine wpAny_Slice (thn (po_none.run pins s1 σ H1 (fun o J => o = none ∧ J = H1) I1 ⟨rfl, rfl⟩) fun vl s2 ⟨l, J2, I2, pl, el, e2⟩ => thn (po_none.run pins s2 σ J2 (fun o J => o = none ∧ J = J2) I2 ⟨rfl, rfl⟩) fun vu s3 ⟨u, J3, I3, pu, eu, e3⟩ =>
    thn (hneg.run pins s3 σ J3 (fun o J => o = some (-1) ∧ J = J3) I3 ⟨1, rfl, -1, rfl, rfl, rfl⟩) fun vs s4 ⟨o, J4, I4, ps, eo, e4⟩ => ?_)
  subst el e2 eu e3 eo e4
  cases pl
  cases pu
  have I5 : Inv X pins σ J4 { s4 with heap := s4.heap.push { cls := .type "slice", data := .fields #[.none, .none, vs] } } := I4.kept (t' := s4.toks) fun b ob z => Heap.get?_push_of_some _ z
  obtain ⟨its, r, ht, hz⟩ := I5.tuple hx
  show wpAny (model X.prog X.w) X.A (subscriptTail e (.Slice none none (some (.UnaryOp .USub (.Constant (.int 1) k p1) p2)) p3) (.ref a) (.ref s4.heap.objs.size)) _ X.xe _
  refine tail_any (ops := [.ref a, .ref s4.heap.objs.size]) ht.typeIs PyProof.Rows.slot_tuple_getitem.lookup (rv_get ht (Heap.IsSliceOf.new _ .none .none vs) ps ?_ (by rw [← r.length]; exact hz)) (by with_unfolding_all rfl)
  refine ⟨.ref _, _, I5.laid (t' := s4.toks) (o := .tup xs.reverse) (fun b ob z => Heap.get?_push_of_some _ z) (Nat.le_refl _) ?_, rfl, q _ (I5.hok.fresh (Nat.le_refl _))⟩
  exact ⟨by rw [List.length_reverse]; exact hz, _, r.reverse, IsTup.new _ _⟩
def revTD (d : D) : Option D := match d with
  | .tup l => some (.tup l.reverse)
  | _ => none
theorem de_revT {X : Cx} {W : WX} {e : Expr} {k : Nat} {p1 p2 p3 pos : Pos} {f : DEnv → R Th} (ha : DO X W e f) : DE X W (.Subscript e (.Slice none none (some (.UnaryOp .USub (.Constant (.int 1) k p1) p2)) p3) pos) (dUn revTD f) :=
  pe_imp (pe_revT ha) fun σ H Q ⟨ρ, G, R, h⟩ => ⟨ρ, G, R, (Go.bind R h).imp fun t ρ' G' H' s R' h v hv => by
    split at h
    · rename_i d e1
      have ht := hv ρ' G' H' d .refl R' e1
      cases d with
      | tup l =>
        cases ht with
        | @tup l a xs q1 q2 =>
          refine ⟨a, xs, rfl, Evl.ex_t R'.sub q1, fun p hp => ?_⟩
          have N : New G' H' (upd G' p (.tup xs.reverse)) (upd H' p (.tup xs.reverse)) := New.put R'.sub hp
          exact h _ _ (N.stp R') (N.rep R') _ (.tup (Evl.st_of upd_same) (q2.reverse.mono N.g))
      | _ => exact False.elim h
    · exact False.elim h⟩
end DF

/-! a, b = x, y where some of these are lists or dicts just made -/
namespace DF
open PySem PySem.Spec PyProof.Rows L2
abbrev FreshAt (K : PySem.W.Frag) (σ : Sl) (ρ : DEnv) (G H H0 : Hp) (a : Addr) (d : D) : Prop := G a = none ∧ ¬ Mu false ρ σ a ∧ ¬ Mu true ρ σ a ∧ H0 a = none ∧ Cont K G H a d
inductive XAll (K : PySem.W.Frag) (σ : Sl) (ρ : DEnv) (G H H0 : Hp) : List (Bool × D) → List V → List Addr → Prop
  | nil : XAll K σ ρ G H H0 [] [] []
  | val {d : D} {v : V} {l : List (Bool × D)} {vs : List V} {as : List Addr} : Is K G d v → XAll K σ ρ G H H0 l vs as → XAll K σ ρ G H H0 ((false, d) :: l) (v :: vs) as
  | fr {d : D} {a : Addr} {l : List (Bool × D)} {vs : List V} {as : List Addr} : FreshAt K σ ρ G H H0 a d → a ∉ as → XAll K σ ρ G H H0 l vs as → XAll K σ ρ G H H0 ((true, d) :: l) (.ref a :: vs) (a :: as)
theorem XAll.base {K : PySem.W.Frag} {σ : Sl} {ρ : DEnv} {G H H0 H1 : Hp} (t : ∀ b, H1 b = none → H0 b = none) : ∀ {l : List (Bool × D)} {vs : List V} {as : List Addr}, XAll K σ ρ G H H1 l vs as → XAll K σ ρ G H H0 l vs as
  | _, _, _, .nil => .nil
  | _, _, _, .val h r => .val h (XAll.base t r)
  | _, _, _, .fr h n r => .fr ⟨h.1, h.2.1, h.2.2.1, t _ h.2.2.2.1, h.2.2.2.2⟩ n (XAll.base t r)
theorem XAll.none {K : PySem.W.Frag} {σ : Sl} {ρ : DEnv} {G H H0 : Hp} : ∀ {l : List (Bool × D)} {vs : List V} {as : List Addr}, XAll K σ ρ G H H0 l vs as → ∀ a ∈ as, H0 a = none
  | _, _, _, .nil, a, m => by cases m
  | _, _, _, .val h r, a, m => XAll.none r a m
  | _, _, _, .fr h n r, a, m => by
    rcases List.mem_cons.mp m with z | z
    · rw [z]; exact h.2.2.2.1
    · exact XAll.none r a z
theorem FreshAt.later {K : PySem.W.Frag} {σ : Sl} {ρ ρ1 : DEnv} {G H H0 G1 H1 : Hp} {a : Addr} {d : D} (h : FreshAt K σ ρ G H H0 a d) (s : Stp ρ σ G H ρ1 σ G1 H1) : FreshAt K σ ρ1 G1 H1 H0 a d := by
  obtain ⟨h0, h1, h2, h3, h4⟩ := h
  obtain ⟨o, ho⟩ := h4.there
  refine ⟨?_, fun m => ?_, fun m => h2 (s.io_back m), h3, h4.mono s.g fun o q => s.h a o h1 h2 q⟩
  · cases q : G1 a with
    | none => rfl
    | some u =>
      rcases s.n a h0 (by rw [q]; exact fun z => by cases z) with z | z
      · rw [z] at ho; cases ho
      · exact absurd z h1
  · rcases s.ow a m with z | z
    · exact h1 z
    · rw [z] at ho; cases ho
def tXs (K : PySem.W.Frag) (W : WX) (f : DEnv → R (List (Bool × D))) : TA := fun σ H Q => ∃ ρ G, Rep K G H ρ σ ∧ Go K W σ ρ G H (fun l ρ' G' H' => ∀ vs as, XAll K σ ρ' G' H' H l vs as → Q vs H') (f ρ)
abbrev DXs (X : Cx) (W : WX) (es : List Expr) (f : DEnv → R (List (Bool × D))) : Prop := PA X es (tXs X.K W f)
def xNil : DEnv → R (List (Bool × D)) := fun ρ => .ok ρ []
def xVal (f : DEnv → R D) (g : DEnv → R (List (Bool × D))) : DEnv → R (List (Bool × D)) := fun ρ => (f ρ).bind fun d ρ1 => (g ρ1).bind fun l ρ2 => .ok ρ2 ((false, d) :: l)
def xFr (f : DEnv → R D) (g : DEnv → R (List (Bool × D))) : DEnv → R (List (Bool × D)) := fun ρ => (f ρ).bind fun d ρ1 => (g ρ1).bind fun l ρ2 => .ok ρ2 ((true, d) :: l)
section
variable {X : Cx} {W : WX} {e : Expr} {es : List Expr} {f : DEnv → R D} {g : DEnv → R (List (Bool × D))}
theorem xs_nil : DXs X W [] xNil := pa_imp pa_nil fun σ H Q ⟨ρ, G, R, h⟩ => h G H .refl R [] [] .nil
theorem xs_val (h1 : DE X W e f) (h2 : DXs X W es g) (hs : starEach (e :: es) X.env = (false, eval e X.env) :: starEach es X.env := by rfl) : DXs X W (e :: es) (xVal f g) :=
  pa_imp (pa_cons h1 h2 hs) fun σ H Q ⟨ρ, G, R, h⟩ => ⟨ρ, G, R, by
    unfold xVal at h
    cases e1 : f ρ with
    | no => rw [e1] at h; exact h
    | ex ρ' ee => rw [e1] at h; exact h
    | ok ρ1 d =>
      rw [e1] at h
      intro G1 H1 s1 R1 v hv
      have h1 := Go.shift R s1 (show Go X.K W σ ρ G H _ ((g ρ1).bind fun l ρ2 => DF.R.ok ρ2 ((false, d) :: l)) from h)
      refine ⟨ρ1, G1, R1, ?_⟩
      cases e2 : g ρ1 with
      | no => rw [e2] at h1; exact h1
      | ex ρ' ee => rw [e2] at h1; exact h1
      | ok ρ2 l =>
        rw [e2] at h1
        intro G2 H2 s2 R2 vs as hx
        exact h1 G2 H2 s2 R2 (v :: vs) as (.val (hv.mono s2.g) (hx.base s1.t))⟩
theorem xs_fr (h1 : DF' X W e f) (h2 : DXs X W es g) (hs : starEach (e :: es) X.env = (false, eval e X.env) :: starEach es X.env := by rfl) : DXs X W (e :: es) (xFr f g) :=
  pa_imp (pa_cons h1 h2 hs) fun σ H Q ⟨ρ, G, R, h⟩ => ⟨ρ, G, R, by
    unfold xFr at h
    cases e1 : f ρ with
    | no => rw [e1] at h; exact h
    | ex ρ' ee => rw [e1] at h; exact h
    | ok ρ1 d =>
      rw [e1] at h
      intro G1 H1 s1 R1 a q0 q1 q2 q3 q4
      have h1 := Go.shift R s1 (show Go X.K W σ ρ G H _ ((g ρ1).bind fun l ρ2 => DF.R.ok ρ2 ((true, d) :: l)) from h)
      refine ⟨ρ1, G1, R1, ?_⟩
      cases e2 : g ρ1 with
      | no => rw [e2] at h1; exact h1
      | ex ρ' ee => rw [e2] at h1; exact h1
      | ok ρ2 l =>
        rw [e2] at h1
        intro G2 H2 s2 R2 vs as hx
        have F1 : FreshAt X.K σ ρ1 G1 H1 H a d := ⟨q0, q1, q2, q3, q4⟩
        refine h1 G2 H2 s2 R2 (.ref a :: vs) (a :: as) (.fr (F1.later s2) (fun m => ?_) (hx.base s1.t))
        obtain ⟨o, ho⟩ := q4.there
        rw [hx.none a m] at ho
        cases ho⟩
end
/-- the slots are filled one after another -/
def putA : List Nat → List (Bool × D) → DEnv → Option DEnv
  | [], [], ρ => some ρ
  | i :: is, (false, d) :: l, ρ => match setV i d ρ with
    | none => none
    | some ρ1 => putA is l ρ1
  | i :: is, (true, d) :: l, ρ => match setF i d ρ with
    | none => none
    | some ρ1 => putA is l ρ1
  | _, _, _ => none
def putS : List Nat → List V → Sl → Sl
  | i :: is, v :: vs, σ => putS is vs (σ.set i (some v))
  | _, _, σ => σ
theorem mu_setF {ρ ρ1 : DEnv} {σ : Sl} {i : Nat} {d : D} {a b : Addr} {k : Bool} (e : setF i d ρ = some ρ1) (hl : i < σ.length) (m : Mu k ρ1 (σ.set i (some (.ref a))) b) : b = a ∨ Mu k ρ σ b := by
  unfold setF at e
  split at e
  · cases e
    obtain ⟨j, d', q1, q2⟩ := m
    rcases set_get q1 with ⟨z, y⟩ | ⟨n, y⟩
    · subst z
      rw [List.getElem?_set_self hl] at q2
      cases q2
      exact .inl rfl
    · rw [List.getElem?_set_ne n] at q2
      exact .inr ⟨j, d', y, q2⟩
  · cases e
theorem mu_setV {ρ ρ1 : DEnv} {σ : Sl} {i : Nat} {d : D} {v : V} {b : Addr} {k : Bool} (e : setV i d ρ = some ρ1) (m : Mu k ρ1 (σ.set i (some v)) b) : Mu k ρ σ b := by
  unfold setV at e
  split at e
  · cases e
    obtain ⟨j, d', q1, q2⟩ := m
    rcases set_get q1 with ⟨z, y⟩ | ⟨n, y⟩
    · cases y
    · rw [List.getElem?_set_ne n] at q2
      exact ⟨j, d', y, q2⟩
  · cases e
theorem XAll.sets {K : PySem.W.Frag} {σ σ' : Sl} {ρ ρ' : DEnv} {G H H0 : Hp} : ∀ {l : List (Bool × D)} {vs : List V} {as : List Addr}, XAll K σ ρ G H H0 l vs as → (∀ a ∈ as, ∀ k, Mu k ρ' σ' a → Mu k ρ σ a) → XAll K σ' ρ' G H H0 l vs as
  | _, _, _, .nil, _ => .nil
  | _, _, _, .val h r, q => .val h (XAll.sets r q)
  | _, _, _, .fr h n r, q => .fr ⟨h.1, fun m => h.2.1 (q _ List.mem_cons_self _ m), fun m => h.2.2.1 (q _ List.mem_cons_self _ m), h.2.2.2⟩ n (XAll.sets r fun a m => q a (List.mem_cons_of_mem _ m))
theorem putA_ok {K : PySem.W.Frag} {ρ0 : DEnv} {σ0 : Sl} {G0 H0 G H : Hp} : ∀ {is : List Nat} {l : List (Bool × D)} {vs : List V} {as : List Addr} {ρ ρ2 : DEnv} {σ : Sl}, XAll K σ ρ G H H0 l vs as → Rep K G H ρ σ → Stp ρ0 σ0 G0 H0 ρ σ G H → putA is l ρ = some ρ2 →
    Rep K G H ρ2 (putS is vs σ) ∧ Stp ρ0 σ0 G0 H0 ρ2 (putS is vs σ) G H
  | [], [], [], _, ρ, ρ2, σ, _, R, s, e => by cases e; exact ⟨R, s⟩
  | i :: is, (false, d) :: l, _, as, ρ, ρ2, σ, .val (v := v) (vs := vs) h r, R, s, e => by
    have e : (match setV i d ρ with
      | none => none
      | some ρ1 => putA is l ρ1) = some ρ2 := e
    cases e1 : setV i d ρ with
    | none => rw [e1] at e; cases e
    | some ρ1 =>
      rw [e1] at e
      have hs := Stp.setV (v := v) R e1
      have R1 := R.setV e1 h
      have r1 : XAll K (σ.set i (some v)) ρ1 G H H0 l vs as := XAll.sets r fun a m k => mu_setV e1
      have s1 : Stp ρ0 σ0 G0 H0 ρ1 (σ.set i (some v)) G H := by
        refine ⟨s.g, s.h, s.t, s.n, fun b m => s.ow b (mu_setV e1 m), fun j => ⟨fun d' q => ?_, fun d' q => ?_⟩⟩
        · obtain ⟨d1, f1, f2⟩ := (s.io j).1 d' q
          obtain ⟨d2, f3, f4⟩ := (hs.io j).1 d1 f1
          exact ⟨d2, f3, f4.trans f2⟩
        · obtain ⟨d1, f1⟩ := (hs.io j).2 d' q
          exact (s.io j).2 d1 f1
      have e : putA is l ρ1 = some ρ2 := e
      have z := putA_ok r1 R1 s1 e
      exact z
  | i :: is, (true, d) :: l, _, _, ρ, ρ2, σ, .fr (a := a) (vs := vs) (as := as) h n r, R, s, e => by
    have e : (match setF i d ρ with
      | none => none
      | some ρ1 => putA is l ρ1) = some ρ2 := e
    cases e1 : setF i d ρ with
    | none => rw [e1] at e; cases e
    | some ρ1 =>
      rw [e1] at e
      have hl : i < σ.length := by
        rw [← R.len]
        unfold setF at e1
        split at e1
        · rename_i hf; exact free_lt hf
        · cases e1
      have s1 := s.setF R e1 h.2.2.2.1
      have R1 := R.setF e1 h.1 h.2.1 h.2.2.1 h.2.2.2.2
      have r1 : XAll K (σ.set i (some (.ref a))) ρ1 G H H0 l vs as := XAll.sets r fun b m k q => (mu_setF e1 hl q).resolve_left fun z => n (by rw [← z]; exact m)
      have e : putA is l ρ1 = some ρ2 := e
      have z := putA_ok r1 R1 s1 e
      exact z
  | [], _ :: _, _, _, _, _, _, _, _, _, e => by unfold putA at e; cases e
def dParX (is : List Nat) (f : DEnv → R (List (Bool × D))) : DEnv → SR := fun ρ => match f ρ with
  | .no => .no
  | .ex ρ' e => .ex ρ' e
  | .ok ρ' l => match putA is l ρ' with
    | none => .no
    | some ρ2 => .nx ρ2
theorem tparX {K : PySem.W.Frag} {W : WX} {is : List Nat} {f : DEnv → R (List (Bool × D))} {ts : TS} {ta : TA} (hs : ∀ E σ H, ta σ H (fun vs H1 => E.nx (putS is vs σ) H1 ∧ vs.length = is.length) → ts E σ H) (ha : ∀ σ H Q, tXs K W f σ H Q → ta σ H Q) : ∀ E σ H, tS K W (dParX is f) E σ H → ts E σ H := fun E σ H ⟨ρ, G, R, h⟩ => hs E σ H (ha σ H _ ⟨ρ, G, R, by
  unfold dParX at h
  cases e1 : f ρ with
  | no => rw [e1] at h; exact h
  | ex ρ' e => rw [e1] at h; exact fun G' H' d s R' hd => h d σ G' H' s R' hd
  | ok ρ' l =>
    rw [e1] at h
    intro G' H' s R' vs as hx
    have h : GoS K W σ ρ G H E (match putA is l ρ' with
      | none => SR.no
      | some ρ2 => SR.nx ρ2) := h
    cases e2 : putA is l ρ' with
    | none => rw [e2] at h; exact False.elim h
    | some ρ2 =>
      rw [e2] at h
      obtain ⟨R2, s2⟩ := putA_ok hx R' s e2
      refine ⟨h _ G' H' s2 R2, ?_⟩
      have len : ∀ {is : List Nat} {l : List (Bool × D)} {vs : List V} {as : List Addr} {ρ ρ2 : DEnv}, XAll K σ ρ' G' H' H l vs as → putA is l ρ = some ρ2 → vs.length = is.length := by
        intro is l
        induction l generalizing is with
        | nil =>
          intro vs as ρ ρ2 hx e
          cases hx
          cases is with
          | nil => rfl
          | cons _ _ => unfold putA at e; cases e
        | cons p l ih =>
          intro vs as ρ ρ2 hx e
          cases is with
          | nil => unfold putA at e; cases e
          | cons i is =>
            obtain ⟨b, d⟩ := p
            cases hx with
            | val h r =>
              unfold putA at e
              split at e
              · cases e
              · exact congrArg (· + 1) (ih r e)
            | fr h n r =>
              unfold putA at e
              split at e
              · cases e
              · exact congrArg (· + 1) (ih r e)
      exact len hx e2⟩)
section
variable {X : Cx} {W : WX} {i j l : Nat} {x y z : Str} {a b c : Expr} {f : DEnv → R (List (Bool × D))} {px py pz pt pos : Pos} {kt k2 pt2}
theorem ds_parX (hc : X.calm = true) (hN : X.N.Nodup) (hi : X.N[i]? = some x) (hj : X.N[j]? = some y) (hij : i ≠ j)
    (hx : X.env.scope.names.lookup x = some .local) (hy : X.env.scope.names.lookup y = some .local) (ha : DXs X W [a, b] f)
    (hw : swappedStores [.Tuple [.Name x px, .Name y py] kt pt] (.Tuple [a, b] k2 pt2) X.env = pure (some [x, y]))
    (hs : swapsWithSole [.Tuple [.Name x px, .Name y py] kt pt] (.Tuple [a, b] k2 pt2) pos.line X.env = pure false := by rfl) :
    DS X W (.Assign [.Tuple [.Name x px, .Name y py] kt pt] (.Tuple [a, b] k2 pt2) pos) (dParX [i, j] f) :=
  ps_imp (ps_par hc hN hi hj hij hx hy ha hw hs) (tparX (ta := tXs X.K W f) (fun E σ H ⟨ρ, G, R, h⟩ => ⟨ρ, G, R, h.imp fun l ρ' G' H' s R' q vs as hx => by
    obtain ⟨q1, q2⟩ := q vs as hx
    match vs, q2 with
    | [v, w], _ => exact ⟨v, w, rfl, q1⟩⟩) fun _ _ _ q => q)
theorem ds_parX3 (hc : X.calm = true) (hN : X.N.Nodup) (hi : X.N[i]? = some x) (hj : X.N[j]? = some y) (hl : X.N[l]? = some z) (hij : i ≠ j) (hil : i ≠ l) (hjl : j ≠ l)
    (hx : X.env.scope.names.lookup x = some .local) (hy : X.env.scope.names.lookup y = some .local) (hz : X.env.scope.names.lookup z = some .local) (ha : DXs X W [a, b, c] f)
    (hw : swappedStores [.Tuple [.Name x px, .Name y py, .Name z pz] kt pt] (.Tuple [a, b, c] k2 pt2) X.env = pure (some [x, y, z]))
    (hs : swapsWithSole [.Tuple [.Name x px, .Name y py, .Name z pz] kt pt] (.Tuple [a, b, c] k2 pt2) pos.line X.env = pure false := by rfl) :
    DS X W (.Assign [.Tuple [.Name x px, .Name y py, .Name z pz] kt pt] (.Tuple [a, b, c] k2 pt2) pos) (dParX [i, j, l] f) :=
  ps_imp (ps_par3 hc hN hi hj hl hij hil hjl hx hy hz ha hw hs) (tparX (ta := tXs X.K W f) (fun E σ H ⟨ρ, G, R, h⟩ => ⟨ρ, G, R, h.imp fun l ρ' G' H' s R' q vs as hx => by
    obtain ⟨q1, q2⟩ := q vs as hx
    match vs, q2 with
    | [v, w, u], _ => exact ⟨v, w, u, rfl, q1⟩⟩) fun _ _ _ q => q)
end
end DF

namespace DF
open PySem PySem.Spec PyProof.Rows L2
/-- a new list by a test -/
theorem df_ifExp {X : Cx} {W : WX} {a b c : Expr} {pos : Pos} {ta : DEnv → R Bool} {fa fb : DEnv → R D} (hc : DT X W c ta) (ha : DF' X W a fa) (hb : DF' X W b fb) : DF' X W (.IfExp c a b pos) (dIte ta fa fb) :=
  pe_imp (pe_ifExp hc ha hb) fun σ H Q ⟨ρ, G, R, h⟩ => ⟨ρ, G, R, by
    unfold dIte at h
    cases e1 : ta ρ with
    | no => rw [e1] at h; exact h
    | ex ρ' ee => rw [e1] at h; exact h
    | ok ρ1 k =>
      rw [e1] at h
      intro G1 H1 s1 R1
      cases k with
      | true =>
        rw [if_pos rfl]
        exact ⟨ρ1, G1, R1, (Go.shift R s1 (show Go X.K W σ ρ G H _ (fa ρ1) from h)).imp fun d ρ' G' H' s R' h a q0 q1 q2 q3 q4 => h a q0 q1 q2 (s1.t a q3) q4⟩
      | false =>
        rw [if_neg (by decide)]
        exact ⟨ρ1, G1, R1, (Go.shift R s1 (show Go X.K W σ ρ G H _ (fb ρ1) from h)).imp fun d ρ' G' H' s R' h a q0 q1 q2 q3 q4 => h a q0 q1 q2 (s1.t a q3) q4⟩⟩
end DF

namespace DF
open PySem PySem.Spec PyProof.Rows L2
/-- what an operation makes anew -/
def OpF (K : PySem.W.Frag) (r : R2) (g : D → D → Option D) : Prop := ∀ (x y z : D) (v u : V) (G H : Hp) (Q : VK), Evl.Ex G H → Top K G H x v → Top K G H y u → g x y = some z →
  (∀ p l vs, z = .lst l → H p = none → Iss K G l vs → Q (.ref p) (upd H p (.lst vs))) → r v u H Q
theorem opf_cat {K : PySem.W.Frag} : OpF K rCat catL := fun x y z v u G H Q eS hx hy e k => by
  unfold catL at e
  split at e
  · obtain ⟨a, xs, rfl, h1, h2⟩ := hx
    obtain ⟨b, ys, rfl, h3, h4⟩ := hy
    split at e
    · rename_i hl
      cases e
      exact ⟨a, b, xs, ys, rfl, rfl, h1, h3, by rw [← h2.length, ← h4.length, sizeLine_eq]; omega, fun p hp => k p _ _ rfl hp (h2.append h4)⟩
    · cases e
  · cases e
theorem opf_rep {K : PySem.W.Frag} : OpF K rRep repL := fun x y z v u G H Q eS hx hy e k => by
  unfold repL at e
  split at e
  · rename_i l n
    obtain ⟨a, xs, rfl, h1, h2⟩ := hx
    cases hy
    split at e
    · rename_i hl
      cases e
      exact ⟨a, n, xs, rfl, rfl, h1, by omega, by omega, by rw [← h2.length, sizeLine_eq]; omega, fun p hp => k p _ _ rfl hp (h2.rep _)⟩
    · cases e
  · cases e
theorem df_op {X : Cx} {W : WX} {a b : Expr} {op : Operator} {pos : Pos} {r : R2} {g : D → D → Option D} {fa fb : DEnv → R Th} (ho : OpR X (binaryOp op) r) (hs : OpF X.K r g) (hg : ∀ x y z, g x y = some z → ∃ l, z = .lst l) (ha : DO X W a fa) (hb : DO X W b fb) : DF' X W (.BinOp a op b pos) (dBin g fa fb) :=
  pe_imp (pe_op ho ha hb) fun σ H Q ⟨ρ, G, R, h⟩ => ⟨ρ, G, R, by
    unfold dBin at h
    cases e1 : fa ρ with
    | no => rw [e1] at h; exact h
    | ex ρ' ee => rw [e1] at h; exact h
    | ok ρ1 ta =>
      rw [e1] at h
      intro G1 H1 s1 R1 v hv
      refine ⟨ρ1, G1, R1, ?_⟩
      have h : Go X.K W σ ρ G H _ ((fb ρ1).bind fun tb ρ2 => match ta ρ2, tb ρ2 with
        | some x, some y => ofO ρ2 (g x y)
        | _, _ => .no) := h
      cases e2 : fb ρ1 with
      | no => rw [e2] at h; exact h
      | ex ρ' ee => rw [e2] at h; exact fun G2 H2 d s2 R2 => h G2 H2 d (s1.trans R s2) R2
      | ok ρ2 tb =>
        rw [e2] at h
        intro G2 H2 s2 R2 u hu
        have h : Go X.K W σ ρ G H _ (match ta ρ2, tb ρ2 with
          | some x, some y => ofO ρ2 (g x y)
          | _, _ => .no) := h
        split at h
        · rename_i x y ex ey
          cases e : g x y with
          | none => rw [e] at h; exact False.elim h
          | some z =>
            rw [e] at h
            obtain ⟨l, rfl⟩ := hg x y z e
            refine hs x y _ v u G2 H2 Q R2.sub (hv ρ2 G2 H2 x s2 R2 ex) (hu ρ2 G2 H2 y .refl R2 ey) e fun p l' vs ez hp hvs => ?_
            cases ez
            exact fresh_lst R (s1.trans R s2) R2 (fun G' H' s R q1 q2 q3 q4 q5 q6 => h G' H' s R q1 q2 q3 q4 q5 q6) hvs p hp
        · exact False.elim h⟩
theorem catL_lst (x y z : D) (e : catL x y = some z) : ∃ l, z = .lst l := by
  unfold catL at e
  split at e
  · split at e
    · cases e; exact ⟨_, rfl⟩
    · cases e
  · cases e
theorem repL_lst (x y z : D) (e : repL x y = some z) : ∃ l, z = .lst l := by
  unfold repL at e
  split at e
  · split at e
    · cases e; exact ⟨_, rfl⟩
    · cases e
  · cases e
end DF

namespace K04
open PySem PySem.Spec PyProof.Rows L2 DF
def topS (i : Nat) : Stmt := PySem.Challenge.pw_wholerises_k04_whole_polynomials.main.body.getD i (.Pass ⟨0, 0, 0, 0⟩)
abbrev s_q_bag : Stmt := topS 30
theorem sc_q_bag : FnScope ["_law_script", "_law_spot", "_law_cell", "_law_great", "_law_mixed"] ["_law_script", "_law_spot"] (defScope s_q_bag) := ⟨rfl, rfl, rfl, by decide +kernel, rfl, by decide +kernel, by decide +kernel⟩
abbrev s_is_long_integer : Stmt := topS 10
theorem sc_is_long_integer : FnScope ["value"] ["value"] (defScope s_is_long_integer) := ⟨rfl, rfl, rfl, by decide +kernel, rfl, by decide +kernel, by decide +kernel⟩
abbrev s_is_integer : Stmt := topS 11
theorem sc_is_integer : FnScope ["value"] ["value"] (defScope s_is_integer) := ⟨rfl, rfl, rfl, by decide +kernel, rfl, by decide +kernel, by decide +kernel⟩
abbrev s_is_polynomial : Stmt := topS 20
theorem sc_is_polynomial : FnScope ["value", "item"] ["value"] (defScope s_is_polynomial) := ⟨rfl, rfl, rfl, by decide +kernel, rfl, by decide +kernel, by decide +kernel⟩
abbrev s_check_polynomial : Stmt := topS 21
theorem sc_check_polynomial : FnScope ["polynomial"] ["polynomial"] (defScope s_check_polynomial) := ⟨rfl, rfl, rfl, by decide +kernel, rfl, by decide +kernel, by decide +kernel⟩
abbrev s_check_polynomials : Stmt := topS 22
theorem sc_check_polynomials : FnScope ["one", "other"] ["one", "other"] (defScope s_check_polynomials) := ⟨rfl, rfl, rfl, by decide +kernel, rfl, by decide +kernel, by decide +kernel⟩
abbrev s_trimmed : Stmt := topS 23
theorem sc_trimmed : FnScope ["items", "many"] ["items"] (defScope s_trimmed) := ⟨rfl, rfl, rfl, by decide +kernel, rfl, by decide +kernel, by decide +kernel⟩
abbrev s_polynomial_product : Stmt := topS 25
theorem sc_polynomial_product : FnScope ["one", "other", "total", "index", "item", "place", "factor", "product"] ["one", "other"] (defScope s_polynomial_product) := ⟨rfl, rfl, rfl, by decide +kernel, rfl, by decide +kernel, by decide +kernel⟩
abbrev s_polynomial_sum : Stmt := topS 24
theorem sc_polynomial_sum : FnScope ["one", "other", "total", "index", "item"] ["one", "other"] (defScope s_polynomial_sum) := ⟨rfl, rfl, rfl, by decide +kernel, rfl, by decide +kernel, by decide +kernel⟩
abbrev s_divided : Stmt := topS 27
theorem sc_divided : FnScope ["one", "other", "rest", "quotient", "index", "factor", "place", "item"] ["one", "other"] (defScope s_divided) := ⟨rfl, rfl, rfl, by decide +kernel, rfl, by decide +kernel, by decide +kernel⟩
abbrev s_polynomial_quotient : Stmt := topS 26
theorem sc_polynomial_quotient : FnScope ["one", "other"] ["one", "other"] (defScope s_polynomial_quotient) := ⟨rfl, rfl, rfl, by decide +kernel, rfl, by decide +kernel, by decide +kernel⟩
abbrev s_is_long_pair : Stmt := topS 13
theorem sc_is_long_pair : FnScope ["value"] ["value"] (defScope s_is_long_pair) := ⟨rfl, rfl, rfl, by decide +kernel, rfl, by decide +kernel, by decide +kernel⟩
abbrev s_is_long_ratio : Stmt := topS 14
theorem sc_is_long_ratio : FnScope ["value"] ["value"] (defScope s_is_long_ratio) := ⟨rfl, rfl, rfl, by decide +kernel, rfl, by decide +kernel, by decide +kernel⟩
abbrev s_is_ratio : Stmt := topS 15
theorem sc_is_ratio : FnScope ["value"] ["value"] (defScope s_is_ratio) := ⟨rfl, rfl, rfl, by decide +kernel, rfl, by decide +kernel, by decide +kernel⟩
abbrev s_check_ratio : Stmt := topS 16
theorem sc_check_ratio : FnScope ["ratio"] ["ratio"] (defScope s_check_ratio) := ⟨rfl, rfl, rfl, by decide +kernel, rfl, by decide +kernel, by decide +kernel⟩
abbrev s_reduced : Stmt := topS 17
theorem sc_reduced : FnScope ["top", "bottom", "divisor"] ["top", "bottom"] (defScope s_reduced) := ⟨rfl, rfl, rfl, by decide +kernel, rfl, by decide +kernel, by decide +kernel⟩
abbrev s_polynomial_value : Stmt := topS 28
theorem sc_polynomial_value : FnScope ["polynomial", "ratio", "top", "bottom", "total", "scale", "item"] ["polynomial", "ratio"] (defScope s_polynomial_value) := ⟨rfl, rfl, rfl, by decide +kernel, rfl, by decide +kernel, by decide +kernel⟩
abbrev s_q_line_sum : Stmt := topS 40
theorem sc_q_line_sum : FnScope ["_law_one", "_law_other", "_law_size", "_law_at", "_law_found"] ["_law_one", "_law_other"] (defScope s_q_line_sum) := ⟨rfl, rfl, rfl, by decide +kernel, rfl, by decide +kernel, by decide +kernel⟩
abbrev s_q_common : Stmt := topS 32
theorem sc_q_common : FnScope ["_law_numbers", "_law_found", "_law_number", "_law_one", "_law_other"] ["_law_numbers"] (defScope s_q_common) := ⟨rfl, rfl, rfl, by decide +kernel, rfl, by decide +kernel, by decide +kernel⟩
abbrev s_q_lowest : Stmt := topS 33
theorem sc_q_lowest : FnScope ["_law_top", "_law_bottom", "_law_shared"] ["_law_top", "_law_bottom"] (defScope s_q_lowest) := ⟨rfl, rfl, rfl, by decide +kernel, rfl, by decide +kernel, by decide +kernel⟩
abbrev s_q_grab : Stmt := topS 31
theorem sc_q_grab : FnScope ["_law_bag_here", "_law_total", "_law_found", "_law_one", "_law_two"] ["_law_bag_here", "_law_total"] (defScope s_q_grab) := ⟨rfl, rfl, rfl, by decide +kernel, rfl, by decide +kernel, by decide +kernel⟩
abbrev s_q_some_number : Stmt := topS 38
theorem sc_q_some_number : FnScope ["_law_bag_here", "_law_way"] ["_law_bag_here"] (defScope s_q_some_number) := ⟨rfl, rfl, rfl, by decide +kernel, rfl, by decide +kernel, by decide +kernel⟩
abbrev s_q_some_line : Stmt := topS 39
theorem sc_q_some_line : FnScope ["_law_bag_here", "_law_most", "_law_turn", "_law_found"] ["_law_bag_here", "_law_most"] (defScope s_q_some_line) := ⟨rfl, rfl, rfl, by decide +kernel, rfl, by decide +kernel, by decide +kernel⟩
abbrev s_q_ratio_times : Stmt := topS 35
theorem sc_q_ratio_times : FnScope ["_law_one", "_law_other"] ["_law_one", "_law_other"] (defScope s_q_ratio_times) := ⟨rfl, rfl, rfl, by decide +kernel, rfl, by decide +kernel, by decide +kernel⟩
abbrev s_q_ratio_sum : Stmt := topS 34
theorem sc_q_ratio_sum : FnScope ["_law_one", "_law_other", "_law_factor"] ["_law_one", "_law_other", "_law_factor"] (defScope s_q_ratio_sum) := ⟨rfl, rfl, rfl, by decide +kernel, rfl, by decide +kernel, by decide +kernel⟩
abbrev s_q_line_times : Stmt := topS 36
theorem sc_q_line_times : FnScope ["_law_one", "_law_other", "_law_found", "_law_at", "_law_here", "_law_place", "_law_there"] ["_law_one", "_law_other"] (defScope s_q_line_times) := ⟨rfl, rfl, rfl, by decide +kernel, rfl, by decide +kernel, by decide +kernel⟩
abbrev s_q_line_value : Stmt := topS 41
theorem sc_q_line_value : FnScope ["_law_line", "_law_ratio", "_law_found", "_law_power", "_law_number"] ["_law_line", "_law_ratio"] (defScope s_q_line_value) := ⟨rfl, rfl, rfl, by decide +kernel, rfl, by decide +kernel, by decide +kernel⟩
abbrev s_q_line_over : Stmt := topS 37
theorem sc_q_line_over : FnScope ["_law_one", "_law_other", "_law_left", "_law_found", "_law_many", "_law_at", "_law_place", "_law_number"] ["_law_one", "_law_other"] (defScope s_q_line_over) := ⟨rfl, rfl, rfl, by decide +kernel, rfl, by decide +kernel, by decide +kernel⟩
abbrev s_q_products_right : Stmt := topS 43
theorem sc_q_products_right : FnScope ["_law_bag_here", "_law_one", "_law_other", "_law_third", "_law_both", "_law_all_of", "_law_near", "_law_value", "_law_divisor", "_law_ratio", "_law_here", "_law_there"] ["_law_bag_here"] (defScope s_q_products_right) := ⟨rfl, rfl, rfl, by decide +kernel, rfl, by decide +kernel, by decide +kernel⟩
abbrev s_q_is_line : Stmt := topS 42
theorem sc_q_is_line : FnScope ["_law_value", "_law_number"] ["_law_value"] (defScope s_q_is_line) := ⟨rfl, rfl, rfl, by decide +kernel, rfl, by decide +kernel, by decide +kernel⟩
abbrev s_q_judged_right : Stmt := topS 44
theorem sc_q_judged_right : FnScope ["_law_bag_here", "_law_line", "_law_some", "_law_value"] ["_law_bag_here"] (defScope s_q_judged_right) := ⟨rfl, rfl, rfl, by decide +kernel, rfl, by decide +kernel, by decide +kernel⟩
abbrev s_law : Stmt := topS 45
theorem sc_law : FnScope ["_law_script", "_law_spot", "_law_bag_here", "_law_told"] ["_law_script"] (defScope s_law) := ⟨rfl, rfl, rfl, by decide +kernel, rfl, by decide +kernel, by decide +kernel⟩
/-! ### what the defs do -/
def B_q_bag (n : Nat) : DEnv → SR := dSeq (dSet 2 (dIte (dTst (dBin ltD (oVar 1) (oD (dCal lenD (aCons (oVar 0) (aNil)))))) (dBin ixD (oVar 0) (oVar 1)) (dBin addD (oD (dBin addD (oD (dCal sumD (aCons (oD (dCut none (some 1) (oVar 0))) (aNil)))) (oD (dBin mulD (oD (dC (.int 151))) (oVar 1))))) (oD (dC (.int 89))))))
    (dSeq (dSet 3 (dBin modD (oD (dCal intD (aCons (oD (dCal absD (aCons (oVar 2) (aNil)))) (aNil)))) (oD (dBin powD (oD (dBin powD (oD (dC (.int 10))) (oD (dC (.int 45))))) (oD (dC (.int 13)))))))
    (dSeq (dSet 4 (dBin addD (oD (dBin addD (oD (dBin addD (oD (dBin mulD (oD (dBin modD (oD (dCal intD (aCons (oVar 3) (aNil)))) (oD (dC (.int 2305843009213693723))))) (oD (dC (.int 1000457))))) (oD (dBin mulD (oD (dC (.int 9029))) (oVar 1))))) (oD (dBin mulD (oD (dC (.int 53))) (oD (dCal intD (aCons (oD (dBin ltD (oVar 2) (oD (dC (.int 0))))) (aNil)))))))) (oD (dC (.int 37)))))
    (dRetF (dLst (vCons (dCal max2D (aCons (oD (dC (.int 0))) (aCons (oD (dBin subD (oVar 3) (oD (dBin powD (oD (dC (.int 10))) (oD (dC (.int 18))))))) (aNil)))) (vCons (dBin modD (oD (dCal intD (aCons (oVar 4) (aNil)))) (oD (dC (.int 2305843009213693951)))) (vCons (dC (.int 0)) (vNil))))))))
def F_q_bag : Fn := fun as => fnRes as (B_q_bag (fuel as) (startE 5 as))
def B_is_long_integer (n : Nat) : DEnv → SR := dRet (dAndV (dIsi "int" (oVar 0)) (dNotV (dIsi "bool" (oVar 0))))
def F_is_long_integer : Fn := fun as => fnRes as (B_is_long_integer (fuel as) (startE 1 as))
def B_is_integer (n : Nat) : DEnv → SR := dRet (dAndV (dV (dCal2 1 F_is_long_integer (rVal (dVar 0) (rNil)))) (dBin leD (oD (dCal absD (aCons (oVar 0) (aNil)))) (oD (dC (.int 999999999999999999999999999999999999999999999999999999999999)))))
def F_is_integer : Fn := fun as => fnRes as (B_is_integer (fuel as) (startE 1 as))
def B_is_polynomial (n : Nat) : DEnv → SR := dSeq (dIf (dOr (dNot (dTst (dIsi "tuple" (oVar 0)))) (dNot (dTst (dChain leD leD (oD (dC (.int 1))) (oD (dCal lenD (aCons (oVar 0) (aNil)))) (oD (dBin addD (oD (dC (.int 40))) (oD (dC (.int 1))))))))) (dRet (dC (.bl false))) (SR.nx))
    (dSeq (dIf (dNot (dTst (dCal allD (aCons (oD (dLc (sTup (dVar 0)) (setV 1) (tYesB) (dV (dCal2 1 F_is_integer (rVal (dVar 1) (rNil)))) [1])) (aNil))))) (dRet (dC (.bl false))) (SR.nx))
    (dRet (dOrV (dBin eqD1 (oD (dCal lenD (aCons (oVar 0) (aNil)))) (oD (dC (.int 1)))) (dBin neD1 (oD (dBin ixD (oVar 0) (oD (dUn negD (oD (dC (.int 1))))))) (oD (dC (.int 0)))))))
def F_is_polynomial : Fn := fun as => fnRes as (B_is_polynomial (fuel as) (startE 2 as))
def B_check_polynomial (n : Nat) : DEnv → SR := dIf (dNot (dTst (dV (dCal2 1 F_is_polynomial (rVal (dVar 0) (rNil)))))) (dNever) (SR.nx)
def F_check_polynomial : Fn := fun as => fnRes as (B_check_polynomial (fuel as) (startE 1 as))
def B_check_polynomials (n : Nat) : DEnv → SR := dSeq (dExpr (dV (dCal2 1 F_check_polynomial (rVal (dVar 0) (rNil)))))
    (dExpr (dV (dCal2 1 F_check_polynomial (rVal (dVar 1) (rNil)))))
def F_check_polynomials : Fn := fun as => fnRes as (B_check_polynomials (fuel as) (startE 2 as))
def B_trimmed (n : Nat) : DEnv → SR := dSeq (dSet 1 (dCal lenD (aCons (oVar 0) (aNil))))
    (dSeq (dWhile (dAnd (dTst (dBin gtD (oVar 1) (oD (dC (.int 1))))) (dTst (dBin eqD1 (oD (dBin ixD (oVar 0) (oD (dBin subD (oVar 1) (oD (dC (.int 1))))))) (oD (dC (.int 0)))))) (dSet 1 (dBin subD (oVar 1) (oD (dC (.int 1))))) n)
    (dRet (dCal tupD (aCons (oD (dSl (oVar 0) (pNo) (pInt (dVar 1)))) (aNil)))))
def F_trimmed : Fn := fun as => fnRes as (B_trimmed (fuel as) (startE 2 as))
def B_polynomial_product (n : Nat) : DEnv → SR := dSeq (dExpr (dV (dCal2 2 F_check_polynomials (rVal (dVar 0) (rVal (dVar 1) (rNil))))))
    (dSeq (dSetF 2 (dBin repL (oD (dLst (vCons (dC (.int 0)) (vNil)))) (oD (dBin subD (oD (dBin addD (oD (dCal lenD (aCons (oVar 0) (aNil)))) (oD (dCal lenD (aCons (oVar 1) (aNil)))))) (oD (dC (.int 1)))))))
    (dSeq (dForS (sEnT (vCons (dVar 0) (vNil))) (gTp 2 (gsCons (setV 3) (gsCons (setV 4) (gsNil)))) (dForS (sEnT (vCons (dVar 1) (vNil))) (gTp 2 (gsCons (setV 5) (gsCons (setV 6) (gsNil)))) (dSetI 2 (dBin addD (oVar 3) (oVar 5)) (dBin addD (oD (dBin ixD (oVar 2) (oD (dBin addD (oVar 3) (oVar 5))))) (oD (dBin mulD (oVar 4) (oVar 6)))))))
    (dSeq (dSet 7 (dV (dCal2 1 F_trimmed (rIo 2 (rNil)))))
    (dSeq (dIf (dTst (dBin gtD (oD (dCal lenD (aCons (oVar 7) (aNil)))) (oD (dBin addD (oD (dC (.int 40))) (oD (dC (.int 1))))))) (dNever) (SR.nx))
    (dRetV 7)))))
def F_polynomial_product : Fn := fun as => fnRes as (B_polynomial_product (fuel as) (startE 8 as))
def B_polynomial_sum (n : Nat) : DEnv → SR := dSeq (dExpr (dV (dCal2 2 F_check_polynomials (rVal (dVar 0) (rVal (dVar 1) (rNil))))))
    (dSeq (dSetF 2 (dBin repL (oD (dLst (vCons (dC (.int 0)) (vNil)))) (oD (dCal max2D (aCons (oD (dCal lenD (aCons (oVar 0) (aNil)))) (aCons (oD (dCal lenD (aCons (oVar 1) (aNil)))) (aNil)))))))
    (dSeq (dForS (sEnT (vCons (dVar 0) (vNil))) (gTp 2 (gsCons (setV 3) (gsCons (setV 4) (gsNil)))) (dSetI 2 (dVar 3) (dBin addD (oD (dBin ixD (oVar 2) (oVar 3))) (oVar 4))))
    (dSeq (dForS (sEnT (vCons (dVar 1) (vNil))) (gTp 2 (gsCons (setV 3) (gsCons (setV 4) (gsNil)))) (dSetI 2 (dVar 3) (dBin addD (oD (dBin ixD (oVar 2) (oVar 3))) (oVar 4))))
    (dRet (dV (dCal2 1 F_trimmed (rIo 2 (rNil))))))))
def F_polynomial_sum : Fn := fun as => fnRes as (B_polynomial_sum (fuel as) (startE 5 as))
def B_divided (n : Nat) : DEnv → SR := dSeq (dIf (dTst (dBin ltD (oD (dCal lenD (aCons (oVar 0) (aNil)))) (oD (dCal lenD (aCons (oVar 1) (aNil)))))) (dRet (dIte (dTst (dBin eqD1 (oVar 0) (oD (dTup (vCons (dC (.int 0)) (vNil)))))) (dVar 0) (dC .non))) (SR.nx))
    (dSeq (dSetF 2 (dMk seqOf (oVar 0)))
    (dSeq (dSetF 3 (dBin repL (oD (dLst (vCons (dC (.int 0)) (vNil)))) (oD (dBin addD (oD (dBin subD (oD (dCal lenD (aCons (oVar 0) (aNil)))) (oD (dCal lenD (aCons (oVar 1) (aNil)))))) (oD (dC (.int 1)))))))
    (dSeq (dForS (sRevR (dCal lenD (aCons (oVar 3) (aNil)))) (setV 4) (dSeq (dSet 5 (dBin divD (oD (dBin ixD (oVar 2) (oD (dBin subD (oD (dBin addD (oVar 4) (oD (dCal lenD (aCons (oVar 1) (aNil)))))) (oD (dC (.int 1))))))) (oD (dBin ixD (oVar 1) (oD (dUn negD (oD (dC (.int 1)))))))))
    (dSeq (dSetI 3 (dVar 4) (dVar 5))
    (dForS (sEnT (vCons (dVar 1) (vNil))) (gTp 2 (gsCons (setV 6) (gsCons (setV 7) (gsNil)))) (dSetI 2 (dBin addD (oVar 4) (oVar 6)) (dBin subD (oD (dBin ixD (oVar 2) (oD (dBin addD (oVar 4) (oVar 6))))) (oD (dBin mulD (oVar 5) (oVar 7)))))))))
    (dRet (dIte (dTst (dCal anyAD (aCons (oVar 2) (aNil)))) (dC .non) (dCal tupD (aCons (oVar 3) (aNil))))))))
def F_divided : Fn := fun as => fnRes as (B_divided (fuel as) (startE 8 as))
def B_polynomial_quotient (n : Nat) : DEnv → SR := dSeq (dExpr (dV (dCal2 2 F_check_polynomials (rVal (dVar 0) (rVal (dVar 1) (rNil))))))
    (dSeq (dIf (dTst (dBin eqD1 (oVar 1) (oD (dTup (vCons (dC (.int 0)) (vNil)))))) (dNever) (SR.nx))
    (dRet (dV (dCal2 2 F_divided (rVal (dVar 0) (rVal (dVar 1) (rNil)))))))
def F_polynomial_quotient : Fn := fun as => fnRes as (B_polynomial_quotient (fuel as) (startE 2 as))
def B_is_long_pair (n : Nat) : DEnv → SR := dRet (dAndV (dIsi "tuple" (oVar 0)) (dAndV (dBin eqD1 (oD (dCal lenD (aCons (oVar 0) (aNil)))) (oD (dC (.int 2)))) (dAndV (dV (dCal2 1 F_is_long_integer (rVal (dBin ixD (oVar 0) (oD (dC (.int 0)))) (rNil)))) (dV (dCal2 1 F_is_long_integer (rVal (dBin ixD (oVar 0) (oD (dC (.int 1)))) (rNil)))))))
def F_is_long_pair : Fn := fun as => fnRes as (B_is_long_pair (fuel as) (startE 1 as))
def B_is_long_ratio (n : Nat) : DEnv → SR := dRet (dAndV (dV (dCal2 1 F_is_long_pair (rVal (dVar 0) (rNil)))) (dAndV (dBin gtD (oD (dBin ixD (oVar 0) (oD (dC (.int 1))))) (oD (dC (.int 0)))) (dBin eqD1 (oD (dCal gcdD (aCons (oD (dBin ixD (oVar 0) (oD (dC (.int 0))))) (aCons (oD (dBin ixD (oVar 0) (oD (dC (.int 1))))) (aNil))))) (oD (dC (.int 1))))))
def F_is_long_ratio : Fn := fun as => fnRes as (B_is_long_ratio (fuel as) (startE 1 as))
def B_is_ratio (n : Nat) : DEnv → SR := dRet (dAndV (dV (dCal2 1 F_is_long_ratio (rVal (dVar 0) (rNil)))) (dAndV (dV (dCal2 1 F_is_integer (rVal (dBin ixD (oVar 0) (oD (dC (.int 0)))) (rNil)))) (dV (dCal2 1 F_is_integer (rVal (dBin ixD (oVar 0) (oD (dC (.int 1)))) (rNil))))))
def F_is_ratio : Fn := fun as => fnRes as (B_is_ratio (fuel as) (startE 1 as))
def B_check_ratio (n : Nat) : DEnv → SR := dIf (dNot (dTst (dV (dCal2 1 F_is_ratio (rVal (dVar 0) (rNil)))))) (dNever) (SR.nx)
def F_check_ratio : Fn := fun as => fnRes as (B_check_ratio (fuel as) (startE 1 as))
def B_reduced (n : Nat) : DEnv → SR := dSeq (dSet 2 (dCal gcdD (aCons (oVar 0) (aCons (oVar 1) (aNil)))))
    (dSeq (dIf (dTst (dBin ltD (oVar 1) (oD (dC (.int 0))))) (dSet 2 (dUn negD (oVar 2))) (SR.nx))
    (dRet (dTup (vCons (dBin divD (oVar 0) (oVar 2)) (vCons (dBin divD (oVar 1) (oVar 2)) (vNil))))))
def F_reduced : Fn := fun as => fnRes as (B_reduced (fuel as) (startE 3 as))
def B_polynomial_value (n : Nat) : DEnv → SR := dSeq (dExpr (dV (dCal2 1 F_check_polynomial (rVal (dVar 0) (rNil)))))
    (dSeq (dExpr (dV (dCal2 1 F_check_ratio (rVal (dVar 1) (rNil)))))
    (dSeq (dAsg (dVar 1) (gTp 2 (gsCons (setV 2) (gsCons (setV 3) (gsNil)))))
    (dSeq (dSet 4 (dC (.int 0)))
    (dSeq (dSet 5 (dC (.int 1)))
    (dSeq (dForS (sTup (dUn revTD (oVar 0))) (setV 6) (dSeq (dSet 4 (dBin addD (oD (dBin mulD (oVar 4) (oVar 2))) (oD (dBin mulD (oVar 6) (oVar 5)))))
    (dSet 5 (dBin mulD (oVar 5) (oVar 3)))))
    (dRet (dV (dCal2 2 F_reduced (rVal (dBin mulD (oVar 4) (oVar 3)) (rVal (dVar 5) (rNil)))))))))))
def F_polynomial_value : Fn := fun as => fnRes as (B_polynomial_value (fuel as) (startE 7 as))
def B_q_line_sum (n : Nat) : DEnv → SR := dSeq (dSet 2 (dCal max2D (aCons (oD (dCal lenD (aCons (oVar 0) (aNil)))) (aCons (oD (dCal lenD (aCons (oVar 1) (aNil)))) (aNil)))))
    (dSeq (dSetF 4 (dLc (sRng1 (vCons (dVar 2) (vNil))) (setV 3) (tYesB) (dCal sumD (aCons (oD (dBin addD (oD (dMk seqOf (oD (dSl (oVar 0) (pInt (dVar 3)) (pInt (dBin addD (oVar 3) (oD (dC (.int 1))))))))) (oD (dMk seqOf (oD (dSl (oVar 1) (pInt (dVar 3)) (pInt (dBin addD (oVar 3) (oD (dC (.int 1))))))))))) (aNil))) [3]))
    (dSeq (dWhile (dAnd (dTst (dBin gtD (oD (dCal lenD (aCons (oVar 4) (aNil)))) (oD (dC (.int 1))))) (dTst (dBin eqD1 (oD (dBin ixD (oVar 4) (oD (dUn negD (oD (dC (.int 1))))))) (oD (dC (.int 0)))))) (dPop 4) n)
    (dRet (dCal tupD (aCons (oVar 4) (aNil))))))
def F_q_line_sum : Fn := fun as => fnRes as (B_q_line_sum (fuel as) (startE 5 as))
def B_q_common (n : Nat) : DEnv → SR := dSeq (dSet 1 (dC (.int 0)))
    (dSeq (dForS (sLst (dVar 0)) (setV 2) (dSeq (dPar 3 4 (vCons (dVar 1) (vCons (dCal absD (aCons (oVar 2) (aNil))) (vNil))))
    (dSeq (dWhile (dTst (dBin neD1 (oVar 4) (oD (dC (.int 0))))) (dPar 3 4 (vCons (dVar 4) (vCons (dBin modD (oD (dCal intD (aCons (oVar 3) (aNil)))) (oVar 4)) (vNil)))) n)
    (dSet 1 (dVar 3)))))
    (dRetV 1))
def F_q_common : Fn := fun as => fnRes as (B_q_common (fuel as) (startE 5 as))
def B_q_lowest (n : Nat) : DEnv → SR := dSeq (dSet 2 (dBin mulD (oD (dV (dCal2 1 F_q_common (rVal (dLst (vCons (dVar 0) (vCons (dVar 1) (vNil)))) (rNil))))) (oD (dIte (dTst (dBin gtD (oVar 1) (oD (dC (.int 0))))) (dC (.int 1)) (dUn negD (oD (dC (.int 1))))))))
    (dRet (dTup (vCons (dBin divD (oVar 0) (oVar 2)) (vCons (dBin divD (oVar 1) (oVar 2)) (vNil)))))
def F_q_lowest : Fn := fun as => fnRes as (B_q_lowest (fuel as) (startE 3 as))
def B_q_grab (n : Nat) : DEnv → SR := dSeq (dIf (dTst (dBin gtD (oD (dBin ixD (oVar 0) (oD (dC (.int 0))))) (oD (dC (.int 0))))) (dSeq (dSet 2 (dBin modD (oD (dCal intD (aCons (oD (dBin ixD (oVar 0) (oD (dC (.int 0))))) (aNil)))) (oVar 1)))
    (dSeq (dSetI 0 (dC (.int 0)) (dBin divD (oD (dBin ixD (oVar 0) (oD (dC (.int 0))))) (oVar 1)))
    (dRetV 2))) (SR.nx))
    (dSeq (dSetI 0 (dC (.int 2)) (dBin addD (oD (dBin ixD (oVar 0) (oD (dC (.int 2))))) (oD (dC (.int 1)))))
    (dSeq (dSet 3 (dBin modD (oD (dCal intD (aCons (oD (dBin addD (oD (dBin ixD (oVar 0) (oD (dC (.int 1))))) (oD (dBin mulD (oD (dC (.int 1048637))) (oD (dBin ixD (oVar 0) (oD (dC (.int 2))))))))) (aNil)))) (oD (dC (.int 2305843009213693951)))))
    (dSeq (dSet 4 (dBin addD (oD (dBin mulD (oD (dBin modD (oD (dCal intD (aCons (oD (dBin mulD (oVar 3) (oVar 3))) (aNil)))) (oD (dC (.int 2305843009213693723))))) (oVar 3))) (oD (dBin mulD (oD (dC (.int 8161))) (oD (dBin ixD (oVar 0) (oD (dC (.int 2)))))))))
    (dRet (dBin modD (oD (dCal intD (aCons (oD (dBin divD (oD (dBin modD (oD (dCal intD (aCons (oVar 4) (aNil)))) (oD (dC (.int 2305843009213693921))))) (oD (dC (.int 16384))))) (aNil)))) (oVar 1))))))
def F_q_grab : Fn := fun as => fnRes as (B_q_grab (fuel as) (startE 5 as))
def B_q_some_number (n : Nat) : DEnv → SR := dSeq (dSet 1 (dV (dCal2 2 F_q_grab (rIo 0 (rVal (dC (.int 8)) (rNil))))))
    (dSeq (dIf (dTst (dBin eqD1 (oVar 1) (oD (dC (.int 0))))) (dRet (dBin subD (oD (dV (dCal2 2 F_q_grab (rIo 0 (rVal (dBin mulD (oD (dC (.int 2))) (oD (dBin powD (oD (dC (.int 10))) (oD (dC (.int 19)))))) (rNil)))))) (oD (dBin powD (oD (dC (.int 10))) (oD (dC (.int 19))))))) (SR.nx))
    (dRet (dBin subD (oD (dV (dCal2 2 F_q_grab (rIo 0 (rVal (dC (.int 9)) (rNil)))))) (oD (dC (.int 4))))))
def F_q_some_number : Fn := fun as => fnRes as (B_q_some_number (fuel as) (startE 2 as))
def B_q_some_line (n : Nat) : DEnv → SR := dSeq (dSetF 3 (dLc (sRng1 (vCons (dBin addD (oD (dC (.int 1))) (oD (dV (dCal2 2 F_q_grab (rIo 0 (rVal (dBin addD (oVar 1) (oD (dC (.int 1)))) (rNil))))))) (vNil))) (setV 2) (tYesB) (dV (dCal2 1 F_q_some_number (rIo 0 (rNil)))) [2]))
    (dSeq (dWhile (dAnd (dTst (dBin gtD (oD (dCal lenD (aCons (oVar 3) (aNil)))) (oD (dC (.int 1))))) (dTst (dBin eqD1 (oD (dBin ixD (oVar 3) (oD (dUn negD (oD (dC (.int 1))))))) (oD (dC (.int 0)))))) (dPop 3) n)
    (dRet (dCal tupD (aCons (oVar 3) (aNil)))))
def F_q_some_line : Fn := fun as => fnRes as (B_q_some_line (fuel as) (startE 4 as))
def B_q_ratio_times (n : Nat) : DEnv → SR := dRet (dV (dCal2 2 F_q_lowest (rVal (dBin mulD (oD (dBin ixD (oVar 0) (oD (dC (.int 0))))) (oD (dBin ixD (oVar 1) (oD (dC (.int 0)))))) (rVal (dBin mulD (oD (dBin ixD (oVar 0) (oD (dC (.int 1))))) (oD (dBin ixD (oVar 1) (oD (dC (.int 1)))))) (rNil)))))
def F_q_ratio_times : Fn := fun as => fnRes as (B_q_ratio_times (fuel as) (startE 2 as))
def B_q_ratio_sum (n : Nat) : DEnv → SR := dRet (dV (dCal2 2 F_q_lowest (rVal (dBin addD (oD (dBin mulD (oD (dBin ixD (oVar 0) (oD (dC (.int 0))))) (oD (dBin ixD (oVar 1) (oD (dC (.int 1))))))) (oD (dBin mulD (oD (dBin mulD (oVar 2) (oD (dBin ixD (oVar 1) (oD (dC (.int 0))))))) (oD (dBin ixD (oVar 0) (oD (dC (.int 1)))))))) (rVal (dBin mulD (oD (dBin ixD (oVar 0) (oD (dC (.int 1))))) (oD (dBin ixD (oVar 1) (oD (dC (.int 1)))))) (rNil)))))
def F_q_ratio_sum : Fn := fun as => fnRes as (B_q_ratio_sum (fuel as) (startE 3 as))
def B_q_line_times (n : Nat) : DEnv → SR := dSeq (dSetF 2 (dBin repL (oD (dLst (vCons (dC (.int 0)) (vNil)))) (oD (dBin subD (oD (dBin addD (oD (dCal lenD (aCons (oVar 0) (aNil)))) (oD (dCal lenD (aCons (oVar 1) (aNil)))))) (oD (dC (.int 1)))))))
    (dSeq (dForS (sEnT (vCons (dVar 0) (vNil))) (gTp 2 (gsCons (setV 3) (gsCons (setV 4) (gsNil)))) (dForS (sEnT (vCons (dVar 1) (vNil))) (gTp 2 (gsCons (setV 5) (gsCons (setV 6) (gsNil)))) (dSetI 2 (dBin addD (oVar 3) (oVar 5)) (dBin addD (oD (dBin ixD (oVar 2) (oD (dBin addD (oVar 3) (oVar 5))))) (oD (dBin mulD (oVar 4) (oVar 6)))))))
    (dSeq (dWhile (dAnd (dTst (dBin gtD (oD (dCal lenD (aCons (oVar 2) (aNil)))) (oD (dC (.int 1))))) (dTst (dBin eqD1 (oD (dBin ixD (oVar 2) (oD (dUn negD (oD (dC (.int 1))))))) (oD (dC (.int 0)))))) (dPop 2) n)
    (dRet (dCal tupD (aCons (oVar 2) (aNil))))))
def F_q_line_times : Fn := fun as => fnRes as (B_q_line_times (fuel as) (startE 7 as))
def B_q_line_value (n : Nat) : DEnv → SR := dSeq (dAsg (dTup (vCons (dTup (vCons (dC (.int 0)) (vCons (dC (.int 1)) (vNil)))) (vCons (dTup (vCons (dC (.int 1)) (vCons (dC (.int 1)) (vNil)))) (vNil)))) (gTp 2 (gsCons (setV 2) (gsCons (setV 3) (gsNil)))))
    (dSeq (dForS (sTup (dVar 0)) (setV 4) (dSeq (dSet 2 (dV (dCal2 3 F_q_ratio_sum (rVal (dVar 2) (rVal (dVar 3) (rVal (dVar 4) (rNil)))))))
    (dSet 3 (dV (dCal2 2 F_q_ratio_times (rVal (dVar 3) (rVal (dVar 1) (rNil))))))))
    (dRetV 2))
def F_q_line_value : Fn := fun as => fnRes as (B_q_line_value (fuel as) (startE 5 as))
def B_q_line_over (n : Nat) : DEnv → SR := dSeq (dParX [2, 3] (xFr (dMk seqOf (oVar 0)) (xFr (dLst (vNil)) (xNil))))
    (dSeq (dWhile (dTst (dBin geD (oD (dCal lenD (aCons (oVar 2) (aNil)))) (oD (dCal lenD (aCons (oVar 1) (aNil)))))) (dSeq (dSet 4 (dBin divD (oD (dBin ixD (oVar 2) (oD (dUn negD (oD (dC (.int 1))))))) (oD (dBin ixD (oVar 1) (oD (dUn negD (oD (dC (.int 1)))))))))
    (dSeq (dIf (dTst (dBin neD1 (oD (dBin mulD (oVar 4) (oD (dBin ixD (oVar 1) (oD (dUn negD (oD (dC (.int 1))))))))) (oD (dBin ixD (oVar 2) (oD (dUn negD (oD (dC (.int 1))))))))) (dRet (dC .non)) (SR.nx))
    (dSeq (dSet 5 (dBin subD (oD (dCal lenD (aCons (oVar 2) (aNil)))) (oD (dCal lenD (aCons (oVar 1) (aNil))))))
    (dSeq (dForS (sEnT (vCons (dVar 1) (vNil))) (gTp 2 (gsCons (setV 6) (gsCons (setV 7) (gsNil)))) (dSetI 2 (dBin addD (oVar 5) (oVar 6)) (dBin subD (oD (dBin ixD (oVar 2) (oD (dBin addD (oVar 5) (oVar 6))))) (oD (dBin mulD (oVar 4) (oVar 7))))))
    (dSeq (dPop 2)
    (dApp 3 (dVar 4))))))) n)
    (dSeq (dIf (dTst (dBin neD1 (oD (dLc (sLst (dVar 2)) (setV 7) (dTst (dBin neD1 (oVar 7) (oD (dC (.int 0))))) (dVar 7) [7])) (oD (dLst (vNil))))) (dRet (dC .non)) (SR.nx))
    (dSeq (dSetF 3 (dIte (dTst (dBin neD1 (oVar 3) (oD (dLst (vNil))))) (dMk revO (oVar 3)) (dLst (vCons (dC (.int 0)) (vNil)))))
    (dSeq (dWhile (dAnd (dTst (dBin gtD (oD (dCal lenD (aCons (oVar 3) (aNil)))) (oD (dC (.int 1))))) (dTst (dBin eqD1 (oD (dBin ixD (oVar 3) (oD (dUn negD (oD (dC (.int 1))))))) (oD (dC (.int 0)))))) (dPop 3) n)
    (dRet (dCal tupD (aCons (oVar 3) (aNil))))))))
def F_q_line_over : Fn := fun as => fnRes as (B_q_line_over (fuel as) (startE 8 as))
def B_q_products_right (n : Nat) : DEnv → SR := dSeq (dParX [1, 2, 3] (xVal (dV (dCal2 2 F_q_some_line (rIo 0 (rVal (dC (.int 12)) (rNil))))) (xVal (dV (dCal2 2 F_q_some_line (rIo 0 (rVal (dC (.int 12)) (rNil))))) (xVal (dV (dCal2 2 F_q_some_line (rIo 0 (rVal (dC (.int 5)) (rNil))))) (xNil)))))
    (dSeq (dPar 4 5 (vCons (dV (dCal2 2 F_polynomial_product (rVal (dVar 1) (rVal (dVar 2) (rNil))))) (vCons (dV (dCal2 2 F_polynomial_sum (rVal (dVar 1) (rVal (dVar 2) (rNil))))) (vNil))))
    (dSeq (dIf (dOr (dTst (dBin neD1 (oVar 4) (oD (dV (dCal2 2 F_q_line_times (rVal (dVar 1) (rVal (dVar 2) (rNil)))))))) (dOr (dTst (dBin neD1 (oVar 5) (oD (dV (dCal2 2 F_q_line_sum (rVal (dVar 1) (rVal (dVar 2) (rNil)))))))) (dTst (dBin neD1 (oVar 4) (oD (dV (dCal2 2 F_polynomial_product (rVal (dVar 2) (rVal (dVar 1) (rNil)))))))))) (dRet (dC (.bl false))) (SR.nx))
    (dSeq (dIf (dOr (dTst (dBin neD1 (oVar 5) (oD (dV (dCal2 2 F_polynomial_sum (rVal (dVar 2) (rVal (dVar 1) (rNil)))))))) (dOr (dTst (dBin neD1 (oD (dV (dCal2 2 F_polynomial_product (rVal (dVar 1) (rVal (dTup (vCons (dC (.int 0)) (vNil))) (rNil)))))) (oD (dTup (vCons (dC (.int 0)) (vNil)))))) (dTst (dBin neD1 (oD (dV (dCal2 2 F_polynomial_sum (rVal (dVar 1) (rVal (dTup (vCons (dC (.int 0)) (vNil))) (rNil)))))) (oVar 1))))) (dRet (dC (.bl false))) (SR.nx))
    (dSeq (dSet 6 (dV (dCal2 2 F_q_line_sum (rVal (dVar 4) (rVal (dV (dCal2 2 F_q_some_line (rIo 0 (rVal (dC (.int 3)) (rNil))))) (rNil))))))
    (dSeq (dForS (sTup (dTup (vCons (dVar 4) (vCons (dVar 6) (vCons (dVar 1) (vCons (dVar 3) (vNil))))))) (setV 7) (dForS (sTup (dTup (vCons (dVar 1) (vCons (dVar 2) (vCons (dVar 3) (vCons (dTup (vCons (dC (.int 1)) (vNil))) (vCons (dTup (vCons (dUn negD (oD (dC (.int 1)))) (vNil))) (vCons (dTup (vCons (dC (.int 2)) (vNil))) (vNil))))))))) (setV 8) (dIf (dAnd (dTst (dBin neD1 (oVar 8) (oD (dTup (vCons (dC (.int 0)) (vNil)))))) (dTst (dBin neD1 (oD (dV (dCal2 2 F_polynomial_quotient (rVal (dVar 7) (rVal (dVar 8) (rNil)))))) (oD (dV (dCal2 2 F_q_line_over (rVal (dVar 7) (rVal (dVar 8) (rNil))))))))) (dRet (dC (.bl false))) (SR.nx))))
    (dSeq (dSet 9 (dV (dCal2 2 F_q_lowest (rVal (dBin subD (oD (dV (dCal2 2 F_q_grab (rIo 0 (rVal (dC (.int 41)) (rNil)))))) (oD (dC (.int 20)))) (rVal (dBin addD (oD (dC (.int 1))) (oD (dV (dCal2 2 F_q_grab (rIo 0 (rVal (dC (.int 9)) (rNil))))))) (rNil))))))
    (dSeq (dPar 10 11 (vCons (dV (dCal2 2 F_polynomial_value (rVal (dVar 1) (rVal (dVar 9) (rNil))))) (vCons (dV (dCal2 2 F_polynomial_value (rVal (dVar 2) (rVal (dVar 9) (rNil))))) (vNil))))
    (dSeq (dIf (dOr (dTst (dBin neD1 (oVar 10) (oD (dV (dCal2 2 F_q_line_value (rVal (dVar 1) (rVal (dVar 9) (rNil)))))))) (dTst (dBin neD1 (oVar 11) (oD (dV (dCal2 2 F_q_line_value (rVal (dVar 2) (rVal (dVar 9) (rNil))))))))) (dRet (dC (.bl false))) (SR.nx))
    (dSeq (dIf (dTst (dBin neD1 (oD (dV (dCal2 2 F_polynomial_value (rVal (dVar 4) (rVal (dVar 9) (rNil)))))) (oD (dV (dCal2 2 F_q_ratio_times (rVal (dVar 10) (rVal (dVar 11) (rNil)))))))) (dRet (dC (.bl false))) (SR.nx))
    (dRet (dBin eqD1 (oD (dV (dCal2 2 F_polynomial_value (rVal (dVar 5) (rVal (dVar 9) (rNil)))))) (oD (dV (dCal2 3 F_q_ratio_sum (rVal (dVar 10) (rVal (dVar 11) (rVal (dC (.int 1)) (rNil))))))))))))))))))
def F_q_products_right : Fn := fun as => fnRes as (B_q_products_right (fuel as) (startE 12 as))
def B_q_is_line (n : Nat) : DEnv → SR := dSeq (dIf (dOr (dNot (dTst (dIsi "tuple" (oVar 0)))) (dNot (dTst (dChain leD leD (oD (dC (.int 1))) (oD (dCal lenD (aCons (oVar 0) (aNil)))) (oD (dC (.int 41))))))) (dRet (dC (.bl false))) (SR.nx))
    (dSeq (dForS (sTup (dVar 0)) (setV 1) (dIf (dOr (dNot (dTst (dIsi "int" (oVar 1)))) (dOr (dTst (dIsi "bool" (oVar 1))) (dTst (dBin geD (oD (dCal absD (aCons (oVar 1) (aNil)))) (oD (dBin powD (oD (dC (.int 10))) (oD (dC (.int 60))))))))) (dRet (dC (.bl false))) (SR.nx)))
    (dRet (dOrV (dBin eqD1 (oD (dCal lenD (aCons (oVar 0) (aNil)))) (oD (dC (.int 1)))) (dBin neD1 (oD (dBin ixD (oVar 0) (oD (dUn negD (oD (dC (.int 1))))))) (oD (dC (.int 0)))))))
def F_q_is_line : Fn := fun as => fnRes as (B_q_is_line (fuel as) (startE 2 as))
def B_q_judged_right (n : Nat) : DEnv → SR := dSeq (dSet 1 (dV (dCal2 2 F_q_some_line (rIo 0 (rVal (dC (.int 6)) (rNil))))))
    (dSeq (dSet 2 (dLst (vCons (dVar 1) (vCons (dMk seqOf (oVar 1)) (vCons (dBin addD (oVar 1) (oD (dTup (vCons (dC (.int 0)) (vNil))))) (vCons (dBin addD (oVar 1) (oD (dTup (vCons (dC (.int 1)) (vNil))))) (vCons (dTup (vNil)) (vCons (dC .non) (vCons (dC (.int 0)) (vCons (dC (.str (Str.ofString "1"))) (vCons (dDic0) (vCons (dTup (vCons (dC .non) (vNil))) (vCons (dTup (vCons (dC (.bl true)) (vNil))) (vCons (dBin addD (oVar 1) (oD (dTup (vCons (dC (.bl true)) (vNil))))) (vCons (dTup (vCons (dC (.str (Str.ofString "1"))) (vNil))) (vCons (dTup (vCons (dVar 1) (vNil))) (vNil)))))))))))))))))
    (dSeq (dSet 2 (dBin addD (oVar 2) (oD (dLst (vCons (dTup (vCons (dC (.int 0)) (vNil))) (vCons (dTup (vCons (dC (.int 0)) (vCons (dC (.int 0)) (vNil)))) (vCons (dBin mulD (oD (dTup (vCons (dC (.int 1)) (vNil)))) (oD (dC (.int 41)))) (vCons (dBin mulD (oD (dTup (vCons (dC (.int 1)) (vNil)))) (oD (dC (.int 42)))) (vCons (dTup (vCons (dBin powD (oD (dC (.int 10))) (oD (dC (.int 60)))) (vNil))) (vCons (dTup (vCons (dBin subD (oD (dBin powD (oD (dC (.int 10))) (oD (dC (.int 60))))) (oD (dC (.int 1)))) (vNil))) (vCons (dTup (vCons (dBin subD (oD (dC (.int 1))) (oD (dBin powD (oD (dC (.int 10))) (oD (dC (.int 60)))))) (vCons (dC (.int 1)) (vNil)))) (vCons (dTup (vCons (dTup (vCons (dC (.int 1)) (vCons (dC (.int 2)) (vNil)))) (vCons (dC (.int 1)) (vNil)))) (vNil)))))))))))))
    (dRet (dBin eqD1 (oD (dLc (sLst (dVar 2)) (setV 3) (dTst (dBin neD1 (oD (dCal rprD (aCons (oD (dV (dCal2 1 F_is_polynomial (rVal (dVar 3) (rNil))))) (aNil)))) (oD (dCal rprD (aCons (oD (dV (dCal2 1 F_q_is_line (rVal (dVar 3) (rNil))))) (aNil)))))) (dVar 3) [3])) (oD (dLst (vNil)))))))
def F_q_judged_right : Fn := fun as => fnRes as (B_q_judged_right (fuel as) (startE 4 as))
def B_law (n : Nat) : DEnv → SR := dSeq (dForS (sRng1 (vCons (dCal max2D (aCons (oD (dC (.int 1))) (aCons (oD (dCal min2D (aCons (oD (dC (.int 3))) (aCons (oD (dCal lenD (aCons (oVar 0) (aNil)))) (aNil))))) (aNil)))) (vNil))) (setV 1) (dSeq (dSetF 2 (dN (dCal2 2 F_q_bag (rVal (dVar 0) (rVal (dVar 1) (rNil))))))
    (dIf (dOr (dNot (dTst (dV (dCal2 1 F_q_products_right (rIo 2 (rNil)))))) (dNot (dTst (dV (dCal2 1 F_q_judged_right (rIo 2 (rNil))))))) (dRet (dC (.bl false))) (SR.nx))))
    (dSeq (dSet 3 (dLst (vCons (dV (dCal2 2 F_polynomial_product (rVal (dTup (vCons (dC (.int 1)) (vCons (dUn negD (oD (dC (.int 1)))) (vNil)))) (rVal (dTup (vCons (dC (.int 1)) (vCons (dC (.int 1)) (vNil)))) (rNil))))) (vCons (dV (dCal2 2 F_polynomial_sum (rVal (dTup (vCons (dC (.int 1)) (vCons (dC (.int 2)) (vNil)))) (rVal (dTup (vCons (dC (.int 3)) (vCons (dUn negD (oD (dC (.int 2)))) (vNil)))) (rNil))))) (vCons (dV (dCal2 2 F_polynomial_quotient (rVal (dTup (vCons (dUn negD (oD (dC (.int 1)))) (vCons (dC (.int 0)) (vCons (dC (.int 0)) (vCons (dC (.int 1)) (vNil)))))) (rVal (dTup (vCons (dUn negD (oD (dC (.int 1)))) (vCons (dC (.int 1)) (vNil)))) (rNil))))) (vNil))))))
    (dSeq (dSet 3 (dBin addD (oVar 3) (oD (dLst (vCons (dV (dCal2 2 F_polynomial_quotient (rVal (dTup (vCons (dC (.int 1)) (vCons (dC (.int 0)) (vCons (dC (.int 1)) (vNil))))) (rVal (dTup (vCons (dC (.int 1)) (vCons (dC (.int 1)) (vNil)))) (rNil))))) (vCons (dV (dCal2 2 F_polynomial_value (rVal (dTup (vCons (dC (.int 1)) (vCons (dC (.int 0)) (vCons (dUn negD (oD (dC (.int 2)))) (vNil))))) (rVal (dTup (vCons (dC (.int 1)) (vCons (dC (.int 2)) (vNil)))) (rNil))))) (vCons (dV (dCal2 2 F_polynomial_quotient (rVal (dTup (vCons (dC (.int 0)) (vNil))) (rVal (dTup (vCons (dC (.int 0)) (vCons (dC (.int 3)) (vNil)))) (rNil))))) (vNil))))))))
    (dRet (dBin eqD1 (oVar 3) (oD (dLst (vCons (dTup (vCons (dC (.int 1)) (vCons (dC (.int 0)) (vCons (dUn negD (oD (dC (.int 1)))) (vNil))))) (vCons (dTup (vCons (dC (.int 4)) (vNil))) (vCons (dTup (vCons (dC (.int 1)) (vCons (dC (.int 1)) (vCons (dC (.int 1)) (vNil))))) (vCons (dC .non) (vCons (dTup (vCons (dC (.int 1)) (vCons (dC (.int 2)) (vNil)))) (vCons (dTup (vCons (dC (.int 0)) (vNil))) (vNil)))))))))))))
def F_law : Fn := fun as => fnRes as (B_law (fuel as) (startE 4 as))
/-! ### the names behind the top -/
structure Txt (mg : Str → Option Value) : Prop where
  b_abs : mg "abs" = none
  b_all : mg "all" = none
  b_any : mg "any" = none
  b_bool : mg "bool" = none
  b_enumerate : mg "enumerate" = none
  b_int : mg "int" = none
  b_isinstance : mg "isinstance" = none
  b_len : mg "len" = none
  b_list : mg "list" = none
  b_max : mg "max" = none
  b_min : mg "min" = none
  b_range : mg "range" = none
  b_repr : mg "repr" = none
  b_reversed : mg "reversed" = none
  b_sum : mg "sum" = none
  b_tuple : mg "tuple" = none
  c_MAX_DEGREE : ∃ t, mg "MAX_DEGREE" = some (.int 40 t)
  c_MAX_INTEGER : ∃ t, mg "MAX_INTEGER" = some (.int 999999999999999999999999999999999999999999999999999999999999 t)
  m_gcd : mg "gcd" = some (.builtin "math.gcd")
section
variable {P : Program} {w : World} {K : PySem.W.Frag} {mg : Str → Option Value} {base : Heap}
theorem d_q_bag (T : Txt mg)  {f : Addr} {n : Nat} {cdv : Value} {A : Around} {outer : List Env} {s : Shared} {H : Hp} {E : XK} (hr : Room 0 (A.deeper (envOfC "_law_bag" (defScope s_q_bag) s.heap.objs.size f cdv))) :
    DSs (cxOf (L2.CX P w) P w K mg base ["_law_script", "_law_spot", "_law_cell", "_law_great", "_law_mixed"] "_law_bag" (defScope s_q_bag) f cdv A outer s H E) (fun cls d _ H => E cls d H) (defBody s_q_bag) (B_q_bag n) := by
  have S := sc_q_bag
  have tk : Takes (cxOf (L2.CX P w) P w K mg base ["_law_script", "_law_spot", "_law_cell", "_law_great", "_law_mixed"] "_law_bag" (defScope s_q_bag) f cdv A outer s H E) (fun cls d _ H => E cls d H) := takes_of rfl rfl rfl rfl
  have hu := hr.units
  exact dss_cons (ds_set (i := 2) S.nd rfl (.inl rfl) (de_ifExp (dt_cmp op_lt ops_b0 (do_var (pv 1)) (do_val (de_callB call_len_seq cas_len (by rfl) T.b_len PySem.boot_len (da_cons (do_var (pv 0)) (da_nil)))) (nomark _)) (de_ix (do_var (pv 0)) (do_var (pv 1))) (de_bin (op_add.or (op_cat.or op_catA)) (ops_or ops_i0 (ops_or ops_catL ops_catT)) (do_val (de_bin (op_add.or (op_cat.or op_catA)) (ops_or ops_i0 (ops_or ops_catL ops_catT)) (do_val (de_callB (cr_sum rfl) cas_sum (by rfl) T.b_sum boot_sum (da_cons (do_val (de_cut (do_var (pv 0)) cp_no cp_int)) (da_nil)))) (do_val (de_bin (op_mulW.or (op_rep.or op_repT)) (ops_or (ops_ic mul_ok) (ops_or ops_repL ops_repT)) (do_val (de_int)) (do_var (pv 1)))))) (do_val (de_int)))))
    (dss_cons (ds_set (i := 3) S.nd rfl (.inl rfl) (de_bin op_modN (ops_ic fun _ _ h => of_decide_eq_true h) (do_val (de_callTy call_int1 cas_int (by rfl) T.b_int boot_int (da_cons (do_val (de_callB call_abs cas_abs (by rfl) T.b_abs boot_abs (da_cons (do_var (pv 2)) (da_nil)))) (da_nil)))) (do_val (de_bin op_powG (ops_ic fun _ _ h => cPow_ok h) (do_val (de_bin op_powG (ops_ic fun _ _ h => cPow_ok h) (do_val (de_int)) (do_val (de_int)))) (do_val (de_int))))))
    (dss_cons (ds_set (i := 4) S.nd rfl (.inl rfl) (de_bin (op_add.or (op_cat.or op_catA)) (ops_or ops_i0 (ops_or ops_catL ops_catT)) (do_val (de_bin (op_add.or (op_cat.or op_catA)) (ops_or ops_i0 (ops_or ops_catL ops_catT)) (do_val (de_bin (op_add.or (op_cat.or op_catA)) (ops_or ops_i0 (ops_or ops_catL ops_catT)) (do_val (de_bin (op_mulW.or (op_rep.or op_repT)) (ops_or (ops_ic mul_ok) (ops_or ops_repL ops_repT)) (do_val (de_bin op_modN (ops_ic fun _ _ h => of_decide_eq_true h) (do_val (de_callTy call_int1 cas_int (by rfl) T.b_int boot_int (da_cons (do_var (pv 3)) (da_nil)))) (do_val (de_int)))) (do_val (de_int)))) (do_val (de_bin (op_mulW.or (op_rep.or op_repT)) (ops_or (ops_ic mul_ok) (ops_or ops_repL ops_repT)) (do_val (de_int)) (do_var (pv 1)))))) (do_val (de_bin (op_mulW.or (op_rep.or op_repT)) (ops_or (ops_ic mul_ok) (ops_or ops_repL ops_repT)) (do_val (de_int)) (do_val (de_callTy call_int1 cas_int (by rfl) T.b_int boot_int (da_cons (do_val (de_cmp op_lt ops_b0 (do_var (pv 2)) (do_val (de_int)) (nomark _))) (da_nil)))))))) (do_val (de_int))))
    (dss_one (ds_retF (df_lst (dv_cons (de_callB (call_max2 rfl) cas_max2 (by rfl) T.b_max boot_max (da_cons (do_val (de_int)) (da_cons (do_val (de_bin op_sub ops_i0 (do_var (pv 3)) (do_val (de_bin op_powG (ops_ic fun _ _ h => cPow_ok h) (do_val (de_int)) (do_val (de_int)))))) (da_nil)))) (dv_cons (de_bin op_modN (ops_ic fun _ _ h => of_decide_eq_true h) (do_val (de_callTy call_int1 cas_int (by rfl) T.b_int boot_int (da_cons (do_var (pv 4)) (da_nil)))) (do_val (de_int))) (dv_cons (de_int) (dv_nil)))))))))
theorem d_is_long_integer (T : Txt mg)  {f : Addr} {n : Nat} {cdv : Value} {A : Around} {outer : List Env} {s : Shared} {H : Hp} {E : XK} (hr : Room 0 (A.deeper (envOfC "is_long_integer" (defScope s_is_long_integer) s.heap.objs.size f cdv))) :
    DSs (cxOf (L2.CX P w) P w K mg base ["value"] "is_long_integer" (defScope s_is_long_integer) f cdv A outer s H E) (fun cls d _ H => E cls d H) (defBody s_is_long_integer) (B_is_long_integer n) := by
  have S := sc_is_long_integer
  have tk : Takes (cxOf (L2.CX P w) P w K mg base ["value"] "is_long_integer" (defScope s_is_long_integer) f cdv A outer s H E) (fun cls d _ H => E cls d H) := takes_of rfl rfl rfl rfl
  have hu := hr.units
  exact dss_one (ds_ret (de_and (de_isi (do_var (pv 0)) (pe_tyn (T := "int") (by rfl) T.b_int boot_int) (by rfl) T.b_isinstance boot_isinstance) (de_one (de_not (de_isi (do_var (pv 0)) (pe_tyn (T := "bool") (by rfl) T.b_bool boot_bool) (by rfl) T.b_isinstance boot_isinstance)))))
theorem d_is_integer (T : Txt mg) (h_is_long_integer : Has P w K mg base "is_long_integer" 1 ["value"] F_is_long_integer) {f : Addr} {n : Nat} {cdv : Value} {A : Around} {outer : List Env} {s : Shared} {H : Hp} {E : XK} (hr : Room 1 (A.deeper (envOfC "is_integer" (defScope s_is_integer) s.heap.objs.size f cdv))) :
    DSs (cxOf (L2.CX P w) P w K mg base ["value"] "is_integer" (defScope s_is_integer) f cdv A outer s H E) (fun cls d _ H => E cls d H) (defBody s_is_integer) (B_is_integer n) := by
  have S := sc_is_integer
  have tk : Takes (cxOf (L2.CX P w) P w K mg base ["value"] "is_integer" (defScope s_is_integer) f cdv A outer s H E) (fun cls d _ H => E cls d H) := takes_of rfl rfl rfl rfl
  have hu := hr.units
  exact dss_one (ds_ret (de_and (dx_de (dx_has h_is_long_integer hr (by decide) tk (by rfl) (dr_val (de_var (pv 0)) (dr_nil)))) (de_one (de_cmp op_le ops_b0 (do_val (de_callB call_abs cas_abs (by rfl) T.b_abs boot_abs (da_cons (do_var (pv 0)) (da_nil)))) (do_val (de_gint (by rfl) T.c_MAX_INTEGER.choose_spec)) (nomark _)))))
theorem d_is_polynomial (T : Txt mg) (h_is_integer : Has P w K mg base "is_integer" 2 ["value"] F_is_integer) {f : Addr} {n : Nat} {cdv : Value} {A : Around} {outer : List Env} {s : Shared} {H : Hp} {E : XK} (hr : Room 2 (A.deeper (envOfC "is_polynomial" (defScope s_is_polynomial) s.heap.objs.size f cdv))) :
    DSs (cxOf (L2.CX P w) P w K mg base ["value", "item"] "is_polynomial" (defScope s_is_polynomial) f cdv A outer s H E) (fun cls d _ H => E cls d H) (defBody s_is_polynomial) (B_is_polynomial n) := by
  have S := sc_is_polynomial
  have tk : Takes (cxOf (L2.CX P w) P w K mg base ["value", "item"] "is_polynomial" (defScope s_is_polynomial) f cdv A outer s H E) (fun cls d _ H => E cls d H) := takes_of rfl rfl rfl rfl
  have hu := hr.units
  exact dss_cons (ds_if (dt_bool (dw_or (dt_not (dt_val (de_isi (do_var (pv 0)) (pe_tyn (T := "tuple") (by rfl) T.b_tuple boot_tuple) (by rfl) T.b_isinstance boot_isinstance))) (dw_or1 (dt_not (dt_chain op_le op_le ops_b0 ops_b0 (do_val (de_int)) (do_val (de_callB call_len_seq cas_len (by rfl) T.b_len PySem.boot_len (da_cons (do_var (pv 0)) (da_nil)))) (do_val (de_bin (op_add.or (op_cat.or op_catA)) (ops_or ops_i0 (ops_or ops_catL ops_catT)) (do_val (de_gint (by rfl) T.c_MAX_DEGREE.choose_spec)) (do_val (de_int))))))))) (dss_one (ds_ret (de_bl))) (dss_nil))
    (dss_cons (ds_if (dt_not (dt_val (de_callB (cr_all rfl) cas_all (by rfl) T.b_all boot_all (da_cons (do_val (de_fresh (df_lc (own := [("item", 1)]) rfl S.nd (di_tup (de_var (pv 0))) (blkOk_by (by rfl)) rfl (by intro _ _ _ _ _; exact dg_name (i := 1) (pg_name (i := 1) S.nd rfl (.inl rfl))) (by intro _ _ _ _ _; exact dts_nil) (by intro _ _ _ _ _; exact dx_de (dx_hasN h_is_integer hr (by decide) (by rfl) (dr_val (de_var (pv 1)) (dr_nil))))))) (da_nil))))) (dss_one (ds_ret (de_bl))) (dss_nil))
    (dss_one (ds_ret (de_or (de_cmp (op_eqD hu) ops_eq1 (do_val (de_callB call_len_seq cas_len (by rfl) T.b_len PySem.boot_len (da_cons (do_var (pv 0)) (da_nil)))) (do_val (de_int)) (nomark _)) (de_one (de_cmp (op_neD hu) ops_ne1 (do_val (de_ix (do_var (pv 0)) (do_val (de_un un_neg uns_neg (do_val (de_int)))))) (do_val (de_int)) (nomark _)))))))
theorem d_check_polynomial (T : Txt mg) (h_is_polynomial : Has P w K mg base "is_polynomial" 3 ["value"] F_is_polynomial) {f : Addr} {n : Nat} {cdv : Value} {A : Around} {outer : List Env} {s : Shared} {H : Hp} {E : XK} (hr : Room 3 (A.deeper (envOfC "check_polynomial" (defScope s_check_polynomial) s.heap.objs.size f cdv))) :
    DSs (cxOf (L2.CX P w) P w K mg base ["polynomial"] "check_polynomial" (defScope s_check_polynomial) f cdv A outer s H E) (fun cls d _ H => E cls d H) (defBody s_check_polynomial) (B_check_polynomial n) := by
  have S := sc_check_polynomial
  have tk : Takes (cxOf (L2.CX P w) P w K mg base ["polynomial"] "check_polynomial" (defScope s_check_polynomial) f cdv A outer s H E) (fun cls d _ H => E cls d H) := takes_of rfl rfl rfl rfl
  have hu := hr.units
  exact dss_one (ds_if (dt_not (dt_val (dx_de (dx_has h_is_polynomial hr (by decide) tk (by rfl) (dr_val (de_var (pv 0)) (dr_nil)))))) (dss_one (ds_never)) (dss_nil))
theorem d_check_polynomials (T : Txt mg) (h_check_polynomial : Has P w K mg base "check_polynomial" 4 ["polynomial"] F_check_polynomial) {f : Addr} {n : Nat} {cdv : Value} {A : Around} {outer : List Env} {s : Shared} {H : Hp} {E : XK} (hr : Room 4 (A.deeper (envOfC "check_polynomials" (defScope s_check_polynomials) s.heap.objs.size f cdv))) :
    DSs (cxOf (L2.CX P w) P w K mg base ["one", "other"] "check_polynomials" (defScope s_check_polynomials) f cdv A outer s H E) (fun cls d _ H => E cls d H) (defBody s_check_polynomials) (B_check_polynomials n) := by
  have S := sc_check_polynomials
  have tk : Takes (cxOf (L2.CX P w) P w K mg base ["one", "other"] "check_polynomials" (defScope s_check_polynomials) f cdv A outer s H E) (fun cls d _ H => E cls d H) := takes_of rfl rfl rfl rfl
  have hu := hr.units
  exact dss_cons (ds_expr (dx_de (dx_has h_check_polynomial hr (by decide) tk (by rfl) (dr_val (de_var (pv 0)) (dr_nil)))))
    (dss_one (ds_expr (dx_de (dx_has h_check_polynomial hr (by decide) tk (by rfl) (dr_val (de_var (pv 1)) (dr_nil))))))
theorem d_trimmed (T : Txt mg)  {f : Addr} {n : Nat} {cdv : Value} {A : Around} {outer : List Env} {s : Shared} {H : Hp} {E : XK} (hr : Room 0 (A.deeper (envOfC "trimmed" (defScope s_trimmed) s.heap.objs.size f cdv))) :
    DSs (cxOf (L2.CX P w) P w K mg base ["items", "many"] "trimmed" (defScope s_trimmed) f cdv A outer s H E) (fun cls d _ H => E cls d H) (defBody s_trimmed) (B_trimmed n) := by
  have S := sc_trimmed
  have tk : Takes (cxOf (L2.CX P w) P w K mg base ["items", "many"] "trimmed" (defScope s_trimmed) f cdv A outer s H E) (fun cls d _ H => E cls d H) := takes_of rfl rfl rfl rfl
  have hu := hr.units
  exact dss_cons (ds_set (i := 1) S.nd rfl (.inl rfl) (de_callB call_len_seq cas_len (by rfl) T.b_len PySem.boot_len (da_cons (do_var (pv 0)) (da_nil))))
    (dss_cons (ds_while n (passes_of rfl) (dt_bool (dw_and (dt_cmp op_gt ops_b0 (do_var (pv 1)) (do_val (de_int)) (nomark _)) (dw_and1 (dt_cmp (op_eqD hu) ops_eq1 (do_val (de_ix (do_var (pv 0)) (do_val (de_bin op_sub ops_i0 (do_var (pv 1)) (do_val (de_int)))))) (do_val (de_int)) (nomark _))))) (dss_one (ds_set (i := 1) S.nd rfl (.inl rfl) (de_bin op_sub ops_i0 (do_var (pv 1)) (do_val (de_int))))))
    (dss_one (ds_ret (de_callTy call_tuple_of cas_tup (by rfl) T.b_tuple boot_tuple (da_cons (do_val (de_sl (do_var (pv 0)) (dp_no) (dp_int (de_var (pv 1))))) (da_nil))))))
theorem d_polynomial_product (T : Txt mg) (h_check_polynomials : Has P w K mg base "check_polynomials" 5 ["one", "other"] F_check_polynomials) (h_trimmed : Has P w K mg base "trimmed" 1 ["items"] F_trimmed) {f : Addr} {n : Nat} {cdv : Value} {A : Around} {outer : List Env} {s : Shared} {H : Hp} {E : XK} (hr : Room 5 (A.deeper (envOfC "polynomial_product" (defScope s_polynomial_product) s.heap.objs.size f cdv))) :
    DSs (cxOf (L2.CX P w) P w K mg base ["one", "other", "total", "index", "item", "place", "factor", "product"] "polynomial_product" (defScope s_polynomial_product) f cdv A outer s H E) (fun cls d _ H => E cls d H) (defBody s_polynomial_product) (B_polynomial_product n) := by
  have S := sc_polynomial_product
  have tk : Takes (cxOf (L2.CX P w) P w K mg base ["one", "other", "total", "index", "item", "place", "factor", "product"] "polynomial_product" (defScope s_polynomial_product) f cdv A outer s H E) (fun cls d _ H => E cls d H) := takes_of rfl rfl rfl rfl
  have hu := hr.units
  exact dss_cons (ds_expr (dx_de (dx_has h_check_polynomials hr (by decide) tk (by rfl) (dr_val (de_var (pv 0)) (dr_val (de_var (pv 1)) (dr_nil))))))
    (dss_cons (ds_setF (i := 2) S.nd rfl (.inl rfl) (df_op op_rep opf_rep repL_lst (do_val (de_fresh (df_lst (dv_cons (de_int) (dv_nil))))) (do_val (de_bin op_sub ops_i0 (do_val (de_bin (op_add.or (op_cat.or op_catA)) (ops_or ops_i0 (ops_or ops_catL ops_catT)) (do_val (de_callB call_len_seq cas_len (by rfl) T.b_len PySem.boot_len (da_cons (do_var (pv 0)) (da_nil)))) (do_val (de_callB call_len_seq cas_len (by rfl) T.b_len PySem.boot_len (da_cons (do_var (pv 1)) (da_nil)))))) (do_val (de_int))))))
    (dss_cons (ds_for (passes_of rfl) rfl (di_enT (by rfl) T.b_enumerate (dv_cons (de_var (pv 0)) (dv_nil))) (dg_tup rfl (dgs_cons (dg_name (i := 3) (pg_name (i := 3) S.nd rfl (.inl rfl))) (dgs_cons (dg_name (i := 4) (pg_name (i := 4) S.nd rfl (.inl rfl))) (dgs_nil)))) (dss_one (ds_for (passes_of rfl) rfl (di_enT (by rfl) T.b_enumerate (dv_cons (de_var (pv 1)) (dv_nil))) (dg_tup rfl (dgs_cons (dg_name (i := 5) (pg_name (i := 5) S.nd rfl (.inl rfl))) (dgs_cons (dg_name (i := 6) (pg_name (i := 6) S.nd rfl (.inl rfl))) (dgs_nil)))) (dss_one (ds_seti (pv 2) (de_bin (op_add.or (op_cat.or op_catA)) (ops_or ops_i0 (ops_or ops_catL ops_catT)) (do_var (pv 3)) (do_var (pv 5))) (de_bin (op_add.or (op_cat.or op_catA)) (ops_or ops_i0 (ops_or ops_catL ops_catT)) (do_val (de_ix (do_var (pv 2)) (do_val (de_bin (op_add.or (op_cat.or op_catA)) (ops_or ops_i0 (ops_or ops_catL ops_catT)) (do_var (pv 3)) (do_var (pv 5)))))) (do_val (de_bin (op_mulW.or (op_rep.or op_repT)) (ops_or (ops_ic mul_ok) (ops_or ops_repL ops_repT)) (do_var (pv 4)) (do_var (pv 6))))))))))
    (dss_cons (ds_set (i := 7) S.nd rfl (.inl rfl) (dx_de (dx_has h_trimmed hr (by decide) tk (by rfl) (dr_io (pv 2) (dr_nil)))))
    (dss_cons (ds_if (dt_cmp op_gt ops_b0 (do_val (de_callB call_len_seq cas_len (by rfl) T.b_len PySem.boot_len (da_cons (do_var (pv 7)) (da_nil)))) (do_val (de_bin (op_add.or (op_cat.or op_catA)) (ops_or ops_i0 (ops_or ops_catL ops_catT)) (do_val (de_gint (by rfl) T.c_MAX_DEGREE.choose_spec)) (do_val (de_int)))) (nomark _)) (dss_one (ds_never)) (dss_nil))
    (dss_one (ds_retV (pv 7)))))))
theorem d_polynomial_sum (T : Txt mg) (h_check_polynomials : Has P w K mg base "check_polynomials" 5 ["one", "other"] F_check_polynomials) (h_trimmed : Has P w K mg base "trimmed" 1 ["items"] F_trimmed) {f : Addr} {n : Nat} {cdv : Value} {A : Around} {outer : List Env} {s : Shared} {H : Hp} {E : XK} (hr : Room 5 (A.deeper (envOfC "polynomial_sum" (defScope s_polynomial_sum) s.heap.objs.size f cdv))) :
    DSs (cxOf (L2.CX P w) P w K mg base ["one", "other", "total", "index", "item"] "polynomial_sum" (defScope s_polynomial_sum) f cdv A outer s H E) (fun cls d _ H => E cls d H) (defBody s_polynomial_sum) (B_polynomial_sum n) := by
  have S := sc_polynomial_sum
  have tk : Takes (cxOf (L2.CX P w) P w K mg base ["one", "other", "total", "index", "item"] "polynomial_sum" (defScope s_polynomial_sum) f cdv A outer s H E) (fun cls d _ H => E cls d H) := takes_of rfl rfl rfl rfl
  have hu := hr.units
  exact dss_cons (ds_expr (dx_de (dx_has h_check_polynomials hr (by decide) tk (by rfl) (dr_val (de_var (pv 0)) (dr_val (de_var (pv 1)) (dr_nil))))))
    (dss_cons (ds_setF (i := 2) S.nd rfl (.inl rfl) (df_op op_rep opf_rep repL_lst (do_val (de_fresh (df_lst (dv_cons (de_int) (dv_nil))))) (do_val (de_callB (call_max2 rfl) cas_max2 (by rfl) T.b_max boot_max (da_cons (do_val (de_callB call_len_seq cas_len (by rfl) T.b_len PySem.boot_len (da_cons (do_var (pv 0)) (da_nil)))) (da_cons (do_val (de_callB call_len_seq cas_len (by rfl) T.b_len PySem.boot_len (da_cons (do_var (pv 1)) (da_nil)))) (da_nil)))))))
    (dss_cons (ds_for (passes_of rfl) rfl (di_enT (by rfl) T.b_enumerate (dv_cons (de_var (pv 0)) (dv_nil))) (dg_tup rfl (dgs_cons (dg_name (i := 3) (pg_name (i := 3) S.nd rfl (.inl rfl))) (dgs_cons (dg_name (i := 4) (pg_name (i := 4) S.nd rfl (.inl rfl))) (dgs_nil)))) (dss_one (ds_seti (pv 2) (de_var (pv 3)) (de_bin (op_add.or (op_cat.or op_catA)) (ops_or ops_i0 (ops_or ops_catL ops_catT)) (do_val (de_ix (do_var (pv 2)) (do_var (pv 3)))) (do_var (pv 4))))))
    (dss_cons (ds_for (passes_of rfl) rfl (di_enT (by rfl) T.b_enumerate (dv_cons (de_var (pv 1)) (dv_nil))) (dg_tup rfl (dgs_cons (dg_name (i := 3) (pg_name (i := 3) S.nd rfl (.inl rfl))) (dgs_cons (dg_name (i := 4) (pg_name (i := 4) S.nd rfl (.inl rfl))) (dgs_nil)))) (dss_one (ds_seti (pv 2) (de_var (pv 3)) (de_bin (op_add.or (op_cat.or op_catA)) (ops_or ops_i0 (ops_or ops_catL ops_catT)) (do_val (de_ix (do_var (pv 2)) (do_var (pv 3)))) (do_var (pv 4))))))
    (dss_one (ds_ret (dx_de (dx_has h_trimmed hr (by decide) tk (by rfl) (dr_io (pv 2) (dr_nil)))))))))
theorem d_divided (T : Txt mg)  {f : Addr} {n : Nat} {cdv : Value} {A : Around} {outer : List Env} {s : Shared} {H : Hp} {E : XK} (hr : Room 0 (A.deeper (envOfC "divided" (defScope s_divided) s.heap.objs.size f cdv))) :
    DSs (cxOf (L2.CX P w) P w K mg base ["one", "other", "rest", "quotient", "index", "factor", "place", "item"] "divided" (defScope s_divided) f cdv A outer s H E) (fun cls d _ H => E cls d H) (defBody s_divided) (B_divided n) := by
  have S := sc_divided
  have tk : Takes (cxOf (L2.CX P w) P w K mg base ["one", "other", "rest", "quotient", "index", "factor", "place", "item"] "divided" (defScope s_divided) f cdv A outer s H E) (fun cls d _ H => E cls d H) := takes_of rfl rfl rfl rfl
  have hu := hr.units
  exact dss_cons (ds_if (dt_cmp op_lt ops_b0 (do_val (de_callB call_len_seq cas_len (by rfl) T.b_len PySem.boot_len (da_cons (do_var (pv 0)) (da_nil)))) (do_val (de_callB call_len_seq cas_len (by rfl) T.b_len PySem.boot_len (da_cons (do_var (pv 1)) (da_nil)))) (nomark _)) (dss_one (ds_ret (de_ifExp (dt_cmp (op_eqD hu) ops_eq1 (do_var (pv 0)) (do_val (de_tup (dv_cons (de_int) (dv_nil)))) (nomark _)) (de_var (pv 0)) (de_non)))) (dss_nil))
    (dss_cons (ds_setF (i := 2) S.nd rfl (.inl rfl) (df_list (by rfl) T.b_list (do_var (pv 0))))
    (dss_cons (ds_setF (i := 3) S.nd rfl (.inl rfl) (df_op op_rep opf_rep repL_lst (do_val (de_fresh (df_lst (dv_cons (de_int) (dv_nil))))) (do_val (de_bin (op_add.or (op_cat.or op_catA)) (ops_or ops_i0 (ops_or ops_catL ops_catT)) (do_val (de_bin op_sub ops_i0 (do_val (de_callB call_len_seq cas_len (by rfl) T.b_len PySem.boot_len (da_cons (do_var (pv 0)) (da_nil)))) (do_val (de_callB call_len_seq cas_len (by rfl) T.b_len PySem.boot_len (da_cons (do_var (pv 1)) (da_nil)))))) (do_val (de_int))))))
    (dss_cons (ds_for (passes_of rfl) rfl (di_revR (by rfl) T.b_reversed (by rfl) T.b_range (de_callB call_len_seq cas_len (by rfl) T.b_len PySem.boot_len (da_cons (do_var (pv 3)) (da_nil)))) (dg_name (i := 4) (pg_name (i := 4) S.nd rfl (.inl rfl))) (dss_cons (ds_set (i := 5) S.nd rfl (.inl rfl) (de_bin op_fdivG (ops_ic fun _ _ h => cDiv_ok h) (do_val (de_ix (do_var (pv 2)) (do_val (de_bin op_sub ops_i0 (do_val (de_bin (op_add.or (op_cat.or op_catA)) (ops_or ops_i0 (ops_or ops_catL ops_catT)) (do_var (pv 4)) (do_val (de_callB call_len_seq cas_len (by rfl) T.b_len PySem.boot_len (da_cons (do_var (pv 1)) (da_nil)))))) (do_val (de_int)))))) (do_val (de_ix (do_var (pv 1)) (do_val (de_un un_neg uns_neg (do_val (de_int))))))))
    (dss_cons (ds_seti (pv 3) (de_var (pv 4)) (de_var (pv 5)))
    (dss_one (ds_for (passes_of rfl) rfl (di_enT (by rfl) T.b_enumerate (dv_cons (de_var (pv 1)) (dv_nil))) (dg_tup rfl (dgs_cons (dg_name (i := 6) (pg_name (i := 6) S.nd rfl (.inl rfl))) (dgs_cons (dg_name (i := 7) (pg_name (i := 7) S.nd rfl (.inl rfl))) (dgs_nil)))) (dss_one (ds_seti (pv 2) (de_bin (op_add.or (op_cat.or op_catA)) (ops_or ops_i0 (ops_or ops_catL ops_catT)) (do_var (pv 4)) (do_var (pv 6))) (de_bin op_sub ops_i0 (do_val (de_ix (do_var (pv 2)) (do_val (de_bin (op_add.or (op_cat.or op_catA)) (ops_or ops_i0 (ops_or ops_catL ops_catT)) (do_var (pv 4)) (do_var (pv 6)))))) (do_val (de_bin (op_mulW.or (op_rep.or op_repT)) (ops_or (ops_ic mul_ok) (ops_or ops_repL ops_repT)) (do_var (pv 5)) (do_var (pv 7))))))))))))
    (dss_one (ds_ret (de_ifExp (dt_val (de_callB ((cr_any rfl).or (call_anyI rfl)) (cas_or cas_any cas_anyI) (by rfl) T.b_any boot_any (da_cons (do_var (pv 2)) (da_nil)))) (de_non) (de_callTy call_tuple_of cas_tup (by rfl) T.b_tuple boot_tuple (da_cons (do_var (pv 3)) (da_nil)))))))))
theorem d_polynomial_quotient (T : Txt mg) (h_check_polynomials : Has P w K mg base "check_polynomials" 5 ["one", "other"] F_check_polynomials) (h_divided : Has P w K mg base "divided" 1 ["one", "other"] F_divided) {f : Addr} {n : Nat} {cdv : Value} {A : Around} {outer : List Env} {s : Shared} {H : Hp} {E : XK} (hr : Room 5 (A.deeper (envOfC "polynomial_quotient" (defScope s_polynomial_quotient) s.heap.objs.size f cdv))) :
    DSs (cxOf (L2.CX P w) P w K mg base ["one", "other"] "polynomial_quotient" (defScope s_polynomial_quotient) f cdv A outer s H E) (fun cls d _ H => E cls d H) (defBody s_polynomial_quotient) (B_polynomial_quotient n) := by
  have S := sc_polynomial_quotient
  have tk : Takes (cxOf (L2.CX P w) P w K mg base ["one", "other"] "polynomial_quotient" (defScope s_polynomial_quotient) f cdv A outer s H E) (fun cls d _ H => E cls d H) := takes_of rfl rfl rfl rfl
  have hu := hr.units
  exact dss_cons (ds_expr (dx_de (dx_has h_check_polynomials hr (by decide) tk (by rfl) (dr_val (de_var (pv 0)) (dr_val (de_var (pv 1)) (dr_nil))))))
    (dss_cons (ds_if (dt_cmp (op_eqD hu) ops_eq1 (do_var (pv 1)) (do_val (de_tup (dv_cons (de_int) (dv_nil)))) (nomark _)) (dss_one (ds_never)) (dss_nil))
    (dss_one (ds_ret (dx_de (dx_has h_divided hr (by decide) tk (by rfl) (dr_val (de_var (pv 0)) (dr_val (de_var (pv 1)) (dr_nil))))))))
theorem d_is_long_pair (T : Txt mg) (h_is_long_integer : Has P w K mg base "is_long_integer" 1 ["value"] F_is_long_integer) {f : Addr} {n : Nat} {cdv : Value} {A : Around} {outer : List Env} {s : Shared} {H : Hp} {E : XK} (hr : Room 1 (A.deeper (envOfC "is_long_pair" (defScope s_is_long_pair) s.heap.objs.size f cdv))) :
    DSs (cxOf (L2.CX P w) P w K mg base ["value"] "is_long_pair" (defScope s_is_long_pair) f cdv A outer s H E) (fun cls d _ H => E cls d H) (defBody s_is_long_pair) (B_is_long_pair n) := by
  have S := sc_is_long_pair
  have tk : Takes (cxOf (L2.CX P w) P w K mg base ["value"] "is_long_pair" (defScope s_is_long_pair) f cdv A outer s H E) (fun cls d _ H => E cls d H) := takes_of rfl rfl rfl rfl
  have hu := hr.units
  exact dss_one (ds_ret (de_and (de_isi (do_var (pv 0)) (pe_tyn (T := "tuple") (by rfl) T.b_tuple boot_tuple) (by rfl) T.b_isinstance boot_isinstance) (de_and (de_cmp (op_eqD hu) ops_eq1 (do_val (de_callB call_len_seq cas_len (by rfl) T.b_len PySem.boot_len (da_cons (do_var (pv 0)) (da_nil)))) (do_val (de_int)) (nomark _)) (de_and (dx_de (dx_has h_is_long_integer hr (by decide) tk (by rfl) (dr_val (de_ix (do_var (pv 0)) (do_val (de_int))) (dr_nil)))) (de_one (dx_de (dx_has h_is_long_integer hr (by decide) tk (by rfl) (dr_val (de_ix (do_var (pv 0)) (do_val (de_int))) (dr_nil)))))))))
theorem d_is_long_ratio (T : Txt mg) (h_is_long_pair : Has P w K mg base "is_long_pair" 2 ["value"] F_is_long_pair) {f : Addr} {n : Nat} {cdv : Value} {A : Around} {outer : List Env} {s : Shared} {H : Hp} {E : XK} (hr : Room 2 (A.deeper (envOfC "is_long_ratio" (defScope s_is_long_ratio) s.heap.objs.size f cdv))) :
    DSs (cxOf (L2.CX P w) P w K mg base ["value"] "is_long_ratio" (defScope s_is_long_ratio) f cdv A outer s H E) (fun cls d _ H => E cls d H) (defBody s_is_long_ratio) (B_is_long_ratio n) := by
  have S := sc_is_long_ratio
  have tk : Takes (cxOf (L2.CX P w) P w K mg base ["value"] "is_long_ratio" (defScope s_is_long_ratio) f cdv A outer s H E) (fun cls d _ H => E cls d H) := takes_of rfl rfl rfl rfl
  have hu := hr.units
  exact dss_one (ds_ret (de_and (dx_de (dx_has h_is_long_pair hr (by decide) tk (by rfl) (dr_val (de_var (pv 0)) (dr_nil)))) (de_and (de_cmp op_gt ops_b0 (do_val (de_ix (do_var (pv 0)) (do_val (de_int)))) (do_val (de_int)) (nomark _)) (de_one (de_cmp (op_eqD hu) ops_eq1 (do_val (de_callM cr_gcd cas_gcd (by rfl) T.m_gcd (da_cons (do_val (de_ix (do_var (pv 0)) (do_val (de_int)))) (da_cons (do_val (de_ix (do_var (pv 0)) (do_val (de_int)))) (da_nil))))) (do_val (de_int)) (nomark _))))))
theorem d_is_ratio (T : Txt mg) (h_is_long_ratio : Has P w K mg base "is_long_ratio" 3 ["value"] F_is_long_ratio) (h_is_integer : Has P w K mg base "is_integer" 2 ["value"] F_is_integer) {f : Addr} {n : Nat} {cdv : Value} {A : Around} {outer : List Env} {s : Shared} {H : Hp} {E : XK} (hr : Room 3 (A.deeper (envOfC "is_ratio" (defScope s_is_ratio) s.heap.objs.size f cdv))) :
    DSs (cxOf (L2.CX P w) P w K mg base ["value"] "is_ratio" (defScope s_is_ratio) f cdv A outer s H E) (fun cls d _ H => E cls d H) (defBody s_is_ratio) (B_is_ratio n) := by
  have S := sc_is_ratio
  have tk : Takes (cxOf (L2.CX P w) P w K mg base ["value"] "is_ratio" (defScope s_is_ratio) f cdv A outer s H E) (fun cls d _ H => E cls d H) := takes_of rfl rfl rfl rfl
  have hu := hr.units
  exact dss_one (ds_ret (de_and (dx_de (dx_has h_is_long_ratio hr (by decide) tk (by rfl) (dr_val (de_var (pv 0)) (dr_nil)))) (de_and (dx_de (dx_has h_is_integer hr (by decide) tk (by rfl) (dr_val (de_ix (do_var (pv 0)) (do_val (de_int))) (dr_nil)))) (de_one (dx_de (dx_has h_is_integer hr (by decide) tk (by rfl) (dr_val (de_ix (do_var (pv 0)) (do_val (de_int))) (dr_nil))))))))
theorem d_check_ratio (T : Txt mg) (h_is_ratio : Has P w K mg base "is_ratio" 4 ["value"] F_is_ratio) {f : Addr} {n : Nat} {cdv : Value} {A : Around} {outer : List Env} {s : Shared} {H : Hp} {E : XK} (hr : Room 4 (A.deeper (envOfC "check_ratio" (defScope s_check_ratio) s.heap.objs.size f cdv))) :
    DSs (cxOf (L2.CX P w) P w K mg base ["ratio"] "check_ratio" (defScope s_check_ratio) f cdv A outer s H E) (fun cls d _ H => E cls d H) (defBody s_check_ratio) (B_check_ratio n) := by
  have S := sc_check_ratio
  have tk : Takes (cxOf (L2.CX P w) P w K mg base ["ratio"] "check_ratio" (defScope s_check_ratio) f cdv A outer s H E) (fun cls d _ H => E cls d H) := takes_of rfl rfl rfl rfl
  have hu := hr.units
  exact dss_one (ds_if (dt_not (dt_val (dx_de (dx_has h_is_ratio hr (by decide) tk (by rfl) (dr_val (de_var (pv 0)) (dr_nil)))))) (dss_one (ds_never)) (dss_nil))
theorem d_reduced (T : Txt mg)  {f : Addr} {n : Nat} {cdv : Value} {A : Around} {outer : List Env} {s : Shared} {H : Hp} {E : XK} (hr : Room 0 (A.deeper (envOfC "reduced" (defScope s_reduced) s.heap.objs.size f cdv))) :
    DSs (cxOf (L2.CX P w) P w K mg base ["top", "bottom", "divisor"] "reduced" (defScope s_reduced) f cdv A outer s H E) (fun cls d _ H => E cls d H) (defBody s_reduced) (B_reduced n) := by
  have S := sc_reduced
  have tk : Takes (cxOf (L2.CX P w) P w K mg base ["top", "bottom", "divisor"] "reduced" (defScope s_reduced) f cdv A outer s H E) (fun cls d _ H => E cls d H) := takes_of rfl rfl rfl rfl
  have hu := hr.units
  exact dss_cons (ds_set (i := 2) S.nd rfl (.inl rfl) (de_callM cr_gcd cas_gcd (by rfl) T.m_gcd (da_cons (do_var (pv 0)) (da_cons (do_var (pv 1)) (da_nil)))))
    (dss_cons (ds_if (dt_cmp op_lt ops_b0 (do_var (pv 1)) (do_val (de_int)) (nomark _)) (dss_one (ds_set (i := 2) S.nd rfl (.inl rfl) (de_un un_neg uns_neg (do_var (pv 2))))) (dss_nil))
    (dss_one (ds_ret (de_tup (dv_cons (de_bin op_fdivG (ops_ic fun _ _ h => cDiv_ok h) (do_var (pv 0)) (do_var (pv 2))) (dv_cons (de_bin op_fdivG (ops_ic fun _ _ h => cDiv_ok h) (do_var (pv 1)) (do_var (pv 2))) (dv_nil)))))))
theorem d_polynomial_value (T : Txt mg) (h_check_polynomial : Has P w K mg base "check_polynomial" 4 ["polynomial"] F_check_polynomial) (h_check_ratio : Has P w K mg base "check_ratio" 5 ["ratio"] F_check_ratio) (h_reduced : Has P w K mg base "reduced" 1 ["top", "bottom"] F_reduced) {f : Addr} {n : Nat} {cdv : Value} {A : Around} {outer : List Env} {s : Shared} {H : Hp} {E : XK} (hr : Room 5 (A.deeper (envOfC "polynomial_value" (defScope s_polynomial_value) s.heap.objs.size f cdv))) :
    DSs (cxOf (L2.CX P w) P w K mg base ["polynomial", "ratio", "top", "bottom", "total", "scale", "item"] "polynomial_value" (defScope s_polynomial_value) f cdv A outer s H E) (fun cls d _ H => E cls d H) (defBody s_polynomial_value) (B_polynomial_value n) := by
  have S := sc_polynomial_value
  have tk : Takes (cxOf (L2.CX P w) P w K mg base ["polynomial", "ratio", "top", "bottom", "total", "scale", "item"] "polynomial_value" (defScope s_polynomial_value) f cdv A outer s H E) (fun cls d _ H => E cls d H) := takes_of rfl rfl rfl rfl
  have hu := hr.units
  exact dss_cons (ds_expr (dx_de (dx_has h_check_polynomial hr (by decide) tk (by rfl) (dr_val (de_var (pv 0)) (dr_nil)))))
    (dss_cons (ds_expr (dx_de (dx_has h_check_ratio hr (by decide) tk (by rfl) (dr_val (de_var (pv 1)) (dr_nil)))))
    (dss_cons (ds_asg (de_var (pv 1)) (dg_tup rfl (dgs_cons (dg_name (i := 2) (pg_name (i := 2) S.nd rfl (.inl rfl))) (dgs_cons (dg_name (i := 3) (pg_name (i := 3) S.nd rfl (.inl rfl))) (dgs_nil)))))
    (dss_cons (ds_set (i := 4) S.nd rfl (.inl rfl) (de_int))
    (dss_cons (ds_set (i := 5) S.nd rfl (.inl rfl) (de_int))
    (dss_cons (ds_for (passes_of rfl) rfl (di_tup (de_revT (do_var (pv 0)))) (dg_name (i := 6) (pg_name (i := 6) S.nd rfl (.inl rfl))) (dss_cons (ds_set (i := 4) S.nd rfl (.inl rfl) (de_bin (op_add.or (op_cat.or op_catA)) (ops_or ops_i0 (ops_or ops_catL ops_catT)) (do_val (de_bin (op_mulW.or (op_rep.or op_repT)) (ops_or (ops_ic mul_ok) (ops_or ops_repL ops_repT)) (do_var (pv 4)) (do_var (pv 2)))) (do_val (de_bin (op_mulW.or (op_rep.or op_repT)) (ops_or (ops_ic mul_ok) (ops_or ops_repL ops_repT)) (do_var (pv 6)) (do_var (pv 5))))))
    (dss_one (ds_set (i := 5) S.nd rfl (.inl rfl) (de_bin (op_mulW.or (op_rep.or op_repT)) (ops_or (ops_ic mul_ok) (ops_or ops_repL ops_repT)) (do_var (pv 5)) (do_var (pv 3)))))))
    (dss_one (ds_ret (dx_de (dx_has h_reduced hr (by decide) tk (by rfl) (dr_val (de_bin (op_mulW.or (op_rep.or op_repT)) (ops_or (ops_ic mul_ok) (ops_or ops_repL ops_repT)) (do_var (pv 4)) (do_var (pv 3))) (dr_val (de_var (pv 5)) (dr_nil))))))))))))
theorem d_q_line_sum (T : Txt mg)  {f : Addr} {n : Nat} {cdv : Value} {A : Around} {outer : List Env} {s : Shared} {H : Hp} {E : XK} (hr : Room 0 (A.deeper (envOfC "_law_line_sum" (defScope s_q_line_sum) s.heap.objs.size f cdv))) :
    DSs (cxOf (L2.CX P w) P w K mg base ["_law_one", "_law_other", "_law_size", "_law_at", "_law_found"] "_law_line_sum" (defScope s_q_line_sum) f cdv A outer s H E) (fun cls d _ H => E cls d H) (defBody s_q_line_sum) (B_q_line_sum n) := by
  have S := sc_q_line_sum
  have tk : Takes (cxOf (L2.CX P w) P w K mg base ["_law_one", "_law_other", "_law_size", "_law_at", "_law_found"] "_law_line_sum" (defScope s_q_line_sum) f cdv A outer s H E) (fun cls d _ H => E cls d H) := takes_of rfl rfl rfl rfl
  have hu := hr.units
  exact dss_cons (ds_set (i := 2) S.nd rfl (.inl rfl) (de_callB (call_max2 rfl) cas_max2 (by rfl) T.b_max boot_max (da_cons (do_val (de_callB call_len_seq cas_len (by rfl) T.b_len PySem.boot_len (da_cons (do_var (pv 0)) (da_nil)))) (da_cons (do_val (de_callB call_len_seq cas_len (by rfl) T.b_len PySem.boot_len (da_cons (do_var (pv 1)) (da_nil)))) (da_nil)))))
    (dss_cons (ds_setLcF (i := 4) (own := [("_law_at", 3)]) rfl S.nd rfl rfl rfl (di_rng1 (by rfl) T.b_range (dv_cons (de_var (pv 2)) (dv_nil))) (blkOk_by (by rfl)) rfl (by intro _ _ _ _ _; exact dg_name (i := 3) (pg_name (i := 3) S.nd rfl (.inl rfl))) (by intro _ _ _ _ _; exact dts_nil) (by intro _ _ _ _ _; exact de_callB (cr_sum rfl) cas_sum (by rfl) T.b_sum boot_sum (da_cons (do_val (de_bin (op_add.or (op_cat.or op_catA)) (ops_or ops_i0 (ops_or ops_catL ops_catT)) (do_val (de_fresh (df_list (by rfl) T.b_list (do_val (de_sl (do_var (pv 0)) (dp_int (de_var (pv 3))) (dp_int (de_bin (op_add.or (op_cat.or op_catA)) (ops_or ops_i0 (ops_or ops_catL ops_catT)) (do_var (pv 3)) (do_val (de_int))))))))) (do_val (de_fresh (df_list (by rfl) T.b_list (do_val (de_sl (do_var (pv 1)) (dp_int (de_var (pv 3))) (dp_int (de_bin (op_add.or (op_cat.or op_catA)) (ops_or ops_i0 (ops_or ops_catL ops_catT)) (do_var (pv 3)) (do_val (de_int))))))))))) (da_nil))))
    (dss_cons (ds_while n (passes_of rfl) (dt_bool (dw_and (dt_cmp op_gt ops_b0 (do_val (de_callB call_len_seq cas_len (by rfl) T.b_len PySem.boot_len (da_cons (do_var (pv 4)) (da_nil)))) (do_val (de_int)) (nomark _)) (dw_and1 (dt_cmp (op_eqD hu) ops_eq1 (do_val (de_ix (do_var (pv 4)) (do_val (de_un un_neg uns_neg (do_val (de_int)))))) (do_val (de_int)) (nomark _))))) (dss_one (ds_pop (pv 4))))
    (dss_one (ds_ret (de_callTy call_tuple_of cas_tup (by rfl) T.b_tuple boot_tuple (da_cons (do_var (pv 4)) (da_nil)))))))
theorem d_q_common (T : Txt mg)  {f : Addr} {n : Nat} {cdv : Value} {A : Around} {outer : List Env} {s : Shared} {H : Hp} {E : XK} (hr : Room 0 (A.deeper (envOfC "_law_common" (defScope s_q_common) s.heap.objs.size f cdv))) :
    DSs (cxOf (L2.CX P w) P w K mg base ["_law_numbers", "_law_found", "_law_number", "_law_one", "_law_other"] "_law_common" (defScope s_q_common) f cdv A outer s H E) (fun cls d _ H => E cls d H) (defBody s_q_common) (B_q_common n) := by
  have S := sc_q_common
  have tk : Takes (cxOf (L2.CX P w) P w K mg base ["_law_numbers", "_law_found", "_law_number", "_law_one", "_law_other"] "_law_common" (defScope s_q_common) f cdv A outer s H E) (fun cls d _ H => E cls d H) := takes_of rfl rfl rfl rfl
  have hu := hr.units
  exact dss_cons (ds_set (i := 1) S.nd rfl (.inl rfl) (de_int))
    (dss_cons (ds_for (passes_of rfl) rfl (di_list (de_var (pv 0))) (dg_name (i := 2) (pg_name (i := 2) S.nd rfl (.inl rfl))) (dss_cons (ds_par rfl S.nd rfl rfl (by decide) (by rfl) (by rfl) (dv_cons (de_var (pv 1)) (dv_cons (de_callB call_abs cas_abs (by rfl) T.b_abs boot_abs (da_cons (do_var (pv 2)) (da_nil))) (dv_nil))) (by rfl))
    (dss_cons (ds_while n (passes_of rfl) (dt_cmp (op_neD hu) ops_ne1 (do_var (pv 4)) (do_val (de_int)) (nomark _)) (dss_one (ds_par rfl S.nd rfl rfl (by decide) (by rfl) (by rfl) (dv_cons (de_var (pv 4)) (dv_cons (de_bin op_modN (ops_ic fun _ _ h => of_decide_eq_true h) (do_val (de_callTy call_int1 cas_int (by rfl) T.b_int boot_int (da_cons (do_var (pv 3)) (da_nil)))) (do_var (pv 4))) (dv_nil))) (by rfl))))
    (dss_one (ds_set (i := 1) S.nd rfl (.inl rfl) (de_var (pv 3)))))))
    (dss_one (ds_retV (pv 1))))
theorem d_q_lowest (T : Txt mg) (h_q_common : Has P w K mg base "_law_common" 1 ["_law_numbers"] F_q_common) {f : Addr} {n : Nat} {cdv : Value} {A : Around} {outer : List Env} {s : Shared} {H : Hp} {E : XK} (hr : Room 1 (A.deeper (envOfC "_law_lowest" (defScope s_q_lowest) s.heap.objs.size f cdv))) :
    DSs (cxOf (L2.CX P w) P w K mg base ["_law_top", "_law_bottom", "_law_shared"] "_law_lowest" (defScope s_q_lowest) f cdv A outer s H E) (fun cls d _ H => E cls d H) (defBody s_q_lowest) (B_q_lowest n) := by
  have S := sc_q_lowest
  have tk : Takes (cxOf (L2.CX P w) P w K mg base ["_law_top", "_law_bottom", "_law_shared"] "_law_lowest" (defScope s_q_lowest) f cdv A outer s H E) (fun cls d _ H => E cls d H) := takes_of rfl rfl rfl rfl
  have hu := hr.units
  exact dss_cons (ds_set (i := 2) S.nd rfl (.inl rfl) (de_bin (op_mulW.or (op_rep.or op_repT)) (ops_or (ops_ic mul_ok) (ops_or ops_repL ops_repT)) (do_val (dx_de (dx_has h_q_common hr (by decide) tk (by rfl) (dr_val (de_fresh (df_lst (dv_cons (de_var (pv 0)) (dv_cons (de_var (pv 1)) (dv_nil))))) (dr_nil))))) (do_val (de_ifExp (dt_cmp op_gt ops_b0 (do_var (pv 1)) (do_val (de_int)) (nomark _)) (de_int) (de_un un_neg uns_neg (do_val (de_int)))))))
    (dss_one (ds_ret (de_tup (dv_cons (de_bin op_fdivG (ops_ic fun _ _ h => cDiv_ok h) (do_var (pv 0)) (do_var (pv 2))) (dv_cons (de_bin op_fdivG (ops_ic fun _ _ h => cDiv_ok h) (do_var (pv 1)) (do_var (pv 2))) (dv_nil))))))
theorem d_q_grab (T : Txt mg)  {f : Addr} {n : Nat} {cdv : Value} {A : Around} {outer : List Env} {s : Shared} {H : Hp} {E : XK} (hr : Room 0 (A.deeper (envOfC "_law_grab" (defScope s_q_grab) s.heap.objs.size f cdv))) :
    DSs (cxOf (L2.CX P w) P w K mg base ["_law_bag_here", "_law_total", "_law_found", "_law_one", "_law_two"] "_law_grab" (defScope s_q_grab) f cdv A outer s H E) (fun cls d _ H => E cls d H) (defBody s_q_grab) (B_q_grab n) := by
  have S := sc_q_grab
  have tk : Takes (cxOf (L2.CX P w) P w K mg base ["_law_bag_here", "_law_total", "_law_found", "_law_one", "_law_two"] "_law_grab" (defScope s_q_grab) f cdv A outer s H E) (fun cls d _ H => E cls d H) := takes_of rfl rfl rfl rfl
  have hu := hr.units
  exact dss_cons (ds_if (dt_cmp op_gt ops_b0 (do_val (de_ix (do_var (pv 0)) (do_val (de_int)))) (do_val (de_int)) (nomark _)) (dss_cons (ds_set (i := 2) S.nd rfl (.inl rfl) (de_bin op_modN (ops_ic fun _ _ h => of_decide_eq_true h) (do_val (de_callTy call_int1 cas_int (by rfl) T.b_int boot_int (da_cons (do_val (de_ix (do_var (pv 0)) (do_val (de_int)))) (da_nil)))) (do_var (pv 1))))
    (dss_cons (ds_seti (pv 0) (de_int) (de_bin op_fdivG (ops_ic fun _ _ h => cDiv_ok h) (do_val (de_ix (do_var (pv 0)) (do_val (de_int)))) (do_var (pv 1))))
    (dss_one (ds_retV (pv 2))))) (dss_nil))
    (dss_cons (ds_seti (pv 0) (de_int) (de_bin (op_add.or (op_cat.or op_catA)) (ops_or ops_i0 (ops_or ops_catL ops_catT)) (do_val (de_ix (do_var (pv 0)) (do_val (de_int)))) (do_val (de_int))))
    (dss_cons (ds_set (i := 3) S.nd rfl (.inl rfl) (de_bin op_modN (ops_ic fun _ _ h => of_decide_eq_true h) (do_val (de_callTy call_int1 cas_int (by rfl) T.b_int boot_int (da_cons (do_val (de_bin (op_add.or (op_cat.or op_catA)) (ops_or ops_i0 (ops_or ops_catL ops_catT)) (do_val (de_ix (do_var (pv 0)) (do_val (de_int)))) (do_val (de_bin (op_mulW.or (op_rep.or op_repT)) (ops_or (ops_ic mul_ok) (ops_or ops_repL ops_repT)) (do_val (de_int)) (do_val (de_ix (do_var (pv 0)) (do_val (de_int)))))))) (da_nil)))) (do_val (de_int))))
    (dss_cons (ds_set (i := 4) S.nd rfl (.inl rfl) (de_bin (op_add.or (op_cat.or op_catA)) (ops_or ops_i0 (ops_or ops_catL ops_catT)) (do_val (de_bin (op_mulW.or (op_rep.or op_repT)) (ops_or (ops_ic mul_ok) (ops_or ops_repL ops_repT)) (do_val (de_bin op_modN (ops_ic fun _ _ h => of_decide_eq_true h) (do_val (de_callTy call_int1 cas_int (by rfl) T.b_int boot_int (da_cons (do_val (de_bin (op_mulW.or (op_rep.or op_repT)) (ops_or (ops_ic mul_ok) (ops_or ops_repL ops_repT)) (do_var (pv 3)) (do_var (pv 3)))) (da_nil)))) (do_val (de_int)))) (do_var (pv 3)))) (do_val (de_bin (op_mulW.or (op_rep.or op_repT)) (ops_or (ops_ic mul_ok) (ops_or ops_repL ops_repT)) (do_val (de_int)) (do_val (de_ix (do_var (pv 0)) (do_val (de_int))))))))
    (dss_one (ds_ret (de_bin op_modN (ops_ic fun _ _ h => of_decide_eq_true h) (do_val (de_callTy call_int1 cas_int (by rfl) T.b_int boot_int (da_cons (do_val (de_bin op_fdivG (ops_ic fun _ _ h => cDiv_ok h) (do_val (de_bin op_modN (ops_ic fun _ _ h => of_decide_eq_true h) (do_val (de_callTy call_int1 cas_int (by rfl) T.b_int boot_int (da_cons (do_var (pv 4)) (da_nil)))) (do_val (de_int)))) (do_val (de_int)))) (da_nil)))) (do_var (pv 1))))))))
theorem d_q_some_number (T : Txt mg) (h_q_grab : Has P w K mg base "_law_grab" 1 ["_law_bag_here", "_law_total"] F_q_grab) {f : Addr} {n : Nat} {cdv : Value} {A : Around} {outer : List Env} {s : Shared} {H : Hp} {E : XK} (hr : Room 1 (A.deeper (envOfC "_law_some_number" (defScope s_q_some_number) s.heap.objs.size f cdv))) :
    DSs (cxOf (L2.CX P w) P w K mg base ["_law_bag_here", "_law_way"] "_law_some_number" (defScope s_q_some_number) f cdv A outer s H E) (fun cls d _ H => E cls d H) (defBody s_q_some_number) (B_q_some_number n) := by
  have S := sc_q_some_number
  have tk : Takes (cxOf (L2.CX P w) P w K mg base ["_law_bag_here", "_law_way"] "_law_some_number" (defScope s_q_some_number) f cdv A outer s H E) (fun cls d _ H => E cls d H) := takes_of rfl rfl rfl rfl
  have hu := hr.units
  exact dss_cons (ds_set (i := 1) S.nd rfl (.inl rfl) (dx_de (dx_has h_q_grab hr (by decide) tk (by rfl) (dr_io (pv 0) (dr_val (de_int) (dr_nil))))))
    (dss_cons (ds_if (dt_cmp (op_eqD hu) ops_eq1 (do_var (pv 1)) (do_val (de_int)) (nomark _)) (dss_one (ds_ret (de_bin op_sub ops_i0 (do_val (dx_de (dx_has h_q_grab hr (by decide) tk (by rfl) (dr_io (pv 0) (dr_val (de_bin (op_mulW.or (op_rep.or op_repT)) (ops_or (ops_ic mul_ok) (ops_or ops_repL ops_repT)) (do_val (de_int)) (do_val (de_bin op_powG (ops_ic fun _ _ h => cPow_ok h) (do_val (de_int)) (do_val (de_int))))) (dr_nil)))))) (do_val (de_bin op_powG (ops_ic fun _ _ h => cPow_ok h) (do_val (de_int)) (do_val (de_int))))))) (dss_nil))
    (dss_one (ds_ret (de_bin op_sub ops_i0 (do_val (dx_de (dx_has h_q_grab hr (by decide) tk (by rfl) (dr_io (pv 0) (dr_val (de_int) (dr_nil)))))) (do_val (de_int))))))
theorem d_q_some_line (T : Txt mg) (h_q_some_number : Has P w K mg base "_law_some_number" 2 ["_law_bag_here"] F_q_some_number) (h_q_grab : Has P w K mg base "_law_grab" 1 ["_law_bag_here", "_law_total"] F_q_grab) {f : Addr} {n : Nat} {cdv : Value} {A : Around} {outer : List Env} {s : Shared} {H : Hp} {E : XK} (hr : Room 2 (A.deeper (envOfC "_law_some_line" (defScope s_q_some_line) s.heap.objs.size f cdv))) :
    DSs (cxOf (L2.CX P w) P w K mg base ["_law_bag_here", "_law_most", "_law_turn", "_law_found"] "_law_some_line" (defScope s_q_some_line) f cdv A outer s H E) (fun cls d _ H => E cls d H) (defBody s_q_some_line) (B_q_some_line n) := by
  have S := sc_q_some_line
  have tk : Takes (cxOf (L2.CX P w) P w K mg base ["_law_bag_here", "_law_most", "_law_turn", "_law_found"] "_law_some_line" (defScope s_q_some_line) f cdv A outer s H E) (fun cls d _ H => E cls d H) := takes_of rfl rfl rfl rfl
  have hu := hr.units
  exact dss_cons (ds_setLcF (i := 3) (own := [("_law_turn", 2)]) rfl S.nd rfl rfl rfl (di_rng1 (by rfl) T.b_range (dv_cons (de_bin (op_add.or (op_cat.or op_catA)) (ops_or ops_i0 (ops_or ops_catL ops_catT)) (do_val (de_int)) (do_val (dx_de (dx_has h_q_grab hr (by decide) tk (by rfl) (dr_io (pv 0) (dr_val (de_bin (op_add.or (op_cat.or op_catA)) (ops_or ops_i0 (ops_or ops_catL ops_catT)) (do_var (pv 1)) (do_val (de_int))) (dr_nil))))))) (dv_nil))) (blkOk_by (by rfl)) rfl (by intro _ _ _ _ _; exact dg_name (i := 2) (pg_name (i := 2) S.nd rfl (.inl rfl))) (by intro _ _ _ _ _; exact dts_nil) (by intro _ _ _ _ _; exact dx_de (dx_hasN h_q_some_number hr (by decide) (by rfl) (dr_io (pv 0) (dr_nil)))))
    (dss_cons (ds_while n (passes_of rfl) (dt_bool (dw_and (dt_cmp op_gt ops_b0 (do_val (de_callB call_len_seq cas_len (by rfl) T.b_len PySem.boot_len (da_cons (do_var (pv 3)) (da_nil)))) (do_val (de_int)) (nomark _)) (dw_and1 (dt_cmp (op_eqD hu) ops_eq1 (do_val (de_ix (do_var (pv 3)) (do_val (de_un un_neg uns_neg (do_val (de_int)))))) (do_val (de_int)) (nomark _))))) (dss_one (ds_pop (pv 3))))
    (dss_one (ds_ret (de_callTy call_tuple_of cas_tup (by rfl) T.b_tuple boot_tuple (da_cons (do_var (pv 3)) (da_nil))))))
theorem d_q_ratio_times (T : Txt mg) (h_q_lowest : Has P w K mg base "_law_lowest" 2 ["_law_top", "_law_bottom"] F_q_lowest) {f : Addr} {n : Nat} {cdv : Value} {A : Around} {outer : List Env} {s : Shared} {H : Hp} {E : XK} (hr : Room 2 (A.deeper (envOfC "_law_ratio_times" (defScope s_q_ratio_times) s.heap.objs.size f cdv))) :
    DSs (cxOf (L2.CX P w) P w K mg base ["_law_one", "_law_other"] "_law_ratio_times" (defScope s_q_ratio_times) f cdv A outer s H E) (fun cls d _ H => E cls d H) (defBody s_q_ratio_times) (B_q_ratio_times n) := by
  have S := sc_q_ratio_times
  have tk : Takes (cxOf (L2.CX P w) P w K mg base ["_law_one", "_law_other"] "_law_ratio_times" (defScope s_q_ratio_times) f cdv A outer s H E) (fun cls d _ H => E cls d H) := takes_of rfl rfl rfl rfl
  have hu := hr.units
  exact dss_one (ds_ret (dx_de (dx_has h_q_lowest hr (by decide) tk (by rfl) (dr_val (de_bin (op_mulW.or (op_rep.or op_repT)) (ops_or (ops_ic mul_ok) (ops_or ops_repL ops_repT)) (do_val (de_ix (do_var (pv 0)) (do_val (de_int)))) (do_val (de_ix (do_var (pv 1)) (do_val (de_int))))) (dr_val (de_bin (op_mulW.or (op_rep.or op_repT)) (ops_or (ops_ic mul_ok) (ops_or ops_repL ops_repT)) (do_val (de_ix (do_var (pv 0)) (do_val (de_int)))) (do_val (de_ix (do_var (pv 1)) (do_val (de_int))))) (dr_nil))))))
theorem d_q_ratio_sum (T : Txt mg) (h_q_lowest : Has P w K mg base "_law_lowest" 2 ["_law_top", "_law_bottom"] F_q_lowest) {f : Addr} {n : Nat} {cdv : Value} {A : Around} {outer : List Env} {s : Shared} {H : Hp} {E : XK} (hr : Room 2 (A.deeper (envOfC "_law_ratio_sum" (defScope s_q_ratio_sum) s.heap.objs.size f cdv))) :
    DSs (cxOf (L2.CX P w) P w K mg base ["_law_one", "_law_other", "_law_factor"] "_law_ratio_sum" (defScope s_q_ratio_sum) f cdv A outer s H E) (fun cls d _ H => E cls d H) (defBody s_q_ratio_sum) (B_q_ratio_sum n) := by
  have S := sc_q_ratio_sum
  have tk : Takes (cxOf (L2.CX P w) P w K mg base ["_law_one", "_law_other", "_law_factor"] "_law_ratio_sum" (defScope s_q_ratio_sum) f cdv A outer s H E) (fun cls d _ H => E cls d H) := takes_of rfl rfl rfl rfl
  have hu := hr.units
  exact dss_one (ds_ret (dx_de (dx_has h_q_lowest hr (by decide) tk (by rfl) (dr_val (de_bin (op_add.or (op_cat.or op_catA)) (ops_or ops_i0 (ops_or ops_catL ops_catT)) (do_val (de_bin (op_mulW.or (op_rep.or op_repT)) (ops_or (ops_ic mul_ok) (ops_or ops_repL ops_repT)) (do_val (de_ix (do_var (pv 0)) (do_val (de_int)))) (do_val (de_ix (do_var (pv 1)) (do_val (de_int)))))) (do_val (de_bin (op_mulW.or (op_rep.or op_repT)) (ops_or (ops_ic mul_ok) (ops_or ops_repL ops_repT)) (do_val (de_bin (op_mulW.or (op_rep.or op_repT)) (ops_or (ops_ic mul_ok) (ops_or ops_repL ops_repT)) (do_var (pv 2)) (do_val (de_ix (do_var (pv 1)) (do_val (de_int)))))) (do_val (de_ix (do_var (pv 0)) (do_val (de_int))))))) (dr_val (de_bin (op_mulW.or (op_rep.or op_repT)) (ops_or (ops_ic mul_ok) (ops_or ops_repL ops_repT)) (do_val (de_ix (do_var (pv 0)) (do_val (de_int)))) (do_val (de_ix (do_var (pv 1)) (do_val (de_int))))) (dr_nil))))))
theorem d_q_line_times (T : Txt mg)  {f : Addr} {n : Nat} {cdv : Value} {A : Around} {outer : List Env} {s : Shared} {H : Hp} {E : XK} (hr : Room 0 (A.deeper (envOfC "_law_line_times" (defScope s_q_line_times) s.heap.objs.size f cdv))) :
    DSs (cxOf (L2.CX P w) P w K mg base ["_law_one", "_law_other", "_law_found", "_law_at", "_law_here", "_law_place", "_law_there"] "_law_line_times" (defScope s_q_line_times) f cdv A outer s H E) (fun cls d _ H => E cls d H) (defBody s_q_line_times) (B_q_line_times n) := by
  have S := sc_q_line_times
  have tk : Takes (cxOf (L2.CX P w) P w K mg base ["_law_one", "_law_other", "_law_found", "_law_at", "_law_here", "_law_place", "_law_there"] "_law_line_times" (defScope s_q_line_times) f cdv A outer s H E) (fun cls d _ H => E cls d H) := takes_of rfl rfl rfl rfl
  have hu := hr.units
  exact dss_cons (ds_setF (i := 2) S.nd rfl (.inl rfl) (df_op op_rep opf_rep repL_lst (do_val (de_fresh (df_lst (dv_cons (de_int) (dv_nil))))) (do_val (de_bin op_sub ops_i0 (do_val (de_bin (op_add.or (op_cat.or op_catA)) (ops_or ops_i0 (ops_or ops_catL ops_catT)) (do_val (de_callB call_len_seq cas_len (by rfl) T.b_len PySem.boot_len (da_cons (do_var (pv 0)) (da_nil)))) (do_val (de_callB call_len_seq cas_len (by rfl) T.b_len PySem.boot_len (da_cons (do_var (pv 1)) (da_nil)))))) (do_val (de_int))))))
    (dss_cons (ds_for (passes_of rfl) rfl (di_enT (by rfl) T.b_enumerate (dv_cons (de_var (pv 0)) (dv_nil))) (dg_tup rfl (dgs_cons (dg_name (i := 3) (pg_name (i := 3) S.nd rfl (.inl rfl))) (dgs_cons (dg_name (i := 4) (pg_name (i := 4) S.nd rfl (.inl rfl))) (dgs_nil)))) (dss_one (ds_for (passes_of rfl) rfl (di_enT (by rfl) T.b_enumerate (dv_cons (de_var (pv 1)) (dv_nil))) (dg_tup rfl (dgs_cons (dg_name (i := 5) (pg_name (i := 5) S.nd rfl (.inl rfl))) (dgs_cons (dg_name (i := 6) (pg_name (i := 6) S.nd rfl (.inl rfl))) (dgs_nil)))) (dss_one (ds_seti (pv 2) (de_bin (op_add.or (op_cat.or op_catA)) (ops_or ops_i0 (ops_or ops_catL ops_catT)) (do_var (pv 3)) (do_var (pv 5))) (de_bin (op_add.or (op_cat.or op_catA)) (ops_or ops_i0 (ops_or ops_catL ops_catT)) (do_val (de_ix (do_var (pv 2)) (do_val (de_bin (op_add.or (op_cat.or op_catA)) (ops_or ops_i0 (ops_or ops_catL ops_catT)) (do_var (pv 3)) (do_var (pv 5)))))) (do_val (de_bin (op_mulW.or (op_rep.or op_repT)) (ops_or (ops_ic mul_ok) (ops_or ops_repL ops_repT)) (do_var (pv 4)) (do_var (pv 6))))))))))
    (dss_cons (ds_while n (passes_of rfl) (dt_bool (dw_and (dt_cmp op_gt ops_b0 (do_val (de_callB call_len_seq cas_len (by rfl) T.b_len PySem.boot_len (da_cons (do_var (pv 2)) (da_nil)))) (do_val (de_int)) (nomark _)) (dw_and1 (dt_cmp (op_eqD hu) ops_eq1 (do_val (de_ix (do_var (pv 2)) (do_val (de_un un_neg uns_neg (do_val (de_int)))))) (do_val (de_int)) (nomark _))))) (dss_one (ds_pop (pv 2))))
    (dss_one (ds_ret (de_callTy call_tuple_of cas_tup (by rfl) T.b_tuple boot_tuple (da_cons (do_var (pv 2)) (da_nil)))))))
theorem d_q_line_value (T : Txt mg) (h_q_ratio_sum : Has P w K mg base "_law_ratio_sum" 3 ["_law_one", "_law_other", "_law_factor"] F_q_ratio_sum) (h_q_ratio_times : Has P w K mg base "_law_ratio_times" 3 ["_law_one", "_law_other"] F_q_ratio_times) {f : Addr} {n : Nat} {cdv : Value} {A : Around} {outer : List Env} {s : Shared} {H : Hp} {E : XK} (hr : Room 3 (A.deeper (envOfC "_law_line_value" (defScope s_q_line_value) s.heap.objs.size f cdv))) :
    DSs (cxOf (L2.CX P w) P w K mg base ["_law_line", "_law_ratio", "_law_found", "_law_power", "_law_number"] "_law_line_value" (defScope s_q_line_value) f cdv A outer s H E) (fun cls d _ H => E cls d H) (defBody s_q_line_value) (B_q_line_value n) := by
  have S := sc_q_line_value
  have tk : Takes (cxOf (L2.CX P w) P w K mg base ["_law_line", "_law_ratio", "_law_found", "_law_power", "_law_number"] "_law_line_value" (defScope s_q_line_value) f cdv A outer s H E) (fun cls d _ H => E cls d H) := takes_of rfl rfl rfl rfl
  have hu := hr.units
  exact dss_cons (ds_asg (de_tup (dv_cons (de_tup (dv_cons (de_int) (dv_cons (de_int) (dv_nil)))) (dv_cons (de_tup (dv_cons (de_int) (dv_cons (de_int) (dv_nil)))) (dv_nil)))) (dg_tup rfl (dgs_cons (dg_name (i := 2) (pg_name (i := 2) S.nd rfl (.inl rfl))) (dgs_cons (dg_name (i := 3) (pg_name (i := 3) S.nd rfl (.inl rfl))) (dgs_nil)))))
    (dss_cons (ds_for (passes_of rfl) rfl (di_tup (de_var (pv 0))) (dg_name (i := 4) (pg_name (i := 4) S.nd rfl (.inl rfl))) (dss_cons (ds_set (i := 2) S.nd rfl (.inl rfl) (dx_de (dx_has h_q_ratio_sum hr (by decide) tk (by rfl) (dr_val (de_var (pv 2)) (dr_val (de_var (pv 3)) (dr_val (de_var (pv 4)) (dr_nil)))))))
    (dss_one (ds_set (i := 3) S.nd rfl (.inl rfl) (dx_de (dx_has h_q_ratio_times hr (by decide) tk (by rfl) (dr_val (de_var (pv 3)) (dr_val (de_var (pv 1)) (dr_nil)))))))))
    (dss_one (ds_retV (pv 2))))
theorem d_q_line_over (T : Txt mg)  {f : Addr} {n : Nat} {cdv : Value} {A : Around} {outer : List Env} {s : Shared} {H : Hp} {E : XK} (hr : Room 0 (A.deeper (envOfC "_law_line_over" (defScope s_q_line_over) s.heap.objs.size f cdv))) :
    DSs (cxOf (L2.CX P w) P w K mg base ["_law_one", "_law_other", "_law_left", "_law_found", "_law_many", "_law_at", "_law_place", "_law_number"] "_law_line_over" (defScope s_q_line_over) f cdv A outer s H E) (fun cls d _ H => E cls d H) (defBody s_q_line_over) (B_q_line_over n) := by
  have S := sc_q_line_over
  have tk : Takes (cxOf (L2.CX P w) P w K mg base ["_law_one", "_law_other", "_law_left", "_law_found", "_law_many", "_law_at", "_law_place", "_law_number"] "_law_line_over" (defScope s_q_line_over) f cdv A outer s H E) (fun cls d _ H => E cls d H) := takes_of rfl rfl rfl rfl
  have hu := hr.units
  exact dss_cons (ds_parX rfl S.nd rfl rfl (by decide) (by rfl) (by rfl) (xs_fr (df_list (by rfl) T.b_list (do_var (pv 0))) (xs_fr (df_lst (dv_nil)) (xs_nil))) (by rfl))
    (dss_cons (ds_while n (passes_of rfl) (dt_cmp op_ge ops_b0 (do_val (de_callB call_len_seq cas_len (by rfl) T.b_len PySem.boot_len (da_cons (do_var (pv 2)) (da_nil)))) (do_val (de_callB call_len_seq cas_len (by rfl) T.b_len PySem.boot_len (da_cons (do_var (pv 1)) (da_nil)))) (nomark _)) (dss_cons (ds_set (i := 4) S.nd rfl (.inl rfl) (de_bin op_fdivG (ops_ic fun _ _ h => cDiv_ok h) (do_val (de_ix (do_var (pv 2)) (do_val (de_un un_neg uns_neg (do_val (de_int)))))) (do_val (de_ix (do_var (pv 1)) (do_val (de_un un_neg uns_neg (do_val (de_int))))))))
    (dss_cons (ds_if (dt_cmp (op_neD hu) ops_ne1 (do_val (de_bin (op_mulW.or (op_rep.or op_repT)) (ops_or (ops_ic mul_ok) (ops_or ops_repL ops_repT)) (do_var (pv 4)) (do_val (de_ix (do_var (pv 1)) (do_val (de_un un_neg uns_neg (do_val (de_int)))))))) (do_val (de_ix (do_var (pv 2)) (do_val (de_un un_neg uns_neg (do_val (de_int)))))) (nomark _)) (dss_one (ds_ret (de_non))) (dss_nil))
    (dss_cons (ds_set (i := 5) S.nd rfl (.inl rfl) (de_bin op_sub ops_i0 (do_val (de_callB call_len_seq cas_len (by rfl) T.b_len PySem.boot_len (da_cons (do_var (pv 2)) (da_nil)))) (do_val (de_callB call_len_seq cas_len (by rfl) T.b_len PySem.boot_len (da_cons (do_var (pv 1)) (da_nil))))))
    (dss_cons (ds_for (passes_of rfl) rfl (di_enT (by rfl) T.b_enumerate (dv_cons (de_var (pv 1)) (dv_nil))) (dg_tup rfl (dgs_cons (dg_name (i := 6) (pg_name (i := 6) S.nd rfl (.inl rfl))) (dgs_cons (dg_name (i := 7) (pg_name (i := 7) S.nd rfl (.inl rfl))) (dgs_nil)))) (dss_one (ds_seti (pv 2) (de_bin (op_add.or (op_cat.or op_catA)) (ops_or ops_i0 (ops_or ops_catL ops_catT)) (do_var (pv 5)) (do_var (pv 6))) (de_bin op_sub ops_i0 (do_val (de_ix (do_var (pv 2)) (do_val (de_bin (op_add.or (op_cat.or op_catA)) (ops_or ops_i0 (ops_or ops_catL ops_catT)) (do_var (pv 5)) (do_var (pv 6)))))) (do_val (de_bin (op_mulW.or (op_rep.or op_repT)) (ops_or (ops_ic mul_ok) (ops_or ops_repL ops_repT)) (do_var (pv 4)) (do_var (pv 7))))))))
    (dss_cons (ds_pop (pv 2))
    (dss_one (ds_app (pv 3) (de_var (pv 4))))))))))
    (dss_cons (ds_if (dt_cmp (op_neD hu) ops_ne1 (do_val (de_fresh (df_lc (own := [("_law_number", 7)]) rfl S.nd (di_list (de_var (pv 2))) (blkOk_by (by rfl)) rfl (by intro _ _ _ _ _; exact dg_name (i := 7) (pg_name (i := 7) S.nd rfl (.inl rfl))) (by intro _ _ _ _ _; exact dts_one (dt_cmp (op_neD hu) ops_ne1 (do_var (pv 7)) (do_val (de_int)) (nomark _))) (by intro _ _ _ _ _; exact de_var (pv 7))))) (do_val (de_fresh (df_lst (dv_nil)))) (nomark _)) (dss_one (ds_ret (de_non))) (dss_nil))
    (dss_cons (ds_setF (i := 3) S.nd rfl (.inl rfl) (df_ifExp (dt_cmp (op_neD hu) ops_ne1 (do_var (pv 3)) (do_val (de_fresh (df_lst (dv_nil)))) (nomark _)) (df_rev (do_var (pv 3))) (df_lst (dv_cons (de_int) (dv_nil)))))
    (dss_cons (ds_while n (passes_of rfl) (dt_bool (dw_and (dt_cmp op_gt ops_b0 (do_val (de_callB call_len_seq cas_len (by rfl) T.b_len PySem.boot_len (da_cons (do_var (pv 3)) (da_nil)))) (do_val (de_int)) (nomark _)) (dw_and1 (dt_cmp (op_eqD hu) ops_eq1 (do_val (de_ix (do_var (pv 3)) (do_val (de_un un_neg uns_neg (do_val (de_int)))))) (do_val (de_int)) (nomark _))))) (dss_one (ds_pop (pv 3))))
    (dss_one (ds_ret (de_callTy call_tuple_of cas_tup (by rfl) T.b_tuple boot_tuple (da_cons (do_var (pv 3)) (da_nil)))))))))
theorem d_q_products_right (T : Txt mg) (h_q_line_sum : Has P w K mg base "_law_line_sum" 1 ["_law_one", "_law_other"] F_q_line_sum) (h_q_lowest : Has P w K mg base "_law_lowest" 2 ["_law_top", "_law_bottom"] F_q_lowest) (h_q_some_line : Has P w K mg base "_law_some_line" 3 ["_law_bag_here", "_law_most"] F_q_some_line) (h_polynomial_product : Has P w K mg base "polynomial_product" 6 ["one", "other"] F_polynomial_product) (h_polynomial_sum : Has P w K mg base "polynomial_sum" 6 ["one", "other"] F_polynomial_sum) (h_polynomial_value : Has P w K mg base "polynomial_value" 6 ["polynomial", "ratio"] F_polynomial_value) (h_q_ratio_times : Has P w K mg base "_law_ratio_times" 3 ["_law_one", "_law_other"] F_q_ratio_times) (h_q_ratio_sum : Has P w K mg base "_law_ratio_sum" 3 ["_law_one", "_law_other", "_law_factor"] F_q_ratio_sum) (h_q_line_times : Has P w K mg base "_law_line_times" 1 ["_law_one", "_law_other"] F_q_line_times) (h_q_grab : Has P w K mg base "_law_grab" 1 ["_law_bag_here", "_law_total"] F_q_grab) (h_q_line_value : Has P w K mg base "_law_line_value" 4 ["_law_line", "_law_ratio"] F_q_line_value) (h_polynomial_quotient : Has P w K mg base "polynomial_quotient" 6 ["one", "other"] F_polynomial_quotient) (h_q_line_over : Has P w K mg base "_law_line_over" 1 ["_law_one", "_law_other"] F_q_line_over) {f : Addr} {n : Nat} {cdv : Value} {A : Around} {outer : List Env} {s : Shared} {H : Hp} {E : XK} (hr : Room 6 (A.deeper (envOfC "_law_products_right" (defScope s_q_products_right) s.heap.objs.size f cdv))) :
    DSs (cxOf (L2.CX P w) P w K mg base ["_law_bag_here", "_law_one", "_law_other", "_law_third", "_law_both", "_law_all_of", "_law_near", "_law_value", "_law_divisor", "_law_ratio", "_law_here", "_law_there"] "_law_products_right" (defScope s_q_products_right) f cdv A outer s H E) (fun cls d _ H => E cls d H) (defBody s_q_products_right) (B_q_products_right n) := by
  have S := sc_q_products_right
  have tk : Takes (cxOf (L2.CX P w) P w K mg base ["_law_bag_here", "_law_one", "_law_other", "_law_third", "_law_both", "_law_all_of", "_law_near", "_law_value", "_law_divisor", "_law_ratio", "_law_here", "_law_there"] "_law_products_right" (defScope s_q_products_right) f cdv A outer s H E) (fun cls d _ H => E cls d H) := takes_of rfl rfl rfl rfl
  have hu := hr.units
  exact dss_cons (ds_parX3 rfl S.nd rfl rfl rfl (by decide) (by decide) (by decide) (by rfl) (by rfl) (by rfl) (xs_val (dx_de (dx_has h_q_some_line hr (by decide) tk (by rfl) (dr_io (pv 0) (dr_val (de_int) (dr_nil))))) (xs_val (dx_de (dx_has h_q_some_line hr (by decide) tk (by rfl) (dr_io (pv 0) (dr_val (de_int) (dr_nil))))) (xs_val (dx_de (dx_has h_q_some_line hr (by decide) tk (by rfl) (dr_io (pv 0) (dr_val (de_int) (dr_nil))))) (xs_nil)))) (by rfl))
    (dss_cons (ds_par rfl S.nd rfl rfl (by decide) (by rfl) (by rfl) (dv_cons (dx_de (dx_has h_polynomial_product hr (by decide) tk (by rfl) (dr_val (de_var (pv 1)) (dr_val (de_var (pv 2)) (dr_nil))))) (dv_cons (dx_de (dx_has h_polynomial_sum hr (by decide) tk (by rfl) (dr_val (de_var (pv 1)) (dr_val (de_var (pv 2)) (dr_nil))))) (dv_nil))) (by rfl))
    (dss_cons (ds_if (dt_bool (dw_or (dt_cmp (op_neD hu) ops_ne1 (do_var (pv 4)) (do_val (dx_de (dx_has h_q_line_times hr (by decide) tk (by rfl) (dr_val (de_var (pv 1)) (dr_val (de_var (pv 2)) (dr_nil)))))) (nomark _)) (dw_or (dt_cmp (op_neD hu) ops_ne1 (do_var (pv 5)) (do_val (dx_de (dx_has h_q_line_sum hr (by decide) tk (by rfl) (dr_val (de_var (pv 1)) (dr_val (de_var (pv 2)) (dr_nil)))))) (nomark _)) (dw_or1 (dt_cmp (op_neD hu) ops_ne1 (do_var (pv 4)) (do_val (dx_de (dx_has h_polynomial_product hr (by decide) tk (by rfl) (dr_val (de_var (pv 2)) (dr_val (de_var (pv 1)) (dr_nil)))))) (nomark _)))))) (dss_one (ds_ret (de_bl))) (dss_nil))
    (dss_cons (ds_if (dt_bool (dw_or (dt_cmp (op_neD hu) ops_ne1 (do_var (pv 5)) (do_val (dx_de (dx_has h_polynomial_sum hr (by decide) tk (by rfl) (dr_val (de_var (pv 2)) (dr_val (de_var (pv 1)) (dr_nil)))))) (nomark _)) (dw_or (dt_cmp (op_neD hu) ops_ne1 (do_val (dx_de (dx_has h_polynomial_product hr (by decide) tk (by rfl) (dr_val (de_var (pv 1)) (dr_val (de_tup (dv_cons (de_int) (dv_nil))) (dr_nil)))))) (do_val (de_tup (dv_cons (de_int) (dv_nil)))) (nomark _)) (dw_or1 (dt_cmp (op_neD hu) ops_ne1 (do_val (dx_de (dx_has h_polynomial_sum hr (by decide) tk (by rfl) (dr_val (de_var (pv 1)) (dr_val (de_tup (dv_cons (de_int) (dv_nil))) (dr_nil)))))) (do_var (pv 1)) (nomark _)))))) (dss_one (ds_ret (de_bl))) (dss_nil))
    (dss_cons (ds_set (i := 6) S.nd rfl (.inl rfl) (dx_de (dx_has h_q_line_sum hr (by decide) tk (by rfl) (dr_val (de_var (pv 4)) (dr_val (dx_de (dx_has h_q_some_line hr (by decide) tk (by rfl) (dr_io (pv 0) (dr_val (de_int) (dr_nil))))) (dr_nil))))))
    (dss_cons (ds_for (passes_of rfl) rfl (di_tup (de_tup (dv_cons (de_var (pv 4)) (dv_cons (de_var (pv 6)) (dv_cons (de_var (pv 1)) (dv_cons (de_var (pv 3)) (dv_nil))))))) (dg_name (i := 7) (pg_name (i := 7) S.nd rfl (.inl rfl))) (dss_one (ds_for (passes_of rfl) rfl (di_tup (de_tup (dv_cons (de_var (pv 1)) (dv_cons (de_var (pv 2)) (dv_cons (de_var (pv 3)) (dv_cons (de_tup (dv_cons (de_int) (dv_nil))) (dv_cons (de_tup (dv_cons (de_un un_neg uns_neg (do_val (de_int))) (dv_nil))) (dv_cons (de_tup (dv_cons (de_int) (dv_nil))) (dv_nil))))))))) (dg_name (i := 8) (pg_name (i := 8) S.nd rfl (.inl rfl))) (dss_one (ds_if (dt_bool (dw_and (dt_cmp (op_neD hu) ops_ne1 (do_var (pv 8)) (do_val (de_tup (dv_cons (de_int) (dv_nil)))) (nomark _)) (dw_and1 (dt_cmp (op_neD hu) ops_ne1 (do_val (dx_de (dx_has h_polynomial_quotient hr (by decide) tk (by rfl) (dr_val (de_var (pv 7)) (dr_val (de_var (pv 8)) (dr_nil)))))) (do_val (dx_de (dx_has h_q_line_over hr (by decide) tk (by rfl) (dr_val (de_var (pv 7)) (dr_val (de_var (pv 8)) (dr_nil)))))) (nomark _))))) (dss_one (ds_ret (de_bl))) (dss_nil))))))
    (dss_cons (ds_set (i := 9) S.nd rfl (.inl rfl) (dx_de (dx_has h_q_lowest hr (by decide) tk (by rfl) (dr_val (de_bin op_sub ops_i0 (do_val (dx_de (dx_has h_q_grab hr (by decide) tk (by rfl) (dr_io (pv 0) (dr_val (de_int) (dr_nil)))))) (do_val (de_int))) (dr_val (de_bin (op_add.or (op_cat.or op_catA)) (ops_or ops_i0 (ops_or ops_catL ops_catT)) (do_val (de_int)) (do_val (dx_de (dx_has h_q_grab hr (by decide) tk (by rfl) (dr_io (pv 0) (dr_val (de_int) (dr_nil))))))) (dr_nil))))))
    (dss_cons (ds_par rfl S.nd rfl rfl (by decide) (by rfl) (by rfl) (dv_cons (dx_de (dx_has h_polynomial_value hr (by decide) tk (by rfl) (dr_val (de_var (pv 1)) (dr_val (de_var (pv 9)) (dr_nil))))) (dv_cons (dx_de (dx_has h_polynomial_value hr (by decide) tk (by rfl) (dr_val (de_var (pv 2)) (dr_val (de_var (pv 9)) (dr_nil))))) (dv_nil))) (by rfl))
    (dss_cons (ds_if (dt_bool (dw_or (dt_cmp (op_neD hu) ops_ne1 (do_var (pv 10)) (do_val (dx_de (dx_has h_q_line_value hr (by decide) tk (by rfl) (dr_val (de_var (pv 1)) (dr_val (de_var (pv 9)) (dr_nil)))))) (nomark _)) (dw_or1 (dt_cmp (op_neD hu) ops_ne1 (do_var (pv 11)) (do_val (dx_de (dx_has h_q_line_value hr (by decide) tk (by rfl) (dr_val (de_var (pv 2)) (dr_val (de_var (pv 9)) (dr_nil)))))) (nomark _))))) (dss_one (ds_ret (de_bl))) (dss_nil))
    (dss_cons (ds_if (dt_cmp (op_neD hu) ops_ne1 (do_val (dx_de (dx_has h_polynomial_value hr (by decide) tk (by rfl) (dr_val (de_var (pv 4)) (dr_val (de_var (pv 9)) (dr_nil)))))) (do_val (dx_de (dx_has h_q_ratio_times hr (by decide) tk (by rfl) (dr_val (de_var (pv 10)) (dr_val (de_var (pv 11)) (dr_nil)))))) (nomark _)) (dss_one (ds_ret (de_bl))) (dss_nil))
    (dss_one (ds_ret (de_cmp (op_eqD hu) ops_eq1 (do_val (dx_de (dx_has h_polynomial_value hr (by decide) tk (by rfl) (dr_val (de_var (pv 5)) (dr_val (de_var (pv 9)) (dr_nil)))))) (do_val (dx_de (dx_has h_q_ratio_sum hr (by decide) tk (by rfl) (dr_val (de_var (pv 10)) (dr_val (de_var (pv 11)) (dr_val (de_int) (dr_nil))))))) (nomark _)))))))))))))
theorem d_q_is_line (T : Txt mg)  {f : Addr} {n : Nat} {cdv : Value} {A : Around} {outer : List Env} {s : Shared} {H : Hp} {E : XK} (hr : Room 0 (A.deeper (envOfC "_law_is_line" (defScope s_q_is_line) s.heap.objs.size f cdv))) :
    DSs (cxOf (L2.CX P w) P w K mg base ["_law_value", "_law_number"] "_law_is_line" (defScope s_q_is_line) f cdv A outer s H E) (fun cls d _ H => E cls d H) (defBody s_q_is_line) (B_q_is_line n) := by
  have S := sc_q_is_line
  have tk : Takes (cxOf (L2.CX P w) P w K mg base ["_law_value", "_law_number"] "_law_is_line" (defScope s_q_is_line) f cdv A outer s H E) (fun cls d _ H => E cls d H) := takes_of rfl rfl rfl rfl
  have hu := hr.units
  exact dss_cons (ds_if (dt_bool (dw_or (dt_not (dt_val (de_isi (do_var (pv 0)) (pe_tyn (T := "tuple") (by rfl) T.b_tuple boot_tuple) (by rfl) T.b_isinstance boot_isinstance))) (dw_or1 (dt_not (dt_chain op_le op_le ops_b0 ops_b0 (do_val (de_int)) (do_val (de_callB call_len_seq cas_len (by rfl) T.b_len PySem.boot_len (da_cons (do_var (pv 0)) (da_nil)))) (do_val (de_int))))))) (dss_one (ds_ret (de_bl))) (dss_nil))
    (dss_cons (ds_for (passes_of rfl) rfl (di_tup (de_var (pv 0))) (dg_name (i := 1) (pg_name (i := 1) S.nd rfl (.inl rfl))) (dss_one (ds_if (dt_bool (dw_or (dt_not (dt_val (de_isi (do_var (pv 1)) (pe_tyn (T := "int") (by rfl) T.b_int boot_int) (by rfl) T.b_isinstance boot_isinstance))) (dw_or (dt_val (de_isi (do_var (pv 1)) (pe_tyn (T := "bool") (by rfl) T.b_bool boot_bool) (by rfl) T.b_isinstance boot_isinstance)) (dw_or1 (dt_cmp op_ge ops_b0 (do_val (de_callB call_abs cas_abs (by rfl) T.b_abs boot_abs (da_cons (do_var (pv 1)) (da_nil)))) (do_val (de_bin op_powG (ops_ic fun _ _ h => cPow_ok h) (do_val (de_int)) (do_val (de_int)))) (nomark _)))))) (dss_one (ds_ret (de_bl))) (dss_nil))))
    (dss_one (ds_ret (de_or (de_cmp (op_eqD hu) ops_eq1 (do_val (de_callB call_len_seq cas_len (by rfl) T.b_len PySem.boot_len (da_cons (do_var (pv 0)) (da_nil)))) (do_val (de_int)) (nomark _)) (de_one (de_cmp (op_neD hu) ops_ne1 (do_val (de_ix (do_var (pv 0)) (do_val (de_un un_neg uns_neg (do_val (de_int)))))) (do_val (de_int)) (nomark _)))))))
theorem d_q_judged_right (T : Txt mg) (h_q_some_line : Has P w K mg base "_law_some_line" 3 ["_law_bag_here", "_law_most"] F_q_some_line) (h_is_polynomial : Has P w K mg base "is_polynomial" 3 ["value"] F_is_polynomial) (h_q_is_line : Has P w K mg base "_law_is_line" 1 ["_law_value"] F_q_is_line) {f : Addr} {n : Nat} {cdv : Value} {A : Around} {outer : List Env} {s : Shared} {H : Hp} {E : XK} (hr : Room 3 (A.deeper (envOfC "_law_judged_right" (defScope s_q_judged_right) s.heap.objs.size f cdv))) :
    DSs (cxOf (L2.CX P w) P w K mg base ["_law_bag_here", "_law_line", "_law_some", "_law_value"] "_law_judged_right" (defScope s_q_judged_right) f cdv A outer s H E) (fun cls d _ H => E cls d H) (defBody s_q_judged_right) (B_q_judged_right n) := by
  have S := sc_q_judged_right
  have tk : Takes (cxOf (L2.CX P w) P w K mg base ["_law_bag_here", "_law_line", "_law_some", "_law_value"] "_law_judged_right" (defScope s_q_judged_right) f cdv A outer s H E) (fun cls d _ H => E cls d H) := takes_of rfl rfl rfl rfl
  have hu := hr.units
  exact dss_cons (ds_set (i := 1) S.nd rfl (.inl rfl) (dx_de (dx_has h_q_some_line hr (by decide) tk (by rfl) (dr_io (pv 0) (dr_val (de_int) (dr_nil))))))
    (dss_cons (ds_set (i := 2) S.nd rfl (.inl rfl) (de_fresh (df_lst (dv_cons (de_var (pv 1)) (dv_cons (de_fresh (df_list (by rfl) T.b_list (do_var (pv 1)))) (dv_cons (de_bin (op_add.or (op_cat.or op_catA)) (ops_or ops_i0 (ops_or ops_catL ops_catT)) (do_var (pv 1)) (do_val (de_tup (dv_cons (de_int) (dv_nil))))) (dv_cons (de_bin (op_add.or (op_cat.or op_catA)) (ops_or ops_i0 (ops_or ops_catL ops_catT)) (do_var (pv 1)) (do_val (de_tup (dv_cons (de_int) (dv_nil))))) (dv_cons (de_tup (dv_nil)) (dv_cons (de_non) (dv_cons (de_int) (dv_cons (de_str) (dv_cons (de_fresh (df_dic0)) (dv_cons (de_tup (dv_cons (de_non) (dv_nil))) (dv_cons (de_tup (dv_cons (de_bl) (dv_nil))) (dv_cons (de_bin (op_add.or (op_cat.or op_catA)) (ops_or ops_i0 (ops_or ops_catL ops_catT)) (do_var (pv 1)) (do_val (de_tup (dv_cons (de_bl) (dv_nil))))) (dv_cons (de_tup (dv_cons (de_str) (dv_nil))) (dv_cons (de_tup (dv_cons (de_var (pv 1)) (dv_nil))) (dv_nil))))))))))))))))))
    (dss_cons (ds_set (i := 2) S.nd rfl (.inl rfl) (de_bin (op_add.or (op_cat.or op_catA)) (ops_or ops_i0 (ops_or ops_catL ops_catT)) (do_var (pv 2)) (do_val (de_fresh (df_lst (dv_cons (de_tup (dv_cons (de_int) (dv_nil))) (dv_cons (de_tup (dv_cons (de_int) (dv_cons (de_int) (dv_nil)))) (dv_cons (de_bin (op_mulW.or (op_rep.or op_repT)) (ops_or (ops_ic mul_ok) (ops_or ops_repL ops_repT)) (do_val (de_tup (dv_cons (de_int) (dv_nil)))) (do_val (de_int))) (dv_cons (de_bin (op_mulW.or (op_rep.or op_repT)) (ops_or (ops_ic mul_ok) (ops_or ops_repL ops_repT)) (do_val (de_tup (dv_cons (de_int) (dv_nil)))) (do_val (de_int))) (dv_cons (de_tup (dv_cons (de_bin op_powG (ops_ic fun _ _ h => cPow_ok h) (do_val (de_int)) (do_val (de_int))) (dv_nil))) (dv_cons (de_tup (dv_cons (de_bin op_sub ops_i0 (do_val (de_bin op_powG (ops_ic fun _ _ h => cPow_ok h) (do_val (de_int)) (do_val (de_int)))) (do_val (de_int))) (dv_nil))) (dv_cons (de_tup (dv_cons (de_bin op_sub ops_i0 (do_val (de_int)) (do_val (de_bin op_powG (ops_ic fun _ _ h => cPow_ok h) (do_val (de_int)) (do_val (de_int))))) (dv_cons (de_int) (dv_nil)))) (dv_cons (de_tup (dv_cons (de_tup (dv_cons (de_int) (dv_cons (de_int) (dv_nil)))) (dv_cons (de_int) (dv_nil)))) (dv_nil))))))))))))))
    (dss_one (ds_ret (de_cmp (op_eqD hu) ops_eq1 (do_val (de_fresh (df_lc (own := [("_law_value", 3)]) rfl S.nd (di_list (de_var (pv 2))) (blkOk_by (by rfl)) rfl (by intro _ _ _ _ _; exact dg_name (i := 3) (pg_name (i := 3) S.nd rfl (.inl rfl))) (by intro _ _ _ _ _; exact dts_one (dt_cmp (op_neD hu) ops_ne1 (do_val (de_callB call_rpr cas_rpr (by rfl) T.b_repr boot_repr (da_cons (do_val (dx_de (dx_hasN h_is_polynomial hr (by decide) (by rfl) (dr_val (de_var (pv 3)) (dr_nil))))) (da_nil)))) (do_val (de_callB call_rpr cas_rpr (by rfl) T.b_repr boot_repr (da_cons (do_val (dx_de (dx_hasN h_q_is_line hr (by decide) (by rfl) (dr_val (de_var (pv 3)) (dr_nil))))) (da_nil)))) (nomark _))) (by intro _ _ _ _ _; exact de_var (pv 3))))) (do_val (de_fresh (df_lst (dv_nil)))) (nomark _))))))
theorem d_law (T : Txt mg) (h_q_bag : Has P w K mg base "_law_bag" 1 ["_law_script", "_law_spot"] F_q_bag) (h_polynomial_product : Has P w K mg base "polynomial_product" 6 ["one", "other"] F_polynomial_product) (h_polynomial_sum : Has P w K mg base "polynomial_sum" 6 ["one", "other"] F_polynomial_sum) (h_polynomial_quotient : Has P w K mg base "polynomial_quotient" 6 ["one", "other"] F_polynomial_quotient) (h_polynomial_value : Has P w K mg base "polynomial_value" 6 ["polynomial", "ratio"] F_polynomial_value) (h_q_products_right : Has P w K mg base "_law_products_right" 7 ["_law_bag_here"] F_q_products_right) (h_q_judged_right : Has P w K mg base "_law_judged_right" 4 ["_law_bag_here"] F_q_judged_right) {f : Addr} {n : Nat} {cdv : Value} {A : Around} {outer : List Env} {s : Shared} {H : Hp} {E : XK} (hr : Room 7 (A.deeper (envOfC "law" (defScope s_law) s.heap.objs.size f cdv))) :
    DSs (cxOf (L2.CX P w) P w K mg base ["_law_script", "_law_spot", "_law_bag_here", "_law_told"] "law" (defScope s_law) f cdv A outer s H E) (fun cls d _ H => E cls d H) (defBody s_law) (B_law n) := by
  have S := sc_law
  have tk : Takes (cxOf (L2.CX P w) P w K mg base ["_law_script", "_law_spot", "_law_bag_here", "_law_told"] "law" (defScope s_law) f cdv A outer s H E) (fun cls d _ H => E cls d H) := takes_of rfl rfl rfl rfl
  have hu := hr.units
  exact dss_cons (ds_for (passes_of rfl) rfl (di_rng1 (by rfl) T.b_range (dv_cons (de_callB (call_max2 rfl) cas_max2 (by rfl) T.b_max boot_max (da_cons (do_val (de_int)) (da_cons (do_val (de_callB (call_min2 rfl) cas_min2 (by rfl) T.b_min boot_min (da_cons (do_val (de_int)) (da_cons (do_val (de_callB call_len_seq cas_len (by rfl) T.b_len PySem.boot_len (da_cons (do_var (pv 0)) (da_nil)))) (da_nil))))) (da_nil)))) (dv_nil))) (dg_name (i := 1) (pg_name (i := 1) S.nd rfl (.inl rfl))) (dss_cons (ds_setF (i := 2) S.nd rfl (.inl rfl) (dx_df (dx_has h_q_bag hr (by decide) tk (by rfl) (dr_val (de_var (pv 0)) (dr_val (de_var (pv 1)) (dr_nil))))))
    (dss_one (ds_if (dt_bool (dw_or (dt_not (dt_val (dx_de (dx_has h_q_products_right hr (by decide) tk (by rfl) (dr_io (pv 2) (dr_nil)))))) (dw_or1 (dt_not (dt_val (dx_de (dx_has h_q_judged_right hr (by decide) tk (by rfl) (dr_io (pv 2) (dr_nil))))))))) (dss_one (ds_ret (de_bl))) (dss_nil)))))
    (dss_cons (ds_set (i := 3) S.nd rfl (.inl rfl) (de_fresh (df_lst (dv_cons (dx_de (dx_has h_polynomial_product hr (by decide) tk (by rfl) (dr_val (de_tup (dv_cons (de_int) (dv_cons (de_un un_neg uns_neg (do_val (de_int))) (dv_nil)))) (dr_val (de_tup (dv_cons (de_int) (dv_cons (de_int) (dv_nil)))) (dr_nil))))) (dv_cons (dx_de (dx_has h_polynomial_sum hr (by decide) tk (by rfl) (dr_val (de_tup (dv_cons (de_int) (dv_cons (de_int) (dv_nil)))) (dr_val (de_tup (dv_cons (de_int) (dv_cons (de_un un_neg uns_neg (do_val (de_int))) (dv_nil)))) (dr_nil))))) (dv_cons (dx_de (dx_has h_polynomial_quotient hr (by decide) tk (by rfl) (dr_val (de_tup (dv_cons (de_un un_neg uns_neg (do_val (de_int))) (dv_cons (de_int) (dv_cons (de_int) (dv_cons (de_int) (dv_nil)))))) (dr_val (de_tup (dv_cons (de_un un_neg uns_neg (do_val (de_int))) (dv_cons (de_int) (dv_nil)))) (dr_nil))))) (dv_nil)))))))
    (dss_cons (ds_set (i := 3) S.nd rfl (.inl rfl) (de_bin (op_add.or (op_cat.or op_catA)) (ops_or ops_i0 (ops_or ops_catL ops_catT)) (do_var (pv 3)) (do_val (de_fresh (df_lst (dv_cons (dx_de (dx_has h_polynomial_quotient hr (by decide) tk (by rfl) (dr_val (de_tup (dv_cons (de_int) (dv_cons (de_int) (dv_cons (de_int) (dv_nil))))) (dr_val (de_tup (dv_cons (de_int) (dv_cons (de_int) (dv_nil)))) (dr_nil))))) (dv_cons (dx_de (dx_has h_polynomial_value hr (by decide) tk (by rfl) (dr_val (de_tup (dv_cons (de_int) (dv_cons (de_int) (dv_cons (de_un un_neg uns_neg (do_val (de_int))) (dv_nil))))) (dr_val (de_tup (dv_cons (de_int) (dv_cons (de_int) (dv_nil)))) (dr_nil))))) (dv_cons (dx_de (dx_has h_polynomial_quotient hr (by decide) tk (by rfl) (dr_val (de_tup (dv_cons (de_int) (dv_nil))) (dr_val (de_tup (dv_cons (de_int) (dv_cons (de_int) (dv_nil)))) (dr_nil))))) (dv_nil)))))))))
    (dss_one (ds_ret (de_cmp (op_eqD hu) ops_eq1 (do_var (pv 3)) (do_val (de_fresh (df_lst (dv_cons (de_tup (dv_cons (de_int) (dv_cons (de_int) (dv_cons (de_un un_neg uns_neg (do_val (de_int))) (dv_nil))))) (dv_cons (de_tup (dv_cons (de_int) (dv_nil))) (dv_cons (de_tup (dv_cons (de_int) (dv_cons (de_int) (dv_cons (de_int) (dv_nil))))) (dv_cons (de_non) (dv_cons (de_tup (dv_cons (de_int) (dv_cons (de_int) (dv_nil)))) (dv_cons (de_tup (dv_cons (de_int) (dv_nil))) (dv_nil)))))))))) (nomark _))))))
theorem ok_q_bag (T : Txt mg)  {f : Addr} {fd : FuncData} (Fu : Fun K "_law_bag" "_law_bag" s_q_bag f fd) : FnOk P w K mg base (L2.CX P w) 1 f fd ["_law_script", "_law_spot"] (spD K 2 F_q_bag) :=
  fn_D (N := ["_law_script", "_law_spot", "_law_cell", "_law_great", "_law_mixed"]) Fu sc_q_bag B_q_bag (fun n cdv A outer s H E hr => d_q_bag T  hr) fun as _ _ => ⟨fuel as, rfl⟩
theorem has_q_bag (T : Txt mg)  {f : Addr} {fd : FuncData} (Fu : Fun K "_law_bag" "_law_bag" s_q_bag f fd) (g : mg "_law_bag" = some (.ref f)) : Has P w K mg base "_law_bag" 1 ["_law_script", "_law_spot"] F_q_bag :=
  ⟨f, fd, g, Fu.kp, Fu.binds (ps := ["_law_script", "_law_spot"]) (fun _ _ _ _ _ _ us hl => match us, hl with | [_, _], _ => rfl), ok_q_bag T  Fu⟩
theorem ok_is_long_integer (T : Txt mg)  {f : Addr} {fd : FuncData} (Fu : Fun K "is_long_integer" "is_long_integer" s_is_long_integer f fd) : FnOk P w K mg base (L2.CX P w) 1 f fd ["value"] (spD K 1 F_is_long_integer) :=
  fn_D (N := ["value"]) Fu sc_is_long_integer B_is_long_integer (fun n cdv A outer s H E hr => d_is_long_integer T  hr) fun as _ _ => ⟨fuel as, rfl⟩
theorem has_is_long_integer (T : Txt mg)  {f : Addr} {fd : FuncData} (Fu : Fun K "is_long_integer" "is_long_integer" s_is_long_integer f fd) (g : mg "is_long_integer" = some (.ref f)) : Has P w K mg base "is_long_integer" 1 ["value"] F_is_long_integer :=
  ⟨f, fd, g, Fu.kp, Fu.binds (ps := ["value"]) (fun _ _ _ _ _ _ us hl => match us, hl with | [_], _ => rfl), ok_is_long_integer T  Fu⟩
theorem ok_is_integer (T : Txt mg) (h_is_long_integer : Has P w K mg base "is_long_integer" 1 ["value"] F_is_long_integer) {f : Addr} {fd : FuncData} (Fu : Fun K "is_integer" "is_integer" s_is_integer f fd) : FnOk P w K mg base (L2.CX P w) 2 f fd ["value"] (spD K 1 F_is_integer) :=
  fn_D (N := ["value"]) Fu sc_is_integer B_is_integer (fun n cdv A outer s H E hr => d_is_integer T h_is_long_integer hr) fun as _ _ => ⟨fuel as, rfl⟩
theorem has_is_integer (T : Txt mg) (h_is_long_integer : Has P w K mg base "is_long_integer" 1 ["value"] F_is_long_integer) {f : Addr} {fd : FuncData} (Fu : Fun K "is_integer" "is_integer" s_is_integer f fd) (g : mg "is_integer" = some (.ref f)) : Has P w K mg base "is_integer" 2 ["value"] F_is_integer :=
  ⟨f, fd, g, Fu.kp, Fu.binds (ps := ["value"]) (fun _ _ _ _ _ _ us hl => match us, hl with | [_], _ => rfl), ok_is_integer T h_is_long_integer Fu⟩
theorem ok_is_polynomial (T : Txt mg) (h_is_integer : Has P w K mg base "is_integer" 2 ["value"] F_is_integer) {f : Addr} {fd : FuncData} (Fu : Fun K "is_polynomial" "is_polynomial" s_is_polynomial f fd) : FnOk P w K mg base (L2.CX P w) 3 f fd ["value"] (spD K 1 F_is_polynomial) :=
  fn_D (N := ["value", "item"]) Fu sc_is_polynomial B_is_polynomial (fun n cdv A outer s H E hr => d_is_polynomial T h_is_integer hr) fun as _ _ => ⟨fuel as, rfl⟩
theorem has_is_polynomial (T : Txt mg) (h_is_integer : Has P w K mg base "is_integer" 2 ["value"] F_is_integer) {f : Addr} {fd : FuncData} (Fu : Fun K "is_polynomial" "is_polynomial" s_is_polynomial f fd) (g : mg "is_polynomial" = some (.ref f)) : Has P w K mg base "is_polynomial" 3 ["value"] F_is_polynomial :=
  ⟨f, fd, g, Fu.kp, Fu.binds (ps := ["value"]) (fun _ _ _ _ _ _ us hl => match us, hl with | [_], _ => rfl), ok_is_polynomial T h_is_integer Fu⟩
theorem ok_check_polynomial (T : Txt mg) (h_is_polynomial : Has P w K mg base "is_polynomial" 3 ["value"] F_is_polynomial) {f : Addr} {fd : FuncData} (Fu : Fun K "check_polynomial" "check_polynomial" s_check_polynomial f fd) : FnOk P w K mg base (L2.CX P w) 4 f fd ["polynomial"] (spD K 1 F_check_polynomial) :=
  fn_D (N := ["polynomial"]) Fu sc_check_polynomial B_check_polynomial (fun n cdv A outer s H E hr => d_check_polynomial T h_is_polynomial hr) fun as _ _ => ⟨fuel as, rfl⟩
theorem has_check_polynomial (T : Txt mg) (h_is_polynomial : Has P w K mg base "is_polynomial" 3 ["value"] F_is_polynomial) {f : Addr} {fd : FuncData} (Fu : Fun K "check_polynomial" "check_polynomial" s_check_polynomial f fd) (g : mg "check_polynomial" = some (.ref f)) : Has P w K mg base "check_polynomial" 4 ["polynomial"] F_check_polynomial :=
  ⟨f, fd, g, Fu.kp, Fu.binds (ps := ["polynomial"]) (fun _ _ _ _ _ _ us hl => match us, hl with | [_], _ => rfl), ok_check_polynomial T h_is_polynomial Fu⟩
theorem ok_check_polynomials (T : Txt mg) (h_check_polynomial : Has P w K mg base "check_polynomial" 4 ["polynomial"] F_check_polynomial) {f : Addr} {fd : FuncData} (Fu : Fun K "check_polynomials" "check_polynomials" s_check_polynomials f fd) : FnOk P w K mg base (L2.CX P w) 5 f fd ["one", "other"] (spD K 2 F_check_polynomials) :=
  fn_D (N := ["one", "other"]) Fu sc_check_polynomials B_check_polynomials (fun n cdv A outer s H E hr => d_check_polynomials T h_check_polynomial hr) fun as _ _ => ⟨fuel as, rfl⟩
theorem has_check_polynomials (T : Txt mg) (h_check_polynomial : Has P w K mg base "check_polynomial" 4 ["polynomial"] F_check_polynomial) {f : Addr} {fd : FuncData} (Fu : Fun K "check_polynomials" "check_polynomials" s_check_polynomials f fd) (g : mg "check_polynomials" = some (.ref f)) : Has P w K mg base "check_polynomials" 5 ["one", "other"] F_check_polynomials :=
  ⟨f, fd, g, Fu.kp, Fu.binds (ps := ["one", "other"]) (fun _ _ _ _ _ _ us hl => match us, hl with | [_, _], _ => rfl), ok_check_polynomials T h_check_polynomial Fu⟩
theorem ok_trimmed (T : Txt mg)  {f : Addr} {fd : FuncData} (Fu : Fun K "trimmed" "trimmed" s_trimmed f fd) : FnOk P w K mg base (L2.CX P w) 1 f fd ["items"] (spD K 1 F_trimmed) :=
  fn_D (N := ["items", "many"]) Fu sc_trimmed B_trimmed (fun n cdv A outer s H E hr => d_trimmed T  hr) fun as _ _ => ⟨fuel as, rfl⟩
theorem has_trimmed (T : Txt mg)  {f : Addr} {fd : FuncData} (Fu : Fun K "trimmed" "trimmed" s_trimmed f fd) (g : mg "trimmed" = some (.ref f)) : Has P w K mg base "trimmed" 1 ["items"] F_trimmed :=
  ⟨f, fd, g, Fu.kp, Fu.binds (ps := ["items"]) (fun _ _ _ _ _ _ us hl => match us, hl with | [_], _ => rfl), ok_trimmed T  Fu⟩
theorem ok_polynomial_product (T : Txt mg) (h_check_polynomials : Has P w K mg base "check_polynomials" 5 ["one", "other"] F_check_polynomials) (h_trimmed : Has P w K mg base "trimmed" 1 ["items"] F_trimmed) {f : Addr} {fd : FuncData} (Fu : Fun K "polynomial_product" "polynomial_product" s_polynomial_product f fd) : FnOk P w K mg base (L2.CX P w) 6 f fd ["one", "other"] (spD K 2 F_polynomial_product) :=
  fn_D (N := ["one", "other", "total", "index", "item", "place", "factor", "product"]) Fu sc_polynomial_product B_polynomial_product (fun n cdv A outer s H E hr => d_polynomial_product T h_check_polynomials h_trimmed hr) fun as _ _ => ⟨fuel as, rfl⟩
theorem has_polynomial_product (T : Txt mg) (h_check_polynomials : Has P w K mg base "check_polynomials" 5 ["one", "other"] F_check_polynomials) (h_trimmed : Has P w K mg base "trimmed" 1 ["items"] F_trimmed) {f : Addr} {fd : FuncData} (Fu : Fun K "polynomial_product" "polynomial_product" s_polynomial_product f fd) (g : mg "polynomial_product" = some (.ref f)) : Has P w K mg base "polynomial_product" 6 ["one", "other"] F_polynomial_product :=
  ⟨f, fd, g, Fu.kp, Fu.binds (ps := ["one", "other"]) (fun _ _ _ _ _ _ us hl => match us, hl with | [_, _], _ => rfl), ok_polynomial_product T h_check_polynomials h_trimmed Fu⟩
theorem ok_polynomial_sum (T : Txt mg) (h_check_polynomials : Has P w K mg base "check_polynomials" 5 ["one", "other"] F_check_polynomials) (h_trimmed : Has P w K mg base "trimmed" 1 ["items"] F_trimmed) {f : Addr} {fd : FuncData} (Fu : Fun K "polynomial_sum" "polynomial_sum" s_polynomial_sum f fd) : FnOk P w K mg base (L2.CX P w) 6 f fd ["one", "other"] (spD K 2 F_polynomial_sum) :=
  fn_D (N := ["one", "other", "total", "index", "item"]) Fu sc_polynomial_sum B_polynomial_sum (fun n cdv A outer s H E hr => d_polynomial_sum T h_check_polynomials h_trimmed hr) fun as _ _ => ⟨fuel as, rfl⟩
theorem has_polynomial_sum (T : Txt mg) (h_check_polynomials : Has P w K mg base "check_polynomials" 5 ["one", "other"] F_check_polynomials) (h_trimmed : Has P w K mg base "trimmed" 1 ["items"] F_trimmed) {f : Addr} {fd : FuncData} (Fu : Fun K "polynomial_sum" "polynomial_sum" s_polynomial_sum f fd) (g : mg "polynomial_sum" = some (.ref f)) : Has P w K mg base "polynomial_sum" 6 ["one", "other"] F_polynomial_sum :=
  ⟨f, fd, g, Fu.kp, Fu.binds (ps := ["one", "other"]) (fun _ _ _ _ _ _ us hl => match us, hl with | [_, _], _ => rfl), ok_polynomial_sum T h_check_polynomials h_trimmed Fu⟩
theorem ok_divided (T : Txt mg)  {f : Addr} {fd : FuncData} (Fu : Fun K "divided" "divided" s_divided f fd) : FnOk P w K mg base (L2.CX P w) 1 f fd ["one", "other"] (spD K 2 F_divided) :=
  fn_D (N := ["one", "other", "rest", "quotient", "index", "factor", "place", "item"]) Fu sc_divided B_divided (fun n cdv A outer s H E hr => d_divided T  hr) fun as _ _ => ⟨fuel as, rfl⟩
theorem has_divided (T : Txt mg)  {f : Addr} {fd : FuncData} (Fu : Fun K "divided" "divided" s_divided f fd) (g : mg "divided" = some (.ref f)) : Has P w K mg base "divided" 1 ["one", "other"] F_divided :=
  ⟨f, fd, g, Fu.kp, Fu.binds (ps := ["one", "other"]) (fun _ _ _ _ _ _ us hl => match us, hl with | [_, _], _ => rfl), ok_divided T  Fu⟩
theorem ok_polynomial_quotient (T : Txt mg) (h_check_polynomials : Has P w K mg base "check_polynomials" 5 ["one", "other"] F_check_polynomials) (h_divided : Has P w K mg base "divided" 1 ["one", "other"] F_divided) {f : Addr} {fd : FuncData} (Fu : Fun K "polynomial_quotient" "polynomial_quotient" s_polynomial_quotient f fd) : FnOk P w K mg base (L2.CX P w) 6 f fd ["one", "other"] (spD K 2 F_polynomial_quotient) :=
  fn_D (N := ["one", "other"]) Fu sc_polynomial_quotient B_polynomial_quotient (fun n cdv A outer s H E hr => d_polynomial_quotient T h_check_polynomials h_divided hr) fun as _ _ => ⟨fuel as, rfl⟩
theorem has_polynomial_quotient (T : Txt mg) (h_check_polynomials : Has P w K mg base "check_polynomials" 5 ["one", "other"] F_check_polynomials) (h_divided : Has P w K mg base "divided" 1 ["one", "other"] F_divided) {f : Addr} {fd : FuncData} (Fu : Fun K "polynomial_quotient" "polynomial_quotient" s_polynomial_quotient f fd) (g : mg "polynomial_quotient" = some (.ref f)) : Has P w K mg base "polynomial_quotient" 6 ["one", "other"] F_polynomial_quotient :=
  ⟨f, fd, g, Fu.kp, Fu.binds (ps := ["one", "other"]) (fun _ _ _ _ _ _ us hl => match us, hl with | [_, _], _ => rfl), ok_polynomial_quotient T h_check_polynomials h_divided Fu⟩
theorem ok_is_long_pair (T : Txt mg) (h_is_long_integer : Has P w K mg base "is_long_integer" 1 ["value"] F_is_long_integer) {f : Addr} {fd : FuncData} (Fu : Fun K "is_long_pair" "is_long_pair" s_is_long_pair f fd) : FnOk P w K mg base (L2.CX P w) 2 f fd ["value"] (spD K 1 F_is_long_pair) :=
  fn_D (N := ["value"]) Fu sc_is_long_pair B_is_long_pair (fun n cdv A outer s H E hr => d_is_long_pair T h_is_long_integer hr) fun as _ _ => ⟨fuel as, rfl⟩
theorem has_is_long_pair (T : Txt mg) (h_is_long_integer : Has P w K mg base "is_long_integer" 1 ["value"] F_is_long_integer) {f : Addr} {fd : FuncData} (Fu : Fun K "is_long_pair" "is_long_pair" s_is_long_pair f fd) (g : mg "is_long_pair" = some (.ref f)) : Has P w K mg base "is_long_pair" 2 ["value"] F_is_long_pair :=
  ⟨f, fd, g, Fu.kp, Fu.binds (ps := ["value"]) (fun _ _ _ _ _ _ us hl => match us, hl with | [_], _ => rfl), ok_is_long_pair T h_is_long_integer Fu⟩
theorem ok_is_long_ratio (T : Txt mg) (h_is_long_pair : Has P w K mg base "is_long_pair" 2 ["value"] F_is_long_pair) {f : Addr} {fd : FuncData} (Fu : Fun K "is_long_ratio" "is_long_ratio" s_is_long_ratio f fd) : FnOk P w K mg base (L2.CX P w) 3 f fd ["value"] (spD K 1 F_is_long_ratio) :=
  fn_D (N := ["value"]) Fu sc_is_long_ratio B_is_long_ratio (fun n cdv A outer s H E hr => d_is_long_ratio T h_is_long_pair hr) fun as _ _ => ⟨fuel as, rfl⟩
theorem has_is_long_ratio (T : Txt mg) (h_is_long_pair : Has P w K mg base "is_long_pair" 2 ["value"] F_is_long_pair) {f : Addr} {fd : FuncData} (Fu : Fun K "is_long_ratio" "is_long_ratio" s_is_long_ratio f fd) (g : mg "is_long_ratio" = some (.ref f)) : Has P w K mg base "is_long_ratio" 3 ["value"] F_is_long_ratio :=
  ⟨f, fd, g, Fu.kp, Fu.binds (ps := ["value"]) (fun _ _ _ _ _ _ us hl => match us, hl with | [_], _ => rfl), ok_is_long_ratio T h_is_long_pair Fu⟩
theorem ok_is_ratio (T : Txt mg) (h_is_long_ratio : Has P w K mg base "is_long_ratio" 3 ["value"] F_is_long_ratio) (h_is_integer : Has P w K mg base "is_integer" 2 ["value"] F_is_integer) {f : Addr} {fd : FuncData} (Fu : Fun K "is_ratio" "is_ratio" s_is_ratio f fd) : FnOk P w K mg base (L2.CX P w) 4 f fd ["value"] (spD K 1 F_is_ratio) :=
  fn_D (N := ["value"]) Fu sc_is_ratio B_is_ratio (fun n cdv A outer s H E hr => d_is_ratio T h_is_long_ratio h_is_integer hr) fun as _ _ => ⟨fuel as, rfl⟩
theorem has_is_ratio (T : Txt mg) (h_is_long_ratio : Has P w K mg base "is_long_ratio" 3 ["value"] F_is_long_ratio) (h_is_integer : Has P w K mg base "is_integer" 2 ["value"] F_is_integer) {f : Addr} {fd : FuncData} (Fu : Fun K "is_ratio" "is_ratio" s_is_ratio f fd) (g : mg "is_ratio" = some (.ref f)) : Has P w K mg base "is_ratio" 4 ["value"] F_is_ratio :=
  ⟨f, fd, g, Fu.kp, Fu.binds (ps := ["value"]) (fun _ _ _ _ _ _ us hl => match us, hl with | [_], _ => rfl), ok_is_ratio T h_is_long_ratio h_is_integer Fu⟩
theorem ok_check_ratio (T : Txt mg) (h_is_ratio : Has P w K mg base "is_ratio" 4 ["value"] F_is_ratio) {f : Addr} {fd : FuncData} (Fu : Fun K "check_ratio" "check_ratio" s_check_ratio f fd) : FnOk P w K mg base (L2.CX P w) 5 f fd ["ratio"] (spD K 1 F_check_ratio) :=
  fn_D (N := ["ratio"]) Fu sc_check_ratio B_check_ratio (fun n cdv A outer s H E hr => d_check_ratio T h_is_ratio hr) fun as _ _ => ⟨fuel as, rfl⟩
theorem has_check_ratio (T : Txt mg) (h_is_ratio : Has P w K mg base "is_ratio" 4 ["value"] F_is_ratio) {f : Addr} {fd : FuncData} (Fu : Fun K "check_ratio" "check_ratio" s_check_ratio f fd) (g : mg "check_ratio" = some (.ref f)) : Has P w K mg base "check_ratio" 5 ["ratio"] F_check_ratio :=
  ⟨f, fd, g, Fu.kp, Fu.binds (ps := ["ratio"]) (fun _ _ _ _ _ _ us hl => match us, hl with | [_], _ => rfl), ok_check_ratio T h_is_ratio Fu⟩
theorem ok_reduced (T : Txt mg)  {f : Addr} {fd : FuncData} (Fu : Fun K "reduced" "reduced" s_reduced f fd) : FnOk P w K mg base (L2.CX P w) 1 f fd ["top", "bottom"] (spD K 2 F_reduced) :=
  fn_D (N := ["top", "bottom", "divisor"]) Fu sc_reduced B_reduced (fun n cdv A outer s H E hr => d_reduced T  hr) fun as _ _ => ⟨fuel as, rfl⟩
theorem has_reduced (T : Txt mg)  {f : Addr} {fd : FuncData} (Fu : Fun K "reduced" "reduced" s_reduced f fd) (g : mg "reduced" = some (.ref f)) : Has P w K mg base "reduced" 1 ["top", "bottom"] F_reduced :=
  ⟨f, fd, g, Fu.kp, Fu.binds (ps := ["top", "bottom"]) (fun _ _ _ _ _ _ us hl => match us, hl with | [_, _], _ => rfl), ok_reduced T  Fu⟩
theorem ok_polynomial_value (T : Txt mg) (h_check_polynomial : Has P w K mg base "check_polynomial" 4 ["polynomial"] F_check_polynomial) (h_check_ratio : Has P w K mg base "check_ratio" 5 ["ratio"] F_check_ratio) (h_reduced : Has P w K mg base "reduced" 1 ["top", "bottom"] F_reduced) {f : Addr} {fd : FuncData} (Fu : Fun K "polynomial_value" "polynomial_value" s_polynomial_value f fd) : FnOk P w K mg base (L2.CX P w) 6 f fd ["polynomial", "ratio"] (spD K 2 F_polynomial_value) :=
  fn_D (N := ["polynomial", "ratio", "top", "bottom", "total", "scale", "item"]) Fu sc_polynomial_value B_polynomial_value (fun n cdv A outer s H E hr => d_polynomial_value T h_check_polynomial h_check_ratio h_reduced hr) fun as _ _ => ⟨fuel as, rfl⟩
theorem has_polynomial_value (T : Txt mg) (h_check_polynomial : Has P w K mg base "check_polynomial" 4 ["polynomial"] F_check_polynomial) (h_check_ratio : Has P w K mg base "check_ratio" 5 ["ratio"] F_check_ratio) (h_reduced : Has P w K mg base "reduced" 1 ["top", "bottom"] F_reduced) {f : Addr} {fd : FuncData} (Fu : Fun K "polynomial_value" "polynomial_value" s_polynomial_value f fd) (g : mg "polynomial_value" = some (.ref f)) : Has P w K mg base "polynomial_value" 6 ["polynomial", "ratio"] F_polynomial_value :=
  ⟨f, fd, g, Fu.kp, Fu.binds (ps := ["polynomial", "ratio"]) (fun _ _ _ _ _ _ us hl => match us, hl with | [_, _], _ => rfl), ok_polynomial_value T h_check_polynomial h_check_ratio h_reduced Fu⟩
theorem ok_q_line_sum (T : Txt mg)  {f : Addr} {fd : FuncData} (Fu : Fun K "_law_line_sum" "_law_line_sum" s_q_line_sum f fd) : FnOk P w K mg base (L2.CX P w) 1 f fd ["_law_one", "_law_other"] (spD K 2 F_q_line_sum) :=
  fn_D (N := ["_law_one", "_law_other", "_law_size", "_law_at", "_law_found"]) Fu sc_q_line_sum B_q_line_sum (fun n cdv A outer s H E hr => d_q_line_sum T  hr) fun as _ _ => ⟨fuel as, rfl⟩
theorem has_q_line_sum (T : Txt mg)  {f : Addr} {fd : FuncData} (Fu : Fun K "_law_line_sum" "_law_line_sum" s_q_line_sum f fd) (g : mg "_law_line_sum" = some (.ref f)) : Has P w K mg base "_law_line_sum" 1 ["_law_one", "_law_other"] F_q_line_sum :=
  ⟨f, fd, g, Fu.kp, Fu.binds (ps := ["_law_one", "_law_other"]) (fun _ _ _ _ _ _ us hl => match us, hl with | [_, _], _ => rfl), ok_q_line_sum T  Fu⟩
theorem ok_q_common (T : Txt mg)  {f : Addr} {fd : FuncData} (Fu : Fun K "_law_common" "_law_common" s_q_common f fd) : FnOk P w K mg base (L2.CX P w) 1 f fd ["_law_numbers"] (spD K 1 F_q_common) :=
  fn_D (N := ["_law_numbers", "_law_found", "_law_number", "_law_one", "_law_other"]) Fu sc_q_common B_q_common (fun n cdv A outer s H E hr => d_q_common T  hr) fun as _ _ => ⟨fuel as, rfl⟩
theorem has_q_common (T : Txt mg)  {f : Addr} {fd : FuncData} (Fu : Fun K "_law_common" "_law_common" s_q_common f fd) (g : mg "_law_common" = some (.ref f)) : Has P w K mg base "_law_common" 1 ["_law_numbers"] F_q_common :=
  ⟨f, fd, g, Fu.kp, Fu.binds (ps := ["_law_numbers"]) (fun _ _ _ _ _ _ us hl => match us, hl with | [_], _ => rfl), ok_q_common T  Fu⟩
theorem ok_q_lowest (T : Txt mg) (h_q_common : Has P w K mg base "_law_common" 1 ["_law_numbers"] F_q_common) {f : Addr} {fd : FuncData} (Fu : Fun K "_law_lowest" "_law_lowest" s_q_lowest f fd) : FnOk P w K mg base (L2.CX P w) 2 f fd ["_law_top", "_law_bottom"] (spD K 2 F_q_lowest) :=
  fn_D (N := ["_law_top", "_law_bottom", "_law_shared"]) Fu sc_q_lowest B_q_lowest (fun n cdv A outer s H E hr => d_q_lowest T h_q_common hr) fun as _ _ => ⟨fuel as, rfl⟩
theorem has_q_lowest (T : Txt mg) (h_q_common : Has P w K mg base "_law_common" 1 ["_law_numbers"] F_q_common) {f : Addr} {fd : FuncData} (Fu : Fun K "_law_lowest" "_law_lowest" s_q_lowest f fd) (g : mg "_law_lowest" = some (.ref f)) : Has P w K mg base "_law_lowest" 2 ["_law_top", "_law_bottom"] F_q_lowest :=
  ⟨f, fd, g, Fu.kp, Fu.binds (ps := ["_law_top", "_law_bottom"]) (fun _ _ _ _ _ _ us hl => match us, hl with | [_, _], _ => rfl), ok_q_lowest T h_q_common Fu⟩
theorem ok_q_grab (T : Txt mg)  {f : Addr} {fd : FuncData} (Fu : Fun K "_law_grab" "_law_grab" s_q_grab f fd) : FnOk P w K mg base (L2.CX P w) 1 f fd ["_law_bag_here", "_law_total"] (spD K 2 F_q_grab) :=
  fn_D (N := ["_law_bag_here", "_law_total", "_law_found", "_law_one", "_law_two"]) Fu sc_q_grab B_q_grab (fun n cdv A outer s H E hr => d_q_grab T  hr) fun as _ _ => ⟨fuel as, rfl⟩
theorem has_q_grab (T : Txt mg)  {f : Addr} {fd : FuncData} (Fu : Fun K "_law_grab" "_law_grab" s_q_grab f fd) (g : mg "_law_grab" = some (.ref f)) : Has P w K mg base "_law_grab" 1 ["_law_bag_here", "_law_total"] F_q_grab :=
  ⟨f, fd, g, Fu.kp, Fu.binds (ps := ["_law_bag_here", "_law_total"]) (fun _ _ _ _ _ _ us hl => match us, hl with | [_, _], _ => rfl), ok_q_grab T  Fu⟩
theorem ok_q_some_number (T : Txt mg) (h_q_grab : Has P w K mg base "_law_grab" 1 ["_law_bag_here", "_law_total"] F_q_grab) {f : Addr} {fd : FuncData} (Fu : Fun K "_law_some_number" "_law_some_number" s_q_some_number f fd) : FnOk P w K mg base (L2.CX P w) 2 f fd ["_law_bag_here"] (spD K 1 F_q_some_number) :=
  fn_D (N := ["_law_bag_here", "_law_way"]) Fu sc_q_some_number B_q_some_number (fun n cdv A outer s H E hr => d_q_some_number T h_q_grab hr) fun as _ _ => ⟨fuel as, rfl⟩
theorem has_q_some_number (T : Txt mg) (h_q_grab : Has P w K mg base "_law_grab" 1 ["_law_bag_here", "_law_total"] F_q_grab) {f : Addr} {fd : FuncData} (Fu : Fun K "_law_some_number" "_law_some_number" s_q_some_number f fd) (g : mg "_law_some_number" = some (.ref f)) : Has P w K mg base "_law_some_number" 2 ["_law_bag_here"] F_q_some_number :=
  ⟨f, fd, g, Fu.kp, Fu.binds (ps := ["_law_bag_here"]) (fun _ _ _ _ _ _ us hl => match us, hl with | [_], _ => rfl), ok_q_some_number T h_q_grab Fu⟩
theorem ok_q_some_line (T : Txt mg) (h_q_some_number : Has P w K mg base "_law_some_number" 2 ["_law_bag_here"] F_q_some_number) (h_q_grab : Has P w K mg base "_law_grab" 1 ["_law_bag_here", "_law_total"] F_q_grab) {f : Addr} {fd : FuncData} (Fu : Fun K "_law_some_line" "_law_some_line" s_q_some_line f fd) : FnOk P w K mg base (L2.CX P w) 3 f fd ["_law_bag_here", "_law_most"] (spD K 2 F_q_some_line) :=
  fn_D (N := ["_law_bag_here", "_law_most", "_law_turn", "_law_found"]) Fu sc_q_some_line B_q_some_line (fun n cdv A outer s H E hr => d_q_some_line T h_q_some_number h_q_grab hr) fun as _ _ => ⟨fuel as, rfl⟩
theorem has_q_some_line (T : Txt mg) (h_q_some_number : Has P w K mg base "_law_some_number" 2 ["_law_bag_here"] F_q_some_number) (h_q_grab : Has P w K mg base "_law_grab" 1 ["_law_bag_here", "_law_total"] F_q_grab) {f : Addr} {fd : FuncData} (Fu : Fun K "_law_some_line" "_law_some_line" s_q_some_line f fd) (g : mg "_law_some_line" = some (.ref f)) : Has P w K mg base "_law_some_line" 3 ["_law_bag_here", "_law_most"] F_q_some_line :=
  ⟨f, fd, g, Fu.kp, Fu.binds (ps := ["_law_bag_here", "_law_most"]) (fun _ _ _ _ _ _ us hl => match us, hl with | [_, _], _ => rfl), ok_q_some_line T h_q_some_number h_q_grab Fu⟩
theorem ok_q_ratio_times (T : Txt mg) (h_q_lowest : Has P w K mg base "_law_lowest" 2 ["_law_top", "_law_bottom"] F_q_lowest) {f : Addr} {fd : FuncData} (Fu : Fun K "_law_ratio_times" "_law_ratio_times" s_q_ratio_times f fd) : FnOk P w K mg base (L2.CX P w) 3 f fd ["_law_one", "_law_other"] (spD K 2 F_q_ratio_times) :=
  fn_D (N := ["_law_one", "_law_other"]) Fu sc_q_ratio_times B_q_ratio_times (fun n cdv A outer s H E hr => d_q_ratio_times T h_q_lowest hr) fun as _ _ => ⟨fuel as, rfl⟩
theorem has_q_ratio_times (T : Txt mg) (h_q_lowest : Has P w K mg base "_law_lowest" 2 ["_law_top", "_law_bottom"] F_q_lowest) {f : Addr} {fd : FuncData} (Fu : Fun K "_law_ratio_times" "_law_ratio_times" s_q_ratio_times f fd) (g : mg "_law_ratio_times" = some (.ref f)) : Has P w K mg base "_law_ratio_times" 3 ["_law_one", "_law_other"] F_q_ratio_times :=
  ⟨f, fd, g, Fu.kp, Fu.binds (ps := ["_law_one", "_law_other"]) (fun _ _ _ _ _ _ us hl => match us, hl with | [_, _], _ => rfl), ok_q_ratio_times T h_q_lowest Fu⟩
theorem ok_q_ratio_sum (T : Txt mg) (h_q_lowest : Has P w K mg base "_law_lowest" 2 ["_law_top", "_law_bottom"] F_q_lowest) {f : Addr} {fd : FuncData} (Fu : Fun K "_law_ratio_sum" "_law_ratio_sum" s_q_ratio_sum f fd) : FnOk P w K mg base (L2.CX P w) 3 f fd ["_law_one", "_law_other", "_law_factor"] (spD K 3 F_q_ratio_sum) :=
  fn_D (N := ["_law_one", "_law_other", "_law_factor"]) Fu sc_q_ratio_sum B_q_ratio_sum (fun n cdv A outer s H E hr => d_q_ratio_sum T h_q_lowest hr) fun as _ _ => ⟨fuel as, rfl⟩
theorem has_q_ratio_sum (T : Txt mg) (h_q_lowest : Has P w K mg base "_law_lowest" 2 ["_law_top", "_law_bottom"] F_q_lowest) {f : Addr} {fd : FuncData} (Fu : Fun K "_law_ratio_sum" "_law_ratio_sum" s_q_ratio_sum f fd) (g : mg "_law_ratio_sum" = some (.ref f)) : Has P w K mg base "_law_ratio_sum" 3 ["_law_one", "_law_other", "_law_factor"] F_q_ratio_sum :=
  ⟨f, fd, g, Fu.kp, Fu.binds (ps := ["_law_one", "_law_other", "_law_factor"]) (fun _ _ _ _ _ _ us hl => match us, hl with | [_, _, _], _ => rfl), ok_q_ratio_sum T h_q_lowest Fu⟩
theorem ok_q_line_times (T : Txt mg)  {f : Addr} {fd : FuncData} (Fu : Fun K "_law_line_times" "_law_line_times" s_q_line_times f fd) : FnOk P w K mg base (L2.CX P w) 1 f fd ["_law_one", "_law_other"] (spD K 2 F_q_line_times) :=
  fn_D (N := ["_law_one", "_law_other", "_law_found", "_law_at", "_law_here", "_law_place", "_law_there"]) Fu sc_q_line_times B_q_line_times (fun n cdv A outer s H E hr => d_q_line_times T  hr) fun as _ _ => ⟨fuel as, rfl⟩
theorem has_q_line_times (T : Txt mg)  {f : Addr} {fd : FuncData} (Fu : Fun K "_law_line_times" "_law_line_times" s_q_line_times f fd) (g : mg "_law_line_times" = some (.ref f)) : Has P w K mg base "_law_line_times" 1 ["_law_one", "_law_other"] F_q_line_times :=
  ⟨f, fd, g, Fu.kp, Fu.binds (ps := ["_law_one", "_law_other"]) (fun _ _ _ _ _ _ us hl => match us, hl with | [_, _], _ => rfl), ok_q_line_times T  Fu⟩
theorem ok_q_line_value (T : Txt mg) (h_q_ratio_sum : Has P w K mg base "_law_ratio_sum" 3 ["_law_one", "_law_other", "_law_factor"] F_q_ratio_sum) (h_q_ratio_times : Has P w K mg base "_law_ratio_times" 3 ["_law_one", "_law_other"] F_q_ratio_times) {f : Addr} {fd : FuncData} (Fu : Fun K "_law_line_value" "_law_line_value" s_q_line_value f fd) : FnOk P w K mg base (L2.CX P w) 4 f fd ["_law_line", "_law_ratio"] (spD K 2 F_q_line_value) :=
  fn_D (N := ["_law_line", "_law_ratio", "_law_found", "_law_power", "_law_number"]) Fu sc_q_line_value B_q_line_value (fun n cdv A outer s H E hr => d_q_line_value T h_q_ratio_sum h_q_ratio_times hr) fun as _ _ => ⟨fuel as, rfl⟩
theorem has_q_line_value (T : Txt mg) (h_q_ratio_sum : Has P w K mg base "_law_ratio_sum" 3 ["_law_one", "_law_other", "_law_factor"] F_q_ratio_sum) (h_q_ratio_times : Has P w K mg base "_law_ratio_times" 3 ["_law_one", "_law_other"] F_q_ratio_times) {f : Addr} {fd : FuncData} (Fu : Fun K "_law_line_value" "_law_line_value" s_q_line_value f fd) (g : mg "_law_line_value" = some (.ref f)) : Has P w K mg base "_law_line_value" 4 ["_law_line", "_law_ratio"] F_q_line_value :=
  ⟨f, fd, g, Fu.kp, Fu.binds (ps := ["_law_line", "_law_ratio"]) (fun _ _ _ _ _ _ us hl => match us, hl with | [_, _], _ => rfl), ok_q_line_value T h_q_ratio_sum h_q_ratio_times Fu⟩
theorem ok_q_line_over (T : Txt mg)  {f : Addr} {fd : FuncData} (Fu : Fun K "_law_line_over" "_law_line_over" s_q_line_over f fd) : FnOk P w K mg base (L2.CX P w) 1 f fd ["_law_one", "_law_other"] (spD K 2 F_q_line_over) :=
  fn_D (N := ["_law_one", "_law_other", "_law_left", "_law_found", "_law_many", "_law_at", "_law_place", "_law_number"]) Fu sc_q_line_over B_q_line_over (fun n cdv A outer s H E hr => d_q_line_over T  hr) fun as _ _ => ⟨fuel as, rfl⟩
theorem has_q_line_over (T : Txt mg)  {f : Addr} {fd : FuncData} (Fu : Fun K "_law_line_over" "_law_line_over" s_q_line_over f fd) (g : mg "_law_line_over" = some (.ref f)) : Has P w K mg base "_law_line_over" 1 ["_law_one", "_law_other"] F_q_line_over :=
  ⟨f, fd, g, Fu.kp, Fu.binds (ps := ["_law_one", "_law_other"]) (fun _ _ _ _ _ _ us hl => match us, hl with | [_, _], _ => rfl), ok_q_line_over T  Fu⟩
theorem ok_q_products_right (T : Txt mg) (h_q_line_sum : Has P w K mg base "_law_line_sum" 1 ["_law_one", "_law_other"] F_q_line_sum) (h_q_lowest : Has P w K mg base "_law_lowest" 2 ["_law_top", "_law_bottom"] F_q_lowest) (h_q_some_line : Has P w K mg base "_law_some_line" 3 ["_law_bag_here", "_law_most"] F_q_some_line) (h_polynomial_product : Has P w K mg base "polynomial_product" 6 ["one", "other"] F_polynomial_product) (h_polynomial_sum : Has P w K mg base "polynomial_sum" 6 ["one", "other"] F_polynomial_sum) (h_polynomial_value : Has P w K mg base "polynomial_value" 6 ["polynomial", "ratio"] F_polynomial_value) (h_q_ratio_times : Has P w K mg base "_law_ratio_times" 3 ["_law_one", "_law_other"] F_q_ratio_times) (h_q_ratio_sum : Has P w K mg base "_law_ratio_sum" 3 ["_law_one", "_law_other", "_law_factor"] F_q_ratio_sum) (h_q_line_times : Has P w K mg base "_law_line_times" 1 ["_law_one", "_law_other"] F_q_line_times) (h_q_grab : Has P w K mg base "_law_grab" 1 ["_law_bag_here", "_law_total"] F_q_grab) (h_q_line_value : Has P w K mg base "_law_line_value" 4 ["_law_line", "_law_ratio"] F_q_line_value) (h_polynomial_quotient : Has P w K mg base "polynomial_quotient" 6 ["one", "other"] F_polynomial_quotient) (h_q_line_over : Has P w K mg base "_law_line_over" 1 ["_law_one", "_law_other"] F_q_line_over) {f : Addr} {fd : FuncData} (Fu : Fun K "_law_products_right" "_law_products_right" s_q_products_right f fd) : FnOk P w K mg base (L2.CX P w) 7 f fd ["_law_bag_here"] (spD K 1 F_q_products_right) :=
  fn_D (N := ["_law_bag_here", "_law_one", "_law_other", "_law_third", "_law_both", "_law_all_of", "_law_near", "_law_value", "_law_divisor", "_law_ratio", "_law_here", "_law_there"]) Fu sc_q_products_right B_q_products_right (fun n cdv A outer s H E hr => d_q_products_right T h_q_line_sum h_q_lowest h_q_some_line h_polynomial_product h_polynomial_sum h_polynomial_value h_q_ratio_times h_q_ratio_sum h_q_line_times h_q_grab h_q_line_value h_polynomial_quotient h_q_line_over hr) fun as _ _ => ⟨fuel as, rfl⟩
theorem has_q_products_right (T : Txt mg) (h_q_line_sum : Has P w K mg base "_law_line_sum" 1 ["_law_one", "_law_other"] F_q_line_sum) (h_q_lowest : Has P w K mg base "_law_lowest" 2 ["_law_top", "_law_bottom"] F_q_lowest) (h_q_some_line : Has P w K mg base "_law_some_line" 3 ["_law_bag_here", "_law_most"] F_q_some_line) (h_polynomial_product : Has P w K mg base "polynomial_product" 6 ["one", "other"] F_polynomial_product) (h_polynomial_sum : Has P w K mg base "polynomial_sum" 6 ["one", "other"] F_polynomial_sum) (h_polynomial_value : Has P w K mg base "polynomial_value" 6 ["polynomial", "ratio"] F_polynomial_value) (h_q_ratio_times : Has P w K mg base "_law_ratio_times" 3 ["_law_one", "_law_other"] F_q_ratio_times) (h_q_ratio_sum : Has P w K mg base "_law_ratio_sum" 3 ["_law_one", "_law_other", "_law_factor"] F_q_ratio_sum) (h_q_line_times : Has P w K mg base "_law_line_times" 1 ["_law_one", "_law_other"] F_q_line_times) (h_q_grab : Has P w K mg base "_law_grab" 1 ["_law_bag_here", "_law_total"] F_q_grab) (h_q_line_value : Has P w K mg base "_law_line_value" 4 ["_law_line", "_law_ratio"] F_q_line_value) (h_polynomial_quotient : Has P w K mg base "polynomial_quotient" 6 ["one", "other"] F_polynomial_quotient) (h_q_line_over : Has P w K mg base "_law_line_over" 1 ["_law_one", "_law_other"] F_q_line_over) {f : Addr} {fd : FuncData} (Fu : Fun K "_law_products_right" "_law_products_right" s_q_products_right f fd) (g : mg "_law_products_right" = some (.ref f)) : Has P w K mg base "_law_products_right" 7 ["_law_bag_here"] F_q_products_right :=
  ⟨f, fd, g, Fu.kp, Fu.binds (ps := ["_law_bag_here"]) (fun _ _ _ _ _ _ us hl => match us, hl with | [_], _ => rfl), ok_q_products_right T h_q_line_sum h_q_lowest h_q_some_line h_polynomial_product h_polynomial_sum h_polynomial_value h_q_ratio_times h_q_ratio_sum h_q_line_times h_q_grab h_q_line_value h_polynomial_quotient h_q_line_over Fu⟩
theorem ok_q_is_line (T : Txt mg)  {f : Addr} {fd : FuncData} (Fu : Fun K "_law_is_line" "_law_is_line" s_q_is_line f fd) : FnOk P w K mg base (L2.CX P w) 1 f fd ["_law_value"] (spD K 1 F_q_is_line) :=
  fn_D (N := ["_law_value", "_law_number"]) Fu sc_q_is_line B_q_is_line (fun n cdv A outer s H E hr => d_q_is_line T  hr) fun as _ _ => ⟨fuel as, rfl⟩
theorem has_q_is_line (T : Txt mg)  {f : Addr} {fd : FuncData} (Fu : Fun K "_law_is_line" "_law_is_line" s_q_is_line f fd) (g : mg "_law_is_line" = some (.ref f)) : Has P w K mg base "_law_is_line" 1 ["_law_value"] F_q_is_line :=
  ⟨f, fd, g, Fu.kp, Fu.binds (ps := ["_law_value"]) (fun _ _ _ _ _ _ us hl => match us, hl with | [_], _ => rfl), ok_q_is_line T  Fu⟩
theorem ok_q_judged_right (T : Txt mg) (h_q_some_line : Has P w K mg base "_law_some_line" 3 ["_law_bag_here", "_law_most"] F_q_some_line) (h_is_polynomial : Has P w K mg base "is_polynomial" 3 ["value"] F_is_polynomial) (h_q_is_line : Has P w K mg base "_law_is_line" 1 ["_law_value"] F_q_is_line) {f : Addr} {fd : FuncData} (Fu : Fun K "_law_judged_right" "_law_judged_right" s_q_judged_right f fd) : FnOk P w K mg base (L2.CX P w) 4 f fd ["_law_bag_here"] (spD K 1 F_q_judged_right) :=
  fn_D (N := ["_law_bag_here", "_law_line", "_law_some", "_law_value"]) Fu sc_q_judged_right B_q_judged_right (fun n cdv A outer s H E hr => d_q_judged_right T h_q_some_line h_is_polynomial h_q_is_line hr) fun as _ _ => ⟨fuel as, rfl⟩
theorem has_q_judged_right (T : Txt mg) (h_q_some_line : Has P w K mg base "_law_some_line" 3 ["_law_bag_here", "_law_most"] F_q_some_line) (h_is_polynomial : Has P w K mg base "is_polynomial" 3 ["value"] F_is_polynomial) (h_q_is_line : Has P w K mg base "_law_is_line" 1 ["_law_value"] F_q_is_line) {f : Addr} {fd : FuncData} (Fu : Fun K "_law_judged_right" "_law_judged_right" s_q_judged_right f fd) (g : mg "_law_judged_right" = some (.ref f)) : Has P w K mg base "_law_judged_right" 4 ["_law_bag_here"] F_q_judged_right :=
  ⟨f, fd, g, Fu.kp, Fu.binds (ps := ["_law_bag_here"]) (fun _ _ _ _ _ _ us hl => match us, hl with | [_], _ => rfl), ok_q_judged_right T h_q_some_line h_is_polynomial h_q_is_line Fu⟩
theorem ok_law (T : Txt mg) (h_q_bag : Has P w K mg base "_law_bag" 1 ["_law_script", "_law_spot"] F_q_bag) (h_polynomial_product : Has P w K mg base "polynomial_product" 6 ["one", "other"] F_polynomial_product) (h_polynomial_sum : Has P w K mg base "polynomial_sum" 6 ["one", "other"] F_polynomial_sum) (h_polynomial_quotient : Has P w K mg base "polynomial_quotient" 6 ["one", "other"] F_polynomial_quotient) (h_polynomial_value : Has P w K mg base "polynomial_value" 6 ["polynomial", "ratio"] F_polynomial_value) (h_q_products_right : Has P w K mg base "_law_products_right" 7 ["_law_bag_here"] F_q_products_right) (h_q_judged_right : Has P w K mg base "_law_judged_right" 4 ["_law_bag_here"] F_q_judged_right) {f : Addr} {fd : FuncData} (Fu : Fun K "law" "law" s_law f fd) : FnOk P w K mg base (L2.CX P w) 8 f fd ["_law_script"] (spD K 1 F_law) :=
  fn_D (N := ["_law_script", "_law_spot", "_law_bag_here", "_law_told"]) Fu sc_law B_law (fun n cdv A outer s H E hr => d_law T h_q_bag h_polynomial_product h_polynomial_sum h_polynomial_quotient h_polynomial_value h_q_products_right h_q_judged_right hr) fun as _ _ => ⟨fuel as, rfl⟩
end
theorem all_mk {l : PySem.W.OpenLaw} {w : World} {K : PySem.W.Frag} {h : Heap} {mg : Str → Option Value} {fa f0 f1 f2 f3 f4 f5 f6 f7 f8 f9 f10 f11 f12 f13 f14 f15 f16 f17 f18 f19 f20 f21 f22 f23 f24 f25 f26 f27 f28 f29 f30 f31 : Addr} (X : K.In h) (G : h.Ns mainGlobals mg) (hfa : mg "law" = some (.ref fa))
    {od0 an0 od1 an1 od2 an2 od3 an3 od4 an4 od5 an5 od6 an6 od7 an7 od8 an8 od9 an9 od10 an10 od11 an11 od12 an12 od13 an13 od14 an14 od15 an15 od16 an16 od17 an17 od18 an18 od19 an19 od20 an20 od21 an21 od22 an22 od23 an23 od24 an24 od25 an25 od26 an26 od27 an27 od28 an28 od29 an29 od30 an30 od31 an31 : Option Addr} {sl0 sl1 sl2 sl3 sl4 sl5 sl6 sl7 sl8 sl9 sl10 sl11 sl12 sl13 sl14 sl15 sl16 sl17 sl18 sl19 sl20 sl21 sl22 sl23 sl24 sl25 sl26 sl27 sl28 sl29 sl30 sl31 : Array (Option Value)} {oc0 kV0 dc0 pm0 cd0 ct0 oc1 kV1 dc1 pm1 cd1 ct1 oc2 kV2 dc2 pm2 cd2 ct2 oc3 kV3 dc3 pm3 cd3 ct3 oc4 kV4 dc4 pm4 cd4 ct4 oc5 kV5 dc5 pm5 cd5 ct5 oc6 kV6 dc6 pm6 cd6 ct6 oc7 kV7 dc7 pm7 cd7 ct7 oc8 kV8 dc8 pm8 cd8 ct8 oc9 kV9 dc9 pm9 cd9 ct9 oc10 kV10 dc10 pm10 cd10 ct10 oc11 kV11 dc11 pm11 cd11 ct11 oc12 kV12 dc12 pm12 cd12 ct12 oc13 kV13 dc13 pm13 cd13 ct13 oc14 kV14 dc14 pm14 cd14 ct14 oc15 kV15 dc15 pm15 cd15 ct15 oc16 kV16 dc16 pm16 cd16 ct16 oc17 kV17 dc17 pm17 cd17 ct17 oc18 kV18 dc18 pm18 cd18 ct18 oc19 kV19 dc19 pm19 cd19 ct19 oc20 kV20 dc20 pm20 cd20 ct20 oc21 kV21 dc21 pm21 cd21 ct21 oc22 kV22 dc22 pm22 cd22 ct22 oc23 kV23 dc23 pm23 cd23 ct23 oc24 kV24 dc24 pm24 cd24 ct24 oc25 kV25 dc25 pm25 cd25 ct25 oc26 kV26 dc26 pm26 cd26 ct26 oc27 kV27 dc27 pm27 cd27 ct27 oc28 kV28 dc28 pm28 cd28 ct28 oc29 kV29 dc29 pm29 cd29 ct29 oc30 kV30 dc30 pm30 cd30 ct30 oc31 kV31 dc31 pm31 cd31 ct31 : Value}
    {t_MAX_DEGREE t_MAX_INTEGER : Tok}
    (a0 : PySem.W.nsIn K mainGlobals "_law_bag" = some (some (.ref f0))) (l0 : K.lookup f0 = some ⟨oc0, od0, .func (PySem.W.fnOf "_law_bag" "_law_bag" (defArgs s_q_bag) (defBody s_q_bag) (defScope s_q_bag) .none kV0 dc0 pm0 an0 cd0 ct0), sl0⟩) (c0 : PySem.W.codeIn K cd0 "_law_bag" = true) (k0 : PySem.W.keepIn K (.ref f0) = true)
    (a1 : PySem.W.nsIn K mainGlobals "is_long_integer" = some (some (.ref f1))) (l1 : K.lookup f1 = some ⟨oc1, od1, .func (PySem.W.fnOf "is_long_integer" "is_long_integer" (defArgs s_is_long_integer) (defBody s_is_long_integer) (defScope s_is_long_integer) .none kV1 dc1 pm1 an1 cd1 ct1), sl1⟩) (c1 : PySem.W.codeIn K cd1 "is_long_integer" = true) (k1 : PySem.W.keepIn K (.ref f1) = true)
    (a2 : PySem.W.nsIn K mainGlobals "is_integer" = some (some (.ref f2))) (l2 : K.lookup f2 = some ⟨oc2, od2, .func (PySem.W.fnOf "is_integer" "is_integer" (defArgs s_is_integer) (defBody s_is_integer) (defScope s_is_integer) .none kV2 dc2 pm2 an2 cd2 ct2), sl2⟩) (c2 : PySem.W.codeIn K cd2 "is_integer" = true) (k2 : PySem.W.keepIn K (.ref f2) = true)
    (a3 : PySem.W.nsIn K mainGlobals "is_polynomial" = some (some (.ref f3))) (l3 : K.lookup f3 = some ⟨oc3, od3, .func (PySem.W.fnOf "is_polynomial" "is_polynomial" (defArgs s_is_polynomial) (defBody s_is_polynomial) (defScope s_is_polynomial) .none kV3 dc3 pm3 an3 cd3 ct3), sl3⟩) (c3 : PySem.W.codeIn K cd3 "is_polynomial" = true) (k3 : PySem.W.keepIn K (.ref f3) = true)
    (a4 : PySem.W.nsIn K mainGlobals "check_polynomial" = some (some (.ref f4))) (l4 : K.lookup f4 = some ⟨oc4, od4, .func (PySem.W.fnOf "check_polynomial" "check_polynomial" (defArgs s_check_polynomial) (defBody s_check_polynomial) (defScope s_check_polynomial) .none kV4 dc4 pm4 an4 cd4 ct4), sl4⟩) (c4 : PySem.W.codeIn K cd4 "check_polynomial" = true) (k4 : PySem.W.keepIn K (.ref f4) = true)
    (a5 : PySem.W.nsIn K mainGlobals "check_polynomials" = some (some (.ref f5))) (l5 : K.lookup f5 = some ⟨oc5, od5, .func (PySem.W.fnOf "check_polynomials" "check_polynomials" (defArgs s_check_polynomials) (defBody s_check_polynomials) (defScope s_check_polynomials) .none kV5 dc5 pm5 an5 cd5 ct5), sl5⟩) (c5 : PySem.W.codeIn K cd5 "check_polynomials" = true) (k5 : PySem.W.keepIn K (.ref f5) = true)
    (a6 : PySem.W.nsIn K mainGlobals "trimmed" = some (some (.ref f6))) (l6 : K.lookup f6 = some ⟨oc6, od6, .func (PySem.W.fnOf "trimmed" "trimmed" (defArgs s_trimmed) (defBody s_trimmed) (defScope s_trimmed) .none kV6 dc6 pm6 an6 cd6 ct6), sl6⟩) (c6 : PySem.W.codeIn K cd6 "trimmed" = true) (k6 : PySem.W.keepIn K (.ref f6) = true)
    (a7 : PySem.W.nsIn K mainGlobals "polynomial_product" = some (some (.ref f7))) (l7 : K.lookup f7 = some ⟨oc7, od7, .func (PySem.W.fnOf "polynomial_product" "polynomial_product" (defArgs s_polynomial_product) (defBody s_polynomial_product) (defScope s_polynomial_product) .none kV7 dc7 pm7 an7 cd7 ct7), sl7⟩) (c7 : PySem.W.codeIn K cd7 "polynomial_product" = true) (k7 : PySem.W.keepIn K (.ref f7) = true)
    (a8 : PySem.W.nsIn K mainGlobals "polynomial_sum" = some (some (.ref f8))) (l8 : K.lookup f8 = some ⟨oc8, od8, .func (PySem.W.fnOf "polynomial_sum" "polynomial_sum" (defArgs s_polynomial_sum) (defBody s_polynomial_sum) (defScope s_polynomial_sum) .none kV8 dc8 pm8 an8 cd8 ct8), sl8⟩) (c8 : PySem.W.codeIn K cd8 "polynomial_sum" = true) (k8 : PySem.W.keepIn K (.ref f8) = true)
    (a9 : PySem.W.nsIn K mainGlobals "divided" = some (some (.ref f9))) (l9 : K.lookup f9 = some ⟨oc9, od9, .func (PySem.W.fnOf "divided" "divided" (defArgs s_divided) (defBody s_divided) (defScope s_divided) .none kV9 dc9 pm9 an9 cd9 ct9), sl9⟩) (c9 : PySem.W.codeIn K cd9 "divided" = true) (k9 : PySem.W.keepIn K (.ref f9) = true)
    (a10 : PySem.W.nsIn K mainGlobals "polynomial_quotient" = some (some (.ref f10))) (l10 : K.lookup f10 = some ⟨oc10, od10, .func (PySem.W.fnOf "polynomial_quotient" "polynomial_quotient" (defArgs s_polynomial_quotient) (defBody s_polynomial_quotient) (defScope s_polynomial_quotient) .none kV10 dc10 pm10 an10 cd10 ct10), sl10⟩) (c10 : PySem.W.codeIn K cd10 "polynomial_quotient" = true) (k10 : PySem.W.keepIn K (.ref f10) = true)
    (a11 : PySem.W.nsIn K mainGlobals "is_long_pair" = some (some (.ref f11))) (l11 : K.lookup f11 = some ⟨oc11, od11, .func (PySem.W.fnOf "is_long_pair" "is_long_pair" (defArgs s_is_long_pair) (defBody s_is_long_pair) (defScope s_is_long_pair) .none kV11 dc11 pm11 an11 cd11 ct11), sl11⟩) (c11 : PySem.W.codeIn K cd11 "is_long_pair" = true) (k11 : PySem.W.keepIn K (.ref f11) = true)
    (a12 : PySem.W.nsIn K mainGlobals "is_long_ratio" = some (some (.ref f12))) (l12 : K.lookup f12 = some ⟨oc12, od12, .func (PySem.W.fnOf "is_long_ratio" "is_long_ratio" (defArgs s_is_long_ratio) (defBody s_is_long_ratio) (defScope s_is_long_ratio) .none kV12 dc12 pm12 an12 cd12 ct12), sl12⟩) (c12 : PySem.W.codeIn K cd12 "is_long_ratio" = true) (k12 : PySem.W.keepIn K (.ref f12) = true)
    (a13 : PySem.W.nsIn K mainGlobals "is_ratio" = some (some (.ref f13))) (l13 : K.lookup f13 = some ⟨oc13, od13, .func (PySem.W.fnOf "is_ratio" "is_ratio" (defArgs s_is_ratio) (defBody s_is_ratio) (defScope s_is_ratio) .none kV13 dc13 pm13 an13 cd13 ct13), sl13⟩) (c13 : PySem.W.codeIn K cd13 "is_ratio" = true) (k13 : PySem.W.keepIn K (.ref f13) = true)
    (a14 : PySem.W.nsIn K mainGlobals "check_ratio" = some (some (.ref f14))) (l14 : K.lookup f14 = some ⟨oc14, od14, .func (PySem.W.fnOf "check_ratio" "check_ratio" (defArgs s_check_ratio) (defBody s_check_ratio) (defScope s_check_ratio) .none kV14 dc14 pm14 an14 cd14 ct14), sl14⟩) (c14 : PySem.W.codeIn K cd14 "check_ratio" = true) (k14 : PySem.W.keepIn K (.ref f14) = true)
    (a15 : PySem.W.nsIn K mainGlobals "reduced" = some (some (.ref f15))) (l15 : K.lookup f15 = some ⟨oc15, od15, .func (PySem.W.fnOf "reduced" "reduced" (defArgs s_reduced) (defBody s_reduced) (defScope s_reduced) .none kV15 dc15 pm15 an15 cd15 ct15), sl15⟩) (c15 : PySem.W.codeIn K cd15 "reduced" = true) (k15 : PySem.W.keepIn K (.ref f15) = true)
    (a16 : PySem.W.nsIn K mainGlobals "polynomial_value" = some (some (.ref f16))) (l16 : K.lookup f16 = some ⟨oc16, od16, .func (PySem.W.fnOf "polynomial_value" "polynomial_value" (defArgs s_polynomial_value) (defBody s_polynomial_value) (defScope s_polynomial_value) .none kV16 dc16 pm16 an16 cd16 ct16), sl16⟩) (c16 : PySem.W.codeIn K cd16 "polynomial_value" = true) (k16 : PySem.W.keepIn K (.ref f16) = true)
    (a17 : PySem.W.nsIn K mainGlobals "_law_line_sum" = some (some (.ref f17))) (l17 : K.lookup f17 = some ⟨oc17, od17, .func (PySem.W.fnOf "_law_line_sum" "_law_line_sum" (defArgs s_q_line_sum) (defBody s_q_line_sum) (defScope s_q_line_sum) .none kV17 dc17 pm17 an17 cd17 ct17), sl17⟩) (c17 : PySem.W.codeIn K cd17 "_law_line_sum" = true) (k17 : PySem.W.keepIn K (.ref f17) = true)
    (a18 : PySem.W.nsIn K mainGlobals "_law_common" = some (some (.ref f18))) (l18 : K.lookup f18 = some ⟨oc18, od18, .func (PySem.W.fnOf "_law_common" "_law_common" (defArgs s_q_common) (defBody s_q_common) (defScope s_q_common) .none kV18 dc18 pm18 an18 cd18 ct18), sl18⟩) (c18 : PySem.W.codeIn K cd18 "_law_common" = true) (k18 : PySem.W.keepIn K (.ref f18) = true)
    (a19 : PySem.W.nsIn K mainGlobals "_law_lowest" = some (some (.ref f19))) (l19 : K.lookup f19 = some ⟨oc19, od19, .func (PySem.W.fnOf "_law_lowest" "_law_lowest" (defArgs s_q_lowest) (defBody s_q_lowest) (defScope s_q_lowest) .none kV19 dc19 pm19 an19 cd19 ct19), sl19⟩) (c19 : PySem.W.codeIn K cd19 "_law_lowest" = true) (k19 : PySem.W.keepIn K (.ref f19) = true)
    (a20 : PySem.W.nsIn K mainGlobals "_law_grab" = some (some (.ref f20))) (l20 : K.lookup f20 = some ⟨oc20, od20, .func (PySem.W.fnOf "_law_grab" "_law_grab" (defArgs s_q_grab) (defBody s_q_grab) (defScope s_q_grab) .none kV20 dc20 pm20 an20 cd20 ct20), sl20⟩) (c20 : PySem.W.codeIn K cd20 "_law_grab" = true) (k20 : PySem.W.keepIn K (.ref f20) = true)
    (a21 : PySem.W.nsIn K mainGlobals "_law_some_number" = some (some (.ref f21))) (l21 : K.lookup f21 = some ⟨oc21, od21, .func (PySem.W.fnOf "_law_some_number" "_law_some_number" (defArgs s_q_some_number) (defBody s_q_some_number) (defScope s_q_some_number) .none kV21 dc21 pm21 an21 cd21 ct21), sl21⟩) (c21 : PySem.W.codeIn K cd21 "_law_some_number" = true) (k21 : PySem.W.keepIn K (.ref f21) = true)
    (a22 : PySem.W.nsIn K mainGlobals "_law_some_line" = some (some (.ref f22))) (l22 : K.lookup f22 = some ⟨oc22, od22, .func (PySem.W.fnOf "_law_some_line" "_law_some_line" (defArgs s_q_some_line) (defBody s_q_some_line) (defScope s_q_some_line) .none kV22 dc22 pm22 an22 cd22 ct22), sl22⟩) (c22 : PySem.W.codeIn K cd22 "_law_some_line" = true) (k22 : PySem.W.keepIn K (.ref f22) = true)
    (a23 : PySem.W.nsIn K mainGlobals "_law_ratio_times" = some (some (.ref f23))) (l23 : K.lookup f23 = some ⟨oc23, od23, .func (PySem.W.fnOf "_law_ratio_times" "_law_ratio_times" (defArgs s_q_ratio_times) (defBody s_q_ratio_times) (defScope s_q_ratio_times) .none kV23 dc23 pm23 an23 cd23 ct23), sl23⟩) (c23 : PySem.W.codeIn K cd23 "_law_ratio_times" = true) (k23 : PySem.W.keepIn K (.ref f23) = true)
    (a24 : PySem.W.nsIn K mainGlobals "_law_ratio_sum" = some (some (.ref f24))) (l24 : K.lookup f24 = some ⟨oc24, od24, .func (PySem.W.fnOf "_law_ratio_sum" "_law_ratio_sum" (defArgs s_q_ratio_sum) (defBody s_q_ratio_sum) (defScope s_q_ratio_sum) .none kV24 dc24 pm24 an24 cd24 ct24), sl24⟩) (c24 : PySem.W.codeIn K cd24 "_law_ratio_sum" = true) (k24 : PySem.W.keepIn K (.ref f24) = true)
    (a25 : PySem.W.nsIn K mainGlobals "_law_line_times" = some (some (.ref f25))) (l25 : K.lookup f25 = some ⟨oc25, od25, .func (PySem.W.fnOf "_law_line_times" "_law_line_times" (defArgs s_q_line_times) (defBody s_q_line_times) (defScope s_q_line_times) .none kV25 dc25 pm25 an25 cd25 ct25), sl25⟩) (c25 : PySem.W.codeIn K cd25 "_law_line_times" = true) (k25 : PySem.W.keepIn K (.ref f25) = true)
    (a26 : PySem.W.nsIn K mainGlobals "_law_line_value" = some (some (.ref f26))) (l26 : K.lookup f26 = some ⟨oc26, od26, .func (PySem.W.fnOf "_law_line_value" "_law_line_value" (defArgs s_q_line_value) (defBody s_q_line_value) (defScope s_q_line_value) .none kV26 dc26 pm26 an26 cd26 ct26), sl26⟩) (c26 : PySem.W.codeIn K cd26 "_law_line_value" = true) (k26 : PySem.W.keepIn K (.ref f26) = true)
    (a27 : PySem.W.nsIn K mainGlobals "_law_line_over" = some (some (.ref f27))) (l27 : K.lookup f27 = some ⟨oc27, od27, .func (PySem.W.fnOf "_law_line_over" "_law_line_over" (defArgs s_q_line_over) (defBody s_q_line_over) (defScope s_q_line_over) .none kV27 dc27 pm27 an27 cd27 ct27), sl27⟩) (c27 : PySem.W.codeIn K cd27 "_law_line_over" = true) (k27 : PySem.W.keepIn K (.ref f27) = true)
    (a28 : PySem.W.nsIn K mainGlobals "_law_products_right" = some (some (.ref f28))) (l28 : K.lookup f28 = some ⟨oc28, od28, .func (PySem.W.fnOf "_law_products_right" "_law_products_right" (defArgs s_q_products_right) (defBody s_q_products_right) (defScope s_q_products_right) .none kV28 dc28 pm28 an28 cd28 ct28), sl28⟩) (c28 : PySem.W.codeIn K cd28 "_law_products_right" = true) (k28 : PySem.W.keepIn K (.ref f28) = true)
    (a29 : PySem.W.nsIn K mainGlobals "_law_is_line" = some (some (.ref f29))) (l29 : K.lookup f29 = some ⟨oc29, od29, .func (PySem.W.fnOf "_law_is_line" "_law_is_line" (defArgs s_q_is_line) (defBody s_q_is_line) (defScope s_q_is_line) .none kV29 dc29 pm29 an29 cd29 ct29), sl29⟩) (c29 : PySem.W.codeIn K cd29 "_law_is_line" = true) (k29 : PySem.W.keepIn K (.ref f29) = true)
    (a30 : PySem.W.nsIn K mainGlobals "_law_judged_right" = some (some (.ref f30))) (l30 : K.lookup f30 = some ⟨oc30, od30, .func (PySem.W.fnOf "_law_judged_right" "_law_judged_right" (defArgs s_q_judged_right) (defBody s_q_judged_right) (defScope s_q_judged_right) .none kV30 dc30 pm30 an30 cd30 ct30), sl30⟩) (c30 : PySem.W.codeIn K cd30 "_law_judged_right" = true) (k30 : PySem.W.keepIn K (.ref f30) = true)
    (a31 : PySem.W.nsIn K mainGlobals "law" = some (some (.ref f31))) (l31 : K.lookup f31 = some ⟨oc31, od31, .func (PySem.W.fnOf "law" "law" (defArgs s_law) (defBody s_law) (defScope s_law) .none kV31 dc31 pm31 an31 cd31 ct31), sl31⟩) (c31 : PySem.W.codeIn K cd31 "law" = true) (k31 : PySem.W.keepIn K (.ref f31) = true)
    (z_abs : PySem.W.nsIn K mainGlobals "abs" = some none)
    (z_all : PySem.W.nsIn K mainGlobals "all" = some none)
    (z_any : PySem.W.nsIn K mainGlobals "any" = some none)
    (z_bool : PySem.W.nsIn K mainGlobals "bool" = some none)
    (z_enumerate : PySem.W.nsIn K mainGlobals "enumerate" = some none)
    (z_int : PySem.W.nsIn K mainGlobals "int" = some none)
    (z_isinstance : PySem.W.nsIn K mainGlobals "isinstance" = some none)
    (z_len : PySem.W.nsIn K mainGlobals "len" = some none)
    (z_list : PySem.W.nsIn K mainGlobals "list" = some none)
    (z_max : PySem.W.nsIn K mainGlobals "max" = some none)
    (z_min : PySem.W.nsIn K mainGlobals "min" = some none)
    (z_range : PySem.W.nsIn K mainGlobals "range" = some none)
    (z_repr : PySem.W.nsIn K mainGlobals "repr" = some none)
    (z_reversed : PySem.W.nsIn K mainGlobals "reversed" = some none)
    (z_sum : PySem.W.nsIn K mainGlobals "sum" = some none)
    (z_tuple : PySem.W.nsIn K mainGlobals "tuple" = some none)
    (q_MAX_DEGREE : PySem.W.nsIn K mainGlobals "MAX_DEGREE" = some (some (.int 40 t_MAX_DEGREE)))
    (q_MAX_INTEGER : PySem.W.nsIn K mainGlobals "MAX_INTEGER" = some (some (.int 999999999999999999999999999999999999999999999999999999999999 t_MAX_INTEGER)))
    (m_gcd : PySem.W.nsIn K mainGlobals "gcd" = some (some (.builtin "math.gcd")))
    : ∃ fd : FuncData, (∀ (s : Shared) (v : Value), BindsTo s fd ⟨[v], []⟩ [("_law_script", v)]) ∧ ∀ base : Heap, K.In base → base.Ns mainGlobals mg → FnOk l.prog w K mg base (L2.CX l.prog w) 8 fa fd ["_law_script"] (spD K 1 F_law) := by
  have e := hfa.symm.trans (PySem.W.mg_of X G a31)
  cases e
  have T : Txt mg := { b_abs := PySem.W.mg_none_of X G z_abs, b_all := PySem.W.mg_none_of X G z_all, b_any := PySem.W.mg_none_of X G z_any, b_bool := PySem.W.mg_none_of X G z_bool, b_enumerate := PySem.W.mg_none_of X G z_enumerate, b_int := PySem.W.mg_none_of X G z_int, b_isinstance := PySem.W.mg_none_of X G z_isinstance, b_len := PySem.W.mg_none_of X G z_len, b_list := PySem.W.mg_none_of X G z_list, b_max := PySem.W.mg_none_of X G z_max, b_min := PySem.W.mg_none_of X G z_min, b_range := PySem.W.mg_none_of X G z_range, b_repr := PySem.W.mg_none_of X G z_repr, b_reversed := PySem.W.mg_none_of X G z_reversed, b_sum := PySem.W.mg_none_of X G z_sum, b_tuple := PySem.W.mg_none_of X G z_tuple, c_MAX_DEGREE := ⟨t_MAX_DEGREE, PySem.W.mg_of X G q_MAX_DEGREE⟩, c_MAX_INTEGER := ⟨t_MAX_INTEGER, PySem.W.mg_of X G q_MAX_INTEGER⟩, m_gcd := PySem.W.mg_of X G m_gcd }
  refine ⟨PySem.W.fnOf "law" "law" (defArgs s_law) (defBody s_law) (defScope s_law) .none kV31 dc31 pm31 an31 cd31 ct31, fun s v => .of_eq rfl, fun base _ _ => ?_⟩
  have h_q_bag : Has l.prog w K mg base "_law_bag" 1 ["_law_script", "_law_spot"] F_q_bag := has_q_bag T  (fun_mk (st := s_q_bag) l0 c0 k0) (PySem.W.mg_of X G a0)
  have h_is_long_integer : Has l.prog w K mg base "is_long_integer" 1 ["value"] F_is_long_integer := has_is_long_integer T  (fun_mk (st := s_is_long_integer) l1 c1 k1) (PySem.W.mg_of X G a1)
  have h_is_integer : Has l.prog w K mg base "is_integer" 2 ["value"] F_is_integer := has_is_integer T h_is_long_integer (fun_mk (st := s_is_integer) l2 c2 k2) (PySem.W.mg_of X G a2)
  have h_is_polynomial : Has l.prog w K mg base "is_polynomial" 3 ["value"] F_is_polynomial := has_is_polynomial T h_is_integer (fun_mk (st := s_is_polynomial) l3 c3 k3) (PySem.W.mg_of X G a3)
  have h_check_polynomial : Has l.prog w K mg base "check_polynomial" 4 ["polynomial"] F_check_polynomial := has_check_polynomial T h_is_polynomial (fun_mk (st := s_check_polynomial) l4 c4 k4) (PySem.W.mg_of X G a4)
  have h_check_polynomials : Has l.prog w K mg base "check_polynomials" 5 ["one", "other"] F_check_polynomials := has_check_polynomials T h_check_polynomial (fun_mk (st := s_check_polynomials) l5 c5 k5) (PySem.W.mg_of X G a5)
  have h_trimmed : Has l.prog w K mg base "trimmed" 1 ["items"] F_trimmed := has_trimmed T  (fun_mk (st := s_trimmed) l6 c6 k6) (PySem.W.mg_of X G a6)
  have h_polynomial_product : Has l.prog w K mg base "polynomial_product" 6 ["one", "other"] F_polynomial_product := has_polynomial_product T h_check_polynomials h_trimmed (fun_mk (st := s_polynomial_product) l7 c7 k7) (PySem.W.mg_of X G a7)
  have h_polynomial_sum : Has l.prog w K mg base "polynomial_sum" 6 ["one", "other"] F_polynomial_sum := has_polynomial_sum T h_check_polynomials h_trimmed (fun_mk (st := s_polynomial_sum) l8 c8 k8) (PySem.W.mg_of X G a8)
  have h_divided : Has l.prog w K mg base "divided" 1 ["one", "other"] F_divided := has_divided T  (fun_mk (st := s_divided) l9 c9 k9) (PySem.W.mg_of X G a9)
  have h_polynomial_quotient : Has l.prog w K mg base "polynomial_quotient" 6 ["one", "other"] F_polynomial_quotient := has_polynomial_quotient T h_check_polynomials h_divided (fun_mk (st := s_polynomial_quotient) l10 c10 k10) (PySem.W.mg_of X G a10)
  have h_is_long_pair : Has l.prog w K mg base "is_long_pair" 2 ["value"] F_is_long_pair := has_is_long_pair T h_is_long_integer (fun_mk (st := s_is_long_pair) l11 c11 k11) (PySem.W.mg_of X G a11)
  have h_is_long_ratio : Has l.prog w K mg base "is_long_ratio" 3 ["value"] F_is_long_ratio := has_is_long_ratio T h_is_long_pair (fun_mk (st := s_is_long_ratio) l12 c12 k12) (PySem.W.mg_of X G a12)
  have h_is_ratio : Has l.prog w K mg base "is_ratio" 4 ["value"] F_is_ratio := has_is_ratio T h_is_long_ratio h_is_integer (fun_mk (st := s_is_ratio) l13 c13 k13) (PySem.W.mg_of X G a13)
  have h_check_ratio : Has l.prog w K mg base "check_ratio" 5 ["ratio"] F_check_ratio := has_check_ratio T h_is_ratio (fun_mk (st := s_check_ratio) l14 c14 k14) (PySem.W.mg_of X G a14)
  have h_reduced : Has l.prog w K mg base "reduced" 1 ["top", "bottom"] F_reduced := has_reduced T  (fun_mk (st := s_reduced) l15 c15 k15) (PySem.W.mg_of X G a15)
  have h_polynomial_value : Has l.prog w K mg base "polynomial_value" 6 ["polynomial", "ratio"] F_polynomial_value := has_polynomial_value T h_check_polynomial h_check_ratio h_reduced (fun_mk (st := s_polynomial_value) l16 c16 k16) (PySem.W.mg_of X G a16)
  have h_q_line_sum : Has l.prog w K mg base "_law_line_sum" 1 ["_law_one", "_law_other"] F_q_line_sum := has_q_line_sum T  (fun_mk (st := s_q_line_sum) l17 c17 k17) (PySem.W.mg_of X G a17)
  have h_q_common : Has l.prog w K mg base "_law_common" 1 ["_law_numbers"] F_q_common := has_q_common T  (fun_mk (st := s_q_common) l18 c18 k18) (PySem.W.mg_of X G a18)
  have h_q_lowest : Has l.prog w K mg base "_law_lowest" 2 ["_law_top", "_law_bottom"] F_q_lowest := has_q_lowest T h_q_common (fun_mk (st := s_q_lowest) l19 c19 k19) (PySem.W.mg_of X G a19)
  have h_q_grab : Has l.prog w K mg base "_law_grab" 1 ["_law_bag_here", "_law_total"] F_q_grab := has_q_grab T  (fun_mk (st := s_q_grab) l20 c20 k20) (PySem.W.mg_of X G a20)
  have h_q_some_number : Has l.prog w K mg base "_law_some_number" 2 ["_law_bag_here"] F_q_some_number := has_q_some_number T h_q_grab (fun_mk (st := s_q_some_number) l21 c21 k21) (PySem.W.mg_of X G a21)
  have h_q_some_line : Has l.prog w K mg base "_law_some_line" 3 ["_law_bag_here", "_law_most"] F_q_some_line := has_q_some_line T h_q_some_number h_q_grab (fun_mk (st := s_q_some_line) l22 c22 k22) (PySem.W.mg_of X G a22)
  have h_q_ratio_times : Has l.prog w K mg base "_law_ratio_times" 3 ["_law_one", "_law_other"] F_q_ratio_times := has_q_ratio_times T h_q_lowest (fun_mk (st := s_q_ratio_times) l23 c23 k23) (PySem.W.mg_of X G a23)
  have h_q_ratio_sum : Has l.prog w K mg base "_law_ratio_sum" 3 ["_law_one", "_law_other", "_law_factor"] F_q_ratio_sum := has_q_ratio_sum T h_q_lowest (fun_mk (st := s_q_ratio_sum) l24 c24 k24) (PySem.W.mg_of X G a24)
  have h_q_line_times : Has l.prog w K mg base "_law_line_times" 1 ["_law_one", "_law_other"] F_q_line_times := has_q_line_times T  (fun_mk (st := s_q_line_times) l25 c25 k25) (PySem.W.mg_of X G a25)
  have h_q_line_value : Has l.prog w K mg base "_law_line_value" 4 ["_law_line", "_law_ratio"] F_q_line_value := has_q_line_value T h_q_ratio_sum h_q_ratio_times (fun_mk (st := s_q_line_value) l26 c26 k26) (PySem.W.mg_of X G a26)
  have h_q_line_over : Has l.prog w K mg base "_law_line_over" 1 ["_law_one", "_law_other"] F_q_line_over := has_q_line_over T  (fun_mk (st := s_q_line_over) l27 c27 k27) (PySem.W.mg_of X G a27)
  have h_q_products_right : Has l.prog w K mg base "_law_products_right" 7 ["_law_bag_here"] F_q_products_right := has_q_products_right T h_q_line_sum h_q_lowest h_q_some_line h_polynomial_product h_polynomial_sum h_polynomial_value h_q_ratio_times h_q_ratio_sum h_q_line_times h_q_grab h_q_line_value h_polynomial_quotient h_q_line_over (fun_mk (st := s_q_products_right) l28 c28 k28) (PySem.W.mg_of X G a28)
  have h_q_is_line : Has l.prog w K mg base "_law_is_line" 1 ["_law_value"] F_q_is_line := has_q_is_line T  (fun_mk (st := s_q_is_line) l29 c29 k29) (PySem.W.mg_of X G a29)
  have h_q_judged_right : Has l.prog w K mg base "_law_judged_right" 4 ["_law_bag_here"] F_q_judged_right := has_q_judged_right T h_q_some_line h_is_polynomial h_q_is_line (fun_mk (st := s_q_judged_right) l30 c30 k30) (PySem.W.mg_of X G a30)
  exact ok_law T h_q_bag h_polynomial_product h_polynomial_sum h_polynomial_quotient h_polynomial_value h_q_products_right h_q_judged_right (fun_mk (st := s_law) l31 c31 k31)
end K04

namespace K04
open PySem DF
theorem log2_lt {n k : Nat} (hk : 0 < k) (h : n < 2 ^ k) : n.log2 < k := by
  by_cases h0 : n = 0
  · subst h0; simpa using hk
  · exact (Nat.log2_lt h0).mpr h
/-- not too great -/
def Sm (i : Int) : Prop := i.natAbs < 2 ^ 4000
set_option exponentiation.threshold 5000 in
theorem sm_of {i : Int} (h : i.natAbs ≤ 10 ^ 700) : Sm i := Nat.lt_of_le_of_lt h (by decide)
theorem cm {i j : Int} (hi : Sm i) (hj : Sm j) : cMul i j = true := by
  unfold cMul
  have := log2_lt (by decide) hi
  have := log2_lt (by decide) hj
  exact decide_eq_true (by omega)
theorem cd {i j : Int} (h0 : j ≠ 0) (hj : Sm j) : cDiv i j = true := by
  unfold cDiv
  have := log2_lt (by decide) hj
  rw [Bool.and_eq_true]
  exact ⟨decide_eq_true h0, decide_eq_true (by omega)⟩
theorem abs_eq (i : Int) : (if i < 0 then -i else i) = (i.natAbs : Int) := by
  split <;> omega
theorem fm {a b : Int} (hb : 0 < b) : a.fmod b = a % b := Int.fmod_eq_emod_of_nonneg _ (Int.le_of_lt hb)
theorem fd {a b : Int} (hb : 0 ≤ b) : a.fdiv b = a / b := Int.fdiv_eq_ediv_of_nonneg _ hb
/-! ### the bag -/
structure Bag (n : Nat) (d : D) : Prop where
  ex : ∃ x y z : Int, d = .lst [.int x, .int y, .int z] ∧ 0 ≤ y ∧ y < 2 ^ 61 ∧ 0 ≤ z ∧ z ≤ n
theorem Bag.mono {n m : Nat} {d : D} (h : Bag n d) (hm : n ≤ m) : Bag m d := by
  obtain ⟨x, y, z, e, h1, h2, h3, h4⟩ := h.ex
  exact ⟨x, y, z, e, h1, h2, h3, by omega⟩
theorem e_grab {n : Nat} {d : D} {t : Int} (h : Bag n d) (hn : n ≤ 1000000) (ht : 0 < t) (hs : Sm t) : ∃ (r : Int) (d' : D), 0 ≤ r ∧ r < t ∧ Bag (n + 1) d' ∧ F_q_grab [(true, d), (false, .int t)] = .ret false (.int r) [d'] := by
  obtain ⟨x, y, z, rfl, hy0, hy1, hz0, hz1⟩ := h.ex
  have hmod := modD_ap (i := x) (j := t) (by omega)
  have hdiv := divD_ap (cd (i := x) (show t ≠ 0 by omega) hs)
  by_cases hx : 0 < x
  · refine ⟨x.fmod t, .lst [.int (x.fdiv t), .int y, .int z], by rw [fm ht]; exact Int.emod_nonneg _ (by omega), by rw [fm ht]; exact Int.emod_lt_of_pos _ ht, ⟨_, y, z, rfl, hy0, hy1, hz0, by omega⟩, ?_⟩
    unfold F_q_grab B_q_grab
    simp [dC_ap, dVar_ap, oVar_ap, oD_ap, aNil_ap, aCons_ap, vNil_ap, vCons_ap, dBin_ap, dTst_ap, dUn_ap, dCal_ap, dSeq_ap, dNever_ap, dIf_ap, dRet_ap, dRetF_ap, dRetN_ap, dRetV_ap, dExpr_ap, dSet_ap, dSetF_ap, gsNil_ap, gsCons_ap, gTp_ap, dAsg_ap, sLst_ap, sTup_ap, sRng1_ap, sRng2_ap, dForS_ap, dTru_ap, dAnd_ap, dOr_ap, dNot_ap, dAndV_ap, dOrV_ap, dNotV_ap, dIte_ap, dChain_ap, dTup_ap, dLst_ap, dApp_ap, dSetI_ap, rNil_ap, rVal_ap, rIo_ap, dCal2_ap, dV_ap, dN_ap, tYesB_ap, dLc_ap, dIsi_ap, dPar_ap, dDic0_ap, dPar3_ap, DF.R.bind_ok, DF.R.bindS_ok, DF.R.bindN_ok, DF.SR.bind_nx, DF.SR.bind_ret, ofO, ths, setV, setF, free, set2, set3, fnRes, startE, startC, outs, argsD, putD, ioIx, isMu, look, muL, ltD_ap, leD_ap, gtD_ap, geD_ap, addD_ap, subD_ap, negD_ap, absD_ap, intD_ap, intD_apB, eq_int, ne_int, ixD, L2.atI, L2.ixN, lenD, gcdD, max2D, min2D, hx, hmod, hdiv]
  · have e1 := mulD_ap (i := 1048637) (j := z + 1) (cm (sm_of (by decide)) (sm_of (by omega)))
    have e2 := modD_ap (i := y + 1048637 * (z + 1)) (j := 2305843009213693951) (by decide)
    have b2 : 0 ≤ (y + 1048637 * (z + 1)).fmod 2305843009213693951 ∧ (y + 1048637 * (z + 1)).fmod 2305843009213693951 < 2305843009213693951 := by
      rw [fm (by decide)]; exact ⟨Int.emod_nonneg _ (by decide), Int.emod_lt_of_pos _ (by decide)⟩
    generalize eo : (y + 1048637 * (z + 1)).fmod 2305843009213693951 = o at e2 b2
    have so : Sm o := sm_of (by omega)
    have e3 := mulD_ap (i := o) (j := o) (cm so so)
    have e4 := modD_ap (i := o * o) (j := 2305843009213693723) (by decide)
    have b4 : 0 ≤ (o * o).fmod 2305843009213693723 ∧ (o * o).fmod 2305843009213693723 < 2305843009213693723 := by
      rw [fm (by decide)]; exact ⟨Int.emod_nonneg _ (by decide), Int.emod_lt_of_pos _ (by decide)⟩
    generalize eq : (o * o).fmod 2305843009213693723 = q at e4 b4
    have sq : Sm q := sm_of (by omega)
    have e5 := mulD_ap (i := q) (j := o) (cm sq so)
    have e6 := mulD_ap (i := 8161) (j := z + 1) (cm (sm_of (by decide)) (sm_of (by omega)))
    generalize ew : q * o + 8161 * (z + 1) = w
    have e7 := modD_ap (i := w) (j := 2305843009213693921) (by decide)
    have b7 : 0 ≤ w.fmod 2305843009213693921 := by rw [fm (by decide)]; exact Int.emod_nonneg _ (by decide)
    generalize eu : w.fmod 2305843009213693921 = u at e7 b7
    have e8 := divD_ap (i := u) (j := 16384) (cd (by decide) (sm_of (by decide)))
    have e9 := modD_ap (i := u.fdiv 16384) (j := t) (by omega)
    refine ⟨(u.fdiv 16384).fmod t, .lst [.int x, .int y, .int (z + 1)], by rw [fm ht]; exact Int.emod_nonneg _ (by omega), by rw [fm ht]; exact Int.emod_lt_of_pos _ ht, ⟨_, y, z + 1, rfl, hy0, hy1, by omega, by omega⟩, ?_⟩
    unfold F_q_grab B_q_grab
    simp [dC_ap, dVar_ap, oVar_ap, oD_ap, aNil_ap, aCons_ap, vNil_ap, vCons_ap, dBin_ap, dTst_ap, dUn_ap, dCal_ap, dSeq_ap, dNever_ap, dIf_ap, dRet_ap, dRetF_ap, dRetN_ap, dRetV_ap, dExpr_ap, dSet_ap, dSetF_ap, gsNil_ap, gsCons_ap, gTp_ap, dAsg_ap, sLst_ap, sTup_ap, sRng1_ap, sRng2_ap, dForS_ap, dTru_ap, dAnd_ap, dOr_ap, dNot_ap, dAndV_ap, dOrV_ap, dNotV_ap, dIte_ap, dChain_ap, dTup_ap, dLst_ap, dApp_ap, dSetI_ap, rNil_ap, rVal_ap, rIo_ap, dCal2_ap, dV_ap, dN_ap, tYesB_ap, dLc_ap, dIsi_ap, dPar_ap, dDic0_ap, dPar3_ap, DF.R.bind_ok, DF.R.bindS_ok, DF.R.bindN_ok, DF.SR.bind_nx, DF.SR.bind_ret, ofO, ths, setV, setF, free, set2, set3, fnRes, startE, startC, outs, argsD, putD, ioIx, isMu, look, muL, ltD_ap, leD_ap, gtD_ap, geD_ap, addD_ap, subD_ap, negD_ap, absD_ap, intD_ap, intD_apB, eq_int, ne_int, ixD, L2.atI, L2.ixN, lenD, gcdD, max2D, min2D, hx, e1, e2, e3, e4, e5, e6, e7, e8, e9, ew]
theorem p45l : powD (.int 10) (.int 45) = some (.int 1000000000000000000000000000000000000000000000) := powD_ap (by decide +kernel)
theorem p585 : powD (.int 1000000000000000000000000000000000000000000000) (.int 13) = some (.int 1000000000000000000000000000000000000000000000000000000000000000000000000000000000000000000000000000000000000000000000000000000000000000000000000000000000000000000000000000000000000000000000000000000000000000000000000000000000000000000000000000000000000000000000000000000000000000000000000000000000000000000000000000000000000000000000000000000000000000000000000000000000000000000000000000000000000000000000000000000000000000000000000000000000000000000000000000000000000000000000000000000000000000000000000000000000000000000000000000000000000000000000000000000000000000000000000000000000) := powD_ap (by decide +kernel)
theorem p18l : powD (.int 10) (.int 18) = some (.int 1000000000000000000) := powD_ap (by decide +kernel)
theorem bg0 (ns : List Int) (k : Nat) (h : k < ns.length ∨ (ns = [] ∧ k = 0)) : ∃ c : Int, (dSet 2 (dIte (dTst (dBin ltD (oVar 1) (oD (dCal lenD (aCons (oVar 0) (aNil)))))) (dBin ixD (oVar 0) (oVar 1)) (dBin addD (oD (dBin addD (oD (dCal sumD (aCons (oD (dCut none (some 1) (oVar 0))) (aNil)))) (oD (dBin mulD (oD (dC (.int 151))) (oVar 1))))) (oD (dC (.int 89)))))) [some (.val (.fro (ns.map D.int))), some (.val (.int (k : Int))), none, none, none] = .nx [some (.val (.fro (ns.map D.int))), some (.val (.int (k : Int))), some (.val (.int c)), none, none] := by
  rcases h with h | ⟨rfl, rfl⟩
  · refine ⟨ns[k], ?_⟩
    have h' : (k : Int) < (ns.length : Int) := by omega
    simp [dC_ap, dVar_ap, oVar_ap, oD_ap, aNil_ap, aCons_ap, vNil_ap, vCons_ap, dBin_ap, dTst_ap, dUn_ap, dCal_ap, dSeq_ap, dNever_ap, dIf_ap, dRet_ap, dRetF_ap, dRetN_ap, dRetV_ap, dExpr_ap, dSet_ap, dSetF_ap, gsNil_ap, gsCons_ap, gTp_ap, dAsg_ap, sLst_ap, sTup_ap, sRng1_ap, sRng2_ap, dForS_ap, dTru_ap, dAnd_ap, dOr_ap, dNot_ap, dAndV_ap, dOrV_ap, dNotV_ap, dIte_ap, dChain_ap, dTup_ap, dLst_ap, dApp_ap, dSetI_ap, rNil_ap, rVal_ap, rIo_ap, dCal2_ap, dV_ap, dN_ap, tYesB_ap, dLc_ap, dIsi_ap, dPar_ap, dDic0_ap, dPar3_ap, DF.R.bind_ok, DF.R.bindS_ok, DF.R.bindN_ok, DF.SR.bind_nx, DF.SR.bind_ret, ofO, ths, setV, setF, free, set2, set3, fnRes, startE, startC, outs, argsD, putD, ioIx, isMu, look, muL, ltD_ap, leD_ap, gtD_ap, geD_ap, addD_ap, subD_ap, negD_ap, absD_ap, intD_ap, intD_apB, eq_int, ne_int, ixD, L2.atI, L2.ixN, lenD, gcdD, max2D, min2D, h', h]
  · exact ⟨89, rfl⟩
theorem bg1 (c0 c1 : Option Cell) (c : Int) : ∃ g : Int, (dSet 3 (dBin modD (oD (dCal intD (aCons (oD (dCal absD (aCons (oVar 2) (aNil)))) (aNil)))) (oD (dBin powD (oD (dBin powD (oD (dC (.int 10))) (oD (dC (.int 45))))) (oD (dC (.int 13))))))) [c0, c1, some (.val (.int c)), none, none] = .nx [c0, c1, some (.val (.int c)), some (.val (.int g)), none] := by
  have h := modD_ap (i := (c.natAbs : Int)) (j := 1000000000000000000000000000000000000000000000000000000000000000000000000000000000000000000000000000000000000000000000000000000000000000000000000000000000000000000000000000000000000000000000000000000000000000000000000000000000000000000000000000000000000000000000000000000000000000000000000000000000000000000000000000000000000000000000000000000000000000000000000000000000000000000000000000000000000000000000000000000000000000000000000000000000000000000000000000000000000000000000000000000000000000000000000000000000000000000000000000000000000000000000000000000000000000000000000000000000) (by decide)
  refine ⟨(c.natAbs : Int).fmod 1000000000000000000000000000000000000000000000000000000000000000000000000000000000000000000000000000000000000000000000000000000000000000000000000000000000000000000000000000000000000000000000000000000000000000000000000000000000000000000000000000000000000000000000000000000000000000000000000000000000000000000000000000000000000000000000000000000000000000000000000000000000000000000000000000000000000000000000000000000000000000000000000000000000000000000000000000000000000000000000000000000000000000000000000000000000000000000000000000000000000000000000000000000000000000000000000000000000, ?_⟩
  generalize (c.natAbs : Int).fmod 1000000000000000000000000000000000000000000000000000000000000000000000000000000000000000000000000000000000000000000000000000000000000000000000000000000000000000000000000000000000000000000000000000000000000000000000000000000000000000000000000000000000000000000000000000000000000000000000000000000000000000000000000000000000000000000000000000000000000000000000000000000000000000000000000000000000000000000000000000000000000000000000000000000000000000000000000000000000000000000000000000000000000000000000000000000000000000000000000000000000000000000000000000000000000000000000000000000000 = g at *
  simp [dC_ap, dVar_ap, oVar_ap, oD_ap, aNil_ap, aCons_ap, vNil_ap, vCons_ap, dBin_ap, dTst_ap, dUn_ap, dCal_ap, dSeq_ap, dNever_ap, dIf_ap, dRet_ap, dRetF_ap, dRetN_ap, dRetV_ap, dExpr_ap, dSet_ap, dSetF_ap, gsNil_ap, gsCons_ap, gTp_ap, dAsg_ap, sLst_ap, sTup_ap, sRng1_ap, sRng2_ap, dForS_ap, dTru_ap, dAnd_ap, dOr_ap, dNot_ap, dAndV_ap, dOrV_ap, dNotV_ap, dIte_ap, dChain_ap, dTup_ap, dLst_ap, dApp_ap, dSetI_ap, rNil_ap, rVal_ap, rIo_ap, dCal2_ap, dV_ap, dN_ap, tYesB_ap, dLc_ap, dIsi_ap, dPar_ap, dDic0_ap, dPar3_ap, DF.R.bind_ok, DF.R.bindS_ok, DF.R.bindN_ok, DF.SR.bind_nx, DF.SR.bind_ret, ofO, ths, setV, setF, free, set2, set3, fnRes, startE, startC, outs, argsD, putD, ioIx, isMu, look, muL, ltD_ap, leD_ap, gtD_ap, geD_ap, addD_ap, subD_ap, negD_ap, absD_ap, intD_ap, intD_apB, eq_int, ne_int, ixD, L2.atI, L2.ixN, lenD, gcdD, max2D, min2D, p45l, p585, h]
theorem bg2 (c0 : Option Cell) (k : Nat) (hk : k ≤ 2) (c g : Int) : ∃ m : Int, (dSet 4 (dBin addD (oD (dBin addD (oD (dBin addD (oD (dBin mulD (oD (dBin modD (oD (dCal intD (aCons (oVar 3) (aNil)))) (oD (dC (.int 2305843009213693723))))) (oD (dC (.int 1000457))))) (oD (dBin mulD (oD (dC (.int 9029))) (oVar 1))))) (oD (dBin mulD (oD (dC (.int 53))) (oD (dCal intD (aCons (oD (dBin ltD (oVar 2) (oD (dC (.int 0))))) (aNil)))))))) (oD (dC (.int 37))))) [c0, some (.val (.int (k : Int))), some (.val (.int c)), some (.val (.int g)), none] = .nx [c0, some (.val (.int (k : Int))), some (.val (.int c)), some (.val (.int g)), some (.val (.int m))] := by
  have h1 := modD_ap (i := g) (j := 2305843009213693723) (by decide)
  have b1 : 0 ≤ g.fmod 2305843009213693723 ∧ g.fmod 2305843009213693723 < 2305843009213693723 := by
    rw [fm (by decide)]; exact ⟨Int.emod_nonneg _ (by decide), Int.emod_lt_of_pos _ (by decide)⟩
  generalize g.fmod 2305843009213693723 = q at *
  have m1 := mulD_ap (i := q) (j := 1000457) (cm (sm_of (by omega)) (sm_of (by decide)))
  have m2 := mulD_ap (i := 9029) (j := (k : Int)) (cm (sm_of (by decide)) (sm_of (by omega)))
  have m3 := mulD_ap (i := 53) (j := 1) (cm (sm_of (by decide)) (sm_of (by decide)))
  have m4 := mulD_ap (i := 53) (j := 0) (cm (sm_of (by decide)) (sm_of (by decide)))
  by_cases hc : c < 0
  · refine ⟨q * 1000457 + 9029 * k + 53 * 1 + 37, ?_⟩
    simp [dC_ap, dVar_ap, oVar_ap, oD_ap, aNil_ap, aCons_ap, vNil_ap, vCons_ap, dBin_ap, dTst_ap, dUn_ap, dCal_ap, dSeq_ap, dNever_ap, dIf_ap, dRet_ap, dRetF_ap, dRetN_ap, dRetV_ap, dExpr_ap, dSet_ap, dSetF_ap, gsNil_ap, gsCons_ap, gTp_ap, dAsg_ap, sLst_ap, sTup_ap, sRng1_ap, sRng2_ap, dForS_ap, dTru_ap, dAnd_ap, dOr_ap, dNot_ap, dAndV_ap, dOrV_ap, dNotV_ap, dIte_ap, dChain_ap, dTup_ap, dLst_ap, dApp_ap, dSetI_ap, rNil_ap, rVal_ap, rIo_ap, dCal2_ap, dV_ap, dN_ap, tYesB_ap, dLc_ap, dIsi_ap, dPar_ap, dDic0_ap, dPar3_ap, DF.R.bind_ok, DF.R.bindS_ok, DF.R.bindN_ok, DF.SR.bind_nx, DF.SR.bind_ret, ofO, ths, setV, setF, free, set2, set3, fnRes, startE, startC, outs, argsD, putD, ioIx, isMu, look, muL, ltD_ap, leD_ap, gtD_ap, geD_ap, addD_ap, subD_ap, negD_ap, absD_ap, intD_ap, intD_apB, eq_int, ne_int, ixD, L2.atI, L2.ixN, lenD, gcdD, max2D, min2D, h1, m1, m2, m3, hc]
  · refine ⟨q * 1000457 + 9029 * k + 53 * 0 + 37, ?_⟩
    simp [dC_ap, dVar_ap, oVar_ap, oD_ap, aNil_ap, aCons_ap, vNil_ap, vCons_ap, dBin_ap, dTst_ap, dUn_ap, dCal_ap, dSeq_ap, dNever_ap, dIf_ap, dRet_ap, dRetF_ap, dRetN_ap, dRetV_ap, dExpr_ap, dSet_ap, dSetF_ap, gsNil_ap, gsCons_ap, gTp_ap, dAsg_ap, sLst_ap, sTup_ap, sRng1_ap, sRng2_ap, dForS_ap, dTru_ap, dAnd_ap, dOr_ap, dNot_ap, dAndV_ap, dOrV_ap, dNotV_ap, dIte_ap, dChain_ap, dTup_ap, dLst_ap, dApp_ap, dSetI_ap, rNil_ap, rVal_ap, rIo_ap, dCal2_ap, dV_ap, dN_ap, tYesB_ap, dLc_ap, dIsi_ap, dPar_ap, dDic0_ap, dPar3_ap, DF.R.bind_ok, DF.R.bindS_ok, DF.R.bindN_ok, DF.SR.bind_nx, DF.SR.bind_ret, ofO, ths, setV, setF, free, set2, set3, fnRes, startE, startC, outs, argsD, putD, ioIx, isMu, look, muL, ltD_ap, leD_ap, gtD_ap, geD_ap, addD_ap, subD_ap, negD_ap, absD_ap, intD_ap, intD_apB, eq_int, ne_int, ixD, L2.atI, L2.ixN, lenD, gcdD, max2D, min2D, h1, m1, m2, m4, hc]
theorem bg3 (c0 c1 c2 : Option Cell) (g m : Int) : ∃ x y : Int, 0 ≤ y ∧ y < 2 ^ 61 ∧ (dRetF (dLst (vCons (dCal max2D (aCons (oD (dC (.int 0))) (aCons (oD (dBin subD (oVar 3) (oD (dBin powD (oD (dC (.int 10))) (oD (dC (.int 18))))))) (aNil)))) (vCons (dBin modD (oD (dCal intD (aCons (oVar 4) (aNil)))) (oD (dC (.int 2305843009213693951)))) (vCons (dC (.int 0)) (vNil)))))) [c0, c1, c2, some (.val (.int g)), some (.val (.int m))] = .ret [c0, c1, c2, some (.val (.int g)), some (.val (.int m))] true (.lst [.int x, .int y, .int 0]) := by
  have h1 := modD_ap (i := m) (j := 2305843009213693951) (by decide)
  have b1 : 0 ≤ m.fmod 2305843009213693951 ∧ m.fmod 2305843009213693951 < 2305843009213693951 := by
    rw [fm (by decide)]; exact ⟨Int.emod_nonneg _ (by decide), Int.emod_lt_of_pos _ (by decide)⟩
  generalize m.fmod 2305843009213693951 = q at *
  refine ⟨if g - 1000000000000000000 > 0 then g - 1000000000000000000 else 0, q, b1.1, by omega, ?_⟩
  simp [dC_ap, dVar_ap, oVar_ap, oD_ap, aNil_ap, aCons_ap, vNil_ap, vCons_ap, dBin_ap, dTst_ap, dUn_ap, dCal_ap, dSeq_ap, dNever_ap, dIf_ap, dRet_ap, dRetF_ap, dRetN_ap, dRetV_ap, dExpr_ap, dSet_ap, dSetF_ap, gsNil_ap, gsCons_ap, gTp_ap, dAsg_ap, sLst_ap, sTup_ap, sRng1_ap, sRng2_ap, dForS_ap, dTru_ap, dAnd_ap, dOr_ap, dNot_ap, dAndV_ap, dOrV_ap, dNotV_ap, dIte_ap, dChain_ap, dTup_ap, dLst_ap, dApp_ap, dSetI_ap, rNil_ap, rVal_ap, rIo_ap, dCal2_ap, dV_ap, dN_ap, tYesB_ap, dLc_ap, dIsi_ap, dPar_ap, dDic0_ap, dPar3_ap, DF.R.bind_ok, DF.R.bindS_ok, DF.R.bindN_ok, DF.SR.bind_nx, DF.SR.bind_ret, ofO, ths, setV, setF, free, set2, set3, fnRes, startE, startC, outs, argsD, putD, ioIx, isMu, look, muL, ltD_ap, leD_ap, gtD_ap, geD_ap, addD_ap, subD_ap, negD_ap, absD_ap, intD_ap, intD_apB, eq_int, ne_int, ixD, L2.atI, L2.ixN, lenD, gcdD, max2D, min2D, h1, p18l]
theorem e_bag (ns : List Int) (k : Nat) (h : k < ns.length ∨ (ns = [] ∧ k = 0)) (hk : k ≤ 2) : ∃ d, Bag 0 d ∧ F_q_bag [(false, .fro (ns.map D.int)), (false, .int (k : Int))] = .ret true d [] := by
  obtain ⟨c, s0⟩ := bg0 ns k h
  obtain ⟨g, s1⟩ := bg1 (some (.val (.fro (ns.map D.int)))) (some (.val (.int (k : Int)))) c
  obtain ⟨m, s2⟩ := bg2 (some (.val (.fro (ns.map D.int)))) k hk c g
  obtain ⟨x, y, hy0, hy1, s3⟩ := bg3 (some (.val (.fro (ns.map D.int)))) (some (.val (.int (k : Int)))) (some (.val (.int c))) g m
  refine ⟨.lst [.int x, .int y, .int 0], ⟨x, y, 0, rfl, hy0, hy1, by decide, by decide⟩, ?_⟩
  have hs : startE 5 [(false, .fro (ns.map D.int)), (false, .int (k : Int))] = [some (.val (.fro (ns.map D.int))), some (.val (.int (k : Int))), none, none, none] := rfl
  unfold F_q_bag B_q_bag
  rw [hs, dSeq_ap, s0, SR.bind_nx, dSeq_ap, s1, SR.bind_nx, dSeq_ap, s2, SR.bind_nx, s3]
  rfl
end K04

namespace KM
/-! ### lowest terms -/
def gc (t b : Int) : Nat := Nat.gcd t.natAbs b.natAbs
def sh (t b : Int) : Int := if b < 0 then -(gc t b : Int) else (gc t b : Int)
def lo1 (t b : Int) : Int := t.fdiv (sh t b)
def lo2 (t b : Int) : Int := b.fdiv (sh t b)
def Good (a b : Int) : Prop := 0 < b ∧ gc a b = 1
theorem gc_pos {t b : Int} (hb : b ≠ 0) : 0 < gc t b := Nat.gcd_pos_of_pos_right _ (Int.natAbs_pos.mpr hb)
theorem sh_ne {t b : Int} (hb : b ≠ 0) : sh t b ≠ 0 := by
  have h := gc_pos (t := t) hb
  unfold sh
  split <;> omega
theorem sh_natAbs (t b : Int) : (sh t b).natAbs = gc t b := by
  unfold sh
  split <;> omega
theorem fdiv_mul {u s : Int} (hs : s ≠ 0) : (u * s).fdiv s = u := Int.mul_fdiv_cancel u hs
theorem lo_spec {t b : Int} (hb : b ≠ 0) : t = lo1 t b * sh t b ∧ b = lo2 t b * sh t b ∧ Good (lo1 t b) (lo2 t b) := by
  have hs := sh_ne (t := t) hb
  have d1 : sh t b ∣ t := Int.natAbs_dvd_natAbs.mp (by rw [sh_natAbs]; exact Nat.gcd_dvd_left _ _)
  have d2 : sh t b ∣ b := Int.natAbs_dvd_natAbs.mp (by rw [sh_natAbs]; exact Nat.gcd_dvd_right _ _)
  obtain ⟨u, hu⟩ := d1
  obtain ⟨v, hv⟩ := d2
  have e1 : lo1 t b = u := by
    unfold lo1
    have : t.fdiv (sh t b) = (u * sh t b).fdiv (sh t b) := by rw [Int.mul_comm u]; rw [← hu]
    rw [this, fdiv_mul hs]
  have e2 : lo2 t b = v := by
    unfold lo2
    have : b.fdiv (sh t b) = (v * sh t b).fdiv (sh t b) := by rw [Int.mul_comm v]; rw [← hv]
    rw [this, fdiv_mul hs]
  rw [e1, e2]
  have hg := gc_pos (t := t) hb
  refine ⟨by rw [Int.mul_comm]; exact hu, by rw [Int.mul_comm]; exact hv, ?_, ?_⟩
  · -- the sign
    have hvb : sh t b * v = b := hv.symm
    have hv0 : v ≠ 0 := fun z => by rw [z, Int.mul_zero] at hvb; exact hb hvb.symm
    by_cases hb0 : b < 0
    · have es : sh t b = -(gc t b : Int) := by unfold sh; rw [if_pos hb0]
      rcases Int.lt_or_gt_of_ne hv0 with h | h
      · have : 0 < sh t b * v := Int.mul_pos_of_neg_of_neg (by omega) h
        omega
      · exact h
    · have es : sh t b = (gc t b : Int) := by unfold sh; rw [if_neg hb0]
      rcases Int.lt_or_gt_of_ne hv0 with h | h
      · have : sh t b * v < 0 := Int.mul_neg_of_pos_of_neg (by omega) h
        omega
      · exact h
  · -- coprime
    unfold gc
    have h1 : t.natAbs = gc t b * u.natAbs := by
      have z := congrArg Int.natAbs hu
      rw [Int.natAbs_mul, sh_natAbs] at z
      exact z
    have h2 : b.natAbs = gc t b * v.natAbs := by
      have z := congrArg Int.natAbs hv
      rw [Int.natAbs_mul, sh_natAbs] at z
      exact z
    have h3 : gc t b = gc t b * Nat.gcd u.natAbs v.natAbs := by
      have : gc t b = Nat.gcd (gc t b * u.natAbs) (gc t b * v.natAbs) := by
        rw [← h1, ← h2]; rfl
      rw [Nat.gcd_mul_left] at this
      exact this
    exact Nat.eq_of_mul_eq_mul_left hg (by rw [Nat.mul_one]; exact h3.symm)
theorem nat_unique {a b u v : Nat} (hb : 0 < b) (hv : 0 < v) (h1 : Nat.gcd a b = 1) (h2 : Nat.gcd u v = 1) (e : a * v = u * b) : b = v := by
  have d1 : b ∣ v := by
    have : b ∣ a * v := ⟨u, by rw [e, Nat.mul_comm]⟩
    exact Nat.Coprime.dvd_of_dvd_mul_left (show Nat.Coprime b a by unfold Nat.Coprime; rw [Nat.gcd_comm]; exact h1) this
  have d2 : v ∣ b := by
    have : v ∣ u * b := ⟨a, by rw [← e, Nat.mul_comm]⟩
    exact Nat.Coprime.dvd_of_dvd_mul_left (show Nat.Coprime v u by unfold Nat.Coprime; rw [Nat.gcd_comm]; exact h2) this
  exact Nat.dvd_antisymm d1 d2
theorem unique {a b u v : Int} (h1 : Good a b) (h2 : Good u v) (e : a * v = u * b) : a = u ∧ b = v := by
  have hb : b.natAbs = v.natAbs := nat_unique (a := a.natAbs) (u := u.natAbs) (by have := h1.1; omega) (by have := h2.1; omega) h1.2 h2.2 (by
    have z := congrArg Int.natAbs e
    rw [Int.natAbs_mul, Int.natAbs_mul] at z
    exact z)
  have hbv : b = v := by have := h1.1; have := h2.1; omega
  subst hbv
  exact ⟨Int.eq_of_mul_eq_mul_right (by have := h1.1; omega) e, rfl⟩
theorem lo_unique {T B a b : Int} (hB : B ≠ 0) (h : Good a b) (e : T * b = a * B) : lo1 T B = a ∧ lo2 T B = b := by
  obtain ⟨e1, e2, hg⟩ := lo_spec (t := T) hB
  have hs := sh_ne (t := T) hB
  refine unique hg h ?_
  refine Int.eq_of_mul_eq_mul_right hs ?_
  calc lo1 T B * b * sh T B = (lo1 T B * sh T B) * b := by rw [Int.mul_assoc, Int.mul_comm b, ← Int.mul_assoc]
    _ = T * b := by rw [← e1]
    _ = a * B := e
    _ = a * (lo2 T B * sh T B) := by rw [← e2]
    _ = a * lo2 T B * sh T B := by rw [Int.mul_assoc]
theorem lo_cross {T B : Int} (hB : B ≠ 0) : lo1 T B * B = T * lo2 T B := by
  obtain ⟨e1, e2, _⟩ := lo_spec (t := T) hB
  calc lo1 T B * B = lo1 T B * (lo2 T B * sh T B) := by rw [← e2]
    _ = (lo1 T B * sh T B) * lo2 T B := by rw [Int.mul_comm (lo2 T B), Int.mul_assoc]
    _ = T * lo2 T B := by rw [← e1]
theorem abs_mul_ge {u s : Int} (hs : s ≠ 0) : u.natAbs ≤ (u * s).natAbs := by
  rw [Int.natAbs_mul]
  exact Nat.le_mul_of_pos_right _ (Int.natAbs_pos.mpr hs)
theorem lo1_le {T B : Int} (hB : B ≠ 0) : (lo1 T B).natAbs ≤ T.natAbs := by
  obtain ⟨e1, e2, _⟩ := lo_spec (t := T) hB
  have := abs_mul_ge (u := lo1 T B) (sh_ne (t := T) hB)
  rw [← e1] at this
  exact this
theorem lo2_le {T B : Int} (hB : B ≠ 0) : (lo2 T B).natAbs ≤ B.natAbs := by
  obtain ⟨e1, e2, _⟩ := lo_spec (t := T) hB
  have := abs_mul_ge (u := lo2 T B) (sh_ne (t := T) hB)
  rw [← e2] at this
  exact this
theorem floor_cross {a b c d : Int} (hb : 0 < b) (hd : 0 < d) (e : a * d = c * b) : a.fdiv b = c.fdiv d := by
  rw [Int.fdiv_eq_ediv_of_nonneg _ (Int.le_of_lt hb), Int.fdiv_eq_ediv_of_nonneg _ (Int.le_of_lt hd)]
  rw [← Int.mul_ediv_mul_of_pos_left a b hd, ← Int.mul_ediv_mul_of_pos_left c d hb, e, Int.mul_comm b d]
theorem lo_floor {T B : Int} (hB : 0 < B) : (lo1 T B).fdiv (lo2 T B) = T.fdiv B := by
  obtain ⟨_, _, hg⟩ := lo_spec (t := T) (show B ≠ 0 by omega)
  exact floor_cross hg.1 hB (lo_cross (by omega))
theorem good_rest {t b : Int} (h : Good t b) : Good (t.fmod b) b := by
  refine ⟨h.1, ?_⟩
  rw [Int.fmod_eq_emod_of_nonneg _ (Int.le_of_lt h.1)]
  have d1 : ((gc (t % b) b : Nat) : Int) ∣ t % b := Int.natAbs_dvd_natAbs.mp (by rw [Int.natAbs_natCast]; exact Nat.gcd_dvd_left _ _)
  have d2 : ((gc (t % b) b : Nat) : Int) ∣ b := Int.natAbs_dvd_natAbs.mp (by rw [Int.natAbs_natCast]; exact Nat.gcd_dvd_right _ _)
  have d3 : ((gc (t % b) b : Nat) : Int) ∣ t := by
    have := Int.dvd_add d1 (show _ ∣ b * (t / b) from Int.dvd_mul_of_dvd_left d2)
    rw [Int.emod_add_mul_ediv] at this
    exact this
  have e1 := Int.natAbs_dvd_natAbs.mpr d3
  have e2 := Int.natAbs_dvd_natAbs.mpr d2
  rw [Int.natAbs_natCast] at e1 e2
  have := Nat.dvd_gcd e1 e2
  rw [show Nat.gcd t.natAbs b.natAbs = 1 from h.2] at this
  exact Nat.eq_one_of_dvd_one this
/-! ### a sum of floors -/
def fsum (N m : Int) : Nat → Int
  | 0 => 0
  | k + 1 => fsum N m k + (N + k).fdiv m
theorem fsum_shift (N m : Int) (hm : 0 < m) : ∀ k : Nat, fsum (N + 1) m k = fsum N m k - N.fdiv m + (N + k).fdiv m
  | 0 => by simp [fsum]; omega
  | k + 1 => by
    have ih := fsum_shift N m hm k
    show fsum (N + 1) m k + (N + 1 + k).fdiv m = fsum N m k + (N + k).fdiv m - N.fdiv m + (N + ((k + 1 : Nat) : Int)).fdiv m
    rw [ih]
    have : N + 1 + (k : Int) = N + ((k + 1 : Nat) : Int) := by omega
    rw [this]
    omega
theorem fdiv_add_self (N m : Int) (hm : 0 < m) : (N + m).fdiv m = N.fdiv m + 1 := by
  rw [Int.fdiv_eq_ediv_of_nonneg _ (Int.le_of_lt hm), Int.fdiv_eq_ediv_of_nonneg _ (Int.le_of_lt hm), Int.add_ediv_of_dvd_right ⟨1, by omega⟩, Int.ediv_self (by omega)]
theorem fsum_step (N : Int) (m : Nat) (hm : 0 < m) : fsum (N + 1) m m = fsum N m m + 1 := by
  rw [fsum_shift N m (by omega) m, fdiv_add_self N m (by omega)]
  omega
theorem fsum_zero (m : Int) : ∀ k : Nat, (k : Int) ≤ m → fsum 0 m k = 0
  | 0, _ => rfl
  | k + 1, h => by
    show fsum 0 m k + ((0 : Int) + k).fdiv m = 0
    rw [fsum_zero m k (by omega), Int.zero_add, Int.zero_add, Int.fdiv_eq_ediv_of_nonneg _ (by omega)]
    exact Int.ediv_eq_zero_of_lt (by omega) (by omega)
theorem fsum_nat (m : Nat) (hm : 0 < m) : ∀ N : Nat, fsum N m m = N
  | 0 => fsum_zero m m (by omega)
  | N + 1 => by
    have := fsum_step N m hm
    rw [fsum_nat m hm N] at this
    exact this
theorem fsum_neg (m : Nat) (hm : 0 < m) : ∀ N : Nat, fsum (-(N : Int)) m m = -N
  | 0 => fsum_zero m m (by omega)
  | N + 1 => by
    have := fsum_step (-((N + 1 : Nat) : Int)) m hm
    rw [show -((N + 1 : Nat) : Int) + 1 = -(N : Int) by omega, fsum_neg m hm N] at this
    omega
theorem fsum_all (N : Int) (m : Nat) (hm : 0 < m) : fsum N m m = N := by
  rcases Int.lt_or_le N 0 with h | h
  · obtain ⟨n, rfl⟩ : ∃ n : Nat, N = -(n : Int) := ⟨N.natAbs, by omega⟩
    exact fsum_neg m hm n
  · obtain ⟨n, rfl⟩ : ∃ n : Nat, N = (n : Int) := ⟨N.natAbs, by omega⟩
    exact fsum_nat m hm n
/-- floor((t m + k b) / (b m)) -/
theorem floor_split {t b m k : Int} (hb : 0 < b) (hm : 0 < m) : (t * m + k * b).fdiv (b * m) = ((m * t).fdiv b + k).fdiv m := by
  have hbm : 0 < b * m := Int.mul_pos hb hm
  rw [Int.fdiv_eq_ediv_of_nonneg _ (Int.le_of_lt hbm), Int.fdiv_eq_ediv_of_nonneg _ (Int.le_of_lt hm), Int.fdiv_eq_ediv_of_nonneg _ (Int.le_of_lt hb)]
  rw [← Int.ediv_ediv_of_nonneg (Int.le_of_lt hb), Int.add_mul_ediv_right _ _ (by omega), Int.mul_comm t m]
/-! ### how often p divides n -/
theorem pow_ne {p : Int} (hp : p ≠ 0) : ∀ n : Nat, p ^ n ≠ 0
  | 0 => by simp
  | n + 1 => by
    rw [Int.pow_succ]
    exact fun z => (Int.mul_eq_zero.mp z).elim (pow_ne hp n) hp
def Val (p n : Int) (v : Nat) : Prop := ∃ m, n = p ^ v * m ∧ ¬ p ∣ m
theorem Val.ne {p n : Int} {v : Nat} (h : Val p n v) : n ≠ 0 ∨ p = 0 := by
  obtain ⟨m, e, hm⟩ := h
  by_cases hp : p = 0
  · exact .inr hp
  · refine .inl fun z => ?_
    rw [z] at e
    rcases Int.mul_eq_zero.mp e.symm with h | h
    · exact pow_ne hp _ h
    · exact hm (by rw [h]; exact Int.dvd_zero _)
theorem val_zero {p n : Int} (h : ¬ p ∣ n) : Val p n 0 := ⟨n, by simp, h⟩
theorem val_succ {p n : Int} {v : Nat} (h : Val p n v) : Val p (p * n) (v + 1) := by
  obtain ⟨m, e, hm⟩ := h
  exact ⟨m, by rw [e, Int.pow_succ, Int.mul_comm (p ^ v) p, Int.mul_assoc], hm⟩
theorem val_unique {p n : Int} (hp : p ≠ 0) : ∀ {v w : Nat}, Val p n v → Val p n w → v = w
  | 0, 0, _, _ => rfl
  | 0, w + 1, ⟨m, e, hm⟩, ⟨m', e', _⟩ => by
    exfalso
    apply hm
    rw [Int.pow_zero, Int.one_mul] at e
    rw [← e, e', Int.pow_succ]
    exact ⟨p ^ w * m', by rw [Int.mul_comm (p ^ w) p, Int.mul_assoc]⟩
  | v + 1, 0, ⟨m, e, _⟩, ⟨m', e', hm'⟩ => by
    exfalso
    apply hm'
    rw [Int.pow_zero, Int.one_mul] at e'
    rw [← e', e, Int.pow_succ]
    exact ⟨p ^ v * m, by rw [Int.mul_comm (p ^ v) p, Int.mul_assoc]⟩
  | v + 1, w + 1, ⟨m, e, hm⟩, ⟨m', e', hm'⟩ => by
    have : p ^ v * m = p ^ w * m' := by
      refine Int.eq_of_mul_eq_mul_left hp ?_
      rw [← Int.mul_assoc, ← Int.mul_assoc, Int.mul_comm p (p ^ v), Int.mul_comm p (p ^ w), ← Int.pow_succ, ← Int.pow_succ, ← e, ← e']
    exact congrArg (· + 1) (val_unique hp (n := p ^ v * m) ⟨m, rfl, hm⟩ ⟨m', this, hm'⟩)
def Pr (p : Int) : Prop := 2 ≤ p ∧ ∀ x y : Int, p ∣ x * y → p ∣ x ∨ p ∣ y
theorem val_mul {p x y : Int} {v w : Nat} (hp : Pr p) (hx : Val p x v) (hy : Val p y w) : Val p (x * y) (v + w) := by
  obtain ⟨m, e, hm⟩ := hx
  obtain ⟨m', e', hm'⟩ := hy
  refine ⟨m * m', ?_, fun h => (hp.2 m m' h).elim hm hm'⟩
  rw [e, e', Int.pow_add]
  simp only [Int.mul_assoc, Int.mul_left_comm, Int.mul_comm]
theorem val_ex {p : Int} (hp : 2 ≤ p) : ∀ (k : Nat) (n : Int), n ≠ 0 → n.natAbs ≤ k → ∃ v, Val p n v
  | 0, n, h0, h => absurd (by omega : n = 0) h0
  | k + 1, n, h0, h => by
    by_cases hd : p ∣ n
    · obtain ⟨m, rfl⟩ := hd
      have hm0 : m ≠ 0 := fun z => h0 (by rw [z, Int.mul_zero])
      have hlt : m.natAbs < (p * m).natAbs := by
        rw [Int.natAbs_mul]
        have h1 : 0 < m.natAbs := Int.natAbs_pos.mpr hm0
        have h2 : 2 ≤ p.natAbs := by omega
        have : 2 * m.natAbs ≤ p.natAbs * m.natAbs := Nat.mul_le_mul_right _ h2
        omega
      obtain ⟨v, hv⟩ := val_ex hp k m hm0 (by omega)
      exact ⟨v + 1, val_succ hv⟩
    · exact ⟨0, val_zero hd⟩
theorem dvd_pow_mul {p m : Int} {a b : Nat} (h : a ≤ b) : p ^ a ∣ p ^ b * m := by
  obtain ⟨c, rfl⟩ := Nat.exists_eq_add_of_le h
  rw [Int.pow_add, Int.mul_assoc]
  exact ⟨_, rfl⟩
theorem val_ge {p n : Int} {v a : Nat} (hp : p ≠ 0) (h : Val p n v) (hd : p ^ a ∣ n) : a ≤ v := by
  obtain ⟨m, e, hm⟩ := h
  apply Nat.le_of_not_lt
  intro hlt
  obtain ⟨c, rfl⟩ := Nat.exists_eq_add_of_le (show v + 1 ≤ a from hlt)
  obtain ⟨q, eq⟩ := hd
  rw [e, Int.pow_add, Int.pow_succ, Int.mul_assoc, Int.mul_assoc] at eq
  have := Int.eq_of_mul_eq_mul_left (pow_ne hp _) eq
  exact hm ⟨_, this⟩
theorem val_add_ge {p x y : Int} {v w u : Nat} (hp : p ≠ 0) (hx : Val p x v) (hy : Val p y w) (hz : Val p (x + y) u) : min v w ≤ u := by
  obtain ⟨m, e, _⟩ := hx
  obtain ⟨m', e', _⟩ := hy
  refine val_ge hp hz (Int.dvd_add ?_ ?_)
  · rw [e]; exact dvd_pow_mul (Nat.min_le_left _ _)
  · rw [e']; exact dvd_pow_mul (Nat.min_le_right _ _)
theorem val_neg {p x : Int} {v : Nat} (h : Val p x v) : Val p (-x) v := by
  obtain ⟨m, e, hm⟩ := h
  exact ⟨-m, by rw [e, Int.mul_neg], fun h => hm (Int.dvd_neg.mp h)⟩
theorem val_add_eq {p x y : Int} {v w u : Nat} (hp : p ≠ 0) (hx : Val p x v) (hy : Val p y w) (hz : Val p (x + y) u) (hne : v ≠ w) : u = min v w := by
  have h1 := val_add_ge hp hx hy hz
  have h2 : min u w ≤ v := val_add_ge hp hz (val_neg hy) (by rw [show x + y + -y = x by omega]; exact hx)
  have h3 : min u v ≤ w := val_add_ge hp hz (val_neg hx) (by rw [show x + y + -x = y by omega]; exact hy)
  omega
theorem pr_of {p : Nat} (h2 : 2 ≤ p) (h : ∀ d, 2 ≤ d → d * d ≤ p → p % d ≠ 0) : Pr p := by
  refine ⟨by omega, fun x y hxy => ?_⟩
  by_cases hx : (p : Int) ∣ x
  · exact .inl hx
  · refine .inr ?_
    have hnat : p ∣ x.natAbs * y.natAbs := by
      have := Int.natAbs_dvd_natAbs.mpr hxy
      rw [Int.natAbs_mul, Int.natAbs_natCast] at this
      exact this
    have hco : Nat.Coprime p x.natAbs := by
      have gd : Nat.gcd p x.natAbs ∣ p := Nat.gcd_dvd_left _ _
      obtain ⟨c, hc⟩ := gd
      by_cases h1 : Nat.gcd p x.natAbs = 1
      · exact h1
      · exfalso
        have hg0 : 0 < Nat.gcd p x.natAbs := Nat.gcd_pos_of_pos_left _ (by omega)
        by_cases hc1 : c = 1
        · rw [hc1, Nat.mul_one] at hc
          have : p ∣ x.natAbs := by rw [hc]; exact Nat.gcd_dvd_right _ _
          exact hx (Int.natAbs_dvd_natAbs.mp (by rw [Int.natAbs_natCast]; exact this))
        · have hc0 : c ≠ 0 := fun z => by rw [z, Nat.mul_zero] at hc; omega
          rcases Nat.le_total (Nat.gcd p x.natAbs) c with hl | hl
          · refine h (Nat.gcd p x.natAbs) (by omega) ?_ (Nat.mod_eq_zero_of_dvd ⟨c, hc⟩)
            calc Nat.gcd p x.natAbs * Nat.gcd p x.natAbs ≤ Nat.gcd p x.natAbs * c := Nat.mul_le_mul_left _ hl
              _ = p := hc.symm
          · refine h c (by omega) ?_ (Nat.mod_eq_zero_of_dvd ⟨_, by rw [Nat.mul_comm]; exact hc⟩)
            calc c * c ≤ Nat.gcd p x.natAbs * c := Nat.mul_le_mul_right _ hl
              _ = p := hc.symm
    have := Nat.Coprime.dvd_of_dvd_mul_left hco hnat
    exact Int.natAbs_dvd_natAbs.mp (by rw [Int.natAbs_natCast]; exact this)
/-- exponents in lowest terms -/
theorem lo_val {p T B : Int} {x y u w : Nat} (hp : Pr p) (hB : B ≠ 0) (hx : Val p T x) (hy : Val p B y) (hu : Val p (lo1 T B) u) (hw : Val p (lo2 T B) w) : (u : Int) - w = x - y := by
  obtain ⟨e1, e2, _⟩ := lo_spec (t := T) hB
  obtain ⟨s, hs⟩ := val_ex hp.1 _ (sh T B) (sh_ne hB) (Nat.le_refl _)
  have h1 := val_mul hp hu hs
  have h2 := val_mul hp hw hs
  rw [← e1] at h1
  rw [← e2] at h2
  have hp0 : p ≠ 0 := by have := hp.1; omega
  have := val_unique hp0 hx h1
  have := val_unique hp0 hy h2
  omega
end KM

namespace KP
/-! polynomials as lists of whole numbers: what the loops make of them -/
def tn (l : List Int) : Nat → Nat
  | 0 => 0
  | 1 => 1
  | n + 2 => if l.getD (n + 1) 0 = 0 then tn l (n + 1) else n + 2
theorem tn_le (l : List Int) : ∀ n, tn l n ≤ n
  | 0 => Nat.le_refl _
  | 1 => Nat.le_refl _
  | n + 2 => by
    unfold tn
    split
    · exact Nat.le_succ_of_le (tn_le l (n + 1))
    · exact Nat.le_refl _
theorem tn_pos (l : List Int) : ∀ n, 0 < n → 0 < tn l n
  | 1, _ => Nat.one_pos
  | n + 2, _ => by
    unfold tn
    split
    · exact tn_pos l (n + 1) (Nat.succ_pos _)
    · exact Nat.succ_pos _
theorem tn_last (l : List Int) : ∀ n, 1 < tn l n → l.getD (tn l n - 1) 0 ≠ 0
  | 0, h => absurd (show 1 < 0 from h) (by decide)
  | 1, h => absurd (show 1 < 1 from h) (by decide)
  | n + 2, h => by
    unfold tn at h ⊢
    by_cases hz : l.getD (n + 1) 0 = 0
    · rw [if_pos hz] at h ⊢
      exact tn_last l (n + 1) h
    · rw [if_neg hz] at h ⊢
      exact hz
/-- what is left when the zeros at the end are taken off, but one number -/
def trim (l : List Int) : List Int := l.take (tn l l.length)
/-- a line of numbers whose last is not 0, or of one number -/
def Pol (l : List Int) : Prop := l.length = 1 ∨ (1 < l.length ∧ l.getD (l.length - 1) 0 ≠ 0)
theorem trim_pol {l : List Int} (h : l ≠ []) : Pol (trim l) := by
  have h0 : 0 < l.length := List.length_pos_iff.mpr h
  have hp := tn_pos l l.length h0
  have hl := tn_le l l.length
  have hlen : (trim l).length = tn l l.length := by unfold trim; rw [List.length_take]; omega
  by_cases h1 : tn l l.length = 1
  · exact .inl (hlen.trans h1)
  · refine .inr ⟨by omega, ?_⟩
    have := tn_last l l.length (by omega)
    rw [hlen]
    unfold trim
    rw [List.getD_eq_getElem?_getD, List.getElem?_take_of_lt (by omega), ← List.getD_eq_getElem?_getD]
    exact this
theorem trim_of_pol {l : List Int} (h : Pol l) : trim l = l := by
  have : tn l l.length = l.length := by
    rcases h with h | ⟨h1, h2⟩
    · rw [h]; rfl
    · obtain ⟨n, hn⟩ : ∃ n, l.length = n + 2 := ⟨l.length - 2, by omega⟩
      rw [hn]
      rw [hn] at h2
      have h3 : ¬ l.getD (n + 1) 0 = 0 := h2
      unfold tn
      rw [if_neg h3]
  unfold trim
  rw [this]
  exact List.take_length
/-! ### products -/
def add1 (t : List Int) (k : Nat) (v : Int) : List Int := t.set k (t.getD k 0 + v)
theorem add1_length (t : List Int) (k : Nat) (v : Int) : (add1 t k v).length = t.length := List.length_set
theorem add1_get {t : List Int} {k j : Nat} {v : Int} (h : j < t.length) : (add1 t k v).getD j 0 = t.getD j 0 + if k = j then v else 0 := by
  unfold add1
  by_cases e : k = j
  · subst e
    rw [if_pos rfl, List.getD_eq_getElem?_getD, List.getElem?_set_self h]
    rfl
  · rw [if_neg e, List.getD_eq_getElem?_getD, List.getElem?_set_ne e, ← List.getD_eq_getElem?_getD, Int.add_zero]
def row (x : Int) (i : Nat) : List Int → Nat → List Int → List Int
  | [], _, t => t
  | y :: r, j, t => row x i r (j + 1) (add1 t (i + j) (x * y))
def convGo (m : List Int) : List Int → Nat → List Int → List Int
  | [], _, t => t
  | x :: r, i, t => convGo m r (i + 1) (row x i m 0 t)
def conv (l m : List Int) : List Int := convGo m l 0 (List.replicate (l.length + m.length - 1) 0)
def rc (x : Int) (i : Nat) : List Int → Nat → Nat → Int
  | [], _, _ => 0
  | y :: r, j, k => (if i + j = k then x * y else 0) + rc x i r (j + 1) k
theorem row_length (x : Int) (i : Nat) : ∀ (m : List Int) (j : Nat) (t : List Int), (row x i m j t).length = t.length
  | [], _, _ => rfl
  | y :: r, j, t => (row_length x i r (j + 1) _).trans (add1_length _ _ _)
theorem row_get (x : Int) (i : Nat) : ∀ (m : List Int) (j : Nat) (t : List Int) (k : Nat), k < t.length → (row x i m j t).getD k 0 = t.getD k 0 + rc x i m j k
  | [], _, _, _, _ => by simp [row, rc]
  | y :: r, j, t, k, h => by
    show (row x i r (j + 1) (add1 t (i + j) (x * y))).getD k 0 = t.getD k 0 + ((if i + j = k then x * y else 0) + rc x i r (j + 1) k)
    rw [row_get x i r (j + 1) _ k (by rw [add1_length]; exact h), add1_get h, Int.add_assoc]
def cc (m : List Int) (j : Nat) : List Int → Nat → Nat → Int
  | [], _, _ => 0
  | x :: r, i, k => rc x i m j k + cc m j r (i + 1) k
theorem convGo_length (m : List Int) : ∀ (l : List Int) (i : Nat) (t : List Int), (convGo m l i t).length = t.length
  | [], _, _ => rfl
  | x :: r, i, t => (convGo_length m r (i + 1) _).trans (row_length _ _ _ _ _)
theorem convGo_get (m : List Int) : ∀ (l : List Int) (i : Nat) (t : List Int) (k : Nat), k < t.length → (convGo m l i t).getD k 0 = t.getD k 0 + cc m 0 l i k
  | [], _, _, _, _ => by simp [convGo, cc]
  | x :: r, i, t, k, h => by
    show (convGo m r (i + 1) (row x i m 0 t)).getD k 0 = t.getD k 0 + (rc x i m 0 k + cc m 0 r (i + 1) k)
    rw [convGo_get m r (i + 1) _ k (by rw [row_length]; exact h), row_get _ _ _ _ _ _ h, Int.add_assoc]
theorem conv_length (l m : List Int) : (conv l m).length = l.length + m.length - 1 := by
  unfold conv
  rw [convGo_length, List.length_replicate]
theorem conv_get {l m : List Int} {k : Nat} (h : k < l.length + m.length - 1) : (conv l m).getD k 0 = cc m 0 l 0 k := by
  unfold conv
  rw [convGo_get _ _ _ _ _ (by rw [List.length_replicate]; exact h), List.getD_eq_getElem?_getD, List.getElem?_replicate, if_pos h]
  simp
theorem rc_nil (y : Int) (j : Nat) (i k : Nat) : rc y j [] i k = 0 := rfl
theorem cc_nil (j : Nat) : ∀ (l : List Int) (i k : Nat), cc [] j l i k = 0
  | [], _, _ => rfl
  | x :: r, i, k => by
    show rc x i [] j k + cc [] j r (i + 1) k = 0
    rw [cc_nil j r (i + 1) k]
    rfl
theorem cc_cons (y : Int) (s : List Int) (j : Nat) : ∀ (l : List Int) (i k : Nat), cc (y :: s) j l i k = rc y j l i k + cc s (j + 1) l i k
  | [], _, _ => rfl
  | x :: r, i, k => by
    show ((if i + j = k then x * y else 0) + rc x i s (j + 1) k) + cc (y :: s) j r (i + 1) k = ((if j + i = k then y * x else 0) + rc y j r (i + 1) k) + (rc x i s (j + 1) k + cc s (j + 1) r (i + 1) k)
    rw [cc_cons y s j r (i + 1) k, Nat.add_comm i j, Int.mul_comm x y]
    omega
theorem cc_comm : ∀ (l m : List Int) (i j k : Nat), cc m j l i k = cc l i m j k
  | [], m, i, j, k => (cc_nil i m j k).symm
  | x :: r, m, i, j, k => by
    rw [cc_cons x r i m j k, ← cc_comm r m (i + 1) j k]
    rfl
theorem ext0 {l m : List Int} (h : l.length = m.length) (hg : ∀ k, k < l.length → l.getD k 0 = m.getD k 0) : l = m := by
  refine List.ext_getElem h fun k h1 h2 => ?_
  have := hg k h1
  rw [List.getD_eq_getElem?_getD, List.getD_eq_getElem?_getD, List.getElem?_eq_getElem h1, List.getElem?_eq_getElem h2] at this
  exact this
theorem conv_comm (l m : List Int) : conv l m = conv m l := by
  refine ext0 (by rw [conv_length, conv_length]; omega) fun k hk => ?_
  rw [conv_length] at hk
  rw [conv_get hk, conv_get (by omega), cc_comm]
/-! ### sums -/
def sumGo : List Int → Nat → List Int → List Int
  | [], _, t => t
  | x :: r, i, t => sumGo r (i + 1) (add1 t i x)
def psum (l m : List Int) : List Int := sumGo m 0 (sumGo l 0 (List.replicate (max l.length m.length) 0))
theorem sumGo_length : ∀ (l : List Int) (i : Nat) (t : List Int), (sumGo l i t).length = t.length
  | [], _, _ => rfl
  | x :: r, i, t => (sumGo_length r (i + 1) _).trans (add1_length _ _ _)
theorem sumGo_get : ∀ (l : List Int) (i : Nat) (t : List Int) (k : Nat), k < t.length → (sumGo l i t).getD k 0 = t.getD k 0 + if i ≤ k then l.getD (k - i) 0 else 0
  | [], i, t, k, _ => by simp [sumGo]
  | x :: r, i, t, k, h => by
    show (sumGo r (i + 1) (add1 t i x)).getD k 0 = _
    rw [sumGo_get r (i + 1) _ k (by rw [add1_length]; exact h), add1_get h]
    by_cases h1 : i = k
    · subst h1
      rw [if_pos rfl, if_neg (by omega), if_pos (Nat.le_refl _), Nat.sub_self]
      simp
    · rw [if_neg h1]
      by_cases h2 : i ≤ k
      · rw [if_pos (by omega), if_pos h2, show k - i = (k - (i + 1)) + 1 by omega]
        simp
      · rw [if_neg (by omega), if_neg h2]
        omega
theorem psum_length (l m : List Int) : (psum l m).length = max l.length m.length := by
  unfold psum
  rw [sumGo_length, sumGo_length, List.length_replicate]
theorem psum_get {l m : List Int} {k : Nat} (h : k < max l.length m.length) : (psum l m).getD k 0 = l.getD k 0 + m.getD k 0 := by
  unfold psum
  rw [sumGo_get _ _ _ _ (by rw [sumGo_length, List.length_replicate]; exact h), sumGo_get _ _ _ _ (by rw [List.length_replicate]; exact h), show (List.replicate (max l.length m.length) (0 : Int)).getD k 0 = 0 by rw [List.getD_eq_getElem?_getD, List.getElem?_replicate, if_pos h]; rfl]
  simp
theorem psum_comm (l m : List Int) : psum l m = psum m l := by
  refine ext0 (by rw [psum_length, psum_length, Nat.max_comm]) fun k hk => ?_
  rw [psum_length] at hk
  rw [psum_get hk, psum_get (by rw [Nat.max_comm]; exact hk), Int.add_comm]
end KP

namespace KP
/-! values: with top t and bottom b, all over b to the number of places -/
def hT (t b : Int) : List Int → Int
  | [] => 0
  | x :: r => hT t b r * t + x * b ^ r.length
theorem hT_add1 (t b : Int) : ∀ (l : List Int) (k : Nat) (v : Int), k < l.length → hT t b (add1 l k v) = hT t b l + v * t ^ k * b ^ (l.length - 1 - k)
  | x :: r, 0, v, _ => by
    show hT t b r * t + (x + v) * b ^ r.length = hT t b r * t + x * b ^ r.length + v * t ^ 0 * b ^ (r.length + 1 - 1 - 0)
    rw [show r.length + 1 - 1 - 0 = r.length by omega]
    grind
  | x :: r, k + 1, v, h => by
    have h' : k < r.length := by simpa using h
    have ih := hT_add1 t b r k v h'
    have e : add1 (x :: r) (k + 1) v = x :: add1 r k v := by unfold add1; simp
    rw [e]
    show hT t b (add1 r k v) * t + x * b ^ (add1 r k v).length = hT t b r * t + x * b ^ r.length + v * t ^ (k + 1) * b ^ (r.length + 1 - 1 - (k + 1))
    rw [add1_length, ih, show r.length + 1 - 1 - (k + 1) = r.length - 1 - k by omega, Int.pow_succ]
    grind
theorem hT_row (t b x : Int) (i : Nat) : ∀ (m : List Int) (j : Nat) (T : List Int), i + j + m.length ≤ T.length → hT t b (row x i m j T) = hT t b T + x * t ^ (i + j) * b ^ (T.length - (i + j + m.length)) * hT t b m
  | [], j, T, _ => by simp [row, hT]
  | y :: r, j, T, h => by
    rw [List.length_cons] at h
    have ih := hT_row t b x i r (j + 1) (add1 T (i + j) (x * y)) (by rw [add1_length]; omega)
    show hT t b (row x i r (j + 1) (add1 T (i + j) (x * y))) = hT t b T + x * t ^ (i + j) * b ^ (T.length - (i + j + (r.length + 1))) * (hT t b r * t + y * b ^ r.length)
    rw [ih, add1_length, hT_add1 t b T _ _ (by omega), show i + (j + 1) = (i + j) + 1 by omega, Int.pow_succ t]
    rw [show T.length - (i + j + 1 + r.length) = T.length - (i + j + (r.length + 1)) by omega]
    rw [show T.length - 1 - (i + j) = (T.length - (i + j + (r.length + 1))) + r.length by omega, Int.pow_add]
    grind
theorem hT_zero (t b : Int) : ∀ n : Nat, hT t b (List.replicate n 0) = 0
  | 0 => rfl
  | n + 1 => by
    rw [List.replicate_succ]
    show hT t b (List.replicate n 0) * t + 0 * b ^ _ = 0
    rw [hT_zero t b n]
    simp
theorem hT_convGo (t b : Int) (m : List Int) (hm : 0 < m.length) : ∀ (l : List Int) (i : Nat) (T : List Int), 0 < l.length → i + l.length + m.length - 1 ≤ T.length → hT t b (convGo m l i T) = hT t b T + t ^ i * b ^ (T.length - (i + l.length + m.length - 1)) * hT t b l * hT t b m
  | [x], i, T, _, h => by
    show hT t b (row x i m 0 T) = _
    have h' : i + 0 + m.length ≤ T.length := by simp at h; omega
    rw [hT_row t b x i m 0 T h']
    show _ = hT t b T + t ^ i * b ^ (T.length - (i + 1 + m.length - 1)) * (0 * t + x * b ^ 0) * hT t b m
    rw [show i + 1 + m.length - 1 = i + 0 + m.length by omega, Nat.add_zero]
    grind
  | x :: y :: r, i, T, _, h => by
    have h1 : i + 1 + (y :: r).length + m.length - 1 ≤ T.length := by simp at h ⊢; omega
    have ih := hT_convGo t b m hm (y :: r) (i + 1) (row x i m 0 T) (by simp) (by rw [row_length]; exact h1)
    show hT t b (convGo m (y :: r) (i + 1) (row x i m 0 T)) = hT t b T + t ^ i * b ^ (T.length - (i + ((y :: r).length + 1) + m.length - 1)) * (hT t b (y :: r) * t + x * b ^ (y :: r).length) * hT t b m
    have h2 : i + 0 + m.length ≤ T.length := by simp at h; omega
    rw [ih, row_length, hT_row t b x i m 0 T h2, Nat.add_zero, Int.pow_succ]
    rw [show i + ((y :: r).length + 1) + m.length - 1 = i + 1 + (y :: r).length + m.length - 1 by omega]
    rw [show T.length - (i + m.length) = (T.length - (i + 1 + (y :: r).length + m.length - 1)) + (y :: r).length by omega, Int.pow_add]
    generalize (y :: r).length = q
    generalize hT t b (y :: r) = z
    grind
theorem hT_conv (t b : Int) {l m : List Int} (hl : 0 < l.length) (hm : 0 < m.length) : hT t b (conv l m) = hT t b l * hT t b m := by
  unfold conv
  rw [hT_convGo t b m hm l 0 _ hl (by rw [List.length_replicate]; omega), hT_zero, List.length_replicate]
  rw [show l.length + m.length - 1 - (0 + l.length + m.length - 1) = 0 by omega]
  grind
theorem hT_sumGo (t b : Int) : ∀ (l : List Int) (i : Nat) (T : List Int), i + l.length ≤ T.length → hT t b (sumGo l i T) = hT t b T + t ^ i * b ^ (T.length - (i + l.length)) * hT t b l
  | [], i, T, _ => by simp [sumGo, hT]
  | x :: r, i, T, h => by
    rw [List.length_cons] at h
    have ih := hT_sumGo t b r (i + 1) (add1 T i x) (by rw [add1_length]; omega)
    show hT t b (sumGo r (i + 1) (add1 T i x)) = hT t b T + t ^ i * b ^ (T.length - (i + (r.length + 1))) * (hT t b r * t + x * b ^ r.length)
    rw [ih, add1_length, hT_add1 t b T _ _ (by omega), Int.pow_succ]
    rw [show T.length - (i + 1 + r.length) = T.length - (i + (r.length + 1)) by omega, show T.length - 1 - i = (T.length - (i + (r.length + 1))) + r.length by omega, Int.pow_add]
    grind
theorem hT_psum (t b : Int) (l m : List Int) : hT t b (psum l m) = b ^ (max l.length m.length - l.length) * hT t b l + b ^ (max l.length m.length - m.length) * hT t b m := by
  unfold psum
  rw [hT_sumGo t b m 0 _ (by rw [sumGo_length, List.length_replicate]; omega), hT_sumGo t b l 0 _ (by rw [List.length_replicate]; omega), sumGo_length, List.length_replicate, hT_zero]
  simp only [Nat.zero_add]
  grind
theorem hT_append0 (t b : Int) : ∀ l : List Int, hT t b (l ++ [0]) = hT t b l * b
  | [] => by simp [hT]
  | x :: r => by
    show hT t b (r ++ [0]) * t + x * b ^ (r ++ [0]).length = (hT t b r * t + x * b ^ r.length) * b
    rw [hT_append0 t b r, List.length_append, List.length_singleton, Int.pow_succ]
    grind
/-- the law's way: sums in lowest terms -/
structure Fin (t b A B P Q A' B' : Int) (l : List Int) : Prop where
  pos : 0 < B'
  eq : A' * (B * Q * b ^ l.length) = B' * (A * Q * b ^ l.length + P * B * hT t b l * b)
theorem fin_step {t b A B P Q A1 B1 P1 Q1 A' B' x : Int} {r : List Int} (hB1 : 0 < B1) (hQ1 : 0 < Q1) (h1 : A1 * (B * Q) = (A * Q + x * P * B) * B1) (h2 : P1 * (Q * b) = P * t * Q1) (h : Fin t b A1 B1 P1 Q1 A' B' r) : Fin t b A B P Q A' B' (x :: r) := by
  refine ⟨h.pos, ?_⟩
  have e := h.eq
  refine Int.eq_of_mul_eq_mul_right (Int.ne_of_gt (Int.mul_pos hB1 hQ1)) ?_
  show A' * (B * Q * b ^ (r.length + 1)) * (B1 * Q1) = B' * (A * Q * b ^ (r.length + 1) + P * B * (hT t b r * t + x * b ^ r.length) * b) * (B1 * Q1)
  rw [Int.pow_succ]
  generalize b ^ r.length = c at *
  generalize hT t b r = T at *
  calc A' * (B * Q * (c * b)) * (B1 * Q1) = A' * (B1 * Q1 * c) * (B * Q * b) := by grind
    _ = B' * (A1 * Q1 * c + P1 * B1 * T * b) * (B * Q * b) := by rw [e]
    _ = B' * (A1 * (B * Q) * Q1 * c * b + P1 * (Q * b) * B1 * T * b * B) := by grind
    _ = B' * ((A * Q + x * P * B) * B1 * Q1 * c * b + P * t * Q1 * B1 * T * b * B) := by rw [h1, h2]
    _ = _ := by grind
end KP

namespace KP
/-! quotients -/
theorem add1_take (t : List Int) (k p : Nat) (v : Int) : (add1 t p v).take k = add1 (t.take k) p v := by
  unfold add1
  rw [List.take_set]
  by_cases h : p < k
  · rw [List.getD_eq_getElem?_getD, List.getD_eq_getElem?_getD, List.getElem?_take_of_lt h]
  · rw [List.set_eq_of_length_le (by rw [List.length_take]; omega), List.set_eq_of_length_le (by rw [List.length_take]; omega)]
theorem row_take (x : Int) (i k : Nat) : ∀ (m : List Int) (j : Nat) (t : List Int), (row x i m j t).take k = row x i m j (t.take k)
  | [], _, _ => rfl
  | y :: r, j, t => by
    show (row x i r (j + 1) (add1 t (i + j) (x * y))).take k = row x i r (j + 1) (add1 (t.take k) (i + j) (x * y))
    rw [row_take x i k r (j + 1), add1_take]
theorem rc_out (x : Int) (i : Nat) : ∀ (m : List Int) (j k : Nat), i + j + m.length ≤ k → rc x i m j k = 0
  | [], _, _, _ => rfl
  | y :: r, j, k, h => by
    rw [List.length_cons] at h
    show (if i + j = k then x * y else 0) + rc x i r (j + 1) k = 0
    rw [if_neg (by omega), rc_out x i r (j + 1) k (by omega)]
    rfl
theorem rc_top (x : Int) (i : Nat) : ∀ (m : List Int) (j : Nat), 0 < m.length → rc x i m j (i + j + m.length - 1) = x * m.getD (m.length - 1) 0
  | [y], j, _ => by
    show (if i + j = i + j + 1 - 1 then x * y else 0) + 0 = x * y
    rw [if_pos (by omega), Int.add_zero]
  | y :: z :: r, j, _ => by
    have ih := rc_top x i (z :: r) (j + 1) (Nat.succ_pos _)
    show (if i + j = i + j + (r.length + 1 + 1) - 1 then x * y else 0) + rc x i (z :: r) (j + 1) (i + j + (r.length + 1 + 1) - 1) = x * (y :: z :: r).getD (r.length + 1 + 1 - 1) 0
    rw [if_neg (by omega), Int.zero_add, show i + j + (r.length + 1 + 1) - 1 = i + (j + 1) + (z :: r).length - 1 by rw [List.length_cons]; omega, ih]
    rfl
def pdiv (m : List Int) (lead : Int) : Nat → List Int → List Int × List Int
  | 0, R => (R, [])
  | n + 1, R => ((pdiv m lead n (row (-((R.getD (n + m.length - 1) 0).fdiv lead)) n m 0 R)).1, (pdiv m lead n (row (-((R.getD (n + m.length - 1) 0).fdiv lead)) n m 0 R)).2 ++ [(R.getD (n + m.length - 1) 0).fdiv lead])
def ldiv (m : List Int) (lead : Int) : Nat → List Int → Option (List Int × List Int)
  | 0, L => some (L, [])
  | n + 1, L => if (L.getD (n + m.length - 1) 0).fdiv lead * lead = L.getD (n + m.length - 1) 0 then
      (ldiv m lead n ((row (-((L.getD (n + m.length - 1) 0).fdiv lead)) n m 0 L).take (n + m.length - 1))).map fun p => (p.1, p.2 ++ [(L.getD (n + m.length - 1) 0).fdiv lead])
    else none
theorem pdiv_length (m : List Int) (lead : Int) : ∀ (n : Nat) (R : List Int), (pdiv m lead n R).1.length = R.length ∧ (pdiv m lead n R).2.length = n
  | 0, R => ⟨rfl, rfl⟩
  | n + 1, R => by
    have ih := pdiv_length m lead n (row (-((R.getD (n + m.length - 1) 0).fdiv lead)) n m 0 R)
    refine ⟨ih.1.trans (row_length _ _ _ _ _), ?_⟩
    show ((pdiv m lead n _).2 ++ [_]).length = n + 1
    rw [List.length_append, ih.2]
    rfl
/-- what stands above is not touched -/
theorem pdiv_high (m : List Int) (lead : Int) (hm : 0 < m.length) : ∀ (n : Nat) (R : List Int) (k : Nat), n + m.length - 1 ≤ k → k < R.length → (pdiv m lead n R).1.getD k 0 = R.getD k 0
  | 0, _, _, _, _ => rfl
  | n + 1, R, k, h, hk => by
    show (pdiv m lead n _).1.getD k 0 = _
    rw [pdiv_high m lead hm n _ k (by omega) (by rw [row_length]; exact hk), row_get _ _ _ _ _ _ hk, rc_out _ _ _ _ _ (by omega), Int.add_zero]
theorem row_at_top {m R : List Int} {lead f : Int} {n : Nat} (hm : 0 < m.length) (hl : m.getD (m.length - 1) 0 = lead) (hR : n + m.length - 1 < R.length) : (row (-f) n m 0 R).getD (n + m.length - 1) 0 = R.getD (n + m.length - 1) 0 - f * lead := by
  have := rc_top (-f) n m 0 hm
  rw [Nat.add_zero, hl] at this
  rw [row_get _ _ _ _ _ _ hR, this, Int.neg_mul]
  omega
theorem getD_take {l : List Int} {k n : Nat} (h : k < n) : (l.take n).getD k 0 = l.getD k 0 := by
  rw [List.getD_eq_getElem?_getD, List.getD_eq_getElem?_getD, List.getElem?_take_of_lt h]
/-- both ways of dividing -/
theorem div_both (m : List Int) (lead : Int) (hm : 0 < m.length) (hl : m.getD (m.length - 1) 0 = lead) : ∀ (n : Nat) (R : List Int), n + m.length - 1 ≤ R.length →
    match ldiv m lead n (R.take (n + m.length - 1)) with
    | some (L, q) => (pdiv m lead n R).2 = q ∧ (pdiv m lead n R).1.take (m.length - 1) = L ∧ ∀ k, m.length - 1 ≤ k → k < n + m.length - 1 → (pdiv m lead n R).1.getD k 0 = 0
    | none => ∃ k, k < n + m.length - 1 ∧ (pdiv m lead n R).1.getD k 0 ≠ 0
  | 0, R, h => by
    rw [Nat.zero_add]
    exact ⟨rfl, rfl, fun k h1 h2 => absurd h1 (by omega)⟩
  | n + 1, R, h => by
    have e0 : n + 1 + m.length - 1 = n + m.length := by omega
    have hv : (R.take (n + 1 + m.length - 1)).getD (n + m.length - 1) 0 = R.getD (n + m.length - 1) 0 := getD_take (by omega)
    have hRt : n + m.length - 1 < R.length := by omega
    unfold ldiv
    rw [hv]
    by_cases he : (R.getD (n + m.length - 1) 0).fdiv lead * lead = R.getD (n + m.length - 1) 0
    · rw [if_pos he, ← row_take, List.take_take, show min (n + m.length - 1) (n + 1 + m.length - 1) = n + m.length - 1 by omega]
      have ih := div_both m lead hm hl n (row (-((R.getD (n + m.length - 1) 0).fdiv lead)) n m 0 R) (by rw [row_length]; omega)
      have top := row_at_top (f := (R.getD (n + m.length - 1) 0).fdiv lead) hm hl hRt
      have high := pdiv_high m lead hm n (row (-((R.getD (n + m.length - 1) 0).fdiv lead)) n m 0 R) (n + m.length - 1) (Nat.le_refl _) (by rw [row_length]; exact hRt)
      rw [top, he, Int.sub_self] at high
      cases hd : ldiv m lead n ((row (-((R.getD (n + m.length - 1) 0).fdiv lead)) n m 0 R).take (n + m.length - 1)) with
      | none =>
        rw [hd] at ih
        obtain ⟨k, h1, h2⟩ := ih
        exact ⟨k, by omega, h2⟩
      | some p =>
        rw [hd] at ih
        obtain ⟨L, q⟩ := p
        obtain ⟨h1, h2, h3⟩ := ih
        refine ⟨?_, h2, fun k k1 k2 => ?_⟩
        · show (pdiv m lead n _).2 ++ [_] = q ++ [_]
          rw [h1]
        · by_cases hk : k = n + m.length - 1
          · rw [hk]; exact high
          · exact h3 k k1 (by omega)
    · rw [if_neg he]
      refine ⟨n + m.length - 1, by omega, ?_⟩
      show (pdiv m lead n _).1.getD (n + m.length - 1) 0 ≠ 0
      rw [pdiv_high m lead hm n _ _ (Nat.le_refl _) (by rw [row_length]; exact hRt), row_at_top hm hl hRt]
      omega
end KP

namespace KP
open KM
/-! values and the zeros at the end; values of products and sums in lowest terms -/
theorem take_last {l : List Int} {n : Nat} (h : n < l.length) : l.take (n + 1) = l.take n ++ [l.getD n 0] := by
  rw [List.take_succ_eq_append_getElem h, List.getD_eq_getElem?_getD, List.getElem?_eq_getElem h]
  rfl
theorem hT_tn (t b : Int) (l : List Int) : ∀ n, n ≤ l.length → hT t b (l.take n) = hT t b (l.take (tn l n)) * b ^ (n - tn l n)
  | 0, _ => by simp [tn]
  | 1, _ => by simp [tn]
  | n + 2, h => by
    unfold tn
    by_cases hz : l.getD (n + 1) 0 = 0
    · rw [if_pos hz, take_last (by omega), hz, hT_append0, hT_tn t b l (n + 1) (by omega)]
      have := tn_le l (n + 1)
      rw [show n + 2 - tn l (n + 1) = (n + 1 - tn l (n + 1)) + 1 by omega, Int.pow_succ]
      grind
    · rw [if_neg hz]
      simp
theorem hT_trim (t b : Int) (l : List Int) : hT t b l = hT t b (trim l) * b ^ (l.length - (trim l).length) := by
  have := hT_tn t b l l.length (Nat.le_refl _)
  rw [List.take_length] at this
  have hl := tn_le l l.length
  unfold trim
  rw [List.length_take, Nat.min_eq_left hl]
  exact this
theorem lo_scale {T B c : Int} (hB : B ≠ 0) (hc : c ≠ 0) : lo1 (T * c) (B * c) = lo1 T B ∧ lo2 (T * c) (B * c) = lo2 T B :=
  lo_unique (Int.mul_ne_zero hB hc) (lo_spec (t := T) hB).2.2 (by
    have := lo_cross (T := T) hB
    grind)
theorem trim_le (l : List Int) : (trim l).length ≤ l.length := by
  unfold trim
  rw [List.length_take]
  exact Nat.min_le_right _ _
theorem lo_trim {t b : Int} (hb : b ≠ 0) (l : List Int) : lo1 (hT t b (trim l) * b) (b ^ (trim l).length) = lo1 (hT t b l * b) (b ^ l.length) ∧ lo2 (hT t b (trim l) * b) (b ^ (trim l).length) = lo2 (hT t b l * b) (b ^ l.length) := by
  have h1 : b ^ l.length = b ^ (trim l).length * b ^ (l.length - (trim l).length) := by
    rw [← Int.pow_add]
    congr 1
    have := trim_le l
    omega
  have h2 := hT_trim t b l
  have h3 : hT t b l * b = hT t b (trim l) * b * b ^ (l.length - (trim l).length) := by rw [h2]; grind
  have := lo_scale (T := hT t b (trim l) * b) (B := b ^ (trim l).length) (c := b ^ (l.length - (trim l).length)) (Int.pow_ne_zero hb) (Int.pow_ne_zero hb)
  rw [h1, h3]
  exact ⟨this.1.symm, this.2.symm⟩
/-- products -/
theorem lo_prod {t b : Int} (hb : b ≠ 0) {l m : List Int} (hl : 0 < l.length) (hm : 0 < m.length) :
    let h1 := lo1 (hT t b l * b) (b ^ l.length); let h2 := lo2 (hT t b l * b) (b ^ l.length)
    let g1 := lo1 (hT t b m * b) (b ^ m.length); let g2 := lo2 (hT t b m * b) (b ^ m.length)
    lo1 (hT t b (conv l m) * b) (b ^ (conv l m).length) = lo1 (h1 * g1) (h2 * g2) ∧ lo2 (hT t b (conv l m) * b) (b ^ (conv l m).length) = lo2 (h1 * g1) (h2 * g2) := by
  intro h1 h2 g1 g2
  have bl : b ^ l.length ≠ 0 := Int.pow_ne_zero hb
  have bm : b ^ m.length ≠ 0 := Int.pow_ne_zero hb
  have eh : h1 * b ^ l.length = hT t b l * b * h2 := lo_cross bl
  have eg : g1 * b ^ m.length = hT t b m * b * g2 := lo_cross bm
  have nh : h2 ≠ 0 := by have := (lo_spec (t := hT t b l * b) bl).2.2.1; show lo2 _ _ ≠ 0; omega
  have ng : g2 ≠ 0 := by have := (lo_spec (t := hT t b m * b) bm).2.2.1; show lo2 _ _ ≠ 0; omega
  have nn : h2 * g2 ≠ 0 := Int.mul_ne_zero nh ng
  obtain ⟨_, _, gd⟩ := lo_spec (t := h1 * g1) nn
  have ex : lo1 (h1 * g1) (h2 * g2) * (h2 * g2) = h1 * g1 * lo2 (h1 * g1) (h2 * g2) := lo_cross nn
  refine lo_unique (Int.pow_ne_zero hb) gd ?_
  rw [hT_conv t b hl hm, conv_length]
  have ep : b ^ l.length * b ^ m.length = b ^ (l.length + m.length - 1) * b := by
    rw [← Int.pow_add, ← Int.pow_succ]
    congr 1
    omega
  generalize lo1 (h1 * g1) (h2 * g2) = a at *
  generalize lo2 (h1 * g1) (h2 * g2) = c at *
  generalize b ^ (l.length + m.length - 1) = q at *
  generalize hT t b l = x at *
  generalize hT t b m = y at *
  generalize b ^ l.length = u at *
  generalize b ^ m.length = v at *
  refine Int.eq_of_mul_eq_mul_right (Int.mul_ne_zero nn hb) ?_
  calc x * y * b * c * (h2 * g2 * b) = (x * b * h2) * (y * b * g2) * c := by grind
    _ = (h1 * u) * (g1 * v) * c := by rw [eh, eg]
    _ = (h1 * g1 * c) * (u * v) := by grind
    _ = (a * (h2 * g2)) * (q * b) := by rw [ex, ep]
    _ = a * q * (h2 * g2 * b) := by grind
/-- sums -/
theorem lo_sum {t b : Int} (hb : b ≠ 0) {l m : List Int} :
    let h1 := lo1 (hT t b l * b) (b ^ l.length); let h2 := lo2 (hT t b l * b) (b ^ l.length)
    let g1 := lo1 (hT t b m * b) (b ^ m.length); let g2 := lo2 (hT t b m * b) (b ^ m.length)
    lo1 (hT t b (psum l m) * b) (b ^ (psum l m).length) = lo1 (h1 * g2 + 1 * g1 * h2) (h2 * g2) ∧ lo2 (hT t b (psum l m) * b) (b ^ (psum l m).length) = lo2 (h1 * g2 + 1 * g1 * h2) (h2 * g2) := by
  intro h1 h2 g1 g2
  have bl : b ^ l.length ≠ 0 := Int.pow_ne_zero hb
  have bm : b ^ m.length ≠ 0 := Int.pow_ne_zero hb
  have eh : h1 * b ^ l.length = hT t b l * b * h2 := lo_cross bl
  have eg : g1 * b ^ m.length = hT t b m * b * g2 := lo_cross bm
  have nh : h2 ≠ 0 := by have := (lo_spec (t := hT t b l * b) bl).2.2.1; show lo2 _ _ ≠ 0; omega
  have ng : g2 ≠ 0 := by have := (lo_spec (t := hT t b m * b) bm).2.2.1; show lo2 _ _ ≠ 0; omega
  have nn : h2 * g2 ≠ 0 := Int.mul_ne_zero nh ng
  obtain ⟨_, _, gd⟩ := lo_spec (t := h1 * g2 + 1 * g1 * h2) nn
  have ex : lo1 (h1 * g2 + 1 * g1 * h2) (h2 * g2) * (h2 * g2) = (h1 * g2 + 1 * g1 * h2) * lo2 (h1 * g2 + 1 * g1 * h2) (h2 * g2) := lo_cross nn
  refine lo_unique (Int.pow_ne_zero hb) gd ?_
  rw [hT_psum, psum_length]
  have e1 : b ^ max l.length m.length = b ^ (max l.length m.length - l.length) * b ^ l.length := by
    rw [← Int.pow_add]; congr 1; omega
  have e2 : b ^ max l.length m.length = b ^ (max l.length m.length - m.length) * b ^ m.length := by
    rw [← Int.pow_add]; congr 1; omega
  generalize lo1 (h1 * g2 + 1 * g1 * h2) (h2 * g2) = a at *
  generalize lo2 (h1 * g2 + 1 * g1 * h2) (h2 * g2) = c at *
  generalize b ^ (max l.length m.length - l.length) = p at *
  generalize b ^ (max l.length m.length - m.length) = q at *
  generalize b ^ max l.length m.length = w at *
  generalize hT t b l = x at *
  generalize hT t b m = y at *
  generalize b ^ l.length = u at *
  generalize b ^ m.length = v at *
  refine Int.eq_of_mul_eq_mul_right nn ?_
  calc (p * x + q * y) * b * c * (h2 * g2) = (p * (x * b * h2) * g2 + q * (y * b * g2) * h2) * c := by grind
    _ = (p * (h1 * u) * g2 + q * (g1 * v) * h2) * c := by rw [eh, eg]
    _ = ((p * u) * h1 * g2 + (q * v) * g1 * h2) * c := by grind
    _ = (w * h1 * g2 + w * g1 * h2) * c := by rw [← e1, ← e2]
    _ = (h1 * g2 + 1 * g1 * h2) * c * w := by grind
    _ = (a * (h2 * g2)) * w := by rw [ex]
    _ = a * w * (h2 * g2) := by grind
/-! zero -/
theorem rc_zero (x : Int) (i : Nat) (j k : Nat) : rc x i [0] j k = 0 := by
  simp [rc]
theorem cc_zero : ∀ (l : List Int) (i k : Nat), cc [0] 0 l i k = 0
  | [], _, _ => rfl
  | x :: r, i, k => by
    show rc x i [0] 0 k + cc [0] 0 r (i + 1) k = 0
    rw [rc_zero, cc_zero r]
    rfl
theorem tn_zero {l : List Int} (h : ∀ k, k < l.length → l.getD k 0 = 0) : ∀ n, 0 < n → n ≤ l.length → tn l n = 1
  | 1, _, _ => rfl
  | n + 2, _, hn => by
    unfold tn
    rw [if_pos (h (n + 1) (by omega))]
    exact tn_zero h (n + 1) (Nat.succ_pos _) (by omega)
theorem trim_zero {l : List Int} (hl : 0 < l.length) (h : ∀ k, k < l.length → l.getD k 0 = 0) : trim l = [0] := by
  unfold trim
  rw [tn_zero h l.length hl (Nat.le_refl _), take_last hl]
  rw [h 0 hl]
  rfl
theorem conv_zero {l : List Int} (hl : 0 < l.length) : trim (conv l [0]) = [0] := by
  refine trim_zero (by rw [conv_length]; simp; omega) fun k hk => ?_
  rw [conv_length] at hk
  rw [conv_get hk, cc_zero]
theorem psum_zero {l : List Int} (hl : Pol l) : trim (psum l [0]) = l := by
  have hp : 0 < l.length := by rcases hl with h | ⟨h, _⟩ <;> omega
  have : psum l [0] = l := by
    refine ext0 (by rw [psum_length]; simp; omega) fun k hk => ?_
    rw [psum_length] at hk
    rw [psum_get hk]
    cases k with
    | zero => simp
    | succ k => simp
  rw [this, trim_of_pol hl]
/-! sizes -/
theorem rc_le {m : List Int} {x : Int} {X C : Nat} (hx : x.natAbs ≤ X) (hC : ∀ y ∈ m, y.natAbs ≤ C) : ∀ (i j k : Nat), (rc x i m j k).natAbs ≤ X * C := by
  induction m with
  | nil => intro i j k; exact Nat.zero_le _
  | cons y r ih =>
    intro i j k
    show ((if i + j = k then x * y else 0) + rc x i r (j + 1) k).natAbs ≤ X * C
    by_cases e : i + j = k
    · have : ∀ (r : List Int) (j' : Nat), k < i + j' → rc x i r j' k = 0 := by
        intro r
        induction r with
        | nil => intro _ _; rfl
        | cons z r ih =>
          intro j' hj
          show (if i + j' = k then x * z else 0) + rc x i r (j' + 1) k = 0
          rw [if_neg (by omega), ih (j' + 1) (by omega)]
          rfl
      rw [if_pos e, this r (j + 1) (by omega), Int.add_zero, Int.natAbs_mul]
      exact Nat.mul_le_mul hx (hC y List.mem_cons_self)
    · rw [if_neg e, Int.zero_add]
      exact ih (fun z hz => hC z (List.mem_cons_of_mem _ hz)) i (j + 1) k
theorem cc_le {m : List Int} {X C : Nat} (hC : ∀ y ∈ m, y.natAbs ≤ C) : ∀ (l : List Int) (i k : Nat), (∀ x ∈ l, x.natAbs ≤ X) → (cc m 0 l i k).natAbs ≤ l.length * (X * C)
  | [], _, _, _ => Nat.zero_le _
  | x :: r, i, k, h => by
    show (rc x i m 0 k + cc m 0 r (i + 1) k).natAbs ≤ (r.length + 1) * (X * C)
    have h1 := rc_le (h x List.mem_cons_self) hC i 0 k
    have h2 := cc_le hC r (i + 1) k fun y hy => h y (List.mem_cons_of_mem _ hy)
    rw [Nat.add_mul, Nat.one_mul]
    have := Int.natAbs_add_le (rc x i m 0 k) (cc m 0 r (i + 1) k)
    omega
theorem mem_getD {l : List Int} {x : Int} (h : x ∈ l) : ∃ k, k < l.length ∧ l.getD k 0 = x := by
  obtain ⟨k, hk, e⟩ := List.mem_iff_getElem.mp h
  refine ⟨k, hk, ?_⟩
  rw [List.getD_eq_getElem?_getD, List.getElem?_eq_getElem hk]
  exact e
theorem conv_le {l m : List Int} {X C : Nat} (hl : ∀ x ∈ l, x.natAbs ≤ X) (hm : ∀ y ∈ m, y.natAbs ≤ C) : ∀ z ∈ conv l m, z.natAbs ≤ l.length * (X * C) := fun z hz => by
  obtain ⟨k, hk, e⟩ := mem_getD hz
  rw [conv_length] at hk
  rw [← e, conv_get hk]
  exact cc_le hm l 0 k hl
theorem getD_le' {l : List Int} {X : Nat} (h : ∀ x ∈ l, x.natAbs ≤ X) (k : Nat) : (l.getD k 0).natAbs ≤ X := by
  rw [List.getD_eq_getElem?_getD]
  cases q : l[k]? with
  | none => exact Nat.zero_le _
  | some x => exact h x (List.mem_of_getElem? q)
theorem psum_le {l m : List Int} {X C : Nat} (hl : ∀ x ∈ l, x.natAbs ≤ X) (hm : ∀ y ∈ m, y.natAbs ≤ C) : ∀ z ∈ psum l m, z.natAbs ≤ X + C := fun z hz => by
  obtain ⟨k, hk, e⟩ := mem_getD hz
  rw [psum_length] at hk
  rw [← e, psum_get hk]
  have := Int.natAbs_add_le (l.getD k 0) (m.getD k 0)
  have := getD_le' hl k
  have := getD_le' hm k
  omega
end KP

namespace K04
open PySem DF KM KP
abbrev pd (l : List Int) : D := .tup (l.map D.int)
abbrev ld (l : List Int) : D := .lst (l.map D.int)
theorem at_nat {l : List Int} {k : Nat} (h : k < l.length) : L2.atI (l.map D.int) (k : Int) = some (.int (l.getD k 0)) := by
  unfold L2.atI L2.ixN
  rw [if_pos (by omega), if_pos (by rw [List.length_map]; omega)]
  show (l.map D.int)[(k : Int).toNat]? = _
  rw [Int.toNat_natCast, List.getElem?_map, List.getElem?_eq_getElem h, List.getD_eq_getElem?_getD, List.getElem?_eq_getElem h]
  rfl
theorem at_last {l : List Int} (h : 0 < l.length) : L2.atI (l.map D.int) (-1) = some (.int (l.getD (l.length - 1) 0)) := by
  unfold L2.atI L2.ixN
  rw [if_neg (by omega), if_pos (by rw [List.length_map]; omega)]
  show (l.map D.int)[(-1 + ((l.map D.int).length : Int)).toNat]? = _
  rw [List.length_map, show (-1 + (l.length : Int)).toNat = l.length - 1 by omega, List.getElem?_map, List.getElem?_eq_getElem (by omega), List.getD_eq_getElem?_getD, List.getElem?_eq_getElem (by omega)]
  rfl
/-! ### the zeros at the end, by a count -/
def trT : DEnv → DF.R Bool := dAnd (dTst (dBin gtD (oVar 1) (oD (dC (.int 1))))) (dTst (dBin eqD1 (oD (dBin ixD (oVar 0) (oD (dBin subD (oVar 1) (oD (dC (.int 1))))))) (oD (dC (.int 0)))))
def trB : DEnv → SR := dSet 1 (dBin subD (oVar 1) (oD (dC (.int 1))))
theorem trT_ap {l : List Int} {n : Nat} (h : n ≤ l.length) : trT [some (.mu true (ld l)), some (.val (.int (n : Int)))] = .ok [some (.mu true (ld l)), some (.val (.int (n : Int)))] (decide (1 < n) && decide (l.getD (n - 1) 0 = 0)) := by
  by_cases h1 : 1 < n
  · have e : ((n : Int) - 1) = ((n - 1 : Nat) : Int) := by omega
    have h1' : (1 : Int) < (n : Int) := by omega
    have ha := at_nat (l := l) (k := n - 1) (by omega)
    simp [trT, dAnd_ap, dTst_ap, dBin_ap, oVar_ap, oD_ap, dC_ap, DF.R.bind_ok, ofO, look, gtD_ap, subD_ap, ixD, h1, h1', e, ha, eq_int]
  · have h1' : ¬ (1 : Int) < (n : Int) := by omega
    simp [trT, dAnd_ap, dTst_ap, dBin_ap, oVar_ap, oD_ap, dC_ap, DF.R.bind_ok, ofO, look, gtD_ap, h1, h1']
theorem trB_ap (c : Option Cell) (n : Nat) (h : 0 < n) : trB [c, some (.val (.int (n : Int)))] = .nx [c, some (.val (.int ((n - 1 : Nat) : Int)))] := by
  have e : ((n : Int) - 1) = ((n - 1 : Nat) : Int) := by omega
  simp [trB, dSet_ap, dBin_ap, oVar_ap, oD_ap, dC_ap, DF.R.bind_ok, DF.R.bindS_ok, ofO, look, subD_ap, setV, free, e]
theorem tr_loop (l : List Int) : ∀ (f n : Nat), n ≤ l.length → n < f → dWhile trT trB f [some (.mu true (ld l)), some (.val (.int (n : Int)))] = .nx [some (.mu true (ld l)), some (.val (.int ((tn l n : Nat) : Int)))]
  | 0, n, _, h => absurd h (Nat.not_lt_zero _)
  | f + 1, 0, h1, _ => by
    rw [dWhile_succ, trT_ap h1, DF.R.bindS_ok]
    rfl
  | f + 1, 1, h1, _ => by
    rw [dWhile_succ, trT_ap h1, DF.R.bindS_ok]
    rfl
  | f + 1, n + 2, h1, h2 => by
    rw [dWhile_succ, trT_ap h1, DF.R.bindS_ok, decide_eq_true (show 1 < n + 2 by omega), Bool.true_and]
    unfold tn
    by_cases hz : l.getD (n + 1) 0 = 0
    · rw [decide_eq_true (show l.getD (n + 2 - 1) 0 = 0 from hz), if_pos hz]
      dsimp only
      rw [trB_ap _ _ (by omega)]
      exact tr_loop l f (n + 1) (by omega) (by omega)
    · rw [decide_eq_false (show ¬ l.getD (n + 2 - 1) 0 = 0 from hz), if_neg hz]
theorem cut_to {l : List Int} {n : Nat} (h : n ≤ l.length) : cutD (l.map D.int) none (some (n : Int)) = (l.take n).map D.int := by
  unfold cutD
  rw [HT.sIx_none, HT.sIx_nat, List.length_map, Nat.min_eq_left h, List.drop_zero, Nat.sub_zero, List.map_take]
theorem e_trimmed (l : List Int) (h : l.length < 1000) : F_trimmed [(true, ld l)] = .ret false (pd (trim l)) [ld l] := by
  have e := tr_loop l (fuel [(true, ld l)]) l.length (Nat.le_refl _) (by simp [fuel]; omega)
  have hs : startE 2 [(true, ld l)] = [some (.mu true (ld l)), none] := rfl
  have e1 : dSet 1 (dCal lenD (aCons (oVar 0) (aNil))) [some (.mu true (ld l)), none] = .nx [some (.mu true (ld l)), some (.val (.int (l.length : Int)))] := by
    simp [dSet_ap, dCal_ap, aCons_ap, aNil_ap, oVar_ap, DF.R.bind_ok, DF.R.bindS_ok, ofO, ths, look, lenD, setV, free]
  have e2 : dRet (dCal tupD (aCons (oD (dSl (oVar 0) (pNo) (pInt (dVar 1)))) (aNil))) [some (.mu true (ld l)), some (.val (.int ((tn l l.length : Nat) : Int)))] = .ret [some (.mu true (ld l)), some (.val (.int ((tn l l.length : Nat) : Int)))] false (pd (trim l)) := by
    have hc := cut_to (l := l) (tn_le l l.length)
    simp [dRet_ap, dCal_ap, aCons_ap, aNil_ap, oD_ap, dSl, pNo, pInt, dVar_ap, oVar_ap, DF.R.bind_ok, DF.R.bindS_ok, ofO, ths, look, slO, hc, tupD, trim]
  unfold F_trimmed B_trimmed
  rw [show (dWhile (dAnd (dTst (dBin gtD (oVar 1) (oD (dC (.int 1))))) (dTst (dBin eqD1 (oD (dBin ixD (oVar 0) (oD (dBin subD (oVar 1) (oD (dC (.int 1))))))) (oD (dC (.int 0)))))) (dSet 1 (dBin subD (oVar 1) (oD (dC (.int 1)))))) = dWhile trT trB from rfl]
  rw [hs, dSeq_ap, e1, SR.bind_nx, dSeq_ap, e, SR.bind_nx, e2]
  rfl
/-! ### the zeros at the end, taken off one by one -/
def ppT (i : Nat) : DEnv → DF.R Bool := dAnd (dTst (dBin gtD (oD (dCal lenD (aCons (oVar i) (aNil)))) (oD (dC (.int 1))))) (dTst (dBin eqD1 (oD (dBin ixD (oVar i) (oD (dUn negD (oD (dC (.int 1))))))) (oD (dC (.int 0)))))
theorem ppT_ap {ρ : DEnv} {i : Nat} {b : Bool} {l : List Int} (hr : ρ[i]? = some (some (.mu b (ld l)))) : ppT i ρ = .ok ρ (decide (1 < l.length) && decide (l.getD (l.length - 1) 0 = 0)) := by
  by_cases h1 : 1 < l.length
  · have h1' : (1 : Int) < (l.length : Int) := by omega
    have ha := at_last (l := l) (by omega)
    simp [ppT, dAnd_ap, dTst_ap, dBin_ap, dCal_ap, aCons_ap, aNil_ap, dUn_ap, oVar_ap, oD_ap, dC_ap, DF.R.bind_ok, ofO, ths, look, gtD_ap, negD_ap, lenD, ixD, hr, h1, h1', ha, eq_int]
  · have h1' : ¬ (1 : Int) < (l.length : Int) := by omega
    simp [ppT, dAnd_ap, dTst_ap, dBin_ap, dCal_ap, aCons_ap, aNil_ap, dUn_ap, oVar_ap, oD_ap, dC_ap, DF.R.bind_ok, ofO, ths, look, gtD_ap, lenD, hr, h1, h1']
theorem pop_ap {ρ : DEnv} {i : Nat} {b : Bool} {l : List Int} (hr : ρ[i]? = some (some (.mu b (ld l)))) (h : 0 < l.length) : dPop i ρ = .nx (ρ.set i (some (.mu b (ld l.dropLast)))) := by
  unfold dPop
  have hm : muL i ρ = some (b, l.map D.int) := by unfold muL; rw [hr]
  rw [hm]
  dsimp only
  rw [if_neg (by rw [List.length_map]; omega), ← List.map_dropLast]
theorem tn_take (l : List Int) : ∀ n k, n ≤ k → tn (l.take k) n = tn l n
  | 0, _, _ => rfl
  | 1, _, _ => rfl
  | n + 2, k, h => by
    unfold tn
    rw [getD_take (by omega), tn_take l (n + 1) k (by omega)]
theorem trim_drop {l : List Int} (h : 1 < l.length) (hz : l.getD (l.length - 1) 0 = 0) : trim l.dropLast = trim l := by
  obtain ⟨n, hn⟩ : ∃ n, l.length = n + 2 := ⟨l.length - 2, by omega⟩
  rw [hn] at hz
  have hz' : l.getD (n + 1) 0 = 0 := hz
  have ht := tn_le l (n + 1)
  unfold trim
  rw [List.dropLast_eq_take, List.length_take, hn, show min (n + 2 - 1) (n + 2) = n + 1 by omega, show n + 2 - 1 = n + 1 by omega, tn_take l (n + 1) (n + 1) (Nat.le_refl _), List.take_take]
  conv => rhs; unfold tn
  rw [if_pos hz', Nat.min_eq_left ht]
theorem pop_loop (i : Nat) (b : Bool) : ∀ (f : Nat) (l : List Int) (ρ : DEnv), ρ[i]? = some (some (.mu b (ld l))) → l.length < f → dWhile (ppT i) (dPop i) f ρ = .nx (ρ.set i (some (.mu b (ld (trim l)))))
  | 0, _, _, _, h => absurd h (Nat.not_lt_zero _)
  | f + 1, l, ρ, hr, h => by
    rw [dWhile_succ, ppT_ap hr, DF.R.bindS_ok]
    have hi : i < ρ.length := (List.getElem?_eq_some_iff.mp hr).1
    have hself : ρ.set i (some (.mu b (ld l))) = ρ := by
      apply List.ext_getElem?
      intro j
      by_cases e : i = j
      · subst e; rw [List.getElem?_set_self hi, hr]
      · rw [List.getElem?_set_ne e]
    by_cases h1 : 1 < l.length
    · by_cases hz : l.getD (l.length - 1) 0 = 0
      · rw [decide_eq_true h1, decide_eq_true hz, Bool.true_and]
        dsimp only
        rw [pop_ap hr (by omega)]
        dsimp only
        rw [pop_loop i b f l.dropLast _ (List.getElem?_set_self hi) (by rw [List.length_dropLast]; omega), List.set_set, trim_drop h1 hz]
      · rw [decide_eq_false hz, Bool.and_false]
        dsimp only
        rw [trim_of_pol (.inr ⟨h1, hz⟩), hself]
    · rw [decide_eq_false h1, Bool.false_and]
      dsimp only
      have : trim l = l := by
        by_cases h0 : l.length = 1
        · exact trim_of_pol (.inl h0)
        · have : l = [] := List.eq_nil_of_length_eq_zero (by omega)
          subst this
          rfl
      rw [this, hself]
end K04

namespace K04
open PySem DF KM KP
theorem sEnT_ap (f : DEnv → DF.R (List D)) (ρ : DEnv) : sEnT f ρ = (f ρ).bind fun l ρ' => match l with
  | [.tup m] => .ok ρ' (enD 0 m)
  | _ => .no := rfl
def Vc (c : Option Cell) : Prop := c = none ∨ ∃ d, c = some (.val d)
theorem ix_nat {l : List D} {k : Nat} (h : k < l.length) : L2.ixN l.length (k : Int) = some k := by
  unfold L2.ixN
  rw [if_pos (by omega), if_pos (by omega), Int.toNat_natCast]
/-- one number is added at a place -/
theorem seti_ap {ρ : DEnv} {s : Nat} {b : Bool} {T : List Int} {k : Nat} {v : Int} {fk f : DEnv → DF.R D} (hr : ρ[s]? = some (some (.mu b (ld T)))) (hk : k < T.length) (h1 : f ρ = .ok ρ (.int v)) (h2 : fk ρ = .ok ρ (.int (k : Int))) : dSetI s fk f ρ = .nx (ρ.set s (some (.mu b (ld (T.set k v))))) := by
  have hm : muL s ρ = some (b, T.map D.int) := by unfold muL; rw [hr]
  have hx := ix_nat (l := T.map D.int) (k := k) (by rw [List.length_map]; exact hk)
  rw [dSetI_ap, h1, DF.R.bindS_ok, hm]
  dsimp only
  rw [h2, DF.R.bindS_ok, hm]
  dsimp only
  rw [hx]
  dsimp only
  rw [← List.map_set]
def ipB : DEnv → SR := dSetI 2 (dBin addD (oVar 3) (oVar 5)) (dBin addD (oD (dBin ixD (oVar 2) (oD (dBin addD (oVar 3) (oVar 5))))) (oD (dBin mulD (oVar 4) (oVar 6))))
def ipG : Tg := gTp 2 (gsCons (setV 5) (gsCons (setV 6) (gsNil)))
theorem ip_step {c0 c1 : Option Cell} {rest : DEnv} {T : List Int} {i j : Nat} {x y : Int} (h : i + j < T.length) (hm : cMul x y = true) :
    ipB (c0 :: c1 :: some (.mu false (ld T)) :: some (.val (.int (i : Int))) :: some (.val (.int x)) :: some (.val (.int (j : Int))) :: some (.val (.int y)) :: rest) =
      .nx (c0 :: c1 :: some (.mu false (ld (add1 T (i + j) (x * y)))) :: some (.val (.int (i : Int))) :: some (.val (.int x)) :: some (.val (.int (j : Int))) :: some (.val (.int y)) :: rest) := by
  have ha := at_nat h
  have e : (i : Int) + (j : Int) = ((i + j : Nat) : Int) := by omega
  unfold ipB add1
  rw [seti_ap (b := false) (T := T) (k := i + j) (v := T.getD (i + j) 0 + x * y) rfl h]
  · rfl
  · simp only [dBin_ap, oVar_ap, oD_ap, DF.R.bind_ok, ofO, look, List.getElem?_cons_zero, List.getElem?_cons_succ, addD_ap, e, ixD, ha, mulD_ap hm]
  · simp only [dBin_ap, oVar_ap, DF.R.bind_ok, ofO, look, List.getElem?_cons_zero, List.getElem?_cons_succ, addD_ap, e]
theorem ipG_ap {c0 c1 c2 c3 c4 c5 c6 : Option Cell} {rest : DEnv} {a b : D} (h5 : Vc c5) (h6 : Vc c6) : ipG (.tup [a, b]) (c0 :: c1 :: c2 :: c3 :: c4 :: c5 :: c6 :: rest) = some (c0 :: c1 :: c2 :: c3 :: c4 :: some (.val a) :: some (.val b) :: rest) := by
  rcases h5 with rfl | ⟨d5, rfl⟩ <;> rcases h6 with rfl | ⟨d6, rfl⟩ <;> simp [ipG, gTp, gsCons, gsNil, setV, free]
theorem ip_loop {c0 c1 : Option Cell} {rest : DEnv} {i : Nat} {x : Int} (hx : Sm x) : ∀ (m : List Int) (j : Nat) (T : List Int) (c5 c6 : Option Cell), Vc c5 → Vc c6 → (∀ y ∈ m, Sm y) → i + j + m.length ≤ T.length →
    ∃ c5' c6', Vc c5' ∧ Vc c6' ∧ dFor ipG ipB (enD j (m.map D.int)) (c0 :: c1 :: some (.mu false (ld T)) :: some (.val (.int (i : Int))) :: some (.val (.int x)) :: c5 :: c6 :: rest) =
      .nx (c0 :: c1 :: some (.mu false (ld (row x i m j T))) :: some (.val (.int (i : Int))) :: some (.val (.int x)) :: c5' :: c6' :: rest)
  | [], j, T, c5, c6, h5, h6, _, _ => ⟨c5, c6, h5, h6, rfl⟩
  | y :: r, j, T, c5, c6, h5, h6, hy, h => by
    rw [List.length_cons] at h
    obtain ⟨c5', c6', g5, g6, e⟩ := ip_loop (c0 := c0) (c1 := c1) (rest := rest) (i := i) hx r (j + 1) (add1 T (i + j) (x * y)) (some (.val (.int (j : Int)))) (some (.val (.int y))) (.inr ⟨_, rfl⟩) (.inr ⟨_, rfl⟩) (fun z hz => hy z (List.mem_cons_of_mem _ hz)) (by rw [add1_length]; omega)
    refine ⟨c5', c6', g5, g6, ?_⟩
    rw [List.map_cons]
    unfold enD dFor
    rw [ipG_ap h5 h6]
    dsimp only
    rw [ip_step (by omega) (cm hx (hy y List.mem_cons_self))]
    exact e
/-- the outer loop -/
def opG : Tg := gTp 2 (gsCons (setV 3) (gsCons (setV 4) (gsNil)))
def opB : DEnv → SR := dForS (sEnT (vCons (dVar 1) (vNil))) ipG ipB
theorem opG_ap {c0 c1 c2 c3 c4 : Option Cell} {rest : DEnv} {a b : D} (h5 : Vc c3) (h6 : Vc c4) : opG (.tup [a, b]) (c0 :: c1 :: c2 :: c3 :: c4 :: rest) = some (c0 :: c1 :: c2 :: some (.val a) :: some (.val b) :: rest) := by
  rcases h5 with rfl | ⟨d5, rfl⟩ <;> rcases h6 with rfl | ⟨d6, rfl⟩ <;> simp [opG, gTp, gsCons, gsNil, setV, free]
theorem op_loop {c0 : Option Cell} {rest : DEnv} {m : List Int} (hm : ∀ y ∈ m, Sm y) : ∀ (l : List Int) (i : Nat) (T : List Int) (c3 c4 c5 c6 : Option Cell), Vc c3 → Vc c4 → Vc c5 → Vc c6 → (∀ y ∈ l, Sm y) → i + l.length + m.length ≤ T.length + 1 →
    ∃ c3' c4' c5' c6', Vc c3' ∧ Vc c4' ∧ Vc c5' ∧ Vc c6' ∧ dFor opG opB (enD i (l.map D.int)) (c0 :: some (.val (pd m)) :: some (.mu false (ld T)) :: c3 :: c4 :: c5 :: c6 :: rest) =
      .nx (c0 :: some (.val (pd m)) :: some (.mu false (ld (convGo m l i T))) :: c3' :: c4' :: c5' :: c6' :: rest)
  | [], i, T, c3, c4, c5, c6, h3, h4, h5, h6, _, _ => ⟨c3, c4, c5, c6, h3, h4, h5, h6, rfl⟩
  | x :: r, i, T, c3, c4, c5, c6, h3, h4, h5, h6, hl, h => by
    rw [List.length_cons] at h
    obtain ⟨c5', c6', g5, g6, e1⟩ := ip_loop (c0 := c0) (c1 := some (.val (pd m))) (rest := rest) (i := i) (hl x List.mem_cons_self) m 0 T c5 c6 h5 h6 hm (by omega)
    obtain ⟨d3, d4, d5, d6, k3, k4, k5, k6, e2⟩ := op_loop (c0 := c0) (rest := rest) hm r (i + 1) (row x i m 0 T) (some (.val (.int (i : Int)))) (some (.val (.int x))) c5' c6' (.inr ⟨_, rfl⟩) (.inr ⟨_, rfl⟩) g5 g6 (fun z hz => hl z (List.mem_cons_of_mem _ hz)) (by rw [row_length]; omega)
    refine ⟨d3, d4, d5, d6, k3, k4, k5, k6, ?_⟩
    rw [List.map_cons]
    unfold enD dFor
    rw [opG_ap h3 h4]
    dsimp only
    have e3 : opB (c0 :: some (.val (pd m)) :: some (.mu false (ld T)) :: some (.val (.int (i : Int))) :: some (.val (.int x)) :: c5 :: c6 :: rest) = .nx (c0 :: some (.val (pd m)) :: some (.mu false (ld (row x i m 0 T))) :: some (.val (.int (i : Int))) :: some (.val (.int x)) :: c5' :: c6' :: rest) := by
      unfold opB
      rw [dForS_ap, sEnT_ap]
      simp only [vCons_ap, vNil_ap, dVar_ap, DF.R.bind_ok, List.getElem?_cons_zero, List.getElem?_cons_succ, DF.R.bindS_ok]
      exact e1
    rw [e3]
    exact e2
end K04

namespace K04
open PySem DF KM KP
theorem k_ii : L2.kitB "int" "int" = some true := rfl
theorem k_ib : L2.kitB "int" "bool" = some false := rfl
theorem k_tt : L2.kitB "tuple" "tuple" = some true := rfl
theorem e_long (i : Int) : F_is_long_integer [(false, .int i)] = .ret false (.bl true) [] := by
  unfold F_is_long_integer B_is_long_integer
  simp [dC_ap, dVar_ap, oVar_ap, oD_ap, aNil_ap, aCons_ap, vNil_ap, vCons_ap, dBin_ap, dTst_ap, dUn_ap, dCal_ap, dSeq_ap, dNever_ap, dIf_ap, dRet_ap, dRetF_ap, dRetN_ap, dRetV_ap, dExpr_ap, dSet_ap, dSetF_ap, gsNil_ap, gsCons_ap, gTp_ap, dAsg_ap, sLst_ap, sTup_ap, sRng1_ap, sRng2_ap, dForS_ap, dTru_ap, dAnd_ap, dOr_ap, dNot_ap, dAndV_ap, dOrV_ap, dNotV_ap, dIte_ap, dChain_ap, dTup_ap, dLst_ap, dApp_ap, dSetI_ap, rNil_ap, rVal_ap, rIo_ap, dCal2_ap, dV_ap, dN_ap, tYesB_ap, dLc_ap, dIsi_ap, dPar_ap, dDic0_ap, dPar3_ap, DF.R.bind_ok, DF.R.bindS_ok, DF.R.bindN_ok, DF.SR.bind_nx, DF.SR.bind_ret, ofO, ths, setV, setF, free, set2, set3, fnRes, startE, startC, outs, argsD, putD, ioIx, isMu, look, muL, ltD_ap, leD_ap, gtD_ap, geD_ap, addD_ap, subD_ap, negD_ap, absD_ap, intD_ap, intD_apB, eq_int, ne_int, ixD, L2.atI, L2.ixN, lenD, gcdD, max2D, min2D, isiD, tyN, k_ii, k_ib]
theorem e_isint (i : Int) : F_is_integer [(false, .int i)] = .ret false (.bl (decide (i.natAbs ≤ 999999999999999999999999999999999999999999999999999999999999))) [] := by
  unfold F_is_integer B_is_integer
  simp [dC_ap, dVar_ap, oVar_ap, oD_ap, aNil_ap, aCons_ap, vNil_ap, vCons_ap, dBin_ap, dTst_ap, dUn_ap, dCal_ap, dSeq_ap, dNever_ap, dIf_ap, dRet_ap, dRetF_ap, dRetN_ap, dRetV_ap, dExpr_ap, dSet_ap, dSetF_ap, gsNil_ap, gsCons_ap, gTp_ap, dAsg_ap, sLst_ap, sTup_ap, sRng1_ap, sRng2_ap, dForS_ap, dTru_ap, dAnd_ap, dOr_ap, dNot_ap, dAndV_ap, dOrV_ap, dNotV_ap, dIte_ap, dChain_ap, dTup_ap, dLst_ap, dApp_ap, dSetI_ap, rNil_ap, rVal_ap, rIo_ap, dCal2_ap, dV_ap, dN_ap, tYesB_ap, dLc_ap, dIsi_ap, dPar_ap, dDic0_ap, dPar3_ap, DF.R.bind_ok, DF.R.bindS_ok, DF.R.bindN_ok, DF.SR.bind_nx, DF.SR.bind_ret, ofO, ths, setV, setF, free, set2, set3, fnRes, startE, startC, outs, argsD, putD, ioIx, isMu, look, muL, ltD_ap, leD_ap, gtD_ap, geD_ap, addD_ap, subD_ap, negD_ap, absD_ap, intD_ap, intD_apB, eq_int, ne_int, ixD, L2.atI, L2.ixN, lenD, gcdD, max2D, min2D, e_long]
  omega
/-- a polynomial within the bounds -/
structure Pl (l : List Int) : Prop where
  pol : Pol l
  len : l.length ≤ 41
  sm : ∀ x ∈ l, x.natAbs ≤ 999999999999999999999999999999999999999999999999999999999999
theorem Pl.pos {l : List Int} (h : Pl l) : 0 < l.length := by
  rcases h.pol with h | ⟨h, _⟩ <;> omega
theorem Pl.s {l : List Int} (h : Pl l) : ∀ x ∈ l, Sm x := fun x hx => sm_of (by have := h.sm x hx; omega)
def piE : DEnv → DF.R D := dV (dCal2 1 F_is_integer (rVal (dVar 1) (rNil)))
theorem pi_loop (c0 : Option Cell) : ∀ (l : List Int) (acc : List D), (∀ x ∈ l, x.natAbs ≤ 999999999999999999999999999999999999999999999999999999999999) → acc.length + l.length ≤ 1000 → dLcGo (setV 1) tYesB piE [1] (l.map D.int) acc [c0, none] = .ok [c0, none] (.lst (acc ++ (l.map fun _ => D.bl true)))
  | [], acc, _, _ => by simp [dLcGo]
  | x :: r, acc, h, hl => by
    rw [List.length_cons] at hl
    have ih := pi_loop c0 r (acc ++ [.bl true]) (fun y hy => h y (List.mem_cons_of_mem _ hy)) (by rw [List.length_append, List.length_singleton]; omega)
    have e : piE [c0, some (.val (.int x))] = .ok [c0, some (.val (.int x))] (.bl true) := by
      have := e_isint x
      rw [decide_eq_true (h x List.mem_cons_self)] at this
      simp [piE, dC_ap, dVar_ap, oVar_ap, oD_ap, aNil_ap, aCons_ap, vNil_ap, vCons_ap, dBin_ap, dTst_ap, dUn_ap, dCal_ap, dSeq_ap, dNever_ap, dIf_ap, dRet_ap, dRetF_ap, dRetN_ap, dRetV_ap, dExpr_ap, dSet_ap, dSetF_ap, gsNil_ap, gsCons_ap, gTp_ap, dAsg_ap, sLst_ap, sTup_ap, sRng1_ap, sRng2_ap, dForS_ap, dTru_ap, dAnd_ap, dOr_ap, dNot_ap, dAndV_ap, dOrV_ap, dNotV_ap, dIte_ap, dChain_ap, dTup_ap, dLst_ap, dApp_ap, dSetI_ap, rNil_ap, rVal_ap, rIo_ap, dCal2_ap, dV_ap, dN_ap, tYesB_ap, dLc_ap, dIsi_ap, dPar_ap, dDic0_ap, dPar3_ap, DF.R.bind_ok, DF.R.bindS_ok, DF.R.bindN_ok, DF.SR.bind_nx, DF.SR.bind_ret, ofO, ths, setV, setF, free, set2, set3, fnRes, startE, startC, outs, argsD, putD, ioIx, isMu, look, muL, ltD_ap, leD_ap, gtD_ap, geD_ap, addD_ap, subD_ap, negD_ap, absD_ap, intD_ap, intD_apB, eq_int, ne_int, ixD, L2.atI, L2.ixN, lenD, gcdD, max2D, min2D, this]
    have hl' : acc.length < 16000000 := by omega
    rw [List.map_cons, List.map_cons]
    unfold dLcGo
    simp [setV, free, tYesB, R.bindN_ok, e, noMu, wipeE, hl']
    rw [List.append_assoc] at ih
    simpa using ih
theorem bls_true (l : List Int) : bls (l.map fun _ => D.bl true) = some (l.map fun _ => true) := by
  have := bls_map (l.map fun _ => true)
  rw [List.map_map] at this
  exact this
theorem e_poly {l : List Int} (h : Pl l) : F_is_polynomial [(false, pd l)] = .ret false (.bl true) [] := by
  have hpos := h.pos
  have hlen := h.len
  have e := pi_loop (some (.val (pd l))) l [] h.sm (by simp; omega)
  rw [List.nil_append] at e
  have ha : allD [.lst (l.map fun _ => D.bl true)] = some (.bl true) := by
    unfold allD
    dsimp only
    rw [show DF.listOf (.lst (l.map fun _ => D.bl true)) = some (l.map fun _ => D.bl true) from rfl]
    dsimp only
    rw [bls_true]
    simp
  have hs : startE 2 [(false, pd l)] = [some (.val (pd l)), none] := rfl
  have h1 : (1 : Int) ≤ (l.length : Int) := by omega
  have h2 : (l.length : Int) ≤ 41 := by omega
  have s0 : (dIf (dOr (dNot (dTst (dIsi "tuple" (oVar 0)))) (dNot (dTst (dChain leD leD (oD (dC (.int 1))) (oD (dCal lenD (aCons (oVar 0) (aNil)))) (oD (dBin addD (oD (dC (.int 40))) (oD (dC (.int 1))))))))) (dRet (dC (.bl false))) (SR.nx)) [some (.val (pd l)), none] = .nx [some (.val (pd l)), none] := by
    simp [dC_ap, dVar_ap, oVar_ap, oD_ap, aNil_ap, aCons_ap, vNil_ap, vCons_ap, dBin_ap, dTst_ap, dUn_ap, dCal_ap, dSeq_ap, dNever_ap, dIf_ap, dRet_ap, dRetF_ap, dRetN_ap, dRetV_ap, dExpr_ap, dSet_ap, dSetF_ap, gsNil_ap, gsCons_ap, gTp_ap, dAsg_ap, sLst_ap, sTup_ap, sRng1_ap, sRng2_ap, dForS_ap, dTru_ap, dAnd_ap, dOr_ap, dNot_ap, dAndV_ap, dOrV_ap, dNotV_ap, dIte_ap, dChain_ap, dTup_ap, dLst_ap, dApp_ap, dSetI_ap, rNil_ap, rVal_ap, rIo_ap, dCal2_ap, dV_ap, dN_ap, tYesB_ap, dLc_ap, dIsi_ap, dPar_ap, dDic0_ap, dPar3_ap, DF.R.bind_ok, DF.R.bindS_ok, DF.R.bindN_ok, DF.SR.bind_nx, DF.SR.bind_ret, ofO, ths, setV, setF, free, set2, set3, fnRes, startE, startC, outs, argsD, putD, ioIx, isMu, look, muL, ltD_ap, leD_ap, gtD_ap, geD_ap, addD_ap, subD_ap, negD_ap, absD_ap, intD_ap, intD_apB, eq_int, ne_int, ixD, L2.atI, L2.ixN, lenD, gcdD, max2D, min2D, isiD, tyN, k_tt, h1, h2]
  have s1 : (dIf (dNot (dTst (dCal allD (aCons (oD (dLc (sTup (dVar 0)) (setV 1) (tYesB) (dV (dCal2 1 F_is_integer (rVal (dVar 1) (rNil)))) [1])) (aNil))))) (dRet (dC (.bl false))) (SR.nx)) [some (.val (pd l)), none] = .nx [some (.val (pd l)), none] := by
    rw [show (dV (dCal2 1 F_is_integer (rVal (dVar 1) (rNil)))) = piE from rfl]
    simp [dC_ap, dVar_ap, oVar_ap, oD_ap, aNil_ap, aCons_ap, vNil_ap, vCons_ap, dBin_ap, dTst_ap, dUn_ap, dCal_ap, dSeq_ap, dNever_ap, dIf_ap, dRet_ap, dRetF_ap, dRetN_ap, dRetV_ap, dExpr_ap, dSet_ap, dSetF_ap, gsNil_ap, gsCons_ap, gTp_ap, dAsg_ap, sLst_ap, sTup_ap, sRng1_ap, sRng2_ap, dForS_ap, dTru_ap, dAnd_ap, dOr_ap, dNot_ap, dAndV_ap, dOrV_ap, dNotV_ap, dIte_ap, dChain_ap, dTup_ap, dLst_ap, dApp_ap, dSetI_ap, rNil_ap, rVal_ap, rIo_ap, dCal2_ap, dV_ap, dN_ap, tYesB_ap, dLc_ap, dIsi_ap, dPar_ap, dDic0_ap, dPar3_ap, DF.R.bind_ok, DF.R.bindS_ok, DF.R.bindN_ok, DF.SR.bind_nx, DF.SR.bind_ret, ofO, ths, setV, setF, free, set2, set3, fnRes, startE, startC, outs, argsD, putD, ioIx, isMu, look, muL, ltD_ap, leD_ap, gtD_ap, geD_ap, addD_ap, subD_ap, negD_ap, absD_ap, intD_ap, intD_apB, eq_int, ne_int, ixD, L2.atI, L2.ixN, lenD, gcdD, max2D, min2D, noMu, wipeE, e, ha]
  have s2 : (dRet (dOrV (dBin eqD1 (oD (dCal lenD (aCons (oVar 0) (aNil)))) (oD (dC (.int 1)))) (dBin neD1 (oD (dBin ixD (oVar 0) (oD (dUn negD (oD (dC (.int 1))))))) (oD (dC (.int 0)))))) [some (.val (pd l)), none] = .ret [some (.val (pd l)), none] false (.bl true) := by
    have hat := at_last (l := l) hpos
    unfold L2.atI L2.ixN at hat
    by_cases hl1 : l.length = 1
    · simp [dC_ap, dVar_ap, oVar_ap, oD_ap, aNil_ap, aCons_ap, vNil_ap, vCons_ap, dBin_ap, dTst_ap, dUn_ap, dCal_ap, dSeq_ap, dNever_ap, dIf_ap, dRet_ap, dRetF_ap, dRetN_ap, dRetV_ap, dExpr_ap, dSet_ap, dSetF_ap, gsNil_ap, gsCons_ap, gTp_ap, dAsg_ap, sLst_ap, sTup_ap, sRng1_ap, sRng2_ap, dForS_ap, dTru_ap, dAnd_ap, dOr_ap, dNot_ap, dAndV_ap, dOrV_ap, dNotV_ap, dIte_ap, dChain_ap, dTup_ap, dLst_ap, dApp_ap, dSetI_ap, rNil_ap, rVal_ap, rIo_ap, dCal2_ap, dV_ap, dN_ap, tYesB_ap, dLc_ap, dIsi_ap, dPar_ap, dDic0_ap, dPar3_ap, DF.R.bind_ok, DF.R.bindS_ok, DF.R.bindN_ok, DF.SR.bind_nx, DF.SR.bind_ret, ofO, ths, setV, setF, free, set2, set3, fnRes, startE, startC, outs, argsD, putD, ioIx, isMu, look, muL, ltD_ap, leD_ap, gtD_ap, geD_ap, addD_ap, subD_ap, negD_ap, absD_ap, intD_ap, intD_apB, eq_int, ne_int, ixD, L2.atI, L2.ixN, lenD, gcdD, max2D, min2D, hl1]
    · have hz : l.getD (l.length - 1) 0 ≠ 0 := by
        rcases h.pol with q | ⟨_, q⟩
        · exact absurd q hl1
        · exact q
      have hl1' : ¬ (l.length : Int) = 1 := by omega
      have hat' := at_last (l := l) hpos
      have hz' : ¬ l[l.length - 1]?.getD 0 = 0 := by rw [← List.getD_eq_getElem?_getD]; exact hz
      simp [dRet_ap, dOrV_ap, dBin_ap, dCal_ap, aCons_ap, aNil_ap, oD_ap, oVar_ap, dC_ap, dUn_ap, DF.R.bind_ok, DF.R.bindS_ok, ofO, ths, look, lenD, eq_int, ne_int, negD_ap, ixD, hl1', hat', hz']
  unfold F_is_polynomial B_is_polynomial
  rw [hs, dSeq_ap, s0, SR.bind_nx, dSeq_ap, s1, SR.bind_nx, s2]
  rfl
theorem e_checkp {l : List Int} (h : Pl l) : F_check_polynomial [(false, pd l)] = .ret false .non [] := by
  unfold F_check_polynomial B_check_polynomial
  simp [dC_ap, dVar_ap, oVar_ap, oD_ap, aNil_ap, aCons_ap, vNil_ap, vCons_ap, dBin_ap, dTst_ap, dUn_ap, dCal_ap, dSeq_ap, dNever_ap, dIf_ap, dRet_ap, dRetF_ap, dRetN_ap, dRetV_ap, dExpr_ap, dSet_ap, dSetF_ap, gsNil_ap, gsCons_ap, gTp_ap, dAsg_ap, sLst_ap, sTup_ap, sRng1_ap, sRng2_ap, dForS_ap, dTru_ap, dAnd_ap, dOr_ap, dNot_ap, dAndV_ap, dOrV_ap, dNotV_ap, dIte_ap, dChain_ap, dTup_ap, dLst_ap, dApp_ap, dSetI_ap, rNil_ap, rVal_ap, rIo_ap, dCal2_ap, dV_ap, dN_ap, tYesB_ap, dLc_ap, dIsi_ap, dPar_ap, dDic0_ap, dPar3_ap, DF.R.bind_ok, DF.R.bindS_ok, DF.R.bindN_ok, DF.SR.bind_nx, DF.SR.bind_ret, ofO, ths, setV, setF, free, set2, set3, fnRes, startE, startC, outs, argsD, putD, ioIx, isMu, look, muL, ltD_ap, leD_ap, gtD_ap, geD_ap, addD_ap, subD_ap, negD_ap, absD_ap, intD_ap, intD_apB, eq_int, ne_int, ixD, L2.atI, L2.ixN, lenD, gcdD, max2D, min2D, e_poly h]
theorem e_checkps {l m : List Int} (h : Pl l) (h' : Pl m) : F_check_polynomials [(false, pd l), (false, pd m)] = .ret false .non [] := by
  unfold F_check_polynomials B_check_polynomials
  simp [dC_ap, dVar_ap, oVar_ap, oD_ap, aNil_ap, aCons_ap, vNil_ap, vCons_ap, dBin_ap, dTst_ap, dUn_ap, dCal_ap, dSeq_ap, dNever_ap, dIf_ap, dRet_ap, dRetF_ap, dRetN_ap, dRetV_ap, dExpr_ap, dSet_ap, dSetF_ap, gsNil_ap, gsCons_ap, gTp_ap, dAsg_ap, sLst_ap, sTup_ap, sRng1_ap, sRng2_ap, dForS_ap, dTru_ap, dAnd_ap, dOr_ap, dNot_ap, dAndV_ap, dOrV_ap, dNotV_ap, dIte_ap, dChain_ap, dTup_ap, dLst_ap, dApp_ap, dSetI_ap, rNil_ap, rVal_ap, rIo_ap, dCal2_ap, dV_ap, dN_ap, tYesB_ap, dLc_ap, dIsi_ap, dPar_ap, dDic0_ap, dPar3_ap, DF.R.bind_ok, DF.R.bindS_ok, DF.R.bindN_ok, DF.SR.bind_nx, DF.SR.bind_ret, ofO, ths, setV, setF, free, set2, set3, fnRes, startE, startC, outs, argsD, putD, ioIx, isMu, look, muL, ltD_ap, leD_ap, gtD_ap, geD_ap, addD_ap, subD_ap, negD_ap, absD_ap, intD_ap, intD_apB, eq_int, ne_int, ixD, L2.atI, L2.ixN, lenD, gcdD, max2D, min2D, e_checkp h, e_checkp h']
/-! ### products -/
theorem zeros (n : Nat) (h : n ≤ 1000) : repL (.lst [.int 0]) (.int (n : Int)) = some (ld (List.replicate n 0)) := by
  unfold repL
  dsimp only
  rw [if_pos ⟨by omega, by omega, by simp; omega⟩, Int.toNat_natCast]
  congr 2
  rw [List.map_replicate]
  clear h
  induction n with
  | zero => rfl
  | succ n ih => rw [List.replicate_succ, List.flatten_cons, ih]; rfl
theorem conv_ne {l m : List Int} (hl : 0 < l.length) (hm : 0 < m.length) : conv l m ≠ [] := fun z => by
  have := conv_length l m
  rw [z] at this
  simp at this
  omega
end K04

namespace K04
open PySem DF KM KP
theorem pp0 {l m : List Int} (hck : F_check_polynomials [(false, pd l), (false, pd m)] = .ret false .non []) : (dExpr (dV (dCal2 2 F_check_polynomials (rVal (dVar 0) (rVal (dVar 1) (rNil)))))) [some (.val (pd l)), some (.val (pd m)), none, none, none, none, none, none] = .nx [some (.val (pd l)), some (.val (pd m)), none, none, none, none, none, none] := by
  simp [dC_ap, dVar_ap, oVar_ap, oD_ap, aNil_ap, aCons_ap, vNil_ap, vCons_ap, dBin_ap, dTst_ap, dUn_ap, dCal_ap, dSeq_ap, dNever_ap, dIf_ap, dRet_ap, dRetF_ap, dRetN_ap, dRetV_ap, dExpr_ap, dSet_ap, dSetF_ap, gsNil_ap, gsCons_ap, gTp_ap, dAsg_ap, sLst_ap, sTup_ap, sRng1_ap, sRng2_ap, dForS_ap, dTru_ap, dAnd_ap, dOr_ap, dNot_ap, dAndV_ap, dOrV_ap, dNotV_ap, dIte_ap, dChain_ap, dTup_ap, dLst_ap, dApp_ap, dSetI_ap, rNil_ap, rVal_ap, rIo_ap, dCal2_ap, dV_ap, dN_ap, tYesB_ap, dLc_ap, dIsi_ap, dPar_ap, dDic0_ap, dPar3_ap, DF.R.bind_ok, DF.R.bindS_ok, DF.R.bindN_ok, DF.SR.bind_nx, DF.SR.bind_ret, ofO, ths, setV, setF, free, set2, set3, fnRes, startE, startC, outs, argsD, putD, ioIx, isMu, look, muL, ltD_ap, leD_ap, gtD_ap, geD_ap, addD_ap, subD_ap, negD_ap, absD_ap, intD_ap, intD_apB, eq_int, ne_int, ixD, L2.atI, L2.ixN, lenD, gcdD, max2D, min2D, hck]
theorem pp1 {l m : List Int} {rest : DEnv} {z : D} (hz : repL (.lst [.int 0]) (.int ((l.length : Int) + (m.length : Int) - 1)) = some z) : (dSetF 2 (dBin repL (oD (dLst (vCons (dC (.int 0)) (vNil)))) (oD (dBin subD (oD (dBin addD (oD (dCal lenD (aCons (oVar 0) (aNil)))) (oD (dCal lenD (aCons (oVar 1) (aNil)))))) (oD (dC (.int 1))))))) (some (.val (pd l)) :: some (.val (pd m)) :: none :: rest) = .nx (some (.val (pd l)) :: some (.val (pd m)) :: some (.mu false z) :: rest) := by
  simp [dC_ap, dVar_ap, oVar_ap, oD_ap, aNil_ap, aCons_ap, vNil_ap, vCons_ap, dBin_ap, dTst_ap, dUn_ap, dCal_ap, dSeq_ap, dNever_ap, dIf_ap, dRet_ap, dRetF_ap, dRetN_ap, dRetV_ap, dExpr_ap, dSet_ap, dSetF_ap, gsNil_ap, gsCons_ap, gTp_ap, dAsg_ap, sLst_ap, sTup_ap, sRng1_ap, sRng2_ap, dForS_ap, dTru_ap, dAnd_ap, dOr_ap, dNot_ap, dAndV_ap, dOrV_ap, dNotV_ap, dIte_ap, dChain_ap, dTup_ap, dLst_ap, dApp_ap, dSetI_ap, rNil_ap, rVal_ap, rIo_ap, dCal2_ap, dV_ap, dN_ap, tYesB_ap, dLc_ap, dIsi_ap, dPar_ap, dDic0_ap, dPar3_ap, DF.R.bind_ok, DF.R.bindS_ok, DF.R.bindN_ok, DF.SR.bind_nx, DF.SR.bind_ret, ofO, ths, setV, setF, free, set2, set3, fnRes, startE, startC, outs, argsD, putD, ioIx, isMu, look, muL, ltD_ap, leD_ap, gtD_ap, geD_ap, addD_ap, subD_ap, negD_ap, absD_ap, intD_ap, intD_apB, eq_int, ne_int, ixD, L2.atI, L2.ixN, lenD, gcdD, max2D, min2D, hz]
theorem pp3 {c0 c1 c3 c4 c5 c6 : Option Cell} {a b : D} (et : F_trimmed [(true, a)] = .ret false b [a]) : (dSet 7 (dV (dCal2 1 F_trimmed (rIo 2 (rNil))))) [c0, c1, some (.mu false a), c3, c4, c5, c6, none] = .nx [c0, c1, some (.mu false a), c3, c4, c5, c6, some (.val b)] := by
  simp [dC_ap, dVar_ap, oVar_ap, oD_ap, aNil_ap, aCons_ap, vNil_ap, vCons_ap, dBin_ap, dTst_ap, dUn_ap, dCal_ap, dSeq_ap, dNever_ap, dIf_ap, dRet_ap, dRetF_ap, dRetN_ap, dRetV_ap, dExpr_ap, dSet_ap, dSetF_ap, gsNil_ap, gsCons_ap, gTp_ap, dAsg_ap, sLst_ap, sTup_ap, sRng1_ap, sRng2_ap, dForS_ap, dTru_ap, dAnd_ap, dOr_ap, dNot_ap, dAndV_ap, dOrV_ap, dNotV_ap, dIte_ap, dChain_ap, dTup_ap, dLst_ap, dApp_ap, dSetI_ap, rNil_ap, rVal_ap, rIo_ap, dCal2_ap, dV_ap, dN_ap, tYesB_ap, dLc_ap, dIsi_ap, dPar_ap, dDic0_ap, dPar3_ap, DF.R.bind_ok, DF.R.bindS_ok, DF.R.bindN_ok, DF.SR.bind_nx, DF.SR.bind_ret, ofO, ths, setV, setF, free, set2, set3, fnRes, startE, startC, outs, argsD, putD, ioIx, isMu, look, muL, ltD_ap, leD_ap, gtD_ap, geD_ap, addD_ap, subD_ap, negD_ap, absD_ap, intD_ap, intD_apB, eq_int, ne_int, ixD, L2.atI, L2.ixN, lenD, gcdD, max2D, min2D, et]
theorem pp4 {c0 c1 c2 c3 c4 c5 c6 : Option Cell} {q : List D} (hle : ¬ (41 : Int) < (q.length : Int)) : (dIf (dTst (dBin gtD (oD (dCal lenD (aCons (oVar 7) (aNil)))) (oD (dBin addD (oD (dC (.int 40))) (oD (dC (.int 1))))))) (dNever) (SR.nx)) [c0, c1, c2, c3, c4, c5, c6, some (.val (.tup q))] = .nx [c0, c1, c2, c3, c4, c5, c6, some (.val (.tup q))] := by
  simp [dC_ap, dVar_ap, oVar_ap, oD_ap, aNil_ap, aCons_ap, vNil_ap, vCons_ap, dBin_ap, dTst_ap, dUn_ap, dCal_ap, dSeq_ap, dNever_ap, dIf_ap, dRet_ap, dRetF_ap, dRetN_ap, dRetV_ap, dExpr_ap, dSet_ap, dSetF_ap, gsNil_ap, gsCons_ap, gTp_ap, dAsg_ap, sLst_ap, sTup_ap, sRng1_ap, sRng2_ap, dForS_ap, dTru_ap, dAnd_ap, dOr_ap, dNot_ap, dAndV_ap, dOrV_ap, dNotV_ap, dIte_ap, dChain_ap, dTup_ap, dLst_ap, dApp_ap, dSetI_ap, rNil_ap, rVal_ap, rIo_ap, dCal2_ap, dV_ap, dN_ap, tYesB_ap, dLc_ap, dIsi_ap, dPar_ap, dDic0_ap, dPar3_ap, DF.R.bind_ok, DF.R.bindS_ok, DF.R.bindN_ok, DF.SR.bind_nx, DF.SR.bind_ret, ofO, ths, setV, setF, free, set2, set3, fnRes, startE, startC, outs, argsD, putD, ioIx, isMu, look, muL, ltD_ap, leD_ap, gtD_ap, geD_ap, addD_ap, subD_ap, negD_ap, absD_ap, intD_ap, intD_apB, eq_int, ne_int, ixD, L2.atI, L2.ixN, lenD, gcdD, max2D, min2D, hle]
end K04

namespace K04
open PySem DF KM KP
theorem conv_loop {l m : List Int} {rest : DEnv} (h : ∀ x ∈ l, Sm x) (h' : ∀ x ∈ m, Sm x) (p1 : 0 < l.length) (p2 : 0 < m.length) : ∃ c3 c4 c5 c6, dForS (sEnT (vCons (dVar 0) (vNil))) opG opB (some (.val (pd l)) :: some (.val (pd m)) :: some (.mu false (ld (List.replicate (l.length + m.length - 1) 0))) :: none :: none :: none :: none :: rest) = .nx (some (.val (pd l)) :: some (.val (pd m)) :: some (.mu false (ld (conv l m))) :: c3 :: c4 :: c5 :: c6 :: rest) := by
  obtain ⟨c3, c4, c5, c6, h3, h4, h5, h6, e⟩ := op_loop (c0 := some (.val (pd l))) (rest := rest) h' l 0 (List.replicate (l.length + m.length - 1) 0) none none none none (.inl rfl) (.inl rfl) (.inl rfl) (.inl rfl) h (by rw [List.length_replicate]; omega)
  refine ⟨c3, c4, c5, c6, ?_⟩
  rw [dForS_ap, sEnT_ap]
  simp only [vCons_ap, vNil_ap, dVar_ap, DF.R.bind_ok, List.getElem?_cons_zero, DF.R.bindS_ok]
  exact e
theorem pp2_eq : (dForS (sEnT (vCons (dVar 0) (vNil))) (gTp 2 (gsCons (setV 3) (gsCons (setV 4) (gsNil)))) (dForS (sEnT (vCons (dVar 1) (vNil))) (gTp 2 (gsCons (setV 5) (gsCons (setV 6) (gsNil)))) (dSetI 2 (dBin addD (oVar 3) (oVar 5)) (dBin addD (oD (dBin ixD (oVar 2) (oD (dBin addD (oVar 3) (oVar 5))))) (oD (dBin mulD (oVar 4) (oVar 6))))))) = dForS (sEnT (vCons (dVar 0) (vNil))) opG opB := rfl
theorem lt2_eq : (dForS (sEnT (vCons (dVar 0) (vNil))) (gTp 2 (gsCons (setV 3) (gsCons (setV 4) (gsNil)))) (dForS (sEnT (vCons (dVar 1) (vNil))) (gTp 2 (gsCons (setV 5) (gsCons (setV 6) (gsNil)))) (dSetI 2 (dBin addD (oVar 3) (oVar 5)) (dBin addD (oD (dBin ixD (oVar 2) (oD (dBin addD (oVar 3) (oVar 5))))) (oD (dBin mulD (oVar 4) (oVar 6))))))) = dForS (sEnT (vCons (dVar 0) (vNil))) opG opB := rfl
theorem e_pprod {l m : List Int} (h : Pl l) (h' : Pl m) (hlen : l.length + m.length ≤ 42) : F_polynomial_product [(false, pd l), (false, pd m)] = .ret false (pd (trim (conv l m))) [] := by
  have p1 := h.pos
  have p2 := h'.pos
  obtain ⟨c3, c4, c5, c6, e⟩ := conv_loop (rest := [none]) h.s h'.s p1 p2
  have hz := zeros (l.length + m.length - 1) (by omega)
  rw [show ((l.length + m.length - 1 : Nat) : Int) = (l.length : Int) + (m.length : Int) - 1 by omega] at hz
  have et := e_trimmed (conv l m) (by rw [conv_length]; omega)
  have hle : ¬ (41 : Int) < (((trim (conv l m)).map D.int).length : Int) := by
    have : (trim (conv l m)).length ≤ (conv l m).length := by unfold trim; rw [List.length_take]; exact Nat.min_le_right _ _
    rw [conv_length] at this
    rw [List.length_map]
    omega
  unfold F_polynomial_product B_polynomial_product
  rw [show startE 8 [(false, pd l), (false, pd m)] = [some (.val (pd l)), some (.val (pd m)), none, none, none, none, none, none] from rfl, dSeq_ap, pp0 (e_checkps h h'), SR.bind_nx, dSeq_ap, pp1 hz, SR.bind_nx, pp2_eq, dSeq_ap, e, SR.bind_nx, dSeq_ap, pp3 et, SR.bind_nx, dSeq_ap, pp4 hle, SR.bind_nx]
  rfl
end K04

namespace K04
open PySem DF KM KP
theorem fuel_ge (as : List (Bool × D)) : 1000 ≤ fuel as := by
  unfold fuel
  have : ∀ (as : List (Bool × D)) (n : Nat), n ≤ as.foldl (fun n p => n + intsOf p.2) n := by
    intro as
    induction as with
    | nil => exact fun n => Nat.le_refl _
    | cons p r ih => exact fun n => Nat.le_trans (Nat.le_add_right _ _) (ih (n + intsOf p.2))
  exact this as 1000
theorem lt0 {l m : List Int} {rest : DEnv} {z : D} (hz : repL (.lst [.int 0]) (.int ((l.length : Int) + (m.length : Int) - 1)) = some z) : (dSetF 2 (dBin repL (oD (dLst (vCons (dC (.int 0)) (vNil)))) (oD (dBin subD (oD (dBin addD (oD (dCal lenD (aCons (oVar 0) (aNil)))) (oD (dCal lenD (aCons (oVar 1) (aNil)))))) (oD (dC (.int 1))))))) (some (.val (pd l)) :: some (.val (pd m)) :: none :: rest) = .nx (some (.val (pd l)) :: some (.val (pd m)) :: some (.mu false z) :: rest) := by
  simp [dC_ap, dVar_ap, oVar_ap, oD_ap, aNil_ap, aCons_ap, vNil_ap, vCons_ap, dBin_ap, dTst_ap, dUn_ap, dCal_ap, dSeq_ap, dNever_ap, dIf_ap, dRet_ap, dRetF_ap, dRetN_ap, dRetV_ap, dExpr_ap, dSet_ap, dSetF_ap, gsNil_ap, gsCons_ap, gTp_ap, dAsg_ap, sLst_ap, sTup_ap, sRng1_ap, sRng2_ap, dForS_ap, dTru_ap, dAnd_ap, dOr_ap, dNot_ap, dAndV_ap, dOrV_ap, dNotV_ap, dIte_ap, dChain_ap, dTup_ap, dLst_ap, dApp_ap, dSetI_ap, rNil_ap, rVal_ap, rIo_ap, dCal2_ap, dV_ap, dN_ap, tYesB_ap, dLc_ap, dIsi_ap, dPar_ap, dDic0_ap, dPar3_ap, DF.R.bind_ok, DF.R.bindS_ok, DF.R.bindN_ok, DF.SR.bind_nx, DF.SR.bind_ret, ofO, ths, setV, setF, free, set2, set3, fnRes, startE, startC, outs, argsD, putD, ioIx, isMu, look, muL, ltD_ap, leD_ap, gtD_ap, geD_ap, addD_ap, subD_ap, negD_ap, absD_ap, intD_ap, intD_apB, eq_int, ne_int, ixD, L2.atI, L2.ixN, lenD, gcdD, max2D, min2D, hz]
theorem lt3 {c0 c1 : Option Cell} {rest : DEnv} {l : List Int} : (dRet (dCal tupD (aCons (oVar 2) (aNil)))) (c0 :: c1 :: some (.mu false (ld l)) :: rest) = .ret (c0 :: c1 :: some (.mu false (ld l)) :: rest) false (pd l) := by
  simp [dC_ap, dVar_ap, oVar_ap, oD_ap, aNil_ap, aCons_ap, vNil_ap, vCons_ap, dBin_ap, dTst_ap, dUn_ap, dCal_ap, dSeq_ap, dNever_ap, dIf_ap, dRet_ap, dRetF_ap, dRetN_ap, dRetV_ap, dExpr_ap, dSet_ap, dSetF_ap, gsNil_ap, gsCons_ap, gTp_ap, dAsg_ap, sLst_ap, sTup_ap, sRng1_ap, sRng2_ap, dForS_ap, dTru_ap, dAnd_ap, dOr_ap, dNot_ap, dAndV_ap, dOrV_ap, dNotV_ap, dIte_ap, dChain_ap, dTup_ap, dLst_ap, dApp_ap, dSetI_ap, rNil_ap, rVal_ap, rIo_ap, dCal2_ap, dV_ap, dN_ap, tYesB_ap, dLc_ap, dIsi_ap, dPar_ap, dDic0_ap, dPar3_ap, DF.R.bind_ok, DF.R.bindS_ok, DF.R.bindN_ok, DF.SR.bind_nx, DF.SR.bind_ret, ofO, ths, setV, setF, free, set2, set3, fnRes, startE, startC, outs, argsD, putD, ioIx, isMu, look, muL, ltD_ap, leD_ap, gtD_ap, geD_ap, addD_ap, subD_ap, negD_ap, absD_ap, intD_ap, intD_apB, eq_int, ne_int, ixD, L2.atI, L2.ixN, lenD, gcdD, max2D, min2D, tupD]
theorem pops_eq (n : Nat) : dWhile (dAnd (dTst (dBin gtD (oD (dCal lenD (aCons (oVar 2) (aNil)))) (oD (dC (.int 1))))) (dTst (dBin eqD1 (oD (dBin ixD (oVar 2) (oD (dUn negD (oD (dC (.int 1))))))) (oD (dC (.int 0)))))) (dPop 2) n = dWhile (ppT 2) (dPop 2) n := rfl
theorem e_ltimes {l m : List Int} (h : ∀ x ∈ l, Sm x) (h' : ∀ x ∈ m, Sm x) (p1 : 0 < l.length) (p2 : 0 < m.length) (hlen : l.length + m.length ≤ 900) : F_q_line_times [(false, pd l), (false, pd m)] = .ret false (pd (trim (conv l m))) [] := by
  obtain ⟨c3, c4, c5, c6, e⟩ := conv_loop (rest := []) h h' p1 p2
  have hz := zeros (l.length + m.length - 1) (by omega)
  rw [show ((l.length + m.length - 1 : Nat) : Int) = (l.length : Int) + (m.length : Int) - 1 by omega] at hz
  have hp := pop_loop 2 false (fuel [(false, pd l), (false, pd m)]) (conv l m) [some (.val (pd l)), some (.val (pd m)), some (.mu false (ld (conv l m))), c3, c4, c5, c6] rfl (by rw [conv_length]; have := fuel_ge [(false, pd l), (false, pd m)]; omega)
  have hp : dWhile (ppT 2) (dPop 2) (fuel [(false, pd l), (false, pd m)]) [some (.val (pd l)), some (.val (pd m)), some (.mu false (ld (conv l m))), c3, c4, c5, c6] = .nx [some (.val (pd l)), some (.val (pd m)), some (.mu false (ld (trim (conv l m)))), c3, c4, c5, c6] := hp
  unfold F_q_line_times B_q_line_times
  rw [show startE 7 [(false, pd l), (false, pd m)] = [some (.val (pd l)), some (.val (pd m)), none, none, none, none, none] from rfl, dSeq_ap, lt0 hz, SR.bind_nx, lt2_eq, dSeq_ap, e, SR.bind_nx, dSeq_ap, pops_eq, hp, SR.bind_nx, lt3]
  rfl
end K04

namespace K04
open PySem DF KM KP
/-! ### sums -/
def suB : DEnv → SR := dSetI 2 (dVar 3) (dBin addD (oD (dBin ixD (oVar 2) (oVar 3))) (oVar 4))
theorem su_step {c0 c1 : Option Cell} {rest : DEnv} {T : List Int} {i : Nat} {x : Int} (h : i < T.length) :
    suB (c0 :: c1 :: some (.mu false (ld T)) :: some (.val (.int (i : Int))) :: some (.val (.int x)) :: rest) = .nx (c0 :: c1 :: some (.mu false (ld (add1 T i x))) :: some (.val (.int (i : Int))) :: some (.val (.int x)) :: rest) := by
  have ha := at_nat h
  unfold suB add1
  rw [seti_ap (b := false) (T := T) (k := i) (v := T.getD i 0 + x) rfl h]
  · rfl
  · simp only [dBin_ap, oVar_ap, oD_ap, DF.R.bind_ok, ofO, look, List.getElem?_cons_zero, List.getElem?_cons_succ, ixD, ha, addD_ap]
  · simp only [dVar_ap, List.getElem?_cons_zero, List.getElem?_cons_succ]
theorem su_loop {c0 c1 : Option Cell} {rest : DEnv} : ∀ (l : List Int) (i : Nat) (T : List Int) (c3 c4 : Option Cell), Vc c3 → Vc c4 → i + l.length ≤ T.length →
    ∃ c3' c4', Vc c3' ∧ Vc c4' ∧ dFor opG suB (enD i (l.map D.int)) (c0 :: c1 :: some (.mu false (ld T)) :: c3 :: c4 :: rest) = .nx (c0 :: c1 :: some (.mu false (ld (sumGo l i T))) :: c3' :: c4' :: rest)
  | [], i, T, c3, c4, h3, h4, _ => ⟨c3, c4, h3, h4, rfl⟩
  | x :: r, i, T, c3, c4, h3, h4, h => by
    rw [List.length_cons] at h
    obtain ⟨c3', c4', g3, g4, e⟩ := su_loop (c0 := c0) (c1 := c1) (rest := rest) r (i + 1) (add1 T i x) (some (.val (.int (i : Int)))) (some (.val (.int x))) (.inr ⟨_, rfl⟩) (.inr ⟨_, rfl⟩) (by rw [add1_length]; omega)
    refine ⟨c3', c4', g3, g4, ?_⟩
    rw [List.map_cons]
    unfold enD dFor
    rw [opG_ap h3 h4]
    dsimp only
    rw [su_step (by omega)]
    exact e
theorem ps0 {l m : List Int} (hck : F_check_polynomials [(false, pd l), (false, pd m)] = .ret false .non []) : (dExpr (dV (dCal2 2 F_check_polynomials (rVal (dVar 0) (rVal (dVar 1) (rNil)))))) [some (.val (pd l)), some (.val (pd m)), none, none, none] = .nx [some (.val (pd l)), some (.val (pd m)), none, none, none] := by
  simp [dC_ap, dVar_ap, oVar_ap, oD_ap, aNil_ap, aCons_ap, vNil_ap, vCons_ap, dBin_ap, dTst_ap, dUn_ap, dCal_ap, dSeq_ap, dNever_ap, dIf_ap, dRet_ap, dRetF_ap, dRetN_ap, dRetV_ap, dExpr_ap, dSet_ap, dSetF_ap, gsNil_ap, gsCons_ap, gTp_ap, dAsg_ap, sLst_ap, sTup_ap, sRng1_ap, sRng2_ap, dForS_ap, dTru_ap, dAnd_ap, dOr_ap, dNot_ap, dAndV_ap, dOrV_ap, dNotV_ap, dIte_ap, dChain_ap, dTup_ap, dLst_ap, dApp_ap, dSetI_ap, rNil_ap, rVal_ap, rIo_ap, dCal2_ap, dV_ap, dN_ap, tYesB_ap, dLc_ap, dIsi_ap, dPar_ap, dDic0_ap, dPar3_ap, DF.R.bind_ok, DF.R.bindS_ok, DF.R.bindN_ok, DF.SR.bind_nx, DF.SR.bind_ret, ofO, ths, setV, setF, free, set2, set3, fnRes, startE, startC, outs, argsD, putD, ioIx, isMu, look, muL, ltD_ap, leD_ap, gtD_ap, geD_ap, addD_ap, subD_ap, negD_ap, absD_ap, intD_ap, intD_apB, eq_int, ne_int, ixD, L2.atI, L2.ixN, lenD, gcdD, max2D, min2D, hck]
theorem ps1 {l m : List Int} {z : D} (hz : repL (.lst [.int 0]) (.int (if l.length < m.length then (m.length : Int) else (l.length : Int))) = some z) : (dSetF 2 (dBin repL (oD (dLst (vCons (dC (.int 0)) (vNil)))) (oD (dCal max2D (aCons (oD (dCal lenD (aCons (oVar 0) (aNil)))) (aCons (oD (dCal lenD (aCons (oVar 1) (aNil)))) (aNil))))))) [some (.val (pd l)), some (.val (pd m)), none, none, none] = .nx [some (.val (pd l)), some (.val (pd m)), some (.mu false z), none, none] := by
  simp [dC_ap, dVar_ap, oVar_ap, oD_ap, aNil_ap, aCons_ap, vNil_ap, vCons_ap, dBin_ap, dTst_ap, dUn_ap, dCal_ap, dSeq_ap, dNever_ap, dIf_ap, dRet_ap, dRetF_ap, dRetN_ap, dRetV_ap, dExpr_ap, dSet_ap, dSetF_ap, gsNil_ap, gsCons_ap, gTp_ap, dAsg_ap, sLst_ap, sTup_ap, sRng1_ap, sRng2_ap, dForS_ap, dTru_ap, dAnd_ap, dOr_ap, dNot_ap, dAndV_ap, dOrV_ap, dNotV_ap, dIte_ap, dChain_ap, dTup_ap, dLst_ap, dApp_ap, dSetI_ap, rNil_ap, rVal_ap, rIo_ap, dCal2_ap, dV_ap, dN_ap, tYesB_ap, dLc_ap, dIsi_ap, dPar_ap, dDic0_ap, dPar3_ap, DF.R.bind_ok, DF.R.bindS_ok, DF.R.bindN_ok, DF.SR.bind_nx, DF.SR.bind_ret, ofO, ths, setV, setF, free, set2, set3, fnRes, startE, startC, outs, argsD, putD, ioIx, isMu, look, muL, ltD_ap, leD_ap, gtD_ap, geD_ap, addD_ap, subD_ap, negD_ap, absD_ap, intD_ap, intD_apB, eq_int, ne_int, ixD, L2.atI, L2.ixN, lenD, gcdD, max2D, min2D, hz]
theorem ps2_eq : (dForS (sEnT (vCons (dVar 0) (vNil))) (gTp 2 (gsCons (setV 3) (gsCons (setV 4) (gsNil)))) (dSetI 2 (dVar 3) (dBin addD (oD (dBin ixD (oVar 2) (oVar 3))) (oVar 4)))) = dForS (sEnT (vCons (dVar 0) (vNil))) opG suB := rfl
theorem ps3_eq : (dForS (sEnT (vCons (dVar 1) (vNil))) (gTp 2 (gsCons (setV 3) (gsCons (setV 4) (gsNil)))) (dSetI 2 (dVar 3) (dBin addD (oD (dBin ixD (oVar 2) (oVar 3))) (oVar 4)))) = dForS (sEnT (vCons (dVar 1) (vNil))) opG suB := rfl
theorem ps4 {c0 c1 c3 c4 : Option Cell} {a b : D} (et : F_trimmed [(true, a)] = .ret false b [a]) : (dRet (dV (dCal2 1 F_trimmed (rIo 2 (rNil))))) [c0, c1, some (.mu false a), c3, c4] = .ret [c0, c1, some (.mu false a), c3, c4] false b := by
  simp [dC_ap, dVar_ap, oVar_ap, oD_ap, aNil_ap, aCons_ap, vNil_ap, vCons_ap, dBin_ap, dTst_ap, dUn_ap, dCal_ap, dSeq_ap, dNever_ap, dIf_ap, dRet_ap, dRetF_ap, dRetN_ap, dRetV_ap, dExpr_ap, dSet_ap, dSetF_ap, gsNil_ap, gsCons_ap, gTp_ap, dAsg_ap, sLst_ap, sTup_ap, sRng1_ap, sRng2_ap, dForS_ap, dTru_ap, dAnd_ap, dOr_ap, dNot_ap, dAndV_ap, dOrV_ap, dNotV_ap, dIte_ap, dChain_ap, dTup_ap, dLst_ap, dApp_ap, dSetI_ap, rNil_ap, rVal_ap, rIo_ap, dCal2_ap, dV_ap, dN_ap, tYesB_ap, dLc_ap, dIsi_ap, dPar_ap, dDic0_ap, dPar3_ap, DF.R.bind_ok, DF.R.bindS_ok, DF.R.bindN_ok, DF.SR.bind_nx, DF.SR.bind_ret, ofO, ths, setV, setF, free, set2, set3, fnRes, startE, startC, outs, argsD, putD, ioIx, isMu, look, muL, ltD_ap, leD_ap, gtD_ap, geD_ap, addD_ap, subD_ap, negD_ap, absD_ap, intD_ap, intD_apB, eq_int, ne_int, ixD, L2.atI, L2.ixN, lenD, gcdD, max2D, min2D, et]
theorem sum_loops {l m : List Int} : ∃ c3 c4, dSeq (dForS (sEnT (vCons (dVar 0) (vNil))) opG suB) (dForS (sEnT (vCons (dVar 1) (vNil))) opG suB) [some (.val (pd l)), some (.val (pd m)), some (.mu false (ld (List.replicate (max l.length m.length) 0))), none, none] = .nx [some (.val (pd l)), some (.val (pd m)), some (.mu false (ld (psum l m))), c3, c4] := by
  obtain ⟨c3, c4, h3, h4, e⟩ := su_loop (c0 := some (.val (pd l))) (c1 := some (.val (pd m))) (rest := []) l 0 (List.replicate (max l.length m.length) 0) none none (.inl rfl) (.inl rfl) (by rw [List.length_replicate]; omega)
  obtain ⟨d3, d4, k3, k4, e2⟩ := su_loop (c0 := some (.val (pd l))) (c1 := some (.val (pd m))) (rest := []) m 0 (sumGo l 0 (List.replicate (max l.length m.length) 0)) c3 c4 h3 h4 (by rw [sumGo_length, List.length_replicate]; omega)
  refine ⟨d3, d4, ?_⟩
  rw [dSeq_ap, dForS_ap, sEnT_ap]
  simp only [vCons_ap, vNil_ap, dVar_ap, DF.R.bind_ok, List.getElem?_cons_zero, DF.R.bindS_ok]
  rw [e, SR.bind_nx, dForS_ap, sEnT_ap]
  simp only [vCons_ap, vNil_ap, dVar_ap, DF.R.bind_ok, List.getElem?_cons_zero, List.getElem?_cons_succ, DF.R.bindS_ok]
  exact e2
theorem bind_assoc (r : SR) (f g : DEnv → SR) : (r.bind f).bind g = r.bind fun ρ => (f ρ).bind g := by
  cases r <;> rfl
theorem seq_two (f g h : DEnv → SR) (ρ : DEnv) : dSeq f (dSeq g h) ρ = (dSeq f g ρ).bind h := by
  rw [dSeq_ap, dSeq_ap, bind_assoc]
  rfl
theorem e_psum {l m : List Int} (h : Pl l) (h' : Pl m) : F_polynomial_sum [(false, pd l), (false, pd m)] = .ret false (pd (trim (psum l m))) [] := by
  have hl1 := h.len
  have hl2 := h'.len
  obtain ⟨c3, c4, e⟩ := sum_loops (l := l) (m := m)
  have hz := zeros (max l.length m.length) (by omega)
  rw [show ((max l.length m.length : Nat) : Int) = if l.length < m.length then (m.length : Int) else (l.length : Int) by split <;> omega] at hz
  have et := e_trimmed (psum l m) (by rw [psum_length]; omega)
  unfold F_polynomial_sum B_polynomial_sum
  rw [show startE 5 [(false, pd l), (false, pd m)] = [some (.val (pd l)), some (.val (pd m)), none, none, none] from rfl, dSeq_ap, ps0 (e_checkps h h'), SR.bind_nx, dSeq_ap, ps1 hz, SR.bind_nx, ps2_eq, ps3_eq, seq_two, e, SR.bind_nx, ps4 et]
  rfl
end K04

namespace K04
open PySem DF KM KP
/-! ### a row is taken off: rest[i + j] = rest[i + j] - f * y -/
def dvG : Tg := gTp 2 (gsCons (setV 6) (gsCons (setV 7) (gsNil)))
def dvB : DEnv → SR := dSetI 2 (dBin addD (oVar 4) (oVar 6)) (dBin subD (oD (dBin ixD (oVar 2) (oD (dBin addD (oVar 4) (oVar 6))))) (oD (dBin mulD (oVar 5) (oVar 7))))
theorem dv_step {c0 c1 c3 : Option Cell} {T : List Int} {i j : Nat} {f y : Int} (h : i + j < T.length) (hm : cMul f y = true) :
    dvB [c0, c1, some (.mu false (ld T)), c3, some (.val (.int (i : Int))), some (.val (.int f)), some (.val (.int (j : Int))), some (.val (.int y))] =
      .nx [c0, c1, some (.mu false (ld (add1 T (i + j) (-f * y)))), c3, some (.val (.int (i : Int))), some (.val (.int f)), some (.val (.int (j : Int))), some (.val (.int y))] := by
  have ha := at_nat h
  have e : (i : Int) + (j : Int) = ((i + j : Nat) : Int) := by omega
  have ev : T.getD (i + j) 0 + -f * y = T.getD (i + j) 0 - f * y := by rw [Int.neg_mul]; omega
  unfold dvB add1
  rw [ev, seti_ap (b := false) (T := T) (k := i + j) (v := T.getD (i + j) 0 - f * y) rfl h]
  · rfl
  · simp only [dBin_ap, oVar_ap, oD_ap, DF.R.bind_ok, ofO, look, List.getElem?_cons_zero, List.getElem?_cons_succ, addD_ap, subD_ap, e, ixD, ha, mulD_ap hm]
  · simp only [dBin_ap, oVar_ap, DF.R.bind_ok, ofO, look, List.getElem?_cons_zero, List.getElem?_cons_succ, addD_ap, e]
theorem dvG_ap {c0 c1 c2 c3 c4 c5 c6 c7 : Option Cell} {a b : D} (h6 : Vc c6) (h7 : Vc c7) : dvG (.tup [a, b]) [c0, c1, c2, c3, c4, c5, c6, c7] = some [c0, c1, c2, c3, c4, c5, some (.val a), some (.val b)] := by
  rcases h6 with rfl | ⟨d6, rfl⟩ <;> rcases h7 with rfl | ⟨d7, rfl⟩ <;> simp [dvG, gTp, gsCons, gsNil, setV, free]
theorem dv_loop {c0 c1 c3 : Option Cell} {i : Nat} {f : Int} (hf : Sm f) : ∀ (m : List Int) (j : Nat) (T : List Int) (c6 c7 : Option Cell), Vc c6 → Vc c7 → (∀ y ∈ m, Sm y) → i + j + m.length ≤ T.length →
    ∃ c6' c7', Vc c6' ∧ Vc c7' ∧ dFor dvG dvB (enD j (m.map D.int)) [c0, c1, some (.mu false (ld T)), c3, some (.val (.int (i : Int))), some (.val (.int f)), c6, c7] =
      .nx [c0, c1, some (.mu false (ld (row (-f) i m j T))), c3, some (.val (.int (i : Int))), some (.val (.int f)), c6', c7']
  | [], j, T, c6, c7, h6, h7, _, _ => ⟨c6, c7, h6, h7, rfl⟩
  | y :: r, j, T, c6, c7, h6, h7, hy, h => by
    rw [List.length_cons] at h
    obtain ⟨c6', c7', g6, g7, e⟩ := dv_loop (c0 := c0) (c1 := c1) (c3 := c3) (i := i) hf r (j + 1) (add1 T (i + j) (-f * y)) (some (.val (.int (j : Int)))) (some (.val (.int y))) (.inr ⟨_, rfl⟩) (.inr ⟨_, rfl⟩) (fun z hz => hy z (List.mem_cons_of_mem _ hz)) (by rw [add1_length]; omega)
    refine ⟨c6', c7', g6, g7, ?_⟩
    rw [List.map_cons]
    unfold enD dFor
    rw [dvG_ap h6 h7]
    dsimp only
    rw [dv_step (by omega) (cm hf (hy y List.mem_cons_self))]
    exact e
/-- how great the rests become -/
theorem row_bound {m T : List Int} {f : Int} {i X C : Nat} (hC : ∀ y ∈ m, y.natAbs ≤ C) (hf : f.natAbs ≤ X) (hT : ∀ k, (T.getD k 0).natAbs ≤ X) : ∀ k, k < T.length → ((row (-f) i m 0 T).getD k 0).natAbs ≤ X * (C + 1) := by
  intro k hk
  rw [row_get _ _ _ _ _ _ hk]
  have h1 := hT k
  have h2 : ∀ (m : List Int) (j : Nat), (∀ y ∈ m, y.natAbs ≤ C) → (rc (-f) i m j k).natAbs ≤ X * C := by
    intro m
    induction m with
    | nil => intro j _; exact Nat.zero_le _
    | cons y r ih =>
      intro j h
      show ((if i + j = k then -f * y else 0) + rc (-f) i r (j + 1) k).natAbs ≤ X * C
      by_cases e : i + j = k
      · rw [if_pos e, rc_out (-f) i r (j + 1) k |> fun h => show rc (-f) i r (j + 1) k = 0 from ?_]
        · rw [Int.add_zero, Int.natAbs_mul, Int.natAbs_neg]
          exact Nat.mul_le_mul hf (h y List.mem_cons_self)
        · have : ∀ (r : List Int) (j' : Nat), k < i + j' → rc (-f) i r j' k = 0 := by
            intro r
            induction r with
            | nil => intro _ _; rfl
            | cons z r ih =>
              intro j' hj
              show (if i + j' = k then -f * z else 0) + rc (-f) i r (j' + 1) k = 0
              rw [if_neg (by omega), ih (j' + 1) (by omega)]
              rfl
          exact this r (j + 1) (by omega)
      · rw [if_neg e, Int.zero_add]
        exact ih (j + 1) fun z hz => h z (List.mem_cons_of_mem _ hz)
  have h3 := h2 m 0 hC
  have h4 := Int.natAbs_add_le (T.getD k 0) (rc (-f) i m 0 k)
  rw [Nat.mul_add, Nat.mul_one]
  omega
end K04

namespace K04
open PySem DF KM KP
theorem fdiv_le (v d : Int) : (v.fdiv d).natAbs ≤ v.natAbs := Int.natAbs_fdiv_le_natAbs v d
theorem rng_rev (n : Nat) : (rng 0 (n + 1)).reverse = .int (n : Int) :: (rng 0 n).reverse := by
  unfold rng
  rw [List.range_succ, List.map_append, List.reverse_append]
  simp
def dB : DEnv → SR := dSeq (dSet 5 (dBin divD (oD (dBin ixD (oVar 2) (oD (dBin subD (oD (dBin addD (oVar 4) (oD (dCal lenD (aCons (oVar 1) (aNil)))))) (oD (dC (.int 1))))))) (oD (dBin ixD (oVar 1) (oD (dUn negD (oD (dC (.int 1)))))))))
    (dSeq (dSetI 3 (dVar 4) (dVar 5))
    (dForS (sEnT (vCons (dVar 1) (vNil))) dvG dvB))
theorem dB0 {c0 c3 c5 c6 c7 : Option Cell} {m R : List Int} {lead : Int} {n : Nat} (h5 : Vc c5) (hm : 0 < m.length) (hl : m.getD (m.length - 1) 0 = lead) (hn : n + m.length - 1 < R.length) (hd : cDiv (R.getD (n + m.length - 1) 0) lead = true) :
    dSet 5 (dBin divD (oD (dBin ixD (oVar 2) (oD (dBin subD (oD (dBin addD (oVar 4) (oD (dCal lenD (aCons (oVar 1) (aNil)))))) (oD (dC (.int 1))))))) (oD (dBin ixD (oVar 1) (oD (dUn negD (oD (dC (.int 1)))))))) [c0, some (.val (pd m)), some (.mu false (ld R)), c3, some (.val (.int (n : Int))), c5, c6, c7] =
      .nx [c0, some (.val (pd m)), some (.mu false (ld R)), c3, some (.val (.int (n : Int))), some (.val (.int ((R.getD (n + m.length - 1) 0).fdiv lead))), c6, c7] := by
  have ha := at_nat hn
  have hb := at_last hm
  rw [hl] at hb
  have e : (n : Int) + (m.length : Int) - 1 = ((n + m.length - 1 : Nat) : Int) := by omega
  have hq := divD_ap hd
  rcases h5 with rfl | ⟨d5, rfl⟩
  · simp only [dSet_ap, dBin_ap, dCal_ap, aCons_ap, aNil_ap, dUn_ap, oVar_ap, oD_ap, dC_ap, DF.R.bind_ok, DF.R.bindS_ok, ofO, ths, look, lenD, List.length_map, List.getElem?_cons_zero, List.getElem?_cons_succ, addD_ap, subD_ap, negD_ap, e, ixD, ha, hb, hq, setV, free, if_true, List.set_cons_zero, List.set_cons_succ]
  · simp only [dSet_ap, dBin_ap, dCal_ap, aCons_ap, aNil_ap, dUn_ap, oVar_ap, oD_ap, dC_ap, DF.R.bind_ok, DF.R.bindS_ok, ofO, ths, look, lenD, List.length_map, List.getElem?_cons_zero, List.getElem?_cons_succ, addD_ap, subD_ap, negD_ap, e, ixD, ha, hb, hq, setV, free, if_true, List.set_cons_zero, List.set_cons_succ]
theorem dB1 {c0 c1 c2 c6 c7 : Option Cell} {Q : List Int} {n : Nat} {f : Int} (hn : n < Q.length) : dSetI 3 (dVar 4) (dVar 5) [c0, c1, c2, some (.mu false (ld Q)), some (.val (.int (n : Int))), some (.val (.int f)), c6, c7] = .nx [c0, c1, c2, some (.mu false (ld (Q.set n f))), some (.val (.int (n : Int))), some (.val (.int f)), c6, c7] := by
  rw [seti_ap (b := false) (T := Q) (k := n) (v := f) rfl hn]
  · rfl
  · simp only [dVar_ap, List.getElem?_cons_zero, List.getElem?_cons_succ]
  · simp only [dVar_ap, List.getElem?_cons_zero, List.getElem?_cons_succ]
theorem dB2 {c0 c3 c6 c7 : Option Cell} {m R : List Int} {n : Nat} {f : Int} (h6 : Vc c6) (h7 : Vc c7) (hf : Sm f) (hm : ∀ y ∈ m, Sm y) (h : n + m.length ≤ R.length) :
    ∃ c6' c7', Vc c6' ∧ Vc c7' ∧ dForS (sEnT (vCons (dVar 1) (vNil))) dvG dvB [c0, some (.val (pd m)), some (.mu false (ld R)), c3, some (.val (.int (n : Int))), some (.val (.int f)), c6, c7] = .nx [c0, some (.val (pd m)), some (.mu false (ld (row (-f) n m 0 R))), c3, some (.val (.int (n : Int))), some (.val (.int f)), c6', c7'] := by
  obtain ⟨c6', c7', g6, g7, e⟩ := dv_loop (c0 := c0) (c1 := some (.val (pd m))) (c3 := c3) (i := n) hf m 0 R c6 c7 h6 h7 hm (by omega)
  refine ⟨c6', c7', g6, g7, ?_⟩
  rw [dForS_ap, sEnT_ap]
  simp only [vCons_ap, vNil_ap, dVar_ap, DF.R.bind_ok, List.getElem?_cons_zero, List.getElem?_cons_succ, DF.R.bindS_ok]
  exact e
theorem set_drop {Q : List Int} {n : Nat} {f : Int} (h : n < Q.length) : (Q.set n f).drop n = f :: Q.drop (n + 1) := by
  have h' : n < (Q.set n f).length := by rw [List.length_set]; exact h
  rw [List.drop_eq_getElem_cons h', List.getElem_set_self, List.drop_set_of_lt (by omega)]
theorem set4 {c0 c1 c2 c3 c4 c5 c6 c7 : Option Cell} {d : D} (h4 : Vc c4) : setV 4 d [c0, c1, c2, c3, c4, c5, c6, c7] = some [c0, c1, c2, c3, some (.val d), c5, c6, c7] := by
  rcases h4 with rfl | ⟨d4, rfl⟩ <;> simp [setV, free]
theorem dvd_loop {c0 : Option Cell} {m : List Int} {lead : Int} {C : Nat} (hm : 0 < m.length) (hl : m.getD (m.length - 1) 0 = lead) (h0 : lead ≠ 0) (hC : ∀ y ∈ m, y.natAbs ≤ C) (hCs : C ≤ 10 ^ 700) (hls : lead.natAbs ≤ C) : ∀ (n : Nat) (R Q : List Int) (X : Nat) (c4 c5 c6 c7 : Option Cell), Vc c4 → Vc c5 → Vc c6 → Vc c7 → n + m.length - 1 ≤ R.length → n ≤ Q.length → (∀ k, (R.getD k 0).natAbs ≤ X) → X * (C + 1) ^ n ≤ 10 ^ 700 →
    ∃ c4' c5' c6' c7', dFor (setV 4) dB (rng 0 n).reverse [c0, some (.val (pd m)), some (.mu false (ld R)), some (.mu false (ld Q)), c4, c5, c6, c7] = .nx [c0, some (.val (pd m)), some (.mu false (ld (pdiv m lead n R).1)), some (.mu false (ld ((pdiv m lead n R).2 ++ Q.drop n))), c4', c5', c6', c7']
  | 0, R, Q, X, c4, c5, c6, c7, h4, h5, h6, h7, _, _, _, _ => ⟨c4, c5, c6, c7, rfl⟩
  | n + 1, R, Q, X, c4, c5, c6, c7, h4, h5, h6, h7, hR, hQ, hX, hb => by
    have hn : n + m.length - 1 < R.length := by omega
    have hp1 : 0 < (C + 1) ^ n := Nat.pow_pos (Nat.succ_pos C)
    have hXX : X * (C + 1) * (C + 1) ^ n ≤ 10 ^ 700 := by rw [Nat.pow_succ, Nat.mul_comm ((C + 1) ^ n), ← Nat.mul_assoc] at hb; exact hb
    have hX7 : X ≤ 10 ^ 700 := Nat.le_trans (Nat.le_trans (Nat.le_mul_of_pos_right X (Nat.succ_pos C)) (Nat.le_mul_of_pos_right _ hp1)) hXX
    have hf := fdiv_le (R.getD (n + m.length - 1) 0) lead
    have hfX : ((R.getD (n + m.length - 1) 0).fdiv lead).natAbs ≤ X := Nat.le_trans hf (hX _)
    have hd : cDiv (R.getD (n + m.length - 1) 0) lead = true := cd h0 (sm_of (Nat.le_trans hls hCs))
    obtain ⟨c6', c7', g6, g7, e2⟩ := dB2 (c0 := c0) (c3 := some (.mu false (ld (Q.set n ((R.getD (n + m.length - 1) 0).fdiv lead))))) (m := m) (R := R) (n := n) h6 h7 (sm_of (Nat.le_trans hfX hX7)) (fun y hy => sm_of (Nat.le_trans (hC y hy) hCs)) (by omega)
    have hX' : ∀ k, ((row (-((R.getD (n + m.length - 1) 0).fdiv lead)) n m 0 R).getD k 0).natAbs ≤ X * (C + 1) := fun k => by
      by_cases hk : k < R.length
      · exact row_bound hC hfX hX k hk
      · rw [List.getD_eq_getElem?_getD, List.getElem?_eq_none (by rw [row_length]; omega)]
        exact Nat.zero_le _
    obtain ⟨d4, d5, d6, d7, e3⟩ := dvd_loop (c0 := c0) hm hl h0 hC hCs hls n (row (-((R.getD (n + m.length - 1) 0).fdiv lead)) n m 0 R) (Q.set n ((R.getD (n + m.length - 1) 0).fdiv lead)) (X * (C + 1)) (some (.val (.int (n : Int)))) (some (.val (.int ((R.getD (n + m.length - 1) 0).fdiv lead)))) c6' c7' (.inr ⟨_, rfl⟩) (.inr ⟨_, rfl⟩) g6 g7 (by rw [row_length]; omega) (by rw [List.length_set]; omega) hX' hXX
    refine ⟨d4, d5, d6, d7, ?_⟩
    rw [rng_rev]
    unfold dFor
    rw [set4 h4]
    dsimp only
    have eb : dB [c0, some (.val (pd m)), some (.mu false (ld R)), some (.mu false (ld Q)), some (.val (.int (n : Int))), c5, c6, c7] = .nx [c0, some (.val (pd m)), some (.mu false (ld (row (-((R.getD (n + m.length - 1) 0).fdiv lead)) n m 0 R))), some (.mu false (ld (Q.set n ((R.getD (n + m.length - 1) 0).fdiv lead)))), some (.val (.int (n : Int))), some (.val (.int ((R.getD (n + m.length - 1) 0).fdiv lead))), c6', c7'] := by
      unfold dB
      rw [dSeq_ap, dB0 h5 hm hl hn hd, SR.bind_nx, dSeq_ap, dB1 (by omega), SR.bind_nx]
      exact e2
    rw [eb]
    dsimp only
    rw [e3]
    have hq : (pdiv m lead (n + 1) R).2 ++ Q.drop (n + 1) = (pdiv m lead n (row (-((R.getD (n + m.length - 1) 0).fdiv lead)) n m 0 R)).2 ++ (Q.set n ((R.getD (n + m.length - 1) 0).fdiv lead)).drop n := by
      show ((pdiv m lead n _).2 ++ [_]) ++ Q.drop (n + 1) = _
      rw [List.append_assoc, set_drop (by omega)]
      rfl
    rw [← hq]
    rfl
end K04

namespace K04
open PySem DF KM KP
theorem toPs_ints : ∀ l : List Int, toPs (l.map D.int) = some (l.map PyData.int)
  | [] => rfl
  | x :: r => by
    rw [List.map_cons]
    unfold toPs
    rw [toPs_ints r]
    rfl
theorem eqvs_ints : ∀ l m : List Int, PyData.eqvAll (l.map PyData.int) (m.map PyData.int) = decide (l = m)
  | [], [] => rfl
  | [], _ :: _ => rfl
  | _ :: _, [] => rfl
  | x :: r, y :: s => by
    show ((x == y) && PyData.eqvAll (r.map PyData.int) (s.map PyData.int)) = _
    rw [eqvs_ints r s]
    by_cases h1 : x = y
    · by_cases h2 : r = s <;> simp [h1, h2]
    · simp [h1]
theorem plain_ints : ∀ l : List Int, plainDs 8 (l.map D.int) = true
  | [] => rfl
  | x :: r => by
    rw [List.map_cons]
    unfold plainDs
    rw [plain_ints r]
    rfl
theorem plain_pd (l : List Int) : plainD 9 (pd l) = true := plain_ints l
theorem eq_pd (l m : List Int) : eqD1 (pd l) (pd m) = some (.bl (decide (l = m))) := by
  obtain ⟨p, q, e1, e2, e3⟩ := eqP_plain (plain_pd l) (plain_pd m)
  unfold toP at e1 e2
  rw [toPs_ints] at e1 e2
  cases e1
  cases e2
  unfold eqD1
  rw [e3]
  show some (D.bl (PyData.eqvAll (l.map PyData.int) (m.map PyData.int))) = _
  rw [eqvs_ints]
theorem ne_pd (l m : List Int) : neD1 (pd l) (pd m) = some (.bl (!decide (l = m))) := by
  obtain ⟨p, q, e1, e2, e3⟩ := eqP_plain (plain_pd l) (plain_pd m)
  unfold toP at e1 e2
  rw [toPs_ints] at e1 e2
  cases e1
  cases e2
  unfold neD1
  rw [e3]
  show some (D.bl (!PyData.eqvAll (l.map PyData.int) (m.map PyData.int))) = _
  rw [eqvs_ints]
theorem any_ints (l : List Int) : anyAD [ld l] = some (.bl (l.any fun i => i != 0)) := by
  unfold anyAD orC
  cases l with
  | nil => rfl
  | cons x r =>
    have e1 : anyD [ld (x :: r)] = none := rfl
    rw [e1]
    show anyID [.lst ((x :: r).map D.int)] = _
    unfold anyID
    dsimp only
    rw [show DF.listOf (.lst ((x :: r).map D.int)) = some ((x :: r).map D.int) from rfl]
    dsimp only
    rw [intsD_map]
    rfl
theorem dd0 {l m : List Int} {rest : DEnv} : (dIf (dTst (dBin ltD (oD (dCal lenD (aCons (oVar 0) (aNil)))) (oD (dCal lenD (aCons (oVar 1) (aNil)))))) (dRet (dIte (dTst (dBin eqD1 (oVar 0) (oD (dTup (vCons (dC (.int 0)) (vNil)))))) (dVar 0) (dC .non))) (SR.nx)) (some (.val (pd l)) :: some (.val (pd m)) :: rest) = if l.length < m.length then .ret (some (.val (pd l)) :: some (.val (pd m)) :: rest) false (if l = [0] then pd l else .non) else .nx (some (.val (pd l)) :: some (.val (pd m)) :: rest) := by
  have q := eq_pd l [0]
  have q : eqD1 (pd l) (.tup [.int 0]) = some (.bl (decide (l = [0]))) := q
  by_cases h : l.length < m.length
  · by_cases h2 : l = [0]
    · subst h2
      have h1 : 1 < m.length := h
      have h1' : (1 : Int) < (m.length : Int) := by omega
      simp [dC_ap, dVar_ap, oVar_ap, oD_ap, aNil_ap, aCons_ap, vNil_ap, vCons_ap, dBin_ap, dTst_ap, dUn_ap, dCal_ap, dSeq_ap, dNever_ap, dIf_ap, dRet_ap, dRetF_ap, dRetN_ap, dRetV_ap, dExpr_ap, dSet_ap, dSetF_ap, gsNil_ap, gsCons_ap, gTp_ap, dAsg_ap, sLst_ap, sTup_ap, sRng1_ap, sRng2_ap, dForS_ap, dTru_ap, dAnd_ap, dOr_ap, dNot_ap, dAndV_ap, dOrV_ap, dNotV_ap, dIte_ap, dChain_ap, dTup_ap, dLst_ap, dApp_ap, dSetI_ap, rNil_ap, rVal_ap, rIo_ap, dCal2_ap, dV_ap, dN_ap, tYesB_ap, dLc_ap, dIsi_ap, dPar_ap, dDic0_ap, dPar3_ap, DF.R.bind_ok, DF.R.bindS_ok, DF.R.bindN_ok, DF.SR.bind_nx, DF.SR.bind_ret, ofO, ths, setV, setF, free, set2, set3, fnRes, startE, startC, outs, argsD, putD, ioIx, isMu, look, muL, ltD_ap, leD_ap, gtD_ap, geD_ap, addD_ap, subD_ap, negD_ap, absD_ap, intD_ap, intD_apB, eq_int, ne_int, ixD, L2.atI, L2.ixN, lenD, gcdD, max2D, min2D, h1, h1', q]
    · simp [dC_ap, dVar_ap, oVar_ap, oD_ap, aNil_ap, aCons_ap, vNil_ap, vCons_ap, dBin_ap, dTst_ap, dUn_ap, dCal_ap, dSeq_ap, dNever_ap, dIf_ap, dRet_ap, dRetF_ap, dRetN_ap, dRetV_ap, dExpr_ap, dSet_ap, dSetF_ap, gsNil_ap, gsCons_ap, gTp_ap, dAsg_ap, sLst_ap, sTup_ap, sRng1_ap, sRng2_ap, dForS_ap, dTru_ap, dAnd_ap, dOr_ap, dNot_ap, dAndV_ap, dOrV_ap, dNotV_ap, dIte_ap, dChain_ap, dTup_ap, dLst_ap, dApp_ap, dSetI_ap, rNil_ap, rVal_ap, rIo_ap, dCal2_ap, dV_ap, dN_ap, tYesB_ap, dLc_ap, dIsi_ap, dPar_ap, dDic0_ap, dPar3_ap, DF.R.bind_ok, DF.R.bindS_ok, DF.R.bindN_ok, DF.SR.bind_nx, DF.SR.bind_ret, ofO, ths, setV, setF, free, set2, set3, fnRes, startE, startC, outs, argsD, putD, ioIx, isMu, look, muL, ltD_ap, leD_ap, gtD_ap, geD_ap, addD_ap, subD_ap, negD_ap, absD_ap, intD_ap, intD_apB, eq_int, ne_int, ixD, L2.atI, L2.ixN, lenD, gcdD, max2D, min2D, h, q, h2]
  · simp [dC_ap, dVar_ap, oVar_ap, oD_ap, aNil_ap, aCons_ap, vNil_ap, vCons_ap, dBin_ap, dTst_ap, dUn_ap, dCal_ap, dSeq_ap, dNever_ap, dIf_ap, dRet_ap, dRetF_ap, dRetN_ap, dRetV_ap, dExpr_ap, dSet_ap, dSetF_ap, gsNil_ap, gsCons_ap, gTp_ap, dAsg_ap, sLst_ap, sTup_ap, sRng1_ap, sRng2_ap, dForS_ap, dTru_ap, dAnd_ap, dOr_ap, dNot_ap, dAndV_ap, dOrV_ap, dNotV_ap, dIte_ap, dChain_ap, dTup_ap, dLst_ap, dApp_ap, dSetI_ap, rNil_ap, rVal_ap, rIo_ap, dCal2_ap, dV_ap, dN_ap, tYesB_ap, dLc_ap, dIsi_ap, dPar_ap, dDic0_ap, dPar3_ap, DF.R.bind_ok, DF.R.bindS_ok, DF.R.bindN_ok, DF.SR.bind_nx, DF.SR.bind_ret, ofO, ths, setV, setF, free, set2, set3, fnRes, startE, startC, outs, argsD, putD, ioIx, isMu, look, muL, ltD_ap, leD_ap, gtD_ap, geD_ap, addD_ap, subD_ap, negD_ap, absD_ap, intD_ap, intD_apB, eq_int, ne_int, ixD, L2.atI, L2.ixN, lenD, gcdD, max2D, min2D, h]
theorem dd1 {l m : List Int} {rest : DEnv} : (dSetF 2 (dMk seqOf (oVar 0))) (some (.val (pd l)) :: some (.val (pd m)) :: none :: rest) = .nx (some (.val (pd l)) :: some (.val (pd m)) :: some (.mu false (ld l)) :: rest) := by
  simp [dSetF_ap, dMk, seqOf, dC_ap, dVar_ap, oVar_ap, oD_ap, aNil_ap, aCons_ap, vNil_ap, vCons_ap, dBin_ap, dTst_ap, dUn_ap, dCal_ap, dSeq_ap, dNever_ap, dIf_ap, dRet_ap, dRetF_ap, dRetN_ap, dRetV_ap, dExpr_ap, dSet_ap, dSetF_ap, gsNil_ap, gsCons_ap, gTp_ap, dAsg_ap, sLst_ap, sTup_ap, sRng1_ap, sRng2_ap, dForS_ap, dTru_ap, dAnd_ap, dOr_ap, dNot_ap, dAndV_ap, dOrV_ap, dNotV_ap, dIte_ap, dChain_ap, dTup_ap, dLst_ap, dApp_ap, dSetI_ap, rNil_ap, rVal_ap, rIo_ap, dCal2_ap, dV_ap, dN_ap, tYesB_ap, dLc_ap, dIsi_ap, dPar_ap, dDic0_ap, dPar3_ap, DF.R.bind_ok, DF.R.bindS_ok, DF.R.bindN_ok, DF.SR.bind_nx, DF.SR.bind_ret, ofO, ths, setV, setF, free, set2, set3, fnRes, startE, startC, outs, argsD, putD, ioIx, isMu, look, muL, ltD_ap, leD_ap, gtD_ap, geD_ap, addD_ap, subD_ap, negD_ap, absD_ap, intD_ap, intD_apB, eq_int, ne_int, ixD, L2.atI, L2.ixN, lenD, gcdD, max2D, min2D]
theorem dd2 {l m : List Int} {c2 : Option Cell} {rest : DEnv} {z : D} (hz : repL (.lst [.int 0]) (.int ((l.length : Int) - (m.length : Int) + 1)) = some z) : (dSetF 3 (dBin repL (oD (dLst (vCons (dC (.int 0)) (vNil)))) (oD (dBin addD (oD (dBin subD (oD (dCal lenD (aCons (oVar 0) (aNil)))) (oD (dCal lenD (aCons (oVar 1) (aNil)))))) (oD (dC (.int 1))))))) (some (.val (pd l)) :: some (.val (pd m)) :: c2 :: none :: rest) = .nx (some (.val (pd l)) :: some (.val (pd m)) :: c2 :: some (.mu false z) :: rest) := by
  simp [dC_ap, dVar_ap, oVar_ap, oD_ap, aNil_ap, aCons_ap, vNil_ap, vCons_ap, dBin_ap, dTst_ap, dUn_ap, dCal_ap, dSeq_ap, dNever_ap, dIf_ap, dRet_ap, dRetF_ap, dRetN_ap, dRetV_ap, dExpr_ap, dSet_ap, dSetF_ap, gsNil_ap, gsCons_ap, gTp_ap, dAsg_ap, sLst_ap, sTup_ap, sRng1_ap, sRng2_ap, dForS_ap, dTru_ap, dAnd_ap, dOr_ap, dNot_ap, dAndV_ap, dOrV_ap, dNotV_ap, dIte_ap, dChain_ap, dTup_ap, dLst_ap, dApp_ap, dSetI_ap, rNil_ap, rVal_ap, rIo_ap, dCal2_ap, dV_ap, dN_ap, tYesB_ap, dLc_ap, dIsi_ap, dPar_ap, dDic0_ap, dPar3_ap, DF.R.bind_ok, DF.R.bindS_ok, DF.R.bindN_ok, DF.SR.bind_nx, DF.SR.bind_ret, ofO, ths, setV, setF, free, set2, set3, fnRes, startE, startC, outs, argsD, putD, ioIx, isMu, look, muL, ltD_ap, leD_ap, gtD_ap, geD_ap, addD_ap, subD_ap, negD_ap, absD_ap, intD_ap, intD_apB, eq_int, ne_int, ixD, L2.atI, L2.ixN, lenD, gcdD, max2D, min2D, hz]
theorem dd3_eq : (dForS (sRevR (dCal lenD (aCons (oVar 3) (aNil)))) (setV 4) (dSeq (dSet 5 (dBin divD (oD (dBin ixD (oVar 2) (oD (dBin subD (oD (dBin addD (oVar 4) (oD (dCal lenD (aCons (oVar 1) (aNil)))))) (oD (dC (.int 1))))))) (oD (dBin ixD (oVar 1) (oD (dUn negD (oD (dC (.int 1)))))))))
    (dSeq (dSetI 3 (dVar 4) (dVar 5))
    (dForS (sEnT (vCons (dVar 1) (vNil))) (gTp 2 (gsCons (setV 6) (gsCons (setV 7) (gsNil)))) (dSetI 2 (dBin addD (oVar 4) (oVar 6)) (dBin subD (oD (dBin ixD (oVar 2) (oD (dBin addD (oVar 4) (oVar 6))))) (oD (dBin mulD (oVar 5) (oVar 7))))))))) = dForS (sRevR (dCal lenD (aCons (oVar 3) (aNil)))) (setV 4) dB := rfl
theorem dd4 {c0 c1 c4 c5 c6 c7 : Option Cell} {R Q : List Int} : (dRet (dIte (dTst (dCal anyAD (aCons (oVar 2) (aNil)))) (dC .non) (dCal tupD (aCons (oVar 3) (aNil))))) [c0, c1, some (.mu false (ld R)), some (.mu false (ld Q)), c4, c5, c6, c7] = .ret [c0, c1, some (.mu false (ld R)), some (.mu false (ld Q)), c4, c5, c6, c7] false (if (R.any fun i => i != 0) = true then .non else pd Q) := by
  have q := any_ints R
  by_cases h : (R.any fun i => i != 0) = true
  · rw [h] at q
    rw [if_pos h]
    simp only [dRet_ap, dIte_ap, dTst_ap, dCal_ap, aCons_ap, aNil_ap, oVar_ap, DF.R.bind_ok, DF.R.bindS_ok, ofO, ths, look, List.getElem?_cons_zero, List.getElem?_cons_succ, q, dC_ap]
  · rw [Bool.not_eq_true] at h
    rw [h] at q
    rw [h]
    simp only [dRet_ap, dIte_ap, dTst_ap, dCal_ap, aCons_ap, aNil_ap, oVar_ap, DF.R.bind_ok, DF.R.bindS_ok, ofO, ths, look, List.getElem?_cons_zero, List.getElem?_cons_succ, q, tupD]
    rfl
end K04

namespace K04
open PySem DF KM KP
theorem len3 {c0 c1 c2 c4 c5 c6 c7 : Option Cell} {Q : List Int} : dCal lenD (aCons (oVar 3) (aNil)) [c0, c1, c2, some (.mu false (ld Q)), c4, c5, c6, c7] = .ok [c0, c1, c2, some (.mu false (ld Q)), c4, c5, c6, c7] (.int (Q.length : Int)) := by
  simp [dC_ap, dVar_ap, oVar_ap, oD_ap, aNil_ap, aCons_ap, vNil_ap, vCons_ap, dBin_ap, dTst_ap, dUn_ap, dCal_ap, dSeq_ap, dNever_ap, dIf_ap, dRet_ap, dRetF_ap, dRetN_ap, dRetV_ap, dExpr_ap, dSet_ap, dSetF_ap, gsNil_ap, gsCons_ap, gTp_ap, dAsg_ap, sLst_ap, sTup_ap, sRng1_ap, sRng2_ap, dForS_ap, dTru_ap, dAnd_ap, dOr_ap, dNot_ap, dAndV_ap, dOrV_ap, dNotV_ap, dIte_ap, dChain_ap, dTup_ap, dLst_ap, dApp_ap, dSetI_ap, rNil_ap, rVal_ap, rIo_ap, dCal2_ap, dV_ap, dN_ap, tYesB_ap, dLc_ap, dIsi_ap, dPar_ap, dDic0_ap, dPar3_ap, DF.R.bind_ok, DF.R.bindS_ok, DF.R.bindN_ok, DF.SR.bind_nx, DF.SR.bind_ret, ofO, ths, setV, setF, free, set2, set3, fnRes, startE, startC, outs, argsD, putD, ioIx, isMu, look, muL, ltD_ap, leD_ap, gtD_ap, geD_ap, addD_ap, subD_ap, negD_ap, absD_ap, intD_ap, intD_apB, eq_int, ne_int, ixD, L2.atI, L2.ixN, lenD, gcdD, max2D, min2D]
theorem rev_ap {f : DEnv → DF.R D} {ρ : DEnv} {n : Nat} (hr : inR (n : Int) = true) (e : f ρ = .ok ρ (.int (n : Int))) : sRevR f ρ = .ok ρ (rng 0 n).reverse := by
  unfold sRevR
  rw [e, DF.R.bind_ok]
  dsimp only
  rw [if_pos hr, Int.toNat_natCast]
theorem inR_nat {n : Nat} (h : n ≤ 1000) : inR (n : Int) = true := by
  unfold inR
  rw [Bool.and_eq_true]
  exact ⟨decide_eq_true (by omega), decide_eq_true (by omega)⟩
theorem dd3 {c0 c1 c2 c4 c5 c6 c7 : Option Cell} {Q : List Int} {n : Nat} {r : SR} (hn : n ≤ 1000) (hQ : Q.length = n) (e : dFor (setV 4) dB (rng 0 n).reverse [c0, c1, c2, some (.mu false (ld Q)), c4, c5, c6, c7] = r) : dForS (sRevR (dCal lenD (aCons (oVar 3) (aNil)))) (setV 4) dB [c0, c1, c2, some (.mu false (ld Q)), c4, c5, c6, c7] = r := by
  have e1 := rev_ap (inR_nat hn) (by rw [← hQ]; exact len3 (c0 := c0) (c1 := c1) (c2 := c2) (c4 := c4) (c5 := c5) (c6 := c6) (c7 := c7) (Q := Q))
  rw [dForS_ap, e1, DF.R.bindS_ok]
  exact e
theorem e_divided {l m : List Int} {lead : Int} {X C : Nat} (hm : 0 < m.length) (hl : m.getD (m.length - 1) 0 = lead) (h0 : lead ≠ 0) (hC : ∀ y ∈ m, y.natAbs ≤ C) (hls : lead.natAbs ≤ C) (hX : ∀ k, (l.getD k 0).natAbs ≤ X) (hb : X * (C + 1) ^ (l.length - m.length + 1) ≤ 10 ^ 700) (hCs : C ≤ 10 ^ 700) (hlen : l.length ≤ 900) :
    F_divided [(false, pd l), (false, pd m)] = .ret false (if l.length < m.length then (if l = [0] then pd l else .non) else if ((pdiv m lead (l.length - m.length + 1) l).1.any fun i => i != 0) = true then .non else pd (pdiv m lead (l.length - m.length + 1) l).2) [] := by
  unfold F_divided B_divided
  rw [show startE 8 [(false, pd l), (false, pd m)] = [some (.val (pd l)), some (.val (pd m)), none, none, none, none, none, none] from rfl, dSeq_ap, dd0]
  by_cases h : l.length < m.length
  · rw [if_pos h, if_pos h, SR.bind_ret]
    rfl
  · rw [if_neg h, if_neg h, SR.bind_nx]
    have hz := zeros (l.length - m.length + 1) (by omega)
    rw [show ((l.length - m.length + 1 : Nat) : Int) = (l.length : Int) - (m.length : Int) + 1 by omega] at hz
    obtain ⟨c4, c5, c6, c7, e⟩ := dvd_loop (c0 := some (.val (pd l))) hm hl h0 hC hCs hls (l.length - m.length + 1) l (List.replicate (l.length - m.length + 1) 0) X none none none none (.inl rfl) (.inl rfl) (.inl rfl) (.inl rfl) (by omega) (by rw [List.length_replicate]; exact Nat.le_refl _) hX hb
    rw [List.drop_eq_nil_of_le (by rw [List.length_replicate]; exact Nat.le_refl _), List.append_nil] at e
    rw [dSeq_ap, dd1, SR.bind_nx, dSeq_ap, dd2 hz, SR.bind_nx, dd3_eq, dSeq_ap, dd3 (by omega) (List.length_replicate) e, SR.bind_nx, dd4]
    rfl
end K04

namespace K04
open PySem DF KM KP
/-- the answer of a division -/
def quo (l m : List Int) : D := if l.length < m.length then (if l = [0] then pd l else .non) else if ((pdiv m (m.getD (m.length - 1) 0) (l.length - m.length + 1) l).1.any fun i => i != 0) = true then .non else pd (pdiv m (m.getD (m.length - 1) 0) (l.length - m.length + 1) l).2
theorem e_quotient {l m : List Int} (h : Pl l) (h' : Pl m) (hz : m ≠ [0]) (e : F_divided [(false, pd l), (false, pd m)] = .ret false (quo l m) []) : F_polynomial_quotient [(false, pd l), (false, pd m)] = .ret false (quo l m) [] := by
  have hck := e_checkps h h'
  have q : eqD1 (pd m) (.tup [.int 0]) = some (.bl (decide (m = [0]))) := eq_pd m [0]
  rw [decide_eq_false hz] at q
  unfold F_polynomial_quotient B_polynomial_quotient
  simp [dC_ap, dVar_ap, oVar_ap, oD_ap, aNil_ap, aCons_ap, vNil_ap, vCons_ap, dBin_ap, dTst_ap, dUn_ap, dCal_ap, dSeq_ap, dNever_ap, dIf_ap, dRet_ap, dRetF_ap, dRetN_ap, dRetV_ap, dExpr_ap, dSet_ap, dSetF_ap, gsNil_ap, gsCons_ap, gTp_ap, dAsg_ap, sLst_ap, sTup_ap, sRng1_ap, sRng2_ap, dForS_ap, dTru_ap, dAnd_ap, dOr_ap, dNot_ap, dAndV_ap, dOrV_ap, dNotV_ap, dIte_ap, dChain_ap, dTup_ap, dLst_ap, dApp_ap, dSetI_ap, rNil_ap, rVal_ap, rIo_ap, dCal2_ap, dV_ap, dN_ap, tYesB_ap, dLc_ap, dIsi_ap, dPar_ap, dDic0_ap, dPar3_ap, DF.R.bind_ok, DF.R.bindS_ok, DF.R.bindN_ok, DF.SR.bind_nx, DF.SR.bind_ret, ofO, ths, setV, setF, free, set2, set3, fnRes, startE, startC, outs, argsD, putD, ioIx, isMu, look, muL, ltD_ap, leD_ap, gtD_ap, geD_ap, addD_ap, subD_ap, negD_ap, absD_ap, intD_ap, intD_apB, eq_int, ne_int, ixD, L2.atI, L2.ixN, lenD, gcdD, max2D, min2D, hck, q, e]
theorem lead_ne {m : List Int} (h : Pol m) (hz : m ≠ [0]) : m.getD (m.length - 1) 0 ≠ 0 := by
  rcases h with h | ⟨_, h⟩
  · match m, h with
    | [x], _ =>
      show x ≠ 0
      intro z
      exact hz (by rw [z])
  · exact h
/-- every number of the line, also where it has none -/
theorem getD_le {l : List Int} {X : Nat} (h : ∀ x ∈ l, x.natAbs ≤ X) (k : Nat) : (l.getD k 0).natAbs ≤ X := by
  rw [List.getD_eq_getElem?_getD]
  cases q : l[k]? with
  | none => exact Nat.zero_le _
  | some x => exact h x (List.mem_of_getElem? q)
end K04

namespace K04
open PySem DF KM KP
theorem p19 : powD (.int 10) (.int 19) = some (.int 10000000000000000000) := powD_ap (by decide +kernel)
theorem e_number {n : Nat} {d : D} (h : Bag n d) (hn : n ≤ 900000) : ∃ (x : Int) (d' : D), x.natAbs ≤ 10000000000000000000 ∧ Bag (n + 2) d' ∧ F_q_some_number [(true, d)] = .ret false (.int x) [d'] := by
  obtain ⟨w, d1, hw0, hw1, h1, e1⟩ := e_grab (t := 8) h (by omega) (by decide) (sm_of (by decide))
  by_cases hw : w = 0
  · obtain ⟨a, d2, ha0, ha1, h2, e2⟩ := e_grab (t := 2 * 10000000000000000000) h1 (by omega) (by decide) (sm_of (by decide))
    have m1 := mulD_ap (i := 2) (j := 10000000000000000000) (by decide +kernel)
    refine ⟨a - 10000000000000000000, d2, by omega, h2, ?_⟩
    unfold F_q_some_number B_q_some_number
    simp at e2 m1
    simp [dC_ap, dVar_ap, oVar_ap, oD_ap, aNil_ap, aCons_ap, vNil_ap, vCons_ap, dBin_ap, dTst_ap, dUn_ap, dCal_ap, dSeq_ap, dNever_ap, dIf_ap, dRet_ap, dRetF_ap, dRetN_ap, dRetV_ap, dExpr_ap, dSet_ap, dSetF_ap, gsNil_ap, gsCons_ap, gTp_ap, dAsg_ap, sLst_ap, sTup_ap, sRng1_ap, sRng2_ap, dForS_ap, dTru_ap, dAnd_ap, dOr_ap, dNot_ap, dAndV_ap, dOrV_ap, dNotV_ap, dIte_ap, dChain_ap, dTup_ap, dLst_ap, dApp_ap, dSetI_ap, rNil_ap, rVal_ap, rIo_ap, dCal2_ap, dV_ap, dN_ap, tYesB_ap, dLc_ap, dIsi_ap, dPar_ap, dDic0_ap, dPar3_ap, DF.R.bind_ok, DF.R.bindS_ok, DF.R.bindN_ok, DF.SR.bind_nx, DF.SR.bind_ret, ofO, ths, setV, setF, free, set2, set3, fnRes, startE, startC, outs, argsD, putD, ioIx, isMu, look, muL, ltD_ap, leD_ap, gtD_ap, geD_ap, addD_ap, subD_ap, negD_ap, absD_ap, intD_ap, intD_apB, eq_int, ne_int, ixD, L2.atI, L2.ixN, lenD, gcdD, max2D, min2D, e1, hw, p19, m1, e2]
  · obtain ⟨a, d2, ha0, ha1, h2, e2⟩ := e_grab (t := 9) h1 (by omega) (by decide) (sm_of (by decide))
    refine ⟨a - 4, d2, by omega, h2, ?_⟩
    unfold F_q_some_number B_q_some_number
    simp [dC_ap, dVar_ap, oVar_ap, oD_ap, aNil_ap, aCons_ap, vNil_ap, vCons_ap, dBin_ap, dTst_ap, dUn_ap, dCal_ap, dSeq_ap, dNever_ap, dIf_ap, dRet_ap, dRetF_ap, dRetN_ap, dRetV_ap, dExpr_ap, dSet_ap, dSetF_ap, gsNil_ap, gsCons_ap, gTp_ap, dAsg_ap, sLst_ap, sTup_ap, sRng1_ap, sRng2_ap, dForS_ap, dTru_ap, dAnd_ap, dOr_ap, dNot_ap, dAndV_ap, dOrV_ap, dNotV_ap, dIte_ap, dChain_ap, dTup_ap, dLst_ap, dApp_ap, dSetI_ap, rNil_ap, rVal_ap, rIo_ap, dCal2_ap, dV_ap, dN_ap, tYesB_ap, dLc_ap, dIsi_ap, dPar_ap, dDic0_ap, dPar3_ap, DF.R.bind_ok, DF.R.bindS_ok, DF.R.bindN_ok, DF.SR.bind_nx, DF.SR.bind_ret, ofO, ths, setV, setF, free, set2, set3, fnRes, startE, startC, outs, argsD, putD, ioIx, isMu, look, muL, ltD_ap, leD_ap, gtD_ap, geD_ap, addD_ap, subD_ap, negD_ap, absD_ap, intD_ap, intD_apB, eq_int, ne_int, ixD, L2.atI, L2.ixN, lenD, gcdD, max2D, min2D, e1, hw, e2]
end K04

namespace K04
open PySem DF KM KP
/-! ### the law's sum -/
def at1 (l : List Int) (k : Nat) : List Int := (l.drop k).take 1
theorem at1_sum (l : List Int) (k : Nat) : (at1 l k).sum = l.getD k 0 := by
  unfold at1
  by_cases h : k < l.length
  · have e : (l.drop k).take 1 = [l[k]] := by rw [List.drop_eq_getElem_cons h]; rfl
    rw [e, List.getD_eq_getElem?_getD, List.getElem?_eq_getElem h]
    show l[k] + 0 = l[k]
    omega
  · rw [List.drop_eq_nil_of_le (by omega), List.getD_eq_getElem?_getD, List.getElem?_eq_none (by omega)]
    rfl
theorem at1_len (l : List Int) (k : Nat) : (at1 l k).length ≤ 1 := by
  unfold at1
  rw [List.length_take]
  exact Nat.min_le_left _ _
theorem cut_one (l : List Int) (k : Nat) : cutD (l.map D.int) (some (k : Int)) (some ((k + 1 : Nat) : Int)) = (at1 l k).map D.int := by
  unfold cutD at1
  rw [HT.sIx_nat, HT.sIx_nat, List.length_map, List.map_take, List.map_drop]
  by_cases h : k < l.length
  · rw [Nat.min_eq_left (by omega), Nat.min_eq_left (by omega), show k + 1 - k = 1 by omega]
  · rw [Nat.min_eq_right (by omega), Nat.min_eq_right (by omega), List.drop_eq_nil_of_le (by rw [List.length_map]; omega), List.drop_eq_nil_of_le (by rw [List.length_map]; omega), List.take_nil, List.take_nil]
theorem sum_two (a b : List Int) : sumD [.lst (a.map D.int ++ b.map D.int)] = some (.int (a.sum + b.sum)) := by
  rw [← List.map_append]
  unfold sumD
  dsimp only
  rw [show DF.listOf (.lst ((a ++ b).map D.int)) = some ((a ++ b).map D.int) from rfl]
  dsimp only
  rw [intsD_map]
  show some (D.int (a ++ b).sum) = _
  rw [List.sum_append]
def lsE : DEnv → DF.R D := dCal sumD (aCons (oD (dBin addD (oD (dMk seqOf (oD (dSl (oVar 0) (pInt (dVar 3)) (pInt (dBin addD (oVar 3) (oD (dC (.int 1))))))))) (oD (dMk seqOf (oD (dSl (oVar 1) (pInt (dVar 3)) (pInt (dBin addD (oVar 3) (oD (dC (.int 1))))))))))) (aNil))
theorem cat_two {a b : List Int} (ha : a.length ≤ 1) (hb : b.length ≤ 1) : addD (.lst (a.map D.int)) (.lst (b.map D.int)) = some (.lst (a.map D.int ++ b.map D.int)) := catL_ap (by rw [List.length_map, List.length_map]; omega)
theorem lsE_ap {c2 c4 : Option Cell} {l m : List Int} {k : Nat} : lsE [some (.val (pd l)), some (.val (pd m)), c2, some (.val (.int (k : Int))), c4] = .ok [some (.val (pd l)), some (.val (pd m)), c2, some (.val (.int (k : Int))), c4] (.int (l.getD k 0 + m.getD k 0)) := by
  have e : (k : Int) + 1 = ((k + 1 : Nat) : Int) := by omega
  have h1 := cut_one l k
  have h2 := cut_one m k
  have h3 := cat_two (at1_len l k) (at1_len m k)
  have h4 := sum_two (at1 l k) (at1 m k)
  rw [at1_sum, at1_sum] at h4
  simp only [lsE, dCal_ap, aCons_ap, aNil_ap, dBin_ap, oD_ap, oVar_ap, dC_ap, dVar_ap, dMk, dSl, pInt, DF.R.bind_ok, ofO, ths, look, List.getElem?_cons_zero, List.getElem?_cons_succ, addD_ap, e, slO, h1, h2, seqOf, h3, h4]
end K04

namespace K04
open PySem DF KM KP
theorem ls_loop {c2 : Option Cell} {l m : List Int} : ∀ (ks : List Nat) (acc : List D), acc.length + ks.length ≤ 1000 → dLcGo (setV 3) tYesB lsE [3] (ks.map fun (k : Nat) => D.int (0 + (k : Int))) acc [some (.val (pd l)), some (.val (pd m)), c2, none, none] = .ok [some (.val (pd l)), some (.val (pd m)), c2, none, none] (.lst (acc ++ ks.map fun (k : Nat) => D.int (l.getD k 0 + m.getD k 0)))
  | [], acc, _ => by simp [dLcGo]
  | k :: ks, acc, h => by
    rw [List.length_cons] at h
    have ih := ls_loop (c2 := c2) (l := l) (m := m) ks (acc ++ [D.int (l.getD k 0 + m.getD k 0)]) (by rw [List.length_append, List.length_singleton]; omega)
    have e := lsE_ap (c2 := c2) (c4 := none) (l := l) (m := m) (k := k)
    have hl : acc.length < 16000000 := by omega
    rw [List.map_cons, List.map_cons]
    unfold dLcGo
    rw [Int.zero_add]
    simp only [setV, free, List.getElem?_cons_zero, List.getElem?_cons_succ, if_true, List.set_cons_zero, List.set_cons_succ, tYesB, R.bindN_ok, e, noMu, wipeE, List.all_cons, List.all_nil, Bool.and_true, hl]
    rw [List.append_assoc] at ih
    exact ih
theorem psum_map (l m : List Int) : (List.range (max l.length m.length)).map (fun (k : Nat) => D.int (l.getD k 0 + m.getD k 0)) = (psum l m).map D.int := by
  have : psum l m = (List.range (max l.length m.length)).map fun k => l.getD k 0 + m.getD k 0 := by
    refine ext0 (by rw [psum_length, List.length_map, List.length_range]) fun k hk => ?_
    rw [psum_length] at hk
    rw [psum_get hk, List.getD_eq_getElem?_getD (l := List.map _ _), List.getElem?_map, List.getElem?_range hk]
    rfl
  rw [this, List.map_map]
  rfl
theorem ls1_eq : (dSetF 4 (dLc (sRng1 (vCons (dVar 2) (vNil))) (setV 3) (tYesB) (dCal sumD (aCons (oD (dBin addD (oD (dMk seqOf (oD (dSl (oVar 0) (pInt (dVar 3)) (pInt (dBin addD (oVar 3) (oD (dC (.int 1))))))))) (oD (dMk seqOf (oD (dSl (oVar 1) (pInt (dVar 3)) (pInt (dBin addD (oVar 3) (oD (dC (.int 1))))))))))) (aNil))) [3])) = dSetF 4 (dLc (sRng1 (vCons (dVar 2) (vNil))) (setV 3) (tYesB) lsE [3]) := rfl
theorem rng1_ap {f : DEnv → DF.R (List D)} {ρ : DEnv} {n : Nat} (hr : inR (n : Int) = true) (e : f ρ = .ok ρ [.int (n : Int)]) : sRng1 f ρ = .ok ρ (rng 0 n) := by
  rw [sRng1_ap, e, DF.R.bind_ok]
  dsimp only
  rw [if_pos hr, Int.toNat_natCast]
end K04

namespace K04
open PySem DF KM KP
theorem ls0 {l m : List Int} : (dSet 2 (dCal max2D (aCons (oD (dCal lenD (aCons (oVar 0) (aNil)))) (aCons (oD (dCal lenD (aCons (oVar 1) (aNil)))) (aNil))))) [some (.val (pd l)), some (.val (pd m)), none, none, none] = .nx [some (.val (pd l)), some (.val (pd m)), some (.val (.int ((max l.length m.length : Nat) : Int))), none, none] := by
  have e : (if l.length < m.length then (m.length : Int) else (l.length : Int)) = ((max l.length m.length : Nat) : Int) := by split <;> omega
  simp [dC_ap, dVar_ap, oVar_ap, oD_ap, aNil_ap, aCons_ap, vNil_ap, vCons_ap, dBin_ap, dTst_ap, dUn_ap, dCal_ap, dSeq_ap, dNever_ap, dIf_ap, dRet_ap, dRetF_ap, dRetN_ap, dRetV_ap, dExpr_ap, dSet_ap, dSetF_ap, gsNil_ap, gsCons_ap, gTp_ap, dAsg_ap, sLst_ap, sTup_ap, sRng1_ap, sRng2_ap, dForS_ap, dTru_ap, dAnd_ap, dOr_ap, dNot_ap, dAndV_ap, dOrV_ap, dNotV_ap, dIte_ap, dChain_ap, dTup_ap, dLst_ap, dApp_ap, dSetI_ap, rNil_ap, rVal_ap, rIo_ap, dCal2_ap, dV_ap, dN_ap, tYesB_ap, dLc_ap, dIsi_ap, dPar_ap, dDic0_ap, dPar3_ap, DF.R.bind_ok, DF.R.bindS_ok, DF.R.bindN_ok, DF.SR.bind_nx, DF.SR.bind_ret, ofO, ths, setV, setF, free, set2, set3, fnRes, startE, startC, outs, argsD, putD, ioIx, isMu, look, muL, ltD_ap, leD_ap, gtD_ap, geD_ap, addD_ap, subD_ap, negD_ap, absD_ap, intD_ap, intD_apB, eq_int, ne_int, ixD, L2.atI, L2.ixN, lenD, gcdD, max2D, min2D, e]
theorem ls_args {c0 c1 c3 c4 : Option Cell} {n : Nat} : (vCons (dVar 2) (vNil)) [c0, c1, some (.val (.int (n : Int))), c3, c4] = .ok [c0, c1, some (.val (.int (n : Int))), c3, c4] [.int (n : Int)] := by
  simp only [vCons_ap, vNil_ap, dVar_ap, DF.R.bind_ok, List.getElem?_cons_zero, List.getElem?_cons_succ]
theorem ls1 {l m : List Int} (h : max l.length m.length ≤ 1000) : dSetF 4 (dLc (sRng1 (vCons (dVar 2) (vNil))) (setV 3) (tYesB) lsE [3]) [some (.val (pd l)), some (.val (pd m)), some (.val (.int ((max l.length m.length : Nat) : Int))), none, none] = .nx [some (.val (pd l)), some (.val (pd m)), some (.val (.int ((max l.length m.length : Nat) : Int))), none, some (.mu false (ld (psum l m)))] := by
  have e1 := rng1_ap (inR_nat h) (ls_args (c0 := some (.val (pd l))) (c1 := some (.val (pd m))) (c3 := none) (c4 := none) (n := max l.length m.length))
  have e2 := ls_loop (c2 := some (.val (.int ((max l.length m.length : Nat) : Int)))) (l := l) (m := m) (List.range (max l.length m.length)) [] (by rw [List.length_range]; simpa using h)
  rw [List.nil_append, psum_map] at e2
  have e2 : dLcGo (setV 3) tYesB lsE [3] (rng 0 (max l.length m.length)) [] [some (.val (pd l)), some (.val (pd m)), some (.val (.int ((max l.length m.length : Nat) : Int))), none, none] = .ok [some (.val (pd l)), some (.val (pd m)), some (.val (.int ((max l.length m.length : Nat) : Int))), none, none] (ld (psum l m)) := e2
  rw [dSetF_ap, dLc_ap, e1, DF.R.bind_ok]
  simp only [noMu, List.all_cons, List.all_nil, List.getElem?_cons_zero, List.getElem?_cons_succ, Bool.and_true, if_true, e2, DF.R.bindS_ok, setF, free, wipeE, List.set_cons_zero, List.set_cons_succ]
theorem ls2_eq (n : Nat) : dWhile (dAnd (dTst (dBin gtD (oD (dCal lenD (aCons (oVar 4) (aNil)))) (oD (dC (.int 1))))) (dTst (dBin eqD1 (oD (dBin ixD (oVar 4) (oD (dUn negD (oD (dC (.int 1))))))) (oD (dC (.int 0)))))) (dPop 4) n = dWhile (ppT 4) (dPop 4) n := rfl
theorem ls3 {c0 c1 c2 c3 : Option Cell} {l : List Int} : (dRet (dCal tupD (aCons (oVar 4) (aNil)))) [c0, c1, c2, c3, some (.mu false (ld l))] = .ret [c0, c1, c2, c3, some (.mu false (ld l))] false (pd l) := by
  simp [dC_ap, dVar_ap, oVar_ap, oD_ap, aNil_ap, aCons_ap, vNil_ap, vCons_ap, dBin_ap, dTst_ap, dUn_ap, dCal_ap, dSeq_ap, dNever_ap, dIf_ap, dRet_ap, dRetF_ap, dRetN_ap, dRetV_ap, dExpr_ap, dSet_ap, dSetF_ap, gsNil_ap, gsCons_ap, gTp_ap, dAsg_ap, sLst_ap, sTup_ap, sRng1_ap, sRng2_ap, dForS_ap, dTru_ap, dAnd_ap, dOr_ap, dNot_ap, dAndV_ap, dOrV_ap, dNotV_ap, dIte_ap, dChain_ap, dTup_ap, dLst_ap, dApp_ap, dSetI_ap, rNil_ap, rVal_ap, rIo_ap, dCal2_ap, dV_ap, dN_ap, tYesB_ap, dLc_ap, dIsi_ap, dPar_ap, dDic0_ap, dPar3_ap, DF.R.bind_ok, DF.R.bindS_ok, DF.R.bindN_ok, DF.SR.bind_nx, DF.SR.bind_ret, ofO, ths, setV, setF, free, set2, set3, fnRes, startE, startC, outs, argsD, putD, ioIx, isMu, look, muL, ltD_ap, leD_ap, gtD_ap, geD_ap, addD_ap, subD_ap, negD_ap, absD_ap, intD_ap, intD_apB, eq_int, ne_int, ixD, L2.atI, L2.ixN, lenD, gcdD, max2D, min2D, tupD]
theorem e_lsum {l m : List Int} (h : max l.length m.length ≤ 900) : F_q_line_sum [(false, pd l), (false, pd m)] = .ret false (pd (trim (psum l m))) [] := by
  have hp := pop_loop 4 false (fuel [(false, pd l), (false, pd m)]) (psum l m) [some (.val (pd l)), some (.val (pd m)), some (.val (.int ((max l.length m.length : Nat) : Int))), none, some (.mu false (ld (psum l m)))] rfl (by rw [psum_length]; have := fuel_ge [(false, pd l), (false, pd m)]; omega)
  have hp : dWhile (ppT 4) (dPop 4) (fuel [(false, pd l), (false, pd m)]) [some (.val (pd l)), some (.val (pd m)), some (.val (.int ((max l.length m.length : Nat) : Int))), none, some (.mu false (ld (psum l m)))] = .nx [some (.val (pd l)), some (.val (pd m)), some (.val (.int ((max l.length m.length : Nat) : Int))), none, some (.mu false (ld (trim (psum l m))))] := hp
  unfold F_q_line_sum B_q_line_sum
  rw [show startE 5 [(false, pd l), (false, pd m)] = [some (.val (pd l)), some (.val (pd m)), none, none, none] from rfl, dSeq_ap, ls0, SR.bind_nx, ls1_eq, dSeq_ap, ls1 (by omega), SR.bind_nx, dSeq_ap, ls2_eq, hp, SR.bind_nx, ls3]
  rfl
end K04

namespace K04
open PySem DF KM KP
/-! ### the law's division -/
def lvB : DEnv → SR := dSetI 2 (dBin addD (oVar 5) (oVar 6)) (dBin subD (oD (dBin ixD (oVar 2) (oD (dBin addD (oVar 5) (oVar 6))))) (oD (dBin mulD (oVar 4) (oVar 7))))
theorem lv_step {c0 c1 c3 : Option Cell} {T : List Int} {i j : Nat} {f y : Int} (h : i + j < T.length) (hm : cMul f y = true) :
    lvB [c0, c1, some (.mu false (ld T)), c3, some (.val (.int f)), some (.val (.int (i : Int))), some (.val (.int (j : Int))), some (.val (.int y))] =
      .nx [c0, c1, some (.mu false (ld (add1 T (i + j) (-f * y)))), c3, some (.val (.int f)), some (.val (.int (i : Int))), some (.val (.int (j : Int))), some (.val (.int y))] := by
  have ha := at_nat h
  have e : (i : Int) + (j : Int) = ((i + j : Nat) : Int) := by omega
  have ev : T.getD (i + j) 0 + -f * y = T.getD (i + j) 0 - f * y := by rw [Int.neg_mul]; omega
  unfold lvB add1
  rw [ev, seti_ap (b := false) (T := T) (k := i + j) (v := T.getD (i + j) 0 - f * y) rfl h]
  · rfl
  · simp only [dBin_ap, oVar_ap, oD_ap, DF.R.bind_ok, ofO, look, List.getElem?_cons_zero, List.getElem?_cons_succ, addD_ap, subD_ap, e, ixD, ha, mulD_ap hm]
  · simp only [dBin_ap, oVar_ap, DF.R.bind_ok, ofO, look, List.getElem?_cons_zero, List.getElem?_cons_succ, addD_ap, e]
theorem lv_loop {c0 c1 c3 : Option Cell} {i : Nat} {f : Int} (hf : Sm f) : ∀ (m : List Int) (j : Nat) (T : List Int) (c6 c7 : Option Cell), Vc c6 → Vc c7 → (∀ y ∈ m, Sm y) → i + j + m.length ≤ T.length →
    ∃ c6' c7', Vc c6' ∧ Vc c7' ∧ dFor dvG lvB (enD j (m.map D.int)) [c0, c1, some (.mu false (ld T)), c3, some (.val (.int f)), some (.val (.int (i : Int))), c6, c7] =
      .nx [c0, c1, some (.mu false (ld (row (-f) i m j T))), c3, some (.val (.int f)), some (.val (.int (i : Int))), c6', c7']
  | [], j, T, c6, c7, h6, h7, _, _ => ⟨c6, c7, h6, h7, rfl⟩
  | y :: r, j, T, c6, c7, h6, h7, hy, h => by
    rw [List.length_cons] at h
    obtain ⟨c6', c7', g6, g7, e⟩ := lv_loop (c0 := c0) (c1 := c1) (c3 := c3) (i := i) hf r (j + 1) (add1 T (i + j) (-f * y)) (some (.val (.int (j : Int)))) (some (.val (.int y))) (.inr ⟨_, rfl⟩) (.inr ⟨_, rfl⟩) (fun z hz => hy z (List.mem_cons_of_mem _ hz)) (by rw [add1_length]; omega)
    refine ⟨c6', c7', g6, g7, ?_⟩
    rw [List.map_cons]
    unfold enD dFor
    rw [dvG_ap h6 h7]
    dsimp only
    rw [lv_step (by omega) (cm hf (hy y List.mem_cons_self))]
    exact e
def lvT : DEnv → DF.R Bool := dTst (dBin geD (oD (dCal lenD (aCons (oVar 2) (aNil)))) (oD (dCal lenD (aCons (oVar 1) (aNil)))))
def lvW : DEnv → SR := dSeq (dSet 4 (dBin divD (oD (dBin ixD (oVar 2) (oD (dUn negD (oD (dC (.int 1))))))) (oD (dBin ixD (oVar 1) (oD (dUn negD (oD (dC (.int 1)))))))))
    (dSeq (dIf (dTst (dBin neD1 (oD (dBin mulD (oVar 4) (oD (dBin ixD (oVar 1) (oD (dUn negD (oD (dC (.int 1))))))))) (oD (dBin ixD (oVar 2) (oD (dUn negD (oD (dC (.int 1))))))))) (dRet (dC .non)) (SR.nx))
    (dSeq (dSet 5 (dBin subD (oD (dCal lenD (aCons (oVar 2) (aNil)))) (oD (dCal lenD (aCons (oVar 1) (aNil))))))
    (dSeq (dForS (sEnT (vCons (dVar 1) (vNil))) (gTp 2 (gsCons (setV 6) (gsCons (setV 7) (gsNil)))) lvB)
    (dSeq (dPop 2)
    (dApp 3 (dVar 4))))))
theorem ov1_eq (n : Nat) : dWhile (dTst (dBin geD (oD (dCal lenD (aCons (oVar 2) (aNil)))) (oD (dCal lenD (aCons (oVar 1) (aNil)))))) lvW n = dWhile lvT lvW n := rfl
theorem lvT_ap {c0 c3 c4 c5 c6 c7 : Option Cell} {m L : List Int} : lvT [c0, some (.val (pd m)), some (.mu false (ld L)), c3, c4, c5, c6, c7] = .ok [c0, some (.val (pd m)), some (.mu false (ld L)), c3, c4, c5, c6, c7] (decide ((m.length : Int) ≤ (L.length : Int))) := by
  simp only [lvT, dTst_ap, dBin_ap, dCal_ap, aCons_ap, aNil_ap, oVar_ap, oD_ap, DF.R.bind_ok, ofO, ths, look, List.getElem?_cons_zero, List.getElem?_cons_succ, lenD, List.length_map, geD_ap]
theorem lw0 {c0 c3 c4 c5 c6 c7 : Option Cell} {m L : List Int} {lead top : Int} (h4 : Vc c4) (hm : 0 < m.length) (hl : m.getD (m.length - 1) 0 = lead) (hL : 0 < L.length) (ht : L.getD (L.length - 1) 0 = top) (hd : cDiv top lead = true) :
    dSet 4 (dBin divD (oD (dBin ixD (oVar 2) (oD (dUn negD (oD (dC (.int 1))))))) (oD (dBin ixD (oVar 1) (oD (dUn negD (oD (dC (.int 1)))))))) [c0, some (.val (pd m)), some (.mu false (ld L)), c3, c4, c5, c6, c7] =
      .nx [c0, some (.val (pd m)), some (.mu false (ld L)), c3, some (.val (.int (top.fdiv lead))), c5, c6, c7] := by
  have ha := at_last hL
  rw [ht] at ha
  have hb := at_last hm
  rw [hl] at hb
  have hq := divD_ap hd
  rcases h4 with rfl | ⟨d4, rfl⟩
  · simp only [dSet_ap, dBin_ap, dUn_ap, oVar_ap, oD_ap, dC_ap, DF.R.bind_ok, DF.R.bindS_ok, ofO, ths, look, List.getElem?_cons_zero, List.getElem?_cons_succ, negD_ap, ixD, ha, hb, hq, setV, free, if_true, List.set_cons_zero, List.set_cons_succ]
  · simp only [dSet_ap, dBin_ap, dUn_ap, oVar_ap, oD_ap, dC_ap, DF.R.bind_ok, DF.R.bindS_ok, ofO, ths, look, List.getElem?_cons_zero, List.getElem?_cons_succ, negD_ap, ixD, ha, hb, hq, setV, free, if_true, List.set_cons_zero, List.set_cons_succ]
theorem lw1 {c0 c3 c5 c6 c7 : Option Cell} {m L : List Int} {lead top f : Int} (hm : 0 < m.length) (hl : m.getD (m.length - 1) 0 = lead) (hL : 0 < L.length) (ht : L.getD (L.length - 1) 0 = top) (hmul : cMul f lead = true) :
    dIf (dTst (dBin neD1 (oD (dBin mulD (oVar 4) (oD (dBin ixD (oVar 1) (oD (dUn negD (oD (dC (.int 1))))))))) (oD (dBin ixD (oVar 2) (oD (dUn negD (oD (dC (.int 1))))))))) (dRet (dC .non)) (SR.nx) [c0, some (.val (pd m)), some (.mu false (ld L)), c3, some (.val (.int f)), c5, c6, c7] =
      if f * lead = top then .nx [c0, some (.val (pd m)), some (.mu false (ld L)), c3, some (.val (.int f)), c5, c6, c7] else .ret [c0, some (.val (pd m)), some (.mu false (ld L)), c3, some (.val (.int f)), c5, c6, c7] false .non := by
  have ha := at_last hL
  rw [ht] at ha
  have hb := at_last hm
  rw [hl] at hb
  have hq := mulD_ap hmul
  by_cases h : f * lead = top
  · rw [if_pos h]
    simp only [dIf_ap, dTst_ap, dBin_ap, dUn_ap, oVar_ap, oD_ap, dC_ap, DF.R.bind_ok, DF.R.bindS_ok, ofO, ths, look, List.getElem?_cons_zero, List.getElem?_cons_succ, negD_ap, ixD, ha, hb, hq, ne_int, h]
    simp
  · rw [if_neg h]
    simp only [dIf_ap, dTst_ap, dBin_ap, dUn_ap, oVar_ap, oD_ap, dC_ap, DF.R.bind_ok, DF.R.bindS_ok, ofO, ths, look, List.getElem?_cons_zero, List.getElem?_cons_succ, negD_ap, ixD, ha, hb, hq, ne_int, h, dRet_ap]
    simp [h]
theorem lw2 {c0 c3 c4 c5 c6 c7 : Option Cell} {m L : List Int} {n : Nat} (h5 : Vc c5) (hn : L.length = n + m.length) :
    dSet 5 (dBin subD (oD (dCal lenD (aCons (oVar 2) (aNil)))) (oD (dCal lenD (aCons (oVar 1) (aNil))))) [c0, some (.val (pd m)), some (.mu false (ld L)), c3, c4, c5, c6, c7] =
      .nx [c0, some (.val (pd m)), some (.mu false (ld L)), c3, c4, some (.val (.int (n : Int))), c6, c7] := by
  have e : (L.length : Int) - (m.length : Int) = (n : Int) := by omega
  rcases h5 with rfl | ⟨d5, rfl⟩
  · simp only [dSet_ap, dBin_ap, dCal_ap, aCons_ap, aNil_ap, oVar_ap, oD_ap, DF.R.bind_ok, DF.R.bindS_ok, ofO, ths, look, lenD, List.length_map, List.getElem?_cons_zero, List.getElem?_cons_succ, subD_ap, e, setV, free, if_true, List.set_cons_zero, List.set_cons_succ]
  · simp only [dSet_ap, dBin_ap, dCal_ap, aCons_ap, aNil_ap, oVar_ap, oD_ap, DF.R.bind_ok, DF.R.bindS_ok, ofO, ths, look, lenD, List.length_map, List.getElem?_cons_zero, List.getElem?_cons_succ, subD_ap, e, setV, free, if_true, List.set_cons_zero, List.set_cons_succ]
theorem lw3 {c0 c3 c6 c7 : Option Cell} {m R : List Int} {n : Nat} {f : Int} (h6 : Vc c6) (h7 : Vc c7) (hf : Sm f) (hm : ∀ y ∈ m, Sm y) (h : n + m.length ≤ R.length) :
    ∃ c6' c7', Vc c6' ∧ Vc c7' ∧ dForS (sEnT (vCons (dVar 1) (vNil))) dvG lvB [c0, some (.val (pd m)), some (.mu false (ld R)), c3, some (.val (.int f)), some (.val (.int (n : Int))), c6, c7] = .nx [c0, some (.val (pd m)), some (.mu false (ld (row (-f) n m 0 R))), c3, some (.val (.int f)), some (.val (.int (n : Int))), c6', c7'] := by
  obtain ⟨c6', c7', g6, g7, e⟩ := lv_loop (c0 := c0) (c1 := some (.val (pd m))) (c3 := c3) (i := n) hf m 0 R c6 c7 h6 h7 hm (by omega)
  refine ⟨c6', c7', g6, g7, ?_⟩
  rw [dForS_ap, sEnT_ap]
  simp only [vCons_ap, vNil_ap, dVar_ap, DF.R.bind_ok, List.getElem?_cons_zero, List.getElem?_cons_succ, DF.R.bindS_ok]
  exact e
theorem lw5 {c0 c1 c2 c5 c6 c7 : Option Cell} {A : List Int} {f : Int} (hA : A.length < 16000000) : dApp 3 (dVar 4) [c0, c1, c2, some (.mu false (ld A)), some (.val (.int f)), c5, c6, c7] = .nx [c0, c1, c2, some (.mu false (ld (A ++ [f]))), some (.val (.int f)), c5, c6, c7] := by
  simp [dApp_ap, muL, dVar_ap, DF.R.bindS_ok, hA]
end K04

namespace K04
open PySem DF KM KP
theorem getD_last_drop {l : List Int} {n : Nat} (h : n + 1 = l.length) : l.dropLast = l.take n := by
  rw [List.dropLast_eq_take]
  congr 1
  omega
theorem lw4 {c0 c1 c3 c4 c5 c6 c7 : Option Cell} {R : List Int} {n : Nat} (h : R.length = n + 1) : dPop 2 [c0, c1, some (.mu false (ld R)), c3, c4, c5, c6, c7] = .nx [c0, c1, some (.mu false (ld (R.take n))), c3, c4, c5, c6, c7] := by
  have := pop_ap (ρ := [c0, c1, some (.mu false (ld R)), c3, c4, c5, c6, c7]) (i := 2) (b := false) (l := R) rfl (by omega)
  rw [this, getD_last_drop (n := n) (by omega)]
  rfl
/-- one pass: the top is divided -/
theorem lvW_ap {c0 c4 c5 c6 c7 : Option Cell} {m L A : List Int} {lead : Int} {n : Nat} (hm : 0 < m.length) (hl : m.getD (m.length - 1) 0 = lead) (hL : L.length = n + m.length) (hd : cDiv (L.getD (n + m.length - 1) 0) lead = true) (hmul : cMul ((L.getD (n + m.length - 1) 0).fdiv lead) lead = true) (hf : Sm ((L.getD (n + m.length - 1) 0).fdiv lead)) (hs : ∀ y ∈ m, Sm y) (hA : A.length < 16000000) (h4 : Vc c4) (h5 : Vc c5) (h6 : Vc c6) (h7 : Vc c7) :
    if (L.getD (n + m.length - 1) 0).fdiv lead * lead = L.getD (n + m.length - 1) 0 then
      ∃ c6' c7', Vc c6' ∧ Vc c7' ∧ lvW [c0, some (.val (pd m)), some (.mu false (ld L)), some (.mu false (ld A)), c4, c5, c6, c7] = .nx [c0, some (.val (pd m)), some (.mu false (ld ((row (-((L.getD (n + m.length - 1) 0).fdiv lead)) n m 0 L).take (n + m.length - 1)))), some (.mu false (ld (A ++ [(L.getD (n + m.length - 1) 0).fdiv lead]))), some (.val (.int ((L.getD (n + m.length - 1) 0).fdiv lead))), some (.val (.int (n : Int))), c6', c7']
    else ∃ ρ, lvW [c0, some (.val (pd m)), some (.mu false (ld L)), some (.mu false (ld A)), c4, c5, c6, c7] = .ret ρ false .non := by
  have hL0 : 0 < L.length := by omega
  have ht : L.getD (L.length - 1) 0 = L.getD (n + m.length - 1) 0 := by rw [hL]
  generalize hT : L.getD (n + m.length - 1) 0 = top at *
  by_cases h : top.fdiv lead * lead = top
  · rw [if_pos h]
    obtain ⟨c6', c7', g6, g7, e3⟩ := lw3 (c0 := c0) (c3 := some (.mu false (ld A))) (m := m) (R := L) (n := n) h6 h7 hf hs (by omega)
    refine ⟨c6', c7', g6, g7, ?_⟩
    have hlen : (row (-(top.fdiv lead)) n m 0 L).length = (n + m.length - 1) + 1 := by rw [row_length]; omega
    unfold lvW
    rw [dSeq_ap, lw0 h4 hm hl hL0 ht hd, SR.bind_nx, dSeq_ap, lw1 hm hl hL0 ht hmul, if_pos h, SR.bind_nx, dSeq_ap, lw2 h5 hL, SR.bind_nx, dSeq_ap]
    have e3' : dForS (sEnT (vCons (dVar 1) (vNil))) (gTp 2 (gsCons (setV 6) (gsCons (setV 7) (gsNil)))) lvB [c0, some (.val (pd m)), some (.mu false (ld L)), some (.mu false (ld A)), some (.val (.int (top.fdiv lead))), some (.val (.int (n : Int))), c6, c7] = _ := e3
    rw [e3', SR.bind_nx, dSeq_ap, lw4 hlen, SR.bind_nx, lw5 hA]
  · rw [if_neg h]
    refine ⟨[c0, some (.val (pd m)), some (.mu false (ld L)), some (.mu false (ld A)), some (.val (.int (top.fdiv lead))), c5, c6, c7], ?_⟩
    unfold lvW
    rw [dSeq_ap, lw0 h4 hm hl hL0 ht hd, SR.bind_nx, dSeq_ap, lw1 hm hl hL0 ht hmul, if_neg h]
    rfl
theorem lov_loop {c0 : Option Cell} {m : List Int} {lead : Int} {C : Nat} (hm : 0 < m.length) (hl : m.getD (m.length - 1) 0 = lead) (h0 : lead ≠ 0) (hC : ∀ y ∈ m, y.natAbs ≤ C) (hCs : C ≤ 10 ^ 700) (hls : lead.natAbs ≤ C) : ∀ (n : Nat) (L A : List Int) (X fu : Nat) (c4 c5 c6 c7 : Option Cell), Vc c4 → Vc c5 → Vc c6 → Vc c7 → L.length = n + m.length - 1 → A.length + n ≤ 1000 → n < fu → (∀ k, (L.getD k 0).natAbs ≤ X) → X * (C + 1) ^ n ≤ 10 ^ 700 →
    match ldiv m lead n L with
    | some (L', q) => ∃ c4' c5' c6' c7', Vc c4' ∧ Vc c5' ∧ Vc c6' ∧ Vc c7' ∧ dWhile lvT lvW fu [c0, some (.val (pd m)), some (.mu false (ld L)), some (.mu false (ld A)), c4, c5, c6, c7] = .nx [c0, some (.val (pd m)), some (.mu false (ld L')), some (.mu false (ld (A ++ q.reverse))), c4', c5', c6', c7']
    | none => ∃ ρ, dWhile lvT lvW fu [c0, some (.val (pd m)), some (.mu false (ld L)), some (.mu false (ld A)), c4, c5, c6, c7] = .ret ρ false .non
  | n, L, A, X, 0, _, _, _, _, _, _, _, _, _, _, hfu, _, _ => absurd hfu (Nat.not_lt_zero _)
  | 0, L, A, X, fu + 1, c4, c5, c6, c7, h4, h5, h6, h7, hL, hA, hfu, hX, hb => by
    refine ⟨c4, c5, c6, c7, h4, h5, h6, h7, ?_⟩
    rw [dWhile_succ, lvT_ap, DF.R.bindS_ok, decide_eq_false (by omega)]
    show SR.nx _ = _
    rw [List.reverse_nil, List.append_nil]
  | n + 1, L, A, X, fu + 1, c4, c5, c6, c7, h4, h5, h6, h7, hL, hA, hfu, hX, hb => by
    have hL' : L.length = n + m.length := by omega
    have hp1 : 0 < (C + 1) ^ n := Nat.pow_pos (Nat.succ_pos C)
    have hXX : X * (C + 1) * (C + 1) ^ n ≤ 10 ^ 700 := by rw [Nat.pow_succ, Nat.mul_comm ((C + 1) ^ n), ← Nat.mul_assoc] at hb; exact hb
    have hX7 : X ≤ 10 ^ 700 := Nat.le_trans (Nat.le_trans (Nat.le_mul_of_pos_right X (Nat.succ_pos C)) (Nat.le_mul_of_pos_right _ hp1)) hXX
    have hf := fdiv_le (L.getD (n + m.length - 1) 0) lead
    have hfX : ((L.getD (n + m.length - 1) 0).fdiv lead).natAbs ≤ X := Nat.le_trans hf (hX _)
    have hsl : Sm lead := sm_of (Nat.le_trans hls hCs)
    have hsf : Sm ((L.getD (n + m.length - 1) 0).fdiv lead) := sm_of (Nat.le_trans hfX hX7)
    have hd : cDiv (L.getD (n + m.length - 1) 0) lead = true := cd h0 hsl
    have hw := lvW_ap (c0 := c0) (c4 := c4) (c5 := c5) (c6 := c6) (c7 := c7) (A := A) hm hl hL' hd (cm hsf hsl) hsf (fun y hy => sm_of (Nat.le_trans (hC y hy) hCs)) (by omega) h4 h5 h6 h7
    have hX' : ∀ k, (((row (-((L.getD (n + m.length - 1) 0).fdiv lead)) n m 0 L).take (n + m.length - 1)).getD k 0).natAbs ≤ X * (C + 1) := fun k => by
      by_cases hk : k < n + m.length - 1
      · rw [getD_take hk]
        exact row_bound hC hfX hX k (by omega)
      · rw [List.getD_eq_getElem?_getD, List.getElem?_eq_none (by rw [List.length_take]; omega)]
        exact Nat.zero_le _
    rw [dWhile_succ, lvT_ap, DF.R.bindS_ok, decide_eq_true (by omega)]
    dsimp only
    unfold ldiv
    by_cases he : (L.getD (n + m.length - 1) 0).fdiv lead * lead = L.getD (n + m.length - 1) 0
    · rw [if_pos he] at hw ⊢
      obtain ⟨c6', c7', g6, g7, e⟩ := hw
      rw [e]
      dsimp only
      have ih := lov_loop (c0 := c0) hm hl h0 hC hCs hls n ((row (-((L.getD (n + m.length - 1) 0).fdiv lead)) n m 0 L).take (n + m.length - 1)) (A ++ [(L.getD (n + m.length - 1) 0).fdiv lead]) (X * (C + 1)) fu (some (.val (.int ((L.getD (n + m.length - 1) 0).fdiv lead)))) (some (.val (.int (n : Int)))) c6' c7' (.inr ⟨_, rfl⟩) (.inr ⟨_, rfl⟩) g6 g7 (by rw [List.length_take, row_length]; omega) (by rw [List.length_append, List.length_singleton]; omega) (by omega) hX' hXX
      cases hdv : ldiv m lead n ((row (-((L.getD (n + m.length - 1) 0).fdiv lead)) n m 0 L).take (n + m.length - 1)) with
      | none =>
        rw [hdv] at ih
        exact ih
      | some p =>
        rw [hdv] at ih
        obtain ⟨L', q⟩ := p
        obtain ⟨d4, d5, d6, d7, k4, k5, k6, k7, e2⟩ := ih
        refine ⟨d4, d5, d6, d7, k4, k5, k6, k7, ?_⟩
        rw [e2]
        show _ = SR.nx [_, _, _, some (Cell.mu false (ld (A ++ (q ++ [_]).reverse))), _, _, _, _]
        rw [List.reverse_append, List.append_assoc]
        rfl
    · rw [if_neg he] at hw ⊢
      obtain ⟨ρ, e⟩ := hw
      refine ⟨ρ, ?_⟩
      rw [e]
end K04

namespace K04
open PySem DF KM KP
theorem ne_ld (l m : List Int) : neD1 (ld l) (ld m) = some (.bl (!decide (l = m))) := by
  obtain ⟨p, q, e1, e2, e3⟩ := eqP_plain (show plainD 9 (ld l) = true from plain_ints l) (show plainD 9 (ld m) = true from plain_ints m)
  unfold toP at e1 e2
  rw [toPs_ints] at e1 e2
  cases e1
  cases e2
  unfold neD1
  rw [e3]
  show some (D.bl (!PyData.eqvAll (l.map PyData.int) (m.map PyData.int))) = _
  rw [eqvs_ints]
def loF : DEnv → DF.R D := dLc (sLst (dVar 2)) (setV 7) (dTst (dBin neD1 (oVar 7) (oD (dC (.int 0))))) (dVar 7) [7]
theorem flt_loop {c0 c1 c2 c3 c4 c5 c6 : Option Cell} : ∀ (l : List Int) (acc : List D), acc.length + l.length ≤ 1000 → dLcGo (setV 7) (dTst (dBin neD1 (oVar 7) (oD (dC (.int 0))))) (dVar 7) [7] (l.map D.int) acc [c0, c1, c2, c3, c4, c5, c6, none] = .ok [c0, c1, c2, c3, c4, c5, c6, none] (.lst (acc ++ (l.filter fun x => x != 0).map D.int))
  | [], acc, _ => by simp [dLcGo]
  | x :: r, acc, h => by
    rw [List.length_cons] at h
    have hl : acc.length < 16000000 := by omega
    rw [List.map_cons]
    unfold dLcGo
    by_cases hx : x = 0
    · have ih := flt_loop (c0 := c0) (c1 := c1) (c2 := c2) (c3 := c3) (c4 := c4) (c5 := c5) (c6 := c6) r acc (by omega)
      subst hx
      simp only [setV, free, List.getElem?_cons_zero, List.getElem?_cons_succ, if_true, List.set_cons_zero, List.set_cons_succ, dTst_ap, dBin_ap, oVar_ap, oD_ap, dC_ap, DF.R.bind_ok, ofO, look, ne_int, R.bindN_ok, noMu, wipeE, List.all_cons, List.all_nil, Bool.and_true]
      exact ih
    · have ih := flt_loop (c0 := c0) (c1 := c1) (c2 := c2) (c3 := c3) (c4 := c4) (c5 := c5) (c6 := c6) r (acc ++ [D.int x]) (by rw [List.length_append, List.length_singleton]; omega)
      have hf : (x :: r).filter (fun x => x != 0) = x :: r.filter (fun x => x != 0) := by rw [List.filter_cons]; simp [hx]
      rw [hf, List.map_cons]
      simp only [setV, free, List.getElem?_cons_zero, List.getElem?_cons_succ, if_true, List.set_cons_zero, List.set_cons_succ, dTst_ap, dBin_ap, oVar_ap, oD_ap, dC_ap, DF.R.bind_ok, ofO, look, ne_int, R.bindN_ok, noMu, wipeE, List.all_cons, List.all_nil, Bool.and_true, hx, decide_false, Bool.not_false, dVar_ap, hl]
      rw [List.append_assoc] at ih
      exact ih
theorem loF_ap {c0 c1 c3 c4 c5 c6 c7 : Option Cell} {l : List Int} (h7 : Vc c7) (h : l.length ≤ 1000) : loF [c0, c1, some (.mu false (ld l)), c3, c4, c5, c6, c7] = .ok [c0, c1, some (.val (ld l)), c3, c4, c5, c6, none] (ld (l.filter fun x => x != 0)) := by
  have e := flt_loop (c0 := c0) (c1 := c1) (c2 := some (.val (ld l))) (c3 := c3) (c4 := c4) (c5 := c5) (c6 := c6) l [] (by simpa using h)
  rw [List.nil_append] at e
  unfold loF
  rw [dLc_ap]
  rcases h7 with rfl | ⟨d7, rfl⟩
  · simp only [sLst, dVar_ap, List.getElem?_cons_zero, List.getElem?_cons_succ, DF.R.bind_ok, noMu, wipeE, List.all_cons, List.all_nil, Bool.and_true, if_true, List.set_cons_zero, List.set_cons_succ]
    exact e
  · simp only [sLst, dVar_ap, List.getElem?_cons_zero, List.getElem?_cons_succ, DF.R.bind_ok, noMu, wipeE, List.all_cons, List.all_nil, Bool.and_true, if_true, List.set_cons_zero, List.set_cons_succ]
    exact e
theorem flt_nil (l : List Int) : ((l.filter fun x => x != 0) = []) ↔ (l.any fun x => x != 0) = false := by
  rw [List.filter_eq_nil_iff, List.any_eq_false]
theorem ov2 {c0 c1 c3 c4 c5 c6 c7 : Option Cell} {l : List Int} (h7 : Vc c7) (h : l.length ≤ 1000) : dIf (dTst (dBin neD1 (oD loF) (oD (dLst (vNil))))) (dRet (dC .non)) (SR.nx) [c0, c1, some (.mu false (ld l)), c3, c4, c5, c6, c7] =
    if (l.any fun x => x != 0) = true then .ret [c0, c1, some (.val (ld l)), c3, c4, c5, c6, none] false .non else .nx [c0, c1, some (.val (ld l)), c3, c4, c5, c6, none] := by
  have q := ne_ld (l.filter fun x => x != 0) []
  have q : neD1 (ld (l.filter fun x => x != 0)) (.lst []) = _ := q
  by_cases hz : (l.any fun x => x != 0) = true
  · have : ¬ (l.filter fun x => x != 0) = [] := fun z => by rw [flt_nil, hz] at z; cases z
    rw [decide_eq_false this] at q
    rw [if_pos hz]
    simp only [dIf_ap, dTst_ap, dBin_ap, oD_ap, loF_ap h7 h, DF.R.bind_ok, DF.R.bindS_ok, dLst_ap, vNil_ap, List.length_nil, Nat.zero_le, if_true, ofO, q, Bool.not_false, dRet_ap, dC_ap]
  · have : (l.filter fun x => x != 0) = [] := (flt_nil l).mpr (Bool.not_eq_true _ ▸ hz)
    rw [decide_eq_true this] at q
    rw [if_neg hz]
    simp only [dIf_ap, dTst_ap, dBin_ap, oD_ap, loF_ap h7 h, DF.R.bind_ok, DF.R.bindS_ok, dLst_ap, vNil_ap, List.length_nil, Nat.zero_le, if_true, ofO, q, Bool.not_true]
theorem ov0 {l m : List Int} : (dParX [2, 3] (xFr (dMk seqOf (oVar 0)) (xFr (dLst (vNil)) (xNil)))) [some (.val (pd l)), some (.val (pd m)), none, none, none, none, none, none] = .nx [some (.val (pd l)), some (.val (pd m)), some (.mu false (ld l)), some (.mu false (ld [])), none, none, none, none] := by
  simp [dParX, xFr, xNil, dMk, seqOf, putA, dC_ap, dVar_ap, oVar_ap, oD_ap, aNil_ap, aCons_ap, vNil_ap, vCons_ap, dBin_ap, dTst_ap, dUn_ap, dCal_ap, dSeq_ap, dNever_ap, dIf_ap, dRet_ap, dRetF_ap, dRetN_ap, dRetV_ap, dExpr_ap, dSet_ap, dSetF_ap, gsNil_ap, gsCons_ap, gTp_ap, dAsg_ap, sLst_ap, sTup_ap, sRng1_ap, sRng2_ap, dForS_ap, dTru_ap, dAnd_ap, dOr_ap, dNot_ap, dAndV_ap, dOrV_ap, dNotV_ap, dIte_ap, dChain_ap, dTup_ap, dLst_ap, dApp_ap, dSetI_ap, rNil_ap, rVal_ap, rIo_ap, dCal2_ap, dV_ap, dN_ap, tYesB_ap, dLc_ap, dIsi_ap, dPar_ap, dDic0_ap, dPar3_ap, DF.R.bind_ok, DF.R.bindS_ok, DF.R.bindN_ok, DF.SR.bind_nx, DF.SR.bind_ret, ofO, ths, setV, setF, free, set2, set3, fnRes, startE, startC, outs, argsD, putD, ioIx, isMu, look, muL, ltD_ap, leD_ap, gtD_ap, geD_ap, addD_ap, subD_ap, negD_ap, absD_ap, intD_ap, intD_apB, eq_int, ne_int, ixD, L2.atI, L2.ixN, lenD, gcdD, max2D, min2D]
theorem ov3 {c0 c1 c2 c4 c5 c6 c7 : Option Cell} {A : List Int} : (dSetF 3 (dIte (dTst (dBin neD1 (oVar 3) (oD (dLst (vNil))))) (dMk revO (oVar 3)) (dLst (vCons (dC (.int 0)) (vNil))))) [c0, c1, c2, some (.mu false (ld A)), c4, c5, c6, c7] = .nx [c0, c1, c2, some (.mu false (ld (if A = [] then [0] else A.reverse))), c4, c5, c6, c7] := by
  have q := ne_ld A []
  have q : neD1 (ld A) (.lst []) = _ := q
  by_cases h : A = []
  · subst h
    simp [dC_ap, dVar_ap, oVar_ap, oD_ap, aNil_ap, aCons_ap, vNil_ap, vCons_ap, dBin_ap, dTst_ap, dUn_ap, dCal_ap, dSeq_ap, dNever_ap, dIf_ap, dRet_ap, dRetF_ap, dRetN_ap, dRetV_ap, dExpr_ap, dSet_ap, dSetF_ap, gsNil_ap, gsCons_ap, gTp_ap, dAsg_ap, sLst_ap, sTup_ap, sRng1_ap, sRng2_ap, dForS_ap, dTru_ap, dAnd_ap, dOr_ap, dNot_ap, dAndV_ap, dOrV_ap, dNotV_ap, dIte_ap, dChain_ap, dTup_ap, dLst_ap, dApp_ap, dSetI_ap, rNil_ap, rVal_ap, rIo_ap, dCal2_ap, dV_ap, dN_ap, tYesB_ap, dLc_ap, dIsi_ap, dPar_ap, dDic0_ap, dPar3_ap, DF.R.bind_ok, DF.R.bindS_ok, DF.R.bindN_ok, DF.SR.bind_nx, DF.SR.bind_ret, ofO, ths, setV, setF, free, set2, set3, fnRes, startE, startC, outs, argsD, putD, ioIx, isMu, look, muL, ltD_ap, leD_ap, gtD_ap, geD_ap, addD_ap, subD_ap, negD_ap, absD_ap, intD_ap, intD_apB, eq_int, ne_int, ixD, L2.atI, L2.ixN, lenD, gcdD, max2D, min2D, q]
  · rw [decide_eq_false h] at q
    rw [if_neg h]
    have hl : DF.listOf (ld A) = some (A.map D.int) := rfl
    simp [dC_ap, dVar_ap, oVar_ap, oD_ap, aNil_ap, aCons_ap, vNil_ap, vCons_ap, dBin_ap, dTst_ap, dUn_ap, dCal_ap, dSeq_ap, dNever_ap, dIf_ap, dRet_ap, dRetF_ap, dRetN_ap, dRetV_ap, dExpr_ap, dSet_ap, dSetF_ap, gsNil_ap, gsCons_ap, gTp_ap, dAsg_ap, sLst_ap, sTup_ap, sRng1_ap, sRng2_ap, dForS_ap, dTru_ap, dAnd_ap, dOr_ap, dNot_ap, dAndV_ap, dOrV_ap, dNotV_ap, dIte_ap, dChain_ap, dTup_ap, dLst_ap, dApp_ap, dSetI_ap, rNil_ap, rVal_ap, rIo_ap, dCal2_ap, dV_ap, dN_ap, tYesB_ap, dLc_ap, dIsi_ap, dPar_ap, dDic0_ap, dPar3_ap, DF.R.bind_ok, DF.R.bindS_ok, DF.R.bindN_ok, DF.SR.bind_nx, DF.SR.bind_ret, ofO, ths, setV, setF, free, set2, set3, fnRes, startE, startC, outs, argsD, putD, ioIx, isMu, look, muL, ltD_ap, leD_ap, gtD_ap, geD_ap, addD_ap, subD_ap, negD_ap, absD_ap, intD_ap, intD_apB, eq_int, ne_int, ixD, L2.atI, L2.ixN, lenD, gcdD, max2D, min2D, q, dMk, revO, hl, List.map_reverse]
theorem ov4_eq (n : Nat) : dWhile (dAnd (dTst (dBin gtD (oD (dCal lenD (aCons (oVar 3) (aNil)))) (oD (dC (.int 1))))) (dTst (dBin eqD1 (oD (dBin ixD (oVar 3) (oD (dUn negD (oD (dC (.int 1))))))) (oD (dC (.int 0)))))) (dPop 3) n = dWhile (ppT 3) (dPop 3) n := rfl
theorem ov5 {c0 c1 c2 c4 c5 c6 c7 : Option Cell} {l : List Int} : (dRet (dCal tupD (aCons (oVar 3) (aNil)))) [c0, c1, c2, some (.mu false (ld l)), c4, c5, c6, c7] = .ret [c0, c1, c2, some (.mu false (ld l)), c4, c5, c6, c7] false (pd l) := by
  simp [dC_ap, dVar_ap, oVar_ap, oD_ap, aNil_ap, aCons_ap, vNil_ap, vCons_ap, dBin_ap, dTst_ap, dUn_ap, dCal_ap, dSeq_ap, dNever_ap, dIf_ap, dRet_ap, dRetF_ap, dRetN_ap, dRetV_ap, dExpr_ap, dSet_ap, dSetF_ap, gsNil_ap, gsCons_ap, gTp_ap, dAsg_ap, sLst_ap, sTup_ap, sRng1_ap, sRng2_ap, dForS_ap, dTru_ap, dAnd_ap, dOr_ap, dNot_ap, dAndV_ap, dOrV_ap, dNotV_ap, dIte_ap, dChain_ap, dTup_ap, dLst_ap, dApp_ap, dSetI_ap, rNil_ap, rVal_ap, rIo_ap, dCal2_ap, dV_ap, dN_ap, tYesB_ap, dLc_ap, dIsi_ap, dPar_ap, dDic0_ap, dPar3_ap, DF.R.bind_ok, DF.R.bindS_ok, DF.R.bindN_ok, DF.SR.bind_nx, DF.SR.bind_ret, ofO, ths, setV, setF, free, set2, set3, fnRes, startE, startC, outs, argsD, putD, ioIx, isMu, look, muL, ltD_ap, leD_ap, gtD_ap, geD_ap, addD_ap, subD_ap, negD_ap, absD_ap, intD_ap, intD_apB, eq_int, ne_int, ixD, L2.atI, L2.ixN, lenD, gcdD, max2D, min2D, tupD]
end K04

namespace K04
open PySem DF KM KP
/-- numbers of a line that ends in zeros alone -/
theorem pol_all0 {l : List Int} (h : Pol l) (hz : (l.any fun x => x != 0) = false) : l = [0] := by
  have : ∀ x ∈ l, x = 0 := fun x hx => by
    have := (List.any_eq_false.mp hz) x hx
    simpa using this
  rcases h with h | ⟨h1, h2⟩
  · match l, h with
    | [x], _ => rw [this x List.mem_cons_self]
  · exact absurd (by
      rw [List.getD_eq_getElem?_getD, List.getElem?_eq_getElem (by omega)]
      exact this _ (List.getElem_mem _)) h2
theorem any_of_get {l : List Int} {k : Nat} (h : l.getD k 0 ≠ 0) : (l.any fun x => x != 0) = true := by
  rw [List.getD_eq_getElem?_getD] at h
  cases q : l[k]? with
  | none => rw [q] at h; exact absurd rfl h
  | some x =>
    rw [q] at h
    exact List.any_eq_true.mpr ⟨x, List.mem_of_getElem? q, by simpa using h⟩
theorem get_of_any {l : List Int} (h : (l.any fun x => x != 0) = true) : ∃ k, k < l.length ∧ l.getD k 0 ≠ 0 := by
  obtain ⟨x, hx, h2⟩ := List.any_eq_true.mp h
  obtain ⟨k, hk, e⟩ := List.mem_iff_getElem.mp hx
  refine ⟨k, hk, ?_⟩
  rw [List.getD_eq_getElem?_getD, List.getElem?_eq_getElem hk]
  show l[k] ≠ 0
  rw [e]
  simpa using h2
theorem ldiv_pol {m L L' q : List Int} {lead : Int} {n : Nat} (hm : 0 < m.length) (hL : Pol L) (hlen : L.length = n + 1 + m.length - 1) (e : ldiv m lead (n + 1) L = some (L', q)) : Pol q := by
  unfold ldiv at e
  by_cases he : (L.getD (n + m.length - 1) 0).fdiv lead * lead = L.getD (n + m.length - 1) 0
  · rw [if_pos he] at e
    cases hd : ldiv m lead n ((row (-((L.getD (n + m.length - 1) 0).fdiv lead)) n m 0 L).take (n + m.length - 1)) with
    | none => rw [hd] at e; cases e
    | some p =>
      rw [hd] at e
      have e : some (p.1, p.2 ++ [(L.getD (n + m.length - 1) 0).fdiv lead]) = some (L', q) := e
      cases e
      by_cases h1 : p.2 = []
      · rw [h1]; exact .inl rfl
      · have hp : 0 < p.2.length := List.length_pos_iff.mpr h1
        refine .inr ⟨by rw [List.length_append, List.length_singleton]; omega, ?_⟩
        rw [List.length_append, List.length_singleton, Nat.add_sub_cancel, List.getD_eq_getElem?_getD, List.getElem?_append_right (Nat.le_refl _), Nat.sub_self]
        show (L.getD (n + m.length - 1) 0).fdiv lead ≠ 0
        intro hz
        rw [hz, Int.zero_mul] at he
        have hn : 0 < n := by
          cases n with
          | zero => cases hd; exact absurd rfl h1
          | succ n => exact Nat.succ_pos n
        rcases hL with h | ⟨h2, h3⟩
        · omega
        · rw [show L.length - 1 = n + m.length - 1 by omega] at h3
          exact h3 he.symm
  · rw [if_neg he] at e; cases e
theorem ldiv_len {m : List Int} {lead : Int} : ∀ {n : Nat} {L L' q : List Int}, ldiv m lead n L = some (L', q) → q.length = n
  | 0, L, L', q, e => by unfold ldiv at e; cases e; rfl
  | n + 1, L, L', q, e => by
    unfold ldiv at e
    by_cases he : (L.getD (n + m.length - 1) 0).fdiv lead * lead = L.getD (n + m.length - 1) 0
    · rw [if_pos he] at e
      cases hd : ldiv m lead n ((row (-((L.getD (n + m.length - 1) 0).fdiv lead)) n m 0 L).take (n + m.length - 1)) with
      | none => rw [hd] at e; cases e
      | some p =>
        rw [hd] at e
        have e : some (p.1, p.2 ++ [(L.getD (n + m.length - 1) 0).fdiv lead]) = some (L', q) := e
        cases e
        rw [List.length_append, ldiv_len (q := p.2) (L' := p.1) hd]
        rfl
    · rw [if_neg he] at e; cases e
end K04

namespace K04
open PySem DF KM KP
/-- what stands behind the loop of the law's division -/
def loTail (n : Nat) : DEnv → SR := dSeq (dIf (dTst (dBin neD1 (oD loF) (oD (dLst (vNil))))) (dRet (dC .non)) (SR.nx))
    (dSeq (dSetF 3 (dIte (dTst (dBin neD1 (oVar 3) (oD (dLst (vNil))))) (dMk revO (oVar 3)) (dLst (vCons (dC (.int 0)) (vNil)))))
    (dSeq (dWhile (ppT 3) (dPop 3) n)
    (dRet (dCal tupD (aCons (oVar 3) (aNil))))))
theorem lo_body (n : Nat) : B_q_line_over n = dSeq (dParX [2, 3] (xFr (dMk seqOf (oVar 0)) (xFr (dLst (vNil)) (xNil)))) (dSeq (dWhile lvT lvW n) (loTail n)) := rfl
theorem loTail_ap {c0 c1 c4 c5 c6 c7 : Option Cell} {L A : List Int} {n : Nat} (h7 : Vc c7) (h : L.length ≤ 1000) (hA : A.length ≤ 900) (hn : 1000 ≤ n) : ∃ ρ, loTail n [c0, c1, some (.mu false (ld L)), some (.mu false (ld A)), c4, c5, c6, c7] = .ret ρ false (if (L.any fun x => x != 0) = true then .non else pd (trim (if A = [] then [0] else A.reverse))) := by
  unfold loTail
  rw [dSeq_ap, ov2 h7 h]
  by_cases hz : (L.any fun x => x != 0) = true
  · rw [if_pos hz, if_pos hz]
    exact ⟨_, rfl⟩
  · rw [if_neg hz, if_neg hz, SR.bind_nx, dSeq_ap, ov3, SR.bind_nx]
    have hlen : (if A = [] then [0] else A.reverse).length < n := by
      split
      · simp; omega
      · rw [List.length_reverse]; omega
    generalize (if A = [] then [0] else A.reverse) = Q at *
    have hp := pop_loop 3 false n Q [c0, c1, some (.val (ld L)), some (.mu false (ld Q)), c4, c5, c6, none] rfl hlen
    have hp : dWhile (ppT 3) (dPop 3) n [c0, c1, some (.val (ld L)), some (.mu false (ld Q)), c4, c5, c6, none] = .nx [c0, c1, some (.val (ld L)), some (.mu false (ld (trim Q))), c4, c5, c6, none] := hp
    rw [dSeq_ap, hp, SR.bind_nx, ov5]
    exact ⟨_, rfl⟩
theorem fnRes_ret {a b d : D} {ρ : DEnv} {fr : Bool} : fnRes [(false, a), (false, b)] (.ret ρ fr d) = .ret fr d [] := rfl
theorem e_lover {l m : List Int} {X C : Nat} (hP : Pol l) (hm : 0 < m.length) (h0 : m.getD (m.length - 1) 0 ≠ 0) (hC : ∀ y ∈ m, y.natAbs ≤ C) (hls : (m.getD (m.length - 1) 0).natAbs ≤ C) (hX : ∀ k, (l.getD k 0).natAbs ≤ X) (hb : X * (C + 1) ^ (l.length - m.length + 1) ≤ 10 ^ 700) (hCs : C ≤ 10 ^ 700) (hlen : l.length ≤ 800) :
    F_q_line_over [(false, pd l), (false, pd m)] = .ret false (quo l m) [] := by
  have hfu := fuel_ge [(false, pd l), (false, pd m)]
  unfold F_q_line_over
  rw [lo_body, show startE 8 [(false, pd l), (false, pd m)] = [some (.val (pd l)), some (.val (pd m)), none, none, none, none, none, none] from rfl, dSeq_ap, ov0, SR.bind_nx, dSeq_ap]
  generalize fuel [(false, pd l), (false, pd m)] = fu at *
  obtain ⟨fv, rfl⟩ : ∃ fv, fu = fv + 1 := ⟨fu - 1, by omega⟩
  unfold quo
  by_cases hlt : l.length < m.length
  · rw [if_pos hlt, dWhile_succ, lvT_ap, DF.R.bindS_ok, decide_eq_false (by omega)]
    show fnRes _ (SR.bind (.nx _) _) = _
    rw [SR.bind_nx]
    obtain ⟨ρ, e⟩ := loTail_ap (c0 := some (.val (pd l))) (c1 := some (.val (pd m))) (c4 := none) (c5 := none) (c6 := none) (c7 := none) (L := l) (A := []) (.inl rfl) (by omega) (by simp) hfu
    rw [e, fnRes_ret]
    by_cases hz : (l.any fun x => x != 0) = true
    · have hn : ¬ l = [0] := fun z => by rw [z] at hz; cases hz
      rw [if_pos hz, if_neg hn]
    · have := pol_all0 hP (by simpa using hz)
      rw [if_neg hz, if_pos this, if_pos rfl, this]
      rfl
  · rw [if_neg hlt]
    have hn : l.length = (l.length - m.length + 1) + m.length - 1 := by omega
    have hw := lov_loop (c0 := some (.val (pd l))) hm rfl h0 hC hCs hls (l.length - m.length + 1) l [] X (fv + 1) none none none none (.inl rfl) (.inl rfl) (.inl rfl) (.inl rfl) hn (by simp; omega) (by omega) hX hb
    have hd := div_both m (m.getD (m.length - 1) 0) hm rfl (l.length - m.length + 1) l (by omega)
    rw [← hn, List.take_length] at hd
    have hpl := pdiv_length m (m.getD (m.length - 1) 0) (l.length - m.length + 1) l
    cases hq : ldiv m (m.getD (m.length - 1) 0) (l.length - m.length + 1) l with
    | none =>
      rw [hq] at hw hd
      obtain ⟨ρ, e⟩ := hw
      obtain ⟨k, _, h2⟩ := hd
      rw [e, if_pos (any_of_get h2)]
      rfl
    | some p =>
      obtain ⟨L', q⟩ := p
      rw [hq] at hw hd
      obtain ⟨c4, c5, c6, c7, k4, k5, k6, k7, e⟩ := hw
      obtain ⟨h1, h2, h3⟩ := hd
      have hql := ldiv_len hq
      have hLl : L'.length ≤ 1000 := by rw [← h2, List.length_take]; omega
      rw [e, SR.bind_nx]
      obtain ⟨ρ, e2⟩ := loTail_ap (c0 := some (.val (pd l))) (c1 := some (.val (pd m))) (c4 := c4) (c5 := c5) (c6 := c6) (c7 := c7) (L := L') (A := [] ++ q.reverse) k7 hLl (by simp; omega) hfu
      have hqn : ¬ ([] ++ q.reverse = []) := fun z => by
        rw [List.nil_append, List.reverse_eq_nil_iff] at z
        rw [z] at hql
        simp at hql
      rw [if_neg hqn, List.nil_append, List.reverse_reverse] at e2
      rw [List.nil_append] at *
      rw [e2, fnRes_ret]
      by_cases hz : (L'.any fun x => x != 0) = true
      · obtain ⟨k, hk1, hk2⟩ := get_of_any hz
        have : (pdiv m (m.getD (m.length - 1) 0) (l.length - m.length + 1) l).1.getD k 0 ≠ 0 := by
          rw [← h2, List.length_take] at hk1
          rw [← h2, getD_take (by omega)] at hk2
          exact hk2
        rw [if_pos hz, if_pos (any_of_get this)]
      · have hz2 : ¬ ((pdiv m (m.getD (m.length - 1) 0) (l.length - m.length + 1) l).1.any fun i => i != 0) = true := fun z => by
          obtain ⟨k, hk1, hk2⟩ := get_of_any z
          by_cases hkm : m.length - 1 ≤ k
          · exact hk2 (h3 k hkm (by omega))
          · refine hz (any_of_get (k := k) ?_)
            rw [← h2, getD_take (by omega)]
            exact hk2
        have hqp : Pol q := ldiv_pol hm hP (n := l.length - m.length) hn hq
        rw [if_neg hz, if_neg hz2, h1, trim_of_pol hqp]
end K04

namespace K04
open PySem DF KM KP
/-! ### Euclid -/
def euT : DEnv → DF.R Bool := dTst (dBin neD1 (oVar 4) (oD (dC (.int 0))))
def euB : DEnv → SR := dPar 3 4 (vCons (dVar 4) (vCons (dBin modD (oD (dCal intD (aCons (oVar 3) (aNil)))) (oVar 4)) (vNil)))
theorem euT_ap {c0 c1 c2 : Option Cell} {a b : Int} : euT [c0, c1, c2, some (.val (.int a)), some (.val (.int b))] = .ok [c0, c1, c2, some (.val (.int a)), some (.val (.int b))] (!decide (b = 0)) := by
  simp [euT, dC_ap, dVar_ap, oVar_ap, oD_ap, aNil_ap, aCons_ap, vNil_ap, vCons_ap, dBin_ap, dTst_ap, dUn_ap, dCal_ap, dSeq_ap, dNever_ap, dIf_ap, dRet_ap, dRetF_ap, dRetN_ap, dRetV_ap, dExpr_ap, dSet_ap, dSetF_ap, gsNil_ap, gsCons_ap, gTp_ap, dAsg_ap, sLst_ap, sTup_ap, sRng1_ap, sRng2_ap, dForS_ap, dTru_ap, dAnd_ap, dOr_ap, dNot_ap, dAndV_ap, dOrV_ap, dNotV_ap, dIte_ap, dChain_ap, dTup_ap, dLst_ap, dApp_ap, dSetI_ap, rNil_ap, rVal_ap, rIo_ap, dCal2_ap, dV_ap, dN_ap, tYesB_ap, dLc_ap, dIsi_ap, dPar_ap, dDic0_ap, dPar3_ap, DF.R.bind_ok, DF.R.bindS_ok, DF.R.bindN_ok, DF.SR.bind_nx, DF.SR.bind_ret, ofO, ths, setV, setF, free, set2, set3, fnRes, startE, startC, outs, argsD, putD, ioIx, isMu, look, muL, ltD_ap, leD_ap, gtD_ap, geD_ap, addD_ap, subD_ap, negD_ap, absD_ap, intD_ap, intD_apB, eq_int, ne_int, ixD, L2.atI, L2.ixN, lenD, gcdD, max2D, min2D]
theorem euB_ap {c0 c1 c2 : Option Cell} {a b : Int} (hb : b ≠ 0) : euB [c0, c1, c2, some (.val (.int a)), some (.val (.int b))] = .nx [c0, c1, c2, some (.val (.int b)), some (.val (.int (a.fmod b)))] := by
  simp [euB, dC_ap, dVar_ap, oVar_ap, oD_ap, aNil_ap, aCons_ap, vNil_ap, vCons_ap, dBin_ap, dTst_ap, dUn_ap, dCal_ap, dSeq_ap, dNever_ap, dIf_ap, dRet_ap, dRetF_ap, dRetN_ap, dRetV_ap, dExpr_ap, dSet_ap, dSetF_ap, gsNil_ap, gsCons_ap, gTp_ap, dAsg_ap, sLst_ap, sTup_ap, sRng1_ap, sRng2_ap, dForS_ap, dTru_ap, dAnd_ap, dOr_ap, dNot_ap, dAndV_ap, dOrV_ap, dNotV_ap, dIte_ap, dChain_ap, dTup_ap, dLst_ap, dApp_ap, dSetI_ap, rNil_ap, rVal_ap, rIo_ap, dCal2_ap, dV_ap, dN_ap, tYesB_ap, dLc_ap, dIsi_ap, dPar_ap, dDic0_ap, dPar3_ap, DF.R.bind_ok, DF.R.bindS_ok, DF.R.bindN_ok, DF.SR.bind_nx, DF.SR.bind_ret, ofO, ths, setV, setF, free, set2, set3, fnRes, startE, startC, outs, argsD, putD, ioIx, isMu, look, muL, ltD_ap, leD_ap, gtD_ap, geD_ap, addD_ap, subD_ap, negD_ap, absD_ap, intD_ap, intD_apB, eq_int, ne_int, ixD, L2.atI, L2.ixN, lenD, gcdD, max2D, min2D, modD_ap hb]
theorem eu_loop {c0 c1 c2 : Option Cell} : ∀ (n a b : Nat), b < n → dWhile euT euB n [c0, c1, c2, some (.val (.int (a : Int))), some (.val (.int (b : Int)))] = .nx [c0, c1, c2, some (.val (.int (Nat.gcd a b : Nat))), some (.val (.int 0))]
  | 0, a, b, h => absurd h (Nat.not_lt_zero _)
  | n + 1, a, 0, h => by
    rw [dWhile_succ, euT_ap]
    simp [R.bindS_ok]
  | n + 1, a, b + 1, h => by
    have hlt : a % (b + 1) < n := Nat.lt_of_lt_of_le (Nat.mod_lt _ (Nat.succ_pos _)) (Nat.le_of_lt_succ h)
    have ih := eu_loop (c0 := c0) (c1 := c1) (c2 := c2) n (b + 1) (a % (b + 1)) hlt
    have e1 : ((a : Int)).fmod ((b + 1 : Nat) : Int) = ((a % (b + 1) : Nat) : Int) := by rw [fm (by omega)]; omega
    have e2 : Nat.gcd a (b + 1) = Nat.gcd (b + 1) (a % (b + 1)) := by rw [Nat.gcd_comm, Nat.gcd_rec, Nat.gcd_comm]
    have hp : ¬ ((b + 1 : Nat) : Int) = 0 := by omega
    rw [e2, ← ih, ← e1, dWhile_succ, euT_ap, R.bindS_ok, decide_eq_false hp, euB_ap (by omega)]
    rfl
def cmB (n : Nat) : DEnv → SR := dSeq (dPar 3 4 (vCons (dVar 1) (vCons (dCal absD (aCons (oVar 2) (aNil))) (vNil))))
    (dSeq (dWhile euT euB n)
    (dSet 1 (dVar 3)))
theorem cmB_ap {c0 c3 c4 : Option Cell} {n f : Nat} {x : Int} (h3 : Vc c3) (h4 : Vc c4) (h : x.natAbs < n) : cmB n [c0, some (.val (.int (f : Int))), some (.val (.int x)), c3, c4] = .nx [c0, some (.val (.int (Nat.gcd f x.natAbs : Nat))), some (.val (.int x)), some (.val (.int (Nat.gcd f x.natAbs : Nat))), some (.val (.int 0))] := by
  have e := eu_loop (c0 := c0) (c1 := some (.val (.int (f : Int)))) (c2 := some (.val (.int x))) n f x.natAbs h
  have e1 : dPar 3 4 (vCons (dVar 1) (vCons (dCal absD (aCons (oVar 2) (aNil))) (vNil))) [c0, some (.val (.int (f : Int))), some (.val (.int x)), c3, c4] = .nx [c0, some (.val (.int (f : Int))), some (.val (.int x)), some (.val (.int (f : Int))), some (.val (.int (x.natAbs : Int)))] := by
    have ha := abs_eq x
    rcases h3 with rfl | ⟨d3, rfl⟩ <;> rcases h4 with rfl | ⟨d4, rfl⟩ <;> simp [dC_ap, dVar_ap, oVar_ap, oD_ap, aNil_ap, aCons_ap, vNil_ap, vCons_ap, dBin_ap, dTst_ap, dUn_ap, dCal_ap, dSeq_ap, dNever_ap, dIf_ap, dRet_ap, dRetF_ap, dRetN_ap, dRetV_ap, dExpr_ap, dSet_ap, dSetF_ap, gsNil_ap, gsCons_ap, gTp_ap, dAsg_ap, sLst_ap, sTup_ap, sRng1_ap, sRng2_ap, dForS_ap, dTru_ap, dAnd_ap, dOr_ap, dNot_ap, dAndV_ap, dOrV_ap, dNotV_ap, dIte_ap, dChain_ap, dTup_ap, dLst_ap, dApp_ap, dSetI_ap, rNil_ap, rVal_ap, rIo_ap, dCal2_ap, dV_ap, dN_ap, tYesB_ap, dLc_ap, dIsi_ap, dPar_ap, dDic0_ap, dPar3_ap, DF.R.bind_ok, DF.R.bindS_ok, DF.R.bindN_ok, DF.SR.bind_nx, DF.SR.bind_ret, ofO, ths, setV, setF, free, set2, set3, fnRes, startE, startC, outs, argsD, putD, ioIx, isMu, look, muL, ltD_ap, leD_ap, gtD_ap, geD_ap, addD_ap, subD_ap, negD_ap, absD_ap, intD_ap, intD_apB, eq_int, ne_int, ixD, L2.atI, L2.ixN, lenD, gcdD, max2D, min2D, ha]
  unfold cmB
  rw [dSeq_ap, e1, SR.bind_nx, dSeq_ap, e, SR.bind_nx]
  simp [dC_ap, dVar_ap, oVar_ap, oD_ap, aNil_ap, aCons_ap, vNil_ap, vCons_ap, dBin_ap, dTst_ap, dUn_ap, dCal_ap, dSeq_ap, dNever_ap, dIf_ap, dRet_ap, dRetF_ap, dRetN_ap, dRetV_ap, dExpr_ap, dSet_ap, dSetF_ap, gsNil_ap, gsCons_ap, gTp_ap, dAsg_ap, sLst_ap, sTup_ap, sRng1_ap, sRng2_ap, dForS_ap, dTru_ap, dAnd_ap, dOr_ap, dNot_ap, dAndV_ap, dOrV_ap, dNotV_ap, dIte_ap, dChain_ap, dTup_ap, dLst_ap, dApp_ap, dSetI_ap, rNil_ap, rVal_ap, rIo_ap, dCal2_ap, dV_ap, dN_ap, tYesB_ap, dLc_ap, dIsi_ap, dPar_ap, dDic0_ap, dPar3_ap, DF.R.bind_ok, DF.R.bindS_ok, DF.R.bindN_ok, DF.SR.bind_nx, DF.SR.bind_ret, ofO, ths, setV, setF, free, set2, set3, fnRes, startE, startC, outs, argsD, putD, ioIx, isMu, look, muL, ltD_ap, leD_ap, gtD_ap, geD_ap, addD_ap, subD_ap, negD_ap, absD_ap, intD_ap, intD_apB, eq_int, ne_int, ixD, L2.atI, L2.ixN, lenD, gcdD, max2D, min2D]
theorem cm_eq (n : Nat) : B_q_common n = dSeq (dSet 1 (dC (.int 0))) (dSeq (dForS (sLst (dVar 0)) (setV 2) (cmB n)) (dRetV 1)) := rfl
theorem e_common (t b : Int) : F_q_common [(false, .lst [.int t, .int b])] = .ret false (.int (gc t b : Nat)) [] := by
  have hfu : t.natAbs < fuel [(false, .lst [.int t, .int b])] ∧ b.natAbs < fuel [(false, .lst [.int t, .int b])] := by
    simp [fuel, intsOf, intsOf.go]
    omega
  unfold F_q_common
  rw [cm_eq]
  generalize fuel [(false, .lst [.int t, .int b])] = n at *
  have k1 := cmB_ap (c0 := some (.val (.lst [.int t, .int b]))) (c3 := none) (c4 := none) (f := 0) (.inl rfl) (.inl rfl) hfu.1
  have k2 := cmB_ap (c0 := some (.val (.lst [.int t, .int b]))) (c3 := some (.val (.int (Nat.gcd 0 t.natAbs : Nat)))) (c4 := some (.val (.int 0))) (f := Nat.gcd 0 t.natAbs) (.inr ⟨_, rfl⟩) (.inr ⟨_, rfl⟩) hfu.2
  have s0 : dSet 1 (dC (.int 0)) [some (.val (.lst [.int t, .int b])), none, none, none, none] = .nx [some (.val (.lst [.int t, .int b])), some (.val (.int ((0 : Nat) : Int))), none, none, none] := by
    simp [dC_ap, dVar_ap, oVar_ap, oD_ap, aNil_ap, aCons_ap, vNil_ap, vCons_ap, dBin_ap, dTst_ap, dUn_ap, dCal_ap, dSeq_ap, dNever_ap, dIf_ap, dRet_ap, dRetF_ap, dRetN_ap, dRetV_ap, dExpr_ap, dSet_ap, dSetF_ap, gsNil_ap, gsCons_ap, gTp_ap, dAsg_ap, sLst_ap, sTup_ap, sRng1_ap, sRng2_ap, dForS_ap, dTru_ap, dAnd_ap, dOr_ap, dNot_ap, dAndV_ap, dOrV_ap, dNotV_ap, dIte_ap, dChain_ap, dTup_ap, dLst_ap, dApp_ap, dSetI_ap, rNil_ap, rVal_ap, rIo_ap, dCal2_ap, dV_ap, dN_ap, tYesB_ap, dLc_ap, dIsi_ap, dPar_ap, dDic0_ap, dPar3_ap, DF.R.bind_ok, DF.R.bindS_ok, DF.R.bindN_ok, DF.SR.bind_nx, DF.SR.bind_ret, ofO, ths, setV, setF, free, set2, set3, fnRes, startE, startC, outs, argsD, putD, ioIx, isMu, look, muL, ltD_ap, leD_ap, gtD_ap, geD_ap, addD_ap, subD_ap, negD_ap, absD_ap, intD_ap, intD_apB, eq_int, ne_int, ixD, L2.atI, L2.ixN, lenD, gcdD, max2D, min2D]
  rw [show startE 5 [(false, D.lst [.int t, .int b])] = [some (.val (.lst [.int t, .int b])), none, none, none, none] from rfl, dSeq_ap, s0, SR.bind_nx, dSeq_ap, dForS_ap]
  simp only [sLst, dVar_ap, List.getElem?_cons_zero, List.getElem?_cons_succ, DF.R.bind_ok, DF.R.bindS_ok]
  unfold dFor
  simp only [setV, free, List.getElem?_cons_zero, List.getElem?_cons_succ, if_true, List.set_cons_zero, List.set_cons_succ]
  rw [k1]
  dsimp only
  unfold dFor
  simp only [setV, free, List.getElem?_cons_zero, List.getElem?_cons_succ, if_true, List.set_cons_zero, List.set_cons_succ]
  rw [k2]
  dsimp only
  unfold dFor
  rw [SR.bind_nx, Nat.gcd_zero_left]
  rfl
theorem sm_gc {a b : Int} (h : b ≠ 0) (hb : Sm b) : Sm (sh a b) := by
  unfold Sm
  rw [sh_natAbs]
  exact Nat.lt_of_le_of_lt (Nat.le_of_dvd (Int.natAbs_pos.mpr h) (Nat.gcd_dvd_right _ _)) hb
theorem e_reduced (t b : Int) (hb : b ≠ 0) (h : Sm b) : F_reduced [(false, .int t), (false, .int b)] = .ret false (.tup [.int (lo1 t b), .int (lo2 t b)]) [] := by
  have hs := sm_gc (a := t) hb h
  have h0 := sh_ne (t := t) hb
  have k1 := divD_ap (cd (i := t) h0 hs)
  have k2 := divD_ap (cd (i := b) h0 hs)
  unfold F_reduced B_reduced
  unfold lo1 lo2
  unfold sh gc at *
  by_cases hb0 : b < 0
  · simp only [hb0, if_true] at k1 k2 ⊢
    simp [dC_ap, dVar_ap, oVar_ap, oD_ap, aNil_ap, aCons_ap, vNil_ap, vCons_ap, dBin_ap, dTst_ap, dUn_ap, dCal_ap, dSeq_ap, dNever_ap, dIf_ap, dRet_ap, dRetF_ap, dRetN_ap, dRetV_ap, dExpr_ap, dSet_ap, dSetF_ap, gsNil_ap, gsCons_ap, gTp_ap, dAsg_ap, sLst_ap, sTup_ap, sRng1_ap, sRng2_ap, dForS_ap, dTru_ap, dAnd_ap, dOr_ap, dNot_ap, dAndV_ap, dOrV_ap, dNotV_ap, dIte_ap, dChain_ap, dTup_ap, dLst_ap, dApp_ap, dSetI_ap, rNil_ap, rVal_ap, rIo_ap, dCal2_ap, dV_ap, dN_ap, tYesB_ap, dLc_ap, dIsi_ap, dPar_ap, dDic0_ap, dPar3_ap, DF.R.bind_ok, DF.R.bindS_ok, DF.R.bindN_ok, DF.SR.bind_nx, DF.SR.bind_ret, ofO, ths, setV, setF, free, set2, set3, fnRes, startE, startC, outs, argsD, putD, ioIx, isMu, look, muL, ltD_ap, leD_ap, gtD_ap, geD_ap, addD_ap, subD_ap, negD_ap, absD_ap, intD_ap, intD_apB, eq_int, ne_int, ixD, L2.atI, L2.ixN, lenD, gcdD, max2D, min2D, k1, k2, hb0]
  · simp only [hb0, if_false] at k1 k2 ⊢
    simp [dC_ap, dVar_ap, oVar_ap, oD_ap, aNil_ap, aCons_ap, vNil_ap, vCons_ap, dBin_ap, dTst_ap, dUn_ap, dCal_ap, dSeq_ap, dNever_ap, dIf_ap, dRet_ap, dRetF_ap, dRetN_ap, dRetV_ap, dExpr_ap, dSet_ap, dSetF_ap, gsNil_ap, gsCons_ap, gTp_ap, dAsg_ap, sLst_ap, sTup_ap, sRng1_ap, sRng2_ap, dForS_ap, dTru_ap, dAnd_ap, dOr_ap, dNot_ap, dAndV_ap, dOrV_ap, dNotV_ap, dIte_ap, dChain_ap, dTup_ap, dLst_ap, dApp_ap, dSetI_ap, rNil_ap, rVal_ap, rIo_ap, dCal2_ap, dV_ap, dN_ap, tYesB_ap, dLc_ap, dIsi_ap, dPar_ap, dDic0_ap, dPar3_ap, DF.R.bind_ok, DF.R.bindS_ok, DF.R.bindN_ok, DF.SR.bind_nx, DF.SR.bind_ret, ofO, ths, setV, setF, free, set2, set3, fnRes, startE, startC, outs, argsD, putD, ioIx, isMu, look, muL, ltD_ap, leD_ap, gtD_ap, geD_ap, addD_ap, subD_ap, negD_ap, absD_ap, intD_ap, intD_apB, eq_int, ne_int, ixD, L2.atI, L2.ixN, lenD, gcdD, max2D, min2D, k1, k2, hb0]
theorem e_lowest (t b : Int) (hb : b ≠ 0) (h : Sm b) : F_q_lowest [(false, .int t), (false, .int b)] = .ret false (.tup [.int (lo1 t b), .int (lo2 t b)]) [] := by
  have hs := sm_gc (a := t) hb h
  have h0 := sh_ne (t := t) hb
  have k1 := divD_ap (cd (i := t) h0 hs)
  have k2 := divD_ap (cd (i := b) h0 hs)
  have hg : Sm (gc t b : Nat) := by
    have := hs
    unfold Sm at this ⊢
    rw [sh_natAbs] at this
    simpa using this
  have m1 := mulD_ap (cm (i := (gc t b : Nat)) (j := 1) hg (sm_of (by decide)))
  have m2 := mulD_ap (cm (i := (gc t b : Nat)) (j := -1) hg (sm_of (by decide)))
  have ec := e_common t b
  unfold F_q_lowest B_q_lowest
  unfold lo1 lo2
  by_cases hb0 : b < 0
  · have hb1 : ¬ 0 < b := by omega
    have es : ((gc t b : Nat) : Int) * -1 = sh t b := by unfold sh; rw [if_pos hb0]; omega
    rw [es] at m2
    simp [dC_ap, dVar_ap, oVar_ap, oD_ap, aNil_ap, aCons_ap, vNil_ap, vCons_ap, dBin_ap, dTst_ap, dUn_ap, dCal_ap, dSeq_ap, dNever_ap, dIf_ap, dRet_ap, dRetF_ap, dRetN_ap, dRetV_ap, dExpr_ap, dSet_ap, dSetF_ap, gsNil_ap, gsCons_ap, gTp_ap, dAsg_ap, sLst_ap, sTup_ap, sRng1_ap, sRng2_ap, dForS_ap, dTru_ap, dAnd_ap, dOr_ap, dNot_ap, dAndV_ap, dOrV_ap, dNotV_ap, dIte_ap, dChain_ap, dTup_ap, dLst_ap, dApp_ap, dSetI_ap, rNil_ap, rVal_ap, rIo_ap, dCal2_ap, dV_ap, dN_ap, tYesB_ap, dLc_ap, dIsi_ap, dPar_ap, dDic0_ap, dPar3_ap, DF.R.bind_ok, DF.R.bindS_ok, DF.R.bindN_ok, DF.SR.bind_nx, DF.SR.bind_ret, ofO, ths, setV, setF, free, set2, set3, fnRes, startE, startC, outs, argsD, putD, ioIx, isMu, look, muL, ltD_ap, leD_ap, gtD_ap, geD_ap, addD_ap, subD_ap, negD_ap, absD_ap, intD_ap, intD_apB, eq_int, ne_int, ixD, L2.atI, L2.ixN, lenD, gcdD, max2D, min2D, k1, k2, hb1, ec, m2]
  · have hb1 : 0 < b := by omega
    have es : ((gc t b : Nat) : Int) * 1 = sh t b := by unfold sh; rw [if_neg hb0]; omega
    rw [es] at m1
    simp [dC_ap, dVar_ap, oVar_ap, oD_ap, aNil_ap, aCons_ap, vNil_ap, vCons_ap, dBin_ap, dTst_ap, dUn_ap, dCal_ap, dSeq_ap, dNever_ap, dIf_ap, dRet_ap, dRetF_ap, dRetN_ap, dRetV_ap, dExpr_ap, dSet_ap, dSetF_ap, gsNil_ap, gsCons_ap, gTp_ap, dAsg_ap, sLst_ap, sTup_ap, sRng1_ap, sRng2_ap, dForS_ap, dTru_ap, dAnd_ap, dOr_ap, dNot_ap, dAndV_ap, dOrV_ap, dNotV_ap, dIte_ap, dChain_ap, dTup_ap, dLst_ap, dApp_ap, dSetI_ap, rNil_ap, rVal_ap, rIo_ap, dCal2_ap, dV_ap, dN_ap, tYesB_ap, dLc_ap, dIsi_ap, dPar_ap, dDic0_ap, dPar3_ap, DF.R.bind_ok, DF.R.bindS_ok, DF.R.bindN_ok, DF.SR.bind_nx, DF.SR.bind_ret, ofO, ths, setV, setF, free, set2, set3, fnRes, startE, startC, outs, argsD, putD, ioIx, isMu, look, muL, ltD_ap, leD_ap, gtD_ap, geD_ap, addD_ap, subD_ap, negD_ap, absD_ap, intD_ap, intD_apB, eq_int, ne_int, ixD, L2.atI, L2.ixN, lenD, gcdD, max2D, min2D, k1, k2, hb1, ec, m1]
theorem e_pair (a b : Int) : F_is_long_pair [(false, .tup [.int a, .int b])] = .ret false (.bl true) [] := by
  unfold F_is_long_pair B_is_long_pair
  simp [dC_ap, dVar_ap, oVar_ap, oD_ap, aNil_ap, aCons_ap, vNil_ap, vCons_ap, dBin_ap, dTst_ap, dUn_ap, dCal_ap, dSeq_ap, dNever_ap, dIf_ap, dRet_ap, dRetF_ap, dRetN_ap, dRetV_ap, dExpr_ap, dSet_ap, dSetF_ap, gsNil_ap, gsCons_ap, gTp_ap, dAsg_ap, sLst_ap, sTup_ap, sRng1_ap, sRng2_ap, dForS_ap, dTru_ap, dAnd_ap, dOr_ap, dNot_ap, dAndV_ap, dOrV_ap, dNotV_ap, dIte_ap, dChain_ap, dTup_ap, dLst_ap, dApp_ap, dSetI_ap, rNil_ap, rVal_ap, rIo_ap, dCal2_ap, dV_ap, dN_ap, tYesB_ap, dLc_ap, dIsi_ap, dPar_ap, dDic0_ap, dPar3_ap, DF.R.bind_ok, DF.R.bindS_ok, DF.R.bindN_ok, DF.SR.bind_nx, DF.SR.bind_ret, ofO, ths, setV, setF, free, set2, set3, fnRes, startE, startC, outs, argsD, putD, ioIx, isMu, look, muL, ltD_ap, leD_ap, gtD_ap, geD_ap, addD_ap, subD_ap, negD_ap, absD_ap, intD_ap, intD_apB, eq_int, ne_int, ixD, L2.atI, L2.ixN, lenD, gcdD, max2D, min2D, isiD, tyN, k_tt, e_long]
theorem e_longratio (a b : Int) : F_is_long_ratio [(false, .tup [.int a, .int b])] = .ret false (.bl (decide (0 < b) && decide (gc a b = 1))) [] := by
  unfold F_is_long_ratio B_is_long_ratio
  by_cases hb : 0 < b
  · by_cases hg : a.natAbs.gcd b.natAbs = 1
    · simp [dC_ap, dVar_ap, oVar_ap, oD_ap, aNil_ap, aCons_ap, vNil_ap, vCons_ap, dBin_ap, dTst_ap, dUn_ap, dCal_ap, dSeq_ap, dNever_ap, dIf_ap, dRet_ap, dRetF_ap, dRetN_ap, dRetV_ap, dExpr_ap, dSet_ap, dSetF_ap, gsNil_ap, gsCons_ap, gTp_ap, dAsg_ap, sLst_ap, sTup_ap, sRng1_ap, sRng2_ap, dForS_ap, dTru_ap, dAnd_ap, dOr_ap, dNot_ap, dAndV_ap, dOrV_ap, dNotV_ap, dIte_ap, dChain_ap, dTup_ap, dLst_ap, dApp_ap, dSetI_ap, rNil_ap, rVal_ap, rIo_ap, dCal2_ap, dV_ap, dN_ap, tYesB_ap, dLc_ap, dIsi_ap, dPar_ap, dDic0_ap, dPar3_ap, DF.R.bind_ok, DF.R.bindS_ok, DF.R.bindN_ok, DF.SR.bind_nx, DF.SR.bind_ret, ofO, ths, setV, setF, free, set2, set3, fnRes, startE, startC, outs, argsD, putD, ioIx, isMu, look, muL, ltD_ap, leD_ap, gtD_ap, geD_ap, addD_ap, subD_ap, negD_ap, absD_ap, intD_ap, intD_apB, eq_int, ne_int, ixD, L2.atI, L2.ixN, lenD, gcdD, max2D, min2D, e_pair, hb, gc, hg]
    · have hg' : ¬ ((a.natAbs.gcd b.natAbs : Nat) : Int) = 1 := by omega
      simp [dC_ap, dVar_ap, oVar_ap, oD_ap, aNil_ap, aCons_ap, vNil_ap, vCons_ap, dBin_ap, dTst_ap, dUn_ap, dCal_ap, dSeq_ap, dNever_ap, dIf_ap, dRet_ap, dRetF_ap, dRetN_ap, dRetV_ap, dExpr_ap, dSet_ap, dSetF_ap, gsNil_ap, gsCons_ap, gTp_ap, dAsg_ap, sLst_ap, sTup_ap, sRng1_ap, sRng2_ap, dForS_ap, dTru_ap, dAnd_ap, dOr_ap, dNot_ap, dAndV_ap, dOrV_ap, dNotV_ap, dIte_ap, dChain_ap, dTup_ap, dLst_ap, dApp_ap, dSetI_ap, rNil_ap, rVal_ap, rIo_ap, dCal2_ap, dV_ap, dN_ap, tYesB_ap, dLc_ap, dIsi_ap, dPar_ap, dDic0_ap, dPar3_ap, DF.R.bind_ok, DF.R.bindS_ok, DF.R.bindN_ok, DF.SR.bind_nx, DF.SR.bind_ret, ofO, ths, setV, setF, free, set2, set3, fnRes, startE, startC, outs, argsD, putD, ioIx, isMu, look, muL, ltD_ap, leD_ap, gtD_ap, geD_ap, addD_ap, subD_ap, negD_ap, absD_ap, intD_ap, intD_apB, eq_int, ne_int, ixD, L2.atI, L2.ixN, lenD, gcdD, max2D, min2D, e_pair, hb, gc, hg, hg']
  · simp [dC_ap, dVar_ap, oVar_ap, oD_ap, aNil_ap, aCons_ap, vNil_ap, vCons_ap, dBin_ap, dTst_ap, dUn_ap, dCal_ap, dSeq_ap, dNever_ap, dIf_ap, dRet_ap, dRetF_ap, dRetN_ap, dRetV_ap, dExpr_ap, dSet_ap, dSetF_ap, gsNil_ap, gsCons_ap, gTp_ap, dAsg_ap, sLst_ap, sTup_ap, sRng1_ap, sRng2_ap, dForS_ap, dTru_ap, dAnd_ap, dOr_ap, dNot_ap, dAndV_ap, dOrV_ap, dNotV_ap, dIte_ap, dChain_ap, dTup_ap, dLst_ap, dApp_ap, dSetI_ap, rNil_ap, rVal_ap, rIo_ap, dCal2_ap, dV_ap, dN_ap, tYesB_ap, dLc_ap, dIsi_ap, dPar_ap, dDic0_ap, dPar3_ap, DF.R.bind_ok, DF.R.bindS_ok, DF.R.bindN_ok, DF.SR.bind_nx, DF.SR.bind_ret, ofO, ths, setV, setF, free, set2, set3, fnRes, startE, startC, outs, argsD, putD, ioIx, isMu, look, muL, ltD_ap, leD_ap, gtD_ap, geD_ap, addD_ap, subD_ap, negD_ap, absD_ap, intD_ap, intD_apB, eq_int, ne_int, ixD, L2.atI, L2.ixN, lenD, gcdD, max2D, min2D, e_pair, hb, gc]
structure Rt (a b : Int) : Prop where
  g : Good a b
  a : a.natAbs ≤ 1000
  b : b.natAbs ≤ 1000
theorem e_check {a b : Int} (h : Rt a b) : F_check_ratio [(false, .tup [.int a, .int b])] = .ret false .non [] := by
  have h1 : a.natAbs ≤ 999999999999999999999999999999999999999999999999999999999999 := Nat.le_trans h.a (by decide)
  have h2 : b.natAbs ≤ 999999999999999999999999999999999999999999999999999999999999 := Nat.le_trans h.b (by decide)
  have e : F_is_ratio [(false, .tup [.int a, .int b])] = .ret false (.bl true) [] := by
    unfold F_is_ratio B_is_ratio
    simp [dC_ap, dVar_ap, oVar_ap, oD_ap, aNil_ap, aCons_ap, vNil_ap, vCons_ap, dBin_ap, dTst_ap, dUn_ap, dCal_ap, dSeq_ap, dNever_ap, dIf_ap, dRet_ap, dRetF_ap, dRetN_ap, dRetV_ap, dExpr_ap, dSet_ap, dSetF_ap, gsNil_ap, gsCons_ap, gTp_ap, dAsg_ap, sLst_ap, sTup_ap, sRng1_ap, sRng2_ap, dForS_ap, dTru_ap, dAnd_ap, dOr_ap, dNot_ap, dAndV_ap, dOrV_ap, dNotV_ap, dIte_ap, dChain_ap, dTup_ap, dLst_ap, dApp_ap, dSetI_ap, rNil_ap, rVal_ap, rIo_ap, dCal2_ap, dV_ap, dN_ap, tYesB_ap, dLc_ap, dIsi_ap, dPar_ap, dDic0_ap, dPar3_ap, DF.R.bind_ok, DF.R.bindS_ok, DF.R.bindN_ok, DF.SR.bind_nx, DF.SR.bind_ret, ofO, ths, setV, setF, free, set2, set3, fnRes, startE, startC, outs, argsD, putD, ioIx, isMu, look, muL, ltD_ap, leD_ap, gtD_ap, geD_ap, addD_ap, subD_ap, negD_ap, absD_ap, intD_ap, intD_apB, eq_int, ne_int, ixD, L2.atI, L2.ixN, lenD, gcdD, max2D, min2D, e_longratio, e_isint, h.g.1, h.g.2, h1, h2]
  unfold F_check_ratio B_check_ratio
  simp [dC_ap, dVar_ap, oVar_ap, oD_ap, aNil_ap, aCons_ap, vNil_ap, vCons_ap, dBin_ap, dTst_ap, dUn_ap, dCal_ap, dSeq_ap, dNever_ap, dIf_ap, dRet_ap, dRetF_ap, dRetN_ap, dRetV_ap, dExpr_ap, dSet_ap, dSetF_ap, gsNil_ap, gsCons_ap, gTp_ap, dAsg_ap, sLst_ap, sTup_ap, sRng1_ap, sRng2_ap, dForS_ap, dTru_ap, dAnd_ap, dOr_ap, dNot_ap, dAndV_ap, dOrV_ap, dNotV_ap, dIte_ap, dChain_ap, dTup_ap, dLst_ap, dApp_ap, dSetI_ap, rNil_ap, rVal_ap, rIo_ap, dCal2_ap, dV_ap, dN_ap, tYesB_ap, dLc_ap, dIsi_ap, dPar_ap, dDic0_ap, dPar3_ap, DF.R.bind_ok, DF.R.bindS_ok, DF.R.bindN_ok, DF.SR.bind_nx, DF.SR.bind_ret, ofO, ths, setV, setF, free, set2, set3, fnRes, startE, startC, outs, argsD, putD, ioIx, isMu, look, muL, ltD_ap, leD_ap, gtD_ap, geD_ap, addD_ap, subD_ap, negD_ap, absD_ap, intD_ap, intD_apB, eq_int, ne_int, ixD, L2.atI, L2.ixN, lenD, gcdD, max2D, min2D, e]
theorem e_rsum {a b c d k : Int} (hb : b ≠ 0) (hd : d ≠ 0) (h1 : Sm a) (h2 : Sm b) (h3 : Sm c) (h4 : Sm d) (h5 : Sm k) (h6 : Sm (k * c)) (h7 : Sm (b * d)) : F_q_ratio_sum [(false, .tup [.int a, .int b]), (false, .tup [.int c, .int d]), (false, .int k)] = .ret false (.tup [.int (lo1 (a * d + k * c * b) (b * d)), .int (lo2 (a * d + k * c * b) (b * d))]) [] := by
  have m1 := mulD_ap (cm h1 h4)
  have m2 := mulD_ap (cm h5 h3)
  have m3 := mulD_ap (cm h6 h2)
  have m4 := mulD_ap (cm h2 h4)
  have e := e_lowest (a * d + k * c * b) (b * d) (Int.mul_ne_zero hb hd) h7
  unfold F_q_ratio_sum B_q_ratio_sum
  simp [dC_ap, dVar_ap, oVar_ap, oD_ap, aNil_ap, aCons_ap, vNil_ap, vCons_ap, dBin_ap, dTst_ap, dUn_ap, dCal_ap, dSeq_ap, dNever_ap, dIf_ap, dRet_ap, dRetF_ap, dRetN_ap, dRetV_ap, dExpr_ap, dSet_ap, dSetF_ap, gsNil_ap, gsCons_ap, gTp_ap, dAsg_ap, sLst_ap, sTup_ap, sRng1_ap, sRng2_ap, dForS_ap, dTru_ap, dAnd_ap, dOr_ap, dNot_ap, dAndV_ap, dOrV_ap, dNotV_ap, dIte_ap, dChain_ap, dTup_ap, dLst_ap, dApp_ap, dSetI_ap, rNil_ap, rVal_ap, rIo_ap, dCal2_ap, dV_ap, dN_ap, tYesB_ap, dLc_ap, dIsi_ap, dPar_ap, dDic0_ap, dPar3_ap, DF.R.bind_ok, DF.R.bindS_ok, DF.R.bindN_ok, DF.SR.bind_nx, DF.SR.bind_ret, ofO, ths, setV, setF, free, set2, set3, fnRes, startE, startC, outs, argsD, putD, ioIx, isMu, look, muL, ltD_ap, leD_ap, gtD_ap, geD_ap, addD_ap, subD_ap, negD_ap, absD_ap, intD_ap, intD_apB, eq_int, ne_int, ixD, L2.atI, L2.ixN, lenD, gcdD, max2D, min2D, m1, m2, m3, m4, e]
theorem e_rtimes {a b c d : Int} (hb : b ≠ 0) (hd : d ≠ 0) (h1 : Sm a) (h2 : Sm b) (h3 : Sm c) (h4 : Sm d) (h7 : Sm (b * d)) : F_q_ratio_times [(false, .tup [.int a, .int b]), (false, .tup [.int c, .int d])] = .ret false (.tup [.int (lo1 (a * c) (b * d)), .int (lo2 (a * c) (b * d))]) [] := by
  have m1 := mulD_ap (cm h1 h3)
  have m4 := mulD_ap (cm h2 h4)
  have e := e_lowest (a * c) (b * d) (Int.mul_ne_zero hb hd) h7
  unfold F_q_ratio_times B_q_ratio_times
  simp [dC_ap, dVar_ap, oVar_ap, oD_ap, aNil_ap, aCons_ap, vNil_ap, vCons_ap, dBin_ap, dTst_ap, dUn_ap, dCal_ap, dSeq_ap, dNever_ap, dIf_ap, dRet_ap, dRetF_ap, dRetN_ap, dRetV_ap, dExpr_ap, dSet_ap, dSetF_ap, gsNil_ap, gsCons_ap, gTp_ap, dAsg_ap, sLst_ap, sTup_ap, sRng1_ap, sRng2_ap, dForS_ap, dTru_ap, dAnd_ap, dOr_ap, dNot_ap, dAndV_ap, dOrV_ap, dNotV_ap, dIte_ap, dChain_ap, dTup_ap, dLst_ap, dApp_ap, dSetI_ap, rNil_ap, rVal_ap, rIo_ap, dCal2_ap, dV_ap, dN_ap, tYesB_ap, dLc_ap, dIsi_ap, dPar_ap, dDic0_ap, dPar3_ap, DF.R.bind_ok, DF.R.bindS_ok, DF.R.bindN_ok, DF.SR.bind_nx, DF.SR.bind_ret, ofO, ths, setV, setF, free, set2, set3, fnRes, startE, startC, outs, argsD, putD, ioIx, isMu, look, muL, ltD_ap, leD_ap, gtD_ap, geD_ap, addD_ap, subD_ap, negD_ap, absD_ap, intD_ap, intD_apB, eq_int, ne_int, ixD, L2.atI, L2.ixN, lenD, gcdD, max2D, min2D, m1, m4, e]
end K04

namespace K04
open PySem DF KM KP
theorem abs_mul_le {x y : Int} {m k : Nat} (h1 : x.natAbs ≤ m) (h2 : y.natAbs ≤ k) : (x * y).natAbs ≤ m * k := by
  rw [Int.natAbs_mul]
  exact Nat.mul_le_mul h1 h2
theorem abs_add_le {x y : Int} {m k : Nat} (h1 : x.natAbs ≤ m) (h2 : y.natAbs ≤ k) : (x + y).natAbs ≤ m + k := Nat.le_trans (Int.natAbs_add_le x y) (Nat.add_le_add h1 h2)
/-! ### values, from the top down -/
def pvS (t b : Int) (p : Int × Int) (x : Int) : Int × Int := (p.1 * t + x * p.2, p.2 * b)
theorem pv_fold (t b : Int) : ∀ l : List Int, l.reverse.foldl (pvS t b) (0, 1) = (hT t b l, b ^ l.length)
  | [] => by simp [hT]
  | x :: r => by
    rw [List.reverse_cons, List.foldl_append, pv_fold t b r]
    show (hT t b r * t + x * b ^ r.length, b ^ r.length * b) = (hT t b r * t + x * b ^ r.length, b ^ (r.length + 1))
    rw [Int.pow_succ]
def pvB : DEnv → SR := dSeq (dSet 4 (dBin addD (oD (dBin mulD (oVar 4) (oVar 2))) (oD (dBin mulD (oVar 6) (oVar 5)))))
    (dSet 5 (dBin mulD (oVar 5) (oVar 3)))
theorem pvB_ap {c0 c1 : Option Cell} {t b T S x : Int} (h1 : cMul T t = true) (h2 : cMul x S = true) (h3 : cMul S b = true) : pvB [c0, c1, some (.val (.int t)), some (.val (.int b)), some (.val (.int T)), some (.val (.int S)), some (.val (.int x))] = .nx [c0, c1, some (.val (.int t)), some (.val (.int b)), some (.val (.int (T * t + x * S))), some (.val (.int (S * b))), some (.val (.int x))] := by
  have m1 := mulD_ap h1
  have m2 := mulD_ap h2
  have m3 := mulD_ap h3
  simp [pvB, dC_ap, dVar_ap, oVar_ap, oD_ap, aNil_ap, aCons_ap, vNil_ap, vCons_ap, dBin_ap, dTst_ap, dUn_ap, dCal_ap, dSeq_ap, dNever_ap, dIf_ap, dRet_ap, dRetF_ap, dRetN_ap, dRetV_ap, dExpr_ap, dSet_ap, dSetF_ap, gsNil_ap, gsCons_ap, gTp_ap, dAsg_ap, sLst_ap, sTup_ap, sRng1_ap, sRng2_ap, dForS_ap, dTru_ap, dAnd_ap, dOr_ap, dNot_ap, dAndV_ap, dOrV_ap, dNotV_ap, dIte_ap, dChain_ap, dTup_ap, dLst_ap, dApp_ap, dSetI_ap, rNil_ap, rVal_ap, rIo_ap, dCal2_ap, dV_ap, dN_ap, tYesB_ap, dLc_ap, dIsi_ap, dPar_ap, dDic0_ap, dPar3_ap, DF.R.bind_ok, DF.R.bindS_ok, DF.R.bindN_ok, DF.SR.bind_nx, DF.SR.bind_ret, ofO, ths, setV, setF, free, set2, set3, fnRes, startE, startC, outs, argsD, putD, ioIx, isMu, look, muL, ltD_ap, leD_ap, gtD_ap, geD_ap, addD_ap, subD_ap, negD_ap, absD_ap, intD_ap, intD_apB, eq_int, ne_int, ixD, L2.atI, L2.ixN, lenD, gcdD, max2D, min2D, m1, m2, m3]
theorem pow_le700 {X : Nat} {j : Nat} (hX : X ≤ 10 ^ 60) (hj : j ≤ 42) : X * j * 1000 ^ j ≤ 10 ^ 700 := by
  have h1 : X * j ≤ 10 ^ 60 * 42 := Nat.mul_le_mul hX hj
  have h2 : 1000 ^ j ≤ 1000 ^ 42 := Nat.pow_le_pow_right (by decide) hj
  exact Nat.le_trans (Nat.mul_le_mul h1 h2) (by decide)
theorem pow_le700' {j : Nat} (hj : j ≤ 42) : 1000 ^ j ≤ 10 ^ 700 := Nat.le_trans (Nat.pow_le_pow_right (by decide) hj) (by decide)
theorem set6 {c0 c1 c2 c3 c4 c5 c6 : Option Cell} {d : D} (h : Vc c6) : setV 6 d [c0, c1, c2, c3, c4, c5, c6] = some [c0, c1, c2, c3, c4, c5, some (.val d)] := by
  rcases h with rfl | ⟨d6, rfl⟩ <;> simp [setV, free]
theorem pv_loop {c0 c1 : Option Cell} {t b : Int} {X : Nat} (hX : X ≤ 10 ^ 60) (ht : t.natAbs ≤ 1000) (hb : b.natAbs ≤ 1000) : ∀ (l : List Int) (j : Nat) (T S : Int) (c6 : Option Cell), Vc c6 → l.length + j ≤ 41 → T.natAbs ≤ X * j * 1000 ^ j → S.natAbs ≤ 1000 ^ j → (∀ y ∈ l, y.natAbs ≤ X) →
    ∃ c6', dFor (setV 6) pvB (l.map D.int) [c0, c1, some (.val (.int t)), some (.val (.int b)), some (.val (.int T)), some (.val (.int S)), c6] = .nx [c0, c1, some (.val (.int t)), some (.val (.int b)), some (.val (.int (l.foldl (pvS t b) (T, S)).1)), some (.val (.int (l.foldl (pvS t b) (T, S)).2)), c6']
  | [], j, T, S, c6, h6, _, _, _, _ => ⟨c6, rfl⟩
  | x :: r, j, T, S, c6, h6, hl, hT, hS, hy => by
    rw [List.length_cons] at hl
    have hx := hy x List.mem_cons_self
    have hT' : (T * t + x * S).natAbs ≤ X * (j + 1) * 1000 ^ (j + 1) := by
      have h1 := abs_mul_le hT ht
      have h2 := abs_mul_le hx hS
      have h3 := abs_add_le h1 h2
      refine Nat.le_trans h3 ?_
      rw [Nat.pow_succ, Nat.mul_add X, Nat.mul_one, Nat.add_mul, ← Nat.mul_assoc, ← Nat.mul_assoc]
      refine Nat.add_le_add (Nat.le_refl _) ?_
      exact Nat.le_mul_of_pos_right _ (by decide)
    have hS' : (S * b).natAbs ≤ 1000 ^ (j + 1) := by
      rw [Nat.pow_succ]
      exact abs_mul_le hS hb
    have st : Sm T := sm_of (Nat.le_trans hT (pow_le700 hX (by omega)))
    have ss : Sm S := sm_of (Nat.le_trans hS (pow_le700' (by omega)))
    have s1 : Sm t := sm_of (Nat.le_trans ht (by decide))
    have s2 : Sm b := sm_of (Nat.le_trans hb (by decide))
    have sx : Sm x := sm_of (Nat.le_trans hx (Nat.le_trans hX (by decide)))
    obtain ⟨c6', e⟩ := pv_loop (c0 := c0) (c1 := c1) hX ht hb r (j + 1) (T * t + x * S) (S * b) (some (.val (.int x))) (.inr ⟨_, rfl⟩) (by omega) hT' hS' fun y h => hy y (List.mem_cons_of_mem _ h)
    refine ⟨c6', ?_⟩
    rw [List.map_cons]
    unfold dFor
    rw [set6 h6]
    dsimp only
    rw [pvB_ap (cm st s1) (cm sx ss) (cm ss s2)]
    exact e
theorem pv2 {c0 c4 c5 c6 : Option Cell} {t b : Int} : dAsg (dVar 1) (gTp 2 (gsCons (setV 2) (gsCons (setV 3) (gsNil)))) [c0, some (.val (.tup [.int t, .int b])), none, none, c4, c5, c6] = .nx [c0, some (.val (.tup [.int t, .int b])), some (.val (.int t)), some (.val (.int b)), c4, c5, c6] := by
  simp [dC_ap, dVar_ap, oVar_ap, oD_ap, aNil_ap, aCons_ap, vNil_ap, vCons_ap, dBin_ap, dTst_ap, dUn_ap, dCal_ap, dSeq_ap, dNever_ap, dIf_ap, dRet_ap, dRetF_ap, dRetN_ap, dRetV_ap, dExpr_ap, dSet_ap, dSetF_ap, gsNil_ap, gsCons_ap, gTp_ap, dAsg_ap, sLst_ap, sTup_ap, sRng1_ap, sRng2_ap, dForS_ap, dTru_ap, dAnd_ap, dOr_ap, dNot_ap, dAndV_ap, dOrV_ap, dNotV_ap, dIte_ap, dChain_ap, dTup_ap, dLst_ap, dApp_ap, dSetI_ap, rNil_ap, rVal_ap, rIo_ap, dCal2_ap, dV_ap, dN_ap, tYesB_ap, dLc_ap, dIsi_ap, dPar_ap, dDic0_ap, dPar3_ap, DF.R.bind_ok, DF.R.bindS_ok, DF.R.bindN_ok, DF.SR.bind_nx, DF.SR.bind_ret, ofO, ths, setV, setF, free, set2, set3, fnRes, startE, startC, outs, argsD, putD, ioIx, isMu, look, muL, ltD_ap, leD_ap, gtD_ap, geD_ap, addD_ap, subD_ap, negD_ap, absD_ap, intD_ap, intD_apB, eq_int, ne_int, ixD, L2.atI, L2.ixN, lenD, gcdD, max2D, min2D]
theorem pv5_eq : (dForS (sTup (dUn revTD (oVar 0))) (setV 6) (dSeq (dSet 4 (dBin addD (oD (dBin mulD (oVar 4) (oVar 2))) (oD (dBin mulD (oVar 6) (oVar 5)))))
    (dSet 5 (dBin mulD (oVar 5) (oVar 3))))) = dForS (sTup (dUn revTD (oVar 0))) (setV 6) pvB := rfl
theorem pv6 {c0 c1 c2 c6 : Option Cell} {b T S : Int} {r : D} (m : mulD (.int T) (.int b) = some (.int (T * b))) (e : F_reduced [(false, .int (T * b)), (false, .int S)] = .ret false r []) : (dRet (dV (dCal2 2 F_reduced (rVal (dBin mulD (oVar 4) (oVar 3)) (rVal (dVar 5) (rNil)))))) [c0, c1, c2, some (.val (.int b)), some (.val (.int T)), some (.val (.int S)), c6] = .ret [c0, c1, c2, some (.val (.int b)), some (.val (.int T)), some (.val (.int S)), c6] false r := by
  simp [dC_ap, dVar_ap, oVar_ap, oD_ap, aNil_ap, aCons_ap, vNil_ap, vCons_ap, dBin_ap, dTst_ap, dUn_ap, dCal_ap, dSeq_ap, dNever_ap, dIf_ap, dRet_ap, dRetF_ap, dRetN_ap, dRetV_ap, dExpr_ap, dSet_ap, dSetF_ap, gsNil_ap, gsCons_ap, gTp_ap, dAsg_ap, sLst_ap, sTup_ap, sRng1_ap, sRng2_ap, dForS_ap, dTru_ap, dAnd_ap, dOr_ap, dNot_ap, dAndV_ap, dOrV_ap, dNotV_ap, dIte_ap, dChain_ap, dTup_ap, dLst_ap, dApp_ap, dSetI_ap, rNil_ap, rVal_ap, rIo_ap, dCal2_ap, dV_ap, dN_ap, tYesB_ap, dLc_ap, dIsi_ap, dPar_ap, dDic0_ap, dPar3_ap, DF.R.bind_ok, DF.R.bindS_ok, DF.R.bindN_ok, DF.SR.bind_nx, DF.SR.bind_ret, ofO, ths, setV, setF, free, set2, set3, fnRes, startE, startC, outs, argsD, putD, ioIx, isMu, look, muL, ltD_ap, leD_ap, gtD_ap, geD_ap, addD_ap, subD_ap, negD_ap, absD_ap, intD_ap, intD_apB, eq_int, ne_int, ixD, L2.atI, L2.ixN, lenD, gcdD, max2D, min2D, m, e]
def pval (t b : Int) (l : List Int) : D := .tup [.int (lo1 (hT t b l * b) (b ^ l.length)), .int (lo2 (hT t b l * b) (b ^ l.length))]
theorem foldl_bound {t b : Int} {X : Nat} (ht : t.natAbs ≤ 1000) (hb : b.natAbs ≤ 1000) : ∀ (l : List Int), (∀ y ∈ l, y.natAbs ≤ X) → (hT t b l).natAbs ≤ X * l.length * 1000 ^ l.length ∧ (b ^ l.length).natAbs ≤ 1000 ^ l.length
  | [], _ => ⟨Nat.zero_le _, by simp⟩
  | x :: r, hy => by
    obtain ⟨h1, h2⟩ := foldl_bound ht hb r fun y h => hy y (List.mem_cons_of_mem _ h)
    have hx := hy x List.mem_cons_self
    constructor
    · show (hT t b r * t + x * b ^ r.length).natAbs ≤ X * (r.length + 1) * 1000 ^ (r.length + 1)
      have k1 := abs_mul_le h1 ht
      have k2 := abs_mul_le hx h2
      have k3 := abs_add_le k1 k2
      refine Nat.le_trans k3 ?_
      rw [Nat.pow_succ, Nat.mul_add X, Nat.mul_one, Nat.add_mul, ← Nat.mul_assoc, ← Nat.mul_assoc]
      refine Nat.add_le_add (Nat.le_refl _) ?_
      exact Nat.le_mul_of_pos_right _ (by decide)
    · show (b ^ (r.length + 1)).natAbs ≤ 1000 ^ (r.length + 1)
      rw [Int.pow_succ, Nat.pow_succ]
      exact abs_mul_le h2 hb
theorem rev_tup {l : List Int} {rest : DEnv} : dUn revTD (oVar 0) (some (.val (pd l)) :: rest) = .ok (some (.val (pd l)) :: rest) (.tup (l.reverse.map D.int)) := by
  simp only [dUn_ap, oVar_ap, DF.R.bind_ok, look, List.getElem?_cons_zero, revTD, List.map_reverse, ofO]
theorem e_pvalue {l : List Int} {t b : Int} (h : Pl l) (hr : Rt t b) : F_polynomial_value [(false, pd l), (false, .tup [.int t, .int b])] = .ret false (pval t b l) [] := by
  have hck := e_checkp h
  have hcr := e_check hr
  have hlen := h.len
  have hb0 : b ≠ 0 := by have := hr.g.1; omega
  have hX : ∀ y ∈ l, y.natAbs ≤ 10 ^ 60 := fun y hy => by have := h.sm y hy; omega
  obtain ⟨bd1, bd2⟩ := foldl_bound hr.a hr.b l hX
  have sS : Sm (b ^ l.length) := sm_of (Nat.le_trans bd2 (pow_le700' (by omega)))
  have sT : Sm (hT t b l) := sm_of (Nat.le_trans bd1 (pow_le700 (Nat.le_refl _) (by omega)))
  have sb : Sm b := sm_of (Nat.le_trans hr.b (by decide))
  have s0 : (dExpr (dV (dCal2 1 F_check_polynomial (rVal (dVar 0) (rNil))))) [some (.val (pd l)), some (.val (.tup [.int t, .int b])), none, none, none, none, none] = .nx [some (.val (pd l)), some (.val (.tup [.int t, .int b])), none, none, none, none, none] := by
    simp [dC_ap, dVar_ap, oVar_ap, oD_ap, aNil_ap, aCons_ap, vNil_ap, vCons_ap, dBin_ap, dTst_ap, dUn_ap, dCal_ap, dSeq_ap, dNever_ap, dIf_ap, dRet_ap, dRetF_ap, dRetN_ap, dRetV_ap, dExpr_ap, dSet_ap, dSetF_ap, gsNil_ap, gsCons_ap, gTp_ap, dAsg_ap, sLst_ap, sTup_ap, sRng1_ap, sRng2_ap, dForS_ap, dTru_ap, dAnd_ap, dOr_ap, dNot_ap, dAndV_ap, dOrV_ap, dNotV_ap, dIte_ap, dChain_ap, dTup_ap, dLst_ap, dApp_ap, dSetI_ap, rNil_ap, rVal_ap, rIo_ap, dCal2_ap, dV_ap, dN_ap, tYesB_ap, dLc_ap, dIsi_ap, dPar_ap, dDic0_ap, dPar3_ap, DF.R.bind_ok, DF.R.bindS_ok, DF.R.bindN_ok, DF.SR.bind_nx, DF.SR.bind_ret, ofO, ths, setV, setF, free, set2, set3, fnRes, startE, startC, outs, argsD, putD, ioIx, isMu, look, muL, ltD_ap, leD_ap, gtD_ap, geD_ap, addD_ap, subD_ap, negD_ap, absD_ap, intD_ap, intD_apB, eq_int, ne_int, ixD, L2.atI, L2.ixN, lenD, gcdD, max2D, min2D, hck]
  have s1 : (dExpr (dV (dCal2 1 F_check_ratio (rVal (dVar 1) (rNil))))) [some (.val (pd l)), some (.val (.tup [.int t, .int b])), none, none, none, none, none] = .nx [some (.val (pd l)), some (.val (.tup [.int t, .int b])), none, none, none, none, none] := by
    simp [dC_ap, dVar_ap, oVar_ap, oD_ap, aNil_ap, aCons_ap, vNil_ap, vCons_ap, dBin_ap, dTst_ap, dUn_ap, dCal_ap, dSeq_ap, dNever_ap, dIf_ap, dRet_ap, dRetF_ap, dRetN_ap, dRetV_ap, dExpr_ap, dSet_ap, dSetF_ap, gsNil_ap, gsCons_ap, gTp_ap, dAsg_ap, sLst_ap, sTup_ap, sRng1_ap, sRng2_ap, dForS_ap, dTru_ap, dAnd_ap, dOr_ap, dNot_ap, dAndV_ap, dOrV_ap, dNotV_ap, dIte_ap, dChain_ap, dTup_ap, dLst_ap, dApp_ap, dSetI_ap, rNil_ap, rVal_ap, rIo_ap, dCal2_ap, dV_ap, dN_ap, tYesB_ap, dLc_ap, dIsi_ap, dPar_ap, dDic0_ap, dPar3_ap, DF.R.bind_ok, DF.R.bindS_ok, DF.R.bindN_ok, DF.SR.bind_nx, DF.SR.bind_ret, ofO, ths, setV, setF, free, set2, set3, fnRes, startE, startC, outs, argsD, putD, ioIx, isMu, look, muL, ltD_ap, leD_ap, gtD_ap, geD_ap, addD_ap, subD_ap, negD_ap, absD_ap, intD_ap, intD_apB, eq_int, ne_int, ixD, L2.atI, L2.ixN, lenD, gcdD, max2D, min2D, hcr]
  have s34 : ∀ {c0 c1 c2 c3 c6 : Option Cell}, dSet 4 (dC (.int 0)) [c0, c1, c2, c3, none, none, c6] = .nx [c0, c1, c2, c3, some (.val (.int 0)), none, c6] ∧ dSet 5 (dC (.int 1)) [c0, c1, c2, c3, some (.val (.int 0)), none, c6] = .nx [c0, c1, c2, c3, some (.val (.int 0)), some (.val (.int 1)), c6] := by
    intro c0 c1 c2 c3 c6
    exact ⟨by simp [dC_ap, dVar_ap, oVar_ap, oD_ap, aNil_ap, aCons_ap, vNil_ap, vCons_ap, dBin_ap, dTst_ap, dUn_ap, dCal_ap, dSeq_ap, dNever_ap, dIf_ap, dRet_ap, dRetF_ap, dRetN_ap, dRetV_ap, dExpr_ap, dSet_ap, dSetF_ap, gsNil_ap, gsCons_ap, gTp_ap, dAsg_ap, sLst_ap, sTup_ap, sRng1_ap, sRng2_ap, dForS_ap, dTru_ap, dAnd_ap, dOr_ap, dNot_ap, dAndV_ap, dOrV_ap, dNotV_ap, dIte_ap, dChain_ap, dTup_ap, dLst_ap, dApp_ap, dSetI_ap, rNil_ap, rVal_ap, rIo_ap, dCal2_ap, dV_ap, dN_ap, tYesB_ap, dLc_ap, dIsi_ap, dPar_ap, dDic0_ap, dPar3_ap, DF.R.bind_ok, DF.R.bindS_ok, DF.R.bindN_ok, DF.SR.bind_nx, DF.SR.bind_ret, ofO, ths, setV, setF, free, set2, set3, fnRes, startE, startC, outs, argsD, putD, ioIx, isMu, look, muL, ltD_ap, leD_ap, gtD_ap, geD_ap, addD_ap, subD_ap, negD_ap, absD_ap, intD_ap, intD_apB, eq_int, ne_int, ixD, L2.atI, L2.ixN, lenD, gcdD, max2D, min2D], by simp [dC_ap, dVar_ap, oVar_ap, oD_ap, aNil_ap, aCons_ap, vNil_ap, vCons_ap, dBin_ap, dTst_ap, dUn_ap, dCal_ap, dSeq_ap, dNever_ap, dIf_ap, dRet_ap, dRetF_ap, dRetN_ap, dRetV_ap, dExpr_ap, dSet_ap, dSetF_ap, gsNil_ap, gsCons_ap, gTp_ap, dAsg_ap, sLst_ap, sTup_ap, sRng1_ap, sRng2_ap, dForS_ap, dTru_ap, dAnd_ap, dOr_ap, dNot_ap, dAndV_ap, dOrV_ap, dNotV_ap, dIte_ap, dChain_ap, dTup_ap, dLst_ap, dApp_ap, dSetI_ap, rNil_ap, rVal_ap, rIo_ap, dCal2_ap, dV_ap, dN_ap, tYesB_ap, dLc_ap, dIsi_ap, dPar_ap, dDic0_ap, dPar3_ap, DF.R.bind_ok, DF.R.bindS_ok, DF.R.bindN_ok, DF.SR.bind_nx, DF.SR.bind_ret, ofO, ths, setV, setF, free, set2, set3, fnRes, startE, startC, outs, argsD, putD, ioIx, isMu, look, muL, ltD_ap, leD_ap, gtD_ap, geD_ap, addD_ap, subD_ap, negD_ap, absD_ap, intD_ap, intD_apB, eq_int, ne_int, ixD, L2.atI, L2.ixN, lenD, gcdD, max2D, min2D]⟩
  obtain ⟨c6', e⟩ := pv_loop (c0 := some (.val (pd l))) (c1 := some (.val (.tup [.int t, .int b]))) (X := 10 ^ 60) (Nat.le_refl _) hr.a hr.b l.reverse 0 0 1 none (.inl rfl) (by rw [List.length_reverse]; omega) (by decide) (by decide) (fun y hy => hX y (List.mem_reverse.mp hy))
  rw [pv_fold] at e
  have e2 := e_reduced (hT t b l * b) (b ^ l.length) (Int.pow_ne_zero hb0) sS
  unfold F_polynomial_value B_polynomial_value
  rw [show startE 7 [(false, pd l), (false, .tup [.int t, .int b])] = [some (.val (pd l)), some (.val (.tup [.int t, .int b])), none, none, none, none, none] from rfl, dSeq_ap, s0, SR.bind_nx, dSeq_ap, s1, SR.bind_nx, dSeq_ap, pv2, SR.bind_nx, dSeq_ap, s34.1, SR.bind_nx, dSeq_ap, s34.2, SR.bind_nx, pv5_eq, dSeq_ap, dForS_ap]
  simp only [sTup, rev_tup, DF.R.bind_ok, DF.R.bindS_ok]
  rw [e, SR.bind_nx, pv6 (mulD_ap (cm sT sb)) e2]
  rfl
end K04

namespace K04
open PySem DF KM KP
abbrev rt (a b : Int) : D := .tup [.int a, .int b]
def vlB : DEnv → SR := dSeq (dSet 2 (dV (dCal2 3 F_q_ratio_sum (rVal (dVar 2) (rVal (dVar 3) (rVal (dVar 4) (rNil)))))))
    (dSet 3 (dV (dCal2 2 F_q_ratio_times (rVal (dVar 3) (rVal (dVar 1) (rNil))))))
theorem vlB_ap {c0 : Option Cell} {f p f' p' r : D} {x : Int} (e1 : F_q_ratio_sum [(false, f), (false, p), (false, .int x)] = .ret false f' []) (e2 : F_q_ratio_times [(false, p), (false, r)] = .ret false p' []) : vlB [c0, some (.val r), some (.val f), some (.val p), some (.val (.int x))] = .nx [c0, some (.val r), some (.val f'), some (.val p'), some (.val (.int x))] := by
  simp [vlB, dC_ap, dVar_ap, oVar_ap, oD_ap, aNil_ap, aCons_ap, vNil_ap, vCons_ap, dBin_ap, dTst_ap, dUn_ap, dCal_ap, dSeq_ap, dNever_ap, dIf_ap, dRet_ap, dRetF_ap, dRetN_ap, dRetV_ap, dExpr_ap, dSet_ap, dSetF_ap, gsNil_ap, gsCons_ap, gTp_ap, dAsg_ap, sLst_ap, sTup_ap, sRng1_ap, sRng2_ap, dForS_ap, dTru_ap, dAnd_ap, dOr_ap, dNot_ap, dAndV_ap, dOrV_ap, dNotV_ap, dIte_ap, dChain_ap, dTup_ap, dLst_ap, dApp_ap, dSetI_ap, rNil_ap, rVal_ap, rIo_ap, dCal2_ap, dV_ap, dN_ap, tYesB_ap, dLc_ap, dIsi_ap, dPar_ap, dDic0_ap, dPar3_ap, DF.R.bind_ok, DF.R.bindS_ok, DF.R.bindN_ok, DF.SR.bind_nx, DF.SR.bind_ret, ofO, ths, setV, setF, free, set2, set3, fnRes, startE, startC, outs, argsD, putD, ioIx, isMu, look, muL, ltD_ap, leD_ap, gtD_ap, geD_ap, addD_ap, subD_ap, negD_ap, absD_ap, intD_ap, intD_apB, eq_int, ne_int, ixD, L2.atI, L2.ixN, lenD, gcdD, max2D, min2D, e1, e2]
theorem set4' {c0 c1 c2 c3 c4 : Option Cell} {d : D} (h : Vc c4) : setV 4 d [c0, c1, c2, c3, c4] = some [c0, c1, c2, c3, some (.val d)] := by
  rcases h with rfl | ⟨d4, rfl⟩ <;> simp [setV, free]
theorem sq700 {X j : Nat} (hX : X ≤ 10 ^ 60) (hj : j ≤ 14) : X * j * 1000 ^ (j * j) ≤ 10 ^ 700 := by
  have h1 : X * j ≤ 10 ^ 60 * 14 := Nat.mul_le_mul hX hj
  have h2 : 1000 ^ (j * j) ≤ 1000 ^ 196 := Nat.pow_le_pow_right (by decide) (show j * j ≤ 14 * 14 from Nat.mul_le_mul hj hj)
  exact Nat.le_trans (Nat.mul_le_mul h1 h2) (by decide)
theorem sq700' {j : Nat} (hj : j ≤ 14) : 1000 ^ (j * j) ≤ 10 ^ 700 := Nat.le_trans (Nat.pow_le_pow_right (by decide) (show j * j ≤ 14 * 14 from Nat.mul_le_mul hj hj)) (by decide)
theorem sq_step (j : Nat) : 1000 ^ (j * j) * 1000 ^ j ≤ 1000 ^ ((j + 1) * (j + 1)) := by
  rw [← Nat.pow_add]
  exact Nat.pow_le_pow_right (by decide) (by rw [Nat.add_mul, Nat.mul_add]; omega)
/-- the law's way: a sum and a power, both in lowest terms -/
theorem vl_loop {c0 : Option Cell} {t b : Int} {X : Nat} (hX : X ≤ 10 ^ 60) (hr : Rt t b) : ∀ (l : List Int) (j : Nat) (A B P Q : Int) (c4 : Option Cell), Vc c4 → l.length + j ≤ 13 → Good A B → Good P Q → A.natAbs ≤ X * j * 1000 ^ (j * j) → B.natAbs ≤ 1000 ^ (j * j) → P.natAbs ≤ 1000 ^ j → Q.natAbs ≤ 1000 ^ j → (∀ y ∈ l, y.natAbs ≤ X) →
    ∃ (A' B' : Int) (c3' c4' : Option Cell), Good A' B' ∧ Fin t b A B P Q A' B' l ∧ dFor (setV 4) vlB (l.map D.int) [c0, some (.val (rt t b)), some (.val (rt A B)), some (.val (rt P Q)), c4] = .nx [c0, some (.val (rt t b)), some (.val (rt A' B')), c3', c4']
  | [], j, A, B, P, Q, c4, h4, _, gA, gP, _, _, _, _, _ => ⟨A, B, _, c4, gA, ⟨gA.1, by show A * (B * Q * b ^ 0) = B * (A * Q * b ^ 0 + P * B * 0 * b); grind⟩, rfl⟩
  | x :: r, j, A, B, P, Q, c4, h4, hl, gA, gP, hA, hB, hP, hQ, hy => by
    rw [List.length_cons] at hl
    have hx := hy x List.mem_cons_self
    have b0 : b ≠ 0 := by have := hr.g.1; omega
    have B0 : B ≠ 0 := by have := gA.1; omega
    have Q0 : Q ≠ 0 := by have := gP.1; omega
    have sj : X * j * 1000 ^ (j * j) ≤ 10 ^ 700 := sq700 hX (by omega)
    have sA : Sm A := sm_of (Nat.le_trans hA sj)
    have sB : Sm B := sm_of (Nat.le_trans hB (sq700' (by omega)))
    have sP : Sm P := sm_of (Nat.le_trans hP (pow_le700' (by omega)))
    have sQ : Sm Q := sm_of (Nat.le_trans hQ (pow_le700' (by omega)))
    have s1 : Sm t := sm_of (Nat.le_trans hr.a (by decide))
    have s2 : Sm b := sm_of (Nat.le_trans hr.b (by decide))
    have sx : Sm x := sm_of (Nat.le_trans hx (Nat.le_trans hX (by decide)))
    have hxP : (x * P).natAbs ≤ X * 1000 ^ j := abs_mul_le hx hP
    have hBQ : (B * Q).natAbs ≤ 1000 ^ ((j + 1) * (j + 1)) := Nat.le_trans (abs_mul_le hB hQ) (sq_step j)
    have hQb : (Q * b).natAbs ≤ 1000 ^ (j + 1) := by rw [Nat.pow_succ]; exact abs_mul_le hQ hr.b
    have hPt : (P * t).natAbs ≤ 1000 ^ (j + 1) := by rw [Nat.pow_succ]; exact abs_mul_le hP hr.a
    have hN : (A * Q + x * P * B).natAbs ≤ X * (j + 1) * 1000 ^ ((j + 1) * (j + 1)) := by
      have k1 := abs_mul_le hA hQ
      have k2 := abs_mul_le hxP hB
      refine Nat.le_trans (abs_add_le k1 k2) ?_
      have k3 : X * j * 1000 ^ (j * j) * 1000 ^ j ≤ X * j * 1000 ^ ((j + 1) * (j + 1)) := by rw [Nat.mul_assoc]; exact Nat.mul_le_mul_left _ (sq_step j)
      have k4 : X * 1000 ^ j * 1000 ^ (j * j) ≤ X * 1000 ^ ((j + 1) * (j + 1)) := by rw [Nat.mul_assoc, Nat.mul_comm (1000 ^ j)]; exact Nat.mul_le_mul_left _ (sq_step j)
      rw [Nat.mul_add X, Nat.mul_one, Nat.add_mul]
      exact Nat.add_le_add k3 k4
    have sxP : Sm (x * P) := sm_of (Nat.le_trans hxP (Nat.le_trans (Nat.mul_le_mul hX (Nat.pow_le_pow_right (by decide) (show j ≤ 13 by omega))) (by decide)))
    have sBQ : Sm (B * Q) := sm_of (Nat.le_trans hBQ (sq700' (by omega)))
    have sQb : Sm (Q * b) := sm_of (Nat.le_trans hQb (pow_le700' (by omega)))
    have BQ0 : B * Q ≠ 0 := Int.mul_ne_zero B0 Q0
    have Qb0 : Q * b ≠ 0 := Int.mul_ne_zero Q0 b0
    have e1 := e_rsum (a := A) (b := B) (c := P) (d := Q) (k := x) B0 Q0 sA sB sP sQ sx sxP sBQ
    have e2 := e_rtimes (a := P) (b := Q) (c := t) (d := b) Q0 b0 sP sQ s1 s2 sQb
    obtain ⟨_, _, g1⟩ := lo_spec (t := A * Q + x * P * B) BQ0
    obtain ⟨_, _, g2⟩ := lo_spec (t := P * t) Qb0
    obtain ⟨A', B', c3', c4', gA', F, e⟩ := vl_loop (c0 := c0) hX hr r (j + 1) (lo1 (A * Q + x * P * B) (B * Q)) (lo2 (A * Q + x * P * B) (B * Q)) (lo1 (P * t) (Q * b)) (lo2 (P * t) (Q * b)) (some (.val (.int x))) (.inr ⟨_, rfl⟩) (by omega) g1 g2 (Nat.le_trans (lo1_le BQ0) hN) (Nat.le_trans (lo2_le BQ0) hBQ) (Nat.le_trans (lo1_le Qb0) hPt) (Nat.le_trans (lo2_le Qb0) hQb) fun y h => hy y (List.mem_cons_of_mem _ h)
    refine ⟨A', B', c3', c4', gA', fin_step g1.1 g2.1 (lo_cross BQ0) (lo_cross Qb0) F, ?_⟩
    rw [List.map_cons]
    unfold dFor
    rw [set4' h4]
    dsimp only
    rw [vlB_ap e1 e2]
    exact e
theorem lv_eq (n : Nat) : B_q_line_value n = dSeq (dAsg (dTup (vCons (dTup (vCons (dC (.int 0)) (vCons (dC (.int 1)) (vNil)))) (vCons (dTup (vCons (dC (.int 1)) (vCons (dC (.int 1)) (vNil)))) (vNil)))) (gTp 2 (gsCons (setV 2) (gsCons (setV 3) (gsNil))))) (dSeq (dForS (sTup (dVar 0)) (setV 4) vlB) (dRetV 2)) := rfl
theorem lvs0 {l : List Int} {r : D} : (dAsg (dTup (vCons (dTup (vCons (dC (.int 0)) (vCons (dC (.int 1)) (vNil)))) (vCons (dTup (vCons (dC (.int 1)) (vCons (dC (.int 1)) (vNil)))) (vNil)))) (gTp 2 (gsCons (setV 2) (gsCons (setV 3) (gsNil))))) [some (.val (pd l)), some (.val r), none, none, none] = .nx [some (.val (pd l)), some (.val r), some (.val (rt 0 1)), some (.val (rt 1 1)), none] := by
  simp [dC_ap, dVar_ap, oVar_ap, oD_ap, aNil_ap, aCons_ap, vNil_ap, vCons_ap, dBin_ap, dTst_ap, dUn_ap, dCal_ap, dSeq_ap, dNever_ap, dIf_ap, dRet_ap, dRetF_ap, dRetN_ap, dRetV_ap, dExpr_ap, dSet_ap, dSetF_ap, gsNil_ap, gsCons_ap, gTp_ap, dAsg_ap, sLst_ap, sTup_ap, sRng1_ap, sRng2_ap, dForS_ap, dTru_ap, dAnd_ap, dOr_ap, dNot_ap, dAndV_ap, dOrV_ap, dNotV_ap, dIte_ap, dChain_ap, dTup_ap, dLst_ap, dApp_ap, dSetI_ap, rNil_ap, rVal_ap, rIo_ap, dCal2_ap, dV_ap, dN_ap, tYesB_ap, dLc_ap, dIsi_ap, dPar_ap, dDic0_ap, dPar3_ap, DF.R.bind_ok, DF.R.bindS_ok, DF.R.bindN_ok, DF.SR.bind_nx, DF.SR.bind_ret, ofO, ths, setV, setF, free, set2, set3, fnRes, startE, startC, outs, argsD, putD, ioIx, isMu, look, muL, ltD_ap, leD_ap, gtD_ap, geD_ap, addD_ap, subD_ap, negD_ap, absD_ap, intD_ap, intD_apB, eq_int, ne_int, ixD, L2.atI, L2.ixN, lenD, gcdD, max2D, min2D]
theorem e_lvalue {l : List Int} {t b : Int} {X : Nat} (hX : X ≤ 10 ^ 60) (hlen : l.length ≤ 13) (hy : ∀ y ∈ l, y.natAbs ≤ X) (hr : Rt t b) : F_q_line_value [(false, pd l), (false, rt t b)] = .ret false (pval t b l) [] := by
  have b0 : b ≠ 0 := by have := hr.g.1; omega
  obtain ⟨A, B, c3, c4, g, F, e⟩ := vl_loop (c0 := some (.val (pd l))) hX hr l 0 0 1 1 1 none (.inl rfl) hlen ⟨by decide, rfl⟩ ⟨by decide, rfl⟩ (Nat.zero_le _) (by decide) (by decide) (by decide) hy
  have q : hT t b l * b * B = A * b ^ l.length := by
    have := F.eq
    grind
  obtain ⟨q1, q2⟩ := lo_unique (show b ^ l.length ≠ 0 from Int.pow_ne_zero b0) g q
  unfold F_q_line_value
  rw [lv_eq, show startE 5 [(false, pd l), (false, rt t b)] = [some (.val (pd l)), some (.val (rt t b)), none, none, none] from rfl, dSeq_ap, lvs0, SR.bind_nx, dSeq_ap, dForS_ap]
  simp only [sTup, dVar_ap, List.getElem?_cons_zero, DF.R.bind_ok, DF.R.bindS_ok]
  rw [e, SR.bind_nx]
  unfold pval
  rw [q1, q2]
  rfl
end K04

namespace K04
open PySem DF KM KP
def slE : DEnv → DF.R D := dV (dCal2 1 F_q_some_number (rIo 0 (rNil)))
theorem slE_ap {c1 c2 c3 : Option Cell} {d d' : D} {x : Int} (e : F_q_some_number [(true, d)] = .ret false (.int x) [d']) : slE [some (.mu true d), c1, c2, c3] = .ok [some (.mu true d'), c1, c2, c3] (.int x) := by
  simp [slE, dC_ap, dVar_ap, oVar_ap, oD_ap, aNil_ap, aCons_ap, vNil_ap, vCons_ap, dBin_ap, dTst_ap, dUn_ap, dCal_ap, dSeq_ap, dNever_ap, dIf_ap, dRet_ap, dRetF_ap, dRetN_ap, dRetV_ap, dExpr_ap, dSet_ap, dSetF_ap, gsNil_ap, gsCons_ap, gTp_ap, dAsg_ap, sLst_ap, sTup_ap, sRng1_ap, sRng2_ap, dForS_ap, dTru_ap, dAnd_ap, dOr_ap, dNot_ap, dAndV_ap, dOrV_ap, dNotV_ap, dIte_ap, dChain_ap, dTup_ap, dLst_ap, dApp_ap, dSetI_ap, rNil_ap, rVal_ap, rIo_ap, dCal2_ap, dV_ap, dN_ap, tYesB_ap, dLc_ap, dIsi_ap, dPar_ap, dDic0_ap, dPar3_ap, DF.R.bind_ok, DF.R.bindS_ok, DF.R.bindN_ok, DF.SR.bind_nx, DF.SR.bind_ret, ofO, ths, setV, setF, free, set2, set3, fnRes, startE, startC, outs, argsD, putD, ioIx, isMu, look, muL, ltD_ap, leD_ap, gtD_ap, geD_ap, addD_ap, subD_ap, negD_ap, absD_ap, intD_ap, intD_apB, eq_int, ne_int, ixD, L2.atI, L2.ixN, lenD, gcdD, max2D, min2D, e]
theorem sl_loop {c1 : Option Cell} : ∀ (its : List D) (acc : List Int) (n : Nat) (d : D), Bag n d → n + 2 * its.length ≤ 900000 → acc.length + its.length ≤ 1000 →
    ∃ (l : List Int) (d' : D), l.length = its.length ∧ (∀ x ∈ l, x.natAbs ≤ 10000000000000000000) ∧ Bag (n + 2 * its.length) d' ∧ dLcGo (setV 2) tYesB slE [2] its (acc.map D.int) [some (.mu true d), c1, none, none] = .ok [some (.mu true d'), c1, none, none] (ld (acc ++ l))
  | [], acc, n, d, h, _, _ => ⟨[], d, rfl, (fun x hx => by cases hx), h, by rw [List.append_nil]; rfl⟩
  | z :: its, acc, n, d, h, hn, hl => by
    rw [List.length_cons] at hn hl
    obtain ⟨x, d1, hx, h1, e1⟩ := e_number h (by omega)
    obtain ⟨l, d', g1, g2, g3, e⟩ := sl_loop (c1 := c1) its (acc ++ [x]) (n + 2) d1 h1 (by omega) (by rw [List.length_append, List.length_singleton]; omega)
    refine ⟨x :: l, d', by rw [List.length_cons, List.length_cons, g1], fun y hy => ?_, by rw [List.length_cons, show n + 2 * (its.length + 1) = n + 2 + 2 * its.length by omega]; exact g3, ?_⟩
    · rcases List.mem_cons.mp hy with rfl | hy
      · exact hx
      · exact g2 y hy
    · have hl : (acc.map D.int).length < 16000000 := by rw [List.length_map]; omega
      unfold dLcGo
      simp only [setV, free, List.getElem?_cons_zero, List.getElem?_cons_succ, if_true, List.set_cons_zero, List.set_cons_succ, tYesB, R.bindN_ok, slE_ap e1, noMu, wipeE, List.all_cons, List.all_nil, Bool.and_true, hl]
      rw [List.map_append, List.append_assoc] at e
      exact e
theorem rng1_ap' {f : DEnv → DF.R (List D)} {ρ ρ' : DEnv} {n : Nat} (hr : inR (n : Int) = true) (e : f ρ = .ok ρ' [.int (n : Int)]) : sRng1 f ρ = .ok ρ' (rng 0 n) := by
  rw [sRng1_ap, e, DF.R.bind_ok]
  dsimp only
  rw [if_pos hr, Int.toNat_natCast]
theorem sl_args {c2 c3 : Option Cell} {d d' : D} {m r : Int} (e : F_q_grab [(true, d), (false, .int (m + 1))] = .ret false (.int r) [d']) : vCons (dBin addD (oD (dC (.int 1))) (oD (dV (dCal2 2 F_q_grab (rIo 0 (rVal (dBin addD (oVar 1) (oD (dC (.int 1)))) (rNil))))))) (vNil) [some (.mu true d), some (.val (.int m)), c2, c3] = .ok [some (.mu true d'), some (.val (.int m)), c2, c3] [.int (1 + r)] := by
  simp [dC_ap, dVar_ap, oVar_ap, oD_ap, aNil_ap, aCons_ap, vNil_ap, vCons_ap, dBin_ap, dTst_ap, dUn_ap, dCal_ap, dSeq_ap, dNever_ap, dIf_ap, dRet_ap, dRetF_ap, dRetN_ap, dRetV_ap, dExpr_ap, dSet_ap, dSetF_ap, gsNil_ap, gsCons_ap, gTp_ap, dAsg_ap, sLst_ap, sTup_ap, sRng1_ap, sRng2_ap, dForS_ap, dTru_ap, dAnd_ap, dOr_ap, dNot_ap, dAndV_ap, dOrV_ap, dNotV_ap, dIte_ap, dChain_ap, dTup_ap, dLst_ap, dApp_ap, dSetI_ap, rNil_ap, rVal_ap, rIo_ap, dCal2_ap, dV_ap, dN_ap, tYesB_ap, dLc_ap, dIsi_ap, dPar_ap, dDic0_ap, dPar3_ap, DF.R.bind_ok, DF.R.bindS_ok, DF.R.bindN_ok, DF.SR.bind_nx, DF.SR.bind_ret, ofO, ths, setV, setF, free, set2, set3, fnRes, startE, startC, outs, argsD, putD, ioIx, isMu, look, muL, ltD_ap, leD_ap, gtD_ap, geD_ap, addD_ap, subD_ap, negD_ap, absD_ap, intD_ap, intD_apB, eq_int, ne_int, ixD, L2.atI, L2.ixN, lenD, gcdD, max2D, min2D, e]
theorem sl0_eq : (dSetF 3 (dLc (sRng1 (vCons (dBin addD (oD (dC (.int 1))) (oD (dV (dCal2 2 F_q_grab (rIo 0 (rVal (dBin addD (oVar 1) (oD (dC (.int 1)))) (rNil))))))) (vNil))) (setV 2) (tYesB) (dV (dCal2 1 F_q_some_number (rIo 0 (rNil)))) [2])) = dSetF 3 (dLc (sRng1 (vCons (dBin addD (oD (dC (.int 1))) (oD (dV (dCal2 2 F_q_grab (rIo 0 (rVal (dBin addD (oVar 1) (oD (dC (.int 1)))) (rNil))))))) (vNil))) (setV 2) tYesB slE [2]) := rfl
theorem sl0 {n : Nat} {d : D} {m : Int} (h : Bag n d) (hn : n ≤ 800000) (h0 : 0 ≤ m) (h1 : m ≤ 12) : ∃ (l : List Int) (d' : D), 0 < l.length ∧ (l.length : Int) ≤ m + 1 ∧ (∀ x ∈ l, x.natAbs ≤ 10000000000000000000) ∧ Bag (n + 27) d' ∧ (dSetF 3 (dLc (sRng1 (vCons (dBin addD (oD (dC (.int 1))) (oD (dV (dCal2 2 F_q_grab (rIo 0 (rVal (dBin addD (oVar 1) (oD (dC (.int 1)))) (rNil))))))) (vNil))) (setV 2) (tYesB) (dV (dCal2 1 F_q_some_number (rIo 0 (rNil)))) [2])) [some (.mu true d), some (.val (.int m)), none, none] = .nx [some (.mu true d'), some (.val (.int m)), none, some (.mu false (ld l))] := by
  obtain ⟨r, d1, hr0, hr1, hb1, e1⟩ := e_grab (t := m + 1) h (by omega) (by omega) (sm_of (by omega))
  obtain ⟨k, hk⟩ : ∃ k : Nat, (k : Int) = 1 + r := ⟨(1 + r).toNat, by omega⟩
  have a1 := sl_args (c2 := none) (c3 := none) e1
  rw [← hk] at a1
  have e2 := rng1_ap' (inR_nat (show k ≤ 1000 by omega)) a1
  obtain ⟨l, d', g1, g2, g3, e⟩ := sl_loop (c1 := some (.val (.int m))) (rng 0 k) [] (n + 1) d1 hb1 (by unfold rng; rw [List.length_map, List.length_range]; omega) (by unfold rng; rw [List.length_map, List.length_range]; simp; omega)
  have hlen : (rng 0 k).length = k := by unfold rng; rw [List.length_map, List.length_range]
  rw [hlen] at g1 g3
  refine ⟨l, d', by omega, by omega, g2, g3.mono (by omega), ?_⟩
  rw [List.nil_append] at e
  have e : dLcGo (setV 2) tYesB slE [2] (rng 0 k) [] [some (.mu true d1), some (.val (.int m)), none, none] = .ok [some (.mu true d'), some (.val (.int m)), none, none] (ld l) := e
  rw [sl0_eq, dSetF_ap, dLc_ap, e2, DF.R.bind_ok]
  simp only [noMu, List.all_cons, List.all_nil, List.getElem?_cons_zero, List.getElem?_cons_succ, Bool.and_true, if_true, wipeE, List.set_cons_zero, List.set_cons_succ, e, setF, free]
theorem sl1_eq (n : Nat) : dWhile (dAnd (dTst (dBin gtD (oD (dCal lenD (aCons (oVar 3) (aNil)))) (oD (dC (.int 1))))) (dTst (dBin eqD1 (oD (dBin ixD (oVar 3) (oD (dUn negD (oD (dC (.int 1))))))) (oD (dC (.int 0)))))) (dPop 3) n = dWhile (ppT 3) (dPop 3) n := rfl
theorem sl2 {c0 c1 c2 : Option Cell} {l : List Int} : (dRet (dCal tupD (aCons (oVar 3) (aNil)))) [c0, c1, c2, some (.mu false (ld l))] = .ret [c0, c1, c2, some (.mu false (ld l))] false (pd l) := by
  simp [dC_ap, dVar_ap, oVar_ap, oD_ap, aNil_ap, aCons_ap, vNil_ap, vCons_ap, dBin_ap, dTst_ap, dUn_ap, dCal_ap, dSeq_ap, dNever_ap, dIf_ap, dRet_ap, dRetF_ap, dRetN_ap, dRetV_ap, dExpr_ap, dSet_ap, dSetF_ap, gsNil_ap, gsCons_ap, gTp_ap, dAsg_ap, sLst_ap, sTup_ap, sRng1_ap, sRng2_ap, dForS_ap, dTru_ap, dAnd_ap, dOr_ap, dNot_ap, dAndV_ap, dOrV_ap, dNotV_ap, dIte_ap, dChain_ap, dTup_ap, dLst_ap, dApp_ap, dSetI_ap, rNil_ap, rVal_ap, rIo_ap, dCal2_ap, dV_ap, dN_ap, tYesB_ap, dLc_ap, dIsi_ap, dPar_ap, dDic0_ap, dPar3_ap, DF.R.bind_ok, DF.R.bindS_ok, DF.R.bindN_ok, DF.SR.bind_nx, DF.SR.bind_ret, ofO, ths, setV, setF, free, set2, set3, fnRes, startE, startC, outs, argsD, putD, ioIx, isMu, look, muL, ltD_ap, leD_ap, gtD_ap, geD_ap, addD_ap, subD_ap, negD_ap, absD_ap, intD_ap, intD_apB, eq_int, ne_int, ixD, L2.atI, L2.ixN, lenD, gcdD, max2D, min2D, tupD]
theorem trim_len (l : List Int) : (trim l).length ≤ l.length := by
  unfold trim
  rw [List.length_take]
  exact Nat.min_le_right _ _
theorem trim_mem {l : List Int} {x : Int} (h : x ∈ trim l) : x ∈ l := List.mem_of_mem_take h
theorem e_sline {n : Nat} {d : D} {m : Int} (h : Bag n d) (hn : n ≤ 800000) (h0 : 0 ≤ m) (h1 : m ≤ 12) : ∃ (l : List Int) (d' : D), Pol l ∧ (l.length : Int) ≤ m + 1 ∧ (∀ x ∈ l, x.natAbs ≤ 10000000000000000000) ∧ Bag (n + 27) d' ∧ F_q_some_line [(true, d), (false, .int m)] = .ret false (pd l) [d'] := by
  obtain ⟨l, d', hp, hl, hs, hb, e⟩ := sl0 h hn h0 h1
  have ht := trim_len l
  have hfu := fuel_ge [(true, d), (false, .int m)]
  refine ⟨trim l, d', trim_pol (List.length_pos_iff.mp hp), by omega, fun x hx => hs x (trim_mem hx), hb, ?_⟩
  unfold F_q_some_line B_q_some_line
  generalize fuel [(true, d), (false, .int m)] = fu at *
  have hpl := pop_loop 3 false fu l [some (.mu true d'), some (.val (.int m)), none, some (.mu false (ld l))] rfl (by omega)
  have hpl : dWhile (ppT 3) (dPop 3) fu [some (.mu true d'), some (.val (.int m)), none, some (.mu false (ld l))] = .nx [some (.mu true d'), some (.val (.int m)), none, some (.mu false (ld (trim l)))] := hpl
  rw [show startE 4 [(true, d), (false, .int m)] = [some (.mu true d), some (.val (.int m)), none, none] from rfl, dSeq_ap, e, SR.bind_nx, sl1_eq, dSeq_ap, hpl, SR.bind_nx, sl2]
  rfl
end K04

namespace K04
open PySem DF KM KP
theorem ne_pp (l : List Int) : neD1 (pd l) (pd l) = some (.bl false) := ne_same (plain_pd l)
theorem pr0 {d d1 d2 d3 a b c : D} (e1 : F_q_some_line [(true, d), (false, .int 12)] = .ret false a [d1]) (e2 : F_q_some_line [(true, d1), (false, .int 12)] = .ret false b [d2]) (e3 : F_q_some_line [(true, d2), (false, .int 5)] = .ret false c [d3]) :
    (dParX [1, 2, 3] (xVal (dV (dCal2 2 F_q_some_line (rIo 0 (rVal (dC (.int 12)) (rNil))))) (xVal (dV (dCal2 2 F_q_some_line (rIo 0 (rVal (dC (.int 12)) (rNil))))) (xVal (dV (dCal2 2 F_q_some_line (rIo 0 (rVal (dC (.int 5)) (rNil))))) (xNil))))) [some (.mu true d), none, none, none, none, none, none, none, none, none, none, none] = .nx [some (.mu true d3), some (.val a), some (.val b), some (.val c), none, none, none, none, none, none, none, none] := by
  simp [dParX, xVal, xNil, putA, dC_ap, dVar_ap, oVar_ap, oD_ap, aNil_ap, aCons_ap, vNil_ap, vCons_ap, dBin_ap, dTst_ap, dUn_ap, dCal_ap, dSeq_ap, dNever_ap, dIf_ap, dRet_ap, dRetF_ap, dRetN_ap, dRetV_ap, dExpr_ap, dSet_ap, dSetF_ap, gsNil_ap, gsCons_ap, gTp_ap, dAsg_ap, sLst_ap, sTup_ap, sRng1_ap, sRng2_ap, dForS_ap, dTru_ap, dAnd_ap, dOr_ap, dNot_ap, dAndV_ap, dOrV_ap, dNotV_ap, dIte_ap, dChain_ap, dTup_ap, dLst_ap, dApp_ap, dSetI_ap, rNil_ap, rVal_ap, rIo_ap, dCal2_ap, dV_ap, dN_ap, tYesB_ap, dLc_ap, dIsi_ap, dPar_ap, dDic0_ap, dPar3_ap, DF.R.bind_ok, DF.R.bindS_ok, DF.R.bindN_ok, DF.SR.bind_nx, DF.SR.bind_ret, ofO, ths, setV, setF, free, set2, set3, fnRes, startE, startC, outs, argsD, putD, ioIx, isMu, look, muL, ltD_ap, leD_ap, gtD_ap, geD_ap, addD_ap, subD_ap, negD_ap, absD_ap, intD_ap, intD_apB, eq_int, ne_int, ixD, L2.atI, L2.ixN, lenD, gcdD, max2D, min2D, e1, e2, e3]
theorem pr1 {c0 c3 c6 c7 c8 c9 c10 c11 : Option Cell} {l m p s : D} (e1 : F_polynomial_product [(false, l), (false, m)] = .ret false p []) (e2 : F_polynomial_sum [(false, l), (false, m)] = .ret false s []) :
    (dPar 4 5 (vCons (dV (dCal2 2 F_polynomial_product (rVal (dVar 1) (rVal (dVar 2) (rNil))))) (vCons (dV (dCal2 2 F_polynomial_sum (rVal (dVar 1) (rVal (dVar 2) (rNil))))) (vNil)))) [c0, some (.val l), some (.val m), c3, none, none, c6, c7, c8, c9, c10, c11] = .nx [c0, some (.val l), some (.val m), c3, some (.val p), some (.val s), c6, c7, c8, c9, c10, c11] := by
  simp [dC_ap, dVar_ap, oVar_ap, oD_ap, aNil_ap, aCons_ap, vNil_ap, vCons_ap, dBin_ap, dTst_ap, dUn_ap, dCal_ap, dSeq_ap, dNever_ap, dIf_ap, dRet_ap, dRetF_ap, dRetN_ap, dRetV_ap, dExpr_ap, dSet_ap, dSetF_ap, gsNil_ap, gsCons_ap, gTp_ap, dAsg_ap, sLst_ap, sTup_ap, sRng1_ap, sRng2_ap, dForS_ap, dTru_ap, dAnd_ap, dOr_ap, dNot_ap, dAndV_ap, dOrV_ap, dNotV_ap, dIte_ap, dChain_ap, dTup_ap, dLst_ap, dApp_ap, dSetI_ap, rNil_ap, rVal_ap, rIo_ap, dCal2_ap, dV_ap, dN_ap, tYesB_ap, dLc_ap, dIsi_ap, dPar_ap, dDic0_ap, dPar3_ap, DF.R.bind_ok, DF.R.bindS_ok, DF.R.bindN_ok, DF.SR.bind_nx, DF.SR.bind_ret, ofO, ths, setV, setF, free, set2, set3, fnRes, startE, startC, outs, argsD, putD, ioIx, isMu, look, muL, ltD_ap, leD_ap, gtD_ap, geD_ap, addD_ap, subD_ap, negD_ap, absD_ap, intD_ap, intD_apB, eq_int, ne_int, ixD, L2.atI, L2.ixN, lenD, gcdD, max2D, min2D, e1, e2]
theorem pr2 {c0 c3 c6 c7 c8 c9 c10 c11 : Option Cell} {l m : D} {p s : List Int} (e1 : F_q_line_times [(false, l), (false, m)] = .ret false (pd p) []) (e2 : F_q_line_sum [(false, l), (false, m)] = .ret false (pd s) []) (e3 : F_polynomial_product [(false, m), (false, l)] = .ret false (pd p) []) :
    (dIf (dOr (dTst (dBin neD1 (oVar 4) (oD (dV (dCal2 2 F_q_line_times (rVal (dVar 1) (rVal (dVar 2) (rNil)))))))) (dOr (dTst (dBin neD1 (oVar 5) (oD (dV (dCal2 2 F_q_line_sum (rVal (dVar 1) (rVal (dVar 2) (rNil)))))))) (dTst (dBin neD1 (oVar 4) (oD (dV (dCal2 2 F_polynomial_product (rVal (dVar 2) (rVal (dVar 1) (rNil)))))))))) (dRet (dC (.bl false))) (SR.nx)) [c0, some (.val l), some (.val m), c3, some (.val (pd p)), some (.val (pd s)), c6, c7, c8, c9, c10, c11] = .nx [c0, some (.val l), some (.val m), c3, some (.val (pd p)), some (.val (pd s)), c6, c7, c8, c9, c10, c11] := by
  have n1 := ne_pp p
  have n2 := ne_pp s
  simp [dC_ap, dVar_ap, oVar_ap, oD_ap, aNil_ap, aCons_ap, vNil_ap, vCons_ap, dBin_ap, dTst_ap, dUn_ap, dCal_ap, dSeq_ap, dNever_ap, dIf_ap, dRet_ap, dRetF_ap, dRetN_ap, dRetV_ap, dExpr_ap, dSet_ap, dSetF_ap, gsNil_ap, gsCons_ap, gTp_ap, dAsg_ap, sLst_ap, sTup_ap, sRng1_ap, sRng2_ap, dForS_ap, dTru_ap, dAnd_ap, dOr_ap, dNot_ap, dAndV_ap, dOrV_ap, dNotV_ap, dIte_ap, dChain_ap, dTup_ap, dLst_ap, dApp_ap, dSetI_ap, rNil_ap, rVal_ap, rIo_ap, dCal2_ap, dV_ap, dN_ap, tYesB_ap, dLc_ap, dIsi_ap, dPar_ap, dDic0_ap, dPar3_ap, DF.R.bind_ok, DF.R.bindS_ok, DF.R.bindN_ok, DF.SR.bind_nx, DF.SR.bind_ret, ofO, ths, setV, setF, free, set2, set3, fnRes, startE, startC, outs, argsD, putD, ioIx, isMu, look, muL, ltD_ap, leD_ap, gtD_ap, geD_ap, addD_ap, subD_ap, negD_ap, absD_ap, intD_ap, intD_apB, eq_int, ne_int, ixD, L2.atI, L2.ixN, lenD, gcdD, max2D, min2D, e1, e2, e3, n1, n2]
theorem pr3 {c0 c3 c4 c6 c7 c8 c9 c10 c11 : Option Cell} {m : D} {l s : List Int} (e1 : F_polynomial_sum [(false, m), (false, pd l)] = .ret false (pd s) []) (e2 : F_polynomial_product [(false, pd l), (false, pd [0])] = .ret false (pd [0]) []) (e3 : F_polynomial_sum [(false, pd l), (false, pd [0])] = .ret false (pd l) []) :
    (dIf (dOr (dTst (dBin neD1 (oVar 5) (oD (dV (dCal2 2 F_polynomial_sum (rVal (dVar 2) (rVal (dVar 1) (rNil)))))))) (dOr (dTst (dBin neD1 (oD (dV (dCal2 2 F_polynomial_product (rVal (dVar 1) (rVal (dTup (vCons (dC (.int 0)) (vNil))) (rNil)))))) (oD (dTup (vCons (dC (.int 0)) (vNil)))))) (dTst (dBin neD1 (oD (dV (dCal2 2 F_polynomial_sum (rVal (dVar 1) (rVal (dTup (vCons (dC (.int 0)) (vNil))) (rNil)))))) (oVar 1))))) (dRet (dC (.bl false))) (SR.nx)) [c0, some (.val (pd l)), some (.val m), c3, c4, some (.val (pd s)), c6, c7, c8, c9, c10, c11] = .nx [c0, some (.val (pd l)), some (.val m), c3, c4, some (.val (pd s)), c6, c7, c8, c9, c10, c11] := by
  have n1 := ne_pp s
  have n2 := ne_pp l
  have n3 : neD1 (.tup [.int 0]) (.tup [.int 0]) = some (.bl false) := ne_pp [0]
  have e2 : F_polynomial_product [(false, pd l), (false, .tup [.int 0])] = .ret false (.tup [.int 0]) [] := e2
  have e3 : F_polynomial_sum [(false, pd l), (false, .tup [.int 0])] = .ret false (pd l) [] := e3
  simp [dC_ap, dVar_ap, oVar_ap, oD_ap, aNil_ap, aCons_ap, vNil_ap, vCons_ap, dBin_ap, dTst_ap, dUn_ap, dCal_ap, dSeq_ap, dNever_ap, dIf_ap, dRet_ap, dRetF_ap, dRetN_ap, dRetV_ap, dExpr_ap, dSet_ap, dSetF_ap, gsNil_ap, gsCons_ap, gTp_ap, dAsg_ap, sLst_ap, sTup_ap, sRng1_ap, sRng2_ap, dForS_ap, dTru_ap, dAnd_ap, dOr_ap, dNot_ap, dAndV_ap, dOrV_ap, dNotV_ap, dIte_ap, dChain_ap, dTup_ap, dLst_ap, dApp_ap, dSetI_ap, rNil_ap, rVal_ap, rIo_ap, dCal2_ap, dV_ap, dN_ap, tYesB_ap, dLc_ap, dIsi_ap, dPar_ap, dDic0_ap, dPar3_ap, DF.R.bind_ok, DF.R.bindS_ok, DF.R.bindN_ok, DF.SR.bind_nx, DF.SR.bind_ret, ofO, ths, setV, setF, free, set2, set3, fnRes, startE, startC, outs, argsD, putD, ioIx, isMu, look, muL, ltD_ap, leD_ap, gtD_ap, geD_ap, addD_ap, subD_ap, negD_ap, absD_ap, intD_ap, intD_apB, eq_int, ne_int, ixD, L2.atI, L2.ixN, lenD, gcdD, max2D, min2D, e1, e2, e3, n1, n2, n3]
theorem pr4 {d d' p q r : D} {c1 c2 c3 c5 c7 c8 c9 c10 c11 : Option Cell} (e1 : F_q_some_line [(true, d), (false, .int 3)] = .ret false q [d']) (e2 : F_q_line_sum [(false, p), (false, q)] = .ret false r []) :
    (dSet 6 (dV (dCal2 2 F_q_line_sum (rVal (dVar 4) (rVal (dV (dCal2 2 F_q_some_line (rIo 0 (rVal (dC (.int 3)) (rNil))))) (rNil)))))) [some (.mu true d), c1, c2, c3, some (.val p), c5, none, c7, c8, c9, c10, c11] = .nx [some (.mu true d'), c1, c2, c3, some (.val p), c5, some (.val r), c7, c8, c9, c10, c11] := by
  simp [dC_ap, dVar_ap, oVar_ap, oD_ap, aNil_ap, aCons_ap, vNil_ap, vCons_ap, dBin_ap, dTst_ap, dUn_ap, dCal_ap, dSeq_ap, dNever_ap, dIf_ap, dRet_ap, dRetF_ap, dRetN_ap, dRetV_ap, dExpr_ap, dSet_ap, dSetF_ap, gsNil_ap, gsCons_ap, gTp_ap, dAsg_ap, sLst_ap, sTup_ap, sRng1_ap, sRng2_ap, dForS_ap, dTru_ap, dAnd_ap, dOr_ap, dNot_ap, dAndV_ap, dOrV_ap, dNotV_ap, dIte_ap, dChain_ap, dTup_ap, dLst_ap, dApp_ap, dSetI_ap, rNil_ap, rVal_ap, rIo_ap, dCal2_ap, dV_ap, dN_ap, tYesB_ap, dLc_ap, dIsi_ap, dPar_ap, dDic0_ap, dPar3_ap, DF.R.bind_ok, DF.R.bindS_ok, DF.R.bindN_ok, DF.SR.bind_nx, DF.SR.bind_ret, ofO, ths, setV, setF, free, set2, set3, fnRes, startE, startC, outs, argsD, putD, ioIx, isMu, look, muL, ltD_ap, leD_ap, gtD_ap, geD_ap, addD_ap, subD_ap, negD_ap, absD_ap, intD_ap, intD_apB, eq_int, ne_int, ixD, L2.atI, L2.ixN, lenD, gcdD, max2D, min2D, e1, e2]
theorem pr6 {d d1 d2 r : D} {a c : Int} {c1 c2 c3 c4 c5 c6 c7 c8 c10 c11 : Option Cell} (e1 : F_q_grab [(true, d), (false, .int 41)] = .ret false (.int a) [d1]) (e2 : F_q_grab [(true, d1), (false, .int 9)] = .ret false (.int c) [d2]) (e3 : F_q_lowest [(false, .int (a - 20)), (false, .int (1 + c))] = .ret false r []) :
    (dSet 9 (dV (dCal2 2 F_q_lowest (rVal (dBin subD (oD (dV (dCal2 2 F_q_grab (rIo 0 (rVal (dC (.int 41)) (rNil)))))) (oD (dC (.int 20)))) (rVal (dBin addD (oD (dC (.int 1))) (oD (dV (dCal2 2 F_q_grab (rIo 0 (rVal (dC (.int 9)) (rNil))))))) (rNil)))))) [some (.mu true d), c1, c2, c3, c4, c5, c6, c7, c8, none, c10, c11] = .nx [some (.mu true d2), c1, c2, c3, c4, c5, c6, c7, c8, some (.val r), c10, c11] := by
  simp [dC_ap, dVar_ap, oVar_ap, oD_ap, aNil_ap, aCons_ap, vNil_ap, vCons_ap, dBin_ap, dTst_ap, dUn_ap, dCal_ap, dSeq_ap, dNever_ap, dIf_ap, dRet_ap, dRetF_ap, dRetN_ap, dRetV_ap, dExpr_ap, dSet_ap, dSetF_ap, gsNil_ap, gsCons_ap, gTp_ap, dAsg_ap, sLst_ap, sTup_ap, sRng1_ap, sRng2_ap, dForS_ap, dTru_ap, dAnd_ap, dOr_ap, dNot_ap, dAndV_ap, dOrV_ap, dNotV_ap, dIte_ap, dChain_ap, dTup_ap, dLst_ap, dApp_ap, dSetI_ap, rNil_ap, rVal_ap, rIo_ap, dCal2_ap, dV_ap, dN_ap, tYesB_ap, dLc_ap, dIsi_ap, dPar_ap, dDic0_ap, dPar3_ap, DF.R.bind_ok, DF.R.bindS_ok, DF.R.bindN_ok, DF.SR.bind_nx, DF.SR.bind_ret, ofO, ths, setV, setF, free, set2, set3, fnRes, startE, startC, outs, argsD, putD, ioIx, isMu, look, muL, ltD_ap, leD_ap, gtD_ap, geD_ap, addD_ap, subD_ap, negD_ap, absD_ap, intD_ap, intD_apB, eq_int, ne_int, ixD, L2.atI, L2.ixN, lenD, gcdD, max2D, min2D, e1, e2, e3]
theorem pr7 {c0 c3 c4 c5 c6 c7 c8 : Option Cell} {l m r h g : D} (e1 : F_polynomial_value [(false, l), (false, r)] = .ret false h []) (e2 : F_polynomial_value [(false, m), (false, r)] = .ret false g []) :
    (dPar 10 11 (vCons (dV (dCal2 2 F_polynomial_value (rVal (dVar 1) (rVal (dVar 9) (rNil))))) (vCons (dV (dCal2 2 F_polynomial_value (rVal (dVar 2) (rVal (dVar 9) (rNil))))) (vNil)))) [c0, some (.val l), some (.val m), c3, c4, c5, c6, c7, c8, some (.val r), none, none] = .nx [c0, some (.val l), some (.val m), c3, c4, c5, c6, c7, c8, some (.val r), some (.val h), some (.val g)] := by
  simp [dC_ap, dVar_ap, oVar_ap, oD_ap, aNil_ap, aCons_ap, vNil_ap, vCons_ap, dBin_ap, dTst_ap, dUn_ap, dCal_ap, dSeq_ap, dNever_ap, dIf_ap, dRet_ap, dRetF_ap, dRetN_ap, dRetV_ap, dExpr_ap, dSet_ap, dSetF_ap, gsNil_ap, gsCons_ap, gTp_ap, dAsg_ap, sLst_ap, sTup_ap, sRng1_ap, sRng2_ap, dForS_ap, dTru_ap, dAnd_ap, dOr_ap, dNot_ap, dAndV_ap, dOrV_ap, dNotV_ap, dIte_ap, dChain_ap, dTup_ap, dLst_ap, dApp_ap, dSetI_ap, rNil_ap, rVal_ap, rIo_ap, dCal2_ap, dV_ap, dN_ap, tYesB_ap, dLc_ap, dIsi_ap, dPar_ap, dDic0_ap, dPar3_ap, DF.R.bind_ok, DF.R.bindS_ok, DF.R.bindN_ok, DF.SR.bind_nx, DF.SR.bind_ret, ofO, ths, setV, setF, free, set2, set3, fnRes, startE, startC, outs, argsD, putD, ioIx, isMu, look, muL, ltD_ap, leD_ap, gtD_ap, geD_ap, addD_ap, subD_ap, negD_ap, absD_ap, intD_ap, intD_apB, eq_int, ne_int, ixD, L2.atI, L2.ixN, lenD, gcdD, max2D, min2D, e1, e2]
theorem ne_rt (a b : Int) : neD1 (rt a b) (rt a b) = some (.bl false) := ne_same rfl
theorem pr8 {c0 c3 c4 c5 c6 c7 c8 : Option Cell} {l m r h g : D} (n1 : neD1 h h = some (.bl false)) (n2 : neD1 g g = some (.bl false)) (e1 : F_q_line_value [(false, l), (false, r)] = .ret false h []) (e2 : F_q_line_value [(false, m), (false, r)] = .ret false g []) :
    (dIf (dOr (dTst (dBin neD1 (oVar 10) (oD (dV (dCal2 2 F_q_line_value (rVal (dVar 1) (rVal (dVar 9) (rNil)))))))) (dTst (dBin neD1 (oVar 11) (oD (dV (dCal2 2 F_q_line_value (rVal (dVar 2) (rVal (dVar 9) (rNil))))))))) (dRet (dC (.bl false))) (SR.nx)) [c0, some (.val l), some (.val m), c3, c4, c5, c6, c7, c8, some (.val r), some (.val h), some (.val g)] = .nx [c0, some (.val l), some (.val m), c3, c4, c5, c6, c7, c8, some (.val r), some (.val h), some (.val g)] := by
  simp [dC_ap, dVar_ap, oVar_ap, oD_ap, aNil_ap, aCons_ap, vNil_ap, vCons_ap, dBin_ap, dTst_ap, dUn_ap, dCal_ap, dSeq_ap, dNever_ap, dIf_ap, dRet_ap, dRetF_ap, dRetN_ap, dRetV_ap, dExpr_ap, dSet_ap, dSetF_ap, gsNil_ap, gsCons_ap, gTp_ap, dAsg_ap, sLst_ap, sTup_ap, sRng1_ap, sRng2_ap, dForS_ap, dTru_ap, dAnd_ap, dOr_ap, dNot_ap, dAndV_ap, dOrV_ap, dNotV_ap, dIte_ap, dChain_ap, dTup_ap, dLst_ap, dApp_ap, dSetI_ap, rNil_ap, rVal_ap, rIo_ap, dCal2_ap, dV_ap, dN_ap, tYesB_ap, dLc_ap, dIsi_ap, dPar_ap, dDic0_ap, dPar3_ap, DF.R.bind_ok, DF.R.bindS_ok, DF.R.bindN_ok, DF.SR.bind_nx, DF.SR.bind_ret, ofO, ths, setV, setF, free, set2, set3, fnRes, startE, startC, outs, argsD, putD, ioIx, isMu, look, muL, ltD_ap, leD_ap, gtD_ap, geD_ap, addD_ap, subD_ap, negD_ap, absD_ap, intD_ap, intD_apB, eq_int, ne_int, ixD, L2.atI, L2.ixN, lenD, gcdD, max2D, min2D, e1, e2, n1, n2]
theorem pr9 {c0 c1 c2 c3 c5 c6 c7 c8 : Option Cell} {p r h g v : D} (n1 : neD1 v v = some (.bl false)) (e1 : F_polynomial_value [(false, p), (false, r)] = .ret false v []) (e2 : F_q_ratio_times [(false, h), (false, g)] = .ret false v []) :
    (dIf (dTst (dBin neD1 (oD (dV (dCal2 2 F_polynomial_value (rVal (dVar 4) (rVal (dVar 9) (rNil)))))) (oD (dV (dCal2 2 F_q_ratio_times (rVal (dVar 10) (rVal (dVar 11) (rNil)))))))) (dRet (dC (.bl false))) (SR.nx)) [c0, c1, c2, c3, some (.val p), c5, c6, c7, c8, some (.val r), some (.val h), some (.val g)] = .nx [c0, c1, c2, c3, some (.val p), c5, c6, c7, c8, some (.val r), some (.val h), some (.val g)] := by
  simp [dC_ap, dVar_ap, oVar_ap, oD_ap, aNil_ap, aCons_ap, vNil_ap, vCons_ap, dBin_ap, dTst_ap, dUn_ap, dCal_ap, dSeq_ap, dNever_ap, dIf_ap, dRet_ap, dRetF_ap, dRetN_ap, dRetV_ap, dExpr_ap, dSet_ap, dSetF_ap, gsNil_ap, gsCons_ap, gTp_ap, dAsg_ap, sLst_ap, sTup_ap, sRng1_ap, sRng2_ap, dForS_ap, dTru_ap, dAnd_ap, dOr_ap, dNot_ap, dAndV_ap, dOrV_ap, dNotV_ap, dIte_ap, dChain_ap, dTup_ap, dLst_ap, dApp_ap, dSetI_ap, rNil_ap, rVal_ap, rIo_ap, dCal2_ap, dV_ap, dN_ap, tYesB_ap, dLc_ap, dIsi_ap, dPar_ap, dDic0_ap, dPar3_ap, DF.R.bind_ok, DF.R.bindS_ok, DF.R.bindN_ok, DF.SR.bind_nx, DF.SR.bind_ret, ofO, ths, setV, setF, free, set2, set3, fnRes, startE, startC, outs, argsD, putD, ioIx, isMu, look, muL, ltD_ap, leD_ap, gtD_ap, geD_ap, addD_ap, subD_ap, negD_ap, absD_ap, intD_ap, intD_apB, eq_int, ne_int, ixD, L2.atI, L2.ixN, lenD, gcdD, max2D, min2D, e1, e2, n1]
theorem pr10 {c0 c1 c2 c3 c4 c6 c7 c8 : Option Cell} {p r h g v : D} (n1 : eqD1 v v = some (.bl true)) (e1 : F_polynomial_value [(false, p), (false, r)] = .ret false v []) (e2 : F_q_ratio_sum [(false, h), (false, g), (false, .int 1)] = .ret false v []) :
    (dRet (dBin eqD1 (oD (dV (dCal2 2 F_polynomial_value (rVal (dVar 5) (rVal (dVar 9) (rNil)))))) (oD (dV (dCal2 3 F_q_ratio_sum (rVal (dVar 10) (rVal (dVar 11) (rVal (dC (.int 1)) (rNil))))))))) [c0, c1, c2, c3, c4, some (.val p), c6, c7, c8, some (.val r), some (.val h), some (.val g)] = .ret [c0, c1, c2, c3, c4, some (.val p), c6, c7, c8, some (.val r), some (.val h), some (.val g)] false (.bl true) := by
  simp [dC_ap, dVar_ap, oVar_ap, oD_ap, aNil_ap, aCons_ap, vNil_ap, vCons_ap, dBin_ap, dTst_ap, dUn_ap, dCal_ap, dSeq_ap, dNever_ap, dIf_ap, dRet_ap, dRetF_ap, dRetN_ap, dRetV_ap, dExpr_ap, dSet_ap, dSetF_ap, gsNil_ap, gsCons_ap, gTp_ap, dAsg_ap, sLst_ap, sTup_ap, sRng1_ap, sRng2_ap, dForS_ap, dTru_ap, dAnd_ap, dOr_ap, dNot_ap, dAndV_ap, dOrV_ap, dNotV_ap, dIte_ap, dChain_ap, dTup_ap, dLst_ap, dApp_ap, dSetI_ap, rNil_ap, rVal_ap, rIo_ap, dCal2_ap, dV_ap, dN_ap, tYesB_ap, dLc_ap, dIsi_ap, dPar_ap, dDic0_ap, dPar3_ap, DF.R.bind_ok, DF.R.bindS_ok, DF.R.bindN_ok, DF.SR.bind_nx, DF.SR.bind_ret, ofO, ths, setV, setF, free, set2, set3, fnRes, startE, startC, outs, argsD, putD, ioIx, isMu, look, muL, ltD_ap, leD_ap, gtD_ap, geD_ap, addD_ap, subD_ap, negD_ap, absD_ap, intD_ap, intD_apB, eq_int, ne_int, ixD, L2.atI, L2.ixN, lenD, gcdD, max2D, min2D, e1, e2, n1]
theorem ne_pval (t b : Int) (l : List Int) : neD1 (pval t b l) (pval t b l) = some (.bl false) := ne_rt _ _
theorem eq_pval (t b : Int) (l : List Int) : eqD1 (pval t b l) (pval t b l) = some (.bl true) := eq_same rfl
end K04

namespace K04
open PySem DF KM KP
/-- both divide alike -/
def Ag (v w : List Int) : Prop := w = [0] ∨ ∃ x, F_polynomial_quotient [(false, pd v), (false, pd w)] = .ret false x [] ∧ F_q_line_over [(false, pd v), (false, pd w)] = .ret false x [] ∧ neD1 x x = some (.bl false)
def qB : DEnv → SR := dIf (dAnd (dTst (dBin neD1 (oVar 8) (oD (dTup (vCons (dC (.int 0)) (vNil)))))) (dTst (dBin neD1 (oD (dV (dCal2 2 F_polynomial_quotient (rVal (dVar 7) (rVal (dVar 8) (rNil)))))) (oD (dV (dCal2 2 F_q_line_over (rVal (dVar 7) (rVal (dVar 8) (rNil))))))))) (dRet (dC (.bl false))) (SR.nx)
theorem qB_ap {c0 c1 c2 c3 c4 c5 c6 c9 c10 c11 : Option Cell} {v w : List Int} (h : Ag v w) : qB [c0, c1, c2, c3, c4, c5, c6, some (.val (pd v)), some (.val (pd w)), c9, c10, c11] = .nx [c0, c1, c2, c3, c4, c5, c6, some (.val (pd v)), some (.val (pd w)), c9, c10, c11] := by
  have q : neD1 (pd w) (.tup [.int 0]) = some (.bl (!decide (w = [0]))) := ne_pd w [0]
  by_cases hw : w = [0]
  · rw [decide_eq_true hw] at q
    simp [qB, dC_ap, dVar_ap, oVar_ap, oD_ap, aNil_ap, aCons_ap, vNil_ap, vCons_ap, dBin_ap, dTst_ap, dUn_ap, dCal_ap, dSeq_ap, dNever_ap, dIf_ap, dRet_ap, dRetF_ap, dRetN_ap, dRetV_ap, dExpr_ap, dSet_ap, dSetF_ap, gsNil_ap, gsCons_ap, gTp_ap, dAsg_ap, sLst_ap, sTup_ap, sRng1_ap, sRng2_ap, dForS_ap, dTru_ap, dAnd_ap, dOr_ap, dNot_ap, dAndV_ap, dOrV_ap, dNotV_ap, dIte_ap, dChain_ap, dTup_ap, dLst_ap, dApp_ap, dSetI_ap, rNil_ap, rVal_ap, rIo_ap, dCal2_ap, dV_ap, dN_ap, tYesB_ap, dLc_ap, dIsi_ap, dPar_ap, dDic0_ap, dPar3_ap, DF.R.bind_ok, DF.R.bindS_ok, DF.R.bindN_ok, DF.SR.bind_nx, DF.SR.bind_ret, ofO, ths, setV, setF, free, set2, set3, fnRes, startE, startC, outs, argsD, putD, ioIx, isMu, look, muL, ltD_ap, leD_ap, gtD_ap, geD_ap, addD_ap, subD_ap, negD_ap, absD_ap, intD_ap, intD_apB, eq_int, ne_int, ixD, L2.atI, L2.ixN, lenD, gcdD, max2D, min2D, q]
  · rcases h with h | ⟨x, e1, e2, e3⟩
    · exact absurd h hw
    · rw [decide_eq_false hw] at q
      simp [qB, dC_ap, dVar_ap, oVar_ap, oD_ap, aNil_ap, aCons_ap, vNil_ap, vCons_ap, dBin_ap, dTst_ap, dUn_ap, dCal_ap, dSeq_ap, dNever_ap, dIf_ap, dRet_ap, dRetF_ap, dRetN_ap, dRetV_ap, dExpr_ap, dSet_ap, dSetF_ap, gsNil_ap, gsCons_ap, gTp_ap, dAsg_ap, sLst_ap, sTup_ap, sRng1_ap, sRng2_ap, dForS_ap, dTru_ap, dAnd_ap, dOr_ap, dNot_ap, dAndV_ap, dOrV_ap, dNotV_ap, dIte_ap, dChain_ap, dTup_ap, dLst_ap, dApp_ap, dSetI_ap, rNil_ap, rVal_ap, rIo_ap, dCal2_ap, dV_ap, dN_ap, tYesB_ap, dLc_ap, dIsi_ap, dPar_ap, dDic0_ap, dPar3_ap, DF.R.bind_ok, DF.R.bindS_ok, DF.R.bindN_ok, DF.SR.bind_nx, DF.SR.bind_ret, ofO, ths, setV, setF, free, set2, set3, fnRes, startE, startC, outs, argsD, putD, ioIx, isMu, look, muL, ltD_ap, leD_ap, gtD_ap, geD_ap, addD_ap, subD_ap, negD_ap, absD_ap, intD_ap, intD_apB, eq_int, ne_int, ixD, L2.atI, L2.ixN, lenD, gcdD, max2D, min2D, q, e1, e2, e3]
theorem set8 {c0 c1 c2 c3 c4 c5 c6 c7 c8 c9 c10 c11 : Option Cell} {d : D} (h : Vc c8) : setV 8 d [c0, c1, c2, c3, c4, c5, c6, c7, c8, c9, c10, c11] = some [c0, c1, c2, c3, c4, c5, c6, c7, some (.val d), c9, c10, c11] := by
  rcases h with rfl | ⟨d8, rfl⟩ <;> simp [setV, free]
theorem set7 {c0 c1 c2 c3 c4 c5 c6 c7 c8 c9 c10 c11 : Option Cell} {d : D} (h : Vc c7) : setV 7 d [c0, c1, c2, c3, c4, c5, c6, c7, c8, c9, c10, c11] = some [c0, c1, c2, c3, c4, c5, c6, some (.val d), c8, c9, c10, c11] := by
  rcases h with rfl | ⟨d7, rfl⟩ <;> simp [setV, free]
theorem q_in {c0 c1 c2 c3 c4 c5 c6 c9 c10 c11 : Option Cell} {v : List Int} : ∀ (ws : List (List Int)) (c8 : Option Cell), Vc c8 → (∀ w ∈ ws, Ag v w) → ∃ c8', Vc c8' ∧ dFor (setV 8) qB (ws.map pd) [c0, c1, c2, c3, c4, c5, c6, some (.val (pd v)), c8, c9, c10, c11] = .nx [c0, c1, c2, c3, c4, c5, c6, some (.val (pd v)), c8', c9, c10, c11]
  | [], c8, h8, _ => ⟨c8, h8, rfl⟩
  | w :: ws, c8, h8, h => by
    obtain ⟨c8', g8, e⟩ := q_in (c0 := c0) (c1 := c1) (c2 := c2) (c3 := c3) (c4 := c4) (c5 := c5) (c6 := c6) (c9 := c9) (c10 := c10) (c11 := c11) (v := v) ws (some (.val (pd w))) (.inr ⟨_, rfl⟩) fun u hu => h u (List.mem_cons_of_mem _ hu)
    refine ⟨c8', g8, ?_⟩
    rw [List.map_cons]
    unfold dFor
    rw [set8 h8]
    dsimp only
    rw [qB_ap (h w List.mem_cons_self)]
    exact e
def qO : DEnv → SR := dForS (sTup (dTup (vCons (dVar 1) (vCons (dVar 2) (vCons (dVar 3) (vCons (dTup (vCons (dC (.int 1)) (vNil))) (vCons (dTup (vCons (dUn negD (oD (dC (.int 1)))) (vNil))) (vCons (dTup (vCons (dC (.int 2)) (vNil))) (vNil))))))))) (setV 8) qB
theorem q_ds {c0 c4 c5 c6 c7 c8 c9 c10 c11 : Option Cell} {l m r : List Int} : sTup (dTup (vCons (dVar 1) (vCons (dVar 2) (vCons (dVar 3) (vCons (dTup (vCons (dC (.int 1)) (vNil))) (vCons (dTup (vCons (dUn negD (oD (dC (.int 1)))) (vNil))) (vCons (dTup (vCons (dC (.int 2)) (vNil))) (vNil)))))))) [c0, some (.val (pd l)), some (.val (pd m)), some (.val (pd r)), c4, c5, c6, c7, c8, c9, c10, c11] = .ok [c0, some (.val (pd l)), some (.val (pd m)), some (.val (pd r)), c4, c5, c6, c7, c8, c9, c10, c11] ([l, m, r, [1], [-1], [2]].map pd) := by
  simp [sTup, dC_ap, dVar_ap, oVar_ap, oD_ap, aNil_ap, aCons_ap, vNil_ap, vCons_ap, dBin_ap, dTst_ap, dUn_ap, dCal_ap, dSeq_ap, dNever_ap, dIf_ap, dRet_ap, dRetF_ap, dRetN_ap, dRetV_ap, dExpr_ap, dSet_ap, dSetF_ap, gsNil_ap, gsCons_ap, gTp_ap, dAsg_ap, sLst_ap, sTup_ap, sRng1_ap, sRng2_ap, dForS_ap, dTru_ap, dAnd_ap, dOr_ap, dNot_ap, dAndV_ap, dOrV_ap, dNotV_ap, dIte_ap, dChain_ap, dTup_ap, dLst_ap, dApp_ap, dSetI_ap, rNil_ap, rVal_ap, rIo_ap, dCal2_ap, dV_ap, dN_ap, tYesB_ap, dLc_ap, dIsi_ap, dPar_ap, dDic0_ap, dPar3_ap, DF.R.bind_ok, DF.R.bindS_ok, DF.R.bindN_ok, DF.SR.bind_nx, DF.SR.bind_ret, ofO, ths, setV, setF, free, set2, set3, fnRes, startE, startC, outs, argsD, putD, ioIx, isMu, look, muL, ltD_ap, leD_ap, gtD_ap, geD_ap, addD_ap, subD_ap, negD_ap, absD_ap, intD_ap, intD_apB, eq_int, ne_int, ixD, L2.atI, L2.ixN, lenD, gcdD, max2D, min2D]
theorem qO_ap {c0 c4 c5 c6 c8 c9 c10 c11 : Option Cell} {l m r v : List Int} (h8 : Vc c8) (h : ∀ w ∈ [l, m, r, [1], [-1], [2]], Ag v w) : ∃ c8', Vc c8' ∧ qO [c0, some (.val (pd l)), some (.val (pd m)), some (.val (pd r)), c4, c5, c6, some (.val (pd v)), c8, c9, c10, c11] = .nx [c0, some (.val (pd l)), some (.val (pd m)), some (.val (pd r)), c4, c5, c6, some (.val (pd v)), c8', c9, c10, c11] := by
  obtain ⟨c8', g8, e⟩ := q_in (c0 := c0) (c1 := some (.val (pd l))) (c2 := some (.val (pd m))) (c3 := some (.val (pd r))) (c4 := c4) (c5 := c5) (c6 := c6) (c9 := c9) (c10 := c10) (c11 := c11) (v := v) [l, m, r, [1], [-1], [2]] c8 h8 h
  refine ⟨c8', g8, ?_⟩
  unfold qO
  rw [dForS_ap, q_ds, DF.R.bindS_ok]
  exact e
theorem q_out {c0 c4 c5 c6 c9 c10 c11 : Option Cell} {l m r : List Int} : ∀ (vs : List (List Int)) (c7 c8 : Option Cell), Vc c7 → Vc c8 → (∀ v ∈ vs, ∀ w ∈ [l, m, r, [1], [-1], [2]], Ag v w) → ∃ c7' c8', dFor (setV 7) qO (vs.map pd) [c0, some (.val (pd l)), some (.val (pd m)), some (.val (pd r)), c4, c5, c6, c7, c8, c9, c10, c11] = .nx [c0, some (.val (pd l)), some (.val (pd m)), some (.val (pd r)), c4, c5, c6, c7', c8', c9, c10, c11]
  | [], c7, c8, _, _, _ => ⟨c7, c8, rfl⟩
  | v :: vs, c7, c8, h7, h8, h => by
    obtain ⟨c8', g8, e1⟩ := qO_ap (c0 := c0) (c4 := c4) (c5 := c5) (c6 := c6) (c9 := c9) (c10 := c10) (c11 := c11) (v := v) h8 (h v List.mem_cons_self)
    obtain ⟨k7, k8, e⟩ := q_out (c0 := c0) (c4 := c4) (c5 := c5) (c6 := c6) (c9 := c9) (c10 := c10) (c11 := c11) (l := l) (m := m) (r := r) vs (some (.val (pd v))) c8' (.inr ⟨_, rfl⟩) g8 fun u hu => h u (List.mem_cons_of_mem _ hu)
    refine ⟨k7, k8, ?_⟩
    rw [List.map_cons]
    unfold dFor
    rw [set7 h7]
    dsimp only
    rw [e1]
    exact e
theorem pr5_eq : (dForS (sTup (dTup (vCons (dVar 4) (vCons (dVar 6) (vCons (dVar 1) (vCons (dVar 3) (vNil))))))) (setV 7) (dForS (sTup (dTup (vCons (dVar 1) (vCons (dVar 2) (vCons (dVar 3) (vCons (dTup (vCons (dC (.int 1)) (vNil))) (vCons (dTup (vCons (dUn negD (oD (dC (.int 1)))) (vNil))) (vCons (dTup (vCons (dC (.int 2)) (vNil))) (vNil))))))))) (setV 8) (dIf (dAnd (dTst (dBin neD1 (oVar 8) (oD (dTup (vCons (dC (.int 0)) (vNil)))))) (dTst (dBin neD1 (oD (dV (dCal2 2 F_polynomial_quotient (rVal (dVar 7) (rVal (dVar 8) (rNil)))))) (oD (dV (dCal2 2 F_q_line_over (rVal (dVar 7) (rVal (dVar 8) (rNil))))))))) (dRet (dC (.bl false))) (SR.nx)))) = dForS (sTup (dTup (vCons (dVar 4) (vCons (dVar 6) (vCons (dVar 1) (vCons (dVar 3) (vNil))))))) (setV 7) qO := rfl
theorem q_vs {c0 c2 c5 c7 c8 c9 c10 c11 : Option Cell} {l r p s : List Int} : sTup (dTup (vCons (dVar 4) (vCons (dVar 6) (vCons (dVar 1) (vCons (dVar 3) (vNil)))))) [c0, some (.val (pd l)), c2, some (.val (pd r)), some (.val (pd p)), c5, some (.val (pd s)), c7, c8, c9, c10, c11] = .ok [c0, some (.val (pd l)), c2, some (.val (pd r)), some (.val (pd p)), c5, some (.val (pd s)), c7, c8, c9, c10, c11] ([p, s, l, r].map pd) := by
  simp [sTup, dC_ap, dVar_ap, oVar_ap, oD_ap, aNil_ap, aCons_ap, vNil_ap, vCons_ap, dBin_ap, dTst_ap, dUn_ap, dCal_ap, dSeq_ap, dNever_ap, dIf_ap, dRet_ap, dRetF_ap, dRetN_ap, dRetV_ap, dExpr_ap, dSet_ap, dSetF_ap, gsNil_ap, gsCons_ap, gTp_ap, dAsg_ap, sLst_ap, sTup_ap, sRng1_ap, sRng2_ap, dForS_ap, dTru_ap, dAnd_ap, dOr_ap, dNot_ap, dAndV_ap, dOrV_ap, dNotV_ap, dIte_ap, dChain_ap, dTup_ap, dLst_ap, dApp_ap, dSetI_ap, rNil_ap, rVal_ap, rIo_ap, dCal2_ap, dV_ap, dN_ap, tYesB_ap, dLc_ap, dIsi_ap, dPar_ap, dDic0_ap, dPar3_ap, DF.R.bind_ok, DF.R.bindS_ok, DF.R.bindN_ok, DF.SR.bind_nx, DF.SR.bind_ret, ofO, ths, setV, setF, free, set2, set3, fnRes, startE, startC, outs, argsD, putD, ioIx, isMu, look, muL, ltD_ap, leD_ap, gtD_ap, geD_ap, addD_ap, subD_ap, negD_ap, absD_ap, intD_ap, intD_apB, eq_int, ne_int, ixD, L2.atI, L2.ixN, lenD, gcdD, max2D, min2D]
theorem pr5 {c0 c5 c9 c10 c11 : Option Cell} {l m r p s : List Int} (h : ∀ v ∈ [p, s, l, r], ∀ w ∈ [l, m, r, [1], [-1], [2]], Ag v w) : ∃ c7' c8', (dForS (sTup (dTup (vCons (dVar 4) (vCons (dVar 6) (vCons (dVar 1) (vCons (dVar 3) (vNil))))))) (setV 7) (dForS (sTup (dTup (vCons (dVar 1) (vCons (dVar 2) (vCons (dVar 3) (vCons (dTup (vCons (dC (.int 1)) (vNil))) (vCons (dTup (vCons (dUn negD (oD (dC (.int 1)))) (vNil))) (vCons (dTup (vCons (dC (.int 2)) (vNil))) (vNil))))))))) (setV 8) (dIf (dAnd (dTst (dBin neD1 (oVar 8) (oD (dTup (vCons (dC (.int 0)) (vNil)))))) (dTst (dBin neD1 (oD (dV (dCal2 2 F_polynomial_quotient (rVal (dVar 7) (rVal (dVar 8) (rNil)))))) (oD (dV (dCal2 2 F_q_line_over (rVal (dVar 7) (rVal (dVar 8) (rNil))))))))) (dRet (dC (.bl false))) (SR.nx)))) [c0, some (.val (pd l)), some (.val (pd m)), some (.val (pd r)), some (.val (pd p)), c5, some (.val (pd s)), none, none, c9, c10, c11] = .nx [c0, some (.val (pd l)), some (.val (pd m)), some (.val (pd r)), some (.val (pd p)), c5, some (.val (pd s)), c7', c8', c9, c10, c11] := by
  obtain ⟨c7', c8', e⟩ := q_out (c0 := c0) (c4 := some (.val (pd p))) (c5 := c5) (c6 := some (.val (pd s))) (c9 := c9) (c10 := c10) (c11 := c11) (l := l) (m := m) (r := r) [p, s, l, r] none none (.inl rfl) (.inl rfl) h
  refine ⟨c7', c8', ?_⟩
  rw [pr5_eq, dForS_ap, q_vs, DF.R.bindS_ok]
  exact e
theorem ne_quo (l m : List Int) : neD1 (quo l m) (quo l m) = some (.bl false) := by
  refine ne_same ?_
  unfold quo
  split
  · split
    · exact plain_pd _
    · rfl
  · split
    · rfl
    · exact plain_pd _
theorem div_room {v w : List Int} {X : Nat} (hX : X ≤ 10 ^ 45) (hv : v.length ≤ 26) : X * (10000000000000000000 + 1) ^ (v.length - w.length + 1) ≤ 10 ^ 700 := by
  have h1 : (10000000000000000000 + 1) ^ (v.length - w.length + 1) ≤ (10000000000000000000 + 1) ^ 27 := Nat.pow_le_pow_right (by decide) (by omega)
  exact Nat.le_trans (Nat.mul_le_mul hX h1) (by decide)
theorem ag_of {v w : List Int} {X : Nat} (hX : X ≤ 10 ^ 45) (pv : Pol v) (hv : v.length ≤ 26) (bv : ∀ x ∈ v, x.natAbs ≤ X) (pw : Pol w) (hw : w.length ≤ 41) (bw : ∀ x ∈ w, x.natAbs ≤ 10000000000000000000) : Ag v w := by
  by_cases h : w = [0]
  · exact .inl h
  · have lv : Pl v := ⟨pv, by omega, fun x hx => Nat.le_trans (Nat.le_trans (bv x hx) hX) (by decide)⟩
    have lw : Pl w := ⟨pw, hw, fun x hx => Nat.le_trans (bw x hx) (by decide)⟩
    have h0 := lead_ne pw h
    have hp := lw.pos
    have hg := getD_le bw (w.length - 1)
    have hr := div_room (w := w) hX hv
    have hC : 10000000000000000000 ≤ 10 ^ 700 := by decide
    have e1 := e_divided hp rfl h0 bw hg (getD_le bv) hr hC (by omega)
    have e2 := e_quotient lv lw h e1
    have e3 := e_lover pv hp h0 bw hg (getD_le bv) hr hC (by omega)
    exact .inr ⟨_, e2, e3, ne_quo v w⟩
end K04

namespace K04
open PySem DF KM KP
theorem pl_of {l : List Int} {X : Nat} (hX : X ≤ 10 ^ 45) (h : Pol l) (hl : l.length ≤ 41) (hb : ∀ x ∈ l, x.natAbs ≤ X) : Pl l := ⟨h, hl, fun x hx => Nat.le_trans (Nat.le_trans (hb x hx) hX) (by decide)⟩
theorem pv_small {l : List Int} {t b : Int} (h : Pl l) (hr : Rt t b) : (lo1 (hT t b l * b) (b ^ l.length)).natAbs ≤ 10 ^ 200 ∧ (lo2 (hT t b l * b) (b ^ l.length)).natAbs ≤ 10 ^ 200 ∧ lo2 (hT t b l * b) (b ^ l.length) ≠ 0 := by
  have hb0 : b ≠ 0 := by have := hr.g.1; omega
  have hX : ∀ y ∈ l, y.natAbs ≤ 10 ^ 60 := fun y hy => by have := h.sm y hy; omega
  obtain ⟨bd1, bd2⟩ := foldl_bound hr.a hr.b l hX
  have hp : b ^ l.length ≠ 0 := Int.pow_ne_zero hb0
  have h1 := abs_mul_le bd1 hr.b
  have k1 : 1000 ^ l.length ≤ 1000 ^ 41 := Nat.pow_le_pow_right (by decide) h.len
  have k2 : 10 ^ 60 * l.length * 1000 ^ l.length * 1000 ≤ 10 ^ 200 := Nat.le_trans (Nat.mul_le_mul (Nat.mul_le_mul (Nat.mul_le_mul_left _ h.len) k1) (Nat.le_refl _)) (by decide)
  have g := (lo_spec (t := hT t b l * b) hp).2.2.1
  exact ⟨Nat.le_trans (lo1_le hp) (Nat.le_trans h1 k2), Nat.le_trans (lo2_le hp) (Nat.le_trans bd2 (Nat.le_trans k1 (by decide))), by omega⟩
theorem sm200 {x : Int} (h : x.natAbs ≤ 10 ^ 200) : Sm x := sm_of (Nat.le_trans h (by decide))
theorem sm200m {x y : Int} (h : x.natAbs ≤ 10 ^ 200) (h' : y.natAbs ≤ 10 ^ 200) : Sm (x * y) := sm_of (Nat.le_trans (abs_mul_le h h') (by decide))
theorem v_prod {l m : List Int} {t b : Int} (hl : Pl l) (hm : Pl m) (hr : Rt t b) : pval t b (trim (conv l m)) = rt (lo1 (lo1 (hT t b l * b) (b ^ l.length) * lo1 (hT t b m * b) (b ^ m.length)) (lo2 (hT t b l * b) (b ^ l.length) * lo2 (hT t b m * b) (b ^ m.length))) (lo2 (lo1 (hT t b l * b) (b ^ l.length) * lo1 (hT t b m * b) (b ^ m.length)) (lo2 (hT t b l * b) (b ^ l.length) * lo2 (hT t b m * b) (b ^ m.length))) := by
  have hb0 : b ≠ 0 := by have := hr.g.1; omega
  have h1 := lo_trim (t := t) hb0 (conv l m)
  have h2 := lo_prod (t := t) hb0 hl.pos hm.pos
  unfold pval
  rw [h1.1, h1.2, h2.1, h2.2]
theorem v_sum {l m : List Int} {t b : Int} (hr : Rt t b) : pval t b (trim (psum l m)) = rt (lo1 (lo1 (hT t b l * b) (b ^ l.length) * lo2 (hT t b m * b) (b ^ m.length) + 1 * lo1 (hT t b m * b) (b ^ m.length) * lo2 (hT t b l * b) (b ^ l.length)) (lo2 (hT t b l * b) (b ^ l.length) * lo2 (hT t b m * b) (b ^ m.length))) (lo2 (lo1 (hT t b l * b) (b ^ l.length) * lo2 (hT t b m * b) (b ^ m.length) + 1 * lo1 (hT t b m * b) (b ^ m.length) * lo2 (hT t b l * b) (b ^ l.length)) (lo2 (hT t b l * b) (b ^ l.length) * lo2 (hT t b m * b) (b ^ m.length))) := by
  have hb0 : b ≠ 0 := by have := hr.g.1; omega
  have h1 := lo_trim (t := t) hb0 (psum l m)
  have h2 := lo_sum (t := t) hb0 (l := l) (m := m)
  unfold pval
  rw [h1.1, h1.2, h2.1, h2.2]
theorem e_times2 {l m : List Int} {t b : Int} (hl : Pl l) (hm : Pl m) (hr : Rt t b) : F_q_ratio_times [(false, pval t b l), (false, pval t b m)] = .ret false (pval t b (trim (conv l m))) [] := by
  obtain ⟨a1, a2, a3⟩ := pv_small hl hr
  obtain ⟨b1, b2, b3⟩ := pv_small hm hr
  rw [v_prod hl hm hr]
  exact e_rtimes a3 b3 (sm200 a1) (sm200 a2) (sm200 b1) (sm200 b2) (sm200m a2 b2)
theorem e_sum2 {l m : List Int} {t b : Int} (hl : Pl l) (hm : Pl m) (hr : Rt t b) : F_q_ratio_sum [(false, pval t b l), (false, pval t b m), (false, .int 1)] = .ret false (pval t b (trim (psum l m))) [] := by
  obtain ⟨a1, a2, a3⟩ := pv_small hl hr
  obtain ⟨b1, b2, b3⟩ := pv_small hm hr
  rw [v_sum hr]
  exact e_rsum a3 b3 (sm200 a1) (sm200 a2) (sm200 b1) (sm200 b2) (sm_of (by decide)) (by rw [Int.one_mul]; exact sm200 b1) (sm200m a2 b2)
end K04

namespace K04
open PySem DF KM KP
/-- a drawn line -/
structure Ln (k : Nat) (l : List Int) : Prop where
  pol : Pol l
  len : l.length ≤ k
  sm : ∀ x ∈ l, x.natAbs ≤ 10000000000000000000
theorem Ln.pl {k : Nat} {l : List Int} (h : Ln k l) (hk : k ≤ 41) : Pl l := ⟨h.pol, Nat.le_trans h.len hk, fun x hx => Nat.le_trans (h.sm x hx) (by decide)⟩
structure Wd (l : List Int) : Prop where
  pol : Pol l
  len : l.length ≤ 26
  sm : ∀ x ∈ l, x.natAbs ≤ 10 ^ 45
theorem Wd.pl {l : List Int} (h : Wd l) : Pl l := pl_of (Nat.le_refl _) h.pol (Nat.le_trans h.len (by decide)) h.sm
theorem Ln.wd {k : Nat} {l : List Int} (h : Ln k l) (hk : k ≤ 26) : Wd l := ⟨h.pol, Nat.le_trans h.len hk, fun x hx => Nat.le_trans (h.sm x hx) (by decide)⟩
theorem wd_conv {l m : List Int} (hl : Ln 13 l) (hm : Ln 13 m) : Wd (trim (conv l m)) := by
  have pl := (hl.pl (by decide)).pos
  have pm := (hm.pl (by decide)).pos
  refine ⟨trim_pol (conv_ne pl pm), ?_, fun x hx => ?_⟩
  · have h1 := trim_len (conv l m)
    rw [conv_length] at h1
    have := hl.len
    have := hm.len
    omega
  · have h1 := conv_le hl.sm hm.sm x (trim_mem hx)
    refine Nat.le_trans h1 (Nat.le_trans (Nat.mul_le_mul_right _ hl.len) (by decide))
theorem wd_psum {l m : List Int} (hl : Wd l) (hX : ∀ x ∈ l, x.natAbs ≤ 13 * (10000000000000000000 * 10000000000000000000)) {k : Nat} (hm : Ln k m) (hk : k ≤ 26) : Wd (trim (psum l m)) := by
  have pl := hl.pl.pos
  refine ⟨trim_pol (fun z => ?_), ?_, fun x hx => ?_⟩
  · have h1 := psum_length l m
    rw [z] at h1
    simp at h1
    omega
  · have h1 := trim_len (psum l m)
    rw [psum_length] at h1
    have := hl.len
    have := hm.len
    omega
  · have h1 := psum_le hX hm.sm x (trim_mem hx)
    exact Nat.le_trans h1 (by decide)
theorem conv_b {l m : List Int} (hl : Ln 13 l) (hm : Ln 13 m) : ∀ x ∈ trim (conv l m), x.natAbs ≤ 13 * (10000000000000000000 * 10000000000000000000) := fun x hx => Nat.le_trans (conv_le hl.sm hm.sm x (trim_mem hx)) (Nat.mul_le_mul_right _ hl.len)
theorem ln_b {k : Nat} {l : List Int} (hl : Ln k l) : ∀ x ∈ l, x.natAbs ≤ 13 * (10000000000000000000 * 10000000000000000000) := fun x hx => Nat.le_trans (hl.sm x hx) (by decide)
theorem ln_one {x : Int} (h : x.natAbs ≤ 2) : Ln 1 [x] := ⟨.inl rfl, Nat.le_refl _, fun y hy => by
  have : y = x := by simpa using hy
  rw [this]; omega⟩
theorem ags {l m r p s : List Int} (hl : Ln 13 l) (hm : Ln 13 m) (hr : Ln 6 r) (hp : Wd p) (hs : Wd s) : ∀ v ∈ [p, s, l, r], ∀ w ∈ [l, m, r, [1], [-1], [2]], Ag v w := by
  have key : ∀ {v w : List Int}, Wd v → (∃ k, k ≤ 41 ∧ Ln k w) → Ag v w := fun {v w} h ⟨k, hk, g⟩ => ag_of (Nat.le_refl _) h.pol h.len h.sm g.pol (Nat.le_trans g.len hk) g.sm
  intro v hv w hw
  have h1 : Wd v := by
    rcases List.mem_cons.mp hv with rfl | hv
    · exact hp
    rcases List.mem_cons.mp hv with rfl | hv
    · exact hs
    rcases List.mem_cons.mp hv with rfl | hv
    · exact hl.wd (by decide)
    rcases List.mem_cons.mp hv with rfl | hv
    · exact hr.wd (by decide)
    · cases hv
  refine key h1 ?_
  rcases List.mem_cons.mp hw with rfl | hw
  · exact ⟨13, by decide, hl⟩
  rcases List.mem_cons.mp hw with rfl | hw
  · exact ⟨13, by decide, hm⟩
  rcases List.mem_cons.mp hw with rfl | hw
  · exact ⟨6, by decide, hr⟩
  rcases List.mem_cons.mp hw with rfl | hw
  · exact ⟨1, by decide, ln_one (by decide)⟩
  rcases List.mem_cons.mp hw with rfl | hw
  · exact ⟨1, by decide, ln_one (by decide)⟩
  rcases List.mem_cons.mp hw with rfl | hw
  · exact ⟨1, by decide, ln_one (by decide)⟩
  · cases hw
theorem e_line' {n : Nat} {d : D} {m : Int} {k : Nat} (h : Bag n d) (hn : n ≤ 800000) (h0 : 0 ≤ m) (h1 : m ≤ 12) (hk : m + 1 = k) : ∃ (l : List Int) (d' : D), Ln k l ∧ Bag (n + 27) d' ∧ F_q_some_line [(true, d), (false, .int m)] = .ret false (pd l) [d'] := by
  obtain ⟨l, d', g1, g2, g3, g4, e⟩ := e_sline h hn h0 h1
  exact ⟨l, d', ⟨g1, by omega, g3⟩, g4, e⟩
theorem e_ratio {n : Nat} {d : D} (h : Bag n d) (hn : n ≤ 800000) : ∃ (t b a c : Int) (d1 d2 : D), Rt t b ∧ Bag (n + 2) d2 ∧ F_q_grab [(true, d), (false, .int 41)] = .ret false (.int a) [d1] ∧ F_q_grab [(true, d1), (false, .int 9)] = .ret false (.int c) [d2] ∧ F_q_lowest [(false, .int (a - 20)), (false, .int (1 + c))] = .ret false (rt t b) [] := by
  obtain ⟨a, d1, ha0, ha1, h1, e1⟩ := e_grab (t := 41) h (by omega) (by decide) (sm_of (by decide))
  obtain ⟨c, d2, hc0, hc1, h2, e2⟩ := e_grab (t := 9) h1 (by omega) (by decide) (sm_of (by decide))
  have hb : (1 + c : Int) ≠ 0 := by omega
  have e3 := e_lowest (a - 20) (1 + c) hb (sm_of (by omega))
  have g := (lo_spec (t := a - 20) hb).2.2
  have l1 := lo1_le (T := a - 20) hb
  have l2 := lo2_le (T := a - 20) hb
  exact ⟨_, _, a, c, d1, d2, ⟨g, by omega, by omega⟩, h2, e1, e2, e3⟩
theorem e_products {n : Nat} {d : D} (h : Bag n d) (hn : n ≤ 700000) : ∃ d', Bag (n + 120) d' ∧ F_q_products_right [(true, d)] = .ret false (.bl true) [d'] := by
  obtain ⟨l, d1, hl, h1, e1⟩ := e_line' (m := 12) (k := 13) h (by omega) (by decide) (by decide) rfl
  obtain ⟨m, d2, hm, h2, e2⟩ := e_line' (m := 12) (k := 13) h1 (by omega) (by decide) (by decide) rfl
  obtain ⟨r, d3, hr, h3, e3⟩ := e_line' (m := 5) (k := 6) h2 (by omega) (by decide) (by decide) rfl
  obtain ⟨q, d4, hq, h4, e4⟩ := e_line' (m := 3) (k := 4) h3 (by omega) (by decide) (by decide) rfl
  obtain ⟨t, b, a, c, d5, d6, hrt, h6, e5, e6, e7⟩ := e_ratio h4 (by omega)
  have pl := hl.pl (by decide)
  have pm := hm.pl (by decide)
  have p0 : Pl [0] := ⟨.inl rfl, by decide, by decide⟩
  have wp := wd_conv hl hm
  have ws := wd_psum (hl.wd (by decide)) (ln_b hl) hm (by decide)
  have wn := wd_psum wp (conv_b hl hm) hq (by decide)
  have len1 := hl.len
  have len2 := hm.len
  have len3 := hq.len
  have len4 := wp.len
  have x1 := e_pprod pl pm (by omega)
  have x2 := e_psum pl pm
  have x3 := e_ltimes pl.s pm.s pl.pos pm.pos (by omega)
  have x4 := e_lsum (l := l) (m := m) (by omega)
  have x5 := e_pprod pm pl (by omega)
  rw [conv_comm] at x5
  have x6 := e_psum pm pl
  rw [psum_comm] at x6
  have x7 := e_pprod pl p0 (by simp; omega)
  rw [conv_zero pl.pos] at x7
  have x8 := e_psum pl p0
  rw [psum_zero hl.pol] at x8
  have x9 := e_lsum (l := trim (conv l m)) (m := q) (by omega)
  have v1 := e_pvalue pl hrt
  have v2 := e_pvalue pm hrt
  have v3 := e_lvalue (by decide) hl.len hl.sm hrt
  have v4 := e_lvalue (by decide) hm.len hm.sm hrt
  have v5 := e_pvalue wp.pl hrt
  have v6 := e_times2 pl pm hrt
  have v7 := e_pvalue ws.pl hrt
  have v8 := e_sum2 pl pm hrt
  obtain ⟨c7, c8, y5⟩ := pr5 (c0 := some (.mu true d4)) (c5 := some (.val (pd (trim (psum l m))))) (c9 := none) (c10 := none) (c11 := none) (ags hl hm hr wp wn)
  refine ⟨d6, h6.mono (by omega), ?_⟩
  unfold F_q_products_right B_q_products_right
  rw [show startE 12 [(true, d)] = [some (.mu true d), none, none, none, none, none, none, none, none, none, none, none] from rfl, dSeq_ap, pr0 e1 e2 e3, SR.bind_nx, dSeq_ap, pr1 x1 x2, SR.bind_nx, dSeq_ap, pr2 x3 x4 x5, SR.bind_nx, dSeq_ap, pr3 x6 x7 x8, SR.bind_nx, dSeq_ap, pr4 e4 x9, SR.bind_nx, dSeq_ap, y5, SR.bind_nx, dSeq_ap, pr6 e5 e6 e7, SR.bind_nx, dSeq_ap, pr7 v1 v2, SR.bind_nx, dSeq_ap, pr8 (ne_pval t b l) (ne_pval t b m) v3 v4, SR.bind_nx, dSeq_ap, pr9 (ne_pval _ _ _) v5 v6, SR.bind_nx, pr10 (eq_pval _ _ _) v7 v8]
  rfl
end K04

namespace K04
open PySem DF KM KP
theorem k_bi : L2.kitB "bool" "int" = some true := rfl
theorem k_bb : L2.kitB "bool" "bool" = some true := rfl
theorem k_ti : L2.kitB "tuple" "int" = some false := rfl
theorem k_tb : L2.kitB "tuple" "bool" = some false := rfl
theorem p60 : powD (.int 10) (.int 60) = some (.int 1000000000000000000000000000000000000000000000000000000000000) := powD_ap (by decide +kernel)
structure Agree (v : D) : Prop where
  ex : ∃ b : Bool, F_is_polynomial [(false, v)] = .ret false (.bl b) [] ∧ F_q_is_line [(false, v)] = .ret false (.bl b) []
/-! ### the program's judgement -/
theorem tupI {l : List D} {rest : DEnv} (h1 : 0 < l.length) (h2 : l.length ≤ 41) : (dIf (dOr (dNot (dTst (dIsi "tuple" (oVar 0)))) (dNot (dTst (dChain leD leD (oD (dC (.int 1))) (oD (dCal lenD (aCons (oVar 0) (aNil)))) (oD (dBin addD (oD (dC (.int 40))) (oD (dC (.int 1))))))))) (dRet (dC (.bl false))) (SR.nx)) (some (.val (.tup l)) :: rest) = .nx (some (.val (.tup l)) :: rest) := by
  have g1 : (1 : Int) ≤ (l.length : Int) := by omega
  have g2 : (l.length : Int) ≤ 41 := by omega
  simp [dC_ap, dVar_ap, oVar_ap, oD_ap, aNil_ap, aCons_ap, vNil_ap, vCons_ap, dBin_ap, dTst_ap, dUn_ap, dCal_ap, dSeq_ap, dNever_ap, dIf_ap, dRet_ap, dRetF_ap, dRetN_ap, dRetV_ap, dExpr_ap, dSet_ap, dSetF_ap, gsNil_ap, gsCons_ap, gTp_ap, dAsg_ap, sLst_ap, sTup_ap, sRng1_ap, sRng2_ap, dForS_ap, dTru_ap, dAnd_ap, dOr_ap, dNot_ap, dAndV_ap, dOrV_ap, dNotV_ap, dIte_ap, dChain_ap, dTup_ap, dLst_ap, dApp_ap, dSetI_ap, rNil_ap, rVal_ap, rIo_ap, dCal2_ap, dV_ap, dN_ap, tYesB_ap, dLc_ap, dIsi_ap, dPar_ap, dDic0_ap, dPar3_ap, DF.R.bind_ok, DF.R.bindS_ok, DF.R.bindN_ok, DF.SR.bind_nx, DF.SR.bind_ret, ofO, ths, setV, setF, free, set2, set3, fnRes, startE, startC, outs, argsD, putD, ioIx, isMu, look, muL, ltD_ap, leD_ap, gtD_ap, geD_ap, addD_ap, subD_ap, negD_ap, absD_ap, intD_ap, intD_apB, eq_int, ne_int, ixD, L2.atI, L2.ixN, lenD, gcdD, max2D, min2D, isiD, tyN, k_tt, g1, g2]
def itsB (xs : List D) : DEnv → SR := dIf (dNot (dTst (dCal allD (aCons (oD (dLc (sTup (dVar 0)) (setV 1) tYesB piE [1])) (aNil))))) (dRet (dC (.bl false))) (SR.nx)
theorem ip1_eq : (dIf (dNot (dTst (dCal allD (aCons (oD (dLc (sTup (dVar 0)) (setV 1) (tYesB) (dV (dCal2 1 F_is_integer (rVal (dVar 1) (rNil)))) [1])) (aNil))))) (dRet (dC (.bl false))) (SR.nx)) = itsB [] := rfl
theorem it_all {l : List D} {bs : List Bool} (e : dLcGo (setV 1) tYesB piE [1] l [] [some (.val (.tup l)), none] = .ok [some (.val (.tup l)), none] (.lst (bs.map D.bl))) : itsB [] [some (.val (.tup l)), none] = if bs.all id = true then .nx [some (.val (.tup l)), none] else .ret [some (.val (.tup l)), none] false (.bl false) := by
  have ha : allD [.lst (bs.map D.bl)] = some (.bl (bs.all id)) := by
    unfold allD
    dsimp only
    rw [show DF.listOf (.lst (bs.map D.bl)) = some (bs.map D.bl) from rfl]
    dsimp only
    rw [bls_map]
    rfl
  unfold itsB
  by_cases h : bs.all id = true
  · rw [h] at ha
    rw [if_pos h]
    simp [dC_ap, dVar_ap, oVar_ap, oD_ap, aNil_ap, aCons_ap, vNil_ap, vCons_ap, dBin_ap, dTst_ap, dUn_ap, dCal_ap, dSeq_ap, dNever_ap, dIf_ap, dRet_ap, dRetF_ap, dRetN_ap, dRetV_ap, dExpr_ap, dSet_ap, dSetF_ap, gsNil_ap, gsCons_ap, gTp_ap, dAsg_ap, sLst_ap, sTup_ap, sRng1_ap, sRng2_ap, dForS_ap, dTru_ap, dAnd_ap, dOr_ap, dNot_ap, dAndV_ap, dOrV_ap, dNotV_ap, dIte_ap, dChain_ap, dTup_ap, dLst_ap, dApp_ap, dSetI_ap, rNil_ap, rVal_ap, rIo_ap, dCal2_ap, dV_ap, dN_ap, tYesB_ap, dLc_ap, dIsi_ap, dPar_ap, dDic0_ap, dPar3_ap, DF.R.bind_ok, DF.R.bindS_ok, DF.R.bindN_ok, DF.SR.bind_nx, DF.SR.bind_ret, ofO, ths, setV, setF, free, set2, set3, fnRes, startE, startC, outs, argsD, putD, ioIx, isMu, look, muL, ltD_ap, leD_ap, gtD_ap, geD_ap, addD_ap, subD_ap, negD_ap, absD_ap, intD_ap, intD_apB, eq_int, ne_int, ixD, L2.atI, L2.ixN, lenD, gcdD, max2D, min2D, sTup, noMu, wipeE, e, ha]
  · rw [Bool.not_eq_true] at h
    rw [h] at ha
    rw [h]
    simp [dC_ap, dVar_ap, oVar_ap, oD_ap, aNil_ap, aCons_ap, vNil_ap, vCons_ap, dBin_ap, dTst_ap, dUn_ap, dCal_ap, dSeq_ap, dNever_ap, dIf_ap, dRet_ap, dRetF_ap, dRetN_ap, dRetV_ap, dExpr_ap, dSet_ap, dSetF_ap, gsNil_ap, gsCons_ap, gTp_ap, dAsg_ap, sLst_ap, sTup_ap, sRng1_ap, sRng2_ap, dForS_ap, dTru_ap, dAnd_ap, dOr_ap, dNot_ap, dAndV_ap, dOrV_ap, dNotV_ap, dIte_ap, dChain_ap, dTup_ap, dLst_ap, dApp_ap, dSetI_ap, rNil_ap, rVal_ap, rIo_ap, dCal2_ap, dV_ap, dN_ap, tYesB_ap, dLc_ap, dIsi_ap, dPar_ap, dDic0_ap, dPar3_ap, DF.R.bind_ok, DF.R.bindS_ok, DF.R.bindN_ok, DF.SR.bind_nx, DF.SR.bind_ret, ofO, ths, setV, setF, free, set2, set3, fnRes, startE, startC, outs, argsD, putD, ioIx, isMu, look, muL, ltD_ap, leD_ap, gtD_ap, geD_ap, addD_ap, subD_ap, negD_ap, absD_ap, intD_ap, intD_apB, eq_int, ne_int, ixD, L2.atI, L2.ixN, lenD, gcdD, max2D, min2D, sTup, noMu, wipeE, e, ha]
theorem bls_all (l : List Int) : (l.map fun _ => D.bl true) = (l.map fun _ => true).map D.bl := by
  rw [List.map_map]
  rfl
theorem all_yes (l : List Int) : (l.map fun _ => true).all id = true := by
  induction l with
  | nil => rfl
  | cons x r ih => simpa using ih
theorem ip2 {l : List Int} (hp : 0 < l.length) : (dRet (dOrV (dBin eqD1 (oD (dCal lenD (aCons (oVar 0) (aNil)))) (oD (dC (.int 1)))) (dBin neD1 (oD (dBin ixD (oVar 0) (oD (dUn negD (oD (dC (.int 1))))))) (oD (dC (.int 0)))))) [some (.val (pd l)), none] = .ret [some (.val (pd l)), none] false (.bl (decide (l.length = 1) || !decide (l.getD (l.length - 1) 0 = 0))) := by
  have hat := at_last (l := l) hp
  by_cases hl1 : l.length = 1
  · simp [dC_ap, dVar_ap, oVar_ap, oD_ap, aNil_ap, aCons_ap, vNil_ap, vCons_ap, dBin_ap, dTst_ap, dUn_ap, dCal_ap, dSeq_ap, dNever_ap, dIf_ap, dRet_ap, dRetF_ap, dRetN_ap, dRetV_ap, dExpr_ap, dSet_ap, dSetF_ap, gsNil_ap, gsCons_ap, gTp_ap, dAsg_ap, sLst_ap, sTup_ap, sRng1_ap, sRng2_ap, dForS_ap, dTru_ap, dAnd_ap, dOr_ap, dNot_ap, dAndV_ap, dOrV_ap, dNotV_ap, dIte_ap, dChain_ap, dTup_ap, dLst_ap, dApp_ap, dSetI_ap, rNil_ap, rVal_ap, rIo_ap, dCal2_ap, dV_ap, dN_ap, tYesB_ap, dLc_ap, dIsi_ap, dPar_ap, dDic0_ap, dPar3_ap, DF.R.bind_ok, DF.R.bindS_ok, DF.R.bindN_ok, DF.SR.bind_nx, DF.SR.bind_ret, ofO, ths, setV, setF, free, set2, set3, fnRes, startE, startC, outs, argsD, putD, ioIx, isMu, look, muL, ltD_ap, leD_ap, gtD_ap, geD_ap, addD_ap, subD_ap, negD_ap, absD_ap, intD_ap, intD_apB, eq_int, ne_int, ixD, L2.atI, L2.ixN, lenD, gcdD, max2D, min2D, hl1]
  · have hl1' : ¬ (l.length : Int) = 1 := by omega
    simp [dRet_ap, dOrV_ap, dBin_ap, dCal_ap, aCons_ap, aNil_ap, oD_ap, oVar_ap, dC_ap, dUn_ap, DF.R.bind_ok, DF.R.bindS_ok, ofO, ths, look, lenD, eq_int, ne_int, negD_ap, ixD, hl1', hat, hl1]
theorem e_isp {l : List Int} (h1 : 0 < l.length) (h2 : l.length ≤ 41) (hs : ∀ x ∈ l, x.natAbs ≤ 999999999999999999999999999999999999999999999999999999999999) : F_is_polynomial [(false, pd l)] = .ret false (.bl (decide (l.length = 1) || !decide (l.getD (l.length - 1) 0 = 0))) [] := by
  have e := pi_loop (some (.val (pd l))) l [] hs (by simp; omega)
  rw [List.nil_append, bls_all] at e
  have e2 := it_all e
  rw [all_yes, if_pos rfl] at e2
  unfold F_is_polynomial B_is_polynomial
  rw [show startE 2 [(false, pd l)] = [some (.val (pd l)), none] from rfl, dSeq_ap, tupI (by rw [List.length_map]; exact h1) (by rw [List.length_map]; exact h2), SR.bind_nx, ip1_eq, dSeq_ap, e2, SR.bind_nx, ip2 h1]
  rfl
/-- a value at the end that is no integer -/
structure Bad (z : D) : Prop where
  i : F_is_integer [(false, z)] = .ret false (.bl false) []
theorem pi_loop2 {c0 : Option Cell} {z : D} (hz : Bad z) : ∀ (l : List Int) (acc : List D), (∀ x ∈ l, x.natAbs ≤ 999999999999999999999999999999999999999999999999999999999999) → acc.length + l.length ≤ 900 → dLcGo (setV 1) tYesB piE [1] (l.map D.int ++ [z]) acc [c0, none] = .ok [c0, none] (.lst (acc ++ ((l.map fun _ => D.bl true) ++ [.bl false])))
  | [], acc, _, h => by
    have e : piE [c0, some (.val z)] = .ok [c0, some (.val z)] (.bl false) := by
      simp [piE, dC_ap, dVar_ap, oVar_ap, oD_ap, aNil_ap, aCons_ap, vNil_ap, vCons_ap, dBin_ap, dTst_ap, dUn_ap, dCal_ap, dSeq_ap, dNever_ap, dIf_ap, dRet_ap, dRetF_ap, dRetN_ap, dRetV_ap, dExpr_ap, dSet_ap, dSetF_ap, gsNil_ap, gsCons_ap, gTp_ap, dAsg_ap, sLst_ap, sTup_ap, sRng1_ap, sRng2_ap, dForS_ap, dTru_ap, dAnd_ap, dOr_ap, dNot_ap, dAndV_ap, dOrV_ap, dNotV_ap, dIte_ap, dChain_ap, dTup_ap, dLst_ap, dApp_ap, dSetI_ap, rNil_ap, rVal_ap, rIo_ap, dCal2_ap, dV_ap, dN_ap, tYesB_ap, dLc_ap, dIsi_ap, dPar_ap, dDic0_ap, dPar3_ap, DF.R.bind_ok, DF.R.bindS_ok, DF.R.bindN_ok, DF.SR.bind_nx, DF.SR.bind_ret, ofO, ths, setV, setF, free, set2, set3, fnRes, startE, startC, outs, argsD, putD, ioIx, isMu, look, muL, ltD_ap, leD_ap, gtD_ap, geD_ap, addD_ap, subD_ap, negD_ap, absD_ap, intD_ap, intD_apB, eq_int, ne_int, ixD, L2.atI, L2.ixN, lenD, gcdD, max2D, min2D, hz.i]
    have hl' : acc.length < 16000000 := by simp at h; omega
    show dLcGo (setV 1) tYesB piE [1] [z] acc [c0, none] = _
    unfold dLcGo
    simp [setV, free, tYesB, R.bindN_ok, e, noMu, wipeE, hl']
    unfold dLcGo
    rfl
  | x :: r, acc, h, hl => by
    rw [List.length_cons] at hl
    have ih := pi_loop2 (c0 := c0) hz r (acc ++ [.bl true]) (fun y hy => h y (List.mem_cons_of_mem _ hy)) (by rw [List.length_append, List.length_singleton]; omega)
    have e : piE [c0, some (.val (.int x))] = .ok [c0, some (.val (.int x))] (.bl true) := by
      have := e_isint x
      rw [decide_eq_true (h x List.mem_cons_self)] at this
      simp [piE, dC_ap, dVar_ap, oVar_ap, oD_ap, aNil_ap, aCons_ap, vNil_ap, vCons_ap, dBin_ap, dTst_ap, dUn_ap, dCal_ap, dSeq_ap, dNever_ap, dIf_ap, dRet_ap, dRetF_ap, dRetN_ap, dRetV_ap, dExpr_ap, dSet_ap, dSetF_ap, gsNil_ap, gsCons_ap, gTp_ap, dAsg_ap, sLst_ap, sTup_ap, sRng1_ap, sRng2_ap, dForS_ap, dTru_ap, dAnd_ap, dOr_ap, dNot_ap, dAndV_ap, dOrV_ap, dNotV_ap, dIte_ap, dChain_ap, dTup_ap, dLst_ap, dApp_ap, dSetI_ap, rNil_ap, rVal_ap, rIo_ap, dCal2_ap, dV_ap, dN_ap, tYesB_ap, dLc_ap, dIsi_ap, dPar_ap, dDic0_ap, dPar3_ap, DF.R.bind_ok, DF.R.bindS_ok, DF.R.bindN_ok, DF.SR.bind_nx, DF.SR.bind_ret, ofO, ths, setV, setF, free, set2, set3, fnRes, startE, startC, outs, argsD, putD, ioIx, isMu, look, muL, ltD_ap, leD_ap, gtD_ap, geD_ap, addD_ap, subD_ap, negD_ap, absD_ap, intD_ap, intD_apB, eq_int, ne_int, ixD, L2.atI, L2.ixN, lenD, gcdD, max2D, min2D, this]
    have hl' : acc.length < 16000000 := by omega
    rw [List.map_cons, List.map_cons, List.cons_append, List.cons_append]
    unfold dLcGo
    simp only [setV, free, tYesB, R.bindN_ok, e, noMu, wipeE, hl', List.getElem?_cons_zero, List.getElem?_cons_succ, if_true, List.set_cons_zero, List.set_cons_succ, List.all_cons, List.all_nil, Bool.and_true]
    rw [List.append_assoc] at ih
    exact ih
theorem e_isp_bad {l : List Int} {z : D} (hz : Bad z) (h2 : l.length ≤ 40) (hs : ∀ x ∈ l, x.natAbs ≤ 999999999999999999999999999999999999999999999999999999999999) : F_is_polynomial [(false, .tup (l.map D.int ++ [z]))] = .ret false (.bl false) [] := by
  have e := pi_loop2 (c0 := some (.val (.tup (l.map D.int ++ [z])))) hz l [] hs (by simp; omega)
  rw [List.nil_append, bls_all, show [D.bl false] = [false].map D.bl from rfl, ← List.map_append] at e
  have e2 := it_all e
  have hb : ((l.map fun _ => true) ++ [false]).all id = false := by simp
  rw [hb] at e2
  rw [if_neg (by decide)] at e2
  unfold F_is_polynomial B_is_polynomial
  rw [show startE 2 [(false, .tup (l.map D.int ++ [z]))] = [some (.val (.tup (l.map D.int ++ [z]))), none] from rfl, dSeq_ap, tupI (by simp) (by simp; omega), SR.bind_nx, ip1_eq, dSeq_ap, e2]
  rfl
end K04

namespace K04
open PySem DF KM KP
/-! ### the law's judgement -/
def liB : DEnv → SR := dIf (dOr (dNot (dTst (dIsi "int" (oVar 1)))) (dOr (dTst (dIsi "bool" (oVar 1))) (dTst (dBin geD (oD (dCal absD (aCons (oVar 1) (aNil)))) (oD (dBin powD (oD (dC (.int 10))) (oD (dC (.int 60))))))))) (dRet (dC (.bl false))) (SR.nx)
theorem liB_int {c0 : Option Cell} {x : Int} (h : x.natAbs ≤ 999999999999999999999999999999999999999999999999999999999999) : liB [c0, some (.val (.int x))] = .nx [c0, some (.val (.int x))] := by
  have h' : ¬ (1000000000000000000000000000000000000000000000000000000000000 : Int) ≤ (x.natAbs : Int) := by omega
  have h2 := abs_eq x
  simp [liB, dC_ap, dVar_ap, oVar_ap, oD_ap, aNil_ap, aCons_ap, vNil_ap, vCons_ap, dBin_ap, dTst_ap, dUn_ap, dCal_ap, dSeq_ap, dNever_ap, dIf_ap, dRet_ap, dRetF_ap, dRetN_ap, dRetV_ap, dExpr_ap, dSet_ap, dSetF_ap, gsNil_ap, gsCons_ap, gTp_ap, dAsg_ap, sLst_ap, sTup_ap, sRng1_ap, sRng2_ap, dForS_ap, dTru_ap, dAnd_ap, dOr_ap, dNot_ap, dAndV_ap, dOrV_ap, dNotV_ap, dIte_ap, dChain_ap, dTup_ap, dLst_ap, dApp_ap, dSetI_ap, rNil_ap, rVal_ap, rIo_ap, dCal2_ap, dV_ap, dN_ap, tYesB_ap, dLc_ap, dIsi_ap, dPar_ap, dDic0_ap, dPar3_ap, DF.R.bind_ok, DF.R.bindS_ok, DF.R.bindN_ok, DF.SR.bind_nx, DF.SR.bind_ret, ofO, ths, setV, setF, free, set2, set3, fnRes, startE, startC, outs, argsD, putD, ioIx, isMu, look, muL, ltD_ap, leD_ap, gtD_ap, geD_ap, addD_ap, subD_ap, negD_ap, absD_ap, intD_ap, intD_apB, eq_int, ne_int, ixD, L2.atI, L2.ixN, lenD, gcdD, max2D, min2D, isiD, tyN, k_ii, k_ib, p60, h2]
  rw [decide_eq_false h']
structure BadL (z : D) : Prop where
  i : ∀ c0, liB [c0, some (.val z)] = .ret [c0, some (.val z)] false (.bl false)
theorem li_loop {c0 : Option Cell} : ∀ (l : List Int) (c1 : Option Cell) (rest : List D), Vc c1 → (∀ x ∈ l, x.natAbs ≤ 999999999999999999999999999999999999999999999999999999999999) → ∃ c1', Vc c1' ∧ dFor (setV 1) liB (l.map D.int ++ rest) [c0, c1] = dFor (setV 1) liB rest [c0, c1']
  | [], c1, rest, h1, _ => ⟨c1, h1, rfl⟩
  | x :: r, c1, rest, h1, h => by
    obtain ⟨c1', g1, e⟩ := li_loop (c0 := c0) r (some (.val (.int x))) rest (.inr ⟨_, rfl⟩) fun y hy => h y (List.mem_cons_of_mem _ hy)
    refine ⟨c1', g1, ?_⟩
    have es : setV 1 (.int x) [c0, c1] = some [c0, some (.val (.int x))] := by
      rcases h1 with rfl | ⟨d1, rfl⟩ <;> simp [setV, free]
    rw [List.map_cons, List.cons_append]
    conv => lhs; unfold dFor
    rw [es]
    dsimp only
    rw [liB_int (h x List.mem_cons_self)]
    exact e
theorem il0 {l : List D} {c1 : Option Cell} (h1 : 0 < l.length) (h2 : l.length ≤ 41) : (dIf (dOr (dNot (dTst (dIsi "tuple" (oVar 0)))) (dNot (dTst (dChain leD leD (oD (dC (.int 1))) (oD (dCal lenD (aCons (oVar 0) (aNil)))) (oD (dC (.int 41))))))) (dRet (dC (.bl false))) (SR.nx)) [some (.val (.tup l)), c1] = .nx [some (.val (.tup l)), c1] := by
  have g1 : (1 : Int) ≤ (l.length : Int) := by omega
  have g2 : (l.length : Int) ≤ 41 := by omega
  simp [dC_ap, dVar_ap, oVar_ap, oD_ap, aNil_ap, aCons_ap, vNil_ap, vCons_ap, dBin_ap, dTst_ap, dUn_ap, dCal_ap, dSeq_ap, dNever_ap, dIf_ap, dRet_ap, dRetF_ap, dRetN_ap, dRetV_ap, dExpr_ap, dSet_ap, dSetF_ap, gsNil_ap, gsCons_ap, gTp_ap, dAsg_ap, sLst_ap, sTup_ap, sRng1_ap, sRng2_ap, dForS_ap, dTru_ap, dAnd_ap, dOr_ap, dNot_ap, dAndV_ap, dOrV_ap, dNotV_ap, dIte_ap, dChain_ap, dTup_ap, dLst_ap, dApp_ap, dSetI_ap, rNil_ap, rVal_ap, rIo_ap, dCal2_ap, dV_ap, dN_ap, tYesB_ap, dLc_ap, dIsi_ap, dPar_ap, dDic0_ap, dPar3_ap, DF.R.bind_ok, DF.R.bindS_ok, DF.R.bindN_ok, DF.SR.bind_nx, DF.SR.bind_ret, ofO, ths, setV, setF, free, set2, set3, fnRes, startE, startC, outs, argsD, putD, ioIx, isMu, look, muL, ltD_ap, leD_ap, gtD_ap, geD_ap, addD_ap, subD_ap, negD_ap, absD_ap, intD_ap, intD_apB, eq_int, ne_int, ixD, L2.atI, L2.ixN, lenD, gcdD, max2D, min2D, isiD, tyN, k_tt, g1, g2]
theorem il1_eq : (dForS (sTup (dVar 0)) (setV 1) (dIf (dOr (dNot (dTst (dIsi "int" (oVar 1)))) (dOr (dTst (dIsi "bool" (oVar 1))) (dTst (dBin geD (oD (dCal absD (aCons (oVar 1) (aNil)))) (oD (dBin powD (oD (dC (.int 10))) (oD (dC (.int 60))))))))) (dRet (dC (.bl false))) (SR.nx))) = dForS (sTup (dVar 0)) (setV 1) liB := rfl
theorem il1 {l : List D} : dForS (sTup (dVar 0)) (setV 1) liB [some (.val (.tup l)), none] = dFor (setV 1) liB l [some (.val (.tup l)), none] := by
  rw [dForS_ap]
  simp only [sTup, dVar_ap, List.getElem?_cons_zero, DF.R.bind_ok, DF.R.bindS_ok]
theorem il2 {l : List Int} {c1 : Option Cell} (hp : 0 < l.length) : (dRet (dOrV (dBin eqD1 (oD (dCal lenD (aCons (oVar 0) (aNil)))) (oD (dC (.int 1)))) (dBin neD1 (oD (dBin ixD (oVar 0) (oD (dUn negD (oD (dC (.int 1))))))) (oD (dC (.int 0)))))) [some (.val (pd l)), c1] = .ret [some (.val (pd l)), c1] false (.bl (decide (l.length = 1) || !decide (l.getD (l.length - 1) 0 = 0))) := by
  have hat := at_last (l := l) hp
  by_cases hl1 : l.length = 1
  · simp [dC_ap, dVar_ap, oVar_ap, oD_ap, aNil_ap, aCons_ap, vNil_ap, vCons_ap, dBin_ap, dTst_ap, dUn_ap, dCal_ap, dSeq_ap, dNever_ap, dIf_ap, dRet_ap, dRetF_ap, dRetN_ap, dRetV_ap, dExpr_ap, dSet_ap, dSetF_ap, gsNil_ap, gsCons_ap, gTp_ap, dAsg_ap, sLst_ap, sTup_ap, sRng1_ap, sRng2_ap, dForS_ap, dTru_ap, dAnd_ap, dOr_ap, dNot_ap, dAndV_ap, dOrV_ap, dNotV_ap, dIte_ap, dChain_ap, dTup_ap, dLst_ap, dApp_ap, dSetI_ap, rNil_ap, rVal_ap, rIo_ap, dCal2_ap, dV_ap, dN_ap, tYesB_ap, dLc_ap, dIsi_ap, dPar_ap, dDic0_ap, dPar3_ap, DF.R.bind_ok, DF.R.bindS_ok, DF.R.bindN_ok, DF.SR.bind_nx, DF.SR.bind_ret, ofO, ths, setV, setF, free, set2, set3, fnRes, startE, startC, outs, argsD, putD, ioIx, isMu, look, muL, ltD_ap, leD_ap, gtD_ap, geD_ap, addD_ap, subD_ap, negD_ap, absD_ap, intD_ap, intD_apB, eq_int, ne_int, ixD, L2.atI, L2.ixN, lenD, gcdD, max2D, min2D, hl1]
  · have hl1' : ¬ (l.length : Int) = 1 := by omega
    simp [dRet_ap, dOrV_ap, dBin_ap, dCal_ap, aCons_ap, aNil_ap, oD_ap, oVar_ap, dC_ap, dUn_ap, DF.R.bind_ok, DF.R.bindS_ok, ofO, ths, look, lenD, eq_int, ne_int, negD_ap, ixD, hl1', hat, hl1]
theorem e_isl {l : List Int} (h1 : 0 < l.length) (h2 : l.length ≤ 41) (hs : ∀ x ∈ l, x.natAbs ≤ 999999999999999999999999999999999999999999999999999999999999) : F_q_is_line [(false, pd l)] = .ret false (.bl (decide (l.length = 1) || !decide (l.getD (l.length - 1) 0 = 0))) [] := by
  obtain ⟨c1, _, e⟩ := li_loop (c0 := some (.val (pd l))) l none [] (.inl rfl) hs
  rw [List.append_nil] at e
  unfold F_q_is_line B_q_is_line
  rw [show startE 2 [(false, pd l)] = [some (.val (pd l)), none] from rfl, dSeq_ap, il0 (by rw [List.length_map]; exact h1) (by rw [List.length_map]; exact h2), SR.bind_nx, il1_eq, dSeq_ap, il1, e]
  show fnRes _ (SR.bind (.nx _) _) = _
  rw [SR.bind_nx, il2 h1]
  rfl
theorem e_isl_bad {l : List Int} {z : D} (hz : BadL z) (h2 : l.length ≤ 40) (hs : ∀ x ∈ l, x.natAbs ≤ 999999999999999999999999999999999999999999999999999999999999) : F_q_is_line [(false, .tup (l.map D.int ++ [z]))] = .ret false (.bl false) [] := by
  obtain ⟨c1, h1, e⟩ := li_loop (c0 := some (.val (.tup (l.map D.int ++ [z])))) l none [z] (.inl rfl) hs
  have es : setV 1 z [some (.val (.tup (l.map D.int ++ [z]))), c1] = some [some (.val (.tup (l.map D.int ++ [z]))), some (.val z)] := by
    rcases h1 with rfl | ⟨d1, rfl⟩ <;> simp [setV, free]
  unfold F_q_is_line B_q_is_line
  rw [show startE 2 [(false, .tup (l.map D.int ++ [z]))] = [some (.val (.tup (l.map D.int ++ [z]))), none] from rfl, dSeq_ap, il0 (by simp) (by simp; omega), SR.bind_nx, il1_eq, dSeq_ap, il1, e]
  unfold dFor
  rw [es]
  dsimp only
  rw [hz.i]
  rfl
theorem ag_line {l : List Int} (h1 : 0 < l.length) (h2 : l.length ≤ 41) (hs : ∀ x ∈ l, x.natAbs ≤ 999999999999999999999999999999999999999999999999999999999999) : Agree (pd l) := ⟨_, e_isp h1 h2 hs, e_isl h1 h2 hs⟩
theorem ag_bad {l : List Int} {z : D} (hz : Bad z) (hz' : BadL z) (h2 : l.length ≤ 40) (hs : ∀ x ∈ l, x.natAbs ≤ 999999999999999999999999999999999999999999999999999999999999) : Agree (.tup (l.map D.int ++ [z])) := ⟨_, e_isp_bad hz h2 hs, e_isl_bad hz' h2 hs⟩
theorem bad_true : Bad (.bl true) := ⟨by
  unfold F_is_integer B_is_integer
  have : F_is_long_integer [(false, .bl true)] = .ret false (.bl false) [] := by
    unfold F_is_long_integer B_is_long_integer
    simp [dC_ap, dVar_ap, oVar_ap, oD_ap, aNil_ap, aCons_ap, vNil_ap, vCons_ap, dBin_ap, dTst_ap, dUn_ap, dCal_ap, dSeq_ap, dNever_ap, dIf_ap, dRet_ap, dRetF_ap, dRetN_ap, dRetV_ap, dExpr_ap, dSet_ap, dSetF_ap, gsNil_ap, gsCons_ap, gTp_ap, dAsg_ap, sLst_ap, sTup_ap, sRng1_ap, sRng2_ap, dForS_ap, dTru_ap, dAnd_ap, dOr_ap, dNot_ap, dAndV_ap, dOrV_ap, dNotV_ap, dIte_ap, dChain_ap, dTup_ap, dLst_ap, dApp_ap, dSetI_ap, rNil_ap, rVal_ap, rIo_ap, dCal2_ap, dV_ap, dN_ap, tYesB_ap, dLc_ap, dIsi_ap, dPar_ap, dDic0_ap, dPar3_ap, DF.R.bind_ok, DF.R.bindS_ok, DF.R.bindN_ok, DF.SR.bind_nx, DF.SR.bind_ret, ofO, ths, setV, setF, free, set2, set3, fnRes, startE, startC, outs, argsD, putD, ioIx, isMu, look, muL, ltD_ap, leD_ap, gtD_ap, geD_ap, addD_ap, subD_ap, negD_ap, absD_ap, intD_ap, intD_apB, eq_int, ne_int, ixD, L2.atI, L2.ixN, lenD, gcdD, max2D, min2D, isiD, tyN, k_bi, k_bb]
  simp [dC_ap, dVar_ap, oVar_ap, oD_ap, aNil_ap, aCons_ap, vNil_ap, vCons_ap, dBin_ap, dTst_ap, dUn_ap, dCal_ap, dSeq_ap, dNever_ap, dIf_ap, dRet_ap, dRetF_ap, dRetN_ap, dRetV_ap, dExpr_ap, dSet_ap, dSetF_ap, gsNil_ap, gsCons_ap, gTp_ap, dAsg_ap, sLst_ap, sTup_ap, sRng1_ap, sRng2_ap, dForS_ap, dTru_ap, dAnd_ap, dOr_ap, dNot_ap, dAndV_ap, dOrV_ap, dNotV_ap, dIte_ap, dChain_ap, dTup_ap, dLst_ap, dApp_ap, dSetI_ap, rNil_ap, rVal_ap, rIo_ap, dCal2_ap, dV_ap, dN_ap, tYesB_ap, dLc_ap, dIsi_ap, dPar_ap, dDic0_ap, dPar3_ap, DF.R.bind_ok, DF.R.bindS_ok, DF.R.bindN_ok, DF.SR.bind_nx, DF.SR.bind_ret, ofO, ths, setV, setF, free, set2, set3, fnRes, startE, startC, outs, argsD, putD, ioIx, isMu, look, muL, ltD_ap, leD_ap, gtD_ap, geD_ap, addD_ap, subD_ap, negD_ap, absD_ap, intD_ap, intD_apB, eq_int, ne_int, ixD, L2.atI, L2.ixN, lenD, gcdD, max2D, min2D, this]⟩
theorem badL_true : BadL (.bl true) := ⟨fun c0 => by simp [liB, dC_ap, dVar_ap, oVar_ap, oD_ap, aNil_ap, aCons_ap, vNil_ap, vCons_ap, dBin_ap, dTst_ap, dUn_ap, dCal_ap, dSeq_ap, dNever_ap, dIf_ap, dRet_ap, dRetF_ap, dRetN_ap, dRetV_ap, dExpr_ap, dSet_ap, dSetF_ap, gsNil_ap, gsCons_ap, gTp_ap, dAsg_ap, sLst_ap, sTup_ap, sRng1_ap, sRng2_ap, dForS_ap, dTru_ap, dAnd_ap, dOr_ap, dNot_ap, dAndV_ap, dOrV_ap, dNotV_ap, dIte_ap, dChain_ap, dTup_ap, dLst_ap, dApp_ap, dSetI_ap, rNil_ap, rVal_ap, rIo_ap, dCal2_ap, dV_ap, dN_ap, tYesB_ap, dLc_ap, dIsi_ap, dPar_ap, dDic0_ap, dPar3_ap, DF.R.bind_ok, DF.R.bindS_ok, DF.R.bindN_ok, DF.SR.bind_nx, DF.SR.bind_ret, ofO, ths, setV, setF, free, set2, set3, fnRes, startE, startC, outs, argsD, putD, ioIx, isMu, look, muL, ltD_ap, leD_ap, gtD_ap, geD_ap, addD_ap, subD_ap, negD_ap, absD_ap, intD_ap, intD_apB, eq_int, ne_int, ixD, L2.atI, L2.ixN, lenD, gcdD, max2D, min2D, isiD, tyN, k_bi, k_bb]⟩
theorem bad_tup (l : List Int) : Bad (pd l) := ⟨by
  unfold F_is_integer B_is_integer
  have : F_is_long_integer [(false, pd l)] = .ret false (.bl false) [] := by
    unfold F_is_long_integer B_is_long_integer
    simp [dC_ap, dVar_ap, oVar_ap, oD_ap, aNil_ap, aCons_ap, vNil_ap, vCons_ap, dBin_ap, dTst_ap, dUn_ap, dCal_ap, dSeq_ap, dNever_ap, dIf_ap, dRet_ap, dRetF_ap, dRetN_ap, dRetV_ap, dExpr_ap, dSet_ap, dSetF_ap, gsNil_ap, gsCons_ap, gTp_ap, dAsg_ap, sLst_ap, sTup_ap, sRng1_ap, sRng2_ap, dForS_ap, dTru_ap, dAnd_ap, dOr_ap, dNot_ap, dAndV_ap, dOrV_ap, dNotV_ap, dIte_ap, dChain_ap, dTup_ap, dLst_ap, dApp_ap, dSetI_ap, rNil_ap, rVal_ap, rIo_ap, dCal2_ap, dV_ap, dN_ap, tYesB_ap, dLc_ap, dIsi_ap, dPar_ap, dDic0_ap, dPar3_ap, DF.R.bind_ok, DF.R.bindS_ok, DF.R.bindN_ok, DF.SR.bind_nx, DF.SR.bind_ret, ofO, ths, setV, setF, free, set2, set3, fnRes, startE, startC, outs, argsD, putD, ioIx, isMu, look, muL, ltD_ap, leD_ap, gtD_ap, geD_ap, addD_ap, subD_ap, negD_ap, absD_ap, intD_ap, intD_apB, eq_int, ne_int, ixD, L2.atI, L2.ixN, lenD, gcdD, max2D, min2D, isiD, tyN, k_ti]
  simp [dC_ap, dVar_ap, oVar_ap, oD_ap, aNil_ap, aCons_ap, vNil_ap, vCons_ap, dBin_ap, dTst_ap, dUn_ap, dCal_ap, dSeq_ap, dNever_ap, dIf_ap, dRet_ap, dRetF_ap, dRetN_ap, dRetV_ap, dExpr_ap, dSet_ap, dSetF_ap, gsNil_ap, gsCons_ap, gTp_ap, dAsg_ap, sLst_ap, sTup_ap, sRng1_ap, sRng2_ap, dForS_ap, dTru_ap, dAnd_ap, dOr_ap, dNot_ap, dAndV_ap, dOrV_ap, dNotV_ap, dIte_ap, dChain_ap, dTup_ap, dLst_ap, dApp_ap, dSetI_ap, rNil_ap, rVal_ap, rIo_ap, dCal2_ap, dV_ap, dN_ap, tYesB_ap, dLc_ap, dIsi_ap, dPar_ap, dDic0_ap, dPar3_ap, DF.R.bind_ok, DF.R.bindS_ok, DF.R.bindN_ok, DF.SR.bind_nx, DF.SR.bind_ret, ofO, ths, setV, setF, free, set2, set3, fnRes, startE, startC, outs, argsD, putD, ioIx, isMu, look, muL, ltD_ap, leD_ap, gtD_ap, geD_ap, addD_ap, subD_ap, negD_ap, absD_ap, intD_ap, intD_apB, eq_int, ne_int, ixD, L2.atI, L2.ixN, lenD, gcdD, max2D, min2D, this]⟩
theorem badL_tup (l : List Int) : BadL (pd l) := ⟨fun c0 => by simp [liB, dC_ap, dVar_ap, oVar_ap, oD_ap, aNil_ap, aCons_ap, vNil_ap, vCons_ap, dBin_ap, dTst_ap, dUn_ap, dCal_ap, dSeq_ap, dNever_ap, dIf_ap, dRet_ap, dRetF_ap, dRetN_ap, dRetV_ap, dExpr_ap, dSet_ap, dSetF_ap, gsNil_ap, gsCons_ap, gTp_ap, dAsg_ap, sLst_ap, sTup_ap, sRng1_ap, sRng2_ap, dForS_ap, dTru_ap, dAnd_ap, dOr_ap, dNot_ap, dAndV_ap, dOrV_ap, dNotV_ap, dIte_ap, dChain_ap, dTup_ap, dLst_ap, dApp_ap, dSetI_ap, rNil_ap, rVal_ap, rIo_ap, dCal2_ap, dV_ap, dN_ap, tYesB_ap, dLc_ap, dIsi_ap, dPar_ap, dDic0_ap, dPar3_ap, DF.R.bind_ok, DF.R.bindS_ok, DF.R.bindN_ok, DF.SR.bind_nx, DF.SR.bind_ret, ofO, ths, setV, setF, free, set2, set3, fnRes, startE, startC, outs, argsD, putD, ioIx, isMu, look, muL, ltD_ap, leD_ap, gtD_ap, geD_ap, addD_ap, subD_ap, negD_ap, absD_ap, intD_ap, intD_apB, eq_int, ne_int, ixD, L2.atI, L2.ixN, lenD, gcdD, max2D, min2D, isiD, tyN, k_ti]⟩
theorem ag_lst (l : List D) : Agree (.lst l) := by
  refine ⟨false, ?_, ?_⟩
  · rfl
  · rfl
end K04

namespace K04
open PySem DF KM KP
def jT : DEnv → DF.R Bool := dTst (dBin neD1 (oD (dCal rprD (aCons (oD (dV (dCal2 1 F_is_polynomial (rVal (dVar 3) (rNil))))) (aNil)))) (oD (dCal rprD (aCons (oD (dV (dCal2 1 F_q_is_line (rVal (dVar 3) (rNil))))) (aNil)))))
theorem ne_txt (b : Bool) : neD1 (.str (if b then "True" else "False")) (.str (if b then "True" else "False")) = some (.bl false) := ne_same (by cases b <;> decide +kernel)
theorem jT_ap {v : D} (h : Agree v) (c0 c1 c2 : Option Cell) : jT [c0, c1, c2, some (.val v)] = .ok [c0, c1, c2, some (.val v)] false := by
  obtain ⟨b, e1, e2⟩ := h.ex
  have := ne_txt b
  simp [jT, dC_ap, dVar_ap, oVar_ap, oD_ap, aNil_ap, aCons_ap, vNil_ap, vCons_ap, dBin_ap, dTst_ap, dUn_ap, dCal_ap, dSeq_ap, dNever_ap, dIf_ap, dRet_ap, dRetF_ap, dRetN_ap, dRetV_ap, dExpr_ap, dSet_ap, dSetF_ap, gsNil_ap, gsCons_ap, gTp_ap, dAsg_ap, sLst_ap, sTup_ap, sRng1_ap, sRng2_ap, dForS_ap, dTru_ap, dAnd_ap, dOr_ap, dNot_ap, dAndV_ap, dOrV_ap, dNotV_ap, dIte_ap, dChain_ap, dTup_ap, dLst_ap, dApp_ap, dSetI_ap, rNil_ap, rVal_ap, rIo_ap, dCal2_ap, dV_ap, dN_ap, tYesB_ap, dLc_ap, dIsi_ap, dPar_ap, dDic0_ap, dPar3_ap, DF.R.bind_ok, DF.R.bindS_ok, DF.R.bindN_ok, DF.SR.bind_nx, DF.SR.bind_ret, ofO, ths, setV, setF, free, set2, set3, fnRes, startE, startC, outs, argsD, putD, ioIx, isMu, look, muL, ltD_ap, leD_ap, gtD_ap, geD_ap, addD_ap, subD_ap, negD_ap, absD_ap, intD_ap, intD_apB, eq_int, ne_int, ixD, L2.atI, L2.ixN, lenD, gcdD, max2D, min2D, e1, e2, rprD, this]
theorem j_loop (c0 c1 c2 : Option Cell) : ∀ l : List D, (∀ v ∈ l, Agree v) → dLcGo (setV 3) jT (dVar 3) [3] l [] [c0, c1, c2, none] = .ok [c0, c1, c2, none] (.lst [])
  | [], _ => rfl
  | v :: l, h => by
    have ih := j_loop c0 c1 c2 l fun x hx => h x (List.mem_cons_of_mem _ hx)
    have e := jT_ap (h v List.mem_cons_self) c0 c1 c2
    unfold dLcGo
    simp [setV, free, e, R.bindN_ok, noMu, wipeE, ih]
theorem catL_s {l m : List D} (h1 : l.length ≤ 1000) (h2 : m.length ≤ 1000) : addD (.lst l) (.lst m) = some (.lst (l ++ m)) := catL_ap (by omega)
theorem catT_s {l m : List D} (h1 : l.length ≤ 1000) (h2 : m.length ≤ 1000) : addD (.tup l) (.tup m) = some (.tup (l ++ m)) := catT_ap (by omega)
theorem r41 : mulD (.tup [.int 1]) (.int 41) = some (.tup (List.replicate 41 (.int 1))) := by kernel_rfl
theorem r42 : mulD (.tup [.int 1]) (.int 42) = some (.tup (List.replicate 42 (.int 1))) := by kernel_rfl
def some1 (l : List Int) : List D := [pd l, ld l, .tup (l.map D.int ++ [.int 0]), .tup (l.map D.int ++ [.int 1]), .tup [], .non, .int 0, .str (Str.ofString "1"), .dic [], .tup [.non], .tup [.bl true], .tup (l.map D.int ++ [.bl true]), .tup [.str (Str.ofString "1")], .tup [pd l]]
def some2 : List D := [.tup [.int 0], .tup [.int 0, .int 0], .tup (List.replicate 41 (.int 1)), .tup (List.replicate 42 (.int 1)), .tup [.int 1000000000000000000000000000000000000000000000000000000000000], .tup [.int 999999999999999999999999999999999999999999999999999999999999], .tup [.int (-999999999999999999999999999999999999999999999999999999999999), .int 1], .tup [.tup [.int 1, .int 2], .int 1]]
theorem x0 {d d1 a : D} (e1 : F_q_some_line [(true, d), (false, .int 6)] = .ret false a [d1]) : (dSet 1 (dV (dCal2 2 F_q_some_line (rIo 0 (rVal (dC (.int 6)) (rNil)))))) [some (.mu true d), none, none, none] = .nx [some (.mu true d1), some (.val a), none, none] := by
  simp [dC_ap, dVar_ap, oVar_ap, oD_ap, aNil_ap, aCons_ap, vNil_ap, vCons_ap, dBin_ap, dTst_ap, dUn_ap, dCal_ap, dSeq_ap, dNever_ap, dIf_ap, dRet_ap, dRetF_ap, dRetN_ap, dRetV_ap, dExpr_ap, dSet_ap, dSetF_ap, gsNil_ap, gsCons_ap, gTp_ap, dAsg_ap, sLst_ap, sTup_ap, sRng1_ap, sRng2_ap, dForS_ap, dTru_ap, dAnd_ap, dOr_ap, dNot_ap, dAndV_ap, dOrV_ap, dNotV_ap, dIte_ap, dChain_ap, dTup_ap, dLst_ap, dApp_ap, dSetI_ap, rNil_ap, rVal_ap, rIo_ap, dCal2_ap, dV_ap, dN_ap, tYesB_ap, dLc_ap, dIsi_ap, dPar_ap, dDic0_ap, dPar3_ap, DF.R.bind_ok, DF.R.bindS_ok, DF.R.bindN_ok, DF.SR.bind_nx, DF.SR.bind_ret, ofO, ths, setV, setF, free, set2, set3, fnRes, startE, startC, outs, argsD, putD, ioIx, isMu, look, muL, ltD_ap, leD_ap, gtD_ap, geD_ap, addD_ap, subD_ap, negD_ap, absD_ap, intD_ap, intD_apB, eq_int, ne_int, ixD, L2.atI, L2.ixN, lenD, gcdD, max2D, min2D, e1]
theorem x1 {c0 c3 : Option Cell} {l : List Int} (hl : l.length ≤ 1000) : (dSet 2 (dLst (vCons (dVar 1) (vCons (dMk seqOf (oVar 1)) (vCons (dBin addD (oVar 1) (oD (dTup (vCons (dC (.int 0)) (vNil))))) (vCons (dBin addD (oVar 1) (oD (dTup (vCons (dC (.int 1)) (vNil))))) (vCons (dTup (vNil)) (vCons (dC .non) (vCons (dC (.int 0)) (vCons (dC (.str (Str.ofString "1"))) (vCons (dDic0) (vCons (dTup (vCons (dC .non) (vNil))) (vCons (dTup (vCons (dC (.bl true)) (vNil))) (vCons (dBin addD (oVar 1) (oD (dTup (vCons (dC (.bl true)) (vNil))))) (vCons (dTup (vCons (dC (.str (Str.ofString "1"))) (vNil))) (vCons (dTup (vCons (dVar 1) (vNil))) (vNil))))))))))))))))) [c0, some (.val (pd l)), none, c3] = .nx [c0, some (.val (pd l)), some (.val (.lst (some1 l))), c3] := by
  have hl' : (l.map D.int).length ≤ 1000 := by rw [List.length_map]; exact hl
  have a0 := catT_s (l := l.map D.int) (m := [.int 0]) hl' (by simp)
  have a1 := catT_s (l := l.map D.int) (m := [.int 1]) hl' (by simp)
  have a2 := catT_s (l := l.map D.int) (m := [.bl true]) hl' (by simp)
  simp [dMk, seqOf, some1, dC_ap, dVar_ap, oVar_ap, oD_ap, aNil_ap, aCons_ap, vNil_ap, vCons_ap, dBin_ap, dTst_ap, dUn_ap, dCal_ap, dSeq_ap, dNever_ap, dIf_ap, dRet_ap, dRetF_ap, dRetN_ap, dRetV_ap, dExpr_ap, dSet_ap, dSetF_ap, gsNil_ap, gsCons_ap, gTp_ap, dAsg_ap, sLst_ap, sTup_ap, sRng1_ap, sRng2_ap, dForS_ap, dTru_ap, dAnd_ap, dOr_ap, dNot_ap, dAndV_ap, dOrV_ap, dNotV_ap, dIte_ap, dChain_ap, dTup_ap, dLst_ap, dApp_ap, dSetI_ap, rNil_ap, rVal_ap, rIo_ap, dCal2_ap, dV_ap, dN_ap, tYesB_ap, dLc_ap, dIsi_ap, dPar_ap, dDic0_ap, dPar3_ap, DF.R.bind_ok, DF.R.bindS_ok, DF.R.bindN_ok, DF.SR.bind_nx, DF.SR.bind_ret, ofO, ths, setV, setF, free, set2, set3, fnRes, startE, startC, outs, argsD, putD, ioIx, isMu, look, muL, ltD_ap, leD_ap, gtD_ap, geD_ap, addD_ap, subD_ap, negD_ap, absD_ap, intD_ap, intD_apB, eq_int, ne_int, ixD, L2.atI, L2.ixN, lenD, gcdD, max2D, min2D, a0, a1, a2]
theorem x2 {c0 c1 c3 : Option Cell} {l : List D} (hl : l.length ≤ 1000) : (dSet 2 (dBin addD (oVar 2) (oD (dLst (vCons (dTup (vCons (dC (.int 0)) (vNil))) (vCons (dTup (vCons (dC (.int 0)) (vCons (dC (.int 0)) (vNil)))) (vCons (dBin mulD (oD (dTup (vCons (dC (.int 1)) (vNil)))) (oD (dC (.int 41)))) (vCons (dBin mulD (oD (dTup (vCons (dC (.int 1)) (vNil)))) (oD (dC (.int 42)))) (vCons (dTup (vCons (dBin powD (oD (dC (.int 10))) (oD (dC (.int 60)))) (vNil))) (vCons (dTup (vCons (dBin subD (oD (dBin powD (oD (dC (.int 10))) (oD (dC (.int 60))))) (oD (dC (.int 1)))) (vNil))) (vCons (dTup (vCons (dBin subD (oD (dC (.int 1))) (oD (dBin powD (oD (dC (.int 10))) (oD (dC (.int 60)))))) (vCons (dC (.int 1)) (vNil)))) (vCons (dTup (vCons (dTup (vCons (dC (.int 1)) (vCons (dC (.int 2)) (vNil)))) (vCons (dC (.int 1)) (vNil)))) (vNil))))))))))))) [c0, c1, some (.val (.lst l)), c3] = .nx [c0, c1, some (.val (.lst (l ++ some2))), c3] := by
  have a0 := catL_s (l := l) (m := some2) hl (by simp [some2])
  unfold some2 at a0
  simp [some2, dC_ap, dVar_ap, oVar_ap, oD_ap, aNil_ap, aCons_ap, vNil_ap, vCons_ap, dBin_ap, dTst_ap, dUn_ap, dCal_ap, dSeq_ap, dNever_ap, dIf_ap, dRet_ap, dRetF_ap, dRetN_ap, dRetV_ap, dExpr_ap, dSet_ap, dSetF_ap, gsNil_ap, gsCons_ap, gTp_ap, dAsg_ap, sLst_ap, sTup_ap, sRng1_ap, sRng2_ap, dForS_ap, dTru_ap, dAnd_ap, dOr_ap, dNot_ap, dAndV_ap, dOrV_ap, dNotV_ap, dIte_ap, dChain_ap, dTup_ap, dLst_ap, dApp_ap, dSetI_ap, rNil_ap, rVal_ap, rIo_ap, dCal2_ap, dV_ap, dN_ap, tYesB_ap, dLc_ap, dIsi_ap, dPar_ap, dDic0_ap, dPar3_ap, DF.R.bind_ok, DF.R.bindS_ok, DF.R.bindN_ok, DF.SR.bind_nx, DF.SR.bind_ret, ofO, ths, setV, setF, free, set2, set3, fnRes, startE, startC, outs, argsD, putD, ioIx, isMu, look, muL, ltD_ap, leD_ap, gtD_ap, geD_ap, addD_ap, subD_ap, negD_ap, absD_ap, intD_ap, intD_apB, eq_int, ne_int, ixD, L2.atI, L2.ixN, lenD, gcdD, max2D, min2D, p60, r41, r42, a0, -List.reduceReplicate]
theorem x3 {c0 c1 : Option Cell} {l : List D} (hl : ∀ v ∈ l, Agree v) : (dRet (dBin eqD1 (oD (dLc (sLst (dVar 2)) (setV 3) (dTst (dBin neD1 (oD (dCal rprD (aCons (oD (dV (dCal2 1 F_is_polynomial (rVal (dVar 3) (rNil))))) (aNil)))) (oD (dCal rprD (aCons (oD (dV (dCal2 1 F_q_is_line (rVal (dVar 3) (rNil))))) (aNil)))))) (dVar 3) [3])) (oD (dLst (vNil))))) [c0, c1, some (.val (.lst l)), none] = .ret [c0, c1, some (.val (.lst l)), none] false (.bl true) := by
  rw [show (dTst (dBin neD1 (oD (dCal rprD (aCons (oD (dV (dCal2 1 F_is_polynomial (rVal (dVar 3) (rNil))))) (aNil)))) (oD (dCal rprD (aCons (oD (dV (dCal2 1 F_q_is_line (rVal (dVar 3) (rNil))))) (aNil)))))) = jT from rfl]
  have := j_loop c0 c1 (some (.val (.lst l))) l hl
  simp [dC_ap, dVar_ap, oVar_ap, oD_ap, aNil_ap, aCons_ap, vNil_ap, vCons_ap, dBin_ap, dTst_ap, dUn_ap, dCal_ap, dSeq_ap, dNever_ap, dIf_ap, dRet_ap, dRetF_ap, dRetN_ap, dRetV_ap, dExpr_ap, dSet_ap, dSetF_ap, gsNil_ap, gsCons_ap, gTp_ap, dAsg_ap, sLst_ap, sTup_ap, sRng1_ap, sRng2_ap, dForS_ap, dTru_ap, dAnd_ap, dOr_ap, dNot_ap, dAndV_ap, dOrV_ap, dNotV_ap, dIte_ap, dChain_ap, dTup_ap, dLst_ap, dApp_ap, dSetI_ap, rNil_ap, rVal_ap, rIo_ap, dCal2_ap, dV_ap, dN_ap, tYesB_ap, dLc_ap, dIsi_ap, dPar_ap, dDic0_ap, dPar3_ap, DF.R.bind_ok, DF.R.bindS_ok, DF.R.bindN_ok, DF.SR.bind_nx, DF.SR.bind_ret, ofO, ths, setV, setF, free, set2, set3, fnRes, startE, startC, outs, argsD, putD, ioIx, isMu, look, muL, ltD_ap, leD_ap, gtD_ap, geD_ap, addD_ap, subD_ap, negD_ap, absD_ap, intD_ap, intD_apB, eq_int, ne_int, ixD, L2.atI, L2.ixN, lenD, gcdD, max2D, min2D, noMu, wipeE, this, eq_same (d := .lst []) rfl]
theorem ag2 : ∀ v ∈ some2, Agree v := by
  intro v hv
  simp only [some2, List.mem_cons, List.not_mem_nil, or_false] at hv
  rcases hv with rfl | rfl | rfl | rfl | rfl | rfl | rfl | rfl
  · exact ⟨true, by kernel_rfl, by kernel_rfl⟩
  · exact ⟨false, by kernel_rfl, by kernel_rfl⟩
  · exact ⟨true, by kernel_rfl, by kernel_rfl⟩
  · exact ⟨false, by kernel_rfl, by kernel_rfl⟩
  · exact ⟨false, by kernel_rfl, by kernel_rfl⟩
  · exact ⟨true, by kernel_rfl, by kernel_rfl⟩
  · exact ⟨true, by kernel_rfl, by kernel_rfl⟩
  · exact ⟨false, by kernel_rfl, by kernel_rfl⟩
end K04

namespace K04
open PySem DF KM KP
theorem e_judged {n : Nat} {d : D} (h : Bag n d) (hn : n ≤ 800000) : ∃ d', Bag (n + 27) d' ∧ F_q_judged_right [(true, d)] = .ret false (.bl true) [d'] := by
  obtain ⟨l, d1, hl, h1, e1⟩ := e_line' (m := 6) (k := 7) h (by omega) (by decide) (by decide) rfl
  have hp := (hl.pl (by decide)).pos
  have hlen := hl.len
  have hs : ∀ x ∈ l, x.natAbs ≤ 999999999999999999999999999999999999999999999999999999999999 := fun x hx => Nat.le_trans (hl.sm x hx) (by decide)
  have hc : ∀ v : Int, v.natAbs ≤ 1 → ∀ x ∈ l ++ [v], x.natAbs ≤ 999999999999999999999999999999999999999999999999999999999999 := fun v hv x hx => by
    rcases List.mem_append.mp hx with hx | hx
    · exact hs x hx
    · rw [List.mem_singleton.mp hx]
      exact Nat.le_trans hv (by decide)
  refine ⟨d1, h1, ?_⟩
  unfold F_q_judged_right B_q_judged_right
  rw [show startE 4 [(true, d)] = [some (.mu true d), none, none, none] from rfl, dSeq_ap, x0 e1, SR.bind_nx, dSeq_ap, x1 (by omega), SR.bind_nx, dSeq_ap, x2 (by simp [some1]), SR.bind_nx, x3]
  · rfl
  · intro v hv
    rcases List.mem_append.mp hv with hv | hv
    · simp only [some1, List.mem_cons, List.not_mem_nil, or_false] at hv
      rcases hv with rfl | rfl | rfl | rfl | rfl | rfl | rfl | rfl | rfl | rfl | rfl | rfl | rfl | rfl
      · exact ag_line hp (by omega) hs
      · exact ag_lst _
      · have := ag_line (l := l ++ [0]) (by simp) (by simp; omega) (hc 0 (by decide))
        unfold pd at this
        rw [List.map_append] at this
        exact this
      · have := ag_line (l := l ++ [1]) (by simp) (by simp; omega) (hc 1 (by decide))
        unfold pd at this
        rw [List.map_append] at this
        exact this
      · exact ⟨false, by kernel_rfl, by kernel_rfl⟩
      · exact ⟨false, by kernel_rfl, by kernel_rfl⟩
      · exact ⟨false, by kernel_rfl, by kernel_rfl⟩
      · exact ⟨false, by kernel_rfl, by kernel_rfl⟩
      · exact ⟨false, by kernel_rfl, by kernel_rfl⟩
      · exact ⟨false, by kernel_rfl, by kernel_rfl⟩
      · exact ⟨false, by kernel_rfl, by kernel_rfl⟩
      · exact ag_bad bad_true badL_true (by omega) hs
      · exact ⟨false, by kernel_rfl, by kernel_rfl⟩
      · exact ag_bad (l := []) (bad_tup l) (badL_tup l) (by simp) (fun x hx => by cases hx)
    · exact ag2 v hv
/-! ### the law -/
def sB : DEnv → SR := dSeq (dSetF 2 (dN (dCal2 2 F_q_bag (rVal (dVar 0) (rVal (dVar 1) (rNil))))))
    (dIf (dOr (dNot (dTst (dV (dCal2 1 F_q_products_right (rIo 2 (rNil)))))) (dNot (dTst (dV (dCal2 1 F_q_judged_right (rIo 2 (rNil))))))) (dRet (dC (.bl false))) (SR.nx))
def C2 (c : Option Cell) : Prop := c = none ∨ ∃ d, c = some (.mu false d)
theorem sB_ap (ns : List Int) (k : Nat) (h : k < ns.length ∨ (ns = [] ∧ k = 0)) (hk : k ≤ 2) (c2 c3 : Option Cell) (h2 : C2 c2) : ∃ c2', C2 c2' ∧ sB [some (.val (.fro (ns.map D.int))), some (.val (.int (k : Int))), c2, c3] = .nx [some (.val (.fro (ns.map D.int))), some (.val (.int (k : Int))), c2', c3] := by
  obtain ⟨d, hb, e1⟩ := e_bag ns k h hk
  obtain ⟨d1, hb1, e2⟩ := e_products hb (by omega)
  obtain ⟨d2, hb2, e3⟩ := e_judged hb1 (by omega)
  refine ⟨some (.mu false d2), .inr ⟨d2, rfl⟩, ?_⟩
  have s1 : dSetF 2 (dN (dCal2 2 F_q_bag (rVal (dVar 0) (rVal (dVar 1) (rNil))))) [some (.val (.fro (ns.map D.int))), some (.val (.int (k : Int))), c2, c3] = .nx [some (.val (.fro (ns.map D.int))), some (.val (.int (k : Int))), some (.mu false d), c3] := by
    rcases h2 with rfl | ⟨y, rfl⟩
    · simp [dC_ap, dVar_ap, oVar_ap, oD_ap, aNil_ap, aCons_ap, vNil_ap, vCons_ap, dBin_ap, dTst_ap, dUn_ap, dCal_ap, dSeq_ap, dNever_ap, dIf_ap, dRet_ap, dRetF_ap, dRetN_ap, dRetV_ap, dExpr_ap, dSet_ap, dSetF_ap, gsNil_ap, gsCons_ap, gTp_ap, dAsg_ap, sLst_ap, sTup_ap, sRng1_ap, sRng2_ap, dForS_ap, dTru_ap, dAnd_ap, dOr_ap, dNot_ap, dAndV_ap, dOrV_ap, dNotV_ap, dIte_ap, dChain_ap, dTup_ap, dLst_ap, dApp_ap, dSetI_ap, rNil_ap, rVal_ap, rIo_ap, dCal2_ap, dV_ap, dN_ap, tYesB_ap, dLc_ap, dIsi_ap, dPar_ap, dDic0_ap, dPar3_ap, DF.R.bind_ok, DF.R.bindS_ok, DF.R.bindN_ok, DF.SR.bind_nx, DF.SR.bind_ret, ofO, ths, setV, setF, free, set2, set3, fnRes, startE, startC, outs, argsD, putD, ioIx, isMu, look, muL, ltD_ap, leD_ap, gtD_ap, geD_ap, addD_ap, subD_ap, negD_ap, absD_ap, intD_ap, intD_apB, eq_int, ne_int, ixD, L2.atI, L2.ixN, lenD, gcdD, max2D, min2D, e1]
    · simp [dC_ap, dVar_ap, oVar_ap, oD_ap, aNil_ap, aCons_ap, vNil_ap, vCons_ap, dBin_ap, dTst_ap, dUn_ap, dCal_ap, dSeq_ap, dNever_ap, dIf_ap, dRet_ap, dRetF_ap, dRetN_ap, dRetV_ap, dExpr_ap, dSet_ap, dSetF_ap, gsNil_ap, gsCons_ap, gTp_ap, dAsg_ap, sLst_ap, sTup_ap, sRng1_ap, sRng2_ap, dForS_ap, dTru_ap, dAnd_ap, dOr_ap, dNot_ap, dAndV_ap, dOrV_ap, dNotV_ap, dIte_ap, dChain_ap, dTup_ap, dLst_ap, dApp_ap, dSetI_ap, rNil_ap, rVal_ap, rIo_ap, dCal2_ap, dV_ap, dN_ap, tYesB_ap, dLc_ap, dIsi_ap, dPar_ap, dDic0_ap, dPar3_ap, DF.R.bind_ok, DF.R.bindS_ok, DF.R.bindN_ok, DF.SR.bind_nx, DF.SR.bind_ret, ofO, ths, setV, setF, free, set2, set3, fnRes, startE, startC, outs, argsD, putD, ioIx, isMu, look, muL, ltD_ap, leD_ap, gtD_ap, geD_ap, addD_ap, subD_ap, negD_ap, absD_ap, intD_ap, intD_apB, eq_int, ne_int, ixD, L2.atI, L2.ixN, lenD, gcdD, max2D, min2D, e1]
  have s2 : dIf (dOr (dNot (dTst (dV (dCal2 1 F_q_products_right (rIo 2 (rNil)))))) (dNot (dTst (dV (dCal2 1 F_q_judged_right (rIo 2 (rNil))))))) (dRet (dC (.bl false))) (SR.nx) [some (.val (.fro (ns.map D.int))), some (.val (.int (k : Int))), some (.mu false d), c3] = .nx [some (.val (.fro (ns.map D.int))), some (.val (.int (k : Int))), some (.mu false d2), c3] := by
    simp [dC_ap, dVar_ap, oVar_ap, oD_ap, aNil_ap, aCons_ap, vNil_ap, vCons_ap, dBin_ap, dTst_ap, dUn_ap, dCal_ap, dSeq_ap, dNever_ap, dIf_ap, dRet_ap, dRetF_ap, dRetN_ap, dRetV_ap, dExpr_ap, dSet_ap, dSetF_ap, gsNil_ap, gsCons_ap, gTp_ap, dAsg_ap, sLst_ap, sTup_ap, sRng1_ap, sRng2_ap, dForS_ap, dTru_ap, dAnd_ap, dOr_ap, dNot_ap, dAndV_ap, dOrV_ap, dNotV_ap, dIte_ap, dChain_ap, dTup_ap, dLst_ap, dApp_ap, dSetI_ap, rNil_ap, rVal_ap, rIo_ap, dCal2_ap, dV_ap, dN_ap, tYesB_ap, dLc_ap, dIsi_ap, dPar_ap, dDic0_ap, dPar3_ap, DF.R.bind_ok, DF.R.bindS_ok, DF.R.bindN_ok, DF.SR.bind_nx, DF.SR.bind_ret, ofO, ths, setV, setF, free, set2, set3, fnRes, startE, startC, outs, argsD, putD, ioIx, isMu, look, muL, ltD_ap, leD_ap, gtD_ap, geD_ap, addD_ap, subD_ap, negD_ap, absD_ap, intD_ap, intD_apB, eq_int, ne_int, ixD, L2.atI, L2.ixN, lenD, gcdD, max2D, min2D, e2, e3]
  unfold sB
  rw [dSeq_ap, s1, SR.bind_nx, s2]
theorem s_loop (ns : List Int) (c3 : Option Cell) : ∀ (ks : List Nat) (c1 c2 : Option Cell), Vc c1 → C2 c2 → (∀ k ∈ ks, (k < ns.length ∨ (ns = [] ∧ k = 0)) ∧ k ≤ 2) → ∃ c1' c2', dFor (setV 1) sB (ks.map fun (k : Nat) => D.int (0 + (k : Int))) [some (.val (.fro (ns.map D.int))), c1, c2, c3] = .nx [some (.val (.fro (ns.map D.int))), c1', c2', c3]
  | [], c1, c2, _, _, _ => ⟨c1, c2, rfl⟩
  | k :: ks, c1, c2, h1, h2, hk => by
    obtain ⟨q1, q2⟩ := hk k List.mem_cons_self
    obtain ⟨c2', h2', e⟩ := sB_ap ns k q1 q2 c2 c3 h2
    obtain ⟨x1, x2, e2⟩ := s_loop ns c3 ks (some (.val (.int (k : Int)))) c2' (.inr ⟨_, rfl⟩) h2' fun j hj => hk j (List.mem_cons_of_mem _ hj)
    refine ⟨x1, x2, ?_⟩
    have es : setV 1 (.int (k : Int)) [some (.val (.fro (ns.map D.int))), c1, c2, c3] = some [some (.val (.fro (ns.map D.int))), some (.val (.int (k : Int))), c2, c3] := by
      rcases h1 with rfl | ⟨y, rfl⟩ <;> simp [setV, free]
    rw [List.map_cons]
    unfold dFor
    rw [Int.zero_add, es]
    dsimp only
    rw [e]
    exact e2
theorem law0 (ns : List Int) : ∃ c1' c2', (dForS (sRng1 (vCons (dCal max2D (aCons (oD (dC (.int 1))) (aCons (oD (dCal min2D (aCons (oD (dC (.int 3))) (aCons (oD (dCal lenD (aCons (oVar 0) (aNil)))) (aNil))))) (aNil)))) (vNil))) (setV 1) (dSeq (dSetF 2 (dN (dCal2 2 F_q_bag (rVal (dVar 0) (rVal (dVar 1) (rNil))))))
    (dIf (dOr (dNot (dTst (dV (dCal2 1 F_q_products_right (rIo 2 (rNil)))))) (dNot (dTst (dV (dCal2 1 F_q_judged_right (rIo 2 (rNil))))))) (dRet (dC (.bl false))) (SR.nx)))) [some (.val (.fro (ns.map D.int))), none, none, none] = .nx [some (.val (.fro (ns.map D.int))), c1', c2', none] := by
  obtain ⟨c1, c2, e⟩ := s_loop ns none (List.range (max 1 (min 3 ns.length))) none none (.inl rfl) (.inl rfl) (fun k hk => by
    have := List.mem_range.mp hk
    refine ⟨?_, by omega⟩
    cases ns with
    | nil => exact .inr ⟨rfl, by simp at this; omega⟩
    | cons x r => exact .inl (by simp at this ⊢; omega))
  refine ⟨c1, c2, ?_⟩
  have hv : max2D [.int 1, .int (if (ns.length : Int) < 3 then (ns.length : Int) else 3)] = some (.int ((max 1 (min 3 ns.length) : Nat) : Int)) := by
    unfold max2D
    simp only
    congr 2
    split <;> split <;> omega
  have hm : min2D [.int 3, .int (ns.length : Int)] = some (.int (if (ns.length : Int) < 3 then (ns.length : Int) else 3)) := rfl
  have hl : lenD [.fro (ns.map D.int)] = some (.int (ns.length : Int)) := by
    unfold lenD
    simp
  have ev : vCons (dCal max2D (aCons (oD (dC (.int 1))) (aCons (oD (dCal min2D (aCons (oD (dC (.int 3))) (aCons (oD (dCal lenD (aCons (oVar 0) (aNil)))) (aNil))))) (aNil)))) (vNil) [some (.val (.fro (ns.map D.int))), none, none, none] = .ok [some (.val (.fro (ns.map D.int))), none, none, none] [.int ((max 1 (min 3 ns.length) : Nat) : Int)] := by
    simp only [vCons_ap, vNil_ap, dCal_ap, aCons_ap, aNil_ap, oD_ap, dC_ap, oVar_ap, DF.R.bind_ok, ths, ofO, look, List.getElem?_cons_zero, hl, hm, hv]
  have er := rng1_ap' (inR_nat (show max 1 (min 3 ns.length) ≤ 1000 by omega)) ev
  rw [dForS_ap, er, DF.R.bindS_ok]
  exact e
theorem law1 (c0 c1 c2 : Option Cell) : (dSet 3 (dLst (vCons (dV (dCal2 2 F_polynomial_product (rVal (dTup (vCons (dC (.int 1)) (vCons (dUn negD (oD (dC (.int 1)))) (vNil)))) (rVal (dTup (vCons (dC (.int 1)) (vCons (dC (.int 1)) (vNil)))) (rNil))))) (vCons (dV (dCal2 2 F_polynomial_sum (rVal (dTup (vCons (dC (.int 1)) (vCons (dC (.int 2)) (vNil)))) (rVal (dTup (vCons (dC (.int 3)) (vCons (dUn negD (oD (dC (.int 2)))) (vNil)))) (rNil))))) (vCons (dV (dCal2 2 F_polynomial_quotient (rVal (dTup (vCons (dUn negD (oD (dC (.int 1)))) (vCons (dC (.int 0)) (vCons (dC (.int 0)) (vCons (dC (.int 1)) (vNil)))))) (rVal (dTup (vCons (dUn negD (oD (dC (.int 1)))) (vCons (dC (.int 1)) (vNil)))) (rNil))))) (vNil)))))) [c0, c1, c2, none] = .nx [c0, c1, c2, some (.val (.lst [pd [1, 0, -1], pd [4], pd [1, 1, 1]]))] := by kernel_rfl
theorem law2 (c0 c1 c2 : Option Cell) : (dSet 3 (dBin addD (oVar 3) (oD (dLst (vCons (dV (dCal2 2 F_polynomial_quotient (rVal (dTup (vCons (dC (.int 1)) (vCons (dC (.int 0)) (vCons (dC (.int 1)) (vNil))))) (rVal (dTup (vCons (dC (.int 1)) (vCons (dC (.int 1)) (vNil)))) (rNil))))) (vCons (dV (dCal2 2 F_polynomial_value (rVal (dTup (vCons (dC (.int 1)) (vCons (dC (.int 0)) (vCons (dUn negD (oD (dC (.int 2)))) (vNil))))) (rVal (dTup (vCons (dC (.int 1)) (vCons (dC (.int 2)) (vNil)))) (rNil))))) (vCons (dV (dCal2 2 F_polynomial_quotient (rVal (dTup (vCons (dC (.int 0)) (vNil))) (rVal (dTup (vCons (dC (.int 0)) (vCons (dC (.int 3)) (vNil)))) (rNil))))) (vNil)))))))) [c0, c1, c2, some (.val (.lst [pd [1, 0, -1], pd [4], pd [1, 1, 1]]))] = .nx [c0, c1, c2, some (.val (.lst [pd [1, 0, -1], pd [4], pd [1, 1, 1], .non, pd [1, 2], pd [0]]))] := by kernel_rfl
theorem law3 (c0 c1 c2 : Option Cell) : (dRet (dBin eqD1 (oVar 3) (oD (dLst (vCons (dTup (vCons (dC (.int 1)) (vCons (dC (.int 0)) (vCons (dUn negD (oD (dC (.int 1)))) (vNil))))) (vCons (dTup (vCons (dC (.int 4)) (vNil))) (vCons (dTup (vCons (dC (.int 1)) (vCons (dC (.int 1)) (vCons (dC (.int 1)) (vNil))))) (vCons (dC .non) (vCons (dTup (vCons (dC (.int 1)) (vCons (dC (.int 2)) (vNil)))) (vCons (dTup (vCons (dC (.int 0)) (vNil))) (vNil))))))))))) [c0, c1, c2, some (.val (.lst [pd [1, 0, -1], pd [4], pd [1, 1, 1], .non, pd [1, 2], pd [0]]))] = .ret [c0, c1, c2, some (.val (.lst [pd [1, 0, -1], pd [4], pd [1, 1, 1], .non, pd [1, 2], pd [0]]))] false (.bl true) := by kernel_rfl
theorem law_true (ns : List Int) (h : ns.length ≤ 63) : F_law [(false, .fro (ns.map D.int))] = .ret false (.bl true) [] := by
  obtain ⟨c1, c2, e⟩ := law0 ns
  unfold F_law B_law
  rw [show startE 4 [(false, .fro (ns.map D.int))] = [some (.val (.fro (ns.map D.int))), none, none, none] from rfl, dSeq_ap, e, SR.bind_nx, dSeq_ap, law1, SR.bind_nx, dSeq_ap, law2, SR.bind_nx, law3]
  rfl
end K04

open PySem PySem.W PyProof.Rows
set_option maxHeartbeats 0 in
theorem PySem.Challenge.cw_wholerises_k04_whole_polynomials_holds : PySem.Challenge.rw_wholerises_k04_whole_polynomials.Holds := by
  w_on; o_law; k_head; (case hw => w_witness2)
  k_fill
  refine L2.walk_of (l := PySem.Challenge.rw_wholerises_k04_whole_polynomials) (n := 63) (k := 8) (x := "_law_script") (CX := fun w => L2.CX PySem.Challenge.rw_wholerises_k04_whole_polynomials.prog w) (sp := fun w => DF.spD _ 1 K04.F_law) rfl (by decide) rfl ⟨rfl, by decide, by decide⟩ (fun w h Y => PySem.W.kIn_of Y) ?F (fun _ _ a ns hl _ hS => DF.hsp_of (K04.law_true ns hl) hS) (fun _ _ _ _ _ h => DF.cx_end h)
  case F =>
    intro w mg fa h KX G hmg
    refine' K04.all_mk KX G hmg ?a0 ?l0 ?c0 ?k0 ?a1 ?l1 ?c1 ?k1 ?a2 ?l2 ?c2 ?k2 ?a3 ?l3 ?c3 ?k3 ?a4 ?l4 ?c4 ?k4 ?a5 ?l5 ?c5 ?k5 ?a6 ?l6 ?c6 ?k6 ?a7 ?l7 ?c7 ?k7 ?a8 ?l8 ?c8 ?k8 ?a9 ?l9 ?c9 ?k9 ?a10 ?l10 ?c10 ?k10 ?a11 ?l11 ?c11 ?k11 ?a12 ?l12 ?c12 ?k12 ?a13 ?l13 ?c13 ?k13 ?a14 ?l14 ?c14 ?k14 ?a15 ?l15 ?c15 ?k15 ?a16 ?l16 ?c16 ?k16 ?a17 ?l17 ?c17 ?k17 ?a18 ?l18 ?c18 ?k18 ?a19 ?l19 ?c19 ?k19 ?a20 ?l20 ?c20 ?k20 ?a21 ?l21 ?c21 ?k21 ?a22 ?l22 ?c22 ?k22 ?a23 ?l23 ?c23 ?k23 ?a24 ?l24 ?c24 ?k24 ?a25 ?l25 ?c25 ?k25 ?a26 ?l26 ?c26 ?k26 ?a27 ?l27 ?c27 ?k27 ?a28 ?l28 ?c28 ?k28 ?a29 ?l29 ?c29 ?k29 ?a30 ?l30 ?c30 ?k30 ?a31 ?l31 ?c31 ?k31 ?z_abs ?z_all ?z_any ?z_bool ?z_enumerate ?z_int ?z_isinstance ?z_len ?z_list ?z_max ?z_min ?z_range ?z_repr ?z_reversed ?z_sum ?z_tuple ?q_MAX_DEGREE ?q_MAX_INTEGER ?m_gcd
    (case a0 => k_is); (case l0 => k_is); (case c0 => k_is); (case k0 => k_is); (case a1 => k_is); (case l1 => k_is); (case c1 => k_is); (case k1 => k_is); (case a2 => k_is); (case l2 => k_is); (case c2 => k_is); (case k2 => k_is); (case a3 => k_is); (case l3 => k_is); (case c3 => k_is); (case k3 => k_is); (case a4 => k_is); (case l4 => k_is); (case c4 => k_is); (case k4 => k_is); (case a5 => k_is); (case l5 => k_is); (case c5 => k_is); (case k5 => k_is); (case a6 => k_is); (case l6 => k_is); (case c6 => k_is); (case k6 => k_is); (case a7 => k_is); (case l7 => k_is); (case c7 => k_is); (case k7 => k_is); (case a8 => k_is); (case l8 => k_is); (case c8 => k_is); (case k8 => k_is); (case a9 => k_is); (case l9 => k_is); (case c9 => k_is); (case k9 => k_is); (case a10 => k_is); (case l10 => k_is); (case c10 => k_is); (case k10 => k_is); (case a11 => k_is); (case l11 => k_is); (case c11 => k_is); (case k11 => k_is); (case a12 => k_is); (case l12 => k_is); (case c12 => k_is); (case k12 => k_is); (case a13 => k_is); (case l13 => k_is); (case c13 => k_is); (case k13 => k_is); (case a14 => k_is); (case l14 => k_is); (case c14 => k_is); (case k14 => k_is); (case a15 => k_is); (case l15 => k_is); (case c15 => k_is); (case k15 => k_is); (case a16 => k_is); (case l16 => k_is); (case c16 => k_is); (case k16 => k_is); (case a17 => k_is); (case l17 => k_is); (case c17 => k_is); (case k17 => k_is); (case a18 => k_is); (case l18 => k_is); (case c18 => k_is); (case k18 => k_is); (case a19 => k_is); (case l19 => k_is); (case c19 => k_is); (case k19 => k_is); (case a20 => k_is); (case l20 => k_is); (case c20 => k_is); (case k20 => k_is); (case a21 => k_is); (case l21 => k_is); (case c21 => k_is); (case k21 => k_is); (case a22 => k_is); (case l22 => k_is); (case c22 => k_is); (case k22 => k_is); (case a23 => k_is); (case l23 => k_is); (case c23 => k_is); (case k23 => k_is); (case a24 => k_is); (case l24 => k_is); (case c24 => k_is); (case k24 => k_is); (case a25 => k_is); (case l25 => k_is); (case c25 => k_is); (case k25 => k_is); (case a26 => k_is); (case l26 => k_is); (case c26 => k_is); (case k26 => k_is); (case a27 => k_is); (case l27 => k_is); (case c27 => k_is); (case k27 => k_is); (case a28 => k_is); (case l28 => k_is); (case c28 => k_is); (case k28 => k_is); (case a29 => k_is); (case l29 => k_is); (case c29 => k_is); (case k29 => k_is); (case a30 => k_is); (case l30 => k_is); (case c30 => k_is); (case k30 => k_is); (case a31 => k_is); (case l31 => k_is); (case c31 => k_is); (case k31 => k_is); (case z_abs => k_is); (case z_all => k_is); (case z_any => k_is); (case z_bool => k_is); (case z_enumerate => k_is); (case z_int => k_is); (case z_isinstance => k_is); (case z_len => k_is); (case z_list => k_is); (case z_max => k_is); (case z_min => k_is); (case z_range => k_is); (case z_repr => k_is); (case z_reversed => k_is); (case z_sum => k_is); (case z_tuple => k_is); (case q_MAX_DEGREE => k_is); (case q_MAX_INTEGER => k_is); (case m_gcd => k_is)
