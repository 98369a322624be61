import PyProof.Rows.All
import HandS.ForMost
import HandS.ForExc
import HandS.Evl
import HandS.Wide
import HandS.Gcd
import HandS.IsInst
import HandS.CallSlots
import HandS.TupAny
import HandS.TupMul
import HandS.DictComp
import PyProof.NoPylong
import HandS.RaiseMore
import HandS.Iter
import PySem.Challenge.RW_wholerises_k02_whole_ratios
set_option Elab.async false
set_option linter.all false
set_option maxRecDepth 100000
set_option exponentiation.threshold 5000
namespace DF
open PySem PySem.Spec PyProof.Rows L2

/-- data, as trees -/
inductive D where
  | non | bl (b : Bool) | int (i : Int) | str (x : Str)
  | tup (l : List D) | lst (l : List D) | dic (l : List (Key × D)) | fro (l : List D)

/-- what a slot holds: data that stays, or a list or dict that only this frame (io: only the caller's one name) reaches -/
inductive Cell where
  | val (d : D)
  | mu (io : Bool) (d : D)
abbrev DEnv := List (Option Cell)
abbrev Sl := L2.St

mutual
inductive Is (K : PySem.W.Frag) (G : Hp) : D → V → Prop
  | non : Is K G .non .non
  | bl (b : Bool) : Is K G (.bl b) (.bl b)
  | int (i : Int) : Is K G (.int i) (.int i)
  | str (x : Str) : Is K G (.str x) (.str x)
  | tup {l : List D} {a : Addr} {xs : List V} : SqT K G a xs → Iss K G l xs → Is K G (.tup l) (.ref a)
  | lst {l : List D} {a : Addr} {xs : List V} : G a = some (.lst xs) → Iss K G l xs → Is K G (.lst l) (.ref a)
  | dic {l : List (Key × D)} {a : Addr} {kvs : List (Key × V)} : G a = some (.dK kvs) → Isk K G l kvs → Is K G (.dic l) (.ref a)
  | fro {l : List D} {a : Addr} {xs : List V} : SqL K G a xs → Iss K G l xs → Is K G (.fro l) (.ref a)
inductive Iss (K : PySem.W.Frag) (G : Hp) : List D → List V → Prop
  | nil : Iss K G [] []
  | cons {d : D} {v : V} {l : List D} {xs : List V} : Is K G d v → Iss K G l xs → Iss K G (d :: l) (v :: xs)
inductive Isk (K : PySem.W.Frag) (G : Hp) : List (Key × D) → List (Key × V) → Prop
  | nil : Isk K G [] []
  | cons {k : Key} {d : D} {v : V} {l : List (Key × D)} {xs : List (Key × V)} : Is K G d v → Isk K G l xs → Isk K G ((k, d) :: l) ((k, v) :: xs)
end
section
variable {K : PySem.W.Frag} {G G' : Hp}
mutual
theorem Is.mono (e : Evl.Ex G G') : ∀ {d : D} {v : V}, Is K G d v → Is K G' d v
  | _, _, .non => .non
  | _, _, .bl b => .bl b
  | _, _, .int i => .int i
  | _, _, .str x => .str x
  | _, _, .tup h r => .tup (Evl.ex_t e h) (Iss.mono e r)
  | _, _, .lst h r => .lst (e _ _ h) (Iss.mono e r)
  | _, _, .dic h r => .dic (e _ _ h) (Isk.mono e r)
  | _, _, .fro h r => .fro (Evl.ex_l e h) (Iss.mono e r)
theorem Iss.mono (e : Evl.Ex G G') : ∀ {l : List D} {xs : List V}, Iss K G l xs → Iss K G' l xs
  | _, _, .nil => .nil
  | _, _, .cons h r => .cons (Is.mono e h) (Iss.mono e r)
theorem Isk.mono (e : Evl.Ex G G') : ∀ {l : List (Key × D)} {xs : List (Key × V)}, Isk K G l xs → Isk K G' l xs
  | _, _, .nil => .nil
  | _, _, .cons h r => .cons (Is.mono e h) (Isk.mono e r)
end
theorem Iss.length : ∀ {l : List D} {xs : List V}, Iss K G l xs → l.length = xs.length
  | _, _, .nil => rfl
  | _, _, .cons _ r => congrArg (· + 1) (Iss.length r)
theorem Isk.length : ∀ {l : List (Key × D)} {xs : List (Key × V)}, Isk K G l xs → l.length = xs.length
  | _, _, .nil => rfl
  | _, _, .cons _ r => congrArg (· + 1) (Isk.length r)
theorem Iss.get : ∀ {l : List D} {xs : List V} {i : Nat} {d : D}, Iss K G l xs → l[i]? = some d → ∃ v, xs[i]? = some v ∧ Is K G d v
  | _, _, _, _, .nil, e => by simp at e
  | _, _, 0, _, .cons h _, e => by simp at e; subst e; exact ⟨_, rfl, h⟩
  | _, _, i + 1, d, .cons _ r, e => by
    obtain ⟨v, h1, h2⟩ := Iss.get (i := i) (d := d) r (by simpa using e)
    exact ⟨v, by simpa using h1, h2⟩
theorem Iss.getV : ∀ {l : List D} {xs : List V} {i : Nat} {v : V}, Iss K G l xs → xs[i]? = some v → ∃ d, l[i]? = some d ∧ Is K G d v
  | _, _, _, _, .nil, e => by simp at e
  | _, _, 0, _, .cons h _, e => by simp at e; subst e; exact ⟨_, rfl, h⟩
  | _, _, i + 1, d, .cons _ r, e => by
    obtain ⟨v, h1, h2⟩ := Iss.getV (i := i) (v := d) r (by simpa using e)
    exact ⟨v, by simpa using h1, h2⟩
theorem Iss.append : ∀ {l m : List D} {xs ys : List V}, Iss K G l xs → Iss K G m ys → Iss K G (l ++ m) (xs ++ ys)
  | _, _, _, _, .nil, s => s
  | _, _, _, _, .cons h r, s => .cons h (Iss.append r s)
theorem Iss.set {d : D} {v : V} (h : Is K G d v) : ∀ {l : List D} {xs : List V} (i : Nat), Iss K G l xs → Iss K G (l.set i d) (xs.set i v)
  | _, _, _, .nil => .nil
  | _, _, 0, .cons _ r => .cons h r
  | _, _, i + 1, .cons q r => .cons q (Iss.set h i r)
theorem Iss.take : ∀ {l : List D} {xs : List V} (n : Nat), Iss K G l xs → Iss K G (l.take n) (xs.take n)
  | _, _, 0, _ => .nil
  | _, _, _ + 1, .nil => .nil
  | _, _, n + 1, .cons q r => .cons q (Iss.take n r)
theorem Iss.drop : ∀ {l : List D} {xs : List V} (n : Nat), Iss K G l xs → Iss K G (l.drop n) (xs.drop n)
  | _, _, 0, r => r
  | _, _, _ + 1, .nil => .nil
  | _, _, n + 1, .cons _ r => Iss.drop n r
theorem Iss.reverse : ∀ {l : List D} {xs : List V}, Iss K G l xs → Iss K G l.reverse xs.reverse
  | _, _, .nil => .nil
  | _, _, .cons q r => by rw [List.reverse_cons, List.reverse_cons]; exact (Iss.reverse r).append (.cons q .nil)
theorem Iss.rep : ∀ {l : List D} {xs : List V} (n : Nat), Iss K G l xs → Iss K G (List.replicate n l).flatten (List.replicate n xs).flatten
  | _, _, 0, _ => .nil
  | _, _, n + 1, r => by rw [List.replicate_succ, List.replicate_succ, List.flatten_cons, List.flatten_cons]; exact r.append (Iss.rep n r)
theorem Iss.ints : ∀ {ns : List Int} {xs : List V}, Iss K G (ns.map D.int) xs → xs = ns.map V.int
  | [], _, .nil => rfl
  | _ :: _, _, .cons (.int _) r => by rw [Iss.ints r]; rfl
theorem Iss.of_ints : ∀ ns : List Int, Iss K G (ns.map D.int) (ns.map V.int)
  | [] => .nil
  | n :: r => .cons (.int n) (Iss.of_ints r)
theorem Iss.bls : ∀ {ns : List Bool} {xs : List V}, Iss K G (ns.map D.bl) xs → xs = ns.map V.bl
  | [], _, .nil => rfl
  | _ :: _, _, .cons (.bl _) r => by rw [Iss.bls r]; rfl
end

/-- what stands at the address of a list or dict of one's own -/
def Cont (K : PySem.W.Frag) (G H : Hp) (a : Addr) : D → Prop
  | .lst l => ∃ xs, H a = some (.lst xs) ∧ Iss K G l xs
  | .dic l => ∃ kvs, H a = some (.dK kvs) ∧ Isk K G l kvs
  | _ => False
theorem Cont.mono {K : PySem.W.Frag} {G G' H H' : Hp} {a : Addr} {d : D} (e : Evl.Ex G G') (h : ∀ o, H a = some o → H' a = some o) (c : Cont K G H a d) : Cont K G' H' a d := by
  cases d with
  | lst l => obtain ⟨xs, h1, h2⟩ := c; exact ⟨xs, h _ h1, h2.mono e⟩
  | dic l => obtain ⟨xs, h1, h2⟩ := c; exact ⟨xs, h _ h1, h2.mono e⟩
  | _ => exact False.elim c
theorem Cont.there {K : PySem.W.Frag} {G H : Hp} {a : Addr} {d : D} (c : Cont K G H a d) : ∃ o, H a = some o := by
  cases d with
  | lst l => obtain ⟨xs, h1, _⟩ := c; exact ⟨_, h1⟩
  | dic l => obtain ⟨xs, h1, _⟩ := c; exact ⟨_, h1⟩
  | _ => exact False.elim c

structure Rep (K : PySem.W.Frag) (G H : Hp) (ρ : DEnv) (σ : Sl) : Prop where
  sub : Evl.Ex G H
  len : ρ.length = σ.length
  vl : ∀ (i : Nat) (d : D), ρ[i]? = some (some (.val d)) → ∃ v, σ[i]? = some (some v) ∧ Is K G d v
  mu : ∀ (i : Nat) (b : Bool) (d : D), ρ[i]? = some (some (.mu b d)) → ∃ a, σ[i]? = some (some (.ref a)) ∧ G a = none ∧ Cont K G H a d
  ap : ∀ (i j : Nat) (b c : Bool) (d e : D) (a : Addr), ρ[i]? = some (some (.mu b d)) → ρ[j]? = some (some (.mu c e)) → σ[i]? = some (some (.ref a)) → σ[j]? = some (some (.ref a)) → i = j
def Mu (b : Bool) (ρ : DEnv) (σ : Sl) (a : Addr) : Prop := ∃ (i : Nat) (d : D), ρ[i]? = some (some (.mu b d)) ∧ σ[i]? = some (some (.ref a))

/-- from one state to a later one -/
structure Stp (ρ : DEnv) (σ : Sl) (G H : Hp) (ρ' : DEnv) (σ' : Sl) (G' H' : Hp) : Prop where
  g : Evl.Ex G G'
  h : ∀ b o, ¬ Mu false ρ σ b → ¬ Mu true ρ σ b → H b = some o → H' b = some o
  t : ∀ b, H' b = none → H b = none
  n : ∀ b, G b = none → G' b ≠ none → H b = none ∨ Mu false ρ σ b
  ow : ∀ b, Mu false ρ' σ' b → Mu false ρ σ b ∨ H b = none
  io : ∀ (i : Nat), (∀ d, ρ[i]? = some (some (.mu true d)) → ∃ d', ρ'[i]? = some (some (.mu true d')) ∧ σ'[i]? = σ[i]?) ∧ (∀ d, ρ'[i]? = some (some (.mu true d)) → ∃ d', ρ[i]? = some (some (.mu true d')))
section
variable {K : PySem.W.Frag} {ρ ρ1 ρ2 : DEnv} {σ σ1 σ2 : Sl} {G G1 G2 H H1 H2 : Hp}
theorem Stp.refl : Stp ρ σ G H ρ σ G H := ⟨fun _ _ e => e, fun _ _ _ _ e => e, fun _ e => e, fun _ e q => absurd e q, fun _ e => .inl e, fun _ => ⟨fun d e => ⟨d, e, rfl⟩, fun d e => ⟨d, e⟩⟩⟩
theorem Stp.io_back (a : Stp ρ σ G H ρ1 σ1 G1 H1) {b : Addr} (m : Mu true ρ1 σ1 b) : Mu true ρ σ b := by
  obtain ⟨i, d, e1, e2⟩ := m
  obtain ⟨d0, e0⟩ := (a.io i).2 d e1
  obtain ⟨d', _, e3⟩ := (a.io i).1 d0 e0
  exact ⟨i, d0, e0, e3.symm.trans e2⟩
theorem Stp.trans (R : Rep K G H ρ σ) (a : Stp ρ σ G H ρ1 σ1 G1 H1) (b : Stp ρ1 σ1 G1 H1 ρ2 σ2 G2 H2) : Stp ρ σ G H ρ2 σ2 G2 H2 where
  g := fun c o e => b.g c o (a.g c o e)
  h := fun c o n1 n2 e => b.h c o (fun m => (a.ow c m).elim n1 fun z => by rw [z] at e; cases e) (fun m => n2 (a.io_back m)) (a.h c o n1 n2 e)
  t := fun c e => a.t c (b.t c e)
  n := fun c e q => by
    by_cases h : G1 c = none
    · rcases b.n c h q with z | z
      · exact .inl (a.t c z)
      · rcases a.ow c z with z | z
        · exact .inr z
        · exact .inl z
    · exact a.n c e h
  ow := fun c m => by
    rcases b.ow c m with z | z
    · exact a.ow c z
    · exact .inr (a.t c z)
  io := fun i => ⟨fun d e => by
      obtain ⟨d1, e1, s1⟩ := (a.io i).1 d e
      obtain ⟨d2, e2, s2⟩ := (b.io i).1 d1 e1
      exact ⟨d2, e2, s2.trans s1⟩, fun d e => by
      obtain ⟨d1, e1⟩ := (b.io i).2 d e
      exact (a.io i).2 d1 e1⟩

/-- only new objects -/
structure New (G H G' H' : Hp) : Prop where
  g : Evl.Ex G G'
  h : Evl.Ex H H'
  s : Evl.Ex G' H'
  n : ∀ b, G b = none → G' b ≠ none → H b = none
theorem New.refl (e : Evl.Ex G H) : New G H G H := ⟨fun _ _ e => e, fun _ _ e => e, e, fun _ e q => absurd e q⟩
theorem New.trans (a : New G H G1 H1) (b : New G1 H1 G2 H2) : New G H G2 H2 := ⟨fun c o e => b.g c o (a.g c o e), fun c o e => b.h c o (a.h c o e), b.s, fun c e q => by
  by_cases h : G1 c = none
  · have z := b.n c h q
    cases y : H c with
    | none => rfl
    | some o => rw [a.h c o y] at z; cases z
  · exact a.n c e h⟩
theorem sub_none (e : Evl.Ex G H) {p : Addr} (h : H p = none) : G p = none := by
  cases q : G p with
  | none => rfl
  | some o => rw [e p o q] at h; cases h
theorem New.put {p : Addr} {o : HO} (e : Evl.Ex G H) (h : H p = none) : New G H (upd G p o) (upd H p o) where
  g := Evl.Ex.new (sub_none e h)
  h := Evl.Ex.new h
  s := fun b u q => by
    by_cases z : b = p
    · subst z; rw [upd_same] at q ⊢; exact q
    · rw [upd_ne z] at q ⊢; exact e b u q
  n := fun b q r => by
    by_cases z : b = p
    · subst z; exact h
    · rw [upd_ne z] at r; exact absurd q r
/-- a new object that is not shown -/
theorem New.hid {p : Addr} {o : HO} (e : Evl.Ex G H) (h : H p = none) : New G H G (upd H p o) where
  g := fun _ _ e => e
  h := Evl.Ex.new h
  s := fun b u q => Evl.Ex.new h b u (e b u q)
  n := fun b q r => absurd q r
theorem New.none_back (a : New G H G1 H1) {p : Addr} (h : H1 p = none) : H p = none := by
  cases y : H p with
  | none => rfl
  | some o => rw [a.h p o y] at h; cases h
theorem New.stp (R : Rep K G H ρ σ) (a : New G H G1 H1) : Stp ρ σ G H ρ σ G1 H1 := ⟨a.g, fun b o _ _ e => a.h b o e, fun _ e => a.none_back e, fun b e q => .inl (a.n b e q), fun _ e => .inl e, fun _ => ⟨fun d e => ⟨d, e, rfl⟩, fun d e => ⟨d, e⟩⟩⟩
theorem New.rep (R : Rep K G H ρ σ) (a : New G H G1 H1) : Rep K G1 H1 ρ σ where
  sub := a.s
  len := R.len
  vl := fun i d e => by
    obtain ⟨v, e1, e2⟩ := R.vl i d e
    exact ⟨v, e1, e2.mono a.g⟩
  mu := fun i b d e => by
    obtain ⟨c, e1, e2, e3⟩ := R.mu i b d e
    refine ⟨c, e1, ?_, e3.mono a.g fun o q => a.h c o q⟩
    cases q : G1 c with
    | none => rfl
    | some o =>
      have z := a.n c e2 (by rw [q]; exact fun z => by cases z)
      obtain ⟨o', y⟩ := e3.there
      rw [z] at y; cases y
  ap := R.ap
end
end DF

namespace DF
open PySem PySem.Spec PyProof.Rows L2

/-- an exception: its class, and the one attribute that it keeps -/
structure Exc where
  cls : Value
  fld : Option (Str × D)
inductive R (α : Type) where
  | no
  | ok (ρ : DEnv) (a : α)
  | ex (ρ : DEnv) (e : Exc)
def R.bind {α β : Type} (r : R α) (f : α → DEnv → R β) : R β := match r with
  | .no => .no
  | .ok ρ a => f a ρ
  | .ex ρ e => .ex ρ e
theorem R.bind_ok {α β : Type} {ρ : DEnv} {a : α} {f : α → DEnv → R β} : (R.ok ρ a).bind f = f a ρ := rfl
def ofO {α : Type} (ρ : DEnv) : Option α → R α
  | none => .no
  | some d => .ok ρ d
def EIs (K : PySem.W.Frag) (G H : Hp) (e : Exc) (d : Option Addr) : Prop := match e.fld with
  | none => d = none
  | some (f, x) => ∃ (dd : Addr) (v : V), d = some dd ∧ H dd = some (.xd [(f, v)]) ∧ Is K G x v
/-- what follows from a state -/
def Go (K : PySem.W.Frag) (W : WX) (σ : Sl) (ρ : DEnv) (G H : Hp) {α : Type} (P : α → DEnv → Hp → Hp → Prop) (r : R α) : Prop := match r with
  | .no => False
  | .ok ρ' a => ∀ G' H', Stp ρ σ G H ρ' σ G' H' → Rep K G' H' ρ' σ → P a ρ' G' H'
  | .ex ρ' e => ∀ G' H' d, Stp ρ σ G H ρ' σ G' H' → Rep K G' H' ρ' σ → EIs K G' H' e d → W e.cls d σ H'
section
variable {K : PySem.W.Frag} {W : WX} {σ : Sl} {ρ ρ1 : DEnv} {G G1 H H1 : Hp} {α β : Type} {P P' : α → DEnv → Hp → Hp → Prop} {S : β → DEnv → Hp → Hp → Prop}
theorem Go.imp {r : R α} (h : Go K W σ ρ G H P r) (f : ∀ a ρ' G' H', Stp ρ σ G H ρ' σ G' H' → Rep K G' H' ρ' σ → P a ρ' G' H' → P' a ρ' G' H') : Go K W σ ρ G H P' r := by
  cases r with
  | no => exact h
  | ok ρ' a => exact fun G' H' s R => f a ρ' G' H' s R (h G' H' s R)
  | ex ρ' e => exact h
theorem Go.shift {r : R α} (R0 : Rep K G H ρ σ) (s : Stp ρ σ G H ρ1 σ G1 H1) (h : Go K W σ ρ G H P r) : Go K W σ ρ1 G1 H1 P r := by
  cases r with
  | no => exact h
  | ok ρ' a => exact fun G' H' s' R => h G' H' (s.trans R0 s') R
  | ex ρ' e => exact fun G' H' d s' R => h G' H' d (s.trans R0 s') R
theorem Go.bind {r : R α} {g : α → DEnv → R β} (R0 : Rep K G H ρ σ) (h : Go K W σ ρ G H S (r.bind g)) : Go K W σ ρ G H (fun a ρ' G' H' => Go K W σ ρ' G' H' S (g a ρ')) r := by
  cases r with
  | no => exact h
  | ok ρ' a => exact fun G' H' s R => Go.shift R0 s h
  | ex ρ' e => exact h
end

/-- an operand: what it is at a later state -/
abbrev Th := DEnv → Option D
/-- a value that is looked at here and now -/
def Top (K : PySem.W.Frag) (G H : Hp) (d : D) (v : V) : Prop := match d with
  | .lst l => ∃ a xs, v = .ref a ∧ H a = some (.lst xs) ∧ Iss K G l xs
  | .dic l => ∃ a kvs, v = .ref a ∧ H a = some (.dK kvs) ∧ Isk K G l kvs
  | d => Is K G d v
theorem Is.top {K : PySem.W.Frag} {G H : Hp} {d : D} {v : V} (e : Evl.Ex G H) (h : Is K G d v) : Top K G H d v := by
  cases h with
  | lst h r => exact ⟨_, _, rfl, e _ _ h, r⟩
  | dic h r => exact ⟨_, _, rfl, e _ _ h, r⟩
  | fro h r => exact .fro h r
  | non => exact .non
  | bl b => exact .bl b
  | int i => exact .int i
  | str x => exact .str x
  | tup h r => exact .tup h r
theorem Cont.top {K : PySem.W.Frag} {G H : Hp} {d : D} {a : Addr} (c : Cont K G H a d) : Top K G H d (.ref a) := by
  cases d with
  | lst l => obtain ⟨xs, h1, h2⟩ := c; exact ⟨a, xs, rfl, h1, h2⟩
  | dic l => obtain ⟨xs, h1, h2⟩ := c; exact ⟨a, xs, rfl, h1, h2⟩
  | _ => exact False.elim c
/-- the full view of it -/
theorem Top.is {K : PySem.W.Frag} {G H : Hp} {d : D} {v : V} (e : Evl.Ex G H) (h : Top K G H d v) : Is K H d v := by
  cases d with
  | lst l => obtain ⟨a, xs, rfl, h1, h2⟩ := h; exact .lst h1 (h2.mono e)
  | dic l => obtain ⟨a, xs, rfl, h1, h2⟩ := h; exact .dic h1 (h2.mono e)
  | non => exact Is.mono e h
  | bl b => exact Is.mono e h
  | int i => exact Is.mono e h
  | str x => exact Is.mono e h
  | tup l => exact Is.mono e h
  | fro l => exact Is.mono e h
inductive Tops (K : PySem.W.Frag) (G H : Hp) : List D → List V → Prop
  | nil : Tops K G H [] []
  | cons {d : D} {v : V} {l : List D} {xs : List V} : Top K G H d v → Tops K G H l xs → Tops K G H (d :: l) (v :: xs)

def tD (K : PySem.W.Frag) (W : WX) (f : DEnv → R D) : TE := fun σ H Q => ∃ ρ G, Rep K G H ρ σ ∧ Go K W σ ρ G H (fun d _ G' H' => ∀ v, Is K G' d v → Q v H') (f ρ)
def OTh (K : PySem.W.Frag) (σ : Sl) (ρ : DEnv) (G H : Hp) (th : Th) (v : V) : Prop := ∀ ρ2 G2 H2 d, Stp ρ σ G H ρ2 σ G2 H2 → Rep K G2 H2 ρ2 σ → th ρ2 = some d → Top K G2 H2 d v
theorem OTh.shift {K : PySem.W.Frag} {σ : Sl} {ρ ρ1 : DEnv} {G G1 H H1 : Hp} {th : Th} {v : V} (R0 : Rep K G H ρ σ) (s : Stp ρ σ G H ρ1 σ G1 H1) (h : OTh K σ ρ G H th v) : OTh K σ ρ1 G1 H1 th v :=
  fun ρ2 G2 H2 d s2 R2 e => h ρ2 G2 H2 d (s.trans R0 s2) R2 e
def tO (K : PySem.W.Frag) (W : WX) (f : DEnv → R Th) : TE := fun σ H Q => ∃ ρ G, Rep K G H ρ σ ∧ Go K W σ ρ G H (fun th ρ' G' H' => ∀ v, OTh K σ ρ' G' H' th v → Q v H') (f ρ)
inductive OThs (K : PySem.W.Frag) (σ : Sl) (ρ : DEnv) (G H : Hp) : List Th → List V → Prop
  | nil : OThs K σ ρ G H [] []
  | cons {t : Th} {v : V} {l : List Th} {xs : List V} : OTh K σ ρ G H t v → OThs K σ ρ G H l xs → OThs K σ ρ G H (t :: l) (v :: xs)
theorem OThs.shift {K : PySem.W.Frag} {σ : Sl} {ρ ρ1 : DEnv} {G G1 H H1 : Hp} (R0 : Rep K G H ρ σ) (s : Stp ρ σ G H ρ1 σ G1 H1) : ∀ {l : List Th} {xs : List V}, OThs K σ ρ G H l xs → OThs K σ ρ1 G1 H1 l xs
  | _, _, .nil => .nil
  | _, _, .cons h r => .cons (h.shift R0 s) (OThs.shift R0 s r)
def ths (l : List Th) (ρ : DEnv) : Option (List D) := match l with
  | [] => some []
  | t :: r => match t ρ with
    | none => none
    | some d => match ths r ρ with
      | none => none
      | some ds => some (d :: ds)
theorem OThs.tops {K : PySem.W.Frag} {σ : Sl} {ρ : DEnv} {G H : Hp} (R0 : Rep K G H ρ σ) : ∀ {l : List Th} {xs : List V} {ds : List D}, OThs K σ ρ G H l xs → ths l ρ = some ds → Tops K G H ds xs
  | _, _, ds, .nil, e => by cases e; exact .nil
  | t :: l, _, ds, .cons h r, e => by
    unfold ths at e
    split at e
    · cases e
    · rename_i d e1
      split at e
      · cases e
      · rename_i ds' e2
        cases e
        exact .cons (h ρ G H d .refl R0 e1) (OThs.tops R0 r e2)
def tAs (K : PySem.W.Frag) (W : WX) (f : DEnv → R (List Th)) : TA := fun σ H Q => ∃ ρ G, Rep K G H ρ σ ∧ Go K W σ ρ G H (fun l ρ' G' H' => ∀ vs, OThs K σ ρ' G' H' l vs → Q vs H') (f ρ)
def tT (K : PySem.W.Frag) (W : WX) (f : DEnv → R Bool) : TT := fun σ H Q => ∃ ρ G, Rep K G H ρ σ ∧ Go K W σ ρ G H (fun b _ _ H' => Q b H') (f ρ)
/-- values that stay, in a row -/
def tDs (K : PySem.W.Frag) (W : WX) (f : DEnv → R (List D)) : TA := fun σ H Q => ∃ ρ G, Rep K G H ρ σ ∧ Go K W σ ρ G H (fun l _ G' H' => ∀ vs, Iss K G' l vs → Q vs H') (f ρ)
/-- a list or dict just made -/
def tF (K : PySem.W.Frag) (W : WX) (f : DEnv → R D) : TE := fun σ H Q => ∃ ρ G, Rep K G H ρ σ ∧
  Go K W σ ρ G H (fun d ρ' G' H' => ∀ a, G' a = none → ¬ Mu false ρ' σ a → ¬ Mu true ρ' σ a → H a = none → Cont K G' H' a d → Q (.ref a) H') (f ρ)

abbrev DE (X : Cx) (W : WX) (e : Expr) (f : DEnv → R D) : Prop := PE X e (tD X.K W f)
abbrev DO (X : Cx) (W : WX) (e : Expr) (f : DEnv → R Th) : Prop := PE X e (tO X.K W f)
abbrev DF' (X : Cx) (W : WX) (e : Expr) (f : DEnv → R D) : Prop := PE X e (tF X.K W f)
abbrev DT (X : Cx) (W : WX) (e : Expr) (f : DEnv → R Bool) : Prop := PT X e (tT X.K W f)
abbrev DA (X : Cx) (W : WX) (es : List Expr) (f : DEnv → R (List Th)) : Prop := PA X es (tAs X.K W f)
abbrev DVs (X : Cx) (W : WX) (es : List Expr) (f : DEnv → R (List D)) : Prop := PA X es (tDs X.K W f)
theorem pe_imp {X : Cx} {e : Expr} {t t' : TE} (h : PE X e t) (i : ∀ σ H Q, t' σ H Q → t σ H Q) : PE X e t' := ⟨fun pins s σ H Q I q => h.run pins s σ H Q I (i σ H Q q)⟩
theorem pt_imp {X : Cx} {e : Expr} {t t' : TT} (h : PT X e t) (i : ∀ σ H Q, t' σ H Q → t σ H Q) : PT X e t' := ⟨fun pins s σ H Q I q => h.run pins s σ H Q I (i σ H Q q)⟩
theorem pw_imp {X : Cx} {e : Expr} {t t' : TT} (h : PW X e t) (i : ∀ σ H Q, t' σ H Q → t σ H Q) : PW X e t' := ⟨fun wh pins s σ H Q I q => h.run wh pins s σ H Q I (i σ H Q q)⟩
theorem pa_imp {X : Cx} {es : List Expr} {t t' : TA} (h : PA X es t) (i : ∀ σ H Q, t' σ H Q → t σ H Q) : PA X es t' := ⟨fun pos pins s σ H Q I q => h.run pos pins s σ H Q I (i σ H Q q)⟩

section
variable {X : Cx} {W : WX} {e : Expr} {es : List Expr} {pos : Pos}
/-! ### names and constants -/
def dC (d : D) : DEnv → R D := fun ρ => .ok ρ d
theorem de_const {d : D} {v : V} (h : PE X e (tC v)) (hv : ∀ G, Is X.K G d v) : DE X W e (dC d) := pe_imp h fun σ H Q ⟨ρ, G, R, h⟩ => h G H .refl R v (hv G)
theorem de_int {i : Int} {j pos} : DE X W (.Constant (.int i) j pos) (dC (.int i)) := de_const pe_int fun _ => .int i
theorem de_bl {b : Bool} {j pos} : DE X W (.Constant (.bool b) j pos) (dC (.bl b)) := de_const pe_bl fun _ => .bl b
theorem de_non {j pos} : DE X W (.Constant .none j pos) (dC .non) := de_const pe_non fun _ => .non
theorem de_str {x : Str} {j pos} : DE X W (.Constant (.str x) j pos) (dC (.str x)) := de_const pe_str fun _ => .str x
/-- a module's whole number -/
theorem de_gint {x : Str} {i : Int} {t : Tok} (hg : Gl X x) (hm : X.mg x = some (.int i t)) (hd : (x == ("__debug__" : Str)) = false := by decide) : DE X W (.Name x pos) (dC (.int i)) := de_const (pe_glob hg hm (show RelV (.int i) (.int i t) from ⟨t, rfl⟩) hd) fun _ => .int i
def look (i : Nat) (ρ : DEnv) : Option D := match ρ[i]? with
  | some (some (.val d)) => some d
  | some (some (.mu _ d)) => some d
  | _ => none
/-- a name's value, to be kept: a list or dict of one's own may not be changed from here on -/
def dVar (i : Nat) : DEnv → R D := fun ρ => match ρ[i]? with
  | some (some (.val d)) => .ok ρ d
  | some (some (.mu false d)) => .ok (ρ.set i (some (.val d))) d
  | _ => .no
theorem Rep.shown {K : PySem.W.Frag} {G H : Hp} {ρ : DEnv} {σ : Sl} (R : Rep K G H ρ σ) {i : Nat} {d : D} {a : Addr} (e : ρ[i]? = some (some (.mu false d))) (ea : σ[i]? = some (some (.ref a))) :
    ∃ G', Stp ρ σ G H (ρ.set i (some (.val d))) σ G' H ∧ Rep K G' H (ρ.set i (some (.val d))) σ ∧ Is K G' d (.ref a) := by
  obtain ⟨a', e1, e2, e3⟩ := R.mu i false d e
  rw [ea] at e1; cases e1
  obtain ⟨o, ho⟩ := e3.there
  have eG : Evl.Ex G (upd G a o) := Evl.Ex.new e2
  have hi : Is K (upd G a o) d (.ref a) := by
    cases d with
    | lst l =>
      obtain ⟨xs, q1, q2⟩ := e3
      rw [ho] at q1; cases q1
      exact .lst upd_same (q2.mono eG)
    | dic l =>
      obtain ⟨xs, q1, q2⟩ := e3
      rw [ho] at q1; cases q1
      exact .dic upd_same (q2.mono eG)
    | _ => exact False.elim e3
  have eS : Evl.Ex (upd G a o) H := fun b u q => by
    by_cases z : b = a
    · subst z; rw [upd_same] at q; cases q; exact ho
    · rw [upd_ne z] at q; exact R.sub b u q
  have sg : ∀ {j : Nat} {y : Option Cell}, (ρ.set i (some (.val d)))[j]? = some y → (i = j ∧ some (.val d) = y) ∨ (i ≠ j ∧ ρ[j]? = some y) := fun {j y} h => by
    by_cases z : i = j
    · subst z
      by_cases q : i < ρ.length
      · rw [List.getElem?_set_self q] at h
        exact .inl ⟨rfl, Option.some.inj h⟩
      · rw [List.getElem?_eq_none (by rw [List.length_set]; omega)] at h
        cases h
    · rw [List.getElem?_set_ne z] at h
      exact .inr ⟨z, h⟩
  refine ⟨upd G a o, ⟨eG, fun _ _ _ _ q => q, fun _ q => q, fun b q1 q2 => ?_, fun b ⟨j, d', q1, q2⟩ => ?_, fun j => ⟨fun d' q => ?_, fun d' q => ?_⟩⟩, ⟨eS, by rw [List.length_set]; exact R.len, fun j d' q => ?_, fun j b d' q => ?_, fun j k b c d1 d2 a' q1 q2 q3 q4 => ?_⟩, hi⟩
  · by_cases z : b = a
    · subst z; exact .inr ⟨i, d, e, ea⟩
    · rw [upd_ne z] at q2; exact absurd q1 q2
  · rcases sg q1 with ⟨_, z⟩ | ⟨_, z⟩
    · cases z
    · exact .inl ⟨j, d', z, q2⟩
  · have n : i ≠ j := fun z => by subst z; rw [e] at q; cases q
    exact ⟨d', by rw [List.getElem?_set_ne n]; exact q, rfl⟩
  · rcases sg q with ⟨_, z⟩ | ⟨_, z⟩
    · cases z
    · exact ⟨d', z⟩
  · rcases sg q with ⟨z0, z⟩ | ⟨_, z⟩
    · subst z0
      cases z
      exact ⟨_, ea, hi⟩
    · obtain ⟨v, z1, z2⟩ := R.vl j d' z
      exact ⟨v, z1, z2.mono eG⟩
  · rcases sg q with ⟨z0, z⟩ | ⟨z0, z⟩
    · cases z
    · obtain ⟨c, z1, z2, z3⟩ := R.mu j b d' z
      have nc : c ≠ a := fun y => by
        subst y
        exact z0 (R.ap i j false b d d' c e z ea z1)
      exact ⟨c, z1, by rw [upd_ne nc]; exact z2, z3.mono eG fun o q => q⟩
  · rcases sg q1 with ⟨_, z⟩ | ⟨_, z⟩
    · cases z
    · rcases sg q2 with ⟨_, y⟩ | ⟨_, y⟩
      · cases y
      · exact R.ap j k b c d1 d2 a' z y q3 q4
theorem de_var {i : Nat} (h : PE X e (tVar i)) : DE X W e (dVar i) := pe_imp h fun σ H Q ⟨ρ, G, R, h⟩ => by
  unfold dVar at h
  split at h
  · rename_i d e1
    obtain ⟨v, e2, e3⟩ := R.vl i d e1
    exact ⟨v, e2, h G H .refl R v e3⟩
  · rename_i d e1
    obtain ⟨a, e2, _, _⟩ := R.mu i false d e1
    obtain ⟨G', s, R', hi⟩ := R.shown e1 e2
    exact ⟨_, e2, h G' H s R' _ hi⟩
  · exact False.elim h
/-- a name's value, to be looked at -/
def oVar (i : Nat) : DEnv → R Th := fun ρ => match ρ[i]? with
  | some (some _) => .ok ρ (look i)
  | _ => .no
theorem do_var {i : Nat} (h : PE X e (tVar i)) : DO X W e (oVar i) := pe_imp h fun σ H Q ⟨ρ, G, R, h⟩ => by
  unfold oVar at h
  split at h
  · rename_i c e1
    have key : ∃ v, σ[i]? = some (some v) := by
      cases c with
      | val d => obtain ⟨v, e2, _⟩ := R.vl i d e1; exact ⟨v, e2⟩
      | mu b d => obtain ⟨a, e2, _⟩ := R.mu i b d e1; exact ⟨_, e2⟩
    obtain ⟨v, e2⟩ := key
    refine ⟨v, e2, h G H .refl R v fun ρ2 G2 H2 d s2 R2 e3 => ?_⟩
    unfold look at e3
    split at e3
    · rename_i d' e4
      cases e3
      obtain ⟨v', e5, e6⟩ := R2.vl i _ e4
      rw [e2] at e5; cases e5
      exact e6.top R2.sub
    · rename_i b d' e4
      cases e3
      obtain ⟨a, e5, _, e6⟩ := R2.mu i _ _ e4
      rw [e2] at e5; cases e5
      exact e6.top
    · cases e3
  · exact False.elim h
def oD (f : DEnv → R D) : DEnv → R Th := fun ρ => (f ρ).bind fun d ρ' => .ok ρ' fun _ => some d
theorem do_val {f : DEnv → R D} (h : DE X W e f) : DO X W e (oD f) := pe_imp h fun σ H Q ⟨ρ, G, R, h⟩ =>
  ⟨ρ, G, R, (Go.bind R h).imp fun d ρ' G' H' s R' h v hv => h G' H' .refl R' v fun ρ2 G2 H2 d2 s2 R2 e => by
    cases e
    exact (hv.mono s2.g).top R2.sub⟩
def aNil : DEnv → R (List Th) := fun ρ => .ok ρ []
def aCons (f : DEnv → R Th) (g : DEnv → R (List Th)) : DEnv → R (List Th) := fun ρ => (f ρ).bind fun t ρ1 => (g ρ1).bind fun l ρ2 => .ok ρ2 (t :: l)
theorem da_nil : DA X W [] aNil := pa_imp pa_nil fun σ H Q ⟨ρ, G, R, h⟩ => h G H .refl R [] .nil
theorem da_cons {f : DEnv → R Th} {g : DEnv → R (List Th)} (h1 : DO X W e f) (h2 : DA X W es g) (hs : starEach (e :: es) X.env = (false, eval e X.env) :: starEach es X.env := by rfl) : DA X W (e :: es) (aCons f g) :=
  pa_imp (pa_cons h1 h2 hs) fun σ H Q ⟨ρ, G, R, h⟩ => ⟨ρ, G, R, (Go.bind R h).imp fun t ρ1 G1 H1 s1 R1 h1 v hv =>
    ⟨ρ1, G1, R1, (Go.bind R1 h1).imp fun l ρ2 G2 H2 s2 R2 h2 vs hvs => h2 G2 H2 .refl R2 (v :: vs) (.cons (hv.shift R1 s2) hvs)⟩⟩
def vNil : DEnv → R (List D) := fun ρ => .ok ρ []
def vCons (f : DEnv → R D) (g : DEnv → R (List D)) : DEnv → R (List D) := fun ρ => (f ρ).bind fun t ρ1 => (g ρ1).bind fun l ρ2 => .ok ρ2 (t :: l)
theorem dv_nil : DVs X W [] vNil := pa_imp pa_nil fun σ H Q ⟨ρ, G, R, h⟩ => h G H .refl R [] .nil
theorem dv_cons {f : DEnv → R D} {g : DEnv → R (List D)} (h1 : DE X W e f) (h2 : DVs X W es g) (hs : starEach (e :: es) X.env = (false, eval e X.env) :: starEach es X.env := by rfl) : DVs X W (e :: es) (vCons f g) :=
  pa_imp (pa_cons h1 h2 hs) fun σ H Q ⟨ρ, G, R, h⟩ => ⟨ρ, G, R, (Go.bind R h).imp fun t ρ1 G1 H1 s1 R1 h1 v hv =>
    ⟨ρ1, G1, R1, (Go.bind R1 h1).imp fun l ρ2 G2 H2 s2 R2 h2 vs hvs => h2 G2 H2 .refl R2 (v :: vs) (.cons (hv.mono s2.g) hvs)⟩⟩

/-! ### operations -/
def OpS (K : PySem.W.Frag) (r : R2) (g : D → D → Option D) : Prop := ∀ (x y z : D) (v u : V) (G H : Hp) (Q : VK), Evl.Ex G H → Top K G H x v → Top K G H y u → g x y = some z →
  (∀ w G' H', New G H G' H' → Is K G' z w → Q w H') → r v u H Q
def UnS (K : PySem.W.Frag) (r : V → Hp → VK → Prop) (g : D → Option D) : Prop := ∀ (x z : D) (v : V) (G H : Hp) (Q : VK), Evl.Ex G H → Top K G H x v → g x = some z →
  (∀ w G' H', New G H G' H' → Is K G' z w → Q w H') → r v H Q
def CaS (K : PySem.W.Frag) (r : List V → Hp → VK → Prop) (g : List D → Option D) : Prop := ∀ (xs : List D) (z : D) (vs : List V) (G H : Hp) (Q : VK), Evl.Ex G H → Tops K G H xs vs → g xs = some z →
  (∀ w G' H', New G H G' H' → Is K G' z w → Q w H') → r vs H Q
def dBin (g : D → D → Option D) (fa fb : DEnv → R Th) : DEnv → R D := fun ρ => (fa ρ).bind fun ta ρ1 => (fb ρ1).bind fun tb ρ2 => match ta ρ2, tb ρ2 with
  | some x, some y => ofO ρ2 (g x y)
  | _, _ => .no
theorem tbin {r : R2} {g : D → D → Option D} {fa fb : DEnv → R Th} (hs : OpS X.K r g) : ∀ σ H Q, tD X.K W (dBin g fa fb) σ H Q → tOp r (tO X.K W fa) (tO X.K W fb) σ H Q := fun σ H Q ⟨ρ, G, R, h⟩ =>
  ⟨ρ, G, R, (Go.bind R h).imp fun ta ρ1 G1 H1 s1 R1 h1 v hv => ⟨ρ1, G1, R1, (Go.bind R1 h1).imp fun tb ρ2 G2 H2 s2 R2 h2 u hu => by
    split at h2
    · rename_i x y ex ey
      cases e : g x y with
      | none => rw [e] at h2; exact False.elim h2
      | some z =>
        rw [e] at h2
        exact hs x y z v u G2 H2 Q R2.sub (hv ρ2 G2 H2 x s2 R2 ex) (hu ρ2 G2 H2 y .refl R2 ey) e fun w G' H' N hw => h2 G' H' (N.stp R2) (N.rep R2) w hw
    · exact False.elim h2⟩⟩
variable {a b : Expr} {fa fb : DEnv → R Th}
theorem de_bin {op : Operator} {r : R2} {g : D → D → Option D} (ho : OpR X (binaryOp op) r) (hs : OpS X.K r g) (ha : DO X W a fa) (hb : DO X W b fb) : DE X W (.BinOp a op b pos) (dBin g fa fb) :=
  pe_imp (pe_op ho ha hb) (tbin hs)
theorem de_cmp {op : CmpOp} {r : R2} {g : D → D → Option D} (ho : OpR X (compareOp op) r) (hs : OpS X.K r g) (ha : DO X W a fa) (hb : DO X W b fb) (hm : behindInMarks op b = false) : DE X W (.Compare a [op] [b] pos) (dBin g fa fb) :=
  pe_imp (pe_cmpR ho ha hb hm) (tbin hs)
def isB (d : D) : Option Bool := match d with | .bl b => some b | _ => none
def dTst (f : DEnv → R D) : DEnv → R Bool := fun ρ => (f ρ).bind fun d ρ' => match d with
  | .bl b => .ok ρ' b
  | _ => .no
theorem ttst {f : DEnv → R D} : ∀ σ H Q, tT X.K W (dTst f) σ H Q → tTest (tD X.K W f) σ H Q := fun σ H Q ⟨ρ, G, R, h⟩ =>
  ⟨ρ, G, R, (Go.bind R h).imp fun d ρ' G' H' s R' h v hv => by
    split at h
    · cases hv
      exact ⟨_, rfl, h G' H' .refl R'⟩
    · exact False.elim h⟩
theorem dt_cmp {op : CmpOp} {r : R2} {g : D → D → Option D} (ho : OpR X (compareOp op) r) (hs : OpS X.K r g) (ha : DO X W a fa) (hb : DO X W b fb) (hm : behindInMarks op b = false) : DT X W (.Compare a [op] [b] pos) (dTst (dBin g fa fb)) :=
  pt_imp (pt_cmpR ho ha hb hm) fun σ H Q h => by
    obtain ⟨ρ, G, R, h⟩ := ttst σ H Q h
    exact tbin hs σ H _ ⟨ρ, G, R, h⟩
def dUn (g : D → Option D) (fa : DEnv → R Th) : DEnv → R D := fun ρ => (fa ρ).bind fun ta ρ1 => match ta ρ1 with
  | some x => ofO ρ1 (g x)
  | none => .no
theorem tun {r : V → Hp → VK → Prop} {g : D → Option D} (hs : UnS X.K r g) : ∀ σ H Q, tD X.K W (dUn g fa) σ H Q → tUn r (tO X.K W fa) σ H Q := fun σ H Q ⟨ρ, G, R, h⟩ =>
  ⟨ρ, G, R, (Go.bind R h).imp fun ta ρ1 G1 H1 s1 R1 h1 v hv => by
    split at h1
    · rename_i x ex
      cases e : g x with
      | none => rw [e] at h1; exact False.elim h1
      | some z =>
        rw [e] at h1
        exact hs x z v G1 H1 Q R1.sub (hv ρ1 G1 H1 x .refl R1 ex) e fun w G' H' N hw => h1 G' H' (N.stp R1) (N.rep R1) w hw
    · exact False.elim h1⟩
theorem de_un {op : UnaryOp} {r : V → Hp → VK → Prop} {g : D → Option D} (ho : UnR X (unaryOp op) r) (hs : UnS X.K r g) (ha : DO X W a fa) : DE X W (.UnaryOp op a pos) (dUn g fa) := pe_imp (pe_un ho ha) (tun hs)
def dCal (g : List D → Option D) (f : DEnv → R (List Th)) : DEnv → R D := fun ρ => (f ρ).bind fun l ρ1 => match ths l ρ1 with
  | some xs => ofO ρ1 (g xs)
  | none => .no
theorem tcal {r : List V → Hp → VK → Prop} {g : List D → Option D} {f : DEnv → R (List Th)} (hs : CaS X.K r g) : ∀ σ H Q, tD X.K W (dCal g f) σ H Q → tCB r (tAs X.K W f) σ H Q := fun σ H Q ⟨ρ, G, R, h⟩ =>
  ⟨ρ, G, R, (Go.bind R h).imp fun l ρ1 G1 H1 s1 R1 h1 vs hv => by
    split at h1
    · rename_i xs ex
      cases e : g xs with
      | none => rw [e] at h1; exact False.elim h1
      | some z =>
        rw [e] at h1
        exact hs xs z vs G1 H1 Q R1.sub (hv.tops R1 ex) e fun w G' H' N hw => h1 G' H' (N.stp R1) (N.rep R1) w hw
    · exact False.elim h1⟩
end
end DF

namespace DF
open PySem PySem.Spec PyProof.Rows L2

inductive SR where
  | no
  | nx (ρ : DEnv)
  | brk (ρ : DEnv)
  | cnt (ρ : DEnv)
  | ret (ρ : DEnv) (fr : Bool) (d : D)
  | ex (ρ : DEnv) (e : Exc)
/-- what is handed back: data that stay, or a list or dict that nothing else reaches -/
def RIs (K : PySem.W.Frag) (ρ' : DEnv) (σ' : Sl) (G' H' H : Hp) (fr : Bool) (d : D) (v : V) : Prop := match fr with
  | false => Is K G' d v
  | true => ∃ a, v = .ref a ∧ G' a = none ∧ (Mu false ρ' σ' a ∨ H a = none) ∧ Cont K G' H' a d
def GoS (K : PySem.W.Frag) (W : WX) (σ : Sl) (ρ : DEnv) (G H : Hp) (E : Ends) (r : SR) : Prop := match r with
  | .no => False
  | .nx ρ' => ∀ σ' G' H', Stp ρ σ G H ρ' σ' G' H' → Rep K G' H' ρ' σ' → E.nx σ' H'
  | .brk ρ' => ∀ σ' G' H', Stp ρ σ G H ρ' σ' G' H' → Rep K G' H' ρ' σ' → E.bk σ' H'
  | .cnt ρ' => ∀ σ' G' H', Stp ρ σ G H ρ' σ' G' H' → Rep K G' H' ρ' σ' → E.ct σ' H'
  | .ret ρ' fr d => ∀ v σ' G' H', Stp ρ σ G H ρ' σ' G' H' → Rep K G' H' ρ' σ' → RIs K ρ' σ' G' H' H fr d v → E.rt v H'
  | .ex ρ' e => ∀ d σ' G' H', Stp ρ σ G H ρ' σ' G' H' → Rep K G' H' ρ' σ' → EIs K G' H' e d → W e.cls d σ' H'
def tS (K : PySem.W.Frag) (W : WX) (f : DEnv → SR) : TS := fun E σ H => ∃ ρ G, Rep K G H ρ σ ∧ GoS K W σ ρ G H E (f ρ)
abbrev DS (X : Cx) (W : WX) (st : Stmt) (f : DEnv → SR) : Prop := PS X st (tS X.K W f)
abbrev DSs (X : Cx) (W : WX) (st : List Stmt) (f : DEnv → SR) : Prop := PSs X st (tS X.K W f)
theorem ps_imp {X : Cx} {st : Stmt} {t t' : TS} (h : PS X st t) (i : ∀ E σ H, t' E σ H → t E σ H) : PS X st t' := ⟨fun pins s σ H E I q => h.run pins s σ H E I (i E σ H q)⟩
theorem pss_imp {X : Cx} {st : List Stmt} {t t' : TS} (h : PSs X st t) (i : ∀ E σ H, t' E σ H → t E σ H) : PSs X st t' := ⟨fun pins s σ H E I q => h.run pins s σ H E I (i E σ H q)⟩
section
variable {K : PySem.W.Frag} {W : WX} {σ σ1 : Sl} {ρ ρ1 : DEnv} {G G1 H H1 : Hp} {E E' : Ends}
theorem RIs.back {ρ' : DEnv} {σ' : Sl} {G' H' : Hp} {fr : Bool} {d : D} {v : V} (ht : ∀ b, H1 b = none → H b = none) (h : RIs K ρ' σ' G' H' H1 fr d v) : RIs K ρ' σ' G' H' H fr d v := by
  cases fr with
  | false => exact h
  | true =>
    obtain ⟨a, e1, e2, e3, e4⟩ := h
    exact ⟨a, e1, e2, e3.imp id (ht a), e4⟩
theorem GoS.shift {r : SR} (R0 : Rep K G H ρ σ) (s : Stp ρ σ G H ρ1 σ1 G1 H1) (h : GoS K W σ ρ G H E r) : GoS K W σ1 ρ1 G1 H1 E r := by
  cases r with
  | no => exact h
  | nx ρ' => exact fun σ' G' H' s' R => h σ' G' H' (s.trans R0 s') R
  | brk ρ' => exact fun σ' G' H' s' R => h σ' G' H' (s.trans R0 s') R
  | cnt ρ' => exact fun σ' G' H' s' R => h σ' G' H' (s.trans R0 s') R
  | ret ρ' fr d => exact fun v σ' G' H' s' R q => h v σ' G' H' (s.trans R0 s') R (q.back s.t)
  | ex ρ' e => exact fun d σ' G' H' s' R => h d σ' G' H' (s.trans R0 s') R
end
/-- an expression, then what its value leads to -/
def R.bindS {α : Type} (r : R α) (f : α → DEnv → SR) : SR := match r with
  | .no => .no
  | .ok ρ a => f a ρ
  | .ex ρ e => .ex ρ e
theorem R.bindS_ok {α : Type} {ρ : DEnv} {a : α} {f : α → DEnv → SR} : (R.ok ρ a).bindS f = f a ρ := rfl
section
variable {K : PySem.W.Frag} {W : WX} {σ σ1 : Sl} {ρ ρ1 : DEnv} {G G1 H H1 : Hp} {E E' : Ends}
theorem Go.bindS {α : Type} {r : R α} {g : α → DEnv → SR} (R0 : Rep K G H ρ σ) (h : GoS K W σ ρ G H E (r.bindS g)) : Go K W σ ρ G H (fun a ρ' G' H' => GoS K W σ ρ' G' H' E (g a ρ')) r := by
  cases r with
  | no => exact h
  | ok ρ' a => exact fun G' H' s R => GoS.shift R0 s h
  | ex ρ' e => exact fun G' H' d s R => h d σ G' H' s R
def SR.bind (r : SR) (g : DEnv → SR) : SR := match r with
  | .nx ρ => g ρ
  | .no => .no | .brk ρ => .brk ρ | .cnt ρ => .cnt ρ | .ret ρ fr d => .ret ρ fr d | .ex ρ e => .ex ρ e
theorem SR.bind_nx {ρ : DEnv} {g : DEnv → SR} : (SR.nx ρ).bind g = g ρ := rfl
theorem GoS.bind {r : SR} {g : DEnv → SR} (R0 : Rep K G H ρ σ) (h : GoS K W σ ρ G H E (r.bind g)) : GoS K W σ ρ G H { E with nx := tS K W g E } r := by
  cases r with
  | nx ρ' => exact fun σ' G' H' s R => ⟨ρ', G', R, GoS.shift R0 s h⟩
  | no => exact h
  | brk _ => exact h
  | cnt _ => exact h
  | ret _ _ _ => exact h
  | ex _ _ => exact h
end
def dSeq (f g : DEnv → SR) : DEnv → SR := fun ρ => (f ρ).bind g
section
variable {X : Cx} {W : WX} {st : Stmt} {rest : List Stmt} {f g : DEnv → SR} {pos : Pos} {e : Expr}
theorem dss_nil : DSs X W [] SR.nx := pss_imp pss_nil fun E σ H ⟨ρ, G, R, h⟩ => h σ G H .refl R
theorem dss_cons (h1 : DS X W st f) (h2 : DSs X W rest g) : DSs X W (st :: rest) (dSeq f g) := pss_imp (pss_cons h1 h2) fun E σ H ⟨ρ, G, R, h⟩ => ⟨ρ, G, R, GoS.bind R h⟩
theorem dss_one (h1 : DS X W st f) : DSs X W [st] f := pss_one h1
theorem ds_pass : DS X W (.Pass pos) SR.nx := ps_imp ps_pass fun E σ H ⟨ρ, G, R, h⟩ => h σ G H .refl R
theorem ds_break : DS X W (.Break pos) SR.brk := ps_imp ps_break fun E σ H ⟨ρ, G, R, h⟩ => h σ G H .refl R
theorem ds_continue : DS X W (.Continue pos) SR.cnt := ps_imp ps_continue fun E σ H ⟨ρ, G, R, h⟩ => h σ G H .refl R
def dNever : DEnv → SR := fun _ => .no
theorem ds_never : DS X W st dNever := ps_imp ps_never fun E σ H ⟨ρ, G, R, h⟩ => h
theorem dss_never {sts : List Stmt} : DSs X W sts dNever := pss_imp pss_never fun E σ H ⟨ρ, G, R, h⟩ => h
/-- an if -/
def dIf (c : DEnv → R Bool) (f g : DEnv → SR) : DEnv → SR := fun ρ => (c ρ).bindS fun b ρ' => match b with
  | true => f ρ'
  | false => g ρ'
theorem ds_if {c : Expr} {a b : List Stmt} {fc : DEnv → R Bool} (hc : DT X W c fc) (ha : DSs X W a f) (hb : DSs X W b g) : DS X W (.If c a b pos) (dIf fc f g) :=
  ps_imp (ps_if hc ha hb) fun E σ H ⟨ρ, G, R, h⟩ => ⟨ρ, G, R, (Go.bindS R h).imp fun b ρ' G' H' s R' h => by
    cases b with
    | true => rw [if_pos rfl]; exact ⟨ρ', G', R', h⟩
    | false => rw [if_neg Bool.false_ne_true]; exact ⟨ρ', G', R', h⟩⟩
/-- return -/
def dRet (f : DEnv → R D) : DEnv → SR := fun ρ => (f ρ).bindS fun d ρ' => .ret ρ' false d
theorem ds_ret {f : DEnv → R D} (h : DE X W e f) : DS X W (.Return (some e) pos) (dRet f) := ps_imp (ps_ret h) fun E σ H ⟨ρ, G, R, h⟩ => ⟨ρ, G, R, (Go.bindS R h).imp fun d ρ' G' H' s R' h v hv => h v σ G' H' .refl R' hv⟩
def dRetF (f : DEnv → R D) : DEnv → SR := fun ρ => (f ρ).bindS fun d ρ' => .ret ρ' true d
def dRetN : DEnv → SR := fun ρ => .ret ρ false .non
theorem ds_retN : DS X W (.Return none pos) dRetN := ps_imp ps_retN fun E σ H ⟨ρ, G, R, h⟩ => h .non σ G H .refl R .non
/-- return x, a slot -/
def dRetV (i : Nat) : DEnv → SR := fun ρ => match ρ[i]? with
  | some (some (.val d)) => .ret ρ false d
  | some (some (.mu false d)) => .ret ρ true d
  | _ => .no
theorem ds_retV {i : Nat} (h : PE X e (tVar i)) : DS X W (.Return (some e) pos) (dRetV i) := ps_imp (ps_ret h) fun E σ H ⟨ρ, G, R, h⟩ => by
  unfold dRetV at h
  split at h
  · rename_i d e1
    obtain ⟨v, e2, e3⟩ := R.vl i d e1
    exact ⟨v, e2, h v σ G H .refl R e3⟩
  · rename_i d e1
    obtain ⟨a, e2, e3, e4⟩ := R.mu i false d e1
    exact ⟨_, e2, h (.ref a) σ G H .refl R ⟨a, rfl, e3, .inl ⟨i, d, e1, e2⟩, e4⟩⟩
  · exact False.elim h
def dExpr (f : DEnv → R D) : DEnv → SR := fun ρ => (f ρ).bindS fun _ ρ' => .nx ρ'
theorem ds_expr {f : DEnv → R D} (h : DE X W e f) (hs : swapsWith e none pos.line X.env = pure false := by rfl) : DS X W (.Expr e pos) (dExpr f) :=
  ps_imp (ps_expr h hs) fun E σ H ⟨ρ, G, R, h⟩ => ⟨ρ, G, R, (Go.bindS R h).imp fun d ρ' G' H' s R' h v hv => h σ G' H' .refl R'⟩
theorem ds_doc {x j pos pos'} : DS X W (.Expr (.Constant (.str x) j pos) pos') SR.nx := ps_imp ps_doc fun E σ H ⟨ρ, G, R, h⟩ => h σ G H .refl R
end

/-! ### slots are filled -/
def free (ρ : DEnv) (i : Nat) : Bool := match ρ[i]? with
  | none => false
  | some (some (.mu true _)) => false
  | _ => true
theorem free_lt {ρ : DEnv} {i : Nat} (h : free ρ i = true) : i < ρ.length := by
  unfold free at h
  split at h
  · cases h
  · cases h
  · rename_i h1 h2
    exact Nat.lt_of_not_le fun z => h1 (List.getElem?_eq_none z)
theorem free_io {ρ : DEnv} {i : Nat} (h : free ρ i = true) (d : D) : ρ[i]? ≠ some (some (.mu true d)) := fun z => by
  unfold free at h
  rw [z] at h
  cases h
def setV (i : Nat) (d : D) (ρ : DEnv) : Option DEnv := if free ρ i = true then some (ρ.set i (some (.val d))) else none
def setF (i : Nat) (d : D) (ρ : DEnv) : Option DEnv := if free ρ i = true then some (ρ.set i (some (.mu false d))) else none
section
variable {K : PySem.W.Frag} {ρ ρ' : DEnv} {σ : Sl} {G H : Hp} {i : Nat} {d : D} {v : V}
theorem set_get {α : Type} {l : List α} {i j : Nat} {x y : α} (h : (l.set i x)[j]? = some y) : (i = j ∧ x = y) ∨ (i ≠ j ∧ l[j]? = some y) := by
  by_cases e : i = j
  · subst e
    by_cases q : i < l.length
    · rw [List.getElem?_set_self q] at h
      exact .inl ⟨rfl, Option.some.inj h⟩
    · rw [List.getElem?_eq_none (by rw [List.length_set]; omega)] at h
      cases h
  · rw [List.getElem?_set_ne e] at h
    exact .inr ⟨e, h⟩
theorem Rep.setV (R : Rep K G H ρ σ) (e : setV i d ρ = some ρ') (hv : Is K G d v) : Rep K G H ρ' (σ.set i (some v)) := by
  unfold DF.setV at e
  split at e
  · rename_i hf
    cases e
    have hl : i < σ.length := by rw [← R.len]; exact free_lt hf
    refine ⟨R.sub, by rw [List.length_set, List.length_set]; exact R.len, fun j d' e1 => ?_, fun j b d' e1 => ?_, fun j k b c d1 d2 a e1 e2 e3 e4 => ?_⟩
    · rcases set_get e1 with ⟨rfl, e2⟩ | ⟨n, e2⟩
      · cases e2
        exact ⟨v, List.getElem?_set_self hl, hv⟩
      · obtain ⟨v', e3, e4⟩ := R.vl j d' e2
        exact ⟨v', by rw [List.getElem?_set_ne n]; exact e3, e4⟩
    · rcases set_get e1 with ⟨rfl, e2⟩ | ⟨n, e2⟩
      · cases e2
      · obtain ⟨a, e3, e4⟩ := R.mu j b d' e2
        exact ⟨a, by rw [List.getElem?_set_ne n]; exact e3, e4⟩
    · rcases set_get e1 with ⟨rfl, z⟩ | ⟨n1, f1⟩
      · cases z
      · rcases set_get e2 with ⟨rfl, z⟩ | ⟨n2, f2⟩
        · cases z
        · rw [List.getElem?_set_ne n1] at e3
          rw [List.getElem?_set_ne n2] at e4
          exact R.ap j k b c d1 d2 a f1 f2 e3 e4
  · cases e
theorem Stp.setV (R : Rep K G H ρ σ) (e : setV i d ρ = some ρ') : Stp ρ σ G H ρ' (σ.set i (some v)) G H := by
  unfold DF.setV at e
  split at e
  · rename_i hf
    cases e
    have hl : i < σ.length := by rw [← R.len]; exact free_lt hf
    refine ⟨fun _ _ e => e, fun _ _ _ _ e => e, fun _ e => e, fun _ e q => absurd e q, fun b ⟨j, d', e1, e2⟩ => ?_, fun j => ⟨fun d' e1 => ?_, fun d' e1 => ?_⟩⟩
    · rcases set_get e1 with ⟨rfl, z⟩ | ⟨n, f1⟩
      · cases z
      · rw [List.getElem?_set_ne n] at e2
        exact .inl ⟨j, d', f1, e2⟩
    · have n : i ≠ j := fun z => by subst z; exact free_io hf d' e1
      exact ⟨d', by rw [List.getElem?_set_ne n]; exact e1, by rw [List.getElem?_set_ne n]⟩
    · rcases set_get e1 with ⟨rfl, z⟩ | ⟨n, f1⟩
      · cases z
      · exact ⟨d', f1⟩
  · cases e
theorem Rep.setF {a : Addr} (R : Rep K G H ρ σ) (e : setF i d ρ = some ρ') (h0 : G a = none) (h1 : ¬ Mu false ρ σ a) (h2 : ¬ Mu true ρ σ a) (hc : Cont K G H a d) : Rep K G H ρ' (σ.set i (some (.ref a))) := by
  unfold DF.setF at e
  split at e
  · rename_i hf
    cases e
    have hl : i < σ.length := by rw [← R.len]; exact free_lt hf
    have no : ∀ (j : Nat) (b : Bool) (d' : D), ρ[j]? = some (some (.mu b d')) → σ[j]? = some (some (.ref a)) → False := fun j b d' q1 q2 => by
      cases b with
      | false => exact h1 ⟨j, d', q1, q2⟩
      | true => exact h2 ⟨j, d', q1, q2⟩
    refine ⟨R.sub, by rw [List.length_set, List.length_set]; exact R.len, fun j d' e1 => ?_, fun j b d' e1 => ?_, fun j k b c d1 d2 a' e1 e2 e3 e4 => ?_⟩
    · rcases set_get e1 with ⟨rfl, z⟩ | ⟨n, e2⟩
      · cases z
      · obtain ⟨v', e3, e4⟩ := R.vl j d' e2
        exact ⟨v', by rw [List.getElem?_set_ne n]; exact e3, e4⟩
    · rcases set_get e1 with ⟨rfl, z⟩ | ⟨n, e2⟩
      · cases z
        exact ⟨a, List.getElem?_set_self hl, h0, hc⟩
      · obtain ⟨a', e3, e4⟩ := R.mu j b d' e2
        exact ⟨a', by rw [List.getElem?_set_ne n]; exact e3, e4⟩
    · rcases set_get e1 with ⟨q1, z1⟩ | ⟨n1, f1⟩
      · rcases set_get e2 with ⟨q2, z2⟩ | ⟨n2, f2⟩
        · exact q1.symm.trans q2
        · subst q1
          rw [List.getElem?_set_self hl] at e3
          cases e3
          rw [List.getElem?_set_ne n2] at e4
          exact (no k c d2 f2 e4).elim
      · rcases set_get e2 with ⟨q2, z2⟩ | ⟨n2, f2⟩
        · subst q2
          rw [List.getElem?_set_self hl] at e4
          cases e4
          rw [List.getElem?_set_ne n1] at e3
          exact (no j b d1 f1 e3).elim
        · rw [List.getElem?_set_ne n1] at e3
          rw [List.getElem?_set_ne n2] at e4
          exact R.ap j k b c d1 d2 a' f1 f2 e3 e4
  · cases e
/-- the step that ends with a slot filled by a thing that was made on the way -/
theorem Stp.setF {ρ0 : DEnv} {σ0 : Sl} {G0 H0 : Hp} {a : Addr} (S : Stp ρ0 σ0 G0 H0 ρ σ G H) (R : Rep K G H ρ σ) (e : setF i d ρ = some ρ') (hn : H0 a = none) : Stp ρ0 σ0 G0 H0 ρ' (σ.set i (some (.ref a))) G H := by
  unfold DF.setF at e
  split at e
  · rename_i hf
    cases e
    have hl : i < σ.length := by rw [← R.len]; exact free_lt hf
    refine ⟨S.g, S.h, S.t, S.n, fun b ⟨j, d', e1, e2⟩ => ?_, fun j => ⟨fun d' e1 => ?_, fun d' e1 => ?_⟩⟩
    · rcases set_get e1 with ⟨q, z⟩ | ⟨n, f1⟩
      · subst q
        rw [List.getElem?_set_self hl] at e2
        cases e2
        exact .inr hn
      · rw [List.getElem?_set_ne n] at e2
        exact S.ow b ⟨j, d', f1, e2⟩
    · obtain ⟨d1, f1, f2⟩ := (S.io j).1 d' e1
      have n : i ≠ j := fun z => by subst z; exact free_io hf d1 f1
      exact ⟨d1, by rw [List.getElem?_set_ne n]; exact f1, by rw [List.getElem?_set_ne n]; exact f2⟩
    · rcases set_get e1 with ⟨rfl, z⟩ | ⟨n, f1⟩
      · cases z
      · exact (S.io j).2 d' f1
  · cases e
end
def dSet (i : Nat) (f : DEnv → R D) : DEnv → SR := fun ρ => (f ρ).bindS fun d ρ' => match setV i d ρ' with
  | none => .no
  | some ρ2 => .nx ρ2
/-- where what is made is kept as one's own -/
def dSetF (i : Nat) (f : DEnv → R D) : DEnv → SR := fun ρ => match f ρ with
  | .no => .no
  | .ex ρ' e => .ex ρ' e
  | .ok ρ' d => match setF i d ρ' with
    | none => .no
    | some ρ2 => .nx ρ2
section
variable {X : Cx} {W : WX} {i : Nat} {x : Str} {e : Expr} {pos pos' : Pos} {f : DEnv → R D}
theorem tset {te : TE} (hs : ∀ σ H Q, tD X.K W f σ H Q → te σ H Q) : ∀ E σ H, tS X.K W (dSet i f) E σ H → tAsg te (gName i) E σ H := fun E σ H ⟨ρ, G, R, h⟩ =>
  hs σ H _ ⟨ρ, G, R, (Go.bindS R h).imp fun d ρ' G' H' s R' h v hv => by
    split at h
    · exact False.elim h
    · rename_i ρ2 e2
      exact h _ G' H' (Stp.setV R' e2) (R'.setV e2 hv)⟩
theorem ds_set (hN : X.N.Nodup) (hi : X.N[i]? = some x) (hx : Loc X.env.scope x) (he : DE X W e f) (hs : swapsWith e (some (.Name x pos')) pos.line X.env = pure false := by rfl) (hf : X.fn x = true ∨ X.env.scope.names.lookup x = some .local := by first | exact .inl rfl | exact .inr rfl | assumption) :
    DS X W (.Assign [.Name x pos'] e pos) (dSet i f) := ps_imp (ps_set hN hi hx he hs hf) (tset fun _ _ _ h => h)
theorem tsetF {te : TE} (hs : ∀ σ H Q, tF X.K W f σ H Q → te σ H Q) : ∀ E σ H, tS X.K W (dSetF i f) E σ H → tAsg te (gName i) E σ H := fun E σ H ⟨ρ, G, R, h⟩ => hs σ H _ ⟨ρ, G, R, by
      unfold dSetF at h
      split at h
      · exact False.elim h
      · rename_i ρ' ee e1
        rw [e1]
        exact fun G' H' d s R' hd => h d σ G' H' s R' hd
      · rename_i ρ' d e1
        rw [e1]
        split at h
        · exact False.elim h
        · rename_i ρ2 e2
          exact fun G' H' s R' a h0 h1 h2 hn hc => h _ G' H' (s.setF R' e2 hn) (R'.setF e2 h0 h1 h2 hc)⟩
theorem ds_setF (hN : X.N.Nodup) (hi : X.N[i]? = some x) (hx : Loc X.env.scope x) (he : DF' X W e f) (hs : swapsWith e (some (.Name x pos')) pos.line X.env = pure false := by rfl) (hf : X.fn x = true ∨ X.env.scope.names.lookup x = some .local := by first | exact .inl rfl | exact .inr rfl | assumption) :
    DS X W (.Assign [.Name x pos'] e pos) (dSetF i f) := ps_imp (ps_set hN hi hx he hs hf) (tsetF fun _ _ _ h => h)
theorem ds_retF (he : DF' X W e f) : DS X W (.Return (some e) pos) (dRetF f) := ps_imp (ps_ret he) fun E σ H ⟨ρ, G, R, h⟩ => ⟨ρ, G, R, by
      unfold dRetF at h
      cases e1 : f ρ with
      | no => rw [e1] at h; exact h
      | ex ρ' ee => rw [e1] at h; exact fun G' H' d s R' hd => h d σ G' H' s R' hd
      | ok ρ' d =>
        rw [e1] at h
        exact fun G' H' s R' a h0 h1 h2 hn hc => h (.ref a) σ G' H' s R' ⟨a, rfl, h0, .inr hn, hc⟩⟩
/-- what was made is looked at by others from here on -/
theorem tfresh : ∀ σ H Q, tD X.K W f σ H Q → tF X.K W f σ H Q := fun σ H Q ⟨ρ, G, R, h⟩ => ⟨ρ, G, R, by
  cases e1 : f ρ with
  | no => rw [e1] at h; exact h
  | ex ρ' ee => rw [e1] at h; exact h
  | ok ρ' d =>
    rw [e1] at h
    intro G' H' s R' a h0 h1 h2 hn hc
    obtain ⟨o, ho⟩ := hc.there
    have eG : Evl.Ex G' (upd G' a o) := Evl.Ex.new h0
    have hi : Is X.K (upd G' a o) d (.ref a) := by
      cases d with
      | lst l =>
        obtain ⟨xs, q1, q2⟩ := hc
        rw [ho] at q1; cases q1
        exact .lst upd_same (q2.mono eG)
      | dic l =>
        obtain ⟨xs, q1, q2⟩ := hc
        rw [ho] at q1; cases q1
        exact .dic upd_same (q2.mono eG)
      | _ => exact False.elim hc
    have eS : Evl.Ex (upd G' a o) H' := fun b u q => by
      by_cases z : b = a
      · subst z; rw [upd_same] at q; cases q; exact ho
      · rw [upd_ne z] at q; exact R'.sub b u q
    refine h (upd G' a o) H' ⟨fun b u q => eG b u (s.g b u q), s.h, s.t, fun b q1 q2 => ?_, s.ow, s.io⟩ ⟨eS, R'.len, fun j d' q => ?_, fun j b d' q => ?_, R'.ap⟩ _ hi
    · by_cases z : b = a
      · subst z; exact .inl hn
      · rw [upd_ne z] at q2; exact s.n b q1 q2
    · obtain ⟨v, z1, z2⟩ := R'.vl j d' q
      exact ⟨v, z1, z2.mono eG⟩
    · obtain ⟨c, z1, z2, z3⟩ := R'.mu j b d' q
      have nc : c ≠ a := fun z => by
        subst z
        cases b with
        | false => exact h1 ⟨j, d', q, z1⟩
        | true => exact h2 ⟨j, d', q, z1⟩
      exact ⟨c, z1, by rw [upd_ne nc]; exact z2, z3.mono eG fun o q => q⟩⟩
theorem de_fresh (he : DF' X W e f) : DE X W e f := pe_imp he tfresh
end

/-! ### while -/
def dWhile (c : DEnv → R Bool) (b : DEnv → SR) : Nat → DEnv → SR
  | 0, _ => .no
  | n + 1, ρ => (c ρ).bindS fun t ρ1 => match t with
    | false => .nx ρ1
    | true => match b ρ1 with
      | .nx ρ2 => dWhile c b n ρ2
      | .cnt ρ2 => dWhile c b n ρ2
      | .brk ρ2 => .nx ρ2
      | .no => .no
      | .ret ρ2 fr d => .ret ρ2 fr d
      | .ex ρ2 e => .ex ρ2 e
/-- a loop's body: its end leads on -/
theorem GoS.turn {K : PySem.W.Frag} {W : WX} {σ : Sl} {ρ : DEnv} {G H : Hp} {E : Ends} {g : DEnv → SR} {r : SR} (R0 : Rep K G H ρ σ)
    (h : GoS K W σ ρ G H E (match r with | .nx ρ2 => g ρ2 | .cnt ρ2 => g ρ2 | .brk ρ2 => .nx ρ2 | .no => .no | .ret ρ2 fr d => .ret ρ2 fr d | .ex ρ2 e => .ex ρ2 e)) :
    GoS K W σ ρ G H { E with nx := tS K W g E, ct := tS K W g E, bk := E.nx } r := by
  cases r with
  | nx ρ' => exact fun σ' G' H' s R => ⟨ρ', G', R, GoS.shift R0 s h⟩
  | cnt ρ' => exact fun σ' G' H' s R => ⟨ρ', G', R, GoS.shift R0 s h⟩
  | brk ρ' => exact h
  | no => exact h
  | ret _ _ _ => exact h
  | ex _ _ => exact h
theorem ds_while {X : Cx} {W : WX} {c : Expr} {body : List Stmt} {fc : DEnv → R Bool} {fb : DEnv → SR} {pos : Pos} (n : Nat) (hp : PassesOwn (model X.prog X.w) X.A X.env X.xe) (hc : DT X W c fc) (hb : DSs X W body fb) :
    DS X W (.While c body [] pos) (dWhile fc fb n) := ps_imp (ps_while hp hc hb) fun E σ H h => by
  refine ⟨fun m σ H => tS X.K W (dWhile fc fb m) E σ H, ⟨n, h⟩, fun m σ H ⟨ρ, G, R, h⟩ => ?_⟩
  cases m with
  | zero => exact False.elim h
  | succ m =>
    refine ⟨ρ, G, R, (Go.bindS R h).imp fun b ρ1 G1 H1 s1 R1 h1 => ?_⟩
    cases b with
    | false =>
      rw [if_neg Bool.false_ne_true]
      exact h1 σ G1 H1 .refl R1
    | true =>
      rw [if_pos rfl]
      exact ⟨tS X.K W (dWhile fc fb m) E, fun σ' H' q => ⟨m, Nat.lt_succ_self m, q⟩, ρ1, G1, R1, GoS.turn R1 h1⟩
end DF

namespace DF
open PySem PySem.Spec PyProof.Rows L2

/-! ### targets -/
abbrev Tg := D → DEnv → Option DEnv
def Agr (vs : List Nat) (σ σ' : Sl) : Prop := σ'.length = σ.length ∧ ∀ i, i ∉ vs → σ'[i]? = σ[i]?
def tG (K : PySem.W.Frag) (f : Tg) (sl : List Nat) : TG := fun v σ H Q => ∃ ρ G d, Rep K G H ρ σ ∧ Is K G d v ∧ ∃ ρ', f d ρ = some ρ' ∧ ∀ σ' G' H', Stp ρ σ G H ρ' σ' G' H' → Rep K G' H' ρ' σ' → Agr sl σ σ' → Q σ' H'
def tGs (K : PySem.W.Frag) (f : List D → DEnv → Option DEnv) (sl : List Nat) : TGs := fun vs σ H Q => ∃ ρ G ds, Rep K G H ρ σ ∧ Iss K G ds vs ∧ ∃ ρ', f ds ρ = some ρ' ∧ ∀ σ' G' H', Stp ρ σ G H ρ' σ' G' H' → Rep K G' H' ρ' σ' → Agr sl σ σ' → Q σ' H'
abbrev DG (X : Cx) (tg : Expr) (f : Tg) (sl : List Nat) : Prop := PG X tg (tG X.K f sl)
abbrev DGs (X : Cx) (ts : List Expr) (f : List D → DEnv → Option DEnv) (sl : List Nat) : Prop := PGs X ts (tGs X.K f sl)
theorem pg_imp {X : Cx} {e : Expr} {t t' : TG} (h : PG X e t) (i : ∀ v σ H Q, t' v σ H Q → t v σ H Q) : PG X e t' := ⟨fun pins s σ H v u Q I r q => h.run pins s σ H v u Q I r (i v σ H Q q)⟩
theorem pgs_imp {X : Cx} {es : List Expr} {t t' : TGs} (h : PGs X es t) (i : ∀ v σ H Q, t' v σ H Q → t v σ H Q) : PGs X es t' := ⟨fun pins s σ H v u Q I r q => h.run pins s σ H v u Q I r (i v σ H Q q)⟩
section
variable {X : Cx} {pos : Pos} {e : Expr} {es : List Expr}
theorem dg_name {i : Nat} (h : PG X e (gName i)) : DG X e (setV i) [i] := pg_imp h fun v σ H Q ⟨ρ, G, d, R, hv, ρ', e1, q⟩ => q _ G H (Stp.setV R e1) (R.setV e1 hv)
  ⟨List.length_set, fun j hj => List.getElem?_set_ne fun z => hj (by rw [z]; exact List.mem_singleton_self _)⟩
def gsNil : List D → DEnv → Option DEnv := fun ds ρ => match ds with
  | [] => some ρ
  | _ => none
def gsCons (f : Tg) (g : List D → DEnv → Option DEnv) : List D → DEnv → Option DEnv := fun ds ρ => match ds with
  | [] => none
  | d :: r => match f d ρ with
    | none => none
    | some ρ1 => g r ρ1
theorem dgs_nil : DGs X [] gsNil [] := pgs_imp pgs_nil fun vs σ H Q ⟨ρ, G, ds, R, hv, ρ', e1, q⟩ => by
  cases hv with
  | nil => cases e1; exact ⟨rfl, q σ G H .refl R ⟨rfl, fun _ _ => rfl⟩⟩
  | cons h r => cases e1
theorem dgs_cons {f : Tg} {g : List D → DEnv → Option DEnv} {s1 s2 : List Nat} (h1 : DG X e f s1) (h2 : DGs X es g s2) (hs : (assignEach (e :: es) X.env).map (·.2) = assign e X.env :: (assignEach es X.env).map (·.2) := by rfl) : DGs X (e :: es) (gsCons f g) (s1 ++ s2) :=
  pgs_imp (pgs_cons h1 h2 hs) fun vs σ H Q ⟨ρ, G, ds, R, hv, ρ', e1, q⟩ => by
    cases hv with
    | nil => cases e1
    | @cons d v l xs h r =>
      unfold gsCons at e1
      dsimp only at e1
      split at e1
      · cases e1
      · rename_i ρ1 e2
        exact ⟨v, xs, rfl, ρ, G, d, R, h, ρ1, e2, fun σ1 G1 H1 s1 R1 a1 => ⟨ρ1, G1, l, R1, r.mono s1.g, ρ', e1, fun σ' G' H' s R' a2 => q σ' G' H' (s1.trans R s) R' ⟨a2.1.trans a1.1, fun j hj => (a2.2 j fun m => hj (List.mem_append_right _ m)).trans (a1.2 j fun m => hj (List.mem_append_left _ m))⟩⟩⟩
def gTp (n : Nat) (f : List D → DEnv → Option DEnv) : Tg := fun d ρ => match d with
  | .tup l => if l.length = n then f l ρ else none
  | _ => none
theorem dg_tup {k : Nat} {n : Nat} {f : List D → DEnv → Option DEnv} {sl : List Nat} (hc : X.calm = true) (h : DGs X es f sl) (hn : (assignEach es X.env).length = n := by rfl) (hst : (assignEach es X.env).findIdx? (·.1) = none := by rfl) : DG X (.Tuple es k pos) (gTp n f) sl :=
  pg_imp (pg_tup hc h hn hst) fun v σ H Q ⟨ρ, G, d, R, hv, ρ', e1, q⟩ => by
    cases hv with
    | @tup l a xs h r =>
      unfold gTp at e1
      dsimp only at e1
      split at e1
      · rename_i e2
        exact ⟨a, xs, rfl, Evl.ex_t R.sub h, by rw [← r.length]; exact e2, ρ, G, l, R, r, ρ', e1, q⟩
      · cases e1
    | _ => cases e1
end
def dAsg (f : DEnv → R D) (g : Tg) : DEnv → SR := fun ρ => (f ρ).bindS fun d ρ' => match g d ρ' with
  | none => .no
  | some ρ2 => .nx ρ2
theorem ds_asg {X : Cx} {W : WX} {tg e : Expr} {f : DEnv → R D} {g : Tg} {sl : List Nat} {pos : Pos} (he : DE X W e f) (hg : DG X tg g sl) (hs : swapsWithSole [tg] e pos.line X.env = pure false := by rfl) (hw : swappedStores [tg] e X.env = pure none := by rfl)
    (h1 : (assignEach [tg] X.env).map (·.2) = [assign tg X.env] := by rfl) : DS X W (.Assign [tg] e pos) (dAsg f g) := ps_imp (ps_asg he hg hs hw h1) fun E σ H ⟨ρ, G, R, h⟩ => ⟨ρ, G, R, (Go.bindS R h).imp fun d ρ' G' H' s R' h v hv => by
      split at h
      · exact False.elim h
      · rename_i ρ2 e2
        exact ⟨ρ', G', d, R', hv, ρ2, e2, fun σ' G' H' s R _ => h σ' G' H' s R⟩⟩

/-! ### what is walked -/
/-- the walk yields these, one after another -/
structure ItS (K : PySem.W.Frag) (G0 : Hp) (l : List D) (J : It) : Prop where
  go : ∀ (i : Nat) (d : D) (G H : Hp), l[i]? = some d → Evl.Ex G0 G → Evl.Ex G H → J.go i H ∧ ∀ x H', J.yld i H x H' → ∃ G', New G H G' H' ∧ Is K G' d x
  stop : ∀ (i : Nat) (G H : Hp), l.length ≤ i → Evl.Ex G0 G → Evl.Ex G H → J.stop i H
def tI (K : PySem.W.Frag) (W : WX) (f : DEnv → R (List D)) : TI := fun σ H Q => ∃ ρ G, Rep K G H ρ σ ∧ Go K W σ ρ G H (fun l _ G' H' => ∀ J, ItS K G' l J → Q J H') (f ρ)
abbrev DI (X : Cx) (W : WX) (tg e : Expr) (f : DEnv → R (List D)) : Prop := PI X tg e (tI X.K W f)
theorem pi_imp {X : Cx} {tg e : Expr} {t t' : TI} (h : PI X tg e t) (i : ∀ σ H Q, t' σ H Q → t σ H Q) : PI X tg e t' := ⟨fun pins s σ H R I q => h.run pins s σ H R I (i σ H R q)⟩
section
variable {X : Cx} {W : WX} {tg e : Expr} {pos p : Pos}
def sLst (f : DEnv → R D) : DEnv → R (List D) := fun ρ => (f ρ).bind fun d ρ' => match d with
  | .lst l => .ok ρ' l
  | .fro l => .ok ρ' l
  | _ => .no
def sTup (f : DEnv → R D) : DEnv → R (List D) := fun ρ => (f ρ).bind fun d ρ' => match d with
  | .tup l => .ok ρ' l
  | _ => .no
theorem itl_s {K : PySem.W.Frag} {G0 : Hp} {l : List D} {a : Addr} {xs : List V} (h : SqL K G0 a xs) (r : Iss K G0 l xs) : ItS K G0 l (Itl K a) where
  go := fun i d G H e eG eH => by
    obtain ⟨v, e1, e2⟩ := r.get e
    have hL : SqL K H a xs := Evl.ex_l eH (Evl.ex_l eG h)
    refine ⟨⟨xs, v, hL, e1⟩, fun x H' ⟨z, y⟩ => ?_⟩
    subst z
    have q := y xs hL
    rw [e1] at q; cases q
    exact ⟨G, New.refl eH, e2.mono eG⟩
  stop := fun i G H e eG eH => ⟨xs, Evl.ex_l eH (Evl.ex_l eG h), by rw [← r.length]; exact e⟩
theorem itt_s {K : PySem.W.Frag} {G0 : Hp} {l : List D} {a : Addr} {xs : List V} (h : SqT K G0 a xs) (r : Iss K G0 l xs) : ItS K G0 l (Itt K a) where
  go := fun i d G H e eG eH => by
    obtain ⟨v, e1, e2⟩ := r.get e
    have hL : SqT K H a xs := Evl.ex_t eH (Evl.ex_t eG h)
    refine ⟨⟨xs, v, hL, e1⟩, fun x H' ⟨z, y⟩ => ?_⟩
    subst z
    have q := y xs hL
    rw [e1] at q; cases q
    exact ⟨G, New.refl eH, e2.mono eG⟩
  stop := fun i G H e eG eH => ⟨xs, Evl.ex_t eH (Evl.ex_t eG h), by rw [← r.length]; exact e⟩
theorem di_list {f : DEnv → R D} (h : DE X W e f) : DI X W tg e (sLst f) := pi_imp (pi_list h) fun σ H Q ⟨ρ, G, R, h⟩ => ⟨ρ, G, R, (Go.bind R h).imp fun d ρ' G' H' s R' h v hv => by
    cases hv with
    | @lst l a xs hL r => exact ⟨a, rfl, ⟨xs, Evl.sq_of (R'.sub _ _ hL)⟩, h G' H' .refl R' _ (itl_s (Evl.sq_of hL) r)⟩
    | @fro l a xs hL r => exact ⟨a, rfl, ⟨xs, Evl.ex_l R'.sub hL⟩, h G' H' .refl R' _ (itl_s hL r)⟩
    | _ => exact False.elim h⟩
theorem di_tup {f : DEnv → R D} (h : DE X W e f) : DI X W tg e (sTup f) := pi_imp (pi_tup h) fun σ H Q ⟨ρ, G, R, h⟩ => ⟨ρ, G, R, (Go.bind R h).imp fun d ρ' G' H' s R' h v hv => by
    cases hv with
    | @tup l a xs hL r => exact ⟨a, rfl, ⟨xs, Evl.ex_t R'.sub hL⟩, h G' H' .refl R' _ (itt_s hL r)⟩
    | _ => exact False.elim h⟩
def rng (lo : Int) (n : Nat) : List D := (List.range n).map fun (k : Nat) => D.int (lo + (k : Int))
theorem itr_s {K : PySem.W.Frag} {G0 : Hp} {lo : Int} {n : Nat} : ItS K G0 (rng lo n) (Itr lo n) where
  go := fun i d G H e eG eH => by
    unfold rng at e
    rw [List.getElem?_map] at e
    by_cases h : i < n
    · rw [List.getElem?_range h] at e
      cases e
      refine ⟨h, fun x H' ⟨z, y⟩ => ?_⟩
      subst z y
      exact ⟨G, New.refl eH, .int _⟩
    · rw [List.getElem?_eq_none (by rw [List.length_range]; omega)] at e
      cases e
  stop := fun i G H e _ _ => by
    unfold rng at e
    rw [List.length_map, List.length_range] at e
    exact e
def inR (i : Int) : Bool := decide (-(2 ^ 62) ≤ i) && decide (i < 2 ^ 62)
theorem inR_of {i : Int} (h : inR i = true) : -(2 ^ 62) ≤ i ∧ i < 2 ^ 62 := by
  unfold inR at h
  rw [Bool.and_eq_true, decide_eq_true_eq, decide_eq_true_eq] at h
  exact h
def sRng1 (f : DEnv → R (List D)) : DEnv → R (List D) := fun ρ => (f ρ).bind fun l ρ' => match l with
  | [.int j] => if inR j = true then .ok ρ' (rng 0 j.toNat) else .no
  | _ => .no
def sRng2 (f : DEnv → R (List D)) : DEnv → R (List D) := fun ρ => (f ρ).bind fun l ρ' => match l with
  | [.int i, .int j] => if inR i = true then if inR j = true then .ok ρ' (rng i (j - i).toNat) else .no else .no
  | _ => .no
theorem di_rng1 {a : Expr} {f : DEnv → R (List D)} (hg : Gl X "range") (hm : X.mg "range" = none) (ha : DVs X W [a] f) (hs : starEach [a] X.env = [(false, eval a X.env)] := by rfl) : DI X W tg (.Call (.Name "range" p) [a] [] pos) (sRng1 f) :=
  pi_imp (pi_range1 hg hm ha hs) fun σ H Q ⟨ρ, G, R, h⟩ => ⟨ρ, G, R, (Go.bind R h).imp fun l ρ' G' H' s R' h vs hv => by
    split at h
    · rename_i j
      cases hv with
      | cons h1 h2 =>
        cases h1; cases h2
        split at h
        · rename_i hj
          exact ⟨j, rfl, (inR_of hj).1, (inR_of hj).2, h G' H' .refl R' _ itr_s⟩
        · exact False.elim h
    · exact False.elim h⟩
theorem di_rng2 {a b : Expr} {f : DEnv → R (List D)} (hg : Gl X "range") (hm : X.mg "range" = none) (ha : DVs X W [a, b] f) (hs : starEach [a, b] X.env = [(false, eval a X.env), (false, eval b X.env)] := by rfl) (hs2 : starEach [b] X.env = [(false, eval b X.env)] := by rfl) :
    DI X W tg (.Call (.Name "range" p) [a, b] [] pos) (sRng2 f) :=
  pi_imp (pi_range2 hg hm ha hs hs2) fun σ H Q ⟨ρ, G, R, h⟩ => ⟨ρ, G, R, (Go.bind R h).imp fun l ρ' G' H' s R' h vs hv => by
    split at h
    · rename_i i j
      cases hv with
      | cons h1 h2 =>
        cases h2 with
        | cons h3 h4 =>
          cases h1; cases h3; cases h4
          split at h
          · rename_i hi
            split at h
            · rename_i hj
              exact ⟨i, j, rfl, ⟨(inR_of hi).1, (inR_of hi).2, (inR_of hj).1, (inR_of hj).2⟩, h G' H' .refl R' _ itr_s⟩
            · exact False.elim h
          · exact False.elim h
    · exact False.elim h⟩
end
/-! ### for -/
def dFor (g : Tg) (b : DEnv → SR) : List D → DEnv → SR
  | [], ρ => .nx ρ
  | d :: l, ρ => match g d ρ with
    | none => .no
    | some ρ1 => match b ρ1 with
      | .nx ρ2 => dFor g b l ρ2
      | .cnt ρ2 => dFor g b l ρ2
      | .brk ρ2 => .nx ρ2
      | .no => .no
      | .ret ρ2 fr d => .ret ρ2 fr d
      | .ex ρ2 e => .ex ρ2 e
def dForS (s : DEnv → R (List D)) (g : Tg) (b : DEnv → SR) : DEnv → SR := fun ρ => (s ρ).bindS fun l ρ' => dFor g b l ρ'
theorem ds_for {X : Cx} {W : WX} {tg iter : Expr} {body : List Stmt} {f : DEnv → R (List D)} {g : Tg} {b : DEnv → SR} {sl : List Nat} {pos : Pos} (hp : PassesOwn (model X.prog X.w) X.A X.env X.xe) (hc : X.calm = true) (hi : DI X W tg iter f) (hg : DG X tg g sl) (hb : DSs X W body b)
    (hs : ∀ x, foldedSetIterable iter X.env x = pure x := by intro _; rfl) : DS X W (.For tg iter body [] pos) (dForS f g b) := ps_imp (ps_for hp hc hi hg hb hs) fun E σ H ⟨ρ, G, R, h⟩ => ⟨ρ, G, R, (Go.bindS R h).imp fun l ρ0 G0 H0 s0 R0 h0 J hJ => by
    refine ⟨fun i m σ H => m = l.length - i ∧ ∃ ρ G, Rep X.K G H ρ σ ∧ Evl.Ex G0 G ∧ GoS X.K W σ ρ G H E (dFor g b (l.drop i) ρ), ⟨l.length, by simp, ρ0, G0, R0, fun _ _ e => e, h0⟩, fun i m σ H ⟨em, ρ, G, R, eG, h⟩ => ?_⟩
    cases e : l[i]? with
    | none =>
      have hl : l.length ≤ i := List.getElem?_eq_none_iff.mp e
      rw [List.drop_eq_nil_of_le hl] at h
      exact .inl ⟨hJ.stop i G H hl eG R.sub, h σ G H .refl R⟩
    | some d =>
      obtain ⟨hi, he⟩ := List.getElem?_eq_some_iff.mp e
      obtain ⟨q1, q2⟩ := hJ.go i d G H e eG R.sub
      rw [List.drop_eq_getElem_cons hi, he] at h
      refine .inr ⟨q1, fun σ' H' => ∃ ρ G, Rep X.K G H' ρ σ' ∧ Evl.Ex G0 G ∧ GoS X.K W σ' ρ G H' E (dFor g b (l.drop (i + 1)) ρ), fun σ' H' q => ⟨l.length - (i + 1), by omega, rfl, q⟩, fun x H1 hy => ?_⟩
      obtain ⟨G1, N, hx⟩ := q2 x H1 hy
      have R1 := N.rep R
      unfold dFor at h
      split at h
      · exact False.elim h
      · rename_i ρ1 e1
        refine ⟨ρ, G1, d, R1, hx, ρ1, e1, fun σ2 G2 H2 s2 R2 _ => ⟨ρ1, G2, R2, ?_⟩⟩
        have s3 := (N.stp R).trans R s2
        have h' := GoS.shift R s3 h
        cases eb : b ρ1 with
        | no => rw [eb] at h'; exact h'
        | nx ρ2 =>
          rw [eb] at h'
          exact fun σ' G' H' s R' => ⟨ρ2, G', R', fun c o q => s.g c o (s3.g c o (eG c o q)), GoS.shift R2 s h'⟩
        | cnt ρ2 =>
          rw [eb] at h'
          exact fun σ' G' H' s R' => ⟨ρ2, G', R', fun c o q => s.g c o (s3.g c o (eG c o q)), GoS.shift R2 s h'⟩
        | brk ρ2 => rw [eb] at h'; exact h'
        | ret ρ2 fr d => rw [eb] at h'; exact h'
        | ex ρ2 ee => rw [eb] at h'; exact h'⟩
end DF

namespace DF
open PySem PySem.Spec PyProof.Rows L2
section
variable {X : Cx} {W : WX} {a b c e : Expr} {rest : List Expr} {pos : Pos} {fa fb : DEnv → R D} {ta tb : DEnv → R Bool}
/-! ### tests -/
theorem tB_of {f : DEnv → R D} : ∀ σ H Q, tT X.K W (dTst f) σ H Q → tB (tD X.K W f) σ H Q := fun σ H Q ⟨ρ, G, R, h⟩ =>
  ⟨ρ, G, R, (Go.bind R h).imp fun d ρ' G' H' s R' h v hv => by
    split at h
    · cases hv
      exact ⟨_, rfl, h G' H' .refl R'⟩
    · exact False.elim h⟩
theorem dt_val (h : DE X W e fa) (he : ∀ whole, isTrue e X.env whole = (do let v ← whole; standAt e.pos; holding [v] (truthy v)) := by intro _; rfl) : DT X W e (dTst fa) := pt_imp (pt_val h he) tB_of
/-- the truth of data -/
def tru (d : D) : Option Bool := match d with
  | .non => some false
  | .bl b => some b
  | .int i => some (i != 0)
  | .lst l => some (!l.isEmpty)
  | .tup l => some (!l.isEmpty)
  | _ => none
theorem tru_of {K : PySem.W.Frag} {G H : Hp} {d : D} {v : V} {b : Bool} (eS : Evl.Ex G H) (h : Top K G H d v) (e : tru d = some b) : TruV K v H b := by
  cases d with
  | non => cases h; cases e; exact (rfl : false = false)
  | bl c => cases h; cases e; exact (rfl : b = b)
  | int i => cases h; cases e; exact (rfl : (i != 0) = (i != 0))
  | str x => cases e
  | dic l => cases e
  | lst l =>
    obtain ⟨p, xs, rfl, h1, h2⟩ := h
    cases e
    refine .inl ⟨xs, Evl.sq_of h1, ?_⟩
    cases h2 <;> rfl
  | fro l => cases e
  | tup l =>
    cases h with
    | @tup l p xs h1 h2 =>
      cases e
      refine .inr (.inl ⟨xs, Evl.ex_t eS h1, ?_⟩)
      cases h2 <;> rfl
def dTru (f : DEnv → R Th) : DEnv → R Bool := fun ρ => (f ρ).bind fun t ρ' => match t ρ' with
  | none => .no
  | some d => ofO ρ' (tru d)
theorem dt_truth {f : DEnv → R Th} (h : DO X W e f) (he : ∀ whole, isTrue e X.env whole = (do let v ← whole; standAt e.pos; holding [v] (truthy v)) := by intro _; rfl) : DT X W e (dTru f) :=
  pt_imp (pt_truth h he) fun σ H Q ⟨ρ, G, R, h⟩ => ⟨ρ, G, R, (Go.bind R h).imp fun t ρ' G' H' s R' h v hv => by
    split at h
    · exact False.elim h
    · rename_i d e1
      cases e2 : tru d with
      | none => rw [e2] at h; exact False.elim h
      | some b =>
        rw [e2] at h
        exact ⟨b, tru_of R'.sub (hv ρ' G' H' d .refl R' e1) e2, h G' H' .refl R'⟩⟩
abbrev DW (X : Cx) (W : WX) (e : Expr) (f : DEnv → R Bool) : Prop := PW X e (tT X.K W f)
def dAnd (f g : DEnv → R Bool) : DEnv → R Bool := fun ρ => (f ρ).bind fun b ρ' => match b with
  | true => g ρ'
  | false => .ok ρ' false
def dOr (f g : DEnv → R Bool) : DEnv → R Bool := fun ρ => (f ρ).bind fun b ρ' => match b with
  | true => .ok ρ' true
  | false => g ρ'
def dNot (f : DEnv → R Bool) : DEnv → R Bool := fun ρ => (f ρ).bind fun b ρ' => .ok ρ' (!b)
theorem dw_and1 (h : DT X W a ta) : DW X W (.BoolOp .And [a] pos) ta := pw_and1 h
theorem dw_or1 (h : DT X W a ta) : DW X W (.BoolOp .Or [a] pos) ta := pw_or1 h
theorem dw_and (ha : DT X W a ta) (hb : DW X W (.BoolOp .And (b :: rest) pos) tb) : DW X W (.BoolOp .And (a :: b :: rest) pos) (dAnd ta tb) :=
  pw_imp (pw_and ha hb) fun σ H Q ⟨ρ, G, R, h⟩ => ⟨ρ, G, R, (Go.bind R h).imp fun b ρ' G' H' s R' h => by
    cases b with
    | true => rw [if_pos rfl]; exact ⟨ρ', G', R', h⟩
    | false => rw [if_neg Bool.false_ne_true]; exact h G' H' .refl R'⟩
theorem dw_or (ha : DT X W a ta) (hb : DW X W (.BoolOp .Or (b :: rest) pos) tb) : DW X W (.BoolOp .Or (a :: b :: rest) pos) (dOr ta tb) :=
  pw_imp (pw_or ha hb) fun σ H Q ⟨ρ, G, R, h⟩ => ⟨ρ, G, R, (Go.bind R h).imp fun b ρ' G' H' s R' h => by
    cases b with
    | true => rw [if_pos rfl]; exact h G' H' .refl R'
    | false => rw [if_neg Bool.false_ne_true]; exact ⟨ρ', G', R', h⟩⟩
theorem dt_bool (h : DW X W e ta) : DT X W e ta := h.pt
theorem dt_not (ha : DT X W a ta) : DT X W (.UnaryOp .Not a pos) (dNot ta) :=
  pt_imp (pt_not ha) fun σ H Q ⟨ρ, G, R, h⟩ => ⟨ρ, G, R, (Go.bind R h).imp fun b ρ' G' H' s R' h => h G' H' .refl R'⟩
/-! ### and, or, not as values: of bools -/
def dAndV (f g : DEnv → R D) : DEnv → R D := fun ρ => (f ρ).bind fun d ρ' => match d with
  | .bl true => g ρ'
  | .bl false => .ok ρ' (.bl false)
  | _ => .no
def dOrV (f g : DEnv → R D) : DEnv → R D := fun ρ => (f ρ).bind fun d ρ' => match d with
  | .bl true => .ok ρ' (.bl true)
  | .bl false => g ρ'
  | _ => .no
def dNotV (f : DEnv → R D) : DEnv → R D := fun ρ => (f ρ).bind fun d ρ' => match d with
  | .bl b => .ok ρ' (.bl (!b))
  | _ => .no
theorem de_one {op} (h : DE X W a fa) : DE X W (.BoolOp op [a] pos) fa := pe_one h
theorem de_and (ha : DE X W a fa) (hb : DE X W (.BoolOp .And (b :: rest) pos) fb) : DE X W (.BoolOp .And (a :: b :: rest) pos) (dAndV fa fb) :=
  pe_imp (pe_and ha hb) fun σ H Q ⟨ρ, G, R, h⟩ => ⟨ρ, G, R, (Go.bind R h).imp fun d ρ' G' H' s R' h v hv => by
    split at h
    · cases hv; exact ⟨true, rfl, by rw [if_pos rfl]; exact ⟨ρ', G', R', h⟩⟩
    · cases hv; exact ⟨false, rfl, by rw [if_neg Bool.false_ne_true]; exact h G' H' .refl R' _ (.bl false)⟩
    · exact False.elim h⟩
theorem de_or (ha : DE X W a fa) (hb : DE X W (.BoolOp .Or (b :: rest) pos) fb) : DE X W (.BoolOp .Or (a :: b :: rest) pos) (dOrV fa fb) :=
  pe_imp (pe_or ha hb) fun σ H Q ⟨ρ, G, R, h⟩ => ⟨ρ, G, R, (Go.bind R h).imp fun d ρ' G' H' s R' h v hv => by
    split at h
    · cases hv; exact ⟨true, rfl, by rw [if_pos rfl]; exact h G' H' .refl R' _ (.bl true)⟩
    · cases hv; exact ⟨false, rfl, by rw [if_neg Bool.false_ne_true]; exact ⟨ρ', G', R', h⟩⟩
    · exact False.elim h⟩
theorem de_not (ha : DE X W a fa) : DE X W (.UnaryOp .Not a pos) (dNotV fa) :=
  pe_imp (pe_not ha) fun σ H Q ⟨ρ, G, R, h⟩ => ⟨ρ, G, R, (Go.bind R h).imp fun d ρ' G' H' s R' h v hv => by
    split at h
    · rename_i b
      cases hv; exact ⟨b, rfl, h G' H' .refl R' _ (.bl _)⟩
    · exact False.elim h⟩
def dIte (t : DEnv → R Bool) (f g : DEnv → R D) : DEnv → R D := fun ρ => (t ρ).bind fun b ρ' => match b with
  | true => f ρ'
  | false => g ρ'
theorem de_ifExp (hc : DT X W c ta) (ha : DE X W a fa) (hb : DE X W b fb) : DE X W (.IfExp c a b pos) (dIte ta fa fb) :=
  pe_imp (pe_ifExp hc ha hb) fun σ H Q ⟨ρ, G, R, h⟩ => ⟨ρ, G, R, (Go.bind R h).imp fun b ρ' G' H' s R' h => by
    cases b with
    | true => rw [if_pos rfl]; exact ⟨ρ', G', R', h⟩
    | false => rw [if_neg Bool.false_ne_true]; exact ⟨ρ', G', R', h⟩⟩
/-! ### a op b op c -/
def dChain (g g' : D → D → Option D) (f1 f2 f3 : DEnv → R Th) : DEnv → R D := fun ρ => (f1 ρ).bind fun t1 ρ1 => (f2 ρ1).bind fun t2 ρ2 => match t1 ρ2, t2 ρ2 with
  | some x, some y => match g x y with
    | some (.bl true) => (f3 ρ2).bind fun t3 ρ3 => match t2 ρ3, t3 ρ3 with
      | some y', some z => ofO ρ3 (g' y' z)
      | _, _ => .no
    | some (.bl false) => .ok ρ2 (.bl false)
    | _ => .no
  | _, _ => .no
theorem tchain {r r' : R2} {g g' : D → D → Option D} {f1 f2 f3 : DEnv → R Th} (hs : OpS X.K r g) (hs' : OpS X.K r' g') : ∀ σ H Q, tD X.K W (dChain g g' f1 f2 f3) σ H Q → tChain r r' (tO X.K W f1) (tO X.K W f2) (tO X.K W f3) σ H Q := fun σ H Q ⟨ρ, G, R, h⟩ =>
  ⟨ρ, G, R, (Go.bind R h).imp fun t1 ρ1 G1 H1 s1 R1 h1 v hv => ⟨ρ1, G1, R1, (Go.bind R1 h1).imp fun t2 ρ2 G2 H2 s2 R2 h2 u hu => by
    split at h2
    · rename_i x y ex ey
      cases e : g x y with
      | none => rw [e] at h2; exact False.elim h2
      | some z =>
        rw [e] at h2
        refine hs x y z v u G2 H2 _ R2.sub (hv ρ2 G2 H2 x s2 R2 ex) (hu ρ2 G2 H2 y .refl R2 ey) e fun w G' H' N hw => ?_
        have R' := N.rep R2
        have S' := N.stp R2
        cases z with
        | bl k =>
          cases hw
          refine ⟨k, rfl, ?_⟩
          cases k with
          | true =>
            rw [if_pos rfl]
            refine ⟨ρ2, G', R', (Go.bind R' (Go.shift R2 S' h2)).imp fun t3 ρ3 G3 H3 s3 R3 h3 w' hw' => ?_⟩
            split at h3
            · rename_i y' z ey' ez
              cases e' : g' y' z with
              | none => rw [e'] at h3; exact False.elim h3
              | some z' =>
                rw [e'] at h3
                exact hs' y' z z' u w' G3 H3 Q R3.sub (hu ρ3 G3 H3 y' (S'.trans R2 s3) R3 ey') (hw' ρ3 G3 H3 z .refl R3 ez) e' fun w G' H' N hw => h3 G' H' (N.stp R3) (N.rep R3) w hw
            · exact False.elim h3
          | false =>
            rw [if_neg Bool.false_ne_true]
            exact h2 G' H' S' R' _ (.bl false)
        | _ => exact False.elim h2
    · exact False.elim h2⟩⟩
theorem de_chain {op op' : CmpOp} {r r' : R2} {g g' : D → D → Option D} {f1 f2 f3 : DEnv → R Th} (ho : OpR X (compareOp op) r) (ho' : OpR X (compareOp op') r') (hs : OpS X.K r g) (hs' : OpS X.K r' g') (h1 : DO X W a f1) (h2 : DO X W b f2) (h3 : DO X W c f3)
    (hm : lastMarks [op, op'] [b, c] = false := by with_unfolding_all rfl) : DE X W (.Compare a [op, op'] [b, c] pos) (dChain g g' f1 f2 f3) := pe_imp (pe_chain ho ho' h1 h2 h3 hm) (tchain hs hs')
theorem dt_chain {op op' : CmpOp} {r r' : R2} {g g' : D → D → Option D} {f1 f2 f3 : DEnv → R Th} (ho : OpR X (compareOp op) r) (ho' : OpR X (compareOp op') r') (hs : OpS X.K r g) (hs' : OpS X.K r' g') (h1 : DO X W a f1) (h2 : DO X W b f2) (h3 : DO X W c f3)
    (hm : lastMarks [op, op'] [b, c] = false := by with_unfolding_all rfl) : DT X W (.Compare a [op, op'] [b, c] pos) (dTst (dChain g g' f1 f2 f3)) :=
  pt_imp (pt_chain ho ho' h1 h2 h3 hm) fun σ H Q h => by
    obtain ⟨ρ, G, R, h⟩ := ttst σ H Q h
    exact tchain hs hs' σ H _ ⟨ρ, G, R, h⟩
/-! ### displays -/
def dTup (f : DEnv → R (List D)) : DEnv → R D := fun ρ => (f ρ).bind fun l ρ' => if l.length ≤ 1000 then .ok ρ' (.tup l) else .no
def dLst (f : DEnv → R (List D)) : DEnv → R D := fun ρ => (f ρ).bind fun l ρ' => if l.length ≤ 1000 then .ok ρ' (.lst l) else .no
theorem de_tup {es : List Expr} {k : Nat} {f : DEnv → R (List D)} (h : DVs X W es f) : DE X W (.Tuple es k pos) (dTup f) := pe_imp (pe_tup h) fun σ H Q ⟨ρ, G, R, h⟩ => ⟨ρ, G, R, (Go.bind R h).imp fun l ρ' G' H' s R' h vs hv => by
    split at h
    · rename_i hl
      refine ⟨Evl.sz_of (by rw [← hv.length]; omega), fun p hp => ?_⟩
      have N : New G' H' (upd G' p (.tup vs)) (upd H' p (.tup vs)) := New.put R'.sub hp
      exact h _ _ (N.stp R') (N.rep R') _ (.tup (Evl.st_of upd_same) (hv.mono N.g))
    · exact False.elim h⟩
/-- a fresh list, as readings have it -/
theorem fresh_lst {K : PySem.W.Frag} {ρ0 ρ : DEnv} {σ : Sl} {G0 H0 G H : Hp} {l : List D} {vs : List V} {Q : VK} (R0 : Rep K G0 H0 ρ0 σ) (s : Stp ρ0 σ G0 H0 ρ σ G H) (R : Rep K G H ρ σ)
    (h : ∀ G' H', Stp ρ0 σ G0 H0 ρ σ G' H' → Rep K G' H' ρ σ → ∀ a, G' a = none → ¬ Mu false ρ σ a → ¬ Mu true ρ σ a → H0 a = none → Cont K G' H' a (.lst l) → Q (.ref a) H') (hv : Iss K G l vs) (p : Addr) (hp : H p = none) : Q (.ref p) (upd H p (.lst vs)) := by
  have N : New G H G (upd H p (.lst vs)) := New.hid R.sub hp
  have no : ∀ b, ¬ Mu b ρ σ p := fun b ⟨i, d, e1, e2⟩ => by
    obtain ⟨a, e3, _, e4⟩ := R.mu i b d e1
    rw [e2] at e3; cases e3
    obtain ⟨o, ho⟩ := e4.there
    rw [hp] at ho; cases ho
  exact h _ _ (s.trans R0 (N.stp R)) (N.rep R) p (sub_none R.sub hp) (no false) (no true) (s.t p hp) ⟨vs, upd_same, hv⟩
theorem df_lst {es : List Expr} {f : DEnv → R (List D)} (h : DVs X W es f) : DF' X W (.List es pos) (dLst f) := pe_imp (pe_lst h) fun σ H Q ⟨ρ, G, R, h⟩ => ⟨ρ, G, R, by
    cases e1 : f ρ with
    | no =>
      have h2 : dLst f ρ = .no := by unfold dLst; rw [e1]; rfl
      rw [h2] at h; exact h
    | ex ρ' ee =>
      have h2 : dLst f ρ = .ex ρ' ee := by unfold dLst; rw [e1]; rfl
      rw [h2] at h; exact h
    | ok ρ' l =>
      have h2 : dLst f ρ = if l.length ≤ 1000 then .ok ρ' (.lst l) else .no := by unfold dLst; rw [e1]; rfl
      rw [h2] at h
      intro G' H' s R' vs hv
      split at h
      · rename_i hl
        refine ⟨Evl.sz_of (by rw [← hv.length]; omega), fun p hp => ?_⟩
        exact fresh_lst R s R' (fun G' H' s R q1 q2 q3 q4 q5 q6 => h G' H' s R q1 q2 q3 q4 q5 q6) hv p hp
      · exact False.elim h⟩
/-! ### items and slices -/
def ixD (x y : D) : Option D := match x, y with
  | .lst l, .int i => atI l i
  | .tup l, .int i => atI l i
  | .fro l, .int i => atI l i
  | _, _ => none
theorem atI_iss {K : PySem.W.Frag} {G : Hp} {l : List D} {xs : List V} {i : Int} {d : D} (r : Iss K G l xs) (e : atI l i = some d) : ∃ v, atI xs i = some v ∧ Is K G d v := by
  unfold atI at e ⊢
  rw [← r.length]
  cases q : ixN l.length i with
  | none => rw [q] at e; cases e
  | some j =>
    rw [q] at e
    exact r.get e
def rIx2 (K : PySem.W.Frag) : R2 := fun x y H Q => rIxL K x y H Q ∨ rIxT K x y H Q
theorem ix2 {X : Cx} : IxR X (rIx2 X.K) := ix_list.or ix_tup
theorem ops_ix {K : PySem.W.Frag} : OpS K (rIx2 K) ixD := fun x y z v u G H Q eS hx hy e k => by
  cases y with
  | int i =>
    cases hy
    cases x with
    | lst l =>
      obtain ⟨p, xs, rfl, h1, h2⟩ := hx
      obtain ⟨w, e1, e2⟩ := atI_iss h2 e
      exact .inl ⟨p, xs, i, w, rfl, rfl, Evl.sq_of h1, e1, k w G H (New.refl eS) e2⟩
    | fro l =>
      cases hx with
      | @fro l p xs h1 h2 =>
        obtain ⟨w, e1, e2⟩ := atI_iss h2 e
        exact .inl ⟨p, xs, i, w, rfl, rfl, Evl.ex_l eS h1, e1, k w G H (New.refl eS) e2⟩
    | tup l =>
      cases hx with
      | @tup l p xs h1 h2 =>
        obtain ⟨w, e1, e2⟩ := atI_iss h2 e
        exact .inr ⟨p, xs, i, w, rfl, rfl, Evl.ex_t eS h1, e1, k w G H (New.refl eS) e2⟩
    | _ => cases e
  | _ => cases x <;> cases e
theorem de_ix {f1 f2 : DEnv → R Th} (ha : DO X W a f1) (hb : DO X W b f2) (hs : PlainIx b := by exact fun _ _ => rfl) : DE X W (.Subscript a b pos) (dBin ixD f1 f2) := pe_imp (pe_ix ix2 ha hb hs) (tbin ops_ix)
end
end DF

namespace DF
open PySem PySem.Spec PyProof.Rows L2
section
variable {K : PySem.W.Frag} {ρ : DEnv} {σ : Sl} {G H : Hp} {i : Nat} {b : Bool} {d d1 : D} {a : Addr} {o : HO}
/-- one's own list or dict is changed -/
theorem Rep.chg (R : Rep K G H ρ σ) (e : ρ[i]? = some (some (.mu b d))) (ea : σ[i]? = some (some (.ref a))) (c : Cont K G (upd H a o) a d1) :
    Stp ρ σ G H (ρ.set i (some (.mu b d1))) σ G (upd H a o) ∧ Rep K G (upd H a o) (ρ.set i (some (.mu b d1))) σ := by
  obtain ⟨a', e1, e2, e3⟩ := R.mu i b d e
  rw [ea] at e1; cases e1
  have hl : i < ρ.length := (List.getElem?_eq_some_iff.mp e).1
  have mu : ∀ (j : Nat) (c : Bool) (d' : D), (ρ.set i (some (.mu b d1)))[j]? = some (some (.mu c d')) → ∃ d'', ρ[j]? = some (some (.mu c d'')) := fun j c d' q => by
    rcases set_get q with ⟨z, y⟩ | ⟨_, z⟩
    · subst z; cases y; exact ⟨d, e⟩
    · exact ⟨d', z⟩
  refine ⟨⟨fun _ _ q => q, fun c u n1 n2 q => ?_, fun c q => ?_, fun c q1 q2 => absurd q1 q2, fun c ⟨j, d', q1, q2⟩ => ?_, fun j => ⟨fun d' q => ?_, fun d' q => mu j true d' q⟩⟩, ⟨fun c u q => ?_, by rw [List.length_set]; exact R.len, fun j d' q => ?_, fun j c' d' q => ?_, fun j k b' c' x y a' q1 q2 q3 q4 => ?_⟩⟩
  · have n : c ≠ a := fun z => by
      subst z
      cases b with
      | false => exact n1 ⟨i, d, e, ea⟩
      | true => exact n2 ⟨i, d, e, ea⟩
    rw [upd_ne n]; exact q
  · by_cases z : c = a
    · subst z; rw [upd_same] at q; cases q
    · rw [upd_ne z] at q; exact q
  · obtain ⟨d'', z⟩ := mu j false d' q1
    exact .inl ⟨j, d'', z, q2⟩
  · by_cases z : i = j
    · subst z
      rw [e] at q; cases q
      exact ⟨d1, List.getElem?_set_self hl, rfl⟩
    · exact ⟨d', by rw [List.getElem?_set_ne z]; exact q, rfl⟩
  · have n : c ≠ a := fun z => by subst z; rw [e2] at q; cases q
    rw [upd_ne n]; exact R.sub c u q
  · rcases set_get q with ⟨_, y⟩ | ⟨_, z⟩
    · cases y
    · exact R.vl j d' z
  · rcases set_get q with ⟨z, y⟩ | ⟨n, z⟩
    · subst z; cases y
      exact ⟨a, ea, e2, c⟩
    · obtain ⟨a2, z1, z2, z3⟩ := R.mu j c' d' z
      have na : a2 ≠ a := fun y => by subst y; exact n (R.ap i j b c' d d' a2 e z ea z1)
      exact ⟨a2, z1, z2, z3.mono (fun _ _ q => q) fun u q => by rw [upd_ne na]; exact q⟩
  · obtain ⟨x', z1⟩ := mu j b' x q1
    obtain ⟨y', z2⟩ := mu k c' y q2
    exact R.ap j k b' c' x' y' a' z1 z2 q3 q4
end
section
variable {X : Cx} {W : WX} {i : Nat} {o e k : Expr} {pos p1 p2 p3 : Pos} {f : DEnv → R D}
def muL (i : Nat) (ρ : DEnv) : Option (Bool × List D) := match ρ[i]? with
  | some (some (.mu b (.lst l))) => some (b, l)
  | _ => none
theorem muL_of {ρ : DEnv} {b : Bool} {l : List D} (h : muL i ρ = some (b, l)) : ρ[i]? = some (some (.mu b (.lst l))) := by
  unfold muL at h
  split at h
  · rename_i b' l' e; cases h; exact e
  · cases h
/-- x.append(e) -/
def dApp (i : Nat) (f : DEnv → R D) : DEnv → SR := fun ρ => match muL i ρ with
  | none => .no
  | some _ => (f ρ).bindS fun d ρ' => match muL i ρ' with
    | none => .no
    | some (b, l) => if l.length < 16000000 then .nx (ρ'.set i (some (.mu b (.lst (l ++ [d]))))) else .no
theorem ds_app (ho : PE X o (tVar i)) (he : DE X W e f) (hs : swapsWith (.Call (.Attribute o "append" p1) [e] [] p2) none pos.line X.env = pure false := by rfl)
    (hbase : attributeBase o "append" X.env (eval o X.env) = eval o X.env := by rfl)
    (hfew : ((backTo p2 (starEach [e] X.env)).all (fun x => !x.1) && (backToKw p2 (keywordEach [] X.env)).all (fun x => x.1.isSome) && decide ([e].length + ([] : List Keyword).length + (if ([] : List Keyword).isEmpty then 0 else 1) < 30)) = true := by rfl)
    (hline : (p1.endLine == p2.line) = true := by rfl) (hst : starEach [e] X.env = (false, eval e X.env) :: starEach [] X.env := by rfl) (hplain : (backTo p2 (starEach [] X.env)).any (·.1) = false := by rfl) :
    DS X W (.Expr (.Call (.Attribute o "append" p1) [e] [] p2) pos) (dApp i f) :=
  ps_imp (ps_expr (pe_bm PySem.F.plainAttrs_list PySem.F.slot_list_append PySem.F.type_list_append mt_append ho (pa_cons he pa_nil hst) hbase hfew hline hst hplain) hs) fun E σ H ⟨ρ, G, R, h⟩ => by
    unfold dApp at h
    split at h
    · exact False.elim h
    · rename_i q e1
      obtain ⟨b, l⟩ := q
      have e1 := muL_of e1
      obtain ⟨a, ea, e2, xs, e3, e4⟩ := R.mu i b _ e1
      refine ⟨.ref a, ea, .inl ⟨rfl, xs, Evl.sq_of e3⟩, ρ, G, R, (Go.bindS R h).imp fun d ρ' G' H' s R' h v hv => ?_⟩
      split at h
      · exact False.elim h
      · rename_i b' l' e5
        have e5 := muL_of e5
        obtain ⟨a', ea', e6, ys, e7, e8⟩ := R'.mu i b' _ e5
        rw [ea] at ea'; cases ea'
        split at h
        · rename_i hl
          refine ⟨a, ys, v, rfl, rfl, e7, by rw [← e8.length, sizeLine_eq]; omega, ?_⟩
          obtain ⟨s2, R2⟩ := R'.chg (o := .lst (ys ++ [v])) (d1 := .lst (l' ++ [d])) e5 ea ⟨_, upd_same, e8.append (.cons hv .nil)⟩
          exact h σ G' _ s2 R2
        · exact False.elim h
/-- x[k] = e -/
def dSetI (i : Nat) (fk f : DEnv → R D) : DEnv → SR := fun ρ => (f ρ).bindS fun d ρ1 => match muL i ρ1 with
  | none => .no
  | some _ => (fk ρ1).bindS fun k ρ2 => match muL i ρ2, k with
    | some (b, l), .int n => match ixN l.length n with
      | none => .no
      | some j => .nx (ρ2.set i (some (.mu b (.lst (l.set j d)))))
    | _, _ => .no
theorem ds_seti {fk : DEnv → R D} (ho : PE X o (tVar i)) (hk : DE X W k fk) (he : DE X W e f) (hs : swapsWithSole [.Subscript o k p1] e pos.line X.env = pure false := by rfl) (hw : swappedStores [.Subscript o k p1] e X.env = pure none := by rfl)
    (h1 : (assignEach [.Subscript o k p1] X.env).map (·.2) = [assign (.Subscript o k p1) X.env] := by rfl)
    (ha : ∀ v, assign (.Subscript o k p1) X.env v = (do
      let ov ← holding [v] (eval o X.env)
      let iv ← holding [v, ov] (eval k X.env)
      standAt p1
      holding [v, ov, iv] (setItem ov iv v)
      release [v, ov, iv] []) := by intro _; rfl) : DS X W (.Assign [.Subscript o k p1] e pos) (dSetI i fk f) :=
  ps_imp (ps_asg he (pg_sub ho hk set_list ha) hs hw h1) fun E σ H ⟨ρ, G, R, h⟩ => ⟨ρ, G, R, (Go.bindS R h).imp fun d ρ1 G1 H1 s1 R1 h v hv => by
    split at h
    · exact False.elim h
    · rename_i q e1
      obtain ⟨b, l⟩ := q
      have e1 := muL_of e1
      obtain ⟨a, ea, e2, xs, e3, e4⟩ := R1.mu i b _ e1
      refine ⟨.ref a, ea, ρ1, G1, R1, (Go.bindS R1 h).imp fun kd ρ2 G2 H2 s2 R2 h kv hkv => ?_⟩
      split at h
      · rename_i b' l' n e5
        have e5 := muL_of e5
        cases hkv
        obtain ⟨a', ea', e6, ys, e7, e8⟩ := R2.mu i b' _ e5
        rw [ea] at ea'; cases ea'
        split at h
        · exact False.elim h
        · rename_i j ej
          refine ⟨a, ys, n, j, rfl, rfl, e7, by rw [← e8.length]; exact ej, ?_⟩
          obtain ⟨s3, R3⟩ := R2.chg (o := .lst (ys.set j v)) (d1 := .lst (l'.set j d)) e5 ea ⟨_, upd_same, e8.set (hv.mono s2.g) j⟩
          exact h σ G2 _ s3 R3
      · exact False.elim h⟩
end

/-! ### a def's promise over data -/
inductive FRes where
  | no
  | ret (fr : Bool) (d : D) (outs : List D)
  | exc (e : Exc) (outs : List D)
abbrev Fn := List (Bool × D) → FRes
inductive ArgsIs (K : PySem.W.Frag) (G H : Hp) : List (Bool × D) → List V → Prop
  | nil : ArgsIs K G H [] []
  | val {d : D} {v : V} {as : List (Bool × D)} {vs : List V} : Is K G d v → ArgsIs K G H as vs → ArgsIs K G H ((false, d) :: as) (v :: vs)
  | io {d : D} {a : Addr} {as : List (Bool × D)} {vs : List V} : G a = none → Cont K G H a d → ArgsIs K G H as vs → ArgsIs K G H ((true, d) :: as) (.ref a :: vs)
def ioA : List (Bool × D) → List V → List Addr
  | (true, _) :: as, .ref a :: vs => a :: ioA as vs
  | _ :: as, _ :: vs => ioA as vs
  | _, _ => []
inductive OutsIs (K : PySem.W.Frag) (G H : Hp) : List (Bool × D) → List V → List D → Prop
  | nil : OutsIs K G H [] [] []
  | val {d : D} {v : V} {as : List (Bool × D)} {vs : List V} {os : List D} : OutsIs K G H as vs os → OutsIs K G H ((false, d) :: as) (v :: vs) os
  | io {d d' : D} {a : Addr} {as : List (Bool × D)} {vs : List V} {os : List D} : Cont K G H a d' → OutsIs K G H as vs os → OutsIs K G H ((true, d) :: as) (.ref a :: vs) (d' :: os)
structure FStp (io : List Addr) (G H G' H' : Hp) : Prop where
  g : Evl.Ex G G'
  h : ∀ b o, b ∉ io → H b = some o → H' b = some o
  t : ∀ b, H' b = none → H b = none
  n : ∀ b, G b = none → G' b ≠ none → H b = none
  s : Evl.Ex G' H'
def FIs (K : PySem.W.Frag) (G' H' H : Hp) (fr : Bool) (d : D) (v : V) : Prop := match fr with
  | false => Is K G' d v
  | true => ∃ a, v = .ref a ∧ G' a = none ∧ H a = none ∧ Cont K G' H' a d
def spD (K : PySem.W.Frag) (ar : Nat) (F : Fn) : Sp := fun vs H Q E => vs.length = ar ∧ ∃ G as, Evl.Ex G H ∧ ArgsIs K G H as vs ∧ (ioA as vs).Nodup ∧ match F as with
  | .no => False
  | .ret fr d outs => ∀ v G' H', FStp (ioA as vs) G H G' H' → OutsIs K G' H' as vs outs → FIs K G' H' H fr d v → Q v H'
  | .exc e outs => ∀ dd G' H', FStp (ioA as vs) G H G' H' → OutsIs K G' H' as vs outs → EIs K G' H' e dd → E e.cls dd H'
theorem ArgsIs.length {K : PySem.W.Frag} {G H : Hp} : ∀ {as : List (Bool × D)} {vs : List V}, ArgsIs K G H as vs → as.length = vs.length
  | _, _, .nil => rfl
  | _, _, .val _ r => congrArg (· + 1) (ArgsIs.length r)
  | _, _, .io _ _ r => congrArg (· + 1) (ArgsIs.length r)

/-! ### the callee's side -/
def startC (as : List (Bool × D)) : DEnv := as.map fun p => some (if p.1 then .mu true p.2 else .val p.2)
def startE (n : Nat) (as : List (Bool × D)) : DEnv := startC as ++ List.replicate (n - as.length) none
def outs (ρ : DEnv) : Nat → List (Bool × D) → Option (List D)
  | _, [] => some []
  | i, (false, _) :: as => outs ρ (i + 1) as
  | i, (true, _) :: as => match ρ[i]? with
    | some (some (.mu true d)) => match outs ρ (i + 1) as with
      | some l => some (d :: l)
      | none => none
    | _ => none
def fnRes (as : List (Bool × D)) (r : SR) : FRes := match r with
  | .nx ρ => match outs ρ 0 as with
    | some l => .ret false .non l
    | none => .no
  | .ret ρ fr d => match outs ρ 0 as with
    | some l => .ret fr d l
    | none => .no
  | .ex ρ e => match outs ρ 0 as with
    | some l => .exc e l
    | none => .no
  | _ => .no
end DF

namespace DF
open PySem PySem.Spec PyProof.Rows L2
section
variable {K : PySem.W.Frag} {G H G' H' : Hp}
theorem ArgsIs.get : ∀ {as : List (Bool × D)} {vs : List V} {i : Nat} {b : Bool} {d : D}, ArgsIs K G H as vs → as[i]? = some (b, d) → ∃ v, vs[i]? = some v ∧ match b with | false => Is K G d v | true => ∃ a, v = .ref a ∧ G a = none ∧ Cont K G H a d ∧ a ∈ ioA as vs
  | _, _, _, _, _, .nil, e => by simp at e
  | _, _, 0, _, _, .val h _, e => by simp at e; obtain ⟨rfl, rfl⟩ := e; exact ⟨_, rfl, h⟩
  | _, _, 0, _, _, .io h c _, e => by simp at e; obtain ⟨rfl, rfl⟩ := e; exact ⟨_, rfl, _, rfl, h, c, List.mem_cons_self⟩
  | _, _, i + 1, b, d, .val h r, e => by
    obtain ⟨v, e1, e2⟩ := ArgsIs.get (i := i) (b := b) (d := d) r (by simpa using e)
    refine ⟨v, by simpa using e1, ?_⟩
    cases b with
    | false => exact e2
    | true => obtain ⟨a, q1, q2, q3, q4⟩ := e2; exact ⟨a, q1, q2, q3, q4⟩
  | _, _, i + 1, b, d, .io h c r, e => by
    obtain ⟨v, e1, e2⟩ := ArgsIs.get (i := i) (b := b) (d := d) r (by simpa using e)
    refine ⟨v, by simpa using e1, ?_⟩
    cases b with
    | false => exact e2
    | true => obtain ⟨a, q1, q2, q3, q4⟩ := e2; exact ⟨a, q1, q2, q3, List.mem_cons_of_mem _ q4⟩
theorem ArgsIs.inj : ∀ {as : List (Bool × D)} {vs : List V} {i j : Nat} {d e : D} {a : Addr}, ArgsIs K G H as vs → (ioA as vs).Nodup → as[i]? = some (true, d) → as[j]? = some (true, e) → vs[i]? = some (.ref a) → vs[j]? = some (.ref a) → i = j
  | _, _, _, _, _, _, _, .nil, _, h, _, _, _ => by simp at h
  | _, _, 0, 0, _, _, _, _, _, _, _, _, _ => rfl
  | _, _, i + 1, j + 1, _, _, _, .val _ r, nd, h1, h2, h3, h4 => congrArg (· + 1) (ArgsIs.inj r nd (by simpa using h1) (by simpa using h2) (by simpa using h3) (by simpa using h4))
  | _, _, i + 1, j + 1, _, _, _, .io _ _ r, nd, h1, h2, h3, h4 => congrArg (· + 1) (ArgsIs.inj r (List.nodup_cons.mp nd).2 (by simpa using h1) (by simpa using h2) (by simpa using h3) (by simpa using h4))
  | _, _, 0, j + 1, _, _, _, .val _ r, nd, h1, h2, h3, h4 => by simp at h1
  | _, _, 0, j + 1, _, _, a, .io _ _ r, nd, h1, h2, h3, h4 => by
    simp at h3
    obtain ⟨v, e1, a', e2, _, _, e3⟩ := ArgsIs.get (i := j) r (by simpa using h2)
    have z : some v = some (V.ref a) := e1.symm.trans (by simpa using h4)
    cases z
    cases e2
    rw [← h3] at e3
    exact absurd e3 (List.nodup_cons.mp nd).1
  | _, _, i + 1, 0, _, _, _, .val _ r, nd, h1, h2, h3, h4 => by simp at h2
  | _, _, i + 1, 0, _, _, a, .io _ _ r, nd, h1, h2, h3, h4 => by
    simp at h4
    obtain ⟨v, e1, a', e2, _, _, e3⟩ := ArgsIs.get (i := i) r (by simpa using h1)
    have z : some v = some (V.ref a) := e1.symm.trans (by simpa using h3)
    cases z
    cases e2
    rw [← h4] at e3
    exact absurd e3 (List.nodup_cons.mp nd).1
theorem startC_get {as : List (Bool × D)} {i : Nat} {c : Cell} {n : Nat} (h : (startE n as)[i]? = some (some c)) : ∃ b d, as[i]? = some (b, d) ∧ c = if b then .mu true d else .val d := by
  unfold startE startC at h
  by_cases hi : i < as.length
  · rw [List.getElem?_append_left (by rw [List.length_map]; exact hi), List.getElem?_map] at h
    cases e : as[i]? with
    | none => rw [e] at h; cases h
    | some p =>
      rw [e] at h
      obtain ⟨b, d⟩ := p
      exact ⟨b, d, rfl, (Option.some.inj (Option.some.inj h)).symm⟩
  · rw [List.getElem?_append_right (by rw [List.length_map]; omega), List.getElem?_replicate] at h
    split at h <;> cases h
theorem start_get {N : List Str} {vs : List V} {i : Nat} {v : V} (h : vs[i]? = some v) : (L2.start N vs)[i]? = some (some v) := by
  unfold L2.start
  have hi : i < vs.length := (List.getElem?_eq_some_iff.mp h).1
  rw [List.getElem?_append_left (by rw [List.length_map]; exact hi), List.getElem?_map, h]
  rfl
theorem Rep.start {N : List Str} {as : List (Bool × D)} {vs : List V} (eS : Evl.Ex G H) (ha : ArgsIs K G H as vs) (nd : (ioA as vs).Nodup) : Rep K G H (startE N.length as) (L2.start N vs) where
  sub := eS
  len := by
    unfold startE startC L2.start
    rw [List.length_append, List.length_append, List.length_map, List.length_map, List.length_replicate, List.length_replicate, ha.length]
  vl := fun i d e => by
    obtain ⟨b, d', e1, e2⟩ := startC_get e
    cases b with
    | true => cases e2
    | false =>
      cases e2
      obtain ⟨v, e3, e4⟩ := ha.get e1
      exact ⟨v, start_get e3, e4⟩
  mu := fun i b d e => by
    obtain ⟨b', d', e1, e2⟩ := startC_get e
    cases b' with
    | false => cases e2
    | true =>
      cases e2
      obtain ⟨v, e3, a, rfl, e5, e6, e7⟩ := ha.get e1
      exact ⟨a, start_get e3, e5, e6⟩
  ap := fun i j b c d e a q1 q2 q3 q4 => by
    obtain ⟨b1, d1, e1, f1⟩ := startC_get q1
    obtain ⟨b2, d2, e2, f2⟩ := startC_get q2
    cases b1 with
    | false => cases f1
    | true =>
      cases b2 with
      | false => cases f2
      | true =>
        obtain ⟨v1, g1, _⟩ := ha.get e1
        obtain ⟨v2, g2, _⟩ := ha.get e2
        rw [start_get g1] at q3; cases q3
        rw [start_get g2] at q4; cases q4
        exact ha.inj nd e1 e2 g1 g2
theorem mu_start {N : List Str} {as : List (Bool × D)} {vs : List V} {b : Bool} {a : Addr} (ha : ArgsIs K G H as vs) (m : Mu b (startE N.length as) (L2.start N vs) a) : b = true ∧ a ∈ ioA as vs := by
  obtain ⟨i, d, e1, e2⟩ := m
  obtain ⟨b', d', e3, e4⟩ := startC_get e1
  cases b' with
  | false => cases e4
  | true =>
    cases e4
    obtain ⟨v, e5, a', rfl, _, _, e6⟩ := ha.get e3
    rw [start_get e5] at e2
    cases e2
    exact ⟨rfl, e6⟩
theorem outs_is {ρ' : DEnv} {σ' : Sl} (R' : Rep K G' H' ρ' σ') : ∀ {as : List (Bool × D)} {vs : List V} {i : Nat} {l : List D}, ArgsIs K G H as vs → (∀ j a, as[j]? ≠ none → vs[j]? = some (.ref a) → (∃ d, as[j]? = some (true, d)) → σ'[i + j]? = some (some (.ref a))) → outs ρ' i as = some l → OutsIs K G' H' as vs l
  | _, _, _, l, .nil, _, e => by cases e; exact .nil
  | (false, d) :: as, _, i, l, .val h r, hs, e => .val (outs_is R' (i := i + 1) r (fun j a q1 q2 q3 => by have z := hs (j + 1) a (by simpa using q1) (by simpa using q2) (by simpa using q3); rw [← z]; congr 1; omega) e)
  | (true, d) :: as, .ref a :: vs, i, l, .io h c r, hs, e => by
    unfold outs at e
    split at e
    · rename_i d' e1
      split at e
      · rename_i l' e2
        cases e
        obtain ⟨a', q1, q2, q3⟩ := R'.mu i true d' e1
        have z := hs 0 a (by simp) (by simp) ⟨d, by simp⟩
        rw [show i + 0 = i from rfl, q1] at z
        cases z
        exact .io q3 (outs_is R' (i := i + 1) r (fun j a q1 q2 q3 => by have z := hs (j + 1) a (by simpa using q1) (by simpa using q2) (by simpa using q3); rw [← z]; congr 1; omega) e2)
      · cases e
    · cases e
end
section
variable {P : Program} {w : World} {K : PySem.W.Frag} {mg : Str → Option Value} {base : Heap}
/-- a def by its body -/
theorem fn_D {x qual : Str} {st : Stmt} {f : Addr} {fd : FuncData} {N ps : List Str} {k : Nat} {F : Fn} (Fu : Fun K x qual st f fd) (S : FnScope N ps (defScope st)) (B : Nat → DEnv → SR)
    (hB : ∀ (n : Nat) (cdv : Value) (A : Around) (outer : List Env) (s : Shared) (H : Hp) (E : XK), Room k (A.deeper (envOfC qual (defScope st) s.heap.objs.size f cdv)) →
      DSs (cxOf (L2.CX P w) P w K mg base N qual (defScope st) f cdv A outer s H E) (fun cls d _ H => E cls d H) (defBody st) (B n))
    (hF : ∀ as, as.length = ps.length → F as ≠ .no → ∃ n, fnRes as (B n (startE N.length as)) = F as) : FnOk P w K mg base (L2.CX P w) (k + 1) f fd ps (spD K ps.length F) := by
  refine Fu.okX S (fun vs H Q E h => h.1) fun cdv A outer s H vs Q E hr ⟨hl, G, as, eS, ha, nd, hm⟩ => ?_
  have hne : F as ≠ .no := fun z => by rw [z] at hm; exact hm
  obtain ⟨n, hn⟩ := hF as (ha.length.trans hl) hne
  refine ⟨_, hB n cdv A outer s H E hr, startE N.length as, G, Rep.start eS ha nd, ?_⟩
  rw [← hn] at hm
  have fst : ∀ {ρ' : DEnv} {σ' : Sl} {G' H' : Hp}, Stp (startE N.length as) (L2.start N vs) G H ρ' σ' G' H' → Rep K G' H' ρ' σ' → FStp (ioA as vs) G H G' H' := fun {ρ' σ' G' H'} s R' =>
    ⟨s.g, fun b o n1 q => s.h b o (fun m => absurd (mu_start ha m).1 (by decide)) (fun m => n1 (mu_start ha m).2) q, s.t, fun b q1 q2 => (s.n b q1 q2).elim id fun m => absurd (mu_start ha m).1 (by decide), R'.sub⟩
  have out : ∀ {ρ' : DEnv} {σ' : Sl} {G' H' : Hp} {l : List D}, Stp (startE N.length as) (L2.start N vs) G H ρ' σ' G' H' → Rep K G' H' ρ' σ' → outs ρ' 0 as = some l → OutsIs K G' H' as vs l := fun {ρ' σ' G' H' l} s R' e =>
    outs_is R' ha (fun j a q1 q2 ⟨d, q3⟩ => by
      have hs : (startE N.length as)[j]? = some (some (.mu true d)) := by
        unfold startE startC
        have hj : j < as.length := (List.getElem?_eq_some_iff.mp q3).1
        rw [List.getElem?_append_left (by rw [List.length_map]; exact hj), List.getElem?_map, q3]
        rfl
      obtain ⟨d', _, z⟩ := (s.io j).1 d hs
      rw [Nat.zero_add, z]
      exact start_get q2) e
  cases hr : B n (startE N.length as) with
  | no => rw [hr] at hm; exact hm
  | brk _ => rw [hr] at hm; exact (show False from hm).elim
  | cnt _ => rw [hr] at hm; exact (show False from hm).elim
  | nx ρ' =>
    rw [hr] at hm
    unfold fnRes at hm
    dsimp only at hm
    cases eo : outs ρ' 0 as with
    | none => rw [eo] at hm; exact False.elim hm
    | some l =>
      rw [eo] at hm
      exact fun σ' G' H' s R' => hm .non G' H' (fst s R') (out s R' eo) .non
  | ret ρ' fr d =>
    rw [hr] at hm
    unfold fnRes at hm
    dsimp only at hm
    cases eo : outs ρ' 0 as with
    | none => rw [eo] at hm; exact False.elim hm
    | some l =>
      rw [eo] at hm
      refine fun v σ' G' H' s R' q => hm v G' H' (fst s R') (out s R' eo) ?_
      cases fr with
      | false => exact q
      | true =>
        obtain ⟨a, q1, q2, q3, q4⟩ := q
        exact ⟨a, q1, q2, q3.elim (fun m => (s.ow a m).elim (fun m => absurd (mu_start ha m).1 (by decide)) id) id, q4⟩
  | ex ρ' e =>
    rw [hr] at hm
    unfold fnRes at hm
    dsimp only at hm
    cases eo : outs ρ' 0 as with
    | none => rw [eo] at hm; exact False.elim hm
    | some l =>
      rw [eo] at hm
      exact fun d σ' G' H' s R' q => hm d G' H' (fst s R') (out s R' eo) q
end

/-! ### the caller's side -/
inductive AD where
  | v (d : D)
  | io (i : Nat)
inductive ArI (K : PySem.W.Frag) (σ : Sl) (G : Hp) : List AD → List V → Prop
  | nil : ArI K σ G [] []
  | val {d : D} {v : V} {l : List AD} {vs : List V} : Is K G d v → ArI K σ G l vs → ArI K σ G (.v d :: l) (v :: vs)
  | io {i : Nat} {v : V} {l : List AD} {vs : List V} : σ[i]? = some (some v) → ArI K σ G l vs → ArI K σ G (.io i :: l) (v :: vs)
theorem ArI.mono {K : PySem.W.Frag} {σ : Sl} {G G' : Hp} (e : Evl.Ex G G') : ∀ {l : List AD} {vs : List V}, ArI K σ G l vs → ArI K σ G' l vs
  | _, _, .nil => .nil
  | _, _, .val h r => .val (h.mono e) (ArI.mono e r)
  | _, _, .io h r => .io h (ArI.mono e r)
def tAr (K : PySem.W.Frag) (W : WX) (f : DEnv → R (List AD)) : TA := fun σ H Q => ∃ ρ G, Rep K G H ρ σ ∧ Go K W σ ρ G H (fun l _ G' H' => ∀ vs, ArI K σ G' l vs → Q vs H') (f ρ)
abbrev DR (X : Cx) (W : WX) (es : List Expr) (f : DEnv → R (List AD)) : Prop := PA X es (tAr X.K W f)
def rNil : DEnv → R (List AD) := fun ρ => .ok ρ []
def rVal (f : DEnv → R D) (g : DEnv → R (List AD)) : DEnv → R (List AD) := fun ρ => (f ρ).bind fun d ρ1 => (g ρ1).bind fun l ρ2 => .ok ρ2 (.v d :: l)
def isMu (ρ : DEnv) (i : Nat) : Bool := match ρ[i]? with
  | some (some (.mu _ _)) => true
  | _ => false
def rIo (i : Nat) (g : DEnv → R (List AD)) : DEnv → R (List AD) := fun ρ => if isMu ρ i = true then (g ρ).bind fun l ρ2 => .ok ρ2 (.io i :: l) else .no
section
variable {X : Cx} {W : WX} {e : Expr} {es : List Expr}
theorem dr_nil : DR X W [] rNil := pa_imp pa_nil fun σ H Q ⟨ρ, G, R, h⟩ => h G H .refl R [] .nil
theorem dr_val {f : DEnv → R D} {g : DEnv → R (List AD)} (h1 : DE X W e f) (h2 : DR X W es g) (hs : starEach (e :: es) X.env = (false, eval e X.env) :: starEach es X.env := by rfl) : DR X W (e :: es) (rVal f g) :=
  pa_imp (pa_cons h1 h2 hs) fun σ H Q ⟨ρ, G, R, h⟩ => ⟨ρ, G, R, (Go.bind R h).imp fun t ρ1 G1 H1 s1 R1 h1 v hv =>
    ⟨ρ1, G1, R1, (Go.bind R1 h1).imp fun l ρ2 G2 H2 s2 R2 h2 vs hvs => h2 G2 H2 .refl R2 (v :: vs) (.val (hv.mono s2.g) hvs)⟩⟩
theorem dr_io {i : Nat} {g : DEnv → R (List AD)} (h1 : PE X e (tVar i)) (h2 : DR X W es g) (hs : starEach (e :: es) X.env = (false, eval e X.env) :: starEach es X.env := by rfl) : DR X W (e :: es) (rIo i g) :=
  pa_imp (pa_cons h1 h2 hs) fun σ H Q ⟨ρ, G, R, h⟩ => by
    unfold rIo at h
    split at h
    · rename_i hm
      unfold isMu at hm
      split at hm
      · rename_i b d e1
        obtain ⟨a, e2, _⟩ := R.mu i b d e1
        exact ⟨_, e2, ρ, G, R, (Go.bind R h).imp fun l ρ2 G2 H2 s2 R2 h2 vs hvs => h2 G2 H2 .refl R2 (.ref a :: vs) (.io e2 hvs)⟩
      · cases hm
    · exact False.elim h
end
def argsD (ρ : DEnv) : List AD → Option (List (Bool × D))
  | [] => some []
  | .v d :: l => match argsD ρ l with
    | some r => some ((false, d) :: r)
    | none => none
  | .io i :: l => match ρ[i]? with
    | some (some (.mu _ d)) => match argsD ρ l with
      | some r => some ((true, d) :: r)
      | none => none
    | _ => none
def ioIx : List AD → List Nat
  | [] => []
  | .v _ :: l => ioIx l
  | .io i :: l => i :: ioIx l
def putD (ρ : DEnv) : List AD → List D → Option DEnv
  | [], [] => some ρ
  | .v _ :: l, os => putD ρ l os
  | .io i :: l, d :: os => match ρ[i]? with
    | some (some (.mu b _)) => putD (ρ.set i (some (.mu b d))) l os
    | _ => none
  | _, _ => none
section
variable {K : PySem.W.Frag} {σ : Sl} {ρ ρ2 : DEnv} {G H G' H' : Hp}
theorem argsD_is (R : Rep K G H ρ σ) : ∀ {l : List AD} {vs : List V} {as : List (Bool × D)}, ArI K σ G l vs → argsD ρ l = some as → ArgsIs K G H as vs
  | _, _, as, .nil, e => by cases e; exact .nil
  | .v d :: l, _, as, .val h r, e => by
    unfold argsD at e
    split at e
    · rename_i r' e1; cases e; exact .val h (argsD_is R r e1)
    · cases e
  | .io i :: l, _, as, .io h r, e => by
    unfold argsD at e
    split at e
    · rename_i b d e1
      split at e
      · rename_i r' e2
        cases e
        obtain ⟨a, q1, q2, q3⟩ := R.mu i b d e1
        rw [h] at q1; cases q1
        exact .io q2 q3 (argsD_is R r e2)
      · cases e
    · cases e
theorem ioA_mem (R : Rep K G H ρ σ) : ∀ {l : List AD} {vs : List V} {as : List (Bool × D)} {a : Addr}, ArI K σ G l vs → argsD ρ l = some as → (a ∈ ioA as vs ↔ ∃ i ∈ ioIx l, σ[i]? = some (some (.ref a)))
  | _, _, as, a, .nil, e => by cases e; simp [ioA, ioIx]
  | .v d :: l, _, as, a, .val h r, e => by
    unfold argsD at e
    split at e
    · rename_i r' e1; cases e; have ih := ioA_mem (a := a) R r e1; exact ih
    · cases e
  | .io i :: l, _, as, a, .io h r, e => by
    unfold argsD at e
    split at e
    · rename_i b d e1
      split at e
      · rename_i r' e2
        cases e
        obtain ⟨a', q1, q2, q3⟩ := R.mu i b d e1
        rw [h] at q1; cases q1
        have ih := ioA_mem R (a := a) r e2
        unfold ioA ioIx
        rw [List.mem_cons, ih]
        constructor
        · rintro (rfl | ⟨j, q, z⟩)
          · exact ⟨i, List.mem_cons_self, h⟩
          · exact ⟨j, List.mem_cons_of_mem _ q, z⟩
        · rintro ⟨j, q, z⟩
          rcases List.mem_cons.mp q with rfl | q
          · rw [h] at z; cases z; exact .inl rfl
          · exact .inr ⟨j, q, z⟩
      · cases e
    · cases e
theorem ioA_nodup (R : Rep K G H ρ σ) : ∀ {l : List AD} {vs : List V} {as : List (Bool × D)}, ArI K σ G l vs → argsD ρ l = some as → (ioIx l).Nodup → (ioA as vs).Nodup
  | _, _, as, .nil, e, _ => by cases e; exact List.nodup_nil
  | .v d :: l, _, as, .val h r, e, nd => by
    unfold argsD at e
    split at e
    · rename_i r' e1; cases e; have ih := ioA_nodup R r e1 nd; exact ih
    · cases e
  | .io i :: l, _, as, .io h r, e, nd => by
    unfold argsD at e
    split at e
    · rename_i b d e1
      split at e
      · rename_i r' e2
        cases e
        obtain ⟨a', q1, q2, q3⟩ := R.mu i b d e1
        rw [h] at q1; cases q1
        refine List.nodup_cons.mpr ⟨fun m => ?_, ioA_nodup R r e2 (List.nodup_cons.mp nd).2⟩
        obtain ⟨j, q, z⟩ := (ioA_mem R r e2).mp m
        have mj : ∃ b' d', ρ[j]? = some (some (.mu b' d')) := by
          have key : ∀ {l : List AD} {as : List (Bool × D)}, argsD ρ l = some as → j ∈ ioIx l → ∃ b' d', ρ[j]? = some (some (.mu b' d')) := by
            intro l
            induction l with
            | nil => intro as _ m; simp [ioIx] at m
            | cons y l ih =>
              intro as e m
              cases y with
              | v d =>
                unfold argsD at e
                split at e
                · rename_i r' e1; exact ih e1 m
                · cases e
              | io k =>
                unfold argsD at e
                split at e
                · rename_i b d e1
                  split at e
                  · rename_i r' e2
                    rcases List.mem_cons.mp (show j ∈ k :: ioIx l from m) with rfl | m
                    · exact ⟨b, d, e1⟩
                    · exact ih e2 m
                  · cases e
                · cases e
          exact key e2 q
        obtain ⟨b', d', ej⟩ := mj
        have ij : i = j := R.ap i j b b' d d' _ e1 ej h z
        subst ij
        exact (List.nodup_cons.mp nd).1 q
      · cases e
    · cases e
/-- what became of a slot -/
def Chg (K : PySem.W.Frag) (σ : Sl) (G' H' : Hp) (L : List Nat) (ρ ρ2 : DEnv) (j : Nat) : Prop :=
  (j ∈ L ∧ ∃ b d d' a, ρ[j]? = some (some (.mu b d)) ∧ ρ2[j]? = some (some (.mu b d')) ∧ σ[j]? = some (some (.ref a)) ∧ Cont K G' H' a d') ∨ (j ∉ L ∧ ρ2[j]? = ρ[j]?)
theorem putD_chg : ∀ {l : List AD} {vs : List V} {as : List (Bool × D)} {os : List D} {ρ ρ1 ρ2 : DEnv}, ArI K σ G l vs → argsD ρ1 l = some as → OutsIs K G' H' as vs os → (ioIx l).Nodup → putD ρ l os = some ρ2 → ρ2.length = ρ.length ∧ ∀ j, Chg K σ G' H' (ioIx l) ρ ρ2 j
  | _, _, as, os, ρ, ρ1, ρ2, .nil, e, o, nd, p => by
    cases e
    cases o
    cases p
    exact ⟨rfl, fun j => .inr ⟨by simp [ioIx], rfl⟩⟩
  | .v d :: l, _, as, os, ρ, ρ1, ρ2, .val h r, e, o, nd, p => by
    unfold argsD at e
    split at e
    · rename_i r' e1
      cases e
      cases o with
      | val o =>
        unfold putD at p
        have ih := putD_chg r e1 o nd p
        exact ih
    · cases e
  | .io i :: l, _, as, os, ρ, ρ1, ρ2, .io h r, e, o, nd, p => by
    unfold argsD at e
    split at e
    · rename_i b1 d1 e1
      split at e
      · rename_i r' e2
        cases e
        cases o with
        | @io d0 d' a as vs os c o =>
          unfold putD at p
          split at p
          · rename_i b d e3
            obtain ⟨hl, hc⟩ := putD_chg r e2 o (List.nodup_cons.mp nd).2 p
            have hi : i < ρ.length := (List.getElem?_eq_some_iff.mp e3).1
            refine ⟨by rw [hl, List.length_set], fun j => ?_⟩
            rcases hc j with ⟨m, b', d2, d3, a2, q1, q2, q3, q4⟩ | ⟨m, q⟩
            · have n : i ≠ j := fun z => by subst z; exact (List.nodup_cons.mp nd).1 m
              rw [List.getElem?_set_ne n] at q1
              exact .inl ⟨List.mem_cons_of_mem _ m, b', d2, d3, a2, q1, q2, q3, q4⟩
            · by_cases z : i = j
              · subst z
                rw [List.getElem?_set_self hi] at q
                exact .inl ⟨List.mem_cons_self, b, d, d', a, e3, q, h, c⟩
              · rw [List.getElem?_set_ne z] at q
                exact .inr ⟨fun y => (List.mem_cons.mp y).elim (fun y => z y.symm) m, q⟩
          · cases p
      · cases e
    · cases e
theorem after_call {l : List AD} {vs : List V} {as : List (Bool × D)} {os : List D} (R : Rep K G H ρ σ) (ha : ArI K σ G l vs) (e : argsD ρ l = some as) (nd : (ioIx l).Nodup) (p : putD ρ l os = some ρ2) (s : FStp (ioA as vs) G H G' H') (o : OutsIs K G' H' as vs os) :
    Stp ρ σ G H ρ2 σ G' H' ∧ Rep K G' H' ρ2 σ := by
  obtain ⟨hl, hc⟩ := putD_chg ha e o nd p
  have back : ∀ (j : Nat) (b : Bool) (d : D), ρ2[j]? = some (some (.mu b d)) → ∃ d', ρ[j]? = some (some (.mu b d')) := fun j b d q => by
    rcases hc j with ⟨m, b', d2, d3, a2, q1, q2, q3, q4⟩ | ⟨m, z⟩
    · rw [q] at q2; cases q2; exact ⟨d2, q1⟩
    · exact ⟨d, z ▸ q⟩
  have isM : ∀ a, a ∈ ioA as vs → Mu false ρ σ a ∨ Mu true ρ σ a := fun a m => by
    obtain ⟨i, q, z⟩ := (ioA_mem R ha e).mp m
    rcases hc i with ⟨_, b, d2, d3, a2, q1, q2, q3, q4⟩ | ⟨n, _⟩
    · cases b with
      | false => exact .inl ⟨i, d2, q1, z⟩
      | true => exact .inr ⟨i, d2, q1, z⟩
    · exact absurd q n
  refine ⟨⟨s.g, fun b ob n1 n2 q => s.h b ob (fun m => (isM b m).elim n1 n2) q, s.t, fun b q1 q2 => .inl (s.n b q1 q2), fun b ⟨j, d, q1, q2⟩ => ?_, fun j => ⟨fun d q => ?_, fun d q => back j true d q⟩⟩, ⟨s.s, by rw [hl]; exact R.len, fun j d q => ?_, fun j b d q => ?_, fun j k b c d1 d2 a q1 q2 q3 q4 => ?_⟩⟩
  · obtain ⟨d', z⟩ := back j false d q1
    exact .inl ⟨j, d', z, q2⟩
  · rcases hc j with ⟨m, b', d2, d3, a2, q1, q2, q3, q4⟩ | ⟨m, z⟩
    · rw [q] at q1; cases q1; exact ⟨d3, q2, rfl⟩
    · exact ⟨d, z.trans q, rfl⟩
  · rcases hc j with ⟨m, b', d2, d3, a2, q1, q2, q3, q4⟩ | ⟨m, z⟩
    · rw [q] at q2; cases q2
    · obtain ⟨v, y1, y2⟩ := R.vl j d (z ▸ q)
      exact ⟨v, y1, y2.mono s.g⟩
  · rcases hc j with ⟨m, b', d2, d3, a2, q1, q2, q3, q4⟩ | ⟨m, z⟩
    · rw [q] at q2; cases q2
      obtain ⟨a, y1, y2, y3⟩ := R.mu j _ _ q1
      rw [q3] at y1; cases y1
      refine ⟨_, q3, ?_, q4⟩
      cases hg : G' a2 with
      | none => rfl
      | some u =>
        have w := s.n _ y2 (by rw [hg]; exact fun z => by cases z)
        obtain ⟨ob, ho⟩ := y3.there
        rw [w] at ho; cases ho
    · obtain ⟨a, y1, y2, y3⟩ := R.mu j b d (z ▸ q)
      have na : a ∉ ioA as vs := fun m2 => by
        obtain ⟨i, q', z'⟩ := (ioA_mem R ha e).mp m2
        rcases hc i with ⟨_, b', d2, d3, a2, q1, q2, q3, q4⟩ | ⟨n, _⟩
        · have ij := R.ap i j b' b d2 d a q1 (z ▸ q) z' y1
          subst ij
          exact m q'
        · exact absurd q' n
      refine ⟨a, y1, ?_, y3.mono s.g fun ob q => s.h a ob na q⟩
      cases hg : G' a with
      | none => rfl
      | some u =>
        have w := s.n _ y2 (by rw [hg]; exact fun z => by cases z)
        obtain ⟨ob, ho⟩ := y3.there
        rw [w] at ho; cases ho
  · obtain ⟨x', z1⟩ := back j b d1 q1
    obtain ⟨y', z2⟩ := back k c d2 q2
    exact R.ap j k b c x' y' a z1 z2 q3 q4
end
/-- f(..) -/
def dCal2 (ar : Nat) (F : Fn) (f : DEnv → R (List AD)) : DEnv → R (Bool × D) := fun ρ => (f ρ).bind fun l ρ1 => if l.length = ar then match argsD ρ1 l with
  | none => .no
  | some as => if (ioIx l).Nodup then match F as with
    | .no => .no
    | .ret fr d os => match putD ρ1 l os with
      | none => .no
      | some ρ2 => .ok ρ2 (fr, d)
    | .exc e os => match putD ρ1 l os with
      | none => .no
      | some ρ2 => .ex ρ2 e
    else .no
  else .no
/-- a value that stays, or a thing just made -/
def XIs (K : PySem.W.Frag) (σ : Sl) (ρ' : DEnv) (G' H' H : Hp) (p : Bool × D) (v : V) : Prop := match p.1 with
  | false => Is K G' p.2 v
  | true => ∃ a, v = .ref a ∧ G' a = none ∧ ¬ Mu false ρ' σ a ∧ ¬ Mu true ρ' σ a ∧ H a = none ∧ Cont K G' H' a p.2
def tX (K : PySem.W.Frag) (W : WX) (f : DEnv → R (Bool × D)) : TE := fun σ H Q => ∃ ρ G, Rep K G H ρ σ ∧ Go K W σ ρ G H (fun p ρ' G' H' => ∀ v, XIs K σ ρ' G' H' H p v → Q v H') (f ρ)
theorem ArI.length {K : PySem.W.Frag} {σ : Sl} {G : Hp} : ∀ {l : List AD} {vs : List V}, ArI K σ G l vs → l.length = vs.length
  | _, _, .nil => rfl
  | _, _, .val _ r => congrArg (· + 1) (ArI.length r)
  | _, _, .io _ r => congrArg (· + 1) (ArI.length r)
theorem tcall {K : PySem.W.Frag} {W : WX} {ar : Nat} {F : Fn} {f : DEnv → R (List AD)} : ∀ σ H Q, tX K W (dCal2 ar F f) σ H Q → tCallSD (spD K ar F) [] (fun σ cls d H => W cls d σ H) (tAr K W f) σ H Q := fun σ H Q ⟨ρ, G, R, h⟩ =>
  ⟨ρ, G, R, (Go.bind R h).imp fun l ρ1 G1 H1 s1 R1 h1 vs hv => by
    show spD K ar F (vs ++ []) H1 Q (fun cls d H => W cls d σ H)
    rw [List.append_nil]
    split at h1
    · rename_i hl
      split at h1
      · exact False.elim h1
      · rename_i as ea
        split at h1
        · rename_i nd
          refine ⟨hv.length.symm.trans hl, G1, as, R1.sub, argsD_is R1 hv ea, ioA_nodup R1 hv ea nd, ?_⟩
          split at h1
          · exact False.elim h1
          · rename_i fr d os eF
            try rw [eF]
            split at h1
            · exact False.elim h1
            · rename_i ρ2 ep
              intro v G' H' fs ho hr
              obtain ⟨s2, R2⟩ := after_call R1 hv ea nd ep fs ho
              refine h1 G' H' s2 R2 v ?_
              cases fr with
              | false => exact hr
              | true =>
                obtain ⟨a, rfl, q1, q2, q3⟩ := hr
                have no : ∀ b, ¬ Mu b ρ2 σ a := fun b ⟨j, d', z1, z2⟩ => by
                  have key : ∃ o, H1 a = some o := by
                    cases b with
                    | false =>
                      rcases s2.ow a ⟨j, d', z1, z2⟩ with ⟨j', d'', y1, y2⟩ | y
                      · obtain ⟨a', y3, _, y4⟩ := R1.mu j' _ _ y1
                        rw [y2] at y3; cases y3
                        exact y4.there
                      · obtain ⟨a', y3, y5, y4⟩ := R2.mu j _ _ z1
                        rw [z2] at y3; cases y3
                        obtain ⟨d3, y6⟩ : ∃ d3, ρ1[j]? = some (some (.mu false d3)) := by
                          obtain ⟨_, hc⟩ := putD_chg hv ea ho nd ep
                          rcases hc j with ⟨_, b', d2, d3, a2, w1, w2, w3, w4⟩ | ⟨_, w⟩
                          · rw [z1] at w2; cases w2; exact ⟨d2, w1⟩
                          · exact ⟨d', w ▸ z1⟩
                        obtain ⟨a', y7, _, y8⟩ := R1.mu j _ _ y6
                        rw [z2] at y7; cases y7
                        exact y8.there
                    | true =>
                      obtain ⟨d3, y6⟩ := (s2.io j).2 d' z1
                      obtain ⟨a', y7, _, y8⟩ := R1.mu j _ _ y6
                      rw [z2] at y7; cases y7
                      exact y8.there
                  obtain ⟨o, ho⟩ := key
                  rw [q2] at ho; cases ho
                exact ⟨a, rfl, q1, no false, no true, s1.t a q2, q3⟩
          · rename_i e os eF
            try rw [eF]
            split at h1
            · exact False.elim h1
            · rename_i ρ2 ep
              intro dd G' H' fs ho hr
              obtain ⟨s2, R2⟩ := after_call R1 hv ea nd ep fs ho
              exact h1 G' H' dd s2 R2 hr
        · exact False.elim h1
    · exact False.elim h1⟩
abbrev DX (X : Cx) (W : WX) (e : Expr) (f : DEnv → R (Bool × D)) : Prop := PE X e (tX X.K W f)
def dV (f : DEnv → R (Bool × D)) : DEnv → R D := fun ρ => (f ρ).bind fun p ρ' => .ok ρ' p.2
def dN (f : DEnv → R (Bool × D)) : DEnv → R D := fun ρ => (f ρ).bind fun p ρ' => match p with
  | (true, d) => .ok ρ' d
  | (false, _) => .no
theorem show_fresh {K : PySem.W.Frag} {ρ0 ρ' : DEnv} {σ : Sl} {G0 H0 G' H' : Hp} {d : D} {a : Addr} (s : Stp ρ0 σ G0 H0 ρ' σ G' H') (R' : Rep K G' H' ρ' σ) (h0 : G' a = none) (h1 : ¬ Mu false ρ' σ a) (h2 : ¬ Mu true ρ' σ a) (hn : H0 a = none) (hc : Cont K G' H' a d) :
    ∃ G2, Stp ρ0 σ G0 H0 ρ' σ G2 H' ∧ Rep K G2 H' ρ' σ ∧ Is K G2 d (.ref a) := by
  obtain ⟨o, ho⟩ := hc.there
  have eG : Evl.Ex G' (upd G' a o) := Evl.Ex.new h0
  have hi : Is K (upd G' a o) d (.ref a) := by
    cases d with
    | lst l =>
      obtain ⟨xs, q1, q2⟩ := hc
      rw [ho] at q1; cases q1
      exact .lst upd_same (q2.mono eG)
    | dic l =>
      obtain ⟨xs, q1, q2⟩ := hc
      rw [ho] at q1; cases q1
      exact .dic upd_same (q2.mono eG)
    | _ => exact False.elim hc
  have eS : Evl.Ex (upd G' a o) H' := fun b u q => by
    by_cases z : b = a
    · subst z; rw [upd_same] at q; cases q; exact ho
    · rw [upd_ne z] at q; exact R'.sub b u q
  refine ⟨upd G' a o, ⟨fun b u q => eG b u (s.g b u q), s.h, s.t, fun b q1 q2 => ?_, s.ow, s.io⟩, ⟨eS, R'.len, fun j d' q => ?_, fun j b d' q => ?_, R'.ap⟩, hi⟩
  · by_cases z : b = a
    · subst z; exact .inl hn
    · rw [upd_ne z] at q2; exact s.n b q1 q2
  · obtain ⟨v, z1, z2⟩ := R'.vl j d' q
    exact ⟨v, z1, z2.mono eG⟩
  · obtain ⟨c, z1, z2, z3⟩ := R'.mu j b d' q
    have nc : c ≠ a := fun z => by
      subst z
      cases b with
      | false => exact h1 ⟨j, d', q, z1⟩
      | true => exact h2 ⟨j, d', q, z1⟩
    exact ⟨c, z1, by rw [upd_ne nc]; exact z2, z3.mono eG fun o q => q⟩
section
variable {X : Cx} {W : WX} {e : Expr} {es : List Expr}
theorem dx_de {f : DEnv → R (Bool × D)} (h : DX X W e f) : DE X W e (dV f) := pe_imp h fun σ H Q ⟨ρ, G, R, h⟩ => ⟨ρ, G, R, by
    cases e1 : f ρ with
    | no =>
      have h2 : dV f ρ = .no := by unfold dV; rw [e1]; rfl
      rw [h2] at h; exact h
    | ex ρ' ee =>
      have h2 : dV f ρ = .ex ρ' ee := by unfold dV; rw [e1]; rfl
      rw [h2] at h; exact h
    | ok ρ' p =>
      have h2 : dV f ρ = .ok ρ' p.2 := by unfold dV; rw [e1]; rfl
      rw [h2] at h
      intro G' H' s R' v hx
      obtain ⟨fr, d⟩ := p
      cases fr with
      | false => exact h G' H' s R' v hx
      | true =>
        obtain ⟨a, rfl, h0, h1, h2, hn, hc⟩ := hx
        obtain ⟨G2, s2, R2, hi⟩ := show_fresh s R' h0 h1 h2 hn hc
        exact h G2 H' s2 R2 _ hi⟩
theorem dx_df {f : DEnv → R (Bool × D)} (h : DX X W e f) : DF' X W e (dN f) := pe_imp h fun σ H Q ⟨ρ, G, R, h⟩ => ⟨ρ, G, R, by
    cases e1 : f ρ with
    | no =>
      have h2 : dN f ρ = .no := by unfold dN; rw [e1]; rfl
      rw [h2] at h; exact h
    | ex ρ' ee =>
      have h2 : dN f ρ = .ex ρ' ee := by unfold dN; rw [e1]; rfl
      rw [h2] at h; exact h
    | ok ρ' p =>
      obtain ⟨fr, d⟩ := p
      cases fr with
      | false =>
        have h2 : dN f ρ = .no := by unfold dN; rw [e1]; rfl
        rw [h2] at h; exact False.elim h
      | true =>
        have h2 : dN f ρ = .ok ρ' d := by unfold dN; rw [e1]; rfl
        rw [h2] at h
        intro G' H' s R' v hx
        obtain ⟨a, rfl, q1, q2, q3, q4, q5⟩ := hx
        exact h G' H' s R' a q1 q2 q3 q4 q5⟩
variable {x : Str} {p pos : Pos} {k ar : Nat} {fa : Addr} {fd : FuncData} {ps : List Str} {F : Fn} {f : DEnv → R (List AD)}
/-- f(..), wherever what it raises is taken -/
theorem dx_call (FO : FnOk X.prog X.w X.K X.mg X.base (L2.CX X.prog X.w) k fa fd ps (spD X.K ar F)) (hr : Room k X.A) (tk : Takes X W) (hg : Gl X x) (hm : X.mg x = some (.ref fa)) (hk : PySem.W.keepIn X.K (.ref fa) = true) (hb : Binds X.K fd ps [])
    (ha : DR X W (e :: es) f) (hdb : (x == ("__debug__" : Str)) = false := by decide) (he : starEach (e :: es) X.env = (false, eval e X.env) :: starEach es X.env := by rfl) (hpl : (backTo pos (starEach es X.env)).any (·.1) = false := by rfl) :
    DX X W (.Call (.Name x p) (e :: es) [] pos) (dCal2 ar F f) :=
  pe_imp (pe_callSD (E := fun σ cls d H => W cls d σ H) FO hr hg hm hk hb .nil (fun σ => passAt tk σ) ha hdb he hpl) tcall
/-- f(..), where nothing may be raised -/
theorem dx_callN (FO : FnOk X.prog X.w X.K X.mg X.base (L2.CX X.prog X.w) k fa fd ps (spD X.K ar F)) (hr : Room k X.A) (hg : Gl X x) (hm : X.mg x = some (.ref fa)) (hk : PySem.W.keepIn X.K (.ref fa) = true) (hb : Binds X.K fd ps [])
    (ha : DR X (fun _ _ _ _ => False) (e :: es) f) (hdb : (x == ("__debug__" : Str)) = false := by decide) (he : starEach (e :: es) X.env = (false, eval e X.env) :: starEach es X.env := by rfl) (hpl : (backTo pos (starEach es X.env)).any (·.1) = false := by rfl) :
    DX X (fun _ _ _ _ => False) (.Call (.Name x p) (e :: es) [] pos) (dCal2 ar F f) :=
  pe_imp (pe_call (E := E0) FO hr hg hm hk hb .nil passL ha hdb he hpl) fun σ H Q h => tcall (W := fun _ _ _ _ => False) σ H Q h
end
end DF

namespace DF
open PySem PySem.Spec PyProof.Rows L2
def wipeE (ρ : DEnv) : List Nat → DEnv
  | [] => ρ
  | v :: vs => (wipeE ρ vs).set v none
theorem wipeE_length (ρ : DEnv) : ∀ vs : List Nat, (wipeE ρ vs).length = ρ.length
  | [] => rfl
  | v :: vs => by unfold wipeE; rw [List.length_set, wipeE_length ρ vs]
theorem wipeE_some {ρ : DEnv} {i : Nat} {x : Cell} : ∀ {vs : List Nat}, (wipeE ρ vs)[i]? = some (some x) → ρ[i]? = some (some x) ∧ i ∉ vs
  | [], h => ⟨h, by simp⟩
  | v :: vs, h => by
    unfold wipeE at h
    rcases set_get h with ⟨_, z⟩ | ⟨n, z⟩
    · cases z
    · obtain ⟨h1, h2⟩ := wipeE_some z
      exact ⟨h1, fun m => (List.mem_cons.mp m).elim (fun y => n y.symm) h2⟩
theorem wipeE_out {ρ : DEnv} {i : Nat} : ∀ {vs : List Nat}, i ∉ vs → (wipeE ρ vs)[i]? = ρ[i]?
  | [], _ => rfl
  | v :: vs, h => by
    unfold wipeE
    rw [List.getElem?_set_ne (fun z => h (by rw [z]; exact List.mem_cons_self))]
    exact wipeE_out fun z => h (List.mem_cons_of_mem _ z)
/-- none of these is a slot of one's own list -/
def noMu (ρ : DEnv) (vs : List Nat) : Bool := vs.all fun i => match ρ[i]? with
  | some (some (.mu _ _)) => false
  | _ => true
theorem noMu_of {ρ : DEnv} {vs : List Nat} (h : noMu ρ vs = true) {i : Nat} (hi : i ∈ vs) {b : Bool} {d : D} : ρ[i]? ≠ some (some (.mu b d)) := fun z => by
  unfold noMu at h
  have q := List.all_eq_true.mp h i hi
  rw [z] at q
  cases q
section
variable {K : PySem.W.Frag} {ρ : DEnv} {σ σ2 : Sl} {G H : Hp} {vs : List Nat}
/-- slots of the comprehension are forgotten; σ2 holds the others as σ does -/
theorem Rep.wiped (R : Rep K G H ρ σ) (hl : σ2.length = σ.length) (hs : ∀ i, i ∉ vs → σ2[i]? = σ[i]?) : Rep K G H (wipeE ρ vs) σ2 where
  sub := R.sub
  len := by rw [wipeE_length, hl]; exact R.len
  vl := fun i d e => by
    obtain ⟨e1, e2⟩ := wipeE_some e
    obtain ⟨v, e3, e4⟩ := R.vl i d e1
    exact ⟨v, (hs i e2).trans e3, e4⟩
  mu := fun i b d e => by
    obtain ⟨e1, e2⟩ := wipeE_some e
    obtain ⟨a, e3, e4⟩ := R.mu i b d e1
    exact ⟨a, (hs i e2).trans e3, e4⟩
  ap := fun i j b c d e a q1 q2 q3 q4 => by
    obtain ⟨e1, e2⟩ := wipeE_some q1
    obtain ⟨e3, e4⟩ := wipeE_some q2
    exact R.ap i j b c d e a e1 e3 ((hs i e2).symm.trans q3) ((hs j e4).symm.trans q4)
theorem Stp.wiped (R : Rep K G H ρ σ) (hn : noMu ρ vs = true) (hs : ∀ i, i ∉ vs → σ2[i]? = σ[i]?) : Stp ρ σ G H (wipeE ρ vs) σ2 G H :=
  ⟨fun _ _ e => e, fun _ _ _ _ e => e, fun _ e => e, fun _ e q => absurd e q, fun b ⟨i, d, e1, e2⟩ => by
    obtain ⟨e3, e4⟩ := wipeE_some e1
    exact .inl ⟨i, d, e3, (hs i e4).symm.trans e2⟩, fun i => ⟨fun d e => by
      have hi : i ∉ vs := fun m => noMu_of hn m e
      exact ⟨d, (wipeE_out hi).trans e, hs i hi⟩, fun d e => ⟨d, (wipeE_some e).1⟩⟩⟩
end
/-! ### comprehensions -/
def tYesB : DEnv → R Bool := fun ρ => .ok ρ true
abbrev DTs (X : Cx) (W : WX) (ifs : List Expr) (f : DEnv → R Bool) : Prop := PTs X ifs (tT X.K W f)
theorem pts_imp {X : Cx} {es : List Expr} {t t' : TT} (h : PTs X es t) (i : ∀ σ H Q, t' σ H Q → t σ H Q) : PTs X es t' := ⟨fun pins s σ H Q I q => h.run pins s σ H Q I (i σ H Q q)⟩
theorem dts_nil {X : Cx} {W : WX} : DTs X W [] tYesB := pts_imp pts_nil fun σ H Q ⟨ρ, G, R, h⟩ => h G H .refl R
theorem dts_one {X : Cx} {W : WX} {c : Expr} {f : DEnv → R Bool} (h : DT X W c f) : DTs X W [c] f := pts_one h
/-- .. where nothing may be raised -/
def R.bindN {α β : Type} (r : R α) (f : α → DEnv → R β) : R β := match r with
  | .ok ρ a => f a ρ
  | _ => .no
theorem R.bindN_ok {α β : Type} {ρ : DEnv} {a : α} {f : α → DEnv → R β} : (R.ok ρ a).bindN f = f a ρ := rfl
/-- one item after another; acc: what is made so far -/
def dLcGo (g : Tg) (t : DEnv → R Bool) (f : DEnv → R D) (vs : List Nat) : List D → List D → DEnv → R D
  | [], acc, ρ => .ok ρ (.lst acc)
  | d :: l, acc, ρ => match g d ρ with
    | none => .no
    | some ρ1 => (t ρ1).bindN fun b ρ2 => match b with
      | false => if noMu ρ2 vs = true then dLcGo g t f vs l acc (wipeE ρ2 vs) else .no
      | true => (f ρ2).bindN fun y ρ3 => if noMu ρ3 vs = true then (if acc.length < 16000000 then dLcGo g t f vs l (acc ++ [y]) (wipeE ρ3 vs) else .no) else .no
def dLc (s : DEnv → R (List D)) (g : Tg) (t : DEnv → R Bool) (f : DEnv → R D) (vs : List Nat) : DEnv → R D := fun ρ => (s ρ).bind fun l ρ1 => if noMu ρ1 vs = true then dLcGo g t f vs l [] (wipeE ρ1 vs) else .no

/-- nothing stands in these slots -/
def Clean (ρ : DEnv) (vs : List Nat) : Prop := ∀ i ∈ vs, ∀ c, ρ[i]? ≠ some (some c)
theorem clean_wipe {ρ : DEnv} {vs : List Nat} : Clean (wipeE ρ vs) vs := fun i hi c e => (wipeE_some e).2 hi
section
variable {K : PySem.W.Frag} {ρ ρ' : DEnv} {σ σ0 : Sl} {G H G' H' : Hp} {vs : List Nat}
theorem Rep.swap (R : Rep K G H ρ σ0) (hc : Clean ρ vs) (ag : Agr vs σ0 σ) : Rep K G H ρ σ where
  sub := R.sub
  len := R.len.trans ag.1.symm
  vl := fun i d e => by
    have hi : i ∉ vs := fun m => hc i m _ e
    obtain ⟨v, e1, e2⟩ := R.vl i d e
    exact ⟨v, (ag.2 i hi).trans e1, e2⟩
  mu := fun i b d e => by
    have hi : i ∉ vs := fun m => hc i m _ e
    obtain ⟨a, e1, e2⟩ := R.mu i b d e
    exact ⟨a, (ag.2 i hi).trans e1, e2⟩
  ap := fun i j b c d e a q1 q2 q3 q4 => R.ap i j b c d e a q1 q2 ((ag.2 i fun m => hc i m _ q1).symm.trans q3) ((ag.2 j fun m => hc j m _ q2).symm.trans q4)
theorem mu_swap {b : Bool} {a : Addr} (hc : Clean ρ vs) (ag : Agr vs σ0 σ) : Mu b ρ σ0 a ↔ Mu b ρ σ a :=
  ⟨fun ⟨i, d, e1, e2⟩ => ⟨i, d, e1, (ag.2 i fun m => hc i m _ e1).trans e2⟩, fun ⟨i, d, e1, e2⟩ => ⟨i, d, e1, (ag.2 i fun m => hc i m _ e1).symm.trans e2⟩⟩
theorem Stp.swap (s : Stp ρ σ0 G H ρ' σ0 G' H') (hc : Clean ρ vs) (hc' : Clean ρ' vs) (ag : Agr vs σ0 σ) : Stp ρ σ G H ρ' σ G' H' where
  g := s.g
  h := fun b o n1 n2 q => s.h b o (fun m => n1 ((mu_swap hc ag).mp m)) (fun m => n2 ((mu_swap hc ag).mp m)) q
  t := s.t
  n := fun b q1 q2 => (s.n b q1 q2).imp id fun m => (mu_swap hc ag).mp m
  ow := fun b m => (s.ow b ((mu_swap hc' ag).mpr m)).imp (fun m => (mu_swap hc ag).mp m) id
  io := fun i => ⟨fun d e => by
      obtain ⟨d', e1, _⟩ := (s.io i).1 d e
      exact ⟨d', e1, rfl⟩, (s.io i).2⟩
theorem Agr.symm {σ σ0 : Sl} (a : Agr vs σ0 σ) : Agr vs σ σ0 := ⟨a.1.symm, fun i hi => (a.2 i hi).symm⟩
theorem Agr.trans {σ σ0 σ1 : Sl} (a : Agr vs σ0 σ) (b : Agr vs σ σ1) : Agr vs σ0 σ1 := ⟨b.1.trans a.1, fun i hi => (b.2 i hi).trans (a.2 i hi)⟩
theorem agr_wipe : Agr vs σ (wipe σ vs) := ⟨wipe_length σ vs, fun i hi => wipe_out hi⟩
theorem wipe_get (σ : Sl) (i : Nat) : ∀ vs : List Nat, (wipe σ vs)[i]? = if i ∈ vs then (σ[i]?).map (fun _ => none) else σ[i]?
  | [] => by simp [wipe]
  | v :: vs => by
    unfold wipe
    by_cases h : v = i
    · subst h
      rw [if_pos List.mem_cons_self]
      by_cases hl : v < σ.length
      · rw [List.getElem?_set_self (by rw [wipe_length]; exact hl), List.getElem?_eq_getElem hl]; rfl
      · rw [List.getElem?_eq_none (by rw [List.length_set, wipe_length]; omega), List.getElem?_eq_none (by omega)]; rfl
    · rw [List.getElem?_set_ne h, wipe_get σ i vs]
      by_cases hm : i ∈ vs
      · rw [if_pos hm, if_pos (List.mem_cons_of_mem _ hm)]
      · rw [if_neg hm, if_neg fun m => (List.mem_cons.mp m).elim (fun z => h z.symm) hm]
theorem wipe_agr (ag : Agr vs σ0 σ) : wipe σ vs = wipe σ0 vs := by
  apply List.ext_getElem?
  intro i
  rw [wipe_get, wipe_get]
  by_cases hm : i ∈ vs
  · rw [if_pos hm, if_pos hm]
    by_cases hl : i < σ0.length
    · rw [List.getElem?_eq_getElem hl, List.getElem?_eq_getElem (by rw [ag.1]; exact hl)]; rfl
    · have a1 : σ0[i]? = none := List.getElem?_eq_none (by omega)
      have a2 : σ[i]? = none := List.getElem?_eq_none (by rw [ag.1]; omega)
      rw [a1, a2]
  · rw [if_neg hm, if_neg hm]
    exact ag.2 i hm
/-- an object that no name reaches is put in another's place -/
theorem Rep.other {a : Addr} {o : HO} (R : Rep K G H ρ σ) (h0 : G a = none) (h1 : ∀ b, ¬ Mu b ρ σ a) : Rep K G (upd H a o) ρ σ where
  sub := fun c u q => by
    have n : c ≠ a := fun z => by subst z; rw [h0] at q; cases q
    rw [upd_ne n]; exact R.sub c u q
  len := R.len
  vl := R.vl
  mu := fun i b d e => by
    obtain ⟨a', e1, e2, e3⟩ := R.mu i b d e
    have n : a' ≠ a := fun z => by subst z; exact h1 b ⟨i, d, e, e1⟩
    exact ⟨a', e1, e2, e3.mono (fun _ _ q => q) fun u q => by rw [upd_ne n]; exact q⟩
  ap := R.ap
theorem Stp.other {ρ0 : DEnv} {σ0 : Sl} {G0 H0 : Hp} {a : Addr} {o : HO} (s : Stp ρ0 σ0 G0 H0 ρ σ G H) (h : H0 a = none) : Stp ρ0 σ0 G0 H0 ρ σ G (upd H a o) where
  g := s.g
  h := fun b u n1 n2 q => by rw [upd_ne (ne_of_none q h)]; exact s.h b u n1 n2 q
  t := fun b q => by
    by_cases z : b = a
    · subst z; rw [upd_same] at q; cases q
    · rw [upd_ne z] at q; exact s.t b q
  n := s.n
  ow := s.ow
  io := s.io
end
abbrev WN : WX := fun _ _ _ _ => False
theorem tlc_of {X : Cx} {W : WX} {s : DEnv → R (List D)} {g : Tg} {t : DEnv → R Bool} {f : DEnv → R D} {vs : List Nat} : ∀ σ H Q, tF X.K W (dLc s g t f vs) σ H Q → tLc (tI X.K W s) (tG X.K g vs) (tT X.K WN t) (tD X.K WN f) vs σ H Q := by
  refine fun σ H Q ⟨ρ, G, R, h⟩ => ⟨ρ, G, R, (Go.bind R h).imp fun l ρ1 G1 H1 s1 R1 h1 J hJ Dl hD => ?_⟩
  split at h1
  case isFalse => exact False.elim h1
  rename_i hn1
  -- the state ahead of the first turn
  have ag0 : Agr vs σ (wipe σ vs) := agr_wipe
  have NH : New G1 H1 G1 (upd H1 Dl (.lst [])) := New.hid R1.sub hD
  have R2 : Rep X.K G1 (upd H1 Dl (.lst [])) (wipeE ρ1 vs) σ := (NH.rep R1).wiped rfl fun _ _ => rfl
  have S2 : Stp ρ1 σ G1 H1 (wipeE ρ1 vs) σ G1 (upd H1 Dl (.lst [])) := (NH.stp R1).trans R1 (Stp.wiped (NH.rep R1) hn1 fun _ _ => rfl)
  have noD : ∀ b, ¬ Mu b (wipeE ρ1 vs) σ Dl := fun b ⟨i, d, e1, e2⟩ => by
    obtain ⟨a', e3, _, e4⟩ := R1.mu i b d (wipeE_some e1).1
    rw [e2] at e3; cases e3
    obtain ⟨o, ho⟩ := e4.there
    rw [hD] at ho; cases ho
  refine ⟨fun i m H' => m = l.length - i ∧ ∃ ρw Gi acc xs, Rep X.K Gi H' ρw σ ∧ Clean ρw vs ∧ Stp ρ1 σ G1 H1 ρw σ Gi H' ∧ H' Dl = some (.lst xs) ∧ Iss X.K Gi acc xs ∧ Gi Dl = none ∧ (∀ b, ¬ Mu b ρw σ Dl) ∧
      Go X.K W σ ρ1 G1 H1 (fun d ρ' G' H' => ∀ a, G' a = none → ¬ Mu false ρ' σ a → ¬ Mu true ρ' σ a → H a = none → Cont X.K G' H' a d → Q (.ref a) H') (dLcGo g t f vs (l.drop i) acc ρw),
    ⟨l.length, by simp, wipeE ρ1 vs, G1, [], [], R2, clean_wipe, S2, upd_same, .nil, sub_none R1.sub hD, noD, h1⟩, fun i m H' ⟨em, ρw, Gi, acc, xs, Rw, cl, Sw, eD, hx, gD, nD, hgo⟩ => ?_⟩
  cases e : l[i]? with
  | none =>
    have hl : l.length ≤ i := List.getElem?_eq_none_iff.mp e
    rw [List.drop_eq_nil_of_le hl] at hgo
    exact .inl ⟨hJ.stop i Gi H' hl Sw.g Rw.sub, hgo Gi H' Sw Rw Dl gD (nD false) (nD true) (s1.t Dl hD) ⟨xs, eD, hx⟩⟩
  | some d =>
    obtain ⟨hlt, hel⟩ := List.getElem?_eq_some_iff.mp e
    obtain ⟨q1, q2⟩ := hJ.go i d Gi H' e Sw.g Rw.sub
    rw [List.drop_eq_getElem_cons hlt, hel] at hgo
    refine .inr ⟨q1, fun H' => ∃ ρw Gi acc xs, Rep X.K Gi H' ρw σ ∧ Clean ρw vs ∧ Stp ρ1 σ G1 H1 ρw σ Gi H' ∧ H' Dl = some (.lst xs) ∧ Iss X.K Gi acc xs ∧ Gi Dl = none ∧ (∀ b, ¬ Mu b ρw σ Dl) ∧
      Go X.K W σ ρ1 G1 H1 (fun d ρ' G' H' => ∀ a, G' a = none → ¬ Mu false ρ' σ a → ¬ Mu true ρ' σ a → H a = none → Cont X.K G' H' a d → Q (.ref a) H') (dLcGo g t f vs (l.drop (i + 1)) acc ρw), fun H' q => ⟨l.length - (i + 1), by omega, rfl, q⟩, fun x H2 hy => ?_⟩
    obtain ⟨G2, N2, hdx⟩ := q2 x H2 hy
    unfold dLcGo at hgo
    split at hgo
    case h_1 => exact False.elim hgo
    rename_i ρa ea
    have R0 : Rep X.K Gi H' ρw (wipe σ vs) := Rw.swap cl ag0
    have R2' := N2.rep R0
    refine ⟨ρw, G2, d, R2', hdx, ρa, ea, fun σ2 G3 H3 s3 R3 ag3 => ⟨(wipe_agr ag3).trans (wipe_agr ag0), ρa, G3, R3, ?_⟩⟩
    have T3 : Stp ρw (wipe σ vs) Gi H' ρa σ2 G3 H3 := (N2.stp R0).trans R0 s3
    -- what a turn's end is
    have fin : ∀ {ρb : DEnv} {G4 H4 : Hp}, Stp ρa σ2 G3 H3 ρb σ2 G4 H4 → Rep X.K G4 H4 ρb σ2 → noMu ρb vs = true → Rep X.K G4 H4 (wipeE ρb vs) σ ∧ Stp ρ1 σ G1 H1 (wipeE ρb vs) σ G4 H4 ∧ H4 Dl = some (.lst xs) ∧ G4 Dl = none ∧ (∀ b, ¬ Mu b (wipeE ρb vs) σ Dl) ∧ Evl.Ex Gi G4 := fun {ρb G4 H4} s4 R4 n4 => by
      have ags : Agr vs σ2 (wipe σ vs) := ag3.symm
      have R5 : Rep X.K G4 H4 (wipeE ρb vs) (wipe σ vs) := R4.wiped ags.1 ags.2
      have T4 : Stp ρw (wipe σ vs) Gi H' (wipeE ρb vs) (wipe σ vs) G4 H4 := (T3.trans R0 s4).trans R0 (Stp.wiped R4 n4 ags.2)
      have T5 : Stp ρw σ Gi H' (wipeE ρb vs) σ G4 H4 := T4.swap cl clean_wipe ag0.symm
      have gD4 : G4 Dl = none := by
        cases hg : G4 Dl with
        | none => rfl
        | some u =>
          rcases T5.n Dl gD (by rw [hg]; exact fun z => by cases z) with z | z
          · rw [eD] at z; cases z
          · exact absurd z (nD false)
      refine ⟨R5.swap clean_wipe ag0.symm, Sw.trans R1 T5, T5.h Dl _ (nD false) (nD true) eD, gD4, fun b m => ?_, T5.g⟩
      cases b with
      | false =>
        rcases T5.ow Dl m with z | z
        · exact nD false z
        · rw [eD] at z; cases z
      | true => exact nD true (T5.io_back m)
    cases et : t ρa with
    | no => rw [et] at hgo; exact False.elim hgo
    | ex _ _ => rw [et] at hgo; exact False.elim hgo
    | ok ρb b =>
      rw [et] at hgo
      intro G4 H4 s4 R4
      cases b with
      | false =>
        rw [if_neg Bool.false_ne_true]
        have hgo' : Go X.K W σ ρ1 G1 H1 _ (if noMu ρb vs = true then dLcGo g t f vs (l.drop (i + 1)) acc (wipeE ρb vs) else .no) := hgo
        split at hgo'
        · rename_i n4
          obtain ⟨a1, a2, a3, a4, a5, a6⟩ := fin s4 R4 n4
          exact ⟨wipeE ρb vs, G4, acc, xs, a1, clean_wipe, a2, a3, hx.mono a6, a4, a5, hgo'⟩
        · exact False.elim hgo'
      | true =>
        rw [if_pos rfl]
        refine ⟨ρb, G4, R4, ?_⟩
        have hgo' : Go X.K W σ ρ1 G1 H1 _ ((f ρb).bindN fun y ρ3 => if noMu ρ3 vs = true then (if acc.length < 16000000 then dLcGo g t f vs (l.drop (i + 1)) (acc ++ [y]) (wipeE ρ3 vs) else .no) else .no) := hgo
        cases ef : f ρb with
        | no => rw [ef] at hgo'; exact False.elim hgo'
        | ex _ _ => rw [ef] at hgo'; exact False.elim hgo'
        | ok ρc y =>
          rw [ef] at hgo'
          intro G5 H5 s5 R5 v hv
          have hgo2 : Go X.K W σ ρ1 G1 H1 _ (if noMu ρc vs = true then (if acc.length < 16000000 then dLcGo g t f vs (l.drop (i + 1)) (acc ++ [y]) (wipeE ρc vs) else .no) else .no) := hgo'
          split at hgo2
          · rename_i n5
            split at hgo2
            · rename_i hlen
              obtain ⟨a1, a2, a3, a4, a5, a6⟩ := fin (s4.trans R3 s5) R5 n5
              refine ⟨xs, a3, by rw [← hx.length, sizeLine_eq]; omega, wipeE ρc vs, G5, acc ++ [y], xs ++ [v], a1.other a4 a5, clean_wipe, a2.other hD, upd_same, (hx.mono a6).append (.cons hv .nil), a4, a5, hgo2⟩
            · exact False.elim hgo2
          · exact False.elim hgo2
theorem df_lc {X : Cx} {W : WX} {elt tg iter : Expr} {ifs : List Expr} {scope : Scope} {own : List (Str × Nat)} {pos : Pos} {s : DEnv → R (List D)} {g : Tg} {t : DEnv → R Bool} {f : DEnv → R D} {vs : List Nat}
    (hcalm : X.calm = true) (hN : X.N.Nodup) (hi : DI X W tg iter s) (ok : BlkOk X.N X.env.scope scope own) (hvs : own.map (·.2) = vs)
    (hg : ∀ (s : Shared) (H : Hp) (C : Addr) (cl : List (Str × Addr)) (fp : List Addr), DG (X.blk s H scope (compEnvC scope cl C X.env) fp) tg g vs)
    (ht : ∀ (s : Shared) (H : Hp) (C : Addr) (cl : List (Str × Addr)) (fp : List Addr), DTs (X.blk s H scope (compEnvC scope cl C X.env) fp) WN ifs t)
    (he : ∀ (s : Shared) (H : Hp) (C : Addr) (cl : List (Str × Addr)) (fp : List Addr), DE (X.blk s H scope (compEnvC scope cl C X.env) fp) WN elt f) (hs : ∀ x, foldedSetIterable iter X.env x = pure x := by intro _; rfl) :
    DF' X W (.ListComp elt [⟨tg, iter, ifs, 0⟩] scope pos) (dLc s g t f vs) := by
  subst hvs
  exact pe_imp (pe_lc (g := tG X.K g (own.map (·.2))) (tt := tT X.K WN t) (te := tD X.K WN f) hcalm hN hi ok hg ht he hs) tlc_of
/-- x = [..], x of this frame alone -/
theorem ps_lc0 {X : Cx} {W : WX} {i : Nat} {y : Str} {py : Pos} {elt tg iter : Expr} {ifs : List Expr} {scope : Scope} {own : List (Str × Nat)} {pos spos : Pos} {s : DEnv → R (List D)} {g : Tg} {t : DEnv → R Bool} {f : DEnv → R D}
    (hcalm : X.calm = true) (hN : X.N.Nodup) (hy : X.N[i]? = some y) (hyl : X.env.scope.names.lookup y = some .local) (hsw : swapsWith (.ListComp elt [⟨tg, iter, ifs, 0⟩] scope pos) (some (.Name y py)) spos.line X.env = pure true) (hi : DI X W tg iter s) (ok : BlkOk X.N X.env.scope scope own)
    (hg : ∀ (s : Shared) (H : Hp) (C : Addr) (cl : List (Str × Addr)) (fp : List Addr), DG (X.blk s H scope (compEnvC scope cl C X.env) fp) tg g (own.map (·.2)))
    (ht : ∀ (s : Shared) (H : Hp) (C : Addr) (cl : List (Str × Addr)) (fp : List Addr), DTs (X.blk s H scope (compEnvC scope cl C X.env) fp) WN ifs t)
    (he : ∀ (s : Shared) (H : Hp) (C : Addr) (cl : List (Str × Addr)) (fp : List Addr), DE (X.blk s H scope (compEnvC scope cl C X.env) fp) WN elt f) (hs : ∀ x, foldedSetIterable iter X.env x = pure x := by intro _; rfl) :
    PS X (.Assign [.Name y py] (.ListComp elt [⟨tg, iter, ifs, 0⟩] scope pos) spos) (tAsg (tLc (tI X.K W s) (tG X.K g (own.map (·.2))) (tT X.K WN t) (tD X.K WN f) (own.map (·.2))) (gName i)) :=
  ps_setLc hcalm hN hy hyl hsw hi ok hg ht he hs
theorem ds_setLc {X : Cx} {W : WX} {i : Nat} {y : Str} {py : Pos} {elt tg iter : Expr} {ifs : List Expr} {scope : Scope} {own : List (Str × Nat)} {pos spos : Pos} {s : DEnv → R (List D)} {g : Tg} {t : DEnv → R Bool} {f : DEnv → R D} {vs : List Nat}
    (hcalm : X.calm = true) (hN : X.N.Nodup) (hy : X.N[i]? = some y) (hyl : X.env.scope.names.lookup y = some .local) (hsw : swapsWith (.ListComp elt [⟨tg, iter, ifs, 0⟩] scope pos) (some (.Name y py)) spos.line X.env = pure true) (hi : DI X W tg iter s) (ok : BlkOk X.N X.env.scope scope own) (hvs : own.map (·.2) = vs)
    (hg : ∀ (s : Shared) (H : Hp) (C : Addr) (cl : List (Str × Addr)) (fp : List Addr), DG (X.blk s H scope (compEnvC scope cl C X.env) fp) tg g vs)
    (ht : ∀ (s : Shared) (H : Hp) (C : Addr) (cl : List (Str × Addr)) (fp : List Addr), DTs (X.blk s H scope (compEnvC scope cl C X.env) fp) WN ifs t)
    (he : ∀ (s : Shared) (H : Hp) (C : Addr) (cl : List (Str × Addr)) (fp : List Addr), DE (X.blk s H scope (compEnvC scope cl C X.env) fp) WN elt f) (hs : ∀ x, foldedSetIterable iter X.env x = pure x := by intro _; rfl) :
    DS X W (.Assign [.Name y py] (.ListComp elt [⟨tg, iter, ifs, 0⟩] scope pos) spos) (dSet i (dLc s g t f vs)) := by
  subst hvs
  exact ps_imp (ps_lc0 hcalm hN hy hyl hsw hi ok hg ht he hs) (tset fun σ H Q h => tlc_of σ H Q (tfresh σ H Q h))
theorem ds_setLcF {X : Cx} {W : WX} {i : Nat} {y : Str} {py : Pos} {elt tg iter : Expr} {ifs : List Expr} {scope : Scope} {own : List (Str × Nat)} {pos spos : Pos} {s : DEnv → R (List D)} {g : Tg} {t : DEnv → R Bool} {f : DEnv → R D} {vs : List Nat}
    (hcalm : X.calm = true) (hN : X.N.Nodup) (hy : X.N[i]? = some y) (hyl : X.env.scope.names.lookup y = some .local) (hsw : swapsWith (.ListComp elt [⟨tg, iter, ifs, 0⟩] scope pos) (some (.Name y py)) spos.line X.env = pure true) (hi : DI X W tg iter s) (ok : BlkOk X.N X.env.scope scope own) (hvs : own.map (·.2) = vs)
    (hg : ∀ (s : Shared) (H : Hp) (C : Addr) (cl : List (Str × Addr)) (fp : List Addr), DG (X.blk s H scope (compEnvC scope cl C X.env) fp) tg g vs)
    (ht : ∀ (s : Shared) (H : Hp) (C : Addr) (cl : List (Str × Addr)) (fp : List Addr), DTs (X.blk s H scope (compEnvC scope cl C X.env) fp) WN ifs t)
    (he : ∀ (s : Shared) (H : Hp) (C : Addr) (cl : List (Str × Addr)) (fp : List Addr), DE (X.blk s H scope (compEnvC scope cl C X.env) fp) WN elt f) (hs : ∀ x, foldedSetIterable iter X.env x = pure x := by intro _; rfl) :
    DS X W (.Assign [.Name y py] (.ListComp elt [⟨tg, iter, ifs, 0⟩] scope pos) spos) (dSetF i (dLc s g t f vs)) := by
  subst hvs
  exact ps_imp (ps_lc0 hcalm hN hy hyl hsw hi ok hg ht he hs) (tsetF tlc_of)
end DF

namespace DF
open PySem PySem.Spec PyProof.Rows L2
section
variable {X : Cx}
/-! ### whole numbers -/
def CDivG (i j : Int) : Prop := j ≠ 0 ∧ j.natAbs.log2 < 9000
theorem op_fdivG : OpR X (binaryOp .FloorDiv) (rI CDivG fun i j => .int (i.fdiv j)) := opI fun _ _ _ _ _ _ _ hc q => floordiv_int hc.1 q (.inl (PyProof.noPylong_of_log2 hc.2))
def CPowG (i j : Int) : Prop := 0 ≤ j ∧ (Builtin.Int.intBits i : Int) * j ≤ 2 ^ 27
theorem op_powG : OpR X (binaryOp .Pow) (rI CPowG fun i j => .int (i ^ j.toNat)) := opI fun _ _ _ _ _ _ _ hc q => pow_int hc.1 hc.2 q
end
variable {K : PySem.W.Frag}
def i2 (g : Int → Int → Option D) (x y : D) : Option D := match x, y with
  | .int i, .int j => g i j
  | _, _ => none
theorem i2_of {g : Int → Int → Option D} {x y z : D} (h : i2 g x y = some z) : ∃ i j, x = .int i ∧ y = .int j ∧ g i j = some z := by
  unfold i2 at h
  split at h
  · exact ⟨_, _, rfl, rfl, h⟩
  · cases h
theorem ops_i0 {g : Int → Int → Int} : OpS K (rI0 fun i j => .int (g i j)) (i2 fun i j => some (.int (g i j))) := fun x y z v u G H Q eS hx hy e k => by
  obtain ⟨i, j, rfl, rfl, e⟩ := i2_of e
  cases e
  cases hx
  cases hy
  exact ⟨i, j, rfl, rfl, k _ G H (New.refl eS) (.int _)⟩
theorem ops_b0 {g : Int → Int → Bool} : OpS K (rI0 fun i j => .bl (g i j)) (i2 fun i j => some (.bl (g i j))) := fun x y z v u G H Q eS hx hy e k => by
  obtain ⟨i, j, rfl, rfl, e⟩ := i2_of e
  cases e
  cases hx
  cases hy
  exact ⟨i, j, rfl, rfl, k _ G H (New.refl eS) (.bl _)⟩
theorem ops_ic {C : Int → Int → Prop} {g : Int → Int → Int} {c : Int → Int → Bool} (hc : ∀ i j, c i j = true → C i j) : OpS K (rI C fun i j => .int (g i j)) (i2 fun i j => if c i j = true then some (.int (g i j)) else none) := fun x y z v u G H Q eS hx hy e k => by
  obtain ⟨i, j, rfl, rfl, e'⟩ := i2_of e
  clear e
  cases hx
  cases hy
  split at e'
  · rename_i h
    cases e'
    exact ⟨i, j, rfl, rfl, hc i j h, k _ G H (New.refl eS) (.int _)⟩
  · cases e'
/-- what is found by the first that has a word -/
def orD (g g' : D → D → Option D) (x y : D) : Option D := match g x y with
  | some z => some z
  | none => g' x y
theorem ops_or {r r' : R2} {g g' : D → D → Option D} (h : OpS K r g) (h' : OpS K r' g') : OpS K (fun x y H Q => r x y H Q ∨ r' x y H Q) (orD g g') := fun x y z v u G H Q eS hx hy e k => by
  unfold orD at e
  cases q : g x y with
  | some w =>
    rw [q] at e
    cases e
    exact .inl (h x y _ v u G H Q eS hx hy q k)
  | none =>
    rw [q] at e
    exact .inr (h' x y z v u G H Q eS hx hy e k)
def cDiv (_ j : Int) : Bool := decide (j ≠ 0) && decide (j.natAbs.log2 < 9000)
theorem cDiv_ok {i j : Int} (h : cDiv i j = true) : CDivG i j := by
  unfold cDiv at h
  rw [Bool.and_eq_true, decide_eq_true_eq, decide_eq_true_eq] at h
  exact h
def cMul (i j : Int) : Bool := decide (i.natAbs.log2 + j.natAbs.log2 < 1000000)
def cPow (i j : Int) : Bool := decide (0 ≤ j) && decide ((Builtin.Int.intBits i : Int) * j ≤ 2 ^ 27)
theorem cPow_ok {i j : Int} (h : cPow i j = true) : CPowG i j := by
  unfold cPow at h
  rw [Bool.and_eq_true, decide_eq_true_eq, decide_eq_true_eq] at h
  exact h
def addI : D → D → Option D := i2 fun i j => some (.int (i + j))
def subD : D → D → Option D := i2 fun i j => some (.int (i - j))
def mulI : D → D → Option D := i2 fun i j => if cMul i j = true then some (.int (i * j)) else none
def divD : D → D → Option D := i2 fun i j => if cDiv i j = true then some (.int (i.fdiv j)) else none
def modD : D → D → Option D := i2 fun i j => if decide (j ≠ 0) = true then some (.int (i.fmod j)) else none
def powD : D → D → Option D := i2 fun i j => if cPow i j = true then some (.int (i ^ j.toNat)) else none
def ltD : D → D → Option D := i2 fun i j => some (.bl (decide (i < j)))
def leD : D → D → Option D := i2 fun i j => some (.bl (decide (i ≤ j)))
def gtD : D → D → Option D := i2 fun i j => some (.bl (decide (j < i)))
def geD : D → D → Option D := i2 fun i j => some (.bl (decide (j ≤ i)))
/-! ### lists and tuples together -/
def catL (x y : D) : Option D := match x, y with
  | .lst l, .lst m => if l.length + m.length ≤ 16000000 then some (.lst (l ++ m)) else none
  | _, _ => none
theorem ops_catL : OpS K rCat catL := fun x y z v u G H Q eS hx hy e k => by
  unfold catL at e
  split at e
  · rename_i l m
    obtain ⟨a, xs, rfl, h1, h2⟩ := hx
    obtain ⟨b, ys, rfl, h3, h4⟩ := hy
    split at e
    · rename_i hl
      cases e
      refine ⟨a, b, xs, ys, rfl, rfl, h1, h3, by rw [← h2.length, ← h4.length, sizeLine_eq]; omega, fun p hp => ?_⟩
      have N : New G H (upd G p (.lst (xs ++ ys))) (upd H p (.lst (xs ++ ys))) := New.put eS hp
      exact k _ _ _ N (.lst upd_same ((h2.append h4).mono N.g))
    · cases e
  · cases e
def catT (x y : D) : Option D := match x, y with
  | .tup l, .tup m => if l.length + m.length ≤ 16000000 then some (.tup (l ++ m)) else none
  | _, _ => none
theorem ops_catT : OpS K (rCatA K) catT := fun x y z v u G H Q eS hx hy e k => by
  unfold catT at e
  split at e
  · rename_i l m
    cases hx with
    | @tup l a xs h1 h2 =>
      cases hy with
      | @tup m b ys h3 h4 =>
        split at e
        · rename_i hl
          cases e
          refine ⟨a, b, xs, ys, rfl, rfl, Evl.ex_t eS h1, Evl.ex_t eS h3, by rw [← h2.length, ← h4.length, sizeLine_eq]; omega, fun z => ?_, fun z1 z2 => ?_, fun z1 z2 p hp => ?_⟩
          · subst z
            cases h2
            exact k _ G H (New.refl eS) (.tup h3 h4)
          · subst z2
            cases h4
            rw [List.append_nil] at *
            exact k _ G H (New.refl eS) (.tup h1 h2)
          · have N : New G H (upd G p (.tup (xs ++ ys))) (upd H p (.tup (xs ++ ys))) := New.put eS hp
            exact k _ _ _ N (.tup (Evl.st_of upd_same) ((h2.append h4).mono N.g))
        · cases e
  · cases e
def repL (x y : D) : Option D := match x, y with
  | .lst l, .int n => if n < 2 ^ 62 ∧ -(2 ^ 62) ≤ n ∧ l.length * n.toNat ≤ 16000000 then some (.lst (List.replicate n.toNat l).flatten) else none
  | _, _ => none
theorem ops_repL : OpS K rRep repL := fun x y z v u G H Q eS hx hy e k => by
  unfold repL at e
  split at e
  · rename_i l n
    obtain ⟨a, xs, rfl, h1, h2⟩ := hx
    cases hy
    split at e
    · rename_i hl
      cases e
      refine ⟨a, n, xs, rfl, rfl, h1, by omega, by omega, by rw [← h2.length, sizeLine_eq]; omega, fun p hp => ?_⟩
      have N : New G H (upd G p (.lst (List.replicate n.toNat xs).flatten)) (upd H p (.lst (List.replicate n.toNat xs).flatten)) := New.put eS hp
      exact k _ _ _ N (.lst upd_same ((h2.rep _).mono N.g))
    · cases e
  · cases e
def repT (x y : D) : Option D := match x, y with
  | .tup l, .int n => if 2 ≤ n ∧ n ≤ 1000 ∧ l.length ≤ 1000 ∧ l.length ≠ 0 then some (.tup (List.replicate n.toNat l).flatten) else none
  | _, _ => none
theorem ops_repT : OpS K (rRepT K) repT := fun x y z v u G H Q eS hx hy e k => by
  unfold repT at e
  split at e
  · rename_i l n
    cases hx with
    | @tup l a xs h1 h2 =>
      cases hy
      split at e
      · rename_i hl
        cases e
        obtain ⟨hl1, hl2, hl3, hl4⟩ := hl
        refine ⟨a, n, xs, rfl, rfl, Evl.ex_t eS h1, fun z => ?_, hl1, hl2, by rw [← h2.length]; exact hl3, fun p hp => ?_⟩
        · rw [h2.length, z] at hl4; exact hl4 rfl
        · have N : New G H (upd G p (.tup (List.replicate n.toNat xs).flatten)) (upd H p (.tup (List.replicate n.toNat xs).flatten)) := New.put eS hp
          exact k _ _ _ N (.tup (Evl.st_of upd_same) ((h2.rep _).mono N.g))
      · cases e
  · cases e
/-! ### equality -/
mutual
def toP : D → Option PyData
  | .non => some .none
  | .bl b => some (.bool b)
  | .int i => some (.int i)
  | .str x => some (.str x)
  | .lst l => (toPs l).map .list
  | .fro l => (toPs l).map .list
  | .tup l => (toPs l).map .tuple
  | .dic _ => none
def toPs : List D → Option (List PyData)
  | [] => some []
  | d :: l => match toP d with
    | none => none
    | some p => (toPs l).map (p :: ·)
end
section
variable {G H : Hp}
mutual
theorem dp_of (eS : Evl.Ex G H) : ∀ {d : D} {v : V} {p : PyData}, Is K G d v → toP d = some p → Dp K H v p
  | _, _, _, .non, e => by cases e; exact .non
  | _, _, _, .bl b, e => by cases e; exact .bl b
  | _, _, _, .int i, e => by cases e; exact .int i
  | _, _, _, .str x, e => by cases e; exact .str x
  | .lst l, _, p, .lst h r, e => by
    unfold toP at e
    cases q : toPs l with
    | none => rw [q] at e; cases e
    | some ps => rw [q] at e; cases e; exact .lst (Evl.sq_of (eS _ _ h)) (dps_of eS r q)
  | .fro l, _, p, .fro h r, e => by
    unfold toP at e
    cases q : toPs l with
    | none => rw [q] at e; cases e
    | some ps => rw [q] at e; cases e; exact .lst (Evl.ex_l eS h) (dps_of eS r q)
  | .tup l, _, p, .tup h r, e => by
    unfold toP at e
    cases q : toPs l with
    | none => rw [q] at e; cases e
    | some ps => rw [q] at e; cases e; exact .tup (Evl.ex_t eS h) (dps_of eS r q)
  | .dic l, _, p, .dic h r, e => by unfold toP at e; cases e
theorem dps_of (eS : Evl.Ex G H) : ∀ {l : List D} {xs : List V} {ps : List PyData}, Iss K G l xs → toPs l = some ps → DpAll K H xs ps
  | _, _, _, .nil, e => by unfold toPs at e; cases e; exact .nil
  | d :: l, _, ps, .cons h r, e => by
    unfold toPs at e
    cases q : toP d with
    | none => rw [q] at e; cases e
    | some p =>
      rw [q] at e
      cases q2 : toPs l with
      | none => rw [q2] at e; cases e
      | some ps' => rw [q2] at e; cases e; exact .cons (dp_of eS h q) (dps_of eS r q2)
end
theorem dp_top (eS : Evl.Ex G H) {d : D} {v : V} {p : PyData} (h : Top K G H d v) (e : toP d = some p) : Dp K H v p := dp_of (fun _ _ q => q) (h.is eS) e
end
def eqP (x y : D) : Option Bool := match toP x, toP y with
  | some p, some q => if SeqAt.shaped p = true ∧ SeqAt.shaped q = true then some (p.eqv q) else none
  | _, _ => none
def eqD1 (x y : D) : Option D := (eqP x y).map .bl
def neD1 (x y : D) : Option D := (eqP x y).map fun b => .bl (!b)
theorem eqP_of {x y : D} {b : Bool} (h : eqP x y = some b) : ∃ p q, toP x = some p ∧ toP y = some q ∧ SeqAt.shaped p = true ∧ SeqAt.shaped q = true ∧ b = p.eqv q := by
  unfold eqP at h
  split at h
  · rename_i p q e1 e2
    split at h
    · rename_i hs
      cases h
      exact ⟨p, q, e1, e2, hs.1, hs.2, rfl⟩
    · cases h
  · cases h
theorem ops_eq1 : OpS K (rEqD K) eqD1 := fun x y z v u G H Q eS hx hy e k => by
  unfold eqD1 at e
  cases q : eqP x y with
  | none => rw [q] at e; cases e
  | some b =>
    rw [q] at e
    cases e
    obtain ⟨p, r, e1, e2, s1, s2, rfl⟩ := eqP_of q
    exact ⟨p, r, dp_top eS hx e1, dp_top eS hy e2, s1, s2, k _ G H (New.refl eS) (.bl _)⟩
theorem ops_ne1 : OpS K (rNeD K) neD1 := fun x y z v u G H Q eS hx hy e k => by
  unfold neD1 at e
  cases q : eqP x y with
  | none => rw [q] at e; cases e
  | some b =>
    rw [q] at e
    cases e
    obtain ⟨p, r, e1, e2, s1, s2, rfl⟩ := eqP_of q
    exact ⟨p, r, dp_top eS hx e1, dp_top eS hy e2, s1, s2, k _ G H (New.refl eS) (.bl _)⟩
/-! ### built-in functions -/
def lenD (xs : List D) : Option D := match xs with
  | [.lst l] => some (.int l.length)
  | [.fro l] => some (.int l.length)
  | [.tup l] => some (.int l.length)
  | _ => none
theorem tops1 {G H : Hp} {d : D} {vs : List V} (h : Tops K G H [d] vs) : ∃ v, vs = [v] ∧ Top K G H d v := by
  cases h with
  | cons h r => cases r; exact ⟨_, rfl, h⟩
theorem tops2 {G H : Hp} {d e : D} {vs : List V} (h : Tops K G H [d, e] vs) : ∃ v u, vs = [v, u] ∧ Top K G H d v ∧ Top K G H e u := by
  cases h with
  | cons h r => cases r with | cons h2 r2 => cases r2; exact ⟨_, _, rfl, h, h2⟩
def rLen (K : PySem.W.Frag) : List V → Hp → VK → Prop := fun xs H Q => ∃ p ys, xs = [.ref p] ∧ (SqL K H p ys ∨ SqT K H p ys) ∧ Q (.int ys.length) H
theorem cas_len : CaS K (rLen K) lenD := fun xs z vs G H Q eS hx e k => by
  unfold lenD at e
  split at e
  · obtain ⟨v, rfl, a, ys, rfl, h1, h2⟩ := tops1 hx
    cases e
    exact ⟨a, ys, rfl, .inl (Evl.sq_of h1), k _ G H (New.refl eS) (by rw [h2.length]; exact .int _)⟩
  · obtain ⟨v, rfl, h⟩ := tops1 hx
    cases e
    cases h with
    | fro h1 h2 => exact ⟨_, _, rfl, .inl (Evl.ex_l eS h1), k _ G H (New.refl eS) (by rw [h2.length]; exact .int _)⟩
  · obtain ⟨v, rfl, h⟩ := tops1 hx
    cases e
    cases h with
    | tup h1 h2 => exact ⟨_, _, rfl, .inr (Evl.ex_t eS h1), k _ G H (New.refl eS) (by rw [h2.length]; exact .int _)⟩
  · cases e
def absD (xs : List D) : Option D := match xs with
  | [.int i] => some (.int (if i < 0 then -i else i))
  | _ => none
def rAbs : List V → Hp → VK → Prop := fun xs H Q => ∃ i, xs = [.int i] ∧ Q (.int (if i < 0 then -i else i)) H
theorem cas_abs : CaS K rAbs absD := fun xs z vs G H Q eS hx e k => by
  unfold absD at e
  split at e
  · obtain ⟨v, rfl, h⟩ := tops1 hx
    cases h; cases e
    exact ⟨_, rfl, k _ G H (New.refl eS) (.int _)⟩
  · cases e
def intD (xs : List D) : Option D := match xs with
  | [.int i] => some (.int i)
  | [.bl b] => some (.int (if b then 1 else 0))
  | _ => none
def rInt1 : List V → Hp → VK → Prop := fun xs H Q => (∃ i, xs = [.int i] ∧ Q (.int i) H) ∨ ∃ k, xs = [.bl k] ∧ Q (.int (if k then 1 else 0)) H
theorem cas_int : CaS K rInt1 intD := fun xs z vs G H Q eS hx e k => by
  unfold intD at e
  split at e
  · obtain ⟨v, rfl, h⟩ := tops1 hx
    cases h; cases e
    exact .inl ⟨_, rfl, k _ G H (New.refl eS) (.int _)⟩
  · obtain ⟨v, rfl, h⟩ := tops1 hx
    cases h; cases e
    exact .inr ⟨_, rfl, k _ G H (New.refl eS) (.int _)⟩
  · cases e
def max2D (xs : List D) : Option D := match xs with
  | [.int i, .int j] => some (.int (if j > i then j else i))
  | _ => none
def min2D (xs : List D) : Option D := match xs with
  | [.int i, .int j] => some (.int (if j < i then j else i))
  | _ => none
def rMax2 : List V → Hp → VK → Prop := fun xs H Q => ∃ i j, xs = [.int i, .int j] ∧ Q (.int (if j > i then j else i)) H
def rMin2 : List V → Hp → VK → Prop := fun xs H Q => ∃ i j, xs = [.int i, .int j] ∧ Q (.int (if j < i then j else i)) H
theorem cas_max2 : CaS K rMax2 max2D := fun xs z vs G H Q eS hx e k => by
  unfold max2D at e
  split at e
  · obtain ⟨v, u, rfl, h1, h2⟩ := tops2 hx
    cases h1; cases h2; cases e
    exact ⟨_, _, rfl, k _ G H (New.refl eS) (.int _)⟩
  · cases e
theorem cas_min2 : CaS K rMin2 min2D := fun xs z vs G H Q eS hx e k => by
  unfold min2D at e
  split at e
  · obtain ⟨v, u, rfl, h1, h2⟩ := tops2 hx
    cases h1; cases h2; cases e
    exact ⟨_, _, rfl, k _ G H (New.refl eS) (.int _)⟩
  · cases e
def gcdD (xs : List D) : Option D := match xs with
  | [.int i, .int j] => some (.int ((Nat.gcd i.natAbs j.natAbs : Nat) : Int))
  | _ => none
theorem cas_gcd : CaS K rGcd gcdD := fun xs z vs G H Q eS hx e k => by
  unfold gcdD at e
  split at e
  · obtain ⟨v, u, rfl, h1, h2⟩ := tops2 hx
    cases h1; cases h2; cases e
    exact ⟨_, _, rfl, k _ G H (New.refl eS) (.int _)⟩
  · cases e
/-- all whole numbers, all truth values -/
def intsD : List D → Option (List Int)
  | [] => some []
  | .int i :: l => match intsD l with
    | some r => some (i :: r)
    | none => none
  | _ :: _ => none
theorem intsD_of : ∀ {l : List D} {ns : List Int}, intsD l = some ns → l = ns.map D.int
  | [], _, e => by cases e; rfl
  | .int i :: l, ns, e => by
    unfold intsD at e
    split at e
    · rename_i r q; cases e; rw [intsD_of q]; rfl
    · cases e
  | .non :: _, _, e => by cases e
  | .bl _ :: _, _, e => by cases e
  | .str _ :: _, _, e => by cases e
  | .tup _ :: _, _, e => by cases e
  | .lst _ :: _, _, e => by cases e
  | .dic _ :: _, _, e => by cases e
  | .fro _ :: _, _, e => by cases e
theorem intsD_map : ∀ ns : List Int, intsD (ns.map D.int) = some ns
  | [] => rfl
  | n :: r => by show (match intsD (r.map D.int) with | some r => some (n :: r) | none => none) = _; rw [intsD_map r]
def bls : List D → Option (List Bool)
  | [] => some []
  | .bl i :: l => match bls l with
    | some r => some (i :: r)
    | none => none
  | _ :: _ => none
theorem bls_of : ∀ {l : List D} {ns : List Bool}, bls l = some ns → l = ns.map D.bl
  | [], _, e => by cases e; rfl
  | .bl i :: l, ns, e => by
    unfold bls at e
    split at e
    · rename_i r q; cases e; rw [bls_of q]; rfl
    · cases e
  | .non :: _, _, e => by cases e
  | .int _ :: _, _, e => by cases e
  | .str _ :: _, _, e => by cases e
  | .tup _ :: _, _, e => by cases e
  | .lst _ :: _, _, e => by cases e
  | .dic _ :: _, _, e => by cases e
  | .fro _ :: _, _, e => by cases e
theorem bls_map : ∀ ns : List Bool, bls (ns.map D.bl) = some ns
  | [] => rfl
  | n :: r => by show (match bls (r.map D.bl) with | some r => some (n :: r) | none => none) = _; rw [bls_map r]
def listOf (d : D) : Option (List D) := match d with
  | .lst l => some l
  | .fro l => some l
  | _ => none
theorem listOf_top {G H : Hp} {d : D} {l : List D} {v : V} (eS : Evl.Ex G H) (h : Top K G H d v) (e : listOf d = some l) : ∃ a xs, v = .ref a ∧ SqL K H a xs ∧ Iss K G l xs := by
  cases d with
  | lst m => cases e; obtain ⟨a, xs, rfl, h1, h2⟩ := h; exact ⟨a, xs, rfl, Evl.sq_of h1, h2⟩
  | fro m => cases e; cases h with | fro h1 h2 => exact ⟨_, _, rfl, Evl.ex_l eS h1, h2⟩
  | _ => cases e
def sumD (xs : List D) : Option D := match xs with
  | [d] => match listOf d with
    | some l => (intsD l).map fun ns => .int ns.sum
    | none => none
  | _ => none
theorem cas_sum : CaS K (rSum K) sumD := fun xs z vs G H Q eS hx e k => by
  unfold sumD at e
  split at e
  · rename_i d
    split at e
    · rename_i l e1
      obtain ⟨v, rfl, h⟩ := tops1 hx
      obtain ⟨a, ys, rfl, h1, h2⟩ := listOf_top eS h e1
      cases q : intsD l with
      | none => rw [q] at e; cases e
      | some ns =>
        rw [q] at e; cases e
        rw [intsD_of q] at h2
        exact ⟨a, ns, rfl, by rw [← h2.ints]; exact h1, k _ G H (New.refl eS) (.int _)⟩
    · cases e
  · cases e
def allD (xs : List D) : Option D := match xs with
  | [d] => match listOf d with
    | some l => (bls l).map fun ns => .bl (ns.all id)
    | none => none
  | _ => none
theorem cas_all : CaS K (rAll K) allD := fun xs z vs G H Q eS hx e k => by
  unfold allD at e
  split at e
  · rename_i d
    split at e
    · rename_i l e1
      obtain ⟨v, rfl, h⟩ := tops1 hx
      obtain ⟨a, ys, rfl, h1, h2⟩ := listOf_top eS h e1
      cases q : bls l with
      | none => rw [q] at e; cases e
      | some ns =>
        rw [q] at e; cases e
        rw [bls_of q] at h2
        exact ⟨a, ns, rfl, by rw [← h2.bls]; exact h1, k _ G H (New.refl eS) (.bl _)⟩
    · cases e
  · cases e
def anyD (xs : List D) : Option D := match xs with
  | [d] => match listOf d with
    | some l => (bls l).map fun ns => .bl (ns.any id)
    | none => none
  | _ => none
theorem cas_any : CaS K (rAny K) anyD := fun xs z vs G H Q eS hx e k => by
  unfold anyD at e
  split at e
  · rename_i d
    split at e
    · rename_i l e1
      obtain ⟨v, rfl, h⟩ := tops1 hx
      obtain ⟨a, ys, rfl, h1, h2⟩ := listOf_top eS h e1
      cases q : bls l with
      | none => rw [q] at e; cases e
      | some ns =>
        rw [q] at e; cases e
        rw [bls_of q] at h2
        exact ⟨a, ns, rfl, by rw [← h2.bls]; exact h1, k _ G H (New.refl eS) (.bl _)⟩
    · cases e
  · cases e
/-- tuple(xs) -/
def tupD (xs : List D) : Option D := match xs with
  | [.lst l] => some (.tup l)
  | [.fro l] => some (.tup l)
  | [.tup l] => some (.tup l)
  | _ => none
def rTupOf (K : PySem.W.Frag) : List V → Hp → VK → Prop := fun xs H Q => ∃ p ys, xs = [.ref p] ∧ ((SqL K H p ys ∧ ∀ l, H l = none → Q (.ref l) (upd H l (.tup ys))) ∨ (SqT K H p ys ∧ Q (.ref p) H))
theorem cas_tup : CaS K (rTupOf K) tupD := fun xs z vs G H Q eS hx e k => by
  have go : ∀ {l : List D} {ys : List V}, Iss K G l ys → z = .tup l → ∀ p, H p = none → Q (.ref p) (upd H p (.tup ys)) := fun {l ys} r ez p hp => by
    subst ez
    have N : New G H (upd G p (.tup ys)) (upd H p (.tup ys)) := New.put eS hp
    exact k _ _ _ N (.tup (Evl.st_of upd_same) (r.mono N.g))
  unfold tupD at e
  split at e
  · obtain ⟨v, rfl, a, ys, rfl, h1, h2⟩ := tops1 hx
    cases e
    exact ⟨a, ys, rfl, .inl ⟨Evl.sq_of h1, go h2 rfl⟩⟩
  · obtain ⟨v, rfl, h⟩ := tops1 hx
    cases e
    cases h with
    | fro h1 h2 => exact ⟨_, _, rfl, .inl ⟨Evl.ex_l eS h1, go h2 rfl⟩⟩
  · obtain ⟨v, rfl, h⟩ := tops1 hx
    cases e
    cases h with
    | tup h1 h2 => exact ⟨_, _, rfl, .inr ⟨Evl.ex_t eS h1, k _ G H (New.refl eS) (.tup h1 h2)⟩⟩
  · cases e
end DF

namespace DF
open PySem PySem.Spec PyProof.Rows L2
/-! ### isinstance(x, T), T a built-in type -/
def tyN : D → String
  | .non => "NoneType" | .bl _ => "bool" | .int _ => "int" | .str _ => "str" | .tup _ => "tuple" | .lst _ => "list" | .dic _ => "dict" | .fro _ => "list"
theorem tyX_of {K : PySem.W.Frag} {G H : Hp} {d : D} {v : V} (eS : Evl.Ex G H) (h : Top K G H d v) : TyX K H v (.type (tyN d)) := by
  cases d with
  | non => cases h; exact .base .non
  | bl b => cases h; exact .base (.bl b)
  | int i => cases h; exact .base (.int i)
  | str x => cases h; exact .base (.str x)
  | tup l =>
    cases h with
    | tup h r =>
      rcases Evl.ex_t eS h with (h | ⟨o, h⟩) | ⟨o, its, n, h1, h2, _⟩
      · exact .base (.tup h)
      · exact .fTuple h
      · exact .kTuple h1 h2
  | lst l => obtain ⟨a, xs, rfl, h1, h2⟩ := h; exact .base (.lst h1)
  | dic l => obtain ⟨a, xs, rfl, h1, h2⟩ := h; exact .base (.dK h1)
  | fro l =>
    cases h with
    | fro h r =>
      rcases Evl.ex_l eS h with (h | ⟨o, h⟩) | ⟨o, its, n, h1, h2, _⟩
      · exact .base (.lst h)
      · exact .base (.frz h)
      · exact .kList h1 h2
def isiD (n : String) (d : D) : Option D := (kitB (tyN d) n).map .bl
def dIsi (n : String) (f : DEnv → R Th) : DEnv → R D := fun ρ => (f ρ).bind fun t ρ1 => match t ρ1 with
  | some d => ofO ρ1 (isiD n d)
  | none => .no
theorem de_isi {X : Cx} {W : WX} {a c : Expr} {f : DEnv → R Th} {n : String} {p pos : Pos} (ha : DO X W a f) (hc : PE X c (tC (.ty n))) (hg : Gl X "isinstance") (hm : X.mg "isinstance" = none) (hv : bootBuiltins "isinstance" = some (.builtin "isinstance"))
    (h1 : starEach [a, c] X.env = (false, eval a X.env) :: starEach [c] X.env := by rfl) (h2 : starEach [c] X.env = (false, eval c X.env) :: starEach [] X.env := by rfl) (hpl : (backTo pos (starEach [c] X.env)).any (·.1) = false := by rfl) :
    DE X W (.Call (.Name "isinstance" p) [a, c] [] pos) (dIsi n f) :=
  pe_imp (pe_callB (x := "isinstance") call_isi hg hm hv (pa_cons ha (pa_cons hc pa_nil h2) h1) (by decide) (by decide) h1 hpl) fun σ H Q ⟨ρ, G, R, h⟩ => ⟨ρ, G, R, (Go.bind R h).imp fun t ρ1 G1 H1 s1 R1 h1 v hv => by
    split at h1
    · rename_i d e1
      unfold isiD at h1
      cases e2 : kitB (tyN d) n with
      | none => rw [e2] at h1; exact False.elim h1
      | some b =>
        rw [e2] at h1
        exact ⟨v, .ty n, _, _, b, rfl, .ty n, tyX_of R1.sub (hv ρ1 G1 H1 d .refl R1 e1), kit_ty e2, h1 G1 H1 .refl R1 _ (.bl b)⟩
    · exact False.elim h1⟩
/-! ### repr of a truth value, of a whole number -/
def rprD (xs : List D) : Option D := match xs with
  | [.bl b] => some (.str (if b then "True" else "False"))
  | [.int i] => if i.natAbs.log2 < 1920 then some (.str (toString i)) else none
  | _ => none
def rRpr : List V → Hp → VK → Prop := fun xs H Q => (∃ b, xs = [.bl b] ∧ Q (.str (if b then "True" else "False")) H) ∨ ∃ i, xs = [.int i] ∧ i.natAbs.log2 < 1920 ∧ Q (.str (toString i)) H
theorem call_rpr {X : Cx} : CallR X (.builtin "repr") rRpr := by
  intro pins s σ H xs us Q I r h
  rcases h with ⟨b, rfl, q⟩ | ⟨i, rfl, hz, q⟩
  · obtain ⟨u, rfl, r1⟩ := vals1 r
    cases r1
    exact PySem.P.repr_of_bool ⟨.str _, H, I.tok _, ⟨_, rfl⟩, q⟩
  · obtain ⟨u, rfl, t, rfl⟩ := vals1 r
    exact PySem.P.repr_of_int hz ⟨.str _, H, I.tok _, ⟨_, rfl⟩, q⟩
theorem cas_rpr {K : PySem.W.Frag} : CaS K rRpr rprD := fun xs z vs G H Q eS hx e k => by
  unfold rprD at e
  split at e
  · obtain ⟨v, rfl, h⟩ := tops1 hx
    cases h; cases e
    exact .inl ⟨_, rfl, k _ G H (New.refl eS) (.str _)⟩
  · obtain ⟨v, rfl, h⟩ := tops1 hx
    cases h
    split at e
    · rename_i hz
      cases e
      exact .inr ⟨_, rfl, hz, k _ G H (New.refl eS) (.str _)⟩
    · cases e
  · cases e
/-! ### isqrt -/
def sqrtD (xs : List D) : Option D := match xs with
  | [.int i] => if 0 ≤ i ∧ i < 2 ^ 64 then some (.int ((Float64.isqrt i.toNat : Nat) : Int)) else none
  | _ => none
def rSqrt : List V → Hp → VK → Prop := fun xs H Q => ∃ i, xs = [.int i] ∧ 0 ≤ i ∧ i < 2 ^ 64 ∧ Q (.int ((Float64.isqrt i.toNat : Nat) : Int)) H
theorem call_sqrt {X : Cx} : CallR X (.builtin "math.isqrt") rSqrt := by
  intro pins s σ H xs us Q I r h
  obtain ⟨i, rfl, h0, h1, q⟩ := h
  obtain ⟨u, rfl, t, rfl⟩ := vals1 r
  exact PySem.W.mg_isqrt h0 h1 ⟨.int _, H, I.tok _, ⟨_, rfl⟩, q⟩
theorem cas_sqrt {K : PySem.W.Frag} : CaS K rSqrt sqrtD := fun xs z vs G H Q eS hx e k => by
  unfold sqrtD at e
  split at e
  · obtain ⟨v, rfl, h⟩ := tops1 hx
    cases h
    split at e
    · rename_i hz
      cases e
      exact ⟨_, rfl, hz.1, hz.2, k _ G H (New.refl eS) (.int _)⟩
    · cases e
  · cases e
/-! ### a, b = x, y -/
def set2 (i j : Nat) (d e : D) (ρ : DEnv) : Option DEnv := match setV i d ρ with
  | none => none
  | some ρ1 => setV j e ρ1
def dPar (i j : Nat) (f : DEnv → R (List D)) : DEnv → SR := fun ρ => (f ρ).bindS fun l ρ' => match l with
  | [d, e] => match set2 i j d e ρ' with
    | none => .no
    | some ρ2 => .nx ρ2
  | _ => .no
theorem ds_par {X : Cx} {W : WX} {i j : Nat} {x y : Str} {a b : Expr} {f : DEnv → R (List D)} {px py pt pos : Pos} {kt k2 pt2} (hc : X.calm = true) (hN : X.N.Nodup) (hi : X.N[i]? = some x) (hj : X.N[j]? = some y) (hij : i ≠ j)
    (hx : X.env.scope.names.lookup x = some .local) (hy : X.env.scope.names.lookup y = some .local) (ha : DVs X W [a, b] f)
    (hw : swappedStores [.Tuple [.Name x px, .Name y py] kt pt] (.Tuple [a, b] k2 pt2) X.env = pure (some [x, y]))
    (hs : swapsWithSole [.Tuple [.Name x px, .Name y py] kt pt] (.Tuple [a, b] k2 pt2) pos.line X.env = pure false := by rfl) :
    DS X W (.Assign [.Tuple [.Name x px, .Name y py] kt pt] (.Tuple [a, b] k2 pt2) pos) (dPar i j f) :=
  ps_imp (ps_par hc hN hi hj hij hx hy ha hw hs) fun E σ H ⟨ρ, G, R, h⟩ => ⟨ρ, G, R, (Go.bindS R h).imp fun l ρ' G' H' s R' h vs hv => by
    split at h
    · rename_i d e
      cases hv with
      | cons h1 h2 => cases h2 with
        | cons h3 h4 =>
          cases h4
          unfold set2 at h
          cases e1 : setV i d ρ' with
          | none => rw [e1] at h; exact False.elim h
          | some ρ1 =>
            rw [e1] at h
            dsimp only at h
            cases e2 : setV j e ρ1 with
            | none => rw [e2] at h; exact False.elim h
            | some ρ2 =>
              rw [e2] at h
              have R1 := R'.setV e1 h1
              refine ⟨_, _, rfl, ?_⟩
              exact h _ G' H' ((Stp.setV R' e1).trans R' (Stp.setV R1 e2)) (R1.setV e2 h3)
    · exact False.elim h⟩
/-! ### {} -/
def dDic0 : DEnv → R D := fun ρ => .ok ρ (.dic [])
theorem df_dic0 {X : Cx} {W : WX} {pos : Pos} : DF' X W (.Dict [] [] pos) dDic0 := pe_imp pe_dnewK fun σ H Q ⟨ρ, G, R, h⟩ p hp => by
  have N : New G H G (upd H p (.dK [])) := New.hid R.sub hp
  have no : ∀ b, ¬ Mu b ρ σ p := fun b ⟨i, d, e1, e2⟩ => by
    obtain ⟨a, e3, _, e4⟩ := R.mu i b d e1
    rw [e2] at e3; cases e3
    obtain ⟨o, ho⟩ := e4.there
    rw [hp] at ho; cases ho
  exact h _ _ (N.stp R) (N.rep R) p (sub_none R.sub hp) (no false) (no true) hp ⟨[], upd_same, .nil⟩
/-! ### what a row's text has -/
structure Has (P : Program) (w : World) (K : PySem.W.Frag) (mg : Str → Option Value) (base : Heap) (x : Str) (k : Nat) (ps : List Str) (F : Fn) : Prop where
  ex : ∃ (f : Addr) (fd : FuncData), mg x = some (.ref f) ∧ PySem.W.keepIn K (.ref f) = true ∧ Binds K fd ps [] ∧ FnOk P w K mg base (L2.CX P w) k f fd ps (spD K ps.length F)
section
variable {X : Cx} {W : WX} {e : Expr} {es : List Expr} {x : Str} {p pos : Pos} {k j : Nat} {ps : List Str} {F : Fn} {f : DEnv → R (List AD)}
theorem dx_has (h : Has X.prog X.w X.K X.mg X.base x j ps F) (hr : Room k X.A) (hj : j ≤ k) (tk : Takes X W) (hg : Gl X x)
    (ha : DR X W (e :: es) f) (hdb : (x == ("__debug__" : Str)) = false := by decide) (he : starEach (e :: es) X.env = (false, eval e X.env) :: starEach es X.env := by rfl) (hpl : (backTo pos (starEach es X.env)).any (·.1) = false := by rfl) :
    DX X W (.Call (.Name x p) (e :: es) [] pos) (dCal2 ps.length F f) := by
  obtain ⟨fa, fd, hm, hk, hb, FO⟩ := h.ex
  exact dx_call FO (hr.mono hj) tk hg hm hk hb ha hdb he hpl
theorem dx_hasN (h : Has X.prog X.w X.K X.mg X.base x j ps F) (hr : Room k X.A) (hj : j ≤ k) (hg : Gl X x)
    (ha : DR X WN (e :: es) f) (hdb : (x == ("__debug__" : Str)) = false := by decide) (he : starEach (e :: es) X.env = (false, eval e X.env) :: starEach es X.env := by rfl) (hpl : (backTo pos (starEach es X.env)).any (·.1) = false := by rfl) {ar : Nat} (har : ps.length = ar := by rfl) :
    DX X WN (.Call (.Name x p) (e :: es) [] pos) (dCal2 ar F f) := by
  subst har
  obtain ⟨fa, fd, hm, hk, hb, FO⟩ := h.ex
  exact dx_callN FO (hr.mono hj) hg hm hk hb ha hdb he hpl
end
end DF

namespace DF
open PySem PySem.Spec PyProof.Rows L2
section
variable {X : Cx} {W : WX} {a b e : Expr} {es : List Expr} {x : Str} {id T : String} {p pos : Pos} {r : List V → Hp → VK → Prop} {g : List D → Option D} {f : DEnv → R (List Th)}
theorem de_callB (hc : CallR X (.builtin id) r) (hs : CaS X.K r g) (hg : Gl X x) (hm : X.mg x = none) (hv : bootBuiltins x = some (.builtin id)) (ha : DA X W (e :: es) f) (hn : x ≠ "__name__" := by decide) (hdb : (x == ("__debug__" : Str)) = false := by decide)
    (he : starEach (e :: es) X.env = (false, eval e X.env) :: starEach es X.env := by rfl) (hpl : (backTo pos (starEach es X.env)).any (·.1) = false := by rfl) : DE X W (.Call (.Name x p) (e :: es) [] pos) (dCal g f) :=
  pe_imp (pe_callB hc hg hm hv ha hn hdb he hpl) (tcal hs)
theorem de_callTy (hc : CallR X (.type T) r) (hs : CaS X.K r g) (hg : Gl X x) (hm : X.mg x = none) (hv : bootBuiltins x = some (.type T)) (ha : DA X W (e :: es) f) (hn : x ≠ "__name__" := by decide) (hdb : (x == ("__debug__" : Str)) = false := by decide)
    (he : starEach (e :: es) X.env = (false, eval e X.env) :: starEach es X.env := by rfl) (hpl : (backTo pos (starEach es X.env)).any (·.1) = false := by rfl) : DE X W (.Call (.Name x p) (e :: es) [] pos) (dCal g f) :=
  pe_imp (pe_callTy hc hg hm hv ha hn hdb he hpl) (tcal hs)
theorem de_callM (hc : CallR X (.builtin id) r) (hs : CaS X.K r g) (hg : Gl X x) (hm : X.mg x = some (.builtin id)) (ha : DA X W (e :: es) f) (hdb : (x == ("__debug__" : Str)) = false := by decide)
    (he : starEach (e :: es) X.env = (false, eval e X.env) :: starEach es X.env := by rfl) (hpl : (backTo pos (starEach es X.env)).any (·.1) = false := by rfl) : DE X W (.Call (.Name x p) (e :: es) [] pos) (dCal g f) :=
  pe_imp (pe_callBfun hc hg hm ha hdb he hpl) (tcal hs)
theorem pe_tyn (hg : Gl X x) (hm : X.mg x = none) (hv : bootBuiltins x = some (.type T)) (hn : x ≠ "__name__" := by decide) (hdb : (x == ("__debug__" : Str)) = false := by decide) : PE X (.Name x pos) (tC (.ty T)) :=
  ⟨fun pins s σ H Q I h => ld_blt I hg hm hv ⟨.ty T, H, I, rfl, h⟩ hn hdb⟩
end
/-! ### -x -/
def negD (x : D) : Option D := match x with
  | .int i => some (.int (-i))
  | _ => none
theorem uns_neg {K : PySem.W.Frag} : UnS K (rU fun i => .int (-i)) negD := fun x z v G H Q eS hx e k => by
  unfold negD at e
  split at e
  · cases hx; cases e
    exact ⟨_, rfl, k _ G H (New.refl eS) (.int _)⟩
  · cases e
/-! ### xs[:k], xs[k:] of lists -/
def cutD (l : List D) (lo hi : Option Int) : List D := (l.drop (HT.sIx l.length 0 lo)).take (HT.sIx l.length l.length hi - HT.sIx l.length 0 lo)
theorem cut_iss {K : PySem.W.Frag} {G : Hp} {l : List D} {xs : List V} {lo hi : Option Int} (h : Iss K G l xs) : Iss K G (cutD l lo hi) (cutV xs lo hi) := by
  unfold cutD cutV
  rw [← h.length]
  exact (h.drop _).take _
/-- a part of a slice: nothing, or a constant -/
structure CPart (X : Cx) (e : Option Expr) (i : Option Int) : Prop where
  h : ∃ t, PO X e t ∧ ∀ σ H Q, Q i H → t σ H Q
theorem cp_no {X : Cx} : CPart X none none := ⟨⟨_, po_none, fun _ _ _ q => q⟩⟩
theorem cp_int {X : Cx} {i : Int} {j pos} : CPart X (some (.Constant (.int i) j pos)) (some i) := ⟨⟨_, po_some pe_int, fun _ _ _ q => ⟨i, rfl, q⟩⟩⟩
def cutO (lo hi : Option Int) (x : D) : Option D := match listOf x with
  | some l => some (.lst (cutD l lo hi))
  | none => none
def dCut (lo hi : Option Int) (f : DEnv → R Th) : DEnv → R D := dUn (cutO lo hi) f
theorem de_cut {X : Cx} {W : WX} {e : Expr} {elo ehi : Option Expr} {p2 pos : Pos} {lo hi : Option Int} {f : DEnv → R Th} (h : DO X W e f) (hl : CPart X elo lo) (hu : CPart X ehi hi) : DE X W (.Subscript e (.Slice elo ehi none p2) pos) (dCut lo hi f) := by
  obtain ⟨tl, h1, h2⟩ := hl.h
  obtain ⟨tu, h3, h4⟩ := hu.h
  refine pe_imp (pe_slice sl_list h h1 h3) fun σ H Q ⟨ρ, G, R, h⟩ => ⟨ρ, G, R, (Go.bind R h).imp fun t ρ' G' H' s R' h v hv => ?_⟩
  split at h
  · rename_i d e1
    unfold cutO at h
    cases e2 : listOf d with
    | none => rw [e2] at h; exact False.elim h
    | some l =>
      rw [e2] at h
      obtain ⟨a, xs, rfl, q1, q2⟩ := listOf_top R'.sub (hv ρ' G' H' d .refl R' e1) e2
      refine h2 _ _ _ (h4 _ _ _ ⟨a, xs, rfl, q1, fun p hp => ?_⟩)
      have N : New G' H' (upd G' p (.lst (cutV xs lo hi))) (upd H' p (.lst (cutV xs lo hi))) := New.put R'.sub hp
      exact h _ _ (N.stp R') (N.rep R') _ (.lst upd_same ((cut_iss q2).mono N.g))
  · exact False.elim h
/-! ### unions -/
section
variable {X : Cx}
def addD : D → D → Option D := orD addI (orD catL catT)
def mulD : D → D → Option D := orD mulI (orD repL repT)
end
/-! ### a, b, c = x, y, z -/
def set3 (i j k : Nat) (d e u : D) (ρ : DEnv) : Option DEnv := match setV i d ρ with
  | none => none
  | some ρ1 => match setV j e ρ1 with
    | none => none
    | some ρ2 => setV k u ρ2
def dPar3 (i j k : Nat) (f : DEnv → R (List D)) : DEnv → SR := fun ρ => (f ρ).bindS fun l ρ' => match l with
  | [d, e, u] => match set3 i j k d e u ρ' with
    | none => .no
    | some ρ2 => .nx ρ2
  | _ => .no
/-! ### the fuel of a while -/
def intsOf : D → Nat
  | .int i => i.natAbs
  | .tup l => go l
  | .lst l => go l
  | .fro l => go l
  | _ => 0
where go : List D → Nat
  | [] => 0
  | .int i :: l => i.natAbs + go l
  | _ :: l => go l
def fuel (as : List (Bool × D)) : Nat := as.foldl (fun n p => n + intsOf p.2) 1000
end DF
namespace DF
open PySem PySem.Spec PyProof.Rows L2
theorem mul_ok : ∀ i j : Int, cMul i j = true → CMulW i j := fun i j h => by unfold cMul at h; rw [decide_eq_true_eq] at h; exact h
end DF

namespace DF
open PySem PySem.Spec PyProof.Rows L2
theorem hsp_of {K : PySem.W.Frag} {F : Fn} {ns : List Int} {H : Hp} {a : Addr} (hF : F [(false, .fro (ns.map D.int))] = .ret false (.bl true) []) (hS : SqL K H a (ns.map V.int)) :
    spD K 1 F [.ref a] H (fun v _ => v = .bl true) (fun _ _ _ => False) := by
  refine ⟨rfl, H, [(false, .fro (ns.map D.int))], fun _ _ e => e, .val (.fro hS (Iss.of_ints ns)) .nil, List.nodup_nil, ?_⟩
  rw [hF]
  intro v G' H' _ _ h
  cases h
  rfl
theorem cx_end {P : Program} {w : World} {H : Hp} {s : Shared} {e : Value} {s' : Shared} (h : L2.CX P w [] H s (fun _ _ _ => False) e s') : False := by
  obtain ⟨_, _, _, _, _, _, _, _, _, _, _, _, h⟩ := h
  exact h
end DF

namespace DF
open PySem PySem.Spec PyProof.Rows L2
theorem dC_ap (d : D) (ρ : DEnv) : dC d ρ = .ok ρ d := rfl
theorem dVar_ap (i : Nat) (ρ : DEnv) : dVar i ρ = match ρ[i]? with
  | some (some (.val d)) => .ok ρ d
  | some (some (.mu false d)) => .ok (ρ.set i (some (.val d))) d
  | _ => .no := rfl
theorem oVar_ap (i : Nat) (ρ : DEnv) : oVar i ρ = match ρ[i]? with
  | some (some _) => .ok ρ (look i)
  | _ => .no := rfl
theorem oD_ap (f : DEnv → R D) (ρ : DEnv) : oD f ρ = (f ρ).bind fun d ρ' => .ok ρ' fun _ => some d := rfl
theorem aNil_ap  (ρ : DEnv) : aNil  ρ = .ok ρ [] := rfl
theorem aCons_ap (f : DEnv → R Th) (g : DEnv → R (List Th)) (ρ : DEnv) : aCons f g ρ = (f ρ).bind fun t ρ1 => (g ρ1).bind fun l ρ2 => .ok ρ2 (t :: l) := rfl
theorem vNil_ap  (ρ : DEnv) : vNil  ρ = .ok ρ [] := rfl
theorem vCons_ap (f : DEnv → R D) (g : DEnv → R (List D)) (ρ : DEnv) : vCons f g ρ = (f ρ).bind fun t ρ1 => (g ρ1).bind fun l ρ2 => .ok ρ2 (t :: l) := rfl
theorem dBin_ap (g : D → D → Option D) (fa fb : DEnv → R Th) (ρ : DEnv) : dBin g fa fb ρ = (fa ρ).bind fun ta ρ1 => (fb ρ1).bind fun tb ρ2 => match ta ρ2, tb ρ2 with
  | some x, some y => ofO ρ2 (g x y)
  | _, _ => .no := rfl
theorem dTst_ap (f : DEnv → R D) (ρ : DEnv) : dTst f ρ = (f ρ).bind fun d ρ' => match d with
  | .bl b => .ok ρ' b
  | _ => .no := rfl
theorem dUn_ap (g : D → Option D) (fa : DEnv → R Th) (ρ : DEnv) : dUn g fa ρ = (fa ρ).bind fun ta ρ1 => match ta ρ1 with
  | some x => ofO ρ1 (g x)
  | none => .no := rfl
theorem dCal_ap (g : List D → Option D) (f : DEnv → R (List Th)) (ρ : DEnv) : dCal g f ρ = (f ρ).bind fun l ρ1 => match ths l ρ1 with
  | some xs => ofO ρ1 (g xs)
  | none => .no := rfl
theorem dSeq_ap (f g : DEnv → SR) (ρ : DEnv) : dSeq f g ρ = (f ρ).bind g := rfl
theorem dNever_ap  (ρ : DEnv) : dNever  ρ = .no := rfl
theorem dIf_ap (c : DEnv → R Bool) (f g : DEnv → SR) (ρ : DEnv) : dIf c f g ρ = (c ρ).bindS fun b ρ' => match b with
  | true => f ρ'
  | false => g ρ' := rfl
theorem dRet_ap (f : DEnv → R D) (ρ : DEnv) : dRet f ρ = (f ρ).bindS fun d ρ' => .ret ρ' false d := rfl
theorem dRetF_ap (f : DEnv → R D) (ρ : DEnv) : dRetF f ρ = (f ρ).bindS fun d ρ' => .ret ρ' true d := rfl
theorem dRetN_ap  (ρ : DEnv) : dRetN  ρ = .ret ρ false .non := rfl
theorem dRetV_ap (i : Nat) (ρ : DEnv) : dRetV i ρ = match ρ[i]? with
  | some (some (.val d)) => .ret ρ false d
  | some (some (.mu false d)) => .ret ρ true d
  | _ => .no := rfl
theorem dExpr_ap (f : DEnv → R D) (ρ : DEnv) : dExpr f ρ = (f ρ).bindS fun _ ρ' => .nx ρ' := rfl
theorem dSet_ap (i : Nat) (f : DEnv → R D) (ρ : DEnv) : dSet i f ρ = (f ρ).bindS fun d ρ' => match setV i d ρ' with
  | none => .no
  | some ρ2 => .nx ρ2 := rfl
theorem dSetF_ap (i : Nat) (f : DEnv → R D) (ρ : DEnv) : dSetF i f ρ = match f ρ with
  | .no => .no
  | .ex ρ' e => .ex ρ' e
  | .ok ρ' d => match setF i d ρ' with
    | none => .no
    | some ρ2 => .nx ρ2 := rfl
theorem gsNil_ap  (ds : List D) (ρ : DEnv) : gsNil  ds ρ = match ds with
  | [] => some ρ
  | _ => none := rfl
theorem gsCons_ap (f : Tg) (g : List D → DEnv → Option DEnv) (ds : List D) (ρ : DEnv) : gsCons f g ds ρ = match ds with
  | [] => none
  | d :: r => match f d ρ with
    | none => none
    | some ρ1 => g r ρ1 := rfl
theorem gTp_ap (n : Nat) (f : List D → DEnv → Option DEnv) (d : D) (ρ : DEnv) : gTp n f d ρ = match d with
  | .tup l => if l.length = n then f l ρ else none
  | _ => none := rfl
theorem dAsg_ap (f : DEnv → R D) (g : Tg) (ρ : DEnv) : dAsg f g ρ = (f ρ).bindS fun d ρ' => match g d ρ' with
  | none => .no
  | some ρ2 => .nx ρ2 := rfl
theorem sLst_ap (f : DEnv → R D) (ρ : DEnv) : sLst f ρ = (f ρ).bind fun d ρ' => match d with
  | .lst l => .ok ρ' l
  | .fro l => .ok ρ' l
  | _ => .no := rfl
theorem sTup_ap (f : DEnv → R D) (ρ : DEnv) : sTup f ρ = (f ρ).bind fun d ρ' => match d with
  | .tup l => .ok ρ' l
  | _ => .no := rfl
theorem sRng1_ap (f : DEnv → R (List D)) (ρ : DEnv) : sRng1 f ρ = (f ρ).bind fun l ρ' => match l with
  | [.int j] => if inR j = true then .ok ρ' (rng 0 j.toNat) else .no
  | _ => .no := rfl
theorem sRng2_ap (f : DEnv → R (List D)) (ρ : DEnv) : sRng2 f ρ = (f ρ).bind fun l ρ' => match l with
  | [.int i, .int j] => if inR i = true then if inR j = true then .ok ρ' (rng i (j - i).toNat) else .no else .no
  | _ => .no := rfl
theorem dForS_ap (s : DEnv → R (List D)) (g : Tg) (b : DEnv → SR) (ρ : DEnv) : dForS s g b ρ = (s ρ).bindS fun l ρ' => dFor g b l ρ' := rfl
theorem dTru_ap (f : DEnv → R Th) (ρ : DEnv) : dTru f ρ = (f ρ).bind fun t ρ' => match t ρ' with
  | none => .no
  | some d => ofO ρ' (tru d) := rfl
theorem dAnd_ap (f g : DEnv → R Bool) (ρ : DEnv) : dAnd f g ρ = (f ρ).bind fun b ρ' => match b with
  | true => g ρ'
  | false => .ok ρ' false := rfl
theorem dOr_ap (f g : DEnv → R Bool) (ρ : DEnv) : dOr f g ρ = (f ρ).bind fun b ρ' => match b with
  | true => .ok ρ' true
  | false => g ρ' := rfl
theorem dNot_ap (f : DEnv → R Bool) (ρ : DEnv) : dNot f ρ = (f ρ).bind fun b ρ' => .ok ρ' (!b) := rfl
theorem dAndV_ap (f g : DEnv → R D) (ρ : DEnv) : dAndV f g ρ = (f ρ).bind fun d ρ' => match d with
  | .bl true => g ρ'
  | .bl false => .ok ρ' (.bl false)
  | _ => .no := rfl
theorem dOrV_ap (f g : DEnv → R D) (ρ : DEnv) : dOrV f g ρ = (f ρ).bind fun d ρ' => match d with
  | .bl true => .ok ρ' (.bl true)
  | .bl false => g ρ'
  | _ => .no := rfl
theorem dNotV_ap (f : DEnv → R D) (ρ : DEnv) : dNotV f ρ = (f ρ).bind fun d ρ' => match d with
  | .bl b => .ok ρ' (.bl (!b))
  | _ => .no := rfl
theorem dIte_ap (t : DEnv → R Bool) (f g : DEnv → R D) (ρ : DEnv) : dIte t f g ρ = (t ρ).bind fun b ρ' => match b with
  | true => f ρ'
  | false => g ρ' := rfl
theorem dChain_ap (g g' : D → D → Option D) (f1 f2 f3 : DEnv → R Th) (ρ : DEnv) : dChain g g' f1 f2 f3 ρ = (f1 ρ).bind fun t1 ρ1 => (f2 ρ1).bind fun t2 ρ2 => match t1 ρ2, t2 ρ2 with
  | some x, some y => match g x y with
    | some (.bl true) => (f3 ρ2).bind fun t3 ρ3 => match t2 ρ3, t3 ρ3 with
      | some y', some z => ofO ρ3 (g' y' z)
      | _, _ => .no
    | some (.bl false) => .ok ρ2 (.bl false)
    | _ => .no
  | _, _ => .no := rfl
theorem dTup_ap (f : DEnv → R (List D)) (ρ : DEnv) : dTup f ρ = (f ρ).bind fun l ρ' => if l.length ≤ 1000 then .ok ρ' (.tup l) else .no := rfl
theorem dLst_ap (f : DEnv → R (List D)) (ρ : DEnv) : dLst f ρ = (f ρ).bind fun l ρ' => if l.length ≤ 1000 then .ok ρ' (.lst l) else .no := rfl
theorem dApp_ap (i : Nat) (f : DEnv → R D) (ρ : DEnv) : dApp i f ρ = match muL i ρ with
  | none => .no
  | some _ => (f ρ).bindS fun d ρ' => match muL i ρ' with
    | none => .no
    | some (b, l) => if l.length < 16000000 then .nx (ρ'.set i (some (.mu b (.lst (l ++ [d]))))) else .no := rfl
theorem dSetI_ap (i : Nat) (fk f : DEnv → R D) (ρ : DEnv) : dSetI i fk f ρ = (f ρ).bindS fun d ρ1 => match muL i ρ1 with
  | none => .no
  | some _ => (fk ρ1).bindS fun k ρ2 => match muL i ρ2, k with
    | some (b, l), .int n => match ixN l.length n with
      | none => .no
      | some j => .nx (ρ2.set i (some (.mu b (.lst (l.set j d)))))
    | _, _ => .no := rfl
theorem rNil_ap  (ρ : DEnv) : rNil  ρ = .ok ρ [] := rfl
theorem rVal_ap (f : DEnv → R D) (g : DEnv → R (List AD)) (ρ : DEnv) : rVal f g ρ = (f ρ).bind fun d ρ1 => (g ρ1).bind fun l ρ2 => .ok ρ2 (.v d :: l) := rfl
theorem rIo_ap (i : Nat) (g : DEnv → R (List AD)) (ρ : DEnv) : rIo i g ρ = if isMu ρ i = true then (g ρ).bind fun l ρ2 => .ok ρ2 (.io i :: l) else .no := rfl
theorem dCal2_ap (ar : Nat) (F : Fn) (f : DEnv → R (List AD)) (ρ : DEnv) : dCal2 ar F f ρ = (f ρ).bind fun l ρ1 => if l.length = ar then match argsD ρ1 l with
  | none => .no
  | some as => if (ioIx l).Nodup then match F as with
    | .no => .no
    | .ret fr d os => match putD ρ1 l os with
      | none => .no
      | some ρ2 => .ok ρ2 (fr, d)
    | .exc e os => match putD ρ1 l os with
      | none => .no
      | some ρ2 => .ex ρ2 e
    else .no
  else .no := rfl
theorem dV_ap (f : DEnv → R (Bool × D)) (ρ : DEnv) : dV f ρ = (f ρ).bind fun p ρ' => .ok ρ' p.2 := rfl
theorem dN_ap (f : DEnv → R (Bool × D)) (ρ : DEnv) : dN f ρ = (f ρ).bind fun p ρ' => match p with
  | (true, d) => .ok ρ' d
  | (false, _) => .no := rfl
theorem tYesB_ap  (ρ : DEnv) : tYesB  ρ = .ok ρ true := rfl
theorem dLc_ap (s : DEnv → R (List D)) (g : Tg) (t : DEnv → R Bool) (f : DEnv → R D) (vs : List Nat) (ρ : DEnv) : dLc s g t f vs ρ = (s ρ).bind fun l ρ1 => if noMu ρ1 vs = true then dLcGo g t f vs l [] (wipeE ρ1 vs) else .no
 := rfl
theorem dIsi_ap (n : String) (f : DEnv → R Th) (ρ : DEnv) : dIsi n f ρ = (f ρ).bind fun t ρ1 => match t ρ1 with
  | some d => ofO ρ1 (isiD n d)
  | none => .no := rfl
theorem dPar_ap (i j : Nat) (f : DEnv → R (List D)) (ρ : DEnv) : dPar i j f ρ = (f ρ).bindS fun l ρ' => match l with
  | [d, e] => match set2 i j d e ρ' with
    | none => .no
    | some ρ2 => .nx ρ2
  | _ => .no := rfl
theorem dDic0_ap  (ρ : DEnv) : dDic0  ρ = .ok ρ (.dic []) := rfl
theorem dPar3_ap (i j k : Nat) (f : DEnv → R (List D)) (ρ : DEnv) : dPar3 i j k f ρ = (f ρ).bindS fun l ρ' => match l with
  | [d, e, u] => match set3 i j k d e u ρ' with
    | none => .no
    | some ρ2 => .nx ρ2
  | _ => .no := rfl
theorem SR.bind_ret {ρ : DEnv} {fr : Bool} {d : D} {g : DEnv → SR} : (SR.ret ρ fr d).bind g = .ret ρ fr d := rfl
theorem ltD_ap (i j : Int) : ltD (.int i) (.int j) = some (.bl (decide (i < j))) := rfl
theorem leD_ap (i j : Int) : leD (.int i) (.int j) = some (.bl (decide (i ≤ j))) := rfl
theorem gtD_ap (i j : Int) : gtD (.int i) (.int j) = some (.bl (decide (j < i))) := rfl
theorem geD_ap (i j : Int) : geD (.int i) (.int j) = some (.bl (decide (j ≤ i))) := rfl
theorem addD_ap (i j : Int) : addD (.int i) (.int j) = some (.int (i + j)) := rfl
theorem subD_ap (i j : Int) : subD (.int i) (.int j) = some (.int (i - j)) := rfl
theorem mulI_ap {i j : Int} (h : cMul i j = true) : mulI (.int i) (.int j) = some (.int (i * j)) := by
  show (if cMul i j = true then some (D.int (i * j)) else none) = _
  rw [if_pos h]
theorem mulD_ap {i j : Int} (h : cMul i j = true) : mulD (.int i) (.int j) = some (.int (i * j)) := by
  unfold mulD orD
  rw [mulI_ap h]
theorem divD_ap {i j : Int} (h : cDiv i j = true) : divD (.int i) (.int j) = some (.int (i.fdiv j)) := by
  show (if cDiv i j = true then some (D.int (i.fdiv j)) else none) = _
  rw [if_pos h]
theorem modD_ap {i j : Int} (h : j ≠ 0) : modD (.int i) (.int j) = some (.int (i.fmod j)) := by
  show (if decide (j ≠ 0) = true then some (D.int (i.fmod j)) else none) = _
  rw [if_pos (decide_eq_true h)]
theorem powD_ap {i j : Int} (h : cPow i j = true) : powD (.int i) (.int j) = some (.int (i ^ j.toNat)) := by
  show (if cPow i j = true then some (D.int (i ^ j.toNat)) else none) = _
  rw [if_pos h]
theorem negD_ap (i : Int) : negD (.int i) = some (.int (-i)) := rfl
theorem absD_ap (i : Int) : absD [.int i] = some (.int i.natAbs) := by
  show some (D.int (if i < 0 then -i else i)) = _
  congr 2
  split <;> omega
theorem intD_ap (i : Int) : intD [.int i] = some (.int i) := rfl
theorem intD_apB (b : Bool) : intD [.bl b] = some (.int (if b then 1 else 0)) := rfl
theorem catL_ap {l m : List D} (h : l.length + m.length ≤ 16000000) : addD (.lst l) (.lst m) = some (.lst (l ++ m)) := by
  unfold addD orD addI i2 catL
  simp only [h, if_true]
theorem catT_ap {l m : List D} (h : l.length + m.length ≤ 16000000) : addD (.tup l) (.tup m) = some (.tup (l ++ m)) := by
  show (match catL (.tup l) (.tup m) with | some z => some z | none => catT (.tup l) (.tup m)) = _
  unfold catL catT
  simp only [h, if_true]
/-! ### equality by shape -/
mutual
def plainD : Nat → D → Bool
  | _, .int _ => true
  | _, .bl _ => true
  | _, .str x => PyData.canLay0 (.str x)
  | _, .non => true
  | n + 1, .tup l => plainDs n l
  | n + 1, .lst l => plainDs n l
  | n + 1, .fro l => plainDs n l
  | _, _ => false
def plainDs : Nat → List D → Bool
  | _, [] => true
  | n, d :: l => plainD n d && plainDs n l
end
mutual
theorem plain_toP : ∀ {n : Nat} {d : D}, plainD n d = true → ∃ p, toP d = some p ∧ p.canLay0 = true ∧ p.depth ≤ n
  | _, .int i, _ => ⟨_, rfl, rfl, Nat.zero_le _⟩
  | _, .bl i, _ => ⟨_, rfl, rfl, Nat.zero_le _⟩
  | _, .str i, h => ⟨_, rfl, by unfold plainD at h; exact h, Nat.zero_le _⟩
  | _, .non, _ => ⟨_, rfl, rfl, Nat.zero_le _⟩
  | n + 1, .tup l, h => by
    obtain ⟨ps, e, h1, h2⟩ := plain_toPs (n := n) (l := l) h
    exact ⟨.tuple ps, by unfold toP; rw [e]; rfl, h1, Nat.succ_le_succ h2⟩
  | n + 1, .lst l, h => by
    obtain ⟨ps, e, h1, h2⟩ := plain_toPs (n := n) (l := l) h
    exact ⟨.list ps, by unfold toP; rw [e]; rfl, h1, Nat.succ_le_succ h2⟩
  | n + 1, .fro l, h => by
    obtain ⟨ps, e, h1, h2⟩ := plain_toPs (n := n) (l := l) h
    exact ⟨.list ps, by unfold toP; rw [e]; rfl, h1, Nat.succ_le_succ h2⟩
  | 0, .tup l, h => by cases h
  | 0, .lst l, h => by cases h
  | 0, .fro l, h => by cases h
  | 0, .dic l, h => by cases h
  | _ + 1, .dic l, h => by cases h
theorem plain_toPs : ∀ {n : Nat} {l : List D}, plainDs n l = true → ∃ ps, toPs l = some ps ∧ PyData.canLayAll0 ps = true ∧ PyData.depthAll ps ≤ n
  | _, [], _ => ⟨[], rfl, rfl, Nat.zero_le _⟩
  | n, d :: l, h => by
    have h' : (plainD n d && plainDs n l) = true := by unfold plainDs at h; exact h
    rw [Bool.and_eq_true] at h'
    obtain ⟨p, e1, h1, h2⟩ := plain_toP h'.1
    obtain ⟨ps, e2, h3, h4⟩ := plain_toPs h'.2
    refine ⟨p :: ps, by unfold toPs; rw [e1, e2]; rfl, ?_, ?_⟩
    · unfold PyData.canLayAll0; rw [h1, h3]; rfl
    · unfold PyData.depthAll; exact Nat.max_le.mpr ⟨h2, h4⟩
end
theorem eqP_plain {d e : D} (h1 : plainD 9 d = true) (h2 : plainD 9 e = true) : ∃ p q, toP d = some p ∧ toP e = some q ∧ eqP d e = some (p.eqv q) := by
  obtain ⟨p, e1, c1, d1⟩ := plain_toP h1
  obtain ⟨q, e2, c2, d2⟩ := plain_toP h2
  refine ⟨p, q, e1, e2, ?_⟩
  unfold eqP
  rw [e1, e2]
  have s : ∀ {r : PyData}, r.canLay0 = true → r.depth ≤ 9 → SeqAt.shaped r = true := fun {r} a b => by
    unfold SeqAt.shaped
    rw [a, Bool.true_and]
    exact decide_eq_true (by omega)
  show (if SeqAt.shaped p = true ∧ SeqAt.shaped q = true then some (p.eqv q) else none) = _
  rw [if_pos ⟨s c1 d1, s c2 d2⟩]
mutual
theorem eqv_refl : ∀ {d : D} {p : PyData}, toP d = some p → p.eqv p = true
  | .non, _, e => by cases e; rfl
  | .bl b, _, e => by cases e; exact beq_self_eq_true b
  | .int i, _, e => by cases e; exact beq_self_eq_true i
  | .str x, _, e => by cases e; exact beq_self_eq_true x
  | .tup l, _, e => by
    unfold toP at e
    cases q : toPs l with
    | none => rw [q] at e; cases e
    | some ps => rw [q] at e; cases e; exact eqvs_refl q
  | .lst l, _, e => by
    unfold toP at e
    cases q : toPs l with
    | none => rw [q] at e; cases e
    | some ps => rw [q] at e; cases e; exact eqvs_refl q
  | .fro l, _, e => by
    unfold toP at e
    cases q : toPs l with
    | none => rw [q] at e; cases e
    | some ps => rw [q] at e; cases e; exact eqvs_refl q
  | .dic l, _, e => by unfold toP at e; cases e
theorem eqvs_refl : ∀ {l : List D} {ps : List PyData}, toPs l = some ps → PyData.eqvAll ps ps = true
  | [], _, e => by unfold toPs at e; cases e; rfl
  | d :: l, _, e => by
    unfold toPs at e
    cases q : toP d with
    | none => rw [q] at e; cases e
    | some p =>
      rw [q] at e
      cases q2 : toPs l with
      | none => rw [q2] at e; cases e
      | some ps =>
        rw [q2] at e
        cases e
        unfold PyData.eqvAll
        rw [eqv_refl q, eqvs_refl q2]
        rfl
end
/-- the same data are equal -/
theorem eq_same {d : D} (h : plainD 9 d = true) : eqD1 d d = some (.bl true) := by
  obtain ⟨p, q, e1, e2, e3⟩ := eqP_plain h h
  rw [e1] at e2
  cases e2
  unfold eqD1
  rw [e3, eqv_refl e1]
  rfl
theorem ne_same {d : D} (h : plainD 9 d = true) : neD1 d d = some (.bl false) := by
  obtain ⟨p, q, e1, e2, e3⟩ := eqP_plain h h
  rw [e1] at e2
  cases e2
  unfold neD1
  rw [e3, eqv_refl e1]
  rfl
theorem eq_int (i j : Int) : eqD1 (.int i) (.int j) = some (.bl (decide (i = j))) := by
  obtain ⟨p, q, e1, e2, e3⟩ := eqP_plain (d := .int i) (e := .int j) rfl rfl
  cases e1
  cases e2
  unfold eqD1
  rw [e3]
  rfl
theorem ne_int (i j : Int) : neD1 (.int i) (.int j) = some (.bl (!decide (i = j))) := by
  obtain ⟨p, q, e1, e2, e3⟩ := eqP_plain (d := .int i) (e := .int j) rfl rfl
  cases e1
  cases e2
  unfold neD1
  rw [e3]
  rfl
theorem dWhile_succ (c : DEnv → R Bool) (b : DEnv → SR) (n : Nat) (ρ : DEnv) : dWhile c b (n + 1) ρ = (c ρ).bindS fun t ρ1 => match t with
    | false => .nx ρ1
    | true => match b ρ1 with
      | .nx ρ2 => dWhile c b n ρ2
      | .cnt ρ2 => dWhile c b n ρ2
      | .brk ρ2 => .nx ρ2
      | .no => .no
      | .ret ρ2 fr d => .ret ρ2 fr d
      | .ex ρ2 e => .ex ρ2 e := rfl
end DF

namespace DF
open PySem PySem.Spec PyProof.Rows L2
def rngC (lo c : Int) (n : Nat) : List D := (List.range n).map fun (k : Nat) => D.int (lo + (k : Int) * c)
theorem itcC_s {K : PySem.W.Frag} {G0 : Hp} {lo c : Int} {n : Nat} : ItS K G0 (rngC lo c n) (Itc lo c n) where
  go := fun i d G H e eG eH => by
    unfold rngC at e
    rw [List.getElem?_map] at e
    by_cases h : i < n
    · rw [List.getElem?_range h] at e
      cases e
      refine ⟨h, fun x H' ⟨z, y⟩ => ?_⟩
      subst z y
      exact ⟨G, New.refl eH, .int _⟩
    · rw [List.getElem?_eq_none (by rw [List.length_range]; omega)] at e
      cases e
  stop := fun i G H e _ _ => by
    unfold rngC at e
    rw [List.length_map, List.length_range] at e
    exact e
def okC (i j c : Int) : Bool := decide (c ≠ 0) && decide (c.natAbs < 1073741824) && Builtin.Range.small i j c && decide (Builtin.Range.rangeSize i j c = ((Builtin.Range.rangeSize i j c).toNat : Int))
def sRng3 (f : DEnv → R (List D)) : DEnv → R (List D) := fun ρ => (f ρ).bind fun l ρ' => match l with
  | [.int i, .int j, .int c] => if okC i j c = true then .ok ρ' (rngC i c (Builtin.Range.rangeSize i j c).toNat) else .no
  | _ => .no
theorem okC_of {i j c : Int} (h : okC i j c = true) : RgC i j c (Builtin.Range.rangeSize i j c).toNat := by
  unfold okC at h
  simp only [Bool.and_eq_true, decide_eq_true_eq] at h
  exact ⟨h.1.1.1, h.1.1.2, h.1.2, h.2⟩
section
variable {X : Cx} {W : WX} {tg : Expr} {p pos : Pos}
theorem di_rng3 {a b c : Expr} {f : DEnv → R (List D)} (hg : Gl X "range") (hm : X.mg "range" = none) (ha : DVs X W [a, b, c] f)
    (hs : starEach [a, b, c] X.env = (false, eval a X.env) :: starEach [b, c] X.env := by rfl) (hpl : (backTo pos (starEach [b, c] X.env)).any (·.1) = false := by rfl) :
    DI X W tg (.Call (.Name "range" p) [a, b, c] [] pos) (sRng3 f) :=
  pi_imp (pi_range3 hg hm ha hs hpl) fun σ H Q ⟨ρ, G, R, h⟩ => ⟨ρ, G, R, (Go.bind R h).imp fun l ρ' G' H' s R' h vs hv => by
    split at h
    · rename_i i j c
      cases hv with
      | cons h1 h2 =>
        cases h2 with
        | cons h3 h4 =>
          cases h4 with
          | cons h5 h6 =>
            cases h1; cases h3; cases h5; cases h6
            split at h
            · rename_i hi
              exact ⟨i, j, c, _, rfl, okC_of hi, h G' H' .refl R' _ itcC_s⟩
            · exact False.elim h
    · exact False.elim h⟩
theorem sRng3_ap (f : DEnv → R (List D)) (ρ : DEnv) : sRng3 f ρ = (f ρ).bind fun l ρ' => match l with
  | [.int i, .int j, .int c] => if okC i j c = true then .ok ρ' (rngC i c (Builtin.Range.rangeSize i j c).toNat) else .no
  | _ => .no := rfl
end
end DF

namespace K02
open PySem PySem.Spec PyProof.Rows L2 DF
def topS (i : Nat) : Stmt := PySem.Challenge.pw_wholerises_k02_whole_ratios.main.body.getD i (.Pass ⟨0, 0, 0, 0⟩)
abbrev s_q_bag : Stmt := topS 36
theorem sc_q_bag : FnScope ["_law_script", "_law_spot", "_law_cell", "_law_great", "_law_mixed"] ["_law_script", "_law_spot"] (defScope s_q_bag) := ⟨rfl, rfl, rfl, by decide +kernel, rfl, by decide +kernel, by decide +kernel⟩
abbrev s_is_long_integer : Stmt := topS 10
theorem sc_is_long_integer : FnScope ["value"] ["value"] (defScope s_is_long_integer) := ⟨rfl, rfl, rfl, by decide +kernel, rfl, by decide +kernel, by decide +kernel⟩
abbrev s_is_integer : Stmt := topS 11
theorem sc_is_integer : FnScope ["value"] ["value"] (defScope s_is_integer) := ⟨rfl, rfl, rfl, by decide +kernel, rfl, by decide +kernel, by decide +kernel⟩
abbrev s_is_between : Stmt := topS 12
theorem sc_is_between : FnScope ["value", "least", "most"] ["value", "least", "most"] (defScope s_is_between) := ⟨rfl, rfl, rfl, by decide +kernel, rfl, by decide +kernel, by decide +kernel⟩
abbrev s_check_number : Stmt := topS 13
theorem sc_check_number : FnScope ["given", "least", "most"] ["given", "least", "most"] (defScope s_check_number) := ⟨rfl, rfl, rfl, by decide +kernel, rfl, by decide +kernel, by decide +kernel⟩
abbrev s_reduced : Stmt := topS 23
theorem sc_reduced : FnScope ["top", "bottom", "divisor"] ["top", "bottom"] (defScope s_reduced) := ⟨rfl, rfl, rfl, by decide +kernel, rfl, by decide +kernel, by decide +kernel⟩
abbrev s_lowest : Stmt := topS 24
theorem sc_lowest : FnScope ["top", "bottom"] ["top", "bottom"] (defScope s_lowest) := ⟨rfl, rfl, rfl, by decide +kernel, rfl, by decide +kernel, by decide +kernel⟩
abbrev s_is_long_pair : Stmt := topS 18
theorem sc_is_long_pair : FnScope ["value"] ["value"] (defScope s_is_long_pair) := ⟨rfl, rfl, rfl, by decide +kernel, rfl, by decide +kernel, by decide +kernel⟩
abbrev s_is_long_ratio : Stmt := topS 19
theorem sc_is_long_ratio : FnScope ["value"] ["value"] (defScope s_is_long_ratio) := ⟨rfl, rfl, rfl, by decide +kernel, rfl, by decide +kernel, by decide +kernel⟩
abbrev s_is_ratio : Stmt := topS 20
theorem sc_is_ratio : FnScope ["value"] ["value"] (defScope s_is_ratio) := ⟨rfl, rfl, rfl, by decide +kernel, rfl, by decide +kernel, by decide +kernel⟩
abbrev s_check_ratio : Stmt := topS 21
theorem sc_check_ratio : FnScope ["ratio"] ["ratio"] (defScope s_check_ratio) := ⟨rfl, rfl, rfl, by decide +kernel, rfl, by decide +kernel, by decide +kernel⟩
abbrev s_check_ratios : Stmt := topS 22
theorem sc_check_ratios : FnScope ["one", "other"] ["one", "other"] (defScope s_check_ratios) := ⟨rfl, rfl, rfl, by decide +kernel, rfl, by decide +kernel, by decide +kernel⟩
abbrev s_plus : Stmt := topS 26
theorem sc_plus : FnScope ["one", "other"] ["one", "other"] (defScope s_plus) := ⟨rfl, rfl, rfl, by decide +kernel, rfl, by decide +kernel, by decide +kernel⟩
abbrev s_over : Stmt := topS 29
theorem sc_over : FnScope ["one", "other"] ["one", "other"] (defScope s_over) := ⟨rfl, rfl, rfl, by decide +kernel, rfl, by decide +kernel, by decide +kernel⟩
abbrev s_compare : Stmt := topS 25
theorem sc_compare : FnScope ["one", "other", "left", "right"] ["one", "other"] (defScope s_compare) := ⟨rfl, rfl, rfl, by decide +kernel, rfl, by decide +kernel, by decide +kernel⟩
abbrev s_part_of : Stmt := topS 33
theorem sc_part_of : FnScope ["ratio", "rest"] ["ratio"] (defScope s_part_of) := ⟨rfl, rfl, rfl, by decide +kernel, rfl, by decide +kernel, by decide +kernel⟩
abbrev s_floor_of : Stmt := topS 30
theorem sc_floor_of : FnScope ["ratio"] ["ratio"] (defScope s_floor_of) := ⟨rfl, rfl, rfl, by decide +kernel, rfl, by decide +kernel, by decide +kernel⟩
abbrev s_ceiling : Stmt := topS 32
theorem sc_ceiling : FnScope ["top", "bottom"] ["top", "bottom"] (defScope s_ceiling) := ⟨rfl, rfl, rfl, by decide +kernel, rfl, by decide +kernel, by decide +kernel⟩
abbrev s_ceiling_of : Stmt := topS 31
theorem sc_ceiling_of : FnScope ["ratio"] ["ratio"] (defScope s_ceiling_of) := ⟨rfl, rfl, rfl, by decide +kernel, rfl, by decide +kernel, by decide +kernel⟩
abbrev s_is_prime : Stmt := topS 15
theorem sc_is_prime : FnScope ["value", "divisor"] ["value"] (defScope s_is_prime) := ⟨rfl, rfl, rfl, by decide +kernel, rfl, by decide +kernel, by decide +kernel⟩
abbrev s_check_prime : Stmt := topS 14
theorem sc_check_prime : FnScope ["prime"] ["prime"] (defScope s_check_prime) := ⟨rfl, rfl, rfl, by decide +kernel, rfl, by decide +kernel, by decide +kernel⟩
abbrev s_times_within : Stmt := topS 16
theorem sc_times_within : FnScope ["prime", "number", "times", "left"] ["prime", "number"] (defScope s_times_within) := ⟨rfl, rfl, rfl, by decide +kernel, rfl, by decide +kernel, by decide +kernel⟩
abbrev s_exponent_of : Stmt := topS 34
theorem sc_exponent_of : FnScope ["prime", "ratio"] ["prime", "ratio"] (defScope s_exponent_of) := ⟨rfl, rfl, rfl, by decide +kernel, rfl, by decide +kernel, by decide +kernel⟩
abbrev s_minus : Stmt := topS 27
theorem sc_minus : FnScope ["one", "other"] ["one", "other"] (defScope s_minus) := ⟨rfl, rfl, rfl, by decide +kernel, rfl, by decide +kernel, by decide +kernel⟩
abbrev s_q_grab : Stmt := topS 37
theorem sc_q_grab : FnScope ["_law_bag_here", "_law_total", "_law_found", "_law_one", "_law_two"] ["_law_bag_here", "_law_total"] (defScope s_q_grab) := ⟨rfl, rfl, rfl, by decide +kernel, rfl, by decide +kernel, by decide +kernel⟩
abbrev s_q_one_of : Stmt := topS 38
theorem sc_q_one_of : FnScope ["_law_bag_here", "_law_items"] ["_law_bag_here", "_law_items"] (defScope s_q_one_of) := ⟨rfl, rfl, rfl, by decide +kernel, rfl, by decide +kernel, by decide +kernel⟩
abbrev s_q_ra_divisor : Stmt := topS 39
theorem sc_q_ra_divisor : FnScope ["_law_one", "_law_other"] ["_law_one", "_law_other"] (defScope s_q_ra_divisor) := ⟨rfl, rfl, rfl, by decide +kernel, rfl, by decide +kernel, by decide +kernel⟩
abbrev s_q_ra_lowest : Stmt := topS 42
theorem sc_q_ra_lowest : FnScope ["_law_top", "_law_bottom", "_law_share"] ["_law_top", "_law_bottom"] (defScope s_q_ra_lowest) := ⟨rfl, rfl, rfl, by decide +kernel, rfl, by decide +kernel, by decide +kernel⟩
abbrev s_q_ra_drawn : Stmt := topS 43
theorem sc_q_ra_drawn : FnScope ["_law_bag_here", "_law_high"] ["_law_bag_here"] (defScope s_q_ra_drawn) := ⟨rfl, rfl, rfl, by decide +kernel, rfl, by decide +kernel, by decide +kernel⟩
abbrev s_q_ra_short : Stmt := topS 40
theorem sc_q_ra_short : FnScope ["_law_value"] ["_law_value"] (defScope s_q_ra_short) := ⟨rfl, rfl, rfl, by decide +kernel, rfl, by decide +kernel, by decide +kernel⟩
abbrev s_q_ra_is_ratio : Stmt := topS 41
theorem sc_q_ra_is_ratio : FnScope ["_law_value"] ["_law_value"] (defScope s_q_ra_is_ratio) := ⟨rfl, rfl, rfl, by decide +kernel, rfl, by decide +kernel, by decide +kernel⟩
abbrev s_q_judged_right : Stmt := topS 46
theorem sc_q_judged_right : FnScope ["_law_bag_here", "_law_top", "_law_bottom", "_law_values", "_law_value"] ["_law_bag_here"] (defScope s_q_judged_right) := ⟨rfl, rfl, rfl, by decide +kernel, rfl, by decide +kernel, by decide +kernel⟩
abbrev s_q_lowered_right : Stmt := topS 50
theorem sc_q_lowered_right : FnScope ["_law_bag_here", "_law_share", "_law_high", "_law_top", "_law_bottom"] ["_law_bag_here"] (defScope s_q_lowered_right) := ⟨rfl, rfl, rfl, by decide +kernel, rfl, by decide +kernel, by decide +kernel⟩
abbrev s_times : Stmt := topS 28
theorem sc_times : FnScope ["one", "other"] ["one", "other"] (defScope s_times) := ⟨rfl, rfl, rfl, by decide +kernel, rfl, by decide +kernel, by decide +kernel⟩
abbrev s_q_reckoned_right : Stmt := topS 47
theorem sc_q_reckoned_right : FnScope ["_law_bag_here", "_law_one", "_law_other", "_law_a", "_law_b", "_law_c", "_law_d", "_law_due", "_law_told"] ["_law_bag_here"] (defScope s_q_reckoned_right) := ⟨rfl, rfl, rfl, by decide +kernel, rfl, by decide +kernel, by decide +kernel⟩
abbrev s_q_floors_right : Stmt := topS 48
theorem sc_q_floors_right : FnScope ["_law_bag_here", "_law_top", "_law_bottom", "_law_whole", "_law_many", "_law_rest", "_law_step", "_law_shifts"] ["_law_bag_here"] (defScope s_q_floors_right) := ⟨rfl, rfl, rfl, by decide +kernel, rfl, by decide +kernel, by decide +kernel⟩
abbrev s_q_ra_often : Stmt := topS 44
theorem sc_q_ra_often : FnScope ["_law_prime", "_law_number", "_law_found", "_law_turn"] ["_law_prime", "_law_number"] (defScope s_q_ra_often) := ⟨rfl, rfl, rfl, by decide +kernel, rfl, by decide +kernel, by decide +kernel⟩
abbrev s_q_ra_exponent : Stmt := topS 45
theorem sc_q_ra_exponent : FnScope ["_law_prime", "_law_ratio"] ["_law_prime", "_law_ratio"] (defScope s_q_ra_exponent) := ⟨rfl, rfl, rfl, by decide +kernel, rfl, by decide +kernel, by decide +kernel⟩
abbrev s_q_exponents_right : Stmt := topS 49
theorem sc_q_exponents_right : FnScope ["_law_bag_here", "_law_prime", "_law_power", "_law_turn", "_law_one", "_law_other", "_law_first", "_law_second", "_law_total"] ["_law_bag_here"] (defScope s_q_exponents_right) := ⟨rfl, rfl, rfl, by decide +kernel, rfl, by decide +kernel, by decide +kernel⟩
abbrev s_law : Stmt := topS 51
theorem sc_law : FnScope ["_law_script", "_law_spot", "_law_bag_here", "_law_turn", "_law_told"] ["_law_script"] (defScope s_law) := ⟨rfl, rfl, rfl, by decide +kernel, rfl, by decide +kernel, by decide +kernel⟩
/-! ### what the defs do -/
def B_q_bag (n : Nat) : DEnv → SR := dSeq (dSet 2 (dIte (dTst (dBin ltD (oVar 1) (oD (dCal lenD (aCons (oVar 0) (aNil)))))) (dBin ixD (oVar 0) (oVar 1)) (dBin addD (oD (dBin addD (oD (dCal sumD (aCons (oD (dCut none (some 1) (oVar 0))) (aNil)))) (oD (dBin mulD (oD (dC (.int 151))) (oVar 1))))) (oD (dC (.int 89))))))
    (dSeq (dSet 3 (dBin modD (oD (dCal intD (aCons (oD (dCal absD (aCons (oVar 2) (aNil)))) (aNil)))) (oD (dBin powD (oD (dBin powD (oD (dC (.int 10))) (oD (dC (.int 45))))) (oD (dC (.int 13)))))))
    (dSeq (dSet 4 (dBin addD (oD (dBin addD (oD (dBin addD (oD (dBin mulD (oD (dBin modD (oD (dCal intD (aCons (oVar 3) (aNil)))) (oD (dC (.int 2305843009213693723))))) (oD (dC (.int 1000457))))) (oD (dBin mulD (oD (dC (.int 9029))) (oVar 1))))) (oD (dBin mulD (oD (dC (.int 53))) (oD (dCal intD (aCons (oD (dBin ltD (oVar 2) (oD (dC (.int 0))))) (aNil)))))))) (oD (dC (.int 37)))))
    (dRetF (dLst (vCons (dCal max2D (aCons (oD (dC (.int 0))) (aCons (oD (dBin subD (oVar 3) (oD (dBin powD (oD (dC (.int 10))) (oD (dC (.int 18))))))) (aNil)))) (vCons (dBin modD (oD (dCal intD (aCons (oVar 4) (aNil)))) (oD (dC (.int 2305843009213693951)))) (vCons (dC (.int 0)) (vNil))))))))
def F_q_bag : Fn := fun as => fnRes as (B_q_bag (fuel as) (startE 5 as))
def B_is_long_integer (n : Nat) : DEnv → SR := dRet (dAndV (dIsi "int" (oVar 0)) (dNotV (dIsi "bool" (oVar 0))))
def F_is_long_integer : Fn := fun as => fnRes as (B_is_long_integer (fuel as) (startE 1 as))
def B_is_integer (n : Nat) : DEnv → SR := dRet (dAndV (dV (dCal2 1 F_is_long_integer (rVal (dVar 0) (rNil)))) (dBin leD (oD (dCal absD (aCons (oVar 0) (aNil)))) (oD (dC (.int 999999999999999999999999999999999999999999999999999999999999)))))
def F_is_integer : Fn := fun as => fnRes as (B_is_integer (fuel as) (startE 1 as))
def B_is_between (n : Nat) : DEnv → SR := dRet (dAndV (dV (dCal2 1 F_is_integer (rVal (dVar 0) (rNil)))) (dChain leD leD (oVar 1) (oVar 0) (oVar 2)))
def F_is_between : Fn := fun as => fnRes as (B_is_between (fuel as) (startE 3 as))
def B_check_number (n : Nat) : DEnv → SR := dIf (dNot (dTst (dV (dCal2 3 F_is_between (rVal (dVar 0) (rVal (dVar 1) (rVal (dVar 2) (rNil)))))))) (dNever) (SR.nx)
def F_check_number : Fn := fun as => fnRes as (B_check_number (fuel as) (startE 3 as))
def B_reduced (n : Nat) : DEnv → SR := dSeq (dSet 2 (dCal gcdD (aCons (oVar 0) (aCons (oVar 1) (aNil)))))
    (dSeq (dIf (dTst (dBin ltD (oVar 1) (oD (dC (.int 0))))) (dSet 2 (dUn negD (oVar 2))) (SR.nx))
    (dRet (dTup (vCons (dBin divD (oVar 0) (oVar 2)) (vCons (dBin divD (oVar 1) (oVar 2)) (vNil))))))
def F_reduced : Fn := fun as => fnRes as (B_reduced (fuel as) (startE 3 as))
def B_lowest (n : Nat) : DEnv → SR := dSeq (dExpr (dV (dCal2 3 F_check_number (rVal (dVar 0) (rVal (dUn negD (oD (dC (.int 999999999999999999999999999999999999999999999999999999999999)))) (rVal (dC (.int 999999999999999999999999999999999999999999999999999999999999)) (rNil)))))))
    (dSeq (dExpr (dV (dCal2 3 F_check_number (rVal (dVar 1) (rVal (dUn negD (oD (dC (.int 999999999999999999999999999999999999999999999999999999999999)))) (rVal (dC (.int 999999999999999999999999999999999999999999999999999999999999)) (rNil)))))))
    (dSeq (dIf (dTst (dBin eqD1 (oVar 1) (oD (dC (.int 0))))) (dNever) (SR.nx))
    (dRet (dV (dCal2 2 F_reduced (rVal (dVar 0) (rVal (dVar 1) (rNil))))))))
def F_lowest : Fn := fun as => fnRes as (B_lowest (fuel as) (startE 2 as))
def B_is_long_pair (n : Nat) : DEnv → SR := dRet (dAndV (dIsi "tuple" (oVar 0)) (dAndV (dBin eqD1 (oD (dCal lenD (aCons (oVar 0) (aNil)))) (oD (dC (.int 2)))) (dAndV (dV (dCal2 1 F_is_long_integer (rVal (dBin ixD (oVar 0) (oD (dC (.int 0)))) (rNil)))) (dV (dCal2 1 F_is_long_integer (rVal (dBin ixD (oVar 0) (oD (dC (.int 1)))) (rNil)))))))
def F_is_long_pair : Fn := fun as => fnRes as (B_is_long_pair (fuel as) (startE 1 as))
def B_is_long_ratio (n : Nat) : DEnv → SR := dRet (dAndV (dV (dCal2 1 F_is_long_pair (rVal (dVar 0) (rNil)))) (dAndV (dBin gtD (oD (dBin ixD (oVar 0) (oD (dC (.int 1))))) (oD (dC (.int 0)))) (dBin eqD1 (oD (dCal gcdD (aCons (oD (dBin ixD (oVar 0) (oD (dC (.int 0))))) (aCons (oD (dBin ixD (oVar 0) (oD (dC (.int 1))))) (aNil))))) (oD (dC (.int 1))))))
def F_is_long_ratio : Fn := fun as => fnRes as (B_is_long_ratio (fuel as) (startE 1 as))
def B_is_ratio (n : Nat) : DEnv → SR := dRet (dAndV (dV (dCal2 1 F_is_long_ratio (rVal (dVar 0) (rNil)))) (dAndV (dV (dCal2 1 F_is_integer (rVal (dBin ixD (oVar 0) (oD (dC (.int 0)))) (rNil)))) (dV (dCal2 1 F_is_integer (rVal (dBin ixD (oVar 0) (oD (dC (.int 1)))) (rNil))))))
def F_is_ratio : Fn := fun as => fnRes as (B_is_ratio (fuel as) (startE 1 as))
def B_check_ratio (n : Nat) : DEnv → SR := dIf (dNot (dTst (dV (dCal2 1 F_is_ratio (rVal (dVar 0) (rNil)))))) (dNever) (SR.nx)
def F_check_ratio : Fn := fun as => fnRes as (B_check_ratio (fuel as) (startE 1 as))
def B_check_ratios (n : Nat) : DEnv → SR := dSeq (dExpr (dV (dCal2 1 F_check_ratio (rVal (dVar 0) (rNil)))))
    (dExpr (dV (dCal2 1 F_check_ratio (rVal (dVar 1) (rNil)))))
def F_check_ratios : Fn := fun as => fnRes as (B_check_ratios (fuel as) (startE 2 as))
def B_plus (n : Nat) : DEnv → SR := dSeq (dExpr (dV (dCal2 2 F_check_ratios (rVal (dVar 0) (rVal (dVar 1) (rNil))))))
    (dRet (dV (dCal2 2 F_reduced (rVal (dBin addD (oD (dBin mulD (oD (dBin ixD (oVar 0) (oD (dC (.int 0))))) (oD (dBin ixD (oVar 1) (oD (dC (.int 1))))))) (oD (dBin mulD (oD (dBin ixD (oVar 1) (oD (dC (.int 0))))) (oD (dBin ixD (oVar 0) (oD (dC (.int 1)))))))) (rVal (dBin mulD (oD (dBin ixD (oVar 0) (oD (dC (.int 1))))) (oD (dBin ixD (oVar 1) (oD (dC (.int 1)))))) (rNil))))))
def F_plus : Fn := fun as => fnRes as (B_plus (fuel as) (startE 2 as))
def B_over (n : Nat) : DEnv → SR := dSeq (dExpr (dV (dCal2 2 F_check_ratios (rVal (dVar 0) (rVal (dVar 1) (rNil))))))
    (dSeq (dIf (dTst (dBin eqD1 (oD (dBin ixD (oVar 1) (oD (dC (.int 0))))) (oD (dC (.int 0))))) (dNever) (SR.nx))
    (dRet (dV (dCal2 2 F_reduced (rVal (dBin mulD (oD (dBin ixD (oVar 0) (oD (dC (.int 0))))) (oD (dBin ixD (oVar 1) (oD (dC (.int 1)))))) (rVal (dBin mulD (oD (dBin ixD (oVar 0) (oD (dC (.int 1))))) (oD (dBin ixD (oVar 1) (oD (dC (.int 0)))))) (rNil)))))))
def F_over : Fn := fun as => fnRes as (B_over (fuel as) (startE 2 as))
def B_compare (n : Nat) : DEnv → SR := dSeq (dExpr (dV (dCal2 2 F_check_ratios (rVal (dVar 0) (rVal (dVar 1) (rNil))))))
    (dSeq (dSet 2 (dBin mulD (oD (dBin ixD (oVar 0) (oD (dC (.int 0))))) (oD (dBin ixD (oVar 1) (oD (dC (.int 1)))))))
    (dSeq (dSet 3 (dBin mulD (oD (dBin ixD (oVar 1) (oD (dC (.int 0))))) (oD (dBin ixD (oVar 0) (oD (dC (.int 1)))))))
    (dSeq (dIf (dTst (dBin eqD1 (oVar 2) (oVar 3))) (dRet (dC (.int 0))) (SR.nx))
    (dRet (dIte (dTst (dBin ltD (oVar 2) (oVar 3))) (dUn negD (oD (dC (.int 1)))) (dC (.int 1)))))))
def F_compare : Fn := fun as => fnRes as (B_compare (fuel as) (startE 4 as))
def B_part_of (n : Nat) : DEnv → SR := dSeq (dExpr (dV (dCal2 1 F_check_ratio (rVal (dVar 0) (rNil)))))
    (dSeq (dSet 1 (dBin modD (oD (dBin ixD (oVar 0) (oD (dC (.int 0))))) (oD (dBin ixD (oVar 0) (oD (dC (.int 1)))))))
    (dRet (dIte (dTst (dBin gtD (oVar 1) (oD (dC (.int 0))))) (dTup (vCons (dVar 1) (vCons (dBin ixD (oVar 0) (oD (dC (.int 1)))) (vNil)))) (dTup (vCons (dC (.int 1)) (vCons (dC (.int 1)) (vNil)))))))
def F_part_of : Fn := fun as => fnRes as (B_part_of (fuel as) (startE 2 as))
def B_floor_of (n : Nat) : DEnv → SR := dSeq (dExpr (dV (dCal2 1 F_check_ratio (rVal (dVar 0) (rNil)))))
    (dRet (dBin divD (oD (dBin ixD (oVar 0) (oD (dC (.int 0))))) (oD (dBin ixD (oVar 0) (oD (dC (.int 1)))))))
def F_floor_of : Fn := fun as => fnRes as (B_floor_of (fuel as) (startE 1 as))
def B_ceiling (n : Nat) : DEnv → SR := dRet (dUn negD (oD (dBin divD (oD (dUn negD (oVar 0))) (oVar 1))))
def F_ceiling : Fn := fun as => fnRes as (B_ceiling (fuel as) (startE 2 as))
def B_ceiling_of (n : Nat) : DEnv → SR := dSeq (dExpr (dV (dCal2 1 F_check_ratio (rVal (dVar 0) (rNil)))))
    (dRet (dV (dCal2 2 F_ceiling (rVal (dBin ixD (oVar 0) (oD (dC (.int 0)))) (rVal (dBin ixD (oVar 0) (oD (dC (.int 1)))) (rNil))))))
def F_ceiling_of : Fn := fun as => fnRes as (B_ceiling_of (fuel as) (startE 1 as))
def B_is_prime (n : Nat) : DEnv → SR := dSeq (dIf (dNot (dTst (dV (dCal2 3 F_is_between (rVal (dVar 0) (rVal (dC (.int 2)) (rVal (dC (.int 1000000)) (rNil)))))))) (dRet (dC (.bl false))) (SR.nx))
    (dSeq (dIf (dOr (dTst (dBin ltD (oVar 0) (oD (dC (.int 5))))) (dOr (dTst (dBin eqD1 (oD (dBin modD (oVar 0) (oD (dC (.int 2))))) (oD (dC (.int 0))))) (dTst (dBin eqD1 (oD (dBin modD (oVar 0) (oD (dC (.int 3))))) (oD (dC (.int 0))))))) (dRet (dBin ltD (oVar 0) (oD (dC (.int 4))))) (SR.nx))
    (dSeq (dForS (sRng3 (vCons (dC (.int 5)) (vCons (dBin addD (oD (dCal sqrtD (aCons (oVar 0) (aNil)))) (oD (dC (.int 1)))) (vCons (dC (.int 6)) (vNil))))) (setV 1) (dIf (dOr (dTst (dBin eqD1 (oD (dBin modD (oVar 0) (oVar 1))) (oD (dC (.int 0))))) (dTst (dBin eqD1 (oD (dBin modD (oVar 0) (oD (dBin addD (oVar 1) (oD (dC (.int 2))))))) (oD (dC (.int 0)))))) (dRet (dC (.bl false))) (SR.nx)))
    (dRet (dC (.bl true)))))
def F_is_prime : Fn := fun as => fnRes as (B_is_prime (fuel as) (startE 2 as))
def B_check_prime (n : Nat) : DEnv → SR := dIf (dNot (dTst (dV (dCal2 1 F_is_prime (rVal (dVar 0) (rNil)))))) (dNever) (SR.nx)
def F_check_prime : Fn := fun as => fnRes as (B_check_prime (fuel as) (startE 1 as))
def B_times_within (n : Nat) : DEnv → SR := dSeq (dSet 2 (dC (.int 0)))
    (dSeq (dSet 3 (dVar 1))
    (dSeq (dWhile (dTst (dBin eqD1 (oD (dBin modD (oVar 3) (oVar 0))) (oD (dC (.int 0))))) (dSeq (dSet 3 (dBin divD (oVar 3) (oVar 0)))
    (dSet 2 (dBin addD (oVar 2) (oD (dC (.int 1)))))) n)
    (dRetV 2)))
def F_times_within : Fn := fun as => fnRes as (B_times_within (fuel as) (startE 4 as))
def B_exponent_of (n : Nat) : DEnv → SR := dSeq (dExpr (dV (dCal2 1 F_check_prime (rVal (dVar 0) (rNil)))))
    (dSeq (dExpr (dV (dCal2 1 F_check_ratio (rVal (dVar 1) (rNil)))))
    (dSeq (dIf (dTst (dBin eqD1 (oD (dBin ixD (oVar 1) (oD (dC (.int 0))))) (oD (dC (.int 0))))) (dNever) (SR.nx))
    (dRet (dBin subD (oD (dV (dCal2 2 F_times_within (rVal (dVar 0) (rVal (dBin ixD (oVar 1) (oD (dC (.int 0)))) (rNil)))))) (oD (dV (dCal2 2 F_times_within (rVal (dVar 0) (rVal (dBin ixD (oVar 1) (oD (dC (.int 1)))) (rNil))))))))))
def F_exponent_of : Fn := fun as => fnRes as (B_exponent_of (fuel as) (startE 2 as))
def B_minus (n : Nat) : DEnv → SR := dSeq (dExpr (dV (dCal2 2 F_check_ratios (rVal (dVar 0) (rVal (dVar 1) (rNil))))))
    (dRet (dV (dCal2 2 F_reduced (rVal (dBin subD (oD (dBin mulD (oD (dBin ixD (oVar 0) (oD (dC (.int 0))))) (oD (dBin ixD (oVar 1) (oD (dC (.int 1))))))) (oD (dBin mulD (oD (dBin ixD (oVar 1) (oD (dC (.int 0))))) (oD (dBin ixD (oVar 0) (oD (dC (.int 1)))))))) (rVal (dBin mulD (oD (dBin ixD (oVar 0) (oD (dC (.int 1))))) (oD (dBin ixD (oVar 1) (oD (dC (.int 1)))))) (rNil))))))
def F_minus : Fn := fun as => fnRes as (B_minus (fuel as) (startE 2 as))
def B_q_grab (n : Nat) : DEnv → SR := dSeq (dIf (dTst (dBin gtD (oD (dBin ixD (oVar 0) (oD (dC (.int 0))))) (oD (dC (.int 0))))) (dSeq (dSet 2 (dBin modD (oD (dCal intD (aCons (oD (dBin ixD (oVar 0) (oD (dC (.int 0))))) (aNil)))) (oVar 1)))
    (dSeq (dSetI 0 (dC (.int 0)) (dBin divD (oD (dBin ixD (oVar 0) (oD (dC (.int 0))))) (oVar 1)))
    (dRetV 2))) (SR.nx))
    (dSeq (dSetI 0 (dC (.int 2)) (dBin addD (oD (dBin ixD (oVar 0) (oD (dC (.int 2))))) (oD (dC (.int 1)))))
    (dSeq (dSet 3 (dBin modD (oD (dCal intD (aCons (oD (dBin addD (oD (dBin ixD (oVar 0) (oD (dC (.int 1))))) (oD (dBin mulD (oD (dC (.int 1048637))) (oD (dBin ixD (oVar 0) (oD (dC (.int 2))))))))) (aNil)))) (oD (dC (.int 2305843009213693951)))))
    (dSeq (dSet 4 (dBin addD (oD (dBin mulD (oD (dBin modD (oD (dCal intD (aCons (oD (dBin mulD (oVar 3) (oVar 3))) (aNil)))) (oD (dC (.int 2305843009213693723))))) (oVar 3))) (oD (dBin mulD (oD (dC (.int 8161))) (oD (dBin ixD (oVar 0) (oD (dC (.int 2)))))))))
    (dRet (dBin modD (oD (dCal intD (aCons (oD (dBin divD (oD (dBin modD (oD (dCal intD (aCons (oVar 4) (aNil)))) (oD (dC (.int 2305843009213693921))))) (oD (dC (.int 16384))))) (aNil)))) (oVar 1))))))
def F_q_grab : Fn := fun as => fnRes as (B_q_grab (fuel as) (startE 5 as))
def B_q_one_of (n : Nat) : DEnv → SR := dRet (dBin ixD (oVar 1) (oD (dV (dCal2 2 F_q_grab (rIo 0 (rVal (dCal lenD (aCons (oVar 1) (aNil))) (rNil)))))))
def F_q_one_of : Fn := fun as => fnRes as (B_q_one_of (fuel as) (startE 2 as))
def B_q_ra_divisor (n : Nat) : DEnv → SR := dSeq (dPar 0 1 (vCons (dCal absD (aCons (oVar 0) (aNil))) (vCons (dCal absD (aCons (oVar 1) (aNil))) (vNil))))
    (dSeq (dWhile (dTst (dBin gtD (oVar 1) (oD (dC (.int 0))))) (dPar 0 1 (vCons (dVar 1) (vCons (dBin modD (oVar 0) (oVar 1)) (vNil)))) n)
    (dRetV 0))
def F_q_ra_divisor : Fn := fun as => fnRes as (B_q_ra_divisor (fuel as) (startE 2 as))
def B_q_ra_lowest (n : Nat) : DEnv → SR := dSeq (dSet 2 (dBin mulD (oD (dV (dCal2 2 F_q_ra_divisor (rVal (dVar 0) (rVal (dVar 1) (rNil)))))) (oD (dIte (dTst (dBin gtD (oVar 1) (oD (dC (.int 0))))) (dC (.int 1)) (dUn negD (oD (dC (.int 1))))))))
    (dRet (dTup (vCons (dBin divD (oVar 0) (oVar 2)) (vCons (dBin divD (oVar 1) (oVar 2)) (vNil)))))
def F_q_ra_lowest : Fn := fun as => fnRes as (B_q_ra_lowest (fuel as) (startE 3 as))
def B_q_ra_drawn (n : Nat) : DEnv → SR := dSeq (dSet 1 (dV (dCal2 2 F_q_one_of (rIo 0 (rVal (dLst (vCons (dC (.int 3)) (vCons (dC (.int 12)) (vCons (dC (.int 60)) (vCons (dC (.int 1000)) (vCons (dBin powD (oD (dC (.int 10))) (oD (dC (.int 14)))) (vNil))))))) (rNil))))))
    (dRet (dV (dCal2 2 F_q_ra_lowest (rVal (dBin subD (oD (dV (dCal2 2 F_q_grab (rIo 0 (rVal (dBin addD (oD (dBin mulD (oD (dC (.int 2))) (oVar 1))) (oD (dC (.int 1)))) (rNil)))))) (oVar 1)) (rVal (dBin addD (oD (dC (.int 1))) (oD (dV (dCal2 2 F_q_grab (rIo 0 (rVal (dVar 1) (rNil))))))) (rNil))))))
def F_q_ra_drawn : Fn := fun as => fnRes as (B_q_ra_drawn (fuel as) (startE 2 as))
def B_q_ra_short (n : Nat) : DEnv → SR := dRet (dAndV (dIsi "int" (oVar 0)) (dAndV (dNotV (dIsi "bool" (oVar 0))) (dBin ltD (oD (dCal absD (aCons (oVar 0) (aNil)))) (oD (dBin powD (oD (dC (.int 10))) (oD (dC (.int 60))))))))
def F_q_ra_short : Fn := fun as => fnRes as (B_q_ra_short (fuel as) (startE 1 as))
def B_q_ra_is_ratio (n : Nat) : DEnv → SR := dSeq (dIf (dOr (dNot (dTst (dIsi "tuple" (oVar 0)))) (dOr (dTst (dBin neD1 (oD (dCal lenD (aCons (oVar 0) (aNil)))) (oD (dC (.int 2))))) (dOr (dNot (dTst (dV (dCal2 1 F_q_ra_short (rVal (dBin ixD (oVar 0) (oD (dC (.int 0)))) (rNil)))))) (dNot (dTst (dV (dCal2 1 F_q_ra_short (rVal (dBin ixD (oVar 0) (oD (dC (.int 1)))) (rNil))))))))) (dRet (dC (.bl false))) (SR.nx))
    (dRet (dAndV (dBin gtD (oD (dBin ixD (oVar 0) (oD (dC (.int 1))))) (oD (dC (.int 0)))) (dBin eqD1 (oD (dV (dCal2 2 F_q_ra_divisor (rVal (dBin ixD (oVar 0) (oD (dC (.int 0)))) (rVal (dBin ixD (oVar 0) (oD (dC (.int 1)))) (rNil)))))) (oD (dC (.int 1))))))
def F_q_ra_is_ratio : Fn := fun as => fnRes as (B_q_ra_is_ratio (fuel as) (startE 1 as))
def B_q_judged_right (n : Nat) : DEnv → SR := dSeq (dAsg (dV (dCal2 1 F_q_ra_drawn (rIo 0 (rNil)))) (gTp 2 (gsCons (setV 1) (gsCons (setV 2) (gsNil)))))
    (dSeq (dSet 3 (dLst (vCons (dVar 1) (vCons (dTup (vCons (dVar 1) (vCons (dVar 2) (vNil)))) (vCons (dTup (vCons (dVar 2) (vCons (dVar 1) (vNil)))) (vCons (dTup (vCons (dBin mulD (oD (dC (.int 2))) (oVar 1)) (vCons (dBin mulD (oD (dC (.int 2))) (oVar 2)) (vNil)))) (vCons (dTup (vCons (dUn negD (oVar 1)) (vCons (dUn negD (oVar 2)) (vNil)))) (vCons (dLst (vCons (dVar 1) (vCons (dVar 2) (vNil)))) (vCons (dTup (vCons (dVar 1) (vNil))) (vCons (dTup (vCons (dVar 1) (vCons (dVar 2) (vCons (dC (.int 1)) (vNil))))) (vNil)))))))))))
    (dSeq (dSet 3 (dBin addD (oVar 3) (oD (dLst (vCons (dC (.bl true)) (vCons (dC .non) (vCons (dC (.str (Str.ofString "3"))) (vCons (dTup (vCons (dC (.bl true)) (vCons (dC (.int 2)) (vNil)))) (vCons (dTup (vCons (dC (.int 1)) (vCons (dC (.bl true)) (vNil)))) (vCons (dTup (vCons (dC (.int 0)) (vCons (dC (.int 1)) (vNil)))) (vCons (dTup (vCons (dC (.int 0)) (vCons (dC (.int 2)) (vNil)))) (vCons (dTup (vCons (dC (.int 0)) (vCons (dC (.int 0)) (vNil)))) (vCons (dTup (vCons (dC (.int 1)) (vCons (dC (.int 0)) (vNil)))) (vCons (dDic0) (vCons (dTup (vNil)) (vCons (dTup (vCons (dBin powD (oD (dC (.int 10))) (oD (dC (.int 60)))) (vCons (dC (.int 7)) (vNil)))) (vCons (dTup (vCons (dC (.int 1)) (vCons (dBin powD (oD (dC (.int 10))) (oD (dC (.int 60)))) (vNil)))) (vNil))))))))))))))))))
    (dSeq (dSet 3 (dBin addD (oVar 3) (oD (dLst (vCons (dTup (vCons (dBin subD (oD (dBin powD (oD (dC (.int 10))) (oD (dC (.int 60))))) (oD (dC (.int 1)))) (vCons (dC (.int 1)) (vNil)))) (vCons (dTup (vCons (dUn negD (oD (dBin powD (oD (dC (.int 10))) (oD (dC (.int 60)))))) (vCons (dC (.int 1)) (vNil)))) (vCons (dTup (vCons (dTup (vCons (dC (.int 1)) (vCons (dC (.int 2)) (vNil)))) (vCons (dC (.int 1)) (vNil)))) (vCons (dTup (vCons (dC (.str (Str.ofString "1"))) (vCons (dC (.int 2)) (vNil)))) (vCons (dTup (vCons (dC .non) (vCons (dC (.int 1)) (vNil)))) (vCons (dTup (vCons (dC (.int 1)) (vCons (dBin subD (oD (dC (.int 1))) (oD (dBin powD (oD (dC (.int 10))) (oD (dC (.int 60)))))) (vNil)))) (vCons (dC (.str (Str.ofString "1/2"))) (vNil))))))))))))
    (dRet (dBin eqD1 (oD (dLc (sLst (dVar 3)) (setV 4) (dTst (dBin neD1 (oD (dCal rprD (aCons (oD (dV (dCal2 1 F_is_ratio (rVal (dVar 4) (rNil))))) (aNil)))) (oD (dCal rprD (aCons (oD (dV (dCal2 1 F_q_ra_is_ratio (rVal (dVar 4) (rNil))))) (aNil)))))) (dVar 4) [4])) (oD (dLst (vNil))))))))
def F_q_judged_right : Fn := fun as => fnRes as (B_q_judged_right (fuel as) (startE 5 as))
def B_q_lowered_right (n : Nat) : DEnv → SR := dSeq (dPar 1 2 (vCons (dV (dCal2 2 F_q_one_of (rIo 0 (rVal (dLst (vCons (dC (.int 1)) (vCons (dC (.int 2)) (vCons (dC (.int 6)) (vCons (dBin powD (oD (dC (.int 10))) (oD (dC (.int 30)))) (vNil)))))) (rNil))))) (vCons (dV (dCal2 2 F_q_one_of (rIo 0 (rVal (dLst (vCons (dC (.int 5)) (vCons (dC (.int 60)) (vCons (dBin powD (oD (dC (.int 10))) (oD (dC (.int 25)))) (vNil))))) (rNil))))) (vNil))))
    (dSeq (dPar 3 4 (vCons (dBin mulD (oVar 1) (oD (dBin subD (oD (dV (dCal2 2 F_q_grab (rIo 0 (rVal (dBin addD (oD (dBin mulD (oD (dC (.int 2))) (oVar 2))) (oD (dC (.int 1)))) (rNil)))))) (oVar 2)))) (vCons (dBin mulD (oD (dBin mulD (oVar 1) (oD (dBin addD (oD (dC (.int 1))) (oD (dV (dCal2 2 F_q_grab (rIo 0 (rVal (dVar 2) (rNil)))))))))) (oD (dV (dCal2 2 F_q_one_of (rIo 0 (rVal (dLst (vCons (dC (.int 1)) (vCons (dUn negD (oD (dC (.int 1)))) (vNil)))) (rNil))))))) (vNil))))
    (dRet (dAndV (dBin eqD1 (oD (dV (dCal2 2 F_lowest (rVal (dVar 3) (rVal (dVar 4) (rNil)))))) (oD (dV (dCal2 2 F_q_ra_lowest (rVal (dVar 3) (rVal (dVar 4) (rNil))))))) (dAndV (dV (dCal2 1 F_q_ra_is_ratio (rVal (dV (dCal2 2 F_lowest (rVal (dVar 3) (rVal (dVar 4) (rNil))))) (rNil)))) (dBin eqD1 (oD (dV (dCal2 2 F_lowest (rVal (dC (.int 0)) (rVal (dVar 4) (rNil)))))) (oD (dTup (vCons (dC (.int 0)) (vCons (dC (.int 1)) (vNil))))))))))
def F_q_lowered_right : Fn := fun as => fnRes as (B_q_lowered_right (fuel as) (startE 5 as))
def B_times (n : Nat) : DEnv → SR := dSeq (dExpr (dV (dCal2 2 F_check_ratios (rVal (dVar 0) (rVal (dVar 1) (rNil))))))
    (dRet (dV (dCal2 2 F_reduced (rVal (dBin mulD (oD (dBin ixD (oVar 0) (oD (dC (.int 0))))) (oD (dBin ixD (oVar 1) (oD (dC (.int 0)))))) (rVal (dBin mulD (oD (dBin ixD (oVar 0) (oD (dC (.int 1))))) (oD (dBin ixD (oVar 1) (oD (dC (.int 1)))))) (rNil))))))
def F_times : Fn := fun as => fnRes as (B_times (fuel as) (startE 2 as))
def B_q_reckoned_right (n : Nat) : DEnv → SR := dSeq (dPar 1 2 (vCons (dV (dCal2 1 F_q_ra_drawn (rIo 0 (rNil)))) (vCons (dV (dCal2 1 F_q_ra_drawn (rIo 0 (rNil)))) (vNil))))
    (dSeq (dIf (dTst (dBin eqD1 (oD (dV (dCal2 2 F_q_grab (rIo 0 (rVal (dC (.int 4)) (rNil)))))) (oD (dC (.int 0))))) (dSet 2 (dVar 1)) (SR.nx))
    (dSeq (dAsg (dTup (vCons (dVar 1) (vCons (dVar 2) (vNil)))) (gTp 2 (gsCons (gTp 2 (gsCons (setV 3) (gsCons (setV 4) (gsNil)))) (gsCons (gTp 2 (gsCons (setV 5) (gsCons (setV 6) (gsNil)))) (gsNil)))))
    (dSeq (dSet 7 (dIte (dTst (dBin eqD1 (oD (dBin mulD (oVar 3) (oVar 6))) (oD (dBin mulD (oVar 5) (oVar 4))))) (dC (.int 0)) (dIte (dTst (dBin gtD (oD (dBin mulD (oVar 3) (oVar 6))) (oD (dBin mulD (oVar 5) (oVar 4))))) (dC (.int 1)) (dUn negD (oD (dC (.int 1)))))))
    (dSeq (dIf (dOr (dTst (dBin neD1 (oD (dCal rprD (aCons (oD (dV (dCal2 2 F_compare (rVal (dVar 1) (rVal (dVar 2) (rNil)))))) (aNil)))) (oD (dCal rprD (aCons (oVar 7) (aNil)))))) (dTst (dBin neD1 (oD (dV (dCal2 2 F_compare (rVal (dVar 2) (rVal (dVar 1) (rNil)))))) (oD (dUn negD (oVar 7)))))) (dRet (dC (.bl false))) (SR.nx))
    (dSeq (dSet 8 (dLst (vCons (dV (dCal2 2 F_plus (rVal (dVar 1) (rVal (dVar 2) (rNil))))) (vCons (dV (dCal2 2 F_minus (rVal (dVar 1) (rVal (dVar 2) (rNil))))) (vCons (dV (dCal2 2 F_times (rVal (dVar 1) (rVal (dVar 2) (rNil))))) (vNil))))))
    (dSeq (dIf (dTst (dBin neD1 (oVar 8) (oD (dLst (vCons (dV (dCal2 2 F_q_ra_lowest (rVal (dBin addD (oD (dBin mulD (oVar 3) (oVar 6))) (oD (dBin mulD (oVar 5) (oVar 4)))) (rVal (dBin mulD (oVar 4) (oVar 6)) (rNil))))) (vCons (dV (dCal2 2 F_q_ra_lowest (rVal (dBin subD (oD (dBin mulD (oVar 3) (oVar 6))) (oD (dBin mulD (oVar 5) (oVar 4)))) (rVal (dBin mulD (oVar 4) (oVar 6)) (rNil))))) (vCons (dV (dCal2 2 F_q_ra_lowest (rVal (dBin mulD (oVar 3) (oVar 5)) (rVal (dBin mulD (oVar 4) (oVar 6)) (rNil))))) (vNil)))))))) (dRet (dC (.bl false))) (SR.nx))
    (dSeq (dIf (dOr (dTst (dBin neD1 (oD (dV (dCal2 2 F_plus (rVal (dBin ixD (oVar 8) (oD (dC (.int 1)))) (rVal (dVar 2) (rNil)))))) (oVar 1))) (dTst (dBin neD1 (oD (dV (dCal2 2 F_compare (rVal (dBin ixD (oVar 8) (oD (dC (.int 1)))) (rVal (dTup (vCons (dC (.int 0)) (vCons (dC (.int 1)) (vNil)))) (rNil)))))) (oVar 7)))) (dRet (dC (.bl false))) (SR.nx))
    (dRet (dOrV (dBin eqD1 (oVar 5) (oD (dC (.int 0)))) (dAndV (dBin eqD1 (oD (dV (dCal2 2 F_over (rVal (dVar 1) (rVal (dVar 2) (rNil)))))) (oD (dV (dCal2 2 F_q_ra_lowest (rVal (dBin mulD (oVar 3) (oVar 6)) (rVal (dBin mulD (oVar 4) (oVar 5)) (rNil))))))) (dBin eqD1 (oD (dV (dCal2 2 F_times (rVal (dV (dCal2 2 F_over (rVal (dVar 1) (rVal (dVar 2) (rNil))))) (rVal (dVar 2) (rNil)))))) (oVar 1))))))))))))
def F_q_reckoned_right : Fn := fun as => fnRes as (B_q_reckoned_right (fuel as) (startE 9 as))
def B_q_floors_right (n : Nat) : DEnv → SR := dSeq (dAsg (dV (dCal2 1 F_q_ra_drawn (rIo 0 (rNil)))) (gTp 2 (gsCons (setV 1) (gsCons (setV 2) (gsNil)))))
    (dSeq (dAsg (dTup (vCons (dBin divD (oVar 1) (oVar 2)) (vCons (dBin addD (oD (dC (.int 1))) (oD (dV (dCal2 2 F_q_grab (rIo 0 (rVal (dC (.int 12)) (rNil))))))) (vNil)))) (gTp 2 (gsCons (setV 3) (gsCons (setV 4) (gsNil)))))
    (dSeq (dIf (dTst (dBin neD1 (oD (dLst (vCons (dV (dCal2 1 F_floor_of (rVal (dTup (vCons (dVar 1) (vCons (dVar 2) (vNil)))) (rNil)))) (vCons (dV (dCal2 1 F_ceiling_of (rVal (dTup (vCons (dVar 1) (vCons (dVar 2) (vNil)))) (rNil)))) (vNil))))) (oD (dLst (vCons (dVar 3) (vCons (dBin addD (oVar 3) (oD (dCal intD (aCons (oD (dBin neD1 (oVar 1) (oD (dBin mulD (oVar 3) (oVar 2))))) (aNil))))) (vNil))))))) (dRet (dC (.bl false))) (SR.nx))
    (dSeq (dSet 5 (dBin subD (oVar 1) (oD (dBin mulD (oVar 3) (oVar 2)))))
    (dSeq (dIf (dTst (dBin neD1 (oD (dV (dCal2 1 F_part_of (rVal (dTup (vCons (dVar 1) (vCons (dVar 2) (vNil)))) (rNil))))) (oD (dIte (dTst (dBin eqD1 (oVar 5) (oD (dC (.int 0))))) (dTup (vCons (dC (.int 1)) (vCons (dC (.int 1)) (vNil)))) (dV (dCal2 2 F_q_ra_lowest (rVal (dVar 5) (rVal (dVar 2) (rNil))))))))) (dRet (dC (.bl false))) (SR.nx))
    (dSeq (dSet 7 (dLc (sRng1 (vCons (dVar 4) (vNil))) (setV 6) (tYesB) (dV (dCal2 1 F_floor_of (rVal (dV (dCal2 2 F_plus (rVal (dTup (vCons (dVar 1) (vCons (dVar 2) (vNil)))) (rVal (dV (dCal2 2 F_lowest (rVal (dVar 6) (rVal (dVar 4) (rNil))))) (rNil))))) (rNil)))) [6]))
    (dRet (dBin eqD1 (oD (dCal sumD (aCons (oVar 7) (aNil)))) (oD (dV (dCal2 1 F_floor_of (rVal (dV (dCal2 2 F_times (rVal (dTup (vCons (dVar 4) (vCons (dC (.int 1)) (vNil)))) (rVal (dTup (vCons (dVar 1) (vCons (dVar 2) (vNil)))) (rNil))))) (rNil))))))))))))
def F_q_floors_right : Fn := fun as => fnRes as (B_q_floors_right (fuel as) (startE 8 as))
def B_q_ra_often (n : Nat) : DEnv → SR := dSeq (dSet 2 (dC (.int 0)))
    (dSeq (dForS (sRng1 (vCons (dC (.int 400)) (vNil))) (setV 3) (dIf (dTst (dBin eqD1 (oD (dBin modD (oVar 1) (oVar 0))) (oD (dC (.int 0))))) (dPar 2 1 (vCons (dBin addD (oVar 2) (oD (dC (.int 1)))) (vCons (dBin divD (oVar 1) (oVar 0)) (vNil)))) (SR.nx)))
    (dRetV 2))
def F_q_ra_often : Fn := fun as => fnRes as (B_q_ra_often (fuel as) (startE 4 as))
def B_q_ra_exponent (n : Nat) : DEnv → SR := dRet (dBin subD (oD (dV (dCal2 2 F_q_ra_often (rVal (dVar 0) (rVal (dBin ixD (oVar 1) (oD (dC (.int 0)))) (rNil)))))) (oD (dV (dCal2 2 F_q_ra_often (rVal (dVar 0) (rVal (dBin ixD (oVar 1) (oD (dC (.int 1)))) (rNil)))))))
def F_q_ra_exponent : Fn := fun as => fnRes as (B_q_ra_exponent (fuel as) (startE 2 as))
def B_q_exponents_right (n : Nat) : DEnv → SR := dSeq (dSet 1 (dV (dCal2 2 F_q_one_of (rIo 0 (rVal (dLst (vCons (dC (.int 2)) (vCons (dC (.int 2)) (vCons (dC (.int 3)) (vCons (dC (.int 5)) (vCons (dC (.int 7)) (vCons (dC (.int 11)) (vCons (dC (.int 97)) (vCons (dC (.int 997)) (vCons (dC (.int 999983)) (vNil))))))))))) (rNil))))))
    (dSeq (dSet 2 (dC (.int 1)))
    (dSeq (dForS (sRng1 (vCons (dV (dCal2 2 F_q_grab (rIo 0 (rVal (dC (.int 4)) (rNil))))) (vNil))) (setV 3) (dSet 2 (dBin mulD (oVar 2) (oVar 1))))
    (dSeq (dPar 4 5 (vCons (dV (dCal2 1 F_q_ra_drawn (rIo 0 (rNil)))) (vCons (dV (dCal2 1 F_q_ra_drawn (rIo 0 (rNil)))) (vNil))))
    (dSeq (dIf (dOr (dTst (dBin eqD1 (oD (dBin ixD (oVar 4) (oD (dC (.int 0))))) (oD (dC (.int 0))))) (dTst (dBin eqD1 (oD (dBin ixD (oVar 5) (oD (dC (.int 0))))) (oD (dC (.int 0)))))) (dRet (dC (.bl true))) (SR.nx))
    (dSeq (dSet 4 (dV (dCal2 2 F_q_ra_lowest (rVal (dBin mulD (oD (dBin ixD (oVar 4) (oD (dC (.int 0))))) (oVar 2)) (rVal (dBin ixD (oVar 4) (oD (dC (.int 1)))) (rNil))))))
    (dSeq (dPar 6 7 (vCons (dV (dCal2 2 F_exponent_of (rVal (dVar 1) (rVal (dVar 4) (rNil))))) (vCons (dV (dCal2 2 F_exponent_of (rVal (dVar 1) (rVal (dVar 5) (rNil))))) (vNil))))
    (dSeq (dIf (dTst (dBin neD1 (oD (dLst (vCons (dVar 6) (vCons (dVar 7) (vNil))))) (oD (dLst (vCons (dV (dCal2 2 F_q_ra_exponent (rVal (dVar 1) (rVal (dVar 4) (rNil))))) (vCons (dV (dCal2 2 F_q_ra_exponent (rVal (dVar 1) (rVal (dVar 5) (rNil))))) (vNil))))))) (dRet (dC (.bl false))) (SR.nx))
    (dSeq (dIf (dOr (dTst (dBin neD1 (oD (dV (dCal2 2 F_exponent_of (rVal (dVar 1) (rVal (dV (dCal2 2 F_times (rVal (dVar 4) (rVal (dVar 5) (rNil))))) (rNil)))))) (oD (dBin addD (oVar 6) (oVar 7))))) (dTst (dBin neD1 (oD (dV (dCal2 2 F_exponent_of (rVal (dVar 1) (rVal (dV (dCal2 2 F_over (rVal (dVar 4) (rVal (dVar 5) (rNil))))) (rNil)))))) (oD (dBin subD (oVar 6) (oVar 7)))))) (dRet (dC (.bl false))) (SR.nx))
    (dSeq (dSet 8 (dV (dCal2 2 F_plus (rVal (dVar 4) (rVal (dVar 5) (rNil))))))
    (dSeq (dIf (dTst (dBin eqD1 (oD (dBin ixD (oVar 8) (oD (dC (.int 0))))) (oD (dC (.int 0))))) (dRet (dBin eqD1 (oVar 6) (oVar 7))) (SR.nx))
    (dRet (dAndV (dBin geD (oD (dV (dCal2 2 F_exponent_of (rVal (dVar 1) (rVal (dVar 8) (rNil)))))) (oD (dCal min2D (aCons (oVar 6) (aCons (oVar 7) (aNil)))))) (dOrV (dBin eqD1 (oVar 6) (oVar 7)) (dBin eqD1 (oD (dV (dCal2 2 F_exponent_of (rVal (dVar 1) (rVal (dVar 8) (rNil)))))) (oD (dCal min2D (aCons (oVar 6) (aCons (oVar 7) (aNil)))))))))))))))))))
def F_q_exponents_right : Fn := fun as => fnRes as (B_q_exponents_right (fuel as) (startE 9 as))
def B_law (n : Nat) : DEnv → SR := dSeq (dForS (sRng1 (vCons (dCal max2D (aCons (oD (dC (.int 1))) (aCons (oD (dCal min2D (aCons (oD (dC (.int 3))) (aCons (oD (dCal lenD (aCons (oVar 0) (aNil)))) (aNil))))) (aNil)))) (vNil))) (setV 1) (dSeq (dSetF 2 (dN (dCal2 2 F_q_bag (rVal (dVar 0) (rVal (dVar 1) (rNil))))))
    (dSeq (dIf (dOr (dNot (dTst (dV (dCal2 1 F_q_judged_right (rIo 2 (rNil)))))) (dNot (dTst (dV (dCal2 1 F_q_lowered_right (rIo 2 (rNil))))))) (dRet (dC (.bl false))) (SR.nx))
    (dForS (sRng1 (vCons (dC (.int 3)) (vNil))) (setV 3) (dIf (dOr (dNot (dTst (dV (dCal2 1 F_q_reckoned_right (rIo 2 (rNil)))))) (dOr (dNot (dTst (dV (dCal2 1 F_q_floors_right (rIo 2 (rNil)))))) (dNot (dTst (dV (dCal2 1 F_q_exponents_right (rIo 2 (rNil)))))))) (dRet (dC (.bl false))) (SR.nx))))))
    (dSeq (dSet 4 (dLst (vCons (dV (dCal2 2 F_lowest (rVal (dC (.int 4)) (rVal (dUn negD (oD (dC (.int 6)))) (rNil))))) (vCons (dV (dCal2 2 F_plus (rVal (dTup (vCons (dC (.int 1)) (vCons (dC (.int 2)) (vNil)))) (rVal (dTup (vCons (dC (.int 1)) (vCons (dC (.int 3)) (vNil)))) (rNil))))) (vCons (dV (dCal2 2 F_over (rVal (dTup (vCons (dC (.int 1)) (vCons (dC (.int 2)) (vNil)))) (rVal (dTup (vCons (dUn negD (oD (dC (.int 1)))) (vCons (dC (.int 3)) (vNil)))) (rNil))))) (vCons (dV (dCal2 2 F_compare (rVal (dTup (vCons (dC (.int 1)) (vCons (dC (.int 3)) (vNil)))) (rVal (dTup (vCons (dC (.int 3)) (vCons (dC (.int 8)) (vNil)))) (rNil))))) (vCons (dV (dCal2 1 F_part_of (rVal (dTup (vCons (dUn negD (oD (dC (.int 1)))) (vCons (dC (.int 3)) (vNil)))) (rNil)))) (vCons (dV (dCal2 1 F_part_of (rVal (dTup (vCons (dC (.int 3)) (vCons (dC (.int 1)) (vNil)))) (rNil)))) (vNil)))))))))
    (dSeq (dIf (dTst (dBin neD1 (oVar 4) (oD (dLst (vCons (dTup (vCons (dUn negD (oD (dC (.int 2)))) (vCons (dC (.int 3)) (vNil)))) (vCons (dTup (vCons (dC (.int 5)) (vCons (dC (.int 6)) (vNil)))) (vCons (dTup (vCons (dUn negD (oD (dC (.int 3)))) (vCons (dC (.int 2)) (vNil)))) (vCons (dUn negD (oD (dC (.int 1)))) (vCons (dTup (vCons (dC (.int 2)) (vCons (dC (.int 3)) (vNil)))) (vCons (dTup (vCons (dC (.int 1)) (vCons (dC (.int 1)) (vNil)))) (vNil))))))))))) (dRet (dC (.bl false))) (SR.nx))
    (dRet (dBin eqD1 (oD (dLst (vCons (dV (dCal2 1 F_floor_of (rVal (dTup (vCons (dUn negD (oD (dC (.int 1)))) (vCons (dC (.int 2)) (vNil)))) (rNil)))) (vCons (dV (dCal2 1 F_ceiling_of (rVal (dTup (vCons (dC (.int 7)) (vCons (dC (.int 2)) (vNil)))) (rNil)))) (vCons (dV (dCal2 2 F_exponent_of (rVal (dC (.int 2)) (rVal (dTup (vCons (dC (.int 12)) (vCons (dC (.int 7)) (vNil)))) (rNil))))) (vCons (dV (dCal2 2 F_exponent_of (rVal (dC (.int 7)) (rVal (dTup (vCons (dUn negD (oD (dC (.int 3)))) (vCons (dC (.int 49)) (vNil)))) (rNil))))) (vCons (dV (dCal2 2 F_minus (rVal (dTup (vCons (dC (.int 1)) (vCons (dC (.int 2)) (vNil)))) (rVal (dTup (vCons (dC (.int 1)) (vCons (dC (.int 2)) (vNil)))) (rNil))))) (vNil)))))))) (oD (dLst (vCons (dUn negD (oD (dC (.int 1)))) (vCons (dC (.int 4)) (vCons (dC (.int 2)) (vCons (dUn negD (oD (dC (.int 2)))) (vCons (dTup (vCons (dC (.int 0)) (vCons (dC (.int 1)) (vNil)))) (vNil))))))))))))
def F_law : Fn := fun as => fnRes as (B_law (fuel as) (startE 5 as))
/-! ### the names behind the top -/
structure Txt (mg : Str → Option Value) : Prop where
  b_abs : mg "abs" = none
  b_bool : mg "bool" = none
  b_int : mg "int" = none
  b_isinstance : mg "isinstance" = none
  b_len : mg "len" = none
  b_max : mg "max" = none
  b_min : mg "min" = none
  b_range : mg "range" = none
  b_repr : mg "repr" = none
  b_sum : mg "sum" = none
  b_tuple : mg "tuple" = none
  c_MAX_INTEGER : ∃ t, mg "MAX_INTEGER" = some (.int 999999999999999999999999999999999999999999999999999999999999 t)
  c_MAX_PRIME : ∃ t, mg "MAX_PRIME" = some (.int 1000000 t)
  m_gcd : mg "gcd" = some (.builtin "math.gcd")
  m_isqrt : mg "isqrt" = some (.builtin "math.isqrt")
section
variable {P : Program} {w : World} {K : PySem.W.Frag} {mg : Str → Option Value} {base : Heap}
theorem d_q_bag (T : Txt mg)  {f : Addr} {n : Nat} {cdv : Value} {A : Around} {outer : List Env} {s : Shared} {H : Hp} {E : XK} (hr : Room 0 (A.deeper (envOfC "_law_bag" (defScope s_q_bag) s.heap.objs.size f cdv))) :
    DSs (cxOf (L2.CX P w) P w K mg base ["_law_script", "_law_spot", "_law_cell", "_law_great", "_law_mixed"] "_law_bag" (defScope s_q_bag) f cdv A outer s H E) (fun cls d _ H => E cls d H) (defBody s_q_bag) (B_q_bag n) := by
  have S := sc_q_bag
  have tk : Takes (cxOf (L2.CX P w) P w K mg base ["_law_script", "_law_spot", "_law_cell", "_law_great", "_law_mixed"] "_law_bag" (defScope s_q_bag) f cdv A outer s H E) (fun cls d _ H => E cls d H) := takes_of rfl rfl rfl rfl
  have hu := hr.units
  exact dss_cons (ds_set (i := 2) S.nd rfl (.inl rfl) (de_ifExp (dt_cmp op_lt ops_b0 (do_var (pv 1)) (do_val (de_callB call_len_seq cas_len (by rfl) T.b_len PySem.boot_len (da_cons (do_var (pv 0)) (da_nil)))) (nomark _)) (de_ix (do_var (pv 0)) (do_var (pv 1))) (de_bin (op_add.or (op_cat.or op_catA)) (ops_or ops_i0 (ops_or ops_catL ops_catT)) (do_val (de_bin (op_add.or (op_cat.or op_catA)) (ops_or ops_i0 (ops_or ops_catL ops_catT)) (do_val (de_callB (cr_sum rfl) cas_sum (by rfl) T.b_sum boot_sum (da_cons (do_val (de_cut (do_var (pv 0)) cp_no cp_int)) (da_nil)))) (do_val (de_bin (op_mulW.or (op_rep.or op_repT)) (ops_or (ops_ic mul_ok) (ops_or ops_repL ops_repT)) (do_val (de_int)) (do_var (pv 1)))))) (do_val (de_int)))))
    (dss_cons (ds_set (i := 3) S.nd rfl (.inl rfl) (de_bin op_modN (ops_ic fun _ _ h => of_decide_eq_true h) (do_val (de_callTy call_int1 cas_int (by rfl) T.b_int boot_int (da_cons (do_val (de_callB call_abs cas_abs (by rfl) T.b_abs boot_abs (da_cons (do_var (pv 2)) (da_nil)))) (da_nil)))) (do_val (de_bin op_powG (ops_ic fun _ _ h => cPow_ok h) (do_val (de_bin op_powG (ops_ic fun _ _ h => cPow_ok h) (do_val (de_int)) (do_val (de_int)))) (do_val (de_int))))))
    (dss_cons (ds_set (i := 4) S.nd rfl (.inl rfl) (de_bin (op_add.or (op_cat.or op_catA)) (ops_or ops_i0 (ops_or ops_catL ops_catT)) (do_val (de_bin (op_add.or (op_cat.or op_catA)) (ops_or ops_i0 (ops_or ops_catL ops_catT)) (do_val (de_bin (op_add.or (op_cat.or op_catA)) (ops_or ops_i0 (ops_or ops_catL ops_catT)) (do_val (de_bin (op_mulW.or (op_rep.or op_repT)) (ops_or (ops_ic mul_ok) (ops_or ops_repL ops_repT)) (do_val (de_bin op_modN (ops_ic fun _ _ h => of_decide_eq_true h) (do_val (de_callTy call_int1 cas_int (by rfl) T.b_int boot_int (da_cons (do_var (pv 3)) (da_nil)))) (do_val (de_int)))) (do_val (de_int)))) (do_val (de_bin (op_mulW.or (op_rep.or op_repT)) (ops_or (ops_ic mul_ok) (ops_or ops_repL ops_repT)) (do_val (de_int)) (do_var (pv 1)))))) (do_val (de_bin (op_mulW.or (op_rep.or op_repT)) (ops_or (ops_ic mul_ok) (ops_or ops_repL ops_repT)) (do_val (de_int)) (do_val (de_callTy call_int1 cas_int (by rfl) T.b_int boot_int (da_cons (do_val (de_cmp op_lt ops_b0 (do_var (pv 2)) (do_val (de_int)) (nomark _))) (da_nil)))))))) (do_val (de_int))))
    (dss_one (ds_retF (df_lst (dv_cons (de_callB (call_max2 rfl) cas_max2 (by rfl) T.b_max boot_max (da_cons (do_val (de_int)) (da_cons (do_val (de_bin op_sub ops_i0 (do_var (pv 3)) (do_val (de_bin op_powG (ops_ic fun _ _ h => cPow_ok h) (do_val (de_int)) (do_val (de_int)))))) (da_nil)))) (dv_cons (de_bin op_modN (ops_ic fun _ _ h => of_decide_eq_true h) (do_val (de_callTy call_int1 cas_int (by rfl) T.b_int boot_int (da_cons (do_var (pv 4)) (da_nil)))) (do_val (de_int))) (dv_cons (de_int) (dv_nil)))))))))
theorem d_is_long_integer (T : Txt mg)  {f : Addr} {n : Nat} {cdv : Value} {A : Around} {outer : List Env} {s : Shared} {H : Hp} {E : XK} (hr : Room 0 (A.deeper (envOfC "is_long_integer" (defScope s_is_long_integer) s.heap.objs.size f cdv))) :
    DSs (cxOf (L2.CX P w) P w K mg base ["value"] "is_long_integer" (defScope s_is_long_integer) f cdv A outer s H E) (fun cls d _ H => E cls d H) (defBody s_is_long_integer) (B_is_long_integer n) := by
  have S := sc_is_long_integer
  have tk : Takes (cxOf (L2.CX P w) P w K mg base ["value"] "is_long_integer" (defScope s_is_long_integer) f cdv A outer s H E) (fun cls d _ H => E cls d H) := takes_of rfl rfl rfl rfl
  have hu := hr.units
  exact dss_one (ds_ret (de_and (de_isi (do_var (pv 0)) (pe_tyn (T := "int") (by rfl) T.b_int boot_int) (by rfl) T.b_isinstance boot_isinstance) (de_one (de_not (de_isi (do_var (pv 0)) (pe_tyn (T := "bool") (by rfl) T.b_bool boot_bool) (by rfl) T.b_isinstance boot_isinstance)))))
theorem d_is_integer (T : Txt mg) (h_is_long_integer : Has P w K mg base "is_long_integer" 1 ["value"] F_is_long_integer) {f : Addr} {n : Nat} {cdv : Value} {A : Around} {outer : List Env} {s : Shared} {H : Hp} {E : XK} (hr : Room 1 (A.deeper (envOfC "is_integer" (defScope s_is_integer) s.heap.objs.size f cdv))) :
    DSs (cxOf (L2.CX P w) P w K mg base ["value"] "is_integer" (defScope s_is_integer) f cdv A outer s H E) (fun cls d _ H => E cls d H) (defBody s_is_integer) (B_is_integer n) := by
  have S := sc_is_integer
  have tk : Takes (cxOf (L2.CX P w) P w K mg base ["value"] "is_integer" (defScope s_is_integer) f cdv A outer s H E) (fun cls d _ H => E cls d H) := takes_of rfl rfl rfl rfl
  have hu := hr.units
  exact dss_one (ds_ret (de_and (dx_de (dx_has h_is_long_integer hr (by decide) tk (by rfl) (dr_val (de_var (pv 0)) (dr_nil)))) (de_one (de_cmp op_le ops_b0 (do_val (de_callB call_abs cas_abs (by rfl) T.b_abs boot_abs (da_cons (do_var (pv 0)) (da_nil)))) (do_val (de_gint (by rfl) T.c_MAX_INTEGER.choose_spec)) (nomark _)))))
theorem d_is_between (T : Txt mg) (h_is_integer : Has P w K mg base "is_integer" 2 ["value"] F_is_integer) {f : Addr} {n : Nat} {cdv : Value} {A : Around} {outer : List Env} {s : Shared} {H : Hp} {E : XK} (hr : Room 2 (A.deeper (envOfC "is_between" (defScope s_is_between) s.heap.objs.size f cdv))) :
    DSs (cxOf (L2.CX P w) P w K mg base ["value", "least", "most"] "is_between" (defScope s_is_between) f cdv A outer s H E) (fun cls d _ H => E cls d H) (defBody s_is_between) (B_is_between n) := by
  have S := sc_is_between
  have tk : Takes (cxOf (L2.CX P w) P w K mg base ["value", "least", "most"] "is_between" (defScope s_is_between) f cdv A outer s H E) (fun cls d _ H => E cls d H) := takes_of rfl rfl rfl rfl
  have hu := hr.units
  exact dss_one (ds_ret (de_and (dx_de (dx_has h_is_integer hr (by decide) tk (by rfl) (dr_val (de_var (pv 0)) (dr_nil)))) (de_one (de_chain op_le op_le ops_b0 ops_b0 (do_var (pv 1)) (do_var (pv 0)) (do_var (pv 2))))))
theorem d_check_number (T : Txt mg) (h_is_between : Has P w K mg base "is_between" 3 ["value", "least", "most"] F_is_between) {f : Addr} {n : Nat} {cdv : Value} {A : Around} {outer : List Env} {s : Shared} {H : Hp} {E : XK} (hr : Room 3 (A.deeper (envOfC "check_number" (defScope s_check_number) s.heap.objs.size f cdv))) :
    DSs (cxOf (L2.CX P w) P w K mg base ["given", "least", "most"] "check_number" (defScope s_check_number) f cdv A outer s H E) (fun cls d _ H => E cls d H) (defBody s_check_number) (B_check_number n) := by
  have S := sc_check_number
  have tk : Takes (cxOf (L2.CX P w) P w K mg base ["given", "least", "most"] "check_number" (defScope s_check_number) f cdv A outer s H E) (fun cls d _ H => E cls d H) := takes_of rfl rfl rfl rfl
  have hu := hr.units
  exact dss_one (ds_if (dt_not (dt_val (dx_de (dx_has h_is_between hr (by decide) tk (by rfl) (dr_val (de_var (pv 0)) (dr_val (de_var (pv 1)) (dr_val (de_var (pv 2)) (dr_nil)))))))) (dss_one (ds_never)) (dss_nil))
theorem d_reduced (T : Txt mg)  {f : Addr} {n : Nat} {cdv : Value} {A : Around} {outer : List Env} {s : Shared} {H : Hp} {E : XK} (hr : Room 0 (A.deeper (envOfC "reduced" (defScope s_reduced) s.heap.objs.size f cdv))) :
    DSs (cxOf (L2.CX P w) P w K mg base ["top", "bottom", "divisor"] "reduced" (defScope s_reduced) f cdv A outer s H E) (fun cls d _ H => E cls d H) (defBody s_reduced) (B_reduced n) := by
  have S := sc_reduced
  have tk : Takes (cxOf (L2.CX P w) P w K mg base ["top", "bottom", "divisor"] "reduced" (defScope s_reduced) f cdv A outer s H E) (fun cls d _ H => E cls d H) := takes_of rfl rfl rfl rfl
  have hu := hr.units
  exact dss_cons (ds_set (i := 2) S.nd rfl (.inl rfl) (de_callM cr_gcd cas_gcd (by rfl) T.m_gcd (da_cons (do_var (pv 0)) (da_cons (do_var (pv 1)) (da_nil)))))
    (dss_cons (ds_if (dt_cmp op_lt ops_b0 (do_var (pv 1)) (do_val (de_int)) (nomark _)) (dss_one (ds_set (i := 2) S.nd rfl (.inl rfl) (de_un un_neg uns_neg (do_var (pv 2))))) (dss_nil))
    (dss_one (ds_ret (de_tup (dv_cons (de_bin op_fdivG (ops_ic fun _ _ h => cDiv_ok h) (do_var (pv 0)) (do_var (pv 2))) (dv_cons (de_bin op_fdivG (ops_ic fun _ _ h => cDiv_ok h) (do_var (pv 1)) (do_var (pv 2))) (dv_nil)))))))
theorem d_lowest (T : Txt mg) (h_check_number : Has P w K mg base "check_number" 4 ["given", "least", "most"] F_check_number) (h_reduced : Has P w K mg base "reduced" 1 ["top", "bottom"] F_reduced) {f : Addr} {n : Nat} {cdv : Value} {A : Around} {outer : List Env} {s : Shared} {H : Hp} {E : XK} (hr : Room 4 (A.deeper (envOfC "lowest" (defScope s_lowest) s.heap.objs.size f cdv))) :
    DSs (cxOf (L2.CX P w) P w K mg base ["top", "bottom"] "lowest" (defScope s_lowest) f cdv A outer s H E) (fun cls d _ H => E cls d H) (defBody s_lowest) (B_lowest n) := by
  have S := sc_lowest
  have tk : Takes (cxOf (L2.CX P w) P w K mg base ["top", "bottom"] "lowest" (defScope s_lowest) f cdv A outer s H E) (fun cls d _ H => E cls d H) := takes_of rfl rfl rfl rfl
  have hu := hr.units
  exact dss_cons (ds_expr (dx_de (dx_has h_check_number hr (by decide) tk (by rfl) (dr_val (de_var (pv 0)) (dr_val (de_un un_neg uns_neg (do_val (de_gint (by rfl) T.c_MAX_INTEGER.choose_spec))) (dr_val (de_gint (by rfl) T.c_MAX_INTEGER.choose_spec) (dr_nil)))))))
    (dss_cons (ds_expr (dx_de (dx_has h_check_number hr (by decide) tk (by rfl) (dr_val (de_var (pv 1)) (dr_val (de_un un_neg uns_neg (do_val (de_gint (by rfl) T.c_MAX_INTEGER.choose_spec))) (dr_val (de_gint (by rfl) T.c_MAX_INTEGER.choose_spec) (dr_nil)))))))
    (dss_cons (ds_if (dt_cmp (op_eqD hu) ops_eq1 (do_var (pv 1)) (do_val (de_int)) (nomark _)) (dss_one (ds_never)) (dss_nil))
    (dss_one (ds_ret (dx_de (dx_has h_reduced hr (by decide) tk (by rfl) (dr_val (de_var (pv 0)) (dr_val (de_var (pv 1)) (dr_nil)))))))))
theorem d_is_long_pair (T : Txt mg) (h_is_long_integer : Has P w K mg base "is_long_integer" 1 ["value"] F_is_long_integer) {f : Addr} {n : Nat} {cdv : Value} {A : Around} {outer : List Env} {s : Shared} {H : Hp} {E : XK} (hr : Room 1 (A.deeper (envOfC "is_long_pair" (defScope s_is_long_pair) s.heap.objs.size f cdv))) :
    DSs (cxOf (L2.CX P w) P w K mg base ["value"] "is_long_pair" (defScope s_is_long_pair) f cdv A outer s H E) (fun cls d _ H => E cls d H) (defBody s_is_long_pair) (B_is_long_pair n) := by
  have S := sc_is_long_pair
  have tk : Takes (cxOf (L2.CX P w) P w K mg base ["value"] "is_long_pair" (defScope s_is_long_pair) f cdv A outer s H E) (fun cls d _ H => E cls d H) := takes_of rfl rfl rfl rfl
  have hu := hr.units
  exact dss_one (ds_ret (de_and (de_isi (do_var (pv 0)) (pe_tyn (T := "tuple") (by rfl) T.b_tuple boot_tuple) (by rfl) T.b_isinstance boot_isinstance) (de_and (de_cmp (op_eqD hu) ops_eq1 (do_val (de_callB call_len_seq cas_len (by rfl) T.b_len PySem.boot_len (da_cons (do_var (pv 0)) (da_nil)))) (do_val (de_int)) (nomark _)) (de_and (dx_de (dx_has h_is_long_integer hr (by decide) tk (by rfl) (dr_val (de_ix (do_var (pv 0)) (do_val (de_int))) (dr_nil)))) (de_one (dx_de (dx_has h_is_long_integer hr (by decide) tk (by rfl) (dr_val (de_ix (do_var (pv 0)) (do_val (de_int))) (dr_nil)))))))))
theorem d_is_long_ratio (T : Txt mg) (h_is_long_pair : Has P w K mg base "is_long_pair" 2 ["value"] F_is_long_pair) {f : Addr} {n : Nat} {cdv : Value} {A : Around} {outer : List Env} {s : Shared} {H : Hp} {E : XK} (hr : Room 2 (A.deeper (envOfC "is_long_ratio" (defScope s_is_long_ratio) s.heap.objs.size f cdv))) :
    DSs (cxOf (L2.CX P w) P w K mg base ["value"] "is_long_ratio" (defScope s_is_long_ratio) f cdv A outer s H E) (fun cls d _ H => E cls d H) (defBody s_is_long_ratio) (B_is_long_ratio n) := by
  have S := sc_is_long_ratio
  have tk : Takes (cxOf (L2.CX P w) P w K mg base ["value"] "is_long_ratio" (defScope s_is_long_ratio) f cdv A outer s H E) (fun cls d _ H => E cls d H) := takes_of rfl rfl rfl rfl
  have hu := hr.units
  exact dss_one (ds_ret (de_and (dx_de (dx_has h_is_long_pair hr (by decide) tk (by rfl) (dr_val (de_var (pv 0)) (dr_nil)))) (de_and (de_cmp op_gt ops_b0 (do_val (de_ix (do_var (pv 0)) (do_val (de_int)))) (do_val (de_int)) (nomark _)) (de_one (de_cmp (op_eqD hu) ops_eq1 (do_val (de_callM cr_gcd cas_gcd (by rfl) T.m_gcd (da_cons (do_val (de_ix (do_var (pv 0)) (do_val (de_int)))) (da_cons (do_val (de_ix (do_var (pv 0)) (do_val (de_int)))) (da_nil))))) (do_val (de_int)) (nomark _))))))
theorem d_is_ratio (T : Txt mg) (h_is_long_ratio : Has P w K mg base "is_long_ratio" 3 ["value"] F_is_long_ratio) (h_is_integer : Has P w K mg base "is_integer" 2 ["value"] F_is_integer) {f : Addr} {n : Nat} {cdv : Value} {A : Around} {outer : List Env} {s : Shared} {H : Hp} {E : XK} (hr : Room 3 (A.deeper (envOfC "is_ratio" (defScope s_is_ratio) s.heap.objs.size f cdv))) :
    DSs (cxOf (L2.CX P w) P w K mg base ["value"] "is_ratio" (defScope s_is_ratio) f cdv A outer s H E) (fun cls d _ H => E cls d H) (defBody s_is_ratio) (B_is_ratio n) := by
  have S := sc_is_ratio
  have tk : Takes (cxOf (L2.CX P w) P w K mg base ["value"] "is_ratio" (defScope s_is_ratio) f cdv A outer s H E) (fun cls d _ H => E cls d H) := takes_of rfl rfl rfl rfl
  have hu := hr.units
  exact dss_one (ds_ret (de_and (dx_de (dx_has h_is_long_ratio hr (by decide) tk (by rfl) (dr_val (de_var (pv 0)) (dr_nil)))) (de_and (dx_de (dx_has h_is_integer hr (by decide) tk (by rfl) (dr_val (de_ix (do_var (pv 0)) (do_val (de_int))) (dr_nil)))) (de_one (dx_de (dx_has h_is_integer hr (by decide) tk (by rfl) (dr_val (de_ix (do_var (pv 0)) (do_val (de_int))) (dr_nil))))))))
theorem d_check_ratio (T : Txt mg) (h_is_ratio : Has P w K mg base "is_ratio" 4 ["value"] F_is_ratio) {f : Addr} {n : Nat} {cdv : Value} {A : Around} {outer : List Env} {s : Shared} {H : Hp} {E : XK} (hr : Room 4 (A.deeper (envOfC "check_ratio" (defScope s_check_ratio) s.heap.objs.size f cdv))) :
    DSs (cxOf (L2.CX P w) P w K mg base ["ratio"] "check_ratio" (defScope s_check_ratio) f cdv A outer s H E) (fun cls d _ H => E cls d H) (defBody s_check_ratio) (B_check_ratio n) := by
  have S := sc_check_ratio
  have tk : Takes (cxOf (L2.CX P w) P w K mg base ["ratio"] "check_ratio" (defScope s_check_ratio) f cdv A outer s H E) (fun cls d _ H => E cls d H) := takes_of rfl rfl rfl rfl
  have hu := hr.units
  exact dss_one (ds_if (dt_not (dt_val (dx_de (dx_has h_is_ratio hr (by decide) tk (by rfl) (dr_val (de_var (pv 0)) (dr_nil)))))) (dss_one (ds_never)) (dss_nil))
theorem d_check_ratios (T : Txt mg) (h_check_ratio : Has P w K mg base "check_ratio" 5 ["ratio"] F_check_ratio) {f : Addr} {n : Nat} {cdv : Value} {A : Around} {outer : List Env} {s : Shared} {H : Hp} {E : XK} (hr : Room 5 (A.deeper (envOfC "check_ratios" (defScope s_check_ratios) s.heap.objs.size f cdv))) :
    DSs (cxOf (L2.CX P w) P w K mg base ["one", "other"] "check_ratios" (defScope s_check_ratios) f cdv A outer s H E) (fun cls d _ H => E cls d H) (defBody s_check_ratios) (B_check_ratios n) := by
  have S := sc_check_ratios
  have tk : Takes (cxOf (L2.CX P w) P w K mg base ["one", "other"] "check_ratios" (defScope s_check_ratios) f cdv A outer s H E) (fun cls d _ H => E cls d H) := takes_of rfl rfl rfl rfl
  have hu := hr.units
  exact dss_cons (ds_expr (dx_de (dx_has h_check_ratio hr (by decide) tk (by rfl) (dr_val (de_var (pv 0)) (dr_nil)))))
    (dss_one (ds_expr (dx_de (dx_has h_check_ratio hr (by decide) tk (by rfl) (dr_val (de_var (pv 1)) (dr_nil))))))
theorem d_plus (T : Txt mg) (h_check_ratios : Has P w K mg base "check_ratios" 6 ["one", "other"] F_check_ratios) (h_reduced : Has P w K mg base "reduced" 1 ["top", "bottom"] F_reduced) {f : Addr} {n : Nat} {cdv : Value} {A : Around} {outer : List Env} {s : Shared} {H : Hp} {E : XK} (hr : Room 6 (A.deeper (envOfC "plus" (defScope s_plus) s.heap.objs.size f cdv))) :
    DSs (cxOf (L2.CX P w) P w K mg base ["one", "other"] "plus" (defScope s_plus) f cdv A outer s H E) (fun cls d _ H => E cls d H) (defBody s_plus) (B_plus n) := by
  have S := sc_plus
  have tk : Takes (cxOf (L2.CX P w) P w K mg base ["one", "other"] "plus" (defScope s_plus) f cdv A outer s H E) (fun cls d _ H => E cls d H) := takes_of rfl rfl rfl rfl
  have hu := hr.units
  exact dss_cons (ds_expr (dx_de (dx_has h_check_ratios hr (by decide) tk (by rfl) (dr_val (de_var (pv 0)) (dr_val (de_var (pv 1)) (dr_nil))))))
    (dss_one (ds_ret (dx_de (dx_has h_reduced hr (by decide) tk (by rfl) (dr_val (de_bin (op_add.or (op_cat.or op_catA)) (ops_or ops_i0 (ops_or ops_catL ops_catT)) (do_val (de_bin (op_mulW.or (op_rep.or op_repT)) (ops_or (ops_ic mul_ok) (ops_or ops_repL ops_repT)) (do_val (de_ix (do_var (pv 0)) (do_val (de_int)))) (do_val (de_ix (do_var (pv 1)) (do_val (de_int)))))) (do_val (de_bin (op_mulW.or (op_rep.or op_repT)) (ops_or (ops_ic mul_ok) (ops_or ops_repL ops_repT)) (do_val (de_ix (do_var (pv 1)) (do_val (de_int)))) (do_val (de_ix (do_var (pv 0)) (do_val (de_int))))))) (dr_val (de_bin (op_mulW.or (op_rep.or op_repT)) (ops_or (ops_ic mul_ok) (ops_or ops_repL ops_repT)) (do_val (de_ix (do_var (pv 0)) (do_val (de_int)))) (do_val (de_ix (do_var (pv 1)) (do_val (de_int))))) (dr_nil)))))))
theorem d_over (T : Txt mg) (h_check_ratios : Has P w K mg base "check_ratios" 6 ["one", "other"] F_check_ratios) (h_reduced : Has P w K mg base "reduced" 1 ["top", "bottom"] F_reduced) {f : Addr} {n : Nat} {cdv : Value} {A : Around} {outer : List Env} {s : Shared} {H : Hp} {E : XK} (hr : Room 6 (A.deeper (envOfC "over" (defScope s_over) s.heap.objs.size f cdv))) :
    DSs (cxOf (L2.CX P w) P w K mg base ["one", "other"] "over" (defScope s_over) f cdv A outer s H E) (fun cls d _ H => E cls d H) (defBody s_over) (B_over n) := by
  have S := sc_over
  have tk : Takes (cxOf (L2.CX P w) P w K mg base ["one", "other"] "over" (defScope s_over) f cdv A outer s H E) (fun cls d _ H => E cls d H) := takes_of rfl rfl rfl rfl
  have hu := hr.units
  exact dss_cons (ds_expr (dx_de (dx_has h_check_ratios hr (by decide) tk (by rfl) (dr_val (de_var (pv 0)) (dr_val (de_var (pv 1)) (dr_nil))))))
    (dss_cons (ds_if (dt_cmp (op_eqD hu) ops_eq1 (do_val (de_ix (do_var (pv 1)) (do_val (de_int)))) (do_val (de_int)) (nomark _)) (dss_one (ds_never)) (dss_nil))
    (dss_one (ds_ret (dx_de (dx_has h_reduced hr (by decide) tk (by rfl) (dr_val (de_bin (op_mulW.or (op_rep.or op_repT)) (ops_or (ops_ic mul_ok) (ops_or ops_repL ops_repT)) (do_val (de_ix (do_var (pv 0)) (do_val (de_int)))) (do_val (de_ix (do_var (pv 1)) (do_val (de_int))))) (dr_val (de_bin (op_mulW.or (op_rep.or op_repT)) (ops_or (ops_ic mul_ok) (ops_or ops_repL ops_repT)) (do_val (de_ix (do_var (pv 0)) (do_val (de_int)))) (do_val (de_ix (do_var (pv 1)) (do_val (de_int))))) (dr_nil))))))))
theorem d_compare (T : Txt mg) (h_check_ratios : Has P w K mg base "check_ratios" 6 ["one", "other"] F_check_ratios) {f : Addr} {n : Nat} {cdv : Value} {A : Around} {outer : List Env} {s : Shared} {H : Hp} {E : XK} (hr : Room 6 (A.deeper (envOfC "compare" (defScope s_compare) s.heap.objs.size f cdv))) :
    DSs (cxOf (L2.CX P w) P w K mg base ["one", "other", "left", "right"] "compare" (defScope s_compare) f cdv A outer s H E) (fun cls d _ H => E cls d H) (defBody s_compare) (B_compare n) := by
  have S := sc_compare
  have tk : Takes (cxOf (L2.CX P w) P w K mg base ["one", "other", "left", "right"] "compare" (defScope s_compare) f cdv A outer s H E) (fun cls d _ H => E cls d H) := takes_of rfl rfl rfl rfl
  have hu := hr.units
  exact dss_cons (ds_expr (dx_de (dx_has h_check_ratios hr (by decide) tk (by rfl) (dr_val (de_var (pv 0)) (dr_val (de_var (pv 1)) (dr_nil))))))
    (dss_cons (ds_set (i := 2) S.nd rfl (.inl rfl) (de_bin (op_mulW.or (op_rep.or op_repT)) (ops_or (ops_ic mul_ok) (ops_or ops_repL ops_repT)) (do_val (de_ix (do_var (pv 0)) (do_val (de_int)))) (do_val (de_ix (do_var (pv 1)) (do_val (de_int))))))
    (dss_cons (ds_set (i := 3) S.nd rfl (.inl rfl) (de_bin (op_mulW.or (op_rep.or op_repT)) (ops_or (ops_ic mul_ok) (ops_or ops_repL ops_repT)) (do_val (de_ix (do_var (pv 1)) (do_val (de_int)))) (do_val (de_ix (do_var (pv 0)) (do_val (de_int))))))
    (dss_cons (ds_if (dt_cmp (op_eqD hu) ops_eq1 (do_var (pv 2)) (do_var (pv 3)) (nomark _)) (dss_one (ds_ret (de_int))) (dss_nil))
    (dss_one (ds_ret (de_ifExp (dt_cmp op_lt ops_b0 (do_var (pv 2)) (do_var (pv 3)) (nomark _)) (de_un un_neg uns_neg (do_val (de_int))) (de_int)))))))
theorem d_part_of (T : Txt mg) (h_check_ratio : Has P w K mg base "check_ratio" 5 ["ratio"] F_check_ratio) {f : Addr} {n : Nat} {cdv : Value} {A : Around} {outer : List Env} {s : Shared} {H : Hp} {E : XK} (hr : Room 5 (A.deeper (envOfC "part_of" (defScope s_part_of) s.heap.objs.size f cdv))) :
    DSs (cxOf (L2.CX P w) P w K mg base ["ratio", "rest"] "part_of" (defScope s_part_of) f cdv A outer s H E) (fun cls d _ H => E cls d H) (defBody s_part_of) (B_part_of n) := by
  have S := sc_part_of
  have tk : Takes (cxOf (L2.CX P w) P w K mg base ["ratio", "rest"] "part_of" (defScope s_part_of) f cdv A outer s H E) (fun cls d _ H => E cls d H) := takes_of rfl rfl rfl rfl
  have hu := hr.units
  exact dss_cons (ds_expr (dx_de (dx_has h_check_ratio hr (by decide) tk (by rfl) (dr_val (de_var (pv 0)) (dr_nil)))))
    (dss_cons (ds_set (i := 1) S.nd rfl (.inl rfl) (de_bin op_modN (ops_ic fun _ _ h => of_decide_eq_true h) (do_val (de_ix (do_var (pv 0)) (do_val (de_int)))) (do_val (de_ix (do_var (pv 0)) (do_val (de_int))))))
    (dss_one (ds_ret (de_ifExp (dt_cmp op_gt ops_b0 (do_var (pv 1)) (do_val (de_int)) (nomark _)) (de_tup (dv_cons (de_var (pv 1)) (dv_cons (de_ix (do_var (pv 0)) (do_val (de_int))) (dv_nil)))) (de_tup (dv_cons (de_int) (dv_cons (de_int) (dv_nil))))))))
theorem d_floor_of (T : Txt mg) (h_check_ratio : Has P w K mg base "check_ratio" 5 ["ratio"] F_check_ratio) {f : Addr} {n : Nat} {cdv : Value} {A : Around} {outer : List Env} {s : Shared} {H : Hp} {E : XK} (hr : Room 5 (A.deeper (envOfC "floor_of" (defScope s_floor_of) s.heap.objs.size f cdv))) :
    DSs (cxOf (L2.CX P w) P w K mg base ["ratio"] "floor_of" (defScope s_floor_of) f cdv A outer s H E) (fun cls d _ H => E cls d H) (defBody s_floor_of) (B_floor_of n) := by
  have S := sc_floor_of
  have tk : Takes (cxOf (L2.CX P w) P w K mg base ["ratio"] "floor_of" (defScope s_floor_of) f cdv A outer s H E) (fun cls d _ H => E cls d H) := takes_of rfl rfl rfl rfl
  have hu := hr.units
  exact dss_cons (ds_expr (dx_de (dx_has h_check_ratio hr (by decide) tk (by rfl) (dr_val (de_var (pv 0)) (dr_nil)))))
    (dss_one (ds_ret (de_bin op_fdivG (ops_ic fun _ _ h => cDiv_ok h) (do_val (de_ix (do_var (pv 0)) (do_val (de_int)))) (do_val (de_ix (do_var (pv 0)) (do_val (de_int)))))))
theorem d_ceiling (T : Txt mg)  {f : Addr} {n : Nat} {cdv : Value} {A : Around} {outer : List Env} {s : Shared} {H : Hp} {E : XK} (hr : Room 0 (A.deeper (envOfC "ceiling" (defScope s_ceiling) s.heap.objs.size f cdv))) :
    DSs (cxOf (L2.CX P w) P w K mg base ["top", "bottom"] "ceiling" (defScope s_ceiling) f cdv A outer s H E) (fun cls d _ H => E cls d H) (defBody s_ceiling) (B_ceiling n) := by
  have S := sc_ceiling
  have tk : Takes (cxOf (L2.CX P w) P w K mg base ["top", "bottom"] "ceiling" (defScope s_ceiling) f cdv A outer s H E) (fun cls d _ H => E cls d H) := takes_of rfl rfl rfl rfl
  have hu := hr.units
  exact dss_one (ds_ret (de_un un_neg uns_neg (do_val (de_bin op_fdivG (ops_ic fun _ _ h => cDiv_ok h) (do_val (de_un un_neg uns_neg (do_var (pv 0)))) (do_var (pv 1))))))
theorem d_ceiling_of (T : Txt mg) (h_check_ratio : Has P w K mg base "check_ratio" 5 ["ratio"] F_check_ratio) (h_ceiling : Has P w K mg base "ceiling" 1 ["top", "bottom"] F_ceiling) {f : Addr} {n : Nat} {cdv : Value} {A : Around} {outer : List Env} {s : Shared} {H : Hp} {E : XK} (hr : Room 5 (A.deeper (envOfC "ceiling_of" (defScope s_ceiling_of) s.heap.objs.size f cdv))) :
    DSs (cxOf (L2.CX P w) P w K mg base ["ratio"] "ceiling_of" (defScope s_ceiling_of) f cdv A outer s H E) (fun cls d _ H => E cls d H) (defBody s_ceiling_of) (B_ceiling_of n) := by
  have S := sc_ceiling_of
  have tk : Takes (cxOf (L2.CX P w) P w K mg base ["ratio"] "ceiling_of" (defScope s_ceiling_of) f cdv A outer s H E) (fun cls d _ H => E cls d H) := takes_of rfl rfl rfl rfl
  have hu := hr.units
  exact dss_cons (ds_expr (dx_de (dx_has h_check_ratio hr (by decide) tk (by rfl) (dr_val (de_var (pv 0)) (dr_nil)))))
    (dss_one (ds_ret (dx_de (dx_has h_ceiling hr (by decide) tk (by rfl) (dr_val (de_ix (do_var (pv 0)) (do_val (de_int))) (dr_val (de_ix (do_var (pv 0)) (do_val (de_int))) (dr_nil)))))))
theorem d_is_prime (T : Txt mg) (h_is_between : Has P w K mg base "is_between" 3 ["value", "least", "most"] F_is_between) {f : Addr} {n : Nat} {cdv : Value} {A : Around} {outer : List Env} {s : Shared} {H : Hp} {E : XK} (hr : Room 3 (A.deeper (envOfC "is_prime" (defScope s_is_prime) s.heap.objs.size f cdv))) :
    DSs (cxOf (L2.CX P w) P w K mg base ["value", "divisor"] "is_prime" (defScope s_is_prime) f cdv A outer s H E) (fun cls d _ H => E cls d H) (defBody s_is_prime) (B_is_prime n) := by
  have S := sc_is_prime
  have tk : Takes (cxOf (L2.CX P w) P w K mg base ["value", "divisor"] "is_prime" (defScope s_is_prime) f cdv A outer s H E) (fun cls d _ H => E cls d H) := takes_of rfl rfl rfl rfl
  have hu := hr.units
  exact dss_cons (ds_if (dt_not (dt_val (dx_de (dx_has h_is_between hr (by decide) tk (by rfl) (dr_val (de_var (pv 0)) (dr_val (de_int) (dr_val (de_gint (by rfl) T.c_MAX_PRIME.choose_spec) (dr_nil)))))))) (dss_one (ds_ret (de_bl))) (dss_nil))
    (dss_cons (ds_if (dt_bool (dw_or (dt_cmp op_lt ops_b0 (do_var (pv 0)) (do_val (de_int)) (nomark _)) (dw_or (dt_cmp (op_eqD hu) ops_eq1 (do_val (de_bin op_modN (ops_ic fun _ _ h => of_decide_eq_true h) (do_var (pv 0)) (do_val (de_int)))) (do_val (de_int)) (nomark _)) (dw_or1 (dt_cmp (op_eqD hu) ops_eq1 (do_val (de_bin op_modN (ops_ic fun _ _ h => of_decide_eq_true h) (do_var (pv 0)) (do_val (de_int)))) (do_val (de_int)) (nomark _)))))) (dss_one (ds_ret (de_cmp op_lt ops_b0 (do_var (pv 0)) (do_val (de_int)) (nomark _)))) (dss_nil))
    (dss_cons (ds_for (passes_of rfl) rfl (di_rng3 (by rfl) T.b_range (dv_cons (de_int) (dv_cons (de_bin (op_add.or (op_cat.or op_catA)) (ops_or ops_i0 (ops_or ops_catL ops_catT)) (do_val (de_callM call_sqrt cas_sqrt (by rfl) T.m_isqrt (da_cons (do_var (pv 0)) (da_nil)))) (do_val (de_int))) (dv_cons (de_int) (dv_nil))))) (dg_name (i := 1) (pg_name (i := 1) S.nd rfl (.inl rfl))) (dss_one (ds_if (dt_bool (dw_or (dt_cmp (op_eqD hu) ops_eq1 (do_val (de_bin op_modN (ops_ic fun _ _ h => of_decide_eq_true h) (do_var (pv 0)) (do_var (pv 1)))) (do_val (de_int)) (nomark _)) (dw_or1 (dt_cmp (op_eqD hu) ops_eq1 (do_val (de_bin op_modN (ops_ic fun _ _ h => of_decide_eq_true h) (do_var (pv 0)) (do_val (de_bin (op_add.or (op_cat.or op_catA)) (ops_or ops_i0 (ops_or ops_catL ops_catT)) (do_var (pv 1)) (do_val (de_int)))))) (do_val (de_int)) (nomark _))))) (dss_one (ds_ret (de_bl))) (dss_nil))))
    (dss_one (ds_ret (de_bl)))))
theorem d_check_prime (T : Txt mg) (h_is_prime : Has P w K mg base "is_prime" 4 ["value"] F_is_prime) {f : Addr} {n : Nat} {cdv : Value} {A : Around} {outer : List Env} {s : Shared} {H : Hp} {E : XK} (hr : Room 4 (A.deeper (envOfC "check_prime" (defScope s_check_prime) s.heap.objs.size f cdv))) :
    DSs (cxOf (L2.CX P w) P w K mg base ["prime"] "check_prime" (defScope s_check_prime) f cdv A outer s H E) (fun cls d _ H => E cls d H) (defBody s_check_prime) (B_check_prime n) := by
  have S := sc_check_prime
  have tk : Takes (cxOf (L2.CX P w) P w K mg base ["prime"] "check_prime" (defScope s_check_prime) f cdv A outer s H E) (fun cls d _ H => E cls d H) := takes_of rfl rfl rfl rfl
  have hu := hr.units
  exact dss_one (ds_if (dt_not (dt_val (dx_de (dx_has h_is_prime hr (by decide) tk (by rfl) (dr_val (de_var (pv 0)) (dr_nil)))))) (dss_one (ds_never)) (dss_nil))
theorem d_times_within (T : Txt mg)  {f : Addr} {n : Nat} {cdv : Value} {A : Around} {outer : List Env} {s : Shared} {H : Hp} {E : XK} (hr : Room 0 (A.deeper (envOfC "times_within" (defScope s_times_within) s.heap.objs.size f cdv))) :
    DSs (cxOf (L2.CX P w) P w K mg base ["prime", "number", "times", "left"] "times_within" (defScope s_times_within) f cdv A outer s H E) (fun cls d _ H => E cls d H) (defBody s_times_within) (B_times_within n) := by
  have S := sc_times_within
  have tk : Takes (cxOf (L2.CX P w) P w K mg base ["prime", "number", "times", "left"] "times_within" (defScope s_times_within) f cdv A outer s H E) (fun cls d _ H => E cls d H) := takes_of rfl rfl rfl rfl
  have hu := hr.units
  exact dss_cons (ds_set (i := 2) S.nd rfl (.inl rfl) (de_int))
    (dss_cons (ds_set (i := 3) S.nd rfl (.inl rfl) (de_var (pv 1)))
    (dss_cons (ds_while n (passes_of rfl) (dt_cmp (op_eqD hu) ops_eq1 (do_val (de_bin op_modN (ops_ic fun _ _ h => of_decide_eq_true h) (do_var (pv 3)) (do_var (pv 0)))) (do_val (de_int)) (nomark _)) (dss_cons (ds_set (i := 3) S.nd rfl (.inl rfl) (de_bin op_fdivG (ops_ic fun _ _ h => cDiv_ok h) (do_var (pv 3)) (do_var (pv 0))))
    (dss_one (ds_set (i := 2) S.nd rfl (.inl rfl) (de_bin (op_add.or (op_cat.or op_catA)) (ops_or ops_i0 (ops_or ops_catL ops_catT)) (do_var (pv 2)) (do_val (de_int)))))))
    (dss_one (ds_retV (pv 2)))))
theorem d_exponent_of (T : Txt mg) (h_check_prime : Has P w K mg base "check_prime" 5 ["prime"] F_check_prime) (h_check_ratio : Has P w K mg base "check_ratio" 5 ["ratio"] F_check_ratio) (h_times_within : Has P w K mg base "times_within" 1 ["prime", "number"] F_times_within) {f : Addr} {n : Nat} {cdv : Value} {A : Around} {outer : List Env} {s : Shared} {H : Hp} {E : XK} (hr : Room 5 (A.deeper (envOfC "exponent_of" (defScope s_exponent_of) s.heap.objs.size f cdv))) :
    DSs (cxOf (L2.CX P w) P w K mg base ["prime", "ratio"] "exponent_of" (defScope s_exponent_of) f cdv A outer s H E) (fun cls d _ H => E cls d H) (defBody s_exponent_of) (B_exponent_of n) := by
  have S := sc_exponent_of
  have tk : Takes (cxOf (L2.CX P w) P w K mg base ["prime", "ratio"] "exponent_of" (defScope s_exponent_of) f cdv A outer s H E) (fun cls d _ H => E cls d H) := takes_of rfl rfl rfl rfl
  have hu := hr.units
  exact dss_cons (ds_expr (dx_de (dx_has h_check_prime hr (by decide) tk (by rfl) (dr_val (de_var (pv 0)) (dr_nil)))))
    (dss_cons (ds_expr (dx_de (dx_has h_check_ratio hr (by decide) tk (by rfl) (dr_val (de_var (pv 1)) (dr_nil)))))
    (dss_cons (ds_if (dt_cmp (op_eqD hu) ops_eq1 (do_val (de_ix (do_var (pv 1)) (do_val (de_int)))) (do_val (de_int)) (nomark _)) (dss_one (ds_never)) (dss_nil))
    (dss_one (ds_ret (de_bin op_sub ops_i0 (do_val (dx_de (dx_has h_times_within hr (by decide) tk (by rfl) (dr_val (de_var (pv 0)) (dr_val (de_ix (do_var (pv 1)) (do_val (de_int))) (dr_nil)))))) (do_val (dx_de (dx_has h_times_within hr (by decide) tk (by rfl) (dr_val (de_var (pv 0)) (dr_val (de_ix (do_var (pv 1)) (do_val (de_int))) (dr_nil)))))))))))
theorem d_minus (T : Txt mg) (h_check_ratios : Has P w K mg base "check_ratios" 6 ["one", "other"] F_check_ratios) (h_reduced : Has P w K mg base "reduced" 1 ["top", "bottom"] F_reduced) {f : Addr} {n : Nat} {cdv : Value} {A : Around} {outer : List Env} {s : Shared} {H : Hp} {E : XK} (hr : Room 6 (A.deeper (envOfC "minus" (defScope s_minus) s.heap.objs.size f cdv))) :
    DSs (cxOf (L2.CX P w) P w K mg base ["one", "other"] "minus" (defScope s_minus) f cdv A outer s H E) (fun cls d _ H => E cls d H) (defBody s_minus) (B_minus n) := by
  have S := sc_minus
  have tk : Takes (cxOf (L2.CX P w) P w K mg base ["one", "other"] "minus" (defScope s_minus) f cdv A outer s H E) (fun cls d _ H => E cls d H) := takes_of rfl rfl rfl rfl
  have hu := hr.units
  exact dss_cons (ds_expr (dx_de (dx_has h_check_ratios hr (by decide) tk (by rfl) (dr_val (de_var (pv 0)) (dr_val (de_var (pv 1)) (dr_nil))))))
    (dss_one (ds_ret (dx_de (dx_has h_reduced hr (by decide) tk (by rfl) (dr_val (de_bin op_sub ops_i0 (do_val (de_bin (op_mulW.or (op_rep.or op_repT)) (ops_or (ops_ic mul_ok) (ops_or ops_repL ops_repT)) (do_val (de_ix (do_var (pv 0)) (do_val (de_int)))) (do_val (de_ix (do_var (pv 1)) (do_val (de_int)))))) (do_val (de_bin (op_mulW.or (op_rep.or op_repT)) (ops_or (ops_ic mul_ok) (ops_or ops_repL ops_repT)) (do_val (de_ix (do_var (pv 1)) (do_val (de_int)))) (do_val (de_ix (do_var (pv 0)) (do_val (de_int))))))) (dr_val (de_bin (op_mulW.or (op_rep.or op_repT)) (ops_or (ops_ic mul_ok) (ops_or ops_repL ops_repT)) (do_val (de_ix (do_var (pv 0)) (do_val (de_int)))) (do_val (de_ix (do_var (pv 1)) (do_val (de_int))))) (dr_nil)))))))
theorem d_q_grab (T : Txt mg)  {f : Addr} {n : Nat} {cdv : Value} {A : Around} {outer : List Env} {s : Shared} {H : Hp} {E : XK} (hr : Room 0 (A.deeper (envOfC "_law_grab" (defScope s_q_grab) s.heap.objs.size f cdv))) :
    DSs (cxOf (L2.CX P w) P w K mg base ["_law_bag_here", "_law_total", "_law_found", "_law_one", "_law_two"] "_law_grab" (defScope s_q_grab) f cdv A outer s H E) (fun cls d _ H => E cls d H) (defBody s_q_grab) (B_q_grab n) := by
  have S := sc_q_grab
  have tk : Takes (cxOf (L2.CX P w) P w K mg base ["_law_bag_here", "_law_total", "_law_found", "_law_one", "_law_two"] "_law_grab" (defScope s_q_grab) f cdv A outer s H E) (fun cls d _ H => E cls d H) := takes_of rfl rfl rfl rfl
  have hu := hr.units
  exact dss_cons (ds_if (dt_cmp op_gt ops_b0 (do_val (de_ix (do_var (pv 0)) (do_val (de_int)))) (do_val (de_int)) (nomark _)) (dss_cons (ds_set (i := 2) S.nd rfl (.inl rfl) (de_bin op_modN (ops_ic fun _ _ h => of_decide_eq_true h) (do_val (de_callTy call_int1 cas_int (by rfl) T.b_int boot_int (da_cons (do_val (de_ix (do_var (pv 0)) (do_val (de_int)))) (da_nil)))) (do_var (pv 1))))
    (dss_cons (ds_seti (pv 0) (de_int) (de_bin op_fdivG (ops_ic fun _ _ h => cDiv_ok h) (do_val (de_ix (do_var (pv 0)) (do_val (de_int)))) (do_var (pv 1))))
    (dss_one (ds_retV (pv 2))))) (dss_nil))
    (dss_cons (ds_seti (pv 0) (de_int) (de_bin (op_add.or (op_cat.or op_catA)) (ops_or ops_i0 (ops_or ops_catL ops_catT)) (do_val (de_ix (do_var (pv 0)) (do_val (de_int)))) (do_val (de_int))))
    (dss_cons (ds_set (i := 3) S.nd rfl (.inl rfl) (de_bin op_modN (ops_ic fun _ _ h => of_decide_eq_true h) (do_val (de_callTy call_int1 cas_int (by rfl) T.b_int boot_int (da_cons (do_val (de_bin (op_add.or (op_cat.or op_catA)) (ops_or ops_i0 (ops_or ops_catL ops_catT)) (do_val (de_ix (do_var (pv 0)) (do_val (de_int)))) (do_val (de_bin (op_mulW.or (op_rep.or op_repT)) (ops_or (ops_ic mul_ok) (ops_or ops_repL ops_repT)) (do_val (de_int)) (do_val (de_ix (do_var (pv 0)) (do_val (de_int)))))))) (da_nil)))) (do_val (de_int))))
    (dss_cons (ds_set (i := 4) S.nd rfl (.inl rfl) (de_bin (op_add.or (op_cat.or op_catA)) (ops_or ops_i0 (ops_or ops_catL ops_catT)) (do_val (de_bin (op_mulW.or (op_rep.or op_repT)) (ops_or (ops_ic mul_ok) (ops_or ops_repL ops_repT)) (do_val (de_bin op_modN (ops_ic fun _ _ h => of_decide_eq_true h) (do_val (de_callTy call_int1 cas_int (by rfl) T.b_int boot_int (da_cons (do_val (de_bin (op_mulW.or (op_rep.or op_repT)) (ops_or (ops_ic mul_ok) (ops_or ops_repL ops_repT)) (do_var (pv 3)) (do_var (pv 3)))) (da_nil)))) (do_val (de_int)))) (do_var (pv 3)))) (do_val (de_bin (op_mulW.or (op_rep.or op_repT)) (ops_or (ops_ic mul_ok) (ops_or ops_repL ops_repT)) (do_val (de_int)) (do_val (de_ix (do_var (pv 0)) (do_val (de_int))))))))
    (dss_one (ds_ret (de_bin op_modN (ops_ic fun _ _ h => of_decide_eq_true h) (do_val (de_callTy call_int1 cas_int (by rfl) T.b_int boot_int (da_cons (do_val (de_bin op_fdivG (ops_ic fun _ _ h => cDiv_ok h) (do_val (de_bin op_modN (ops_ic fun _ _ h => of_decide_eq_true h) (do_val (de_callTy call_int1 cas_int (by rfl) T.b_int boot_int (da_cons (do_var (pv 4)) (da_nil)))) (do_val (de_int)))) (do_val (de_int)))) (da_nil)))) (do_var (pv 1))))))))
theorem d_q_one_of (T : Txt mg) (h_q_grab : Has P w K mg base "_law_grab" 1 ["_law_bag_here", "_law_total"] F_q_grab) {f : Addr} {n : Nat} {cdv : Value} {A : Around} {outer : List Env} {s : Shared} {H : Hp} {E : XK} (hr : Room 1 (A.deeper (envOfC "_law_one_of" (defScope s_q_one_of) s.heap.objs.size f cdv))) :
    DSs (cxOf (L2.CX P w) P w K mg base ["_law_bag_here", "_law_items"] "_law_one_of" (defScope s_q_one_of) f cdv A outer s H E) (fun cls d _ H => E cls d H) (defBody s_q_one_of) (B_q_one_of n) := by
  have S := sc_q_one_of
  have tk : Takes (cxOf (L2.CX P w) P w K mg base ["_law_bag_here", "_law_items"] "_law_one_of" (defScope s_q_one_of) f cdv A outer s H E) (fun cls d _ H => E cls d H) := takes_of rfl rfl rfl rfl
  have hu := hr.units
  exact dss_one (ds_ret (de_ix (do_var (pv 1)) (do_val (dx_de (dx_has h_q_grab hr (by decide) tk (by rfl) (dr_io (pv 0) (dr_val (de_callB call_len_seq cas_len (by rfl) T.b_len PySem.boot_len (da_cons (do_var (pv 1)) (da_nil))) (dr_nil))))))))
theorem d_q_ra_divisor (T : Txt mg)  {f : Addr} {n : Nat} {cdv : Value} {A : Around} {outer : List Env} {s : Shared} {H : Hp} {E : XK} (hr : Room 0 (A.deeper (envOfC "_law_ra_divisor" (defScope s_q_ra_divisor) s.heap.objs.size f cdv))) :
    DSs (cxOf (L2.CX P w) P w K mg base ["_law_one", "_law_other"] "_law_ra_divisor" (defScope s_q_ra_divisor) f cdv A outer s H E) (fun cls d _ H => E cls d H) (defBody s_q_ra_divisor) (B_q_ra_divisor n) := by
  have S := sc_q_ra_divisor
  have tk : Takes (cxOf (L2.CX P w) P w K mg base ["_law_one", "_law_other"] "_law_ra_divisor" (defScope s_q_ra_divisor) f cdv A outer s H E) (fun cls d _ H => E cls d H) := takes_of rfl rfl rfl rfl
  have hu := hr.units
  exact dss_cons (ds_par rfl S.nd rfl rfl (by decide) (by rfl) (by rfl) (dv_cons (de_callB call_abs cas_abs (by rfl) T.b_abs boot_abs (da_cons (do_var (pv 0)) (da_nil))) (dv_cons (de_callB call_abs cas_abs (by rfl) T.b_abs boot_abs (da_cons (do_var (pv 1)) (da_nil))) (dv_nil))) (by rfl))
    (dss_cons (ds_while n (passes_of rfl) (dt_cmp op_gt ops_b0 (do_var (pv 1)) (do_val (de_int)) (nomark _)) (dss_one (ds_par rfl S.nd rfl rfl (by decide) (by rfl) (by rfl) (dv_cons (de_var (pv 1)) (dv_cons (de_bin op_modN (ops_ic fun _ _ h => of_decide_eq_true h) (do_var (pv 0)) (do_var (pv 1))) (dv_nil))) (by rfl))))
    (dss_one (ds_retV (pv 0))))
theorem d_q_ra_lowest (T : Txt mg) (h_q_ra_divisor : Has P w K mg base "_law_ra_divisor" 1 ["_law_one", "_law_other"] F_q_ra_divisor) {f : Addr} {n : Nat} {cdv : Value} {A : Around} {outer : List Env} {s : Shared} {H : Hp} {E : XK} (hr : Room 1 (A.deeper (envOfC "_law_ra_lowest" (defScope s_q_ra_lowest) s.heap.objs.size f cdv))) :
    DSs (cxOf (L2.CX P w) P w K mg base ["_law_top", "_law_bottom", "_law_share"] "_law_ra_lowest" (defScope s_q_ra_lowest) f cdv A outer s H E) (fun cls d _ H => E cls d H) (defBody s_q_ra_lowest) (B_q_ra_lowest n) := by
  have S := sc_q_ra_lowest
  have tk : Takes (cxOf (L2.CX P w) P w K mg base ["_law_top", "_law_bottom", "_law_share"] "_law_ra_lowest" (defScope s_q_ra_lowest) f cdv A outer s H E) (fun cls d _ H => E cls d H) := takes_of rfl rfl rfl rfl
  have hu := hr.units
  exact dss_cons (ds_set (i := 2) S.nd rfl (.inl rfl) (de_bin (op_mulW.or (op_rep.or op_repT)) (ops_or (ops_ic mul_ok) (ops_or ops_repL ops_repT)) (do_val (dx_de (dx_has h_q_ra_divisor hr (by decide) tk (by rfl) (dr_val (de_var (pv 0)) (dr_val (de_var (pv 1)) (dr_nil)))))) (do_val (de_ifExp (dt_cmp op_gt ops_b0 (do_var (pv 1)) (do_val (de_int)) (nomark _)) (de_int) (de_un un_neg uns_neg (do_val (de_int)))))))
    (dss_one (ds_ret (de_tup (dv_cons (de_bin op_fdivG (ops_ic fun _ _ h => cDiv_ok h) (do_var (pv 0)) (do_var (pv 2))) (dv_cons (de_bin op_fdivG (ops_ic fun _ _ h => cDiv_ok h) (do_var (pv 1)) (do_var (pv 2))) (dv_nil))))))
theorem d_q_ra_drawn (T : Txt mg) (h_q_one_of : Has P w K mg base "_law_one_of" 2 ["_law_bag_here", "_law_items"] F_q_one_of) (h_q_ra_lowest : Has P w K mg base "_law_ra_lowest" 2 ["_law_top", "_law_bottom"] F_q_ra_lowest) (h_q_grab : Has P w K mg base "_law_grab" 1 ["_law_bag_here", "_law_total"] F_q_grab) {f : Addr} {n : Nat} {cdv : Value} {A : Around} {outer : List Env} {s : Shared} {H : Hp} {E : XK} (hr : Room 2 (A.deeper (envOfC "_law_ra_drawn" (defScope s_q_ra_drawn) s.heap.objs.size f cdv))) :
    DSs (cxOf (L2.CX P w) P w K mg base ["_law_bag_here", "_law_high"] "_law_ra_drawn" (defScope s_q_ra_drawn) f cdv A outer s H E) (fun cls d _ H => E cls d H) (defBody s_q_ra_drawn) (B_q_ra_drawn n) := by
  have S := sc_q_ra_drawn
  have tk : Takes (cxOf (L2.CX P w) P w K mg base ["_law_bag_here", "_law_high"] "_law_ra_drawn" (defScope s_q_ra_drawn) f cdv A outer s H E) (fun cls d _ H => E cls d H) := takes_of rfl rfl rfl rfl
  have hu := hr.units
  exact dss_cons (ds_set (i := 1) S.nd rfl (.inl rfl) (dx_de (dx_has h_q_one_of hr (by decide) tk (by rfl) (dr_io (pv 0) (dr_val (de_fresh (df_lst (dv_cons (de_int) (dv_cons (de_int) (dv_cons (de_int) (dv_cons (de_int) (dv_cons (de_bin op_powG (ops_ic fun _ _ h => cPow_ok h) (do_val (de_int)) (do_val (de_int))) (dv_nil)))))))) (dr_nil))))))
    (dss_one (ds_ret (dx_de (dx_has h_q_ra_lowest hr (by decide) tk (by rfl) (dr_val (de_bin op_sub ops_i0 (do_val (dx_de (dx_has h_q_grab hr (by decide) tk (by rfl) (dr_io (pv 0) (dr_val (de_bin (op_add.or (op_cat.or op_catA)) (ops_or ops_i0 (ops_or ops_catL ops_catT)) (do_val (de_bin (op_mulW.or (op_rep.or op_repT)) (ops_or (ops_ic mul_ok) (ops_or ops_repL ops_repT)) (do_val (de_int)) (do_var (pv 1)))) (do_val (de_int))) (dr_nil)))))) (do_var (pv 1))) (dr_val (de_bin (op_add.or (op_cat.or op_catA)) (ops_or ops_i0 (ops_or ops_catL ops_catT)) (do_val (de_int)) (do_val (dx_de (dx_has h_q_grab hr (by decide) tk (by rfl) (dr_io (pv 0) (dr_val (de_var (pv 1)) (dr_nil))))))) (dr_nil)))))))
theorem d_q_ra_short (T : Txt mg)  {f : Addr} {n : Nat} {cdv : Value} {A : Around} {outer : List Env} {s : Shared} {H : Hp} {E : XK} (hr : Room 0 (A.deeper (envOfC "_law_ra_short" (defScope s_q_ra_short) s.heap.objs.size f cdv))) :
    DSs (cxOf (L2.CX P w) P w K mg base ["_law_value"] "_law_ra_short" (defScope s_q_ra_short) f cdv A outer s H E) (fun cls d _ H => E cls d H) (defBody s_q_ra_short) (B_q_ra_short n) := by
  have S := sc_q_ra_short
  have tk : Takes (cxOf (L2.CX P w) P w K mg base ["_law_value"] "_law_ra_short" (defScope s_q_ra_short) f cdv A outer s H E) (fun cls d _ H => E cls d H) := takes_of rfl rfl rfl rfl
  have hu := hr.units
  exact dss_one (ds_ret (de_and (de_isi (do_var (pv 0)) (pe_tyn (T := "int") (by rfl) T.b_int boot_int) (by rfl) T.b_isinstance boot_isinstance) (de_and (de_not (de_isi (do_var (pv 0)) (pe_tyn (T := "bool") (by rfl) T.b_bool boot_bool) (by rfl) T.b_isinstance boot_isinstance)) (de_one (de_cmp op_lt ops_b0 (do_val (de_callB call_abs cas_abs (by rfl) T.b_abs boot_abs (da_cons (do_var (pv 0)) (da_nil)))) (do_val (de_bin op_powG (ops_ic fun _ _ h => cPow_ok h) (do_val (de_int)) (do_val (de_int)))) (nomark _))))))
theorem d_q_ra_is_ratio (T : Txt mg) (h_q_ra_short : Has P w K mg base "_law_ra_short" 1 ["_law_value"] F_q_ra_short) (h_q_ra_divisor : Has P w K mg base "_law_ra_divisor" 1 ["_law_one", "_law_other"] F_q_ra_divisor) {f : Addr} {n : Nat} {cdv : Value} {A : Around} {outer : List Env} {s : Shared} {H : Hp} {E : XK} (hr : Room 1 (A.deeper (envOfC "_law_ra_is_ratio" (defScope s_q_ra_is_ratio) s.heap.objs.size f cdv))) :
    DSs (cxOf (L2.CX P w) P w K mg base ["_law_value"] "_law_ra_is_ratio" (defScope s_q_ra_is_ratio) f cdv A outer s H E) (fun cls d _ H => E cls d H) (defBody s_q_ra_is_ratio) (B_q_ra_is_ratio n) := by
  have S := sc_q_ra_is_ratio
  have tk : Takes (cxOf (L2.CX P w) P w K mg base ["_law_value"] "_law_ra_is_ratio" (defScope s_q_ra_is_ratio) f cdv A outer s H E) (fun cls d _ H => E cls d H) := takes_of rfl rfl rfl rfl
  have hu := hr.units
  exact dss_cons (ds_if (dt_bool (dw_or (dt_not (dt_val (de_isi (do_var (pv 0)) (pe_tyn (T := "tuple") (by rfl) T.b_tuple boot_tuple) (by rfl) T.b_isinstance boot_isinstance))) (dw_or (dt_cmp (op_neD hu) ops_ne1 (do_val (de_callB call_len_seq cas_len (by rfl) T.b_len PySem.boot_len (da_cons (do_var (pv 0)) (da_nil)))) (do_val (de_int)) (nomark _)) (dw_or (dt_not (dt_val (dx_de (dx_has h_q_ra_short hr (by decide) tk (by rfl) (dr_val (de_ix (do_var (pv 0)) (do_val (de_int))) (dr_nil)))))) (dw_or1 (dt_not (dt_val (dx_de (dx_has h_q_ra_short hr (by decide) tk (by rfl) (dr_val (de_ix (do_var (pv 0)) (do_val (de_int))) (dr_nil))))))))))) (dss_one (ds_ret (de_bl))) (dss_nil))
    (dss_one (ds_ret (de_and (de_cmp op_gt ops_b0 (do_val (de_ix (do_var (pv 0)) (do_val (de_int)))) (do_val (de_int)) (nomark _)) (de_one (de_cmp (op_eqD hu) ops_eq1 (do_val (dx_de (dx_has h_q_ra_divisor hr (by decide) tk (by rfl) (dr_val (de_ix (do_var (pv 0)) (do_val (de_int))) (dr_val (de_ix (do_var (pv 0)) (do_val (de_int))) (dr_nil)))))) (do_val (de_int)) (nomark _))))))
theorem d_q_judged_right (T : Txt mg) (h_q_ra_drawn : Has P w K mg base "_law_ra_drawn" 3 ["_law_bag_here"] F_q_ra_drawn) (h_is_ratio : Has P w K mg base "is_ratio" 4 ["value"] F_is_ratio) (h_q_ra_is_ratio : Has P w K mg base "_law_ra_is_ratio" 2 ["_law_value"] F_q_ra_is_ratio) {f : Addr} {n : Nat} {cdv : Value} {A : Around} {outer : List Env} {s : Shared} {H : Hp} {E : XK} (hr : Room 4 (A.deeper (envOfC "_law_judged_right" (defScope s_q_judged_right) s.heap.objs.size f cdv))) :
    DSs (cxOf (L2.CX P w) P w K mg base ["_law_bag_here", "_law_top", "_law_bottom", "_law_values", "_law_value"] "_law_judged_right" (defScope s_q_judged_right) f cdv A outer s H E) (fun cls d _ H => E cls d H) (defBody s_q_judged_right) (B_q_judged_right n) := by
  have S := sc_q_judged_right
  have tk : Takes (cxOf (L2.CX P w) P w K mg base ["_law_bag_here", "_law_top", "_law_bottom", "_law_values", "_law_value"] "_law_judged_right" (defScope s_q_judged_right) f cdv A outer s H E) (fun cls d _ H => E cls d H) := takes_of rfl rfl rfl rfl
  have hu := hr.units
  exact dss_cons (ds_asg (dx_de (dx_has h_q_ra_drawn hr (by decide) tk (by rfl) (dr_io (pv 0) (dr_nil)))) (dg_tup rfl (dgs_cons (dg_name (i := 1) (pg_name (i := 1) S.nd rfl (.inl rfl))) (dgs_cons (dg_name (i := 2) (pg_name (i := 2) S.nd rfl (.inl rfl))) (dgs_nil)))))
    (dss_cons (ds_set (i := 3) S.nd rfl (.inl rfl) (de_fresh (df_lst (dv_cons (de_var (pv 1)) (dv_cons (de_tup (dv_cons (de_var (pv 1)) (dv_cons (de_var (pv 2)) (dv_nil)))) (dv_cons (de_tup (dv_cons (de_var (pv 2)) (dv_cons (de_var (pv 1)) (dv_nil)))) (dv_cons (de_tup (dv_cons (de_bin (op_mulW.or (op_rep.or op_repT)) (ops_or (ops_ic mul_ok) (ops_or ops_repL ops_repT)) (do_val (de_int)) (do_var (pv 1))) (dv_cons (de_bin (op_mulW.or (op_rep.or op_repT)) (ops_or (ops_ic mul_ok) (ops_or ops_repL ops_repT)) (do_val (de_int)) (do_var (pv 2))) (dv_nil)))) (dv_cons (de_tup (dv_cons (de_un un_neg uns_neg (do_var (pv 1))) (dv_cons (de_un un_neg uns_neg (do_var (pv 2))) (dv_nil)))) (dv_cons (de_fresh (df_lst (dv_cons (de_var (pv 1)) (dv_cons (de_var (pv 2)) (dv_nil))))) (dv_cons (de_tup (dv_cons (de_var (pv 1)) (dv_nil))) (dv_cons (de_tup (dv_cons (de_var (pv 1)) (dv_cons (de_var (pv 2)) (dv_cons (de_int) (dv_nil))))) (dv_nil))))))))))))
    (dss_cons (ds_set (i := 3) S.nd rfl (.inl rfl) (de_bin (op_add.or (op_cat.or op_catA)) (ops_or ops_i0 (ops_or ops_catL ops_catT)) (do_var (pv 3)) (do_val (de_fresh (df_lst (dv_cons (de_bl) (dv_cons (de_non) (dv_cons (de_str) (dv_cons (de_tup (dv_cons (de_bl) (dv_cons (de_int) (dv_nil)))) (dv_cons (de_tup (dv_cons (de_int) (dv_cons (de_bl) (dv_nil)))) (dv_cons (de_tup (dv_cons (de_int) (dv_cons (de_int) (dv_nil)))) (dv_cons (de_tup (dv_cons (de_int) (dv_cons (de_int) (dv_nil)))) (dv_cons (de_tup (dv_cons (de_int) (dv_cons (de_int) (dv_nil)))) (dv_cons (de_tup (dv_cons (de_int) (dv_cons (de_int) (dv_nil)))) (dv_cons (de_fresh (df_dic0)) (dv_cons (de_tup (dv_nil)) (dv_cons (de_tup (dv_cons (de_bin op_powG (ops_ic fun _ _ h => cPow_ok h) (do_val (de_int)) (do_val (de_int))) (dv_cons (de_int) (dv_nil)))) (dv_cons (de_tup (dv_cons (de_int) (dv_cons (de_bin op_powG (ops_ic fun _ _ h => cPow_ok h) (do_val (de_int)) (do_val (de_int))) (dv_nil)))) (dv_nil)))))))))))))))))))
    (dss_cons (ds_set (i := 3) S.nd rfl (.inl rfl) (de_bin (op_add.or (op_cat.or op_catA)) (ops_or ops_i0 (ops_or ops_catL ops_catT)) (do_var (pv 3)) (do_val (de_fresh (df_lst (dv_cons (de_tup (dv_cons (de_bin op_sub ops_i0 (do_val (de_bin op_powG (ops_ic fun _ _ h => cPow_ok h) (do_val (de_int)) (do_val (de_int)))) (do_val (de_int))) (dv_cons (de_int) (dv_nil)))) (dv_cons (de_tup (dv_cons (de_un un_neg uns_neg (do_val (de_bin op_powG (ops_ic fun _ _ h => cPow_ok h) (do_val (de_int)) (do_val (de_int))))) (dv_cons (de_int) (dv_nil)))) (dv_cons (de_tup (dv_cons (de_tup (dv_cons (de_int) (dv_cons (de_int) (dv_nil)))) (dv_cons (de_int) (dv_nil)))) (dv_cons (de_tup (dv_cons (de_str) (dv_cons (de_int) (dv_nil)))) (dv_cons (de_tup (dv_cons (de_non) (dv_cons (de_int) (dv_nil)))) (dv_cons (de_tup (dv_cons (de_int) (dv_cons (de_bin op_sub ops_i0 (do_val (de_int)) (do_val (de_bin op_powG (ops_ic fun _ _ h => cPow_ok h) (do_val (de_int)) (do_val (de_int))))) (dv_nil)))) (dv_cons (de_str) (dv_nil)))))))))))))
    (dss_one (ds_ret (de_cmp (op_eqD hu) ops_eq1 (do_val (de_fresh (df_lc (own := [("_law_value", 4)]) rfl S.nd (di_list (de_var (pv 3))) (blkOk_by (by rfl)) rfl (by intro _ _ _ _ _; exact dg_name (i := 4) (pg_name (i := 4) S.nd rfl (.inl rfl))) (by intro _ _ _ _ _; exact dts_one (dt_cmp (op_neD hu) ops_ne1 (do_val (de_callB call_rpr cas_rpr (by rfl) T.b_repr boot_repr (da_cons (do_val (dx_de (dx_hasN h_is_ratio hr (by decide) (by rfl) (dr_val (de_var (pv 4)) (dr_nil))))) (da_nil)))) (do_val (de_callB call_rpr cas_rpr (by rfl) T.b_repr boot_repr (da_cons (do_val (dx_de (dx_hasN h_q_ra_is_ratio hr (by decide) (by rfl) (dr_val (de_var (pv 4)) (dr_nil))))) (da_nil)))) (nomark _))) (by intro _ _ _ _ _; exact de_var (pv 4))))) (do_val (de_fresh (df_lst (dv_nil)))) (nomark _)))))))
theorem d_q_lowered_right (T : Txt mg) (h_q_one_of : Has P w K mg base "_law_one_of" 2 ["_law_bag_here", "_law_items"] F_q_one_of) (h_q_ra_is_ratio : Has P w K mg base "_law_ra_is_ratio" 2 ["_law_value"] F_q_ra_is_ratio) (h_lowest : Has P w K mg base "lowest" 5 ["top", "bottom"] F_lowest) (h_q_ra_lowest : Has P w K mg base "_law_ra_lowest" 2 ["_law_top", "_law_bottom"] F_q_ra_lowest) (h_q_grab : Has P w K mg base "_law_grab" 1 ["_law_bag_here", "_law_total"] F_q_grab) {f : Addr} {n : Nat} {cdv : Value} {A : Around} {outer : List Env} {s : Shared} {H : Hp} {E : XK} (hr : Room 5 (A.deeper (envOfC "_law_lowered_right" (defScope s_q_lowered_right) s.heap.objs.size f cdv))) :
    DSs (cxOf (L2.CX P w) P w K mg base ["_law_bag_here", "_law_share", "_law_high", "_law_top", "_law_bottom"] "_law_lowered_right" (defScope s_q_lowered_right) f cdv A outer s H E) (fun cls d _ H => E cls d H) (defBody s_q_lowered_right) (B_q_lowered_right n) := by
  have S := sc_q_lowered_right
  have tk : Takes (cxOf (L2.CX P w) P w K mg base ["_law_bag_here", "_law_share", "_law_high", "_law_top", "_law_bottom"] "_law_lowered_right" (defScope s_q_lowered_right) f cdv A outer s H E) (fun cls d _ H => E cls d H) := takes_of rfl rfl rfl rfl
  have hu := hr.units
  exact dss_cons (ds_par rfl S.nd rfl rfl (by decide) (by rfl) (by rfl) (dv_cons (dx_de (dx_has h_q_one_of hr (by decide) tk (by rfl) (dr_io (pv 0) (dr_val (de_fresh (df_lst (dv_cons (de_int) (dv_cons (de_int) (dv_cons (de_int) (dv_cons (de_bin op_powG (ops_ic fun _ _ h => cPow_ok h) (do_val (de_int)) (do_val (de_int))) (dv_nil))))))) (dr_nil))))) (dv_cons (dx_de (dx_has h_q_one_of hr (by decide) tk (by rfl) (dr_io (pv 0) (dr_val (de_fresh (df_lst (dv_cons (de_int) (dv_cons (de_int) (dv_cons (de_bin op_powG (ops_ic fun _ _ h => cPow_ok h) (do_val (de_int)) (do_val (de_int))) (dv_nil)))))) (dr_nil))))) (dv_nil))) (by rfl))
    (dss_cons (ds_par rfl S.nd rfl rfl (by decide) (by rfl) (by rfl) (dv_cons (de_bin (op_mulW.or (op_rep.or op_repT)) (ops_or (ops_ic mul_ok) (ops_or ops_repL ops_repT)) (do_var (pv 1)) (do_val (de_bin op_sub ops_i0 (do_val (dx_de (dx_has h_q_grab hr (by decide) tk (by rfl) (dr_io (pv 0) (dr_val (de_bin (op_add.or (op_cat.or op_catA)) (ops_or ops_i0 (ops_or ops_catL ops_catT)) (do_val (de_bin (op_mulW.or (op_rep.or op_repT)) (ops_or (ops_ic mul_ok) (ops_or ops_repL ops_repT)) (do_val (de_int)) (do_var (pv 2)))) (do_val (de_int))) (dr_nil)))))) (do_var (pv 2))))) (dv_cons (de_bin (op_mulW.or (op_rep.or op_repT)) (ops_or (ops_ic mul_ok) (ops_or ops_repL ops_repT)) (do_val (de_bin (op_mulW.or (op_rep.or op_repT)) (ops_or (ops_ic mul_ok) (ops_or ops_repL ops_repT)) (do_var (pv 1)) (do_val (de_bin (op_add.or (op_cat.or op_catA)) (ops_or ops_i0 (ops_or ops_catL ops_catT)) (do_val (de_int)) (do_val (dx_de (dx_has h_q_grab hr (by decide) tk (by rfl) (dr_io (pv 0) (dr_val (de_var (pv 2)) (dr_nil)))))))))) (do_val (dx_de (dx_has h_q_one_of hr (by decide) tk (by rfl) (dr_io (pv 0) (dr_val (de_fresh (df_lst (dv_cons (de_int) (dv_cons (de_un un_neg uns_neg (do_val (de_int))) (dv_nil))))) (dr_nil))))))) (dv_nil))) (by rfl))
    (dss_one (ds_ret (de_and (de_cmp (op_eqD hu) ops_eq1 (do_val (dx_de (dx_has h_lowest hr (by decide) tk (by rfl) (dr_val (de_var (pv 3)) (dr_val (de_var (pv 4)) (dr_nil)))))) (do_val (dx_de (dx_has h_q_ra_lowest hr (by decide) tk (by rfl) (dr_val (de_var (pv 3)) (dr_val (de_var (pv 4)) (dr_nil)))))) (nomark _)) (de_and (dx_de (dx_has h_q_ra_is_ratio hr (by decide) tk (by rfl) (dr_val (dx_de (dx_has h_lowest hr (by decide) tk (by rfl) (dr_val (de_var (pv 3)) (dr_val (de_var (pv 4)) (dr_nil))))) (dr_nil)))) (de_one (de_cmp (op_eqD hu) ops_eq1 (do_val (dx_de (dx_has h_lowest hr (by decide) tk (by rfl) (dr_val (de_int) (dr_val (de_var (pv 4)) (dr_nil)))))) (do_val (de_tup (dv_cons (de_int) (dv_cons (de_int) (dv_nil))))) (nomark _))))))))
theorem d_times (T : Txt mg) (h_check_ratios : Has P w K mg base "check_ratios" 6 ["one", "other"] F_check_ratios) (h_reduced : Has P w K mg base "reduced" 1 ["top", "bottom"] F_reduced) {f : Addr} {n : Nat} {cdv : Value} {A : Around} {outer : List Env} {s : Shared} {H : Hp} {E : XK} (hr : Room 6 (A.deeper (envOfC "times" (defScope s_times) s.heap.objs.size f cdv))) :
    DSs (cxOf (L2.CX P w) P w K mg base ["one", "other"] "times" (defScope s_times) f cdv A outer s H E) (fun cls d _ H => E cls d H) (defBody s_times) (B_times n) := by
  have S := sc_times
  have tk : Takes (cxOf (L2.CX P w) P w K mg base ["one", "other"] "times" (defScope s_times) f cdv A outer s H E) (fun cls d _ H => E cls d H) := takes_of rfl rfl rfl rfl
  have hu := hr.units
  exact dss_cons (ds_expr (dx_de (dx_has h_check_ratios hr (by decide) tk (by rfl) (dr_val (de_var (pv 0)) (dr_val (de_var (pv 1)) (dr_nil))))))
    (dss_one (ds_ret (dx_de (dx_has h_reduced hr (by decide) tk (by rfl) (dr_val (de_bin (op_mulW.or (op_rep.or op_repT)) (ops_or (ops_ic mul_ok) (ops_or ops_repL ops_repT)) (do_val (de_ix (do_var (pv 0)) (do_val (de_int)))) (do_val (de_ix (do_var (pv 1)) (do_val (de_int))))) (dr_val (de_bin (op_mulW.or (op_rep.or op_repT)) (ops_or (ops_ic mul_ok) (ops_or ops_repL ops_repT)) (do_val (de_ix (do_var (pv 0)) (do_val (de_int)))) (do_val (de_ix (do_var (pv 1)) (do_val (de_int))))) (dr_nil)))))))
theorem d_q_reckoned_right (T : Txt mg) (h_q_ra_drawn : Has P w K mg base "_law_ra_drawn" 3 ["_law_bag_here"] F_q_ra_drawn) (h_q_grab : Has P w K mg base "_law_grab" 1 ["_law_bag_here", "_law_total"] F_q_grab) (h_plus : Has P w K mg base "plus" 7 ["one", "other"] F_plus) (h_minus : Has P w K mg base "minus" 7 ["one", "other"] F_minus) (h_times : Has P w K mg base "times" 7 ["one", "other"] F_times) (h_compare : Has P w K mg base "compare" 7 ["one", "other"] F_compare) (h_q_ra_lowest : Has P w K mg base "_law_ra_lowest" 2 ["_law_top", "_law_bottom"] F_q_ra_lowest) (h_over : Has P w K mg base "over" 7 ["one", "other"] F_over) {f : Addr} {n : Nat} {cdv : Value} {A : Around} {outer : List Env} {s : Shared} {H : Hp} {E : XK} (hr : Room 7 (A.deeper (envOfC "_law_reckoned_right" (defScope s_q_reckoned_right) s.heap.objs.size f cdv))) :
    DSs (cxOf (L2.CX P w) P w K mg base ["_law_bag_here", "_law_one", "_law_other", "_law_a", "_law_b", "_law_c", "_law_d", "_law_due", "_law_told"] "_law_reckoned_right" (defScope s_q_reckoned_right) f cdv A outer s H E) (fun cls d _ H => E cls d H) (defBody s_q_reckoned_right) (B_q_reckoned_right n) := by
  have S := sc_q_reckoned_right
  have tk : Takes (cxOf (L2.CX P w) P w K mg base ["_law_bag_here", "_law_one", "_law_other", "_law_a", "_law_b", "_law_c", "_law_d", "_law_due", "_law_told"] "_law_reckoned_right" (defScope s_q_reckoned_right) f cdv A outer s H E) (fun cls d _ H => E cls d H) := takes_of rfl rfl rfl rfl
  have hu := hr.units
  exact dss_cons (ds_par rfl S.nd rfl rfl (by decide) (by rfl) (by rfl) (dv_cons (dx_de (dx_has h_q_ra_drawn hr (by decide) tk (by rfl) (dr_io (pv 0) (dr_nil)))) (dv_cons (dx_de (dx_has h_q_ra_drawn hr (by decide) tk (by rfl) (dr_io (pv 0) (dr_nil)))) (dv_nil))) (by rfl))
    (dss_cons (ds_if (dt_cmp (op_eqD hu) ops_eq1 (do_val (dx_de (dx_has h_q_grab hr (by decide) tk (by rfl) (dr_io (pv 0) (dr_val (de_int) (dr_nil)))))) (do_val (de_int)) (nomark _)) (dss_one (ds_set (i := 2) S.nd rfl (.inl rfl) (de_var (pv 1)))) (dss_nil))
    (dss_cons (ds_asg (de_tup (dv_cons (de_var (pv 1)) (dv_cons (de_var (pv 2)) (dv_nil)))) (dg_tup rfl (dgs_cons (dg_tup rfl (dgs_cons (dg_name (i := 3) (pg_name (i := 3) S.nd rfl (.inl rfl))) (dgs_cons (dg_name (i := 4) (pg_name (i := 4) S.nd rfl (.inl rfl))) (dgs_nil)))) (dgs_cons (dg_tup rfl (dgs_cons (dg_name (i := 5) (pg_name (i := 5) S.nd rfl (.inl rfl))) (dgs_cons (dg_name (i := 6) (pg_name (i := 6) S.nd rfl (.inl rfl))) (dgs_nil)))) (dgs_nil)))))
    (dss_cons (ds_set (i := 7) S.nd rfl (.inl rfl) (de_ifExp (dt_cmp (op_eqD hu) ops_eq1 (do_val (de_bin (op_mulW.or (op_rep.or op_repT)) (ops_or (ops_ic mul_ok) (ops_or ops_repL ops_repT)) (do_var (pv 3)) (do_var (pv 6)))) (do_val (de_bin (op_mulW.or (op_rep.or op_repT)) (ops_or (ops_ic mul_ok) (ops_or ops_repL ops_repT)) (do_var (pv 5)) (do_var (pv 4)))) (nomark _)) (de_int) (de_ifExp (dt_cmp op_gt ops_b0 (do_val (de_bin (op_mulW.or (op_rep.or op_repT)) (ops_or (ops_ic mul_ok) (ops_or ops_repL ops_repT)) (do_var (pv 3)) (do_var (pv 6)))) (do_val (de_bin (op_mulW.or (op_rep.or op_repT)) (ops_or (ops_ic mul_ok) (ops_or ops_repL ops_repT)) (do_var (pv 5)) (do_var (pv 4)))) (nomark _)) (de_int) (de_un un_neg uns_neg (do_val (de_int))))))
    (dss_cons (ds_if (dt_bool (dw_or (dt_cmp (op_neD hu) ops_ne1 (do_val (de_callB call_rpr cas_rpr (by rfl) T.b_repr boot_repr (da_cons (do_val (dx_de (dx_has h_compare hr (by decide) tk (by rfl) (dr_val (de_var (pv 1)) (dr_val (de_var (pv 2)) (dr_nil)))))) (da_nil)))) (do_val (de_callB call_rpr cas_rpr (by rfl) T.b_repr boot_repr (da_cons (do_var (pv 7)) (da_nil)))) (nomark _)) (dw_or1 (dt_cmp (op_neD hu) ops_ne1 (do_val (dx_de (dx_has h_compare hr (by decide) tk (by rfl) (dr_val (de_var (pv 2)) (dr_val (de_var (pv 1)) (dr_nil)))))) (do_val (de_un un_neg uns_neg (do_var (pv 7)))) (nomark _))))) (dss_one (ds_ret (de_bl))) (dss_nil))
    (dss_cons (ds_set (i := 8) S.nd rfl (.inl rfl) (de_fresh (df_lst (dv_cons (dx_de (dx_has h_plus hr (by decide) tk (by rfl) (dr_val (de_var (pv 1)) (dr_val (de_var (pv 2)) (dr_nil))))) (dv_cons (dx_de (dx_has h_minus hr (by decide) tk (by rfl) (dr_val (de_var (pv 1)) (dr_val (de_var (pv 2)) (dr_nil))))) (dv_cons (dx_de (dx_has h_times hr (by decide) tk (by rfl) (dr_val (de_var (pv 1)) (dr_val (de_var (pv 2)) (dr_nil))))) (dv_nil)))))))
    (dss_cons (ds_if (dt_cmp (op_neD hu) ops_ne1 (do_var (pv 8)) (do_val (de_fresh (df_lst (dv_cons (dx_de (dx_has h_q_ra_lowest hr (by decide) tk (by rfl) (dr_val (de_bin (op_add.or (op_cat.or op_catA)) (ops_or ops_i0 (ops_or ops_catL ops_catT)) (do_val (de_bin (op_mulW.or (op_rep.or op_repT)) (ops_or (ops_ic mul_ok) (ops_or ops_repL ops_repT)) (do_var (pv 3)) (do_var (pv 6)))) (do_val (de_bin (op_mulW.or (op_rep.or op_repT)) (ops_or (ops_ic mul_ok) (ops_or ops_repL ops_repT)) (do_var (pv 5)) (do_var (pv 4))))) (dr_val (de_bin (op_mulW.or (op_rep.or op_repT)) (ops_or (ops_ic mul_ok) (ops_or ops_repL ops_repT)) (do_var (pv 4)) (do_var (pv 6))) (dr_nil))))) (dv_cons (dx_de (dx_has h_q_ra_lowest hr (by decide) tk (by rfl) (dr_val (de_bin op_sub ops_i0 (do_val (de_bin (op_mulW.or (op_rep.or op_repT)) (ops_or (ops_ic mul_ok) (ops_or ops_repL ops_repT)) (do_var (pv 3)) (do_var (pv 6)))) (do_val (de_bin (op_mulW.or (op_rep.or op_repT)) (ops_or (ops_ic mul_ok) (ops_or ops_repL ops_repT)) (do_var (pv 5)) (do_var (pv 4))))) (dr_val (de_bin (op_mulW.or (op_rep.or op_repT)) (ops_or (ops_ic mul_ok) (ops_or ops_repL ops_repT)) (do_var (pv 4)) (do_var (pv 6))) (dr_nil))))) (dv_cons (dx_de (dx_has h_q_ra_lowest hr (by decide) tk (by rfl) (dr_val (de_bin (op_mulW.or (op_rep.or op_repT)) (ops_or (ops_ic mul_ok) (ops_or ops_repL ops_repT)) (do_var (pv 3)) (do_var (pv 5))) (dr_val (de_bin (op_mulW.or (op_rep.or op_repT)) (ops_or (ops_ic mul_ok) (ops_or ops_repL ops_repT)) (do_var (pv 4)) (do_var (pv 6))) (dr_nil))))) (dv_nil))))))) (nomark _)) (dss_one (ds_ret (de_bl))) (dss_nil))
    (dss_cons (ds_if (dt_bool (dw_or (dt_cmp (op_neD hu) ops_ne1 (do_val (dx_de (dx_has h_plus hr (by decide) tk (by rfl) (dr_val (de_ix (do_var (pv 8)) (do_val (de_int))) (dr_val (de_var (pv 2)) (dr_nil)))))) (do_var (pv 1)) (nomark _)) (dw_or1 (dt_cmp (op_neD hu) ops_ne1 (do_val (dx_de (dx_has h_compare hr (by decide) tk (by rfl) (dr_val (de_ix (do_var (pv 8)) (do_val (de_int))) (dr_val (de_tup (dv_cons (de_int) (dv_cons (de_int) (dv_nil)))) (dr_nil)))))) (do_var (pv 7)) (nomark _))))) (dss_one (ds_ret (de_bl))) (dss_nil))
    (dss_one (ds_ret (de_or (de_cmp (op_eqD hu) ops_eq1 (do_var (pv 5)) (do_val (de_int)) (nomark _)) (de_one (de_and (de_cmp (op_eqD hu) ops_eq1 (do_val (dx_de (dx_has h_over hr (by decide) tk (by rfl) (dr_val (de_var (pv 1)) (dr_val (de_var (pv 2)) (dr_nil)))))) (do_val (dx_de (dx_has h_q_ra_lowest hr (by decide) tk (by rfl) (dr_val (de_bin (op_mulW.or (op_rep.or op_repT)) (ops_or (ops_ic mul_ok) (ops_or ops_repL ops_repT)) (do_var (pv 3)) (do_var (pv 6))) (dr_val (de_bin (op_mulW.or (op_rep.or op_repT)) (ops_or (ops_ic mul_ok) (ops_or ops_repL ops_repT)) (do_var (pv 4)) (do_var (pv 5))) (dr_nil)))))) (nomark _)) (de_one (de_cmp (op_eqD hu) ops_eq1 (do_val (dx_de (dx_has h_times hr (by decide) tk (by rfl) (dr_val (dx_de (dx_has h_over hr (by decide) tk (by rfl) (dr_val (de_var (pv 1)) (dr_val (de_var (pv 2)) (dr_nil))))) (dr_val (de_var (pv 2)) (dr_nil)))))) (do_var (pv 1)) (nomark _)))))))))))))))
theorem d_q_floors_right (T : Txt mg) (h_q_ra_drawn : Has P w K mg base "_law_ra_drawn" 3 ["_law_bag_here"] F_q_ra_drawn) (h_part_of : Has P w K mg base "part_of" 6 ["ratio"] F_part_of) (h_floor_of : Has P w K mg base "floor_of" 6 ["ratio"] F_floor_of) (h_q_grab : Has P w K mg base "_law_grab" 1 ["_law_bag_here", "_law_total"] F_q_grab) (h_ceiling_of : Has P w K mg base "ceiling_of" 6 ["ratio"] F_ceiling_of) (h_q_ra_lowest : Has P w K mg base "_law_ra_lowest" 2 ["_law_top", "_law_bottom"] F_q_ra_lowest) (h_plus : Has P w K mg base "plus" 7 ["one", "other"] F_plus) (h_times : Has P w K mg base "times" 7 ["one", "other"] F_times) (h_lowest : Has P w K mg base "lowest" 5 ["top", "bottom"] F_lowest) {f : Addr} {n : Nat} {cdv : Value} {A : Around} {outer : List Env} {s : Shared} {H : Hp} {E : XK} (hr : Room 7 (A.deeper (envOfC "_law_floors_right" (defScope s_q_floors_right) s.heap.objs.size f cdv))) :
    DSs (cxOf (L2.CX P w) P w K mg base ["_law_bag_here", "_law_top", "_law_bottom", "_law_whole", "_law_many", "_law_rest", "_law_step", "_law_shifts"] "_law_floors_right" (defScope s_q_floors_right) f cdv A outer s H E) (fun cls d _ H => E cls d H) (defBody s_q_floors_right) (B_q_floors_right n) := by
  have S := sc_q_floors_right
  have tk : Takes (cxOf (L2.CX P w) P w K mg base ["_law_bag_here", "_law_top", "_law_bottom", "_law_whole", "_law_many", "_law_rest", "_law_step", "_law_shifts"] "_law_floors_right" (defScope s_q_floors_right) f cdv A outer s H E) (fun cls d _ H => E cls d H) := takes_of rfl rfl rfl rfl
  have hu := hr.units
  exact dss_cons (ds_asg (dx_de (dx_has h_q_ra_drawn hr (by decide) tk (by rfl) (dr_io (pv 0) (dr_nil)))) (dg_tup rfl (dgs_cons (dg_name (i := 1) (pg_name (i := 1) S.nd rfl (.inr rfl))) (dgs_cons (dg_name (i := 2) (pg_name (i := 2) S.nd rfl (.inr rfl))) (dgs_nil)))))
    (dss_cons (ds_asg (de_tup (dv_cons (de_bin op_fdivG (ops_ic fun _ _ h => cDiv_ok h) (do_var (pv 1)) (do_var (pv 2))) (dv_cons (de_bin (op_add.or (op_cat.or op_catA)) (ops_or ops_i0 (ops_or ops_catL ops_catT)) (do_val (de_int)) (do_val (dx_de (dx_has h_q_grab hr (by decide) tk (by rfl) (dr_io (pv 0) (dr_val (de_int) (dr_nil))))))) (dv_nil)))) (dg_tup rfl (dgs_cons (dg_name (i := 3) (pg_name (i := 3) S.nd rfl (.inl rfl))) (dgs_cons (dg_name (i := 4) (pg_name (i := 4) S.nd rfl (.inr rfl))) (dgs_nil)))))
    (dss_cons (ds_if (dt_cmp (op_neD hu) ops_ne1 (do_val (de_fresh (df_lst (dv_cons (dx_de (dx_has h_floor_of hr (by decide) tk (by rfl) (dr_val (de_tup (dv_cons (de_var (pv 1)) (dv_cons (de_var (pv 2)) (dv_nil)))) (dr_nil)))) (dv_cons (dx_de (dx_has h_ceiling_of hr (by decide) tk (by rfl) (dr_val (de_tup (dv_cons (de_var (pv 1)) (dv_cons (de_var (pv 2)) (dv_nil)))) (dr_nil)))) (dv_nil)))))) (do_val (de_fresh (df_lst (dv_cons (de_var (pv 3)) (dv_cons (de_bin (op_add.or (op_cat.or op_catA)) (ops_or ops_i0 (ops_or ops_catL ops_catT)) (do_var (pv 3)) (do_val (de_callTy call_int1 cas_int (by rfl) T.b_int boot_int (da_cons (do_val (de_cmp (op_neD hu) ops_ne1 (do_var (pv 1)) (do_val (de_bin (op_mulW.or (op_rep.or op_repT)) (ops_or (ops_ic mul_ok) (ops_or ops_repL ops_repT)) (do_var (pv 3)) (do_var (pv 2)))) (nomark _))) (da_nil))))) (dv_nil)))))) (nomark _)) (dss_one (ds_ret (de_bl))) (dss_nil))
    (dss_cons (ds_set (i := 5) S.nd rfl (.inl rfl) (de_bin op_sub ops_i0 (do_var (pv 1)) (do_val (de_bin (op_mulW.or (op_rep.or op_repT)) (ops_or (ops_ic mul_ok) (ops_or ops_repL ops_repT)) (do_var (pv 3)) (do_var (pv 2))))))
    (dss_cons (ds_if (dt_cmp (op_neD hu) ops_ne1 (do_val (dx_de (dx_has h_part_of hr (by decide) tk (by rfl) (dr_val (de_tup (dv_cons (de_var (pv 1)) (dv_cons (de_var (pv 2)) (dv_nil)))) (dr_nil))))) (do_val (de_ifExp (dt_cmp (op_eqD hu) ops_eq1 (do_var (pv 5)) (do_val (de_int)) (nomark _)) (de_tup (dv_cons (de_int) (dv_cons (de_int) (dv_nil)))) (dx_de (dx_has h_q_ra_lowest hr (by decide) tk (by rfl) (dr_val (de_var (pv 5)) (dr_val (de_var (pv 2)) (dr_nil))))))) (nomark _)) (dss_one (ds_ret (de_bl))) (dss_nil))
    (dss_cons (ds_setLc (i := 7) (own := [("_law_step", 6)]) rfl S.nd rfl rfl rfl (di_rng1 (by rfl) T.b_range (dv_cons (de_var (pv 4)) (dv_nil))) (blkOk_by (by rfl)) rfl (by intro _ _ _ _ _; exact dg_name (i := 6) (pg_name (i := 6) S.nd rfl (.inl rfl))) (by intro _ _ _ _ _; exact dts_nil) (by intro _ _ _ _ _; exact dx_de (dx_hasN h_floor_of hr (by decide) (by rfl) (dr_val (dx_de (dx_hasN h_plus hr (by decide) (by rfl) (dr_val (de_tup (dv_cons (de_var (pv 1)) (dv_cons (de_var (pv 2)) (dv_nil)))) (dr_val (dx_de (dx_hasN h_lowest hr (by decide) (by rfl) (dr_val (de_var (pv 6)) (dr_val (de_var (pv 4)) (dr_nil))))) (dr_nil))))) (dr_nil)))))
    (dss_one (ds_ret (de_cmp (op_eqD hu) ops_eq1 (do_val (de_callB (cr_sum rfl) cas_sum (by rfl) T.b_sum boot_sum (da_cons (do_var (pv 7)) (da_nil)))) (do_val (dx_de (dx_has h_floor_of hr (by decide) tk (by rfl) (dr_val (dx_de (dx_has h_times hr (by decide) tk (by rfl) (dr_val (de_tup (dv_cons (de_var (pv 4)) (dv_cons (de_int) (dv_nil)))) (dr_val (de_tup (dv_cons (de_var (pv 1)) (dv_cons (de_var (pv 2)) (dv_nil)))) (dr_nil))))) (dr_nil))))) (nomark _)))))))))
theorem d_q_ra_often (T : Txt mg)  {f : Addr} {n : Nat} {cdv : Value} {A : Around} {outer : List Env} {s : Shared} {H : Hp} {E : XK} (hr : Room 0 (A.deeper (envOfC "_law_ra_often" (defScope s_q_ra_often) s.heap.objs.size f cdv))) :
    DSs (cxOf (L2.CX P w) P w K mg base ["_law_prime", "_law_number", "_law_found", "_law_turn"] "_law_ra_often" (defScope s_q_ra_often) f cdv A outer s H E) (fun cls d _ H => E cls d H) (defBody s_q_ra_often) (B_q_ra_often n) := by
  have S := sc_q_ra_often
  have tk : Takes (cxOf (L2.CX P w) P w K mg base ["_law_prime", "_law_number", "_law_found", "_law_turn"] "_law_ra_often" (defScope s_q_ra_often) f cdv A outer s H E) (fun cls d _ H => E cls d H) := takes_of rfl rfl rfl rfl
  have hu := hr.units
  exact dss_cons (ds_set (i := 2) S.nd rfl (.inl rfl) (de_int))
    (dss_cons (ds_for (passes_of rfl) rfl (di_rng1 (by rfl) T.b_range (dv_cons (de_int) (dv_nil))) (dg_name (i := 3) (pg_name (i := 3) S.nd rfl (.inl rfl))) (dss_one (ds_if (dt_cmp (op_eqD hu) ops_eq1 (do_val (de_bin op_modN (ops_ic fun _ _ h => of_decide_eq_true h) (do_var (pv 1)) (do_var (pv 0)))) (do_val (de_int)) (nomark _)) (dss_one (ds_par rfl S.nd rfl rfl (by decide) (by rfl) (by rfl) (dv_cons (de_bin (op_add.or (op_cat.or op_catA)) (ops_or ops_i0 (ops_or ops_catL ops_catT)) (do_var (pv 2)) (do_val (de_int))) (dv_cons (de_bin op_fdivG (ops_ic fun _ _ h => cDiv_ok h) (do_var (pv 1)) (do_var (pv 0))) (dv_nil))) (by rfl))) (dss_nil))))
    (dss_one (ds_retV (pv 2))))
theorem d_q_ra_exponent (T : Txt mg) (h_q_ra_often : Has P w K mg base "_law_ra_often" 1 ["_law_prime", "_law_number"] F_q_ra_often) {f : Addr} {n : Nat} {cdv : Value} {A : Around} {outer : List Env} {s : Shared} {H : Hp} {E : XK} (hr : Room 1 (A.deeper (envOfC "_law_ra_exponent" (defScope s_q_ra_exponent) s.heap.objs.size f cdv))) :
    DSs (cxOf (L2.CX P w) P w K mg base ["_law_prime", "_law_ratio"] "_law_ra_exponent" (defScope s_q_ra_exponent) f cdv A outer s H E) (fun cls d _ H => E cls d H) (defBody s_q_ra_exponent) (B_q_ra_exponent n) := by
  have S := sc_q_ra_exponent
  have tk : Takes (cxOf (L2.CX P w) P w K mg base ["_law_prime", "_law_ratio"] "_law_ra_exponent" (defScope s_q_ra_exponent) f cdv A outer s H E) (fun cls d _ H => E cls d H) := takes_of rfl rfl rfl rfl
  have hu := hr.units
  exact dss_one (ds_ret (de_bin op_sub ops_i0 (do_val (dx_de (dx_has h_q_ra_often hr (by decide) tk (by rfl) (dr_val (de_var (pv 0)) (dr_val (de_ix (do_var (pv 1)) (do_val (de_int))) (dr_nil)))))) (do_val (dx_de (dx_has h_q_ra_often hr (by decide) tk (by rfl) (dr_val (de_var (pv 0)) (dr_val (de_ix (do_var (pv 1)) (do_val (de_int))) (dr_nil))))))))
theorem d_q_exponents_right (T : Txt mg) (h_q_one_of : Has P w K mg base "_law_one_of" 2 ["_law_bag_here", "_law_items"] F_q_one_of) (h_q_ra_lowest : Has P w K mg base "_law_ra_lowest" 2 ["_law_top", "_law_bottom"] F_q_ra_lowest) (h_plus : Has P w K mg base "plus" 7 ["one", "other"] F_plus) (h_q_grab : Has P w K mg base "_law_grab" 1 ["_law_bag_here", "_law_total"] F_q_grab) (h_q_ra_drawn : Has P w K mg base "_law_ra_drawn" 3 ["_law_bag_here"] F_q_ra_drawn) (h_exponent_of : Has P w K mg base "exponent_of" 6 ["prime", "ratio"] F_exponent_of) (h_q_ra_exponent : Has P w K mg base "_law_ra_exponent" 2 ["_law_prime", "_law_ratio"] F_q_ra_exponent) (h_times : Has P w K mg base "times" 7 ["one", "other"] F_times) (h_over : Has P w K mg base "over" 7 ["one", "other"] F_over) {f : Addr} {n : Nat} {cdv : Value} {A : Around} {outer : List Env} {s : Shared} {H : Hp} {E : XK} (hr : Room 7 (A.deeper (envOfC "_law_exponents_right" (defScope s_q_exponents_right) s.heap.objs.size f cdv))) :
    DSs (cxOf (L2.CX P w) P w K mg base ["_law_bag_here", "_law_prime", "_law_power", "_law_turn", "_law_one", "_law_other", "_law_first", "_law_second", "_law_total"] "_law_exponents_right" (defScope s_q_exponents_right) f cdv A outer s H E) (fun cls d _ H => E cls d H) (defBody s_q_exponents_right) (B_q_exponents_right n) := by
  have S := sc_q_exponents_right
  have tk : Takes (cxOf (L2.CX P w) P w K mg base ["_law_bag_here", "_law_prime", "_law_power", "_law_turn", "_law_one", "_law_other", "_law_first", "_law_second", "_law_total"] "_law_exponents_right" (defScope s_q_exponents_right) f cdv A outer s H E) (fun cls d _ H => E cls d H) := takes_of rfl rfl rfl rfl
  have hu := hr.units
  exact dss_cons (ds_set (i := 1) S.nd rfl (.inl rfl) (dx_de (dx_has h_q_one_of hr (by decide) tk (by rfl) (dr_io (pv 0) (dr_val (de_fresh (df_lst (dv_cons (de_int) (dv_cons (de_int) (dv_cons (de_int) (dv_cons (de_int) (dv_cons (de_int) (dv_cons (de_int) (dv_cons (de_int) (dv_cons (de_int) (dv_cons (de_int) (dv_nil)))))))))))) (dr_nil))))))
    (dss_cons (ds_set (i := 2) S.nd rfl (.inl rfl) (de_int))
    (dss_cons (ds_for (passes_of rfl) rfl (di_rng1 (by rfl) T.b_range (dv_cons (dx_de (dx_has h_q_grab hr (by decide) tk (by rfl) (dr_io (pv 0) (dr_val (de_int) (dr_nil))))) (dv_nil))) (dg_name (i := 3) (pg_name (i := 3) S.nd rfl (.inl rfl))) (dss_one (ds_set (i := 2) S.nd rfl (.inl rfl) (de_bin (op_mulW.or (op_rep.or op_repT)) (ops_or (ops_ic mul_ok) (ops_or ops_repL ops_repT)) (do_var (pv 2)) (do_var (pv 1))))))
    (dss_cons (ds_par rfl S.nd rfl rfl (by decide) (by rfl) (by rfl) (dv_cons (dx_de (dx_has h_q_ra_drawn hr (by decide) tk (by rfl) (dr_io (pv 0) (dr_nil)))) (dv_cons (dx_de (dx_has h_q_ra_drawn hr (by decide) tk (by rfl) (dr_io (pv 0) (dr_nil)))) (dv_nil))) (by rfl))
    (dss_cons (ds_if (dt_bool (dw_or (dt_cmp (op_eqD hu) ops_eq1 (do_val (de_ix (do_var (pv 4)) (do_val (de_int)))) (do_val (de_int)) (nomark _)) (dw_or1 (dt_cmp (op_eqD hu) ops_eq1 (do_val (de_ix (do_var (pv 5)) (do_val (de_int)))) (do_val (de_int)) (nomark _))))) (dss_one (ds_ret (de_bl))) (dss_nil))
    (dss_cons (ds_set (i := 4) S.nd rfl (.inl rfl) (dx_de (dx_has h_q_ra_lowest hr (by decide) tk (by rfl) (dr_val (de_bin (op_mulW.or (op_rep.or op_repT)) (ops_or (ops_ic mul_ok) (ops_or ops_repL ops_repT)) (do_val (de_ix (do_var (pv 4)) (do_val (de_int)))) (do_var (pv 2))) (dr_val (de_ix (do_var (pv 4)) (do_val (de_int))) (dr_nil))))))
    (dss_cons (ds_par rfl S.nd rfl rfl (by decide) (by rfl) (by rfl) (dv_cons (dx_de (dx_has h_exponent_of hr (by decide) tk (by rfl) (dr_val (de_var (pv 1)) (dr_val (de_var (pv 4)) (dr_nil))))) (dv_cons (dx_de (dx_has h_exponent_of hr (by decide) tk (by rfl) (dr_val (de_var (pv 1)) (dr_val (de_var (pv 5)) (dr_nil))))) (dv_nil))) (by rfl))
    (dss_cons (ds_if (dt_cmp (op_neD hu) ops_ne1 (do_val (de_fresh (df_lst (dv_cons (de_var (pv 6)) (dv_cons (de_var (pv 7)) (dv_nil)))))) (do_val (de_fresh (df_lst (dv_cons (dx_de (dx_has h_q_ra_exponent hr (by decide) tk (by rfl) (dr_val (de_var (pv 1)) (dr_val (de_var (pv 4)) (dr_nil))))) (dv_cons (dx_de (dx_has h_q_ra_exponent hr (by decide) tk (by rfl) (dr_val (de_var (pv 1)) (dr_val (de_var (pv 5)) (dr_nil))))) (dv_nil)))))) (nomark _)) (dss_one (ds_ret (de_bl))) (dss_nil))
    (dss_cons (ds_if (dt_bool (dw_or (dt_cmp (op_neD hu) ops_ne1 (do_val (dx_de (dx_has h_exponent_of hr (by decide) tk (by rfl) (dr_val (de_var (pv 1)) (dr_val (dx_de (dx_has h_times hr (by decide) tk (by rfl) (dr_val (de_var (pv 4)) (dr_val (de_var (pv 5)) (dr_nil))))) (dr_nil)))))) (do_val (de_bin (op_add.or (op_cat.or op_catA)) (ops_or ops_i0 (ops_or ops_catL ops_catT)) (do_var (pv 6)) (do_var (pv 7)))) (nomark _)) (dw_or1 (dt_cmp (op_neD hu) ops_ne1 (do_val (dx_de (dx_has h_exponent_of hr (by decide) tk (by rfl) (dr_val (de_var (pv 1)) (dr_val (dx_de (dx_has h_over hr (by decide) tk (by rfl) (dr_val (de_var (pv 4)) (dr_val (de_var (pv 5)) (dr_nil))))) (dr_nil)))))) (do_val (de_bin op_sub ops_i0 (do_var (pv 6)) (do_var (pv 7)))) (nomark _))))) (dss_one (ds_ret (de_bl))) (dss_nil))
    (dss_cons (ds_set (i := 8) S.nd rfl (.inl rfl) (dx_de (dx_has h_plus hr (by decide) tk (by rfl) (dr_val (de_var (pv 4)) (dr_val (de_var (pv 5)) (dr_nil))))))
    (dss_cons (ds_if (dt_cmp (op_eqD hu) ops_eq1 (do_val (de_ix (do_var (pv 8)) (do_val (de_int)))) (do_val (de_int)) (nomark _)) (dss_one (ds_ret (de_cmp (op_eqD hu) ops_eq1 (do_var (pv 6)) (do_var (pv 7)) (nomark _)))) (dss_nil))
    (dss_one (ds_ret (de_and (de_cmp op_ge ops_b0 (do_val (dx_de (dx_has h_exponent_of hr (by decide) tk (by rfl) (dr_val (de_var (pv 1)) (dr_val (de_var (pv 8)) (dr_nil)))))) (do_val (de_callB (call_min2 rfl) cas_min2 (by rfl) T.b_min boot_min (da_cons (do_var (pv 6)) (da_cons (do_var (pv 7)) (da_nil))))) (nomark _)) (de_one (de_or (de_cmp (op_eqD hu) ops_eq1 (do_var (pv 6)) (do_var (pv 7)) (nomark _)) (de_one (de_cmp (op_eqD hu) ops_eq1 (do_val (dx_de (dx_has h_exponent_of hr (by decide) tk (by rfl) (dr_val (de_var (pv 1)) (dr_val (de_var (pv 8)) (dr_nil)))))) (do_val (de_callB (call_min2 rfl) cas_min2 (by rfl) T.b_min boot_min (da_cons (do_var (pv 6)) (da_cons (do_var (pv 7)) (da_nil))))) (nomark _))))))))))))))))))
theorem d_law (T : Txt mg) (h_q_bag : Has P w K mg base "_law_bag" 1 ["_law_script", "_law_spot"] F_q_bag) (h_lowest : Has P w K mg base "lowest" 5 ["top", "bottom"] F_lowest) (h_plus : Has P w K mg base "plus" 7 ["one", "other"] F_plus) (h_over : Has P w K mg base "over" 7 ["one", "other"] F_over) (h_compare : Has P w K mg base "compare" 7 ["one", "other"] F_compare) (h_part_of : Has P w K mg base "part_of" 6 ["ratio"] F_part_of) (h_floor_of : Has P w K mg base "floor_of" 6 ["ratio"] F_floor_of) (h_ceiling_of : Has P w K mg base "ceiling_of" 6 ["ratio"] F_ceiling_of) (h_exponent_of : Has P w K mg base "exponent_of" 6 ["prime", "ratio"] F_exponent_of) (h_minus : Has P w K mg base "minus" 7 ["one", "other"] F_minus) (h_q_judged_right : Has P w K mg base "_law_judged_right" 5 ["_law_bag_here"] F_q_judged_right) (h_q_lowered_right : Has P w K mg base "_law_lowered_right" 6 ["_law_bag_here"] F_q_lowered_right) (h_q_reckoned_right : Has P w K mg base "_law_reckoned_right" 8 ["_law_bag_here"] F_q_reckoned_right) (h_q_floors_right : Has P w K mg base "_law_floors_right" 8 ["_law_bag_here"] F_q_floors_right) (h_q_exponents_right : Has P w K mg base "_law_exponents_right" 8 ["_law_bag_here"] F_q_exponents_right) {f : Addr} {n : Nat} {cdv : Value} {A : Around} {outer : List Env} {s : Shared} {H : Hp} {E : XK} (hr : Room 8 (A.deeper (envOfC "law" (defScope s_law) s.heap.objs.size f cdv))) :
    DSs (cxOf (L2.CX P w) P w K mg base ["_law_script", "_law_spot", "_law_bag_here", "_law_turn", "_law_told"] "law" (defScope s_law) f cdv A outer s H E) (fun cls d _ H => E cls d H) (defBody s_law) (B_law n) := by
  have S := sc_law
  have tk : Takes (cxOf (L2.CX P w) P w K mg base ["_law_script", "_law_spot", "_law_bag_here", "_law_turn", "_law_told"] "law" (defScope s_law) f cdv A outer s H E) (fun cls d _ H => E cls d H) := takes_of rfl rfl rfl rfl
  have hu := hr.units
  exact dss_cons (ds_for (passes_of rfl) rfl (di_rng1 (by rfl) T.b_range (dv_cons (de_callB (call_max2 rfl) cas_max2 (by rfl) T.b_max boot_max (da_cons (do_val (de_int)) (da_cons (do_val (de_callB (call_min2 rfl) cas_min2 (by rfl) T.b_min boot_min (da_cons (do_val (de_int)) (da_cons (do_val (de_callB call_len_seq cas_len (by rfl) T.b_len PySem.boot_len (da_cons (do_var (pv 0)) (da_nil)))) (da_nil))))) (da_nil)))) (dv_nil))) (dg_name (i := 1) (pg_name (i := 1) S.nd rfl (.inl rfl))) (dss_cons (ds_setF (i := 2) S.nd rfl (.inl rfl) (dx_df (dx_has h_q_bag hr (by decide) tk (by rfl) (dr_val (de_var (pv 0)) (dr_val (de_var (pv 1)) (dr_nil))))))
    (dss_cons (ds_if (dt_bool (dw_or (dt_not (dt_val (dx_de (dx_has h_q_judged_right hr (by decide) tk (by rfl) (dr_io (pv 2) (dr_nil)))))) (dw_or1 (dt_not (dt_val (dx_de (dx_has h_q_lowered_right hr (by decide) tk (by rfl) (dr_io (pv 2) (dr_nil))))))))) (dss_one (ds_ret (de_bl))) (dss_nil))
    (dss_one (ds_for (passes_of rfl) rfl (di_rng1 (by rfl) T.b_range (dv_cons (de_int) (dv_nil))) (dg_name (i := 3) (pg_name (i := 3) S.nd rfl (.inl rfl))) (dss_one (ds_if (dt_bool (dw_or (dt_not (dt_val (dx_de (dx_has h_q_reckoned_right hr (by decide) tk (by rfl) (dr_io (pv 2) (dr_nil)))))) (dw_or (dt_not (dt_val (dx_de (dx_has h_q_floors_right hr (by decide) tk (by rfl) (dr_io (pv 2) (dr_nil)))))) (dw_or1 (dt_not (dt_val (dx_de (dx_has h_q_exponents_right hr (by decide) tk (by rfl) (dr_io (pv 2) (dr_nil)))))))))) (dss_one (ds_ret (de_bl))) (dss_nil))))))))
    (dss_cons (ds_set (i := 4) S.nd rfl (.inl rfl) (de_fresh (df_lst (dv_cons (dx_de (dx_has h_lowest hr (by decide) tk (by rfl) (dr_val (de_int) (dr_val (de_un un_neg uns_neg (do_val (de_int))) (dr_nil))))) (dv_cons (dx_de (dx_has h_plus hr (by decide) tk (by rfl) (dr_val (de_tup (dv_cons (de_int) (dv_cons (de_int) (dv_nil)))) (dr_val (de_tup (dv_cons (de_int) (dv_cons (de_int) (dv_nil)))) (dr_nil))))) (dv_cons (dx_de (dx_has h_over hr (by decide) tk (by rfl) (dr_val (de_tup (dv_cons (de_int) (dv_cons (de_int) (dv_nil)))) (dr_val (de_tup (dv_cons (de_un un_neg uns_neg (do_val (de_int))) (dv_cons (de_int) (dv_nil)))) (dr_nil))))) (dv_cons (dx_de (dx_has h_compare hr (by decide) tk (by rfl) (dr_val (de_tup (dv_cons (de_int) (dv_cons (de_int) (dv_nil)))) (dr_val (de_tup (dv_cons (de_int) (dv_cons (de_int) (dv_nil)))) (dr_nil))))) (dv_cons (dx_de (dx_has h_part_of hr (by decide) tk (by rfl) (dr_val (de_tup (dv_cons (de_un un_neg uns_neg (do_val (de_int))) (dv_cons (de_int) (dv_nil)))) (dr_nil)))) (dv_cons (dx_de (dx_has h_part_of hr (by decide) tk (by rfl) (dr_val (de_tup (dv_cons (de_int) (dv_cons (de_int) (dv_nil)))) (dr_nil)))) (dv_nil))))))))))
    (dss_cons (ds_if (dt_cmp (op_neD hu) ops_ne1 (do_var (pv 4)) (do_val (de_fresh (df_lst (dv_cons (de_tup (dv_cons (de_un un_neg uns_neg (do_val (de_int))) (dv_cons (de_int) (dv_nil)))) (dv_cons (de_tup (dv_cons (de_int) (dv_cons (de_int) (dv_nil)))) (dv_cons (de_tup (dv_cons (de_un un_neg uns_neg (do_val (de_int))) (dv_cons (de_int) (dv_nil)))) (dv_cons (de_un un_neg uns_neg (do_val (de_int))) (dv_cons (de_tup (dv_cons (de_int) (dv_cons (de_int) (dv_nil)))) (dv_cons (de_tup (dv_cons (de_int) (dv_cons (de_int) (dv_nil)))) (dv_nil)))))))))) (nomark _)) (dss_one (ds_ret (de_bl))) (dss_nil))
    (dss_one (ds_ret (de_cmp (op_eqD hu) ops_eq1 (do_val (de_fresh (df_lst (dv_cons (dx_de (dx_has h_floor_of hr (by decide) tk (by rfl) (dr_val (de_tup (dv_cons (de_un un_neg uns_neg (do_val (de_int))) (dv_cons (de_int) (dv_nil)))) (dr_nil)))) (dv_cons (dx_de (dx_has h_ceiling_of hr (by decide) tk (by rfl) (dr_val (de_tup (dv_cons (de_int) (dv_cons (de_int) (dv_nil)))) (dr_nil)))) (dv_cons (dx_de (dx_has h_exponent_of hr (by decide) tk (by rfl) (dr_val (de_int) (dr_val (de_tup (dv_cons (de_int) (dv_cons (de_int) (dv_nil)))) (dr_nil))))) (dv_cons (dx_de (dx_has h_exponent_of hr (by decide) tk (by rfl) (dr_val (de_int) (dr_val (de_tup (dv_cons (de_un un_neg uns_neg (do_val (de_int))) (dv_cons (de_int) (dv_nil)))) (dr_nil))))) (dv_cons (dx_de (dx_has h_minus hr (by decide) tk (by rfl) (dr_val (de_tup (dv_cons (de_int) (dv_cons (de_int) (dv_nil)))) (dr_val (de_tup (dv_cons (de_int) (dv_cons (de_int) (dv_nil)))) (dr_nil))))) (dv_nil))))))))) (do_val (de_fresh (df_lst (dv_cons (de_un un_neg uns_neg (do_val (de_int))) (dv_cons (de_int) (dv_cons (de_int) (dv_cons (de_un un_neg uns_neg (do_val (de_int))) (dv_cons (de_tup (dv_cons (de_int) (dv_cons (de_int) (dv_nil)))) (dv_nil))))))))) (nomark _))))))
theorem ok_q_bag (T : Txt mg)  {f : Addr} {fd : FuncData} (Fu : Fun K "_law_bag" "_law_bag" s_q_bag f fd) : FnOk P w K mg base (L2.CX P w) 1 f fd ["_law_script", "_law_spot"] (spD K 2 F_q_bag) :=
  fn_D (N := ["_law_script", "_law_spot", "_law_cell", "_law_great", "_law_mixed"]) Fu sc_q_bag B_q_bag (fun n cdv A outer s H E hr => d_q_bag T  hr) fun as _ _ => ⟨fuel as, rfl⟩
theorem has_q_bag (T : Txt mg)  {f : Addr} {fd : FuncData} (Fu : Fun K "_law_bag" "_law_bag" s_q_bag f fd) (g : mg "_law_bag" = some (.ref f)) : Has P w K mg base "_law_bag" 1 ["_law_script", "_law_spot"] F_q_bag :=
  ⟨f, fd, g, Fu.kp, Fu.binds (ps := ["_law_script", "_law_spot"]) (fun _ _ _ _ _ _ us hl => match us, hl with | [_, _], _ => rfl), ok_q_bag T  Fu⟩
theorem ok_is_long_integer (T : Txt mg)  {f : Addr} {fd : FuncData} (Fu : Fun K "is_long_integer" "is_long_integer" s_is_long_integer f fd) : FnOk P w K mg base (L2.CX P w) 1 f fd ["value"] (spD K 1 F_is_long_integer) :=
  fn_D (N := ["value"]) Fu sc_is_long_integer B_is_long_integer (fun n cdv A outer s H E hr => d_is_long_integer T  hr) fun as _ _ => ⟨fuel as, rfl⟩
theorem has_is_long_integer (T : Txt mg)  {f : Addr} {fd : FuncData} (Fu : Fun K "is_long_integer" "is_long_integer" s_is_long_integer f fd) (g : mg "is_long_integer" = some (.ref f)) : Has P w K mg base "is_long_integer" 1 ["value"] F_is_long_integer :=
  ⟨f, fd, g, Fu.kp, Fu.binds (ps := ["value"]) (fun _ _ _ _ _ _ us hl => match us, hl with | [_], _ => rfl), ok_is_long_integer T  Fu⟩
theorem ok_is_integer (T : Txt mg) (h_is_long_integer : Has P w K mg base "is_long_integer" 1 ["value"] F_is_long_integer) {f : Addr} {fd : FuncData} (Fu : Fun K "is_integer" "is_integer" s_is_integer f fd) : FnOk P w K mg base (L2.CX P w) 2 f fd ["value"] (spD K 1 F_is_integer) :=
  fn_D (N := ["value"]) Fu sc_is_integer B_is_integer (fun n cdv A outer s H E hr => d_is_integer T h_is_long_integer hr) fun as _ _ => ⟨fuel as, rfl⟩
theorem has_is_integer (T : Txt mg) (h_is_long_integer : Has P w K mg base "is_long_integer" 1 ["value"] F_is_long_integer) {f : Addr} {fd : FuncData} (Fu : Fun K "is_integer" "is_integer" s_is_integer f fd) (g : mg "is_integer" = some (.ref f)) : Has P w K mg base "is_integer" 2 ["value"] F_is_integer :=
  ⟨f, fd, g, Fu.kp, Fu.binds (ps := ["value"]) (fun _ _ _ _ _ _ us hl => match us, hl with | [_], _ => rfl), ok_is_integer T h_is_long_integer Fu⟩
theorem ok_is_between (T : Txt mg) (h_is_integer : Has P w K mg base "is_integer" 2 ["value"] F_is_integer) {f : Addr} {fd : FuncData} (Fu : Fun K "is_between" "is_between" s_is_between f fd) : FnOk P w K mg base (L2.CX P w) 3 f fd ["value", "least", "most"] (spD K 3 F_is_between) :=
  fn_D (N := ["value", "least", "most"]) Fu sc_is_between B_is_between (fun n cdv A outer s H E hr => d_is_between T h_is_integer hr) fun as _ _ => ⟨fuel as, rfl⟩
theorem has_is_between (T : Txt mg) (h_is_integer : Has P w K mg base "is_integer" 2 ["value"] F_is_integer) {f : Addr} {fd : FuncData} (Fu : Fun K "is_between" "is_between" s_is_between f fd) (g : mg "is_between" = some (.ref f)) : Has P w K mg base "is_between" 3 ["value", "least", "most"] F_is_between :=
  ⟨f, fd, g, Fu.kp, Fu.binds (ps := ["value", "least", "most"]) (fun _ _ _ _ _ _ us hl => match us, hl with | [_, _, _], _ => rfl), ok_is_between T h_is_integer Fu⟩
theorem ok_check_number (T : Txt mg) (h_is_between : Has P w K mg base "is_between" 3 ["value", "least", "most"] F_is_between) {f : Addr} {fd : FuncData} (Fu : Fun K "check_number" "check_number" s_check_number f fd) : FnOk P w K mg base (L2.CX P w) 4 f fd ["given", "least", "most"] (spD K 3 F_check_number) :=
  fn_D (N := ["given", "least", "most"]) Fu sc_check_number B_check_number (fun n cdv A outer s H E hr => d_check_number T h_is_between hr) fun as _ _ => ⟨fuel as, rfl⟩
theorem has_check_number (T : Txt mg) (h_is_between : Has P w K mg base "is_between" 3 ["value", "least", "most"] F_is_between) {f : Addr} {fd : FuncData} (Fu : Fun K "check_number" "check_number" s_check_number f fd) (g : mg "check_number" = some (.ref f)) : Has P w K mg base "check_number" 4 ["given", "least", "most"] F_check_number :=
  ⟨f, fd, g, Fu.kp, Fu.binds (ps := ["given", "least", "most"]) (fun _ _ _ _ _ _ us hl => match us, hl with | [_, _, _], _ => rfl), ok_check_number T h_is_between Fu⟩
theorem ok_reduced (T : Txt mg)  {f : Addr} {fd : FuncData} (Fu : Fun K "reduced" "reduced" s_reduced f fd) : FnOk P w K mg base (L2.CX P w) 1 f fd ["top", "bottom"] (spD K 2 F_reduced) :=
  fn_D (N := ["top", "bottom", "divisor"]) Fu sc_reduced B_reduced (fun n cdv A outer s H E hr => d_reduced T  hr) fun as _ _ => ⟨fuel as, rfl⟩
theorem has_reduced (T : Txt mg)  {f : Addr} {fd : FuncData} (Fu : Fun K "reduced" "reduced" s_reduced f fd) (g : mg "reduced" = some (.ref f)) : Has P w K mg base "reduced" 1 ["top", "bottom"] F_reduced :=
  ⟨f, fd, g, Fu.kp, Fu.binds (ps := ["top", "bottom"]) (fun _ _ _ _ _ _ us hl => match us, hl with | [_, _], _ => rfl), ok_reduced T  Fu⟩
theorem ok_lowest (T : Txt mg) (h_check_number : Has P w K mg base "check_number" 4 ["given", "least", "most"] F_check_number) (h_reduced : Has P w K mg base "reduced" 1 ["top", "bottom"] F_reduced) {f : Addr} {fd : FuncData} (Fu : Fun K "lowest" "lowest" s_lowest f fd) : FnOk P w K mg base (L2.CX P w) 5 f fd ["top", "bottom"] (spD K 2 F_lowest) :=
  fn_D (N := ["top", "bottom"]) Fu sc_lowest B_lowest (fun n cdv A outer s H E hr => d_lowest T h_check_number h_reduced hr) fun as _ _ => ⟨fuel as, rfl⟩
theorem has_lowest (T : Txt mg) (h_check_number : Has P w K mg base "check_number" 4 ["given", "least", "most"] F_check_number) (h_reduced : Has P w K mg base "reduced" 1 ["top", "bottom"] F_reduced) {f : Addr} {fd : FuncData} (Fu : Fun K "lowest" "lowest" s_lowest f fd) (g : mg "lowest" = some (.ref f)) : Has P w K mg base "lowest" 5 ["top", "bottom"] F_lowest :=
  ⟨f, fd, g, Fu.kp, Fu.binds (ps := ["top", "bottom"]) (fun _ _ _ _ _ _ us hl => match us, hl with | [_, _], _ => rfl), ok_lowest T h_check_number h_reduced Fu⟩
theorem ok_is_long_pair (T : Txt mg) (h_is_long_integer : Has P w K mg base "is_long_integer" 1 ["value"] F_is_long_integer) {f : Addr} {fd : FuncData} (Fu : Fun K "is_long_pair" "is_long_pair" s_is_long_pair f fd) : FnOk P w K mg base (L2.CX P w) 2 f fd ["value"] (spD K 1 F_is_long_pair) :=
  fn_D (N := ["value"]) Fu sc_is_long_pair B_is_long_pair (fun n cdv A outer s H E hr => d_is_long_pair T h_is_long_integer hr) fun as _ _ => ⟨fuel as, rfl⟩
theorem has_is_long_pair (T : Txt mg) (h_is_long_integer : Has P w K mg base "is_long_integer" 1 ["value"] F_is_long_integer) {f : Addr} {fd : FuncData} (Fu : Fun K "is_long_pair" "is_long_pair" s_is_long_pair f fd) (g : mg "is_long_pair" = some (.ref f)) : Has P w K mg base "is_long_pair" 2 ["value"] F_is_long_pair :=
  ⟨f, fd, g, Fu.kp, Fu.binds (ps := ["value"]) (fun _ _ _ _ _ _ us hl => match us, hl with | [_], _ => rfl), ok_is_long_pair T h_is_long_integer Fu⟩
theorem ok_is_long_ratio (T : Txt mg) (h_is_long_pair : Has P w K mg base "is_long_pair" 2 ["value"] F_is_long_pair) {f : Addr} {fd : FuncData} (Fu : Fun K "is_long_ratio" "is_long_ratio" s_is_long_ratio f fd) : FnOk P w K mg base (L2.CX P w) 3 f fd ["value"] (spD K 1 F_is_long_ratio) :=
  fn_D (N := ["value"]) Fu sc_is_long_ratio B_is_long_ratio (fun n cdv A outer s H E hr => d_is_long_ratio T h_is_long_pair hr) fun as _ _ => ⟨fuel as, rfl⟩
theorem has_is_long_ratio (T : Txt mg) (h_is_long_pair : Has P w K mg base "is_long_pair" 2 ["value"] F_is_long_pair) {f : Addr} {fd : FuncData} (Fu : Fun K "is_long_ratio" "is_long_ratio" s_is_long_ratio f fd) (g : mg "is_long_ratio" = some (.ref f)) : Has P w K mg base "is_long_ratio" 3 ["value"] F_is_long_ratio :=
  ⟨f, fd, g, Fu.kp, Fu.binds (ps := ["value"]) (fun _ _ _ _ _ _ us hl => match us, hl with | [_], _ => rfl), ok_is_long_ratio T h_is_long_pair Fu⟩
theorem ok_is_ratio (T : Txt mg) (h_is_long_ratio : Has P w K mg base "is_long_ratio" 3 ["value"] F_is_long_ratio) (h_is_integer : Has P w K mg base "is_integer" 2 ["value"] F_is_integer) {f : Addr} {fd : FuncData} (Fu : Fun K "is_ratio" "is_ratio" s_is_ratio f fd) : FnOk P w K mg base (L2.CX P w) 4 f fd ["value"] (spD K 1 F_is_ratio) :=
  fn_D (N := ["value"]) Fu sc_is_ratio B_is_ratio (fun n cdv A outer s H E hr => d_is_ratio T h_is_long_ratio h_is_integer hr) fun as _ _ => ⟨fuel as, rfl⟩
theorem has_is_ratio (T : Txt mg) (h_is_long_ratio : Has P w K mg base "is_long_ratio" 3 ["value"] F_is_long_ratio) (h_is_integer : Has P w K mg base "is_integer" 2 ["value"] F_is_integer) {f : Addr} {fd : FuncData} (Fu : Fun K "is_ratio" "is_ratio" s_is_ratio f fd) (g : mg "is_ratio" = some (.ref f)) : Has P w K mg base "is_ratio" 4 ["value"] F_is_ratio :=
  ⟨f, fd, g, Fu.kp, Fu.binds (ps := ["value"]) (fun _ _ _ _ _ _ us hl => match us, hl with | [_], _ => rfl), ok_is_ratio T h_is_long_ratio h_is_integer Fu⟩
theorem ok_check_ratio (T : Txt mg) (h_is_ratio : Has P w K mg base "is_ratio" 4 ["value"] F_is_ratio) {f : Addr} {fd : FuncData} (Fu : Fun K "check_ratio" "check_ratio" s_check_ratio f fd) : FnOk P w K mg base (L2.CX P w) 5 f fd ["ratio"] (spD K 1 F_check_ratio) :=
  fn_D (N := ["ratio"]) Fu sc_check_ratio B_check_ratio (fun n cdv A outer s H E hr => d_check_ratio T h_is_ratio hr) fun as _ _ => ⟨fuel as, rfl⟩
theorem has_check_ratio (T : Txt mg) (h_is_ratio : Has P w K mg base "is_ratio" 4 ["value"] F_is_ratio) {f : Addr} {fd : FuncData} (Fu : Fun K "check_ratio" "check_ratio" s_check_ratio f fd) (g : mg "check_ratio" = some (.ref f)) : Has P w K mg base "check_ratio" 5 ["ratio"] F_check_ratio :=
  ⟨f, fd, g, Fu.kp, Fu.binds (ps := ["ratio"]) (fun _ _ _ _ _ _ us hl => match us, hl with | [_], _ => rfl), ok_check_ratio T h_is_ratio Fu⟩
theorem ok_check_ratios (T : Txt mg) (h_check_ratio : Has P w K mg base "check_ratio" 5 ["ratio"] F_check_ratio) {f : Addr} {fd : FuncData} (Fu : Fun K "check_ratios" "check_ratios" s_check_ratios f fd) : FnOk P w K mg base (L2.CX P w) 6 f fd ["one", "other"] (spD K 2 F_check_ratios) :=
  fn_D (N := ["one", "other"]) Fu sc_check_ratios B_check_ratios (fun n cdv A outer s H E hr => d_check_ratios T h_check_ratio hr) fun as _ _ => ⟨fuel as, rfl⟩
theorem has_check_ratios (T : Txt mg) (h_check_ratio : Has P w K mg base "check_ratio" 5 ["ratio"] F_check_ratio) {f : Addr} {fd : FuncData} (Fu : Fun K "check_ratios" "check_ratios" s_check_ratios f fd) (g : mg "check_ratios" = some (.ref f)) : Has P w K mg base "check_ratios" 6 ["one", "other"] F_check_ratios :=
  ⟨f, fd, g, Fu.kp, Fu.binds (ps := ["one", "other"]) (fun _ _ _ _ _ _ us hl => match us, hl with | [_, _], _ => rfl), ok_check_ratios T h_check_ratio Fu⟩
theorem ok_plus (T : Txt mg) (h_check_ratios : Has P w K mg base "check_ratios" 6 ["one", "other"] F_check_ratios) (h_reduced : Has P w K mg base "reduced" 1 ["top", "bottom"] F_reduced) {f : Addr} {fd : FuncData} (Fu : Fun K "plus" "plus" s_plus f fd) : FnOk P w K mg base (L2.CX P w) 7 f fd ["one", "other"] (spD K 2 F_plus) :=
  fn_D (N := ["one", "other"]) Fu sc_plus B_plus (fun n cdv A outer s H E hr => d_plus T h_check_ratios h_reduced hr) fun as _ _ => ⟨fuel as, rfl⟩
theorem has_plus (T : Txt mg) (h_check_ratios : Has P w K mg base "check_ratios" 6 ["one", "other"] F_check_ratios) (h_reduced : Has P w K mg base "reduced" 1 ["top", "bottom"] F_reduced) {f : Addr} {fd : FuncData} (Fu : Fun K "plus" "plus" s_plus f fd) (g : mg "plus" = some (.ref f)) : Has P w K mg base "plus" 7 ["one", "other"] F_plus :=
  ⟨f, fd, g, Fu.kp, Fu.binds (ps := ["one", "other"]) (fun _ _ _ _ _ _ us hl => match us, hl with | [_, _], _ => rfl), ok_plus T h_check_ratios h_reduced Fu⟩
theorem ok_over (T : Txt mg) (h_check_ratios : Has P w K mg base "check_ratios" 6 ["one", "other"] F_check_ratios) (h_reduced : Has P w K mg base "reduced" 1 ["top", "bottom"] F_reduced) {f : Addr} {fd : FuncData} (Fu : Fun K "over" "over" s_over f fd) : FnOk P w K mg base (L2.CX P w) 7 f fd ["one", "other"] (spD K 2 F_over) :=
  fn_D (N := ["one", "other"]) Fu sc_over B_over (fun n cdv A outer s H E hr => d_over T h_check_ratios h_reduced hr) fun as _ _ => ⟨fuel as, rfl⟩
theorem has_over (T : Txt mg) (h_check_ratios : Has P w K mg base "check_ratios" 6 ["one", "other"] F_check_ratios) (h_reduced : Has P w K mg base "reduced" 1 ["top", "bottom"] F_reduced) {f : Addr} {fd : FuncData} (Fu : Fun K "over" "over" s_over f fd) (g : mg "over" = some (.ref f)) : Has P w K mg base "over" 7 ["one", "other"] F_over :=
  ⟨f, fd, g, Fu.kp, Fu.binds (ps := ["one", "other"]) (fun _ _ _ _ _ _ us hl => match us, hl with | [_, _], _ => rfl), ok_over T h_check_ratios h_reduced Fu⟩
theorem ok_compare (T : Txt mg) (h_check_ratios : Has P w K mg base "check_ratios" 6 ["one", "other"] F_check_ratios) {f : Addr} {fd : FuncData} (Fu : Fun K "compare" "compare" s_compare f fd) : FnOk P w K mg base (L2.CX P w) 7 f fd ["one", "other"] (spD K 2 F_compare) :=
  fn_D (N := ["one", "other", "left", "right"]) Fu sc_compare B_compare (fun n cdv A outer s H E hr => d_compare T h_check_ratios hr) fun as _ _ => ⟨fuel as, rfl⟩
theorem has_compare (T : Txt mg) (h_check_ratios : Has P w K mg base "check_ratios" 6 ["one", "other"] F_check_ratios) {f : Addr} {fd : FuncData} (Fu : Fun K "compare" "compare" s_compare f fd) (g : mg "compare" = some (.ref f)) : Has P w K mg base "compare" 7 ["one", "other"] F_compare :=
  ⟨f, fd, g, Fu.kp, Fu.binds (ps := ["one", "other"]) (fun _ _ _ _ _ _ us hl => match us, hl with | [_, _], _ => rfl), ok_compare T h_check_ratios Fu⟩
theorem ok_part_of (T : Txt mg) (h_check_ratio : Has P w K mg base "check_ratio" 5 ["ratio"] F_check_ratio) {f : Addr} {fd : FuncData} (Fu : Fun K "part_of" "part_of" s_part_of f fd) : FnOk P w K mg base (L2.CX P w) 6 f fd ["ratio"] (spD K 1 F_part_of) :=
  fn_D (N := ["ratio", "rest"]) Fu sc_part_of B_part_of (fun n cdv A outer s H E hr => d_part_of T h_check_ratio hr) fun as _ _ => ⟨fuel as, rfl⟩
theorem has_part_of (T : Txt mg) (h_check_ratio : Has P w K mg base "check_ratio" 5 ["ratio"] F_check_ratio) {f : Addr} {fd : FuncData} (Fu : Fun K "part_of" "part_of" s_part_of f fd) (g : mg "part_of" = some (.ref f)) : Has P w K mg base "part_of" 6 ["ratio"] F_part_of :=
  ⟨f, fd, g, Fu.kp, Fu.binds (ps := ["ratio"]) (fun _ _ _ _ _ _ us hl => match us, hl with | [_], _ => rfl), ok_part_of T h_check_ratio Fu⟩
theorem ok_floor_of (T : Txt mg) (h_check_ratio : Has P w K mg base "check_ratio" 5 ["ratio"] F_check_ratio) {f : Addr} {fd : FuncData} (Fu : Fun K "floor_of" "floor_of" s_floor_of f fd) : FnOk P w K mg base (L2.CX P w) 6 f fd ["ratio"] (spD K 1 F_floor_of) :=
  fn_D (N := ["ratio"]) Fu sc_floor_of B_floor_of (fun n cdv A outer s H E hr => d_floor_of T h_check_ratio hr) fun as _ _ => ⟨fuel as, rfl⟩
theorem has_floor_of (T : Txt mg) (h_check_ratio : Has P w K mg base "check_ratio" 5 ["ratio"] F_check_ratio) {f : Addr} {fd : FuncData} (Fu : Fun K "floor_of" "floor_of" s_floor_of f fd) (g : mg "floor_of" = some (.ref f)) : Has P w K mg base "floor_of" 6 ["ratio"] F_floor_of :=
  ⟨f, fd, g, Fu.kp, Fu.binds (ps := ["ratio"]) (fun _ _ _ _ _ _ us hl => match us, hl with | [_], _ => rfl), ok_floor_of T h_check_ratio Fu⟩
theorem ok_ceiling (T : Txt mg)  {f : Addr} {fd : FuncData} (Fu : Fun K "ceiling" "ceiling" s_ceiling f fd) : FnOk P w K mg base (L2.CX P w) 1 f fd ["top", "bottom"] (spD K 2 F_ceiling) :=
  fn_D (N := ["top", "bottom"]) Fu sc_ceiling B_ceiling (fun n cdv A outer s H E hr => d_ceiling T  hr) fun as _ _ => ⟨fuel as, rfl⟩
theorem has_ceiling (T : Txt mg)  {f : Addr} {fd : FuncData} (Fu : Fun K "ceiling" "ceiling" s_ceiling f fd) (g : mg "ceiling" = some (.ref f)) : Has P w K mg base "ceiling" 1 ["top", "bottom"] F_ceiling :=
  ⟨f, fd, g, Fu.kp, Fu.binds (ps := ["top", "bottom"]) (fun _ _ _ _ _ _ us hl => match us, hl with | [_, _], _ => rfl), ok_ceiling T  Fu⟩
theorem ok_ceiling_of (T : Txt mg) (h_check_ratio : Has P w K mg base "check_ratio" 5 ["ratio"] F_check_ratio) (h_ceiling : Has P w K mg base "ceiling" 1 ["top", "bottom"] F_ceiling) {f : Addr} {fd : FuncData} (Fu : Fun K "ceiling_of" "ceiling_of" s_ceiling_of f fd) : FnOk P w K mg base (L2.CX P w) 6 f fd ["ratio"] (spD K 1 F_ceiling_of) :=
  fn_D (N := ["ratio"]) Fu sc_ceiling_of B_ceiling_of (fun n cdv A outer s H E hr => d_ceiling_of T h_check_ratio h_ceiling hr) fun as _ _ => ⟨fuel as, rfl⟩
theorem has_ceiling_of (T : Txt mg) (h_check_ratio : Has P w K mg base "check_ratio" 5 ["ratio"] F_check_ratio) (h_ceiling : Has P w K mg base "ceiling" 1 ["top", "bottom"] F_ceiling) {f : Addr} {fd : FuncData} (Fu : Fun K "ceiling_of" "ceiling_of" s_ceiling_of f fd) (g : mg "ceiling_of" = some (.ref f)) : Has P w K mg base "ceiling_of" 6 ["ratio"] F_ceiling_of :=
  ⟨f, fd, g, Fu.kp, Fu.binds (ps := ["ratio"]) (fun _ _ _ _ _ _ us hl => match us, hl with | [_], _ => rfl), ok_ceiling_of T h_check_ratio h_ceiling Fu⟩
theorem ok_is_prime (T : Txt mg) (h_is_between : Has P w K mg base "is_between" 3 ["value", "least", "most"] F_is_between) {f : Addr} {fd : FuncData} (Fu : Fun K "is_prime" "is_prime" s_is_prime f fd) : FnOk P w K mg base (L2.CX P w) 4 f fd ["value"] (spD K 1 F_is_prime) :=
  fn_D (N := ["value", "divisor"]) Fu sc_is_prime B_is_prime (fun n cdv A outer s H E hr => d_is_prime T h_is_between hr) fun as _ _ => ⟨fuel as, rfl⟩
theorem has_is_prime (T : Txt mg) (h_is_between : Has P w K mg base "is_between" 3 ["value", "least", "most"] F_is_between) {f : Addr} {fd : FuncData} (Fu : Fun K "is_prime" "is_prime" s_is_prime f fd) (g : mg "is_prime" = some (.ref f)) : Has P w K mg base "is_prime" 4 ["value"] F_is_prime :=
  ⟨f, fd, g, Fu.kp, Fu.binds (ps := ["value"]) (fun _ _ _ _ _ _ us hl => match us, hl with | [_], _ => rfl), ok_is_prime T h_is_between Fu⟩
theorem ok_check_prime (T : Txt mg) (h_is_prime : Has P w K mg base "is_prime" 4 ["value"] F_is_prime) {f : Addr} {fd : FuncData} (Fu : Fun K "check_prime" "check_prime" s_check_prime f fd) : FnOk P w K mg base (L2.CX P w) 5 f fd ["prime"] (spD K 1 F_check_prime) :=
  fn_D (N := ["prime"]) Fu sc_check_prime B_check_prime (fun n cdv A outer s H E hr => d_check_prime T h_is_prime hr) fun as _ _ => ⟨fuel as, rfl⟩
theorem has_check_prime (T : Txt mg) (h_is_prime : Has P w K mg base "is_prime" 4 ["value"] F_is_prime) {f : Addr} {fd : FuncData} (Fu : Fun K "check_prime" "check_prime" s_check_prime f fd) (g : mg "check_prime" = some (.ref f)) : Has P w K mg base "check_prime" 5 ["prime"] F_check_prime :=
  ⟨f, fd, g, Fu.kp, Fu.binds (ps := ["prime"]) (fun _ _ _ _ _ _ us hl => match us, hl with | [_], _ => rfl), ok_check_prime T h_is_prime Fu⟩
theorem ok_times_within (T : Txt mg)  {f : Addr} {fd : FuncData} (Fu : Fun K "times_within" "times_within" s_times_within f fd) : FnOk P w K mg base (L2.CX P w) 1 f fd ["prime", "number"] (spD K 2 F_times_within) :=
  fn_D (N := ["prime", "number", "times", "left"]) Fu sc_times_within B_times_within (fun n cdv A outer s H E hr => d_times_within T  hr) fun as _ _ => ⟨fuel as, rfl⟩
theorem has_times_within (T : Txt mg)  {f : Addr} {fd : FuncData} (Fu : Fun K "times_within" "times_within" s_times_within f fd) (g : mg "times_within" = some (.ref f)) : Has P w K mg base "times_within" 1 ["prime", "number"] F_times_within :=
  ⟨f, fd, g, Fu.kp, Fu.binds (ps := ["prime", "number"]) (fun _ _ _ _ _ _ us hl => match us, hl with | [_, _], _ => rfl), ok_times_within T  Fu⟩
theorem ok_exponent_of (T : Txt mg) (h_check_prime : Has P w K mg base "check_prime" 5 ["prime"] F_check_prime) (h_check_ratio : Has P w K mg base "check_ratio" 5 ["ratio"] F_check_ratio) (h_times_within : Has P w K mg base "times_within" 1 ["prime", "number"] F_times_within) {f : Addr} {fd : FuncData} (Fu : Fun K "exponent_of" "exponent_of" s_exponent_of f fd) : FnOk P w K mg base (L2.CX P w) 6 f fd ["prime", "ratio"] (spD K 2 F_exponent_of) :=
  fn_D (N := ["prime", "ratio"]) Fu sc_exponent_of B_exponent_of (fun n cdv A outer s H E hr => d_exponent_of T h_check_prime h_check_ratio h_times_within hr) fun as _ _ => ⟨fuel as, rfl⟩
theorem has_exponent_of (T : Txt mg) (h_check_prime : Has P w K mg base "check_prime" 5 ["prime"] F_check_prime) (h_check_ratio : Has P w K mg base "check_ratio" 5 ["ratio"] F_check_ratio) (h_times_within : Has P w K mg base "times_within" 1 ["prime", "number"] F_times_within) {f : Addr} {fd : FuncData} (Fu : Fun K "exponent_of" "exponent_of" s_exponent_of f fd) (g : mg "exponent_of" = some (.ref f)) : Has P w K mg base "exponent_of" 6 ["prime", "ratio"] F_exponent_of :=
  ⟨f, fd, g, Fu.kp, Fu.binds (ps := ["prime", "ratio"]) (fun _ _ _ _ _ _ us hl => match us, hl with | [_, _], _ => rfl), ok_exponent_of T h_check_prime h_check_ratio h_times_within Fu⟩
theorem ok_minus (T : Txt mg) (h_check_ratios : Has P w K mg base "check_ratios" 6 ["one", "other"] F_check_ratios) (h_reduced : Has P w K mg base "reduced" 1 ["top", "bottom"] F_reduced) {f : Addr} {fd : FuncData} (Fu : Fun K "minus" "minus" s_minus f fd) : FnOk P w K mg base (L2.CX P w) 7 f fd ["one", "other"] (spD K 2 F_minus) :=
  fn_D (N := ["one", "other"]) Fu sc_minus B_minus (fun n cdv A outer s H E hr => d_minus T h_check_ratios h_reduced hr) fun as _ _ => ⟨fuel as, rfl⟩
theorem has_minus (T : Txt mg) (h_check_ratios : Has P w K mg base "check_ratios" 6 ["one", "other"] F_check_ratios) (h_reduced : Has P w K mg base "reduced" 1 ["top", "bottom"] F_reduced) {f : Addr} {fd : FuncData} (Fu : Fun K "minus" "minus" s_minus f fd) (g : mg "minus" = some (.ref f)) : Has P w K mg base "minus" 7 ["one", "other"] F_minus :=
  ⟨f, fd, g, Fu.kp, Fu.binds (ps := ["one", "other"]) (fun _ _ _ _ _ _ us hl => match us, hl with | [_, _], _ => rfl), ok_minus T h_check_ratios h_reduced Fu⟩
theorem ok_q_grab (T : Txt mg)  {f : Addr} {fd : FuncData} (Fu : Fun K "_law_grab" "_law_grab" s_q_grab f fd) : FnOk P w K mg base (L2.CX P w) 1 f fd ["_law_bag_here", "_law_total"] (spD K 2 F_q_grab) :=
  fn_D (N := ["_law_bag_here", "_law_total", "_law_found", "_law_one", "_law_two"]) Fu sc_q_grab B_q_grab (fun n cdv A outer s H E hr => d_q_grab T  hr) fun as _ _ => ⟨fuel as, rfl⟩
theorem has_q_grab (T : Txt mg)  {f : Addr} {fd : FuncData} (Fu : Fun K "_law_grab" "_law_grab" s_q_grab f fd) (g : mg "_law_grab" = some (.ref f)) : Has P w K mg base "_law_grab" 1 ["_law_bag_here", "_law_total"] F_q_grab :=
  ⟨f, fd, g, Fu.kp, Fu.binds (ps := ["_law_bag_here", "_law_total"]) (fun _ _ _ _ _ _ us hl => match us, hl with | [_, _], _ => rfl), ok_q_grab T  Fu⟩
theorem ok_q_one_of (T : Txt mg) (h_q_grab : Has P w K mg base "_law_grab" 1 ["_law_bag_here", "_law_total"] F_q_grab) {f : Addr} {fd : FuncData} (Fu : Fun K "_law_one_of" "_law_one_of" s_q_one_of f fd) : FnOk P w K mg base (L2.CX P w) 2 f fd ["_law_bag_here", "_law_items"] (spD K 2 F_q_one_of) :=
  fn_D (N := ["_law_bag_here", "_law_items"]) Fu sc_q_one_of B_q_one_of (fun n cdv A outer s H E hr => d_q_one_of T h_q_grab hr) fun as _ _ => ⟨fuel as, rfl⟩
theorem has_q_one_of (T : Txt mg) (h_q_grab : Has P w K mg base "_law_grab" 1 ["_law_bag_here", "_law_total"] F_q_grab) {f : Addr} {fd : FuncData} (Fu : Fun K "_law_one_of" "_law_one_of" s_q_one_of f fd) (g : mg "_law_one_of" = some (.ref f)) : Has P w K mg base "_law_one_of" 2 ["_law_bag_here", "_law_items"] F_q_one_of :=
  ⟨f, fd, g, Fu.kp, Fu.binds (ps := ["_law_bag_here", "_law_items"]) (fun _ _ _ _ _ _ us hl => match us, hl with | [_, _], _ => rfl), ok_q_one_of T h_q_grab Fu⟩
theorem ok_q_ra_divisor (T : Txt mg)  {f : Addr} {fd : FuncData} (Fu : Fun K "_law_ra_divisor" "_law_ra_divisor" s_q_ra_divisor f fd) : FnOk P w K mg base (L2.CX P w) 1 f fd ["_law_one", "_law_other"] (spD K 2 F_q_ra_divisor) :=
  fn_D (N := ["_law_one", "_law_other"]) Fu sc_q_ra_divisor B_q_ra_divisor (fun n cdv A outer s H E hr => d_q_ra_divisor T  hr) fun as _ _ => ⟨fuel as, rfl⟩
theorem has_q_ra_divisor (T : Txt mg)  {f : Addr} {fd : FuncData} (Fu : Fun K "_law_ra_divisor" "_law_ra_divisor" s_q_ra_divisor f fd) (g : mg "_law_ra_divisor" = some (.ref f)) : Has P w K mg base "_law_ra_divisor" 1 ["_law_one", "_law_other"] F_q_ra_divisor :=
  ⟨f, fd, g, Fu.kp, Fu.binds (ps := ["_law_one", "_law_other"]) (fun _ _ _ _ _ _ us hl => match us, hl with | [_, _], _ => rfl), ok_q_ra_divisor T  Fu⟩
theorem ok_q_ra_lowest (T : Txt mg) (h_q_ra_divisor : Has P w K mg base "_law_ra_divisor" 1 ["_law_one", "_law_other"] F_q_ra_divisor) {f : Addr} {fd : FuncData} (Fu : Fun K "_law_ra_lowest" "_law_ra_lowest" s_q_ra_lowest f fd) : FnOk P w K mg base (L2.CX P w) 2 f fd ["_law_top", "_law_bottom"] (spD K 2 F_q_ra_lowest) :=
  fn_D (N := ["_law_top", "_law_bottom", "_law_share"]) Fu sc_q_ra_lowest B_q_ra_lowest (fun n cdv A outer s H E hr => d_q_ra_lowest T h_q_ra_divisor hr) fun as _ _ => ⟨fuel as, rfl⟩
theorem has_q_ra_lowest (T : Txt mg) (h_q_ra_divisor : Has P w K mg base "_law_ra_divisor" 1 ["_law_one", "_law_other"] F_q_ra_divisor) {f : Addr} {fd : FuncData} (Fu : Fun K "_law_ra_lowest" "_law_ra_lowest" s_q_ra_lowest f fd) (g : mg "_law_ra_lowest" = some (.ref f)) : Has P w K mg base "_law_ra_lowest" 2 ["_law_top", "_law_bottom"] F_q_ra_lowest :=
  ⟨f, fd, g, Fu.kp, Fu.binds (ps := ["_law_top", "_law_bottom"]) (fun _ _ _ _ _ _ us hl => match us, hl with | [_, _], _ => rfl), ok_q_ra_lowest T h_q_ra_divisor Fu⟩
theorem ok_q_ra_drawn (T : Txt mg) (h_q_one_of : Has P w K mg base "_law_one_of" 2 ["_law_bag_here", "_law_items"] F_q_one_of) (h_q_ra_lowest : Has P w K mg base "_law_ra_lowest" 2 ["_law_top", "_law_bottom"] F_q_ra_lowest) (h_q_grab : Has P w K mg base "_law_grab" 1 ["_law_bag_here", "_law_total"] F_q_grab) {f : Addr} {fd : FuncData} (Fu : Fun K "_law_ra_drawn" "_law_ra_drawn" s_q_ra_drawn f fd) : FnOk P w K mg base (L2.CX P w) 3 f fd ["_law_bag_here"] (spD K 1 F_q_ra_drawn) :=
  fn_D (N := ["_law_bag_here", "_law_high"]) Fu sc_q_ra_drawn B_q_ra_drawn (fun n cdv A outer s H E hr => d_q_ra_drawn T h_q_one_of h_q_ra_lowest h_q_grab hr) fun as _ _ => ⟨fuel as, rfl⟩
theorem has_q_ra_drawn (T : Txt mg) (h_q_one_of : Has P w K mg base "_law_one_of" 2 ["_law_bag_here", "_law_items"] F_q_one_of) (h_q_ra_lowest : Has P w K mg base "_law_ra_lowest" 2 ["_law_top", "_law_bottom"] F_q_ra_lowest) (h_q_grab : Has P w K mg base "_law_grab" 1 ["_law_bag_here", "_law_total"] F_q_grab) {f : Addr} {fd : FuncData} (Fu : Fun K "_law_ra_drawn" "_law_ra_drawn" s_q_ra_drawn f fd) (g : mg "_law_ra_drawn" = some (.ref f)) : Has P w K mg base "_law_ra_drawn" 3 ["_law_bag_here"] F_q_ra_drawn :=
  ⟨f, fd, g, Fu.kp, Fu.binds (ps := ["_law_bag_here"]) (fun _ _ _ _ _ _ us hl => match us, hl with | [_], _ => rfl), ok_q_ra_drawn T h_q_one_of h_q_ra_lowest h_q_grab Fu⟩
theorem ok_q_ra_short (T : Txt mg)  {f : Addr} {fd : FuncData} (Fu : Fun K "_law_ra_short" "_law_ra_short" s_q_ra_short f fd) : FnOk P w K mg base (L2.CX P w) 1 f fd ["_law_value"] (spD K 1 F_q_ra_short) :=
  fn_D (N := ["_law_value"]) Fu sc_q_ra_short B_q_ra_short (fun n cdv A outer s H E hr => d_q_ra_short T  hr) fun as _ _ => ⟨fuel as, rfl⟩
theorem has_q_ra_short (T : Txt mg)  {f : Addr} {fd : FuncData} (Fu : Fun K "_law_ra_short" "_law_ra_short" s_q_ra_short f fd) (g : mg "_law_ra_short" = some (.ref f)) : Has P w K mg base "_law_ra_short" 1 ["_law_value"] F_q_ra_short :=
  ⟨f, fd, g, Fu.kp, Fu.binds (ps := ["_law_value"]) (fun _ _ _ _ _ _ us hl => match us, hl with | [_], _ => rfl), ok_q_ra_short T  Fu⟩
theorem ok_q_ra_is_ratio (T : Txt mg) (h_q_ra_short : Has P w K mg base "_law_ra_short" 1 ["_law_value"] F_q_ra_short) (h_q_ra_divisor : Has P w K mg base "_law_ra_divisor" 1 ["_law_one", "_law_other"] F_q_ra_divisor) {f : Addr} {fd : FuncData} (Fu : Fun K "_law_ra_is_ratio" "_law_ra_is_ratio" s_q_ra_is_ratio f fd) : FnOk P w K mg base (L2.CX P w) 2 f fd ["_law_value"] (spD K 1 F_q_ra_is_ratio) :=
  fn_D (N := ["_law_value"]) Fu sc_q_ra_is_ratio B_q_ra_is_ratio (fun n cdv A outer s H E hr => d_q_ra_is_ratio T h_q_ra_short h_q_ra_divisor hr) fun as _ _ => ⟨fuel as, rfl⟩
theorem has_q_ra_is_ratio (T : Txt mg) (h_q_ra_short : Has P w K mg base "_law_ra_short" 1 ["_law_value"] F_q_ra_short) (h_q_ra_divisor : Has P w K mg base "_law_ra_divisor" 1 ["_law_one", "_law_other"] F_q_ra_divisor) {f : Addr} {fd : FuncData} (Fu : Fun K "_law_ra_is_ratio" "_law_ra_is_ratio" s_q_ra_is_ratio f fd) (g : mg "_law_ra_is_ratio" = some (.ref f)) : Has P w K mg base "_law_ra_is_ratio" 2 ["_law_value"] F_q_ra_is_ratio :=
  ⟨f, fd, g, Fu.kp, Fu.binds (ps := ["_law_value"]) (fun _ _ _ _ _ _ us hl => match us, hl with | [_], _ => rfl), ok_q_ra_is_ratio T h_q_ra_short h_q_ra_divisor Fu⟩
theorem ok_q_judged_right (T : Txt mg) (h_q_ra_drawn : Has P w K mg base "_law_ra_drawn" 3 ["_law_bag_here"] F_q_ra_drawn) (h_is_ratio : Has P w K mg base "is_ratio" 4 ["value"] F_is_ratio) (h_q_ra_is_ratio : Has P w K mg base "_law_ra_is_ratio" 2 ["_law_value"] F_q_ra_is_ratio) {f : Addr} {fd : FuncData} (Fu : Fun K "_law_judged_right" "_law_judged_right" s_q_judged_right f fd) : FnOk P w K mg base (L2.CX P w) 5 f fd ["_law_bag_here"] (spD K 1 F_q_judged_right) :=
  fn_D (N := ["_law_bag_here", "_law_top", "_law_bottom", "_law_values", "_law_value"]) Fu sc_q_judged_right B_q_judged_right (fun n cdv A outer s H E hr => d_q_judged_right T h_q_ra_drawn h_is_ratio h_q_ra_is_ratio hr) fun as _ _ => ⟨fuel as, rfl⟩
theorem has_q_judged_right (T : Txt mg) (h_q_ra_drawn : Has P w K mg base "_law_ra_drawn" 3 ["_law_bag_here"] F_q_ra_drawn) (h_is_ratio : Has P w K mg base "is_ratio" 4 ["value"] F_is_ratio) (h_q_ra_is_ratio : Has P w K mg base "_law_ra_is_ratio" 2 ["_law_value"] F_q_ra_is_ratio) {f : Addr} {fd : FuncData} (Fu : Fun K "_law_judged_right" "_law_judged_right" s_q_judged_right f fd) (g : mg "_law_judged_right" = some (.ref f)) : Has P w K mg base "_law_judged_right" 5 ["_law_bag_here"] F_q_judged_right :=
  ⟨f, fd, g, Fu.kp, Fu.binds (ps := ["_law_bag_here"]) (fun _ _ _ _ _ _ us hl => match us, hl with | [_], _ => rfl), ok_q_judged_right T h_q_ra_drawn h_is_ratio h_q_ra_is_ratio Fu⟩
theorem ok_q_lowered_right (T : Txt mg) (h_q_one_of : Has P w K mg base "_law_one_of" 2 ["_law_bag_here", "_law_items"] F_q_one_of) (h_q_ra_is_ratio : Has P w K mg base "_law_ra_is_ratio" 2 ["_law_value"] F_q_ra_is_ratio) (h_lowest : Has P w K mg base "lowest" 5 ["top", "bottom"] F_lowest) (h_q_ra_lowest : Has P w K mg base "_law_ra_lowest" 2 ["_law_top", "_law_bottom"] F_q_ra_lowest) (h_q_grab : Has P w K mg base "_law_grab" 1 ["_law_bag_here", "_law_total"] F_q_grab) {f : Addr} {fd : FuncData} (Fu : Fun K "_law_lowered_right" "_law_lowered_right" s_q_lowered_right f fd) : FnOk P w K mg base (L2.CX P w) 6 f fd ["_law_bag_here"] (spD K 1 F_q_lowered_right) :=
  fn_D (N := ["_law_bag_here", "_law_share", "_law_high", "_law_top", "_law_bottom"]) Fu sc_q_lowered_right B_q_lowered_right (fun n cdv A outer s H E hr => d_q_lowered_right T h_q_one_of h_q_ra_is_ratio h_lowest h_q_ra_lowest h_q_grab hr) fun as _ _ => ⟨fuel as, rfl⟩
theorem has_q_lowered_right (T : Txt mg) (h_q_one_of : Has P w K mg base "_law_one_of" 2 ["_law_bag_here", "_law_items"] F_q_one_of) (h_q_ra_is_ratio : Has P w K mg base "_law_ra_is_ratio" 2 ["_law_value"] F_q_ra_is_ratio) (h_lowest : Has P w K mg base "lowest" 5 ["top", "bottom"] F_lowest) (h_q_ra_lowest : Has P w K mg base "_law_ra_lowest" 2 ["_law_top", "_law_bottom"] F_q_ra_lowest) (h_q_grab : Has P w K mg base "_law_grab" 1 ["_law_bag_here", "_law_total"] F_q_grab) {f : Addr} {fd : FuncData} (Fu : Fun K "_law_lowered_right" "_law_lowered_right" s_q_lowered_right f fd) (g : mg "_law_lowered_right" = some (.ref f)) : Has P w K mg base "_law_lowered_right" 6 ["_law_bag_here"] F_q_lowered_right :=
  ⟨f, fd, g, Fu.kp, Fu.binds (ps := ["_law_bag_here"]) (fun _ _ _ _ _ _ us hl => match us, hl with | [_], _ => rfl), ok_q_lowered_right T h_q_one_of h_q_ra_is_ratio h_lowest h_q_ra_lowest h_q_grab Fu⟩
theorem ok_times (T : Txt mg) (h_check_ratios : Has P w K mg base "check_ratios" 6 ["one", "other"] F_check_ratios) (h_reduced : Has P w K mg base "reduced" 1 ["top", "bottom"] F_reduced) {f : Addr} {fd : FuncData} (Fu : Fun K "times" "times" s_times f fd) : FnOk P w K mg base (L2.CX P w) 7 f fd ["one", "other"] (spD K 2 F_times) :=
  fn_D (N := ["one", "other"]) Fu sc_times B_times (fun n cdv A outer s H E hr => d_times T h_check_ratios h_reduced hr) fun as _ _ => ⟨fuel as, rfl⟩
theorem has_times (T : Txt mg) (h_check_ratios : Has P w K mg base "check_ratios" 6 ["one", "other"] F_check_ratios) (h_reduced : Has P w K mg base "reduced" 1 ["top", "bottom"] F_reduced) {f : Addr} {fd : FuncData} (Fu : Fun K "times" "times" s_times f fd) (g : mg "times" = some (.ref f)) : Has P w K mg base "times" 7 ["one", "other"] F_times :=
  ⟨f, fd, g, Fu.kp, Fu.binds (ps := ["one", "other"]) (fun _ _ _ _ _ _ us hl => match us, hl with | [_, _], _ => rfl), ok_times T h_check_ratios h_reduced Fu⟩
theorem ok_q_reckoned_right (T : Txt mg) (h_q_ra_drawn : Has P w K mg base "_law_ra_drawn" 3 ["_law_bag_here"] F_q_ra_drawn) (h_q_grab : Has P w K mg base "_law_grab" 1 ["_law_bag_here", "_law_total"] F_q_grab) (h_plus : Has P w K mg base "plus" 7 ["one", "other"] F_plus) (h_minus : Has P w K mg base "minus" 7 ["one", "other"] F_minus) (h_times : Has P w K mg base "times" 7 ["one", "other"] F_times) (h_compare : Has P w K mg base "compare" 7 ["one", "other"] F_compare) (h_q_ra_lowest : Has P w K mg base "_law_ra_lowest" 2 ["_law_top", "_law_bottom"] F_q_ra_lowest) (h_over : Has P w K mg base "over" 7 ["one", "other"] F_over) {f : Addr} {fd : FuncData} (Fu : Fun K "_law_reckoned_right" "_law_reckoned_right" s_q_reckoned_right f fd) : FnOk P w K mg base (L2.CX P w) 8 f fd ["_law_bag_here"] (spD K 1 F_q_reckoned_right) :=
  fn_D (N := ["_law_bag_here", "_law_one", "_law_other", "_law_a", "_law_b", "_law_c", "_law_d", "_law_due", "_law_told"]) Fu sc_q_reckoned_right B_q_reckoned_right (fun n cdv A outer s H E hr => d_q_reckoned_right T h_q_ra_drawn h_q_grab h_plus h_minus h_times h_compare h_q_ra_lowest h_over hr) fun as _ _ => ⟨fuel as, rfl⟩
theorem has_q_reckoned_right (T : Txt mg) (h_q_ra_drawn : Has P w K mg base "_law_ra_drawn" 3 ["_law_bag_here"] F_q_ra_drawn) (h_q_grab : Has P w K mg base "_law_grab" 1 ["_law_bag_here", "_law_total"] F_q_grab) (h_plus : Has P w K mg base "plus" 7 ["one", "other"] F_plus) (h_minus : Has P w K mg base "minus" 7 ["one", "other"] F_minus) (h_times : Has P w K mg base "times" 7 ["one", "other"] F_times) (h_compare : Has P w K mg base "compare" 7 ["one", "other"] F_compare) (h_q_ra_lowest : Has P w K mg base "_law_ra_lowest" 2 ["_law_top", "_law_bottom"] F_q_ra_lowest) (h_over : Has P w K mg base "over" 7 ["one", "other"] F_over) {f : Addr} {fd : FuncData} (Fu : Fun K "_law_reckoned_right" "_law_reckoned_right" s_q_reckoned_right f fd) (g : mg "_law_reckoned_right" = some (.ref f)) : Has P w K mg base "_law_reckoned_right" 8 ["_law_bag_here"] F_q_reckoned_right :=
  ⟨f, fd, g, Fu.kp, Fu.binds (ps := ["_law_bag_here"]) (fun _ _ _ _ _ _ us hl => match us, hl with | [_], _ => rfl), ok_q_reckoned_right T h_q_ra_drawn h_q_grab h_plus h_minus h_times h_compare h_q_ra_lowest h_over Fu⟩
theorem ok_q_floors_right (T : Txt mg) (h_q_ra_drawn : Has P w K mg base "_law_ra_drawn" 3 ["_law_bag_here"] F_q_ra_drawn) (h_part_of : Has P w K mg base "part_of" 6 ["ratio"] F_part_of) (h_floor_of : Has P w K mg base "floor_of" 6 ["ratio"] F_floor_of) (h_q_grab : Has P w K mg base "_law_grab" 1 ["_law_bag_here", "_law_total"] F_q_grab) (h_ceiling_of : Has P w K mg base "ceiling_of" 6 ["ratio"] F_ceiling_of) (h_q_ra_lowest : Has P w K mg base "_law_ra_lowest" 2 ["_law_top", "_law_bottom"] F_q_ra_lowest) (h_plus : Has P w K mg base "plus" 7 ["one", "other"] F_plus) (h_times : Has P w K mg base "times" 7 ["one", "other"] F_times) (h_lowest : Has P w K mg base "lowest" 5 ["top", "bottom"] F_lowest) {f : Addr} {fd : FuncData} (Fu : Fun K "_law_floors_right" "_law_floors_right" s_q_floors_right f fd) : FnOk P w K mg base (L2.CX P w) 8 f fd ["_law_bag_here"] (spD K 1 F_q_floors_right) :=
  fn_D (N := ["_law_bag_here", "_law_top", "_law_bottom", "_law_whole", "_law_many", "_law_rest", "_law_step", "_law_shifts"]) Fu sc_q_floors_right B_q_floors_right (fun n cdv A outer s H E hr => d_q_floors_right T h_q_ra_drawn h_part_of h_floor_of h_q_grab h_ceiling_of h_q_ra_lowest h_plus h_times h_lowest hr) fun as _ _ => ⟨fuel as, rfl⟩
theorem has_q_floors_right (T : Txt mg) (h_q_ra_drawn : Has P w K mg base "_law_ra_drawn" 3 ["_law_bag_here"] F_q_ra_drawn) (h_part_of : Has P w K mg base "part_of" 6 ["ratio"] F_part_of) (h_floor_of : Has P w K mg base "floor_of" 6 ["ratio"] F_floor_of) (h_q_grab : Has P w K mg base "_law_grab" 1 ["_law_bag_here", "_law_total"] F_q_grab) (h_ceiling_of : Has P w K mg base "ceiling_of" 6 ["ratio"] F_ceiling_of) (h_q_ra_lowest : Has P w K mg base "_law_ra_lowest" 2 ["_law_top", "_law_bottom"] F_q_ra_lowest) (h_plus : Has P w K mg base "plus" 7 ["one", "other"] F_plus) (h_times : Has P w K mg base "times" 7 ["one", "other"] F_times) (h_lowest : Has P w K mg base "lowest" 5 ["top", "bottom"] F_lowest) {f : Addr} {fd : FuncData} (Fu : Fun K "_law_floors_right" "_law_floors_right" s_q_floors_right f fd) (g : mg "_law_floors_right" = some (.ref f)) : Has P w K mg base "_law_floors_right" 8 ["_law_bag_here"] F_q_floors_right :=
  ⟨f, fd, g, Fu.kp, Fu.binds (ps := ["_law_bag_here"]) (fun _ _ _ _ _ _ us hl => match us, hl with | [_], _ => rfl), ok_q_floors_right T h_q_ra_drawn h_part_of h_floor_of h_q_grab h_ceiling_of h_q_ra_lowest h_plus h_times h_lowest Fu⟩
theorem ok_q_ra_often (T : Txt mg)  {f : Addr} {fd : FuncData} (Fu : Fun K "_law_ra_often" "_law_ra_often" s_q_ra_often f fd) : FnOk P w K mg base (L2.CX P w) 1 f fd ["_law_prime", "_law_number"] (spD K 2 F_q_ra_often) :=
  fn_D (N := ["_law_prime", "_law_number", "_law_found", "_law_turn"]) Fu sc_q_ra_often B_q_ra_often (fun n cdv A outer s H E hr => d_q_ra_often T  hr) fun as _ _ => ⟨fuel as, rfl⟩
theorem has_q_ra_often (T : Txt mg)  {f : Addr} {fd : FuncData} (Fu : Fun K "_law_ra_often" "_law_ra_often" s_q_ra_often f fd) (g : mg "_law_ra_often" = some (.ref f)) : Has P w K mg base "_law_ra_often" 1 ["_law_prime", "_law_number"] F_q_ra_often :=
  ⟨f, fd, g, Fu.kp, Fu.binds (ps := ["_law_prime", "_law_number"]) (fun _ _ _ _ _ _ us hl => match us, hl with | [_, _], _ => rfl), ok_q_ra_often T  Fu⟩
theorem ok_q_ra_exponent (T : Txt mg) (h_q_ra_often : Has P w K mg base "_law_ra_often" 1 ["_law_prime", "_law_number"] F_q_ra_often) {f : Addr} {fd : FuncData} (Fu : Fun K "_law_ra_exponent" "_law_ra_exponent" s_q_ra_exponent f fd) : FnOk P w K mg base (L2.CX P w) 2 f fd ["_law_prime", "_law_ratio"] (spD K 2 F_q_ra_exponent) :=
  fn_D (N := ["_law_prime", "_law_ratio"]) Fu sc_q_ra_exponent B_q_ra_exponent (fun n cdv A outer s H E hr => d_q_ra_exponent T h_q_ra_often hr) fun as _ _ => ⟨fuel as, rfl⟩
theorem has_q_ra_exponent (T : Txt mg) (h_q_ra_often : Has P w K mg base "_law_ra_often" 1 ["_law_prime", "_law_number"] F_q_ra_often) {f : Addr} {fd : FuncData} (Fu : Fun K "_law_ra_exponent" "_law_ra_exponent" s_q_ra_exponent f fd) (g : mg "_law_ra_exponent" = some (.ref f)) : Has P w K mg base "_law_ra_exponent" 2 ["_law_prime", "_law_ratio"] F_q_ra_exponent :=
  ⟨f, fd, g, Fu.kp, Fu.binds (ps := ["_law_prime", "_law_ratio"]) (fun _ _ _ _ _ _ us hl => match us, hl with | [_, _], _ => rfl), ok_q_ra_exponent T h_q_ra_often Fu⟩
theorem ok_q_exponents_right (T : Txt mg) (h_q_one_of : Has P w K mg base "_law_one_of" 2 ["_law_bag_here", "_law_items"] F_q_one_of) (h_q_ra_lowest : Has P w K mg base "_law_ra_lowest" 2 ["_law_top", "_law_bottom"] F_q_ra_lowest) (h_plus : Has P w K mg base "plus" 7 ["one", "other"] F_plus) (h_q_grab : Has P w K mg base "_law_grab" 1 ["_law_bag_here", "_law_total"] F_q_grab) (h_q_ra_drawn : Has P w K mg base "_law_ra_drawn" 3 ["_law_bag_here"] F_q_ra_drawn) (h_exponent_of : Has P w K mg base "exponent_of" 6 ["prime", "ratio"] F_exponent_of) (h_q_ra_exponent : Has P w K mg base "_law_ra_exponent" 2 ["_law_prime", "_law_ratio"] F_q_ra_exponent) (h_times : Has P w K mg base "times" 7 ["one", "other"] F_times) (h_over : Has P w K mg base "over" 7 ["one", "other"] F_over) {f : Addr} {fd : FuncData} (Fu : Fun K "_law_exponents_right" "_law_exponents_right" s_q_exponents_right f fd) : FnOk P w K mg base (L2.CX P w) 8 f fd ["_law_bag_here"] (spD K 1 F_q_exponents_right) :=
  fn_D (N := ["_law_bag_here", "_law_prime", "_law_power", "_law_turn", "_law_one", "_law_other", "_law_first", "_law_second", "_law_total"]) Fu sc_q_exponents_right B_q_exponents_right (fun n cdv A outer s H E hr => d_q_exponents_right T h_q_one_of h_q_ra_lowest h_plus h_q_grab h_q_ra_drawn h_exponent_of h_q_ra_exponent h_times h_over hr) fun as _ _ => ⟨fuel as, rfl⟩
theorem has_q_exponents_right (T : Txt mg) (h_q_one_of : Has P w K mg base "_law_one_of" 2 ["_law_bag_here", "_law_items"] F_q_one_of) (h_q_ra_lowest : Has P w K mg base "_law_ra_lowest" 2 ["_law_top", "_law_bottom"] F_q_ra_lowest) (h_plus : Has P w K mg base "plus" 7 ["one", "other"] F_plus) (h_q_grab : Has P w K mg base "_law_grab" 1 ["_law_bag_here", "_law_total"] F_q_grab) (h_q_ra_drawn : Has P w K mg base "_law_ra_drawn" 3 ["_law_bag_here"] F_q_ra_drawn) (h_exponent_of : Has P w K mg base "exponent_of" 6 ["prime", "ratio"] F_exponent_of) (h_q_ra_exponent : Has P w K mg base "_law_ra_exponent" 2 ["_law_prime", "_law_ratio"] F_q_ra_exponent) (h_times : Has P w K mg base "times" 7 ["one", "other"] F_times) (h_over : Has P w K mg base "over" 7 ["one", "other"] F_over) {f : Addr} {fd : FuncData} (Fu : Fun K "_law_exponents_right" "_law_exponents_right" s_q_exponents_right f fd) (g : mg "_law_exponents_right" = some (.ref f)) : Has P w K mg base "_law_exponents_right" 8 ["_law_bag_here"] F_q_exponents_right :=
  ⟨f, fd, g, Fu.kp, Fu.binds (ps := ["_law_bag_here"]) (fun _ _ _ _ _ _ us hl => match us, hl with | [_], _ => rfl), ok_q_exponents_right T h_q_one_of h_q_ra_lowest h_plus h_q_grab h_q_ra_drawn h_exponent_of h_q_ra_exponent h_times h_over Fu⟩
theorem ok_law (T : Txt mg) (h_q_bag : Has P w K mg base "_law_bag" 1 ["_law_script", "_law_spot"] F_q_bag) (h_lowest : Has P w K mg base "lowest" 5 ["top", "bottom"] F_lowest) (h_plus : Has P w K mg base "plus" 7 ["one", "other"] F_plus) (h_over : Has P w K mg base "over" 7 ["one", "other"] F_over) (h_compare : Has P w K mg base "compare" 7 ["one", "other"] F_compare) (h_part_of : Has P w K mg base "part_of" 6 ["ratio"] F_part_of) (h_floor_of : Has P w K mg base "floor_of" 6 ["ratio"] F_floor_of) (h_ceiling_of : Has P w K mg base "ceiling_of" 6 ["ratio"] F_ceiling_of) (h_exponent_of : Has P w K mg base "exponent_of" 6 ["prime", "ratio"] F_exponent_of) (h_minus : Has P w K mg base "minus" 7 ["one", "other"] F_minus) (h_q_judged_right : Has P w K mg base "_law_judged_right" 5 ["_law_bag_here"] F_q_judged_right) (h_q_lowered_right : Has P w K mg base "_law_lowered_right" 6 ["_law_bag_here"] F_q_lowered_right) (h_q_reckoned_right : Has P w K mg base "_law_reckoned_right" 8 ["_law_bag_here"] F_q_reckoned_right) (h_q_floors_right : Has P w K mg base "_law_floors_right" 8 ["_law_bag_here"] F_q_floors_right) (h_q_exponents_right : Has P w K mg base "_law_exponents_right" 8 ["_law_bag_here"] F_q_exponents_right) {f : Addr} {fd : FuncData} (Fu : Fun K "law" "law" s_law f fd) : FnOk P w K mg base (L2.CX P w) 9 f fd ["_law_script"] (spD K 1 F_law) :=
  fn_D (N := ["_law_script", "_law_spot", "_law_bag_here", "_law_turn", "_law_told"]) Fu sc_law B_law (fun n cdv A outer s H E hr => d_law T h_q_bag h_lowest h_plus h_over h_compare h_part_of h_floor_of h_ceiling_of h_exponent_of h_minus h_q_judged_right h_q_lowered_right h_q_reckoned_right h_q_floors_right h_q_exponents_right hr) fun as _ _ => ⟨fuel as, rfl⟩
end
theorem all_mk {l : PySem.W.OpenLaw} {w : World} {K : PySem.W.Frag} {h : Heap} {mg : Str → Option Value} {fa f0 f1 f2 f3 f4 f5 f6 f7 f8 f9 f10 f11 f12 f13 f14 f15 f16 f17 f18 f19 f20 f21 f22 f23 f24 f25 f26 f27 f28 f29 f30 f31 f32 f33 f34 f35 f36 f37 f38 f39 : Addr} (X : K.In h) (G : h.Ns mainGlobals mg) (hfa : mg "law" = some (.ref fa))
    {od0 an0 od1 an1 od2 an2 od3 an3 od4 an4 od5 an5 od6 an6 od7 an7 od8 an8 od9 an9 od10 an10 od11 an11 od12 an12 od13 an13 od14 an14 od15 an15 od16 an16 od17 an17 od18 an18 od19 an19 od20 an20 od21 an21 od22 an22 od23 an23 od24 an24 od25 an25 od26 an26 od27 an27 od28 an28 od29 an29 od30 an30 od31 an31 od32 an32 od33 an33 od34 an34 od35 an35 od36 an36 od37 an37 od38 an38 od39 an39 : Option Addr} {sl0 sl1 sl2 sl3 sl4 sl5 sl6 sl7 sl8 sl9 sl10 sl11 sl12 sl13 sl14 sl15 sl16 sl17 sl18 sl19 sl20 sl21 sl22 sl23 sl24 sl25 sl26 sl27 sl28 sl29 sl30 sl31 sl32 sl33 sl34 sl35 sl36 sl37 sl38 sl39 : Array (Option Value)} {oc0 kV0 dc0 pm0 cd0 ct0 oc1 kV1 dc1 pm1 cd1 ct1 oc2 kV2 dc2 pm2 cd2 ct2 oc3 kV3 dc3 pm3 cd3 ct3 oc4 kV4 dc4 pm4 cd4 ct4 oc5 kV5 dc5 pm5 cd5 ct5 oc6 kV6 dc6 pm6 cd6 ct6 oc7 kV7 dc7 pm7 cd7 ct7 oc8 kV8 dc8 pm8 cd8 ct8 oc9 kV9 dc9 pm9 cd9 ct9 oc10 kV10 dc10 pm10 cd10 ct10 oc11 kV11 dc11 pm11 cd11 ct11 oc12 kV12 dc12 pm12 cd12 ct12 oc13 kV13 dc13 pm13 cd13 ct13 oc14 kV14 dc14 pm14 cd14 ct14 oc15 kV15 dc15 pm15 cd15 ct15 oc16 kV16 dc16 pm16 cd16 ct16 oc17 kV17 dc17 pm17 cd17 ct17 oc18 kV18 dc18 pm18 cd18 ct18 oc19 kV19 dc19 pm19 cd19 ct19 oc20 kV20 dc20 pm20 cd20 ct20 oc21 kV21 dc21 pm21 cd21 ct21 oc22 kV22 dc22 pm22 cd22 ct22 oc23 kV23 dc23 pm23 cd23 ct23 oc24 kV24 dc24 pm24 cd24 ct24 oc25 kV25 dc25 pm25 cd25 ct25 oc26 kV26 dc26 pm26 cd26 ct26 oc27 kV27 dc27 pm27 cd27 ct27 oc28 kV28 dc28 pm28 cd28 ct28 oc29 kV29 dc29 pm29 cd29 ct29 oc30 kV30 dc30 pm30 cd30 ct30 oc31 kV31 dc31 pm31 cd31 ct31 oc32 kV32 dc32 pm32 cd32 ct32 oc33 kV33 dc33 pm33 cd33 ct33 oc34 kV34 dc34 pm34 cd34 ct34 oc35 kV35 dc35 pm35 cd35 ct35 oc36 kV36 dc36 pm36 cd36 ct36 oc37 kV37 dc37 pm37 cd37 ct37 oc38 kV38 dc38 pm38 cd38 ct38 oc39 kV39 dc39 pm39 cd39 ct39 : Value}
    {t_MAX_INTEGER t_MAX_PRIME : Tok}
    (a0 : PySem.W.nsIn K mainGlobals "_law_bag" = some (some (.ref f0))) (l0 : K.lookup f0 = some ⟨oc0, od0, .func (PySem.W.fnOf "_law_bag" "_law_bag" (defArgs s_q_bag) (defBody s_q_bag) (defScope s_q_bag) .none kV0 dc0 pm0 an0 cd0 ct0), sl0⟩) (c0 : PySem.W.codeIn K cd0 "_law_bag" = true) (k0 : PySem.W.keepIn K (.ref f0) = true)
    (a1 : PySem.W.nsIn K mainGlobals "is_long_integer" = some (some (.ref f1))) (l1 : K.lookup f1 = some ⟨oc1, od1, .func (PySem.W.fnOf "is_long_integer" "is_long_integer" (defArgs s_is_long_integer) (defBody s_is_long_integer) (defScope s_is_long_integer) .none kV1 dc1 pm1 an1 cd1 ct1), sl1⟩) (c1 : PySem.W.codeIn K cd1 "is_long_integer" = true) (k1 : PySem.W.keepIn K (.ref f1) = true)
    (a2 : PySem.W.nsIn K mainGlobals "is_integer" = some (some (.ref f2))) (l2 : K.lookup f2 = some ⟨oc2, od2, .func (PySem.W.fnOf "is_integer" "is_integer" (defArgs s_is_integer) (defBody s_is_integer) (defScope s_is_integer) .none kV2 dc2 pm2 an2 cd2 ct2), sl2⟩) (c2 : PySem.W.codeIn K cd2 "is_integer" = true) (k2 : PySem.W.keepIn K (.ref f2) = true)
    (a3 : PySem.W.nsIn K mainGlobals "is_between" = some (some (.ref f3))) (l3 : K.lookup f3 = some ⟨oc3, od3, .func (PySem.W.fnOf "is_between" "is_between" (defArgs s_is_between) (defBody s_is_between) (defScope s_is_between) .none kV3 dc3 pm3 an3 cd3 ct3), sl3⟩) (c3 : PySem.W.codeIn K cd3 "is_between" = true) (k3 : PySem.W.keepIn K (.ref f3) = true)
    (a4 : PySem.W.nsIn K mainGlobals "check_number" = some (some (.ref f4))) (l4 : K.lookup f4 = some ⟨oc4, od4, .func (PySem.W.fnOf "check_number" "check_number" (defArgs s_check_number) (defBody s_check_number) (defScope s_check_number) .none kV4 dc4 pm4 an4 cd4 ct4), sl4⟩) (c4 : PySem.W.codeIn K cd4 "check_number" = true) (k4 : PySem.W.keepIn K (.ref f4) = true)
    (a5 : PySem.W.nsIn K mainGlobals "reduced" = some (some (.ref f5))) (l5 : K.lookup f5 = some ⟨oc5, od5, .func (PySem.W.fnOf "reduced" "reduced" (defArgs s_reduced) (defBody s_reduced) (defScope s_reduced) .none kV5 dc5 pm5 an5 cd5 ct5), sl5⟩) (c5 : PySem.W.codeIn K cd5 "reduced" = true) (k5 : PySem.W.keepIn K (.ref f5) = true)
    (a6 : PySem.W.nsIn K mainGlobals "lowest" = some (some (.ref f6))) (l6 : K.lookup f6 = some ⟨oc6, od6, .func (PySem.W.fnOf "lowest" "lowest" (defArgs s_lowest) (defBody s_lowest) (defScope s_lowest) .none kV6 dc6 pm6 an6 cd6 ct6), sl6⟩) (c6 : PySem.W.codeIn K cd6 "lowest" = true) (k6 : PySem.W.keepIn K (.ref f6) = true)
    (a7 : PySem.W.nsIn K mainGlobals "is_long_pair" = some (some (.ref f7))) (l7 : K.lookup f7 = some ⟨oc7, od7, .func (PySem.W.fnOf "is_long_pair" "is_long_pair" (defArgs s_is_long_pair) (defBody s_is_long_pair) (defScope s_is_long_pair) .none kV7 dc7 pm7 an7 cd7 ct7), sl7⟩) (c7 : PySem.W.codeIn K cd7 "is_long_pair" = true) (k7 : PySem.W.keepIn K (.ref f7) = true)
    (a8 : PySem.W.nsIn K mainGlobals "is_long_ratio" = some (some (.ref f8))) (l8 : K.lookup f8 = some ⟨oc8, od8, .func (PySem.W.fnOf "is_long_ratio" "is_long_ratio" (defArgs s_is_long_ratio) (defBody s_is_long_ratio) (defScope s_is_long_ratio) .none kV8 dc8 pm8 an8 cd8 ct8), sl8⟩) (c8 : PySem.W.codeIn K cd8 "is_long_ratio" = true) (k8 : PySem.W.keepIn K (.ref f8) = true)
    (a9 : PySem.W.nsIn K mainGlobals "is_ratio" = some (some (.ref f9))) (l9 : K.lookup f9 = some ⟨oc9, od9, .func (PySem.W.fnOf "is_ratio" "is_ratio" (defArgs s_is_ratio) (defBody s_is_ratio) (defScope s_is_ratio) .none kV9 dc9 pm9 an9 cd9 ct9), sl9⟩) (c9 : PySem.W.codeIn K cd9 "is_ratio" = true) (k9 : PySem.W.keepIn K (.ref f9) = true)
    (a10 : PySem.W.nsIn K mainGlobals "check_ratio" = some (some (.ref f10))) (l10 : K.lookup f10 = some ⟨oc10, od10, .func (PySem.W.fnOf "check_ratio" "check_ratio" (defArgs s_check_ratio) (defBody s_check_ratio) (defScope s_check_ratio) .none kV10 dc10 pm10 an10 cd10 ct10), sl10⟩) (c10 : PySem.W.codeIn K cd10 "check_ratio" = true) (k10 : PySem.W.keepIn K (.ref f10) = true)
    (a11 : PySem.W.nsIn K mainGlobals "check_ratios" = some (some (.ref f11))) (l11 : K.lookup f11 = some ⟨oc11, od11, .func (PySem.W.fnOf "check_ratios" "check_ratios" (defArgs s_check_ratios) (defBody s_check_ratios) (defScope s_check_ratios) .none kV11 dc11 pm11 an11 cd11 ct11), sl11⟩) (c11 : PySem.W.codeIn K cd11 "check_ratios" = true) (k11 : PySem.W.keepIn K (.ref f11) = true)
    (a12 : PySem.W.nsIn K mainGlobals "plus" = some (some (.ref f12))) (l12 : K.lookup f12 = some ⟨oc12, od12, .func (PySem.W.fnOf "plus" "plus" (defArgs s_plus) (defBody s_plus) (defScope s_plus) .none kV12 dc12 pm12 an12 cd12 ct12), sl12⟩) (c12 : PySem.W.codeIn K cd12 "plus" = true) (k12 : PySem.W.keepIn K (.ref f12) = true)
    (a13 : PySem.W.nsIn K mainGlobals "over" = some (some (.ref f13))) (l13 : K.lookup f13 = some ⟨oc13, od13, .func (PySem.W.fnOf "over" "over" (defArgs s_over) (defBody s_over) (defScope s_over) .none kV13 dc13 pm13 an13 cd13 ct13), sl13⟩) (c13 : PySem.W.codeIn K cd13 "over" = true) (k13 : PySem.W.keepIn K (.ref f13) = true)
    (a14 : PySem.W.nsIn K mainGlobals "compare" = some (some (.ref f14))) (l14 : K.lookup f14 = some ⟨oc14, od14, .func (PySem.W.fnOf "compare" "compare" (defArgs s_compare) (defBody s_compare) (defScope s_compare) .none kV14 dc14 pm14 an14 cd14 ct14), sl14⟩) (c14 : PySem.W.codeIn K cd14 "compare" = true) (k14 : PySem.W.keepIn K (.ref f14) = true)
    (a15 : PySem.W.nsIn K mainGlobals "part_of" = some (some (.ref f15))) (l15 : K.lookup f15 = some ⟨oc15, od15, .func (PySem.W.fnOf "part_of" "part_of" (defArgs s_part_of) (defBody s_part_of) (defScope s_part_of) .none kV15 dc15 pm15 an15 cd15 ct15), sl15⟩) (c15 : PySem.W.codeIn K cd15 "part_of" = true) (k15 : PySem.W.keepIn K (.ref f15) = true)
    (a16 : PySem.W.nsIn K mainGlobals "floor_of" = some (some (.ref f16))) (l16 : K.lookup f16 = some ⟨oc16, od16, .func (PySem.W.fnOf "floor_of" "floor_of" (defArgs s_floor_of) (defBody s_floor_of) (defScope s_floor_of) .none kV16 dc16 pm16 an16 cd16 ct16), sl16⟩) (c16 : PySem.W.codeIn K cd16 "floor_of" = true) (k16 : PySem.W.keepIn K (.ref f16) = true)
    (a17 : PySem.W.nsIn K mainGlobals "ceiling" = some (some (.ref f17))) (l17 : K.lookup f17 = some ⟨oc17, od17, .func (PySem.W.fnOf "ceiling" "ceiling" (defArgs s_ceiling) (defBody s_ceiling) (defScope s_ceiling) .none kV17 dc17 pm17 an17 cd17 ct17), sl17⟩) (c17 : PySem.W.codeIn K cd17 "ceiling" = true) (k17 : PySem.W.keepIn K (.ref f17) = true)
    (a18 : PySem.W.nsIn K mainGlobals "ceiling_of" = some (some (.ref f18))) (l18 : K.lookup f18 = some ⟨oc18, od18, .func (PySem.W.fnOf "ceiling_of" "ceiling_of" (defArgs s_ceiling_of) (defBody s_ceiling_of) (defScope s_ceiling_of) .none kV18 dc18 pm18 an18 cd18 ct18), sl18⟩) (c18 : PySem.W.codeIn K cd18 "ceiling_of" = true) (k18 : PySem.W.keepIn K (.ref f18) = true)
    (a19 : PySem.W.nsIn K mainGlobals "is_prime" = some (some (.ref f19))) (l19 : K.lookup f19 = some ⟨oc19, od19, .func (PySem.W.fnOf "is_prime" "is_prime" (defArgs s_is_prime) (defBody s_is_prime) (defScope s_is_prime) .none kV19 dc19 pm19 an19 cd19 ct19), sl19⟩) (c19 : PySem.W.codeIn K cd19 "is_prime" = true) (k19 : PySem.W.keepIn K (.ref f19) = true)
    (a20 : PySem.W.nsIn K mainGlobals "check_prime" = some (some (.ref f20))) (l20 : K.lookup f20 = some ⟨oc20, od20, .func (PySem.W.fnOf "check_prime" "check_prime" (defArgs s_check_prime) (defBody s_check_prime) (defScope s_check_prime) .none kV20 dc20 pm20 an20 cd20 ct20), sl20⟩) (c20 : PySem.W.codeIn K cd20 "check_prime" = true) (k20 : PySem.W.keepIn K (.ref f20) = true)
    (a21 : PySem.W.nsIn K mainGlobals "times_within" = some (some (.ref f21))) (l21 : K.lookup f21 = some ⟨oc21, od21, .func (PySem.W.fnOf "times_within" "times_within" (defArgs s_times_within) (defBody s_times_within) (defScope s_times_within) .none kV21 dc21 pm21 an21 cd21 ct21), sl21⟩) (c21 : PySem.W.codeIn K cd21 "times_within" = true) (k21 : PySem.W.keepIn K (.ref f21) = true)
    (a22 : PySem.W.nsIn K mainGlobals "exponent_of" = some (some (.ref f22))) (l22 : K.lookup f22 = some ⟨oc22, od22, .func (PySem.W.fnOf "exponent_of" "exponent_of" (defArgs s_exponent_of) (defBody s_exponent_of) (defScope s_exponent_of) .none kV22 dc22 pm22 an22 cd22 ct22), sl22⟩) (c22 : PySem.W.codeIn K cd22 "exponent_of" = true) (k22 : PySem.W.keepIn K (.ref f22) = true)
    (a23 : PySem.W.nsIn K mainGlobals "minus" = some (some (.ref f23))) (l23 : K.lookup f23 = some ⟨oc23, od23, .func (PySem.W.fnOf "minus" "minus" (defArgs s_minus) (defBody s_minus) (defScope s_minus) .none kV23 dc23 pm23 an23 cd23 ct23), sl23⟩) (c23 : PySem.W.codeIn K cd23 "minus" = true) (k23 : PySem.W.keepIn K (.ref f23) = true)
    (a24 : PySem.W.nsIn K mainGlobals "_law_grab" = some (some (.ref f24))) (l24 : K.lookup f24 = some ⟨oc24, od24, .func (PySem.W.fnOf "_law_grab" "_law_grab" (defArgs s_q_grab) (defBody s_q_grab) (defScope s_q_grab) .none kV24 dc24 pm24 an24 cd24 ct24), sl24⟩) (c24 : PySem.W.codeIn K cd24 "_law_grab" = true) (k24 : PySem.W.keepIn K (.ref f24) = true)
    (a25 : PySem.W.nsIn K mainGlobals "_law_one_of" = some (some (.ref f25))) (l25 : K.lookup f25 = some ⟨oc25, od25, .func (PySem.W.fnOf "_law_one_of" "_law_one_of" (defArgs s_q_one_of) (defBody s_q_one_of) (defScope s_q_one_of) .none kV25 dc25 pm25 an25 cd25 ct25), sl25⟩) (c25 : PySem.W.codeIn K cd25 "_law_one_of" = true) (k25 : PySem.W.keepIn K (.ref f25) = true)
    (a26 : PySem.W.nsIn K mainGlobals "_law_ra_divisor" = some (some (.ref f26))) (l26 : K.lookup f26 = some ⟨oc26, od26, .func (PySem.W.fnOf "_law_ra_divisor" "_law_ra_divisor" (defArgs s_q_ra_divisor) (defBody s_q_ra_divisor) (defScope s_q_ra_divisor) .none kV26 dc26 pm26 an26 cd26 ct26), sl26⟩) (c26 : PySem.W.codeIn K cd26 "_law_ra_divisor" = true) (k26 : PySem.W.keepIn K (.ref f26) = true)
    (a27 : PySem.W.nsIn K mainGlobals "_law_ra_lowest" = some (some (.ref f27))) (l27 : K.lookup f27 = some ⟨oc27, od27, .func (PySem.W.fnOf "_law_ra_lowest" "_law_ra_lowest" (defArgs s_q_ra_lowest) (defBody s_q_ra_lowest) (defScope s_q_ra_lowest) .none kV27 dc27 pm27 an27 cd27 ct27), sl27⟩) (c27 : PySem.W.codeIn K cd27 "_law_ra_lowest" = true) (k27 : PySem.W.keepIn K (.ref f27) = true)
    (a28 : PySem.W.nsIn K mainGlobals "_law_ra_drawn" = some (some (.ref f28))) (l28 : K.lookup f28 = some ⟨oc28, od28, .func (PySem.W.fnOf "_law_ra_drawn" "_law_ra_drawn" (defArgs s_q_ra_drawn) (defBody s_q_ra_drawn) (defScope s_q_ra_drawn) .none kV28 dc28 pm28 an28 cd28 ct28), sl28⟩) (c28 : PySem.W.codeIn K cd28 "_law_ra_drawn" = true) (k28 : PySem.W.keepIn K (.ref f28) = true)
    (a29 : PySem.W.nsIn K mainGlobals "_law_ra_short" = some (some (.ref f29))) (l29 : K.lookup f29 = some ⟨oc29, od29, .func (PySem.W.fnOf "_law_ra_short" "_law_ra_short" (defArgs s_q_ra_short) (defBody s_q_ra_short) (defScope s_q_ra_short) .none kV29 dc29 pm29 an29 cd29 ct29), sl29⟩) (c29 : PySem.W.codeIn K cd29 "_law_ra_short" = true) (k29 : PySem.W.keepIn K (.ref f29) = true)
    (a30 : PySem.W.nsIn K mainGlobals "_law_ra_is_ratio" = some (some (.ref f30))) (l30 : K.lookup f30 = some ⟨oc30, od30, .func (PySem.W.fnOf "_law_ra_is_ratio" "_law_ra_is_ratio" (defArgs s_q_ra_is_ratio) (defBody s_q_ra_is_ratio) (defScope s_q_ra_is_ratio) .none kV30 dc30 pm30 an30 cd30 ct30), sl30⟩) (c30 : PySem.W.codeIn K cd30 "_law_ra_is_ratio" = true) (k30 : PySem.W.keepIn K (.ref f30) = true)
    (a31 : PySem.W.nsIn K mainGlobals "_law_judged_right" = some (some (.ref f31))) (l31 : K.lookup f31 = some ⟨oc31, od31, .func (PySem.W.fnOf "_law_judged_right" "_law_judged_right" (defArgs s_q_judged_right) (defBody s_q_judged_right) (defScope s_q_judged_right) .none kV31 dc31 pm31 an31 cd31 ct31), sl31⟩) (c31 : PySem.W.codeIn K cd31 "_law_judged_right" = true) (k31 : PySem.W.keepIn K (.ref f31) = true)
    (a32 : PySem.W.nsIn K mainGlobals "_law_lowered_right" = some (some (.ref f32))) (l32 : K.lookup f32 = some ⟨oc32, od32, .func (PySem.W.fnOf "_law_lowered_right" "_law_lowered_right" (defArgs s_q_lowered_right) (defBody s_q_lowered_right) (defScope s_q_lowered_right) .none kV32 dc32 pm32 an32 cd32 ct32), sl32⟩) (c32 : PySem.W.codeIn K cd32 "_law_lowered_right" = true) (k32 : PySem.W.keepIn K (.ref f32) = true)
    (a33 : PySem.W.nsIn K mainGlobals "times" = some (some (.ref f33))) (l33 : K.lookup f33 = some ⟨oc33, od33, .func (PySem.W.fnOf "times" "times" (defArgs s_times) (defBody s_times) (defScope s_times) .none kV33 dc33 pm33 an33 cd33 ct33), sl33⟩) (c33 : PySem.W.codeIn K cd33 "times" = true) (k33 : PySem.W.keepIn K (.ref f33) = true)
    (a34 : PySem.W.nsIn K mainGlobals "_law_reckoned_right" = some (some (.ref f34))) (l34 : K.lookup f34 = some ⟨oc34, od34, .func (PySem.W.fnOf "_law_reckoned_right" "_law_reckoned_right" (defArgs s_q_reckoned_right) (defBody s_q_reckoned_right) (defScope s_q_reckoned_right) .none kV34 dc34 pm34 an34 cd34 ct34), sl34⟩) (c34 : PySem.W.codeIn K cd34 "_law_reckoned_right" = true) (k34 : PySem.W.keepIn K (.ref f34) = true)
    (a35 : PySem.W.nsIn K mainGlobals "_law_floors_right" = some (some (.ref f35))) (l35 : K.lookup f35 = some ⟨oc35, od35, .func (PySem.W.fnOf "_law_floors_right" "_law_floors_right" (defArgs s_q_floors_right) (defBody s_q_floors_right) (defScope s_q_floors_right) .none kV35 dc35 pm35 an35 cd35 ct35), sl35⟩) (c35 : PySem.W.codeIn K cd35 "_law_floors_right" = true) (k35 : PySem.W.keepIn K (.ref f35) = true)
    (a36 : PySem.W.nsIn K mainGlobals "_law_ra_often" = some (some (.ref f36))) (l36 : K.lookup f36 = some ⟨oc36, od36, .func (PySem.W.fnOf "_law_ra_often" "_law_ra_often" (defArgs s_q_ra_often) (defBody s_q_ra_often) (defScope s_q_ra_often) .none kV36 dc36 pm36 an36 cd36 ct36), sl36⟩) (c36 : PySem.W.codeIn K cd36 "_law_ra_often" = true) (k36 : PySem.W.keepIn K (.ref f36) = true)
    (a37 : PySem.W.nsIn K mainGlobals "_law_ra_exponent" = some (some (.ref f37))) (l37 : K.lookup f37 = some ⟨oc37, od37, .func (PySem.W.fnOf "_law_ra_exponent" "_law_ra_exponent" (defArgs s_q_ra_exponent) (defBody s_q_ra_exponent) (defScope s_q_ra_exponent) .none kV37 dc37 pm37 an37 cd37 ct37), sl37⟩) (c37 : PySem.W.codeIn K cd37 "_law_ra_exponent" = true) (k37 : PySem.W.keepIn K (.ref f37) = true)
    (a38 : PySem.W.nsIn K mainGlobals "_law_exponents_right" = some (some (.ref f38))) (l38 : K.lookup f38 = some ⟨oc38, od38, .func (PySem.W.fnOf "_law_exponents_right" "_law_exponents_right" (defArgs s_q_exponents_right) (defBody s_q_exponents_right) (defScope s_q_exponents_right) .none kV38 dc38 pm38 an38 cd38 ct38), sl38⟩) (c38 : PySem.W.codeIn K cd38 "_law_exponents_right" = true) (k38 : PySem.W.keepIn K (.ref f38) = true)
    (a39 : PySem.W.nsIn K mainGlobals "law" = some (some (.ref f39))) (l39 : K.lookup f39 = some ⟨oc39, od39, .func (PySem.W.fnOf "law" "law" (defArgs s_law) (defBody s_law) (defScope s_law) .none kV39 dc39 pm39 an39 cd39 ct39), sl39⟩) (c39 : PySem.W.codeIn K cd39 "law" = true) (k39 : PySem.W.keepIn K (.ref f39) = true)
    (z_abs : PySem.W.nsIn K mainGlobals "abs" = some none)
    (z_bool : PySem.W.nsIn K mainGlobals "bool" = some none)
    (z_int : PySem.W.nsIn K mainGlobals "int" = some none)
    (z_isinstance : PySem.W.nsIn K mainGlobals "isinstance" = some none)
    (z_len : PySem.W.nsIn K mainGlobals "len" = some none)
    (z_max : PySem.W.nsIn K mainGlobals "max" = some none)
    (z_min : PySem.W.nsIn K mainGlobals "min" = some none)
    (z_range : PySem.W.nsIn K mainGlobals "range" = some none)
    (z_repr : PySem.W.nsIn K mainGlobals "repr" = some none)
    (z_sum : PySem.W.nsIn K mainGlobals "sum" = some none)
    (z_tuple : PySem.W.nsIn K mainGlobals "tuple" = some none)
    (q_MAX_INTEGER : PySem.W.nsIn K mainGlobals "MAX_INTEGER" = some (some (.int 999999999999999999999999999999999999999999999999999999999999 t_MAX_INTEGER)))
    (q_MAX_PRIME : PySem.W.nsIn K mainGlobals "MAX_PRIME" = some (some (.int 1000000 t_MAX_PRIME)))
    (m_gcd : PySem.W.nsIn K mainGlobals "gcd" = some (some (.builtin "math.gcd")))
    (m_isqrt : PySem.W.nsIn K mainGlobals "isqrt" = some (some (.builtin "math.isqrt")))
    : ∃ fd : FuncData, (∀ (s : Shared) (v : Value), BindsTo s fd ⟨[v], []⟩ [("_law_script", v)]) ∧ ∀ base : Heap, K.In base → base.Ns mainGlobals mg → FnOk l.prog w K mg base (L2.CX l.prog w) 9 fa fd ["_law_script"] (spD K 1 F_law) := by
  have e := hfa.symm.trans (PySem.W.mg_of X G a39)
  cases e
  have T : Txt mg := { b_abs := PySem.W.mg_none_of X G z_abs, b_bool := PySem.W.mg_none_of X G z_bool, b_int := PySem.W.mg_none_of X G z_int, b_isinstance := PySem.W.mg_none_of X G z_isinstance, b_len := PySem.W.mg_none_of X G z_len, b_max := PySem.W.mg_none_of X G z_max, b_min := PySem.W.mg_none_of X G z_min, b_range := PySem.W.mg_none_of X G z_range, b_repr := PySem.W.mg_none_of X G z_repr, b_sum := PySem.W.mg_none_of X G z_sum, b_tuple := PySem.W.mg_none_of X G z_tuple, c_MAX_INTEGER := ⟨t_MAX_INTEGER, PySem.W.mg_of X G q_MAX_INTEGER⟩, c_MAX_PRIME := ⟨t_MAX_PRIME, PySem.W.mg_of X G q_MAX_PRIME⟩, m_gcd := PySem.W.mg_of X G m_gcd, m_isqrt := PySem.W.mg_of X G m_isqrt }
  refine ⟨PySem.W.fnOf "law" "law" (defArgs s_law) (defBody s_law) (defScope s_law) .none kV39 dc39 pm39 an39 cd39 ct39, fun s v => .of_eq rfl, fun base _ _ => ?_⟩
  have h_q_bag : Has l.prog w K mg base "_law_bag" 1 ["_law_script", "_law_spot"] F_q_bag := has_q_bag T  (fun_mk (st := s_q_bag) l0 c0 k0) (PySem.W.mg_of X G a0)
  have h_is_long_integer : Has l.prog w K mg base "is_long_integer" 1 ["value"] F_is_long_integer := has_is_long_integer T  (fun_mk (st := s_is_long_integer) l1 c1 k1) (PySem.W.mg_of X G a1)
  have h_is_integer : Has l.prog w K mg base "is_integer" 2 ["value"] F_is_integer := has_is_integer T h_is_long_integer (fun_mk (st := s_is_integer) l2 c2 k2) (PySem.W.mg_of X G a2)
  have h_is_between : Has l.prog w K mg base "is_between" 3 ["value", "least", "most"] F_is_between := has_is_between T h_is_integer (fun_mk (st := s_is_between) l3 c3 k3) (PySem.W.mg_of X G a3)
  have h_check_number : Has l.prog w K mg base "check_number" 4 ["given", "least", "most"] F_check_number := has_check_number T h_is_between (fun_mk (st := s_check_number) l4 c4 k4) (PySem.W.mg_of X G a4)
  have h_reduced : Has l.prog w K mg base "reduced" 1 ["top", "bottom"] F_reduced := has_reduced T  (fun_mk (st := s_reduced) l5 c5 k5) (PySem.W.mg_of X G a5)
  have h_lowest : Has l.prog w K mg base "lowest" 5 ["top", "bottom"] F_lowest := has_lowest T h_check_number h_reduced (fun_mk (st := s_lowest) l6 c6 k6) (PySem.W.mg_of X G a6)
  have h_is_long_pair : Has l.prog w K mg base "is_long_pair" 2 ["value"] F_is_long_pair := has_is_long_pair T h_is_long_integer (fun_mk (st := s_is_long_pair) l7 c7 k7) (PySem.W.mg_of X G a7)
  have h_is_long_ratio : Has l.prog w K mg base "is_long_ratio" 3 ["value"] F_is_long_ratio := has_is_long_ratio T h_is_long_pair (fun_mk (st := s_is_long_ratio) l8 c8 k8) (PySem.W.mg_of X G a8)
  have h_is_ratio : Has l.prog w K mg base "is_ratio" 4 ["value"] F_is_ratio := has_is_ratio T h_is_long_ratio h_is_integer (fun_mk (st := s_is_ratio) l9 c9 k9) (PySem.W.mg_of X G a9)
  have h_check_ratio : Has l.prog w K mg base "check_ratio" 5 ["ratio"] F_check_ratio := has_check_ratio T h_is_ratio (fun_mk (st := s_check_ratio) l10 c10 k10) (PySem.W.mg_of X G a10)
  have h_check_ratios : Has l.prog w K mg base "check_ratios" 6 ["one", "other"] F_check_ratios := has_check_ratios T h_check_ratio (fun_mk (st := s_check_ratios) l11 c11 k11) (PySem.W.mg_of X G a11)
  have h_plus : Has l.prog w K mg base "plus" 7 ["one", "other"] F_plus := has_plus T h_check_ratios h_reduced (fun_mk (st := s_plus) l12 c12 k12) (PySem.W.mg_of X G a12)
  have h_over : Has l.prog w K mg base "over" 7 ["one", "other"] F_over := has_over T h_check_ratios h_reduced (fun_mk (st := s_over) l13 c13 k13) (PySem.W.mg_of X G a13)
  have h_compare : Has l.prog w K mg base "compare" 7 ["one", "other"] F_compare := has_compare T h_check_ratios (fun_mk (st := s_compare) l14 c14 k14) (PySem.W.mg_of X G a14)
  have h_part_of : Has l.prog w K mg base "part_of" 6 ["ratio"] F_part_of := has_part_of T h_check_ratio (fun_mk (st := s_part_of) l15 c15 k15) (PySem.W.mg_of X G a15)
  have h_floor_of : Has l.prog w K mg base "floor_of" 6 ["ratio"] F_floor_of := has_floor_of T h_check_ratio (fun_mk (st := s_floor_of) l16 c16 k16) (PySem.W.mg_of X G a16)
  have h_ceiling : Has l.prog w K mg base "ceiling" 1 ["top", "bottom"] F_ceiling := has_ceiling T  (fun_mk (st := s_ceiling) l17 c17 k17) (PySem.W.mg_of X G a17)
  have h_ceiling_of : Has l.prog w K mg base "ceiling_of" 6 ["ratio"] F_ceiling_of := has_ceiling_of T h_check_ratio h_ceiling (fun_mk (st := s_ceiling_of) l18 c18 k18) (PySem.W.mg_of X G a18)
  have h_is_prime : Has l.prog w K mg base "is_prime" 4 ["value"] F_is_prime := has_is_prime T h_is_between (fun_mk (st := s_is_prime) l19 c19 k19) (PySem.W.mg_of X G a19)
  have h_check_prime : Has l.prog w K mg base "check_prime" 5 ["prime"] F_check_prime := has_check_prime T h_is_prime (fun_mk (st := s_check_prime) l20 c20 k20) (PySem.W.mg_of X G a20)
  have h_times_within : Has l.prog w K mg base "times_within" 1 ["prime", "number"] F_times_within := has_times_within T  (fun_mk (st := s_times_within) l21 c21 k21) (PySem.W.mg_of X G a21)
  have h_exponent_of : Has l.prog w K mg base "exponent_of" 6 ["prime", "ratio"] F_exponent_of := has_exponent_of T h_check_prime h_check_ratio h_times_within (fun_mk (st := s_exponent_of) l22 c22 k22) (PySem.W.mg_of X G a22)
  have h_minus : Has l.prog w K mg base "minus" 7 ["one", "other"] F_minus := has_minus T h_check_ratios h_reduced (fun_mk (st := s_minus) l23 c23 k23) (PySem.W.mg_of X G a23)
  have h_q_grab : Has l.prog w K mg base "_law_grab" 1 ["_law_bag_here", "_law_total"] F_q_grab := has_q_grab T  (fun_mk (st := s_q_grab) l24 c24 k24) (PySem.W.mg_of X G a24)
  have h_q_one_of : Has l.prog w K mg base "_law_one_of" 2 ["_law_bag_here", "_law_items"] F_q_one_of := has_q_one_of T h_q_grab (fun_mk (st := s_q_one_of) l25 c25 k25) (PySem.W.mg_of X G a25)
  have h_q_ra_divisor : Has l.prog w K mg base "_law_ra_divisor" 1 ["_law_one", "_law_other"] F_q_ra_divisor := has_q_ra_divisor T  (fun_mk (st := s_q_ra_divisor) l26 c26 k26) (PySem.W.mg_of X G a26)
  have h_q_ra_lowest : Has l.prog w K mg base "_law_ra_lowest" 2 ["_law_top", "_law_bottom"] F_q_ra_lowest := has_q_ra_lowest T h_q_ra_divisor (fun_mk (st := s_q_ra_lowest) l27 c27 k27) (PySem.W.mg_of X G a27)
  have h_q_ra_drawn : Has l.prog w K mg base "_law_ra_drawn" 3 ["_law_bag_here"] F_q_ra_drawn := has_q_ra_drawn T h_q_one_of h_q_ra_lowest h_q_grab (fun_mk (st := s_q_ra_drawn) l28 c28 k28) (PySem.W.mg_of X G a28)
  have h_q_ra_short : Has l.prog w K mg base "_law_ra_short" 1 ["_law_value"] F_q_ra_short := has_q_ra_short T  (fun_mk (st := s_q_ra_short) l29 c29 k29) (PySem.W.mg_of X G a29)
  have h_q_ra_is_ratio : Has l.prog w K mg base "_law_ra_is_ratio" 2 ["_law_value"] F_q_ra_is_ratio := has_q_ra_is_ratio T h_q_ra_short h_q_ra_divisor (fun_mk (st := s_q_ra_is_ratio) l30 c30 k30) (PySem.W.mg_of X G a30)
  have h_q_judged_right : Has l.prog w K mg base "_law_judged_right" 5 ["_law_bag_here"] F_q_judged_right := has_q_judged_right T h_q_ra_drawn h_is_ratio h_q_ra_is_ratio (fun_mk (st := s_q_judged_right) l31 c31 k31) (PySem.W.mg_of X G a31)
  have h_q_lowered_right : Has l.prog w K mg base "_law_lowered_right" 6 ["_law_bag_here"] F_q_lowered_right := has_q_lowered_right T h_q_one_of h_q_ra_is_ratio h_lowest h_q_ra_lowest h_q_grab (fun_mk (st := s_q_lowered_right) l32 c32 k32) (PySem.W.mg_of X G a32)
  have h_times : Has l.prog w K mg base "times" 7 ["one", "other"] F_times := has_times T h_check_ratios h_reduced (fun_mk (st := s_times) l33 c33 k33) (PySem.W.mg_of X G a33)
  have h_q_reckoned_right : Has l.prog w K mg base "_law_reckoned_right" 8 ["_law_bag_here"] F_q_reckoned_right := has_q_reckoned_right T h_q_ra_drawn h_q_grab h_plus h_minus h_times h_compare h_q_ra_lowest h_over (fun_mk (st := s_q_reckoned_right) l34 c34 k34) (PySem.W.mg_of X G a34)
  have h_q_floors_right : Has l.prog w K mg base "_law_floors_right" 8 ["_law_bag_here"] F_q_floors_right := has_q_floors_right T h_q_ra_drawn h_part_of h_floor_of h_q_grab h_ceiling_of h_q_ra_lowest h_plus h_times h_lowest (fun_mk (st := s_q_floors_right) l35 c35 k35) (PySem.W.mg_of X G a35)
  have h_q_ra_often : Has l.prog w K mg base "_law_ra_often" 1 ["_law_prime", "_law_number"] F_q_ra_often := has_q_ra_often T  (fun_mk (st := s_q_ra_often) l36 c36 k36) (PySem.W.mg_of X G a36)
  have h_q_ra_exponent : Has l.prog w K mg base "_law_ra_exponent" 2 ["_law_prime", "_law_ratio"] F_q_ra_exponent := has_q_ra_exponent T h_q_ra_often (fun_mk (st := s_q_ra_exponent) l37 c37 k37) (PySem.W.mg_of X G a37)
  have h_q_exponents_right : Has l.prog w K mg base "_law_exponents_right" 8 ["_law_bag_here"] F_q_exponents_right := has_q_exponents_right T h_q_one_of h_q_ra_lowest h_plus h_q_grab h_q_ra_drawn h_exponent_of h_q_ra_exponent h_times h_over (fun_mk (st := s_q_exponents_right) l38 c38 k38) (PySem.W.mg_of X G a38)
  exact ok_law T h_q_bag h_lowest h_plus h_over h_compare h_part_of h_floor_of h_ceiling_of h_exponent_of h_minus h_q_judged_right h_q_lowered_right h_q_reckoned_right h_q_floors_right h_q_exponents_right (fun_mk (st := s_law) l39 c39 k39)
end K02

namespace KM
/-! ### lowest terms -/
def gc (t b : Int) : Nat := Nat.gcd t.natAbs b.natAbs
def sh (t b : Int) : Int := if b < 0 then -(gc t b : Int) else (gc t b : Int)
def lo1 (t b : Int) : Int := t.fdiv (sh t b)
def lo2 (t b : Int) : Int := b.fdiv (sh t b)
def Good (a b : Int) : Prop := 0 < b ∧ gc a b = 1
theorem gc_pos {t b : Int} (hb : b ≠ 0) : 0 < gc t b := Nat.gcd_pos_of_pos_right _ (Int.natAbs_pos.mpr hb)
theorem sh_ne {t b : Int} (hb : b ≠ 0) : sh t b ≠ 0 := by
  have h := gc_pos (t := t) hb
  unfold sh
  split <;> omega
theorem sh_natAbs (t b : Int) : (sh t b).natAbs = gc t b := by
  unfold sh
  split <;> omega
theorem fdiv_mul {u s : Int} (hs : s ≠ 0) : (u * s).fdiv s = u := Int.mul_fdiv_cancel u hs
theorem lo_spec {t b : Int} (hb : b ≠ 0) : t = lo1 t b * sh t b ∧ b = lo2 t b * sh t b ∧ Good (lo1 t b) (lo2 t b) := by
  have hs := sh_ne (t := t) hb
  have d1 : sh t b ∣ t := Int.natAbs_dvd_natAbs.mp (by rw [sh_natAbs]; exact Nat.gcd_dvd_left _ _)
  have d2 : sh t b ∣ b := Int.natAbs_dvd_natAbs.mp (by rw [sh_natAbs]; exact Nat.gcd_dvd_right _ _)
  obtain ⟨u, hu⟩ := d1
  obtain ⟨v, hv⟩ := d2
  have e1 : lo1 t b = u := by
    unfold lo1
    have : t.fdiv (sh t b) = (u * sh t b).fdiv (sh t b) := by rw [Int.mul_comm u]; rw [← hu]
    rw [this, fdiv_mul hs]
  have e2 : lo2 t b = v := by
    unfold lo2
    have : b.fdiv (sh t b) = (v * sh t b).fdiv (sh t b) := by rw [Int.mul_comm v]; rw [← hv]
    rw [this, fdiv_mul hs]
  rw [e1, e2]
  have hg := gc_pos (t := t) hb
  refine ⟨by rw [Int.mul_comm]; exact hu, by rw [Int.mul_comm]; exact hv, ?_, ?_⟩
  · -- the sign
    have hvb : sh t b * v = b := hv.symm
    have hv0 : v ≠ 0 := fun z => by rw [z, Int.mul_zero] at hvb; exact hb hvb.symm
    by_cases hb0 : b < 0
    · have es : sh t b = -(gc t b : Int) := by unfold sh; rw [if_pos hb0]
      rcases Int.lt_or_gt_of_ne hv0 with h | h
      · have : 0 < sh t b * v := Int.mul_pos_of_neg_of_neg (by omega) h
        omega
      · exact h
    · have es : sh t b = (gc t b : Int) := by unfold sh; rw [if_neg hb0]
      rcases Int.lt_or_gt_of_ne hv0 with h | h
      · have : sh t b * v < 0 := Int.mul_neg_of_pos_of_neg (by omega) h
        omega
      · exact h
  · -- coprime
    unfold gc
    have h1 : t.natAbs = gc t b * u.natAbs := by
      have z := congrArg Int.natAbs hu
      rw [Int.natAbs_mul, sh_natAbs] at z
      exact z
    have h2 : b.natAbs = gc t b * v.natAbs := by
      have z := congrArg Int.natAbs hv
      rw [Int.natAbs_mul, sh_natAbs] at z
      exact z
    have h3 : gc t b = gc t b * Nat.gcd u.natAbs v.natAbs := by
      have : gc t b = Nat.gcd (gc t b * u.natAbs) (gc t b * v.natAbs) := by
        rw [← h1, ← h2]; rfl
      rw [Nat.gcd_mul_left] at this
      exact this
    exact Nat.eq_of_mul_eq_mul_left hg (by rw [Nat.mul_one]; exact h3.symm)
theorem nat_unique {a b u v : Nat} (hb : 0 < b) (hv : 0 < v) (h1 : Nat.gcd a b = 1) (h2 : Nat.gcd u v = 1) (e : a * v = u * b) : b = v := by
  have d1 : b ∣ v := by
    have : b ∣ a * v := ⟨u, by rw [e, Nat.mul_comm]⟩
    exact Nat.Coprime.dvd_of_dvd_mul_left (show Nat.Coprime b a by unfold Nat.Coprime; rw [Nat.gcd_comm]; exact h1) this
  have d2 : v ∣ b := by
    have : v ∣ u * b := ⟨a, by rw [← e, Nat.mul_comm]⟩
    exact Nat.Coprime.dvd_of_dvd_mul_left (show Nat.Coprime v u by unfold Nat.Coprime; rw [Nat.gcd_comm]; exact h2) this
  exact Nat.dvd_antisymm d1 d2
theorem unique {a b u v : Int} (h1 : Good a b) (h2 : Good u v) (e : a * v = u * b) : a = u ∧ b = v := by
  have hb : b.natAbs = v.natAbs := nat_unique (a := a.natAbs) (u := u.natAbs) (by have := h1.1; omega) (by have := h2.1; omega) h1.2 h2.2 (by
    have z := congrArg Int.natAbs e
    rw [Int.natAbs_mul, Int.natAbs_mul] at z
    exact z)
  have hbv : b = v := by have := h1.1; have := h2.1; omega
  subst hbv
  exact ⟨Int.eq_of_mul_eq_mul_right (by have := h1.1; omega) e, rfl⟩
theorem lo_unique {T B a b : Int} (hB : B ≠ 0) (h : Good a b) (e : T * b = a * B) : lo1 T B = a ∧ lo2 T B = b := by
  obtain ⟨e1, e2, hg⟩ := lo_spec (t := T) hB
  have hs := sh_ne (t := T) hB
  refine unique hg h ?_
  refine Int.eq_of_mul_eq_mul_right hs ?_
  calc lo1 T B * b * sh T B = (lo1 T B * sh T B) * b := by rw [Int.mul_assoc, Int.mul_comm b, ← Int.mul_assoc]
    _ = T * b := by rw [← e1]
    _ = a * B := e
    _ = a * (lo2 T B * sh T B) := by rw [← e2]
    _ = a * lo2 T B * sh T B := by rw [Int.mul_assoc]
theorem lo_cross {T B : Int} (hB : B ≠ 0) : lo1 T B * B = T * lo2 T B := by
  obtain ⟨e1, e2, _⟩ := lo_spec (t := T) hB
  calc lo1 T B * B = lo1 T B * (lo2 T B * sh T B) := by rw [← e2]
    _ = (lo1 T B * sh T B) * lo2 T B := by rw [Int.mul_comm (lo2 T B), Int.mul_assoc]
    _ = T * lo2 T B := by rw [← e1]
theorem abs_mul_ge {u s : Int} (hs : s ≠ 0) : u.natAbs ≤ (u * s).natAbs := by
  rw [Int.natAbs_mul]
  exact Nat.le_mul_of_pos_right _ (Int.natAbs_pos.mpr hs)
theorem lo1_le {T B : Int} (hB : B ≠ 0) : (lo1 T B).natAbs ≤ T.natAbs := by
  obtain ⟨e1, e2, _⟩ := lo_spec (t := T) hB
  have := abs_mul_ge (u := lo1 T B) (sh_ne (t := T) hB)
  rw [← e1] at this
  exact this
theorem lo2_le {T B : Int} (hB : B ≠ 0) : (lo2 T B).natAbs ≤ B.natAbs := by
  obtain ⟨e1, e2, _⟩ := lo_spec (t := T) hB
  have := abs_mul_ge (u := lo2 T B) (sh_ne (t := T) hB)
  rw [← e2] at this
  exact this
theorem floor_cross {a b c d : Int} (hb : 0 < b) (hd : 0 < d) (e : a * d = c * b) : a.fdiv b = c.fdiv d := by
  rw [Int.fdiv_eq_ediv_of_nonneg _ (Int.le_of_lt hb), Int.fdiv_eq_ediv_of_nonneg _ (Int.le_of_lt hd)]
  rw [← Int.mul_ediv_mul_of_pos_left a b hd, ← Int.mul_ediv_mul_of_pos_left c d hb, e, Int.mul_comm b d]
theorem lo_floor {T B : Int} (hB : 0 < B) : (lo1 T B).fdiv (lo2 T B) = T.fdiv B := by
  obtain ⟨_, _, hg⟩ := lo_spec (t := T) (show B ≠ 0 by omega)
  exact floor_cross hg.1 hB (lo_cross (by omega))
theorem good_rest {t b : Int} (h : Good t b) : Good (t.fmod b) b := by
  refine ⟨h.1, ?_⟩
  rw [Int.fmod_eq_emod_of_nonneg _ (Int.le_of_lt h.1)]
  have d1 : ((gc (t % b) b : Nat) : Int) ∣ t % b := Int.natAbs_dvd_natAbs.mp (by rw [Int.natAbs_natCast]; exact Nat.gcd_dvd_left _ _)
  have d2 : ((gc (t % b) b : Nat) : Int) ∣ b := Int.natAbs_dvd_natAbs.mp (by rw [Int.natAbs_natCast]; exact Nat.gcd_dvd_right _ _)
  have d3 : ((gc (t % b) b : Nat) : Int) ∣ t := by
    have := Int.dvd_add d1 (show _ ∣ b * (t / b) from Int.dvd_mul_of_dvd_left d2)
    rw [Int.emod_add_mul_ediv] at this
    exact this
  have e1 := Int.natAbs_dvd_natAbs.mpr d3
  have e2 := Int.natAbs_dvd_natAbs.mpr d2
  rw [Int.natAbs_natCast] at e1 e2
  have := Nat.dvd_gcd e1 e2
  rw [show Nat.gcd t.natAbs b.natAbs = 1 from h.2] at this
  exact Nat.eq_one_of_dvd_one this
/-! ### a sum of floors -/
def fsum (N m : Int) : Nat → Int
  | 0 => 0
  | k + 1 => fsum N m k + (N + k).fdiv m
theorem fsum_shift (N m : Int) (hm : 0 < m) : ∀ k : Nat, fsum (N + 1) m k = fsum N m k - N.fdiv m + (N + k).fdiv m
  | 0 => by simp [fsum]; omega
  | k + 1 => by
    have ih := fsum_shift N m hm k
    show fsum (N + 1) m k + (N + 1 + k).fdiv m = fsum N m k + (N + k).fdiv m - N.fdiv m + (N + ((k + 1 : Nat) : Int)).fdiv m
    rw [ih]
    have : N + 1 + (k : Int) = N + ((k + 1 : Nat) : Int) := by omega
    rw [this]
    omega
theorem fdiv_add_self (N m : Int) (hm : 0 < m) : (N + m).fdiv m = N.fdiv m + 1 := by
  rw [Int.fdiv_eq_ediv_of_nonneg _ (Int.le_of_lt hm), Int.fdiv_eq_ediv_of_nonneg _ (Int.le_of_lt hm), Int.add_ediv_of_dvd_right ⟨1, by omega⟩, Int.ediv_self (by omega)]
theorem fsum_step (N : Int) (m : Nat) (hm : 0 < m) : fsum (N + 1) m m = fsum N m m + 1 := by
  rw [fsum_shift N m (by omega) m, fdiv_add_self N m (by omega)]
  omega
theorem fsum_zero (m : Int) : ∀ k : Nat, (k : Int) ≤ m → fsum 0 m k = 0
  | 0, _ => rfl
  | k + 1, h => by
    show fsum 0 m k + ((0 : Int) + k).fdiv m = 0
    rw [fsum_zero m k (by omega), Int.zero_add, Int.zero_add, Int.fdiv_eq_ediv_of_nonneg _ (by omega)]
    exact Int.ediv_eq_zero_of_lt (by omega) (by omega)
theorem fsum_nat (m : Nat) (hm : 0 < m) : ∀ N : Nat, fsum N m m = N
  | 0 => fsum_zero m m (by omega)
  | N + 1 => by
    have := fsum_step N m hm
    rw [fsum_nat m hm N] at this
    exact this
theorem fsum_neg (m : Nat) (hm : 0 < m) : ∀ N : Nat, fsum (-(N : Int)) m m = -N
  | 0 => fsum_zero m m (by omega)
  | N + 1 => by
    have := fsum_step (-((N + 1 : Nat) : Int)) m hm
    rw [show -((N + 1 : Nat) : Int) + 1 = -(N : Int) by omega, fsum_neg m hm N] at this
    omega
theorem fsum_all (N : Int) (m : Nat) (hm : 0 < m) : fsum N m m = N := by
  rcases Int.lt_or_le N 0 with h | h
  · obtain ⟨n, rfl⟩ : ∃ n : Nat, N = -(n : Int) := ⟨N.natAbs, by omega⟩
    exact fsum_neg m hm n
  · obtain ⟨n, rfl⟩ : ∃ n : Nat, N = (n : Int) := ⟨N.natAbs, by omega⟩
    exact fsum_nat m hm n
/-- floor((t m + k b) / (b m)) -/
theorem floor_split {t b m k : Int} (hb : 0 < b) (hm : 0 < m) : (t * m + k * b).fdiv (b * m) = ((m * t).fdiv b + k).fdiv m := by
  have hbm : 0 < b * m := Int.mul_pos hb hm
  rw [Int.fdiv_eq_ediv_of_nonneg _ (Int.le_of_lt hbm), Int.fdiv_eq_ediv_of_nonneg _ (Int.le_of_lt hm), Int.fdiv_eq_ediv_of_nonneg _ (Int.le_of_lt hb)]
  rw [← Int.ediv_ediv_of_nonneg (Int.le_of_lt hb), Int.add_mul_ediv_right _ _ (by omega), Int.mul_comm t m]
/-! ### how often p divides n -/
theorem pow_ne {p : Int} (hp : p ≠ 0) : ∀ n : Nat, p ^ n ≠ 0
  | 0 => by simp
  | n + 1 => by
    rw [Int.pow_succ]
    exact fun z => (Int.mul_eq_zero.mp z).elim (pow_ne hp n) hp
def Val (p n : Int) (v : Nat) : Prop := ∃ m, n = p ^ v * m ∧ ¬ p ∣ m
theorem Val.ne {p n : Int} {v : Nat} (h : Val p n v) : n ≠ 0 ∨ p = 0 := by
  obtain ⟨m, e, hm⟩ := h
  by_cases hp : p = 0
  · exact .inr hp
  · refine .inl fun z => ?_
    rw [z] at e
    rcases Int.mul_eq_zero.mp e.symm with h | h
    · exact pow_ne hp _ h
    · exact hm (by rw [h]; exact Int.dvd_zero _)
theorem val_zero {p n : Int} (h : ¬ p ∣ n) : Val p n 0 := ⟨n, by simp, h⟩
theorem val_succ {p n : Int} {v : Nat} (h : Val p n v) : Val p (p * n) (v + 1) := by
  obtain ⟨m, e, hm⟩ := h
  exact ⟨m, by rw [e, Int.pow_succ, Int.mul_comm (p ^ v) p, Int.mul_assoc], hm⟩
theorem val_unique {p n : Int} (hp : p ≠ 0) : ∀ {v w : Nat}, Val p n v → Val p n w → v = w
  | 0, 0, _, _ => rfl
  | 0, w + 1, ⟨m, e, hm⟩, ⟨m', e', _⟩ => by
    exfalso
    apply hm
    rw [Int.pow_zero, Int.one_mul] at e
    rw [← e, e', Int.pow_succ]
    exact ⟨p ^ w * m', by rw [Int.mul_comm (p ^ w) p, Int.mul_assoc]⟩
  | v + 1, 0, ⟨m, e, _⟩, ⟨m', e', hm'⟩ => by
    exfalso
    apply hm'
    rw [Int.pow_zero, Int.one_mul] at e'
    rw [← e', e, Int.pow_succ]
    exact ⟨p ^ v * m, by rw [Int.mul_comm (p ^ v) p, Int.mul_assoc]⟩
  | v + 1, w + 1, ⟨m, e, hm⟩, ⟨m', e', hm'⟩ => by
    have : p ^ v * m = p ^ w * m' := by
      refine Int.eq_of_mul_eq_mul_left hp ?_
      rw [← Int.mul_assoc, ← Int.mul_assoc, Int.mul_comm p (p ^ v), Int.mul_comm p (p ^ w), ← Int.pow_succ, ← Int.pow_succ, ← e, ← e']
    exact congrArg (· + 1) (val_unique hp (n := p ^ v * m) ⟨m, rfl, hm⟩ ⟨m', this, hm'⟩)
def Pr (p : Int) : Prop := 2 ≤ p ∧ ∀ x y : Int, p ∣ x * y → p ∣ x ∨ p ∣ y
theorem val_mul {p x y : Int} {v w : Nat} (hp : Pr p) (hx : Val p x v) (hy : Val p y w) : Val p (x * y) (v + w) := by
  obtain ⟨m, e, hm⟩ := hx
  obtain ⟨m', e', hm'⟩ := hy
  refine ⟨m * m', ?_, fun h => (hp.2 m m' h).elim hm hm'⟩
  rw [e, e', Int.pow_add]
  simp only [Int.mul_assoc, Int.mul_left_comm, Int.mul_comm]
theorem val_ex {p : Int} (hp : 2 ≤ p) : ∀ (k : Nat) (n : Int), n ≠ 0 → n.natAbs ≤ k → ∃ v, Val p n v
  | 0, n, h0, h => absurd (by omega : n = 0) h0
  | k + 1, n, h0, h => by
    by_cases hd : p ∣ n
    · obtain ⟨m, rfl⟩ := hd
      have hm0 : m ≠ 0 := fun z => h0 (by rw [z, Int.mul_zero])
      have hlt : m.natAbs < (p * m).natAbs := by
        rw [Int.natAbs_mul]
        have h1 : 0 < m.natAbs := Int.natAbs_pos.mpr hm0
        have h2 : 2 ≤ p.natAbs := by omega
        have : 2 * m.natAbs ≤ p.natAbs * m.natAbs := Nat.mul_le_mul_right _ h2
        omega
      obtain ⟨v, hv⟩ := val_ex hp k m hm0 (by omega)
      exact ⟨v + 1, val_succ hv⟩
    · exact ⟨0, val_zero hd⟩
theorem dvd_pow_mul {p m : Int} {a b : Nat} (h : a ≤ b) : p ^ a ∣ p ^ b * m := by
  obtain ⟨c, rfl⟩ := Nat.exists_eq_add_of_le h
  rw [Int.pow_add, Int.mul_assoc]
  exact ⟨_, rfl⟩
theorem val_ge {p n : Int} {v a : Nat} (hp : p ≠ 0) (h : Val p n v) (hd : p ^ a ∣ n) : a ≤ v := by
  obtain ⟨m, e, hm⟩ := h
  apply Nat.le_of_not_lt
  intro hlt
  obtain ⟨c, rfl⟩ := Nat.exists_eq_add_of_le (show v + 1 ≤ a from hlt)
  obtain ⟨q, eq⟩ := hd
  rw [e, Int.pow_add, Int.pow_succ, Int.mul_assoc, Int.mul_assoc] at eq
  have := Int.eq_of_mul_eq_mul_left (pow_ne hp _) eq
  exact hm ⟨_, this⟩
theorem val_add_ge {p x y : Int} {v w u : Nat} (hp : p ≠ 0) (hx : Val p x v) (hy : Val p y w) (hz : Val p (x + y) u) : min v w ≤ u := by
  obtain ⟨m, e, _⟩ := hx
  obtain ⟨m', e', _⟩ := hy
  refine val_ge hp hz (Int.dvd_add ?_ ?_)
  · rw [e]; exact dvd_pow_mul (Nat.min_le_left _ _)
  · rw [e']; exact dvd_pow_mul (Nat.min_le_right _ _)
theorem val_neg {p x : Int} {v : Nat} (h : Val p x v) : Val p (-x) v := by
  obtain ⟨m, e, hm⟩ := h
  exact ⟨-m, by rw [e, Int.mul_neg], fun h => hm (Int.dvd_neg.mp h)⟩
theorem val_add_eq {p x y : Int} {v w u : Nat} (hp : p ≠ 0) (hx : Val p x v) (hy : Val p y w) (hz : Val p (x + y) u) (hne : v ≠ w) : u = min v w := by
  have h1 := val_add_ge hp hx hy hz
  have h2 : min u w ≤ v := val_add_ge hp hz (val_neg hy) (by rw [show x + y + -y = x by omega]; exact hx)
  have h3 : min u v ≤ w := val_add_ge hp hz (val_neg hx) (by rw [show x + y + -x = y by omega]; exact hy)
  omega
theorem pr_of {p : Nat} (h2 : 2 ≤ p) (h : ∀ d, 2 ≤ d → d * d ≤ p → p % d ≠ 0) : Pr p := by
  refine ⟨by omega, fun x y hxy => ?_⟩
  by_cases hx : (p : Int) ∣ x
  · exact .inl hx
  · refine .inr ?_
    have hnat : p ∣ x.natAbs * y.natAbs := by
      have := Int.natAbs_dvd_natAbs.mpr hxy
      rw [Int.natAbs_mul, Int.natAbs_natCast] at this
      exact this
    have hco : Nat.Coprime p x.natAbs := by
      have gd : Nat.gcd p x.natAbs ∣ p := Nat.gcd_dvd_left _ _
      obtain ⟨c, hc⟩ := gd
      by_cases h1 : Nat.gcd p x.natAbs = 1
      · exact h1
      · exfalso
        have hg0 : 0 < Nat.gcd p x.natAbs := Nat.gcd_pos_of_pos_left _ (by omega)
        by_cases hc1 : c = 1
        · rw [hc1, Nat.mul_one] at hc
          have : p ∣ x.natAbs := by rw [hc]; exact Nat.gcd_dvd_right _ _
          exact hx (Int.natAbs_dvd_natAbs.mp (by rw [Int.natAbs_natCast]; exact this))
        · have hc0 : c ≠ 0 := fun z => by rw [z, Nat.mul_zero] at hc; omega
          rcases Nat.le_total (Nat.gcd p x.natAbs) c with hl | hl
          · refine h (Nat.gcd p x.natAbs) (by omega) ?_ (Nat.mod_eq_zero_of_dvd ⟨c, hc⟩)
            calc Nat.gcd p x.natAbs * Nat.gcd p x.natAbs ≤ Nat.gcd p x.natAbs * c := Nat.mul_le_mul_left _ hl
              _ = p := hc.symm
          · refine h c (by omega) ?_ (Nat.mod_eq_zero_of_dvd ⟨_, by rw [Nat.mul_comm]; exact hc⟩)
            calc c * c ≤ Nat.gcd p x.natAbs * c := Nat.mul_le_mul_right _ hl
              _ = p := hc.symm
    have := Nat.Coprime.dvd_of_dvd_mul_left hco hnat
    exact Int.natAbs_dvd_natAbs.mp (by rw [Int.natAbs_natCast]; exact this)
/-- exponents in lowest terms -/
theorem lo_val {p T B : Int} {x y u w : Nat} (hp : Pr p) (hB : B ≠ 0) (hx : Val p T x) (hy : Val p B y) (hu : Val p (lo1 T B) u) (hw : Val p (lo2 T B) w) : (u : Int) - w = x - y := by
  obtain ⟨e1, e2, _⟩ := lo_spec (t := T) hB
  obtain ⟨s, hs⟩ := val_ex hp.1 _ (sh T B) (sh_ne hB) (Nat.le_refl _)
  have h1 := val_mul hp hu hs
  have h2 := val_mul hp hw hs
  rw [← e1] at h1
  rw [← e2] at h2
  have hp0 : p ≠ 0 := by have := hp.1; omega
  have := val_unique hp0 hx h1
  have := val_unique hp0 hy h2
  omega
end KM

namespace K02
open PySem DF KM
theorem log2_lt {n k : Nat} (hk : 0 < k) (h : n < 2 ^ k) : n.log2 < k := by
  by_cases h0 : n = 0
  · subst h0; simpa using hk
  · exact (Nat.log2_lt h0).mpr h
/-- not too great -/
def Sm (i : Int) : Prop := i.natAbs < 2 ^ 4000
set_option exponentiation.threshold 5000 in
theorem sm_of {i : Int} (h : i.natAbs ≤ 10 ^ 700) : Sm i := Nat.lt_of_le_of_lt h (by decide)
theorem cm {i j : Int} (hi : Sm i) (hj : Sm j) : cMul i j = true := by
  unfold cMul
  have := log2_lt (by decide) hi
  have := log2_lt (by decide) hj
  exact decide_eq_true (by omega)
theorem cd {i j : Int} (h0 : j ≠ 0) (hj : Sm j) : cDiv i j = true := by
  unfold cDiv
  have := log2_lt (by decide) hj
  rw [Bool.and_eq_true]
  exact ⟨decide_eq_true h0, decide_eq_true (by omega)⟩
theorem abs_eq (i : Int) : (if i < 0 then -i else i) = (i.natAbs : Int) := by
  split <;> omega
/-! ### Euclid -/
theorem fm {a b : Int} (hb : 0 < b) : a.fmod b = a % b := Int.fmod_eq_emod_of_nonneg _ (Int.le_of_lt hb)
theorem fd {a b : Int} (hb : 0 ≤ b) : a.fdiv b = a / b := Int.fdiv_eq_ediv_of_nonneg _ hb
def euT : DEnv → DF.R Bool := dTst (dBin gtD (oVar 1) (oD (dC (.int 0))))
def euB : DEnv → SR := dPar 0 1 (vCons (dVar 1) (vCons (dBin modD (oVar 0) (oVar 1)) (vNil)))
theorem euT_ap (a b : Int) : euT [some (.val (.int a)), some (.val (.int b))] = .ok [some (.val (.int a)), some (.val (.int b))] (decide (0 < b)) := by
  simp [euT, dC_ap, dVar_ap, oVar_ap, oD_ap, aNil_ap, aCons_ap, vNil_ap, vCons_ap, dBin_ap, dTst_ap, dUn_ap, dCal_ap, dSeq_ap, dNever_ap, dIf_ap, dRet_ap, dRetF_ap, dRetN_ap, dRetV_ap, dExpr_ap, dSet_ap, dSetF_ap, gsNil_ap, gsCons_ap, gTp_ap, dAsg_ap, sLst_ap, sTup_ap, sRng1_ap, sRng2_ap, dForS_ap, dTru_ap, dAnd_ap, dOr_ap, dNot_ap, dAndV_ap, dOrV_ap, dNotV_ap, dIte_ap, dChain_ap, dTup_ap, dLst_ap, dApp_ap, dSetI_ap, rNil_ap, rVal_ap, rIo_ap, dCal2_ap, dV_ap, dN_ap, tYesB_ap, dLc_ap, dIsi_ap, dPar_ap, dDic0_ap, dPar3_ap, DF.R.bind_ok, DF.R.bindS_ok, DF.R.bindN_ok, DF.SR.bind_nx, DF.SR.bind_ret, ofO, ths, setV, setF, free, set2, set3, fnRes, startE, startC, outs, argsD, putD, ioIx, isMu, look, muL, ltD_ap, leD_ap, gtD_ap, geD_ap, addD_ap, subD_ap, negD_ap, absD_ap, intD_ap, intD_apB, eq_int, ne_int, ixD, L2.atI, L2.ixN, lenD, gcdD, max2D, min2D]
theorem euB_ap (a b : Int) (hb : b ≠ 0) : euB [some (.val (.int a)), some (.val (.int b))] = .nx [some (.val (.int b)), some (.val (.int (a.fmod b)))] := by
  simp [euB, dC_ap, dVar_ap, oVar_ap, oD_ap, aNil_ap, aCons_ap, vNil_ap, vCons_ap, dBin_ap, dTst_ap, dUn_ap, dCal_ap, dSeq_ap, dNever_ap, dIf_ap, dRet_ap, dRetF_ap, dRetN_ap, dRetV_ap, dExpr_ap, dSet_ap, dSetF_ap, gsNil_ap, gsCons_ap, gTp_ap, dAsg_ap, sLst_ap, sTup_ap, sRng1_ap, sRng2_ap, dForS_ap, dTru_ap, dAnd_ap, dOr_ap, dNot_ap, dAndV_ap, dOrV_ap, dNotV_ap, dIte_ap, dChain_ap, dTup_ap, dLst_ap, dApp_ap, dSetI_ap, rNil_ap, rVal_ap, rIo_ap, dCal2_ap, dV_ap, dN_ap, tYesB_ap, dLc_ap, dIsi_ap, dPar_ap, dDic0_ap, dPar3_ap, DF.R.bind_ok, DF.R.bindS_ok, DF.R.bindN_ok, DF.SR.bind_nx, DF.SR.bind_ret, ofO, ths, setV, setF, free, set2, set3, fnRes, startE, startC, outs, argsD, putD, ioIx, isMu, look, muL, ltD_ap, leD_ap, gtD_ap, geD_ap, addD_ap, subD_ap, negD_ap, absD_ap, intD_ap, intD_apB, eq_int, ne_int, ixD, L2.atI, L2.ixN, lenD, gcdD, max2D, min2D, modD_ap hb]
theorem eu_loop : ∀ (n a b : Nat), b < n → dWhile euT euB n [some (.val (.int a)), some (.val (.int b))] = .nx [some (.val (.int (Nat.gcd a b : Nat))), some (.val (.int 0))]
  | 0, a, b, h => absurd h (Nat.not_lt_zero _)
  | n + 1, a, 0, h => by
    rw [dWhile_succ, euT_ap]
    simp [R.bindS_ok]
  | n + 1, a, b + 1, h => by
    have hlt : a % (b + 1) < n := Nat.lt_of_lt_of_le (Nat.mod_lt _ (Nat.succ_pos _)) (Nat.le_of_lt_succ h)
    have ih := eu_loop n (b + 1) (a % (b + 1)) hlt
    have e1 : ((a : Int)).fmod ((b + 1 : Nat) : Int) = ((a % (b + 1) : Nat) : Int) := by rw [fm (by omega)]; omega
    have e2 : Nat.gcd a (b + 1) = Nat.gcd (b + 1) (a % (b + 1)) := by rw [Nat.gcd_comm, Nat.gcd_rec, Nat.gcd_comm]
    have hp : (0 : Int) < ((b + 1 : Nat) : Int) := by omega
    rw [e2, ← ih, ← e1, dWhile_succ, euT_ap, R.bindS_ok, decide_eq_true hp, euB_ap _ _ (by omega)]
theorem e_div (a b : Int) : F_q_ra_divisor [(false, .int a), (false, .int b)] = .ret false (.int (gc a b : Nat)) [] := by
  have h := eu_loop (fuel [(false, .int a), (false, .int b)]) a.natAbs b.natAbs (by simp [fuel, intsOf]; omega)
  unfold F_q_ra_divisor B_q_ra_divisor
  rw [show (dWhile (dTst (dBin gtD (oVar 1) (oD (dC (.int 0))))) (dPar 0 1 (vCons (dVar 1) (vCons (dBin modD (oVar 0) (oVar 1)) (vNil))))) = dWhile euT euB from rfl]
  simp [dC_ap, dVar_ap, oVar_ap, oD_ap, aNil_ap, aCons_ap, vNil_ap, vCons_ap, dBin_ap, dTst_ap, dUn_ap, dCal_ap, dSeq_ap, dNever_ap, dIf_ap, dRet_ap, dRetF_ap, dRetN_ap, dRetV_ap, dExpr_ap, dSet_ap, dSetF_ap, gsNil_ap, gsCons_ap, gTp_ap, dAsg_ap, sLst_ap, sTup_ap, sRng1_ap, sRng2_ap, dForS_ap, dTru_ap, dAnd_ap, dOr_ap, dNot_ap, dAndV_ap, dOrV_ap, dNotV_ap, dIte_ap, dChain_ap, dTup_ap, dLst_ap, dApp_ap, dSetI_ap, rNil_ap, rVal_ap, rIo_ap, dCal2_ap, dV_ap, dN_ap, tYesB_ap, dLc_ap, dIsi_ap, dPar_ap, dDic0_ap, dPar3_ap, DF.R.bind_ok, DF.R.bindS_ok, DF.R.bindN_ok, DF.SR.bind_nx, DF.SR.bind_ret, ofO, ths, setV, setF, free, set2, set3, fnRes, startE, startC, outs, argsD, putD, ioIx, isMu, look, muL, ltD_ap, leD_ap, gtD_ap, geD_ap, addD_ap, subD_ap, negD_ap, absD_ap, intD_ap, intD_apB, eq_int, ne_int, ixD, L2.atI, L2.ixN, lenD, gcdD, max2D, min2D, h, gc]
theorem sm_gc {a b : Int} (h : b ≠ 0) (hb : Sm b) : Sm (sh a b) := by
  unfold Sm
  rw [sh_natAbs]
  exact Nat.lt_of_le_of_lt (Nat.le_of_dvd (Int.natAbs_pos.mpr h) (Nat.gcd_dvd_right _ _)) hb
theorem e_reduced (t b : Int) (hb : b ≠ 0) (h : Sm b) : F_reduced [(false, .int t), (false, .int b)] = .ret false (.tup [.int (lo1 t b), .int (lo2 t b)]) [] := by
  have hs := sm_gc (a := t) hb h
  have h0 := sh_ne (t := t) hb
  have k1 := divD_ap (cd (i := t) h0 hs)
  have k2 := divD_ap (cd (i := b) h0 hs)
  unfold F_reduced B_reduced
  unfold lo1 lo2
  unfold sh gc at *
  by_cases hb0 : b < 0
  · simp only [hb0, if_true] at k1 k2 ⊢
    simp [dC_ap, dVar_ap, oVar_ap, oD_ap, aNil_ap, aCons_ap, vNil_ap, vCons_ap, dBin_ap, dTst_ap, dUn_ap, dCal_ap, dSeq_ap, dNever_ap, dIf_ap, dRet_ap, dRetF_ap, dRetN_ap, dRetV_ap, dExpr_ap, dSet_ap, dSetF_ap, gsNil_ap, gsCons_ap, gTp_ap, dAsg_ap, sLst_ap, sTup_ap, sRng1_ap, sRng2_ap, dForS_ap, dTru_ap, dAnd_ap, dOr_ap, dNot_ap, dAndV_ap, dOrV_ap, dNotV_ap, dIte_ap, dChain_ap, dTup_ap, dLst_ap, dApp_ap, dSetI_ap, rNil_ap, rVal_ap, rIo_ap, dCal2_ap, dV_ap, dN_ap, tYesB_ap, dLc_ap, dIsi_ap, dPar_ap, dDic0_ap, dPar3_ap, DF.R.bind_ok, DF.R.bindS_ok, DF.R.bindN_ok, DF.SR.bind_nx, DF.SR.bind_ret, ofO, ths, setV, setF, free, set2, set3, fnRes, startE, startC, outs, argsD, putD, ioIx, isMu, look, muL, ltD_ap, leD_ap, gtD_ap, geD_ap, addD_ap, subD_ap, negD_ap, absD_ap, intD_ap, intD_apB, eq_int, ne_int, ixD, L2.atI, L2.ixN, lenD, gcdD, max2D, min2D, k1, k2, hb0]
  · simp only [hb0, if_false] at k1 k2 ⊢
    simp [dC_ap, dVar_ap, oVar_ap, oD_ap, aNil_ap, aCons_ap, vNil_ap, vCons_ap, dBin_ap, dTst_ap, dUn_ap, dCal_ap, dSeq_ap, dNever_ap, dIf_ap, dRet_ap, dRetF_ap, dRetN_ap, dRetV_ap, dExpr_ap, dSet_ap, dSetF_ap, gsNil_ap, gsCons_ap, gTp_ap, dAsg_ap, sLst_ap, sTup_ap, sRng1_ap, sRng2_ap, dForS_ap, dTru_ap, dAnd_ap, dOr_ap, dNot_ap, dAndV_ap, dOrV_ap, dNotV_ap, dIte_ap, dChain_ap, dTup_ap, dLst_ap, dApp_ap, dSetI_ap, rNil_ap, rVal_ap, rIo_ap, dCal2_ap, dV_ap, dN_ap, tYesB_ap, dLc_ap, dIsi_ap, dPar_ap, dDic0_ap, dPar3_ap, DF.R.bind_ok, DF.R.bindS_ok, DF.R.bindN_ok, DF.SR.bind_nx, DF.SR.bind_ret, ofO, ths, setV, setF, free, set2, set3, fnRes, startE, startC, outs, argsD, putD, ioIx, isMu, look, muL, ltD_ap, leD_ap, gtD_ap, geD_ap, addD_ap, subD_ap, negD_ap, absD_ap, intD_ap, intD_apB, eq_int, ne_int, ixD, L2.atI, L2.ixN, lenD, gcdD, max2D, min2D, k1, k2, hb0]
theorem e_lowest (t b : Int) (hb : b ≠ 0) (h : Sm b) : F_q_ra_lowest [(false, .int t), (false, .int b)] = .ret false (.tup [.int (lo1 t b), .int (lo2 t b)]) [] := by
  have hs := sm_gc (a := t) hb h
  have h0 := sh_ne (t := t) hb
  have k1 := divD_ap (cd (i := t) h0 hs)
  have k2 := divD_ap (cd (i := b) h0 hs)
  have hg : Sm (gc t b : Nat) := by
    have := hs
    unfold Sm at this ⊢
    rw [sh_natAbs] at this
    simpa using this
  have m1 := mulD_ap (cm (i := (gc t b : Nat)) (j := 1) hg (sm_of (by decide)))
  have m2 := mulD_ap (cm (i := (gc t b : Nat)) (j := -1) hg (sm_of (by decide)))
  unfold F_q_ra_lowest B_q_ra_lowest
  unfold lo1 lo2
  by_cases hb0 : b < 0
  · have hb1 : ¬ 0 < b := by omega
    have es : ((gc t b : Nat) : Int) * -1 = sh t b := by unfold sh; rw [if_pos hb0]; omega
    rw [es] at m2
    simp [dC_ap, dVar_ap, oVar_ap, oD_ap, aNil_ap, aCons_ap, vNil_ap, vCons_ap, dBin_ap, dTst_ap, dUn_ap, dCal_ap, dSeq_ap, dNever_ap, dIf_ap, dRet_ap, dRetF_ap, dRetN_ap, dRetV_ap, dExpr_ap, dSet_ap, dSetF_ap, gsNil_ap, gsCons_ap, gTp_ap, dAsg_ap, sLst_ap, sTup_ap, sRng1_ap, sRng2_ap, dForS_ap, dTru_ap, dAnd_ap, dOr_ap, dNot_ap, dAndV_ap, dOrV_ap, dNotV_ap, dIte_ap, dChain_ap, dTup_ap, dLst_ap, dApp_ap, dSetI_ap, rNil_ap, rVal_ap, rIo_ap, dCal2_ap, dV_ap, dN_ap, tYesB_ap, dLc_ap, dIsi_ap, dPar_ap, dDic0_ap, dPar3_ap, DF.R.bind_ok, DF.R.bindS_ok, DF.R.bindN_ok, DF.SR.bind_nx, DF.SR.bind_ret, ofO, ths, setV, setF, free, set2, set3, fnRes, startE, startC, outs, argsD, putD, ioIx, isMu, look, muL, ltD_ap, leD_ap, gtD_ap, geD_ap, addD_ap, subD_ap, negD_ap, absD_ap, intD_ap, intD_apB, eq_int, ne_int, ixD, L2.atI, L2.ixN, lenD, gcdD, max2D, min2D, k1, k2, hb1, e_div, m2]
  · have hb1 : 0 < b := by omega
    have es : ((gc t b : Nat) : Int) * 1 = sh t b := by unfold sh; rw [if_neg hb0]; omega
    rw [es] at m1
    simp [dC_ap, dVar_ap, oVar_ap, oD_ap, aNil_ap, aCons_ap, vNil_ap, vCons_ap, dBin_ap, dTst_ap, dUn_ap, dCal_ap, dSeq_ap, dNever_ap, dIf_ap, dRet_ap, dRetF_ap, dRetN_ap, dRetV_ap, dExpr_ap, dSet_ap, dSetF_ap, gsNil_ap, gsCons_ap, gTp_ap, dAsg_ap, sLst_ap, sTup_ap, sRng1_ap, sRng2_ap, dForS_ap, dTru_ap, dAnd_ap, dOr_ap, dNot_ap, dAndV_ap, dOrV_ap, dNotV_ap, dIte_ap, dChain_ap, dTup_ap, dLst_ap, dApp_ap, dSetI_ap, rNil_ap, rVal_ap, rIo_ap, dCal2_ap, dV_ap, dN_ap, tYesB_ap, dLc_ap, dIsi_ap, dPar_ap, dDic0_ap, dPar3_ap, DF.R.bind_ok, DF.R.bindS_ok, DF.R.bindN_ok, DF.SR.bind_nx, DF.SR.bind_ret, ofO, ths, setV, setF, free, set2, set3, fnRes, startE, startC, outs, argsD, putD, ioIx, isMu, look, muL, ltD_ap, leD_ap, gtD_ap, geD_ap, addD_ap, subD_ap, negD_ap, absD_ap, intD_ap, intD_apB, eq_int, ne_int, ixD, L2.atI, L2.ixN, lenD, gcdD, max2D, min2D, k1, k2, hb1, e_div, m1]
/-! ### the bag -/
structure Bag (n : Nat) (d : D) : Prop where
  ex : ∃ x y z : Int, d = .lst [.int x, .int y, .int z] ∧ 0 ≤ y ∧ y < 2 ^ 61 ∧ 0 ≤ z ∧ z ≤ n
theorem Bag.mono {n m : Nat} {d : D} (h : Bag n d) (hm : n ≤ m) : Bag m d := by
  obtain ⟨x, y, z, e, h1, h2, h3, h4⟩ := h.ex
  exact ⟨x, y, z, e, h1, h2, h3, by omega⟩
theorem e_grab {n : Nat} {d : D} {t : Int} (h : Bag n d) (hn : n ≤ 1000000) (ht : 0 < t) (hs : Sm t) : ∃ (r : Int) (d' : D), 0 ≤ r ∧ r < t ∧ Bag (n + 1) d' ∧ F_q_grab [(true, d), (false, .int t)] = .ret false (.int r) [d'] := by
  obtain ⟨x, y, z, rfl, hy0, hy1, hz0, hz1⟩ := h.ex
  have hmod := modD_ap (i := x) (j := t) (by omega)
  have hdiv := divD_ap (cd (i := x) (show t ≠ 0 by omega) hs)
  by_cases hx : 0 < x
  · refine ⟨x.fmod t, .lst [.int (x.fdiv t), .int y, .int z], by rw [fm ht]; exact Int.emod_nonneg _ (by omega), by rw [fm ht]; exact Int.emod_lt_of_pos _ ht, ⟨_, y, z, rfl, hy0, hy1, hz0, by omega⟩, ?_⟩
    unfold F_q_grab B_q_grab
    simp [dC_ap, dVar_ap, oVar_ap, oD_ap, aNil_ap, aCons_ap, vNil_ap, vCons_ap, dBin_ap, dTst_ap, dUn_ap, dCal_ap, dSeq_ap, dNever_ap, dIf_ap, dRet_ap, dRetF_ap, dRetN_ap, dRetV_ap, dExpr_ap, dSet_ap, dSetF_ap, gsNil_ap, gsCons_ap, gTp_ap, dAsg_ap, sLst_ap, sTup_ap, sRng1_ap, sRng2_ap, dForS_ap, dTru_ap, dAnd_ap, dOr_ap, dNot_ap, dAndV_ap, dOrV_ap, dNotV_ap, dIte_ap, dChain_ap, dTup_ap, dLst_ap, dApp_ap, dSetI_ap, rNil_ap, rVal_ap, rIo_ap, dCal2_ap, dV_ap, dN_ap, tYesB_ap, dLc_ap, dIsi_ap, dPar_ap, dDic0_ap, dPar3_ap, DF.R.bind_ok, DF.R.bindS_ok, DF.R.bindN_ok, DF.SR.bind_nx, DF.SR.bind_ret, ofO, ths, setV, setF, free, set2, set3, fnRes, startE, startC, outs, argsD, putD, ioIx, isMu, look, muL, ltD_ap, leD_ap, gtD_ap, geD_ap, addD_ap, subD_ap, negD_ap, absD_ap, intD_ap, intD_apB, eq_int, ne_int, ixD, L2.atI, L2.ixN, lenD, gcdD, max2D, min2D, hx, hmod, hdiv]
  · have e1 := mulD_ap (i := 1048637) (j := z + 1) (cm (sm_of (by decide)) (sm_of (by omega)))
    have e2 := modD_ap (i := y + 1048637 * (z + 1)) (j := 2305843009213693951) (by decide)
    have b2 : 0 ≤ (y + 1048637 * (z + 1)).fmod 2305843009213693951 ∧ (y + 1048637 * (z + 1)).fmod 2305843009213693951 < 2305843009213693951 := by
      rw [fm (by decide)]; exact ⟨Int.emod_nonneg _ (by decide), Int.emod_lt_of_pos _ (by decide)⟩
    generalize eo : (y + 1048637 * (z + 1)).fmod 2305843009213693951 = o at e2 b2
    have so : Sm o := sm_of (by omega)
    have e3 := mulD_ap (i := o) (j := o) (cm so so)
    have e4 := modD_ap (i := o * o) (j := 2305843009213693723) (by decide)
    have b4 : 0 ≤ (o * o).fmod 2305843009213693723 ∧ (o * o).fmod 2305843009213693723 < 2305843009213693723 := by
      rw [fm (by decide)]; exact ⟨Int.emod_nonneg _ (by decide), Int.emod_lt_of_pos _ (by decide)⟩
    generalize eq : (o * o).fmod 2305843009213693723 = q at e4 b4
    have sq : Sm q := sm_of (by omega)
    have e5 := mulD_ap (i := q) (j := o) (cm sq so)
    have e6 := mulD_ap (i := 8161) (j := z + 1) (cm (sm_of (by decide)) (sm_of (by omega)))
    generalize ew : q * o + 8161 * (z + 1) = w
    have e7 := modD_ap (i := w) (j := 2305843009213693921) (by decide)
    have b7 : 0 ≤ w.fmod 2305843009213693921 := by rw [fm (by decide)]; exact Int.emod_nonneg _ (by decide)
    generalize eu : w.fmod 2305843009213693921 = u at e7 b7
    have e8 := divD_ap (i := u) (j := 16384) (cd (by decide) (sm_of (by decide)))
    have e9 := modD_ap (i := u.fdiv 16384) (j := t) (by omega)
    refine ⟨(u.fdiv 16384).fmod t, .lst [.int x, .int y, .int (z + 1)], by rw [fm ht]; exact Int.emod_nonneg _ (by omega), by rw [fm ht]; exact Int.emod_lt_of_pos _ ht, ⟨_, y, z + 1, rfl, hy0, hy1, by omega, by omega⟩, ?_⟩
    unfold F_q_grab B_q_grab
    simp [dC_ap, dVar_ap, oVar_ap, oD_ap, aNil_ap, aCons_ap, vNil_ap, vCons_ap, dBin_ap, dTst_ap, dUn_ap, dCal_ap, dSeq_ap, dNever_ap, dIf_ap, dRet_ap, dRetF_ap, dRetN_ap, dRetV_ap, dExpr_ap, dSet_ap, dSetF_ap, gsNil_ap, gsCons_ap, gTp_ap, dAsg_ap, sLst_ap, sTup_ap, sRng1_ap, sRng2_ap, dForS_ap, dTru_ap, dAnd_ap, dOr_ap, dNot_ap, dAndV_ap, dOrV_ap, dNotV_ap, dIte_ap, dChain_ap, dTup_ap, dLst_ap, dApp_ap, dSetI_ap, rNil_ap, rVal_ap, rIo_ap, dCal2_ap, dV_ap, dN_ap, tYesB_ap, dLc_ap, dIsi_ap, dPar_ap, dDic0_ap, dPar3_ap, DF.R.bind_ok, DF.R.bindS_ok, DF.R.bindN_ok, DF.SR.bind_nx, DF.SR.bind_ret, ofO, ths, setV, setF, free, set2, set3, fnRes, startE, startC, outs, argsD, putD, ioIx, isMu, look, muL, ltD_ap, leD_ap, gtD_ap, geD_ap, addD_ap, subD_ap, negD_ap, absD_ap, intD_ap, intD_apB, eq_int, ne_int, ixD, L2.atI, L2.ixN, lenD, gcdD, max2D, min2D, hx, e1, e2, e3, e4, e5, e6, e7, e8, e9, ew]
theorem e_one {n : Nat} {d : D} {l : List D} (h : Bag n d) (hn : n ≤ 1000000) (hl : 0 < l.length) (hl2 : l.length < 1000000) : ∃ (r : Nat) (d' : D) (x : D), l[r]? = some x ∧ Bag (n + 1) d' ∧ F_q_one_of [(true, d), (false, .lst l)] = .ret false x [d'] := by
  obtain ⟨r, d', h0, h1, hb, e⟩ := e_grab (t := l.length) h hn (by omega) (sm_of (by omega))
  obtain ⟨k, rfl⟩ : ∃ k : Nat, r = k := ⟨r.toNat, by omega⟩
  have hk : k < l.length := by omega
  refine ⟨k, d', l[k], List.getElem?_eq_getElem hk, hb, ?_⟩
  unfold F_q_one_of B_q_one_of
  simp [dC_ap, dVar_ap, oVar_ap, oD_ap, aNil_ap, aCons_ap, vNil_ap, vCons_ap, dBin_ap, dTst_ap, dUn_ap, dCal_ap, dSeq_ap, dNever_ap, dIf_ap, dRet_ap, dRetF_ap, dRetN_ap, dRetV_ap, dExpr_ap, dSet_ap, dSetF_ap, gsNil_ap, gsCons_ap, gTp_ap, dAsg_ap, sLst_ap, sTup_ap, sRng1_ap, sRng2_ap, dForS_ap, dTru_ap, dAnd_ap, dOr_ap, dNot_ap, dAndV_ap, dOrV_ap, dNotV_ap, dIte_ap, dChain_ap, dTup_ap, dLst_ap, dApp_ap, dSetI_ap, rNil_ap, rVal_ap, rIo_ap, dCal2_ap, dV_ap, dN_ap, tYesB_ap, dLc_ap, dIsi_ap, dPar_ap, dDic0_ap, dPar3_ap, DF.R.bind_ok, DF.R.bindS_ok, DF.R.bindN_ok, DF.SR.bind_nx, DF.SR.bind_ret, ofO, ths, setV, setF, free, set2, set3, fnRes, startE, startC, outs, argsD, putD, ioIx, isMu, look, muL, ltD_ap, leD_ap, gtD_ap, geD_ap, addD_ap, subD_ap, negD_ap, absD_ap, intD_ap, intD_apB, eq_int, ne_int, ixD, L2.atI, L2.ixN, lenD, gcdD, max2D, min2D, e, hk]
end K02

namespace K02
open PySem DF KM
/-! ### drawn ratios -/
theorem p14 : powD (.int 10) (.int 14) = some (.int 100000000000000) := powD_ap (by decide +kernel)
theorem p60 : powD (.int 10) (.int 60) = some (.int (10 ^ 60)) := powD_ap (by decide +kernel)
theorem e_drawn {n : Nat} {d : D} (h : Bag n d) (hn : n ≤ 900000) : ∃ (t b : Int) (d' : D), Good t b ∧ t.natAbs ≤ 100000000000000 ∧ b ≤ 100000000000000 ∧ Bag (n + 3) d' ∧ F_q_ra_drawn [(true, d)] = .ret false (.tup [.int t, .int b]) [d'] := by
  obtain ⟨r, d1, x, hr, h1, e1⟩ := e_one (l := [.int 3, .int 12, .int 60, .int 1000, .int 100000000000000]) h (by omega) (by decide) (by decide)
  have hx : ∃ i : Int, x = .int i ∧ 3 ≤ i ∧ i ≤ 100000000000000 := by
    have hm := List.mem_of_getElem? hr
    simp at hm
    rcases hm with rfl | rfl | rfl | rfl | rfl
    · exact ⟨_, rfl, by decide, by decide⟩
    · exact ⟨_, rfl, by decide, by decide⟩
    · exact ⟨_, rfl, by decide, by decide⟩
    · exact ⟨_, rfl, by decide, by decide⟩
    · exact ⟨_, rfl, by decide, by decide⟩
  obtain ⟨i, rfl, hi0, hi1⟩ := hx
  obtain ⟨a, d2, ha0, ha1, h2, e2⟩ := e_grab (t := 2 * i + 1) h1 (by omega) (by omega) (sm_of (by omega))
  obtain ⟨c, d3, hc0, hc1, h3, e3⟩ := e_grab (t := i) h2 (by omega) (by omega) (sm_of (by omega))
  have hb : (1 + c : Int) ≠ 0 := by omega
  have g := (lo_spec (t := a - i) hb).2.2
  have l1 := lo1_le (T := a - i) hb
  have l2 := lo2_le (T := a - i) hb
  refine ⟨lo1 (a - i) (1 + c), lo2 (a - i) (1 + c), d3, g, by omega, by omega, h3, ?_⟩
  have m1 := mulD_ap (i := 2) (j := i) (cm (sm_of (by decide)) (sm_of (by omega)))
  have e4 := e_lowest (a - i) (1 + c) hb (sm_of (by omega))
  unfold F_q_ra_drawn B_q_ra_drawn
  simp [dC_ap, dVar_ap, oVar_ap, oD_ap, aNil_ap, aCons_ap, vNil_ap, vCons_ap, dBin_ap, dTst_ap, dUn_ap, dCal_ap, dSeq_ap, dNever_ap, dIf_ap, dRet_ap, dRetF_ap, dRetN_ap, dRetV_ap, dExpr_ap, dSet_ap, dSetF_ap, gsNil_ap, gsCons_ap, gTp_ap, dAsg_ap, sLst_ap, sTup_ap, sRng1_ap, sRng2_ap, dForS_ap, dTru_ap, dAnd_ap, dOr_ap, dNot_ap, dAndV_ap, dOrV_ap, dNotV_ap, dIte_ap, dChain_ap, dTup_ap, dLst_ap, dApp_ap, dSetI_ap, rNil_ap, rVal_ap, rIo_ap, dCal2_ap, dV_ap, dN_ap, tYesB_ap, dLc_ap, dIsi_ap, dPar_ap, dDic0_ap, dPar3_ap, DF.R.bind_ok, DF.R.bindS_ok, DF.R.bindN_ok, DF.SR.bind_nx, DF.SR.bind_ret, ofO, ths, setV, setF, free, set2, set3, fnRes, startE, startC, outs, argsD, putD, ioIx, isMu, look, muL, ltD_ap, leD_ap, gtD_ap, geD_ap, addD_ap, subD_ap, negD_ap, absD_ap, intD_ap, intD_apB, eq_int, ne_int, ixD, L2.atI, L2.ixN, lenD, gcdD, max2D, min2D, p14, e1, e2, e3, m1, e4]
/-! ### what is judged -/
theorem kt (a b : String) (r : Bool) (h : L2.kitB a b = some r) : L2.kitB a b = some r := h
theorem k_ii : L2.kitB "int" "int" = some true := rfl
theorem k_bi : L2.kitB "bool" "int" = some true := rfl
theorem k_ib : L2.kitB "int" "bool" = some false := rfl
theorem k_bb : L2.kitB "bool" "bool" = some true := rfl
theorem k_it : L2.kitB "int" "tuple" = some false := rfl
theorem k_tt : L2.kitB "tuple" "tuple" = some true := rfl
theorem k_lt : L2.kitB "list" "tuple" = some false := rfl
theorem e_long (i : Int) : F_is_long_integer [(false, .int i)] = .ret false (.bl true) [] := by
  unfold F_is_long_integer B_is_long_integer
  simp [dC_ap, dVar_ap, oVar_ap, oD_ap, aNil_ap, aCons_ap, vNil_ap, vCons_ap, dBin_ap, dTst_ap, dUn_ap, dCal_ap, dSeq_ap, dNever_ap, dIf_ap, dRet_ap, dRetF_ap, dRetN_ap, dRetV_ap, dExpr_ap, dSet_ap, dSetF_ap, gsNil_ap, gsCons_ap, gTp_ap, dAsg_ap, sLst_ap, sTup_ap, sRng1_ap, sRng2_ap, dForS_ap, dTru_ap, dAnd_ap, dOr_ap, dNot_ap, dAndV_ap, dOrV_ap, dNotV_ap, dIte_ap, dChain_ap, dTup_ap, dLst_ap, dApp_ap, dSetI_ap, rNil_ap, rVal_ap, rIo_ap, dCal2_ap, dV_ap, dN_ap, tYesB_ap, dLc_ap, dIsi_ap, dPar_ap, dDic0_ap, dPar3_ap, DF.R.bind_ok, DF.R.bindS_ok, DF.R.bindN_ok, DF.SR.bind_nx, DF.SR.bind_ret, ofO, ths, setV, setF, free, set2, set3, fnRes, startE, startC, outs, argsD, putD, ioIx, isMu, look, muL, ltD_ap, leD_ap, gtD_ap, geD_ap, addD_ap, subD_ap, negD_ap, absD_ap, intD_ap, intD_apB, eq_int, ne_int, ixD, L2.atI, L2.ixN, lenD, gcdD, max2D, min2D, isiD, tyN, k_ii, k_ib]
theorem e_isint (i : Int) : F_is_integer [(false, .int i)] = .ret false (.bl (decide (i.natAbs ≤ 999999999999999999999999999999999999999999999999999999999999))) [] := by
  unfold F_is_integer B_is_integer
  simp [dC_ap, dVar_ap, oVar_ap, oD_ap, aNil_ap, aCons_ap, vNil_ap, vCons_ap, dBin_ap, dTst_ap, dUn_ap, dCal_ap, dSeq_ap, dNever_ap, dIf_ap, dRet_ap, dRetF_ap, dRetN_ap, dRetV_ap, dExpr_ap, dSet_ap, dSetF_ap, gsNil_ap, gsCons_ap, gTp_ap, dAsg_ap, sLst_ap, sTup_ap, sRng1_ap, sRng2_ap, dForS_ap, dTru_ap, dAnd_ap, dOr_ap, dNot_ap, dAndV_ap, dOrV_ap, dNotV_ap, dIte_ap, dChain_ap, dTup_ap, dLst_ap, dApp_ap, dSetI_ap, rNil_ap, rVal_ap, rIo_ap, dCal2_ap, dV_ap, dN_ap, tYesB_ap, dLc_ap, dIsi_ap, dPar_ap, dDic0_ap, dPar3_ap, DF.R.bind_ok, DF.R.bindS_ok, DF.R.bindN_ok, DF.SR.bind_nx, DF.SR.bind_ret, ofO, ths, setV, setF, free, set2, set3, fnRes, startE, startC, outs, argsD, putD, ioIx, isMu, look, muL, ltD_ap, leD_ap, gtD_ap, geD_ap, addD_ap, subD_ap, negD_ap, absD_ap, intD_ap, intD_apB, eq_int, ne_int, ixD, L2.atI, L2.ixN, lenD, gcdD, max2D, min2D, e_long]
  omega
theorem e_between (i l m : Int) (hi : i.natAbs ≤ 999999999999999999999999999999999999999999999999999999999999) (h1 : l ≤ i) (h2 : i ≤ m) : F_is_between [(false, .int i), (false, .int l), (false, .int m)] = .ret false (.bl true) [] := by
  unfold F_is_between B_is_between
  simp [dC_ap, dVar_ap, oVar_ap, oD_ap, aNil_ap, aCons_ap, vNil_ap, vCons_ap, dBin_ap, dTst_ap, dUn_ap, dCal_ap, dSeq_ap, dNever_ap, dIf_ap, dRet_ap, dRetF_ap, dRetN_ap, dRetV_ap, dExpr_ap, dSet_ap, dSetF_ap, gsNil_ap, gsCons_ap, gTp_ap, dAsg_ap, sLst_ap, sTup_ap, sRng1_ap, sRng2_ap, dForS_ap, dTru_ap, dAnd_ap, dOr_ap, dNot_ap, dAndV_ap, dOrV_ap, dNotV_ap, dIte_ap, dChain_ap, dTup_ap, dLst_ap, dApp_ap, dSetI_ap, rNil_ap, rVal_ap, rIo_ap, dCal2_ap, dV_ap, dN_ap, tYesB_ap, dLc_ap, dIsi_ap, dPar_ap, dDic0_ap, dPar3_ap, DF.R.bind_ok, DF.R.bindS_ok, DF.R.bindN_ok, DF.SR.bind_nx, DF.SR.bind_ret, ofO, ths, setV, setF, free, set2, set3, fnRes, startE, startC, outs, argsD, putD, ioIx, isMu, look, muL, ltD_ap, leD_ap, gtD_ap, geD_ap, addD_ap, subD_ap, negD_ap, absD_ap, intD_ap, intD_apB, eq_int, ne_int, ixD, L2.atI, L2.ixN, lenD, gcdD, max2D, min2D, e_isint, hi, h1, h2]
theorem e_checknum (i l m : Int) (hi : i.natAbs ≤ 999999999999999999999999999999999999999999999999999999999999) (h1 : l ≤ i) (h2 : i ≤ m) : F_check_number [(false, .int i), (false, .int l), (false, .int m)] = .ret false .non [] := by
  unfold F_check_number B_check_number
  simp [dC_ap, dVar_ap, oVar_ap, oD_ap, aNil_ap, aCons_ap, vNil_ap, vCons_ap, dBin_ap, dTst_ap, dUn_ap, dCal_ap, dSeq_ap, dNever_ap, dIf_ap, dRet_ap, dRetF_ap, dRetN_ap, dRetV_ap, dExpr_ap, dSet_ap, dSetF_ap, gsNil_ap, gsCons_ap, gTp_ap, dAsg_ap, sLst_ap, sTup_ap, sRng1_ap, sRng2_ap, dForS_ap, dTru_ap, dAnd_ap, dOr_ap, dNot_ap, dAndV_ap, dOrV_ap, dNotV_ap, dIte_ap, dChain_ap, dTup_ap, dLst_ap, dApp_ap, dSetI_ap, rNil_ap, rVal_ap, rIo_ap, dCal2_ap, dV_ap, dN_ap, tYesB_ap, dLc_ap, dIsi_ap, dPar_ap, dDic0_ap, dPar3_ap, DF.R.bind_ok, DF.R.bindS_ok, DF.R.bindN_ok, DF.SR.bind_nx, DF.SR.bind_ret, ofO, ths, setV, setF, free, set2, set3, fnRes, startE, startC, outs, argsD, putD, ioIx, isMu, look, muL, ltD_ap, leD_ap, gtD_ap, geD_ap, addD_ap, subD_ap, negD_ap, absD_ap, intD_ap, intD_apB, eq_int, ne_int, ixD, L2.atI, L2.ixN, lenD, gcdD, max2D, min2D, e_between i l m hi h1 h2]
theorem e_plowest (t b : Int) (hb : b ≠ 0) (h1 : t.natAbs ≤ 999999999999999999999999999999999999999999999999999999999999) (h2 : b.natAbs ≤ 999999999999999999999999999999999999999999999999999999999999) : F_lowest [(false, .int t), (false, .int b)] = .ret false (.tup [.int (lo1 t b), .int (lo2 t b)]) [] := by
  have e1 := e_checknum t (-999999999999999999999999999999999999999999999999999999999999) 999999999999999999999999999999999999999999999999999999999999 h1 (by omega) (by omega)
  have e2 := e_checknum b (-999999999999999999999999999999999999999999999999999999999999) 999999999999999999999999999999999999999999999999999999999999 h2 (by omega) (by omega)
  have e3 := e_reduced t b hb (sm_of (by omega))
  unfold F_lowest B_lowest
  simp [dC_ap, dVar_ap, oVar_ap, oD_ap, aNil_ap, aCons_ap, vNil_ap, vCons_ap, dBin_ap, dTst_ap, dUn_ap, dCal_ap, dSeq_ap, dNever_ap, dIf_ap, dRet_ap, dRetF_ap, dRetN_ap, dRetV_ap, dExpr_ap, dSet_ap, dSetF_ap, gsNil_ap, gsCons_ap, gTp_ap, dAsg_ap, sLst_ap, sTup_ap, sRng1_ap, sRng2_ap, dForS_ap, dTru_ap, dAnd_ap, dOr_ap, dNot_ap, dAndV_ap, dOrV_ap, dNotV_ap, dIte_ap, dChain_ap, dTup_ap, dLst_ap, dApp_ap, dSetI_ap, rNil_ap, rVal_ap, rIo_ap, dCal2_ap, dV_ap, dN_ap, tYesB_ap, dLc_ap, dIsi_ap, dPar_ap, dDic0_ap, dPar3_ap, DF.R.bind_ok, DF.R.bindS_ok, DF.R.bindN_ok, DF.SR.bind_nx, DF.SR.bind_ret, ofO, ths, setV, setF, free, set2, set3, fnRes, startE, startC, outs, argsD, putD, ioIx, isMu, look, muL, ltD_ap, leD_ap, gtD_ap, geD_ap, addD_ap, subD_ap, negD_ap, absD_ap, intD_ap, intD_apB, eq_int, ne_int, ixD, L2.atI, L2.ixN, lenD, gcdD, max2D, min2D, e1, e2, e3, hb]
theorem e_pair (a b : Int) : F_is_long_pair [(false, .tup [.int a, .int b])] = .ret false (.bl true) [] := by
  unfold F_is_long_pair B_is_long_pair
  simp [dC_ap, dVar_ap, oVar_ap, oD_ap, aNil_ap, aCons_ap, vNil_ap, vCons_ap, dBin_ap, dTst_ap, dUn_ap, dCal_ap, dSeq_ap, dNever_ap, dIf_ap, dRet_ap, dRetF_ap, dRetN_ap, dRetV_ap, dExpr_ap, dSet_ap, dSetF_ap, gsNil_ap, gsCons_ap, gTp_ap, dAsg_ap, sLst_ap, sTup_ap, sRng1_ap, sRng2_ap, dForS_ap, dTru_ap, dAnd_ap, dOr_ap, dNot_ap, dAndV_ap, dOrV_ap, dNotV_ap, dIte_ap, dChain_ap, dTup_ap, dLst_ap, dApp_ap, dSetI_ap, rNil_ap, rVal_ap, rIo_ap, dCal2_ap, dV_ap, dN_ap, tYesB_ap, dLc_ap, dIsi_ap, dPar_ap, dDic0_ap, dPar3_ap, DF.R.bind_ok, DF.R.bindS_ok, DF.R.bindN_ok, DF.SR.bind_nx, DF.SR.bind_ret, ofO, ths, setV, setF, free, set2, set3, fnRes, startE, startC, outs, argsD, putD, ioIx, isMu, look, muL, ltD_ap, leD_ap, gtD_ap, geD_ap, addD_ap, subD_ap, negD_ap, absD_ap, intD_ap, intD_apB, eq_int, ne_int, ixD, L2.atI, L2.ixN, lenD, gcdD, max2D, min2D, isiD, tyN, k_tt, e_long]
theorem e_longratio (a b : Int) : F_is_long_ratio [(false, .tup [.int a, .int b])] = .ret false (.bl (decide (0 < b) && decide (gc a b = 1))) [] := by
  unfold F_is_long_ratio B_is_long_ratio
  by_cases hb : 0 < b
  · by_cases hg : a.natAbs.gcd b.natAbs = 1
    · simp [dC_ap, dVar_ap, oVar_ap, oD_ap, aNil_ap, aCons_ap, vNil_ap, vCons_ap, dBin_ap, dTst_ap, dUn_ap, dCal_ap, dSeq_ap, dNever_ap, dIf_ap, dRet_ap, dRetF_ap, dRetN_ap, dRetV_ap, dExpr_ap, dSet_ap, dSetF_ap, gsNil_ap, gsCons_ap, gTp_ap, dAsg_ap, sLst_ap, sTup_ap, sRng1_ap, sRng2_ap, dForS_ap, dTru_ap, dAnd_ap, dOr_ap, dNot_ap, dAndV_ap, dOrV_ap, dNotV_ap, dIte_ap, dChain_ap, dTup_ap, dLst_ap, dApp_ap, dSetI_ap, rNil_ap, rVal_ap, rIo_ap, dCal2_ap, dV_ap, dN_ap, tYesB_ap, dLc_ap, dIsi_ap, dPar_ap, dDic0_ap, dPar3_ap, DF.R.bind_ok, DF.R.bindS_ok, DF.R.bindN_ok, DF.SR.bind_nx, DF.SR.bind_ret, ofO, ths, setV, setF, free, set2, set3, fnRes, startE, startC, outs, argsD, putD, ioIx, isMu, look, muL, ltD_ap, leD_ap, gtD_ap, geD_ap, addD_ap, subD_ap, negD_ap, absD_ap, intD_ap, intD_apB, eq_int, ne_int, ixD, L2.atI, L2.ixN, lenD, gcdD, max2D, min2D, e_pair, hb, gc, hg]
    · have hg' : ¬ ((a.natAbs.gcd b.natAbs : Nat) : Int) = 1 := by omega
      simp [dC_ap, dVar_ap, oVar_ap, oD_ap, aNil_ap, aCons_ap, vNil_ap, vCons_ap, dBin_ap, dTst_ap, dUn_ap, dCal_ap, dSeq_ap, dNever_ap, dIf_ap, dRet_ap, dRetF_ap, dRetN_ap, dRetV_ap, dExpr_ap, dSet_ap, dSetF_ap, gsNil_ap, gsCons_ap, gTp_ap, dAsg_ap, sLst_ap, sTup_ap, sRng1_ap, sRng2_ap, dForS_ap, dTru_ap, dAnd_ap, dOr_ap, dNot_ap, dAndV_ap, dOrV_ap, dNotV_ap, dIte_ap, dChain_ap, dTup_ap, dLst_ap, dApp_ap, dSetI_ap, rNil_ap, rVal_ap, rIo_ap, dCal2_ap, dV_ap, dN_ap, tYesB_ap, dLc_ap, dIsi_ap, dPar_ap, dDic0_ap, dPar3_ap, DF.R.bind_ok, DF.R.bindS_ok, DF.R.bindN_ok, DF.SR.bind_nx, DF.SR.bind_ret, ofO, ths, setV, setF, free, set2, set3, fnRes, startE, startC, outs, argsD, putD, ioIx, isMu, look, muL, ltD_ap, leD_ap, gtD_ap, geD_ap, addD_ap, subD_ap, negD_ap, absD_ap, intD_ap, intD_apB, eq_int, ne_int, ixD, L2.atI, L2.ixN, lenD, gcdD, max2D, min2D, e_pair, hb, gc, hg, hg']
  · simp [dC_ap, dVar_ap, oVar_ap, oD_ap, aNil_ap, aCons_ap, vNil_ap, vCons_ap, dBin_ap, dTst_ap, dUn_ap, dCal_ap, dSeq_ap, dNever_ap, dIf_ap, dRet_ap, dRetF_ap, dRetN_ap, dRetV_ap, dExpr_ap, dSet_ap, dSetF_ap, gsNil_ap, gsCons_ap, gTp_ap, dAsg_ap, sLst_ap, sTup_ap, sRng1_ap, sRng2_ap, dForS_ap, dTru_ap, dAnd_ap, dOr_ap, dNot_ap, dAndV_ap, dOrV_ap, dNotV_ap, dIte_ap, dChain_ap, dTup_ap, dLst_ap, dApp_ap, dSetI_ap, rNil_ap, rVal_ap, rIo_ap, dCal2_ap, dV_ap, dN_ap, tYesB_ap, dLc_ap, dIsi_ap, dPar_ap, dDic0_ap, dPar3_ap, DF.R.bind_ok, DF.R.bindS_ok, DF.R.bindN_ok, DF.SR.bind_nx, DF.SR.bind_ret, ofO, ths, setV, setF, free, set2, set3, fnRes, startE, startC, outs, argsD, putD, ioIx, isMu, look, muL, ltD_ap, leD_ap, gtD_ap, geD_ap, addD_ap, subD_ap, negD_ap, absD_ap, intD_ap, intD_apB, eq_int, ne_int, ixD, L2.atI, L2.ixN, lenD, gcdD, max2D, min2D, e_pair, hb, gc]
theorem e_isratio (a b : Int) : F_is_ratio [(false, .tup [.int a, .int b])] = .ret false (.bl (decide (0 < b) && decide (gc a b = 1) && decide (a.natAbs ≤ 999999999999999999999999999999999999999999999999999999999999) && decide (b.natAbs ≤ 999999999999999999999999999999999999999999999999999999999999))) [] := by
  unfold F_is_ratio B_is_ratio
  by_cases hb : 0 < b <;> by_cases hg : gc a b = 1 <;> by_cases ha : a.natAbs ≤ 999999999999999999999999999999999999999999999999999999999999 <;> simp [dC_ap, dVar_ap, oVar_ap, oD_ap, aNil_ap, aCons_ap, vNil_ap, vCons_ap, dBin_ap, dTst_ap, dUn_ap, dCal_ap, dSeq_ap, dNever_ap, dIf_ap, dRet_ap, dRetF_ap, dRetN_ap, dRetV_ap, dExpr_ap, dSet_ap, dSetF_ap, gsNil_ap, gsCons_ap, gTp_ap, dAsg_ap, sLst_ap, sTup_ap, sRng1_ap, sRng2_ap, dForS_ap, dTru_ap, dAnd_ap, dOr_ap, dNot_ap, dAndV_ap, dOrV_ap, dNotV_ap, dIte_ap, dChain_ap, dTup_ap, dLst_ap, dApp_ap, dSetI_ap, rNil_ap, rVal_ap, rIo_ap, dCal2_ap, dV_ap, dN_ap, tYesB_ap, dLc_ap, dIsi_ap, dPar_ap, dDic0_ap, dPar3_ap, DF.R.bind_ok, DF.R.bindS_ok, DF.R.bindN_ok, DF.SR.bind_nx, DF.SR.bind_ret, ofO, ths, setV, setF, free, set2, set3, fnRes, startE, startC, outs, argsD, putD, ioIx, isMu, look, muL, ltD_ap, leD_ap, gtD_ap, geD_ap, addD_ap, subD_ap, negD_ap, absD_ap, intD_ap, intD_apB, eq_int, ne_int, ixD, L2.atI, L2.ixN, lenD, gcdD, max2D, min2D, e_longratio, e_isint, hb, hg, ha]
structure Rt (a b : Int) : Prop where
  g : Good a b
  a : a.natAbs ≤ 999999999999999999999999999999999999999999999999999999999999
  b : b.natAbs ≤ 999999999999999999999999999999999999999999999999999999999999
theorem e_check {a b : Int} (h : Rt a b) : F_check_ratio [(false, .tup [.int a, .int b])] = .ret false .non [] := by
  unfold F_check_ratio B_check_ratio
  simp [dC_ap, dVar_ap, oVar_ap, oD_ap, aNil_ap, aCons_ap, vNil_ap, vCons_ap, dBin_ap, dTst_ap, dUn_ap, dCal_ap, dSeq_ap, dNever_ap, dIf_ap, dRet_ap, dRetF_ap, dRetN_ap, dRetV_ap, dExpr_ap, dSet_ap, dSetF_ap, gsNil_ap, gsCons_ap, gTp_ap, dAsg_ap, sLst_ap, sTup_ap, sRng1_ap, sRng2_ap, dForS_ap, dTru_ap, dAnd_ap, dOr_ap, dNot_ap, dAndV_ap, dOrV_ap, dNotV_ap, dIte_ap, dChain_ap, dTup_ap, dLst_ap, dApp_ap, dSetI_ap, rNil_ap, rVal_ap, rIo_ap, dCal2_ap, dV_ap, dN_ap, tYesB_ap, dLc_ap, dIsi_ap, dPar_ap, dDic0_ap, dPar3_ap, DF.R.bind_ok, DF.R.bindS_ok, DF.R.bindN_ok, DF.SR.bind_nx, DF.SR.bind_ret, ofO, ths, setV, setF, free, set2, set3, fnRes, startE, startC, outs, argsD, putD, ioIx, isMu, look, muL, ltD_ap, leD_ap, gtD_ap, geD_ap, addD_ap, subD_ap, negD_ap, absD_ap, intD_ap, intD_apB, eq_int, ne_int, ixD, L2.atI, L2.ixN, lenD, gcdD, max2D, min2D, e_isratio, h.g.1, h.g.2, h.a, h.b]
theorem e_checks {a b c d : Int} (h : Rt a b) (h' : Rt c d) : F_check_ratios [(false, .tup [.int a, .int b]), (false, .tup [.int c, .int d])] = .ret false .non [] := by
  unfold F_check_ratios B_check_ratios
  simp [dC_ap, dVar_ap, oVar_ap, oD_ap, aNil_ap, aCons_ap, vNil_ap, vCons_ap, dBin_ap, dTst_ap, dUn_ap, dCal_ap, dSeq_ap, dNever_ap, dIf_ap, dRet_ap, dRetF_ap, dRetN_ap, dRetV_ap, dExpr_ap, dSet_ap, dSetF_ap, gsNil_ap, gsCons_ap, gTp_ap, dAsg_ap, sLst_ap, sTup_ap, sRng1_ap, sRng2_ap, dForS_ap, dTru_ap, dAnd_ap, dOr_ap, dNot_ap, dAndV_ap, dOrV_ap, dNotV_ap, dIte_ap, dChain_ap, dTup_ap, dLst_ap, dApp_ap, dSetI_ap, rNil_ap, rVal_ap, rIo_ap, dCal2_ap, dV_ap, dN_ap, tYesB_ap, dLc_ap, dIsi_ap, dPar_ap, dDic0_ap, dPar3_ap, DF.R.bind_ok, DF.R.bindS_ok, DF.R.bindN_ok, DF.SR.bind_nx, DF.SR.bind_ret, ofO, ths, setV, setF, free, set2, set3, fnRes, startE, startC, outs, argsD, putD, ioIx, isMu, look, muL, ltD_ap, leD_ap, gtD_ap, geD_ap, addD_ap, subD_ap, negD_ap, absD_ap, intD_ap, intD_apB, eq_int, ne_int, ixD, L2.atI, L2.ixN, lenD, gcdD, max2D, min2D, e_check h, e_check h']
theorem Rt.sa {a b : Int} (h : Rt a b) : Sm a := sm_of (by have := h.a; omega)
theorem Rt.sb {a b : Int} (h : Rt a b) : Sm b := sm_of (by have := h.b; omega)
theorem Rt.b0 {a b : Int} (h : Rt a b) : b ≠ 0 := by have := h.g.1; omega
theorem abs_mul_le {x y : Int} {m k : Nat} (h1 : x.natAbs ≤ m) (h2 : y.natAbs ≤ k) : (x * y).natAbs ≤ m * k := by
  rw [Int.natAbs_mul]
  exact Nat.mul_le_mul h1 h2
theorem sm_mul {x y : Int} (h1 : x.natAbs ≤ 10 ^ 60) (h2 : y.natAbs ≤ 10 ^ 60) : Sm (x * y) := sm_of (Nat.le_trans (abs_mul_le h1 h2) (by decide))
theorem e_plus {a b c d : Int} (h : Rt a b) (h' : Rt c d) : F_plus [(false, .tup [.int a, .int b]), (false, .tup [.int c, .int d])] = .ret false (.tup [.int (lo1 (a * d + c * b) (b * d)), .int (lo2 (a * d + c * b) (b * d))]) [] := by
  have m1 := mulD_ap (cm h.sa h'.sb)
  have m2 := mulD_ap (cm h'.sa h.sb)
  have m3 := mulD_ap (cm h.sb h'.sb)
  have e3 := e_reduced (a * d + c * b) (b * d) (Int.mul_ne_zero h.b0 h'.b0) (sm_mul (by have := h.b; omega) (by have := h'.b; omega))
  unfold F_plus B_plus
  simp [dC_ap, dVar_ap, oVar_ap, oD_ap, aNil_ap, aCons_ap, vNil_ap, vCons_ap, dBin_ap, dTst_ap, dUn_ap, dCal_ap, dSeq_ap, dNever_ap, dIf_ap, dRet_ap, dRetF_ap, dRetN_ap, dRetV_ap, dExpr_ap, dSet_ap, dSetF_ap, gsNil_ap, gsCons_ap, gTp_ap, dAsg_ap, sLst_ap, sTup_ap, sRng1_ap, sRng2_ap, dForS_ap, dTru_ap, dAnd_ap, dOr_ap, dNot_ap, dAndV_ap, dOrV_ap, dNotV_ap, dIte_ap, dChain_ap, dTup_ap, dLst_ap, dApp_ap, dSetI_ap, rNil_ap, rVal_ap, rIo_ap, dCal2_ap, dV_ap, dN_ap, tYesB_ap, dLc_ap, dIsi_ap, dPar_ap, dDic0_ap, dPar3_ap, DF.R.bind_ok, DF.R.bindS_ok, DF.R.bindN_ok, DF.SR.bind_nx, DF.SR.bind_ret, ofO, ths, setV, setF, free, set2, set3, fnRes, startE, startC, outs, argsD, putD, ioIx, isMu, look, muL, ltD_ap, leD_ap, gtD_ap, geD_ap, addD_ap, subD_ap, negD_ap, absD_ap, intD_ap, intD_apB, eq_int, ne_int, ixD, L2.atI, L2.ixN, lenD, gcdD, max2D, min2D, e_checks h h', m1, m2, m3, e3]
theorem e_minus {a b c d : Int} (h : Rt a b) (h' : Rt c d) : F_minus [(false, .tup [.int a, .int b]), (false, .tup [.int c, .int d])] = .ret false (.tup [.int (lo1 (a * d - c * b) (b * d)), .int (lo2 (a * d - c * b) (b * d))]) [] := by
  have m1 := mulD_ap (cm h.sa h'.sb)
  have m2 := mulD_ap (cm h'.sa h.sb)
  have m3 := mulD_ap (cm h.sb h'.sb)
  have e3 := e_reduced (a * d - c * b) (b * d) (Int.mul_ne_zero h.b0 h'.b0) (sm_mul (by have := h.b; omega) (by have := h'.b; omega))
  unfold F_minus B_minus
  simp [dC_ap, dVar_ap, oVar_ap, oD_ap, aNil_ap, aCons_ap, vNil_ap, vCons_ap, dBin_ap, dTst_ap, dUn_ap, dCal_ap, dSeq_ap, dNever_ap, dIf_ap, dRet_ap, dRetF_ap, dRetN_ap, dRetV_ap, dExpr_ap, dSet_ap, dSetF_ap, gsNil_ap, gsCons_ap, gTp_ap, dAsg_ap, sLst_ap, sTup_ap, sRng1_ap, sRng2_ap, dForS_ap, dTru_ap, dAnd_ap, dOr_ap, dNot_ap, dAndV_ap, dOrV_ap, dNotV_ap, dIte_ap, dChain_ap, dTup_ap, dLst_ap, dApp_ap, dSetI_ap, rNil_ap, rVal_ap, rIo_ap, dCal2_ap, dV_ap, dN_ap, tYesB_ap, dLc_ap, dIsi_ap, dPar_ap, dDic0_ap, dPar3_ap, DF.R.bind_ok, DF.R.bindS_ok, DF.R.bindN_ok, DF.SR.bind_nx, DF.SR.bind_ret, ofO, ths, setV, setF, free, set2, set3, fnRes, startE, startC, outs, argsD, putD, ioIx, isMu, look, muL, ltD_ap, leD_ap, gtD_ap, geD_ap, addD_ap, subD_ap, negD_ap, absD_ap, intD_ap, intD_apB, eq_int, ne_int, ixD, L2.atI, L2.ixN, lenD, gcdD, max2D, min2D, e_checks h h', m1, m2, m3, e3]
theorem e_times {a b c d : Int} (h : Rt a b) (h' : Rt c d) : F_times [(false, .tup [.int a, .int b]), (false, .tup [.int c, .int d])] = .ret false (.tup [.int (lo1 (a * c) (b * d)), .int (lo2 (a * c) (b * d))]) [] := by
  have m1 := mulD_ap (cm h.sa h'.sa)
  have m3 := mulD_ap (cm h.sb h'.sb)
  have e3 := e_reduced (a * c) (b * d) (Int.mul_ne_zero h.b0 h'.b0) (sm_mul (by have := h.b; omega) (by have := h'.b; omega))
  unfold F_times B_times
  simp [dC_ap, dVar_ap, oVar_ap, oD_ap, aNil_ap, aCons_ap, vNil_ap, vCons_ap, dBin_ap, dTst_ap, dUn_ap, dCal_ap, dSeq_ap, dNever_ap, dIf_ap, dRet_ap, dRetF_ap, dRetN_ap, dRetV_ap, dExpr_ap, dSet_ap, dSetF_ap, gsNil_ap, gsCons_ap, gTp_ap, dAsg_ap, sLst_ap, sTup_ap, sRng1_ap, sRng2_ap, dForS_ap, dTru_ap, dAnd_ap, dOr_ap, dNot_ap, dAndV_ap, dOrV_ap, dNotV_ap, dIte_ap, dChain_ap, dTup_ap, dLst_ap, dApp_ap, dSetI_ap, rNil_ap, rVal_ap, rIo_ap, dCal2_ap, dV_ap, dN_ap, tYesB_ap, dLc_ap, dIsi_ap, dPar_ap, dDic0_ap, dPar3_ap, DF.R.bind_ok, DF.R.bindS_ok, DF.R.bindN_ok, DF.SR.bind_nx, DF.SR.bind_ret, ofO, ths, setV, setF, free, set2, set3, fnRes, startE, startC, outs, argsD, putD, ioIx, isMu, look, muL, ltD_ap, leD_ap, gtD_ap, geD_ap, addD_ap, subD_ap, negD_ap, absD_ap, intD_ap, intD_apB, eq_int, ne_int, ixD, L2.atI, L2.ixN, lenD, gcdD, max2D, min2D, e_checks h h', m1, m3, e3]
theorem e_over {a b c d : Int} (h : Rt a b) (h' : Rt c d) (hc : c ≠ 0) : F_over [(false, .tup [.int a, .int b]), (false, .tup [.int c, .int d])] = .ret false (.tup [.int (lo1 (a * d) (b * c)), .int (lo2 (a * d) (b * c))]) [] := by
  have m1 := mulD_ap (cm h.sa h'.sb)
  have m3 := mulD_ap (cm h.sb h'.sa)
  have e3 := e_reduced (a * d) (b * c) (Int.mul_ne_zero h.b0 hc) (sm_mul (by have := h.b; omega) (by have := h'.a; omega))
  unfold F_over B_over
  simp [dC_ap, dVar_ap, oVar_ap, oD_ap, aNil_ap, aCons_ap, vNil_ap, vCons_ap, dBin_ap, dTst_ap, dUn_ap, dCal_ap, dSeq_ap, dNever_ap, dIf_ap, dRet_ap, dRetF_ap, dRetN_ap, dRetV_ap, dExpr_ap, dSet_ap, dSetF_ap, gsNil_ap, gsCons_ap, gTp_ap, dAsg_ap, sLst_ap, sTup_ap, sRng1_ap, sRng2_ap, dForS_ap, dTru_ap, dAnd_ap, dOr_ap, dNot_ap, dAndV_ap, dOrV_ap, dNotV_ap, dIte_ap, dChain_ap, dTup_ap, dLst_ap, dApp_ap, dSetI_ap, rNil_ap, rVal_ap, rIo_ap, dCal2_ap, dV_ap, dN_ap, tYesB_ap, dLc_ap, dIsi_ap, dPar_ap, dDic0_ap, dPar3_ap, DF.R.bind_ok, DF.R.bindS_ok, DF.R.bindN_ok, DF.SR.bind_nx, DF.SR.bind_ret, ofO, ths, setV, setF, free, set2, set3, fnRes, startE, startC, outs, argsD, putD, ioIx, isMu, look, muL, ltD_ap, leD_ap, gtD_ap, geD_ap, addD_ap, subD_ap, negD_ap, absD_ap, intD_ap, intD_apB, eq_int, ne_int, ixD, L2.atI, L2.ixN, lenD, gcdD, max2D, min2D, e_checks h h', m1, m3, e3, hc]
def cmp (x y : Int) : Int := if x = y then 0 else if x < y then -1 else 1
theorem e_compare {a b c d : Int} (h : Rt a b) (h' : Rt c d) : F_compare [(false, .tup [.int a, .int b]), (false, .tup [.int c, .int d])] = .ret false (.int (cmp (a * d) (c * b))) [] := by
  have m1 := mulD_ap (cm h.sa h'.sb)
  have m2 := mulD_ap (cm h'.sa h.sb)
  unfold F_compare B_compare cmp
  by_cases h1 : a * d = c * b
  · simp [dC_ap, dVar_ap, oVar_ap, oD_ap, aNil_ap, aCons_ap, vNil_ap, vCons_ap, dBin_ap, dTst_ap, dUn_ap, dCal_ap, dSeq_ap, dNever_ap, dIf_ap, dRet_ap, dRetF_ap, dRetN_ap, dRetV_ap, dExpr_ap, dSet_ap, dSetF_ap, gsNil_ap, gsCons_ap, gTp_ap, dAsg_ap, sLst_ap, sTup_ap, sRng1_ap, sRng2_ap, dForS_ap, dTru_ap, dAnd_ap, dOr_ap, dNot_ap, dAndV_ap, dOrV_ap, dNotV_ap, dIte_ap, dChain_ap, dTup_ap, dLst_ap, dApp_ap, dSetI_ap, rNil_ap, rVal_ap, rIo_ap, dCal2_ap, dV_ap, dN_ap, tYesB_ap, dLc_ap, dIsi_ap, dPar_ap, dDic0_ap, dPar3_ap, DF.R.bind_ok, DF.R.bindS_ok, DF.R.bindN_ok, DF.SR.bind_nx, DF.SR.bind_ret, ofO, ths, setV, setF, free, set2, set3, fnRes, startE, startC, outs, argsD, putD, ioIx, isMu, look, muL, ltD_ap, leD_ap, gtD_ap, geD_ap, addD_ap, subD_ap, negD_ap, absD_ap, intD_ap, intD_apB, eq_int, ne_int, ixD, L2.atI, L2.ixN, lenD, gcdD, max2D, min2D, e_checks h h', m1, m2, h1]
  · by_cases h2 : a * d < c * b <;> simp [dC_ap, dVar_ap, oVar_ap, oD_ap, aNil_ap, aCons_ap, vNil_ap, vCons_ap, dBin_ap, dTst_ap, dUn_ap, dCal_ap, dSeq_ap, dNever_ap, dIf_ap, dRet_ap, dRetF_ap, dRetN_ap, dRetV_ap, dExpr_ap, dSet_ap, dSetF_ap, gsNil_ap, gsCons_ap, gTp_ap, dAsg_ap, sLst_ap, sTup_ap, sRng1_ap, sRng2_ap, dForS_ap, dTru_ap, dAnd_ap, dOr_ap, dNot_ap, dAndV_ap, dOrV_ap, dNotV_ap, dIte_ap, dChain_ap, dTup_ap, dLst_ap, dApp_ap, dSetI_ap, rNil_ap, rVal_ap, rIo_ap, dCal2_ap, dV_ap, dN_ap, tYesB_ap, dLc_ap, dIsi_ap, dPar_ap, dDic0_ap, dPar3_ap, DF.R.bind_ok, DF.R.bindS_ok, DF.R.bindN_ok, DF.SR.bind_nx, DF.SR.bind_ret, ofO, ths, setV, setF, free, set2, set3, fnRes, startE, startC, outs, argsD, putD, ioIx, isMu, look, muL, ltD_ap, leD_ap, gtD_ap, geD_ap, addD_ap, subD_ap, negD_ap, absD_ap, intD_ap, intD_apB, eq_int, ne_int, ixD, L2.atI, L2.ixN, lenD, gcdD, max2D, min2D, e_checks h h', m1, m2, h1, h2]
theorem e_floor {a b : Int} (h : Rt a b) : F_floor_of [(false, .tup [.int a, .int b])] = .ret false (.int (a.fdiv b)) [] := by
  have m1 := divD_ap (cd (i := a) h.b0 h.sb)
  unfold F_floor_of B_floor_of
  simp [dC_ap, dVar_ap, oVar_ap, oD_ap, aNil_ap, aCons_ap, vNil_ap, vCons_ap, dBin_ap, dTst_ap, dUn_ap, dCal_ap, dSeq_ap, dNever_ap, dIf_ap, dRet_ap, dRetF_ap, dRetN_ap, dRetV_ap, dExpr_ap, dSet_ap, dSetF_ap, gsNil_ap, gsCons_ap, gTp_ap, dAsg_ap, sLst_ap, sTup_ap, sRng1_ap, sRng2_ap, dForS_ap, dTru_ap, dAnd_ap, dOr_ap, dNot_ap, dAndV_ap, dOrV_ap, dNotV_ap, dIte_ap, dChain_ap, dTup_ap, dLst_ap, dApp_ap, dSetI_ap, rNil_ap, rVal_ap, rIo_ap, dCal2_ap, dV_ap, dN_ap, tYesB_ap, dLc_ap, dIsi_ap, dPar_ap, dDic0_ap, dPar3_ap, DF.R.bind_ok, DF.R.bindS_ok, DF.R.bindN_ok, DF.SR.bind_nx, DF.SR.bind_ret, ofO, ths, setV, setF, free, set2, set3, fnRes, startE, startC, outs, argsD, putD, ioIx, isMu, look, muL, ltD_ap, leD_ap, gtD_ap, geD_ap, addD_ap, subD_ap, negD_ap, absD_ap, intD_ap, intD_apB, eq_int, ne_int, ixD, L2.atI, L2.ixN, lenD, gcdD, max2D, min2D, e_check h, m1]
theorem e_ceil {a b : Int} (h : Rt a b) : F_ceiling_of [(false, .tup [.int a, .int b])] = .ret false (.int (-((-a).fdiv b))) [] := by
  have m1 := divD_ap (cd (i := -a) h.b0 h.sb)
  have e1 : F_ceiling [(false, .int a), (false, .int b)] = .ret false (.int (-((-a).fdiv b))) [] := by
    unfold F_ceiling B_ceiling
    simp [dC_ap, dVar_ap, oVar_ap, oD_ap, aNil_ap, aCons_ap, vNil_ap, vCons_ap, dBin_ap, dTst_ap, dUn_ap, dCal_ap, dSeq_ap, dNever_ap, dIf_ap, dRet_ap, dRetF_ap, dRetN_ap, dRetV_ap, dExpr_ap, dSet_ap, dSetF_ap, gsNil_ap, gsCons_ap, gTp_ap, dAsg_ap, sLst_ap, sTup_ap, sRng1_ap, sRng2_ap, dForS_ap, dTru_ap, dAnd_ap, dOr_ap, dNot_ap, dAndV_ap, dOrV_ap, dNotV_ap, dIte_ap, dChain_ap, dTup_ap, dLst_ap, dApp_ap, dSetI_ap, rNil_ap, rVal_ap, rIo_ap, dCal2_ap, dV_ap, dN_ap, tYesB_ap, dLc_ap, dIsi_ap, dPar_ap, dDic0_ap, dPar3_ap, DF.R.bind_ok, DF.R.bindS_ok, DF.R.bindN_ok, DF.SR.bind_nx, DF.SR.bind_ret, ofO, ths, setV, setF, free, set2, set3, fnRes, startE, startC, outs, argsD, putD, ioIx, isMu, look, muL, ltD_ap, leD_ap, gtD_ap, geD_ap, addD_ap, subD_ap, negD_ap, absD_ap, intD_ap, intD_apB, eq_int, ne_int, ixD, L2.atI, L2.ixN, lenD, gcdD, max2D, min2D, m1]
  unfold F_ceiling_of B_ceiling_of
  simp [dC_ap, dVar_ap, oVar_ap, oD_ap, aNil_ap, aCons_ap, vNil_ap, vCons_ap, dBin_ap, dTst_ap, dUn_ap, dCal_ap, dSeq_ap, dNever_ap, dIf_ap, dRet_ap, dRetF_ap, dRetN_ap, dRetV_ap, dExpr_ap, dSet_ap, dSetF_ap, gsNil_ap, gsCons_ap, gTp_ap, dAsg_ap, sLst_ap, sTup_ap, sRng1_ap, sRng2_ap, dForS_ap, dTru_ap, dAnd_ap, dOr_ap, dNot_ap, dAndV_ap, dOrV_ap, dNotV_ap, dIte_ap, dChain_ap, dTup_ap, dLst_ap, dApp_ap, dSetI_ap, rNil_ap, rVal_ap, rIo_ap, dCal2_ap, dV_ap, dN_ap, tYesB_ap, dLc_ap, dIsi_ap, dPar_ap, dDic0_ap, dPar3_ap, DF.R.bind_ok, DF.R.bindS_ok, DF.R.bindN_ok, DF.SR.bind_nx, DF.SR.bind_ret, ofO, ths, setV, setF, free, set2, set3, fnRes, startE, startC, outs, argsD, putD, ioIx, isMu, look, muL, ltD_ap, leD_ap, gtD_ap, geD_ap, addD_ap, subD_ap, negD_ap, absD_ap, intD_ap, intD_apB, eq_int, ne_int, ixD, L2.atI, L2.ixN, lenD, gcdD, max2D, min2D, e_check h, e1]
theorem e_part {a b : Int} (h : Rt a b) : F_part_of [(false, .tup [.int a, .int b])] = .ret false (if 0 < a.fmod b then .tup [.int (a.fmod b), .int b] else .tup [.int 1, .int 1]) [] := by
  have m1 := modD_ap (i := a) h.b0
  unfold F_part_of B_part_of
  by_cases hp : 0 < a.fmod b <;> simp [dC_ap, dVar_ap, oVar_ap, oD_ap, aNil_ap, aCons_ap, vNil_ap, vCons_ap, dBin_ap, dTst_ap, dUn_ap, dCal_ap, dSeq_ap, dNever_ap, dIf_ap, dRet_ap, dRetF_ap, dRetN_ap, dRetV_ap, dExpr_ap, dSet_ap, dSetF_ap, gsNil_ap, gsCons_ap, gTp_ap, dAsg_ap, sLst_ap, sTup_ap, sRng1_ap, sRng2_ap, dForS_ap, dTru_ap, dAnd_ap, dOr_ap, dNot_ap, dAndV_ap, dOrV_ap, dNotV_ap, dIte_ap, dChain_ap, dTup_ap, dLst_ap, dApp_ap, dSetI_ap, rNil_ap, rVal_ap, rIo_ap, dCal2_ap, dV_ap, dN_ap, tYesB_ap, dLc_ap, dIsi_ap, dPar_ap, dDic0_ap, dPar3_ap, DF.R.bind_ok, DF.R.bindS_ok, DF.R.bindN_ok, DF.SR.bind_nx, DF.SR.bind_ret, ofO, ths, setV, setF, free, set2, set3, fnRes, startE, startC, outs, argsD, putD, ioIx, isMu, look, muL, ltD_ap, leD_ap, gtD_ap, geD_ap, addD_ap, subD_ap, negD_ap, absD_ap, intD_ap, intD_apB, eq_int, ne_int, ixD, L2.atI, L2.ixN, lenD, gcdD, max2D, min2D, e_check h, m1, hp]
end K02

namespace K02
open PySem DF KM
/-! ### both judge alike -/
structure Agree (v : D) : Prop where
  ex : ∃ b : Bool, F_is_ratio [(false, v)] = .ret false (.bl b) [] ∧ F_q_ra_is_ratio [(false, v)] = .ret false (.bl b) []
theorem e_short (i : Int) : F_q_ra_short [(false, .int i)] = .ret false (.bl (decide (i.natAbs ≤ 999999999999999999999999999999999999999999999999999999999999))) [] := by
  unfold F_q_ra_short B_q_ra_short
  simp [dC_ap, dVar_ap, oVar_ap, oD_ap, aNil_ap, aCons_ap, vNil_ap, vCons_ap, dBin_ap, dTst_ap, dUn_ap, dCal_ap, dSeq_ap, dNever_ap, dIf_ap, dRet_ap, dRetF_ap, dRetN_ap, dRetV_ap, dExpr_ap, dSet_ap, dSetF_ap, gsNil_ap, gsCons_ap, gTp_ap, dAsg_ap, sLst_ap, sTup_ap, sRng1_ap, sRng2_ap, dForS_ap, dTru_ap, dAnd_ap, dOr_ap, dNot_ap, dAndV_ap, dOrV_ap, dNotV_ap, dIte_ap, dChain_ap, dTup_ap, dLst_ap, dApp_ap, dSetI_ap, rNil_ap, rVal_ap, rIo_ap, dCal2_ap, dV_ap, dN_ap, tYesB_ap, dLc_ap, dIsi_ap, dPar_ap, dDic0_ap, dPar3_ap, DF.R.bind_ok, DF.R.bindS_ok, DF.R.bindN_ok, DF.SR.bind_nx, DF.SR.bind_ret, ofO, ths, setV, setF, free, set2, set3, fnRes, startE, startC, outs, argsD, putD, ioIx, isMu, look, muL, ltD_ap, leD_ap, gtD_ap, geD_ap, addD_ap, subD_ap, negD_ap, absD_ap, intD_ap, intD_apB, eq_int, ne_int, ixD, L2.atI, L2.ixN, lenD, gcdD, max2D, min2D, isiD, tyN, k_ii, k_ib, p60]
  omega
theorem e_lawratio (a b : Int) : F_q_ra_is_ratio [(false, .tup [.int a, .int b])] = .ret false (.bl (decide (a.natAbs ≤ 999999999999999999999999999999999999999999999999999999999999) && decide (b.natAbs ≤ 999999999999999999999999999999999999999999999999999999999999) && decide (0 < b) && decide (gc a b = 1))) [] := by
  unfold F_q_ra_is_ratio B_q_ra_is_ratio
  by_cases ha : a.natAbs ≤ 999999999999999999999999999999999999999999999999999999999999
  · by_cases hb : b.natAbs ≤ 999999999999999999999999999999999999999999999999999999999999
    · by_cases h0 : 0 < b
      · by_cases hg : gc a b = 1
        · simp [dC_ap, dVar_ap, oVar_ap, oD_ap, aNil_ap, aCons_ap, vNil_ap, vCons_ap, dBin_ap, dTst_ap, dUn_ap, dCal_ap, dSeq_ap, dNever_ap, dIf_ap, dRet_ap, dRetF_ap, dRetN_ap, dRetV_ap, dExpr_ap, dSet_ap, dSetF_ap, gsNil_ap, gsCons_ap, gTp_ap, dAsg_ap, sLst_ap, sTup_ap, sRng1_ap, sRng2_ap, dForS_ap, dTru_ap, dAnd_ap, dOr_ap, dNot_ap, dAndV_ap, dOrV_ap, dNotV_ap, dIte_ap, dChain_ap, dTup_ap, dLst_ap, dApp_ap, dSetI_ap, rNil_ap, rVal_ap, rIo_ap, dCal2_ap, dV_ap, dN_ap, tYesB_ap, dLc_ap, dIsi_ap, dPar_ap, dDic0_ap, dPar3_ap, DF.R.bind_ok, DF.R.bindS_ok, DF.R.bindN_ok, DF.SR.bind_nx, DF.SR.bind_ret, ofO, ths, setV, setF, free, set2, set3, fnRes, startE, startC, outs, argsD, putD, ioIx, isMu, look, muL, ltD_ap, leD_ap, gtD_ap, geD_ap, addD_ap, subD_ap, negD_ap, absD_ap, intD_ap, intD_apB, eq_int, ne_int, ixD, L2.atI, L2.ixN, lenD, gcdD, max2D, min2D, isiD, tyN, k_tt, e_short, ha, hb, h0, hg, e_div]
        · have hg' : ¬ ((gc a b : Nat) : Int) = 1 := by omega
          simp [dC_ap, dVar_ap, oVar_ap, oD_ap, aNil_ap, aCons_ap, vNil_ap, vCons_ap, dBin_ap, dTst_ap, dUn_ap, dCal_ap, dSeq_ap, dNever_ap, dIf_ap, dRet_ap, dRetF_ap, dRetN_ap, dRetV_ap, dExpr_ap, dSet_ap, dSetF_ap, gsNil_ap, gsCons_ap, gTp_ap, dAsg_ap, sLst_ap, sTup_ap, sRng1_ap, sRng2_ap, dForS_ap, dTru_ap, dAnd_ap, dOr_ap, dNot_ap, dAndV_ap, dOrV_ap, dNotV_ap, dIte_ap, dChain_ap, dTup_ap, dLst_ap, dApp_ap, dSetI_ap, rNil_ap, rVal_ap, rIo_ap, dCal2_ap, dV_ap, dN_ap, tYesB_ap, dLc_ap, dIsi_ap, dPar_ap, dDic0_ap, dPar3_ap, DF.R.bind_ok, DF.R.bindS_ok, DF.R.bindN_ok, DF.SR.bind_nx, DF.SR.bind_ret, ofO, ths, setV, setF, free, set2, set3, fnRes, startE, startC, outs, argsD, putD, ioIx, isMu, look, muL, ltD_ap, leD_ap, gtD_ap, geD_ap, addD_ap, subD_ap, negD_ap, absD_ap, intD_ap, intD_apB, eq_int, ne_int, ixD, L2.atI, L2.ixN, lenD, gcdD, max2D, min2D, isiD, tyN, k_tt, e_short, ha, hb, h0, hg, hg', e_div]
      · simp [dC_ap, dVar_ap, oVar_ap, oD_ap, aNil_ap, aCons_ap, vNil_ap, vCons_ap, dBin_ap, dTst_ap, dUn_ap, dCal_ap, dSeq_ap, dNever_ap, dIf_ap, dRet_ap, dRetF_ap, dRetN_ap, dRetV_ap, dExpr_ap, dSet_ap, dSetF_ap, gsNil_ap, gsCons_ap, gTp_ap, dAsg_ap, sLst_ap, sTup_ap, sRng1_ap, sRng2_ap, dForS_ap, dTru_ap, dAnd_ap, dOr_ap, dNot_ap, dAndV_ap, dOrV_ap, dNotV_ap, dIte_ap, dChain_ap, dTup_ap, dLst_ap, dApp_ap, dSetI_ap, rNil_ap, rVal_ap, rIo_ap, dCal2_ap, dV_ap, dN_ap, tYesB_ap, dLc_ap, dIsi_ap, dPar_ap, dDic0_ap, dPar3_ap, DF.R.bind_ok, DF.R.bindS_ok, DF.R.bindN_ok, DF.SR.bind_nx, DF.SR.bind_ret, ofO, ths, setV, setF, free, set2, set3, fnRes, startE, startC, outs, argsD, putD, ioIx, isMu, look, muL, ltD_ap, leD_ap, gtD_ap, geD_ap, addD_ap, subD_ap, negD_ap, absD_ap, intD_ap, intD_apB, eq_int, ne_int, ixD, L2.atI, L2.ixN, lenD, gcdD, max2D, min2D, isiD, tyN, k_tt, e_short, ha, hb, h0, e_div]
    · simp [dC_ap, dVar_ap, oVar_ap, oD_ap, aNil_ap, aCons_ap, vNil_ap, vCons_ap, dBin_ap, dTst_ap, dUn_ap, dCal_ap, dSeq_ap, dNever_ap, dIf_ap, dRet_ap, dRetF_ap, dRetN_ap, dRetV_ap, dExpr_ap, dSet_ap, dSetF_ap, gsNil_ap, gsCons_ap, gTp_ap, dAsg_ap, sLst_ap, sTup_ap, sRng1_ap, sRng2_ap, dForS_ap, dTru_ap, dAnd_ap, dOr_ap, dNot_ap, dAndV_ap, dOrV_ap, dNotV_ap, dIte_ap, dChain_ap, dTup_ap, dLst_ap, dApp_ap, dSetI_ap, rNil_ap, rVal_ap, rIo_ap, dCal2_ap, dV_ap, dN_ap, tYesB_ap, dLc_ap, dIsi_ap, dPar_ap, dDic0_ap, dPar3_ap, DF.R.bind_ok, DF.R.bindS_ok, DF.R.bindN_ok, DF.SR.bind_nx, DF.SR.bind_ret, ofO, ths, setV, setF, free, set2, set3, fnRes, startE, startC, outs, argsD, putD, ioIx, isMu, look, muL, ltD_ap, leD_ap, gtD_ap, geD_ap, addD_ap, subD_ap, negD_ap, absD_ap, intD_ap, intD_apB, eq_int, ne_int, ixD, L2.atI, L2.ixN, lenD, gcdD, max2D, min2D, isiD, tyN, k_tt, e_short, ha, hb]
  · simp [dC_ap, dVar_ap, oVar_ap, oD_ap, aNil_ap, aCons_ap, vNil_ap, vCons_ap, dBin_ap, dTst_ap, dUn_ap, dCal_ap, dSeq_ap, dNever_ap, dIf_ap, dRet_ap, dRetF_ap, dRetN_ap, dRetV_ap, dExpr_ap, dSet_ap, dSetF_ap, gsNil_ap, gsCons_ap, gTp_ap, dAsg_ap, sLst_ap, sTup_ap, sRng1_ap, sRng2_ap, dForS_ap, dTru_ap, dAnd_ap, dOr_ap, dNot_ap, dAndV_ap, dOrV_ap, dNotV_ap, dIte_ap, dChain_ap, dTup_ap, dLst_ap, dApp_ap, dSetI_ap, rNil_ap, rVal_ap, rIo_ap, dCal2_ap, dV_ap, dN_ap, tYesB_ap, dLc_ap, dIsi_ap, dPar_ap, dDic0_ap, dPar3_ap, DF.R.bind_ok, DF.R.bindS_ok, DF.R.bindN_ok, DF.SR.bind_nx, DF.SR.bind_ret, ofO, ths, setV, setF, free, set2, set3, fnRes, startE, startC, outs, argsD, putD, ioIx, isMu, look, muL, ltD_ap, leD_ap, gtD_ap, geD_ap, addD_ap, subD_ap, negD_ap, absD_ap, intD_ap, intD_apB, eq_int, ne_int, ixD, L2.atI, L2.ixN, lenD, gcdD, max2D, min2D, isiD, tyN, k_tt, e_short, ha]
theorem ag_pair (a b : Int) : Agree (.tup [.int a, .int b]) := by
  refine ⟨_, e_isratio a b, ?_⟩
  rw [e_lawratio]
  congr 2
  cases decide (0 < b) <;> cases decide (gc a b = 1) <;> cases decide (a.natAbs ≤ 999999999999999999999999999999999999999999999999999999999999) <;> cases decide (b.natAbs ≤ 999999999999999999999999999999999999999999999999999999999999) <;> rfl
theorem ag_int (a : Int) : Agree (.int a) := ⟨false, rfl, rfl⟩
theorem ag_lst (a b : Int) : Agree (.lst [.int a, .int b]) := ⟨false, rfl, rfl⟩
theorem ag_one (a : Int) : Agree (.tup [.int a]) := ⟨false, rfl, rfl⟩
theorem ag_three (a b c : Int) : Agree (.tup [.int a, .int b, .int c]) := ⟨false, rfl, rfl⟩
/-- those on which they do not agree -/
def jT : DEnv → DF.R Bool := dTst (dBin neD1 (oD (dCal rprD (aCons (oD (dV (dCal2 1 F_is_ratio (rVal (dVar 4) (rNil))))) (aNil)))) (oD (dCal rprD (aCons (oD (dV (dCal2 1 F_q_ra_is_ratio (rVal (dVar 4) (rNil))))) (aNil)))))
theorem ne_txt (b : Bool) : neD1 (.str (if b then "True" else "False")) (.str (if b then "True" else "False")) = some (.bl false) := ne_same (by cases b <;> decide +kernel)
theorem jT_ap {v : D} (h : Agree v) (c0 c1 c2 c3 : Option Cell) : jT [c0, c1, c2, c3, some (.val v)] = .ok [c0, c1, c2, c3, some (.val v)] false := by
  obtain ⟨b, e1, e2⟩ := h.ex
  have := ne_txt b
  simp [jT, dC_ap, dVar_ap, oVar_ap, oD_ap, aNil_ap, aCons_ap, vNil_ap, vCons_ap, dBin_ap, dTst_ap, dUn_ap, dCal_ap, dSeq_ap, dNever_ap, dIf_ap, dRet_ap, dRetF_ap, dRetN_ap, dRetV_ap, dExpr_ap, dSet_ap, dSetF_ap, gsNil_ap, gsCons_ap, gTp_ap, dAsg_ap, sLst_ap, sTup_ap, sRng1_ap, sRng2_ap, dForS_ap, dTru_ap, dAnd_ap, dOr_ap, dNot_ap, dAndV_ap, dOrV_ap, dNotV_ap, dIte_ap, dChain_ap, dTup_ap, dLst_ap, dApp_ap, dSetI_ap, rNil_ap, rVal_ap, rIo_ap, dCal2_ap, dV_ap, dN_ap, tYesB_ap, dLc_ap, dIsi_ap, dPar_ap, dDic0_ap, dPar3_ap, DF.R.bind_ok, DF.R.bindS_ok, DF.R.bindN_ok, DF.SR.bind_nx, DF.SR.bind_ret, ofO, ths, setV, setF, free, set2, set3, fnRes, startE, startC, outs, argsD, putD, ioIx, isMu, look, muL, ltD_ap, leD_ap, gtD_ap, geD_ap, addD_ap, subD_ap, negD_ap, absD_ap, intD_ap, intD_apB, eq_int, ne_int, ixD, L2.atI, L2.ixN, lenD, gcdD, max2D, min2D, e1, e2, rprD, this]
theorem j_loop (c0 c1 c2 c3 : Option Cell) : ∀ l : List D, (∀ v ∈ l, Agree v) → dLcGo (setV 4) jT (dVar 4) [4] l [] [c0, c1, c2, c3, none] = .ok [c0, c1, c2, c3, none] (.lst [])
  | [], _ => rfl
  | v :: l, h => by
    have ih := j_loop c0 c1 c2 c3 l fun x hx => h x (List.mem_cons_of_mem _ hx)
    have e := jT_ap (h v List.mem_cons_self) c0 c1 c2 c3
    unfold dLcGo
    simp [setV, free, e, R.bindN_ok, noMu, wipeE, ih]
theorem ag_a : Agree (.tup [.int 1, .bl true]) := by
  refine ⟨false, rfl, ?_⟩
  unfold F_q_ra_is_ratio B_q_ra_is_ratio
  have : F_q_ra_short [(false, .bl true)] = .ret false (.bl false) [] := rfl
  simp [dC_ap, dVar_ap, oVar_ap, oD_ap, aNil_ap, aCons_ap, vNil_ap, vCons_ap, dBin_ap, dTst_ap, dUn_ap, dCal_ap, dSeq_ap, dNever_ap, dIf_ap, dRet_ap, dRetF_ap, dRetN_ap, dRetV_ap, dExpr_ap, dSet_ap, dSetF_ap, gsNil_ap, gsCons_ap, gTp_ap, dAsg_ap, sLst_ap, sTup_ap, sRng1_ap, sRng2_ap, dForS_ap, dTru_ap, dAnd_ap, dOr_ap, dNot_ap, dAndV_ap, dOrV_ap, dNotV_ap, dIte_ap, dChain_ap, dTup_ap, dLst_ap, dApp_ap, dSetI_ap, rNil_ap, rVal_ap, rIo_ap, dCal2_ap, dV_ap, dN_ap, tYesB_ap, dLc_ap, dIsi_ap, dPar_ap, dDic0_ap, dPar3_ap, DF.R.bind_ok, DF.R.bindS_ok, DF.R.bindN_ok, DF.SR.bind_nx, DF.SR.bind_ret, ofO, ths, setV, setF, free, set2, set3, fnRes, startE, startC, outs, argsD, putD, ioIx, isMu, look, muL, ltD_ap, leD_ap, gtD_ap, geD_ap, addD_ap, subD_ap, negD_ap, absD_ap, intD_ap, intD_apB, eq_int, ne_int, ixD, L2.atI, L2.ixN, lenD, gcdD, max2D, min2D, isiD, tyN, k_tt, e_short, this]
theorem ag_str1 : Agree (.tup [.str (Str.ofString "1"), .int 2]) := ⟨false, rfl, rfl⟩
theorem ag_str2 : Agree (.str (Str.ofString "1/2")) := ⟨false, rfl, rfl⟩
theorem ag_str3 : Agree (.str (Str.ofString "3")) := ⟨false, rfl, rfl⟩
theorem ag_b2 : Agree (.tup [.bl true, .int 2]) := ⟨false, rfl, rfl⟩
theorem ag_b1 : Agree (.bl true) := ⟨false, rfl, rfl⟩
theorem ag_n : Agree .non := ⟨false, rfl, rfl⟩
theorem ag_n1 : Agree (.tup [.non, .int 1]) := ⟨false, rfl, rfl⟩
theorem ag_t1 : Agree (.tup [.tup [.int 1, .int 2], .int 1]) := ⟨false, rfl, rfl⟩
theorem ag_d : Agree (.dic []) := ⟨false, rfl, rfl⟩
theorem ag_0 : Agree (.tup []) := ⟨false, rfl, rfl⟩
theorem catL_s {l m : List D} (h1 : l.length ≤ 1000) (h2 : m.length ≤ 1000) : addD (.lst l) (.lst m) = some (.lst (l ++ m)) := catL_ap (by omega)
theorem p60l : powD (.int 10) (.int 60) = some (.int 1000000000000000000000000000000000000000000000000000000000000) := p60
theorem x1 (t b : Int) (d1 : D) (m1 : mulD (.int 2) (.int t) = some (.int (2 * t))) (m2 : mulD (.int 2) (.int b) = some (.int (2 * b))) : (dSet 3 (dLst (vCons (dVar 1) (vCons (dTup (vCons (dVar 1) (vCons (dVar 2) (vNil)))) (vCons (dTup (vCons (dVar 2) (vCons (dVar 1) (vNil)))) (vCons (dTup (vCons (dBin mulD (oD (dC (.int 2))) (oVar 1)) (vCons (dBin mulD (oD (dC (.int 2))) (oVar 2)) (vNil)))) (vCons (dTup (vCons (dUn negD (oVar 1)) (vCons (dUn negD (oVar 2)) (vNil)))) (vCons (dLst (vCons (dVar 1) (vCons (dVar 2) (vNil)))) (vCons (dTup (vCons (dVar 1) (vNil))) (vCons (dTup (vCons (dVar 1) (vCons (dVar 2) (vCons (dC (.int 1)) (vNil))))) (vNil))))))))))) [some (.mu true d1), some (.val (.int t)), some (.val (.int b)), none, none] = .nx [some (.mu true d1), some (.val (.int t)), some (.val (.int b)), some (.val (.lst [.int t, .tup [.int t, .int b], .tup [.int b, .int t], .tup [.int (2 * t), .int (2 * b)], .tup [.int (-t), .int (-b)], .lst [.int t, .int b], .tup [.int t], .tup [.int t, .int b, .int 1]])), none] := by
  simp [dC_ap, dVar_ap, oVar_ap, oD_ap, aNil_ap, aCons_ap, vNil_ap, vCons_ap, dBin_ap, dTst_ap, dUn_ap, dCal_ap, dSeq_ap, dNever_ap, dIf_ap, dRet_ap, dRetF_ap, dRetN_ap, dRetV_ap, dExpr_ap, dSet_ap, dSetF_ap, gsNil_ap, gsCons_ap, gTp_ap, dAsg_ap, sLst_ap, sTup_ap, sRng1_ap, sRng2_ap, dForS_ap, dTru_ap, dAnd_ap, dOr_ap, dNot_ap, dAndV_ap, dOrV_ap, dNotV_ap, dIte_ap, dChain_ap, dTup_ap, dLst_ap, dApp_ap, dSetI_ap, rNil_ap, rVal_ap, rIo_ap, dCal2_ap, dV_ap, dN_ap, tYesB_ap, dLc_ap, dIsi_ap, dPar_ap, dDic0_ap, dPar3_ap, DF.R.bind_ok, DF.R.bindS_ok, DF.R.bindN_ok, DF.SR.bind_nx, DF.SR.bind_ret, ofO, ths, setV, setF, free, set2, set3, fnRes, startE, startC, outs, argsD, putD, ioIx, isMu, look, muL, ltD_ap, leD_ap, gtD_ap, geD_ap, addD_ap, subD_ap, negD_ap, absD_ap, intD_ap, intD_apB, eq_int, ne_int, ixD, L2.atI, L2.ixN, lenD, gcdD, max2D, min2D, m1, m2]
theorem x2 (l : List D) (hl : l.length ≤ 1000) (c0 c1 c2 : Option Cell) : (dSet 3 (dBin addD (oVar 3) (oD (dLst (vCons (dC (.bl true)) (vCons (dC .non) (vCons (dC (.str (Str.ofString "3"))) (vCons (dTup (vCons (dC (.bl true)) (vCons (dC (.int 2)) (vNil)))) (vCons (dTup (vCons (dC (.int 1)) (vCons (dC (.bl true)) (vNil)))) (vCons (dTup (vCons (dC (.int 0)) (vCons (dC (.int 1)) (vNil)))) (vCons (dTup (vCons (dC (.int 0)) (vCons (dC (.int 2)) (vNil)))) (vCons (dTup (vCons (dC (.int 0)) (vCons (dC (.int 0)) (vNil)))) (vCons (dTup (vCons (dC (.int 1)) (vCons (dC (.int 0)) (vNil)))) (vCons (dDic0) (vCons (dTup (vNil)) (vCons (dTup (vCons (dBin powD (oD (dC (.int 10))) (oD (dC (.int 60)))) (vCons (dC (.int 7)) (vNil)))) (vCons (dTup (vCons (dC (.int 1)) (vCons (dBin powD (oD (dC (.int 10))) (oD (dC (.int 60)))) (vNil)))) (vNil)))))))))))))))))) [c0, c1, c2, some (.val (.lst l)), none] = .nx [c0, c1, c2, some (.val (.lst (l ++ [.bl true, .non, .str (Str.ofString "3"), .tup [.bl true, .int 2], .tup [.int 1, .bl true], .tup [.int 0, .int 1], .tup [.int 0, .int 2], .tup [.int 0, .int 0], .tup [.int 1, .int 0], .dic [], .tup [], .tup [.int 1000000000000000000000000000000000000000000000000000000000000, .int 7], .tup [.int 1, .int 1000000000000000000000000000000000000000000000000000000000000]]))), none] := by
  simp [dC_ap, dVar_ap, oVar_ap, oD_ap, aNil_ap, aCons_ap, vNil_ap, vCons_ap, dBin_ap, dTst_ap, dUn_ap, dCal_ap, dSeq_ap, dNever_ap, dIf_ap, dRet_ap, dRetF_ap, dRetN_ap, dRetV_ap, dExpr_ap, dSet_ap, dSetF_ap, gsNil_ap, gsCons_ap, gTp_ap, dAsg_ap, sLst_ap, sTup_ap, sRng1_ap, sRng2_ap, dForS_ap, dTru_ap, dAnd_ap, dOr_ap, dNot_ap, dAndV_ap, dOrV_ap, dNotV_ap, dIte_ap, dChain_ap, dTup_ap, dLst_ap, dApp_ap, dSetI_ap, rNil_ap, rVal_ap, rIo_ap, dCal2_ap, dV_ap, dN_ap, tYesB_ap, dLc_ap, dIsi_ap, dPar_ap, dDic0_ap, dPar3_ap, DF.R.bind_ok, DF.R.bindS_ok, DF.R.bindN_ok, DF.SR.bind_nx, DF.SR.bind_ret, ofO, ths, setV, setF, free, set2, set3, fnRes, startE, startC, outs, argsD, putD, ioIx, isMu, look, muL, ltD_ap, leD_ap, gtD_ap, geD_ap, addD_ap, subD_ap, negD_ap, absD_ap, intD_ap, intD_apB, eq_int, ne_int, ixD, L2.atI, L2.ixN, lenD, gcdD, max2D, min2D, p60l, hl, catL_s]
theorem x3 (l : List D) (hl : l.length ≤ 1000) (c0 c1 c2 : Option Cell) : (dSet 3 (dBin addD (oVar 3) (oD (dLst (vCons (dTup (vCons (dBin subD (oD (dBin powD (oD (dC (.int 10))) (oD (dC (.int 60))))) (oD (dC (.int 1)))) (vCons (dC (.int 1)) (vNil)))) (vCons (dTup (vCons (dUn negD (oD (dBin powD (oD (dC (.int 10))) (oD (dC (.int 60)))))) (vCons (dC (.int 1)) (vNil)))) (vCons (dTup (vCons (dTup (vCons (dC (.int 1)) (vCons (dC (.int 2)) (vNil)))) (vCons (dC (.int 1)) (vNil)))) (vCons (dTup (vCons (dC (.str (Str.ofString "1"))) (vCons (dC (.int 2)) (vNil)))) (vCons (dTup (vCons (dC .non) (vCons (dC (.int 1)) (vNil)))) (vCons (dTup (vCons (dC (.int 1)) (vCons (dBin subD (oD (dC (.int 1))) (oD (dBin powD (oD (dC (.int 10))) (oD (dC (.int 60)))))) (vNil)))) (vCons (dC (.str (Str.ofString "1/2"))) (vNil)))))))))))) [c0, c1, c2, some (.val (.lst l)), none] = .nx [c0, c1, c2, some (.val (.lst (l ++ [.tup [.int 999999999999999999999999999999999999999999999999999999999999, .int 1], .tup [.int (-1000000000000000000000000000000000000000000000000000000000000), .int 1], .tup [.tup [.int 1, .int 2], .int 1], .tup [.str (Str.ofString "1"), .int 2], .tup [.non, .int 1], .tup [.int 1, .int (-999999999999999999999999999999999999999999999999999999999999)], .str (Str.ofString "1/2")]))), none] := by
  simp [dC_ap, dVar_ap, oVar_ap, oD_ap, aNil_ap, aCons_ap, vNil_ap, vCons_ap, dBin_ap, dTst_ap, dUn_ap, dCal_ap, dSeq_ap, dNever_ap, dIf_ap, dRet_ap, dRetF_ap, dRetN_ap, dRetV_ap, dExpr_ap, dSet_ap, dSetF_ap, gsNil_ap, gsCons_ap, gTp_ap, dAsg_ap, sLst_ap, sTup_ap, sRng1_ap, sRng2_ap, dForS_ap, dTru_ap, dAnd_ap, dOr_ap, dNot_ap, dAndV_ap, dOrV_ap, dNotV_ap, dIte_ap, dChain_ap, dTup_ap, dLst_ap, dApp_ap, dSetI_ap, rNil_ap, rVal_ap, rIo_ap, dCal2_ap, dV_ap, dN_ap, tYesB_ap, dLc_ap, dIsi_ap, dPar_ap, dDic0_ap, dPar3_ap, DF.R.bind_ok, DF.R.bindS_ok, DF.R.bindN_ok, DF.SR.bind_nx, DF.SR.bind_ret, ofO, ths, setV, setF, free, set2, set3, fnRes, startE, startC, outs, argsD, putD, ioIx, isMu, look, muL, ltD_ap, leD_ap, gtD_ap, geD_ap, addD_ap, subD_ap, negD_ap, absD_ap, intD_ap, intD_apB, eq_int, ne_int, ixD, L2.atI, L2.ixN, lenD, gcdD, max2D, min2D, p60l, hl, catL_s]
theorem x0 (d d1 : D) (t b : Int) (e1 : F_q_ra_drawn [(true, d)] = .ret false (.tup [.int t, .int b]) [d1]) : (dAsg (dV (dCal2 1 F_q_ra_drawn (rIo 0 (rNil)))) (gTp 2 (gsCons (setV 1) (gsCons (setV 2) (gsNil))))) [some (.mu true d), none, none, none, none] = .nx [some (.mu true d1), some (.val (.int t)), some (.val (.int b)), none, none] := by
  simp [dC_ap, dVar_ap, oVar_ap, oD_ap, aNil_ap, aCons_ap, vNil_ap, vCons_ap, dBin_ap, dTst_ap, dUn_ap, dCal_ap, dSeq_ap, dNever_ap, dIf_ap, dRet_ap, dRetF_ap, dRetN_ap, dRetV_ap, dExpr_ap, dSet_ap, dSetF_ap, gsNil_ap, gsCons_ap, gTp_ap, dAsg_ap, sLst_ap, sTup_ap, sRng1_ap, sRng2_ap, dForS_ap, dTru_ap, dAnd_ap, dOr_ap, dNot_ap, dAndV_ap, dOrV_ap, dNotV_ap, dIte_ap, dChain_ap, dTup_ap, dLst_ap, dApp_ap, dSetI_ap, rNil_ap, rVal_ap, rIo_ap, dCal2_ap, dV_ap, dN_ap, tYesB_ap, dLc_ap, dIsi_ap, dPar_ap, dDic0_ap, dPar3_ap, DF.R.bind_ok, DF.R.bindS_ok, DF.R.bindN_ok, DF.SR.bind_nx, DF.SR.bind_ret, ofO, ths, setV, setF, free, set2, set3, fnRes, startE, startC, outs, argsD, putD, ioIx, isMu, look, muL, ltD_ap, leD_ap, gtD_ap, geD_ap, addD_ap, subD_ap, negD_ap, absD_ap, intD_ap, intD_apB, eq_int, ne_int, ixD, L2.atI, L2.ixN, lenD, gcdD, max2D, min2D, e1]
theorem x4 (l : List D) (hl : ∀ v ∈ l, Agree v) (c0 c1 c2 : Option Cell) : (dRet (dBin eqD1 (oD (dLc (sLst (dVar 3)) (setV 4) (dTst (dBin neD1 (oD (dCal rprD (aCons (oD (dV (dCal2 1 F_is_ratio (rVal (dVar 4) (rNil))))) (aNil)))) (oD (dCal rprD (aCons (oD (dV (dCal2 1 F_q_ra_is_ratio (rVal (dVar 4) (rNil))))) (aNil)))))) (dVar 4) [4])) (oD (dLst (vNil))))) [c0, c1, c2, some (.val (.lst l)), none] = .ret [c0, c1, c2, some (.val (.lst l)), none] false (.bl true) := by
  rw [show (dTst (dBin neD1 (oD (dCal rprD (aCons (oD (dV (dCal2 1 F_is_ratio (rVal (dVar 4) (rNil))))) (aNil)))) (oD (dCal rprD (aCons (oD (dV (dCal2 1 F_q_ra_is_ratio (rVal (dVar 4) (rNil))))) (aNil)))))) = jT from rfl]
  have := j_loop c0 c1 c2 (some (.val (.lst l))) l hl
  simp [dC_ap, dVar_ap, oVar_ap, oD_ap, aNil_ap, aCons_ap, vNil_ap, vCons_ap, dBin_ap, dTst_ap, dUn_ap, dCal_ap, dSeq_ap, dNever_ap, dIf_ap, dRet_ap, dRetF_ap, dRetN_ap, dRetV_ap, dExpr_ap, dSet_ap, dSetF_ap, gsNil_ap, gsCons_ap, gTp_ap, dAsg_ap, sLst_ap, sTup_ap, sRng1_ap, sRng2_ap, dForS_ap, dTru_ap, dAnd_ap, dOr_ap, dNot_ap, dAndV_ap, dOrV_ap, dNotV_ap, dIte_ap, dChain_ap, dTup_ap, dLst_ap, dApp_ap, dSetI_ap, rNil_ap, rVal_ap, rIo_ap, dCal2_ap, dV_ap, dN_ap, tYesB_ap, dLc_ap, dIsi_ap, dPar_ap, dDic0_ap, dPar3_ap, DF.R.bind_ok, DF.R.bindS_ok, DF.R.bindN_ok, DF.SR.bind_nx, DF.SR.bind_ret, ofO, ths, setV, setF, free, set2, set3, fnRes, startE, startC, outs, argsD, putD, ioIx, isMu, look, muL, ltD_ap, leD_ap, gtD_ap, geD_ap, addD_ap, subD_ap, negD_ap, absD_ap, intD_ap, intD_apB, eq_int, ne_int, ixD, L2.atI, L2.ixN, lenD, gcdD, max2D, min2D, noMu, wipeE, this, eq_same (d := .lst []) rfl]
theorem e_judged {n : Nat} {d : D} (h : Bag n d) (hn : n ≤ 800000) : ∃ d', Bag (n + 3) d' ∧ F_q_judged_right [(true, d)] = .ret false (.bl true) [d'] := by
  obtain ⟨t, b, d1, hg, ht, hb, h1, e1⟩ := e_drawn h (by omega)
  refine ⟨d1, h1, ?_⟩
  have hb0 := hg.1
  have m1 : mulD (.int 2) (.int t) = some (.int (2 * t)) := mulD_ap (cm (sm_of (by decide)) (sm_of (by omega)))
  have m2 : mulD (.int 2) (.int b) = some (.int (2 * b)) := mulD_ap (cm (sm_of (by decide)) (sm_of (by omega)))
  have hs : startE 5 [(true, d)] = [some (.mu true d), none, none, none, none] := rfl
  unfold F_q_judged_right B_q_judged_right
  rw [hs, dSeq_ap, x0 d d1 t b e1, SR.bind_nx, dSeq_ap, x1 t b d1 m1 m2, SR.bind_nx, dSeq_ap, x2 _ (by simp), SR.bind_nx, dSeq_ap, x3 _ (by simp), SR.bind_nx, x4]
  · rfl
  · intro v hv
    simp only [List.mem_append, List.mem_cons, List.not_mem_nil, or_false] at hv
    rcases hv with ((rfl | rfl | rfl | rfl | rfl | rfl | rfl | rfl) | (rfl | rfl | rfl | rfl | rfl | rfl | rfl | rfl | rfl | rfl | rfl | rfl | rfl)) | (rfl | rfl | rfl | rfl | rfl | rfl | rfl)
    · exact ag_int _
    · exact ag_pair _ _
    · exact ag_pair _ _
    · exact ag_pair _ _
    · exact ag_pair _ _
    · exact ag_lst _ _
    · exact ag_one _
    · exact ag_three _ _ _
    · exact ag_b1
    · exact ag_n
    · exact ag_str3
    · exact ag_b2
    · exact ag_a
    · exact ag_pair _ _
    · exact ag_pair _ _
    · exact ag_pair _ _
    · exact ag_pair _ _
    · exact ag_d
    · exact ag_0
    · exact ag_pair _ _
    · exact ag_pair _ _
    · exact ag_pair _ _
    · exact ag_pair _ _
    · exact ag_t1
    · exact ag_str1
    · exact ag_n1
    · exact ag_pair _ _
    · exact ag_str2
end K02

namespace K02
open PySem DF KM
theorem p30 : powD (.int 10) (.int 30) = some (.int 1000000000000000000000000000000) := powD_ap (by decide +kernel)
theorem p25 : powD (.int 10) (.int 25) = some (.int 10000000000000000000000000) := powD_ap (by decide +kernel)
theorem e_one_int {n : Nat} {d : D} {l : List Int} {lo hi : Int} (h : Bag n d) (hn : n ≤ 1000000) (hl : 0 < l.length) (hl2 : l.length < 1000000) (hb : ∀ i ∈ l, lo ≤ i ∧ i ≤ hi) : ∃ (i : Int) (d' : D), i ∈ l ∧ lo ≤ i ∧ i ≤ hi ∧ Bag (n + 1) d' ∧ F_q_one_of [(true, d), (false, .lst (l.map D.int))] = .ret false (.int i) [d'] := by
  obtain ⟨r, d1, x, hr, h1, e1⟩ := e_one (l := l.map D.int) h hn (by simpa using hl) (by simpa using hl2)
  rw [List.getElem?_map] at hr
  cases hq : l[r]? with
  | none => rw [hq] at hr; cases hr
  | some i =>
    rw [hq] at hr
    cases hr
    have hm := List.mem_of_getElem? hq
    exact ⟨i, d1, hm, (hb i hm).1, (hb i hm).2, h1, e1⟩
theorem lo_zero {B : Int} (hB : B ≠ 0) : lo1 0 B = 0 ∧ lo2 0 B = 1 := lo_unique hB ⟨by decide, rfl⟩ (by omega)
theorem lw2 (c0 c1 c2 : Option Cell) (t b : Int) (hb : b ≠ 0) (h1 : t.natAbs ≤ 999999999999999999999999999999999999999999999999999999999999) (h2 : b.natAbs ≤ 999999999999999999999999999999999999999999999999999999999999) : (dRet (dAndV (dBin eqD1 (oD (dV (dCal2 2 F_lowest (rVal (dVar 3) (rVal (dVar 4) (rNil)))))) (oD (dV (dCal2 2 F_q_ra_lowest (rVal (dVar 3) (rVal (dVar 4) (rNil))))))) (dAndV (dV (dCal2 1 F_q_ra_is_ratio (rVal (dV (dCal2 2 F_lowest (rVal (dVar 3) (rVal (dVar 4) (rNil))))) (rNil)))) (dBin eqD1 (oD (dV (dCal2 2 F_lowest (rVal (dC (.int 0)) (rVal (dVar 4) (rNil)))))) (oD (dTup (vCons (dC (.int 0)) (vCons (dC (.int 1)) (vNil))))))))) [c0, c1, c2, some (.val (.int t)), some (.val (.int b))] = .ret [c0, c1, c2, some (.val (.int t)), some (.val (.int b))] false (.bl true) := by
  have e1 := e_plowest t b hb h1 h2
  have e2 := e_lowest t b hb (sm_of (by omega))
  have e3 := e_plowest 0 b hb (by decide) h2
  rw [(lo_zero hb).1, (lo_zero hb).2] at e3
  have g := (lo_spec (t := t) hb).2.2
  have l1 := lo1_le (T := t) hb
  have l2 := lo2_le (T := t) hb
  have e4 := e_lawratio (lo1 t b) (lo2 t b)
  rw [decide_eq_true (show (lo1 t b).natAbs ≤ 999999999999999999999999999999999999999999999999999999999999 by omega), decide_eq_true (show (lo2 t b).natAbs ≤ 999999999999999999999999999999999999999999999999999999999999 by omega), decide_eq_true g.1, decide_eq_true g.2] at e4
  have q1 := eq_same (d := .tup [.int (lo1 t b), .int (lo2 t b)]) rfl
  have q2 := eq_same (d := .tup [.int 0, .int 1]) rfl
  simp [dC_ap, dVar_ap, oVar_ap, oD_ap, aNil_ap, aCons_ap, vNil_ap, vCons_ap, dBin_ap, dTst_ap, dUn_ap, dCal_ap, dSeq_ap, dNever_ap, dIf_ap, dRet_ap, dRetF_ap, dRetN_ap, dRetV_ap, dExpr_ap, dSet_ap, dSetF_ap, gsNil_ap, gsCons_ap, gTp_ap, dAsg_ap, sLst_ap, sTup_ap, sRng1_ap, sRng2_ap, dForS_ap, dTru_ap, dAnd_ap, dOr_ap, dNot_ap, dAndV_ap, dOrV_ap, dNotV_ap, dIte_ap, dChain_ap, dTup_ap, dLst_ap, dApp_ap, dSetI_ap, rNil_ap, rVal_ap, rIo_ap, dCal2_ap, dV_ap, dN_ap, tYesB_ap, dLc_ap, dIsi_ap, dPar_ap, dDic0_ap, dPar3_ap, DF.R.bind_ok, DF.R.bindS_ok, DF.R.bindN_ok, DF.SR.bind_nx, DF.SR.bind_ret, ofO, ths, setV, setF, free, set2, set3, fnRes, startE, startC, outs, argsD, putD, ioIx, isMu, look, muL, ltD_ap, leD_ap, gtD_ap, geD_ap, addD_ap, subD_ap, negD_ap, absD_ap, intD_ap, intD_apB, eq_int, ne_int, ixD, L2.atI, L2.ixN, lenD, gcdD, max2D, min2D, e1, e2, e3, e4, q1, q2]
theorem lw0 (d d1 d2 : D) (s g : Int) (e1 : F_q_one_of [(true, d), (false, .lst [.int 1, .int 2, .int 6, .int 1000000000000000000000000000000])] = .ret false (.int s) [d1]) (e2 : F_q_one_of [(true, d1), (false, .lst [.int 5, .int 60, .int 10000000000000000000000000])] = .ret false (.int g) [d2]) :
    (dPar 1 2 (vCons (dV (dCal2 2 F_q_one_of (rIo 0 (rVal (dLst (vCons (dC (.int 1)) (vCons (dC (.int 2)) (vCons (dC (.int 6)) (vCons (dBin powD (oD (dC (.int 10))) (oD (dC (.int 30)))) (vNil)))))) (rNil))))) (vCons (dV (dCal2 2 F_q_one_of (rIo 0 (rVal (dLst (vCons (dC (.int 5)) (vCons (dC (.int 60)) (vCons (dBin powD (oD (dC (.int 10))) (oD (dC (.int 25)))) (vNil))))) (rNil))))) (vNil)))) [some (.mu true d), none, none, none, none] = .nx [some (.mu true d2), some (.val (.int s)), some (.val (.int g)), none, none] := by
  simp [dC_ap, dVar_ap, oVar_ap, oD_ap, aNil_ap, aCons_ap, vNil_ap, vCons_ap, dBin_ap, dTst_ap, dUn_ap, dCal_ap, dSeq_ap, dNever_ap, dIf_ap, dRet_ap, dRetF_ap, dRetN_ap, dRetV_ap, dExpr_ap, dSet_ap, dSetF_ap, gsNil_ap, gsCons_ap, gTp_ap, dAsg_ap, sLst_ap, sTup_ap, sRng1_ap, sRng2_ap, dForS_ap, dTru_ap, dAnd_ap, dOr_ap, dNot_ap, dAndV_ap, dOrV_ap, dNotV_ap, dIte_ap, dChain_ap, dTup_ap, dLst_ap, dApp_ap, dSetI_ap, rNil_ap, rVal_ap, rIo_ap, dCal2_ap, dV_ap, dN_ap, tYesB_ap, dLc_ap, dIsi_ap, dPar_ap, dDic0_ap, dPar3_ap, DF.R.bind_ok, DF.R.bindS_ok, DF.R.bindN_ok, DF.SR.bind_nx, DF.SR.bind_ret, ofO, ths, setV, setF, free, set2, set3, fnRes, startE, startC, outs, argsD, putD, ioIx, isMu, look, muL, ltD_ap, leD_ap, gtD_ap, geD_ap, addD_ap, subD_ap, negD_ap, absD_ap, intD_ap, intD_apB, eq_int, ne_int, ixD, L2.atI, L2.ixN, lenD, gcdD, max2D, min2D, p30, p25, e1, e2]
theorem lw1 (d d1 d2 d3 : D) (s g a c e : Int) (e1 : F_q_grab [(true, d), (false, .int (2 * g + 1))] = .ret false (.int a) [d1]) (e2 : F_q_grab [(true, d1), (false, .int g)] = .ret false (.int c) [d2]) (e3 : F_q_one_of [(true, d2), (false, .lst [.int 1, .int (-1)])] = .ret false (.int e) [d3])
    (m1 : mulD (.int 2) (.int g) = some (.int (2 * g))) (m2 : mulD (.int s) (.int (a - g)) = some (.int (s * (a - g)))) (m3 : mulD (.int s) (.int (1 + c)) = some (.int (s * (1 + c)))) (m4 : mulD (.int (s * (1 + c))) (.int e) = some (.int (s * (1 + c) * e))) :
    (dPar 3 4 (vCons (dBin mulD (oVar 1) (oD (dBin subD (oD (dV (dCal2 2 F_q_grab (rIo 0 (rVal (dBin addD (oD (dBin mulD (oD (dC (.int 2))) (oVar 2))) (oD (dC (.int 1)))) (rNil)))))) (oVar 2)))) (vCons (dBin mulD (oD (dBin mulD (oVar 1) (oD (dBin addD (oD (dC (.int 1))) (oD (dV (dCal2 2 F_q_grab (rIo 0 (rVal (dVar 2) (rNil)))))))))) (oD (dV (dCal2 2 F_q_one_of (rIo 0 (rVal (dLst (vCons (dC (.int 1)) (vCons (dUn negD (oD (dC (.int 1)))) (vNil)))) (rNil))))))) (vNil)))) [some (.mu true d), some (.val (.int s)), some (.val (.int g)), none, none] = .nx [some (.mu true d3), some (.val (.int s)), some (.val (.int g)), some (.val (.int (s * (a - g)))), some (.val (.int (s * (1 + c) * e)))] := by
  simp [dC_ap, dVar_ap, oVar_ap, oD_ap, aNil_ap, aCons_ap, vNil_ap, vCons_ap, dBin_ap, dTst_ap, dUn_ap, dCal_ap, dSeq_ap, dNever_ap, dIf_ap, dRet_ap, dRetF_ap, dRetN_ap, dRetV_ap, dExpr_ap, dSet_ap, dSetF_ap, gsNil_ap, gsCons_ap, gTp_ap, dAsg_ap, sLst_ap, sTup_ap, sRng1_ap, sRng2_ap, dForS_ap, dTru_ap, dAnd_ap, dOr_ap, dNot_ap, dAndV_ap, dOrV_ap, dNotV_ap, dIte_ap, dChain_ap, dTup_ap, dLst_ap, dApp_ap, dSetI_ap, rNil_ap, rVal_ap, rIo_ap, dCal2_ap, dV_ap, dN_ap, tYesB_ap, dLc_ap, dIsi_ap, dPar_ap, dDic0_ap, dPar3_ap, DF.R.bind_ok, DF.R.bindS_ok, DF.R.bindN_ok, DF.SR.bind_nx, DF.SR.bind_ret, ofO, ths, setV, setF, free, set2, set3, fnRes, startE, startC, outs, argsD, putD, ioIx, isMu, look, muL, ltD_ap, leD_ap, gtD_ap, geD_ap, addD_ap, subD_ap, negD_ap, absD_ap, intD_ap, intD_apB, eq_int, ne_int, ixD, L2.atI, L2.ixN, lenD, gcdD, max2D, min2D, e1, e2, e3, m1, m2, m3, m4]
theorem e_lowered {n : Nat} {d : D} (h : Bag n d) (hn : n ≤ 800000) : ∃ d', Bag (n + 5) d' ∧ F_q_lowered_right [(true, d)] = .ret false (.bl true) [d'] := by
  obtain ⟨s, d1, _, hs0, hs1, h1, e1⟩ := e_one_int (l := [1, 2, 6, 1000000000000000000000000000000]) (lo := 1) (hi := 1000000000000000000000000000000) h (by omega) (by decide) (by decide) (by decide)
  obtain ⟨g, d2, _, hg0, hg1, h2, e2⟩ := e_one_int (l := [5, 60, 10000000000000000000000000]) (lo := 5) (hi := 10000000000000000000000000) h1 (by omega) (by decide) (by decide) (by decide)
  obtain ⟨a, d3, ha0, ha1, h3, e3⟩ := e_grab (t := 2 * g + 1) h2 (by omega) (by omega) (sm_of (by omega))
  obtain ⟨c, d4, hc0, hc1, h4, e4⟩ := e_grab (t := g) h3 (by omega) (by omega) (sm_of (by omega))
  obtain ⟨e, d5, he, _, _, h5, e5⟩ := e_one_int (l := [1, -1]) (lo := -1) (hi := 1) h4 (by omega) (by decide) (by decide) (by decide)
  have m1 := mulD_ap (i := 2) (j := g) (cm (sm_of (by decide)) (sm_of (by omega)))
  have m2 := mulD_ap (i := s) (j := a - g) (cm (sm_of (by omega)) (sm_of (by omega)))
  have m3 := mulD_ap (i := s) (j := 1 + c) (cm (sm_of (by omega)) (sm_of (by omega)))
  have b2 : (s * (a - g)).natAbs ≤ 1000000000000000000000000000000 * 10000000000000000000000000 := abs_mul_le (by omega) (by omega)
  have b3 : (s * (1 + c)).natAbs ≤ 1000000000000000000000000000000 * 10000000000000000000000000 := abs_mul_le (by omega) (by omega)
  have n3 : s * (1 + c) ≠ 0 := Int.mul_ne_zero (by omega) (by omega)
  have hee : e = 1 ∨ e = -1 := by simpa using he
  have m4 := mulD_ap (i := s * (1 + c)) (j := e) (cm (sm_of (by omega)) (sm_of (by omega)))
  have b4 : (s * (1 + c) * e).natAbs ≤ 1000000000000000000000000000000 * 10000000000000000000000000 := by
    rcases hee with rfl | rfl <;> omega
  have n4 : s * (1 + c) * e ≠ 0 := Int.mul_ne_zero n3 (by omega)
  refine ⟨d5, h5, ?_⟩
  have hs : startE 5 [(true, d)] = [some (.mu true d), none, none, none, none] := rfl
  unfold F_q_lowered_right B_q_lowered_right
  rw [hs, dSeq_ap, lw0 d d1 d2 s g e1 e2, SR.bind_nx, dSeq_ap, lw1 d2 d3 d4 d5 s g a c e e3 e4 e5 m1 m2 m3 m4, SR.bind_nx, lw2 _ _ _ _ _ n4 (by omega) (by omega)]
  rfl
end K02

namespace K02
open PySem DF KM
abbrev rt (a b : Int) : D := .tup [.int a, .int b]
theorem rk0 (d d1 d2 : D) (a b c e : Int) (e1 : F_q_ra_drawn [(true, d)] = .ret false (rt a b) [d1]) (e2 : F_q_ra_drawn [(true, d1)] = .ret false (rt c e) [d2]) :
    (dPar 1 2 (vCons (dV (dCal2 1 F_q_ra_drawn (rIo 0 (rNil)))) (vCons (dV (dCal2 1 F_q_ra_drawn (rIo 0 (rNil)))) (vNil)))) [some (.mu true d), none, none, none, none, none, none, none, none] = .nx [some (.mu true d2), some (.val (rt a b)), some (.val (rt c e)), none, none, none, none, none, none] := by
  simp [dC_ap, dVar_ap, oVar_ap, oD_ap, aNil_ap, aCons_ap, vNil_ap, vCons_ap, dBin_ap, dTst_ap, dUn_ap, dCal_ap, dSeq_ap, dNever_ap, dIf_ap, dRet_ap, dRetF_ap, dRetN_ap, dRetV_ap, dExpr_ap, dSet_ap, dSetF_ap, gsNil_ap, gsCons_ap, gTp_ap, dAsg_ap, sLst_ap, sTup_ap, sRng1_ap, sRng2_ap, dForS_ap, dTru_ap, dAnd_ap, dOr_ap, dNot_ap, dAndV_ap, dOrV_ap, dNotV_ap, dIte_ap, dChain_ap, dTup_ap, dLst_ap, dApp_ap, dSetI_ap, rNil_ap, rVal_ap, rIo_ap, dCal2_ap, dV_ap, dN_ap, tYesB_ap, dLc_ap, dIsi_ap, dPar_ap, dDic0_ap, dPar3_ap, DF.R.bind_ok, DF.R.bindS_ok, DF.R.bindN_ok, DF.SR.bind_nx, DF.SR.bind_ret, ofO, ths, setV, setF, free, set2, set3, fnRes, startE, startC, outs, argsD, putD, ioIx, isMu, look, muL, ltD_ap, leD_ap, gtD_ap, geD_ap, addD_ap, subD_ap, negD_ap, absD_ap, intD_ap, intD_apB, eq_int, ne_int, ixD, L2.atI, L2.ixN, lenD, gcdD, max2D, min2D, e1, e2]
theorem rk1 (d d1 x y : D) (r : Int) (e1 : F_q_grab [(true, d), (false, .int 4)] = .ret false (.int r) [d1]) :
    (dIf (dTst (dBin eqD1 (oD (dV (dCal2 2 F_q_grab (rIo 0 (rVal (dC (.int 4)) (rNil)))))) (oD (dC (.int 0))))) (dSet 2 (dVar 1)) (SR.nx)) [some (.mu true d), some (.val x), some (.val y), none, none, none, none, none, none] = .nx [some (.mu true d1), some (.val x), some (.val (if r = 0 then x else y)), none, none, none, none, none, none] := by
  by_cases h : r = 0 <;> simp [dC_ap, dVar_ap, oVar_ap, oD_ap, aNil_ap, aCons_ap, vNil_ap, vCons_ap, dBin_ap, dTst_ap, dUn_ap, dCal_ap, dSeq_ap, dNever_ap, dIf_ap, dRet_ap, dRetF_ap, dRetN_ap, dRetV_ap, dExpr_ap, dSet_ap, dSetF_ap, gsNil_ap, gsCons_ap, gTp_ap, dAsg_ap, sLst_ap, sTup_ap, sRng1_ap, sRng2_ap, dForS_ap, dTru_ap, dAnd_ap, dOr_ap, dNot_ap, dAndV_ap, dOrV_ap, dNotV_ap, dIte_ap, dChain_ap, dTup_ap, dLst_ap, dApp_ap, dSetI_ap, rNil_ap, rVal_ap, rIo_ap, dCal2_ap, dV_ap, dN_ap, tYesB_ap, dLc_ap, dIsi_ap, dPar_ap, dDic0_ap, dPar3_ap, DF.R.bind_ok, DF.R.bindS_ok, DF.R.bindN_ok, DF.SR.bind_nx, DF.SR.bind_ret, ofO, ths, setV, setF, free, set2, set3, fnRes, startE, startC, outs, argsD, putD, ioIx, isMu, look, muL, ltD_ap, leD_ap, gtD_ap, geD_ap, addD_ap, subD_ap, negD_ap, absD_ap, intD_ap, intD_apB, eq_int, ne_int, ixD, L2.atI, L2.ixN, lenD, gcdD, max2D, min2D, e1, h]
theorem rk2 (c0 : Cell) (a b c e : Int) :
    (dAsg (dTup (vCons (dVar 1) (vCons (dVar 2) (vNil)))) (gTp 2 (gsCons (gTp 2 (gsCons (setV 3) (gsCons (setV 4) (gsNil)))) (gsCons (gTp 2 (gsCons (setV 5) (gsCons (setV 6) (gsNil)))) (gsNil))))) [some c0, some (.val (rt a b)), some (.val (rt c e)), none, none, none, none, none, none] = .nx [some c0, some (.val (rt a b)), some (.val (rt c e)), some (.val (.int a)), some (.val (.int b)), some (.val (.int c)), some (.val (.int e)), none, none] := by
  simp [dC_ap, dVar_ap, oVar_ap, oD_ap, aNil_ap, aCons_ap, vNil_ap, vCons_ap, dBin_ap, dTst_ap, dUn_ap, dCal_ap, dSeq_ap, dNever_ap, dIf_ap, dRet_ap, dRetF_ap, dRetN_ap, dRetV_ap, dExpr_ap, dSet_ap, dSetF_ap, gsNil_ap, gsCons_ap, gTp_ap, dAsg_ap, sLst_ap, sTup_ap, sRng1_ap, sRng2_ap, dForS_ap, dTru_ap, dAnd_ap, dOr_ap, dNot_ap, dAndV_ap, dOrV_ap, dNotV_ap, dIte_ap, dChain_ap, dTup_ap, dLst_ap, dApp_ap, dSetI_ap, rNil_ap, rVal_ap, rIo_ap, dCal2_ap, dV_ap, dN_ap, tYesB_ap, dLc_ap, dIsi_ap, dPar_ap, dDic0_ap, dPar3_ap, DF.R.bind_ok, DF.R.bindS_ok, DF.R.bindN_ok, DF.SR.bind_nx, DF.SR.bind_ret, ofO, ths, setV, setF, free, set2, set3, fnRes, startE, startC, outs, argsD, putD, ioIx, isMu, look, muL, ltD_ap, leD_ap, gtD_ap, geD_ap, addD_ap, subD_ap, negD_ap, absD_ap, intD_ap, intD_apB, eq_int, ne_int, ixD, L2.atI, L2.ixN, lenD, gcdD, max2D, min2D]
theorem rk3 (c0 c1 c2 : Option Cell) (a b c e : Int) (m1 : mulD (.int a) (.int e) = some (.int (a * e))) (m2 : mulD (.int c) (.int b) = some (.int (c * b))) :
    (dSet 7 (dIte (dTst (dBin eqD1 (oD (dBin mulD (oVar 3) (oVar 6))) (oD (dBin mulD (oVar 5) (oVar 4))))) (dC (.int 0)) (dIte (dTst (dBin gtD (oD (dBin mulD (oVar 3) (oVar 6))) (oD (dBin mulD (oVar 5) (oVar 4))))) (dC (.int 1)) (dUn negD (oD (dC (.int 1))))))) [c0, c1, c2, some (.val (.int a)), some (.val (.int b)), some (.val (.int c)), some (.val (.int e)), none, none] = .nx [c0, c1, c2, some (.val (.int a)), some (.val (.int b)), some (.val (.int c)), some (.val (.int e)), some (.val (.int (cmp (a * e) (c * b)))), none] := by
  unfold cmp
  by_cases h1 : a * e = c * b
  · simp [dC_ap, dVar_ap, oVar_ap, oD_ap, aNil_ap, aCons_ap, vNil_ap, vCons_ap, dBin_ap, dTst_ap, dUn_ap, dCal_ap, dSeq_ap, dNever_ap, dIf_ap, dRet_ap, dRetF_ap, dRetN_ap, dRetV_ap, dExpr_ap, dSet_ap, dSetF_ap, gsNil_ap, gsCons_ap, gTp_ap, dAsg_ap, sLst_ap, sTup_ap, sRng1_ap, sRng2_ap, dForS_ap, dTru_ap, dAnd_ap, dOr_ap, dNot_ap, dAndV_ap, dOrV_ap, dNotV_ap, dIte_ap, dChain_ap, dTup_ap, dLst_ap, dApp_ap, dSetI_ap, rNil_ap, rVal_ap, rIo_ap, dCal2_ap, dV_ap, dN_ap, tYesB_ap, dLc_ap, dIsi_ap, dPar_ap, dDic0_ap, dPar3_ap, DF.R.bind_ok, DF.R.bindS_ok, DF.R.bindN_ok, DF.SR.bind_nx, DF.SR.bind_ret, ofO, ths, setV, setF, free, set2, set3, fnRes, startE, startC, outs, argsD, putD, ioIx, isMu, look, muL, ltD_ap, leD_ap, gtD_ap, geD_ap, addD_ap, subD_ap, negD_ap, absD_ap, intD_ap, intD_apB, eq_int, ne_int, ixD, L2.atI, L2.ixN, lenD, gcdD, max2D, min2D, m1, m2, h1]
  · by_cases h2 : a * e < c * b
    · have h3 : ¬ c * b < a * e := by omega
      simp [dC_ap, dVar_ap, oVar_ap, oD_ap, aNil_ap, aCons_ap, vNil_ap, vCons_ap, dBin_ap, dTst_ap, dUn_ap, dCal_ap, dSeq_ap, dNever_ap, dIf_ap, dRet_ap, dRetF_ap, dRetN_ap, dRetV_ap, dExpr_ap, dSet_ap, dSetF_ap, gsNil_ap, gsCons_ap, gTp_ap, dAsg_ap, sLst_ap, sTup_ap, sRng1_ap, sRng2_ap, dForS_ap, dTru_ap, dAnd_ap, dOr_ap, dNot_ap, dAndV_ap, dOrV_ap, dNotV_ap, dIte_ap, dChain_ap, dTup_ap, dLst_ap, dApp_ap, dSetI_ap, rNil_ap, rVal_ap, rIo_ap, dCal2_ap, dV_ap, dN_ap, tYesB_ap, dLc_ap, dIsi_ap, dPar_ap, dDic0_ap, dPar3_ap, DF.R.bind_ok, DF.R.bindS_ok, DF.R.bindN_ok, DF.SR.bind_nx, DF.SR.bind_ret, ofO, ths, setV, setF, free, set2, set3, fnRes, startE, startC, outs, argsD, putD, ioIx, isMu, look, muL, ltD_ap, leD_ap, gtD_ap, geD_ap, addD_ap, subD_ap, negD_ap, absD_ap, intD_ap, intD_apB, eq_int, ne_int, ixD, L2.atI, L2.ixN, lenD, gcdD, max2D, min2D, m1, m2, h1, h2, h3]
    · have h3 : c * b < a * e := by omega
      simp [dC_ap, dVar_ap, oVar_ap, oD_ap, aNil_ap, aCons_ap, vNil_ap, vCons_ap, dBin_ap, dTst_ap, dUn_ap, dCal_ap, dSeq_ap, dNever_ap, dIf_ap, dRet_ap, dRetF_ap, dRetN_ap, dRetV_ap, dExpr_ap, dSet_ap, dSetF_ap, gsNil_ap, gsCons_ap, gTp_ap, dAsg_ap, sLst_ap, sTup_ap, sRng1_ap, sRng2_ap, dForS_ap, dTru_ap, dAnd_ap, dOr_ap, dNot_ap, dAndV_ap, dOrV_ap, dNotV_ap, dIte_ap, dChain_ap, dTup_ap, dLst_ap, dApp_ap, dSetI_ap, rNil_ap, rVal_ap, rIo_ap, dCal2_ap, dV_ap, dN_ap, tYesB_ap, dLc_ap, dIsi_ap, dPar_ap, dDic0_ap, dPar3_ap, DF.R.bind_ok, DF.R.bindS_ok, DF.R.bindN_ok, DF.SR.bind_nx, DF.SR.bind_ret, ofO, ths, setV, setF, free, set2, set3, fnRes, startE, startC, outs, argsD, putD, ioIx, isMu, look, muL, ltD_ap, leD_ap, gtD_ap, geD_ap, addD_ap, subD_ap, negD_ap, absD_ap, intD_ap, intD_apB, eq_int, ne_int, ixD, L2.atI, L2.ixN, lenD, gcdD, max2D, min2D, m1, m2, h1, h2, h3]
theorem rk4 (c0 c3 c4 c5 c6 c8 : Option Cell) (x y : D) (u : Int) (hu : u = 0 ∨ u = 1 ∨ u = -1) (e1 : F_compare [(false, x), (false, y)] = .ret false (.int u) []) (e2 : F_compare [(false, y), (false, x)] = .ret false (.int (-u)) []) :
    (dIf (dOr (dTst (dBin neD1 (oD (dCal rprD (aCons (oD (dV (dCal2 2 F_compare (rVal (dVar 1) (rVal (dVar 2) (rNil)))))) (aNil)))) (oD (dCal rprD (aCons (oVar 7) (aNil)))))) (dTst (dBin neD1 (oD (dV (dCal2 2 F_compare (rVal (dVar 2) (rVal (dVar 1) (rNil)))))) (oD (dUn negD (oVar 7)))))) (dRet (dC (.bl false))) (SR.nx)) [c0, some (.val x), some (.val y), c3, c4, c5, c6, some (.val (.int u)), c8] = .nx [c0, some (.val x), some (.val y), c3, c4, c5, c6, some (.val (.int u)), c8] := by
  obtain ⟨z, r1, hz⟩ : ∃ z : Str, rprD [.int u] = some (.str z) ∧ plainD 9 (.str z) = true := by
    rcases hu with rfl | rfl | rfl
    · exact ⟨_, rfl, by decide +kernel⟩
    · exact ⟨_, rfl, by decide +kernel⟩
    · exact ⟨_, rfl, by decide +kernel⟩
  have r2 := ne_same hz
  simp [dC_ap, dVar_ap, oVar_ap, oD_ap, aNil_ap, aCons_ap, vNil_ap, vCons_ap, dBin_ap, dTst_ap, dUn_ap, dCal_ap, dSeq_ap, dNever_ap, dIf_ap, dRet_ap, dRetF_ap, dRetN_ap, dRetV_ap, dExpr_ap, dSet_ap, dSetF_ap, gsNil_ap, gsCons_ap, gTp_ap, dAsg_ap, sLst_ap, sTup_ap, sRng1_ap, sRng2_ap, dForS_ap, dTru_ap, dAnd_ap, dOr_ap, dNot_ap, dAndV_ap, dOrV_ap, dNotV_ap, dIte_ap, dChain_ap, dTup_ap, dLst_ap, dApp_ap, dSetI_ap, rNil_ap, rVal_ap, rIo_ap, dCal2_ap, dV_ap, dN_ap, tYesB_ap, dLc_ap, dIsi_ap, dPar_ap, dDic0_ap, dPar3_ap, DF.R.bind_ok, DF.R.bindS_ok, DF.R.bindN_ok, DF.SR.bind_nx, DF.SR.bind_ret, ofO, ths, setV, setF, free, set2, set3, fnRes, startE, startC, outs, argsD, putD, ioIx, isMu, look, muL, ltD_ap, leD_ap, gtD_ap, geD_ap, addD_ap, subD_ap, negD_ap, absD_ap, intD_ap, intD_apB, eq_int, ne_int, ixD, L2.atI, L2.ixN, lenD, gcdD, max2D, min2D, e1, e2, r1, r2]
theorem rk5 (c0 c3 c4 c5 c6 c7 : Option Cell) (x y p m t : D) (e1 : F_plus [(false, x), (false, y)] = .ret false p []) (e2 : F_minus [(false, x), (false, y)] = .ret false m []) (e3 : F_times [(false, x), (false, y)] = .ret false t []) :
    (dSet 8 (dLst (vCons (dV (dCal2 2 F_plus (rVal (dVar 1) (rVal (dVar 2) (rNil))))) (vCons (dV (dCal2 2 F_minus (rVal (dVar 1) (rVal (dVar 2) (rNil))))) (vCons (dV (dCal2 2 F_times (rVal (dVar 1) (rVal (dVar 2) (rNil))))) (vNil)))))) [c0, some (.val x), some (.val y), c3, c4, c5, c6, c7, none] = .nx [c0, some (.val x), some (.val y), c3, c4, c5, c6, c7, some (.val (.lst [p, m, t]))] := by
  simp [dC_ap, dVar_ap, oVar_ap, oD_ap, aNil_ap, aCons_ap, vNil_ap, vCons_ap, dBin_ap, dTst_ap, dUn_ap, dCal_ap, dSeq_ap, dNever_ap, dIf_ap, dRet_ap, dRetF_ap, dRetN_ap, dRetV_ap, dExpr_ap, dSet_ap, dSetF_ap, gsNil_ap, gsCons_ap, gTp_ap, dAsg_ap, sLst_ap, sTup_ap, sRng1_ap, sRng2_ap, dForS_ap, dTru_ap, dAnd_ap, dOr_ap, dNot_ap, dAndV_ap, dOrV_ap, dNotV_ap, dIte_ap, dChain_ap, dTup_ap, dLst_ap, dApp_ap, dSetI_ap, rNil_ap, rVal_ap, rIo_ap, dCal2_ap, dV_ap, dN_ap, tYesB_ap, dLc_ap, dIsi_ap, dPar_ap, dDic0_ap, dPar3_ap, DF.R.bind_ok, DF.R.bindS_ok, DF.R.bindN_ok, DF.SR.bind_nx, DF.SR.bind_ret, ofO, ths, setV, setF, free, set2, set3, fnRes, startE, startC, outs, argsD, putD, ioIx, isMu, look, muL, ltD_ap, leD_ap, gtD_ap, geD_ap, addD_ap, subD_ap, negD_ap, absD_ap, intD_ap, intD_apB, eq_int, ne_int, ixD, L2.atI, L2.ixN, lenD, gcdD, max2D, min2D, e1, e2, e3]
theorem rk6 (c0 c1 c2 c7 : Option Cell) (a b c e : Int) (p m t : D) (hp : plainD 9 (.lst [p, m, t]) = true) (m1 : mulD (.int a) (.int e) = some (.int (a * e))) (m2 : mulD (.int c) (.int b) = some (.int (c * b))) (m3 : mulD (.int b) (.int e) = some (.int (b * e))) (m4 : mulD (.int a) (.int c) = some (.int (a * c)))
    (e1 : F_q_ra_lowest [(false, .int (a * e + c * b)), (false, .int (b * e))] = .ret false p []) (e2 : F_q_ra_lowest [(false, .int (a * e - c * b)), (false, .int (b * e))] = .ret false m []) (e3 : F_q_ra_lowest [(false, .int (a * c)), (false, .int (b * e))] = .ret false t []) :
    (dIf (dTst (dBin neD1 (oVar 8) (oD (dLst (vCons (dV (dCal2 2 F_q_ra_lowest (rVal (dBin addD (oD (dBin mulD (oVar 3) (oVar 6))) (oD (dBin mulD (oVar 5) (oVar 4)))) (rVal (dBin mulD (oVar 4) (oVar 6)) (rNil))))) (vCons (dV (dCal2 2 F_q_ra_lowest (rVal (dBin subD (oD (dBin mulD (oVar 3) (oVar 6))) (oD (dBin mulD (oVar 5) (oVar 4)))) (rVal (dBin mulD (oVar 4) (oVar 6)) (rNil))))) (vCons (dV (dCal2 2 F_q_ra_lowest (rVal (dBin mulD (oVar 3) (oVar 5)) (rVal (dBin mulD (oVar 4) (oVar 6)) (rNil))))) (vNil)))))))) (dRet (dC (.bl false))) (SR.nx)) [c0, c1, c2, some (.val (.int a)), some (.val (.int b)), some (.val (.int c)), some (.val (.int e)), c7, some (.val (.lst [p, m, t]))] = .nx [c0, c1, c2, some (.val (.int a)), some (.val (.int b)), some (.val (.int c)), some (.val (.int e)), c7, some (.val (.lst [p, m, t]))] := by
  have q := ne_same hp
  simp [dC_ap, dVar_ap, oVar_ap, oD_ap, aNil_ap, aCons_ap, vNil_ap, vCons_ap, dBin_ap, dTst_ap, dUn_ap, dCal_ap, dSeq_ap, dNever_ap, dIf_ap, dRet_ap, dRetF_ap, dRetN_ap, dRetV_ap, dExpr_ap, dSet_ap, dSetF_ap, gsNil_ap, gsCons_ap, gTp_ap, dAsg_ap, sLst_ap, sTup_ap, sRng1_ap, sRng2_ap, dForS_ap, dTru_ap, dAnd_ap, dOr_ap, dNot_ap, dAndV_ap, dOrV_ap, dNotV_ap, dIte_ap, dChain_ap, dTup_ap, dLst_ap, dApp_ap, dSetI_ap, rNil_ap, rVal_ap, rIo_ap, dCal2_ap, dV_ap, dN_ap, tYesB_ap, dLc_ap, dIsi_ap, dPar_ap, dDic0_ap, dPar3_ap, DF.R.bind_ok, DF.R.bindS_ok, DF.R.bindN_ok, DF.SR.bind_nx, DF.SR.bind_ret, ofO, ths, setV, setF, free, set2, set3, fnRes, startE, startC, outs, argsD, putD, ioIx, isMu, look, muL, ltD_ap, leD_ap, gtD_ap, geD_ap, addD_ap, subD_ap, negD_ap, absD_ap, intD_ap, intD_apB, eq_int, ne_int, ixD, L2.atI, L2.ixN, lenD, gcdD, max2D, min2D, e1, e2, e3, m1, m2, m3, m4, q]
theorem rk7 (c0 c3 c4 c5 c6 : Option Cell) (x y p m t : D) (u : Int) (hp : plainD 9 x = true) (e1 : F_plus [(false, m), (false, y)] = .ret false x []) (e2 : F_compare [(false, m), (false, rt 0 1)] = .ret false (.int u) []) :
    (dIf (dOr (dTst (dBin neD1 (oD (dV (dCal2 2 F_plus (rVal (dBin ixD (oVar 8) (oD (dC (.int 1)))) (rVal (dVar 2) (rNil)))))) (oVar 1))) (dTst (dBin neD1 (oD (dV (dCal2 2 F_compare (rVal (dBin ixD (oVar 8) (oD (dC (.int 1)))) (rVal (dTup (vCons (dC (.int 0)) (vCons (dC (.int 1)) (vNil)))) (rNil)))))) (oVar 7)))) (dRet (dC (.bl false))) (SR.nx)) [c0, some (.val x), some (.val y), c3, c4, c5, c6, some (.val (.int u)), some (.val (.lst [p, m, t]))] = .nx [c0, some (.val x), some (.val y), c3, c4, c5, c6, some (.val (.int u)), some (.val (.lst [p, m, t]))] := by
  have q := ne_same hp
  simp [dC_ap, dVar_ap, oVar_ap, oD_ap, aNil_ap, aCons_ap, vNil_ap, vCons_ap, dBin_ap, dTst_ap, dUn_ap, dCal_ap, dSeq_ap, dNever_ap, dIf_ap, dRet_ap, dRetF_ap, dRetN_ap, dRetV_ap, dExpr_ap, dSet_ap, dSetF_ap, gsNil_ap, gsCons_ap, gTp_ap, dAsg_ap, sLst_ap, sTup_ap, sRng1_ap, sRng2_ap, dForS_ap, dTru_ap, dAnd_ap, dOr_ap, dNot_ap, dAndV_ap, dOrV_ap, dNotV_ap, dIte_ap, dChain_ap, dTup_ap, dLst_ap, dApp_ap, dSetI_ap, rNil_ap, rVal_ap, rIo_ap, dCal2_ap, dV_ap, dN_ap, tYesB_ap, dLc_ap, dIsi_ap, dPar_ap, dDic0_ap, dPar3_ap, DF.R.bind_ok, DF.R.bindS_ok, DF.R.bindN_ok, DF.SR.bind_nx, DF.SR.bind_ret, ofO, ths, setV, setF, free, set2, set3, fnRes, startE, startC, outs, argsD, putD, ioIx, isMu, look, muL, ltD_ap, leD_ap, gtD_ap, geD_ap, addD_ap, subD_ap, negD_ap, absD_ap, intD_ap, intD_apB, eq_int, ne_int, ixD, L2.atI, L2.ixN, lenD, gcdD, max2D, min2D, e1, e2, q]
theorem rk8 (c0 c7 c8 : Option Cell) (a b c e : Int) (o : D) (hp : c ≠ 0 → plainD 9 o = true) (m1 : mulD (.int a) (.int e) = some (.int (a * e))) (m2 : mulD (.int b) (.int c) = some (.int (b * c))) (e1 : c ≠ 0 → F_over [(false, rt a b), (false, rt c e)] = .ret false o []) (e2 : c ≠ 0 → F_q_ra_lowest [(false, .int (a * e)), (false, .int (b * c))] = .ret false o []) (e3 : c ≠ 0 → F_times [(false, o), (false, rt c e)] = .ret false (rt a b) []) :
    (dRet (dOrV (dBin eqD1 (oVar 5) (oD (dC (.int 0)))) (dAndV (dBin eqD1 (oD (dV (dCal2 2 F_over (rVal (dVar 1) (rVal (dVar 2) (rNil)))))) (oD (dV (dCal2 2 F_q_ra_lowest (rVal (dBin mulD (oVar 3) (oVar 6)) (rVal (dBin mulD (oVar 4) (oVar 5)) (rNil))))))) (dBin eqD1 (oD (dV (dCal2 2 F_times (rVal (dV (dCal2 2 F_over (rVal (dVar 1) (rVal (dVar 2) (rNil))))) (rVal (dVar 2) (rNil)))))) (oVar 1))))) [c0, some (.val (rt a b)), some (.val (rt c e)), some (.val (.int a)), some (.val (.int b)), some (.val (.int c)), some (.val (.int e)), c7, c8] = .ret [c0, some (.val (rt a b)), some (.val (rt c e)), some (.val (.int a)), some (.val (.int b)), some (.val (.int c)), some (.val (.int e)), c7, c8] false (.bl true) := by
  by_cases h : c = 0
  · simp [dC_ap, dVar_ap, oVar_ap, oD_ap, aNil_ap, aCons_ap, vNil_ap, vCons_ap, dBin_ap, dTst_ap, dUn_ap, dCal_ap, dSeq_ap, dNever_ap, dIf_ap, dRet_ap, dRetF_ap, dRetN_ap, dRetV_ap, dExpr_ap, dSet_ap, dSetF_ap, gsNil_ap, gsCons_ap, gTp_ap, dAsg_ap, sLst_ap, sTup_ap, sRng1_ap, sRng2_ap, dForS_ap, dTru_ap, dAnd_ap, dOr_ap, dNot_ap, dAndV_ap, dOrV_ap, dNotV_ap, dIte_ap, dChain_ap, dTup_ap, dLst_ap, dApp_ap, dSetI_ap, rNil_ap, rVal_ap, rIo_ap, dCal2_ap, dV_ap, dN_ap, tYesB_ap, dLc_ap, dIsi_ap, dPar_ap, dDic0_ap, dPar3_ap, DF.R.bind_ok, DF.R.bindS_ok, DF.R.bindN_ok, DF.SR.bind_nx, DF.SR.bind_ret, ofO, ths, setV, setF, free, set2, set3, fnRes, startE, startC, outs, argsD, putD, ioIx, isMu, look, muL, ltD_ap, leD_ap, gtD_ap, geD_ap, addD_ap, subD_ap, negD_ap, absD_ap, intD_ap, intD_apB, eq_int, ne_int, ixD, L2.atI, L2.ixN, lenD, gcdD, max2D, min2D, h]
  · have q1 := eq_same (hp h)
    have q2 := eq_same (d := rt a b) rfl
    simp [dC_ap, dVar_ap, oVar_ap, oD_ap, aNil_ap, aCons_ap, vNil_ap, vCons_ap, dBin_ap, dTst_ap, dUn_ap, dCal_ap, dSeq_ap, dNever_ap, dIf_ap, dRet_ap, dRetF_ap, dRetN_ap, dRetV_ap, dExpr_ap, dSet_ap, dSetF_ap, gsNil_ap, gsCons_ap, gTp_ap, dAsg_ap, sLst_ap, sTup_ap, sRng1_ap, sRng2_ap, dForS_ap, dTru_ap, dAnd_ap, dOr_ap, dNot_ap, dAndV_ap, dOrV_ap, dNotV_ap, dIte_ap, dChain_ap, dTup_ap, dLst_ap, dApp_ap, dSetI_ap, rNil_ap, rVal_ap, rIo_ap, dCal2_ap, dV_ap, dN_ap, tYesB_ap, dLc_ap, dIsi_ap, dPar_ap, dDic0_ap, dPar3_ap, DF.R.bind_ok, DF.R.bindS_ok, DF.R.bindN_ok, DF.SR.bind_nx, DF.SR.bind_ret, ofO, ths, setV, setF, free, set2, set3, fnRes, startE, startC, outs, argsD, putD, ioIx, isMu, look, muL, ltD_ap, leD_ap, gtD_ap, geD_ap, addD_ap, subD_ap, negD_ap, absD_ap, intD_ap, intD_apB, eq_int, ne_int, ixD, L2.atI, L2.ixN, lenD, gcdD, max2D, min2D, h, e1 h, e2 h, e3 h, m1, m2, q1, q2]
theorem cmp_cases (x y : Int) : cmp x y = 0 ∨ cmp x y = 1 ∨ cmp x y = -1 := by
  unfold cmp
  split
  · exact .inl rfl
  · split
    · exact .inr (.inr rfl)
    · exact .inr (.inl rfl)
theorem cmp_neg (x y : Int) : cmp y x = -cmp x y := by
  unfold cmp
  split <;> split <;> (try split) <;> (try split) <;> omega
theorem cmp_scale {p q x y : Int} (hq : 0 < q) (hy : 0 < y) (h : x * y = p * q) : cmp (x * 1) 0 = cmp p 0 := by
  rw [Int.mul_one]
  unfold cmp
  rcases Int.lt_trichotomy p 0 with hp | hp | hp
  · have : p * q < 0 := Int.mul_neg_of_neg_of_pos hp hq
    have hx : x < 0 := by
      apply Int.not_le.mp
      intro hx
      have := Int.mul_nonneg hx (Int.le_of_lt hy)
      omega
    rw [if_neg (by omega), if_pos hx, if_neg (by omega), if_pos hp]
  · subst hp
    rw [Int.zero_mul] at h
    have hx : x = 0 := (Int.mul_eq_zero.mp h).resolve_right (by omega)
    rw [hx]
  · have : 0 < p * q := Int.mul_pos hp hq
    have hx : 0 < x := by
      apply Int.not_le.mp
      intro hx
      have := Int.mul_nonpos_of_nonpos_of_nonneg hx (Int.le_of_lt hy)
      omega
    rw [if_neg (by omega), if_neg (by omega), if_neg (by omega), if_neg (by omega)]
theorem cmp_sub (x y : Int) : cmp (x - y) 0 = cmp x y := by
  unfold cmp
  split <;> split <;> (try split) <;> (try split) <;> omega
theorem rt_of {a b : Int} (h : Good a b) (h1 : a.natAbs ≤ 100000000000000) (h2 : b ≤ 100000000000000) : Rt a b := ⟨h, by omega, by have := h.1; omega⟩
theorem e_reckoned {n : Nat} {d : D} (h : Bag n d) (hn : n ≤ 800000) : ∃ d', Bag (n + 7) d' ∧ F_q_reckoned_right [(true, d)] = .ret false (.bl true) [d'] := by
  obtain ⟨a, b, d1, hg1, ha, hb, h1, e1⟩ := e_drawn h (by omega)
  obtain ⟨c', e', d2, hg2, hc, he, h2, e2⟩ := e_drawn h1 (by omega)
  obtain ⟨r, d3, hr0, hr1, h3, e3⟩ := e_grab (t := 4) h2 (by omega) (by decide) (sm_of (by decide))
  refine ⟨d3, h3, ?_⟩
  have hb0 := hg1.1
  obtain ⟨c, e, hce, hg, hc, he⟩ : ∃ c e : Int, (if r = 0 then rt a b else rt c' e') = rt c e ∧ Good c e ∧ c.natAbs ≤ 100000000000000 ∧ e ≤ 100000000000000 := by
    by_cases hr : r = 0
    · exact ⟨a, b, by rw [if_pos hr], hg1, ha, hb⟩
    · exact ⟨c', e', by rw [if_neg hr], hg2, hc, he⟩
  have he0 := hg.1
  have R1 := rt_of hg1 ha hb
  have R2 := rt_of hg hc he
  have m1 := mulD_ap (cm R1.sa R2.sb)
  have m2 := mulD_ap (cm R2.sa R1.sb)
  have m3 := mulD_ap (cm R1.sb R2.sb)
  have m4 := mulD_ap (cm R1.sa R2.sa)
  have m5 := mulD_ap (cm R1.sb R2.sa)
  have k1 : (a * e).natAbs ≤ 100000000000000 * 100000000000000 := abs_mul_le (by omega) (by omega)
  have k2 : (c * b).natAbs ≤ 100000000000000 * 100000000000000 := abs_mul_le (by omega) (by omega)
  have k3 : (b * e).natAbs ≤ 100000000000000 * 100000000000000 := abs_mul_le (by omega) (by omega)
  have k4 : (b * c).natAbs ≤ 100000000000000 * 100000000000000 := abs_mul_le (by omega) (by omega)
  have n3 : b * e ≠ 0 := Int.mul_ne_zero (by omega) (by omega)
  have p3 : 0 < b * e := Int.mul_pos hb0 he0
  -- the difference
  have gd := (lo_spec (t := a * e - c * b) n3).2.2
  have l1 := lo1_le (T := a * e - c * b) n3
  have l2 := lo2_le (T := a * e - c * b) n3
  have cr := lo_cross (T := a * e - c * b) n3
  have RD : Rt (lo1 (a * e - c * b) (b * e)) (lo2 (a * e - c * b) (b * e)) := ⟨gd, by omega, by omega⟩
  have f1 := e_plus RD R2
  have u1 := lo_unique (T := lo1 (a * e - c * b) (b * e) * e + c * lo2 (a * e - c * b) (b * e)) (B := lo2 (a * e - c * b) (b * e) * e) (Int.mul_ne_zero RD.b0 (by omega)) hg1 (by
    generalize lo1 (a * e - c * b) (b * e) = x at *
    generalize lo2 (a * e - c * b) (b * e) = y at *
    have : x * (b * e) = a * e * y - c * b * y := by rw [cr, Int.sub_mul]
    calc (x * e + c * y) * b = x * (b * e) + c * b * y := by
          rw [Int.add_mul]
          simp only [Int.mul_assoc, Int.mul_left_comm, Int.mul_comm]
      _ = a * e * y := by rw [this]; omega
      _ = a * (y * e) := by simp only [Int.mul_assoc, Int.mul_left_comm, Int.mul_comm])
  rw [u1.1, u1.2] at f1
  have R01 : Rt 0 1 := ⟨⟨by decide, rfl⟩, by decide, by decide⟩
  have f2 := e_compare RD R01
  rw [Int.zero_mul, cmp_scale gd.1 p3 cr, cmp_sub] at f2
  -- the quotient
  have f3 := e_compare R1 R2
  have f4 := e_compare R2 R1
  rw [cmp_neg (a * e) (c * b)] at f4
  have g1 := e_lowest (a * e + c * b) (b * e) n3 (sm_of (by omega))
  have g2 := e_lowest (a * e - c * b) (b * e) n3 (sm_of (by omega))
  have g3 := e_lowest (a * c) (b * e) n3 (sm_of (by omega))
  have hs : startE 9 [(true, d)] = [some (.mu true d), none, none, none, none, none, none, none, none] := rfl
  unfold F_q_reckoned_right B_q_reckoned_right
  rw [hs, dSeq_ap, rk0 d d1 d2 a b c' e' e1 e2, SR.bind_nx, dSeq_ap, rk1 d2 d3 _ _ r e3, SR.bind_nx, hce, dSeq_ap, rk2, SR.bind_nx, dSeq_ap, rk3 _ _ _ a b c e m1 m2, SR.bind_nx, dSeq_ap, rk4 _ _ _ _ _ _ _ _ _ (cmp_cases _ _) f3 f4, SR.bind_nx,
    dSeq_ap, rk5 _ _ _ _ _ _ _ _ _ _ _ (e_plus R1 R2) (e_minus R1 R2) (e_times R1 R2), SR.bind_nx, dSeq_ap, rk6 _ _ _ _ a b c e _ _ _ rfl m1 m2 m3 m4 g1 g2 g3, SR.bind_nx, dSeq_ap, rk7 _ _ _ _ _ _ _ _ _ _ _ rfl f1 f2, SR.bind_nx,
    rk8 _ _ _ a b c e (rt (lo1 (a * e) (b * c)) (lo2 (a * e) (b * c))) (fun _ => rfl) m1 m5 (fun hc0 => e_over R1 R2 hc0) (fun hc0 => e_lowest (a * e) (b * c) (Int.mul_ne_zero (by omega) hc0) (sm_of (by omega))) (fun hc0 => ?_)]
  · rfl
  · have n5 : b * c ≠ 0 := Int.mul_ne_zero (by omega) hc0
    have go := (lo_spec (t := a * e) n5).2.2
    have o1 := lo1_le (T := a * e) n5
    have o2 := lo2_le (T := a * e) n5
    have co := lo_cross (T := a * e) n5
    have RO : Rt (lo1 (a * e) (b * c)) (lo2 (a * e) (b * c)) := ⟨go, by omega, by omega⟩
    have f5 := e_times RO R2
    have u2 := lo_unique (T := lo1 (a * e) (b * c) * c) (B := lo2 (a * e) (b * c) * e) (Int.mul_ne_zero RO.b0 (by omega)) hg1 (by
      generalize lo1 (a * e) (b * c) = x at *
      generalize lo2 (a * e) (b * c) = y at *
      calc x * c * b = x * (b * c) := by simp only [Int.mul_assoc, Int.mul_left_comm, Int.mul_comm]
        _ = a * e * y := co
        _ = a * (y * e) := by simp only [Int.mul_assoc, Int.mul_left_comm, Int.mul_comm])
    rw [u2.1, u2.2] at f5
    exact f5
end K02

namespace K02
open PySem DF KM
theorem fl0 (d d1 : D) (t b : Int) (e1 : F_q_ra_drawn [(true, d)] = .ret false (rt t b) [d1]) :
    (dAsg (dV (dCal2 1 F_q_ra_drawn (rIo 0 (rNil)))) (gTp 2 (gsCons (setV 1) (gsCons (setV 2) (gsNil))))) [some (.mu true d), none, none, none, none, none, none, none] = .nx [some (.mu true d1), some (.val (.int t)), some (.val (.int b)), none, none, none, none, none] := by
  simp [dC_ap, dVar_ap, oVar_ap, oD_ap, aNil_ap, aCons_ap, vNil_ap, vCons_ap, dBin_ap, dTst_ap, dUn_ap, dCal_ap, dSeq_ap, dNever_ap, dIf_ap, dRet_ap, dRetF_ap, dRetN_ap, dRetV_ap, dExpr_ap, dSet_ap, dSetF_ap, gsNil_ap, gsCons_ap, gTp_ap, dAsg_ap, sLst_ap, sTup_ap, sRng1_ap, sRng2_ap, dForS_ap, dTru_ap, dAnd_ap, dOr_ap, dNot_ap, dAndV_ap, dOrV_ap, dNotV_ap, dIte_ap, dChain_ap, dTup_ap, dLst_ap, dApp_ap, dSetI_ap, rNil_ap, rVal_ap, rIo_ap, dCal2_ap, dV_ap, dN_ap, tYesB_ap, dLc_ap, dIsi_ap, dPar_ap, dDic0_ap, dPar3_ap, DF.R.bind_ok, DF.R.bindS_ok, DF.R.bindN_ok, DF.SR.bind_nx, DF.SR.bind_ret, ofO, ths, setV, setF, free, set2, set3, fnRes, startE, startC, outs, argsD, putD, ioIx, isMu, look, muL, ltD_ap, leD_ap, gtD_ap, geD_ap, addD_ap, subD_ap, negD_ap, absD_ap, intD_ap, intD_apB, eq_int, ne_int, ixD, L2.atI, L2.ixN, lenD, gcdD, max2D, min2D, e1]
theorem fl1 (d d1 : D) (t b r : Int) (e1 : F_q_grab [(true, d), (false, .int 12)] = .ret false (.int r) [d1]) (m1 : divD (.int t) (.int b) = some (.int (t.fdiv b))) :
    (dAsg (dTup (vCons (dBin divD (oVar 1) (oVar 2)) (vCons (dBin addD (oD (dC (.int 1))) (oD (dV (dCal2 2 F_q_grab (rIo 0 (rVal (dC (.int 12)) (rNil))))))) (vNil)))) (gTp 2 (gsCons (setV 3) (gsCons (setV 4) (gsNil))))) [some (.mu true d), some (.val (.int t)), some (.val (.int b)), none, none, none, none, none] = .nx [some (.mu true d1), some (.val (.int t)), some (.val (.int b)), some (.val (.int (t.fdiv b))), some (.val (.int (1 + r))), none, none, none] := by
  simp [dC_ap, dVar_ap, oVar_ap, oD_ap, aNil_ap, aCons_ap, vNil_ap, vCons_ap, dBin_ap, dTst_ap, dUn_ap, dCal_ap, dSeq_ap, dNever_ap, dIf_ap, dRet_ap, dRetF_ap, dRetN_ap, dRetV_ap, dExpr_ap, dSet_ap, dSetF_ap, gsNil_ap, gsCons_ap, gTp_ap, dAsg_ap, sLst_ap, sTup_ap, sRng1_ap, sRng2_ap, dForS_ap, dTru_ap, dAnd_ap, dOr_ap, dNot_ap, dAndV_ap, dOrV_ap, dNotV_ap, dIte_ap, dChain_ap, dTup_ap, dLst_ap, dApp_ap, dSetI_ap, rNil_ap, rVal_ap, rIo_ap, dCal2_ap, dV_ap, dN_ap, tYesB_ap, dLc_ap, dIsi_ap, dPar_ap, dDic0_ap, dPar3_ap, DF.R.bind_ok, DF.R.bindS_ok, DF.R.bindN_ok, DF.SR.bind_nx, DF.SR.bind_ret, ofO, ths, setV, setF, free, set2, set3, fnRes, startE, startC, outs, argsD, putD, ioIx, isMu, look, muL, ltD_ap, leD_ap, gtD_ap, geD_ap, addD_ap, subD_ap, negD_ap, absD_ap, intD_ap, intD_apB, eq_int, ne_int, ixD, L2.atI, L2.ixN, lenD, gcdD, max2D, min2D, e1, m1]
theorem fl2 (c0 c4 c5 c6 c7 : Option Cell) (t b q u : Int) (e1 : F_floor_of [(false, rt t b)] = .ret false (.int q) []) (e2 : F_ceiling_of [(false, rt t b)] = .ret false (.int u) []) (hu : u = q + (if t = q * b then 0 else 1)) (m1 : mulD (.int q) (.int b) = some (.int (q * b))) :
    (dIf (dTst (dBin neD1 (oD (dLst (vCons (dV (dCal2 1 F_floor_of (rVal (dTup (vCons (dVar 1) (vCons (dVar 2) (vNil)))) (rNil)))) (vCons (dV (dCal2 1 F_ceiling_of (rVal (dTup (vCons (dVar 1) (vCons (dVar 2) (vNil)))) (rNil)))) (vNil))))) (oD (dLst (vCons (dVar 3) (vCons (dBin addD (oVar 3) (oD (dCal intD (aCons (oD (dBin neD1 (oVar 1) (oD (dBin mulD (oVar 3) (oVar 2))))) (aNil))))) (vNil))))))) (dRet (dC (.bl false))) (SR.nx)) [c0, some (.val (.int t)), some (.val (.int b)), some (.val (.int q)), c4, c5, c6, c7] = .nx [c0, some (.val (.int t)), some (.val (.int b)), some (.val (.int q)), c4, c5, c6, c7] := by
  have q1 := ne_same (d := .lst [.int q, .int u]) rfl
  subst hu
  by_cases h : t = q * b
  · rw [if_pos h] at e2 q1
    simp only [Int.add_zero] at e2 q1
    simp [dC_ap, dVar_ap, oVar_ap, oD_ap, aNil_ap, aCons_ap, vNil_ap, vCons_ap, dBin_ap, dTst_ap, dUn_ap, dCal_ap, dSeq_ap, dNever_ap, dIf_ap, dRet_ap, dRetF_ap, dRetN_ap, dRetV_ap, dExpr_ap, dSet_ap, dSetF_ap, gsNil_ap, gsCons_ap, gTp_ap, dAsg_ap, sLst_ap, sTup_ap, sRng1_ap, sRng2_ap, dForS_ap, dTru_ap, dAnd_ap, dOr_ap, dNot_ap, dAndV_ap, dOrV_ap, dNotV_ap, dIte_ap, dChain_ap, dTup_ap, dLst_ap, dApp_ap, dSetI_ap, rNil_ap, rVal_ap, rIo_ap, dCal2_ap, dV_ap, dN_ap, tYesB_ap, dLc_ap, dIsi_ap, dPar_ap, dDic0_ap, dPar3_ap, DF.R.bind_ok, DF.R.bindS_ok, DF.R.bindN_ok, DF.SR.bind_nx, DF.SR.bind_ret, ofO, ths, setV, setF, free, set2, set3, fnRes, startE, startC, outs, argsD, putD, ioIx, isMu, look, muL, ltD_ap, leD_ap, gtD_ap, geD_ap, addD_ap, subD_ap, negD_ap, absD_ap, intD_ap, intD_apB, eq_int, ne_int, ixD, L2.atI, L2.ixN, lenD, gcdD, max2D, min2D, e1, e2, m1, ← h, q1]
  · rw [if_neg h] at e2 q1
    simp [dC_ap, dVar_ap, oVar_ap, oD_ap, aNil_ap, aCons_ap, vNil_ap, vCons_ap, dBin_ap, dTst_ap, dUn_ap, dCal_ap, dSeq_ap, dNever_ap, dIf_ap, dRet_ap, dRetF_ap, dRetN_ap, dRetV_ap, dExpr_ap, dSet_ap, dSetF_ap, gsNil_ap, gsCons_ap, gTp_ap, dAsg_ap, sLst_ap, sTup_ap, sRng1_ap, sRng2_ap, dForS_ap, dTru_ap, dAnd_ap, dOr_ap, dNot_ap, dAndV_ap, dOrV_ap, dNotV_ap, dIte_ap, dChain_ap, dTup_ap, dLst_ap, dApp_ap, dSetI_ap, rNil_ap, rVal_ap, rIo_ap, dCal2_ap, dV_ap, dN_ap, tYesB_ap, dLc_ap, dIsi_ap, dPar_ap, dDic0_ap, dPar3_ap, DF.R.bind_ok, DF.R.bindS_ok, DF.R.bindN_ok, DF.SR.bind_nx, DF.SR.bind_ret, ofO, ths, setV, setF, free, set2, set3, fnRes, startE, startC, outs, argsD, putD, ioIx, isMu, look, muL, ltD_ap, leD_ap, gtD_ap, geD_ap, addD_ap, subD_ap, negD_ap, absD_ap, intD_ap, intD_apB, eq_int, ne_int, ixD, L2.atI, L2.ixN, lenD, gcdD, max2D, min2D, e1, e2, m1, h, q1]
theorem fl3 (c0 c4 c6 c7 : Option Cell) (t b q : Int) (m1 : mulD (.int q) (.int b) = some (.int (q * b))) :
    (dSet 5 (dBin subD (oVar 1) (oD (dBin mulD (oVar 3) (oVar 2))))) [c0, some (.val (.int t)), some (.val (.int b)), some (.val (.int q)), c4, none, c6, c7] = .nx [c0, some (.val (.int t)), some (.val (.int b)), some (.val (.int q)), c4, some (.val (.int (t - q * b))), c6, c7] := by
  simp [dC_ap, dVar_ap, oVar_ap, oD_ap, aNil_ap, aCons_ap, vNil_ap, vCons_ap, dBin_ap, dTst_ap, dUn_ap, dCal_ap, dSeq_ap, dNever_ap, dIf_ap, dRet_ap, dRetF_ap, dRetN_ap, dRetV_ap, dExpr_ap, dSet_ap, dSetF_ap, gsNil_ap, gsCons_ap, gTp_ap, dAsg_ap, sLst_ap, sTup_ap, sRng1_ap, sRng2_ap, dForS_ap, dTru_ap, dAnd_ap, dOr_ap, dNot_ap, dAndV_ap, dOrV_ap, dNotV_ap, dIte_ap, dChain_ap, dTup_ap, dLst_ap, dApp_ap, dSetI_ap, rNil_ap, rVal_ap, rIo_ap, dCal2_ap, dV_ap, dN_ap, tYesB_ap, dLc_ap, dIsi_ap, dPar_ap, dDic0_ap, dPar3_ap, DF.R.bind_ok, DF.R.bindS_ok, DF.R.bindN_ok, DF.SR.bind_nx, DF.SR.bind_ret, ofO, ths, setV, setF, free, set2, set3, fnRes, startE, startC, outs, argsD, putD, ioIx, isMu, look, muL, ltD_ap, leD_ap, gtD_ap, geD_ap, addD_ap, subD_ap, negD_ap, absD_ap, intD_ap, intD_apB, eq_int, ne_int, ixD, L2.atI, L2.ixN, lenD, gcdD, max2D, min2D, m1]
theorem fl4 (c0 c3 c4 c6 c7 : Option Cell) (t b r : Int) (e1 : F_part_of [(false, rt t b)] = .ret false (if r = 0 then rt 1 1 else rt r b) []) (e2 : F_q_ra_lowest [(false, .int r), (false, .int b)] = .ret false (rt r b) []) :
    (dIf (dTst (dBin neD1 (oD (dV (dCal2 1 F_part_of (rVal (dTup (vCons (dVar 1) (vCons (dVar 2) (vNil)))) (rNil))))) (oD (dIte (dTst (dBin eqD1 (oVar 5) (oD (dC (.int 0))))) (dTup (vCons (dC (.int 1)) (vCons (dC (.int 1)) (vNil)))) (dV (dCal2 2 F_q_ra_lowest (rVal (dVar 5) (rVal (dVar 2) (rNil))))))))) (dRet (dC (.bl false))) (SR.nx)) [c0, some (.val (.int t)), some (.val (.int b)), c3, c4, some (.val (.int r)), c6, c7] = .nx [c0, some (.val (.int t)), some (.val (.int b)), c3, c4, some (.val (.int r)), c6, c7] := by
  have q1 := ne_same (d := rt 1 1) rfl
  have q2 := ne_same (d := rt r b) rfl
  by_cases h : r = 0
  · rw [if_pos h] at e1
    simp [dC_ap, dVar_ap, oVar_ap, oD_ap, aNil_ap, aCons_ap, vNil_ap, vCons_ap, dBin_ap, dTst_ap, dUn_ap, dCal_ap, dSeq_ap, dNever_ap, dIf_ap, dRet_ap, dRetF_ap, dRetN_ap, dRetV_ap, dExpr_ap, dSet_ap, dSetF_ap, gsNil_ap, gsCons_ap, gTp_ap, dAsg_ap, sLst_ap, sTup_ap, sRng1_ap, sRng2_ap, dForS_ap, dTru_ap, dAnd_ap, dOr_ap, dNot_ap, dAndV_ap, dOrV_ap, dNotV_ap, dIte_ap, dChain_ap, dTup_ap, dLst_ap, dApp_ap, dSetI_ap, rNil_ap, rVal_ap, rIo_ap, dCal2_ap, dV_ap, dN_ap, tYesB_ap, dLc_ap, dIsi_ap, dPar_ap, dDic0_ap, dPar3_ap, DF.R.bind_ok, DF.R.bindS_ok, DF.R.bindN_ok, DF.SR.bind_nx, DF.SR.bind_ret, ofO, ths, setV, setF, free, set2, set3, fnRes, startE, startC, outs, argsD, putD, ioIx, isMu, look, muL, ltD_ap, leD_ap, gtD_ap, geD_ap, addD_ap, subD_ap, negD_ap, absD_ap, intD_ap, intD_apB, eq_int, ne_int, ixD, L2.atI, L2.ixN, lenD, gcdD, max2D, min2D, e1, h, q1]
  · rw [if_neg h] at e1
    simp [dC_ap, dVar_ap, oVar_ap, oD_ap, aNil_ap, aCons_ap, vNil_ap, vCons_ap, dBin_ap, dTst_ap, dUn_ap, dCal_ap, dSeq_ap, dNever_ap, dIf_ap, dRet_ap, dRetF_ap, dRetN_ap, dRetV_ap, dExpr_ap, dSet_ap, dSetF_ap, gsNil_ap, gsCons_ap, gTp_ap, dAsg_ap, sLst_ap, sTup_ap, sRng1_ap, sRng2_ap, dForS_ap, dTru_ap, dAnd_ap, dOr_ap, dNot_ap, dAndV_ap, dOrV_ap, dNotV_ap, dIte_ap, dChain_ap, dTup_ap, dLst_ap, dApp_ap, dSetI_ap, rNil_ap, rVal_ap, rIo_ap, dCal2_ap, dV_ap, dN_ap, tYesB_ap, dLc_ap, dIsi_ap, dPar_ap, dDic0_ap, dPar3_ap, DF.R.bind_ok, DF.R.bindS_ok, DF.R.bindN_ok, DF.SR.bind_nx, DF.SR.bind_ret, ofO, ths, setV, setF, free, set2, set3, fnRes, startE, startC, outs, argsD, putD, ioIx, isMu, look, muL, ltD_ap, leD_ap, gtD_ap, geD_ap, addD_ap, subD_ap, negD_ap, absD_ap, intD_ap, intD_apB, eq_int, ne_int, ixD, L2.atI, L2.ixN, lenD, gcdD, max2D, min2D, e1, e2, h, q2]
def fE : DEnv → DF.R D := dV (dCal2 1 F_floor_of (rVal (dV (dCal2 2 F_plus (rVal (dTup (vCons (dVar 1) (vCons (dVar 2) (vNil)))) (rVal (dV (dCal2 2 F_lowest (rVal (dVar 6) (rVal (dVar 4) (rNil))))) (rNil))))) (rNil)))
theorem fE_ap {t b m k : Int} (c0 c3 c5 c7 : Option Cell) (h : Rt t b) (ht : t.natAbs ≤ 100000000000000) (hb : b ≤ 100000000000000) (hm : 0 < m) (hm2 : m ≤ 12) (hk : 0 ≤ k) (hk2 : k < m) :
    fE [c0, some (.val (.int t)), some (.val (.int b)), c3, some (.val (.int m)), c5, some (.val (.int k)), c7] = .ok [c0, some (.val (.int t)), some (.val (.int b)), c3, some (.val (.int m)), c5, some (.val (.int k)), c7] (.int (((m * t).fdiv b + k).fdiv m)) := by
  have hb0 := h.g.1
  have hm0 : m ≠ 0 := by omega
  have g := (lo_spec (t := k) hm0).2.2
  have l1 := lo1_le (T := k) hm0
  have l2 := lo2_le (T := k) hm0
  have cr := lo_cross (T := k) hm0
  have e1 := e_plowest k m hm0 (by omega) (by omega)
  have RK : Rt (lo1 k m) (lo2 k m) := ⟨g, by omega, by omega⟩
  have e2 := e_plus h RK
  have hg1 := g.1
  generalize lo1 k m = x at *
  generalize lo2 k m = y at *
  have n2 : b * y ≠ 0 := Int.mul_ne_zero (by omega) (by omega)
  have p2 : 0 < b * y := Int.mul_pos hb0 hg1
  have b1 : (t * y).natAbs ≤ 100000000000000 * 12 := abs_mul_le (by omega) (by omega)
  have b2 : (x * b).natAbs ≤ 12 * 100000000000000 := abs_mul_le (by omega) (by omega)
  have b3 : (b * y).natAbs ≤ 100000000000000 * 12 := abs_mul_le (by omega) (by omega)
  have g2 := (lo_spec (t := t * y + x * b) n2).2.2
  have l3 := lo1_le (T := t * y + x * b) n2
  have l4 := lo2_le (T := t * y + x * b) n2
  have e3 := e_floor (a := lo1 (t * y + x * b) (b * y)) (b := lo2 (t * y + x * b) (b * y)) ⟨g2, by omega, by omega⟩
  rw [lo_floor p2, floor_cross (c := t * m + k * b) (d := b * m) p2 (Int.mul_pos hb0 hm) (by
    calc (t * y + x * b) * (b * m) = t * y * (b * m) + x * m * (b * b) := by
          rw [Int.add_mul]
          simp only [Int.mul_assoc, Int.mul_left_comm, Int.mul_comm]
      _ = t * y * (b * m) + k * y * (b * b) := by rw [cr]
      _ = (t * m + k * b) * (b * y) := by
          rw [Int.add_mul]
          simp only [Int.mul_assoc, Int.mul_left_comm, Int.mul_comm]), floor_split hb0 hm] at e3
  simp [fE, dC_ap, dVar_ap, oVar_ap, oD_ap, aNil_ap, aCons_ap, vNil_ap, vCons_ap, dBin_ap, dTst_ap, dUn_ap, dCal_ap, dSeq_ap, dNever_ap, dIf_ap, dRet_ap, dRetF_ap, dRetN_ap, dRetV_ap, dExpr_ap, dSet_ap, dSetF_ap, gsNil_ap, gsCons_ap, gTp_ap, dAsg_ap, sLst_ap, sTup_ap, sRng1_ap, sRng2_ap, dForS_ap, dTru_ap, dAnd_ap, dOr_ap, dNot_ap, dAndV_ap, dOrV_ap, dNotV_ap, dIte_ap, dChain_ap, dTup_ap, dLst_ap, dApp_ap, dSetI_ap, rNil_ap, rVal_ap, rIo_ap, dCal2_ap, dV_ap, dN_ap, tYesB_ap, dLc_ap, dIsi_ap, dPar_ap, dDic0_ap, dPar3_ap, DF.R.bind_ok, DF.R.bindS_ok, DF.R.bindN_ok, DF.SR.bind_nx, DF.SR.bind_ret, ofO, ths, setV, setF, free, set2, set3, fnRes, startE, startC, outs, argsD, putD, ioIx, isMu, look, muL, ltD_ap, leD_ap, gtD_ap, geD_ap, addD_ap, subD_ap, negD_ap, absD_ap, intD_ap, intD_apB, eq_int, ne_int, ixD, L2.atI, L2.ixN, lenD, gcdD, max2D, min2D, e1, e2, e3]
theorem f_loop {t b m : Int} (c0 c3 c5 : Option Cell) (h : Rt t b) (ht : t.natAbs ≤ 100000000000000) (hb : b ≤ 100000000000000) (hm : 0 < m) (hm2 : m ≤ 12) : ∀ (ks : List Nat) (acc : List D), (∀ k ∈ ks, (k : Int) < m) → acc.length + ks.length ≤ 1000 →
    dLcGo (setV 6) tYesB fE [6] (ks.map fun (k : Nat) => D.int (0 + (k : Int))) acc [c0, some (.val (.int t)), some (.val (.int b)), c3, some (.val (.int m)), c5, none, none] = .ok [c0, some (.val (.int t)), some (.val (.int b)), c3, some (.val (.int m)), c5, none, none] (.lst (acc ++ (ks.map fun (k : Nat) => D.int (((m * t).fdiv b + k).fdiv m))))
  | [], acc, _, _ => by simp [dLcGo]
  | k :: ks, acc, hk, hl => by
    have ih := f_loop c0 c3 c5 h ht hb hm hm2 ks (acc ++ [D.int (((m * t).fdiv b + k).fdiv m)]) (fun x hx => hk x (List.mem_cons_of_mem _ hx)) (by simp at hl ⊢; omega)
    have e := fE_ap c0 c3 c5 none h ht hb hm hm2 (k := k) (by omega) (hk k List.mem_cons_self)
    have hl' : acc.length < 16000000 := by simp at hl; omega
    rw [List.map_cons, List.map_cons]
    unfold dLcGo
    simp [setV, free, tYesB, R.bindN_ok, e, noMu, wipeE, hl']
    rw [List.append_assoc] at ih
    simpa using ih
theorem fl5 {t b m : Int} (c0 c3 c5 : Option Cell) (h : Rt t b) (ht : t.natAbs ≤ 100000000000000) (hb : b ≤ 100000000000000) (hm : 0 < m) (hm2 : m ≤ 12) :
    (dSet 7 (dLc (sRng1 (vCons (dVar 4) (vNil))) (setV 6) (tYesB) (dV (dCal2 1 F_floor_of (rVal (dV (dCal2 2 F_plus (rVal (dTup (vCons (dVar 1) (vCons (dVar 2) (vNil)))) (rVal (dV (dCal2 2 F_lowest (rVal (dVar 6) (rVal (dVar 4) (rNil))))) (rNil))))) (rNil)))) [6])) [c0, some (.val (.int t)), some (.val (.int b)), c3, some (.val (.int m)), c5, none, none] = .nx [c0, some (.val (.int t)), some (.val (.int b)), c3, some (.val (.int m)), c5, none, some (.val (.lst ((List.range m.toNat).map fun (k : Nat) => D.int (((m * t).fdiv b + k).fdiv m))))] := by
  have e := f_loop c0 c3 c5 h ht hb hm hm2 (List.range m.toNat) [] (fun k hk => by have := List.mem_range.mp hk; omega) (by simp; omega)
  have hr : inR m = true := by
    unfold inR
    rw [Bool.and_eq_true]
    exact ⟨decide_eq_true (by omega), decide_eq_true (by omega)⟩
  rw [show (dV (dCal2 1 F_floor_of (rVal (dV (dCal2 2 F_plus (rVal (dTup (vCons (dVar 1) (vCons (dVar 2) (vNil)))) (rVal (dV (dCal2 2 F_lowest (rVal (dVar 6) (rVal (dVar 4) (rNil))))) (rNil))))) (rNil)))) = fE from rfl]
  rw [List.nil_append] at e
  have e' : dLcGo (setV 6) tYesB fE [6] (rng 0 m.toNat) [] [c0, some (.val (.int t)), some (.val (.int b)), c3, some (.val (.int m)), c5, none, none] = _ := e
  simp [dSet_ap, dLc_ap, sRng1_ap, vCons_ap, vNil_ap, dVar_ap, R.bind_ok, R.bindS_ok, hr, noMu, wipeE, e', setV, free]
theorem sum_range (N m : Int) : ∀ n : Nat, ((List.range n).map fun (k : Nat) => (N + k).fdiv m).sum = fsum N m n
  | 0 => rfl
  | n + 1 => by
    rw [List.range_succ, List.map_append, List.sum_append, sum_range N m n]
    simp [fsum]
theorem fl6 (c0 c3 c5 c6 : Option Cell) (t b m N : Int) (l : List Int) (z : D) (e1 : F_times [(false, rt m 1), (false, rt t b)] = .ret false z []) (e2 : F_floor_of [(false, z)] = .ret false (.int N) []) (hl : l.sum = N) :
    (dRet (dBin eqD1 (oD (dCal sumD (aCons (oVar 7) (aNil)))) (oD (dV (dCal2 1 F_floor_of (rVal (dV (dCal2 2 F_times (rVal (dTup (vCons (dVar 4) (vCons (dC (.int 1)) (vNil)))) (rVal (dTup (vCons (dVar 1) (vCons (dVar 2) (vNil)))) (rNil))))) (rNil))))))) [c0, some (.val (.int t)), some (.val (.int b)), c3, some (.val (.int m)), c5, c6, some (.val (.lst (l.map D.int)))] = .ret [c0, some (.val (.int t)), some (.val (.int b)), c3, some (.val (.int m)), c5, c6, some (.val (.lst (l.map D.int)))] false (.bl true) := by
  have q : sumD [.lst (l.map D.int)] = some (.int l.sum) := by
    unfold sumD
    simp [DF.listOf, intsD_map]
  simp [dC_ap, dVar_ap, oVar_ap, oD_ap, aNil_ap, aCons_ap, vNil_ap, vCons_ap, dBin_ap, dTst_ap, dUn_ap, dCal_ap, dSeq_ap, dNever_ap, dIf_ap, dRet_ap, dRetF_ap, dRetN_ap, dRetV_ap, dExpr_ap, dSet_ap, dSetF_ap, gsNil_ap, gsCons_ap, gTp_ap, dAsg_ap, sLst_ap, sTup_ap, sRng1_ap, sRng2_ap, dForS_ap, dTru_ap, dAnd_ap, dOr_ap, dNot_ap, dAndV_ap, dOrV_ap, dNotV_ap, dIte_ap, dChain_ap, dTup_ap, dLst_ap, dApp_ap, dSetI_ap, rNil_ap, rVal_ap, rIo_ap, dCal2_ap, dV_ap, dN_ap, tYesB_ap, dLc_ap, dIsi_ap, dPar_ap, dDic0_ap, dPar3_ap, DF.R.bind_ok, DF.R.bindS_ok, DF.R.bindN_ok, DF.SR.bind_nx, DF.SR.bind_ret, ofO, ths, setV, setF, free, set2, set3, fnRes, startE, startC, outs, argsD, putD, ioIx, isMu, look, muL, ltD_ap, leD_ap, gtD_ap, geD_ap, addD_ap, subD_ap, negD_ap, absD_ap, intD_ap, intD_apB, eq_int, ne_int, ixD, L2.atI, L2.ixN, lenD, gcdD, max2D, min2D, e1, e2, q, hl]
theorem ceil_eq {t b : Int} (hb : 0 < b) : -((-t).fdiv b) = t.fdiv b + (if t = t.fdiv b * b then 0 else 1) := by
  rw [fd (Int.le_of_lt hb), fd (Int.le_of_lt hb)]
  have h1 := Int.emod_add_mul_ediv t b
  have h2 := Int.emod_nonneg t (show b ≠ 0 by omega)
  have h3 := Int.emod_lt_of_pos t hb
  generalize t / b = q at *
  generalize t % b = r at *
  by_cases hr : r = 0
  · have : -t / b = -q := ((Int.ediv_emod_unique hb (r := 0)).mpr ⟨by rw [Int.mul_neg]; omega, by omega, hb⟩).1
    rw [if_pos (by rw [Int.mul_comm]; omega), this]
    omega
  · have : -t / b = -q - 1 := ((Int.ediv_emod_unique hb (r := b - r)).mpr ⟨by rw [Int.mul_sub, Int.mul_neg]; omega, by omega, by omega⟩).1
    rw [if_neg (by rw [Int.mul_comm]; omega), this]
    omega
end K02

namespace K02
open PySem DF KM
set_option maxHeartbeats 200000 in
theorem e_floors {n : Nat} {d : D} (h : Bag n d) (hn : n ≤ 800000) : ∃ d', Bag (n + 4) d' ∧ F_q_floors_right [(true, d)] = .ret false (.bl true) [d'] := by
  obtain ⟨t, b, d1, hg, ht, hb, h1, e1⟩ := e_drawn h (by omega)
  obtain ⟨r, d2, hr0, hr1, h2, e2⟩ := e_grab (t := 12) h1 (by omega) (by decide) (sm_of (by decide))
  refine ⟨d2, h2, ?_⟩
  have hb0 := hg.1
  have R := rt_of hg ht hb
  have dv := divD_ap (cd (i := t) R.b0 R.sb)
  have hq : (t.fdiv b).natAbs ≤ 100000000000000 := by
    rw [fd (Int.le_of_lt hb0)]
    have := Int.natAbs_ediv_le_natAbs t b
    omega
  have m1 := mulD_ap (i := t.fdiv b) (j := b) (cm (sm_of (by omega)) R.sb)
  have f1 := e_floor R
  have f2 := e_ceil R
  have hrest : t - t.fdiv b * b = t.fmod b := by
    rw [fd (Int.le_of_lt hb0), fm hb0]
    have := Int.emod_add_mul_ediv t b
    rw [Int.mul_comm]
    omega
  have hr2 : 0 ≤ t.fmod b := by rw [fm hb0]; exact Int.emod_nonneg _ (by omega)
  have f3 := e_part R
  have f4 := e_lowest (t.fmod b) b (by omega) R.sb
  have u := lo_unique (T := t.fmod b) (B := b) (by omega) (good_rest hg) rfl
  rw [u.1, u.2] at f4
  have f3' : F_part_of [(false, rt t b)] = .ret false (if t.fmod b = 0 then rt 1 1 else rt (t.fmod b) b) [] := by
    rw [f3]
    by_cases hz : t.fmod b = 0
    · rw [if_neg (by omega), if_pos hz]
    · rw [if_pos (by omega), if_neg hz]
  have RM : Rt (1 + r) 1 := ⟨⟨by decide, Nat.gcd_one_right _⟩, by omega, by decide⟩
  have f5 := e_times RM R
  have n5 : 1 * b ≠ 0 := by omega
  have b5 : ((1 + r) * t).natAbs ≤ 12 * 100000000000000 := abs_mul_le (by omega) (by omega)
  have g5 := (lo_spec (t := (1 + r) * t) n5).2.2
  have l5 := lo1_le (T := (1 + r) * t) n5
  have l6 := lo2_le (T := (1 + r) * t) n5
  have f6 := e_floor (a := lo1 ((1 + r) * t) (1 * b)) (b := lo2 ((1 + r) * t) (1 * b)) ⟨g5, by omega, by omega⟩
  rw [lo_floor (by omega), Int.one_mul] at f6
  rw [Int.one_mul] at f5
  have hsum : ((List.range (1 + r).toNat).map fun (k : Nat) => (((1 + r) * t).fdiv b + k).fdiv (1 + r)).sum = ((1 + r) * t).fdiv b := by
    have := fsum_all (((1 + r) * t).fdiv b) (1 + r).toNat (by omega)
    rw [Int.toNat_of_nonneg (by omega)] at this
    rw [sum_range, this]
  have hs : startE 8 [(true, d)] = [some (.mu true d), none, none, none, none, none, none, none] := rfl
  unfold F_q_floors_right B_q_floors_right
  rw [hs, dSeq_ap, fl0 d d1 t b e1, SR.bind_nx]
  rw [dSeq_ap, fl1 d1 d2 t b r e2 dv, SR.bind_nx]
  rw [dSeq_ap, fl2 _ _ _ _ _ t b _ _ f1 f2 (ceil_eq hb0) m1, SR.bind_nx]
  rw [dSeq_ap, fl3 _ _ _ _ t b _ m1, SR.bind_nx, hrest]
  rw [dSeq_ap, fl4 _ _ _ _ _ t b _ f3' f4, SR.bind_nx]
  rw [dSeq_ap, fl5 _ _ _ R ht hb (by omega) (by omega), SR.bind_nx]
  rw [show ((List.range (1 + r).toNat).map fun (k : Nat) => D.int ((((1 + r) * t).fdiv b + k).fdiv (1 + r))) = (((List.range (1 + r).toNat).map fun (k : Nat) => (((1 + r) * t).fdiv b + k).fdiv (1 + r)).map D.int) by rw [List.map_map]; rfl]
  rw [fl6 _ _ _ _ t b (1 + r) _ _ _ f5 f6 hsum]
  rfl
end K02

namespace K02
open PySem DF KM
/-! ### how often, in both ways -/
def twT : DEnv → DF.R Bool := dTst (dBin eqD1 (oD (dBin modD (oVar 3) (oVar 0))) (oD (dC (.int 0))))
def twB : DEnv → SR := dSeq (dSet 3 (dBin divD (oVar 3) (oVar 0)))
    (dSet 2 (dBin addD (oVar 2) (oD (dC (.int 1)))))
theorem twT_ap {p n k l : Int} (hp : p ≠ 0) : twT [some (.val (.int p)), some (.val (.int n)), some (.val (.int k)), some (.val (.int l))] = .ok [some (.val (.int p)), some (.val (.int n)), some (.val (.int k)), some (.val (.int l))] (decide (l.fmod p = 0)) := by
  simp [twT, dC_ap, dVar_ap, oVar_ap, oD_ap, aNil_ap, aCons_ap, vNil_ap, vCons_ap, dBin_ap, dTst_ap, dUn_ap, dCal_ap, dSeq_ap, dNever_ap, dIf_ap, dRet_ap, dRetF_ap, dRetN_ap, dRetV_ap, dExpr_ap, dSet_ap, dSetF_ap, gsNil_ap, gsCons_ap, gTp_ap, dAsg_ap, sLst_ap, sTup_ap, sRng1_ap, sRng2_ap, dForS_ap, dTru_ap, dAnd_ap, dOr_ap, dNot_ap, dAndV_ap, dOrV_ap, dNotV_ap, dIte_ap, dChain_ap, dTup_ap, dLst_ap, dApp_ap, dSetI_ap, rNil_ap, rVal_ap, rIo_ap, dCal2_ap, dV_ap, dN_ap, tYesB_ap, dLc_ap, dIsi_ap, dPar_ap, dDic0_ap, dPar3_ap, DF.R.bind_ok, DF.R.bindS_ok, DF.R.bindN_ok, DF.SR.bind_nx, DF.SR.bind_ret, ofO, ths, setV, setF, free, set2, set3, fnRes, startE, startC, outs, argsD, putD, ioIx, isMu, look, muL, ltD_ap, leD_ap, gtD_ap, geD_ap, addD_ap, subD_ap, negD_ap, absD_ap, intD_ap, intD_apB, eq_int, ne_int, ixD, L2.atI, L2.ixN, lenD, gcdD, max2D, min2D, modD_ap hp]
theorem twB_ap {p n k l : Int} (hp : p ≠ 0) (hs : Sm p) : twB [some (.val (.int p)), some (.val (.int n)), some (.val (.int k)), some (.val (.int l))] = .nx [some (.val (.int p)), some (.val (.int n)), some (.val (.int (k + 1))), some (.val (.int (l.fdiv p)))] := by
  simp [twB, dC_ap, dVar_ap, oVar_ap, oD_ap, aNil_ap, aCons_ap, vNil_ap, vCons_ap, dBin_ap, dTst_ap, dUn_ap, dCal_ap, dSeq_ap, dNever_ap, dIf_ap, dRet_ap, dRetF_ap, dRetN_ap, dRetV_ap, dExpr_ap, dSet_ap, dSetF_ap, gsNil_ap, gsCons_ap, gTp_ap, dAsg_ap, sLst_ap, sTup_ap, sRng1_ap, sRng2_ap, dForS_ap, dTru_ap, dAnd_ap, dOr_ap, dNot_ap, dAndV_ap, dOrV_ap, dNotV_ap, dIte_ap, dChain_ap, dTup_ap, dLst_ap, dApp_ap, dSetI_ap, rNil_ap, rVal_ap, rIo_ap, dCal2_ap, dV_ap, dN_ap, tYesB_ap, dLc_ap, dIsi_ap, dPar_ap, dDic0_ap, dPar3_ap, DF.R.bind_ok, DF.R.bindS_ok, DF.R.bindN_ok, DF.SR.bind_nx, DF.SR.bind_ret, ofO, ths, setV, setF, free, set2, set3, fnRes, startE, startC, outs, argsD, putD, ioIx, isMu, look, muL, ltD_ap, leD_ap, gtD_ap, geD_ap, addD_ap, subD_ap, negD_ap, absD_ap, intD_ap, intD_apB, eq_int, ne_int, ixD, L2.atI, L2.ixN, lenD, gcdD, max2D, min2D, divD_ap (cd (i := l) hp hs)]
theorem fmod_dvd {p l : Int} (hp : 0 < p) : l.fmod p = 0 ↔ p ∣ l := by
  rw [fm hp]
  exact (Int.dvd_iff_emod_eq_zero).symm
theorem step_dvd {p l : Int} (hp : 2 ≤ p) (hl : l ≠ 0) (hd : p ∣ l) : l = p * l.fdiv p ∧ l.fdiv p ≠ 0 ∧ 2 * (l.fdiv p).natAbs ≤ l.natAbs := by
  obtain ⟨q, rfl⟩ := hd
  have hq : (p * q).fdiv p = q := by rw [Int.mul_comm]; exact Int.mul_fdiv_cancel q (by omega)
  rw [hq]
  have hq0 : q ≠ 0 := fun z => hl (by rw [z, Int.mul_zero])
  refine ⟨rfl, hq0, ?_⟩
  rw [Int.natAbs_mul]
  exact Nat.mul_le_mul_right _ (by omega)
theorem tw_loop {p N : Int} (hp : 2 ≤ p) (hs : Sm p) : ∀ (n : Nat) (l k : Int), l ≠ 0 → l.natAbs < n → ∃ (v : Nat) (l' : Int), Val p l v ∧ dWhile twT twB n [some (.val (.int p)), some (.val (.int N)), some (.val (.int k)), some (.val (.int l))] = .nx [some (.val (.int p)), some (.val (.int N)), some (.val (.int (k + v))), some (.val (.int l'))]
  | 0, l, k, h0, h => absurd h (Nat.not_lt_zero _)
  | n + 1, l, k, h0, h => by
    rw [dWhile_succ, twT_ap (by omega), R.bindS_ok]
    by_cases hd : p ∣ l
    · obtain ⟨e, hq0, hq⟩ := step_dvd hp h0 hd
      obtain ⟨v, l', hv, hw⟩ := tw_loop (N := N) hp hs n (l.fdiv p) (k + 1) hq0 (by omega)
      refine ⟨v + 1, l', by rw [e]; rw [← e]; have := val_succ hv; rw [← e] at this; exact this, ?_⟩
      rw [decide_eq_true ((fmod_dvd (by omega)).mpr hd), twB_ap (by omega) hs]
      show dWhile twT twB n _ = _
      rw [hw, show k + 1 + (v : Int) = k + ((v + 1 : Nat) : Int) by omega]
    · refine ⟨0, l, val_zero hd, ?_⟩
      rw [decide_eq_false (fun z => hd ((fmod_dvd (by omega)).mp z))]
      simp
theorem e_tw {p n : Int} {v : Nat} (hp : 2 ≤ p) (hs : Sm p) (hn : n ≠ 0) (hv : Val p n v) : F_times_within [(false, .int p), (false, .int n)] = .ret false (.int v) [] := by
  obtain ⟨w, l', hw, e⟩ := tw_loop (N := n) hp hs (fuel [(false, .int p), (false, .int n)]) n 0 hn (by simp [fuel, intsOf]; omega)
  have hvw := val_unique (by omega) hv hw
  subst hvw
  unfold F_times_within B_times_within
  rw [show (dWhile (dTst (dBin eqD1 (oD (dBin modD (oVar 3) (oVar 0))) (oD (dC (.int 0))))) (dSeq (dSet 3 (dBin divD (oVar 3) (oVar 0)))
    (dSet 2 (dBin addD (oVar 2) (oD (dC (.int 1))))))) = dWhile twT twB from rfl]
  rw [Int.zero_add] at e
  simp [dC_ap, dVar_ap, oVar_ap, oD_ap, aNil_ap, aCons_ap, vNil_ap, vCons_ap, dBin_ap, dTst_ap, dUn_ap, dCal_ap, dSeq_ap, dNever_ap, dIf_ap, dRet_ap, dRetF_ap, dRetN_ap, dRetV_ap, dExpr_ap, dSet_ap, dSetF_ap, gsNil_ap, gsCons_ap, gTp_ap, dAsg_ap, sLst_ap, sTup_ap, sRng1_ap, sRng2_ap, dForS_ap, dTru_ap, dAnd_ap, dOr_ap, dNot_ap, dAndV_ap, dOrV_ap, dNotV_ap, dIte_ap, dChain_ap, dTup_ap, dLst_ap, dApp_ap, dSetI_ap, rNil_ap, rVal_ap, rIo_ap, dCal2_ap, dV_ap, dN_ap, tYesB_ap, dLc_ap, dIsi_ap, dPar_ap, dDic0_ap, dPar3_ap, DF.R.bind_ok, DF.R.bindS_ok, DF.R.bindN_ok, DF.SR.bind_nx, DF.SR.bind_ret, ofO, ths, setV, setF, free, set2, set3, fnRes, startE, startC, outs, argsD, putD, ioIx, isMu, look, muL, ltD_ap, leD_ap, gtD_ap, geD_ap, addD_ap, subD_ap, negD_ap, absD_ap, intD_ap, intD_apB, eq_int, ne_int, ixD, L2.atI, L2.ixN, lenD, gcdD, max2D, min2D, e]
def ofB : DEnv → SR := dIf (dTst (dBin eqD1 (oD (dBin modD (oVar 1) (oVar 0))) (oD (dC (.int 0))))) (dPar 2 1 (vCons (dBin addD (oVar 2) (oD (dC (.int 1)))) (vCons (dBin divD (oVar 1) (oVar 0)) (vNil)))) (SR.nx)
theorem ofB_yes {p l k : Int} {c : Option Cell} (hp : 2 ≤ p) (hs : Sm p) (hd : p ∣ l) : ofB [some (.val (.int p)), some (.val (.int l)), some (.val (.int k)), c] = .nx [some (.val (.int p)), some (.val (.int (l.fdiv p))), some (.val (.int (k + 1))), c] := by
  have h1 := modD_ap (i := l) (j := p) (by omega)
  rw [(fmod_dvd (by omega)).mpr hd] at h1
  simp [ofB, dC_ap, dVar_ap, oVar_ap, oD_ap, aNil_ap, aCons_ap, vNil_ap, vCons_ap, dBin_ap, dTst_ap, dUn_ap, dCal_ap, dSeq_ap, dNever_ap, dIf_ap, dRet_ap, dRetF_ap, dRetN_ap, dRetV_ap, dExpr_ap, dSet_ap, dSetF_ap, gsNil_ap, gsCons_ap, gTp_ap, dAsg_ap, sLst_ap, sTup_ap, sRng1_ap, sRng2_ap, dForS_ap, dTru_ap, dAnd_ap, dOr_ap, dNot_ap, dAndV_ap, dOrV_ap, dNotV_ap, dIte_ap, dChain_ap, dTup_ap, dLst_ap, dApp_ap, dSetI_ap, rNil_ap, rVal_ap, rIo_ap, dCal2_ap, dV_ap, dN_ap, tYesB_ap, dLc_ap, dIsi_ap, dPar_ap, dDic0_ap, dPar3_ap, DF.R.bind_ok, DF.R.bindS_ok, DF.R.bindN_ok, DF.SR.bind_nx, DF.SR.bind_ret, ofO, ths, setV, setF, free, set2, set3, fnRes, startE, startC, outs, argsD, putD, ioIx, isMu, look, muL, ltD_ap, leD_ap, gtD_ap, geD_ap, addD_ap, subD_ap, negD_ap, absD_ap, intD_ap, intD_apB, eq_int, ne_int, ixD, L2.atI, L2.ixN, lenD, gcdD, max2D, min2D, h1, divD_ap (cd (i := l) (show p ≠ 0 by omega) hs)]
theorem ofB_no {p l k : Int} {c : Option Cell} (hp : 2 ≤ p) (hd : ¬ p ∣ l) : ofB [some (.val (.int p)), some (.val (.int l)), some (.val (.int k)), c] = .nx [some (.val (.int p)), some (.val (.int l)), some (.val (.int k)), c] := by
  have h1 := modD_ap (i := l) (j := p) (by omega)
  have h2 : ¬ l.fmod p = 0 := fun z => hd ((fmod_dvd (by omega)).mp z)
  simp [ofB, dC_ap, dVar_ap, oVar_ap, oD_ap, aNil_ap, aCons_ap, vNil_ap, vCons_ap, dBin_ap, dTst_ap, dUn_ap, dCal_ap, dSeq_ap, dNever_ap, dIf_ap, dRet_ap, dRetF_ap, dRetN_ap, dRetV_ap, dExpr_ap, dSet_ap, dSetF_ap, gsNil_ap, gsCons_ap, gTp_ap, dAsg_ap, sLst_ap, sTup_ap, sRng1_ap, sRng2_ap, dForS_ap, dTru_ap, dAnd_ap, dOr_ap, dNot_ap, dAndV_ap, dOrV_ap, dNotV_ap, dIte_ap, dChain_ap, dTup_ap, dLst_ap, dApp_ap, dSetI_ap, rNil_ap, rVal_ap, rIo_ap, dCal2_ap, dV_ap, dN_ap, tYesB_ap, dLc_ap, dIsi_ap, dPar_ap, dDic0_ap, dPar3_ap, DF.R.bind_ok, DF.R.bindS_ok, DF.R.bindN_ok, DF.SR.bind_nx, DF.SR.bind_ret, ofO, ths, setV, setF, free, set2, set3, fnRes, startE, startC, outs, argsD, putD, ioIx, isMu, look, muL, ltD_ap, leD_ap, gtD_ap, geD_ap, addD_ap, subD_ap, negD_ap, absD_ap, intD_ap, intD_apB, eq_int, ne_int, ixD, L2.atI, L2.ixN, lenD, gcdD, max2D, min2D, h1, h2]
theorem of_stay {p l k : Int} (hp : 2 ≤ p) (hd : ¬ p ∣ l) : ∀ (ds : List D) (c : D), ∃ c' : D, dFor (setV 3) ofB ds [some (.val (.int p)), some (.val (.int l)), some (.val (.int k)), some (.val c)] = .nx [some (.val (.int p)), some (.val (.int l)), some (.val (.int k)), some (.val c')]
  | [], c => ⟨c, rfl⟩
  | d :: ds, c => by
    obtain ⟨c', e⟩ := of_stay (k := k) hp hd ds d
    refine ⟨c', ?_⟩
    unfold dFor
    simp [setV, free, ofB_no hp hd, e]
theorem of_loop {p : Int} (hp : 2 ≤ p) (hs : Sm p) : ∀ (ds : List D) (l k : Int) (c : D), l ≠ 0 → l.natAbs < 2 ^ ds.length → ∃ (v : Nat) (l' : Int) (c' : D), Val p l v ∧ dFor (setV 3) ofB ds [some (.val (.int p)), some (.val (.int l)), some (.val (.int k)), some (.val c)] = .nx [some (.val (.int p)), some (.val (.int l')), some (.val (.int (k + v))), some (.val c')]
  | [], l, k, c, h0, h => absurd h (by simp; omega)
  | d :: ds, l, k, c, h0, h => by
    by_cases hd : p ∣ l
    · obtain ⟨e, hq0, hq⟩ := step_dvd hp h0 hd
      obtain ⟨v, l', c', hv, hw⟩ := of_loop hp hs ds (l.fdiv p) (k + 1) d hq0 (by rw [List.length_cons, Nat.pow_succ] at h; omega)
      refine ⟨v + 1, l', c', by have := val_succ hv; rw [← e] at this; exact this, ?_⟩
      unfold dFor
      simp [setV, free, ofB_yes hp hs hd]
      rw [hw, show k + 1 + (v : Int) = k + ((v : Int) + 1) by omega]
    · obtain ⟨c', e⟩ := of_stay (k := k) hp hd (d :: ds) c
      exact ⟨0, l, c', val_zero hd, by rw [e]; simp⟩
theorem e_often {p n : Int} {v : Nat} (hp : 2 ≤ p) (hs : Sm p) (hn : n ≠ 0) (hb : n.natAbs < 2 ^ 400) (hv : Val p n v) : F_q_ra_often [(false, .int p), (false, .int n)] = .ret false (.int v) [] := by
  have hlen : (rng 0 400).length = 400 := by unfold rng; rw [List.length_map, List.length_range]
  obtain ⟨d, ds, hds⟩ : ∃ d ds, rng 0 400 = d :: ds := ⟨_, _, rfl⟩
  -- the first turn meets an empty slot
  have key : ∃ (l' : Int) (c' : Option Cell), dFor (setV 3) ofB (rng 0 400) [some (.val (.int p)), some (.val (.int n)), some (.val (.int 0)), none] = .nx [some (.val (.int p)), some (.val (.int l')), some (.val (.int v)), c'] := by
    obtain ⟨w, l', c', hw, e⟩ := of_loop hp hs (rng 0 400) n 0 .non hn (by rw [hlen]; exact hb)
    have hvw := val_unique (by omega) hv hw
    subst hvw
    rw [Int.zero_add] at e
    refine ⟨l', some (.val c'), ?_⟩
    rw [← e, hds]
    unfold dFor
    simp [setV, free]
  obtain ⟨l', c', e⟩ := key
  have hr : inR 400 = true := by decide
  unfold F_q_ra_often B_q_ra_often
  rw [show (dIf (dTst (dBin eqD1 (oD (dBin modD (oVar 1) (oVar 0))) (oD (dC (.int 0))))) (dPar 2 1 (vCons (dBin addD (oVar 2) (oD (dC (.int 1)))) (vCons (dBin divD (oVar 1) (oVar 0)) (vNil)))) (SR.nx)) = ofB from rfl]
  simp [dSeq_ap, dSet_ap, dC_ap, dForS_ap, sRng1_ap, vCons_ap, vNil_ap, dRetV_ap, R.bind_ok, R.bindS_ok, SR.bind_nx, startE, startC, setV, free, hr, e, fnRes, outs]
end K02

namespace K02
open PySem DF KM
/-! ### the primes -/
structure PrOk (p : Int) : Prop where
  pr : Pr p
  le : p ≤ 999983
  ck : F_check_prime [(false, .int p)] = .ret false .non []
theorem PrOk.sm {p : Int} (h : PrOk p) : Sm p := sm_of (by have := h.le; have := h.pr.1; omega)
theorem small_pr (p : Nat) (h2 : 2 ≤ p) (hp : p < 1000000) (h : ∀ d, d < 1000 → 2 ≤ d → d * d ≤ p → p % d ≠ 0) : Pr p :=
  pr_of h2 fun d hd hdd => h d (by
    apply Nat.lt_of_not_le
    intro hc
    have : 1000 * 1000 ≤ d * d := Nat.mul_le_mul hc hc
    omega) hd hdd
theorem po (p : Nat) (h2 : 2 ≤ p) (hp : p ≤ 999983) (h : (List.range 1000).all (fun d => decide (d < 2) || decide (p < d * d) || decide (p % d ≠ 0)) = true) (hc : F_check_prime [(false, .int (p : Int))] = .ret false .non []) : PrOk (p : Int) :=
  ⟨small_pr p h2 (by omega) fun d hd h2' hdd => by
    have := List.all_eq_true.mp h d (List.mem_range.mpr hd)
    simp only [Bool.or_eq_true, decide_eq_true_eq] at this
    omega, by omega, hc⟩
theorem po2 : PrOk 2 := po 2 (by decide) (by decide) (by decide +kernel) (by kernel_rfl)
theorem po3 : PrOk 3 := po 3 (by decide) (by decide) (by decide +kernel) (by kernel_rfl)
theorem po5 : PrOk 5 := po 5 (by decide) (by decide) (by decide +kernel) (by kernel_rfl)
theorem po7 : PrOk 7 := po 7 (by decide) (by decide) (by decide +kernel) (by kernel_rfl)
theorem po11 : PrOk 11 := po 11 (by decide) (by decide) (by decide +kernel) (by kernel_rfl)
theorem po97 : PrOk 97 := po 97 (by decide) (by decide) (by decide +kernel) (by kernel_rfl)
theorem po997 : PrOk 997 := po 997 (by decide) (by decide) (by decide +kernel) (by kernel_rfl)
theorem poG : PrOk 999983 := po 999983 (by decide) (by decide) (by decide +kernel) (by kernel_rfl)
theorem e_exp {p a b : Int} {x y : Nat} (P : PrOk p) (R : Rt a b) (h0 : a ≠ 0) (hx : Val p a x) (hy : Val p b y) : F_exponent_of [(false, .int p), (false, rt a b)] = .ret false (.int ((x : Int) - y)) [] := by
  have e1 := e_tw P.pr.1 P.sm h0 hx
  have e2 := e_tw P.pr.1 P.sm R.b0 hy
  unfold F_exponent_of B_exponent_of
  simp [dC_ap, dVar_ap, oVar_ap, oD_ap, aNil_ap, aCons_ap, vNil_ap, vCons_ap, dBin_ap, dTst_ap, dUn_ap, dCal_ap, dSeq_ap, dNever_ap, dIf_ap, dRet_ap, dRetF_ap, dRetN_ap, dRetV_ap, dExpr_ap, dSet_ap, dSetF_ap, gsNil_ap, gsCons_ap, gTp_ap, dAsg_ap, sLst_ap, sTup_ap, sRng1_ap, sRng2_ap, dForS_ap, dTru_ap, dAnd_ap, dOr_ap, dNot_ap, dAndV_ap, dOrV_ap, dNotV_ap, dIte_ap, dChain_ap, dTup_ap, dLst_ap, dApp_ap, dSetI_ap, rNil_ap, rVal_ap, rIo_ap, dCal2_ap, dV_ap, dN_ap, tYesB_ap, dLc_ap, dIsi_ap, dPar_ap, dDic0_ap, dPar3_ap, DF.R.bind_ok, DF.R.bindS_ok, DF.R.bindN_ok, DF.SR.bind_nx, DF.SR.bind_ret, ofO, ths, setV, setF, free, set2, set3, fnRes, startE, startC, outs, argsD, putD, ioIx, isMu, look, muL, ltD_ap, leD_ap, gtD_ap, geD_ap, addD_ap, subD_ap, negD_ap, absD_ap, intD_ap, intD_apB, eq_int, ne_int, ixD, L2.atI, L2.ixN, lenD, gcdD, max2D, min2D, P.ck, e_check R, h0, e1, e2]
theorem e_lexp {p a b : Int} {x y : Nat} (P : PrOk p) (R : Rt a b) (h0 : a ≠ 0) (hx : Val p a x) (hy : Val p b y) : F_q_ra_exponent [(false, .int p), (false, rt a b)] = .ret false (.int ((x : Int) - y)) [] := by
  have ba := R.a
  have bb := R.b
  have e1 := e_often P.pr.1 P.sm h0 (by omega) hx
  have e2 := e_often P.pr.1 P.sm R.b0 (by omega) hy
  unfold F_q_ra_exponent B_q_ra_exponent
  simp [dC_ap, dVar_ap, oVar_ap, oD_ap, aNil_ap, aCons_ap, vNil_ap, vCons_ap, dBin_ap, dTst_ap, dUn_ap, dCal_ap, dSeq_ap, dNever_ap, dIf_ap, dRet_ap, dRetF_ap, dRetN_ap, dRetV_ap, dExpr_ap, dSet_ap, dSetF_ap, gsNil_ap, gsCons_ap, gTp_ap, dAsg_ap, sLst_ap, sTup_ap, sRng1_ap, sRng2_ap, dForS_ap, dTru_ap, dAnd_ap, dOr_ap, dNot_ap, dAndV_ap, dOrV_ap, dNotV_ap, dIte_ap, dChain_ap, dTup_ap, dLst_ap, dApp_ap, dSetI_ap, rNil_ap, rVal_ap, rIo_ap, dCal2_ap, dV_ap, dN_ap, tYesB_ap, dLc_ap, dIsi_ap, dPar_ap, dDic0_ap, dPar3_ap, DF.R.bind_ok, DF.R.bindS_ok, DF.R.bindN_ok, DF.SR.bind_nx, DF.SR.bind_ret, ofO, ths, setV, setF, free, set2, set3, fnRes, startE, startC, outs, argsD, putD, ioIx, isMu, look, muL, ltD_ap, leD_ap, gtD_ap, geD_ap, addD_ap, subD_ap, negD_ap, absD_ap, intD_ap, intD_apB, eq_int, ne_int, ixD, L2.atI, L2.ixN, lenD, gcdD, max2D, min2D, e1, e2]
/-! ### the statements -/
theorem ex0 (d d1 : D) (p : Int) (e1 : F_q_one_of [(true, d), (false, .lst [.int 2, .int 2, .int 3, .int 5, .int 7, .int 11, .int 97, .int 997, .int 999983])] = .ret false (.int p) [d1]) :
    (dSet 1 (dV (dCal2 2 F_q_one_of (rIo 0 (rVal (dLst (vCons (dC (.int 2)) (vCons (dC (.int 2)) (vCons (dC (.int 3)) (vCons (dC (.int 5)) (vCons (dC (.int 7)) (vCons (dC (.int 11)) (vCons (dC (.int 97)) (vCons (dC (.int 997)) (vCons (dC (.int 999983)) (vNil))))))))))) (rNil)))))) [some (.mu true d), none, none, none, none, none, none, none, none] = .nx [some (.mu true d1), some (.val (.int p)), none, none, none, none, none, none, none] := by
  simp [dC_ap, dVar_ap, oVar_ap, oD_ap, aNil_ap, aCons_ap, vNil_ap, vCons_ap, dBin_ap, dTst_ap, dUn_ap, dCal_ap, dSeq_ap, dNever_ap, dIf_ap, dRet_ap, dRetF_ap, dRetN_ap, dRetV_ap, dExpr_ap, dSet_ap, dSetF_ap, gsNil_ap, gsCons_ap, gTp_ap, dAsg_ap, sLst_ap, sTup_ap, sRng1_ap, sRng2_ap, dForS_ap, dTru_ap, dAnd_ap, dOr_ap, dNot_ap, dAndV_ap, dOrV_ap, dNotV_ap, dIte_ap, dChain_ap, dTup_ap, dLst_ap, dApp_ap, dSetI_ap, rNil_ap, rVal_ap, rIo_ap, dCal2_ap, dV_ap, dN_ap, tYesB_ap, dLc_ap, dIsi_ap, dPar_ap, dDic0_ap, dPar3_ap, DF.R.bind_ok, DF.R.bindS_ok, DF.R.bindN_ok, DF.SR.bind_nx, DF.SR.bind_ret, ofO, ths, setV, setF, free, set2, set3, fnRes, startE, startC, outs, argsD, putD, ioIx, isMu, look, muL, ltD_ap, leD_ap, gtD_ap, geD_ap, addD_ap, subD_ap, negD_ap, absD_ap, intD_ap, intD_apB, eq_int, ne_int, ixD, L2.atI, L2.ixN, lenD, gcdD, max2D, min2D, e1]
theorem ex1 (c0 c1 : Option Cell) : (dSet 2 (dC (.int 1))) [c0, c1, none, none, none, none, none, none, none] = .nx [c0, c1, some (.val (.int 1)), none, none, none, none, none, none] := by
  simp [dC_ap, dVar_ap, oVar_ap, oD_ap, aNil_ap, aCons_ap, vNil_ap, vCons_ap, dBin_ap, dTst_ap, dUn_ap, dCal_ap, dSeq_ap, dNever_ap, dIf_ap, dRet_ap, dRetF_ap, dRetN_ap, dRetV_ap, dExpr_ap, dSet_ap, dSetF_ap, gsNil_ap, gsCons_ap, gTp_ap, dAsg_ap, sLst_ap, sTup_ap, sRng1_ap, sRng2_ap, dForS_ap, dTru_ap, dAnd_ap, dOr_ap, dNot_ap, dAndV_ap, dOrV_ap, dNotV_ap, dIte_ap, dChain_ap, dTup_ap, dLst_ap, dApp_ap, dSetI_ap, rNil_ap, rVal_ap, rIo_ap, dCal2_ap, dV_ap, dN_ap, tYesB_ap, dLc_ap, dIsi_ap, dPar_ap, dDic0_ap, dPar3_ap, DF.R.bind_ok, DF.R.bindS_ok, DF.R.bindN_ok, DF.SR.bind_nx, DF.SR.bind_ret, ofO, ths, setV, setF, free, set2, set3, fnRes, startE, startC, outs, argsD, putD, ioIx, isMu, look, muL, ltD_ap, leD_ap, gtD_ap, geD_ap, addD_ap, subD_ap, negD_ap, absD_ap, intD_ap, intD_apB, eq_int, ne_int, ixD, L2.atI, L2.ixN, lenD, gcdD, max2D, min2D]
def exB : DEnv → SR := dSet 2 (dBin mulD (oVar 2) (oVar 1))
theorem exB_ap {p w : Int} {c0 c3 c4 c5 c6 c7 c8 : Option Cell} (h : cMul w p = true) : exB [c0, some (.val (.int p)), some (.val (.int w)), c3, c4, c5, c6, c7, c8] = .nx [c0, some (.val (.int p)), some (.val (.int (w * p))), c3, c4, c5, c6, c7, c8] := by
  simp [exB, dC_ap, dVar_ap, oVar_ap, oD_ap, aNil_ap, aCons_ap, vNil_ap, vCons_ap, dBin_ap, dTst_ap, dUn_ap, dCal_ap, dSeq_ap, dNever_ap, dIf_ap, dRet_ap, dRetF_ap, dRetN_ap, dRetV_ap, dExpr_ap, dSet_ap, dSetF_ap, gsNil_ap, gsCons_ap, gTp_ap, dAsg_ap, sLst_ap, sTup_ap, sRng1_ap, sRng2_ap, dForS_ap, dTru_ap, dAnd_ap, dOr_ap, dNot_ap, dAndV_ap, dOrV_ap, dNotV_ap, dIte_ap, dChain_ap, dTup_ap, dLst_ap, dApp_ap, dSetI_ap, rNil_ap, rVal_ap, rIo_ap, dCal2_ap, dV_ap, dN_ap, tYesB_ap, dLc_ap, dIsi_ap, dPar_ap, dDic0_ap, dPar3_ap, DF.R.bind_ok, DF.R.bindS_ok, DF.R.bindN_ok, DF.SR.bind_nx, DF.SR.bind_ret, ofO, ths, setV, setF, free, set2, set3, fnRes, startE, startC, outs, argsD, putD, ioIx, isMu, look, muL, ltD_ap, leD_ap, gtD_ap, geD_ap, addD_ap, subD_ap, negD_ap, absD_ap, intD_ap, intD_apB, eq_int, ne_int, ixD, L2.atI, L2.ixN, lenD, gcdD, max2D, min2D, mulD_ap h]
theorem ex_loop {p : Int} (hp : 2 ≤ p) (hp2 : p ≤ 999983) (c0 c4 c5 c6 c7 c8 : Option Cell) : ∀ (ds : List D) (w : Int) (c3 : Option Cell) (k : Nat), c3 = none ∨ (∃ d, c3 = some (.val d)) → 0 < w → w.natAbs ≤ 999983 ^ k → k + ds.length ≤ 3 → ∃ (w' : Int) (c3' : Option Cell), 0 < w' ∧ w'.natAbs ≤ 999983 ^ 3 ∧ dFor (setV 3) exB ds [c0, some (.val (.int p)), some (.val (.int w)), c3, c4, c5, c6, c7, c8] = .nx [c0, some (.val (.int p)), some (.val (.int w')), c3', c4, c5, c6, c7, c8]
  | [], w, c3, k, _, hw, hk, hl => ⟨w, c3, hw, Nat.le_trans hk (Nat.pow_le_pow_right (by decide) (by simp at hl; omega)), rfl⟩
  | d :: ds, w, c3, k, hc, hw, hk, hl => by
    have hk3 : w.natAbs ≤ 999983 ^ 3 := Nat.le_trans hk (Nat.pow_le_pow_right (by decide) (by simp at hl; omega))
    have hwp : (w * p).natAbs ≤ 999983 ^ (k + 1) := by
      rw [Nat.pow_succ]
      exact abs_mul_le hk (by omega)
    obtain ⟨w', c3', h1, h2, h3⟩ := ex_loop hp hp2 c0 c4 c5 c6 c7 c8 ds (w * p) (some (.val d)) (k + 1) (.inr ⟨d, rfl⟩) (Int.mul_pos hw (by omega)) hwp (by simp at hl; omega)
    refine ⟨w', c3', h1, h2, ?_⟩
    have hcm : cMul w p = true := cm (sm_of (by omega)) (sm_of (by omega))
    unfold dFor
    rcases hc with rfl | ⟨d', rfl⟩
    · simp [setV, free, exB_ap hcm, h3]
    · simp [setV, free, exB_ap hcm, h3]
theorem ex2 {p r : Int} {d d1 : D} (hp : 2 ≤ p) (hp2 : p ≤ 999983) (hr : 0 ≤ r) (hr2 : r < 4) (e1 : F_q_grab [(true, d), (false, .int 4)] = .ret false (.int r) [d1]) : ∃ (w : Int) (c3 : Option Cell), 0 < w ∧ w.natAbs ≤ 999983 ^ 3 ∧
    (dForS (sRng1 (vCons (dV (dCal2 2 F_q_grab (rIo 0 (rVal (dC (.int 4)) (rNil))))) (vNil))) (setV 3) (dSet 2 (dBin mulD (oVar 2) (oVar 1)))) [some (.mu true d), some (.val (.int p)), some (.val (.int 1)), none, none, none, none, none, none] = .nx [some (.mu true d1), some (.val (.int p)), some (.val (.int w)), c3, none, none, none, none, none] := by
  have hlen : (rng 0 r.toNat).length ≤ 3 := by unfold rng; rw [List.length_map, List.length_range]; omega
  obtain ⟨w, c3, h1, h2, h3⟩ := ex_loop hp hp2 (some (.mu true d1)) none none none none none (rng 0 r.toNat) 1 none 0 (.inl rfl) (by decide) (by decide) (by omega)
  refine ⟨w, c3, h1, h2, ?_⟩
  have hi : inR r = true := by
    unfold inR
    rw [Bool.and_eq_true]
    exact ⟨decide_eq_true (by omega), decide_eq_true (by omega)⟩
  rw [show (dSet 2 (dBin mulD (oVar 2) (oVar 1))) = exB from rfl]
  simp [dForS_ap, sRng1_ap, vCons_ap, vNil_ap, dV_ap, dCal2_ap, rIo_ap, rVal_ap, rNil_ap, dC_ap, R.bind_ok, R.bindS_ok, isMu, argsD, putD, ioIx, e1, hi, h3]
theorem ex3 (d d1 d2 : D) (c1 c2 c3 : Option Cell) (x y : D) (e1 : F_q_ra_drawn [(true, d)] = .ret false x [d1]) (e2 : F_q_ra_drawn [(true, d1)] = .ret false y [d2]) :
    (dPar 4 5 (vCons (dV (dCal2 1 F_q_ra_drawn (rIo 0 (rNil)))) (vCons (dV (dCal2 1 F_q_ra_drawn (rIo 0 (rNil)))) (vNil)))) [some (.mu true d), c1, c2, c3, none, none, none, none, none] = .nx [some (.mu true d2), c1, c2, c3, some (.val x), some (.val y), none, none, none] := by
  simp [dC_ap, dVar_ap, oVar_ap, oD_ap, aNil_ap, aCons_ap, vNil_ap, vCons_ap, dBin_ap, dTst_ap, dUn_ap, dCal_ap, dSeq_ap, dNever_ap, dIf_ap, dRet_ap, dRetF_ap, dRetN_ap, dRetV_ap, dExpr_ap, dSet_ap, dSetF_ap, gsNil_ap, gsCons_ap, gTp_ap, dAsg_ap, sLst_ap, sTup_ap, sRng1_ap, sRng2_ap, dForS_ap, dTru_ap, dAnd_ap, dOr_ap, dNot_ap, dAndV_ap, dOrV_ap, dNotV_ap, dIte_ap, dChain_ap, dTup_ap, dLst_ap, dApp_ap, dSetI_ap, rNil_ap, rVal_ap, rIo_ap, dCal2_ap, dV_ap, dN_ap, tYesB_ap, dLc_ap, dIsi_ap, dPar_ap, dDic0_ap, dPar3_ap, DF.R.bind_ok, DF.R.bindS_ok, DF.R.bindN_ok, DF.SR.bind_nx, DF.SR.bind_ret, ofO, ths, setV, setF, free, set2, set3, fnRes, startE, startC, outs, argsD, putD, ioIx, isMu, look, muL, ltD_ap, leD_ap, gtD_ap, geD_ap, addD_ap, subD_ap, negD_ap, absD_ap, intD_ap, intD_apB, eq_int, ne_int, ixD, L2.atI, L2.ixN, lenD, gcdD, max2D, min2D, e1, e2]
theorem ex4 (c0 c1 c2 c3 : Option Cell) (a b c e : Int) :
    (dIf (dOr (dTst (dBin eqD1 (oD (dBin ixD (oVar 4) (oD (dC (.int 0))))) (oD (dC (.int 0))))) (dTst (dBin eqD1 (oD (dBin ixD (oVar 5) (oD (dC (.int 0))))) (oD (dC (.int 0)))))) (dRet (dC (.bl true))) (SR.nx)) [c0, c1, c2, c3, some (.val (rt a b)), some (.val (rt c e)), none, none, none] = if a = 0 ∨ c = 0 then .ret [c0, c1, c2, c3, some (.val (rt a b)), some (.val (rt c e)), none, none, none] false (.bl true) else .nx [c0, c1, c2, c3, some (.val (rt a b)), some (.val (rt c e)), none, none, none] := by
  by_cases h1 : a = 0
  · simp [dC_ap, dVar_ap, oVar_ap, oD_ap, aNil_ap, aCons_ap, vNil_ap, vCons_ap, dBin_ap, dTst_ap, dUn_ap, dCal_ap, dSeq_ap, dNever_ap, dIf_ap, dRet_ap, dRetF_ap, dRetN_ap, dRetV_ap, dExpr_ap, dSet_ap, dSetF_ap, gsNil_ap, gsCons_ap, gTp_ap, dAsg_ap, sLst_ap, sTup_ap, sRng1_ap, sRng2_ap, dForS_ap, dTru_ap, dAnd_ap, dOr_ap, dNot_ap, dAndV_ap, dOrV_ap, dNotV_ap, dIte_ap, dChain_ap, dTup_ap, dLst_ap, dApp_ap, dSetI_ap, rNil_ap, rVal_ap, rIo_ap, dCal2_ap, dV_ap, dN_ap, tYesB_ap, dLc_ap, dIsi_ap, dPar_ap, dDic0_ap, dPar3_ap, DF.R.bind_ok, DF.R.bindS_ok, DF.R.bindN_ok, DF.SR.bind_nx, DF.SR.bind_ret, ofO, ths, setV, setF, free, set2, set3, fnRes, startE, startC, outs, argsD, putD, ioIx, isMu, look, muL, ltD_ap, leD_ap, gtD_ap, geD_ap, addD_ap, subD_ap, negD_ap, absD_ap, intD_ap, intD_apB, eq_int, ne_int, ixD, L2.atI, L2.ixN, lenD, gcdD, max2D, min2D, h1]
  · by_cases h2 : c = 0 <;> simp [dC_ap, dVar_ap, oVar_ap, oD_ap, aNil_ap, aCons_ap, vNil_ap, vCons_ap, dBin_ap, dTst_ap, dUn_ap, dCal_ap, dSeq_ap, dNever_ap, dIf_ap, dRet_ap, dRetF_ap, dRetN_ap, dRetV_ap, dExpr_ap, dSet_ap, dSetF_ap, gsNil_ap, gsCons_ap, gTp_ap, dAsg_ap, sLst_ap, sTup_ap, sRng1_ap, sRng2_ap, dForS_ap, dTru_ap, dAnd_ap, dOr_ap, dNot_ap, dAndV_ap, dOrV_ap, dNotV_ap, dIte_ap, dChain_ap, dTup_ap, dLst_ap, dApp_ap, dSetI_ap, rNil_ap, rVal_ap, rIo_ap, dCal2_ap, dV_ap, dN_ap, tYesB_ap, dLc_ap, dIsi_ap, dPar_ap, dDic0_ap, dPar3_ap, DF.R.bind_ok, DF.R.bindS_ok, DF.R.bindN_ok, DF.SR.bind_nx, DF.SR.bind_ret, ofO, ths, setV, setF, free, set2, set3, fnRes, startE, startC, outs, argsD, putD, ioIx, isMu, look, muL, ltD_ap, leD_ap, gtD_ap, geD_ap, addD_ap, subD_ap, negD_ap, absD_ap, intD_ap, intD_apB, eq_int, ne_int, ixD, L2.atI, L2.ixN, lenD, gcdD, max2D, min2D, h1, h2]
theorem ex5 (c0 c1 c3 c5 : Option Cell) (a b w : Int) (x : D) (m1 : mulD (.int a) (.int w) = some (.int (a * w))) (e1 : F_q_ra_lowest [(false, .int (a * w)), (false, .int b)] = .ret false x []) :
    (dSet 4 (dV (dCal2 2 F_q_ra_lowest (rVal (dBin mulD (oD (dBin ixD (oVar 4) (oD (dC (.int 0))))) (oVar 2)) (rVal (dBin ixD (oVar 4) (oD (dC (.int 1)))) (rNil)))))) [c0, c1, some (.val (.int w)), c3, some (.val (rt a b)), c5, none, none, none] = .nx [c0, c1, some (.val (.int w)), c3, some (.val x), c5, none, none, none] := by
  simp [dC_ap, dVar_ap, oVar_ap, oD_ap, aNil_ap, aCons_ap, vNil_ap, vCons_ap, dBin_ap, dTst_ap, dUn_ap, dCal_ap, dSeq_ap, dNever_ap, dIf_ap, dRet_ap, dRetF_ap, dRetN_ap, dRetV_ap, dExpr_ap, dSet_ap, dSetF_ap, gsNil_ap, gsCons_ap, gTp_ap, dAsg_ap, sLst_ap, sTup_ap, sRng1_ap, sRng2_ap, dForS_ap, dTru_ap, dAnd_ap, dOr_ap, dNot_ap, dAndV_ap, dOrV_ap, dNotV_ap, dIte_ap, dChain_ap, dTup_ap, dLst_ap, dApp_ap, dSetI_ap, rNil_ap, rVal_ap, rIo_ap, dCal2_ap, dV_ap, dN_ap, tYesB_ap, dLc_ap, dIsi_ap, dPar_ap, dDic0_ap, dPar3_ap, DF.R.bind_ok, DF.R.bindS_ok, DF.R.bindN_ok, DF.SR.bind_nx, DF.SR.bind_ret, ofO, ths, setV, setF, free, set2, set3, fnRes, startE, startC, outs, argsD, putD, ioIx, isMu, look, muL, ltD_ap, leD_ap, gtD_ap, geD_ap, addD_ap, subD_ap, negD_ap, absD_ap, intD_ap, intD_apB, eq_int, ne_int, ixD, L2.atI, L2.ixN, lenD, gcdD, max2D, min2D, m1, e1]
theorem ex6 (c0 c2 c3 : Option Cell) (p f s : Int) (x y : D) (e1 : F_exponent_of [(false, .int p), (false, x)] = .ret false (.int f) []) (e2 : F_exponent_of [(false, .int p), (false, y)] = .ret false (.int s) []) :
    (dPar 6 7 (vCons (dV (dCal2 2 F_exponent_of (rVal (dVar 1) (rVal (dVar 4) (rNil))))) (vCons (dV (dCal2 2 F_exponent_of (rVal (dVar 1) (rVal (dVar 5) (rNil))))) (vNil)))) [c0, some (.val (.int p)), c2, c3, some (.val x), some (.val y), none, none, none] = .nx [c0, some (.val (.int p)), c2, c3, some (.val x), some (.val y), some (.val (.int f)), some (.val (.int s)), none] := by
  simp [dC_ap, dVar_ap, oVar_ap, oD_ap, aNil_ap, aCons_ap, vNil_ap, vCons_ap, dBin_ap, dTst_ap, dUn_ap, dCal_ap, dSeq_ap, dNever_ap, dIf_ap, dRet_ap, dRetF_ap, dRetN_ap, dRetV_ap, dExpr_ap, dSet_ap, dSetF_ap, gsNil_ap, gsCons_ap, gTp_ap, dAsg_ap, sLst_ap, sTup_ap, sRng1_ap, sRng2_ap, dForS_ap, dTru_ap, dAnd_ap, dOr_ap, dNot_ap, dAndV_ap, dOrV_ap, dNotV_ap, dIte_ap, dChain_ap, dTup_ap, dLst_ap, dApp_ap, dSetI_ap, rNil_ap, rVal_ap, rIo_ap, dCal2_ap, dV_ap, dN_ap, tYesB_ap, dLc_ap, dIsi_ap, dPar_ap, dDic0_ap, dPar3_ap, DF.R.bind_ok, DF.R.bindS_ok, DF.R.bindN_ok, DF.SR.bind_nx, DF.SR.bind_ret, ofO, ths, setV, setF, free, set2, set3, fnRes, startE, startC, outs, argsD, putD, ioIx, isMu, look, muL, ltD_ap, leD_ap, gtD_ap, geD_ap, addD_ap, subD_ap, negD_ap, absD_ap, intD_ap, intD_apB, eq_int, ne_int, ixD, L2.atI, L2.ixN, lenD, gcdD, max2D, min2D, e1, e2]
theorem ex7 (c0 c2 c3 : Option Cell) (p f s : Int) (x y : D) (e1 : F_q_ra_exponent [(false, .int p), (false, x)] = .ret false (.int f) []) (e2 : F_q_ra_exponent [(false, .int p), (false, y)] = .ret false (.int s) []) :
    (dIf (dTst (dBin neD1 (oD (dLst (vCons (dVar 6) (vCons (dVar 7) (vNil))))) (oD (dLst (vCons (dV (dCal2 2 F_q_ra_exponent (rVal (dVar 1) (rVal (dVar 4) (rNil))))) (vCons (dV (dCal2 2 F_q_ra_exponent (rVal (dVar 1) (rVal (dVar 5) (rNil))))) (vNil))))))) (dRet (dC (.bl false))) (SR.nx)) [c0, some (.val (.int p)), c2, c3, some (.val x), some (.val y), some (.val (.int f)), some (.val (.int s)), none] = .nx [c0, some (.val (.int p)), c2, c3, some (.val x), some (.val y), some (.val (.int f)), some (.val (.int s)), none] := by
  have q := ne_same (d := .lst [.int f, .int s]) rfl
  simp [dC_ap, dVar_ap, oVar_ap, oD_ap, aNil_ap, aCons_ap, vNil_ap, vCons_ap, dBin_ap, dTst_ap, dUn_ap, dCal_ap, dSeq_ap, dNever_ap, dIf_ap, dRet_ap, dRetF_ap, dRetN_ap, dRetV_ap, dExpr_ap, dSet_ap, dSetF_ap, gsNil_ap, gsCons_ap, gTp_ap, dAsg_ap, sLst_ap, sTup_ap, sRng1_ap, sRng2_ap, dForS_ap, dTru_ap, dAnd_ap, dOr_ap, dNot_ap, dAndV_ap, dOrV_ap, dNotV_ap, dIte_ap, dChain_ap, dTup_ap, dLst_ap, dApp_ap, dSetI_ap, rNil_ap, rVal_ap, rIo_ap, dCal2_ap, dV_ap, dN_ap, tYesB_ap, dLc_ap, dIsi_ap, dPar_ap, dDic0_ap, dPar3_ap, DF.R.bind_ok, DF.R.bindS_ok, DF.R.bindN_ok, DF.SR.bind_nx, DF.SR.bind_ret, ofO, ths, setV, setF, free, set2, set3, fnRes, startE, startC, outs, argsD, putD, ioIx, isMu, look, muL, ltD_ap, leD_ap, gtD_ap, geD_ap, addD_ap, subD_ap, negD_ap, absD_ap, intD_ap, intD_apB, eq_int, ne_int, ixD, L2.atI, L2.ixN, lenD, gcdD, max2D, min2D, e1, e2, q]
theorem ex8 (c0 c2 c3 : Option Cell) (p f s : Int) (x y t o : D) (e1 : F_times [(false, x), (false, y)] = .ret false t []) (e2 : F_over [(false, x), (false, y)] = .ret false o []) (e3 : F_exponent_of [(false, .int p), (false, t)] = .ret false (.int (f + s)) []) (e4 : F_exponent_of [(false, .int p), (false, o)] = .ret false (.int (f - s)) []) :
    (dIf (dOr (dTst (dBin neD1 (oD (dV (dCal2 2 F_exponent_of (rVal (dVar 1) (rVal (dV (dCal2 2 F_times (rVal (dVar 4) (rVal (dVar 5) (rNil))))) (rNil)))))) (oD (dBin addD (oVar 6) (oVar 7))))) (dTst (dBin neD1 (oD (dV (dCal2 2 F_exponent_of (rVal (dVar 1) (rVal (dV (dCal2 2 F_over (rVal (dVar 4) (rVal (dVar 5) (rNil))))) (rNil)))))) (oD (dBin subD (oVar 6) (oVar 7)))))) (dRet (dC (.bl false))) (SR.nx)) [c0, some (.val (.int p)), c2, c3, some (.val x), some (.val y), some (.val (.int f)), some (.val (.int s)), none] = .nx [c0, some (.val (.int p)), c2, c3, some (.val x), some (.val y), some (.val (.int f)), some (.val (.int s)), none] := by
  simp [dC_ap, dVar_ap, oVar_ap, oD_ap, aNil_ap, aCons_ap, vNil_ap, vCons_ap, dBin_ap, dTst_ap, dUn_ap, dCal_ap, dSeq_ap, dNever_ap, dIf_ap, dRet_ap, dRetF_ap, dRetN_ap, dRetV_ap, dExpr_ap, dSet_ap, dSetF_ap, gsNil_ap, gsCons_ap, gTp_ap, dAsg_ap, sLst_ap, sTup_ap, sRng1_ap, sRng2_ap, dForS_ap, dTru_ap, dAnd_ap, dOr_ap, dNot_ap, dAndV_ap, dOrV_ap, dNotV_ap, dIte_ap, dChain_ap, dTup_ap, dLst_ap, dApp_ap, dSetI_ap, rNil_ap, rVal_ap, rIo_ap, dCal2_ap, dV_ap, dN_ap, tYesB_ap, dLc_ap, dIsi_ap, dPar_ap, dDic0_ap, dPar3_ap, DF.R.bind_ok, DF.R.bindS_ok, DF.R.bindN_ok, DF.SR.bind_nx, DF.SR.bind_ret, ofO, ths, setV, setF, free, set2, set3, fnRes, startE, startC, outs, argsD, putD, ioIx, isMu, look, muL, ltD_ap, leD_ap, gtD_ap, geD_ap, addD_ap, subD_ap, negD_ap, absD_ap, intD_ap, intD_apB, eq_int, ne_int, ixD, L2.atI, L2.ixN, lenD, gcdD, max2D, min2D, e1, e2, e3, e4]
theorem ex9 (c0 c1 c2 c3 c6 c7 : Option Cell) (x y t : D) (e1 : F_plus [(false, x), (false, y)] = .ret false t []) :
    (dSet 8 (dV (dCal2 2 F_plus (rVal (dVar 4) (rVal (dVar 5) (rNil)))))) [c0, c1, c2, c3, some (.val x), some (.val y), c6, c7, none] = .nx [c0, c1, c2, c3, some (.val x), some (.val y), c6, c7, some (.val t)] := by
  simp [dC_ap, dVar_ap, oVar_ap, oD_ap, aNil_ap, aCons_ap, vNil_ap, vCons_ap, dBin_ap, dTst_ap, dUn_ap, dCal_ap, dSeq_ap, dNever_ap, dIf_ap, dRet_ap, dRetF_ap, dRetN_ap, dRetV_ap, dExpr_ap, dSet_ap, dSetF_ap, gsNil_ap, gsCons_ap, gTp_ap, dAsg_ap, sLst_ap, sTup_ap, sRng1_ap, sRng2_ap, dForS_ap, dTru_ap, dAnd_ap, dOr_ap, dNot_ap, dAndV_ap, dOrV_ap, dNotV_ap, dIte_ap, dChain_ap, dTup_ap, dLst_ap, dApp_ap, dSetI_ap, rNil_ap, rVal_ap, rIo_ap, dCal2_ap, dV_ap, dN_ap, tYesB_ap, dLc_ap, dIsi_ap, dPar_ap, dDic0_ap, dPar3_ap, DF.R.bind_ok, DF.R.bindS_ok, DF.R.bindN_ok, DF.SR.bind_nx, DF.SR.bind_ret, ofO, ths, setV, setF, free, set2, set3, fnRes, startE, startC, outs, argsD, putD, ioIx, isMu, look, muL, ltD_ap, leD_ap, gtD_ap, geD_ap, addD_ap, subD_ap, negD_ap, absD_ap, intD_ap, intD_apB, eq_int, ne_int, ixD, L2.atI, L2.ixN, lenD, gcdD, max2D, min2D, e1]
theorem ex10 (c0 c1 c2 c3 c4 c5 : Option Cell) (f s u w : Int) (h : u = 0 → f = s) :
    (dIf (dTst (dBin eqD1 (oD (dBin ixD (oVar 8) (oD (dC (.int 0))))) (oD (dC (.int 0))))) (dRet (dBin eqD1 (oVar 6) (oVar 7))) (SR.nx)) [c0, c1, c2, c3, c4, c5, some (.val (.int f)), some (.val (.int s)), some (.val (rt u w))] = if u = 0 then .ret [c0, c1, c2, c3, c4, c5, some (.val (.int f)), some (.val (.int s)), some (.val (rt u w))] false (.bl true) else .nx [c0, c1, c2, c3, c4, c5, some (.val (.int f)), some (.val (.int s)), some (.val (rt u w))] := by
  by_cases h1 : u = 0
  · simp [dC_ap, dVar_ap, oVar_ap, oD_ap, aNil_ap, aCons_ap, vNil_ap, vCons_ap, dBin_ap, dTst_ap, dUn_ap, dCal_ap, dSeq_ap, dNever_ap, dIf_ap, dRet_ap, dRetF_ap, dRetN_ap, dRetV_ap, dExpr_ap, dSet_ap, dSetF_ap, gsNil_ap, gsCons_ap, gTp_ap, dAsg_ap, sLst_ap, sTup_ap, sRng1_ap, sRng2_ap, dForS_ap, dTru_ap, dAnd_ap, dOr_ap, dNot_ap, dAndV_ap, dOrV_ap, dNotV_ap, dIte_ap, dChain_ap, dTup_ap, dLst_ap, dApp_ap, dSetI_ap, rNil_ap, rVal_ap, rIo_ap, dCal2_ap, dV_ap, dN_ap, tYesB_ap, dLc_ap, dIsi_ap, dPar_ap, dDic0_ap, dPar3_ap, DF.R.bind_ok, DF.R.bindS_ok, DF.R.bindN_ok, DF.SR.bind_nx, DF.SR.bind_ret, ofO, ths, setV, setF, free, set2, set3, fnRes, startE, startC, outs, argsD, putD, ioIx, isMu, look, muL, ltD_ap, leD_ap, gtD_ap, geD_ap, addD_ap, subD_ap, negD_ap, absD_ap, intD_ap, intD_apB, eq_int, ne_int, ixD, L2.atI, L2.ixN, lenD, gcdD, max2D, min2D, h1, h h1]
  · simp [dC_ap, dVar_ap, oVar_ap, oD_ap, aNil_ap, aCons_ap, vNil_ap, vCons_ap, dBin_ap, dTst_ap, dUn_ap, dCal_ap, dSeq_ap, dNever_ap, dIf_ap, dRet_ap, dRetF_ap, dRetN_ap, dRetV_ap, dExpr_ap, dSet_ap, dSetF_ap, gsNil_ap, gsCons_ap, gTp_ap, dAsg_ap, sLst_ap, sTup_ap, sRng1_ap, sRng2_ap, dForS_ap, dTru_ap, dAnd_ap, dOr_ap, dNot_ap, dAndV_ap, dOrV_ap, dNotV_ap, dIte_ap, dChain_ap, dTup_ap, dLst_ap, dApp_ap, dSetI_ap, rNil_ap, rVal_ap, rIo_ap, dCal2_ap, dV_ap, dN_ap, tYesB_ap, dLc_ap, dIsi_ap, dPar_ap, dDic0_ap, dPar3_ap, DF.R.bind_ok, DF.R.bindS_ok, DF.R.bindN_ok, DF.SR.bind_nx, DF.SR.bind_ret, ofO, ths, setV, setF, free, set2, set3, fnRes, startE, startC, outs, argsD, putD, ioIx, isMu, look, muL, ltD_ap, leD_ap, gtD_ap, geD_ap, addD_ap, subD_ap, negD_ap, absD_ap, intD_ap, intD_apB, eq_int, ne_int, ixD, L2.atI, L2.ixN, lenD, gcdD, max2D, min2D, h1]
theorem ex11 (c0 c2 c3 c4 c5 : Option Cell) (p f s z : Int) (t : D) (e1 : F_exponent_of [(false, .int p), (false, t)] = .ret false (.int z) []) (h1 : (if s < f then s else f) ≤ z) (h2 : f ≠ s → z = if s < f then s else f) :
    (dRet (dAndV (dBin geD (oD (dV (dCal2 2 F_exponent_of (rVal (dVar 1) (rVal (dVar 8) (rNil)))))) (oD (dCal min2D (aCons (oVar 6) (aCons (oVar 7) (aNil)))))) (dOrV (dBin eqD1 (oVar 6) (oVar 7)) (dBin eqD1 (oD (dV (dCal2 2 F_exponent_of (rVal (dVar 1) (rVal (dVar 8) (rNil)))))) (oD (dCal min2D (aCons (oVar 6) (aCons (oVar 7) (aNil))))))))) [c0, some (.val (.int p)), c2, c3, c4, c5, some (.val (.int f)), some (.val (.int s)), some (.val t)] = .ret [c0, some (.val (.int p)), c2, c3, c4, c5, some (.val (.int f)), some (.val (.int s)), some (.val t)] false (.bl true) := by
  by_cases h : f = s
  · subst h
    have h1' : f ≤ z := by simpa using h1
    simp [dC_ap, dVar_ap, oVar_ap, oD_ap, aNil_ap, aCons_ap, vNil_ap, vCons_ap, dBin_ap, dTst_ap, dUn_ap, dCal_ap, dSeq_ap, dNever_ap, dIf_ap, dRet_ap, dRetF_ap, dRetN_ap, dRetV_ap, dExpr_ap, dSet_ap, dSetF_ap, gsNil_ap, gsCons_ap, gTp_ap, dAsg_ap, sLst_ap, sTup_ap, sRng1_ap, sRng2_ap, dForS_ap, dTru_ap, dAnd_ap, dOr_ap, dNot_ap, dAndV_ap, dOrV_ap, dNotV_ap, dIte_ap, dChain_ap, dTup_ap, dLst_ap, dApp_ap, dSetI_ap, rNil_ap, rVal_ap, rIo_ap, dCal2_ap, dV_ap, dN_ap, tYesB_ap, dLc_ap, dIsi_ap, dPar_ap, dDic0_ap, dPar3_ap, DF.R.bind_ok, DF.R.bindS_ok, DF.R.bindN_ok, DF.SR.bind_nx, DF.SR.bind_ret, ofO, ths, setV, setF, free, set2, set3, fnRes, startE, startC, outs, argsD, putD, ioIx, isMu, look, muL, ltD_ap, leD_ap, gtD_ap, geD_ap, addD_ap, subD_ap, negD_ap, absD_ap, intD_ap, intD_apB, eq_int, ne_int, ixD, L2.atI, L2.ixN, lenD, gcdD, max2D, min2D, e1, h1']
  · have h2' := h2 h
    subst h2'
    simp [dC_ap, dVar_ap, oVar_ap, oD_ap, aNil_ap, aCons_ap, vNil_ap, vCons_ap, dBin_ap, dTst_ap, dUn_ap, dCal_ap, dSeq_ap, dNever_ap, dIf_ap, dRet_ap, dRetF_ap, dRetN_ap, dRetV_ap, dExpr_ap, dSet_ap, dSetF_ap, gsNil_ap, gsCons_ap, gTp_ap, dAsg_ap, sLst_ap, sTup_ap, sRng1_ap, sRng2_ap, dForS_ap, dTru_ap, dAnd_ap, dOr_ap, dNot_ap, dAndV_ap, dOrV_ap, dNotV_ap, dIte_ap, dChain_ap, dTup_ap, dLst_ap, dApp_ap, dSetI_ap, rNil_ap, rVal_ap, rIo_ap, dCal2_ap, dV_ap, dN_ap, tYesB_ap, dLc_ap, dIsi_ap, dPar_ap, dDic0_ap, dPar3_ap, DF.R.bind_ok, DF.R.bindS_ok, DF.R.bindN_ok, DF.SR.bind_nx, DF.SR.bind_ret, ofO, ths, setV, setF, free, set2, set3, fnRes, startE, startC, outs, argsD, putD, ioIx, isMu, look, muL, ltD_ap, leD_ap, gtD_ap, geD_ap, addD_ap, subD_ap, negD_ap, absD_ap, intD_ap, intD_apB, eq_int, ne_int, ixD, L2.atI, L2.ixN, lenD, gcdD, max2D, min2D, e1, h]
end K02

namespace K02
open PySem DF KM
theorem vx {p n : Int} (P : PrOk p) (h : n ≠ 0) : ∃ v, Val p n v := val_ex P.pr.1 _ n h (Nat.le_refl _)
theorem e_exponents {n : Nat} {d : D} (h : Bag n d) (hn : n ≤ 800000) : ∃ d', Bag (n + 8) d' ∧ F_q_exponents_right [(true, d)] = .ret false (.bl true) [d'] := by
  obtain ⟨p, d1, hm, hp2, hp3, h1, e1⟩ := e_one_int (l := [2, 2, 3, 5, 7, 11, 97, 997, 999983]) (lo := 2) (hi := 999983) h (by omega) (by decide) (by decide) (by decide)
  have P : PrOk p := by
    simp at hm
    rcases hm with rfl | rfl | rfl | rfl | rfl | rfl | rfl | rfl
    · exact po2
    · exact po3
    · exact po5
    · exact po7
    · exact po11
    · exact po97
    · exact po997
    · exact poG
  have hp0 : p ≠ 0 := by omega
  obtain ⟨r, d2, hr0, hr1, h2, e2⟩ := e_grab (t := 4) h1 (by omega) (by decide) (sm_of (by decide))
  obtain ⟨w, c3, hw0, hw1, s2⟩ := ex2 hp2 hp3 hr0 hr1 e2
  obtain ⟨a, b, d3, hg1, ha, hb, h3, e3⟩ := e_drawn h2 (by omega)
  obtain ⟨c, e, d4, hg2, hc, he, h4, e4⟩ := e_drawn h3 (by omega)
  refine ⟨d4, h4.mono (by omega), ?_⟩
  have hs : startE 9 [(true, d)] = [some (.mu true d), none, none, none, none, none, none, none, none] := rfl
  unfold F_q_exponents_right B_q_exponents_right
  rw [hs, dSeq_ap, ex0 d d1 p e1, SR.bind_nx, dSeq_ap, ex1, SR.bind_nx, dSeq_ap, s2, SR.bind_nx, dSeq_ap, ex3 d2 d3 d4 _ _ _ _ _ e3 e4, SR.bind_nx, dSeq_ap, ex4]
  by_cases hz : a = 0 ∨ c = 0
  · rw [if_pos hz, SR.bind_ret]
    rfl
  rw [if_neg hz, SR.bind_nx]
  have ha0 : a ≠ 0 := fun z => hz (.inl z)
  have hc0 : c ≠ 0 := fun z => hz (.inr z)
  have hb0 := hg1.1
  have he0 := hg2.1
  have hw1' : w.natAbs ≤ 1000000000000000000 := Nat.le_trans hw1 (by decide)
  have m1 := mulD_ap (i := a) (j := w) (cm (sm_of (by omega)) (sm_of (by omega)))
  have k1 : (a * w).natAbs ≤ 100000000000000 * 1000000000000000000 := abs_mul_le ha hw1'
  have naw : a * w ≠ 0 := Int.mul_ne_zero ha0 (by omega)
  have e5 := e_lowest (a * w) b (by omega) (sm_of (by omega))
  have g1 := (lo_spec (t := a * w) (show b ≠ 0 by omega)).2.2
  have l1 := lo1_le (T := a * w) (show b ≠ 0 by omega)
  have l2 := lo2_le (T := a * w) (show b ≠ 0 by omega)
  have cr1 := lo_cross (T := a * w) (show b ≠ 0 by omega)
  have nA : lo1 (a * w) b ≠ 0 := fun z => by
    rw [z, Int.zero_mul] at cr1
    have := g1.1
    exact (Int.mul_ne_zero naw (by omega)) cr1.symm
  have R1 : Rt (lo1 (a * w) b) (lo2 (a * w) b) := ⟨g1, by omega, by omega⟩
  have R2 := rt_of hg2 hc he
  have hB0 := g1.1
  generalize lo1 (a * w) b = A at *
  generalize lo2 (a * w) b = B at *
  obtain ⟨x1, v1⟩ := vx P nA
  obtain ⟨y1, v2⟩ := vx P R1.b0
  obtain ⟨x2, v3⟩ := vx P hc0
  obtain ⟨y2, v4⟩ := vx P R2.b0
  have f1 := e_exp P R1 nA v1 v2
  have f2 := e_exp P R2 hc0 v3 v4
  have g3 := e_lexp P R1 nA v1 v2
  have g4 := e_lexp P R2 hc0 v3 v4
  have bA : A.natAbs ≤ 100000000000000 * 1000000000000000000 := by omega
  have bB : B.natAbs ≤ 100000000000000 := by omega
  have nBe : B * e ≠ 0 := Int.mul_ne_zero (by omega) (by omega)
  have nBc : B * c ≠ 0 := Int.mul_ne_zero (by omega) hc0
  have nAc : A * c ≠ 0 := Int.mul_ne_zero nA hc0
  have nAe : A * e ≠ 0 := Int.mul_ne_zero nA (by omega)
  have q1 : (A * c).natAbs ≤ 100000000000000 * 1000000000000000000 * 100000000000000 := abs_mul_le bA hc
  have q2 : (B * e).natAbs ≤ 100000000000000 * 100000000000000 := abs_mul_le bB (by omega)
  have q3 : (A * e).natAbs ≤ 100000000000000 * 1000000000000000000 * 100000000000000 := abs_mul_le bA (by omega)
  have q4 : (B * c).natAbs ≤ 100000000000000 * 100000000000000 := abs_mul_le bB hc
  have q5 : (c * B).natAbs ≤ 100000000000000 * 100000000000000 := abs_mul_le hc bB
  have vAc := val_mul P.pr v1 v3
  have vBe := val_mul P.pr v2 v4
  have vAe := val_mul P.pr v1 v4
  have vBc := val_mul P.pr v2 v3
  have vcB := val_mul P.pr v3 v2
  -- exponents of a lowered pair
  have exq : ∀ {T U : Int} {x y : Nat}, T ≠ 0 → U ≠ 0 → T.natAbs ≤ 999999999999999999999999999999999999999999999999999999999999 → U.natAbs ≤ 999999999999999999999999999999999999999999999999999999999999 → Val p T x → Val p U y → F_exponent_of [(false, .int p), (false, rt (lo1 T U) (lo2 T U))] = .ret false (.int ((x : Int) - y)) [] ∧ lo1 T U ≠ 0 := by
    intro T U x y hT hU bT bU hx hy
    have g := (lo_spec (t := T) hU).2.2
    have i1 := lo1_le (T := T) hU
    have i2 := lo2_le (T := T) hU
    have cr := lo_cross (T := T) hU
    have n1 : lo1 T U ≠ 0 := fun z => by
      rw [z, Int.zero_mul] at cr
      have := g.1
      exact (Int.mul_ne_zero hT (by omega)) cr.symm
    have RR : Rt (lo1 T U) (lo2 T U) := ⟨g, by omega, by omega⟩
    obtain ⟨u, hu⟩ := vx P n1
    obtain ⟨z, hz⟩ := vx P RR.b0
    have := lo_val P.pr hU hx hy hu hz
    refine ⟨?_, n1⟩
    rw [e_exp P RR n1 hu hz, this]
  have t1 := (exq nAc nBe (by omega) (by omega) vAc vBe).1
  have t2 := (exq nAe nBc (by omega) (by omega) vAe vBc).1
  rw [show ((x1 + x2 : Nat) : Int) - ((y1 + y2 : Nat) : Int) = ((x1 : Int) - y1) + ((x2 : Int) - y2) by omega] at t1
  rw [show ((x1 + y2 : Nat) : Int) - ((y1 + x2 : Nat) : Int) = ((x1 : Int) - y1) - ((x2 : Int) - y2) by omega] at t2
  have f5 := e_times R1 R2
  have f6 := e_over R1 R2 hc0
  have f7 := e_plus R1 R2
  have crT := lo_cross (T := A * e + c * B) nBe
  have gT := (lo_spec (t := A * e + c * B) nBe).2.2
  have hzero : lo1 (A * e + c * B) (B * e) = 0 → A * e + c * B = 0 := fun z => by
    rw [z, Int.zero_mul] at crT
    have := gT.1
    exact (Int.mul_eq_zero.mp crT.symm).resolve_right (by omega)
  have heq : lo1 (A * e + c * B) (B * e) = 0 → (x1 : Int) - y1 = (x2 : Int) - y2 := fun z => by
    have hz0 := hzero z
    have hv := val_neg vcB
    rw [show -(c * B) = A * e by omega] at hv
    have := val_unique hp0 vAe hv
    omega
  rw [dSeq_ap, ex5 _ _ _ _ a b w _ m1 e5, SR.bind_nx, dSeq_ap, ex6 _ _ _ p _ _ _ _ f1 f2, SR.bind_nx, dSeq_ap, ex7 _ _ _ p _ _ _ _ g3 g4, SR.bind_nx, dSeq_ap, ex8 _ _ _ p _ _ _ _ _ _ f5 f6 t1 t2, SR.bind_nx, dSeq_ap, ex9 _ _ _ _ _ _ _ _ _ f7, SR.bind_nx,
    dSeq_ap, ex10 _ _ _ _ _ _ _ _ _ _ heq]
  by_cases hz1 : lo1 (A * e + c * B) (B * e) = 0
  · rw [if_pos hz1, SR.bind_ret]
    rfl
  rw [if_neg hz1, SR.bind_nx]
  have nT : A * e + c * B ≠ 0 := fun z => hz1 (by
    have : lo1 (A * e + c * B) (B * e) * (B * e) = 0 := by rw [crT, z, Int.zero_mul]
    exact (Int.mul_eq_zero.mp this).resolve_right nBe)
  obtain ⟨vt, hvt⟩ := vx P nT
  have t3 := (exq nT nBe (by omega) (by omega) hvt vBe).1
  have ge := val_add_ge hp0 vAe vcB hvt
  have eqm := val_add_eq hp0 vAe vcB hvt
  rw [ex11 _ _ _ _ _ p _ _ _ _ t3 (by split <;> omega) (fun hne => by have := eqm (by omega); split <;> omega)]
  rfl
/-! ### the law -/
theorem mulc {n : Nat} {i : Int} (h : i.natAbs ≤ 999999999999999999999999999999999999999999999999999999999999) : Sm i := sm_of (by omega)
theorem p45 : powD (.int 10) (.int 45) = some (.int (10 ^ 45)) := powD_ap (by decide +kernel)
theorem p4513 : powD (.int (10 ^ 45)) (.int 13) = some (.int ((10 ^ 45) ^ 13)) := powD_ap (by decide +kernel)
theorem p18 : powD (.int 10) (.int 18) = some (.int (10 ^ 18)) := powD_ap (by decide +kernel)
end K02

namespace K02
open PySem DF KM
theorem p45l : powD (.int 10) (.int 45) = some (.int 1000000000000000000000000000000000000000000000) := powD_ap (by decide +kernel)
theorem p585 : powD (.int 1000000000000000000000000000000000000000000000) (.int 13) = some (.int 1000000000000000000000000000000000000000000000000000000000000000000000000000000000000000000000000000000000000000000000000000000000000000000000000000000000000000000000000000000000000000000000000000000000000000000000000000000000000000000000000000000000000000000000000000000000000000000000000000000000000000000000000000000000000000000000000000000000000000000000000000000000000000000000000000000000000000000000000000000000000000000000000000000000000000000000000000000000000000000000000000000000000000000000000000000000000000000000000000000000000000000000000000000000000000000000000000000000) := powD_ap (by decide +kernel)
theorem p18l : powD (.int 10) (.int 18) = some (.int 1000000000000000000) := powD_ap (by decide +kernel)
theorem bg0 (ns : List Int) (k : Nat) (h : k < ns.length ∨ (ns = [] ∧ k = 0)) : ∃ c : Int, (dSet 2 (dIte (dTst (dBin ltD (oVar 1) (oD (dCal lenD (aCons (oVar 0) (aNil)))))) (dBin ixD (oVar 0) (oVar 1)) (dBin addD (oD (dBin addD (oD (dCal sumD (aCons (oD (dCut none (some 1) (oVar 0))) (aNil)))) (oD (dBin mulD (oD (dC (.int 151))) (oVar 1))))) (oD (dC (.int 89)))))) [some (.val (.fro (ns.map D.int))), some (.val (.int (k : Int))), none, none, none] = .nx [some (.val (.fro (ns.map D.int))), some (.val (.int (k : Int))), some (.val (.int c)), none, none] := by
  rcases h with h | ⟨rfl, rfl⟩
  · refine ⟨ns[k], ?_⟩
    have h' : (k : Int) < (ns.length : Int) := by omega
    simp [dC_ap, dVar_ap, oVar_ap, oD_ap, aNil_ap, aCons_ap, vNil_ap, vCons_ap, dBin_ap, dTst_ap, dUn_ap, dCal_ap, dSeq_ap, dNever_ap, dIf_ap, dRet_ap, dRetF_ap, dRetN_ap, dRetV_ap, dExpr_ap, dSet_ap, dSetF_ap, gsNil_ap, gsCons_ap, gTp_ap, dAsg_ap, sLst_ap, sTup_ap, sRng1_ap, sRng2_ap, dForS_ap, dTru_ap, dAnd_ap, dOr_ap, dNot_ap, dAndV_ap, dOrV_ap, dNotV_ap, dIte_ap, dChain_ap, dTup_ap, dLst_ap, dApp_ap, dSetI_ap, rNil_ap, rVal_ap, rIo_ap, dCal2_ap, dV_ap, dN_ap, tYesB_ap, dLc_ap, dIsi_ap, dPar_ap, dDic0_ap, dPar3_ap, DF.R.bind_ok, DF.R.bindS_ok, DF.R.bindN_ok, DF.SR.bind_nx, DF.SR.bind_ret, ofO, ths, setV, setF, free, set2, set3, fnRes, startE, startC, outs, argsD, putD, ioIx, isMu, look, muL, ltD_ap, leD_ap, gtD_ap, geD_ap, addD_ap, subD_ap, negD_ap, absD_ap, intD_ap, intD_apB, eq_int, ne_int, ixD, L2.atI, L2.ixN, lenD, gcdD, max2D, min2D, h', h]
  · exact ⟨89, rfl⟩
theorem bg1 (c0 c1 : Option Cell) (c : Int) : ∃ g : Int, (dSet 3 (dBin modD (oD (dCal intD (aCons (oD (dCal absD (aCons (oVar 2) (aNil)))) (aNil)))) (oD (dBin powD (oD (dBin powD (oD (dC (.int 10))) (oD (dC (.int 45))))) (oD (dC (.int 13))))))) [c0, c1, some (.val (.int c)), none, none] = .nx [c0, c1, some (.val (.int c)), some (.val (.int g)), none] := by
  have h := modD_ap (i := (c.natAbs : Int)) (j := 1000000000000000000000000000000000000000000000000000000000000000000000000000000000000000000000000000000000000000000000000000000000000000000000000000000000000000000000000000000000000000000000000000000000000000000000000000000000000000000000000000000000000000000000000000000000000000000000000000000000000000000000000000000000000000000000000000000000000000000000000000000000000000000000000000000000000000000000000000000000000000000000000000000000000000000000000000000000000000000000000000000000000000000000000000000000000000000000000000000000000000000000000000000000000000000000000000000000) (by decide)
  refine ⟨(c.natAbs : Int).fmod 1000000000000000000000000000000000000000000000000000000000000000000000000000000000000000000000000000000000000000000000000000000000000000000000000000000000000000000000000000000000000000000000000000000000000000000000000000000000000000000000000000000000000000000000000000000000000000000000000000000000000000000000000000000000000000000000000000000000000000000000000000000000000000000000000000000000000000000000000000000000000000000000000000000000000000000000000000000000000000000000000000000000000000000000000000000000000000000000000000000000000000000000000000000000000000000000000000000000, ?_⟩
  generalize (c.natAbs : Int).fmod 1000000000000000000000000000000000000000000000000000000000000000000000000000000000000000000000000000000000000000000000000000000000000000000000000000000000000000000000000000000000000000000000000000000000000000000000000000000000000000000000000000000000000000000000000000000000000000000000000000000000000000000000000000000000000000000000000000000000000000000000000000000000000000000000000000000000000000000000000000000000000000000000000000000000000000000000000000000000000000000000000000000000000000000000000000000000000000000000000000000000000000000000000000000000000000000000000000000000 = g at *
  simp [dC_ap, dVar_ap, oVar_ap, oD_ap, aNil_ap, aCons_ap, vNil_ap, vCons_ap, dBin_ap, dTst_ap, dUn_ap, dCal_ap, dSeq_ap, dNever_ap, dIf_ap, dRet_ap, dRetF_ap, dRetN_ap, dRetV_ap, dExpr_ap, dSet_ap, dSetF_ap, gsNil_ap, gsCons_ap, gTp_ap, dAsg_ap, sLst_ap, sTup_ap, sRng1_ap, sRng2_ap, dForS_ap, dTru_ap, dAnd_ap, dOr_ap, dNot_ap, dAndV_ap, dOrV_ap, dNotV_ap, dIte_ap, dChain_ap, dTup_ap, dLst_ap, dApp_ap, dSetI_ap, rNil_ap, rVal_ap, rIo_ap, dCal2_ap, dV_ap, dN_ap, tYesB_ap, dLc_ap, dIsi_ap, dPar_ap, dDic0_ap, dPar3_ap, DF.R.bind_ok, DF.R.bindS_ok, DF.R.bindN_ok, DF.SR.bind_nx, DF.SR.bind_ret, ofO, ths, setV, setF, free, set2, set3, fnRes, startE, startC, outs, argsD, putD, ioIx, isMu, look, muL, ltD_ap, leD_ap, gtD_ap, geD_ap, addD_ap, subD_ap, negD_ap, absD_ap, intD_ap, intD_apB, eq_int, ne_int, ixD, L2.atI, L2.ixN, lenD, gcdD, max2D, min2D, p45l, p585, h]
theorem bg2 (c0 : Option Cell) (k : Nat) (hk : k ≤ 2) (c g : Int) : ∃ m : Int, (dSet 4 (dBin addD (oD (dBin addD (oD (dBin addD (oD (dBin mulD (oD (dBin modD (oD (dCal intD (aCons (oVar 3) (aNil)))) (oD (dC (.int 2305843009213693723))))) (oD (dC (.int 1000457))))) (oD (dBin mulD (oD (dC (.int 9029))) (oVar 1))))) (oD (dBin mulD (oD (dC (.int 53))) (oD (dCal intD (aCons (oD (dBin ltD (oVar 2) (oD (dC (.int 0))))) (aNil)))))))) (oD (dC (.int 37))))) [c0, some (.val (.int (k : Int))), some (.val (.int c)), some (.val (.int g)), none] = .nx [c0, some (.val (.int (k : Int))), some (.val (.int c)), some (.val (.int g)), some (.val (.int m))] := by
  have h1 := modD_ap (i := g) (j := 2305843009213693723) (by decide)
  have b1 : 0 ≤ g.fmod 2305843009213693723 ∧ g.fmod 2305843009213693723 < 2305843009213693723 := by
    rw [fm (by decide)]; exact ⟨Int.emod_nonneg _ (by decide), Int.emod_lt_of_pos _ (by decide)⟩
  generalize g.fmod 2305843009213693723 = q at *
  have m1 := mulD_ap (i := q) (j := 1000457) (cm (sm_of (by omega)) (sm_of (by decide)))
  have m2 := mulD_ap (i := 9029) (j := (k : Int)) (cm (sm_of (by decide)) (sm_of (by omega)))
  have m3 := mulD_ap (i := 53) (j := 1) (cm (sm_of (by decide)) (sm_of (by decide)))
  have m4 := mulD_ap (i := 53) (j := 0) (cm (sm_of (by decide)) (sm_of (by decide)))
  by_cases hc : c < 0
  · refine ⟨q * 1000457 + 9029 * k + 53 * 1 + 37, ?_⟩
    simp [dC_ap, dVar_ap, oVar_ap, oD_ap, aNil_ap, aCons_ap, vNil_ap, vCons_ap, dBin_ap, dTst_ap, dUn_ap, dCal_ap, dSeq_ap, dNever_ap, dIf_ap, dRet_ap, dRetF_ap, dRetN_ap, dRetV_ap, dExpr_ap, dSet_ap, dSetF_ap, gsNil_ap, gsCons_ap, gTp_ap, dAsg_ap, sLst_ap, sTup_ap, sRng1_ap, sRng2_ap, dForS_ap, dTru_ap, dAnd_ap, dOr_ap, dNot_ap, dAndV_ap, dOrV_ap, dNotV_ap, dIte_ap, dChain_ap, dTup_ap, dLst_ap, dApp_ap, dSetI_ap, rNil_ap, rVal_ap, rIo_ap, dCal2_ap, dV_ap, dN_ap, tYesB_ap, dLc_ap, dIsi_ap, dPar_ap, dDic0_ap, dPar3_ap, DF.R.bind_ok, DF.R.bindS_ok, DF.R.bindN_ok, DF.SR.bind_nx, DF.SR.bind_ret, ofO, ths, setV, setF, free, set2, set3, fnRes, startE, startC, outs, argsD, putD, ioIx, isMu, look, muL, ltD_ap, leD_ap, gtD_ap, geD_ap, addD_ap, subD_ap, negD_ap, absD_ap, intD_ap, intD_apB, eq_int, ne_int, ixD, L2.atI, L2.ixN, lenD, gcdD, max2D, min2D, h1, m1, m2, m3, hc]
  · refine ⟨q * 1000457 + 9029 * k + 53 * 0 + 37, ?_⟩
    simp [dC_ap, dVar_ap, oVar_ap, oD_ap, aNil_ap, aCons_ap, vNil_ap, vCons_ap, dBin_ap, dTst_ap, dUn_ap, dCal_ap, dSeq_ap, dNever_ap, dIf_ap, dRet_ap, dRetF_ap, dRetN_ap, dRetV_ap, dExpr_ap, dSet_ap, dSetF_ap, gsNil_ap, gsCons_ap, gTp_ap, dAsg_ap, sLst_ap, sTup_ap, sRng1_ap, sRng2_ap, dForS_ap, dTru_ap, dAnd_ap, dOr_ap, dNot_ap, dAndV_ap, dOrV_ap, dNotV_ap, dIte_ap, dChain_ap, dTup_ap, dLst_ap, dApp_ap, dSetI_ap, rNil_ap, rVal_ap, rIo_ap, dCal2_ap, dV_ap, dN_ap, tYesB_ap, dLc_ap, dIsi_ap, dPar_ap, dDic0_ap, dPar3_ap, DF.R.bind_ok, DF.R.bindS_ok, DF.R.bindN_ok, DF.SR.bind_nx, DF.SR.bind_ret, ofO, ths, setV, setF, free, set2, set3, fnRes, startE, startC, outs, argsD, putD, ioIx, isMu, look, muL, ltD_ap, leD_ap, gtD_ap, geD_ap, addD_ap, subD_ap, negD_ap, absD_ap, intD_ap, intD_apB, eq_int, ne_int, ixD, L2.atI, L2.ixN, lenD, gcdD, max2D, min2D, h1, m1, m2, m4, hc]
theorem bg3 (c0 c1 c2 : Option Cell) (g m : Int) : ∃ x y : Int, 0 ≤ y ∧ y < 2 ^ 61 ∧ (dRetF (dLst (vCons (dCal max2D (aCons (oD (dC (.int 0))) (aCons (oD (dBin subD (oVar 3) (oD (dBin powD (oD (dC (.int 10))) (oD (dC (.int 18))))))) (aNil)))) (vCons (dBin modD (oD (dCal intD (aCons (oVar 4) (aNil)))) (oD (dC (.int 2305843009213693951)))) (vCons (dC (.int 0)) (vNil)))))) [c0, c1, c2, some (.val (.int g)), some (.val (.int m))] = .ret [c0, c1, c2, some (.val (.int g)), some (.val (.int m))] true (.lst [.int x, .int y, .int 0]) := by
  have h1 := modD_ap (i := m) (j := 2305843009213693951) (by decide)
  have b1 : 0 ≤ m.fmod 2305843009213693951 ∧ m.fmod 2305843009213693951 < 2305843009213693951 := by
    rw [fm (by decide)]; exact ⟨Int.emod_nonneg _ (by decide), Int.emod_lt_of_pos _ (by decide)⟩
  generalize m.fmod 2305843009213693951 = q at *
  refine ⟨if g - 1000000000000000000 > 0 then g - 1000000000000000000 else 0, q, b1.1, by omega, ?_⟩
  simp [dC_ap, dVar_ap, oVar_ap, oD_ap, aNil_ap, aCons_ap, vNil_ap, vCons_ap, dBin_ap, dTst_ap, dUn_ap, dCal_ap, dSeq_ap, dNever_ap, dIf_ap, dRet_ap, dRetF_ap, dRetN_ap, dRetV_ap, dExpr_ap, dSet_ap, dSetF_ap, gsNil_ap, gsCons_ap, gTp_ap, dAsg_ap, sLst_ap, sTup_ap, sRng1_ap, sRng2_ap, dForS_ap, dTru_ap, dAnd_ap, dOr_ap, dNot_ap, dAndV_ap, dOrV_ap, dNotV_ap, dIte_ap, dChain_ap, dTup_ap, dLst_ap, dApp_ap, dSetI_ap, rNil_ap, rVal_ap, rIo_ap, dCal2_ap, dV_ap, dN_ap, tYesB_ap, dLc_ap, dIsi_ap, dPar_ap, dDic0_ap, dPar3_ap, DF.R.bind_ok, DF.R.bindS_ok, DF.R.bindN_ok, DF.SR.bind_nx, DF.SR.bind_ret, ofO, ths, setV, setF, free, set2, set3, fnRes, startE, startC, outs, argsD, putD, ioIx, isMu, look, muL, ltD_ap, leD_ap, gtD_ap, geD_ap, addD_ap, subD_ap, negD_ap, absD_ap, intD_ap, intD_apB, eq_int, ne_int, ixD, L2.atI, L2.ixN, lenD, gcdD, max2D, min2D, h1, p18l]
theorem e_bag (ns : List Int) (k : Nat) (h : k < ns.length ∨ (ns = [] ∧ k = 0)) (hk : k ≤ 2) : ∃ d, Bag 0 d ∧ F_q_bag [(false, .fro (ns.map D.int)), (false, .int (k : Int))] = .ret true d [] := by
  obtain ⟨c, s0⟩ := bg0 ns k h
  obtain ⟨g, s1⟩ := bg1 (some (.val (.fro (ns.map D.int)))) (some (.val (.int (k : Int)))) c
  obtain ⟨m, s2⟩ := bg2 (some (.val (.fro (ns.map D.int)))) k hk c g
  obtain ⟨x, y, hy0, hy1, s3⟩ := bg3 (some (.val (.fro (ns.map D.int)))) (some (.val (.int (k : Int)))) (some (.val (.int c))) g m
  refine ⟨.lst [.int x, .int y, .int 0], ⟨x, y, 0, rfl, hy0, hy1, by decide, by decide⟩, ?_⟩
  have hs : startE 5 [(false, .fro (ns.map D.int)), (false, .int (k : Int))] = [some (.val (.fro (ns.map D.int))), some (.val (.int (k : Int))), none, none, none] := rfl
  unfold F_q_bag B_q_bag
  rw [hs, dSeq_ap, s0, SR.bind_nx, dSeq_ap, s1, SR.bind_nx, dSeq_ap, s2, SR.bind_nx, s3]
  rfl
/-! ### the loops -/
def tB : DEnv → SR := dIf (dOr (dNot (dTst (dV (dCal2 1 F_q_reckoned_right (rIo 2 (rNil)))))) (dOr (dNot (dTst (dV (dCal2 1 F_q_floors_right (rIo 2 (rNil)))))) (dNot (dTst (dV (dCal2 1 F_q_exponents_right (rIo 2 (rNil)))))))) (dRet (dC (.bl false))) (SR.nx)
theorem tB_ap {n : Nat} {d : D} (h : Bag n d) (hn : n ≤ 700000) (c0 c1 c3 c4 : Option Cell) : ∃ d', Bag (n + 19) d' ∧ tB [c0, c1, some (.mu false d), c3, c4] = .nx [c0, c1, some (.mu false d'), c3, c4] := by
  obtain ⟨d1, h1, e1⟩ := e_reckoned h (by omega)
  obtain ⟨d2, h2, e2⟩ := e_floors h1 (by omega)
  obtain ⟨d3, h3, e3⟩ := e_exponents h2 (by omega)
  refine ⟨d3, h3, ?_⟩
  simp [tB, dC_ap, dVar_ap, oVar_ap, oD_ap, aNil_ap, aCons_ap, vNil_ap, vCons_ap, dBin_ap, dTst_ap, dUn_ap, dCal_ap, dSeq_ap, dNever_ap, dIf_ap, dRet_ap, dRetF_ap, dRetN_ap, dRetV_ap, dExpr_ap, dSet_ap, dSetF_ap, gsNil_ap, gsCons_ap, gTp_ap, dAsg_ap, sLst_ap, sTup_ap, sRng1_ap, sRng2_ap, dForS_ap, dTru_ap, dAnd_ap, dOr_ap, dNot_ap, dAndV_ap, dOrV_ap, dNotV_ap, dIte_ap, dChain_ap, dTup_ap, dLst_ap, dApp_ap, dSetI_ap, rNil_ap, rVal_ap, rIo_ap, dCal2_ap, dV_ap, dN_ap, tYesB_ap, dLc_ap, dIsi_ap, dPar_ap, dDic0_ap, dPar3_ap, DF.R.bind_ok, DF.R.bindS_ok, DF.R.bindN_ok, DF.SR.bind_nx, DF.SR.bind_ret, ofO, ths, setV, setF, free, set2, set3, fnRes, startE, startC, outs, argsD, putD, ioIx, isMu, look, muL, ltD_ap, leD_ap, gtD_ap, geD_ap, addD_ap, subD_ap, negD_ap, absD_ap, intD_ap, intD_apB, eq_int, ne_int, ixD, L2.atI, L2.ixN, lenD, gcdD, max2D, min2D, e1, e2, e3]
theorem t_loop (c0 c1 c4 : Option Cell) : ∀ (ds : List D) (n : Nat) (d : D) (c3 : Option Cell), c3 = none ∨ (∃ x, c3 = some (.val x)) → Bag n d → n + 19 * ds.length ≤ 700000 → ∃ (d' : D) (c3' : Option Cell), (c3' = none ∨ ∃ x, c3' = some (.val x)) ∧ dFor (setV 3) tB ds [c0, c1, some (.mu false d), c3, c4] = .nx [c0, c1, some (.mu false d'), c3', c4]
  | [], n, d, c3, hc, h, hn => ⟨d, c3, hc, rfl⟩
  | x :: ds, n, d, c3, hc, h, hn => by
    rw [List.length_cons] at hn
    obtain ⟨d1, h1, e1⟩ := tB_ap h (by omega) c0 c1 (some (.val x)) c4
    obtain ⟨d', c3', hc', e2⟩ := t_loop c0 c1 c4 ds (n + 19) d1 (some (.val x)) (.inr ⟨x, rfl⟩) h1 (by omega)
    refine ⟨d', c3', hc', ?_⟩
    unfold dFor
    rcases hc with rfl | ⟨y, rfl⟩
    · simp [setV, free, e1, e2]
    · simp [setV, free, e1, e2]
def sB : DEnv → SR := dSeq (dSetF 2 (dN (dCal2 2 F_q_bag (rVal (dVar 0) (rVal (dVar 1) (rNil))))))
    (dSeq (dIf (dOr (dNot (dTst (dV (dCal2 1 F_q_judged_right (rIo 2 (rNil)))))) (dNot (dTst (dV (dCal2 1 F_q_lowered_right (rIo 2 (rNil))))))) (dRet (dC (.bl false))) (SR.nx))
    (dForS (sRng1 (vCons (dC (.int 3)) (vNil))) (setV 3) tB))
def C2 (c : Option Cell) : Prop := c = none ∨ ∃ d, c = some (.mu false d)
def C3 (c : Option Cell) : Prop := c = none ∨ ∃ d, c = some (.val d)
theorem sB_ap (ns : List Int) (k : Nat) (h : k < ns.length ∨ (ns = [] ∧ k = 0)) (hk : k ≤ 2) (c2 c3 c4 : Option Cell) (h2 : C2 c2) (h3 : C3 c3) : ∃ c2' c3', C2 c2' ∧ C3 c3' ∧ sB [some (.val (.fro (ns.map D.int))), some (.val (.int (k : Int))), c2, c3, c4] = .nx [some (.val (.fro (ns.map D.int))), some (.val (.int (k : Int))), c2', c3', c4] := by
  obtain ⟨d, hb, e1⟩ := e_bag ns k h hk
  obtain ⟨d1, hb1, e2⟩ := e_judged hb (by omega)
  obtain ⟨d2, hb2, e3⟩ := e_lowered hb1 (by omega)
  have hlen : (rng 0 3).length = 3 := rfl
  obtain ⟨d3, c3', hc3, e4⟩ := t_loop (some (.val (.fro (ns.map D.int)))) (some (.val (.int (k : Int)))) c4 (rng 0 3) _ d2 c3 h3 hb2 (by rw [hlen]; omega)
  refine ⟨some (.mu false d3), c3', .inr ⟨d3, rfl⟩, hc3, ?_⟩
  have hr : inR 3 = true := by decide
  have s1 : dSetF 2 (dN (dCal2 2 F_q_bag (rVal (dVar 0) (rVal (dVar 1) (rNil))))) [some (.val (.fro (ns.map D.int))), some (.val (.int (k : Int))), c2, c3, c4] = .nx [some (.val (.fro (ns.map D.int))), some (.val (.int (k : Int))), some (.mu false d), c3, c4] := by
    rcases h2 with rfl | ⟨y, rfl⟩
    · simp [dC_ap, dVar_ap, oVar_ap, oD_ap, aNil_ap, aCons_ap, vNil_ap, vCons_ap, dBin_ap, dTst_ap, dUn_ap, dCal_ap, dSeq_ap, dNever_ap, dIf_ap, dRet_ap, dRetF_ap, dRetN_ap, dRetV_ap, dExpr_ap, dSet_ap, dSetF_ap, gsNil_ap, gsCons_ap, gTp_ap, dAsg_ap, sLst_ap, sTup_ap, sRng1_ap, sRng2_ap, dForS_ap, dTru_ap, dAnd_ap, dOr_ap, dNot_ap, dAndV_ap, dOrV_ap, dNotV_ap, dIte_ap, dChain_ap, dTup_ap, dLst_ap, dApp_ap, dSetI_ap, rNil_ap, rVal_ap, rIo_ap, dCal2_ap, dV_ap, dN_ap, tYesB_ap, dLc_ap, dIsi_ap, dPar_ap, dDic0_ap, dPar3_ap, DF.R.bind_ok, DF.R.bindS_ok, DF.R.bindN_ok, DF.SR.bind_nx, DF.SR.bind_ret, ofO, ths, setV, setF, free, set2, set3, fnRes, startE, startC, outs, argsD, putD, ioIx, isMu, look, muL, ltD_ap, leD_ap, gtD_ap, geD_ap, addD_ap, subD_ap, negD_ap, absD_ap, intD_ap, intD_apB, eq_int, ne_int, ixD, L2.atI, L2.ixN, lenD, gcdD, max2D, min2D, e1]
    · simp [dC_ap, dVar_ap, oVar_ap, oD_ap, aNil_ap, aCons_ap, vNil_ap, vCons_ap, dBin_ap, dTst_ap, dUn_ap, dCal_ap, dSeq_ap, dNever_ap, dIf_ap, dRet_ap, dRetF_ap, dRetN_ap, dRetV_ap, dExpr_ap, dSet_ap, dSetF_ap, gsNil_ap, gsCons_ap, gTp_ap, dAsg_ap, sLst_ap, sTup_ap, sRng1_ap, sRng2_ap, dForS_ap, dTru_ap, dAnd_ap, dOr_ap, dNot_ap, dAndV_ap, dOrV_ap, dNotV_ap, dIte_ap, dChain_ap, dTup_ap, dLst_ap, dApp_ap, dSetI_ap, rNil_ap, rVal_ap, rIo_ap, dCal2_ap, dV_ap, dN_ap, tYesB_ap, dLc_ap, dIsi_ap, dPar_ap, dDic0_ap, dPar3_ap, DF.R.bind_ok, DF.R.bindS_ok, DF.R.bindN_ok, DF.SR.bind_nx, DF.SR.bind_ret, ofO, ths, setV, setF, free, set2, set3, fnRes, startE, startC, outs, argsD, putD, ioIx, isMu, look, muL, ltD_ap, leD_ap, gtD_ap, geD_ap, addD_ap, subD_ap, negD_ap, absD_ap, intD_ap, intD_apB, eq_int, ne_int, ixD, L2.atI, L2.ixN, lenD, gcdD, max2D, min2D, e1]
  have s2 : dIf (dOr (dNot (dTst (dV (dCal2 1 F_q_judged_right (rIo 2 (rNil)))))) (dNot (dTst (dV (dCal2 1 F_q_lowered_right (rIo 2 (rNil))))))) (dRet (dC (.bl false))) (SR.nx) [some (.val (.fro (ns.map D.int))), some (.val (.int (k : Int))), some (.mu false d), c3, c4] = .nx [some (.val (.fro (ns.map D.int))), some (.val (.int (k : Int))), some (.mu false d2), c3, c4] := by
    simp [dC_ap, dVar_ap, oVar_ap, oD_ap, aNil_ap, aCons_ap, vNil_ap, vCons_ap, dBin_ap, dTst_ap, dUn_ap, dCal_ap, dSeq_ap, dNever_ap, dIf_ap, dRet_ap, dRetF_ap, dRetN_ap, dRetV_ap, dExpr_ap, dSet_ap, dSetF_ap, gsNil_ap, gsCons_ap, gTp_ap, dAsg_ap, sLst_ap, sTup_ap, sRng1_ap, sRng2_ap, dForS_ap, dTru_ap, dAnd_ap, dOr_ap, dNot_ap, dAndV_ap, dOrV_ap, dNotV_ap, dIte_ap, dChain_ap, dTup_ap, dLst_ap, dApp_ap, dSetI_ap, rNil_ap, rVal_ap, rIo_ap, dCal2_ap, dV_ap, dN_ap, tYesB_ap, dLc_ap, dIsi_ap, dPar_ap, dDic0_ap, dPar3_ap, DF.R.bind_ok, DF.R.bindS_ok, DF.R.bindN_ok, DF.SR.bind_nx, DF.SR.bind_ret, ofO, ths, setV, setF, free, set2, set3, fnRes, startE, startC, outs, argsD, putD, ioIx, isMu, look, muL, ltD_ap, leD_ap, gtD_ap, geD_ap, addD_ap, subD_ap, negD_ap, absD_ap, intD_ap, intD_apB, eq_int, ne_int, ixD, L2.atI, L2.ixN, lenD, gcdD, max2D, min2D, e2, e3]
  unfold sB
  rw [dSeq_ap, s1, SR.bind_nx, dSeq_ap, s2, SR.bind_nx]
  simp only [dForS_ap, sRng1_ap, vCons_ap, vNil_ap, dC_ap, DF.R.bind_ok, DF.R.bindS_ok, hr, if_true]
  exact e4
theorem s_loop (ns : List Int) (c4 : Option Cell) : ∀ (ks : List Nat) (c1 c2 c3 : Option Cell), C3 c1 → C2 c2 → C3 c3 → (∀ k ∈ ks, (k < ns.length ∨ (ns = [] ∧ k = 0)) ∧ k ≤ 2) → ∃ c1' c2' c3', dFor (setV 1) sB (ks.map fun (k : Nat) => D.int (0 + (k : Int))) [some (.val (.fro (ns.map D.int))), c1, c2, c3, c4] = .nx [some (.val (.fro (ns.map D.int))), c1', c2', c3', c4]
  | [], c1, c2, c3, _, _, _, _ => ⟨c1, c2, c3, rfl⟩
  | k :: ks, c1, c2, c3, h1, h2, h3, hk => by
    obtain ⟨q1, q2⟩ := hk k List.mem_cons_self
    obtain ⟨c2', c3', h2', h3', e⟩ := sB_ap ns k q1 q2 c2 c3 c4 h2 h3
    obtain ⟨x1, x2, x3, e2⟩ := s_loop ns c4 ks (some (.val (.int (k : Int)))) c2' c3' (.inr ⟨_, rfl⟩) h2' h3' fun j hj => hk j (List.mem_cons_of_mem _ hj)
    refine ⟨x1, x2, x3, ?_⟩
    rw [List.map_cons]
    unfold dFor
    rcases h1 with rfl | ⟨y, rfl⟩
    · simp [setV, free, e]
      simpa using e2
    · simp [setV, free, e]
      simpa using e2
theorem ls0 (ns : List Int) : ∃ c1' c2' c3', (dForS (sRng1 (vCons (dCal max2D (aCons (oD (dC (.int 1))) (aCons (oD (dCal min2D (aCons (oD (dC (.int 3))) (aCons (oD (dCal lenD (aCons (oVar 0) (aNil)))) (aNil))))) (aNil)))) (vNil))) (setV 1) (dSeq (dSetF 2 (dN (dCal2 2 F_q_bag (rVal (dVar 0) (rVal (dVar 1) (rNil))))))
    (dSeq (dIf (dOr (dNot (dTst (dV (dCal2 1 F_q_judged_right (rIo 2 (rNil)))))) (dNot (dTst (dV (dCal2 1 F_q_lowered_right (rIo 2 (rNil))))))) (dRet (dC (.bl false))) (SR.nx))
    (dForS (sRng1 (vCons (dC (.int 3)) (vNil))) (setV 3) (dIf (dOr (dNot (dTst (dV (dCal2 1 F_q_reckoned_right (rIo 2 (rNil)))))) (dOr (dNot (dTst (dV (dCal2 1 F_q_floors_right (rIo 2 (rNil)))))) (dNot (dTst (dV (dCal2 1 F_q_exponents_right (rIo 2 (rNil)))))))) (dRet (dC (.bl false))) (SR.nx)))))) [some (.val (.fro (ns.map D.int))), none, none, none, none] = .nx [some (.val (.fro (ns.map D.int))), c1', c2', c3', none] := by
  obtain ⟨c1, c2, c3, e⟩ := s_loop ns none (List.range (max 1 (min 3 ns.length))) none none none (.inl rfl) (.inl rfl) (.inl rfl) (fun k hk => by
    have := List.mem_range.mp hk
    refine ⟨?_, by omega⟩
    cases ns with
    | nil => exact .inr ⟨rfl, by simp at this; omega⟩
    | cons x r => exact .inl (by simp at this ⊢; omega))
  refine ⟨c1, c2, c3, ?_⟩
  have hv : max2D [.int 1, .int (if (ns.length : Int) < 3 then (ns.length : Int) else 3)] = some (.int ((max 1 (min 3 ns.length) : Nat) : Int)) := by
    unfold max2D
    simp only
    congr 2
    split <;> split <;> omega
  have hr : inR ((max 1 (min 3 ns.length) : Nat) : Int) = true := by
    unfold inR
    rw [Bool.and_eq_true]
    exact ⟨decide_eq_true (by omega), decide_eq_true (by omega)⟩
  have hn : (((max 1 (min 3 ns.length) : Nat) : Int)).toNat = max 1 (min 3 ns.length) := Int.toNat_natCast _
  have hm : min2D [.int 3, .int (ns.length : Int)] = some (.int (if (ns.length : Int) < 3 then (ns.length : Int) else 3)) := rfl
  have hl : lenD [.fro (ns.map D.int)] = some (.int (ns.length : Int)) := by
    unfold lenD
    simp
  rw [dForS_ap, sRng1_ap]
  have ev : vCons (dCal max2D (aCons (oD (dC (.int 1))) (aCons (oD (dCal min2D (aCons (oD (dC (.int 3))) (aCons (oD (dCal lenD (aCons (oVar 0) (aNil)))) (aNil))))) (aNil)))) (vNil) [some (.val (.fro (ns.map D.int))), none, none, none, none] = .ok [some (.val (.fro (ns.map D.int))), none, none, none, none] [.int ((max 1 (min 3 ns.length) : Nat) : Int)] := by
    simp only [vCons_ap, vNil_ap, dCal_ap, aCons_ap, aNil_ap, oD_ap, dC_ap, oVar_ap, DF.R.bind_ok, ths, ofO, look, List.getElem?_cons_zero, hl, hm, hv]
  rw [ev, DF.R.bind_ok]
  simp only [hr, if_true, DF.R.bindS_ok, hn]
  exact e
end K02

namespace K02
open PySem DF KM
theorem ls1 (c0 c1 c2 c3 : Option Cell) : (dSet 4 (dLst (vCons (dV (dCal2 2 F_lowest (rVal (dC (.int 4)) (rVal (dUn negD (oD (dC (.int 6)))) (rNil))))) (vCons (dV (dCal2 2 F_plus (rVal (dTup (vCons (dC (.int 1)) (vCons (dC (.int 2)) (vNil)))) (rVal (dTup (vCons (dC (.int 1)) (vCons (dC (.int 3)) (vNil)))) (rNil))))) (vCons (dV (dCal2 2 F_over (rVal (dTup (vCons (dC (.int 1)) (vCons (dC (.int 2)) (vNil)))) (rVal (dTup (vCons (dUn negD (oD (dC (.int 1)))) (vCons (dC (.int 3)) (vNil)))) (rNil))))) (vCons (dV (dCal2 2 F_compare (rVal (dTup (vCons (dC (.int 1)) (vCons (dC (.int 3)) (vNil)))) (rVal (dTup (vCons (dC (.int 3)) (vCons (dC (.int 8)) (vNil)))) (rNil))))) (vCons (dV (dCal2 1 F_part_of (rVal (dTup (vCons (dUn negD (oD (dC (.int 1)))) (vCons (dC (.int 3)) (vNil)))) (rNil)))) (vCons (dV (dCal2 1 F_part_of (rVal (dTup (vCons (dC (.int 3)) (vCons (dC (.int 1)) (vNil)))) (rNil)))) (vNil))))))))) [c0, c1, c2, c3, none] = .nx [c0, c1, c2, c3, some (.val (.lst [rt (-2) 3, rt 5 6, rt (-3) 2, .int (-1), rt 2 3, rt 1 1]))] := by kernel_rfl
theorem ls2 (c0 c1 c2 c3 : Option Cell) : (dIf (dTst (dBin neD1 (oVar 4) (oD (dLst (vCons (dTup (vCons (dUn negD (oD (dC (.int 2)))) (vCons (dC (.int 3)) (vNil)))) (vCons (dTup (vCons (dC (.int 5)) (vCons (dC (.int 6)) (vNil)))) (vCons (dTup (vCons (dUn negD (oD (dC (.int 3)))) (vCons (dC (.int 2)) (vNil)))) (vCons (dUn negD (oD (dC (.int 1)))) (vCons (dTup (vCons (dC (.int 2)) (vCons (dC (.int 3)) (vNil)))) (vCons (dTup (vCons (dC (.int 1)) (vCons (dC (.int 1)) (vNil)))) (vNil))))))))))) (dRet (dC (.bl false))) (SR.nx)) [c0, c1, c2, c3, some (.val (.lst [rt (-2) 3, rt 5 6, rt (-3) 2, .int (-1), rt 2 3, rt 1 1]))] = .nx [c0, c1, c2, c3, some (.val (.lst [rt (-2) 3, rt 5 6, rt (-3) 2, .int (-1), rt 2 3, rt 1 1]))] := by kernel_rfl
theorem ls3 (c0 c1 c2 c3 c4 : Option Cell) : (dRet (dBin eqD1 (oD (dLst (vCons (dV (dCal2 1 F_floor_of (rVal (dTup (vCons (dUn negD (oD (dC (.int 1)))) (vCons (dC (.int 2)) (vNil)))) (rNil)))) (vCons (dV (dCal2 1 F_ceiling_of (rVal (dTup (vCons (dC (.int 7)) (vCons (dC (.int 2)) (vNil)))) (rNil)))) (vCons (dV (dCal2 2 F_exponent_of (rVal (dC (.int 2)) (rVal (dTup (vCons (dC (.int 12)) (vCons (dC (.int 7)) (vNil)))) (rNil))))) (vCons (dV (dCal2 2 F_exponent_of (rVal (dC (.int 7)) (rVal (dTup (vCons (dUn negD (oD (dC (.int 3)))) (vCons (dC (.int 49)) (vNil)))) (rNil))))) (vCons (dV (dCal2 2 F_minus (rVal (dTup (vCons (dC (.int 1)) (vCons (dC (.int 2)) (vNil)))) (rVal (dTup (vCons (dC (.int 1)) (vCons (dC (.int 2)) (vNil)))) (rNil))))) (vNil)))))))) (oD (dLst (vCons (dUn negD (oD (dC (.int 1)))) (vCons (dC (.int 4)) (vCons (dC (.int 2)) (vCons (dUn negD (oD (dC (.int 2)))) (vCons (dTup (vCons (dC (.int 0)) (vCons (dC (.int 1)) (vNil)))) (vNil)))))))))) [c0, c1, c2, c3, c4] = .ret [c0, c1, c2, c3, c4] false (.bl true) := by kernel_rfl
theorem law_true (ns : List Int) (h : ns.length ≤ 63) : F_law [(false, .fro (ns.map D.int))] = .ret false (.bl true) [] := by
  obtain ⟨c1, c2, c3, e⟩ := ls0 ns
  have hs : startE 5 [(false, .fro (ns.map D.int))] = [some (.val (.fro (ns.map D.int))), none, none, none, none] := rfl
  unfold F_law B_law
  rw [hs, dSeq_ap, e, SR.bind_nx, dSeq_ap, ls1, SR.bind_nx, dSeq_ap, ls2, SR.bind_nx, ls3]
  rfl
end K02

open PySem PySem.W PyProof.Rows
set_option maxHeartbeats 0 in
theorem PySem.Challenge.cw_wholerises_k02_whole_ratios_holds : PySem.Challenge.rw_wholerises_k02_whole_ratios.Holds := by
  w_on; o_law; k_head; (case hw => w_witness2)
  k_fill
  refine L2.walk_of (l := PySem.Challenge.rw_wholerises_k02_whole_ratios) (n := 63) (k := 9) (x := "_law_script") (CX := fun w => L2.CX PySem.Challenge.rw_wholerises_k02_whole_ratios.prog w) (sp := fun w => DF.spD _ 1 K02.F_law) rfl (by decide) rfl ⟨rfl, by decide, by decide⟩ (fun w h Y => PySem.W.kIn_of Y) ?F (fun _ _ a ns hl _ hS => DF.hsp_of (K02.law_true ns hl) hS) (fun _ _ _ _ _ h => DF.cx_end h)
  case F =>
    intro w mg fa h KX G hmg
    refine' K02.all_mk KX G hmg ?a0 ?l0 ?c0 ?k0 ?a1 ?l1 ?c1 ?k1 ?a2 ?l2 ?c2 ?k2 ?a3 ?l3 ?c3 ?k3 ?a4 ?l4 ?c4 ?k4 ?a5 ?l5 ?c5 ?k5 ?a6 ?l6 ?c6 ?k6 ?a7 ?l7 ?c7 ?k7 ?a8 ?l8 ?c8 ?k8 ?a9 ?l9 ?c9 ?k9 ?a10 ?l10 ?c10 ?k10 ?a11 ?l11 ?c11 ?k11 ?a12 ?l12 ?c12 ?k12 ?a13 ?l13 ?c13 ?k13 ?a14 ?l14 ?c14 ?k14 ?a15 ?l15 ?c15 ?k15 ?a16 ?l16 ?c16 ?k16 ?a17 ?l17 ?c17 ?k17 ?a18 ?l18 ?c18 ?k18 ?a19 ?l19 ?c19 ?k19 ?a20 ?l20 ?c20 ?k20 ?a21 ?l21 ?c21 ?k21 ?a22 ?l22 ?c22 ?k22 ?a23 ?l23 ?c23 ?k23 ?a24 ?l24 ?c24 ?k24 ?a25 ?l25 ?c25 ?k25 ?a26 ?l26 ?c26 ?k26 ?a27 ?l27 ?c27 ?k27 ?a28 ?l28 ?c28 ?k28 ?a29 ?l29 ?c29 ?k29 ?a30 ?l30 ?c30 ?k30 ?a31 ?l31 ?c31 ?k31 ?a32 ?l32 ?c32 ?k32 ?a33 ?l33 ?c33 ?k33 ?a34 ?l34 ?c34 ?k34 ?a35 ?l35 ?c35 ?k35 ?a36 ?l36 ?c36 ?k36 ?a37 ?l37 ?c37 ?k37 ?a38 ?l38 ?c38 ?k38 ?a39 ?l39 ?c39 ?k39 ?z_abs ?z_bool ?z_int ?z_isinstance ?z_len ?z_max ?z_min ?z_range ?z_repr ?z_sum ?z_tuple ?q_MAX_INTEGER ?q_MAX_PRIME ?m_gcd ?m_isqrt
    (case a0 => k_is); (case l0 => k_is); (case c0 => k_is); (case k0 => k_is); (case a1 => k_is); (case l1 => k_is); (case c1 => k_is); (case k1 => k_is); (case a2 => k_is); (case l2 => k_is); (case c2 => k_is); (case k2 => k_is); (case a3 => k_is); (case l3 => k_is); (case c3 => k_is); (case k3 => k_is); (case a4 => k_is); (case l4 => k_is); (case c4 => k_is); (case k4 => k_is); (case a5 => k_is); (case l5 => k_is); (case c5 => k_is); (case k5 => k_is); (case a6 => k_is); (case l6 => k_is); (case c6 => k_is); (case k6 => k_is); (case a7 => k_is); (case l7 => k_is); (case c7 => k_is); (case k7 => k_is); (case a8 => k_is); (case l8 => k_is); (case c8 => k_is); (case k8 => k_is); (case a9 => k_is); (case l9 => k_is); (case c9 => k_is); (case k9 => k_is); (case a10 => k_is); (case l10 => k_is); (case c10 => k_is); (case k10 => k_is); (case a11 => k_is); (case l11 => k_is); (case c11 => k_is); (case k11 => k_is); (case a12 => k_is); (case l12 => k_is); (case c12 => k_is); (case k12 => k_is); (case a13 => k_is); (case l13 => k_is); (case c13 => k_is); (case k13 => k_is); (case a14 => k_is); (case l14 => k_is); (case c14 => k_is); (case k14 => k_is); (case a15 => k_is); (case l15 => k_is); (case c15 => k_is); (case k15 => k_is); (case a16 => k_is); (case l16 => k_is); (case c16 => k_is); (case k16 => k_is); (case a17 => k_is); (case l17 => k_is); (case c17 => k_is); (case k17 => k_is); (case a18 => k_is); (case l18 => k_is); (case c18 => k_is); (case k18 => k_is); (case a19 => k_is); (case l19 => k_is); (case c19 => k_is); (case k19 => k_is); (case a20 => k_is); (case l20 => k_is); (case c20 => k_is); (case k20 => k_is); (case a21 => k_is); (case l21 => k_is); (case c21 => k_is); (case k21 => k_is); (case a22 => k_is); (case l22 => k_is); (case c22 => k_is); (case k22 => k_is); (case a23 => k_is); (case l23 => k_is); (case c23 => k_is); (case k23 => k_is); (case a24 => k_is); (case l24 => k_is); (case c24 => k_is); (case k24 => k_is); (case a25 => k_is); (case l25 => k_is); (case c25 => k_is); (case k25 => k_is); (case a26 => k_is); (case l26 => k_is); (case c26 => k_is); (case k26 => k_is); (case a27 => k_is); (case l27 => k_is); (case c27 => k_is); (case k27 => k_is); (case a28 => k_is); (case l28 => k_is); (case c28 => k_is); (case k28 => k_is); (case a29 => k_is); (case l29 => k_is); (case c29 => k_is); (case k29 => k_is); (case a30 => k_is); (case l30 => k_is); (case c30 => k_is); (case k30 => k_is); (case a31 => k_is); (case l31 => k_is); (case c31 => k_is); (case k31 => k_is); (case a32 => k_is); (case l32 => k_is); (case c32 => k_is); (case k32 => k_is); (case a33 => k_is); (case l33 => k_is); (case c33 => k_is); (case k33 => k_is); (case a34 => k_is); (case l34 => k_is); (case c34 => k_is); (case k34 => k_is); (case a35 => k_is); (case l35 => k_is); (case c35 => k_is); (case k35 => k_is); (case a36 => k_is); (case l36 => k_is); (case c36 => k_is); (case k36 => k_is); (case a37 => k_is); (case l37 => k_is); (case c37 => k_is); (case k37 => k_is); (case a38 => k_is); (case l38 => k_is); (case c38 => k_is); (case k38 => k_is); (case a39 => k_is); (case l39 => k_is); (case c39 => k_is); (case k39 => k_is); (case z_abs => k_is); (case z_bool => k_is); (case z_int => k_is); (case z_isinstance => k_is); (case z_len => k_is); (case z_max => k_is); (case z_min => k_is); (case z_range => k_is); (case z_repr => k_is); (case z_sum => k_is); (case z_tuple => k_is); (case q_MAX_INTEGER => k_is); (case q_MAX_PRIME => k_is); (case m_gcd => k_is); (case m_isqrt => k_is)
