import PyProof.Rows.All
import HandS.CallSlots
import HandS.WordsExc
import HandS.Ends
import HandS.ForMost
import HandS.Iter
import HandS.ForExc
import HandS.Evl
import HandS.Wide
import HandS.Gcd
import HandS.IsInst
import HandS.Lambda
import HandS.TupAny
import HandS.TupMul
import HandS.DictComp
import PyProof.NoPylong
import HandS.RaiseMore
import HandS.Style
import HandS.Rev
import HandS.RevRange
import KE.GoesEnum
import KE.DataAny
import KE.KRevSl
import HandS.Dict
import HandS.Conv
import HandS.DeepEq
import HandS.SortInts
import HandS.Small
import KE.KMathG
import KE.DatumOrd
import HandS.ListEq
import PyProof.NeKinds
import HandS.DictEq
import HandS.Property
import HandS.OwnIter
import HandS.IterVal
import KE.KOwnIter
import HandS.Records
import HandS.SetFor
import KE.DataMinMax
import PyProof.DictWalks
import HandS.More
import PyProof.TupleOfSeq
import PyProof.Rows.Range3
import KE.KDictSum
import KE.KTupSum
import HandS.List
import HandS.ExcOwn
import HandS.SlotsOwn
import HandS.TryOnly
import KE.KOpsOwn
import HandS.ExcField
import KE.KMathGC
import HandS.Zip
import HandS.ListItems
import HandS.TupSets
import HandS.SortOrd
import KE.KDictPairs
import HandS.Flow
import HandS.GenYield
import HandS.GenList
import PyProof.GenComp
import HandS.Deep
import HandS.Defaults
import HandS.GenOver
import HandS.ExcInit
import HandS.Nested
import KE.KExcSuper
import KE.KSuper
import HandS.CallLocal
import HandS.FStr
import HandS.Text
import KE.KCallOwn
import PySem.Challenge.RW_wholerises_k08_errors_of_polynomials_and
set_option Elab.async false
set_option linter.all false
set_option maxRecDepth 100000
set_option exponentiation.threshold 5000
namespace DF
variable {gq : Bool}
open PySem PySem.Spec PyProof.Rows L2
structure RoomG (k : Nat) (A : Around) (gq : Bool := true) : Prop where
  room : Room k A
  gd_ : gq = true → A.guards = some []
  dq : A.depth + 3 * k + 105 < recursionLimit
  fr_ : gq = true → ∃ l, A.frames = some l
theorem RoomG.mono {j k : Nat} {A : Around} (r : RoomG k A gq) (h : j ≤ k) : RoomG j A gq := ⟨r.room.mono h, r.gd_, by have := r.dq; omega, r.fr_⟩
theorem RoomG.deeper {k : Nat} {A : Around} (r : RoomG (k + 1) A gq) (env : Env) : RoomG k (A.deeper env) gq := ⟨r.room.deeper env, r.gd_, by have := r.dq; show A.depth + 1 + 3 * k + 105 < _; omega, by
  intro hg
  obtain ⟨l, e⟩ := r.fr_ hg
  exact ⟨env :: l, by show A.frames.map _ = _; rw [e]; rfl⟩⟩
theorem RoomG.units {k : Nat} {A : Around} (r : RoomG k A gq) : A.units + 64 < cLine := r.room.units
theorem RoomG.units0 {k : Nat} {A : Around} (r : RoomG k A gq) : A.units < cLine := r.room.units0
theorem RoomG.gd {k : Nat} {A : Around} (r : RoomG k A true) : A.guards = some [] := r.gd_ rfl
theorem RoomG.fr {k : Nat} {A : Around} (r : RoomG k A true) : ∃ l, A.frames = some l := r.fr_ rfl
structure FnG (P : Program) (w : World) (K : PySem.W.Frag) (mg : Str → Option Value) (base : Heap) (CX : CXT) (k : Nat) (f : Addr) (fd : FuncData) (ps : List Str) (sp : Sp) (gq : Bool := true) : Prop where
  len : ∀ vs H Q E, sp vs H Q E → vs.length = ps.length
  run : ∀ (A : Around) (outer : List Env) (s : Shared) (H : Hp) (us : List Value) (vs : List V) (Q : VK) (E : XK), RoomG k A gq → Env0 P w K mg base A outer s H → BindsTo s fd ⟨us, []⟩ (ps.zip us) → Vals vs us → sp vs H Q E →
    codeAny (model P w) A (.call (.ref f) ⟨us, []⟩) (CR CX outer P w H s Q E) s
theorem cr_ret {CX : CXT} {outer : List Env} {P : Program} {w : World} {H : Hp} {s : Shared} {Q : VK} {E : XK} {r : Result} {s' : Shared} {T : Result → Shared → Prop} (h : CR CX outer P w H s Q E r s') (h1 : ∀ u, CE outer P w H s Q u s' → T (.ok (.ret u)) s') (h2 : ∀ e, CX outer H s E e s' → T (.error e) s') : T r s' := by
  rcases r with e | fl
  · exact h2 e h
  · rcases fl with _ | _ | _ | u
    all_goals first | exact False.elim h | exact h1 _ h
section
variable {X : Cx} {CX : CXT} {k : Nat} {f : Addr} {fd : FuncData} {ps : List Str} {sp : Sp} {E : L2.St → XK} {x : Str} {p pos : Pos} {e : Expr} {es : List Expr} {t : TA}
theorem call_G {pins : List (Addr × Obj)} {σ : L2.St} {H : Hp} {s : Shared} {Q : VK} {us : List Value} {vs : List V} (F : FnG X.prog X.w X.K X.mg X.base CX k f fd ps sp gq) (hr : RoomG k X.A gq) (hb : Binds X.K fd ps []) (hx : PassesAt CX X σ (E σ))
    (I : Inv X pins σ H s) (r : Vals vs us) (h : sp vs H Q (E σ)) : wpAny (model X.prog X.w) X.A (call (.ref f) us) (EP X pins σ Q) X.xe s := by
  have hl : us.length = ps.length := by rw [← r.length]; exact F.len _ _ _ _ h
  have hb' : BindsTo s fd ⟨us, []⟩ (ps.zip us) := by simpa using hb s us I.kIn (by simpa using hl)
  exact wpAny_call (codeAny_mono (F.run X.A X.stack s H us vs Q (E σ) hr I.env0 hb' r h) fun r s' q => cr_ret (T := fun r s' => match r with | .ok (.ret u) => EP X pins σ Q u s' | .ok _ => False | .error e => X.xe e s') q (fun u c => I.after c) fun e c => hx pins H s e s' I c)
theorem pe_G (F : FnG X.prog X.w X.K X.mg X.base CX k f fd ps sp gq) (hr : RoomG k X.A gq) (hg : Gl X x) (hm : X.mg x = some (.ref f)) (hk : PySem.W.keepIn X.K (.ref f) = true) (hb : Binds X.K fd ps []) (hx : ∀ σ, PassesAt CX X σ (E σ))
    (ha : PA X (e :: es) t) (hdb : (x == ("__debug__" : Str)) = false := by decide) (he : starEach (e :: es) X.env = (false, eval e X.env) :: starEach es X.env := by rfl) (hpl : (backTo pos (starEach es X.env)).any (·.1) = false := by rfl) :
    PE X (.Call (.Name x p) (e :: es) [] pos) (tCallSD sp [] E t) :=
  ⟨fun pins s σ H Q I h => wpAny_Call_Name_kw (ld_glob I hg hm (PySem.W.callWith_K (h₀ := X.base) I.ok.mod.kin hk (thn (ha.run pos pins s σ H _ I h) fun us s1 ⟨vs, H1, I1, r, q⟩ => ⟨I1.kIn, call_G F hr hb (hx σ) I1 r (by simpa using q)⟩) he hpl) hdb)⟩
end

section
variable {CX : CXT} {P : Program} {w : World} {K : PySem.W.Frag} {mg : Str → Option Value} {base : Heap}
theorem fn_G {x qual : Str} {st : Stmt} {f : Addr} {fd : FuncData} {N ps : List Str} {k : Nat} {sp : Sp} (Fu : Fun K x qual st f fd) (S : FnScope N ps (defScope st)) (len : ∀ vs H Q E, sp vs H Q E → vs.length = ps.length)
    (hB : ∀ (cdv : Value) (A : Around) (outer : List Env) (s : Shared) (H : Hp) (vs : List V) (Q : VK) (E : XK), RoomG k (A.deeper (envOfC qual (defScope st) s.heap.objs.size f cdv)) gq → sp vs H Q E →
      ∃ t, PSs (cxOf CX P w K mg base N qual (defScope st) f cdv A outer s H E) (defBody st) t ∧ t { nx := fun _ H' => Q .non H', rt := Q } (L2.start N vs) H) : FnG P w K mg base CX (k + 1) f fd ps sp gq where
  len := len
  run := by
    obtain ⟨oc, od, kV, doc, pm, an, cdv, ct, osl, rfl, lk, hcd⟩ := Fu.ex
    intro A outer s H us vs Q E hr e0 hb rv hsp
    have inK : K.In s.heap := e0.mod.kin.keeps fun b o e => (e0.bs b o e).1
    have noL := e0.mod.nolimit.keeps fun b o e => (e0.bs b o e).1
    refine codeAny_call_function hr.room.depth (inK _ _ lk) rfl S.co S.gen rfl (PySem.W.codeRec_of inK hcd) (hb _ _ _ _ (wpAny_newFunctionEnv_cells S.kind ?kinds ?body))
    case kinds =>
      rintro ⟨y, v⟩ hy
      exact (S.par y (List.of_mem_zip hy).1).elim .inl fun q => .inr ⟨q, PySem.W.cellsFrom_some _ _ _ (.inl q)⟩
    case body =>
      rintro env rfl s1 x1
      obtain ⟨t, ht, hq⟩ := hB cdv A outer s H vs Q E (hr.deeper _) hsp
      refine ⟨noL.keeps x1.toInCall.keep, codeAny_func (wpAny_mono (ht.run [] s1 _ H _ (inv_start S hr.room.hd e0 (len _ _ _ _ hsp) rv x1) hq) (fun fl s' hs => ?_) fun _ _ hs => hs)⟩
      rcases fl with _ | _ | _ | u
      · obtain ⟨_, H', J, q⟩ := hs
        exact ⟨V.non, H', J.os, J.bare, J.base, J.hok, rfl, q⟩
      · obtain ⟨_, _, _, q⟩ := hs
        exact False.elim q
      · obtain ⟨_, _, _, q⟩ := hs
        exact False.elim q
      · obtain ⟨v, _, H', J, rv', q⟩ := hs
        exact ⟨v, H', J.os, J.bare, J.base, J.hok, rv', q⟩
end

section
variable {P : Program} {w : World} {K : PySem.W.Frag} {mg mb : Str → Option Value}
theorem script_heap {s : Shared} {a : Addr} {vs : List Value} {ns : List Int} (KX : K.In s.heap) (ha : s.heap.get? a = some { cls := .type "list", data := .seq vs.toArray }) (hi : IntsAre vs ns) (hl : ns.length ≤ sizeLine) :
    ∃ H : Hp, Only H ∧ SqL K H a (ns.map V.int) ∧ HOk P w H s.heap ∧ ∀ b, H b ≠ none → b = a ∧ K.lookup a = none := by
  have rv := vals_ints hi
  rcases hk : K.lookup a with _ | o
  · let ho : HO := .frz { cls := .type "list", data := .seq vs.toArray } (.lst (ns.map V.int))
    let H0 : Hp := fun b => if b = a then some ho else none
    have at0 : H0 a = some ho := if_pos rfl
    have off : ∀ b, b ≠ a → H0 b = none := fun b h => if_neg h
    refine ⟨H0, fun b => ?_, .inl (.inr ⟨_, at0⟩), fun b u z => ?_, fun b z => ⟨Classical.byContradiction fun h => z (off b h), rfl⟩⟩
    · rcases Classical.em (b = a) with rfl | h
      · exact .inr ⟨_, _, at0⟩
      · exact .inl (off b h)
    · rcases Classical.em (b = a) with rfl | h
      · rw [at0] at z
        cases z
        exact ⟨ha, by simpa using hl, vs, _, rv, ha⟩
      · rw [off b h] at z; cases z
  · have e := KX a o hk
    rw [ha] at e
    cases e
    exact ⟨fun _ => none, fun _ => .inl rfl, .inr ⟨_, vs.toArray, _, hk, rfl, rfl, rfl, by rw [List.size_toArray, hi.length]; exact hl, by simpa using rv⟩, fun _ _ z => (nomatch z), fun _ z => absurd rfl z⟩
variable {CX : CXT} {k : Nat} {fa : Addr} {fd : FuncData} {x : Str} {sp : Sp}
end
end DF

namespace DF
open PySem PySem.Spec PyProof.Rows L2

inductive D where
  | non | bl (b : Bool) | int (i : Int) | str (x : Str)
  | tup (l : List D) | lst (l : List D) | dic (l : List (Key × D)) | fro (l : List D)
  | obj (c : Str) (fs : List (Str × D))
  | fn (x : Str)

inductive Cell where
  | val (d : D)
  | mu (io : Bool) (d : D)
noncomputable abbrev DEnv := List (Option Cell)
noncomputable abbrev Sl := L2.St

noncomputable def NoD (G : Hp) (v : V) : Prop := ∃ (a : Addr) (ob : Obj) (u : HO), v = .ref a ∧ G a = some (.frz ob u) ∧ ob.dict = none
theorem NoD.mono {G G' : Hp} {v : V} (e : Evl.Ex G G') (h : NoD G v) : NoD G' v := by
  obtain ⟨a, ob, u, h1, h2, h3⟩ := h
  exact ⟨a, ob, u, h1, e _ _ h2, h3⟩

mutual
inductive Is (K : PySem.W.Frag) (G : Hp) : D → V → Prop
  | non : Is K G .non .non
  | bl (b : Bool) : Is K G (.bl b) (.bl b)
  | int (i : Int) : Is K G (.int i) (.int i)
  | str (x : Str) : Is K G (.str x) (.str x)
  | tup {l : List D} {a : Addr} {xs : List V} : SqT K G a xs → Iss K G l xs → Is K G (.tup l) (.ref a)
  | lst {l : List D} {a : Addr} {xs : List V} : G a = some (.lst xs) → Iss K G l xs → Is K G (.lst l) (.ref a)
  | dic {l : List (Key × D)} {a : Addr} {o : Obj} {kvs : List (Key × V)} : G a = some (.frz o (.dK kvs)) → Isk K G l kvs → Is K G (.dic l) (.ref a)
  | fro {l : List D} {a : Addr} {xs : List V} : SqL K G a xs → Iss K G l xs → Is K G (.fro l) (.ref a)
  | obj {c : Str} {fs : List (Str × D)} {a C dx : Addr} {fv : List (Str × V)} : G a = some (.ins C dx fv) → PySem.W.nsIn K mainGlobals c = some (some (.ref C)) → Isf K G fs fv → Is K G (.obj c fs) (.ref a)
  | fn {x : Str} {f : Addr} : PySem.W.nsIn K mainGlobals x = some (some (.ref f)) → Is K G (.fn x) (.ref f)
inductive Iss (K : PySem.W.Frag) (G : Hp) : List D → List V → Prop
  | nil : Iss K G [] []
  | cons {d : D} {v : V} {l : List D} {xs : List V} : Is K G d v → Iss K G l xs → Iss K G (d :: l) (v :: xs)
inductive Isk (K : PySem.W.Frag) (G : Hp) : List (Key × D) → List (Key × V) → Prop
  | nil : Isk K G [] []
  | cons {k : Key} {d : D} {v : V} {l : List (Key × D)} {xs : List (Key × V)} : Is K G d v → Isk K G l xs → Isk K G ((k, d) :: l) ((k, v) :: xs)
inductive Isf (K : PySem.W.Frag) (G : Hp) : List (Str × D) → List (Str × V) → Prop
  | nil : Isf K G [] []
  | cons {k : Str} {d : D} {v : V} {l : List (Str × D)} {xs : List (Str × V)} : Is K G d v → (k = "_pairs" → NoD G v) → Isf K G l xs → Isf K G ((k, d) :: l) ((k, v) :: xs)
end
section
variable {K : PySem.W.Frag} {G G' : Hp}
mutual
theorem Is.mono (e : Evl.Ex G G') : ∀ {d : D} {v : V}, Is K G d v → Is K G' d v
  | _, _, .non => .non
  | _, _, .bl b => .bl b
  | _, _, .int i => .int i
  | _, _, .str x => .str x
  | _, _, .tup h r => .tup (Evl.ex_t e h) (Iss.mono e r)
  | _, _, .lst h r => .lst (e _ _ h) (Iss.mono e r)
  | _, _, .dic h r => .dic (e _ _ h) (Isk.mono e r)
  | _, _, .fro h r => .fro (Evl.ex_l e h) (Iss.mono e r)
  | _, _, .obj h n r => .obj (e _ _ h) n (Isf.mono e r)
  | _, _, .fn h => .fn h
theorem Iss.mono (e : Evl.Ex G G') : ∀ {l : List D} {xs : List V}, Iss K G l xs → Iss K G' l xs
  | _, _, .nil => .nil
  | _, _, .cons h r => .cons (Is.mono e h) (Iss.mono e r)
theorem Isk.mono (e : Evl.Ex G G') : ∀ {l : List (Key × D)} {xs : List (Key × V)}, Isk K G l xs → Isk K G' l xs
  | _, _, .nil => .nil
  | _, _, .cons h r => .cons (Is.mono e h) (Isk.mono e r)
theorem Isf.mono (e : Evl.Ex G G') : ∀ {l : List (Str × D)} {xs : List (Str × V)}, Isf K G l xs → Isf K G' l xs
  | _, _, .nil => .nil
  | _, _, .cons h n r => .cons (Is.mono e h) (fun z => (n z).mono e) (Isf.mono e r)
end
theorem Iss.length : ∀ {l : List D} {xs : List V}, Iss K G l xs → l.length = xs.length
  | _, _, .nil => rfl
  | _, _, .cons _ r => congrArg (· + 1) (Iss.length r)
theorem Isk.length : ∀ {l : List (Key × D)} {xs : List (Key × V)}, Isk K G l xs → l.length = xs.length
  | _, _, .nil => rfl
  | _, _, .cons _ r => congrArg (· + 1) (Isk.length r)
theorem Iss.get : ∀ {l : List D} {xs : List V} {i : Nat} {d : D}, Iss K G l xs → l[i]? = some d → ∃ v, xs[i]? = some v ∧ Is K G d v
  | _, _, _, _, .nil, e => by simp at e
  | _, _, 0, _, .cons h _, e => by simp at e; subst e; exact ⟨_, rfl, h⟩
  | _, _, i + 1, d, .cons _ r, e => by
    obtain ⟨v, h1, h2⟩ := Iss.get (i := i) (d := d) r (by simpa using e)
    exact ⟨v, by simpa using h1, h2⟩
theorem Iss.append : ∀ {l m : List D} {xs ys : List V}, Iss K G l xs → Iss K G m ys → Iss K G (l ++ m) (xs ++ ys)
  | _, _, _, _, .nil, s => s
  | _, _, _, _, .cons h r, s => .cons h (Iss.append r s)
theorem Iss.set {d : D} {v : V} (h : Is K G d v) : ∀ {l : List D} {xs : List V} (i : Nat), Iss K G l xs → Iss K G (l.set i d) (xs.set i v)
  | _, _, _, .nil => .nil
  | _, _, 0, .cons _ r => .cons h r
  | _, _, i + 1, .cons q r => .cons q (Iss.set h i r)
theorem Iss.take : ∀ {l : List D} {xs : List V} (n : Nat), Iss K G l xs → Iss K G (l.take n) (xs.take n)
  | _, _, 0, _ => .nil
  | _, _, _ + 1, .nil => .nil
  | _, _, n + 1, .cons q r => .cons q (Iss.take n r)
theorem Iss.drop : ∀ {l : List D} {xs : List V} (n : Nat), Iss K G l xs → Iss K G (l.drop n) (xs.drop n)
  | _, _, 0, r => r
  | _, _, _ + 1, .nil => .nil
  | _, _, n + 1, .cons _ r => Iss.drop n r
theorem Iss.reverse : ∀ {l : List D} {xs : List V}, Iss K G l xs → Iss K G l.reverse xs.reverse
  | _, _, .nil => .nil
  | _, _, .cons q r => by rw [List.reverse_cons, List.reverse_cons]; exact (Iss.reverse r).append (.cons q .nil)
theorem Iss.rep : ∀ {l : List D} {xs : List V} (n : Nat), Iss K G l xs → Iss K G (List.replicate n l).flatten (List.replicate n xs).flatten
  | _, _, 0, _ => .nil
  | _, _, n + 1, r => by rw [List.replicate_succ, List.replicate_succ, List.flatten_cons, List.flatten_cons]; exact r.append (Iss.rep n r)
theorem Iss.ints : ∀ {ns : List Int} {xs : List V}, Iss K G (ns.map D.int) xs → xs = ns.map V.int
  | [], _, .nil => rfl
  | _ :: _, _, .cons (.int _) r => by rw [Iss.ints r]; rfl
theorem Iss.of_ints : ∀ ns : List Int, Iss K G (ns.map D.int) (ns.map V.int)
  | [] => .nil
  | n :: r => .cons (.int n) (Iss.of_ints r)
theorem Iss.bls : ∀ {ns : List Bool} {xs : List V}, Iss K G (ns.map D.bl) xs → xs = ns.map V.bl
  | [], _, .nil => rfl
  | _ :: _, _, .cons (.bl _) r => by rw [Iss.bls r]; rfl
end

noncomputable def Cont (K : PySem.W.Frag) (G H : Hp) (a : Addr) : D → Prop
  | .lst l => ∃ xs, H a = some (.lst xs) ∧ Iss K G l xs
  | .dic l => ∃ kvs, H a = some (.dK kvs) ∧ Isk K G l kvs
  | .obj c fs => ∃ C dx fv, H a = some (.ins C dx fv) ∧ PySem.W.nsIn K mainGlobals c = some (some (.ref C)) ∧ Isf K G fs fv
  | _ => False
theorem Cont.mono {K : PySem.W.Frag} {G G' H H' : Hp} {a : Addr} {d : D} (e : Evl.Ex G G') (h : ∀ o, H a = some o → H' a = some o) (c : Cont K G H a d) : Cont K G' H' a d := by
  cases d with
  | lst l => obtain ⟨xs, h1, h2⟩ := c; exact ⟨xs, h _ h1, h2.mono e⟩
  | dic l => obtain ⟨xs, h1, h2⟩ := c; exact ⟨xs, h _ h1, h2.mono e⟩
  | obj cn fs => obtain ⟨C, dx, fv, h1, h2, h3⟩ := c; exact ⟨C, dx, fv, h _ h1, h2, h3.mono e⟩
  | _ => exact False.elim c
theorem Cont.there {K : PySem.W.Frag} {G H : Hp} {a : Addr} {d : D} (c : Cont K G H a d) : ∃ o, H a = some o := by
  cases d with
  | lst l => obtain ⟨xs, h1, _⟩ := c; exact ⟨_, h1⟩
  | dic l => obtain ⟨xs, h1, _⟩ := c; exact ⟨_, h1⟩
  | obj cn fs => obtain ⟨C, dx, fv, h1, _⟩ := c; exact ⟨_, h1⟩
  | _ => exact False.elim c

noncomputable def lamNames : List Str := ["law", "_law_added_right", "_law_bounds_right", "_law_calls_right", "_law_cases_right", "_law_constant_right", "_law_cubes_right", "_law_formats_right", "_law_is_over_told", "_law_is_shut", "_law_lines_right", "_law_made_right", "_law_makers_right", "_law_mirrors_right", "_law_multiples_right", "_law_names_right", "_law_numbers_right", "_law_others_right", "_law_prime_right", "_law_put_right", "_law_ratios_right", "_law_refused", "_law_refused_right", "_law_right", "_law_row_right", "_law_rows_right", "_law_series_right", "_law_shells_right", "_law_stairs_right", "_law_sums_right", "_law_tables_right", "_law_words_right"]
noncomputable def lamName (x : Str) : Str := x ++ ".<locals>." ++ "<lambda>"
noncomputable def TabK (K : PySem.W.Frag) (G H : Hp) : Prop := ∀ x ∈ lamNames, ∀ c P, PySem.W.tabIn K x = some (c, P) → G P = none ∧ LamX.TabS H P (lamName x)
noncomputable def NoT (o : HO) : Prop := ∀ ps, o ≠ .tbl ps
theorem NoT.lst {xs : List V} : NoT (.lst xs) := fun _ z => nomatch z
theorem NoT.dK {xs : List (Key × V)} : NoT (.dK xs) := fun _ z => nomatch z
theorem NoT.frz {ob : Obj} {o : HO} : NoT (.frz ob o) := fun _ z => nomatch z
theorem NoT.ins {C dx : Addr} {fv : List (Str × V)} : NoT (.ins C dx fv) := fun _ z => nomatch z
theorem TabS.stay {H H' : Hp} {P : Addr} {q : Str} (h1 : ∀ b ps, H b = some (.tbl ps) → H' b = some (.tbl ps)) (h2 : ∀ b c q, H b = some (LamX.CodeO c q) → H' b = some (LamX.CodeO c q)) (t : LamX.TabS H P q) : LamX.TabS H' P q := by
  obtain ⟨ps, a, b, c⟩ := t
  refine ⟨ps, h1 _ _ a, b, fun pos cv e => ?_⟩
  obtain ⟨c', e1, e2⟩ := c pos cv e
  exact ⟨c', e1, h2 _ _ _ e2⟩
theorem TabK.ext {K : PySem.W.Frag} {G H G' H' : Hp} (t : TabK K G H) (e : Evl.Ex H H') (n : ∀ b, G b = none → G' b ≠ none → H b = none) : TabK K G' H' := fun x hx c P h => by
  obtain ⟨t1, t2⟩ := t x hx c P h
  refine ⟨?_, t2.ext e⟩
  cases q : G' P with
  | none => rfl
  | some o =>
    have z := n P t1 (by rw [q]; exact fun z => by cases z)
    obtain ⟨ps, y, _⟩ := t2
    rw [z] at y; cases y
theorem TabK.stay {K : PySem.W.Frag} {G H H' : Hp} (t : TabK K G H) (h1 : ∀ b ps, H b = some (.tbl ps) → H' b = some (.tbl ps)) (h2 : ∀ b c q, H b = some (LamX.CodeO c q) → H' b = some (LamX.CodeO c q)) : TabK K G H' := fun x hx c P h => ⟨(t x hx c P h).1, TabS.stay h1 h2 (t x hx c P h).2⟩
noncomputable def Pln (H : Hp) (a : Addr) : Prop := ∀ o, H a = some o → NoT o ∧ ∀ c q, o ≠ LamX.CodeO c q
theorem TabK.pH {K : PySem.W.Frag} {G H : Hp} {a : Addr} {o : HO} (t : TabK K G H) (h : Pln H a) : TabK K G (upd H a o) := t.stay (fun b ps e => by
    by_cases z : b = a
    · subst z; exact absurd rfl ((h _ e).1 ps)
    · rw [upd_ne z]; exact e) fun b c q e => by
    by_cases z : b = a
    · subst z; exact absurd rfl ((h _ e).2 c q)
    · rw [upd_ne z]; exact e
theorem TabK.pG {K : PySem.W.Frag} {G H : Hp} {a : Addr} {o : HO} (t : TabK K G H) (h : Pln H a) : TabK K (upd G a o) H := fun x hx c P e => by
  obtain ⟨t1, t2⟩ := t x hx c P e
  refine ⟨?_, t2⟩
  obtain ⟨ps, y, _⟩ := t2
  rw [upd_ne (fun z => by subst z; exact (h _ y).1 ps rfl)]
  exact t1
theorem TabK.p2 {K : PySem.W.Frag} {G H : Hp} {a : Addr} {o o' : HO} (t : TabK K G H) (h : Pln H a) : TabK K (upd G a o) (upd H a o') := fun x hx c P e =>
  ⟨(t.pG (o := o) h x hx c P e).1, (t.pH (o := o') h x hx c P e).2⟩
theorem Pln.none {H : Hp} {a : Addr} (h : H a = none) : Pln H a := fun o e => by rw [h] at e; cases e
theorem Pln.lst {H : Hp} {a : Addr} {xs : List V} (h : H a = some (.lst xs)) : Pln H a := fun o e => by
  rw [h] at e; cases e; exact ⟨fun _ z => (nomatch z), fun _ _ z => (by unfold LamX.CodeO at z; cases z)⟩
theorem Pln.dK {H : Hp} {a : Addr} {xs : List (Key × V)} (h : H a = some (.dK xs)) : Pln H a := fun o e => by
  rw [h] at e; cases e; exact ⟨fun _ z => (nomatch z), fun _ _ z => (by unfold LamX.CodeO at z; cases z)⟩
theorem Pln.ins {H : Hp} {a C dx : Addr} {fv : List (Str × V)} (h : H a = some (.ins C dx fv)) : Pln H a := fun o e => by
  rw [h] at e; cases e; exact ⟨fun _ z => (nomatch z), fun _ _ z => (by unfold LamX.CodeO at z; cases z)⟩
theorem Cont.pln {K : PySem.W.Frag} {G H : Hp} {a : Addr} {d : D} (c : Cont K G H a d) : Pln H a := by
  cases d with
  | lst l => obtain ⟨xs, h1, _⟩ := c; exact .lst h1
  | dic l => obtain ⟨xs, h1, _⟩ := c; exact .dK h1
  | obj cn fs => obtain ⟨C, dx, fv, h1, _⟩ := c; exact .ins h1
  | _ => exact False.elim c

noncomputable def Gr (H H' : Hp) : Prop := ∀ b ps, H b = some (.tbl ps) → ∃ more : Array Value, H' b = some (.tbl (ps ++ more))
theorem Gr.refl {H : Hp} : Gr H H := fun b ps e => ⟨#[], by rw [e]; simp⟩
theorem Gr.trans {H H1 H2 : Hp} (a : Gr H H1) (b : Gr H1 H2) : Gr H H2 := fun c ps e => by
  obtain ⟨m, e1⟩ := a c ps e
  obtain ⟨m2, e2⟩ := b c _ e1
  exact ⟨m ++ m2, by rw [e2, Array.append_assoc]⟩
theorem Gr.ex {H H' : Hp} (a : Evl.Ex H H') : Gr H H' := fun c ps e => ⟨#[], by rw [a c _ e]; simp⟩
theorem Gr.up {H : Hp} {a : Addr} {o : HO} (h : Pln H a) : Gr H (upd H a o) := fun c ps e => ⟨#[], by
  rw [upd_ne (fun z => by subst z; exact (h _ e).1 ps rfl), e]; simp⟩
theorem Gr.kept {H H' : Hp} (g : Gr H H') {b : Addr} {o : HO} (e : H b = some o) (h : NoT o → H' b = some o) : ∃ o', H' b = some o' := by
  rcases Classical.em (NoT o) with z | z
  · exact ⟨_, h z⟩
  · unfold NoT at z
    simp only [ne_eq, Classical.not_forall, Classical.not_not] at z
    obtain ⟨ps, rfl⟩ := z
    obtain ⟨m, q⟩ := g b ps e
    exact ⟨_, q⟩

structure Rep (K : PySem.W.Frag) (G H : Hp) (ρ : DEnv) (σ : Sl) : Prop where
  sub : Evl.Ex G H
  len : ρ.length = σ.length
  vl : ∀ (i : Nat) (d : D), ρ[i]? = some (some (.val d)) → ∃ v, σ[i]? = some (some v) ∧ Is K G d v
  mu : ∀ (i : Nat) (b : Bool) (d : D), ρ[i]? = some (some (.mu b d)) → ∃ a, σ[i]? = some (some (.ref a)) ∧ G a = none ∧ Cont K G H a d
  ap : ∀ (i j : Nat) (b c : Bool) (d e : D) (a : Addr), ρ[i]? = some (some (.mu b d)) → ρ[j]? = some (some (.mu c e)) → σ[i]? = some (some (.ref a)) → σ[j]? = some (some (.ref a)) → i = j
  tb : TabK K G H
noncomputable def Mu (b : Bool) (ρ : DEnv) (σ : Sl) (a : Addr) : Prop := ∃ (i : Nat) (d : D), ρ[i]? = some (some (.mu b d)) ∧ σ[i]? = some (some (.ref a))

structure Stp (ρ : DEnv) (σ : Sl) (G H : Hp) (ρ' : DEnv) (σ' : Sl) (G' H' : Hp) : Prop where
  g : Evl.Ex G G'
  h : ∀ b o, ¬ Mu false ρ σ b → ¬ Mu true ρ σ b → H b = some o → NoT o → H' b = some o
  t : ∀ b, H' b = none → H b = none
  n : ∀ b, G b = none → G' b ≠ none → H b = none ∨ Mu false ρ σ b
  ow : ∀ b, Mu false ρ' σ' b → Mu false ρ σ b ∨ H b = none
  io : ∀ (i : Nat), (∀ d, ρ[i]? = some (some (.mu true d)) → ∃ d', ρ'[i]? = some (some (.mu true d')) ∧ σ'[i]? = σ[i]?) ∧ (∀ d, ρ'[i]? = some (some (.mu true d)) → ∃ d', ρ[i]? = some (some (.mu true d')))
  gr : Gr H H'
section
variable {K : PySem.W.Frag} {ρ ρ1 ρ2 : DEnv} {σ σ1 σ2 : Sl} {G G1 G2 H H1 H2 : Hp}
theorem Stp.refl : Stp ρ σ G H ρ σ G H := ⟨fun _ _ e => e, fun _ _ _ _ e _ => e, fun _ e => e, fun _ e q => absurd e q, fun _ e => .inl e, fun _ => ⟨fun d e => ⟨d, e, rfl⟩, fun d e => ⟨d, e⟩⟩, .refl⟩
theorem Stp.io_back (a : Stp ρ σ G H ρ1 σ1 G1 H1) {b : Addr} (m : Mu true ρ1 σ1 b) : Mu true ρ σ b := by
  obtain ⟨i, d, e1, e2⟩ := m
  obtain ⟨d0, e0⟩ := (a.io i).2 d e1
  obtain ⟨d', _, e3⟩ := (a.io i).1 d0 e0
  exact ⟨i, d0, e0, e3.symm.trans e2⟩
theorem Stp.trans (R : Rep K G H ρ σ) (a : Stp ρ σ G H ρ1 σ1 G1 H1) (b : Stp ρ1 σ1 G1 H1 ρ2 σ2 G2 H2) : Stp ρ σ G H ρ2 σ2 G2 H2 where
  g := fun c o e => b.g c o (a.g c o e)
  h := fun c o n1 n2 e nt => b.h c o (fun m => (a.ow c m).elim n1 fun z => by rw [z] at e; cases e) (fun m => n2 (a.io_back m)) (a.h c o n1 n2 e nt) nt
  t := fun c e => a.t c (b.t c e)
  n := fun c e q => by
    by_cases h : G1 c = none
    · rcases b.n c h q with z | z
      · exact .inl (a.t c z)
      · rcases a.ow c z with z | z
        · exact .inr z
        · exact .inl z
    · exact a.n c e h
  ow := fun c m => by
    rcases b.ow c m with z | z
    · exact a.ow c z
    · exact .inr (a.t c z)
  io := fun i => ⟨fun d e => by
      obtain ⟨d1, e1, s1⟩ := (a.io i).1 d e
      obtain ⟨d2, e2, s2⟩ := (b.io i).1 d1 e1
      exact ⟨d2, e2, s2.trans s1⟩, fun d e => by
      obtain ⟨d1, e1⟩ := (b.io i).2 d e
      exact (a.io i).2 d1 e1⟩
  gr := a.gr.trans b.gr

structure New (G H G' H' : Hp) : Prop where
  g : Evl.Ex G G'
  h : Evl.Ex H H'
  s : Evl.Ex G' H'
  n : ∀ b, G b = none → G' b ≠ none → H b = none
theorem New.refl (e : Evl.Ex G H) : New G H G H := ⟨fun _ _ e => e, fun _ _ e => e, e, fun _ e q => absurd e q⟩
theorem New.trans (a : New G H G1 H1) (b : New G1 H1 G2 H2) : New G H G2 H2 := ⟨fun c o e => b.g c o (a.g c o e), fun c o e => b.h c o (a.h c o e), b.s, fun c e q => by
  by_cases h : G1 c = none
  · have z := b.n c h q
    cases y : H c with
    | none => rfl
    | some o => rw [a.h c o y] at z; cases z
  · exact a.n c e h⟩
theorem sub_none (e : Evl.Ex G H) {p : Addr} (h : H p = none) : G p = none := by
  cases q : G p with
  | none => rfl
  | some o => rw [e p o q] at h; cases h
theorem New.put {p : Addr} {o : HO} (e : Evl.Ex G H) (h : H p = none) : New G H (upd G p o) (upd H p o) where
  g := Evl.Ex.new (sub_none e h)
  h := Evl.Ex.new h
  s := fun b u q => by
    by_cases z : b = p
    · subst z; rw [upd_same] at q ⊢; exact q
    · rw [upd_ne z] at q ⊢; exact e b u q
  n := fun b q r => by
    by_cases z : b = p
    · subst z; exact h
    · rw [upd_ne z] at r; exact absurd q r
theorem New.hid {p : Addr} {o : HO} (e : Evl.Ex G H) (h : H p = none) : New G H G (upd H p o) where
  g := fun _ _ e => e
  h := Evl.Ex.new h
  s := fun b u q => Evl.Ex.new h b u (e b u q)
  n := fun b q r => absurd q r
theorem New.none_back (a : New G H G1 H1) {p : Addr} (h : H1 p = none) : H p = none := by
  cases y : H p with
  | none => rfl
  | some o => rw [a.h p o y] at h; cases h
theorem New.stp (R : Rep K G H ρ σ) (a : New G H G1 H1) : Stp ρ σ G H ρ σ G1 H1 := ⟨a.g, fun b o _ _ e _ => a.h b o e, fun _ e => a.none_back e, fun b e q => .inl (a.n b e q), fun _ e => .inl e, fun _ => ⟨fun d e => ⟨d, e, rfl⟩, fun d e => ⟨d, e⟩⟩, .ex a.h⟩
theorem New.rep (R : Rep K G H ρ σ) (a : New G H G1 H1) : Rep K G1 H1 ρ σ where
  sub := a.s
  len := R.len
  vl := fun i d e => by
    obtain ⟨v, e1, e2⟩ := R.vl i d e
    exact ⟨v, e1, e2.mono a.g⟩
  mu := fun i b d e => by
    obtain ⟨c, e1, e2, e3⟩ := R.mu i b d e
    refine ⟨c, e1, ?_, e3.mono a.g fun o q => a.h c o q⟩
    cases q : G1 c with
    | none => rfl
    | some o =>
      have z := a.n c e2 (by rw [q]; exact fun z => by cases z)
      obtain ⟨o', y⟩ := e3.there
      rw [z] at y; cases y
  ap := R.ap
  tb := R.tb.ext a.h a.n
end
end DF

namespace DF
open PySem PySem.Spec PyProof.Rows L2

structure Exc where
  nm : Str
  fld : Option (Str × D)
noncomputable def cv (K : PySem.W.Frag) (x : Str) : Value := match PySem.W.nsIn K mainGlobals x with
  | some (some v) => v
  | _ => .none
inductive R (α : Type) where
  | no
  | ok (ρ : DEnv) (a : α)
  | ex (ρ : DEnv) (e : Exc)
noncomputable def R.bind {α β : Type} (r : R α) (f : α → DEnv → R β) : R β := match r with
  | .no => .no
  | .ok ρ a => f a ρ
  | .ex ρ e => .ex ρ e
theorem R.bind_ok {α β : Type} {ρ : DEnv} {a : α} {f : α → DEnv → R β} : (R.ok ρ a).bind f = f a ρ := rfl
noncomputable def ofO {α : Type} (ρ : DEnv) : Option α → R α
  | none => .no
  | some d => .ok ρ d
noncomputable def EIs (K : PySem.W.Frag) (G H : Hp) (e : Exc) (d : Option Addr) : Prop := match e.fld with
  | none => d = none
  | some (f, x) => ∃ (dd : Addr) (v : V), d = some dd ∧ H dd = some (.xd [(f, v)]) ∧ Is K G x v
noncomputable def Go (K : PySem.W.Frag) (W : WX) (σ : Sl) (ρ : DEnv) (G H : Hp) {α : Type} (P : α → DEnv → Hp → Hp → Prop) (r : R α) : Prop := match r with
  | .no => False
  | .ok ρ' a => ∀ G' H', Stp ρ σ G H ρ' σ G' H' → Rep K G' H' ρ' σ → P a ρ' G' H'
  | .ex ρ' e => ∀ G' H' d, Stp ρ σ G H ρ' σ G' H' → Rep K G' H' ρ' σ → EIs K G' H' e d → W (cv K e.nm) d σ H'
section
variable {K : PySem.W.Frag} {W : WX} {σ : Sl} {ρ ρ1 : DEnv} {G G1 H H1 : Hp} {α β : Type} {P P' : α → DEnv → Hp → Hp → Prop} {S : β → DEnv → Hp → Hp → Prop}
theorem Go.imp {r : R α} (h : Go K W σ ρ G H P r) (f : ∀ a ρ' G' H', Stp ρ σ G H ρ' σ G' H' → Rep K G' H' ρ' σ → P a ρ' G' H' → P' a ρ' G' H') : Go K W σ ρ G H P' r := by
  cases r with
  | no => exact h
  | ok ρ' a => exact fun G' H' s R => f a ρ' G' H' s R (h G' H' s R)
  | ex ρ' e => exact h
theorem Go.shift {r : R α} (R0 : Rep K G H ρ σ) (s : Stp ρ σ G H ρ1 σ G1 H1) (h : Go K W σ ρ G H P r) : Go K W σ ρ1 G1 H1 P r := by
  cases r with
  | no => exact h
  | ok ρ' a => exact fun G' H' s' R => h G' H' (s.trans R0 s') R
  | ex ρ' e => exact fun G' H' d s' R => h G' H' d (s.trans R0 s') R
theorem Go.bind {r : R α} {g : α → DEnv → R β} (R0 : Rep K G H ρ σ) (h : Go K W σ ρ G H S (r.bind g)) : Go K W σ ρ G H (fun a ρ' G' H' => Go K W σ ρ' G' H' S (g a ρ')) r := by
  cases r with
  | no => exact h
  | ok ρ' a => exact fun G' H' s R => Go.shift R0 s h
  | ex ρ' e => exact h
end

noncomputable abbrev Th := DEnv → Option D
noncomputable def Top (K : PySem.W.Frag) (G H : Hp) (d : D) (v : V) : Prop := match d with
  | .lst l => ∃ a xs, v = .ref a ∧ H a = some (.lst xs) ∧ Iss K G l xs
  | .dic l => ∃ a kvs, v = .ref a ∧ Rd H a (.dK kvs) ∧ Isk K G l kvs
  | .obj c fs => ∃ a C dx fv, v = .ref a ∧ H a = some (.ins C dx fv) ∧ PySem.W.nsIn K mainGlobals c = some (some (.ref C)) ∧ Isf K G fs fv
  | d => Is K G d v
theorem Is.top {K : PySem.W.Frag} {G H : Hp} {d : D} {v : V} (e : Evl.Ex G H) (h : Is K G d v) : Top K G H d v := by
  cases h with
  | lst h r => exact ⟨_, _, rfl, e _ _ h, r⟩
  | dic h r => exact ⟨_, _, rfl, .inr ⟨_, e _ _ h⟩, r⟩
  | obj h n r => exact ⟨_, _, _, _, rfl, e _ _ h, n, r⟩
  | fn h => exact .fn h
  | fro h r => exact .fro h r
  | non => exact .non
  | bl b => exact .bl b
  | int i => exact .int i
  | str x => exact .str x
  | tup h r => exact .tup h r
theorem Cont.top {K : PySem.W.Frag} {G H : Hp} {d : D} {a : Addr} (c : Cont K G H a d) : Top K G H d (.ref a) := by
  cases d with
  | lst l => obtain ⟨xs, h1, h2⟩ := c; exact ⟨a, xs, rfl, h1, h2⟩
  | dic l => obtain ⟨xs, h1, h2⟩ := c; exact ⟨a, xs, rfl, .inl h1, h2⟩
  | obj cn fs => obtain ⟨C, dx, fv, h1, h2, h3⟩ := c; exact ⟨a, C, dx, fv, rfl, h1, h2, h3⟩
  | _ => exact False.elim c
theorem Top.is {K : PySem.W.Frag} {G H : Hp} {d : D} {v : V} (e : Evl.Ex G H) (h : Top K G H d v) (hn : ∀ l, d ≠ .dic l) : Is K H d v := by
  cases d with
  | lst l => obtain ⟨a, xs, rfl, h1, h2⟩ := h; exact .lst h1 (h2.mono e)
  | dic l => exact absurd rfl (hn l)
  | obj c fs => obtain ⟨a, C, dx, fv, rfl, h1, h2, h3⟩ := h; exact .obj h1 h2 (h3.mono e)
  | non => exact Is.mono e h
  | bl b => exact Is.mono e h
  | int i => exact Is.mono e h
  | str x => exact Is.mono e h
  | tup l => exact Is.mono e h
  | fro l => exact Is.mono e h
  | fn x => exact Is.mono e h
inductive Tops (K : PySem.W.Frag) (G H : Hp) : List D → List V → Prop
  | nil : Tops K G H [] []
  | cons {d : D} {v : V} {l : List D} {xs : List V} : Top K G H d v → Tops K G H l xs → Tops K G H (d :: l) (v :: xs)

noncomputable def tD (K : PySem.W.Frag) (W : WX) (f : DEnv → R D) : TE := fun σ H Q => ∃ ρ G, Rep K G H ρ σ ∧ Go K W σ ρ G H (fun d _ G' H' => ∀ v, Is K G' d v → Q v H') (f ρ)
noncomputable def OTh (K : PySem.W.Frag) (σ : Sl) (ρ : DEnv) (G H : Hp) (th : Th) (v : V) : Prop := ∀ ρ2 G2 H2 d, Stp ρ σ G H ρ2 σ G2 H2 → Rep K G2 H2 ρ2 σ → th ρ2 = some d → Top K G2 H2 d v
theorem OTh.shift {K : PySem.W.Frag} {σ : Sl} {ρ ρ1 : DEnv} {G G1 H H1 : Hp} {th : Th} {v : V} (R0 : Rep K G H ρ σ) (s : Stp ρ σ G H ρ1 σ G1 H1) (h : OTh K σ ρ G H th v) : OTh K σ ρ1 G1 H1 th v :=
  fun ρ2 G2 H2 d s2 R2 e => h ρ2 G2 H2 d (s.trans R0 s2) R2 e
noncomputable def tO (K : PySem.W.Frag) (W : WX) (f : DEnv → R Th) : TE := fun σ H Q => ∃ ρ G, Rep K G H ρ σ ∧ Go K W σ ρ G H (fun th ρ' G' H' => ∀ v, OTh K σ ρ' G' H' th v → Q v H') (f ρ)
inductive OThs (K : PySem.W.Frag) (σ : Sl) (ρ : DEnv) (G H : Hp) : List Th → List V → Prop
  | nil : OThs K σ ρ G H [] []
  | cons {t : Th} {v : V} {l : List Th} {xs : List V} : OTh K σ ρ G H t v → OThs K σ ρ G H l xs → OThs K σ ρ G H (t :: l) (v :: xs)
theorem OThs.shift {K : PySem.W.Frag} {σ : Sl} {ρ ρ1 : DEnv} {G G1 H H1 : Hp} (R0 : Rep K G H ρ σ) (s : Stp ρ σ G H ρ1 σ G1 H1) : ∀ {l : List Th} {xs : List V}, OThs K σ ρ G H l xs → OThs K σ ρ1 G1 H1 l xs
  | _, _, .nil => .nil
  | _, _, .cons h r => .cons (h.shift R0 s) (OThs.shift R0 s r)
noncomputable def ths (l : List Th) (ρ : DEnv) : Option (List D) := match l with
  | [] => some []
  | t :: r => match t ρ with
    | none => none
    | some d => match ths r ρ with
      | none => none
      | some ds => some (d :: ds)
theorem OThs.tops {K : PySem.W.Frag} {σ : Sl} {ρ : DEnv} {G H : Hp} (R0 : Rep K G H ρ σ) : ∀ {l : List Th} {xs : List V} {ds : List D}, OThs K σ ρ G H l xs → ths l ρ = some ds → Tops K G H ds xs
  | _, _, ds, .nil, e => by cases e; exact .nil
  | t :: l, _, ds, .cons h r, e => by
    unfold ths at e
    split at e
    · cases e
    · rename_i d e1
      split at e
      · cases e
      · rename_i ds' e2
        cases e
        exact .cons (h ρ G H d .refl R0 e1) (OThs.tops R0 r e2)
noncomputable def tAs (K : PySem.W.Frag) (W : WX) (f : DEnv → R (List Th)) : TA := fun σ H Q => ∃ ρ G, Rep K G H ρ σ ∧ Go K W σ ρ G H (fun l ρ' G' H' => ∀ vs, OThs K σ ρ' G' H' l vs → Q vs H') (f ρ)
noncomputable def tT (K : PySem.W.Frag) (W : WX) (f : DEnv → R Bool) : TT := fun σ H Q => ∃ ρ G, Rep K G H ρ σ ∧ Go K W σ ρ G H (fun b _ _ H' => Q b H') (f ρ)
noncomputable def tDs (K : PySem.W.Frag) (W : WX) (f : DEnv → R (List D)) : TA := fun σ H Q => ∃ ρ G, Rep K G H ρ σ ∧ Go K W σ ρ G H (fun l _ G' H' => ∀ vs, Iss K G' l vs → Q vs H') (f ρ)
noncomputable def tF (K : PySem.W.Frag) (W : WX) (f : DEnv → R D) : TE := fun σ H Q => ∃ ρ G, Rep K G H ρ σ ∧
  Go K W σ ρ G H (fun d ρ' G' H' => ∀ a, G' a = none → ¬ Mu false ρ' σ a → ¬ Mu true ρ' σ a → H a = none → Cont K G' H' a d → Q (.ref a) H') (f ρ)

noncomputable abbrev DE (X : Cx) (W : WX) (e : Expr) (f : DEnv → R D) : Prop := PE X e (tD X.K W f)
noncomputable abbrev DO (X : Cx) (W : WX) (e : Expr) (f : DEnv → R Th) : Prop := PE X e (tO X.K W f)
noncomputable abbrev DF' (X : Cx) (W : WX) (e : Expr) (f : DEnv → R D) : Prop := PE X e (tF X.K W f)
noncomputable abbrev DT (X : Cx) (W : WX) (e : Expr) (f : DEnv → R Bool) : Prop := PT X e (tT X.K W f)
noncomputable abbrev DA (X : Cx) (W : WX) (es : List Expr) (f : DEnv → R (List Th)) : Prop := PA X es (tAs X.K W f)
noncomputable abbrev DVs (X : Cx) (W : WX) (es : List Expr) (f : DEnv → R (List D)) : Prop := PA X es (tDs X.K W f)
theorem pe_imp {X : Cx} {e : Expr} {t t' : TE} (h : PE X e t) (i : ∀ σ H Q, t' σ H Q → t σ H Q) : PE X e t' := ⟨fun pins s σ H Q I q => h.run pins s σ H Q I (i σ H Q q)⟩
theorem pt_imp {X : Cx} {e : Expr} {t t' : TT} (h : PT X e t) (i : ∀ σ H Q, t' σ H Q → t σ H Q) : PT X e t' := ⟨fun pins s σ H Q I q => h.run pins s σ H Q I (i σ H Q q)⟩
theorem pw_imp {X : Cx} {e : Expr} {t t' : TT} (h : PW X e t) (i : ∀ σ H Q, t' σ H Q → t σ H Q) : PW X e t' := ⟨fun wh pins s σ H Q I q => h.run wh pins s σ H Q I (i σ H Q q)⟩
theorem pa_imp {X : Cx} {es : List Expr} {t t' : TA} (h : PA X es t) (i : ∀ σ H Q, t' σ H Q → t σ H Q) : PA X es t' := ⟨fun pos pins s σ H Q I q => h.run pos pins s σ H Q I (i σ H Q q)⟩

section
variable {X : Cx} {W : WX} {e : Expr} {es : List Expr} {pos : Pos}
noncomputable def dC (d : D) : DEnv → R D := fun ρ => .ok ρ d
theorem de_const {d : D} {v : V} (h : PE X e (tC v)) (hv : ∀ G, Is X.K G d v) : DE X W e (dC d) := pe_imp h fun σ H Q ⟨ρ, G, R, h⟩ => h G H .refl R v (hv G)
theorem de_int {i : Int} {j pos} : DE X W (.Constant (.int i) j pos) (dC (.int i)) := de_const pe_int fun _ => .int i
theorem de_bl {b : Bool} {j pos} : DE X W (.Constant (.bool b) j pos) (dC (.bl b)) := de_const pe_bl fun _ => .bl b
theorem de_non {j pos} : DE X W (.Constant .none j pos) (dC .non) := de_const pe_non fun _ => .non
theorem de_str {x : Str} {j pos} : DE X W (.Constant (.str x) j pos) (dC (.str x)) := de_const pe_str fun _ => .str x
theorem de_gint {x : Str} {i : Int} {t : Tok} (hg : Gl X x) (hm : X.mg x = some (.int i t)) (hd : (x == ("__debug__" : Str)) = false := by decide) : DE X W (.Name x pos) (dC (.int i)) := de_const (pe_glob hg hm (show RelV (.int i) (.int i t) from ⟨t, rfl⟩) hd) fun _ => .int i
noncomputable def look (i : Nat) (ρ : DEnv) : Option D := match ρ[i]? with
  | some (some (.val d)) => some d
  | some (some (.mu _ d)) => some d
  | _ => none
noncomputable def dVar (i : Nat) : DEnv → R D := fun ρ => match ρ[i]? with
  | some (some (.val d)) => .ok ρ d
  | some (some (.mu false d)) => .ok (ρ.set i (some (.val d))) d
  | _ => .no
theorem Rep.frozen {K : PySem.W.Frag} {G H : Hp} {ρ : DEnv} {σ : Sl} (R : Rep K G H ρ σ) {i : Nat} {d : D} {a : Addr} {o : HO} (e : ρ[i]? = some (some (.mu false d))) (ea : σ[i]? = some (some (.ref a))) (hi : Is K (upd G a o) d (.ref a)) :
    Stp ρ σ G H (ρ.set i (some (.val d))) σ (upd G a o) (upd H a o) ∧ Rep K (upd G a o) (upd H a o) (ρ.set i (some (.val d))) σ := by
  obtain ⟨a', e1, e2, e3⟩ := R.mu i false d e
  rw [ea] at e1; cases e1
  have eG : Evl.Ex G (upd G a o) := Evl.Ex.new e2
  have eS : Evl.Ex (upd G a o) (upd H a o) := fun b u q => by
    by_cases z : b = a
    · subst z; rw [upd_same] at q ⊢; exact q
    · rw [upd_ne z] at q ⊢; exact R.sub b u q
  have sg : ∀ {j : Nat} {y : Option Cell}, (ρ.set i (some (.val d)))[j]? = some y → (i = j ∧ some (.val d) = y) ∨ (i ≠ j ∧ ρ[j]? = some y) := fun {j y} h => by
    by_cases z : i = j
    · subst z
      by_cases q : i < ρ.length
      · rw [List.getElem?_set_self q] at h
        exact .inl ⟨rfl, Option.some.inj h⟩
      · rw [List.getElem?_eq_none (by rw [List.length_set]; omega)] at h
        cases h
    · rw [List.getElem?_set_ne z] at h
      exact .inr ⟨z, h⟩
  refine ⟨⟨eG, fun b u n1 _ q _ => ?_, fun b q => ?_, fun b q1 q2 => ?_, fun b ⟨j, d', q1, q2⟩ => ?_, fun j => ⟨fun d' q => ?_, fun d' q => ?_⟩, .up e3.pln⟩, ⟨eS, by rw [List.length_set]; exact R.len, fun j d' q => ?_, fun j b d' q => ?_, fun j k b c d1 d2 a' q1 q2 q3 q4 => ?_, R.tb.p2 e3.pln⟩⟩
  · have n : b ≠ a := fun z => by subst z; exact n1 ⟨i, d, e, ea⟩
    rw [upd_ne n]; exact q
  · by_cases z : b = a
    · subst z; rw [upd_same] at q; cases q
    · rw [upd_ne z] at q; exact q
  · by_cases z : b = a
    · subst z; exact .inr ⟨i, d, e, ea⟩
    · rw [upd_ne z] at q2; exact absurd q1 q2
  · rcases sg q1 with ⟨_, z⟩ | ⟨_, z⟩
    · cases z
    · exact .inl ⟨j, d', z, q2⟩
  · have n : i ≠ j := fun z => by subst z; rw [e] at q; cases q
    exact ⟨d', by rw [List.getElem?_set_ne n]; exact q, rfl⟩
  · rcases sg q with ⟨_, z⟩ | ⟨_, z⟩
    · cases z
    · exact ⟨d', z⟩
  · rcases sg q with ⟨z0, z⟩ | ⟨_, z⟩
    · subst z0
      cases z
      exact ⟨_, ea, hi⟩
    · obtain ⟨v, z1, z2⟩ := R.vl j d' z
      exact ⟨v, z1, z2.mono eG⟩
  · rcases sg q with ⟨z0, z⟩ | ⟨z0, z⟩
    · cases z
    · obtain ⟨c, z1, z2, z3⟩ := R.mu j b d' z
      have nc : c ≠ a := fun y => by
        subst y
        exact z0 (R.ap i j false b d d' c e z ea z1)
      exact ⟨c, z1, by rw [upd_ne nc]; exact z2, z3.mono eG fun o q => by rw [upd_ne nc]; exact q⟩
  · rcases sg q1 with ⟨_, z⟩ | ⟨_, z⟩
    · cases z
    · rcases sg q2 with ⟨_, y⟩ | ⟨_, y⟩
      · cases y
      · exact R.ap j k b c d1 d2 a' z y q3 q4
theorem shown_run {X : Cx} {pins : List (Addr × Obj)} {G H : Hp} {ρ : DEnv} {σ : Sl} {s : Shared} (I : Inv X pins σ H s) (R : Rep X.K G H ρ σ) {i : Nat} {d : D} {a : Addr} (e : ρ[i]? = some (some (.mu false d))) (ea : σ[i]? = some (some (.ref a))) :
    ∃ G' H', Inv X pins σ H' s ∧ Stp ρ σ G H (ρ.set i (some (.val d))) σ G' H' ∧ Rep X.K G' H' (ρ.set i (some (.val d))) σ ∧ Is X.K G' d (.ref a) := by
  obtain ⟨a', e1, e2, e3⟩ := R.mu i false d e
  rw [ea] at e1; cases e1
  have same : ∀ o, H a = some o → upd H a o = H := fun o ho => funext fun b => by
    by_cases z : b = a
    · subst z; rw [upd_same]; exact ho.symm
    · rw [upd_ne z]
  cases d with
  | lst l =>
    obtain ⟨xs, q1, q2⟩ := e3
    have hi : Is X.K (upd G a (.lst xs)) (.lst l) (.ref a) := .lst upd_same (q2.mono (Evl.Ex.new e2))
    obtain ⟨s1, R1⟩ := R.frozen e ea hi
    rw [same _ q1] at s1 R1
    exact ⟨_, H, I, s1, R1, hi⟩
  | dic l =>
    obtain ⟨kvs, q1, q2⟩ := e3
    obtain ⟨od, I1⟩ := I.lock q1 trivial
    have hi : Is X.K (upd G a (.frz od (.dK kvs))) (.dic l) (.ref a) := .dic upd_same (q2.mono (Evl.Ex.new e2))
    obtain ⟨s1, R1⟩ := R.frozen e ea hi
    exact ⟨_, _, I1, s1, R1, hi⟩
  | obj c fs =>
    obtain ⟨C, dx, fv, q1, q2, q3⟩ := e3
    have hi : Is X.K (upd G a (.ins C dx fv)) (.obj c fs) (.ref a) := .obj upd_same q2 (q3.mono (Evl.Ex.new e2))
    obtain ⟨s1, R1⟩ := R.frozen e ea hi
    rw [same _ q1] at s1 R1
    exact ⟨_, H, I, s1, R1, hi⟩
  | _ => exact False.elim e3
theorem de_var {i : Nat} (h : PE X e (tVar i)) : DE X W e (dVar i) := ⟨fun pins s σ H Q I ⟨ρ, G, R, hg⟩ => by
  unfold dVar at hg
  split at hg
  · rename_i d e1
    obtain ⟨v, e2, e3⟩ := R.vl i d e1
    exact h.run pins s σ H Q I ⟨v, e2, hg G H .refl R v e3⟩
  · rename_i d e1
    obtain ⟨a, e2, _, _⟩ := R.mu i false d e1
    obtain ⟨G', H', I', s', R', hi⟩ := shown_run I R e1 e2
    exact h.run pins s σ H' Q I' ⟨_, e2, hg G' H' s' R' _ hi⟩
  · exact False.elim hg⟩
noncomputable def oVar (i : Nat) : DEnv → R Th := fun ρ => match ρ[i]? with
  | some (some _) => .ok ρ (look i)
  | _ => .no
theorem do_var {i : Nat} (h : PE X e (tVar i)) : DO X W e (oVar i) := pe_imp h fun σ H Q ⟨ρ, G, R, h⟩ => by
  unfold oVar at h
  split at h
  · rename_i c e1
    have key : ∃ v, σ[i]? = some (some v) := by
      cases c with
      | val d => obtain ⟨v, e2, _⟩ := R.vl i d e1; exact ⟨v, e2⟩
      | mu b d => obtain ⟨a, e2, _⟩ := R.mu i b d e1; exact ⟨_, e2⟩
    obtain ⟨v, e2⟩ := key
    refine ⟨v, e2, h G H .refl R v fun ρ2 G2 H2 d s2 R2 e3 => ?_⟩
    unfold look at e3
    split at e3
    · rename_i d' e4
      cases e3
      obtain ⟨v', e5, e6⟩ := R2.vl i _ e4
      rw [e2] at e5; cases e5
      exact e6.top R2.sub
    · rename_i b d' e4
      cases e3
      obtain ⟨a, e5, _, e6⟩ := R2.mu i _ _ e4
      rw [e2] at e5; cases e5
      exact e6.top
    · cases e3
  · exact False.elim h
noncomputable def oD (f : DEnv → R D) : DEnv → R Th := fun ρ => (f ρ).bind fun d ρ' => .ok ρ' fun _ => some d
theorem do_val {f : DEnv → R D} (h : DE X W e f) : DO X W e (oD f) := pe_imp h fun σ H Q ⟨ρ, G, R, h⟩ =>
  ⟨ρ, G, R, (Go.bind R h).imp fun d ρ' G' H' s R' h v hv => h G' H' .refl R' v fun ρ2 G2 H2 d2 s2 R2 e => by
    cases e
    exact (hv.mono s2.g).top R2.sub⟩
noncomputable def aNil : DEnv → R (List Th) := fun ρ => .ok ρ []
noncomputable def aCons (f : DEnv → R Th) (g : DEnv → R (List Th)) : DEnv → R (List Th) := fun ρ => (f ρ).bind fun t ρ1 => (g ρ1).bind fun l ρ2 => .ok ρ2 (t :: l)
theorem da_nil : DA X W [] aNil := pa_imp pa_nil fun σ H Q ⟨ρ, G, R, h⟩ => h G H .refl R [] .nil
theorem da_cons {f : DEnv → R Th} {g : DEnv → R (List Th)} (h1 : DO X W e f) (h2 : DA X W es g) (hs : starEach (e :: es) X.env = (false, eval e X.env) :: starEach es X.env := by rfl) : DA X W (e :: es) (aCons f g) :=
  pa_imp (pa_cons h1 h2 hs) fun σ H Q ⟨ρ, G, R, h⟩ => ⟨ρ, G, R, (Go.bind R h).imp fun t ρ1 G1 H1 s1 R1 h1 v hv =>
    ⟨ρ1, G1, R1, (Go.bind R1 h1).imp fun l ρ2 G2 H2 s2 R2 h2 vs hvs => h2 G2 H2 .refl R2 (v :: vs) (.cons (hv.shift R1 s2) hvs)⟩⟩
noncomputable def vNil : DEnv → R (List D) := fun ρ => .ok ρ []
noncomputable def vCons (f : DEnv → R D) (g : DEnv → R (List D)) : DEnv → R (List D) := fun ρ => (f ρ).bind fun t ρ1 => (g ρ1).bind fun l ρ2 => .ok ρ2 (t :: l)
theorem dv_nil : DVs X W [] vNil := pa_imp pa_nil fun σ H Q ⟨ρ, G, R, h⟩ => h G H .refl R [] .nil
theorem dv_cons {f : DEnv → R D} {g : DEnv → R (List D)} (h1 : DE X W e f) (h2 : DVs X W es g) (hs : starEach (e :: es) X.env = (false, eval e X.env) :: starEach es X.env := by rfl) : DVs X W (e :: es) (vCons f g) :=
  pa_imp (pa_cons h1 h2 hs) fun σ H Q ⟨ρ, G, R, h⟩ => ⟨ρ, G, R, (Go.bind R h).imp fun t ρ1 G1 H1 s1 R1 h1 v hv =>
    ⟨ρ1, G1, R1, (Go.bind R1 h1).imp fun l ρ2 G2 H2 s2 R2 h2 vs hvs => h2 G2 H2 .refl R2 (v :: vs) (.cons (hv.mono s2.g) hvs)⟩⟩

noncomputable def OpS (K : PySem.W.Frag) (r : R2) (g : D → D → Option D) : Prop := ∀ (x y z : D) (v u : V) (G H : Hp) (Q : VK), Evl.Ex G H → Top K G H x v → Top K G H y u → g x y = some z →
  (∀ w G' H', New G H G' H' → Is K G' z w → Q w H') → r v u H Q
noncomputable def UnS (K : PySem.W.Frag) (r : V → Hp → VK → Prop) (g : D → Option D) : Prop := ∀ (x z : D) (v : V) (G H : Hp) (Q : VK), Evl.Ex G H → Top K G H x v → g x = some z →
  (∀ w G' H', New G H G' H' → Is K G' z w → Q w H') → r v H Q
noncomputable def CaS (K : PySem.W.Frag) (r : List V → Hp → VK → Prop) (g : List D → Option D) : Prop := ∀ (xs : List D) (z : D) (vs : List V) (G H : Hp) (Q : VK), Evl.Ex G H → Tops K G H xs vs → g xs = some z →
  (∀ w G' H', New G H G' H' → Is K G' z w → Q w H') → r vs H Q
noncomputable def dBin (g : D → D → Option D) (fa fb : DEnv → R Th) : DEnv → R D := fun ρ => (fa ρ).bind fun ta ρ1 => (fb ρ1).bind fun tb ρ2 => match ta ρ2, tb ρ2 with
  | some x, some y => ofO ρ2 (g x y)
  | _, _ => .no
theorem tbin {r : R2} {g : D → D → Option D} {fa fb : DEnv → R Th} (hs : OpS X.K r g) : ∀ σ H Q, tD X.K W (dBin g fa fb) σ H Q → tOp r (tO X.K W fa) (tO X.K W fb) σ H Q := fun σ H Q ⟨ρ, G, R, h⟩ =>
  ⟨ρ, G, R, (Go.bind R h).imp fun ta ρ1 G1 H1 s1 R1 h1 v hv => ⟨ρ1, G1, R1, (Go.bind R1 h1).imp fun tb ρ2 G2 H2 s2 R2 h2 u hu => by
    split at h2
    · rename_i x y ex ey
      cases e : g x y with
      | none => rw [e] at h2; exact False.elim h2
      | some z =>
        rw [e] at h2
        exact hs x y z v u G2 H2 Q R2.sub (hv ρ2 G2 H2 x s2 R2 ex) (hu ρ2 G2 H2 y .refl R2 ey) e fun w G' H' N hw => h2 G' H' (N.stp R2) (N.rep R2) w hw
    · exact False.elim h2⟩⟩
variable {a b : Expr} {fa fb : DEnv → R Th}
theorem de_bin {op : Operator} {r : R2} {g : D → D → Option D} (ho : OpR X (binaryOp op) r) (hs : OpS X.K r g) (ha : DO X W a fa) (hb : DO X W b fb) : DE X W (.BinOp a op b pos) (dBin g fa fb) :=
  pe_imp (pe_op ho ha hb) (tbin hs)
theorem de_cmp {op : CmpOp} {r : R2} {g : D → D → Option D} (ho : OpR X (compareOp op) r) (hs : OpS X.K r g) (ha : DO X W a fa) (hb : DO X W b fb) (hm : behindInMarks op b = false) : DE X W (.Compare a [op] [b] pos) (dBin g fa fb) :=
  pe_imp (pe_cmpR ho ha hb hm) (tbin hs)
noncomputable def dTst (f : DEnv → R D) : DEnv → R Bool := fun ρ => (f ρ).bind fun d ρ' => match d with
  | .bl b => .ok ρ' b
  | _ => .no
theorem ttst {f : DEnv → R D} : ∀ σ H Q, tT X.K W (dTst f) σ H Q → tTest (tD X.K W f) σ H Q := fun σ H Q ⟨ρ, G, R, h⟩ =>
  ⟨ρ, G, R, (Go.bind R h).imp fun d ρ' G' H' s R' h v hv => by
    split at h
    · cases hv
      exact ⟨_, rfl, h G' H' .refl R'⟩
    · exact False.elim h⟩
theorem dt_cmp {op : CmpOp} {r : R2} {g : D → D → Option D} (ho : OpR X (compareOp op) r) (hs : OpS X.K r g) (ha : DO X W a fa) (hb : DO X W b fb) (hm : behindInMarks op b = false) : DT X W (.Compare a [op] [b] pos) (dTst (dBin g fa fb)) :=
  pt_imp (pt_cmpR ho ha hb hm) fun σ H Q h => by
    obtain ⟨ρ, G, R, h⟩ := ttst σ H Q h
    exact tbin hs σ H _ ⟨ρ, G, R, h⟩
noncomputable def dUn (g : D → Option D) (fa : DEnv → R Th) : DEnv → R D := fun ρ => (fa ρ).bind fun ta ρ1 => match ta ρ1 with
  | some x => ofO ρ1 (g x)
  | none => .no
theorem tun {r : V → Hp → VK → Prop} {g : D → Option D} (hs : UnS X.K r g) : ∀ σ H Q, tD X.K W (dUn g fa) σ H Q → tUn r (tO X.K W fa) σ H Q := fun σ H Q ⟨ρ, G, R, h⟩ =>
  ⟨ρ, G, R, (Go.bind R h).imp fun ta ρ1 G1 H1 s1 R1 h1 v hv => by
    split at h1
    · rename_i x ex
      cases e : g x with
      | none => rw [e] at h1; exact False.elim h1
      | some z =>
        rw [e] at h1
        exact hs x z v G1 H1 Q R1.sub (hv ρ1 G1 H1 x .refl R1 ex) e fun w G' H' N hw => h1 G' H' (N.stp R1) (N.rep R1) w hw
    · exact False.elim h1⟩
theorem de_un {op : UnaryOp} {r : V → Hp → VK → Prop} {g : D → Option D} (ho : UnR X (unaryOp op) r) (hs : UnS X.K r g) (ha : DO X W a fa) : DE X W (.UnaryOp op a pos) (dUn g fa) := pe_imp (pe_un ho ha) (tun hs)
noncomputable def dCal (g : List D → Option D) (f : DEnv → R (List Th)) : DEnv → R D := fun ρ => (f ρ).bind fun l ρ1 => match ths l ρ1 with
  | some xs => ofO ρ1 (g xs)
  | none => .no
theorem tcal {r : List V → Hp → VK → Prop} {g : List D → Option D} {f : DEnv → R (List Th)} (hs : CaS X.K r g) : ∀ σ H Q, tD X.K W (dCal g f) σ H Q → tCB r (tAs X.K W f) σ H Q := fun σ H Q ⟨ρ, G, R, h⟩ =>
  ⟨ρ, G, R, (Go.bind R h).imp fun l ρ1 G1 H1 s1 R1 h1 vs hv => by
    split at h1
    · rename_i xs ex
      cases e : g xs with
      | none => rw [e] at h1; exact False.elim h1
      | some z =>
        rw [e] at h1
        exact hs xs z vs G1 H1 Q R1.sub (hv.tops R1 ex) e fun w G' H' N hw => h1 G' H' (N.stp R1) (N.rep R1) w hw
    · exact False.elim h1⟩
end
end DF

namespace DF
open PySem PySem.Spec PyProof.Rows L2

inductive SR where
  | no
  | nx (ρ : DEnv)
  | brk (ρ : DEnv)
  | cnt (ρ : DEnv)
  | ret (ρ : DEnv) (fr : Bool) (d : D)
  | ex (ρ : DEnv) (e : Exc)
noncomputable def RIs (K : PySem.W.Frag) (ρ' : DEnv) (σ' : Sl) (G' H' H : Hp) (fr : Bool) (d : D) (v : V) : Prop := match fr with
  | false => Is K G' d v
  | true => ∃ a, v = .ref a ∧ G' a = none ∧ (Mu false ρ' σ' a ∨ H a = none) ∧ Cont K G' H' a d
noncomputable def GoS (K : PySem.W.Frag) (W : WX) (σ : Sl) (ρ : DEnv) (G H : Hp) (E : Ends) (r : SR) : Prop := match r with
  | .no => False
  | .nx ρ' => ∀ σ' G' H', Stp ρ σ G H ρ' σ' G' H' → Rep K G' H' ρ' σ' → E.nx σ' H'
  | .brk ρ' => ∀ σ' G' H', Stp ρ σ G H ρ' σ' G' H' → Rep K G' H' ρ' σ' → E.bk σ' H'
  | .cnt ρ' => ∀ σ' G' H', Stp ρ σ G H ρ' σ' G' H' → Rep K G' H' ρ' σ' → E.ct σ' H'
  | .ret ρ' fr d => ∀ v σ' G' H', Stp ρ σ G H ρ' σ' G' H' → Rep K G' H' ρ' σ' → RIs K ρ' σ' G' H' H fr d v → E.rt v H'
  | .ex ρ' e => ∀ d σ' G' H', Stp ρ σ G H ρ' σ' G' H' → Rep K G' H' ρ' σ' → EIs K G' H' e d → W (cv K e.nm) d σ' H'
noncomputable def tS (K : PySem.W.Frag) (W : WX) (f : DEnv → SR) : TS := fun E σ H => ∃ ρ G, Rep K G H ρ σ ∧ GoS K W σ ρ G H E (f ρ)
noncomputable abbrev DS (X : Cx) (W : WX) (st : Stmt) (f : DEnv → SR) : Prop := PS X st (tS X.K W f)
noncomputable abbrev DSs (X : Cx) (W : WX) (st : List Stmt) (f : DEnv → SR) : Prop := PSs X st (tS X.K W f)
theorem ps_imp {X : Cx} {st : Stmt} {t t' : TS} (h : PS X st t) (i : ∀ E σ H, t' E σ H → t E σ H) : PS X st t' := ⟨fun pins s σ H E I q => h.run pins s σ H E I (i E σ H q)⟩
theorem pss_imp {X : Cx} {st : List Stmt} {t t' : TS} (h : PSs X st t) (i : ∀ E σ H, t' E σ H → t E σ H) : PSs X st t' := ⟨fun pins s σ H E I q => h.run pins s σ H E I (i E σ H q)⟩
section
variable {K : PySem.W.Frag} {W : WX} {σ σ1 : Sl} {ρ ρ1 : DEnv} {G G1 H H1 : Hp} {E E' : Ends}
theorem RIs.back {ρ' : DEnv} {σ' : Sl} {G' H' : Hp} {fr : Bool} {d : D} {v : V} (ht : ∀ b, H1 b = none → H b = none) (h : RIs K ρ' σ' G' H' H1 fr d v) : RIs K ρ' σ' G' H' H fr d v := by
  cases fr with
  | false => exact h
  | true =>
    obtain ⟨a, e1, e2, e3, e4⟩ := h
    exact ⟨a, e1, e2, e3.imp id (ht a), e4⟩
theorem GoS.shift {r : SR} (R0 : Rep K G H ρ σ) (s : Stp ρ σ G H ρ1 σ1 G1 H1) (h : GoS K W σ ρ G H E r) : GoS K W σ1 ρ1 G1 H1 E r := by
  cases r with
  | no => exact h
  | nx ρ' => exact fun σ' G' H' s' R => h σ' G' H' (s.trans R0 s') R
  | brk ρ' => exact fun σ' G' H' s' R => h σ' G' H' (s.trans R0 s') R
  | cnt ρ' => exact fun σ' G' H' s' R => h σ' G' H' (s.trans R0 s') R
  | ret ρ' fr d => exact fun v σ' G' H' s' R q => h v σ' G' H' (s.trans R0 s') R (q.back s.t)
  | ex ρ' e => exact fun d σ' G' H' s' R => h d σ' G' H' (s.trans R0 s') R
end
noncomputable def R.bindS {α : Type} (r : R α) (f : α → DEnv → SR) : SR := match r with
  | .no => .no
  | .ok ρ a => f a ρ
  | .ex ρ e => .ex ρ e
theorem R.bindS_ok {α : Type} {ρ : DEnv} {a : α} {f : α → DEnv → SR} : (R.ok ρ a).bindS f = f a ρ := rfl
section
variable {K : PySem.W.Frag} {W : WX} {σ σ1 : Sl} {ρ ρ1 : DEnv} {G G1 H H1 : Hp} {E E' : Ends}
theorem Go.bindS {α : Type} {r : R α} {g : α → DEnv → SR} (R0 : Rep K G H ρ σ) (h : GoS K W σ ρ G H E (r.bindS g)) : Go K W σ ρ G H (fun a ρ' G' H' => GoS K W σ ρ' G' H' E (g a ρ')) r := by
  cases r with
  | no => exact h
  | ok ρ' a => exact fun G' H' s R => GoS.shift R0 s h
  | ex ρ' e => exact fun G' H' d s R => h d σ G' H' s R
noncomputable def SR.bind (r : SR) (g : DEnv → SR) : SR := match r with
  | .nx ρ => g ρ
  | .no => .no | .brk ρ => .brk ρ | .cnt ρ => .cnt ρ | .ret ρ fr d => .ret ρ fr d | .ex ρ e => .ex ρ e
theorem SR.bind_nx {ρ : DEnv} {g : DEnv → SR} : (SR.nx ρ).bind g = g ρ := rfl
theorem GoS.bind {r : SR} {g : DEnv → SR} (R0 : Rep K G H ρ σ) (h : GoS K W σ ρ G H E (r.bind g)) : GoS K W σ ρ G H { E with nx := tS K W g E } r := by
  cases r with
  | nx ρ' => exact fun σ' G' H' s R => ⟨ρ', G', R, GoS.shift R0 s h⟩
  | no => exact h
  | brk _ => exact h
  | cnt _ => exact h
  | ret _ _ _ => exact h
  | ex _ _ => exact h
end
noncomputable def dSeq (f g : DEnv → SR) : DEnv → SR := fun ρ => (f ρ).bind g
section
variable {X : Cx} {W : WX} {st : Stmt} {rest : List Stmt} {f g : DEnv → SR} {pos : Pos} {e : Expr}
theorem dss_nil : DSs X W [] SR.nx := pss_imp pss_nil fun E σ H ⟨ρ, G, R, h⟩ => h σ G H .refl R
theorem dss_cons (h1 : DS X W st f) (h2 : DSs X W rest g) : DSs X W (st :: rest) (dSeq f g) := pss_imp (pss_cons h1 h2) fun E σ H ⟨ρ, G, R, h⟩ => ⟨ρ, G, R, GoS.bind R h⟩
theorem dss_one (h1 : DS X W st f) : DSs X W [st] f := pss_one h1
noncomputable def dNever : DEnv → SR := fun _ => .no
theorem ds_never : DS X W st dNever := ps_imp ps_never fun E σ H ⟨ρ, G, R, h⟩ => h
noncomputable def dIf (c : DEnv → R Bool) (f g : DEnv → SR) : DEnv → SR := fun ρ => (c ρ).bindS fun b ρ' => match b with
  | true => f ρ'
  | false => g ρ'
theorem ds_if {c : Expr} {a b : List Stmt} {fc : DEnv → R Bool} (hc : DT X W c fc) (ha : DSs X W a f) (hb : DSs X W b g) : DS X W (.If c a b pos) (dIf fc f g) :=
  ps_imp (ps_if hc ha hb) fun E σ H ⟨ρ, G, R, h⟩ => ⟨ρ, G, R, (Go.bindS R h).imp fun b ρ' G' H' s R' h => by
    cases b with
    | true => rw [if_pos rfl]; exact ⟨ρ', G', R', h⟩
    | false => rw [if_neg Bool.false_ne_true]; exact ⟨ρ', G', R', h⟩⟩
noncomputable def dRet (f : DEnv → R D) : DEnv → SR := fun ρ => (f ρ).bindS fun d ρ' => .ret ρ' false d
theorem ds_ret {f : DEnv → R D} (h : DE X W e f) : DS X W (.Return (some e) pos) (dRet f) := ps_imp (ps_ret h) fun E σ H ⟨ρ, G, R, h⟩ => ⟨ρ, G, R, (Go.bindS R h).imp fun d ρ' G' H' s R' h v hv => h v σ G' H' .refl R' hv⟩
noncomputable def dRetF (f : DEnv → R D) : DEnv → SR := fun ρ => (f ρ).bindS fun d ρ' => .ret ρ' true d
noncomputable def dRetV (i : Nat) : DEnv → SR := fun ρ => match ρ[i]? with
  | some (some (.val d)) => .ret ρ false d
  | some (some (.mu false d)) => .ret ρ true d
  | _ => .no
theorem ds_retV {i : Nat} (h : PE X e (tVar i)) : DS X W (.Return (some e) pos) (dRetV i) := ps_imp (ps_ret h) fun E σ H ⟨ρ, G, R, h⟩ => by
  unfold dRetV at h
  split at h
  · rename_i d e1
    obtain ⟨v, e2, e3⟩ := R.vl i d e1
    exact ⟨v, e2, h v σ G H .refl R e3⟩
  · rename_i d e1
    obtain ⟨a, e2, e3, e4⟩ := R.mu i false d e1
    exact ⟨_, e2, h (.ref a) σ G H .refl R ⟨a, rfl, e3, .inl ⟨i, d, e1, e2⟩, e4⟩⟩
  · exact False.elim h
noncomputable def dExpr (f : DEnv → R D) : DEnv → SR := fun ρ => (f ρ).bindS fun _ ρ' => .nx ρ'
theorem ds_expr {f : DEnv → R D} (h : DE X W e f) (hs : swapsWith e none pos.line X.env = pure false := by rfl) : DS X W (.Expr e pos) (dExpr f) :=
  ps_imp (ps_expr h hs) fun E σ H ⟨ρ, G, R, h⟩ => ⟨ρ, G, R, (Go.bindS R h).imp fun d ρ' G' H' s R' h v hv => h σ G' H' .refl R'⟩
end

noncomputable def free (ρ : DEnv) (i : Nat) : Bool := match ρ[i]? with
  | none => false
  | some (some (.mu true _)) => false
  | _ => true
theorem free_lt {ρ : DEnv} {i : Nat} (h : free ρ i = true) : i < ρ.length := by
  unfold free at h
  split at h
  · cases h
  · cases h
  · rename_i h1 h2
    exact Nat.lt_of_not_le fun z => h1 (List.getElem?_eq_none z)
theorem free_io {ρ : DEnv} {i : Nat} (h : free ρ i = true) (d : D) : ρ[i]? ≠ some (some (.mu true d)) := fun z => by
  unfold free at h
  rw [z] at h
  cases h
noncomputable def setV (i : Nat) (d : D) (ρ : DEnv) : Option DEnv := if free ρ i = true then some (ρ.set i (some (.val d))) else none
noncomputable def setF (i : Nat) (d : D) (ρ : DEnv) : Option DEnv := if free ρ i = true then some (ρ.set i (some (.mu false d))) else none
section
variable {K : PySem.W.Frag} {ρ ρ' : DEnv} {σ : Sl} {G H : Hp} {i : Nat} {d : D} {v : V}
theorem set_get {α : Type} {l : List α} {i j : Nat} {x y : α} (h : (l.set i x)[j]? = some y) : (i = j ∧ x = y) ∨ (i ≠ j ∧ l[j]? = some y) := by
  by_cases e : i = j
  · subst e
    by_cases q : i < l.length
    · rw [List.getElem?_set_self q] at h
      exact .inl ⟨rfl, Option.some.inj h⟩
    · rw [List.getElem?_eq_none (by rw [List.length_set]; omega)] at h
      cases h
  · rw [List.getElem?_set_ne e] at h
    exact .inr ⟨e, h⟩
theorem Rep.setV (R : Rep K G H ρ σ) (e : setV i d ρ = some ρ') (hv : Is K G d v) : Rep K G H ρ' (σ.set i (some v)) := by
  unfold DF.setV at e
  split at e
  · rename_i hf
    cases e
    have hl : i < σ.length := by rw [← R.len]; exact free_lt hf
    refine ⟨R.sub, by rw [List.length_set, List.length_set]; exact R.len, fun j d' e1 => ?_, fun j b d' e1 => ?_, fun j k b c d1 d2 a e1 e2 e3 e4 => ?_, R.tb⟩
    · rcases set_get e1 with ⟨rfl, e2⟩ | ⟨n, e2⟩
      · cases e2
        exact ⟨v, List.getElem?_set_self hl, hv⟩
      · obtain ⟨v', e3, e4⟩ := R.vl j d' e2
        exact ⟨v', by rw [List.getElem?_set_ne n]; exact e3, e4⟩
    · rcases set_get e1 with ⟨rfl, e2⟩ | ⟨n, e2⟩
      · cases e2
      · obtain ⟨a, e3, e4⟩ := R.mu j b d' e2
        exact ⟨a, by rw [List.getElem?_set_ne n]; exact e3, e4⟩
    · rcases set_get e1 with ⟨rfl, z⟩ | ⟨n1, f1⟩
      · cases z
      · rcases set_get e2 with ⟨rfl, z⟩ | ⟨n2, f2⟩
        · cases z
        · rw [List.getElem?_set_ne n1] at e3
          rw [List.getElem?_set_ne n2] at e4
          exact R.ap j k b c d1 d2 a f1 f2 e3 e4
  · cases e
theorem Stp.setV (R : Rep K G H ρ σ) (e : setV i d ρ = some ρ') : Stp ρ σ G H ρ' (σ.set i (some v)) G H := by
  unfold DF.setV at e
  split at e
  · rename_i hf
    cases e
    have hl : i < σ.length := by rw [← R.len]; exact free_lt hf
    refine ⟨fun _ _ e => e, fun _ _ _ _ e _ => e, fun _ e => e, fun _ e q => absurd e q, fun b ⟨j, d', e1, e2⟩ => ?_, fun j => ⟨fun d' e1 => ?_, fun d' e1 => ?_⟩, .refl⟩
    · rcases set_get e1 with ⟨rfl, z⟩ | ⟨n, f1⟩
      · cases z
      · rw [List.getElem?_set_ne n] at e2
        exact .inl ⟨j, d', f1, e2⟩
    · have n : i ≠ j := fun z => by subst z; exact free_io hf d' e1
      exact ⟨d', by rw [List.getElem?_set_ne n]; exact e1, by rw [List.getElem?_set_ne n]⟩
    · rcases set_get e1 with ⟨rfl, z⟩ | ⟨n, f1⟩
      · cases z
      · exact ⟨d', f1⟩
  · cases e
theorem Rep.setF {a : Addr} (R : Rep K G H ρ σ) (e : setF i d ρ = some ρ') (h0 : G a = none) (h1 : ¬ Mu false ρ σ a) (h2 : ¬ Mu true ρ σ a) (hc : Cont K G H a d) : Rep K G H ρ' (σ.set i (some (.ref a))) := by
  unfold DF.setF at e
  split at e
  · rename_i hf
    cases e
    have hl : i < σ.length := by rw [← R.len]; exact free_lt hf
    have no : ∀ (j : Nat) (b : Bool) (d' : D), ρ[j]? = some (some (.mu b d')) → σ[j]? = some (some (.ref a)) → False := fun j b d' q1 q2 => by
      cases b with
      | false => exact h1 ⟨j, d', q1, q2⟩
      | true => exact h2 ⟨j, d', q1, q2⟩
    refine ⟨R.sub, by rw [List.length_set, List.length_set]; exact R.len, fun j d' e1 => ?_, fun j b d' e1 => ?_, fun j k b c d1 d2 a' e1 e2 e3 e4 => ?_, R.tb⟩
    · rcases set_get e1 with ⟨rfl, z⟩ | ⟨n, e2⟩
      · cases z
      · obtain ⟨v', e3, e4⟩ := R.vl j d' e2
        exact ⟨v', by rw [List.getElem?_set_ne n]; exact e3, e4⟩
    · rcases set_get e1 with ⟨rfl, z⟩ | ⟨n, e2⟩
      · cases z
        exact ⟨a, List.getElem?_set_self hl, h0, hc⟩
      · obtain ⟨a', e3, e4⟩ := R.mu j b d' e2
        exact ⟨a', by rw [List.getElem?_set_ne n]; exact e3, e4⟩
    · rcases set_get e1 with ⟨q1, z1⟩ | ⟨n1, f1⟩
      · rcases set_get e2 with ⟨q2, z2⟩ | ⟨n2, f2⟩
        · exact q1.symm.trans q2
        · subst q1
          rw [List.getElem?_set_self hl] at e3
          cases e3
          rw [List.getElem?_set_ne n2] at e4
          exact (no k c d2 f2 e4).elim
      · rcases set_get e2 with ⟨q2, z2⟩ | ⟨n2, f2⟩
        · subst q2
          rw [List.getElem?_set_self hl] at e4
          cases e4
          rw [List.getElem?_set_ne n1] at e3
          exact (no j b d1 f1 e3).elim
        · rw [List.getElem?_set_ne n1] at e3
          rw [List.getElem?_set_ne n2] at e4
          exact R.ap j k b c d1 d2 a' f1 f2 e3 e4
  · cases e
theorem Stp.setF {ρ0 : DEnv} {σ0 : Sl} {G0 H0 : Hp} {a : Addr} (S : Stp ρ0 σ0 G0 H0 ρ σ G H) (R : Rep K G H ρ σ) (e : setF i d ρ = some ρ') (hn : H0 a = none) : Stp ρ0 σ0 G0 H0 ρ' (σ.set i (some (.ref a))) G H := by
  unfold DF.setF at e
  split at e
  · rename_i hf
    cases e
    have hl : i < σ.length := by rw [← R.len]; exact free_lt hf
    refine ⟨S.g, S.h, S.t, S.n, fun b ⟨j, d', e1, e2⟩ => ?_, fun j => ⟨fun d' e1 => ?_, fun d' e1 => ?_⟩, S.gr⟩
    · rcases set_get e1 with ⟨q, z⟩ | ⟨n, f1⟩
      · subst q
        rw [List.getElem?_set_self hl] at e2
        cases e2
        exact .inr hn
      · rw [List.getElem?_set_ne n] at e2
        exact S.ow b ⟨j, d', f1, e2⟩
    · obtain ⟨d1, f1, f2⟩ := (S.io j).1 d' e1
      have n : i ≠ j := fun z => by subst z; exact free_io hf d1 f1
      exact ⟨d1, by rw [List.getElem?_set_ne n]; exact f1, by rw [List.getElem?_set_ne n]; exact f2⟩
    · rcases set_get e1 with ⟨rfl, z⟩ | ⟨n, f1⟩
      · cases z
      · exact (S.io j).2 d' f1
  · cases e
end
noncomputable def dSet (i : Nat) (f : DEnv → R D) : DEnv → SR := fun ρ => (f ρ).bindS fun d ρ' => match setV i d ρ' with
  | none => .no
  | some ρ2 => .nx ρ2
noncomputable def dSetF (i : Nat) (f : DEnv → R D) : DEnv → SR := fun ρ => match f ρ with
  | .no => .no
  | .ex ρ' e => .ex ρ' e
  | .ok ρ' d => match setF i d ρ' with
    | none => .no
    | some ρ2 => .nx ρ2
section
variable {X : Cx} {W : WX} {i : Nat} {x : Str} {e : Expr} {pos pos' : Pos} {f : DEnv → R D}
theorem tset {te : TE} (hs : ∀ σ H Q, tD X.K W f σ H Q → te σ H Q) : ∀ E σ H, tS X.K W (dSet i f) E σ H → tAsg te (gName i) E σ H := fun E σ H ⟨ρ, G, R, h⟩ =>
  hs σ H _ ⟨ρ, G, R, (Go.bindS R h).imp fun d ρ' G' H' s R' h v hv => by
    split at h
    · exact False.elim h
    · rename_i ρ2 e2
      exact h _ G' H' (Stp.setV R' e2) (R'.setV e2 hv)⟩
theorem ds_set (hN : X.N.Nodup) (hi : X.N[i]? = some x) (hx : Loc X.env.scope x) (he : DE X W e f) (hs : swapsWith e (some (.Name x pos')) pos.line X.env = pure false := by rfl) (hf : X.fn x = true ∨ X.env.scope.names.lookup x = some .local := by first | exact .inl rfl | exact .inr rfl | assumption) :
    DS X W (.Assign [.Name x pos'] e pos) (dSet i f) := ps_imp (ps_set hN hi hx he hs hf) (tset fun _ _ _ h => h)
theorem tsetF {te : TE} (hs : ∀ σ H Q, tF X.K W f σ H Q → te σ H Q) : ∀ E σ H, tS X.K W (dSetF i f) E σ H → tAsg te (gName i) E σ H := fun E σ H ⟨ρ, G, R, h⟩ => hs σ H _ ⟨ρ, G, R, by
      unfold dSetF at h
      split at h
      · exact False.elim h
      · rename_i ρ' ee e1
        rw [e1]
        exact fun G' H' d s R' hd => h d σ G' H' s R' hd
      · rename_i ρ' d e1
        rw [e1]
        split at h
        · exact False.elim h
        · rename_i ρ2 e2
          exact fun G' H' s R' a h0 h1 h2 hn hc => h _ G' H' (s.setF R' e2 hn) (R'.setF e2 h0 h1 h2 hc)⟩
theorem ds_setF (hN : X.N.Nodup) (hi : X.N[i]? = some x) (hx : Loc X.env.scope x) (he : DF' X W e f) (hs : swapsWith e (some (.Name x pos')) pos.line X.env = pure false := by rfl) (hf : X.fn x = true ∨ X.env.scope.names.lookup x = some .local := by first | exact .inl rfl | exact .inr rfl | assumption) :
    DS X W (.Assign [.Name x pos'] e pos) (dSetF i f) := ps_imp (ps_set hN hi hx he hs hf) (tsetF fun _ _ _ h => h)
theorem ds_retF (he : DF' X W e f) : DS X W (.Return (some e) pos) (dRetF f) := ps_imp (ps_ret he) fun E σ H ⟨ρ, G, R, h⟩ => ⟨ρ, G, R, by
      unfold dRetF at h
      cases e1 : f ρ with
      | no => rw [e1] at h; exact h
      | ex ρ' ee => rw [e1] at h; exact fun G' H' d s R' hd => h d σ G' H' s R' hd
      | ok ρ' d =>
        rw [e1] at h
        exact fun G' H' s R' a h0 h1 h2 hn hc => h (.ref a) σ G' H' s R' ⟨a, rfl, h0, .inr hn, hc⟩⟩
theorem tfresh (hL : ∀ ρ ρ' d, f ρ = .ok ρ' d → ∃ l, d = .lst l) : ∀ σ H Q, tD X.K W f σ H Q → tF X.K W f σ H Q := fun σ H Q ⟨ρ, G, R, h⟩ => ⟨ρ, G, R, by
  cases e1 : f ρ with
  | no => rw [e1] at h; exact h
  | ex ρ' ee => rw [e1] at h; exact h
  | ok ρ' d =>
    rw [e1] at h
    intro G' H' s R' a h0 h1 h2 hn hc
    obtain ⟨o, ho⟩ := hc.there
    have eG : Evl.Ex G' (upd G' a o) := Evl.Ex.new h0
    have hi : Is X.K (upd G' a o) d (.ref a) := by
      cases d with
      | lst l =>
        obtain ⟨xs, q1, q2⟩ := hc
        rw [ho] at q1; cases q1
        exact .lst upd_same (q2.mono eG)
      | dic l =>
        obtain ⟨m, hm⟩ := hL _ _ _ e1
        cases hm
      | obj c fs =>
        obtain ⟨m, hm⟩ := hL _ _ _ e1
        cases hm
      | _ => exact False.elim hc
    have eS : Evl.Ex (upd G' a o) H' := fun b u q => by
      by_cases z : b = a
      · subst z; rw [upd_same] at q; cases q; exact ho
      · rw [upd_ne z] at q; exact R'.sub b u q
    refine h (upd G' a o) H' ⟨fun b u q => eG b u (s.g b u q), s.h, s.t, fun b q1 q2 => ?_, s.ow, s.io, s.gr⟩ ⟨eS, R'.len, fun j d' q => ?_, fun j b d' q => ?_, R'.ap, R'.tb.pG hc.pln⟩ _ hi
    · by_cases z : b = a
      · subst z; exact .inl hn
      · rw [upd_ne z] at q2; exact s.n b q1 q2
    · obtain ⟨v, z1, z2⟩ := R'.vl j d' q
      exact ⟨v, z1, z2.mono eG⟩
    · obtain ⟨c, z1, z2, z3⟩ := R'.mu j b d' q
      have nc : c ≠ a := fun z => by
        subst z
        cases b with
        | false => exact h1 ⟨j, d', q, z1⟩
        | true => exact h2 ⟨j, d', q, z1⟩
      exact ⟨c, z1, by rw [upd_ne nc]; exact z2, z3.mono eG fun o q => q⟩⟩
theorem fresh_put {K : PySem.W.Frag} {ρ0 ρ' : DEnv} {σ : Sl} {G0 H0 G' H' : Hp} {d : D} {a : Addr} {o : HO} (s : Stp ρ0 σ G0 H0 ρ' σ G' H') (R' : Rep K G' H' ρ' σ) (h0 : G' a = none) (h1 : ¬ Mu false ρ' σ a) (h2 : ¬ Mu true ρ' σ a) (hn : H0 a = none) (hp : Pln H' a) :
    Stp ρ0 σ G0 H0 ρ' σ (upd G' a o) (upd H' a o) ∧ Rep K (upd G' a o) (upd H' a o) ρ' σ := by
  have eG : Evl.Ex G' (upd G' a o) := Evl.Ex.new h0
  have eS : Evl.Ex (upd G' a o) (upd H' a o) := fun b u q => by
    by_cases z : b = a
    · subst z; rw [upd_same] at q ⊢; exact q
    · rw [upd_ne z] at q ⊢; exact R'.sub b u q
  refine ⟨⟨fun b u q => eG b u (s.g b u q), fun b u n1 n2 q nt => ?_, fun b q => ?_, fun b q1 q2 => ?_, s.ow, s.io, s.gr.trans (.up hp)⟩, ⟨eS, R'.len, fun j d' q => ?_, fun j b d' q => ?_, R'.ap, R'.tb.p2 hp⟩⟩
  · have n : b ≠ a := fun z => by subst z; rw [hn] at q; cases q
    rw [upd_ne n]; exact s.h b u n1 n2 q nt
  · by_cases z : b = a
    · subst z; rw [upd_same] at q; cases q
    · rw [upd_ne z] at q; exact s.t b q
  · by_cases z : b = a
    · subst z; exact .inl hn
    · rw [upd_ne z] at q2; exact s.n b q1 q2
  · obtain ⟨v, z1, z2⟩ := R'.vl j d' q
    exact ⟨v, z1, z2.mono eG⟩
  · obtain ⟨c, z1, z2, z3⟩ := R'.mu j b d' q
    have nc : c ≠ a := fun z => by
      subst z
      cases b with
      | false => exact h1 ⟨j, d', q, z1⟩
      | true => exact h2 ⟨j, d', q, z1⟩
    exact ⟨c, z1, by rw [upd_ne nc]; exact z2, z3.mono eG fun o q => by rw [upd_ne nc]; exact q⟩
theorem fresh_run {X : Cx} {pins : List (Addr × Obj)} {st : Shared} {ρ0 ρ' : DEnv} {σ : Sl} {G0 H0 G' H' : Hp} {d : D} {a : Addr} (I : Inv X pins σ H' st) (s : Stp ρ0 σ G0 H0 ρ' σ G' H') (R' : Rep X.K G' H' ρ' σ) (h0 : G' a = none) (h1 : ¬ Mu false ρ' σ a) (h2 : ¬ Mu true ρ' σ a) (hn : H0 a = none) (hc : Cont X.K G' H' a d) :
    ∃ G2 H2, Inv X pins σ H2 st ∧ Stp ρ0 σ G0 H0 ρ' σ G2 H2 ∧ Rep X.K G2 H2 ρ' σ ∧ Is X.K G2 d (.ref a) := by
  have same : ∀ o, H' a = some o → upd H' a o = H' := fun o ho => funext fun b => by
    by_cases z : b = a
    · subst z; rw [upd_same]; exact ho.symm
    · rw [upd_ne z]
  cases d with
  | lst l =>
    obtain ⟨xs, q1, q2⟩ := hc
    obtain ⟨s1, R1⟩ := fresh_put (o := .lst xs) (d := .lst l) s R' h0 h1 h2 hn (.lst q1)
    rw [same _ q1] at s1 R1
    exact ⟨_, H', I, s1, R1, .lst upd_same (q2.mono (Evl.Ex.new h0))⟩
  | dic l =>
    obtain ⟨kvs, q1, q2⟩ := hc
    obtain ⟨od, I1⟩ := I.lock q1 trivial
    obtain ⟨s1, R1⟩ := fresh_put (o := .frz od (.dK kvs)) (d := .dic l) s R' h0 h1 h2 hn (.dK q1)
    exact ⟨_, _, I1, s1, R1, .dic upd_same (q2.mono (Evl.Ex.new h0))⟩
  | obj c fs =>
    obtain ⟨C, dx, fv, q1, q2, q3⟩ := hc
    obtain ⟨s1, R1⟩ := fresh_put (o := .ins C dx fv) (d := .obj c fs) s R' h0 h1 h2 hn (.ins q1)
    rw [same _ q1] at s1 R1
    exact ⟨_, H', I, s1, R1, .obj upd_same q2 (q3.mono (Evl.Ex.new h0))⟩
  | _ => exact False.elim hc
theorem de_fresh (he : DF' X W e f) : DE X W e f := ⟨fun pins s σ H Q I ⟨ρ, G, R, hg⟩ => by
  refine thn (he.run pins s σ H (fun x H1 => ∃ a d ρ' G', x = .ref a ∧ Stp ρ σ G H ρ' σ G' H1 ∧ Rep X.K G' H1 ρ' σ ∧ G' a = none ∧ ¬ Mu false ρ' σ a ∧ ¬ Mu true ρ' σ a ∧ H a = none ∧ Cont X.K G' H1 a d ∧ ∀ G2 H2, Stp ρ σ G H ρ' σ G2 H2 → Rep X.K G2 H2 ρ' σ → ∀ v, Is X.K G2 d v → Q v H2) I ⟨ρ, G, R, ?_⟩) fun u s1 ⟨x, H1, I1, rx, a, d, ρ', G', ex, k1, k2, k3, k4, k5, k6, k7, k8⟩ => ?_
  · cases e1 : f ρ with
    | no => rw [e1] at hg; exact hg
    | ex ρ' ee => rw [e1] at hg; exact hg
    | ok ρ' d =>
      rw [e1] at hg
      exact fun G' H' s R' a h0 h1 h2 hn hc => ⟨a, d, ρ', G', rfl, s, R', h0, h1, h2, hn, hc, fun G2 H2 s2 R2 v hv => hg G2 H2 s2 R2 v hv⟩
  · obtain ⟨G2, H2, I2, s2, R2, hi⟩ := fresh_run I1 k1 k2 k3 k4 k5 k6 k7
    subst ex
    exact ⟨_, H2, I2, rx, k8 G2 H2 s2 R2 _ hi⟩⟩
end

noncomputable def dWhile (c : DEnv → R Bool) (b : DEnv → SR) : Nat → DEnv → SR
  | 0, _ => .no
  | n + 1, ρ => (c ρ).bindS fun t ρ1 => match t with
    | false => .nx ρ1
    | true => match b ρ1 with
      | .nx ρ2 => dWhile c b n ρ2
      | .cnt ρ2 => dWhile c b n ρ2
      | .brk ρ2 => .nx ρ2
      | .no => .no
      | .ret ρ2 fr d => .ret ρ2 fr d
      | .ex ρ2 e => .ex ρ2 e
theorem GoS.turn {K : PySem.W.Frag} {W : WX} {σ : Sl} {ρ : DEnv} {G H : Hp} {E : Ends} {g : DEnv → SR} {r : SR} (R0 : Rep K G H ρ σ)
    (h : GoS K W σ ρ G H E (match r with | .nx ρ2 => g ρ2 | .cnt ρ2 => g ρ2 | .brk ρ2 => .nx ρ2 | .no => .no | .ret ρ2 fr d => .ret ρ2 fr d | .ex ρ2 e => .ex ρ2 e)) :
    GoS K W σ ρ G H { E with nx := tS K W g E, ct := tS K W g E, bk := E.nx } r := by
  cases r with
  | nx ρ' => exact fun σ' G' H' s R => ⟨ρ', G', R, GoS.shift R0 s h⟩
  | cnt ρ' => exact fun σ' G' H' s R => ⟨ρ', G', R, GoS.shift R0 s h⟩
  | brk ρ' => exact h
  | no => exact h
  | ret _ _ _ => exact h
  | ex _ _ => exact h
theorem ds_while {X : Cx} {W : WX} {c : Expr} {body : List Stmt} {fc : DEnv → R Bool} {fb : DEnv → SR} {pos : Pos} (n : Nat) (hp : PassesOwn (model X.prog X.w) X.A X.env X.xe) (hc : DT X W c fc) (hb : DSs X W body fb) :
    DS X W (.While c body [] pos) (dWhile fc fb n) := ps_imp (ps_while hp hc hb) fun E σ H h => by
  refine ⟨fun m σ H => tS X.K W (dWhile fc fb m) E σ H, ⟨n, h⟩, fun m σ H ⟨ρ, G, R, h⟩ => ?_⟩
  cases m with
  | zero => exact False.elim h
  | succ m =>
    refine ⟨ρ, G, R, (Go.bindS R h).imp fun b ρ1 G1 H1 s1 R1 h1 => ?_⟩
    cases b with
    | false =>
      rw [if_neg Bool.false_ne_true]
      exact h1 σ G1 H1 .refl R1
    | true =>
      rw [if_pos rfl]
      exact ⟨tS X.K W (dWhile fc fb m) E, fun σ' H' q => ⟨m, Nat.lt_succ_self m, q⟩, ρ1, G1, R1, GoS.turn R1 h1⟩
end DF

namespace DF
open PySem PySem.Spec PyProof.Rows L2

noncomputable abbrev Tg := D → DEnv → Option DEnv
noncomputable def Agr (vs : List Nat) (σ σ' : Sl) : Prop := σ'.length = σ.length ∧ ∀ i, i ∉ vs → σ'[i]? = σ[i]?
noncomputable def tG (K : PySem.W.Frag) (f : Tg) (sl : List Nat) : TG := fun v σ H Q => ∃ ρ G d, Rep K G H ρ σ ∧ Is K G d v ∧ ∃ ρ', f d ρ = some ρ' ∧ ∀ σ' G' H', Stp ρ σ G H ρ' σ' G' H' → Rep K G' H' ρ' σ' → Agr sl σ σ' → Q σ' H'
noncomputable def tGs (K : PySem.W.Frag) (f : List D → DEnv → Option DEnv) (sl : List Nat) : TGs := fun vs σ H Q => ∃ ρ G ds, Rep K G H ρ σ ∧ Iss K G ds vs ∧ ∃ ρ', f ds ρ = some ρ' ∧ ∀ σ' G' H', Stp ρ σ G H ρ' σ' G' H' → Rep K G' H' ρ' σ' → Agr sl σ σ' → Q σ' H'
noncomputable abbrev DG (X : Cx) (tg : Expr) (f : Tg) (sl : List Nat) : Prop := PG X tg (tG X.K f sl)
noncomputable abbrev DGs (X : Cx) (ts : List Expr) (f : List D → DEnv → Option DEnv) (sl : List Nat) : Prop := PGs X ts (tGs X.K f sl)
theorem pg_imp {X : Cx} {e : Expr} {t t' : TG} (h : PG X e t) (i : ∀ v σ H Q, t' v σ H Q → t v σ H Q) : PG X e t' := ⟨fun pins s σ H v u Q I r q => h.run pins s σ H v u Q I r (i v σ H Q q)⟩
theorem pgs_imp {X : Cx} {es : List Expr} {t t' : TGs} (h : PGs X es t) (i : ∀ v σ H Q, t' v σ H Q → t v σ H Q) : PGs X es t' := ⟨fun pins s σ H v u Q I r q => h.run pins s σ H v u Q I r (i v σ H Q q)⟩
section
variable {X : Cx} {pos : Pos} {e : Expr} {es : List Expr}
theorem dg_name {i : Nat} (h : PG X e (gName i)) : DG X e (setV i) [i] := pg_imp h fun v σ H Q ⟨ρ, G, d, R, hv, ρ', e1, q⟩ => q _ G H (Stp.setV R e1) (R.setV e1 hv)
  ⟨List.length_set, fun j hj => List.getElem?_set_ne fun z => hj (by rw [z]; exact List.mem_singleton_self _)⟩
noncomputable def gsNil : List D → DEnv → Option DEnv := fun ds ρ => match ds with
  | [] => some ρ
  | _ => none
noncomputable def gsCons (f : Tg) (g : List D → DEnv → Option DEnv) : List D → DEnv → Option DEnv := fun ds ρ => match ds with
  | [] => none
  | d :: r => match f d ρ with
    | none => none
    | some ρ1 => g r ρ1
theorem dgs_nil : DGs X [] gsNil [] := pgs_imp pgs_nil fun vs σ H Q ⟨ρ, G, ds, R, hv, ρ', e1, q⟩ => by
  cases hv with
  | nil => cases e1; exact ⟨rfl, q σ G H .refl R ⟨rfl, fun _ _ => rfl⟩⟩
  | cons h r => cases e1
theorem dgs_cons {f : Tg} {g : List D → DEnv → Option DEnv} {s1 s2 : List Nat} (h1 : DG X e f s1) (h2 : DGs X es g s2) (hs : (assignEach (e :: es) X.env).map (·.2) = assign e X.env :: (assignEach es X.env).map (·.2) := by rfl) : DGs X (e :: es) (gsCons f g) (s1 ++ s2) :=
  pgs_imp (pgs_cons h1 h2 hs) fun vs σ H Q ⟨ρ, G, ds, R, hv, ρ', e1, q⟩ => by
    cases hv with
    | nil => cases e1
    | @cons d v l xs h r =>
      unfold gsCons at e1
      dsimp only at e1
      split at e1
      · cases e1
      · rename_i ρ1 e2
        exact ⟨v, xs, rfl, ρ, G, d, R, h, ρ1, e2, fun σ1 G1 H1 s1 R1 a1 => ⟨ρ1, G1, l, R1, r.mono s1.g, ρ', e1, fun σ' G' H' s R' a2 => q σ' G' H' (s1.trans R s) R' ⟨a2.1.trans a1.1, fun j hj => (a2.2 j fun m => hj (List.mem_append_right _ m)).trans (a1.2 j fun m => hj (List.mem_append_left _ m))⟩⟩⟩
noncomputable def gTp (n : Nat) (f : List D → DEnv → Option DEnv) : Tg := fun d ρ => match d with
  | .tup l => if l.length = n then f l ρ else none
  | _ => none
theorem dg_tup {k : Nat} {n : Nat} {f : List D → DEnv → Option DEnv} {sl : List Nat} (hc : X.calm = true) (h : DGs X es f sl) (hn : (assignEach es X.env).length = n := by rfl) (hst : (assignEach es X.env).findIdx? (·.1) = none := by rfl) : DG X (.Tuple es k pos) (gTp n f) sl :=
  pg_imp (pg_tup hc h hn hst) fun v σ H Q ⟨ρ, G, d, R, hv, ρ', e1, q⟩ => by
    cases hv with
    | @tup l a xs h r =>
      unfold gTp at e1
      dsimp only at e1
      split at e1
      · rename_i e2
        exact ⟨a, xs, rfl, Evl.ex_t R.sub h, by rw [← r.length]; exact e2, ρ, G, l, R, r, ρ', e1, q⟩
      · cases e1
    | _ => cases e1
end
noncomputable def dAsg (f : DEnv → R D) (g : Tg) : DEnv → SR := fun ρ => (f ρ).bindS fun d ρ' => match g d ρ' with
  | none => .no
  | some ρ2 => .nx ρ2
theorem ds_asg {X : Cx} {W : WX} {tg e : Expr} {f : DEnv → R D} {g : Tg} {sl : List Nat} {pos : Pos} (he : DE X W e f) (hg : DG X tg g sl) (hs : swapsWithSole [tg] e pos.line X.env = pure false := by rfl) (hw : swappedStores [tg] e X.env = pure none := by rfl)
    (h1 : (assignEach [tg] X.env).map (·.2) = [assign tg X.env] := by rfl) : DS X W (.Assign [tg] e pos) (dAsg f g) := ps_imp (ps_asg he hg hs hw h1) fun E σ H ⟨ρ, G, R, h⟩ => ⟨ρ, G, R, (Go.bindS R h).imp fun d ρ' G' H' s R' h v hv => by
      split at h
      · exact False.elim h
      · rename_i ρ2 e2
        exact ⟨ρ', G', d, R', hv, ρ2, e2, fun σ' G' H' s R _ => h σ' G' H' s R⟩⟩

structure ItS (K : PySem.W.Frag) (G0 : Hp) (l : List D) (J : It) : Prop where
  go : ∀ (i : Nat) (d : D) (G H : Hp), l[i]? = some d → Evl.Ex G0 G → Evl.Ex G H → J.go i H ∧ ∀ x H', J.yld i H x H' → ∃ G', New G H G' H' ∧ Is K G' d x
  stop : ∀ (i : Nat) (G H : Hp), l.length ≤ i → Evl.Ex G0 G → Evl.Ex G H → J.stop i H
noncomputable def tI (K : PySem.W.Frag) (W : WX) (f : DEnv → R (List D)) : TI := fun σ H Q => ∃ ρ G, Rep K G H ρ σ ∧ Go K W σ ρ G H (fun l _ G' H' => ∀ J, ItS K G' l J → Q J H') (f ρ)
noncomputable abbrev DI (X : Cx) (W : WX) (tg e : Expr) (f : DEnv → R (List D)) : Prop := PI X tg e (tI X.K W f)
theorem pi_imp {X : Cx} {tg e : Expr} {t t' : TI} (h : PI X tg e t) (i : ∀ σ H Q, t' σ H Q → t σ H Q) : PI X tg e t' := ⟨fun pins s σ H R I q => h.run pins s σ H R I (i σ H R q)⟩
section
variable {X : Cx} {W : WX} {tg e : Expr} {pos p : Pos}
theorem itl_s {K : PySem.W.Frag} {G0 : Hp} {l : List D} {a : Addr} {xs : List V} (h : SqL K G0 a xs) (r : Iss K G0 l xs) : ItS K G0 l (Itl K a) where
  go := fun i d G H e eG eH => by
    obtain ⟨v, e1, e2⟩ := r.get e
    have hL : SqL K H a xs := Evl.ex_l eH (Evl.ex_l eG h)
    refine ⟨⟨xs, v, hL, e1⟩, fun x H' ⟨z, y⟩ => ?_⟩
    subst z
    have q := y xs hL
    rw [e1] at q; cases q
    exact ⟨G, New.refl eH, e2.mono eG⟩
  stop := fun i G H e eG eH => ⟨xs, Evl.ex_l eH (Evl.ex_l eG h), by rw [← r.length]; exact e⟩
theorem itt_s {K : PySem.W.Frag} {G0 : Hp} {l : List D} {a : Addr} {xs : List V} (h : SqT K G0 a xs) (r : Iss K G0 l xs) : ItS K G0 l (Itt K a) where
  go := fun i d G H e eG eH => by
    obtain ⟨v, e1, e2⟩ := r.get e
    have hL : SqT K H a xs := Evl.ex_t eH (Evl.ex_t eG h)
    refine ⟨⟨xs, v, hL, e1⟩, fun x H' ⟨z, y⟩ => ?_⟩
    subst z
    have q := y xs hL
    rw [e1] at q; cases q
    exact ⟨G, New.refl eH, e2.mono eG⟩
  stop := fun i G H e eG eH => ⟨xs, Evl.ex_t eH (Evl.ex_t eG h), by rw [← r.length]; exact e⟩
noncomputable def rng (lo : Int) (n : Nat) : List D := (List.range n).map fun (k : Nat) => D.int (lo + (k : Int))
theorem itr_s {K : PySem.W.Frag} {G0 : Hp} {lo : Int} {n : Nat} : ItS K G0 (rng lo n) (Itr lo n) where
  go := fun i d G H e eG eH => by
    unfold rng at e
    rw [List.getElem?_map] at e
    by_cases h : i < n
    · rw [List.getElem?_range h] at e
      cases e
      refine ⟨h, fun x H' ⟨z, y⟩ => ?_⟩
      subst z y
      exact ⟨G, New.refl eH, .int _⟩
    · rw [List.getElem?_eq_none (by rw [List.length_range]; omega)] at e
      cases e
  stop := fun i G H e _ _ => by
    unfold rng at e
    rw [List.length_map, List.length_range] at e
    exact e
noncomputable def inR (i : Int) : Bool := decide (-(2 ^ 62) ≤ i) && decide (i < 2 ^ 62)
theorem inR_of {i : Int} (h : inR i = true) : -(2 ^ 62) ≤ i ∧ i < 2 ^ 62 := by
  unfold inR at h
  rw [Bool.and_eq_true, decide_eq_true_eq, decide_eq_true_eq] at h
  exact h
noncomputable def sRng1 (f : DEnv → R (List D)) : DEnv → R (List D) := fun ρ => (f ρ).bind fun l ρ' => match l with
  | [.int j] => if inR j = true then .ok ρ' (rng 0 j.toNat) else .no
  | _ => .no
noncomputable def sRng2 (f : DEnv → R (List D)) : DEnv → R (List D) := fun ρ => (f ρ).bind fun l ρ' => match l with
  | [.int i, .int j] => if inR i = true then if inR j = true then .ok ρ' (rng i (j - i).toNat) else .no else .no
  | _ => .no
theorem di_rng1 {a : Expr} {f : DEnv → R (List D)} (hg : Gl X "range") (hm : X.mg "range" = none) (ha : DVs X W [a] f) (hs : starEach [a] X.env = [(false, eval a X.env)] := by rfl) : DI X W tg (.Call (.Name "range" p) [a] [] pos) (sRng1 f) :=
  pi_imp (pi_range1 hg hm ha hs) fun σ H Q ⟨ρ, G, R, h⟩ => ⟨ρ, G, R, (Go.bind R h).imp fun l ρ' G' H' s R' h vs hv => by
    split at h
    · rename_i j
      cases hv with
      | cons h1 h2 =>
        cases h1; cases h2
        split at h
        · rename_i hj
          exact ⟨j, rfl, (inR_of hj).1, (inR_of hj).2, h G' H' .refl R' _ itr_s⟩
        · exact False.elim h
    · exact False.elim h⟩
theorem di_rng2 {a b : Expr} {f : DEnv → R (List D)} (hg : Gl X "range") (hm : X.mg "range" = none) (ha : DVs X W [a, b] f) (hs : starEach [a, b] X.env = [(false, eval a X.env), (false, eval b X.env)] := by rfl) (hs2 : starEach [b] X.env = [(false, eval b X.env)] := by rfl) :
    DI X W tg (.Call (.Name "range" p) [a, b] [] pos) (sRng2 f) :=
  pi_imp (pi_range2 hg hm ha hs hs2) fun σ H Q ⟨ρ, G, R, h⟩ => ⟨ρ, G, R, (Go.bind R h).imp fun l ρ' G' H' s R' h vs hv => by
    split at h
    · rename_i i j
      cases hv with
      | cons h1 h2 =>
        cases h2 with
        | cons h3 h4 =>
          cases h1; cases h3; cases h4
          split at h
          · rename_i hi
            split at h
            · rename_i hj
              exact ⟨i, j, rfl, ⟨(inR_of hi).1, (inR_of hi).2, (inR_of hj).1, (inR_of hj).2⟩, h G' H' .refl R' _ itr_s⟩
            · exact False.elim h
          · exact False.elim h
    · exact False.elim h⟩
end
noncomputable def dFor (g : Tg) (b : DEnv → SR) : List D → DEnv → SR
  | [], ρ => .nx ρ
  | d :: l, ρ => match g d ρ with
    | none => .no
    | some ρ1 => match b ρ1 with
      | .nx ρ2 => dFor g b l ρ2
      | .cnt ρ2 => dFor g b l ρ2
      | .brk ρ2 => .nx ρ2
      | .no => .no
      | .ret ρ2 fr d => .ret ρ2 fr d
      | .ex ρ2 e => .ex ρ2 e
noncomputable def dForS (s : DEnv → R (List D)) (g : Tg) (b : DEnv → SR) : DEnv → SR := fun ρ => (s ρ).bindS fun l ρ' => dFor g b l ρ'
theorem ds_for {X : Cx} {W : WX} {tg iter : Expr} {body : List Stmt} {f : DEnv → R (List D)} {g : Tg} {b : DEnv → SR} {sl : List Nat} {pos : Pos} (hp : PassesOwn (model X.prog X.w) X.A X.env X.xe) (hc : X.calm = true) (hi : DI X W tg iter f) (hg : DG X tg g sl) (hb : DSs X W body b)
    (hs : ∀ x, foldedSetIterable iter X.env x = pure x := by intro _; rfl) : DS X W (.For tg iter body [] pos) (dForS f g b) := ps_imp (ps_for hp hc hi hg hb hs) fun E σ H ⟨ρ, G, R, h⟩ => ⟨ρ, G, R, (Go.bindS R h).imp fun l ρ0 G0 H0 s0 R0 h0 J hJ => by
    refine ⟨fun i m σ H => m = l.length - i ∧ ∃ ρ G, Rep X.K G H ρ σ ∧ Evl.Ex G0 G ∧ GoS X.K W σ ρ G H E (dFor g b (l.drop i) ρ), ⟨l.length, by simp, ρ0, G0, R0, fun _ _ e => e, h0⟩, fun i m σ H ⟨em, ρ, G, R, eG, h⟩ => ?_⟩
    cases e : l[i]? with
    | none =>
      have hl : l.length ≤ i := List.getElem?_eq_none_iff.mp e
      rw [List.drop_eq_nil_of_le hl] at h
      exact .inl ⟨hJ.stop i G H hl eG R.sub, h σ G H .refl R⟩
    | some d =>
      obtain ⟨hi, he⟩ := List.getElem?_eq_some_iff.mp e
      obtain ⟨q1, q2⟩ := hJ.go i d G H e eG R.sub
      rw [List.drop_eq_getElem_cons hi, he] at h
      refine .inr ⟨q1, fun σ' H' => ∃ ρ G, Rep X.K G H' ρ σ' ∧ Evl.Ex G0 G ∧ GoS X.K W σ' ρ G H' E (dFor g b (l.drop (i + 1)) ρ), fun σ' H' q => ⟨l.length - (i + 1), by omega, rfl, q⟩, fun x H1 hy => ?_⟩
      obtain ⟨G1, N, hx⟩ := q2 x H1 hy
      have R1 := N.rep R
      unfold dFor at h
      split at h
      · exact False.elim h
      · rename_i ρ1 e1
        refine ⟨ρ, G1, d, R1, hx, ρ1, e1, fun σ2 G2 H2 s2 R2 _ => ⟨ρ1, G2, R2, ?_⟩⟩
        have s3 := (N.stp R).trans R s2
        have h' := GoS.shift R s3 h
        cases eb : b ρ1 with
        | no => rw [eb] at h'; exact h'
        | nx ρ2 =>
          rw [eb] at h'
          exact fun σ' G' H' s R' => ⟨ρ2, G', R', fun c o q => s.g c o (s3.g c o (eG c o q)), GoS.shift R2 s h'⟩
        | cnt ρ2 =>
          rw [eb] at h'
          exact fun σ' G' H' s R' => ⟨ρ2, G', R', fun c o q => s.g c o (s3.g c o (eG c o q)), GoS.shift R2 s h'⟩
        | brk ρ2 => rw [eb] at h'; exact h'
        | ret ρ2 fr d => rw [eb] at h'; exact h'
        | ex ρ2 ee => rw [eb] at h'; exact h'⟩
end DF

namespace DF
open PySem PySem.Spec PyProof.Rows L2
section
variable {X : Cx} {W : WX} {a b c e : Expr} {rest : List Expr} {pos : Pos} {fa fb : DEnv → R D} {ta tb : DEnv → R Bool}
theorem tB_of {f : DEnv → R D} : ∀ σ H Q, tT X.K W (dTst f) σ H Q → tB (tD X.K W f) σ H Q := fun σ H Q ⟨ρ, G, R, h⟩ =>
  ⟨ρ, G, R, (Go.bind R h).imp fun d ρ' G' H' s R' h v hv => by
    split at h
    · cases hv
      exact ⟨_, rfl, h G' H' .refl R'⟩
    · exact False.elim h⟩
theorem dt_val (h : DE X W e fa) (he : ∀ whole, isTrue e X.env whole = (do let v ← whole; standAt e.pos; holding [v] (truthy v)) := by intro _; rfl) : DT X W e (dTst fa) := pt_imp (pt_val h he) tB_of
noncomputable def tru (d : D) : Option Bool := match d with
  | .non => some false
  | .bl b => some b
  | .int i => some (i != 0)
  | .lst l => some (!l.isEmpty)
  | .tup l => some (!l.isEmpty)
  | _ => none
theorem tru_of {K : PySem.W.Frag} {G H : Hp} {d : D} {v : V} {b : Bool} (eS : Evl.Ex G H) (h : Top K G H d v) (e : tru d = some b) : TruV K v H b := by
  cases d with
  | non => cases h; cases e; exact (rfl : false = false)
  | bl c => cases h; cases e; exact (rfl : b = b)
  | int i => cases h; cases e; exact (rfl : (i != 0) = (i != 0))
  | str x => cases e
  | dic l => cases e
  | obj c fs => cases e
  | lst l =>
    obtain ⟨p, xs, rfl, h1, h2⟩ := h
    cases e
    refine .inl ⟨xs, Evl.sq_of h1, ?_⟩
    cases h2 <;> rfl
  | fro l => cases e
  | fn x => cases e
  | tup l =>
    cases h with
    | @tup l p xs h1 h2 =>
      cases e
      refine .inr (.inl ⟨xs, Evl.ex_t eS h1, ?_⟩)
      cases h2 <;> rfl
noncomputable def dTru (f : DEnv → R Th) : DEnv → R Bool := fun ρ => (f ρ).bind fun t ρ' => match t ρ' with
  | none => .no
  | some d => ofO ρ' (tru d)
theorem dt_truth {f : DEnv → R Th} (h : DO X W e f) (he : ∀ whole, isTrue e X.env whole = (do let v ← whole; standAt e.pos; holding [v] (truthy v)) := by intro _; rfl) : DT X W e (dTru f) :=
  pt_imp (pt_truth h he) fun σ H Q ⟨ρ, G, R, h⟩ => ⟨ρ, G, R, (Go.bind R h).imp fun t ρ' G' H' s R' h v hv => by
    split at h
    · exact False.elim h
    · rename_i d e1
      cases e2 : tru d with
      | none => rw [e2] at h; exact False.elim h
      | some b =>
        rw [e2] at h
        exact ⟨b, tru_of R'.sub (hv ρ' G' H' d .refl R' e1) e2, h G' H' .refl R'⟩⟩
noncomputable abbrev DW (X : Cx) (W : WX) (e : Expr) (f : DEnv → R Bool) : Prop := PW X e (tT X.K W f)
noncomputable def dAnd (f g : DEnv → R Bool) : DEnv → R Bool := fun ρ => (f ρ).bind fun b ρ' => match b with
  | true => g ρ'
  | false => .ok ρ' false
noncomputable def dOr (f g : DEnv → R Bool) : DEnv → R Bool := fun ρ => (f ρ).bind fun b ρ' => match b with
  | true => .ok ρ' true
  | false => g ρ'
noncomputable def dNot (f : DEnv → R Bool) : DEnv → R Bool := fun ρ => (f ρ).bind fun b ρ' => .ok ρ' (!b)
theorem dw_and1 (h : DT X W a ta) : DW X W (.BoolOp .And [a] pos) ta := pw_and1 h
theorem dw_or1 (h : DT X W a ta) : DW X W (.BoolOp .Or [a] pos) ta := pw_or1 h
theorem dw_and (ha : DT X W a ta) (hb : DW X W (.BoolOp .And (b :: rest) pos) tb) : DW X W (.BoolOp .And (a :: b :: rest) pos) (dAnd ta tb) :=
  pw_imp (pw_and ha hb) fun σ H Q ⟨ρ, G, R, h⟩ => ⟨ρ, G, R, (Go.bind R h).imp fun b ρ' G' H' s R' h => by
    cases b with
    | true => rw [if_pos rfl]; exact ⟨ρ', G', R', h⟩
    | false => rw [if_neg Bool.false_ne_true]; exact h G' H' .refl R'⟩
theorem dw_or (ha : DT X W a ta) (hb : DW X W (.BoolOp .Or (b :: rest) pos) tb) : DW X W (.BoolOp .Or (a :: b :: rest) pos) (dOr ta tb) :=
  pw_imp (pw_or ha hb) fun σ H Q ⟨ρ, G, R, h⟩ => ⟨ρ, G, R, (Go.bind R h).imp fun b ρ' G' H' s R' h => by
    cases b with
    | true => rw [if_pos rfl]; exact h G' H' .refl R'
    | false => rw [if_neg Bool.false_ne_true]; exact ⟨ρ', G', R', h⟩⟩
theorem dt_bool (h : DW X W e ta) : DT X W e ta := h.pt
theorem dt_not (ha : DT X W a ta) : DT X W (.UnaryOp .Not a pos) (dNot ta) :=
  pt_imp (pt_not ha) fun σ H Q ⟨ρ, G, R, h⟩ => ⟨ρ, G, R, (Go.bind R h).imp fun b ρ' G' H' s R' h => h G' H' .refl R'⟩
noncomputable def dAndV (f g : DEnv → R D) : DEnv → R D := fun ρ => (f ρ).bind fun d ρ' => match d with
  | .bl true => g ρ'
  | .bl false => .ok ρ' (.bl false)
  | _ => .no
noncomputable def dOrV (f g : DEnv → R D) : DEnv → R D := fun ρ => (f ρ).bind fun d ρ' => match d with
  | .bl true => .ok ρ' (.bl true)
  | .bl false => g ρ'
  | _ => .no
noncomputable def dNotV (f : DEnv → R D) : DEnv → R D := fun ρ => (f ρ).bind fun d ρ' => match d with
  | .bl b => .ok ρ' (.bl (!b))
  | _ => .no
theorem de_one {op} (h : DE X W a fa) : DE X W (.BoolOp op [a] pos) fa := pe_one h
theorem de_and (ha : DE X W a fa) (hb : DE X W (.BoolOp .And (b :: rest) pos) fb) : DE X W (.BoolOp .And (a :: b :: rest) pos) (dAndV fa fb) :=
  pe_imp (pe_and ha hb) fun σ H Q ⟨ρ, G, R, h⟩ => ⟨ρ, G, R, (Go.bind R h).imp fun d ρ' G' H' s R' h v hv => by
    split at h
    · cases hv; exact ⟨true, rfl, by rw [if_pos rfl]; exact ⟨ρ', G', R', h⟩⟩
    · cases hv; exact ⟨false, rfl, by rw [if_neg Bool.false_ne_true]; exact h G' H' .refl R' _ (.bl false)⟩
    · exact False.elim h⟩
theorem de_or (ha : DE X W a fa) (hb : DE X W (.BoolOp .Or (b :: rest) pos) fb) : DE X W (.BoolOp .Or (a :: b :: rest) pos) (dOrV fa fb) :=
  pe_imp (pe_or ha hb) fun σ H Q ⟨ρ, G, R, h⟩ => ⟨ρ, G, R, (Go.bind R h).imp fun d ρ' G' H' s R' h v hv => by
    split at h
    · cases hv; exact ⟨true, rfl, by rw [if_pos rfl]; exact h G' H' .refl R' _ (.bl true)⟩
    · cases hv; exact ⟨false, rfl, by rw [if_neg Bool.false_ne_true]; exact ⟨ρ', G', R', h⟩⟩
    · exact False.elim h⟩
theorem de_not (ha : DE X W a fa) : DE X W (.UnaryOp .Not a pos) (dNotV fa) :=
  pe_imp (pe_not ha) fun σ H Q ⟨ρ, G, R, h⟩ => ⟨ρ, G, R, (Go.bind R h).imp fun d ρ' G' H' s R' h v hv => by
    split at h
    · rename_i b
      cases hv; exact ⟨b, rfl, h G' H' .refl R' _ (.bl _)⟩
    · exact False.elim h⟩
noncomputable def dIte (t : DEnv → R Bool) (f g : DEnv → R D) : DEnv → R D := fun ρ => (t ρ).bind fun b ρ' => match b with
  | true => f ρ'
  | false => g ρ'
theorem de_ifExp (hc : DT X W c ta) (ha : DE X W a fa) (hb : DE X W b fb) : DE X W (.IfExp c a b pos) (dIte ta fa fb) :=
  pe_imp (pe_ifExp hc ha hb) fun σ H Q ⟨ρ, G, R, h⟩ => ⟨ρ, G, R, (Go.bind R h).imp fun b ρ' G' H' s R' h => by
    cases b with
    | true => rw [if_pos rfl]; exact ⟨ρ', G', R', h⟩
    | false => rw [if_neg Bool.false_ne_true]; exact ⟨ρ', G', R', h⟩⟩
noncomputable def dChain (g g' : D → D → Option D) (f1 f2 f3 : DEnv → R Th) : DEnv → R D := fun ρ => (f1 ρ).bind fun t1 ρ1 => (f2 ρ1).bind fun t2 ρ2 => match t1 ρ2, t2 ρ2 with
  | some x, some y => match g x y with
    | some (.bl true) => (f3 ρ2).bind fun t3 ρ3 => match t2 ρ3, t3 ρ3 with
      | some y', some z => ofO ρ3 (g' y' z)
      | _, _ => .no
    | some (.bl false) => .ok ρ2 (.bl false)
    | _ => .no
  | _, _ => .no
theorem tchain {r r' : R2} {g g' : D → D → Option D} {f1 f2 f3 : DEnv → R Th} (hs : OpS X.K r g) (hs' : OpS X.K r' g') : ∀ σ H Q, tD X.K W (dChain g g' f1 f2 f3) σ H Q → tChain r r' (tO X.K W f1) (tO X.K W f2) (tO X.K W f3) σ H Q := fun σ H Q ⟨ρ, G, R, h⟩ =>
  ⟨ρ, G, R, (Go.bind R h).imp fun t1 ρ1 G1 H1 s1 R1 h1 v hv => ⟨ρ1, G1, R1, (Go.bind R1 h1).imp fun t2 ρ2 G2 H2 s2 R2 h2 u hu => by
    split at h2
    · rename_i x y ex ey
      cases e : g x y with
      | none => rw [e] at h2; exact False.elim h2
      | some z =>
        rw [e] at h2
        refine hs x y z v u G2 H2 _ R2.sub (hv ρ2 G2 H2 x s2 R2 ex) (hu ρ2 G2 H2 y .refl R2 ey) e fun w G' H' N hw => ?_
        have R' := N.rep R2
        have S' := N.stp R2
        cases z with
        | bl k =>
          cases hw
          refine ⟨k, rfl, ?_⟩
          cases k with
          | true =>
            rw [if_pos rfl]
            refine ⟨ρ2, G', R', (Go.bind R' (Go.shift R2 S' h2)).imp fun t3 ρ3 G3 H3 s3 R3 h3 w' hw' => ?_⟩
            split at h3
            · rename_i y' z ey' ez
              cases e' : g' y' z with
              | none => rw [e'] at h3; exact False.elim h3
              | some z' =>
                rw [e'] at h3
                exact hs' y' z z' u w' G3 H3 Q R3.sub (hu ρ3 G3 H3 y' (S'.trans R2 s3) R3 ey') (hw' ρ3 G3 H3 z .refl R3 ez) e' fun w G' H' N hw => h3 G' H' (N.stp R3) (N.rep R3) w hw
            · exact False.elim h3
          | false =>
            rw [if_neg Bool.false_ne_true]
            exact h2 G' H' S' R' _ (.bl false)
        | _ => exact False.elim h2
    · exact False.elim h2⟩⟩
theorem de_chain {op op' : CmpOp} {r r' : R2} {g g' : D → D → Option D} {f1 f2 f3 : DEnv → R Th} (ho : OpR X (compareOp op) r) (ho' : OpR X (compareOp op') r') (hs : OpS X.K r g) (hs' : OpS X.K r' g') (h1 : DO X W a f1) (h2 : DO X W b f2) (h3 : DO X W c f3)
    (hm : lastMarks [op, op'] [b, c] = false := by with_unfolding_all rfl) : DE X W (.Compare a [op, op'] [b, c] pos) (dChain g g' f1 f2 f3) := pe_imp (pe_chain ho ho' h1 h2 h3 hm) (tchain hs hs')
theorem dt_chain {op op' : CmpOp} {r r' : R2} {g g' : D → D → Option D} {f1 f2 f3 : DEnv → R Th} (ho : OpR X (compareOp op) r) (ho' : OpR X (compareOp op') r') (hs : OpS X.K r g) (hs' : OpS X.K r' g') (h1 : DO X W a f1) (h2 : DO X W b f2) (h3 : DO X W c f3)
    (hm : lastMarks [op, op'] [b, c] = false := by with_unfolding_all rfl) : DT X W (.Compare a [op, op'] [b, c] pos) (dTst (dChain g g' f1 f2 f3)) :=
  pt_imp (pt_chain ho ho' h1 h2 h3 hm) fun σ H Q h => by
    obtain ⟨ρ, G, R, h⟩ := ttst σ H Q h
    exact tchain hs hs' σ H _ ⟨ρ, G, R, h⟩
noncomputable def dTup (f : DEnv → R (List D)) : DEnv → R D := fun ρ => (f ρ).bind fun l ρ' => if l.length ≤ 1000 then .ok ρ' (.tup l) else .no
noncomputable def dLst (f : DEnv → R (List D)) : DEnv → R D := fun ρ => (f ρ).bind fun l ρ' => if l.length ≤ 1000 then .ok ρ' (.lst l) else .no
theorem de_tup {es : List Expr} {k : Nat} {f : DEnv → R (List D)} (h : DVs X W es f) : DE X W (.Tuple es k pos) (dTup f) := pe_imp (pe_tup h) fun σ H Q ⟨ρ, G, R, h⟩ => ⟨ρ, G, R, (Go.bind R h).imp fun l ρ' G' H' s R' h vs hv => by
    split at h
    · rename_i hl
      refine ⟨Evl.sz_of (by rw [← hv.length]; omega), fun p hp => ?_⟩
      have N : New G' H' (upd G' p (.tup vs)) (upd H' p (.tup vs)) := New.put R'.sub hp
      exact h _ _ (N.stp R') (N.rep R') _ (.tup (Evl.st_of upd_same) (hv.mono N.g))
    · exact False.elim h⟩
theorem fresh_lst {K : PySem.W.Frag} {ρ0 ρ : DEnv} {σ : Sl} {G0 H0 G H : Hp} {l : List D} {vs : List V} {Q : VK} (R0 : Rep K G0 H0 ρ0 σ) (s : Stp ρ0 σ G0 H0 ρ σ G H) (R : Rep K G H ρ σ)
    (h : ∀ G' H', Stp ρ0 σ G0 H0 ρ σ G' H' → Rep K G' H' ρ σ → ∀ a, G' a = none → ¬ Mu false ρ σ a → ¬ Mu true ρ σ a → H0 a = none → Cont K G' H' a (.lst l) → Q (.ref a) H') (hv : Iss K G l vs) (p : Addr) (hp : H p = none) : Q (.ref p) (upd H p (.lst vs)) := by
  have N : New G H G (upd H p (.lst vs)) := New.hid R.sub hp
  have no : ∀ b, ¬ Mu b ρ σ p := fun b ⟨i, d, e1, e2⟩ => by
    obtain ⟨a, e3, _, e4⟩ := R.mu i b d e1
    rw [e2] at e3; cases e3
    obtain ⟨o, ho⟩ := e4.there
    rw [hp] at ho; cases ho
  exact h _ _ (s.trans R0 (N.stp R)) (N.rep R) p (sub_none R.sub hp) (no false) (no true) (s.t p hp) ⟨vs, upd_same, hv⟩
theorem df_lst {es : List Expr} {f : DEnv → R (List D)} (h : DVs X W es f) : DF' X W (.List es pos) (dLst f) := pe_imp (pe_lst h) fun σ H Q ⟨ρ, G, R, h⟩ => ⟨ρ, G, R, by
    cases e1 : f ρ with
    | no =>
      have h2 : dLst f ρ = .no := by unfold dLst; rw [e1]; rfl
      rw [h2] at h; exact h
    | ex ρ' ee =>
      have h2 : dLst f ρ = .ex ρ' ee := by unfold dLst; rw [e1]; rfl
      rw [h2] at h; exact h
    | ok ρ' l =>
      have h2 : dLst f ρ = if l.length ≤ 1000 then .ok ρ' (.lst l) else .no := by unfold dLst; rw [e1]; rfl
      rw [h2] at h
      intro G' H' s R' vs hv
      split at h
      · rename_i hl
        refine ⟨Evl.sz_of (by rw [← hv.length]; omega), fun p hp => ?_⟩
        exact fresh_lst R s R' (fun G' H' s R q1 q2 q3 q4 q5 q6 => h G' H' s R q1 q2 q3 q4 q5 q6) hv p hp
      · exact False.elim h⟩
noncomputable def ixD (x y : D) : Option D := match x, y with
  | .lst l, .int i => atI l i
  | .tup l, .int i => atI l i
  | .fro l, .int i => atI l i
  | _, _ => none
theorem atI_iss {K : PySem.W.Frag} {G : Hp} {l : List D} {xs : List V} {i : Int} {d : D} (r : Iss K G l xs) (e : atI l i = some d) : ∃ v, atI xs i = some v ∧ Is K G d v := by
  unfold atI at e ⊢
  rw [← r.length]
  cases q : ixN l.length i with
  | none => rw [q] at e; cases e
  | some j =>
    rw [q] at e
    exact r.get e
noncomputable def rIx2 (K : PySem.W.Frag) : R2 := fun x y H Q => rIxL K x y H Q ∨ rIxT K x y H Q
theorem ix2 {X : Cx} : IxR X (rIx2 X.K) := ix_list.or ix_tup
theorem ops_ix {K : PySem.W.Frag} : OpS K (rIx2 K) ixD := fun x y z v u G H Q eS hx hy e k => by
  cases y with
  | int i =>
    cases hy
    cases x with
    | lst l =>
      obtain ⟨p, xs, rfl, h1, h2⟩ := hx
      obtain ⟨w, e1, e2⟩ := atI_iss h2 e
      exact .inl ⟨p, xs, i, w, rfl, rfl, Evl.sq_of h1, e1, k w G H (New.refl eS) e2⟩
    | fro l =>
      cases hx with
      | @fro l p xs h1 h2 =>
        obtain ⟨w, e1, e2⟩ := atI_iss h2 e
        exact .inl ⟨p, xs, i, w, rfl, rfl, Evl.ex_l eS h1, e1, k w G H (New.refl eS) e2⟩
    | tup l =>
      cases hx with
      | @tup l p xs h1 h2 =>
        obtain ⟨w, e1, e2⟩ := atI_iss h2 e
        exact .inr ⟨p, xs, i, w, rfl, rfl, Evl.ex_t eS h1, e1, k w G H (New.refl eS) e2⟩
    | _ => cases e
  | _ => cases x <;> cases e
theorem de_ix {f1 f2 : DEnv → R Th} (ha : DO X W a f1) (hb : DO X W b f2) (hs : PlainIx b := by exact fun _ _ => rfl) : DE X W (.Subscript a b pos) (dBin ixD f1 f2) := pe_imp (pe_ix ix2 ha hb hs) (tbin ops_ix)
end
end DF

namespace DF
open PySem PySem.Spec PyProof.Rows L2
section
variable {K : PySem.W.Frag} {ρ : DEnv} {σ : Sl} {G H : Hp} {i : Nat} {b : Bool} {d d1 : D} {a : Addr} {o : HO}
theorem Rep.chg (R : Rep K G H ρ σ) (e : ρ[i]? = some (some (.mu b d))) (ea : σ[i]? = some (some (.ref a))) (c : Cont K G (upd H a o) a d1) :
    Stp ρ σ G H (ρ.set i (some (.mu b d1))) σ G (upd H a o) ∧ Rep K G (upd H a o) (ρ.set i (some (.mu b d1))) σ := by
  obtain ⟨a', e1, e2, e3⟩ := R.mu i b d e
  rw [ea] at e1; cases e1
  have hl : i < ρ.length := (List.getElem?_eq_some_iff.mp e).1
  have mu : ∀ (j : Nat) (c : Bool) (d' : D), (ρ.set i (some (.mu b d1)))[j]? = some (some (.mu c d')) → ∃ d'', ρ[j]? = some (some (.mu c d'')) := fun j c d' q => by
    rcases set_get q with ⟨z, y⟩ | ⟨_, z⟩
    · subst z; cases y; exact ⟨d, e⟩
    · exact ⟨d', z⟩
  refine ⟨⟨fun _ _ q => q, fun c u n1 n2 q _ => ?_, fun c q => ?_, fun c q1 q2 => absurd q1 q2, fun c ⟨j, d', q1, q2⟩ => ?_, fun j => ⟨fun d' q => ?_, fun d' q => mu j true d' q⟩, .up e3.pln⟩, ⟨fun c u q => ?_, by rw [List.length_set]; exact R.len, fun j d' q => ?_, fun j c' d' q => ?_, fun j k b' c' x y a' q1 q2 q3 q4 => ?_, R.tb.pH e3.pln⟩⟩
  · have n : c ≠ a := fun z => by
      subst z
      cases b with
      | false => exact n1 ⟨i, d, e, ea⟩
      | true => exact n2 ⟨i, d, e, ea⟩
    rw [upd_ne n]; exact q
  · by_cases z : c = a
    · subst z; rw [upd_same] at q; cases q
    · rw [upd_ne z] at q; exact q
  · obtain ⟨d'', z⟩ := mu j false d' q1
    exact .inl ⟨j, d'', z, q2⟩
  · by_cases z : i = j
    · subst z
      rw [e] at q; cases q
      exact ⟨d1, List.getElem?_set_self hl, rfl⟩
    · exact ⟨d', by rw [List.getElem?_set_ne z]; exact q, rfl⟩
  · have n : c ≠ a := fun z => by subst z; rw [e2] at q; cases q
    rw [upd_ne n]; exact R.sub c u q
  · rcases set_get q with ⟨_, y⟩ | ⟨_, z⟩
    · cases y
    · exact R.vl j d' z
  · rcases set_get q with ⟨z, y⟩ | ⟨n, z⟩
    · subst z; cases y
      exact ⟨a, ea, e2, c⟩
    · obtain ⟨a2, z1, z2, z3⟩ := R.mu j c' d' z
      have na : a2 ≠ a := fun y => by subst y; exact n (R.ap i j b c' d d' a2 e z ea z1)
      exact ⟨a2, z1, z2, z3.mono (fun _ _ q => q) fun u q => by rw [upd_ne na]; exact q⟩
  · obtain ⟨x', z1⟩ := mu j b' x q1
    obtain ⟨y', z2⟩ := mu k c' y q2
    exact R.ap j k b' c' x' y' a' z1 z2 q3 q4
end
section
variable {X : Cx} {W : WX} {i : Nat} {o e k : Expr} {pos p1 p2 p3 : Pos} {f : DEnv → R D}
noncomputable def muL (i : Nat) (ρ : DEnv) : Option (Bool × List D) := match ρ[i]? with
  | some (some (.mu b (.lst l))) => some (b, l)
  | _ => none
theorem muL_of {ρ : DEnv} {b : Bool} {l : List D} (h : muL i ρ = some (b, l)) : ρ[i]? = some (some (.mu b (.lst l))) := by
  unfold muL at h
  split at h
  · rename_i b' l' e; cases h; exact e
  · cases h
noncomputable def dApp (i : Nat) (f : DEnv → R D) : DEnv → SR := fun ρ => match muL i ρ with
  | none => .no
  | some _ => (f ρ).bindS fun d ρ' => match muL i ρ' with
    | none => .no
    | some (b, l) => if l.length < 16000000 then .nx (ρ'.set i (some (.mu b (.lst (l ++ [d]))))) else .no
theorem ds_app (ho : PE X o (tVar i)) (he : DE X W e f) (hs : swapsWith (.Call (.Attribute o "append" p1) [e] [] p2) none pos.line X.env = pure false := by rfl)
    (hbase : attributeBase o "append" X.env (eval o X.env) = eval o X.env := by rfl)
    (hfew : ((backTo p2 (starEach [e] X.env)).all (fun x => !x.1) && (backToKw p2 (keywordEach [] X.env)).all (fun x => x.1.isSome) && decide ([e].length + ([] : List Keyword).length + (if ([] : List Keyword).isEmpty then 0 else 1) < 30)) = true := by rfl)
    (hline : (p1.endLine == p2.line) = true := by rfl) (hst : starEach [e] X.env = (false, eval e X.env) :: starEach [] X.env := by rfl) (hplain : (backTo p2 (starEach [] X.env)).any (·.1) = false := by rfl) :
    DS X W (.Expr (.Call (.Attribute o "append" p1) [e] [] p2) pos) (dApp i f) :=
  ps_imp (ps_expr (pe_bm PySem.F.plainAttrs_list PySem.F.slot_list_append PySem.F.type_list_append mt_append ho (pa_cons he pa_nil hst) hbase hfew hline hst hplain) hs) fun E σ H ⟨ρ, G, R, h⟩ => by
    unfold dApp at h
    split at h
    · exact False.elim h
    · rename_i q e1
      obtain ⟨b, l⟩ := q
      have e1 := muL_of e1
      obtain ⟨a, ea, e2, xs, e3, e4⟩ := R.mu i b _ e1
      refine ⟨.ref a, ea, .inl ⟨rfl, xs, Evl.sq_of e3⟩, ρ, G, R, (Go.bindS R h).imp fun d ρ' G' H' s R' h v hv => ?_⟩
      split at h
      · exact False.elim h
      · rename_i b' l' e5
        have e5 := muL_of e5
        obtain ⟨a', ea', e6, ys, e7, e8⟩ := R'.mu i b' _ e5
        rw [ea] at ea'; cases ea'
        split at h
        · rename_i hl
          refine ⟨a, ys, v, rfl, rfl, e7, by rw [← e8.length, sizeLine_eq]; omega, ?_⟩
          obtain ⟨s2, R2⟩ := R'.chg (o := .lst (ys ++ [v])) (d1 := .lst (l' ++ [d])) e5 ea ⟨_, upd_same, e8.append (.cons hv .nil)⟩
          exact h σ G' _ s2 R2
        · exact False.elim h
noncomputable def dSetI (i : Nat) (fk f : DEnv → R D) : DEnv → SR := fun ρ => (f ρ).bindS fun d ρ1 => match muL i ρ1 with
  | none => .no
  | some _ => (fk ρ1).bindS fun k ρ2 => match muL i ρ2, k with
    | some (b, l), .int n => match ixN l.length n with
      | none => .no
      | some j => .nx (ρ2.set i (some (.mu b (.lst (l.set j d)))))
    | _, _ => .no
theorem ds_seti {fk : DEnv → R D} (ho : PE X o (tVar i)) (hk : DE X W k fk) (he : DE X W e f) (hs : swapsWithSole [.Subscript o k p1] e pos.line X.env = pure false := by rfl) (hw : swappedStores [.Subscript o k p1] e X.env = pure none := by rfl)
    (h1 : (assignEach [.Subscript o k p1] X.env).map (·.2) = [assign (.Subscript o k p1) X.env] := by rfl)
    (ha : ∀ v, assign (.Subscript o k p1) X.env v = (do
      let ov ← holding [v] (eval o X.env)
      let iv ← holding [v, ov] (eval k X.env)
      standAt p1
      holding [v, ov, iv] (setItem ov iv v)
      release [v, ov, iv] []) := by intro _; rfl) : DS X W (.Assign [.Subscript o k p1] e pos) (dSetI i fk f) :=
  ps_imp (ps_asg he (pg_sub ho hk set_list ha) hs hw h1) fun E σ H ⟨ρ, G, R, h⟩ => ⟨ρ, G, R, (Go.bindS R h).imp fun d ρ1 G1 H1 s1 R1 h v hv => by
    split at h
    · exact False.elim h
    · rename_i q e1
      obtain ⟨b, l⟩ := q
      have e1 := muL_of e1
      obtain ⟨a, ea, e2, xs, e3, e4⟩ := R1.mu i b _ e1
      refine ⟨.ref a, ea, ρ1, G1, R1, (Go.bindS R1 h).imp fun kd ρ2 G2 H2 s2 R2 h kv hkv => ?_⟩
      split at h
      · rename_i b' l' n e5
        have e5 := muL_of e5
        cases hkv
        obtain ⟨a', ea', e6, ys, e7, e8⟩ := R2.mu i b' _ e5
        rw [ea] at ea'; cases ea'
        split at h
        · exact False.elim h
        · rename_i j ej
          refine ⟨a, ys, n, j, rfl, rfl, e7, by rw [← e8.length]; exact ej, ?_⟩
          obtain ⟨s3, R3⟩ := R2.chg (o := .lst (ys.set j v)) (d1 := .lst (l'.set j d)) e5 ea ⟨_, upd_same, e8.set (hv.mono s2.g) j⟩
          exact h σ G2 _ s3 R3
      · exact False.elim h⟩
end

inductive FRes where
  | no
  | ret (fr : Bool) (d : D) (outs : List D)
  | exc (e : Exc) (outs : List D)
noncomputable abbrev Fn := List (Bool × D) → FRes
inductive ArgsIs (K : PySem.W.Frag) (G H : Hp) : List (Bool × D) → List V → Prop
  | nil : ArgsIs K G H [] []
  | val {d : D} {v : V} {as : List (Bool × D)} {vs : List V} : Is K G d v → ArgsIs K G H as vs → ArgsIs K G H ((false, d) :: as) (v :: vs)
  | io {d : D} {a : Addr} {as : List (Bool × D)} {vs : List V} : G a = none → Cont K G H a d → ArgsIs K G H as vs → ArgsIs K G H ((true, d) :: as) (.ref a :: vs)
noncomputable def ioA : List (Bool × D) → List V → List Addr
  | (true, _) :: as, .ref a :: vs => a :: ioA as vs
  | _ :: as, _ :: vs => ioA as vs
  | _, _ => []
inductive OutsIs (K : PySem.W.Frag) (G H : Hp) : List (Bool × D) → List V → List D → Prop
  | nil : OutsIs K G H [] [] []
  | val {d : D} {v : V} {as : List (Bool × D)} {vs : List V} {os : List D} : OutsIs K G H as vs os → OutsIs K G H ((false, d) :: as) (v :: vs) os
  | io {d d' : D} {a : Addr} {as : List (Bool × D)} {vs : List V} {os : List D} : Cont K G H a d' → OutsIs K G H as vs os → OutsIs K G H ((true, d) :: as) (.ref a :: vs) (d' :: os)
structure FStp (K : PySem.W.Frag) (io : List Addr) (G H G' H' : Hp) : Prop where
  g : Evl.Ex G G'
  h : ∀ b o, b ∉ io → H b = some o → NoT o → H' b = some o
  t : ∀ b, H' b = none → H b = none
  n : ∀ b, G b = none → G' b ≠ none → H b = none
  s : Evl.Ex G' H'
  tb : TabK K G' H'
  gr : Gr H H'
noncomputable def FIs (K : PySem.W.Frag) (G' H' H : Hp) (fr : Bool) (d : D) (v : V) : Prop := match fr with
  | false => Is K G' d v
  | true => ∃ a, v = .ref a ∧ G' a = none ∧ H a = none ∧ Cont K G' H' a d
noncomputable def spD (K : PySem.W.Frag) (ar : Nat) (F : Fn) : Sp := fun vs H Q E => vs.length = ar ∧ ∃ G as, Evl.Ex G H ∧ TabK K G H ∧ ArgsIs K G H as vs ∧ (ioA as vs).Nodup ∧ match F as with
  | .no => False
  | .ret fr d outs => ∀ v G' H', FStp K (ioA as vs) G H G' H' → OutsIs K G' H' as vs outs → FIs K G' H' H fr d v → Q v H'
  | .exc e outs => ∀ dd G' H', FStp K (ioA as vs) G H G' H' → OutsIs K G' H' as vs outs → EIs K G' H' e dd → E (cv K e.nm) dd H'
theorem ArgsIs.length {K : PySem.W.Frag} {G H : Hp} : ∀ {as : List (Bool × D)} {vs : List V}, ArgsIs K G H as vs → as.length = vs.length
  | _, _, .nil => rfl
  | _, _, .val _ r => congrArg (· + 1) (ArgsIs.length r)
  | _, _, .io _ _ r => congrArg (· + 1) (ArgsIs.length r)

noncomputable def startC (as : List (Bool × D)) : DEnv := as.map fun p => some (if p.1 then .mu true p.2 else .val p.2)
noncomputable def startE (n : Nat) (as : List (Bool × D)) : DEnv := startC as ++ List.replicate (n - as.length) none
noncomputable def outs (ρ : DEnv) : Nat → List (Bool × D) → Option (List D)
  | _, [] => some []
  | i, (false, _) :: as => outs ρ (i + 1) as
  | i, (true, _) :: as => match ρ[i]? with
    | some (some (.mu true d)) => match outs ρ (i + 1) as with
      | some l => some (d :: l)
      | none => none
    | _ => none
noncomputable def fnRes (as : List (Bool × D)) (r : SR) : FRes := match r with
  | .nx ρ => match outs ρ 0 as with
    | some l => .ret false .non l
    | none => .no
  | .ret ρ fr d => match outs ρ 0 as with
    | some l => .ret fr d l
    | none => .no
  | .ex ρ e => match outs ρ 0 as with
    | some l => .exc e l
    | none => .no
  | _ => .no
end DF

namespace DF
variable {gq : Bool}
open PySem PySem.Spec PyProof.Rows L2
section
variable {K : PySem.W.Frag} {G H G' H' : Hp}
theorem ArgsIs.get : ∀ {as : List (Bool × D)} {vs : List V} {i : Nat} {b : Bool} {d : D}, ArgsIs K G H as vs → as[i]? = some (b, d) → ∃ v, vs[i]? = some v ∧ match b with | false => Is K G d v | true => ∃ a, v = .ref a ∧ G a = none ∧ Cont K G H a d ∧ a ∈ ioA as vs
  | _, _, _, _, _, .nil, e => by simp at e
  | _, _, 0, _, _, .val h _, e => by simp at e; obtain ⟨rfl, rfl⟩ := e; exact ⟨_, rfl, h⟩
  | _, _, 0, _, _, .io h c _, e => by simp at e; obtain ⟨rfl, rfl⟩ := e; exact ⟨_, rfl, _, rfl, h, c, List.mem_cons_self⟩
  | _, _, i + 1, b, d, .val h r, e => by
    obtain ⟨v, e1, e2⟩ := ArgsIs.get (i := i) (b := b) (d := d) r (by simpa using e)
    refine ⟨v, by simpa using e1, ?_⟩
    cases b with
    | false => exact e2
    | true => obtain ⟨a, q1, q2, q3, q4⟩ := e2; exact ⟨a, q1, q2, q3, q4⟩
  | _, _, i + 1, b, d, .io h c r, e => by
    obtain ⟨v, e1, e2⟩ := ArgsIs.get (i := i) (b := b) (d := d) r (by simpa using e)
    refine ⟨v, by simpa using e1, ?_⟩
    cases b with
    | false => exact e2
    | true => obtain ⟨a, q1, q2, q3, q4⟩ := e2; exact ⟨a, q1, q2, q3, List.mem_cons_of_mem _ q4⟩
theorem ArgsIs.inj : ∀ {as : List (Bool × D)} {vs : List V} {i j : Nat} {d e : D} {a : Addr}, ArgsIs K G H as vs → (ioA as vs).Nodup → as[i]? = some (true, d) → as[j]? = some (true, e) → vs[i]? = some (.ref a) → vs[j]? = some (.ref a) → i = j
  | _, _, _, _, _, _, _, .nil, _, h, _, _, _ => by simp at h
  | _, _, 0, 0, _, _, _, _, _, _, _, _, _ => rfl
  | _, _, i + 1, j + 1, _, _, _, .val _ r, nd, h1, h2, h3, h4 => congrArg (· + 1) (ArgsIs.inj r nd (by simpa using h1) (by simpa using h2) (by simpa using h3) (by simpa using h4))
  | _, _, i + 1, j + 1, _, _, _, .io _ _ r, nd, h1, h2, h3, h4 => congrArg (· + 1) (ArgsIs.inj r (List.nodup_cons.mp nd).2 (by simpa using h1) (by simpa using h2) (by simpa using h3) (by simpa using h4))
  | _, _, 0, j + 1, _, _, _, .val _ r, nd, h1, h2, h3, h4 => by simp at h1
  | _, _, 0, j + 1, _, _, a, .io _ _ r, nd, h1, h2, h3, h4 => by
    simp at h3
    obtain ⟨v, e1, a', e2, _, _, e3⟩ := ArgsIs.get (i := j) r (by simpa using h2)
    have z : some v = some (V.ref a) := e1.symm.trans (by simpa using h4)
    cases z
    cases e2
    rw [← h3] at e3
    exact absurd e3 (List.nodup_cons.mp nd).1
  | _, _, i + 1, 0, _, _, _, .val _ r, nd, h1, h2, h3, h4 => by simp at h2
  | _, _, i + 1, 0, _, _, a, .io _ _ r, nd, h1, h2, h3, h4 => by
    simp at h4
    obtain ⟨v, e1, a', e2, _, _, e3⟩ := ArgsIs.get (i := i) r (by simpa using h1)
    have z : some v = some (V.ref a) := e1.symm.trans (by simpa using h3)
    cases z
    cases e2
    rw [← h4] at e3
    exact absurd e3 (List.nodup_cons.mp nd).1
theorem startC_get {as : List (Bool × D)} {i : Nat} {c : Cell} {n : Nat} (h : (startE n as)[i]? = some (some c)) : ∃ b d, as[i]? = some (b, d) ∧ c = if b then .mu true d else .val d := by
  unfold startE startC at h
  by_cases hi : i < as.length
  · rw [List.getElem?_append_left (by rw [List.length_map]; exact hi), List.getElem?_map] at h
    cases e : as[i]? with
    | none => rw [e] at h; cases h
    | some p =>
      rw [e] at h
      obtain ⟨b, d⟩ := p
      exact ⟨b, d, rfl, (Option.some.inj (Option.some.inj h)).symm⟩
  · rw [List.getElem?_append_right (by rw [List.length_map]; omega), List.getElem?_replicate] at h
    split at h <;> cases h
theorem start_get {N : List Str} {vs : List V} {i : Nat} {v : V} (h : vs[i]? = some v) : (L2.start N vs)[i]? = some (some v) := by
  unfold L2.start
  have hi : i < vs.length := (List.getElem?_eq_some_iff.mp h).1
  rw [List.getElem?_append_left (by rw [List.length_map]; exact hi), List.getElem?_map, h]
  rfl
theorem Rep.start {N : List Str} {as : List (Bool × D)} {vs : List V} (eS : Evl.Ex G H) (tb : TabK K G H) (ha : ArgsIs K G H as vs) (nd : (ioA as vs).Nodup) : Rep K G H (startE N.length as) (L2.start N vs) where
  sub := eS
  len := by
    unfold startE startC L2.start
    rw [List.length_append, List.length_append, List.length_map, List.length_map, List.length_replicate, List.length_replicate, ha.length]
  vl := fun i d e => by
    obtain ⟨b, d', e1, e2⟩ := startC_get e
    cases b with
    | true => cases e2
    | false =>
      cases e2
      obtain ⟨v, e3, e4⟩ := ha.get e1
      exact ⟨v, start_get e3, e4⟩
  mu := fun i b d e => by
    obtain ⟨b', d', e1, e2⟩ := startC_get e
    cases b' with
    | false => cases e2
    | true =>
      cases e2
      obtain ⟨v, e3, a, rfl, e5, e6, e7⟩ := ha.get e1
      exact ⟨a, start_get e3, e5, e6⟩
  ap := fun i j b c d e a q1 q2 q3 q4 => by
    obtain ⟨b1, d1, e1, f1⟩ := startC_get q1
    obtain ⟨b2, d2, e2, f2⟩ := startC_get q2
    cases b1 with
    | false => cases f1
    | true =>
      cases b2 with
      | false => cases f2
      | true =>
        obtain ⟨v1, g1, _⟩ := ha.get e1
        obtain ⟨v2, g2, _⟩ := ha.get e2
        rw [start_get g1] at q3; cases q3
        rw [start_get g2] at q4; cases q4
        exact ha.inj nd e1 e2 g1 g2
  tb := tb
theorem mu_start {N : List Str} {as : List (Bool × D)} {vs : List V} {b : Bool} {a : Addr} (ha : ArgsIs K G H as vs) (m : Mu b (startE N.length as) (L2.start N vs) a) : b = true ∧ a ∈ ioA as vs := by
  obtain ⟨i, d, e1, e2⟩ := m
  obtain ⟨b', d', e3, e4⟩ := startC_get e1
  cases b' with
  | false => cases e4
  | true =>
    cases e4
    obtain ⟨v, e5, a', rfl, _, _, e6⟩ := ha.get e3
    rw [start_get e5] at e2
    cases e2
    exact ⟨rfl, e6⟩
theorem outs_is {ρ' : DEnv} {σ' : Sl} (R' : Rep K G' H' ρ' σ') : ∀ {as : List (Bool × D)} {vs : List V} {i : Nat} {l : List D}, ArgsIs K G H as vs → (∀ j a, as[j]? ≠ none → vs[j]? = some (.ref a) → (∃ d, as[j]? = some (true, d)) → σ'[i + j]? = some (some (.ref a))) → outs ρ' i as = some l → OutsIs K G' H' as vs l
  | _, _, _, l, .nil, _, e => by cases e; exact .nil
  | (false, d) :: as, _, i, l, .val h r, hs, e => .val (outs_is R' (i := i + 1) r (fun j a q1 q2 q3 => by have z := hs (j + 1) a (by simpa using q1) (by simpa using q2) (by simpa using q3); rw [← z]; congr 1; omega) e)
  | (true, d) :: as, .ref a :: vs, i, l, .io h c r, hs, e => by
    unfold outs at e
    split at e
    · rename_i d' e1
      split at e
      · rename_i l' e2
        cases e
        obtain ⟨a', q1, q2, q3⟩ := R'.mu i true d' e1
        have z := hs 0 a (by simp) (by simp) ⟨d, by simp⟩
        rw [show i + 0 = i from rfl, q1] at z
        cases z
        exact .io q3 (outs_is R' (i := i + 1) r (fun j a q1 q2 q3 => by have z := hs (j + 1) a (by simpa using q1) (by simpa using q2) (by simpa using q3); rw [← z]; congr 1; omega) e2)
      · cases e
    · cases e
end
section
variable {P : Program} {w : World} {K : PySem.W.Frag} {mg : Str → Option Value} {base : Heap}
theorem fn_D {x qual : Str} {st : Stmt} {f : Addr} {fd : FuncData} {N ps : List Str} {k : Nat} {F : Fn} (Fu : Fun K x qual st f fd) (S : FnScope N ps (defScope st)) (B : Nat → DEnv → SR)
    (hB : ∀ (n : Nat) (cdv : Value) (A : Around) (outer : List Env) (s : Shared) (H : Hp) (E : XK), RoomG k (A.deeper (envOfC qual (defScope st) s.heap.objs.size f cdv)) gq →
      DSs (cxOf (L2.CX P w) P w K mg base N qual (defScope st) f cdv A outer s H E) (fun cls d _ H => E cls d H) (defBody st) (B n))
    (hF : ∀ as, as.length = ps.length → F as ≠ .no → ∃ n, fnRes as (B n (startE N.length as)) = F as) : FnG P w K mg base (L2.CX P w) (k + 1) f fd ps (spD K ps.length F) gq := by
  refine fn_G Fu S (fun vs H Q E h => h.1) fun cdv A outer s H vs Q E hr ⟨hl, G, as, eS, tb, ha, nd, hm⟩ => ?_
  have hne : F as ≠ .no := fun z => by rw [z] at hm; exact hm
  obtain ⟨n, hn⟩ := hF as (ha.length.trans hl) hne
  refine ⟨_, hB n cdv A outer s H E hr, startE N.length as, G, Rep.start eS tb ha nd, ?_⟩
  rw [← hn] at hm
  have fst : ∀ {ρ' : DEnv} {σ' : Sl} {G' H' : Hp}, Stp (startE N.length as) (L2.start N vs) G H ρ' σ' G' H' → Rep K G' H' ρ' σ' → FStp K (ioA as vs) G H G' H' := fun {ρ' σ' G' H'} s R' =>
    ⟨s.g, fun b o n1 q nt => s.h b o (fun m => absurd (mu_start ha m).1 (by decide)) (fun m => n1 (mu_start ha m).2) q nt, s.t, fun b q1 q2 => (s.n b q1 q2).elim id fun m => absurd (mu_start ha m).1 (by decide), R'.sub, R'.tb, s.gr⟩
  have out : ∀ {ρ' : DEnv} {σ' : Sl} {G' H' : Hp} {l : List D}, Stp (startE N.length as) (L2.start N vs) G H ρ' σ' G' H' → Rep K G' H' ρ' σ' → outs ρ' 0 as = some l → OutsIs K G' H' as vs l := fun {ρ' σ' G' H' l} s R' e =>
    outs_is R' ha (fun j a q1 q2 ⟨d, q3⟩ => by
      have hs : (startE N.length as)[j]? = some (some (.mu true d)) := by
        unfold startE startC
        have hj : j < as.length := (List.getElem?_eq_some_iff.mp q3).1
        rw [List.getElem?_append_left (by rw [List.length_map]; exact hj), List.getElem?_map, q3]
        rfl
      obtain ⟨d', _, z⟩ := (s.io j).1 d hs
      rw [Nat.zero_add, z]
      exact start_get q2) e
  cases hr : B n (startE N.length as) with
  | no => rw [hr] at hm; exact hm
  | brk _ => rw [hr] at hm; exact (show False from hm).elim
  | cnt _ => rw [hr] at hm; exact (show False from hm).elim
  | nx ρ' =>
    rw [hr] at hm
    unfold fnRes at hm
    dsimp only at hm
    cases eo : outs ρ' 0 as with
    | none => rw [eo] at hm; exact False.elim hm
    | some l =>
      rw [eo] at hm
      exact fun σ' G' H' s R' => hm .non G' H' (fst s R') (out s R' eo) .non
  | ret ρ' fr d =>
    rw [hr] at hm
    unfold fnRes at hm
    dsimp only at hm
    cases eo : outs ρ' 0 as with
    | none => rw [eo] at hm; exact False.elim hm
    | some l =>
      rw [eo] at hm
      refine fun v σ' G' H' s R' q => hm v G' H' (fst s R') (out s R' eo) ?_
      cases fr with
      | false => exact q
      | true =>
        obtain ⟨a, q1, q2, q3, q4⟩ := q
        exact ⟨a, q1, q2, q3.elim (fun m => (s.ow a m).elim (fun m => absurd (mu_start ha m).1 (by decide)) id) id, q4⟩
  | ex ρ' e =>
    rw [hr] at hm
    unfold fnRes at hm
    dsimp only at hm
    cases eo : outs ρ' 0 as with
    | none => rw [eo] at hm; exact False.elim hm
    | some l =>
      rw [eo] at hm
      exact fun d σ' G' H' s R' q => hm d G' H' (fst s R') (out s R' eo) q
end

inductive AD where
  | v (d : D)
  | io (i : Nat)
inductive ArI (K : PySem.W.Frag) (σ : Sl) (G : Hp) : List AD → List V → Prop
  | nil : ArI K σ G [] []
  | val {d : D} {v : V} {l : List AD} {vs : List V} : Is K G d v → ArI K σ G l vs → ArI K σ G (.v d :: l) (v :: vs)
  | io {i : Nat} {v : V} {l : List AD} {vs : List V} : σ[i]? = some (some v) → ArI K σ G l vs → ArI K σ G (.io i :: l) (v :: vs)
theorem ArI.mono {K : PySem.W.Frag} {σ : Sl} {G G' : Hp} (e : Evl.Ex G G') : ∀ {l : List AD} {vs : List V}, ArI K σ G l vs → ArI K σ G' l vs
  | _, _, .nil => .nil
  | _, _, .val h r => .val (h.mono e) (ArI.mono e r)
  | _, _, .io h r => .io h (ArI.mono e r)
noncomputable def tAr (K : PySem.W.Frag) (W : WX) (f : DEnv → R (List AD)) : TA := fun σ H Q => ∃ ρ G, Rep K G H ρ σ ∧ Go K W σ ρ G H (fun l _ G' H' => ∀ vs, ArI K σ G' l vs → Q vs H') (f ρ)
noncomputable abbrev DR (X : Cx) (W : WX) (es : List Expr) (f : DEnv → R (List AD)) : Prop := PA X es (tAr X.K W f)
noncomputable def rNil : DEnv → R (List AD) := fun ρ => .ok ρ []
noncomputable def rVal (f : DEnv → R D) (g : DEnv → R (List AD)) : DEnv → R (List AD) := fun ρ => (f ρ).bind fun d ρ1 => (g ρ1).bind fun l ρ2 => .ok ρ2 (.v d :: l)
noncomputable def isMu (ρ : DEnv) (i : Nat) : Bool := match ρ[i]? with
  | some (some (.mu _ _)) => true
  | _ => false
noncomputable def rIo (i : Nat) (g : DEnv → R (List AD)) : DEnv → R (List AD) := fun ρ => if isMu ρ i = true then (g ρ).bind fun l ρ2 => .ok ρ2 (.io i :: l) else .no
section
variable {X : Cx} {W : WX} {e : Expr} {es : List Expr}
theorem dr_nil : DR X W [] rNil := pa_imp pa_nil fun σ H Q ⟨ρ, G, R, h⟩ => h G H .refl R [] .nil
theorem dr_val {f : DEnv → R D} {g : DEnv → R (List AD)} (h1 : DE X W e f) (h2 : DR X W es g) (hs : starEach (e :: es) X.env = (false, eval e X.env) :: starEach es X.env := by rfl) : DR X W (e :: es) (rVal f g) :=
  pa_imp (pa_cons h1 h2 hs) fun σ H Q ⟨ρ, G, R, h⟩ => ⟨ρ, G, R, (Go.bind R h).imp fun t ρ1 G1 H1 s1 R1 h1 v hv =>
    ⟨ρ1, G1, R1, (Go.bind R1 h1).imp fun l ρ2 G2 H2 s2 R2 h2 vs hvs => h2 G2 H2 .refl R2 (v :: vs) (.val (hv.mono s2.g) hvs)⟩⟩
theorem dr_io {i : Nat} {g : DEnv → R (List AD)} (h1 : PE X e (tVar i)) (h2 : DR X W es g) (hs : starEach (e :: es) X.env = (false, eval e X.env) :: starEach es X.env := by rfl) : DR X W (e :: es) (rIo i g) :=
  pa_imp (pa_cons h1 h2 hs) fun σ H Q ⟨ρ, G, R, h⟩ => by
    unfold rIo at h
    split at h
    · rename_i hm
      unfold isMu at hm
      split at hm
      · rename_i b d e1
        obtain ⟨a, e2, _⟩ := R.mu i b d e1
        exact ⟨_, e2, ρ, G, R, (Go.bind R h).imp fun l ρ2 G2 H2 s2 R2 h2 vs hvs => h2 G2 H2 .refl R2 (.ref a :: vs) (.io e2 hvs)⟩
      · cases hm
    · exact False.elim h
end
noncomputable def argsD (ρ : DEnv) : List AD → Option (List (Bool × D))
  | [] => some []
  | .v d :: l => match argsD ρ l with
    | some r => some ((false, d) :: r)
    | none => none
  | .io i :: l => match ρ[i]? with
    | some (some (.mu _ d)) => match argsD ρ l with
      | some r => some ((true, d) :: r)
      | none => none
    | _ => none
noncomputable def ioIx : List AD → List Nat
  | [] => []
  | .v _ :: l => ioIx l
  | .io i :: l => i :: ioIx l
noncomputable def putD (ρ : DEnv) : List AD → List D → Option DEnv
  | [], [] => some ρ
  | .v _ :: l, os => putD ρ l os
  | .io i :: l, d :: os => match ρ[i]? with
    | some (some (.mu b _)) => putD (ρ.set i (some (.mu b d))) l os
    | _ => none
  | _, _ => none
section
variable {K : PySem.W.Frag} {σ : Sl} {ρ ρ2 : DEnv} {G H G' H' : Hp}
theorem argsD_is (R : Rep K G H ρ σ) : ∀ {l : List AD} {vs : List V} {as : List (Bool × D)}, ArI K σ G l vs → argsD ρ l = some as → ArgsIs K G H as vs
  | _, _, as, .nil, e => by cases e; exact .nil
  | .v d :: l, _, as, .val h r, e => by
    unfold argsD at e
    split at e
    · rename_i r' e1; cases e; exact .val h (argsD_is R r e1)
    · cases e
  | .io i :: l, _, as, .io h r, e => by
    unfold argsD at e
    split at e
    · rename_i b d e1
      split at e
      · rename_i r' e2
        cases e
        obtain ⟨a, q1, q2, q3⟩ := R.mu i b d e1
        rw [h] at q1; cases q1
        exact .io q2 q3 (argsD_is R r e2)
      · cases e
    · cases e
theorem ioA_mem (R : Rep K G H ρ σ) : ∀ {l : List AD} {vs : List V} {as : List (Bool × D)} {a : Addr}, ArI K σ G l vs → argsD ρ l = some as → (a ∈ ioA as vs ↔ ∃ i ∈ ioIx l, σ[i]? = some (some (.ref a)))
  | _, _, as, a, .nil, e => by cases e; simp [ioA, ioIx]
  | .v d :: l, _, as, a, .val h r, e => by
    unfold argsD at e
    split at e
    · rename_i r' e1; cases e; have ih := ioA_mem (a := a) R r e1; exact ih
    · cases e
  | .io i :: l, _, as, a, .io h r, e => by
    unfold argsD at e
    split at e
    · rename_i b d e1
      split at e
      · rename_i r' e2
        cases e
        obtain ⟨a', q1, q2, q3⟩ := R.mu i b d e1
        rw [h] at q1; cases q1
        have ih := ioA_mem R (a := a) r e2
        unfold ioA ioIx
        rw [List.mem_cons, ih]
        constructor
        · rintro (rfl | ⟨j, q, z⟩)
          · exact ⟨i, List.mem_cons_self, h⟩
          · exact ⟨j, List.mem_cons_of_mem _ q, z⟩
        · rintro ⟨j, q, z⟩
          rcases List.mem_cons.mp q with rfl | q
          · rw [h] at z; cases z; exact .inl rfl
          · exact .inr ⟨j, q, z⟩
      · cases e
    · cases e
theorem ioA_nodup (R : Rep K G H ρ σ) : ∀ {l : List AD} {vs : List V} {as : List (Bool × D)}, ArI K σ G l vs → argsD ρ l = some as → (ioIx l).Nodup → (ioA as vs).Nodup
  | _, _, as, .nil, e, _ => by cases e; exact List.nodup_nil
  | .v d :: l, _, as, .val h r, e, nd => by
    unfold argsD at e
    split at e
    · rename_i r' e1; cases e; have ih := ioA_nodup R r e1 nd; exact ih
    · cases e
  | .io i :: l, _, as, .io h r, e, nd => by
    unfold argsD at e
    split at e
    · rename_i b d e1
      split at e
      · rename_i r' e2
        cases e
        obtain ⟨a', q1, q2, q3⟩ := R.mu i b d e1
        rw [h] at q1; cases q1
        refine List.nodup_cons.mpr ⟨fun m => ?_, ioA_nodup R r e2 (List.nodup_cons.mp nd).2⟩
        obtain ⟨j, q, z⟩ := (ioA_mem R r e2).mp m
        have mj : ∃ b' d', ρ[j]? = some (some (.mu b' d')) := by
          have key : ∀ {l : List AD} {as : List (Bool × D)}, argsD ρ l = some as → j ∈ ioIx l → ∃ b' d', ρ[j]? = some (some (.mu b' d')) := by
            intro l
            induction l with
            | nil => intro as _ m; simp [ioIx] at m
            | cons y l ih =>
              intro as e m
              cases y with
              | v d =>
                unfold argsD at e
                split at e
                · rename_i r' e1; exact ih e1 m
                · cases e
              | io k =>
                unfold argsD at e
                split at e
                · rename_i b d e1
                  split at e
                  · rename_i r' e2
                    rcases List.mem_cons.mp (show j ∈ k :: ioIx l from m) with rfl | m
                    · exact ⟨b, d, e1⟩
                    · exact ih e2 m
                  · cases e
                · cases e
          exact key e2 q
        obtain ⟨b', d', ej⟩ := mj
        have ij : i = j := R.ap i j b b' d d' _ e1 ej h z
        subst ij
        exact (List.nodup_cons.mp nd).1 q
      · cases e
    · cases e
noncomputable def Chg (K : PySem.W.Frag) (σ : Sl) (G' H' : Hp) (L : List Nat) (ρ ρ2 : DEnv) (j : Nat) : Prop :=
  (j ∈ L ∧ ∃ b d d' a, ρ[j]? = some (some (.mu b d)) ∧ ρ2[j]? = some (some (.mu b d')) ∧ σ[j]? = some (some (.ref a)) ∧ Cont K G' H' a d') ∨ (j ∉ L ∧ ρ2[j]? = ρ[j]?)
theorem putD_chg : ∀ {l : List AD} {vs : List V} {as : List (Bool × D)} {os : List D} {ρ ρ1 ρ2 : DEnv}, ArI K σ G l vs → argsD ρ1 l = some as → OutsIs K G' H' as vs os → (ioIx l).Nodup → putD ρ l os = some ρ2 → ρ2.length = ρ.length ∧ ∀ j, Chg K σ G' H' (ioIx l) ρ ρ2 j
  | _, _, as, os, ρ, ρ1, ρ2, .nil, e, o, nd, p => by
    cases e
    cases o
    cases p
    exact ⟨rfl, fun j => .inr ⟨by simp [ioIx], rfl⟩⟩
  | .v d :: l, _, as, os, ρ, ρ1, ρ2, .val h r, e, o, nd, p => by
    unfold argsD at e
    split at e
    · rename_i r' e1
      cases e
      cases o with
      | val o =>
        unfold putD at p
        have ih := putD_chg r e1 o nd p
        exact ih
    · cases e
  | .io i :: l, _, as, os, ρ, ρ1, ρ2, .io h r, e, o, nd, p => by
    unfold argsD at e
    split at e
    · rename_i b1 d1 e1
      split at e
      · rename_i r' e2
        cases e
        cases o with
        | @io d0 d' a as vs os c o =>
          unfold putD at p
          split at p
          · rename_i b d e3
            obtain ⟨hl, hc⟩ := putD_chg r e2 o (List.nodup_cons.mp nd).2 p
            have hi : i < ρ.length := (List.getElem?_eq_some_iff.mp e3).1
            refine ⟨by rw [hl, List.length_set], fun j => ?_⟩
            rcases hc j with ⟨m, b', d2, d3, a2, q1, q2, q3, q4⟩ | ⟨m, q⟩
            · have n : i ≠ j := fun z => by subst z; exact (List.nodup_cons.mp nd).1 m
              rw [List.getElem?_set_ne n] at q1
              exact .inl ⟨List.mem_cons_of_mem _ m, b', d2, d3, a2, q1, q2, q3, q4⟩
            · by_cases z : i = j
              · subst z
                rw [List.getElem?_set_self hi] at q
                exact .inl ⟨List.mem_cons_self, b, d, d', a, e3, q, h, c⟩
              · rw [List.getElem?_set_ne z] at q
                exact .inr ⟨fun y => (List.mem_cons.mp y).elim (fun y => z y.symm) m, q⟩
          · cases p
      · cases e
    · cases e
theorem after_call {l : List AD} {vs : List V} {as : List (Bool × D)} {os : List D} (R : Rep K G H ρ σ) (ha : ArI K σ G l vs) (e : argsD ρ l = some as) (nd : (ioIx l).Nodup) (p : putD ρ l os = some ρ2) (s : FStp K (ioA as vs) G H G' H') (o : OutsIs K G' H' as vs os) :
    Stp ρ σ G H ρ2 σ G' H' ∧ Rep K G' H' ρ2 σ := by
  obtain ⟨hl, hc⟩ := putD_chg ha e o nd p
  have back : ∀ (j : Nat) (b : Bool) (d : D), ρ2[j]? = some (some (.mu b d)) → ∃ d', ρ[j]? = some (some (.mu b d')) := fun j b d q => by
    rcases hc j with ⟨m, b', d2, d3, a2, q1, q2, q3, q4⟩ | ⟨m, z⟩
    · rw [q] at q2; cases q2; exact ⟨d2, q1⟩
    · exact ⟨d, z ▸ q⟩
  have isM : ∀ a, a ∈ ioA as vs → Mu false ρ σ a ∨ Mu true ρ σ a := fun a m => by
    obtain ⟨i, q, z⟩ := (ioA_mem R ha e).mp m
    rcases hc i with ⟨_, b, d2, d3, a2, q1, q2, q3, q4⟩ | ⟨n, _⟩
    · cases b with
      | false => exact .inl ⟨i, d2, q1, z⟩
      | true => exact .inr ⟨i, d2, q1, z⟩
    · exact absurd q n
  refine ⟨⟨s.g, fun b ob n1 n2 q nt => s.h b ob (fun m => (isM b m).elim n1 n2) q nt, s.t, fun b q1 q2 => .inl (s.n b q1 q2), fun b ⟨j, d, q1, q2⟩ => ?_, fun j => ⟨fun d q => ?_, fun d q => back j true d q⟩, s.gr⟩, ⟨s.s, by rw [hl]; exact R.len, fun j d q => ?_, fun j b d q => ?_, fun j k b c d1 d2 a q1 q2 q3 q4 => ?_, s.tb⟩⟩
  · obtain ⟨d', z⟩ := back j false d q1
    exact .inl ⟨j, d', z, q2⟩
  · rcases hc j with ⟨m, b', d2, d3, a2, q1, q2, q3, q4⟩ | ⟨m, z⟩
    · rw [q] at q1; cases q1; exact ⟨d3, q2, rfl⟩
    · exact ⟨d, z.trans q, rfl⟩
  · rcases hc j with ⟨m, b', d2, d3, a2, q1, q2, q3, q4⟩ | ⟨m, z⟩
    · rw [q] at q2; cases q2
    · obtain ⟨v, y1, y2⟩ := R.vl j d (z ▸ q)
      exact ⟨v, y1, y2.mono s.g⟩
  · rcases hc j with ⟨m, b', d2, d3, a2, q1, q2, q3, q4⟩ | ⟨m, z⟩
    · rw [q] at q2; cases q2
      obtain ⟨a, y1, y2, y3⟩ := R.mu j _ _ q1
      rw [q3] at y1; cases y1
      refine ⟨_, q3, ?_, q4⟩
      cases hg : G' a2 with
      | none => rfl
      | some u =>
        have w := s.n _ y2 (by rw [hg]; exact fun z => by cases z)
        obtain ⟨ob, ho⟩ := y3.there
        rw [w] at ho; cases ho
    · obtain ⟨a, y1, y2, y3⟩ := R.mu j b d (z ▸ q)
      have na : a ∉ ioA as vs := fun m2 => by
        obtain ⟨i, q', z'⟩ := (ioA_mem R ha e).mp m2
        rcases hc i with ⟨_, b', d2, d3, a2, q1, q2, q3, q4⟩ | ⟨n, _⟩
        · have ij := R.ap i j b' b d2 d a q1 (z ▸ q) z' y1
          subst ij
          exact m q'
        · exact absurd q' n
      refine ⟨a, y1, ?_, y3.mono s.g fun ob q => s.h a ob na q (y3.pln ob q).1⟩
      cases hg : G' a with
      | none => rfl
      | some u =>
        have w := s.n _ y2 (by rw [hg]; exact fun z => by cases z)
        obtain ⟨ob, ho⟩ := y3.there
        rw [w] at ho; cases ho
  · obtain ⟨x', z1⟩ := back j b d1 q1
    obtain ⟨y', z2⟩ := back k c d2 q2
    exact R.ap j k b c x' y' a z1 z2 q3 q4
end
noncomputable def dCal2 (ar : Nat) (F : Fn) (f : DEnv → R (List AD)) : DEnv → R (Bool × D) := fun ρ => (f ρ).bind fun l ρ1 => if l.length = ar then match argsD ρ1 l with
  | none => .no
  | some as => if (ioIx l).Nodup then match F as with
    | .no => .no
    | .ret fr d os => match putD ρ1 l os with
      | none => .no
      | some ρ2 => .ok ρ2 (fr, d)
    | .exc e os => match putD ρ1 l os with
      | none => .no
      | some ρ2 => .ex ρ2 e
    else .no
  else .no
noncomputable def XIs (K : PySem.W.Frag) (σ : Sl) (ρ' : DEnv) (G' H' H : Hp) (p : Bool × D) (v : V) : Prop := match p.1 with
  | false => Is K G' p.2 v
  | true => ∃ a, v = .ref a ∧ G' a = none ∧ ¬ Mu false ρ' σ a ∧ ¬ Mu true ρ' σ a ∧ H a = none ∧ Cont K G' H' a p.2
noncomputable def tX (K : PySem.W.Frag) (W : WX) (f : DEnv → R (Bool × D)) : TE := fun σ H Q => ∃ ρ G, Rep K G H ρ σ ∧ Go K W σ ρ G H (fun p ρ' G' H' => ∀ v, XIs K σ ρ' G' H' H p v → Q v H') (f ρ)
theorem ArI.length {K : PySem.W.Frag} {σ : Sl} {G : Hp} : ∀ {l : List AD} {vs : List V}, ArI K σ G l vs → l.length = vs.length
  | _, _, .nil => rfl
  | _, _, .val _ r => congrArg (· + 1) (ArI.length r)
  | _, _, .io _ r => congrArg (· + 1) (ArI.length r)
theorem tcall {K : PySem.W.Frag} {W : WX} {ar : Nat} {F : Fn} {f : DEnv → R (List AD)} : ∀ σ H Q, tX K W (dCal2 ar F f) σ H Q → tCallSD (spD K ar F) [] (fun σ cls d H => W cls d σ H) (tAr K W f) σ H Q := fun σ H Q ⟨ρ, G, R, h⟩ =>
  ⟨ρ, G, R, (Go.bind R h).imp fun l ρ1 G1 H1 s1 R1 h1 vs hv => by
    show spD K ar F (vs ++ []) H1 Q (fun cls d H => W cls d σ H)
    rw [List.append_nil]
    split at h1
    · rename_i hl
      split at h1
      · exact False.elim h1
      · rename_i as ea
        split at h1
        · rename_i nd
          refine ⟨hv.length.symm.trans hl, G1, as, R1.sub, R1.tb, argsD_is R1 hv ea, ioA_nodup R1 hv ea nd, ?_⟩
          split at h1
          · exact False.elim h1
          · rename_i fr d os eF
            try rw [eF]
            split at h1
            · exact False.elim h1
            · rename_i ρ2 ep
              intro v G' H' fs ho hr
              obtain ⟨s2, R2⟩ := after_call R1 hv ea nd ep fs ho
              refine h1 G' H' s2 R2 v ?_
              cases fr with
              | false => exact hr
              | true =>
                obtain ⟨a, rfl, q1, q2, q3⟩ := hr
                have no : ∀ b, ¬ Mu b ρ2 σ a := fun b ⟨j, d', z1, z2⟩ => by
                  have key : ∃ o, H1 a = some o := by
                    cases b with
                    | false =>
                      rcases s2.ow a ⟨j, d', z1, z2⟩ with ⟨j', d'', y1, y2⟩ | y
                      · obtain ⟨a', y3, _, y4⟩ := R1.mu j' _ _ y1
                        rw [y2] at y3; cases y3
                        exact y4.there
                      · obtain ⟨a', y3, y5, y4⟩ := R2.mu j _ _ z1
                        rw [z2] at y3; cases y3
                        obtain ⟨d3, y6⟩ : ∃ d3, ρ1[j]? = some (some (.mu false d3)) := by
                          obtain ⟨_, hc⟩ := putD_chg hv ea ho nd ep
                          rcases hc j with ⟨_, b', d2, d3, a2, w1, w2, w3, w4⟩ | ⟨_, w⟩
                          · rw [z1] at w2; cases w2; exact ⟨d2, w1⟩
                          · exact ⟨d', w ▸ z1⟩
                        obtain ⟨a', y7, _, y8⟩ := R1.mu j _ _ y6
                        rw [z2] at y7; cases y7
                        exact y8.there
                    | true =>
                      obtain ⟨d3, y6⟩ := (s2.io j).2 d' z1
                      obtain ⟨a', y7, _, y8⟩ := R1.mu j _ _ y6
                      rw [z2] at y7; cases y7
                      exact y8.there
                  obtain ⟨o, ho⟩ := key
                  rw [q2] at ho; cases ho
                exact ⟨a, rfl, q1, no false, no true, s1.t a q2, q3⟩
          · rename_i e os eF
            try rw [eF]
            split at h1
            · exact False.elim h1
            · rename_i ρ2 ep
              intro dd G' H' fs ho hr
              obtain ⟨s2, R2⟩ := after_call R1 hv ea nd ep fs ho
              exact h1 G' H' dd s2 R2 hr
        · exact False.elim h1
    · exact False.elim h1⟩
noncomputable abbrev DX (X : Cx) (W : WX) (e : Expr) (f : DEnv → R (Bool × D)) : Prop := PE X e (tX X.K W f)
noncomputable def dV (f : DEnv → R (Bool × D)) : DEnv → R D := fun ρ => (f ρ).bind fun p ρ' => .ok ρ' p.2
noncomputable def dN (f : DEnv → R (Bool × D)) : DEnv → R D := fun ρ => (f ρ).bind fun p ρ' => match p with
  | (true, d) => .ok ρ' d
  | (false, _) => .no
section
variable {X : Cx} {W : WX} {e : Expr} {es : List Expr}
theorem dx_de {f : DEnv → R (Bool × D)} (h : DX X W e f) : DE X W e (dV f) := ⟨fun pins s σ H Q I ⟨ρ, G, R, hg⟩ => by
  cases e1 : f ρ with
  | no =>
    have h2 : dV f ρ = .no := by unfold dV; rw [e1]; rfl
    rw [h2] at hg; exact False.elim hg
  | ex ρ' ee =>
    have h2 : dV f ρ = .ex ρ' ee := by unfold dV; rw [e1]; rfl
    rw [h2] at hg
    exact h.run pins s σ H Q I ⟨ρ, G, R, by rw [e1]; exact hg⟩
  | ok ρ' p =>
    have h2 : dV f ρ = .ok ρ' p.2 := by unfold dV; rw [e1]; rfl
    rw [h2] at hg
    obtain ⟨fr, d⟩ := p
    cases fr with
    | false => exact h.run pins s σ H Q I ⟨ρ, G, R, by rw [e1]; exact fun G' H' s R' v hx => hg G' H' s R' v hx⟩
    | true =>
      refine thn (h.run pins s σ H (fun x H1 => ∃ a G', x = .ref a ∧ Stp ρ σ G H ρ' σ G' H1 ∧ Rep X.K G' H1 ρ' σ ∧ G' a = none ∧ ¬ Mu false ρ' σ a ∧ ¬ Mu true ρ' σ a ∧ H a = none ∧ Cont X.K G' H1 a d) I ⟨ρ, G, R, ?_⟩) fun u s1 ⟨x, H1, I1, rx, a, G', ex, k1, k2, k3, k4, k5, k6, k7⟩ => ?_
      · rw [e1]
        intro G' H' s R' v hx
        obtain ⟨a, rfl, h0, h1, h2, hn, hc⟩ := hx
        exact ⟨a, G', rfl, s, R', h0, h1, h2, hn, hc⟩
      · obtain ⟨G2, H2, I2, s2, R2, hi⟩ := fresh_run I1 k1 k2 k3 k4 k5 k6 k7
        subst ex
        exact ⟨_, H2, I2, rx, hg G2 H2 s2 R2 _ hi⟩⟩
theorem dx_df {f : DEnv → R (Bool × D)} (h : DX X W e f) : DF' X W e (dN f) := pe_imp h fun σ H Q ⟨ρ, G, R, h⟩ => ⟨ρ, G, R, by
    cases e1 : f ρ with
    | no =>
      have h2 : dN f ρ = .no := by unfold dN; rw [e1]; rfl
      rw [h2] at h; exact h
    | ex ρ' ee =>
      have h2 : dN f ρ = .ex ρ' ee := by unfold dN; rw [e1]; rfl
      rw [h2] at h; exact h
    | ok ρ' p =>
      obtain ⟨fr, d⟩ := p
      cases fr with
      | false =>
        have h2 : dN f ρ = .no := by unfold dN; rw [e1]; rfl
        rw [h2] at h; exact False.elim h
      | true =>
        have h2 : dN f ρ = .ok ρ' d := by unfold dN; rw [e1]; rfl
        rw [h2] at h
        intro G' H' s R' v hx
        obtain ⟨a, rfl, q1, q2, q3, q4, q5⟩ := hx
        exact h G' H' s R' a q1 q2 q3 q4 q5⟩
variable {x : Str} {p pos : Pos} {k ar : Nat} {fa : Addr} {fd : FuncData} {ps : List Str} {F : Fn} {f : DEnv → R (List AD)}
theorem dx_call (FO : FnG X.prog X.w X.K X.mg X.base (L2.CX X.prog X.w) k fa fd ps (spD X.K ar F) gq) (hr : RoomG k X.A gq) (tk : Takes X W) (hg : Gl X x) (hm : X.mg x = some (.ref fa)) (hk : PySem.W.keepIn X.K (.ref fa) = true) (hb : Binds X.K fd ps [])
    (ha : DR X W (e :: es) f) (hdb : (x == ("__debug__" : Str)) = false := by decide) (he : starEach (e :: es) X.env = (false, eval e X.env) :: starEach es X.env := by rfl) (hpl : (backTo pos (starEach es X.env)).any (·.1) = false := by rfl) :
    DX X W (.Call (.Name x p) (e :: es) [] pos) (dCal2 ar F f) :=
  pe_imp (pe_G (E := fun σ cls d H => W cls d σ H) FO hr hg hm hk hb (fun σ => passAt tk σ) ha hdb he hpl) tcall
theorem dx_callN (FO : FnG X.prog X.w X.K X.mg X.base (L2.CX X.prog X.w) k fa fd ps (spD X.K ar F) gq) (hr : RoomG k X.A gq) (hg : Gl X x) (hm : X.mg x = some (.ref fa)) (hk : PySem.W.keepIn X.K (.ref fa) = true) (hb : Binds X.K fd ps [])
    (ha : DR X (fun _ _ _ _ => False) (e :: es) f) (hdb : (x == ("__debug__" : Str)) = false := by decide) (he : starEach (e :: es) X.env = (false, eval e X.env) :: starEach es X.env := by rfl) (hpl : (backTo pos (starEach es X.env)).any (·.1) = false := by rfl) :
    DX X (fun _ _ _ _ => False) (.Call (.Name x p) (e :: es) [] pos) (dCal2 ar F f) :=
  pe_imp (pe_G (E := fun _ => E0) FO hr hg hm hk hb (fun σ => fun pins H s e s1 I c => passL pins σ H s e s1 I c) ha hdb he hpl) fun σ H Q h => tcall (W := fun _ _ _ _ => False) σ H Q h
end
end DF

namespace DF
open PySem PySem.Spec PyProof.Rows L2
noncomputable def wipeE (ρ : DEnv) : List Nat → DEnv
  | [] => ρ
  | v :: vs => (wipeE ρ vs).set v none
theorem wipeE_length (ρ : DEnv) : ∀ vs : List Nat, (wipeE ρ vs).length = ρ.length
  | [] => rfl
  | v :: vs => by unfold wipeE; rw [List.length_set, wipeE_length ρ vs]
theorem wipeE_some {ρ : DEnv} {i : Nat} {x : Cell} : ∀ {vs : List Nat}, (wipeE ρ vs)[i]? = some (some x) → ρ[i]? = some (some x) ∧ i ∉ vs
  | [], h => ⟨h, by simp⟩
  | v :: vs, h => by
    unfold wipeE at h
    rcases set_get h with ⟨_, z⟩ | ⟨n, z⟩
    · cases z
    · obtain ⟨h1, h2⟩ := wipeE_some z
      exact ⟨h1, fun m => (List.mem_cons.mp m).elim (fun y => n y.symm) h2⟩
theorem wipeE_out {ρ : DEnv} {i : Nat} : ∀ {vs : List Nat}, i ∉ vs → (wipeE ρ vs)[i]? = ρ[i]?
  | [], _ => rfl
  | v :: vs, h => by
    unfold wipeE
    rw [List.getElem?_set_ne (fun z => h (by rw [z]; exact List.mem_cons_self))]
    exact wipeE_out fun z => h (List.mem_cons_of_mem _ z)
noncomputable def noMu (ρ : DEnv) (vs : List Nat) : Bool := vs.all fun i => match ρ[i]? with
  | some (some (.mu _ _)) => false
  | _ => true
theorem noMu_of {ρ : DEnv} {vs : List Nat} (h : noMu ρ vs = true) {i : Nat} (hi : i ∈ vs) {b : Bool} {d : D} : ρ[i]? ≠ some (some (.mu b d)) := fun z => by
  unfold noMu at h
  have q := List.all_eq_true.mp h i hi
  rw [z] at q
  cases q
section
variable {K : PySem.W.Frag} {ρ : DEnv} {σ σ2 : Sl} {G H : Hp} {vs : List Nat}
theorem Rep.wiped (R : Rep K G H ρ σ) (hl : σ2.length = σ.length) (hs : ∀ i, i ∉ vs → σ2[i]? = σ[i]?) : Rep K G H (wipeE ρ vs) σ2 where
  tb := R.tb
  sub := R.sub
  len := by rw [wipeE_length, hl]; exact R.len
  vl := fun i d e => by
    obtain ⟨e1, e2⟩ := wipeE_some e
    obtain ⟨v, e3, e4⟩ := R.vl i d e1
    exact ⟨v, (hs i e2).trans e3, e4⟩
  mu := fun i b d e => by
    obtain ⟨e1, e2⟩ := wipeE_some e
    obtain ⟨a, e3, e4⟩ := R.mu i b d e1
    exact ⟨a, (hs i e2).trans e3, e4⟩
  ap := fun i j b c d e a q1 q2 q3 q4 => by
    obtain ⟨e1, e2⟩ := wipeE_some q1
    obtain ⟨e3, e4⟩ := wipeE_some q2
    exact R.ap i j b c d e a e1 e3 ((hs i e2).symm.trans q3) ((hs j e4).symm.trans q4)
theorem Stp.wiped (R : Rep K G H ρ σ) (hn : noMu ρ vs = true) (hs : ∀ i, i ∉ vs → σ2[i]? = σ[i]?) : Stp ρ σ G H (wipeE ρ vs) σ2 G H :=
  ⟨fun _ _ e => e, fun _ _ _ _ e _ => e, fun _ e => e, fun _ e q => absurd e q, fun b ⟨i, d, e1, e2⟩ => by
    obtain ⟨e3, e4⟩ := wipeE_some e1
    exact .inl ⟨i, d, e3, (hs i e4).symm.trans e2⟩, fun i => ⟨fun d e => by
      have hi : i ∉ vs := fun m => noMu_of hn m e
      exact ⟨d, (wipeE_out hi).trans e, hs i hi⟩, fun d e => ⟨d, (wipeE_some e).1⟩⟩, .refl⟩
end
noncomputable def tYesB : DEnv → R Bool := fun ρ => .ok ρ true
noncomputable abbrev DTs (X : Cx) (W : WX) (ifs : List Expr) (f : DEnv → R Bool) : Prop := PTs X ifs (tT X.K W f)
theorem pts_imp {X : Cx} {es : List Expr} {t t' : TT} (h : PTs X es t) (i : ∀ σ H Q, t' σ H Q → t σ H Q) : PTs X es t' := ⟨fun pins s σ H Q I q => h.run pins s σ H Q I (i σ H Q q)⟩
theorem dts_nil {X : Cx} {W : WX} : DTs X W [] tYesB := pts_imp pts_nil fun σ H Q ⟨ρ, G, R, h⟩ => h G H .refl R
theorem dts_one {X : Cx} {W : WX} {c : Expr} {f : DEnv → R Bool} (h : DT X W c f) : DTs X W [c] f := pts_one h
noncomputable def R.bindN {α β : Type} (r : R α) (f : α → DEnv → R β) : R β := match r with
  | .ok ρ a => f a ρ
  | _ => .no
theorem R.bindN_ok {α β : Type} {ρ : DEnv} {a : α} {f : α → DEnv → R β} : (R.ok ρ a).bindN f = f a ρ := rfl
noncomputable def dLcGo (g : Tg) (t : DEnv → R Bool) (f : DEnv → R D) (vs : List Nat) : List D → List D → DEnv → R D
  | [], acc, ρ => .ok ρ (.lst acc)
  | d :: l, acc, ρ => match g d ρ with
    | none => .no
    | some ρ1 => (t ρ1).bindN fun b ρ2 => match b with
      | false => if noMu ρ2 vs = true then dLcGo g t f vs l acc (wipeE ρ2 vs) else .no
      | true => (f ρ2).bindN fun y ρ3 => if noMu ρ3 vs = true then (if acc.length < 16000000 then dLcGo g t f vs l (acc ++ [y]) (wipeE ρ3 vs) else .no) else .no
noncomputable def dLc (s : DEnv → R (List D)) (g : Tg) (t : DEnv → R Bool) (f : DEnv → R D) (vs : List Nat) : DEnv → R D := fun ρ => (s ρ).bind fun l ρ1 => if noMu ρ1 vs = true then dLcGo g t f vs l [] (wipeE ρ1 vs) else .no

theorem dLcGo_lst {g : Tg} {t : DEnv → R Bool} {f : DEnv → R D} {vs : List Nat} : ∀ (l acc : List D) (ρ ρ' : DEnv) (d : D), dLcGo g t f vs l acc ρ = .ok ρ' d → ∃ m, d = .lst m
  | [], acc, ρ, ρ', d, h => by unfold dLcGo at h; cases h; exact ⟨_, rfl⟩
  | x :: l, acc, ρ, ρ', d, h => by
    unfold dLcGo at h
    split at h
    · cases h
    · cases e1 : t ‹DEnv› with
      | no => rw [e1] at h; cases h
      | ex _ _ => rw [e1] at h; cases h
      | ok ρ2 b =>
        rw [e1] at h
        cases b with
        | false =>
          have h : (if noMu ρ2 vs = true then dLcGo g t f vs l acc (wipeE ρ2 vs) else .no) = .ok ρ' d := h
          split at h
          · exact dLcGo_lst _ _ _ _ _ h
          · cases h
        | true =>
          have h : ((f ρ2).bindN fun y ρ3 => if noMu ρ3 vs = true then (if acc.length < 16000000 then dLcGo g t f vs l (acc ++ [y]) (wipeE ρ3 vs) else .no) else .no) = .ok ρ' d := h
          cases e2 : f ρ2 with
          | no => rw [e2] at h; cases h
          | ex _ _ => rw [e2] at h; cases h
          | ok ρ3 y =>
            rw [e2] at h
            have h : (if noMu ρ3 vs = true then (if acc.length < 16000000 then dLcGo g t f vs l (acc ++ [y]) (wipeE ρ3 vs) else .no) else .no) = .ok ρ' d := h
            split at h
            · split at h
              · exact dLcGo_lst _ _ _ _ _ h
              · cases h
            · cases h
theorem dLc_lst {s : DEnv → R (List D)} {g : Tg} {t : DEnv → R Bool} {f : DEnv → R D} {vs : List Nat} : ∀ (ρ ρ' : DEnv) (d : D), dLc s g t f vs ρ = .ok ρ' d → ∃ m, d = .lst m := by
  intro ρ ρ' d h
  unfold dLc at h
  cases e1 : s ρ with
  | no => rw [e1] at h; cases h
  | ex _ _ => rw [e1] at h; cases h
  | ok ρ1 l =>
    rw [e1] at h
    have h : (if noMu ρ1 vs = true then dLcGo g t f vs l [] (wipeE ρ1 vs) else .no) = .ok ρ' d := h
    split at h
    · exact dLcGo_lst _ _ _ _ _ h
    · cases h
noncomputable def Clean (ρ : DEnv) (vs : List Nat) : Prop := ∀ i ∈ vs, ∀ c, ρ[i]? ≠ some (some c)
theorem clean_wipe {ρ : DEnv} {vs : List Nat} : Clean (wipeE ρ vs) vs := fun i hi c e => (wipeE_some e).2 hi
section
variable {K : PySem.W.Frag} {ρ ρ' : DEnv} {σ σ0 : Sl} {G H G' H' : Hp} {vs : List Nat}
theorem Rep.swap (R : Rep K G H ρ σ0) (hc : Clean ρ vs) (ag : Agr vs σ0 σ) : Rep K G H ρ σ where
  tb := R.tb
  sub := R.sub
  len := R.len.trans ag.1.symm
  vl := fun i d e => by
    have hi : i ∉ vs := fun m => hc i m _ e
    obtain ⟨v, e1, e2⟩ := R.vl i d e
    exact ⟨v, (ag.2 i hi).trans e1, e2⟩
  mu := fun i b d e => by
    have hi : i ∉ vs := fun m => hc i m _ e
    obtain ⟨a, e1, e2⟩ := R.mu i b d e
    exact ⟨a, (ag.2 i hi).trans e1, e2⟩
  ap := fun i j b c d e a q1 q2 q3 q4 => R.ap i j b c d e a q1 q2 ((ag.2 i fun m => hc i m _ q1).symm.trans q3) ((ag.2 j fun m => hc j m _ q2).symm.trans q4)
theorem mu_swap {b : Bool} {a : Addr} (hc : Clean ρ vs) (ag : Agr vs σ0 σ) : Mu b ρ σ0 a ↔ Mu b ρ σ a :=
  ⟨fun ⟨i, d, e1, e2⟩ => ⟨i, d, e1, (ag.2 i fun m => hc i m _ e1).trans e2⟩, fun ⟨i, d, e1, e2⟩ => ⟨i, d, e1, (ag.2 i fun m => hc i m _ e1).symm.trans e2⟩⟩
theorem Stp.swap (s : Stp ρ σ0 G H ρ' σ0 G' H') (hc : Clean ρ vs) (hc' : Clean ρ' vs) (ag : Agr vs σ0 σ) : Stp ρ σ G H ρ' σ G' H' where
  g := s.g
  h := fun b o n1 n2 q nt => s.h b o (fun m => n1 ((mu_swap hc ag).mp m)) (fun m => n2 ((mu_swap hc ag).mp m)) q nt
  t := s.t
  n := fun b q1 q2 => (s.n b q1 q2).imp id fun m => (mu_swap hc ag).mp m
  ow := fun b m => (s.ow b ((mu_swap hc' ag).mpr m)).imp (fun m => (mu_swap hc ag).mp m) id
  io := fun i => ⟨fun d e => by
      obtain ⟨d', e1, _⟩ := (s.io i).1 d e
      exact ⟨d', e1, rfl⟩, (s.io i).2⟩
  gr := s.gr
theorem Agr.symm {σ σ0 : Sl} (a : Agr vs σ0 σ) : Agr vs σ σ0 := ⟨a.1.symm, fun i hi => (a.2 i hi).symm⟩
theorem Agr.trans {σ σ0 σ1 : Sl} (a : Agr vs σ0 σ) (b : Agr vs σ σ1) : Agr vs σ0 σ1 := ⟨b.1.trans a.1, fun i hi => (b.2 i hi).trans (a.2 i hi)⟩
theorem agr_wipe : Agr vs σ (wipe σ vs) := ⟨wipe_length σ vs, fun i hi => wipe_out hi⟩
theorem wipe_get (σ : Sl) (i : Nat) : ∀ vs : List Nat, (wipe σ vs)[i]? = if i ∈ vs then (σ[i]?).map (fun _ => none) else σ[i]?
  | [] => by simp [wipe]
  | v :: vs => by
    unfold wipe
    by_cases h : v = i
    · subst h
      rw [if_pos List.mem_cons_self]
      by_cases hl : v < σ.length
      · rw [List.getElem?_set_self (by rw [wipe_length]; exact hl), List.getElem?_eq_getElem hl]; rfl
      · rw [List.getElem?_eq_none (by rw [List.length_set, wipe_length]; omega), List.getElem?_eq_none (by omega)]; rfl
    · rw [List.getElem?_set_ne h, wipe_get σ i vs]
      by_cases hm : i ∈ vs
      · rw [if_pos hm, if_pos (List.mem_cons_of_mem _ hm)]
      · rw [if_neg hm, if_neg fun m => (List.mem_cons.mp m).elim (fun z => h z.symm) hm]
theorem wipe_agr (ag : Agr vs σ0 σ) : wipe σ vs = wipe σ0 vs := by
  apply List.ext_getElem?
  intro i
  rw [wipe_get, wipe_get]
  by_cases hm : i ∈ vs
  · rw [if_pos hm, if_pos hm]
    by_cases hl : i < σ0.length
    · rw [List.getElem?_eq_getElem hl, List.getElem?_eq_getElem (by rw [ag.1]; exact hl)]; rfl
    · have a1 : σ0[i]? = none := List.getElem?_eq_none (by omega)
      have a2 : σ[i]? = none := List.getElem?_eq_none (by rw [ag.1]; omega)
      rw [a1, a2]
  · rw [if_neg hm, if_neg hm]
    exact ag.2 i hm
theorem Rep.other {a : Addr} {o : HO} (R : Rep K G H ρ σ) (h0 : G a = none) (h1 : ∀ b, ¬ Mu b ρ σ a) (hp : Pln H a) : Rep K G (upd H a o) ρ σ where
  tb := R.tb.pH hp
  sub := fun c u q => by
    have n : c ≠ a := fun z => by subst z; rw [h0] at q; cases q
    rw [upd_ne n]; exact R.sub c u q
  len := R.len
  vl := R.vl
  mu := fun i b d e => by
    obtain ⟨a', e1, e2, e3⟩ := R.mu i b d e
    have n : a' ≠ a := fun z => by subst z; exact h1 b ⟨i, d, e, e1⟩
    exact ⟨a', e1, e2, e3.mono (fun _ _ q => q) fun u q => by rw [upd_ne n]; exact q⟩
  ap := R.ap
theorem Stp.other {ρ0 : DEnv} {σ0 : Sl} {G0 H0 : Hp} {a : Addr} {o : HO} (s : Stp ρ0 σ0 G0 H0 ρ σ G H) (h : H0 a = none) : Stp ρ0 σ0 G0 H0 ρ σ G (upd H a o) where
  g := s.g
  h := fun b u n1 n2 q nt => by rw [upd_ne (ne_of_none q h)]; exact s.h b u n1 n2 q nt
  t := fun b q => by
    by_cases z : b = a
    · subst z; rw [upd_same] at q; cases q
    · rw [upd_ne z] at q; exact s.t b q
  n := s.n
  ow := s.ow
  io := s.io
  gr := fun b ps e => by
    obtain ⟨m, q⟩ := s.gr b ps e
    exact ⟨m, by rw [upd_ne (ne_of_none e h)]; exact q⟩
end
noncomputable abbrev WN : WX := fun _ _ _ _ => False
theorem tlc_of {X : Cx} {W : WX} {s : DEnv → R (List D)} {g : Tg} {t : DEnv → R Bool} {f : DEnv → R D} {vs : List Nat} : ∀ σ H Q, tF X.K W (dLc s g t f vs) σ H Q → tLc (tI X.K W s) (tG X.K g vs) (tT X.K WN t) (tD X.K WN f) vs σ H Q := by
  refine fun σ H Q ⟨ρ, G, R, h⟩ => ⟨ρ, G, R, (Go.bind R h).imp fun l ρ1 G1 H1 s1 R1 h1 J hJ Dl hD => ?_⟩
  split at h1
  case isFalse => exact False.elim h1
  rename_i hn1
  -- the state ahead of the first turn
  have ag0 : Agr vs σ (wipe σ vs) := agr_wipe
  have NH : New G1 H1 G1 (upd H1 Dl (.lst [])) := New.hid R1.sub hD
  have R2 : Rep X.K G1 (upd H1 Dl (.lst [])) (wipeE ρ1 vs) σ := (NH.rep R1).wiped rfl fun _ _ => rfl
  have S2 : Stp ρ1 σ G1 H1 (wipeE ρ1 vs) σ G1 (upd H1 Dl (.lst [])) := (NH.stp R1).trans R1 (Stp.wiped (NH.rep R1) hn1 fun _ _ => rfl)
  have noD : ∀ b, ¬ Mu b (wipeE ρ1 vs) σ Dl := fun b ⟨i, d, e1, e2⟩ => by
    obtain ⟨a', e3, _, e4⟩ := R1.mu i b d (wipeE_some e1).1
    rw [e2] at e3; cases e3
    obtain ⟨o, ho⟩ := e4.there
    rw [hD] at ho; cases ho
  refine ⟨fun i m H' => m = l.length - i ∧ ∃ ρw Gi acc xs, Rep X.K Gi H' ρw σ ∧ Clean ρw vs ∧ Stp ρ1 σ G1 H1 ρw σ Gi H' ∧ H' Dl = some (.lst xs) ∧ Iss X.K Gi acc xs ∧ Gi Dl = none ∧ (∀ b, ¬ Mu b ρw σ Dl) ∧
      Go X.K W σ ρ1 G1 H1 (fun d ρ' G' H' => ∀ a, G' a = none → ¬ Mu false ρ' σ a → ¬ Mu true ρ' σ a → H a = none → Cont X.K G' H' a d → Q (.ref a) H') (dLcGo g t f vs (l.drop i) acc ρw),
    ⟨l.length, by simp, wipeE ρ1 vs, G1, [], [], R2, clean_wipe, S2, upd_same, .nil, sub_none R1.sub hD, noD, h1⟩, fun i m H' ⟨em, ρw, Gi, acc, xs, Rw, cl, Sw, eD, hx, gD, nD, hgo⟩ => ?_⟩
  cases e : l[i]? with
  | none =>
    have hl : l.length ≤ i := List.getElem?_eq_none_iff.mp e
    rw [List.drop_eq_nil_of_le hl] at hgo
    exact .inl ⟨hJ.stop i Gi H' hl Sw.g Rw.sub, hgo Gi H' Sw Rw Dl gD (nD false) (nD true) (s1.t Dl hD) ⟨xs, eD, hx⟩⟩
  | some d =>
    obtain ⟨hlt, hel⟩ := List.getElem?_eq_some_iff.mp e
    obtain ⟨q1, q2⟩ := hJ.go i d Gi H' e Sw.g Rw.sub
    rw [List.drop_eq_getElem_cons hlt, hel] at hgo
    refine .inr ⟨q1, fun H' => ∃ ρw Gi acc xs, Rep X.K Gi H' ρw σ ∧ Clean ρw vs ∧ Stp ρ1 σ G1 H1 ρw σ Gi H' ∧ H' Dl = some (.lst xs) ∧ Iss X.K Gi acc xs ∧ Gi Dl = none ∧ (∀ b, ¬ Mu b ρw σ Dl) ∧
      Go X.K W σ ρ1 G1 H1 (fun d ρ' G' H' => ∀ a, G' a = none → ¬ Mu false ρ' σ a → ¬ Mu true ρ' σ a → H a = none → Cont X.K G' H' a d → Q (.ref a) H') (dLcGo g t f vs (l.drop (i + 1)) acc ρw), fun H' q => ⟨l.length - (i + 1), by omega, rfl, q⟩, fun x H2 hy => ?_⟩
    obtain ⟨G2, N2, hdx⟩ := q2 x H2 hy
    unfold dLcGo at hgo
    split at hgo
    case h_1 => exact False.elim hgo
    rename_i ρa ea
    have R0 : Rep X.K Gi H' ρw (wipe σ vs) := Rw.swap cl ag0
    have R2' := N2.rep R0
    refine ⟨ρw, G2, d, R2', hdx, ρa, ea, fun σ2 G3 H3 s3 R3 ag3 => ⟨(wipe_agr ag3).trans (wipe_agr ag0), ρa, G3, R3, ?_⟩⟩
    have T3 : Stp ρw (wipe σ vs) Gi H' ρa σ2 G3 H3 := (N2.stp R0).trans R0 s3
    -- what a turn's end is
    have fin : ∀ {ρb : DEnv} {G4 H4 : Hp}, Stp ρa σ2 G3 H3 ρb σ2 G4 H4 → Rep X.K G4 H4 ρb σ2 → noMu ρb vs = true → Rep X.K G4 H4 (wipeE ρb vs) σ ∧ Stp ρ1 σ G1 H1 (wipeE ρb vs) σ G4 H4 ∧ H4 Dl = some (.lst xs) ∧ G4 Dl = none ∧ (∀ b, ¬ Mu b (wipeE ρb vs) σ Dl) ∧ Evl.Ex Gi G4 := fun {ρb G4 H4} s4 R4 n4 => by
      have ags : Agr vs σ2 (wipe σ vs) := ag3.symm
      have R5 : Rep X.K G4 H4 (wipeE ρb vs) (wipe σ vs) := R4.wiped ags.1 ags.2
      have T4 : Stp ρw (wipe σ vs) Gi H' (wipeE ρb vs) (wipe σ vs) G4 H4 := (T3.trans R0 s4).trans R0 (Stp.wiped R4 n4 ags.2)
      have T5 : Stp ρw σ Gi H' (wipeE ρb vs) σ G4 H4 := T4.swap cl clean_wipe ag0.symm
      have gD4 : G4 Dl = none := by
        cases hg : G4 Dl with
        | none => rfl
        | some u =>
          rcases T5.n Dl gD (by rw [hg]; exact fun z => by cases z) with z | z
          · rw [eD] at z; cases z
          · exact absurd z (nD false)
      refine ⟨R5.swap clean_wipe ag0.symm, Sw.trans R1 T5, T5.h Dl _ (nD false) (nD true) eD .lst, gD4, fun b m => ?_, T5.g⟩
      cases b with
      | false =>
        rcases T5.ow Dl m with z | z
        · exact nD false z
        · rw [eD] at z; cases z
      | true => exact nD true (T5.io_back m)
    cases et : t ρa with
    | no => rw [et] at hgo; exact False.elim hgo
    | ex _ _ => rw [et] at hgo; exact False.elim hgo
    | ok ρb b =>
      rw [et] at hgo
      intro G4 H4 s4 R4
      cases b with
      | false =>
        rw [if_neg Bool.false_ne_true]
        have hgo' : Go X.K W σ ρ1 G1 H1 _ (if noMu ρb vs = true then dLcGo g t f vs (l.drop (i + 1)) acc (wipeE ρb vs) else .no) := hgo
        split at hgo'
        · rename_i n4
          obtain ⟨a1, a2, a3, a4, a5, a6⟩ := fin s4 R4 n4
          exact ⟨wipeE ρb vs, G4, acc, xs, a1, clean_wipe, a2, a3, hx.mono a6, a4, a5, hgo'⟩
        · exact False.elim hgo'
      | true =>
        rw [if_pos rfl]
        refine ⟨ρb, G4, R4, ?_⟩
        have hgo' : Go X.K W σ ρ1 G1 H1 _ ((f ρb).bindN fun y ρ3 => if noMu ρ3 vs = true then (if acc.length < 16000000 then dLcGo g t f vs (l.drop (i + 1)) (acc ++ [y]) (wipeE ρ3 vs) else .no) else .no) := hgo
        cases ef : f ρb with
        | no => rw [ef] at hgo'; exact False.elim hgo'
        | ex _ _ => rw [ef] at hgo'; exact False.elim hgo'
        | ok ρc y =>
          rw [ef] at hgo'
          intro G5 H5 s5 R5 v hv
          have hgo2 : Go X.K W σ ρ1 G1 H1 _ (if noMu ρc vs = true then (if acc.length < 16000000 then dLcGo g t f vs (l.drop (i + 1)) (acc ++ [y]) (wipeE ρc vs) else .no) else .no) := hgo'
          split at hgo2
          · rename_i n5
            split at hgo2
            · rename_i hlen
              obtain ⟨a1, a2, a3, a4, a5, a6⟩ := fin (s4.trans R3 s5) R5 n5
              refine ⟨xs, a3, by rw [← hx.length, sizeLine_eq]; omega, wipeE ρc vs, G5, acc ++ [y], xs ++ [v], a1.other a4 a5 (.lst a3), clean_wipe, a2.other hD, upd_same, (hx.mono a6).append (.cons hv .nil), a4, a5, hgo2⟩
            · exact False.elim hgo2
          · exact False.elim hgo2
theorem df_lc {X : Cx} {W : WX} {elt tg iter : Expr} {ifs : List Expr} {scope : Scope} {own : List (Str × Nat)} {pos : Pos} {s : DEnv → R (List D)} {g : Tg} {t : DEnv → R Bool} {f : DEnv → R D} {vs : List Nat}
    (hcalm : X.calm = true) (hN : X.N.Nodup) (hi : DI X W tg iter s) (ok : BlkOk X.N X.env.scope scope own) (hvs : own.map (·.2) = vs)
    (hg : ∀ (s : Shared) (H : Hp) (C : Addr) (cl : List (Str × Addr)) (fp : List Addr), DG (X.blk s H scope (compEnvC scope cl C X.env) fp) tg g vs)
    (ht : ∀ (s : Shared) (H : Hp) (C : Addr) (cl : List (Str × Addr)) (fp : List Addr), DTs (X.blk s H scope (compEnvC scope cl C X.env) fp) WN ifs t)
    (he : ∀ (s : Shared) (H : Hp) (C : Addr) (cl : List (Str × Addr)) (fp : List Addr), DE (X.blk s H scope (compEnvC scope cl C X.env) fp) WN elt f) (hs : ∀ x, foldedSetIterable iter X.env x = pure x := by intro _; rfl) :
    DF' X W (.ListComp elt [⟨tg, iter, ifs, 0⟩] scope pos) (dLc s g t f vs) := by
  subst hvs
  exact pe_imp (pe_lc (g := tG X.K g (own.map (·.2))) (tt := tT X.K WN t) (te := tD X.K WN f) hcalm hN hi ok hg ht he hs) tlc_of
theorem ps_lc0 {X : Cx} {W : WX} {i : Nat} {y : Str} {py : Pos} {elt tg iter : Expr} {ifs : List Expr} {scope : Scope} {own : List (Str × Nat)} {pos spos : Pos} {s : DEnv → R (List D)} {g : Tg} {t : DEnv → R Bool} {f : DEnv → R D}
    (hcalm : X.calm = true) (hN : X.N.Nodup) (hy : X.N[i]? = some y) (hyl : X.env.scope.names.lookup y = some .local) (hsw : swapsWith (.ListComp elt [⟨tg, iter, ifs, 0⟩] scope pos) (some (.Name y py)) spos.line X.env = pure true) (hi : DI X W tg iter s) (ok : BlkOk X.N X.env.scope scope own)
    (hg : ∀ (s : Shared) (H : Hp) (C : Addr) (cl : List (Str × Addr)) (fp : List Addr), DG (X.blk s H scope (compEnvC scope cl C X.env) fp) tg g (own.map (·.2)))
    (ht : ∀ (s : Shared) (H : Hp) (C : Addr) (cl : List (Str × Addr)) (fp : List Addr), DTs (X.blk s H scope (compEnvC scope cl C X.env) fp) WN ifs t)
    (he : ∀ (s : Shared) (H : Hp) (C : Addr) (cl : List (Str × Addr)) (fp : List Addr), DE (X.blk s H scope (compEnvC scope cl C X.env) fp) WN elt f) (hs : ∀ x, foldedSetIterable iter X.env x = pure x := by intro _; rfl) :
    PS X (.Assign [.Name y py] (.ListComp elt [⟨tg, iter, ifs, 0⟩] scope pos) spos) (tAsg (tLc (tI X.K W s) (tG X.K g (own.map (·.2))) (tT X.K WN t) (tD X.K WN f) (own.map (·.2))) (gName i)) :=
  ps_setLc hcalm hN hy hyl hsw hi ok hg ht he hs
theorem ds_setLc {X : Cx} {W : WX} {i : Nat} {y : Str} {py : Pos} {elt tg iter : Expr} {ifs : List Expr} {scope : Scope} {own : List (Str × Nat)} {pos spos : Pos} {s : DEnv → R (List D)} {g : Tg} {t : DEnv → R Bool} {f : DEnv → R D} {vs : List Nat}
    (hcalm : X.calm = true) (hN : X.N.Nodup) (hy : X.N[i]? = some y) (hyl : X.env.scope.names.lookup y = some .local) (hsw : swapsWith (.ListComp elt [⟨tg, iter, ifs, 0⟩] scope pos) (some (.Name y py)) spos.line X.env = pure true) (hi : DI X W tg iter s) (ok : BlkOk X.N X.env.scope scope own) (hvs : own.map (·.2) = vs)
    (hg : ∀ (s : Shared) (H : Hp) (C : Addr) (cl : List (Str × Addr)) (fp : List Addr), DG (X.blk s H scope (compEnvC scope cl C X.env) fp) tg g vs)
    (ht : ∀ (s : Shared) (H : Hp) (C : Addr) (cl : List (Str × Addr)) (fp : List Addr), DTs (X.blk s H scope (compEnvC scope cl C X.env) fp) WN ifs t)
    (he : ∀ (s : Shared) (H : Hp) (C : Addr) (cl : List (Str × Addr)) (fp : List Addr), DE (X.blk s H scope (compEnvC scope cl C X.env) fp) WN elt f) (hs : ∀ x, foldedSetIterable iter X.env x = pure x := by intro _; rfl) :
    DS X W (.Assign [.Name y py] (.ListComp elt [⟨tg, iter, ifs, 0⟩] scope pos) spos) (dSet i (dLc s g t f vs)) := by
  subst hvs
  exact ps_imp (ps_lc0 hcalm hN hy hyl hsw hi ok hg ht he hs) (tset fun σ H Q h => tlc_of σ H Q (tfresh dLc_lst σ H Q h))
end DF

namespace DF
open PySem PySem.Spec PyProof.Rows L2
section
variable {X : Cx}
noncomputable def CDivG (i j : Int) : Prop := j ≠ 0 ∧ j.natAbs.log2 < 9000
theorem op_fdivG : OpR X (binaryOp .FloorDiv) (rI CDivG fun i j => .int (i.fdiv j)) := opI fun _ _ _ _ _ _ _ hc q => floordiv_int hc.1 q (.inl (PyProof.noPylong_of_log2 hc.2))
noncomputable def CPowG (i j : Int) : Prop := 0 ≤ j ∧ (Builtin.Int.intBits i : Int) * j ≤ 2 ^ 27
theorem op_powG : OpR X (binaryOp .Pow) (rI CPowG fun i j => .int (i ^ j.toNat)) := opI fun _ _ _ _ _ _ _ hc q => pow_int hc.1 hc.2 q
end
variable {K : PySem.W.Frag}
noncomputable def i2 (g : Int → Int → Option D) (x y : D) : Option D := match x, y with
  | .int i, .int j => g i j
  | _, _ => none
theorem i2_of {g : Int → Int → Option D} {x y z : D} (h : i2 g x y = some z) : ∃ i j, x = .int i ∧ y = .int j ∧ g i j = some z := by
  unfold i2 at h
  split at h
  · exact ⟨_, _, rfl, rfl, h⟩
  · cases h
theorem ops_i0 {g : Int → Int → Int} : OpS K (rI0 fun i j => .int (g i j)) (i2 fun i j => some (.int (g i j))) := fun x y z v u G H Q eS hx hy e k => by
  obtain ⟨i, j, rfl, rfl, e⟩ := i2_of e
  cases e
  cases hx
  cases hy
  exact ⟨i, j, rfl, rfl, k _ G H (New.refl eS) (.int _)⟩
theorem ops_b0 {g : Int → Int → Bool} : OpS K (rI0 fun i j => .bl (g i j)) (i2 fun i j => some (.bl (g i j))) := fun x y z v u G H Q eS hx hy e k => by
  obtain ⟨i, j, rfl, rfl, e⟩ := i2_of e
  cases e
  cases hx
  cases hy
  exact ⟨i, j, rfl, rfl, k _ G H (New.refl eS) (.bl _)⟩
theorem ops_ic {C : Int → Int → Prop} {g : Int → Int → Int} {c : Int → Int → Bool} (hc : ∀ i j, c i j = true → C i j) : OpS K (rI C fun i j => .int (g i j)) (i2 fun i j => if c i j = true then some (.int (g i j)) else none) := fun x y z v u G H Q eS hx hy e k => by
  obtain ⟨i, j, rfl, rfl, e'⟩ := i2_of e
  clear e
  cases hx
  cases hy
  split at e'
  · rename_i h
    cases e'
    exact ⟨i, j, rfl, rfl, hc i j h, k _ G H (New.refl eS) (.int _)⟩
  · cases e'
noncomputable def orD (g g' : D → D → Option D) (x y : D) : Option D := match g x y with
  | some z => some z
  | none => g' x y
theorem ops_or {r r' : R2} {g g' : D → D → Option D} (h : OpS K r g) (h' : OpS K r' g') : OpS K (fun x y H Q => r x y H Q ∨ r' x y H Q) (orD g g') := fun x y z v u G H Q eS hx hy e k => by
  unfold orD at e
  cases q : g x y with
  | some w =>
    rw [q] at e
    cases e
    exact .inl (h x y _ v u G H Q eS hx hy q k)
  | none =>
    rw [q] at e
    exact .inr (h' x y z v u G H Q eS hx hy e k)
noncomputable def cDiv (_ j : Int) : Bool := decide (j ≠ 0) && decide (j.natAbs.log2 < 9000)
theorem cDiv_ok {i j : Int} (h : cDiv i j = true) : CDivG i j := by
  unfold cDiv at h
  rw [Bool.and_eq_true, decide_eq_true_eq, decide_eq_true_eq] at h
  exact h
noncomputable def cMul (i j : Int) : Bool := decide (i.natAbs.log2 + j.natAbs.log2 < 1000000)
noncomputable def cPow (i j : Int) : Bool := decide (0 ≤ j) && decide ((Builtin.Int.intBits i : Int) * j ≤ 2 ^ 27)
theorem cPow_ok {i j : Int} (h : cPow i j = true) : CPowG i j := by
  unfold cPow at h
  rw [Bool.and_eq_true, decide_eq_true_eq, decide_eq_true_eq] at h
  exact h
noncomputable def addI : D → D → Option D := i2 fun i j => some (.int (i + j))
noncomputable def subD : D → D → Option D := i2 fun i j => some (.int (i - j))
noncomputable def mulI : D → D → Option D := i2 fun i j => if cMul i j = true then some (.int (i * j)) else none
noncomputable def divD : D → D → Option D := i2 fun i j => if cDiv i j = true then some (.int (i.fdiv j)) else none
noncomputable def modD : D → D → Option D := i2 fun i j => if decide (j ≠ 0) = true then some (.int (i.fmod j)) else none
noncomputable def powD : D → D → Option D := i2 fun i j => if cPow i j = true then some (.int (i ^ j.toNat)) else none
noncomputable def ltD : D → D → Option D := i2 fun i j => some (.bl (decide (i < j)))
noncomputable def leD : D → D → Option D := i2 fun i j => some (.bl (decide (i ≤ j)))
noncomputable def gtD : D → D → Option D := i2 fun i j => some (.bl (decide (j < i)))
noncomputable def geD : D → D → Option D := i2 fun i j => some (.bl (decide (j ≤ i)))
noncomputable def catL (x y : D) : Option D := match x, y with
  | .lst l, .lst m => if l.length + m.length ≤ 16000000 then some (.lst (l ++ m)) else none
  | _, _ => none
theorem ops_catL : OpS K rCat catL := fun x y z v u G H Q eS hx hy e k => by
  unfold catL at e
  split at e
  · rename_i l m
    obtain ⟨a, xs, rfl, h1, h2⟩ := hx
    obtain ⟨b, ys, rfl, h3, h4⟩ := hy
    split at e
    · rename_i hl
      cases e
      refine ⟨a, b, xs, ys, rfl, rfl, h1, h3, by rw [← h2.length, ← h4.length, sizeLine_eq]; omega, fun p hp => ?_⟩
      have N : New G H (upd G p (.lst (xs ++ ys))) (upd H p (.lst (xs ++ ys))) := New.put eS hp
      exact k _ _ _ N (.lst upd_same ((h2.append h4).mono N.g))
    · cases e
  · cases e
noncomputable def catT (x y : D) : Option D := match x, y with
  | .tup l, .tup m => if l.length + m.length ≤ 16000000 then some (.tup (l ++ m)) else none
  | _, _ => none
theorem ops_catT : OpS K (rCatA K) catT := fun x y z v u G H Q eS hx hy e k => by
  unfold catT at e
  split at e
  · rename_i l m
    cases hx with
    | @tup l a xs h1 h2 =>
      cases hy with
      | @tup m b ys h3 h4 =>
        split at e
        · rename_i hl
          cases e
          refine ⟨a, b, xs, ys, rfl, rfl, Evl.ex_t eS h1, Evl.ex_t eS h3, by rw [← h2.length, ← h4.length, sizeLine_eq]; omega, fun z => ?_, fun z1 z2 => ?_, fun z1 z2 p hp => ?_⟩
          · subst z
            cases h2
            exact k _ G H (New.refl eS) (.tup h3 h4)
          · subst z2
            cases h4
            rw [List.append_nil] at *
            exact k _ G H (New.refl eS) (.tup h1 h2)
          · have N : New G H (upd G p (.tup (xs ++ ys))) (upd H p (.tup (xs ++ ys))) := New.put eS hp
            exact k _ _ _ N (.tup (Evl.st_of upd_same) ((h2.append h4).mono N.g))
        · cases e
  · cases e
noncomputable def repL (x y : D) : Option D := match x, y with
  | .lst l, .int n => if n < 2 ^ 62 ∧ -(2 ^ 62) ≤ n ∧ l.length * n.toNat ≤ 16000000 then some (.lst (List.replicate n.toNat l).flatten) else none
  | _, _ => none
theorem ops_repL : OpS K rRep repL := fun x y z v u G H Q eS hx hy e k => by
  unfold repL at e
  split at e
  · rename_i l n
    obtain ⟨a, xs, rfl, h1, h2⟩ := hx
    cases hy
    split at e
    · rename_i hl
      cases e
      refine ⟨a, n, xs, rfl, rfl, h1, by omega, by omega, by rw [← h2.length, sizeLine_eq]; omega, fun p hp => ?_⟩
      have N : New G H (upd G p (.lst (List.replicate n.toNat xs).flatten)) (upd H p (.lst (List.replicate n.toNat xs).flatten)) := New.put eS hp
      exact k _ _ _ N (.lst upd_same ((h2.rep _).mono N.g))
    · cases e
  · cases e
noncomputable def repT (x y : D) : Option D := match x, y with
  | .tup l, .int n => if 2 ≤ n ∧ n ≤ 1000 ∧ l.length ≤ 1000 ∧ l.length ≠ 0 then some (.tup (List.replicate n.toNat l).flatten) else none
  | _, _ => none
theorem ops_repT : OpS K (rRepT K) repT := fun x y z v u G H Q eS hx hy e k => by
  unfold repT at e
  split at e
  · rename_i l n
    cases hx with
    | @tup l a xs h1 h2 =>
      cases hy
      split at e
      · rename_i hl
        cases e
        obtain ⟨hl1, hl2, hl3, hl4⟩ := hl
        refine ⟨a, n, xs, rfl, rfl, Evl.ex_t eS h1, fun z => ?_, hl1, hl2, by rw [← h2.length]; exact hl3, fun p hp => ?_⟩
        · rw [h2.length, z] at hl4; exact hl4 rfl
        · have N : New G H (upd G p (.tup (List.replicate n.toNat xs).flatten)) (upd H p (.tup (List.replicate n.toNat xs).flatten)) := New.put eS hp
          exact k _ _ _ N (.tup (Evl.st_of upd_same) ((h2.rep _).mono N.g))
      · cases e
  · cases e
mutual
noncomputable def toP : D → Option PyData
  | .non => some .none
  | .bl b => some (.bool b)
  | .int i => some (.int i)
  | .str x => some (.str x)
  | .lst l => (toPs l).map .list
  | .fro l => (toPs l).map .list
  | .tup l => (toPs l).map .tuple
  | .dic _ => none
  | .obj _ _ => none
  | .fn _ => none
noncomputable def toPs : List D → Option (List PyData)
  | [] => some []
  | d :: l => match toP d with
    | none => none
    | some p => (toPs l).map (p :: ·)
end
section
variable {G H : Hp}
mutual
theorem dp_of (eS : Evl.Ex G H) : ∀ {d : D} {v : V} {p : PyData}, Is K G d v → toP d = some p → Dp K H v p
  | _, _, _, .non, e => by cases e; exact .non
  | _, _, _, .bl b, e => by cases e; exact .bl b
  | _, _, _, .int i, e => by cases e; exact .int i
  | _, _, _, .str x, e => by cases e; exact .str x
  | .lst l, _, p, .lst h r, e => by
    unfold toP at e
    cases q : toPs l with
    | none => rw [q] at e; cases e
    | some ps => rw [q] at e; cases e; exact .lst (Evl.sq_of (eS _ _ h)) (dps_of eS r q)
  | .fro l, _, p, .fro h r, e => by
    unfold toP at e
    cases q : toPs l with
    | none => rw [q] at e; cases e
    | some ps => rw [q] at e; cases e; exact .lst (Evl.ex_l eS h) (dps_of eS r q)
  | .tup l, _, p, .tup h r, e => by
    unfold toP at e
    cases q : toPs l with
    | none => rw [q] at e; cases e
    | some ps => rw [q] at e; cases e; exact .tup (Evl.ex_t eS h) (dps_of eS r q)
  | .dic l, _, p, .dic h r, e => by unfold toP at e; cases e
  | .obj c fs, _, p, .obj h n r, e => by unfold toP at e; cases e
  | .fn x, _, p, .fn h, e => by unfold toP at e; cases e
theorem dps_of (eS : Evl.Ex G H) : ∀ {l : List D} {xs : List V} {ps : List PyData}, Iss K G l xs → toPs l = some ps → DpAll K H xs ps
  | _, _, _, .nil, e => by unfold toPs at e; cases e; exact .nil
  | d :: l, _, ps, .cons h r, e => by
    unfold toPs at e
    cases q : toP d with
    | none => rw [q] at e; cases e
    | some p =>
      rw [q] at e
      cases q2 : toPs l with
      | none => rw [q2] at e; cases e
      | some ps' => rw [q2] at e; cases e; exact .cons (dp_of eS h q) (dps_of eS r q2)
end
theorem dp_top (eS : Evl.Ex G H) {d : D} {v : V} {p : PyData} (h : Top K G H d v) (e : toP d = some p) : Dp K H v p := dp_of (fun _ _ q => q) (h.is eS fun l z => by subst z; unfold toP at e; cases e) e
end
noncomputable def eqP (x y : D) : Option Bool := match toP x, toP y with
  | some p, some q => if SeqAt.shaped p = true ∧ SeqAt.shaped q = true then some (p.eqv q) else none
  | _, _ => none
noncomputable def eqD1 (x y : D) : Option D := (eqP x y).map .bl
noncomputable def neD1 (x y : D) : Option D := (eqP x y).map fun b => .bl (!b)
theorem eqP_of {x y : D} {b : Bool} (h : eqP x y = some b) : ∃ p q, toP x = some p ∧ toP y = some q ∧ SeqAt.shaped p = true ∧ SeqAt.shaped q = true ∧ b = p.eqv q := by
  unfold eqP at h
  split at h
  · rename_i p q e1 e2
    split at h
    · rename_i hs
      cases h
      exact ⟨p, q, e1, e2, hs.1, hs.2, rfl⟩
    · cases h
  · cases h
theorem ops_eq1 : OpS K (rEqD K) eqD1 := fun x y z v u G H Q eS hx hy e k => by
  unfold eqD1 at e
  cases q : eqP x y with
  | none => rw [q] at e; cases e
  | some b =>
    rw [q] at e
    cases e
    obtain ⟨p, r, e1, e2, s1, s2, rfl⟩ := eqP_of q
    exact ⟨p, r, dp_top eS hx e1, dp_top eS hy e2, s1, s2, k _ G H (New.refl eS) (.bl _)⟩
theorem ops_ne1 : OpS K (rNeD K) neD1 := fun x y z v u G H Q eS hx hy e k => by
  unfold neD1 at e
  cases q : eqP x y with
  | none => rw [q] at e; cases e
  | some b =>
    rw [q] at e
    cases e
    obtain ⟨p, r, e1, e2, s1, s2, rfl⟩ := eqP_of q
    exact ⟨p, r, dp_top eS hx e1, dp_top eS hy e2, s1, s2, k _ G H (New.refl eS) (.bl _)⟩
noncomputable def lenD (xs : List D) : Option D := match xs with
  | [.lst l] => some (.int l.length)
  | [.fro l] => some (.int l.length)
  | [.tup l] => some (.int l.length)
  | _ => none
theorem tops1 {G H : Hp} {d : D} {vs : List V} (h : Tops K G H [d] vs) : ∃ v, vs = [v] ∧ Top K G H d v := by
  cases h with
  | cons h r => cases r; exact ⟨_, rfl, h⟩
theorem tops2 {G H : Hp} {d e : D} {vs : List V} (h : Tops K G H [d, e] vs) : ∃ v u, vs = [v, u] ∧ Top K G H d v ∧ Top K G H e u := by
  cases h with
  | cons h r => cases r with | cons h2 r2 => cases r2; exact ⟨_, _, rfl, h, h2⟩
noncomputable def rLen (K : PySem.W.Frag) : List V → Hp → VK → Prop := fun xs H Q => ∃ p ys, xs = [.ref p] ∧ (SqL K H p ys ∨ SqT K H p ys) ∧ Q (.int ys.length) H
theorem cas_len : CaS K (rLen K) lenD := fun xs z vs G H Q eS hx e k => by
  unfold lenD at e
  split at e
  · obtain ⟨v, rfl, a, ys, rfl, h1, h2⟩ := tops1 hx
    cases e
    exact ⟨a, ys, rfl, .inl (Evl.sq_of h1), k _ G H (New.refl eS) (by rw [h2.length]; exact .int _)⟩
  · obtain ⟨v, rfl, h⟩ := tops1 hx
    cases e
    cases h with
    | fro h1 h2 => exact ⟨_, _, rfl, .inl (Evl.ex_l eS h1), k _ G H (New.refl eS) (by rw [h2.length]; exact .int _)⟩
  · obtain ⟨v, rfl, h⟩ := tops1 hx
    cases e
    cases h with
    | tup h1 h2 => exact ⟨_, _, rfl, .inr (Evl.ex_t eS h1), k _ G H (New.refl eS) (by rw [h2.length]; exact .int _)⟩
  · cases e
noncomputable def absD (xs : List D) : Option D := match xs with
  | [.int i] => some (.int (if i < 0 then -i else i))
  | _ => none
noncomputable def rAbs : List V → Hp → VK → Prop := fun xs H Q => ∃ i, xs = [.int i] ∧ Q (.int (if i < 0 then -i else i)) H
theorem cas_abs : CaS K rAbs absD := fun xs z vs G H Q eS hx e k => by
  unfold absD at e
  split at e
  · obtain ⟨v, rfl, h⟩ := tops1 hx
    cases h; cases e
    exact ⟨_, rfl, k _ G H (New.refl eS) (.int _)⟩
  · cases e
noncomputable def intD (xs : List D) : Option D := match xs with
  | [.int i] => some (.int i)
  | [.bl b] => some (.int (if b then 1 else 0))
  | _ => none
noncomputable def rInt1 : List V → Hp → VK → Prop := fun xs H Q => (∃ i, xs = [.int i] ∧ Q (.int i) H) ∨ ∃ k, xs = [.bl k] ∧ Q (.int (if k then 1 else 0)) H
theorem cas_int : CaS K rInt1 intD := fun xs z vs G H Q eS hx e k => by
  unfold intD at e
  split at e
  · obtain ⟨v, rfl, h⟩ := tops1 hx
    cases h; cases e
    exact .inl ⟨_, rfl, k _ G H (New.refl eS) (.int _)⟩
  · obtain ⟨v, rfl, h⟩ := tops1 hx
    cases h; cases e
    exact .inr ⟨_, rfl, k _ G H (New.refl eS) (.int _)⟩
  · cases e
noncomputable def max2D (xs : List D) : Option D := match xs with
  | [.int i, .int j] => some (.int (if j > i then j else i))
  | _ => none
noncomputable def min2D (xs : List D) : Option D := match xs with
  | [.int i, .int j] => some (.int (if j < i then j else i))
  | _ => none
noncomputable def rMax2 : List V → Hp → VK → Prop := fun xs H Q => ∃ i j, xs = [.int i, .int j] ∧ Q (.int (if j > i then j else i)) H
noncomputable def rMin2 : List V → Hp → VK → Prop := fun xs H Q => ∃ i j, xs = [.int i, .int j] ∧ Q (.int (if j < i then j else i)) H
theorem cas_max2 : CaS K rMax2 max2D := fun xs z vs G H Q eS hx e k => by
  unfold max2D at e
  split at e
  · obtain ⟨v, u, rfl, h1, h2⟩ := tops2 hx
    cases h1; cases h2; cases e
    exact ⟨_, _, rfl, k _ G H (New.refl eS) (.int _)⟩
  · cases e
theorem cas_min2 : CaS K rMin2 min2D := fun xs z vs G H Q eS hx e k => by
  unfold min2D at e
  split at e
  · obtain ⟨v, u, rfl, h1, h2⟩ := tops2 hx
    cases h1; cases h2; cases e
    exact ⟨_, _, rfl, k _ G H (New.refl eS) (.int _)⟩
  · cases e
noncomputable def gcdD (xs : List D) : Option D := match xs with
  | [.int i, .int j] => some (.int ((Nat.gcd i.natAbs j.natAbs : Nat) : Int))
  | _ => none
theorem cas_gcd : CaS K rGcd gcdD := fun xs z vs G H Q eS hx e k => by
  unfold gcdD at e
  split at e
  · obtain ⟨v, u, rfl, h1, h2⟩ := tops2 hx
    cases h1; cases h2; cases e
    exact ⟨_, _, rfl, k _ G H (New.refl eS) (.int _)⟩
  · cases e
noncomputable def intsD : List D → Option (List Int)
  | [] => some []
  | .int i :: l => match intsD l with
    | some r => some (i :: r)
    | none => none
  | _ :: _ => none
theorem intsD_of : ∀ {l : List D} {ns : List Int}, intsD l = some ns → l = ns.map D.int
  | [], _, e => by cases e; rfl
  | .int i :: l, ns, e => by
    unfold intsD at e
    split at e
    · rename_i r q; cases e; rw [intsD_of q]; rfl
    · cases e
  | .non :: _, _, e => by cases e
  | .bl _ :: _, _, e => by cases e
  | .str _ :: _, _, e => by cases e
  | .tup _ :: _, _, e => by cases e
  | .lst _ :: _, _, e => by cases e
  | .dic _ :: _, _, e => by cases e
  | .fro _ :: _, _, e => by cases e
  | .obj _ _ :: _, _, e => by cases e
theorem intsD_map : ∀ ns : List Int, intsD (ns.map D.int) = some ns
  | [] => rfl
  | n :: r => by show (match intsD (r.map D.int) with | some r => some (n :: r) | none => none) = _; rw [intsD_map r]
noncomputable def bls : List D → Option (List Bool)
  | [] => some []
  | .bl i :: l => match bls l with
    | some r => some (i :: r)
    | none => none
  | _ :: _ => none
theorem bls_of : ∀ {l : List D} {ns : List Bool}, bls l = some ns → l = ns.map D.bl
  | [], _, e => by cases e; rfl
  | .bl i :: l, ns, e => by
    unfold bls at e
    split at e
    · rename_i r q; cases e; rw [bls_of q]; rfl
    · cases e
  | .non :: _, _, e => by cases e
  | .int _ :: _, _, e => by cases e
  | .str _ :: _, _, e => by cases e
  | .tup _ :: _, _, e => by cases e
  | .lst _ :: _, _, e => by cases e
  | .dic _ :: _, _, e => by cases e
  | .fro _ :: _, _, e => by cases e
  | .obj _ _ :: _, _, e => by cases e
noncomputable def listOf (d : D) : Option (List D) := match d with
  | .lst l => some l
  | .fro l => some l
  | _ => none
theorem listOf_top {G H : Hp} {d : D} {l : List D} {v : V} (eS : Evl.Ex G H) (h : Top K G H d v) (e : listOf d = some l) : ∃ a xs, v = .ref a ∧ SqL K H a xs ∧ Iss K G l xs := by
  cases d with
  | lst m => cases e; obtain ⟨a, xs, rfl, h1, h2⟩ := h; exact ⟨a, xs, rfl, Evl.sq_of h1, h2⟩
  | fro m => cases e; cases h with | fro h1 h2 => exact ⟨_, _, rfl, Evl.ex_l eS h1, h2⟩
  | _ => cases e
noncomputable def sumD (xs : List D) : Option D := match xs with
  | [d] => match listOf d with
    | some l => (intsD l).map fun ns => .int ns.sum
    | none => none
  | _ => none
theorem cas_sum : CaS K (rSum K) sumD := fun xs z vs G H Q eS hx e k => by
  unfold sumD at e
  split at e
  · rename_i d
    split at e
    · rename_i l e1
      obtain ⟨v, rfl, h⟩ := tops1 hx
      obtain ⟨a, ys, rfl, h1, h2⟩ := listOf_top eS h e1
      cases q : intsD l with
      | none => rw [q] at e; cases e
      | some ns =>
        rw [q] at e; cases e
        rw [intsD_of q] at h2
        exact ⟨a, ns, rfl, by rw [← h2.ints]; exact h1, k _ G H (New.refl eS) (.int _)⟩
    · cases e
  · cases e
noncomputable def allD (xs : List D) : Option D := match xs with
  | [d] => match listOf d with
    | some l => (bls l).map fun ns => .bl (ns.all id)
    | none => none
  | _ => none
theorem cas_all : CaS K (rAll K) allD := fun xs z vs G H Q eS hx e k => by
  unfold allD at e
  split at e
  · rename_i d
    split at e
    · rename_i l e1
      obtain ⟨v, rfl, h⟩ := tops1 hx
      obtain ⟨a, ys, rfl, h1, h2⟩ := listOf_top eS h e1
      cases q : bls l with
      | none => rw [q] at e; cases e
      | some ns =>
        rw [q] at e; cases e
        rw [bls_of q] at h2
        exact ⟨a, ns, rfl, by rw [← h2.bls]; exact h1, k _ G H (New.refl eS) (.bl _)⟩
    · cases e
  · cases e
noncomputable def anyD (xs : List D) : Option D := match xs with
  | [d] => match listOf d with
    | some l => (bls l).map fun ns => .bl (ns.any id)
    | none => none
  | _ => none
theorem cas_any : CaS K (rAny K) anyD := fun xs z vs G H Q eS hx e k => by
  unfold anyD at e
  split at e
  · rename_i d
    split at e
    · rename_i l e1
      obtain ⟨v, rfl, h⟩ := tops1 hx
      obtain ⟨a, ys, rfl, h1, h2⟩ := listOf_top eS h e1
      cases q : bls l with
      | none => rw [q] at e; cases e
      | some ns =>
        rw [q] at e; cases e
        rw [bls_of q] at h2
        exact ⟨a, ns, rfl, by rw [← h2.bls]; exact h1, k _ G H (New.refl eS) (.bl _)⟩
    · cases e
  · cases e
noncomputable def tupD (xs : List D) : Option D := match xs with
  | [.lst l] => some (.tup l)
  | [.fro l] => some (.tup l)
  | [.tup l] => some (.tup l)
  | _ => none
noncomputable def rTupOf (K : PySem.W.Frag) : List V → Hp → VK → Prop := fun xs H Q => ∃ p ys, xs = [.ref p] ∧ ((SqL K H p ys ∧ ∀ l, H l = none → Q (.ref l) (upd H l (.tup ys))) ∨ (SqT K H p ys ∧ Q (.ref p) H))
theorem cas_tup : CaS K (rTupOf K) tupD := fun xs z vs G H Q eS hx e k => by
  have go : ∀ {l : List D} {ys : List V}, Iss K G l ys → z = .tup l → ∀ p, H p = none → Q (.ref p) (upd H p (.tup ys)) := fun {l ys} r ez p hp => by
    subst ez
    have N : New G H (upd G p (.tup ys)) (upd H p (.tup ys)) := New.put eS hp
    exact k _ _ _ N (.tup (Evl.st_of upd_same) (r.mono N.g))
  unfold tupD at e
  split at e
  · obtain ⟨v, rfl, a, ys, rfl, h1, h2⟩ := tops1 hx
    cases e
    exact ⟨a, ys, rfl, .inl ⟨Evl.sq_of h1, go h2 rfl⟩⟩
  · obtain ⟨v, rfl, h⟩ := tops1 hx
    cases e
    cases h with
    | fro h1 h2 => exact ⟨_, _, rfl, .inl ⟨Evl.ex_l eS h1, go h2 rfl⟩⟩
  · obtain ⟨v, rfl, h⟩ := tops1 hx
    cases e
    cases h with
    | tup h1 h2 => exact ⟨_, _, rfl, .inr ⟨Evl.ex_t eS h1, k _ G H (New.refl eS) (.tup h1 h2)⟩⟩
  · cases e
end DF

namespace DF
variable {gq : Bool}
open PySem PySem.Spec PyProof.Rows L2
noncomputable def tyN : D → String
  | .non => "NoneType" | .bl _ => "bool" | .int _ => "int" | .str _ => "str" | .tup _ => "tuple" | .lst _ => "list" | .dic _ => "dict" | .fro _ => "list" | .obj _ _ => "" | .fn _ => ""
theorem tyX_of {K : PySem.W.Frag} {G H : Hp} {d : D} {v : V} (eS : Evl.Ex G H) (h : Top K G H d v) (hn : ∀ c fs, d ≠ .obj c fs) (hm : ∀ x, d ≠ .fn x) : TyX K H v (.type (tyN d)) := by
  cases d with
  | non => cases h; exact .base .non
  | bl b => cases h; exact .base (.bl b)
  | int i => cases h; exact .base (.int i)
  | str x => cases h; exact .base (.str x)
  | obj c fs => exact absurd rfl (hn c fs)
  | fn x => exact absurd rfl (hm x)
  | tup l =>
    cases h with
    | tup h r =>
      rcases Evl.ex_t eS h with (h | ⟨o, h⟩) | ⟨o, its, n, h1, h2, _⟩
      · exact .base (.tup h)
      · exact .fTuple h
      · exact .kTuple h1 h2
  | lst l => obtain ⟨a, xs, rfl, h1, h2⟩ := h; exact .base (.lst h1)
  | dic l =>
    obtain ⟨a, xs, rfl, h1 | ⟨o, h1⟩, h2⟩ := h
    · exact .base (.dK h1)
    · exact .fDict h1
  | fro l =>
    cases h with
    | fro h r =>
      rcases Evl.ex_l eS h with (h | ⟨o, h⟩) | ⟨o, its, n, h1, h2, _⟩
      · exact .base (.lst h)
      · exact .base (.frz h)
      · exact .kList h1 h2
noncomputable def isiD (n : String) (d : D) : Option D := match d with
  | .obj _ _ => none
  | .fn _ => none
  | d => (kitB (tyN d) n).map .bl
noncomputable def dIsi (n : String) (f : DEnv → R Th) : DEnv → R D := fun ρ => (f ρ).bind fun t ρ1 => match t ρ1 with
  | some d => ofO ρ1 (isiD n d)
  | none => .no
theorem de_isi {X : Cx} {W : WX} {a c : Expr} {f : DEnv → R Th} {n : String} {p pos : Pos} (ha : DO X W a f) (hc : PE X c (tC (.ty n))) (hg : Gl X "isinstance") (hm : X.mg "isinstance" = none) (hv : bootBuiltins "isinstance" = some (.builtin "isinstance"))
    (h1 : starEach [a, c] X.env = (false, eval a X.env) :: starEach [c] X.env := by rfl) (h2 : starEach [c] X.env = (false, eval c X.env) :: starEach [] X.env := by rfl) (hpl : (backTo pos (starEach [c] X.env)).any (·.1) = false := by rfl) :
    DE X W (.Call (.Name "isinstance" p) [a, c] [] pos) (dIsi n f) :=
  pe_imp (pe_callB (x := "isinstance") call_isi hg hm hv (pa_cons ha (pa_cons hc pa_nil h2) h1) (by decide) (by decide) h1 hpl) fun σ H Q ⟨ρ, G, R, h⟩ => ⟨ρ, G, R, (Go.bind R h).imp fun t ρ1 G1 H1 s1 R1 h1 v hv => by
    split at h1
    · rename_i d e1
      by_cases hn : ∃ c fs, d = .obj c fs
      · obtain ⟨c, fs, rfl⟩ := hn
        exact False.elim h1
      · have hn : ∀ c fs, d ≠ .obj c fs := fun c fs z => hn ⟨c, fs, z⟩
        have hm : ∀ x, d ≠ .fn x := fun x z => by subst z; exact False.elim h1
        have hi : isiD n d = (kitB (tyN d) n).map .bl := by
          cases d with
          | obj c fs => exact absurd rfl (hn c fs)
          | fn x => exact absurd rfl (hm x)
          | _ => rfl
        rw [hi] at h1
        cases e2 : kitB (tyN d) n with
        | none => rw [e2] at h1; exact False.elim h1
        | some b =>
          rw [e2] at h1
          exact ⟨v, .ty n, _, _, b, rfl, .ty n, tyX_of R1.sub (hv ρ1 G1 H1 d .refl R1 e1) hn hm, kit_ty e2, h1 G1 H1 .refl R1 _ (.bl b)⟩
    · exact False.elim h1⟩
noncomputable def rprD (xs : List D) : Option D := match xs with
  | [.bl b] => some (.str (if b then "True" else "False"))
  | [.int i] => if i.natAbs.log2 < 1920 then some (.str (toString i)) else none
  | _ => none
noncomputable def rRpr : List V → Hp → VK → Prop := fun xs H Q => (∃ b, xs = [.bl b] ∧ Q (.str (if b then "True" else "False")) H) ∨ ∃ i, xs = [.int i] ∧ i.natAbs.log2 < 1920 ∧ Q (.str (toString i)) H
theorem call_rpr {X : Cx} : CallR X (.builtin "repr") rRpr := by
  intro pins s σ H xs us Q I r h
  rcases h with ⟨b, rfl, q⟩ | ⟨i, rfl, hz, q⟩
  · obtain ⟨u, rfl, r1⟩ := vals1 r
    cases r1
    exact PySem.P.repr_of_bool ⟨.str _, H, I.tok _, ⟨_, rfl⟩, q⟩
  · obtain ⟨u, rfl, t, rfl⟩ := vals1 r
    exact PySem.P.repr_of_int hz ⟨.str _, H, I.tok _, ⟨_, rfl⟩, q⟩
theorem cas_rpr {K : PySem.W.Frag} : CaS K rRpr rprD := fun xs z vs G H Q eS hx e k => by
  unfold rprD at e
  split at e
  · obtain ⟨v, rfl, h⟩ := tops1 hx
    cases h; cases e
    exact .inl ⟨_, rfl, k _ G H (New.refl eS) (.str _)⟩
  · obtain ⟨v, rfl, h⟩ := tops1 hx
    cases h
    split at e
    · rename_i hz
      cases e
      exact .inr ⟨_, rfl, hz, k _ G H (New.refl eS) (.str _)⟩
    · cases e
  · cases e
noncomputable def set2 (i j : Nat) (d e : D) (ρ : DEnv) : Option DEnv := match setV i d ρ with
  | none => none
  | some ρ1 => setV j e ρ1
noncomputable def dDic0 : DEnv → R D := fun ρ => .ok ρ (.dic [])
theorem df_dic0 {X : Cx} {W : WX} {pos : Pos} : DF' X W (.Dict [] [] pos) dDic0 := pe_imp pe_dnewK fun σ H Q ⟨ρ, G, R, h⟩ p hp => by
  have N : New G H G (upd H p (.dK [])) := New.hid R.sub hp
  have no : ∀ b, ¬ Mu b ρ σ p := fun b ⟨i, d, e1, e2⟩ => by
    obtain ⟨a, e3, _, e4⟩ := R.mu i b d e1
    rw [e2] at e3; cases e3
    obtain ⟨o, ho⟩ := e4.there
    rw [hp] at ho; cases ho
  exact h _ _ (N.stp R) (N.rep R) p (sub_none R.sub hp) (no false) (no true) hp ⟨[], upd_same, .nil⟩
structure Has (P : Program) (w : World) (K : PySem.W.Frag) (mg : Str → Option Value) (base : Heap) (x : Str) (k : Nat) (ps : List Str) (F : Fn) (gq : Bool := true) : Prop where
  ex : ∃ (f : Addr) (fd : FuncData), mg x = some (.ref f) ∧ PySem.W.keepIn K (.ref f) = true ∧ Binds K fd ps [] ∧ FnG P w K mg base (L2.CX P w) k f fd ps (spD K ps.length F) gq
section
variable {X : Cx} {W : WX} {e : Expr} {es : List Expr} {x : Str} {p pos : Pos} {k j : Nat} {ps : List Str} {F : Fn} {f : DEnv → R (List AD)}
theorem dx_has (h : Has X.prog X.w X.K X.mg X.base x j ps F gq) (hr : RoomG k X.A gq) (hj : j ≤ k) (tk : Takes X W) (hg : Gl X x)
    (ha : DR X W (e :: es) f) (hdb : (x == ("__debug__" : Str)) = false := by decide) (he : starEach (e :: es) X.env = (false, eval e X.env) :: starEach es X.env := by rfl) (hpl : (backTo pos (starEach es X.env)).any (·.1) = false := by rfl) :
    DX X W (.Call (.Name x p) (e :: es) [] pos) (dCal2 ps.length F f) := by
  obtain ⟨fa, fd, hm, hk, hb, FO⟩ := h.ex
  exact dx_call FO (hr.mono hj) tk hg hm hk hb ha hdb he hpl
theorem dx_hasN (h : Has X.prog X.w X.K X.mg X.base x j ps F gq) (hr : RoomG k X.A gq) (hj : j ≤ k) (hg : Gl X x)
    (ha : DR X WN (e :: es) f) (hdb : (x == ("__debug__" : Str)) = false := by decide) (he : starEach (e :: es) X.env = (false, eval e X.env) :: starEach es X.env := by rfl) (hpl : (backTo pos (starEach es X.env)).any (·.1) = false := by rfl) {ar : Nat} (har : ps.length = ar := by rfl) :
    DX X WN (.Call (.Name x p) (e :: es) [] pos) (dCal2 ar F f) := by
  subst har
  obtain ⟨fa, fd, hm, hk, hb, FO⟩ := h.ex
  exact dx_callN FO (hr.mono hj) hg hm hk hb ha hdb he hpl
end
end DF

namespace DF
open PySem PySem.Spec PyProof.Rows L2
section
variable {X : Cx} {W : WX} {a b e : Expr} {es : List Expr} {x : Str} {id T : String} {p pos : Pos} {r : List V → Hp → VK → Prop} {g : List D → Option D} {f : DEnv → R (List Th)}
theorem de_callB (hc : CallR X (.builtin id) r) (hs : CaS X.K r g) (hg : Gl X x) (hm : X.mg x = none) (hv : bootBuiltins x = some (.builtin id)) (ha : DA X W (e :: es) f) (hn : x ≠ "__name__" := by decide) (hdb : (x == ("__debug__" : Str)) = false := by decide)
    (he : starEach (e :: es) X.env = (false, eval e X.env) :: starEach es X.env := by rfl) (hpl : (backTo pos (starEach es X.env)).any (·.1) = false := by rfl) : DE X W (.Call (.Name x p) (e :: es) [] pos) (dCal g f) :=
  pe_imp (pe_callB hc hg hm hv ha hn hdb he hpl) (tcal hs)
theorem de_callTy (hc : CallR X (.type T) r) (hs : CaS X.K r g) (hg : Gl X x) (hm : X.mg x = none) (hv : bootBuiltins x = some (.type T)) (ha : DA X W (e :: es) f) (hn : x ≠ "__name__" := by decide) (hdb : (x == ("__debug__" : Str)) = false := by decide)
    (he : starEach (e :: es) X.env = (false, eval e X.env) :: starEach es X.env := by rfl) (hpl : (backTo pos (starEach es X.env)).any (·.1) = false := by rfl) : DE X W (.Call (.Name x p) (e :: es) [] pos) (dCal g f) :=
  pe_imp (pe_callTy hc hg hm hv ha hn hdb he hpl) (tcal hs)
theorem de_callM (hc : CallR X (.builtin id) r) (hs : CaS X.K r g) (hg : Gl X x) (hm : X.mg x = some (.builtin id)) (ha : DA X W (e :: es) f) (hdb : (x == ("__debug__" : Str)) = false := by decide)
    (he : starEach (e :: es) X.env = (false, eval e X.env) :: starEach es X.env := by rfl) (hpl : (backTo pos (starEach es X.env)).any (·.1) = false := by rfl) : DE X W (.Call (.Name x p) (e :: es) [] pos) (dCal g f) :=
  pe_imp (pe_callBfun hc hg hm ha hdb he hpl) (tcal hs)
theorem pe_tyn (hg : Gl X x) (hm : X.mg x = none) (hv : bootBuiltins x = some (.type T)) (hn : x ≠ "__name__" := by decide) (hdb : (x == ("__debug__" : Str)) = false := by decide) : PE X (.Name x pos) (tC (.ty T)) :=
  ⟨fun pins s σ H Q I h => ld_blt I hg hm hv ⟨.ty T, H, I, rfl, h⟩ hn hdb⟩
end
noncomputable def negD (x : D) : Option D := match x with
  | .int i => some (.int (-i))
  | _ => none
theorem uns_neg {K : PySem.W.Frag} : UnS K (rU fun i => .int (-i)) negD := fun x z v G H Q eS hx e k => by
  unfold negD at e
  split at e
  · cases hx; cases e
    exact ⟨_, rfl, k _ G H (New.refl eS) (.int _)⟩
  · cases e
noncomputable def cutD (l : List D) (lo hi : Option Int) : List D := (l.drop (HT.sIx l.length 0 lo)).take (HT.sIx l.length l.length hi - HT.sIx l.length 0 lo)
theorem cut_iss {K : PySem.W.Frag} {G : Hp} {l : List D} {xs : List V} {lo hi : Option Int} (h : Iss K G l xs) : Iss K G (cutD l lo hi) (cutV xs lo hi) := by
  unfold cutD cutV
  rw [← h.length]
  exact (h.drop _).take _
structure CPart (X : Cx) (e : Option Expr) (i : Option Int) : Prop where
  h : ∃ t, PO X e t ∧ ∀ σ H Q, Q i H → t σ H Q
theorem cp_no {X : Cx} : CPart X none none := ⟨⟨_, po_none, fun _ _ _ q => q⟩⟩
theorem cp_int {X : Cx} {i : Int} {j pos} : CPart X (some (.Constant (.int i) j pos)) (some i) := ⟨⟨_, po_some pe_int, fun _ _ _ q => ⟨i, rfl, q⟩⟩⟩
noncomputable def cutO (lo hi : Option Int) (x : D) : Option D := match listOf x with
  | some l => some (.lst (cutD l lo hi))
  | none => none
noncomputable def dCut (lo hi : Option Int) (f : DEnv → R Th) : DEnv → R D := dUn (cutO lo hi) f
theorem de_cut {X : Cx} {W : WX} {e : Expr} {elo ehi : Option Expr} {p2 pos : Pos} {lo hi : Option Int} {f : DEnv → R Th} (h : DO X W e f) (hl : CPart X elo lo) (hu : CPart X ehi hi) : DE X W (.Subscript e (.Slice elo ehi none p2) pos) (dCut lo hi f) := by
  obtain ⟨tl, h1, h2⟩ := hl.h
  obtain ⟨tu, h3, h4⟩ := hu.h
  refine pe_imp (pe_slice sl_list h h1 h3) fun σ H Q ⟨ρ, G, R, h⟩ => ⟨ρ, G, R, (Go.bind R h).imp fun t ρ' G' H' s R' h v hv => ?_⟩
  split at h
  · rename_i d e1
    unfold cutO at h
    cases e2 : listOf d with
    | none => rw [e2] at h; exact False.elim h
    | some l =>
      rw [e2] at h
      obtain ⟨a, xs, rfl, q1, q2⟩ := listOf_top R'.sub (hv ρ' G' H' d .refl R' e1) e2
      refine h2 _ _ _ (h4 _ _ _ ⟨a, xs, rfl, q1, fun p hp => ?_⟩)
      have N : New G' H' (upd G' p (.lst (cutV xs lo hi))) (upd H' p (.lst (cutV xs lo hi))) := New.put R'.sub hp
      exact h _ _ (N.stp R') (N.rep R') _ (.lst upd_same ((cut_iss q2).mono N.g))
  · exact False.elim h
section
variable {X : Cx}
noncomputable def addD : D → D → Option D := orD addI (orD catL catT)
noncomputable def mulD : D → D → Option D := orD mulI (orD repL repT)
end
noncomputable def set3 (i j k : Nat) (d e u : D) (ρ : DEnv) : Option DEnv := match setV i d ρ with
  | none => none
  | some ρ1 => match setV j e ρ1 with
    | none => none
    | some ρ2 => setV k u ρ2
noncomputable def intsOf : D → Nat
  | .int i => i.natAbs
  | .tup l => go l
  | .lst l => go l
  | .fro l => go l
  | _ => 0
where go : List D → Nat
  | [] => 0
  | .int i :: l => i.natAbs + go l
  | _ :: l => go l
noncomputable def fuel (as : List (Bool × D)) : Nat := as.foldl (fun n p => n + intsOf p.2) 1000
end DF
namespace DF
open PySem PySem.Spec PyProof.Rows L2
theorem mul_ok : ∀ i j : Int, cMul i j = true → CMulW i j := fun i j h => by unfold cMul at h; rw [decide_eq_true_eq] at h; exact h
end DF

namespace DF
open PySem PySem.Spec PyProof.Rows L2
theorem hsp_of {K : PySem.W.Frag} {F : Fn} {ns : List Int} {G H : Hp} {a : Addr} (hF : F [(false, .fro (ns.map D.int))] = .ret false (.bl true) []) (eS : Evl.Ex G H) (tb : TabK K G H) (hS : SqL K G a (ns.map V.int)) :
    spD K 1 F [.ref a] H (fun v _ => v = .bl true) (fun _ _ _ => False) := by
  refine ⟨rfl, G, [(false, .fro (ns.map D.int))], eS, tb, .val (.fro hS (Iss.of_ints ns)) .nil, List.nodup_nil, ?_⟩
  rw [hF]
  intro v G' H' _ _ h
  cases h
  rfl
theorem cx_end {P : Program} {w : World} {H : Hp} {s : Shared} {e : Value} {s' : Shared} (h : L2.CX P w [] H s (fun _ _ _ => False) e s') : False := by
  obtain ⟨_, _, _, _, _, _, _, _, _, _, _, _, h⟩ := h
  exact h
end DF

namespace DF
open PySem PySem.Spec PyProof.Rows L2
@[simp] theorem dC_ap (d : D) (ρ : DEnv) : dC d ρ = .ok ρ d := id rfl
@[simp] theorem dVar_ap (i : Nat) (ρ : DEnv) : dVar i ρ = match ρ[i]? with
  | some (some (.val d)) => .ok ρ d
  | some (some (.mu false d)) => .ok (ρ.set i (some (.val d))) d
  | _ => .no := id rfl
@[simp] theorem oVar_ap (i : Nat) (ρ : DEnv) : oVar i ρ = match ρ[i]? with
  | some (some _) => .ok ρ (look i)
  | _ => .no := id rfl
@[simp] theorem oD_ap (f : DEnv → R D) (ρ : DEnv) : oD f ρ = (f ρ).bind fun d ρ' => .ok ρ' fun _ => some d := id rfl
@[simp] theorem aNil_ap  (ρ : DEnv) : aNil  ρ = .ok ρ [] := id rfl
@[simp] theorem aCons_ap (f : DEnv → R Th) (g : DEnv → R (List Th)) (ρ : DEnv) : aCons f g ρ = (f ρ).bind fun t ρ1 => (g ρ1).bind fun l ρ2 => .ok ρ2 (t :: l) := id rfl
@[simp] theorem vNil_ap  (ρ : DEnv) : vNil  ρ = .ok ρ [] := id rfl
@[simp] theorem vCons_ap (f : DEnv → R D) (g : DEnv → R (List D)) (ρ : DEnv) : vCons f g ρ = (f ρ).bind fun t ρ1 => (g ρ1).bind fun l ρ2 => .ok ρ2 (t :: l) := id rfl
@[simp] theorem dBin_ap (g : D → D → Option D) (fa fb : DEnv → R Th) (ρ : DEnv) : dBin g fa fb ρ = (fa ρ).bind fun ta ρ1 => (fb ρ1).bind fun tb ρ2 => match ta ρ2, tb ρ2 with
  | some x, some y => ofO ρ2 (g x y)
  | _, _ => .no := id rfl
@[simp] theorem dTst_ap (f : DEnv → R D) (ρ : DEnv) : dTst f ρ = (f ρ).bind fun d ρ' => match d with
  | .bl b => .ok ρ' b
  | _ => .no := id rfl
@[simp] theorem dUn_ap (g : D → Option D) (fa : DEnv → R Th) (ρ : DEnv) : dUn g fa ρ = (fa ρ).bind fun ta ρ1 => match ta ρ1 with
  | some x => ofO ρ1 (g x)
  | none => .no := id rfl
@[simp] theorem dCal_ap (g : List D → Option D) (f : DEnv → R (List Th)) (ρ : DEnv) : dCal g f ρ = (f ρ).bind fun l ρ1 => match ths l ρ1 with
  | some xs => ofO ρ1 (g xs)
  | none => .no := id rfl
@[simp] theorem dSeq_ap (f g : DEnv → SR) (ρ : DEnv) : dSeq f g ρ = (f ρ).bind g := id rfl
@[simp] theorem dNever_ap  (ρ : DEnv) : dNever  ρ = .no := id rfl
@[simp] theorem dIf_ap (c : DEnv → R Bool) (f g : DEnv → SR) (ρ : DEnv) : dIf c f g ρ = (c ρ).bindS fun b ρ' => match b with
  | true => f ρ'
  | false => g ρ' := id rfl
@[simp] theorem dRet_ap (f : DEnv → R D) (ρ : DEnv) : dRet f ρ = (f ρ).bindS fun d ρ' => .ret ρ' false d := id rfl
@[simp] theorem dRetF_ap (f : DEnv → R D) (ρ : DEnv) : dRetF f ρ = (f ρ).bindS fun d ρ' => .ret ρ' true d := id rfl
@[simp] theorem dRetV_ap (i : Nat) (ρ : DEnv) : dRetV i ρ = match ρ[i]? with
  | some (some (.val d)) => .ret ρ false d
  | some (some (.mu false d)) => .ret ρ true d
  | _ => .no := id rfl
@[simp] theorem dExpr_ap (f : DEnv → R D) (ρ : DEnv) : dExpr f ρ = (f ρ).bindS fun _ ρ' => .nx ρ' := id rfl
@[simp] theorem dSet_ap (i : Nat) (f : DEnv → R D) (ρ : DEnv) : dSet i f ρ = (f ρ).bindS fun d ρ' => match setV i d ρ' with
  | none => .no
  | some ρ2 => .nx ρ2 := id rfl
@[simp] theorem dSetF_ap (i : Nat) (f : DEnv → R D) (ρ : DEnv) : dSetF i f ρ = match f ρ with
  | .no => .no
  | .ex ρ' e => .ex ρ' e
  | .ok ρ' d => match setF i d ρ' with
    | none => .no
    | some ρ2 => .nx ρ2 := id rfl
@[simp] theorem gsNil_ap  (ds : List D) (ρ : DEnv) : gsNil  ds ρ = match ds with
  | [] => some ρ
  | _ => none := id rfl
@[simp] theorem gsCons_ap (f : Tg) (g : List D → DEnv → Option DEnv) (ds : List D) (ρ : DEnv) : gsCons f g ds ρ = match ds with
  | [] => none
  | d :: r => match f d ρ with
    | none => none
    | some ρ1 => g r ρ1 := id rfl
@[simp] theorem gTp_ap (n : Nat) (f : List D → DEnv → Option DEnv) (d : D) (ρ : DEnv) : gTp n f d ρ = match d with
  | .tup l => if l.length = n then f l ρ else none
  | _ => none := id rfl
@[simp] theorem dAsg_ap (f : DEnv → R D) (g : Tg) (ρ : DEnv) : dAsg f g ρ = (f ρ).bindS fun d ρ' => match g d ρ' with
  | none => .no
  | some ρ2 => .nx ρ2 := id rfl
@[simp] theorem sRng1_ap (f : DEnv → R (List D)) (ρ : DEnv) : sRng1 f ρ = (f ρ).bind fun l ρ' => match l with
  | [.int j] => if inR j = true then .ok ρ' (rng 0 j.toNat) else .no
  | _ => .no := id rfl
@[simp] theorem sRng2_ap (f : DEnv → R (List D)) (ρ : DEnv) : sRng2 f ρ = (f ρ).bind fun l ρ' => match l with
  | [.int i, .int j] => if inR i = true then if inR j = true then .ok ρ' (rng i (j - i).toNat) else .no else .no
  | _ => .no := id rfl
@[simp] theorem dForS_ap (s : DEnv → R (List D)) (g : Tg) (b : DEnv → SR) (ρ : DEnv) : dForS s g b ρ = (s ρ).bindS fun l ρ' => dFor g b l ρ' := id rfl
@[simp] theorem dTru_ap (f : DEnv → R Th) (ρ : DEnv) : dTru f ρ = (f ρ).bind fun t ρ' => match t ρ' with
  | none => .no
  | some d => ofO ρ' (tru d) := id rfl
@[simp] theorem dAnd_ap (f g : DEnv → R Bool) (ρ : DEnv) : dAnd f g ρ = (f ρ).bind fun b ρ' => match b with
  | true => g ρ'
  | false => .ok ρ' false := id rfl
@[simp] theorem dOr_ap (f g : DEnv → R Bool) (ρ : DEnv) : dOr f g ρ = (f ρ).bind fun b ρ' => match b with
  | true => .ok ρ' true
  | false => g ρ' := id rfl
@[simp] theorem dNot_ap (f : DEnv → R Bool) (ρ : DEnv) : dNot f ρ = (f ρ).bind fun b ρ' => .ok ρ' (!b) := id rfl
@[simp] theorem dAndV_ap (f g : DEnv → R D) (ρ : DEnv) : dAndV f g ρ = (f ρ).bind fun d ρ' => match d with
  | .bl true => g ρ'
  | .bl false => .ok ρ' (.bl false)
  | _ => .no := id rfl
@[simp] theorem dOrV_ap (f g : DEnv → R D) (ρ : DEnv) : dOrV f g ρ = (f ρ).bind fun d ρ' => match d with
  | .bl true => .ok ρ' (.bl true)
  | .bl false => g ρ'
  | _ => .no := id rfl
@[simp] theorem dNotV_ap (f : DEnv → R D) (ρ : DEnv) : dNotV f ρ = (f ρ).bind fun d ρ' => match d with
  | .bl b => .ok ρ' (.bl (!b))
  | _ => .no := id rfl
@[simp] theorem dIte_ap (t : DEnv → R Bool) (f g : DEnv → R D) (ρ : DEnv) : dIte t f g ρ = (t ρ).bind fun b ρ' => match b with
  | true => f ρ'
  | false => g ρ' := id rfl
@[simp] theorem dChain_ap (g g' : D → D → Option D) (f1 f2 f3 : DEnv → R Th) (ρ : DEnv) : dChain g g' f1 f2 f3 ρ = (f1 ρ).bind fun t1 ρ1 => (f2 ρ1).bind fun t2 ρ2 => match t1 ρ2, t2 ρ2 with
  | some x, some y => match g x y with
    | some (.bl true) => (f3 ρ2).bind fun t3 ρ3 => match t2 ρ3, t3 ρ3 with
      | some y', some z => ofO ρ3 (g' y' z)
      | _, _ => .no
    | some (.bl false) => .ok ρ2 (.bl false)
    | _ => .no
  | _, _ => .no := id rfl
@[simp] theorem dTup_ap (f : DEnv → R (List D)) (ρ : DEnv) : dTup f ρ = (f ρ).bind fun l ρ' => if l.length ≤ 1000 then .ok ρ' (.tup l) else .no := id rfl
@[simp] theorem dLst_ap (f : DEnv → R (List D)) (ρ : DEnv) : dLst f ρ = (f ρ).bind fun l ρ' => if l.length ≤ 1000 then .ok ρ' (.lst l) else .no := id rfl
@[simp] theorem dApp_ap (i : Nat) (f : DEnv → R D) (ρ : DEnv) : dApp i f ρ = match muL i ρ with
  | none => .no
  | some _ => (f ρ).bindS fun d ρ' => match muL i ρ' with
    | none => .no
    | some (b, l) => if l.length < 16000000 then .nx (ρ'.set i (some (.mu b (.lst (l ++ [d]))))) else .no := id rfl
@[simp] theorem dSetI_ap (i : Nat) (fk f : DEnv → R D) (ρ : DEnv) : dSetI i fk f ρ = (f ρ).bindS fun d ρ1 => match muL i ρ1 with
  | none => .no
  | some _ => (fk ρ1).bindS fun k ρ2 => match muL i ρ2, k with
    | some (b, l), .int n => match ixN l.length n with
      | none => .no
      | some j => .nx (ρ2.set i (some (.mu b (.lst (l.set j d)))))
    | _, _ => .no := id rfl
@[simp] theorem rNil_ap  (ρ : DEnv) : rNil  ρ = .ok ρ [] := id rfl
@[simp] theorem rVal_ap (f : DEnv → R D) (g : DEnv → R (List AD)) (ρ : DEnv) : rVal f g ρ = (f ρ).bind fun d ρ1 => (g ρ1).bind fun l ρ2 => .ok ρ2 (.v d :: l) := id rfl
@[simp] theorem rIo_ap (i : Nat) (g : DEnv → R (List AD)) (ρ : DEnv) : rIo i g ρ = if isMu ρ i = true then (g ρ).bind fun l ρ2 => .ok ρ2 (.io i :: l) else .no := id rfl
@[simp] theorem dCal2_ap (ar : Nat) (F : Fn) (f : DEnv → R (List AD)) (ρ : DEnv) : dCal2 ar F f ρ = (f ρ).bind fun l ρ1 => if l.length = ar then match argsD ρ1 l with
  | none => .no
  | some as => if (ioIx l).Nodup then match F as with
    | .no => .no
    | .ret fr d os => match putD ρ1 l os with
      | none => .no
      | some ρ2 => .ok ρ2 (fr, d)
    | .exc e os => match putD ρ1 l os with
      | none => .no
      | some ρ2 => .ex ρ2 e
    else .no
  else .no := id rfl
@[simp] theorem dV_ap (f : DEnv → R (Bool × D)) (ρ : DEnv) : dV f ρ = (f ρ).bind fun p ρ' => .ok ρ' p.2 := id rfl
@[simp] theorem dN_ap (f : DEnv → R (Bool × D)) (ρ : DEnv) : dN f ρ = (f ρ).bind fun p ρ' => match p with
  | (true, d) => .ok ρ' d
  | (false, _) => .no := id rfl
@[simp] theorem tYesB_ap  (ρ : DEnv) : tYesB  ρ = .ok ρ true := id rfl
@[simp] theorem dLc_ap (s : DEnv → R (List D)) (g : Tg) (t : DEnv → R Bool) (f : DEnv → R D) (vs : List Nat) (ρ : DEnv) : dLc s g t f vs ρ = (s ρ).bind fun l ρ1 => if noMu ρ1 vs = true then dLcGo g t f vs l [] (wipeE ρ1 vs) else .no
 := id rfl
@[simp] theorem dIsi_ap (n : String) (f : DEnv → R Th) (ρ : DEnv) : dIsi n f ρ = (f ρ).bind fun t ρ1 => match t ρ1 with
  | some d => ofO ρ1 (isiD n d)
  | none => .no := id rfl
@[simp] theorem dDic0_ap  (ρ : DEnv) : dDic0  ρ = .ok ρ (.dic []) := id rfl
theorem SR.bind_ret {ρ : DEnv} {fr : Bool} {d : D} {g : DEnv → SR} : (SR.ret ρ fr d).bind g = .ret ρ fr d := rfl
theorem ltD_ap (i j : Int) : ltD (.int i) (.int j) = some (.bl (decide (i < j))) := rfl
theorem leD_ap (i j : Int) : leD (.int i) (.int j) = some (.bl (decide (i ≤ j))) := rfl
theorem gtD_ap (i j : Int) : gtD (.int i) (.int j) = some (.bl (decide (j < i))) := rfl
theorem geD_ap (i j : Int) : geD (.int i) (.int j) = some (.bl (decide (j ≤ i))) := rfl
theorem addD_ap (i j : Int) : addD (.int i) (.int j) = some (.int (i + j)) := rfl
theorem subD_ap (i j : Int) : subD (.int i) (.int j) = some (.int (i - j)) := rfl
theorem mulI_ap {i j : Int} (h : cMul i j = true) : mulI (.int i) (.int j) = some (.int (i * j)) := by
  show (if cMul i j = true then some (D.int (i * j)) else none) = _
  rw [if_pos h]
theorem mulD_ap {i j : Int} (h : cMul i j = true) : mulD (.int i) (.int j) = some (.int (i * j)) := by
  unfold mulD orD
  rw [mulI_ap h]
theorem divD_ap {i j : Int} (h : cDiv i j = true) : divD (.int i) (.int j) = some (.int (i.fdiv j)) := by
  show (if cDiv i j = true then some (D.int (i.fdiv j)) else none) = _
  rw [if_pos h]
theorem modD_ap {i j : Int} (h : j ≠ 0) : modD (.int i) (.int j) = some (.int (i.fmod j)) := by
  show (if decide (j ≠ 0) = true then some (D.int (i.fmod j)) else none) = _
  rw [if_pos (decide_eq_true h)]
theorem powD_ap {i j : Int} (h : cPow i j = true) : powD (.int i) (.int j) = some (.int (i ^ j.toNat)) := by
  show (if cPow i j = true then some (D.int (i ^ j.toNat)) else none) = _
  rw [if_pos h]
theorem negD_ap (i : Int) : negD (.int i) = some (.int (-i)) := rfl
theorem absD_ap (i : Int) : absD [.int i] = some (.int i.natAbs) := by
  show some (D.int (if i < 0 then -i else i)) = _
  congr 2
  split <;> omega
theorem intD_ap (i : Int) : intD [.int i] = some (.int i) := rfl
theorem intD_apB (b : Bool) : intD [.bl b] = some (.int (if b then 1 else 0)) := rfl
mutual
noncomputable def plainD : Nat → D → Bool
  | _, .int _ => true
  | _, .bl _ => true
  | _, .str x => PyData.canLay0 (.str x)
  | _, .non => true
  | n + 1, .tup l => plainDs n l
  | n + 1, .lst l => plainDs n l
  | n + 1, .fro l => plainDs n l
  | _, _ => false
noncomputable def plainDs : Nat → List D → Bool
  | _, [] => true
  | n, d :: l => plainD n d && plainDs n l
end
mutual
theorem plain_toP : ∀ {n : Nat} {d : D}, plainD n d = true → ∃ p, toP d = some p ∧ p.canLay0 = true ∧ p.depth ≤ n
  | _, .int i, _ => ⟨_, rfl, rfl, Nat.zero_le _⟩
  | _, .bl i, _ => ⟨_, rfl, rfl, Nat.zero_le _⟩
  | _, .str i, h => ⟨_, rfl, by unfold plainD at h; exact h, Nat.zero_le _⟩
  | _, .non, _ => ⟨_, rfl, rfl, Nat.zero_le _⟩
  | n + 1, .tup l, h => by
    obtain ⟨ps, e, h1, h2⟩ := plain_toPs (n := n) (l := l) h
    exact ⟨.tuple ps, by unfold toP; rw [e]; rfl, h1, Nat.succ_le_succ h2⟩
  | n + 1, .lst l, h => by
    obtain ⟨ps, e, h1, h2⟩ := plain_toPs (n := n) (l := l) h
    exact ⟨.list ps, by unfold toP; rw [e]; rfl, h1, Nat.succ_le_succ h2⟩
  | n + 1, .fro l, h => by
    obtain ⟨ps, e, h1, h2⟩ := plain_toPs (n := n) (l := l) h
    exact ⟨.list ps, by unfold toP; rw [e]; rfl, h1, Nat.succ_le_succ h2⟩
  | 0, .tup l, h => by cases h
  | 0, .lst l, h => by cases h
  | 0, .fro l, h => by cases h
  | 0, .dic l, h => by cases h
  | 0, .obj c fs, h => by cases h
  | _ + 1, .obj c fs, h => by cases h
  | _ + 1, .dic l, h => by cases h
theorem plain_toPs : ∀ {n : Nat} {l : List D}, plainDs n l = true → ∃ ps, toPs l = some ps ∧ PyData.canLayAll0 ps = true ∧ PyData.depthAll ps ≤ n
  | _, [], _ => ⟨[], rfl, rfl, Nat.zero_le _⟩
  | n, d :: l, h => by
    have h' : (plainD n d && plainDs n l) = true := by unfold plainDs at h; exact h
    rw [Bool.and_eq_true] at h'
    obtain ⟨p, e1, h1, h2⟩ := plain_toP h'.1
    obtain ⟨ps, e2, h3, h4⟩ := plain_toPs h'.2
    refine ⟨p :: ps, by unfold toPs; rw [e1, e2]; rfl, ?_, ?_⟩
    · unfold PyData.canLayAll0; rw [h1, h3]; rfl
    · unfold PyData.depthAll; exact Nat.max_le.mpr ⟨h2, h4⟩
end
theorem eqP_plain {d e : D} (h1 : plainD 9 d = true) (h2 : plainD 9 e = true) : ∃ p q, toP d = some p ∧ toP e = some q ∧ eqP d e = some (p.eqv q) := by
  obtain ⟨p, e1, c1, d1⟩ := plain_toP h1
  obtain ⟨q, e2, c2, d2⟩ := plain_toP h2
  refine ⟨p, q, e1, e2, ?_⟩
  unfold eqP
  rw [e1, e2]
  have s : ∀ {r : PyData}, r.canLay0 = true → r.depth ≤ 9 → SeqAt.shaped r = true := fun {r} a b => by
    unfold SeqAt.shaped
    rw [a, Bool.true_and]
    exact decide_eq_true (by omega)
  show (if SeqAt.shaped p = true ∧ SeqAt.shaped q = true then some (p.eqv q) else none) = _
  rw [if_pos ⟨s c1 d1, s c2 d2⟩]
theorem eq_int (i j : Int) : eqD1 (.int i) (.int j) = some (.bl (decide (i = j))) := by
  obtain ⟨p, q, e1, e2, e3⟩ := eqP_plain (d := .int i) (e := .int j) rfl rfl
  cases e1
  cases e2
  unfold eqD1
  rw [e3]
  rfl
theorem ne_int (i j : Int) : neD1 (.int i) (.int j) = some (.bl (!decide (i = j))) := by
  obtain ⟨p, q, e1, e2, e3⟩ := eqP_plain (d := .int i) (e := .int j) rfl rfl
  cases e1
  cases e2
  unfold neD1
  rw [e3]
  rfl
end DF

namespace DF
open PySem PySem.Spec PyProof.Rows L2
noncomputable def seqOf (d : D) : Option (List D) := match d with
  | .lst l => some l
  | .fro l => some l
  | .tup l => some l
  | _ => none
theorem seqOf_top {K : PySem.W.Frag} {G H : Hp} {d : D} {l : List D} {v : V} (eS : Evl.Ex G H) (h : Top K G H d v) (e : seqOf d = some l) : ∃ a xs, v = .ref a ∧ (SqL K H a xs ∨ SqT K H a xs) ∧ Iss K G l xs := by
  cases d with
  | lst m => cases e; obtain ⟨a, xs, rfl, h1, h2⟩ := h; exact ⟨a, xs, rfl, .inl (Evl.sq_of h1), h2⟩
  | fro m => cases e; cases h with | fro h1 h2 => exact ⟨_, _, rfl, .inl (Evl.ex_l eS h1), h2⟩
  | tup m => cases e; cases h with | tup h1 h2 => exact ⟨_, _, rfl, .inr (Evl.ex_t eS h1), h2⟩
  | _ => cases e
noncomputable def dMk (g : D → Option (List D)) (f : DEnv → R Th) : DEnv → R D := fun ρ => (f ρ).bind fun t ρ' => match t ρ' with
  | none => .no
  | some d => match g d with
    | none => .no
    | some l => .ok ρ' (.lst l)
theorem df_mk {X : Cx} {W : WX} {e : Expr} {g : D → Option (List D)} {f : DEnv → R Th} {r : V → Hp → VK → Prop} (h : PE X e fun σ H Q => tO X.K W f σ H fun v H1 => r v H1 Q)
    (hs : ∀ (d : D) (l : List D) (v : V) (G H : Hp) (Q : VK), Evl.Ex G H → Top X.K G H d v → g d = some l → (∀ p vs, H p = none → Iss X.K G l vs → Q (.ref p) (upd H p (.lst vs))) → r v H Q) : DF' X W e (dMk g f) :=
  pe_imp h fun σ H Q ⟨ρ, G, R, h⟩ => ⟨ρ, G, R, by
    cases e1 : f ρ with
    | no =>
      have h2 : dMk g f ρ = .no := by unfold dMk; rw [e1]; rfl
      rw [h2] at h; exact h
    | ex ρ' ee =>
      have h2 : dMk g f ρ = .ex ρ' ee := by unfold dMk; rw [e1]; rfl
      rw [h2] at h; exact h
    | ok ρ' t =>
      have h2 : dMk g f ρ = match t ρ' with
        | none => .no
        | some d => match g d with
          | none => .no
          | some l => .ok ρ' (.lst l) := by unfold dMk; rw [e1]; rfl
      rw [h2] at h
      intro G' H' s R' v hv
      split at h
      · exact False.elim h
      · rename_i d e2
        split at h
        · exact False.elim h
        · rename_i l e3
          exact hs d l v G' H' Q R'.sub (hv ρ' G' H' d .refl R' e2) e3 fun p vs hp hvs => fresh_lst R s R' (fun G' H' s R q1 q2 q3 q4 q5 q6 => h G' H' s R q1 q2 q3 q4 q5 q6) hvs p hp⟩
section
variable {X : Cx} {W : WX} {e : Expr} {p pos : Pos} {f : DEnv → R Th}
theorem df_list (hg : Gl X "list") (hm : X.mg "list" = none) (ha : DO X W e f) (h1 : starEach [e] X.env = (false, eval e X.env) :: starEach [] X.env := by rfl) (hpl : (backTo pos (starEach [] X.env)).any (·.1) = false := by rfl) : DF' X W (.Call (.Name "list" p) [e] [] pos) (dMk seqOf f) :=
  df_mk (r := fun v H1 Q => ∃ p ys, v = .ref p ∧ (SqL X.K H1 p ys ∨ SqT X.K H1 p ys) ∧ ∀ l, H1 l = none → Q (.ref l) (upd H1 l (.lst ys)))
    (pe_imp (pe_callTy call_list_of hg hm boot_list (pa_cons ha pa_nil h1) (by decide) (by decide) h1 hpl) fun σ H Q ⟨ρ, G, R, h⟩ => ⟨ρ, G, R, h.imp fun t ρ' G' H' s R' h v hv => by
      obtain ⟨p, ys, rfl, q1, q2⟩ := h v hv
      exact ⟨p, ys, rfl, q1, q2⟩⟩)
    fun d l v G H Q eS ht e k => by
      obtain ⟨a, xs, rfl, q1, q2⟩ := seqOf_top eS ht e
      exact ⟨a, xs, rfl, q1, fun l hl => k l xs hl q2⟩
noncomputable def revO (d : D) : Option (List D) := (listOf d).map List.reverse
theorem df_rev {k : Nat} {p1 p2 p3 : Pos} (ha : DO X W e f) : DF' X W (.Subscript e (.Slice none none (some (.UnaryOp .USub (.Constant (.int 1) k p1) p2)) p3) pos) (dMk revO f) :=
  df_mk (r := fun v H1 Q => ∃ a xs, v = .ref a ∧ SqL X.K H1 a xs ∧ ∀ p, H1 p = none → Q (.ref p) (upd H1 p (.lst xs.reverse))) (pe_revL ha)
    fun d l v G H Q eS ht e k => by
      unfold revO at e
      cases q : listOf d with
      | none => rw [q] at e; cases e
      | some m =>
        rw [q] at e
        cases e
        obtain ⟨a, xs, rfl, q1, q2⟩ := listOf_top eS ht q
        exact ⟨a, xs, rfl, q1, fun p hp => k p _ hp q2.reverse⟩
end
end DF

namespace DF
open PySem PySem.Spec PyProof.Rows L2
noncomputable abbrev enO (a : Addr) : Obj := { cls := .type "enumerate", data := .fields #[.none, .bool false, .ref a, rawInt 0, .none, .none] }
set_option maxHeartbeats 1000000 in
theorem enum_new1 {u : Value} {ob : Obj} {HH : Heap → Prop} (BB : Begins u ob HH) : Meets (Builtin.«enumerate.__new__» ⟨[.type "enumerate", u], []⟩) (fun _ R s => HH s.heap ∧ R (.ok (.ret (.ref (s.heap.push ob).objs.size))) { s with heap := (s.heap.push ob).push (enO s.heap.objs.size) }) :=
  .of_wp fun pg wl A R s hyp => by
    obtain ⟨hp0, g0, d0, tk0, os0⟩ := s
    obtain ⟨hb, hyp⟩ := hyp
    have hsb := sub_enumerate
    have qq : ∀ {A' : Around} {EE : Value → Shared → Prop} {QQ : Value → Shared → Prop}, QQ (.ref hp0.objs.size) ⟨hp0.push ob, g0, d0, tk0, os0⟩ → wpAny (model pg wl) A' (pyIter u) QQ EE ⟨hp0, g0, d0, tk0, os0⟩ :=
      fun q => BB.iter pg wl _ _ ⟨hp0, g0, d0, tk0, os0⟩ _ hb q
    wp_walk using qq
    refine wpAny_stack_any fun st => wpAny_pure ?_
    split
    · rename_i c _ _ _ _ _
      cases (c == Value.type "enumerate")
      · wp_walk using qq
        exact ⟨_, rfl, hyp⟩
      · wp_walk using qq
        exact ⟨_, rfl, hyp⟩
    · wp_walk using qq
      exact ⟨_, rfl, hyp⟩
theorem enum_call1 {prog : Program} {w : World} {A : Around} {E : Value → Shared → Prop} {s : Shared} {u : Value} {ob : Obj} {HH : Heap → Prop} {Q : Value → Shared → Prop} (BB : Begins u ob HH) (h1 : HH s.heap)
    (h : ∀ h', IsEnum h' (s.heap.objs.size + 1) s.heap.objs.size 0 .none → h'.get? s.heap.objs.size = some ob → (∀ b o, s.heap.get? b = some o → h'.get? b = some o) → Q (.ref (s.heap.objs.size + 1)) { s with heap := h' }) :
    wpAny (model prog w) A (call (.type "enumerate") [u]) Q E s := by
  refine callType_new F.called_enumerate (by decide) (F.typeCall_enumerate_1 _) (F.newCall_enumerate_1 _) (fun obj => F.args_object_init_2 obj _) F.entry_enumerate_new (enum_new1 BB) ⟨h1, ?_⟩
  have sz : (s.heap.push ob).objs.size = s.heap.objs.size + 1 := Heap.size_push ..
  show _ ∧ _
  rw [sz]
  have he : IsEnum ((s.heap.push ob).push (enO s.heap.objs.size)) (s.heap.objs.size + 1) s.heap.objs.size 0 .none := by
    have q := Heap.get?_push_size (s.heap.push ob) (o := enO s.heap.objs.size) rfl
    rw [sz] at q
    exact q
  exact ⟨⟨_, he, rfl⟩, h _ he (Heap.get?_push_of_some _ (Heap.get?_push_size _ BB.free)) fun b o x => Heap.get?_push_of_some _ (Heap.get?_push_of_some _ x)⟩
noncomputable def Itp (K : PySem.W.Frag) (a : Addr) (n : Nat) : It :=
  ⟨fun i H => ∃ (xs : List V) (x : V), SqT K H a xs ∧ xs.length = n ∧ xs[i]? = some x, fun i H v H' => ∃ T x, v = .ref T ∧ H T = none ∧ H' = upd H T (.tup [.int (i : Nat), x]) ∧ ∀ xs, SqT K H a xs → xs[i]? = some x, fun i H => ∃ xs : List V, SqT K H a xs ∧ xs.length = n ∧ n ≤ i⟩
theorem turn_enumT {P : Program} {w : World} {K : PySem.W.Frag} {elts : List Expr} {kk : Nat} {tpos : Pos} (a e it : Addr) (n : Nat) :
    Turn P w K (.Tuple elts kk tpos) (Itp K a n) [e, it] e (fun i h => (∃ old, IsEnum h e it ((i : Nat) : Int) old) ∧ h.IsTupleIter it a i ∧ e ≠ it ∧ a ≠ it ∧ a ≠ e ∧ i ≤ n) where
  mem := List.mem_cons_self
  obj := fun i h st b hb => by
    obtain ⟨⟨old, he⟩, ⟨o, ho, hc, hd⟩, _⟩ := st
    rcases List.mem_cons.mp hb with z | z
    · subst z; exact ⟨_, he, fun v q => nomatch q⟩
    · have z := List.mem_singleton.mp z
      subst z; exact ⟨o, ho, fun v q => by rw [hd] at q; cases q⟩
  keep := fun i h h' st k => by
    obtain ⟨⟨old, he⟩, hi, hne⟩ := st
    exact ⟨⟨old, k e (by simp) _ he⟩, hi.at fun o q => k it (by simp) o q, hne⟩
  item := by
    intro X eP eW eK hc i pins s σ H E I hf st hg
    subst eP eW eK
    obtain ⟨⟨old, he⟩, hit, hne, hai, hae, hin⟩ := st
    obtain ⟨xs, x, hq, hxn, hx⟩ := hg
    obtain ⟨its, rv, p, hz⟩ := I.tuple hq
    have hlt : i < its.toArray.size := by
      rw [List.size_toArray, ← rv.length]
      exact (List.getElem?_eq_some_iff.mp hx).1
    have hel : e < s.heap.objs.size := Heap.lt_size he
    have hil : it < s.heap.objs.size := by obtain ⟨_, q, _⟩ := hit; exact Heap.lt_size q
    refine wpAny_pyNext_enum_itemD (Draws.tuple (prog := X.prog) (w := X.w) (A := X.A.in1) (show X.A.in1.handled = none from I.ok.hd hc) it a hai its.toArray) he ⟨hit, p⟩ hlt hne (by simp; exact ⟨hne, fun z => hae z.symm⟩) fun u h' tk hu ho hs' hT hsz hk => ?_
    have ru : RelV x u := by
      obtain ⟨u', hu', ru⟩ := rv.get hx
      have : its.toArray[i]? = some u' := by simpa using hu'
      rw [hu] at this
      cases this
      exact ru
    refine ⟨_, rfl, wpAny_letOwnedTupleGo_enum (s := { s with heap := h', toks := tk + 1 }) ho fun h'' he' sb => ?_⟩
    have hT2 : h''.get? s.heap.objs.size = some { cls := .type "tuple", data := .seq #[.int i tk, u] } := (sb.2 _ (Nat.ne_of_gt hel)).trans hT
    have nw : ObjOk X.prog X.w (upd H s.heap.objs.size (.tup [.int (i : Nat), x])) h'' s.heap.objs.size (.tup [.int (i : Nat), x]) :=
      ⟨show 2 ≤ sizeLine by decide, [.int i tk, u], .cons ⟨_, rfl⟩ (.cons ru .nil), ⟨_, hT2, rfl, _, rfl⟩⟩
    have I1 : Inv X pins σ (upd H s.heap.objs.size (.tup [.int (i : Nat), x])) { s with heap := h'', toks := tk + 1 } :=
      I.turnedNew (t' := tk + 1) (ch := [e, it]) (fun b ob nb q => (sb.2 b fun z => nb (by simp [z])).trans (hk b ob (fun z => nb (by simp [z])) (fun z => nb (by simp [z])) q)) hf (Nat.le_refl _) nw
    refine ⟨.ref s.heap.objs.size, _, I1, rfl, ⟨_, x, rfl, I.hok.fresh (Nat.le_refl _), rfl, fun ys hy => ?_⟩, ⟨⟨u, ?_⟩, hs'.1.at fun o q => (sb.2 it hne.symm).trans q, hne, hai, hae, by rw [← hxn]; exact (List.getElem?_eq_some_iff.mp hx).1⟩, fun b hb => ?_⟩
    · have z : ys = xs := I.tuple_inj hy hq
      rw [z]; exact hx
    · rw [show ((i + 1 : Nat) : Int) = (i : Int) + 1 by omega]; exact he'
    · have lb : b < s.heap.objs.size := by
        rcases List.mem_cons.mp hb with z | z
        · rw [z]; exact hel
        · rw [List.mem_singleton.mp z]; exact hil
      rw [upd_ne (Nat.ne_of_lt lb)]
      exact (hf b hb).1
  done := by
    intro X eP eW eK hc i pins s σ H E I hf st hg
    subst eP eW eK
    obtain ⟨⟨old, he⟩, hit, hne, hai, hae, hin⟩ := st
    obtain ⟨xs, hq, hxn, hx⟩ := hg
    obtain ⟨its, rv, p, hz⟩ := I.tuple hq
    obtain ⟨f0, f1, f2, f3, f4, f5⟩ := hf it (by simp)
    have ei : i = its.toArray.size := by rw [List.size_toArray, ← rv.length]; omega
    subst ei
    exact wpAny_pyNext_enum_endD (Draws.tuple (prog := X.prog) (w := X.w) (A := X.A.in1) (show X.A.in1.handled = none from I.ok.hd hc) it a hai its.toArray) he ⟨hit, p⟩ fun h' eb => ⟨rfl, I.turned (t' := s.toks) (fun b o hb q => eb b o hb q) f0 f1 f3 f4 f5⟩
  self := fun A i s Q E st h => by
    obtain ⟨⟨_, he⟩, _⟩ := st
    exact wpAny_pyIter_enum he h
noncomputable def iEnumT (K : PySem.W.Frag) (ta : TA) : TI := fun σ H R => ta σ H fun vs H1 => ∃ a xs, vs = [.ref a] ∧ SqT K H1 a xs ∧ R (Itp K a xs.length) H1
theorem pi_enumT {X : Cx} {e : Expr} {ta : TA} {p pos tpos : Pos} {elts : List Expr} {kk : Nat} (hg : Gl X "enumerate") (hm : X.mg "enumerate" = none) (ha : PA X [e] ta) (hs : starEach [e] X.env = [(false, eval e X.env)] := by rfl) :
    PI X (.Tuple elts kk tpos) (.Call (.Name "enumerate" p) [e] [] pos) (iEnumT X.K ta) := by
  refine ⟨fun pins s σ H R I hyp => ?_⟩
  refine Call_ (ld_blt I hg hm boot_enumerate (PyProof.Rows.callWith_type1 (thn (ha.run pos pins s σ H _ I hyp) fun us s1 ⟨vs, H1, I1, r1, qq⟩ => ?_) hs rfl))
  obtain ⟨a, xs, ex, hq, q⟩ := qq
  subst ex
  cases r1 with
  | cons r rr =>
    cases rr
    cases r
    obtain ⟨its, rv, pt, hz⟩ := I1.tuple hq
    refine enum_call1 (begins_tuple a its.toArray) pt fun h' he hit hk => wpAny_pyIter_enum he ?_
    have I2 : Inv X pins σ H1 { s1 with heap := h' } := I1.kept (t' := s1.toks) hk
    have la : a < s1.heap.objs.size := by obtain ⟨_, z, _⟩ := pt; exact Heap.lt_size z
    refine ⟨s1.heap.objs.size + 1, [s1.heap.objs.size + 1, s1.heap.objs.size], _, _, H1, rfl, I2, turn_enumT a (s1.heap.objs.size + 1) s1.heap.objs.size xs.length, ⟨⟨.none, he⟩, ⟨_, hit, rfl, rfl⟩, Nat.succ_ne_self _, Nat.ne_of_lt la, Nat.ne_of_lt (Nat.lt_succ_of_lt la), Nat.zero_le _⟩, fun b hb => ?_, q⟩
    have lb : s1.heap.objs.size ≤ b := by
      rcases List.mem_cons.mp hb with z | z
      · rw [z]; exact Nat.le_succ _
      · rw [List.mem_singleton.mp z]; exact Nat.le_refl _
    exact I1.fpOk lb (I1.hok.fresh lb)
noncomputable def enD : Nat → List D → List D
  | _, [] => []
  | i, x :: r => .tup [.int (i : Nat), x] :: enD (i + 1) r
theorem enD_length : ∀ (i : Nat) (l : List D), (enD i l).length = l.length
  | _, [] => rfl
  | i, x :: r => congrArg (· + 1) (enD_length (i + 1) r)
theorem enD_get : ∀ (k : Nat) (l : List D) (i : Nat) (d : D), (enD k l)[i]? = some d → ∃ x, l[i]? = some x ∧ d = .tup [.int ((k + i : Nat) : Int), x]
  | _, [], _, _, e => by simp [enD] at e
  | k, x :: r, 0, d, e => by
    simp [enD] at e
    exact ⟨x, rfl, e.symm⟩
  | k, x :: r, i + 1, d, e => by
    obtain ⟨y, h1, h2⟩ := enD_get (k + 1) r i d (by simpa [enD] using e)
    exact ⟨y, by simpa using h1, by rw [h2, show k + 1 + i = k + (i + 1) by omega]⟩
theorem enum_yield {K : PySem.W.Frag} {G H H' : Hp} {T : Addr} {i : Nat} {d : D} {x : V} (eS : Evl.Ex G H) (hT : H T = none) (e : H' = upd H T (.tup [.int (i : Nat), x])) (hx : Is K G d x) : ∃ G', New G H G' H' ∧ Is K G' (.tup [.int (i : Nat), d]) (.ref T) := by
  subst e
  have N : New G H (upd G T (.tup [.int (i : Nat), x])) (upd H T (.tup [.int (i : Nat), x])) := New.put eS hT
  exact ⟨_, N, .tup (Evl.st_of upd_same) (.cons (.int _) (.cons (hx.mono N.g) .nil))⟩
theorem ite_s {K : PySem.W.Frag} {G0 : Hp} {l : List D} {a : Addr} {xs : List V} (h : SqL K G0 a xs) (r : Iss K G0 l xs) : ItS K G0 (enD 0 l) (Ite K a) where
  go := fun i d G H e eG eH => by
    obtain ⟨y, h1, rfl⟩ := enD_get 0 l i d e
    obtain ⟨v, e1, e2⟩ := r.get h1
    have hL : SqL K H a xs := Evl.ex_l eH (Evl.ex_l eG h)
    refine ⟨⟨xs, v, hL, e1⟩, fun x H' ⟨T, z, ev, hT, eH', q⟩ => ?_⟩
    subst ev
    have q1 := q xs hL
    rw [e1] at q1; cases q1
    rw [Nat.zero_add]
    exact enum_yield eH hT eH' (e2.mono eG)
  stop := fun i G H e eG eH => ⟨xs, Evl.ex_l eH (Evl.ex_l eG h), by rw [← r.length]; rw [enD_length] at e; exact e⟩
theorem itp_s {K : PySem.W.Frag} {G0 : Hp} {l : List D} {a : Addr} {xs : List V} (h : SqT K G0 a xs) (r : Iss K G0 l xs) : ItS K G0 (enD 0 l) (Itp K a xs.length) where
  go := fun i d G H e eG eH => by
    obtain ⟨y, h1, rfl⟩ := enD_get 0 l i d e
    obtain ⟨v, e1, e2⟩ := r.get h1
    have hL : SqT K H a xs := Evl.ex_t eH (Evl.ex_t eG h)
    refine ⟨⟨xs, v, hL, rfl, e1⟩, fun x H' ⟨T, z, ev, hT, eH', q⟩ => ?_⟩
    subst ev
    have q1 := q xs hL
    rw [e1] at q1; cases q1
    rw [Nat.zero_add]
    exact enum_yield eH hT eH' (e2.mono eG)
  stop := fun i G H e eG eH => ⟨xs, Evl.ex_t eH (Evl.ex_t eG h), rfl, by rw [← r.length]; rw [enD_length] at e; exact e⟩
noncomputable def sEnL (f : DEnv → R (List D)) : DEnv → R (List D) := fun ρ => (f ρ).bind fun l ρ' => match l with
  | [.lst m] => .ok ρ' (enD 0 m)
  | [.fro m] => .ok ρ' (enD 0 m)
  | _ => .no
noncomputable def sEnT (f : DEnv → R (List D)) : DEnv → R (List D) := fun ρ => (f ρ).bind fun l ρ' => match l with
  | [.tup m] => .ok ρ' (enD 0 m)
  | _ => .no
section
variable {X : Cx} {W : WX} {e : Expr} {p pos tpos : Pos} {elts : List Expr} {kk : Nat} {f : DEnv → R (List D)}
theorem di_enL (hg : Gl X "enumerate") (hm : X.mg "enumerate" = none) (ha : DVs X W [e] f) (hs : starEach [e] X.env = [(false, eval e X.env)] := by rfl) : DI X W (.Tuple elts kk tpos) (.Call (.Name "enumerate" p) [e] [] pos) (sEnL f) :=
  pi_imp (pi_enum hg hm ha hs) fun σ H Q ⟨ρ, G, R, h⟩ => ⟨ρ, G, R, (Go.bind R h).imp fun l ρ' G' H' s R' h vs hv => by
    split at h
    · cases hv with
      | cons h1 h2 =>
        cases h2
        cases h1 with
        | lst q1 q2 => exact ⟨_, _, rfl, Evl.sq_of (R'.sub _ _ q1), h G' H' .refl R' _ (ite_s (Evl.sq_of q1) q2)⟩
    · cases hv with
      | cons h1 h2 =>
        cases h2
        cases h1 with
        | fro q1 q2 => exact ⟨_, _, rfl, Evl.ex_l R'.sub q1, h G' H' .refl R' _ (ite_s q1 q2)⟩
    · exact False.elim h⟩
theorem di_enT (hg : Gl X "enumerate") (hm : X.mg "enumerate" = none) (ha : DVs X W [e] f) (hs : starEach [e] X.env = [(false, eval e X.env)] := by rfl) : DI X W (.Tuple elts kk tpos) (.Call (.Name "enumerate" p) [e] [] pos) (sEnT f) :=
  pi_imp (pi_enumT hg hm ha hs) fun σ H Q ⟨ρ, G, R, h⟩ => ⟨ρ, G, R, (Go.bind R h).imp fun l ρ' G' H' s R' h vs hv => by
    split at h
    · cases hv with
      | cons h1 h2 =>
        cases h2
        cases h1 with
        | tup q1 q2 => exact ⟨_, _, rfl, Evl.ex_t R'.sub q1, h G' H' .refl R' _ (itp_s q1 q2)⟩
    · exact False.elim h⟩
end
end DF

namespace DF
open PySem PySem.Spec PyProof.Rows L2
noncomputable def sRevR (f : DEnv → R D) : DEnv → R (List D) := fun ρ => (f ρ).bind fun d ρ' => match d with
  | .int j => if inR j = true then .ok ρ' (rng 0 j.toNat).reverse else .no
  | _ => .no
theorem itc_s {K : PySem.W.Frag} {G0 : Hp} {j : Int} : ItS K G0 (rng 0 j.toNat).reverse (Itc (0 + (((j - 0).toNat : Nat) : Int) - 1) (-1) (j - 0).toNat) where
  go := fun i d G H e eG eH => by
    have hi : i < (rng 0 j.toNat).reverse.length := (List.getElem?_eq_some_iff.mp e).1
    have hlen : (rng 0 j.toNat).length = j.toNat := by unfold rng; rw [List.length_map, List.length_range]
    rw [List.length_reverse, hlen] at hi
    rw [List.getElem?_reverse (by rw [hlen]; exact hi), hlen] at e
    unfold rng at e
    rw [List.getElem?_map, List.getElem?_range (by omega)] at e
    cases e
    refine ⟨show i < (j - 0).toNat by rw [Int.sub_zero]; exact hi, fun x H' ⟨z, y⟩ => ?_⟩
    subst z y
    refine ⟨G, New.refl eH, ?_⟩
    have : (0 : Int) + ((j.toNat - 1 - i : Nat) : Int) = 0 + (((j - 0).toNat : Nat) : Int) - 1 + (i : Int) * -1 := by
      rw [Int.sub_zero]; omega
    show Is K G (.int (0 + ((j.toNat - 1 - i : Nat) : Int))) _
    rw [this]
    exact .int _
  stop := fun i G H e _ _ => by
    rw [List.length_reverse] at e
    unfold rng at e
    rw [List.length_map, List.length_range] at e
    show (j - 0).toNat ≤ i
    rw [Int.sub_zero]
    exact e
theorem di_revR {X : Cx} {W : WX} {tg a : Expr} {p p2 pos pos2 : Pos} {f : DEnv → R D} (hg : Gl X "reversed") (hm : X.mg "reversed" = none) (hg2 : Gl X "range") (hm2 : X.mg "range" = none) (ha : DE X W a f)
    (na : starEach [a] X.env = (false, eval a X.env) :: starEach [] X.env := by rfl)
    (hs : starEach [.Call (.Name "range" p2) [a] [] pos2] X.env = (false, eval (.Call (.Name "range" p2) [a] [] pos2) X.env) :: starEach [] X.env := by rfl) :
    DI X W tg (.Call (.Name "reversed" p) [.Call (.Name "range" p2) [a] [] pos2] [] pos) (sRevR f) :=
  pi_imp (pi_revR hg hm (prg_1 hg2 hm2 ha na) hs) fun σ H Q ⟨ρ, G, R, h⟩ => ⟨ρ, G, R, (Go.bind R h).imp fun d ρ' G' H' s R' h v hv => by
    split at h
    · rename_i j
      cases hv
      split at h
      · rename_i hj
        exact ⟨j, rfl, by decide, by decide, (inR_of hj).1, (inR_of hj).2, h G' H' .refl R' _ itc_s⟩
      · exact False.elim h
    · exact False.elim h⟩
noncomputable def tP (K : PySem.W.Frag) (W : WX) (f : DEnv → R (Option Int)) : TO := fun σ H Q => ∃ ρ G, Rep K G H ρ σ ∧ Go K W σ ρ G H (fun o _ _ H' => Q o H') (f ρ)
noncomputable abbrev DP (X : Cx) (W : WX) (e : Option Expr) (f : DEnv → R (Option Int)) : Prop := PO X e (tP X.K W f)
theorem po_imp {X : Cx} {e : Option Expr} {t t' : TO} (h : PO X e t) (i : ∀ σ H Q, t' σ H Q → t σ H Q) : PO X e t' := ⟨fun pins s σ H Q I q => h.run pins s σ H Q I (i σ H Q q)⟩
noncomputable def pNo : DEnv → R (Option Int) := fun ρ => .ok ρ none
noncomputable def pInt (f : DEnv → R D) : DEnv → R (Option Int) := fun ρ => (f ρ).bind fun d ρ' => match d with
  | .int i => .ok ρ' (some i)
  | _ => .no
section
variable {X : Cx} {W : WX} {e : Expr} {elo ehi : Option Expr} {p2 pos : Pos}
theorem dp_no : DP X W none pNo := po_imp po_none fun σ H Q ⟨ρ, G, R, h⟩ => h G H .refl R
theorem dp_int {f : DEnv → R D} (h : DE X W e f) : DP X W (some e) (pInt f) := po_imp (po_some h) fun σ H Q ⟨ρ, G, R, h⟩ => ⟨ρ, G, R, (Go.bind R h).imp fun d ρ' G' H' s R' h v hv => by
  split at h
  · cases hv
    exact ⟨_, rfl, h G' H' .refl R'⟩
  · exact False.elim h⟩
noncomputable def slO (d : D) (lo hi : Option Int) : Option D := match d with
  | .lst l => some (.lst (cutD l lo hi))
  | .fro l => some (.lst (cutD l lo hi))
  | .tup l => some (.tup (cutD l lo hi))
  | _ => none
noncomputable def dSl (f : DEnv → R Th) (fl fu : DEnv → R (Option Int)) : DEnv → R D := fun ρ => (f ρ).bind fun t ρ1 => (fl ρ1).bind fun lo ρ2 => (fu ρ2).bind fun hi ρ3 => match t ρ3 with
  | none => .no
  | some d => ofO ρ3 (slO d lo hi)
theorem cut_whole {α : Type} {l : List α} {lo hi : Option Int} (h : HT.sIx l.length 0 lo = 0 ∧ HT.sIx l.length l.length hi = l.length) : (l.drop (HT.sIx l.length 0 lo)).take (HT.sIx l.length l.length hi - HT.sIx l.length 0 lo) = l := by
  rw [h.1, h.2, List.drop_zero, Nat.sub_zero, List.take_length]
theorem de_sl {f : DEnv → R Th} {fl fu : DEnv → R (Option Int)} (h : DO X W e f) (hl : DP X W elo fl) (hu : DP X W ehi fu) : DE X W (.Subscript e (.Slice elo ehi none p2) pos) (dSl f fl fu) :=
  pe_imp (pe_slice (sl_list.or sl_tupA) h hl hu) fun σ H Q ⟨ρ, G, R, h⟩ => ⟨ρ, G, R, (Go.bind R h).imp fun t ρ1 G1 H1 s1 R1 h1 v hv => ⟨ρ1, G1, R1, (Go.bind R1 h1).imp fun lo ρ2 G2 H2 s2 R2 h2 => ⟨ρ2, G2, R2, (Go.bind R2 h2).imp fun hi ρ3 G3 H3 s3 R3 h3 => by
    split at h3
    · exact False.elim h3
    · rename_i d e1
      have ht := hv ρ3 G3 H3 d (s2.trans R1 s3) R3 e1
      have lst : ∀ {l : List D} {a : Addr} {xs : List V}, SqL X.K H3 a xs → Iss X.K G3 l xs → slO d lo hi = some (.lst (cutD l lo hi)) → v = .ref a → (rSlL X.K v lo hi H3 Q ∨ rSlA X.K v lo hi H3 Q) := fun {l a xs} q1 q2 q3 q4 => by
        rw [q3] at h3
        refine .inl ⟨a, xs, q4, q1, fun p hp => ?_⟩
        have N : New G3 H3 (upd G3 p (.lst (cutV xs lo hi))) (upd H3 p (.lst (cutV xs lo hi))) := New.put R3.sub hp
        exact h3 _ _ (N.stp R3) (N.rep R3) _ (.lst upd_same ((cut_iss q2).mono N.g))
      cases d with
      | lst l =>
        obtain ⟨a, xs, q0, q1, q2⟩ := ht
        exact lst (Evl.sq_of q1) q2 rfl q0
      | fro l =>
        cases ht with
        | fro q1 q2 => exact lst (Evl.ex_l R3.sub q1) q2 rfl rfl
      | tup l =>
        cases ht with
        | @tup l a xs q1 q2 =>
          refine .inr ⟨a, xs, rfl, Evl.ex_t R3.sub q1, fun z => ?_, fun z p hp => ?_⟩
          · have hz : cutD l lo hi = l := by
              unfold cutD
              rw [q2.length]
              rw [← q2.length] at z
              rw [← q2.length]
              exact cut_whole z
            have h4 : Go X.K W σ ρ3 G3 H3 (fun d _ G' H' => ∀ v, Is X.K G' d v → Q v H') (DF.R.ok ρ3 (D.tup (cutD l lo hi))) := h3
            rw [hz] at h4
            exact h4 G3 H3 .refl R3 _ (.tup q1 q2)
          · have N : New G3 H3 (upd G3 p (.tup (cutV xs lo hi))) (upd H3 p (.tup (cutV xs lo hi))) := New.put R3.sub hp
            exact h3 _ _ (N.stp R3) (N.rep R3) _ (.tup (Evl.st_of upd_same) ((cut_iss q2).mono N.g))
      | _ => exact False.elim h3⟩⟩⟩
end
end DF

namespace DF
open PySem PySem.Spec PyProof.Rows L2
theorem ints_plain : ∀ ns : List Int, PyData.plainAll (ns.map PyData.int) = true
  | [] => rfl
  | n :: r => by
    show (PyData.plain (.int n) && PyData.plainAll (r.map PyData.int)) = true
    rw [ints_plain r]
    rfl
theorem ints_dp {K : PySem.W.Frag} {H : Hp} : ∀ ns : List Int, DpAll K H (ns.map V.int) (ns.map PyData.int)
  | [] => .nil
  | n :: r => .cons (.int n) (ints_dp r)
noncomputable def rAnyI (K : PySem.W.Frag) : List V → Hp → VK → Prop := fun vs H Q => ∃ (a : Addr) (ns : List Int), vs = [V.ref a] ∧ SqL K H a (ns.map V.int) ∧ Q (.bl (ns.any fun i => i != 0)) H
theorem call_anyI {X : Cx} (hc : X.calm = true) : CallR X (.builtin "any") (rAnyI X.K) := by
  intro pins s σ H vs us Q I r hyp
  obtain ⟨a, ns, ev, hq, q⟩ := hyp
  subst ev
  obtain ⟨its, rv, pl, _⟩ := I.list hq
  rw [Vals.ref1 r]
  obtain ⟨as, rd⟩ := Dp.readsAll I _ _ _ (ints_dp ns) rv
  refine PySem.W.any_list_data (vs := its.toArray) (I.ok.hd hc) pl.isList (by simpa using rd) (ints_plain ns) (fun x hx => by
    obtain ⟨i, _, rfl⟩ := List.mem_map.mp hx
    exact trivial) fun h' tk hk => ⟨.bl _, H, I.kept (t' := tk) hk, ?_, q⟩
  show Value.bool _ = Value.bool _
  rw [List.any_map]
  rfl
noncomputable def anyID (xs : List D) : Option D := match xs with
  | [d] => match listOf d with
    | some l => (intsD l).map fun ns => .bl (ns.any fun i => i != 0)
    | none => none
  | _ => none
theorem cas_anyI {K : PySem.W.Frag} : CaS K (rAnyI K) anyID := fun xs z vs G H Q eS hx e k => by
  unfold anyID at e
  split at e
  · rename_i d
    split at e
    · rename_i l e1
      obtain ⟨v, rfl, h⟩ := tops1 hx
      obtain ⟨a, ys, rfl, h1, h2⟩ := listOf_top eS h e1
      cases q : intsD l with
      | none => rw [q] at e; cases e
      | some ns =>
        rw [q] at e; cases e
        rw [intsD_of q] at h2
        exact ⟨a, ns, rfl, by rw [← h2.ints]; exact h1, k _ G H (New.refl eS) (.bl _)⟩
    · cases e
  · cases e
noncomputable def orC (g g' : List D → Option D) (xs : List D) : Option D := match g xs with
  | some z => some z
  | none => g' xs
theorem cas_or {K : PySem.W.Frag} {r r' : List V → Hp → VK → Prop} {g g' : List D → Option D} (h : CaS K r g) (h' : CaS K r' g') : CaS K (fun xs H Q => r xs H Q ∨ r' xs H Q) (orC g g') := fun xs z vs G H Q eS hx e k => by
  unfold orC at e
  cases q : g xs with
  | some w =>
    rw [q] at e
    cases e
    exact .inl (h xs _ vs G H Q eS hx q k)
  | none =>
    rw [q] at e
    exact .inr (h' xs z vs G H Q eS hx e k)
noncomputable def anyAD : List D → Option D := orC anyD anyID
end DF

namespace DF
open PySem PySem.Spec PyProof.Rows L2
section
variable {prog : Program} {w : World} {A : Around} {E : Value → Shared → Prop} {s : Shared}
end
end DF

namespace DF
open PySem PySem.Spec PyProof.Rows L2
noncomputable abbrev FreshAt (K : PySem.W.Frag) (σ : Sl) (ρ : DEnv) (G H H0 : Hp) (a : Addr) (d : D) : Prop := G a = none ∧ ¬ Mu false ρ σ a ∧ ¬ Mu true ρ σ a ∧ H0 a = none ∧ Cont K G H a d
inductive XAll (K : PySem.W.Frag) (σ : Sl) (ρ : DEnv) (G H H0 : Hp) : List (Bool × D) → List V → List Addr → Prop
  | nil : XAll K σ ρ G H H0 [] [] []
  | val {d : D} {v : V} {l : List (Bool × D)} {vs : List V} {as : List Addr} : Is K G d v → XAll K σ ρ G H H0 l vs as → XAll K σ ρ G H H0 ((false, d) :: l) (v :: vs) as
  | fr {d : D} {a : Addr} {l : List (Bool × D)} {vs : List V} {as : List Addr} : FreshAt K σ ρ G H H0 a d → a ∉ as → XAll K σ ρ G H H0 l vs as → XAll K σ ρ G H H0 ((true, d) :: l) (.ref a :: vs) (a :: as)
theorem XAll.base {K : PySem.W.Frag} {σ : Sl} {ρ : DEnv} {G H H0 H1 : Hp} (t : ∀ b, H1 b = none → H0 b = none) : ∀ {l : List (Bool × D)} {vs : List V} {as : List Addr}, XAll K σ ρ G H H1 l vs as → XAll K σ ρ G H H0 l vs as
  | _, _, _, .nil => .nil
  | _, _, _, .val h r => .val h (XAll.base t r)
  | _, _, _, .fr h n r => .fr ⟨h.1, h.2.1, h.2.2.1, t _ h.2.2.2.1, h.2.2.2.2⟩ n (XAll.base t r)
theorem XAll.none {K : PySem.W.Frag} {σ : Sl} {ρ : DEnv} {G H H0 : Hp} : ∀ {l : List (Bool × D)} {vs : List V} {as : List Addr}, XAll K σ ρ G H H0 l vs as → ∀ a ∈ as, H0 a = none
  | _, _, _, .nil, a, m => by cases m
  | _, _, _, .val h r, a, m => XAll.none r a m
  | _, _, _, .fr h n r, a, m => by
    rcases List.mem_cons.mp m with z | z
    · rw [z]; exact h.2.2.2.1
    · exact XAll.none r a z
section
variable {X : Cx} {W : WX} {e : Expr} {es : List Expr} {f : DEnv → R D} {g : DEnv → R (List (Bool × D))}
end
section
variable {X : Cx} {W : WX} {i j l : Nat} {x y z : Str} {a b c : Expr} {f : DEnv → R (List (Bool × D))} {px py pz pt pos : Pos} {kt k2 pt2}
end
end DF

namespace DF
open PySem PySem.Spec PyProof.Rows L2
end DF

namespace DF
open PySem PySem.Spec PyProof.Rows L2
noncomputable def OpF (K : PySem.W.Frag) (r : R2) (g : D → D → Option D) : Prop := ∀ (x y z : D) (v u : V) (G H : Hp) (Q : VK), Evl.Ex G H → Top K G H x v → Top K G H y u → g x y = some z →
  (∀ p l vs, z = .lst l → H p = none → Iss K G l vs → Q (.ref p) (upd H p (.lst vs))) → r v u H Q
theorem opf_rep {K : PySem.W.Frag} : OpF K rRep repL := fun x y z v u G H Q eS hx hy e k => by
  unfold repL at e
  split at e
  · rename_i l n
    obtain ⟨a, xs, rfl, h1, h2⟩ := hx
    cases hy
    split at e
    · rename_i hl
      cases e
      exact ⟨a, n, xs, rfl, rfl, h1, by omega, by omega, by rw [← h2.length, sizeLine_eq]; omega, fun p hp => k p _ _ rfl hp (h2.rep _)⟩
    · cases e
  · cases e
theorem df_op {X : Cx} {W : WX} {a b : Expr} {op : Operator} {pos : Pos} {r : R2} {g : D → D → Option D} {fa fb : DEnv → R Th} (ho : OpR X (binaryOp op) r) (hs : OpF X.K r g) (hg : ∀ x y z, g x y = some z → ∃ l, z = .lst l) (ha : DO X W a fa) (hb : DO X W b fb) : DF' X W (.BinOp a op b pos) (dBin g fa fb) :=
  pe_imp (pe_op ho ha hb) fun σ H Q ⟨ρ, G, R, h⟩ => ⟨ρ, G, R, by
    unfold dBin at h
    cases e1 : fa ρ with
    | no => rw [e1] at h; exact h
    | ex ρ' ee => rw [e1] at h; exact h
    | ok ρ1 ta =>
      rw [e1] at h
      intro G1 H1 s1 R1 v hv
      refine ⟨ρ1, G1, R1, ?_⟩
      have h : Go X.K W σ ρ G H _ ((fb ρ1).bind fun tb ρ2 => match ta ρ2, tb ρ2 with
        | some x, some y => ofO ρ2 (g x y)
        | _, _ => .no) := h
      cases e2 : fb ρ1 with
      | no => rw [e2] at h; exact h
      | ex ρ' ee => rw [e2] at h; exact fun G2 H2 d s2 R2 => h G2 H2 d (s1.trans R s2) R2
      | ok ρ2 tb =>
        rw [e2] at h
        intro G2 H2 s2 R2 u hu
        have h : Go X.K W σ ρ G H _ (match ta ρ2, tb ρ2 with
          | some x, some y => ofO ρ2 (g x y)
          | _, _ => .no) := h
        split at h
        · rename_i x y ex ey
          cases e : g x y with
          | none => rw [e] at h; exact False.elim h
          | some z =>
            rw [e] at h
            obtain ⟨l, rfl⟩ := hg x y z e
            refine hs x y _ v u G2 H2 Q R2.sub (hv ρ2 G2 H2 x s2 R2 ex) (hu ρ2 G2 H2 y .refl R2 ey) e fun p l' vs ez hp hvs => ?_
            cases ez
            exact fresh_lst R (s1.trans R s2) R2 (fun G' H' s R q1 q2 q3 q4 q5 q6 => h G' H' s R q1 q2 q3 q4 q5 q6) hvs p hp
        · exact False.elim h⟩
theorem repL_lst (x y z : D) (e : repL x y = some z) : ∃ l, z = .lst l := by
  unfold repL at e
  split at e
  · split at e
    · cases e; exact ⟨_, rfl⟩
    · cases e
  · cases e
end DF

namespace DF
open PySem PySem.Spec PyProof.Rows L2
section
variable {X : Cx} {W : WX} {tg : Expr} {p pos : Pos}
end
end DF

namespace DF
open PySem PySem.Spec PyProof.Rows L2
noncomputable def valD (l : List (Key × D)) (k : Key) : Option D := (l.find? fun p => decide (p.1 = k)).map (·.2)
noncomputable def insD (l : List (Key × D)) (k : Key) (d : D) : List (Key × D) :=
  if (l.any fun p => decide (p.1 = k)) = true then l.map (fun p => if p.1 = k then (p.1, d) else p) else l ++ [(k, d)]
noncomputable def keyOf : D → Option Key
  | .int i => some (.inl i)
  | .str x => some (.inr x)
  | _ => none
noncomputable def keyD : Key → D
  | .inl i => .int i
  | .inr x => .str x
theorem keyOf_is {K : PySem.W.Frag} {G : Hp} {d : D} {v : V} {k : Key} (h : Is K G d v) (e : keyOf d = some k) : v = kV k := by
  cases d with
  | int i => cases h; cases e; rfl
  | str x => cases h; cases e; rfl
  | _ => cases e
theorem keyOf_top {K : PySem.W.Frag} {G H : Hp} {d : D} {v : V} {k : Key} (h : Top K G H d v) (e : keyOf d = some k) : v = kV k := by
  cases d with
  | int i => cases h; cases e; rfl
  | str x => cases h; cases e; rfl
  | _ => cases e
theorem keyD_is {K : PySem.W.Frag} {G : Hp} (k : Key) : Is K G (keyD k) (kV k) := by
  cases k with
  | inl i => exact .int i
  | inr x => exact .str x
section
variable {K : PySem.W.Frag} {G : Hp}
theorem Isk.val : ∀ {l : List (Key × D)} {kvs : List (Key × V)}, Isk K G l kvs → ∀ k : Key, match valD l k with
    | some d => ∃ v, valV kvs k = some v ∧ Is K G d v
    | none => valV kvs k = none
  | _, _, .nil, k => rfl
  | _, _, @Isk.cons _ _ k0 d v l xs h r, k => by
    have ih := Isk.val r k
    by_cases e : k0 = k
    · have e1 : valD ((k0, d) :: l) k = some d := by simp [valD, List.find?_cons, e]
      rw [e1]
      exact ⟨v, valV_pos e, h⟩
    · have e1 : valD ((k0, d) :: l) k = valD l k := by simp [valD, List.find?_cons, e]
      rw [e1]
      have e2 : valV ((k0, v) :: xs) k = valV xs k := valV_neg e
      rw [e2]
      exact ih
theorem Isk.any : ∀ {l : List (Key × D)} {kvs : List (Key × V)}, Isk K G l kvs → ∀ k : Key, (l.any fun p => decide (p.1 = k)) = (kvs.any fun p => decide (p.1 = k))
  | _, _, .nil, k => rfl
  | _, _, .cons h r, k => by rw [List.any_cons, List.any_cons, Isk.any r k]
theorem Isk.repl {d : D} {v : V} (hd : Is K G d v) : ∀ {l : List (Key × D)} {kvs : List (Key × V)}, Isk K G l kvs → ∀ k : Key, Isk K G (l.map fun p => if p.1 = k then (p.1, d) else p) (kvs.map fun p => if p.1 = k then (p.1, v) else p)
  | _, _, .nil, k => .nil
  | _, _, @Isk.cons _ _ k0 d0 v0 l xs h r, k => by
    rw [List.map_cons, List.map_cons]
    by_cases e : k0 = k
    · rw [if_pos e, if_pos e]
      exact .cons hd (Isk.repl hd r k)
    · rw [if_neg e, if_neg e]
      exact .cons h (Isk.repl hd r k)
theorem Isk.append : ∀ {l m : List (Key × D)} {xs ys : List (Key × V)}, Isk K G l xs → Isk K G m ys → Isk K G (l ++ m) (xs ++ ys)
  | _, _, _, _, .nil, s => s
  | _, _, _, _, .cons h r, s => .cons h (Isk.append r s)
theorem Isk.put {d : D} {v : V} (hd : Is K G d v) {l : List (Key × D)} {kvs : List (Key × V)} (r : Isk K G l kvs) (k : Key) : Isk K G (insD l k d) (putK kvs k v) := by
  unfold insD putK
  rw [r.any k]
  split
  · exact r.repl hd k
  · exact r.append (.cons hd .nil)
theorem Isk.get : ∀ {l : List (Key × D)} {xs : List (Key × V)} {i : Nat} {k : Key} {d : D}, Isk K G l xs → l[i]? = some (k, d) → ∃ v, xs[i]? = some (k, v) ∧ Is K G d v
  | _, _, _, _, _, .nil, e => by simp at e
  | _, _, 0, _, _, .cons h _, e => by simp at e; obtain ⟨rfl, rfl⟩ := e; exact ⟨_, rfl, h⟩
  | _, _, i + 1, k, d, .cons _ r, e => by
    obtain ⟨v, h1, h2⟩ := Isk.get (i := i) (k := k) (d := d) r (by simpa using e)
    exact ⟨v, by simpa using h1, h2⟩
end
section
variable {X : Cx} {W : WX} {e o k f : Expr} {pos p1 p2 apos cpos : Pos}
noncomputable def dGet2 (fo : DEnv → R Th) (fk fx : DEnv → R D) : DEnv → R D := fun ρ => (fo ρ).bind fun t ρ1 => match t ρ1 with
  | some (.dic _) => (fk ρ1).bind fun kd ρ2 => (fx ρ2).bind fun x ρ3 => match t ρ3, keyOf kd with
    | some (.dic l), some key => .ok ρ3 ((valD l key).getD x)
    | _, _ => .no
  | _ => .no
theorem de_get2 {fo : DEnv → R Th} {fk fx : DEnv → R D} (hu : X.A.units + 1 < cLine) (ho : DO X W o fo) (hk : DE X W k fk) (hx : DE X W f fx) (m : M2 X o "get" apos k f cpos) :
    DE X W (.Call (.Attribute o "get" apos) [k, f] [] cpos) (dGet2 fo fk fx) :=
  pe_imp (pe_dget2 hu ho hk hx m) fun σ H Q ⟨ρ, G, R, h⟩ => ⟨ρ, G, R, (Go.bind R h).imp fun t ρ1 G1 H1 s1 R1 h1 v hv => by
    split at h1
    · rename_i l0 e0
      obtain ⟨a, kvs0, rfl, q1, _⟩ := hv ρ1 G1 H1 _ .refl R1 e0
      refine ⟨a, rfl, .inl ⟨kvs0, q1⟩, ρ1, G1, R1, (Go.bind R1 h1).imp fun kd ρ2 G2 H2 s2 R2 h2 y hy => ⟨ρ2, G2, R2, (Go.bind R2 h2).imp fun x ρ3 G3 H3 s3 R3 h3 z hz => ?_⟩⟩
      split at h3
      · rename_i l key e1 e2
        obtain ⟨a', kvs, ea, q2, q3⟩ := hv ρ3 G3 H3 _ (s2.trans R1 s3) R3 e1
        cases ea
        have ey := keyOf_is hy e2
        subst ey
        refine ⟨valV kvs key, .inl ⟨kvs, key, q2, rfl, rfl⟩, ?_⟩
        have q := q3.val key
        cases ev : valD l key with
        | none =>
          rw [ev] at q h3
          rw [q]
          exact h3 G3 H3 .refl R3 z hz
        | some d =>
          rw [ev] at q h3
          obtain ⟨u, q4, q5⟩ := q
          rw [q4]
          exact h3 G3 H3 .refl R3 u q5
      · exact False.elim h3
    · exact False.elim h1⟩
noncomputable def ixK (x y : D) : Option D := match x, keyOf y with
  | .dic l, some key => valD l key
  | _, _ => none
theorem de_ixK {fo fk : DEnv → R Th} (hu : X.A.units + 1 < cLine) (ho : DO X W o fo) (hk : DO X W k fk) (hs : NoSl k) : DE X W (.Subscript o k pos) (dBin ixK fo fk) :=
  pe_imp (pe_dget hu ho hk hs) fun σ H Q ⟨ρ, G, R, h⟩ => ⟨ρ, G, R, (Go.bind R h).imp fun ta ρ1 G1 H1 s1 R1 h1 v hv => ⟨ρ1, G1, R1, (Go.bind R1 h1).imp fun tb ρ2 G2 H2 s2 R2 h2 u hu => by
    split at h2
    · rename_i x y ex ey
      have hx := hv ρ2 G2 H2 x s2 R2 ex
      have hy := hu ρ2 G2 H2 y .refl R2 ey
      unfold ixK at h2
      split at h2
      · rename_i l key ek
        obtain ⟨a, kvs, rfl, q1, q2⟩ := hx
        have := keyOf_top hy ek
        subst this
        have q := q2.val key
        cases ev : valD l key with
        | none => rw [ev] at h2; exact False.elim h2
        | some d =>
          rw [ev] at q h2
          obtain ⟨w, q4, q5⟩ := q
          exact ⟨a, w, rfl, .inl ⟨kvs, key, q1, rfl, q4.symm⟩, h2 G2 H2 .refl R2 w q5⟩
      · exact False.elim h2
    · exact False.elim h2⟩⟩
noncomputable def inK (x y : D) : Option D := match y, keyOf x with
  | .dic l, some key => some (.bl (valD l key).isSome)
  | _, _ => none
noncomputable def muD (i : Nat) (ρ : DEnv) : Option (Bool × List (Key × D)) := match ρ[i]? with
  | some (some (.mu b (.dic l))) => some (b, l)
  | _ => none
theorem muD_of {ρ : DEnv} {i : Nat} {b : Bool} {l : List (Key × D)} (h : muD i ρ = some (b, l)) : ρ[i]? = some (some (.mu b (.dic l))) := by
  unfold muD at h
  split at h
  · rename_i b' l' e; cases h; exact e
  · cases h
noncomputable def dSetK (i : Nat) (fk f : DEnv → R D) : DEnv → SR := fun ρ => (f ρ).bindS fun d ρ1 => match muD i ρ1 with
  | none => .no
  | some _ => (fk ρ1).bindS fun kd ρ2 => match muD i ρ2, keyOf kd with
    | some (b, l), some key => if l.length < 16000000 then .nx (ρ2.set i (some (.mu b (.dic (insD l key d))))) else .no
    | _, _ => .no
theorem ds_setk {i : Nat} {fk fe : DEnv → R D} (hu : X.A.units + 1 < cLine) (ho : PE X o (tVar i)) (hk : DE X W k fk) (he : DE X W e fe) (hs : swapsWith e (some (.Subscript o k p1)) pos.line X.env = pure false := by rfl) :
    DS X W (.Assign [.Subscript o k p1] e pos) (dSetK i fk fe) :=
  ps_imp (ps_dput hu ho hk he hs) fun E σ H ⟨ρ, G, R, h⟩ => ⟨ρ, G, R, (Go.bindS R h).imp fun d ρ1 G1 H1 s1 R1 h v hv => by
    split at h
    · exact False.elim h
    · rename_i q e1
      obtain ⟨b, l⟩ := q
      have e1 := muD_of e1
      obtain ⟨a, ea, e2, xs, e3, e4⟩ := R1.mu i b _ e1
      refine ⟨.ref a, ea, ρ1, G1, R1, (Go.bindS R1 h).imp fun kd ρ2 G2 H2 s2 R2 h y hy => ?_⟩
      split at h
      · rename_i b' l' key e5 e6
        have e5 := muD_of e5
        obtain ⟨a', ea', e7, ys, e8, e9⟩ := R2.mu i b' _ e5
        rw [ea] at ea'; cases ea'
        have := keyOf_is hy e6
        subst this
        split at h
        · rename_i hl
          refine ⟨a, _, rfl, .inl ⟨ys, key, e8, rfl, by rw [← e9.length, sizeLine_eq]; omega, rfl⟩, ?_⟩
          obtain ⟨s3, R3⟩ := R2.chg (o := .dK (putK ys key v)) (d1 := .dic (insD l' key d)) e5 ea ⟨_, upd_same, e9.put (hv.mono s2.g) key⟩
          exact h σ G2 _ s3 R3
        · exact False.elim h
      · exact False.elim h⟩
theorem itk_s {K : PySem.W.Frag} {G0 : Hp} {l : List (Key × D)} {d : Addr} {o : Obj} {kvs : List (Key × V)} (h : G0 d = some (.frz o (.dK kvs))) (r : Isk K G0 l kvs) : ItS K G0 (l.map fun p => keyD p.1) (Itk d o kvs) where
  go := fun i x G H e eG eH => by
    rw [List.getElem?_map] at e
    cases q : l[i]? with
    | none => rw [q] at e; cases e
    | some p =>
      rw [q] at e
      cases e
      obtain ⟨key, y⟩ := p
      obtain ⟨v, e1, e2⟩ := r.get q
      refine ⟨⟨eH _ _ (eG _ _ h), (List.getElem?_eq_some_iff.mp e1).1⟩, fun x H' ⟨z, k', v', q1, q2⟩ => ?_⟩
      subst z q2
      rw [e1] at q1; cases q1
      exact ⟨G, New.refl eH, keyD_is _⟩
  stop := fun i G H e eG eH => ⟨eH _ _ (eG _ _ h), by rw [← r.length]; rw [List.length_map] at e; exact e⟩
theorem iti_s {K : PySem.W.Frag} {G0 : Hp} {l : List (Key × D)} {d : Addr} {o : Obj} {kvs : List (Key × V)} (h : G0 d = some (.frz o (.dK kvs))) (r : Isk K G0 l kvs) : ItS K G0 (l.map fun p => D.tup [keyD p.1, p.2]) (Iti d o kvs) where
  go := fun i x G H e eG eH => by
    rw [List.getElem?_map] at e
    cases q : l[i]? with
    | none => rw [q] at e; cases e
    | some p =>
      rw [q] at e
      cases e
      obtain ⟨key, y⟩ := p
      obtain ⟨v, e1, e2⟩ := r.get q
      refine ⟨⟨eH _ _ (eG _ _ h), (List.getElem?_eq_some_iff.mp e1).1⟩, fun x H' ⟨T, k', v', q1, q2, q3, q4⟩ => ?_⟩
      subst q2 q4
      rw [e1] at q1; cases q1
      have N : New G H (upd G T (.tup [kV key, v])) (upd H T (.tup [kV key, v])) := New.put eH q3
      exact ⟨_, N, .tup (Evl.st_of upd_same) (.cons (keyD_is _) (.cons ((e2.mono eG).mono N.g) .nil))⟩
  stop := fun i G H e eG eH => ⟨eH _ _ (eG _ _ h), by rw [← r.length]; rw [List.length_map] at e; exact e⟩
noncomputable def sKeys (f : DEnv → R D) : DEnv → R (List D) := fun ρ => (f ρ).bind fun d ρ' => match d with
  | .dic l => .ok ρ' (l.map fun p => keyD p.1)
  | _ => .no
noncomputable def sItems (f : DEnv → R D) : DEnv → R (List D) := fun ρ => (f ρ).bind fun d ρ' => match d with
  | .dic l => .ok ρ' (l.map fun p => D.tup [keyD p.1, p.2])
  | _ => .no
variable {tg : Expr} {elts : List Expr} {kk : Nat} {tpos : Pos}
theorem di_keys {f : DEnv → R D} (h : DE X W e f) : DI X W tg e (sKeys f) := pi_imp (pi_keys h) fun σ H Q ⟨ρ, G, R, h⟩ => ⟨ρ, G, R, (Go.bind R h).imp fun d ρ' G' H' s R' h v hv => by
    cases hv with
    | dic q1 q2 => exact ⟨_, _, rfl, .inl ⟨_, R'.sub _ _ q1, h G' H' .refl R' _ (itk_s q1 q2)⟩⟩
    | _ => exact False.elim h⟩
theorem di_items {f : DEnv → R D} (h : DE X W e f) (hbase : attributeBase e "items" X.env (eval e X.env) = eval e X.env := by rfl) (hline : (apos.endLine == cpos.line) = true := by rfl) : DI X W (.Tuple elts kk tpos) (.Call (.Attribute e "items" apos) [] [] cpos) (sItems f) := pi_imp (pi_items h hbase hline) fun σ H Q ⟨ρ, G, R, h⟩ => ⟨ρ, G, R, (Go.bind R h).imp fun d ρ' G' H' s R' h v hv => by
    cases hv with
    | dic q1 q2 => exact ⟨_, _, _, rfl, R'.sub _ _ q1, h G' H' .refl R' _ (iti_s q1 q2)⟩
    | _ => exact False.elim h⟩
end
end DF

namespace DF
open PySem PySem.Spec PyProof.Rows L2
theorem Isk.keys {K : PySem.W.Frag} {G : Hp} : ∀ {l : List (Key × D)} {kvs : List (Key × V)}, Isk K G l kvs → Iss K G (l.map fun p => keyD p.1) (kvs.map fun p => kV p.1)
  | _, _, .nil => .nil
  | _, _, .cons h r => .cons (keyD_is _) (Isk.keys r)
section
variable {X : Cx} {W : WX} {e : Expr} {p pos apos cpos : Pos} {f : DEnv → R D}
end
end DF

namespace DF
variable {gq : Bool}
open PySem PySem.Spec PyProof.Rows L2
inductive HitsV (K : PySem.W.Frag) (H : Hp) (ls : List (Key × V)) : List (Key × V) → Bool → Prop
  | nil : HitsV K H ls [] true
  | miss {k : Key} {v : V} {r : List (Key × V)} : valV ls k = none → HitsV K H ls ((k, v) :: r) false
  | hit {k : Key} {v y : V} {p q : PyData} {r : List (Key × V)} {b : Bool} : valV ls k = some y → Dp K H v p → Dp K H y q → SeqAt.shaped p = true → SeqAt.shaped q = true → HitsV K H ls r b → HitsV K H ls ((k, v) :: r) (p.eqv q && b)
theorem hitsV_run {X : Cx} {pins : List (Addr × Obj)} {σ : L2.St} {H : Hp} {s : Shared} (I : L2.Inv X pins σ H s) {A : Around} (hu : A.in1.units + 64 < cLine) {ls : List (Key × V)} {vb : List (Key × Value)} (rb : KV ls vb) : ∀ {ks : List (Key × V)} {r : Bool}, HitsV X.K H ls ks r → ∀ {va : List (Key × Value)}, KV ks va → PySem.W.KeqHits A.in1 s vb va r := by
  intro ks r h
  induction h with
  | nil =>
    intro va ra
    cases ra
    exact .nil
  | @miss k v r hk =>
    intro va ra
    cases ra with
    | @cons p q ps qs h t =>
      obtain ⟨k', u⟩ := q
      obtain ⟨h1, h2⟩ := h
      have h1 : k = k' := h1
      subst h1
      have rr : RelO (valV ls k) (valueAt vb k) := rb.val k
      rw [hk] at rr
      have : valueAt vb k = none := by
        cases e : valueAt vb k with
        | none => rfl
        | some w => rw [e] at rr; exact False.elim rr
      exact .miss this
  | @hit k v y p q r b hk hp hq sp sq hr ih =>
    intro va ra
    cases ra with
    | @cons pp qq ps qs h t =>
      obtain ⟨k', u⟩ := qq
      obtain ⟨h1, h2⟩ := h
      have h1 : k = k' := h1
      subst h1
      have rr : RelO (some y) (valueAt vb k) := by rw [← hk]; exact rb.val k
      obtain ⟨w, hw, ry⟩ := rr.some_of
      obtain ⟨as, r1⟩ := Dp.reads I p v u hp h2
      obtain ⟨bs, r2⟩ := Dp.reads I q y w hq ry
      exact .hit hw (PySem.W.keq_at r1 r2 sp sq hu) (ih t)
noncomputable def rEqK (K : PySem.W.Frag) : R2 := fun x y H Q => ∃ a b ks ls r, x = .ref a ∧ y = .ref b ∧ Rd H a (.dK ks) ∧ Rd H b (.dK ls) ∧ HitsV K H ls ks r ∧ Q (.bl (ks.length == ls.length && r)) H
noncomputable def rNeK (K : PySem.W.Frag) : R2 := fun x y H Q => ∃ a b ks ls r, x = .ref a ∧ y = .ref b ∧ Rd H a (.dK ks) ∧ Rd H b (.dK ls) ∧ HitsV K H ls ks r ∧ Q (.bl (!(ks.length == ls.length && r))) H
theorem op_eqK {X : Cx} (hu : X.A.in1.units + 64 < cLine) (hu0 : X.A.units < cLine) : OpR X (compareOp .Eq) (rEqK X.K) := by
  intro pins s σ H x y v u Q I rx ry h
  obtain ⟨a, b, ks, ls, r, rfl, rfl, ha, hb, hh, q⟩ := h
  cases (show v = Value.ref a from rx)
  cases (show u = Value.ref b from ry)
  obtain ⟨_, ya, va, ra, da⟩ := dk_rd I.hok ha
  obtain ⟨_, yb, vb, rb, db⟩ := dk_rd I.hok hb
  refine PySem.W.keq_eq (knd := mixKind X.prog X.w) (r := r) ya yb da db hu0 (fun _ => hitsV_run I hu rb hh ra) ?_
  have e1 : ks.length = va.length := Paired.length ra
  have e2 : ls.length = vb.length := Paired.length rb
  rw [← e1, ← e2]
  exact ⟨.bl _, H, I, rfl, q⟩
theorem op_neK {X : Cx} (hu : X.A.in1.units + 64 < cLine) (hu0 : X.A.units < cLine) : OpR X (compareOp .NotEq) (rNeK X.K) := by
  intro pins s σ H x y v u Q I rx ry h
  obtain ⟨a, b, ks, ls, r, rfl, rfl, ha, hb, hh, q⟩ := h
  cases (show v = Value.ref a from rx)
  cases (show u = Value.ref b from ry)
  obtain ⟨_, ya, va, ra, da⟩ := dk_rd I.hok ha
  obtain ⟨_, yb, vb, rb, db⟩ := dk_rd I.hok hb
  refine PySem.W.keq_ne (knd := mixKind X.prog X.w) (r := r) ya yb da db hu0 (fun _ => hitsV_run I hu rb hh ra) ?_
  have e1 : ks.length = va.length := Paired.length ra
  have e2 : ls.length = vb.length := Paired.length rb
  rw [← e1, ← e2]
  exact ⟨.bl _, H, I, rfl, q⟩
noncomputable def hitsD (m : List (Key × D)) : List (Key × D) → Option Bool
  | [] => some true
  | p :: r => match valD m p.1 with
    | none => some false
    | some e => match eqP p.2 e, hitsD m r with
      | some b, some c => some (b && c)
      | _, _ => none
theorem Is.dp {K : PySem.W.Frag} {G H : Hp} {d : D} {v : V} {p : PyData} (eS : Evl.Ex G H) (h : Is K G d v) (e : toP d = some p) : Dp K H v p := dp_of eS h e
theorem hitsD_run {K : PySem.W.Frag} {G H : Hp} (eS : Evl.Ex G H) {m : List (Key × D)} {ls : List (Key × V)} (rm : Isk K G m ls) : ∀ {l : List (Key × D)} {ks : List (Key × V)} {r : Bool}, Isk K G l ks → hitsD m l = some r → HitsV K H ls ks r
  | _, _, r, .nil, e => by cases e; exact .nil
  | _, _, r, @Isk.cons _ _ k d v l xs h t, e => by
    unfold hitsD at e
    have q := rm.val k
    cases ev : valD m k with
    | none =>
      rw [ev] at q
      have e : (match valD m k with
        | none => some false
        | some e => match eqP d e, hitsD m l with
          | some b, some c => some (b && c)
          | _, _ => none) = some r := e
      rw [ev] at e
      cases e
      exact .miss q
    | some d2 =>
      rw [ev] at q
      obtain ⟨y, q1, q2⟩ := q
      have e : (match valD m k with
        | none => some false
        | some e => match eqP d e, hitsD m l with
          | some b, some c => some (b && c)
          | _, _ => none) = some r := e
      rw [ev] at e
      dsimp only at e
      cases e1 : eqP d d2 with
      | none => rw [e1] at e; cases e
      | some b =>
        cases e2 : hitsD m l with
        | none => rw [e1, e2] at e; cases e
        | some c =>
          rw [e1, e2] at e
          cases e
          obtain ⟨p, pq, t1, t2, s1, s2, rfl⟩ := eqP_of e1
          exact .hit q1 (Is.dp eS h t1) (Is.dp eS q2 t2) s1 s2 (hitsD_run eS rm t e2)
noncomputable def eqKB (x y : D) : Option Bool := match x, y with
  | .dic l, .dic m => (hitsD m l).map fun b => l.length == m.length && b
  | _, _ => none
noncomputable def eqK (x y : D) : Option D := (eqKB x y).map .bl
noncomputable def neK (x y : D) : Option D := (eqKB x y).map fun b => .bl (!b)
theorem eqKB_run {K : PySem.W.Frag} {G H : Hp} (eS : Evl.Ex G H) {x y : D} {v u : V} {b : Bool} (hx : Top K G H x v) (hy : Top K G H y u) (e : eqKB x y = some b) :
    ∃ a c ks ls r, v = .ref a ∧ u = .ref c ∧ Rd H a (.dK ks) ∧ Rd H c (.dK ls) ∧ HitsV K H ls ks r ∧ b = (ks.length == ls.length && r) := by
  unfold eqKB at e
  split at e
  · rename_i l m
    obtain ⟨a, ks, rfl, q1, q2⟩ := hx
    obtain ⟨c, ls, rfl, q3, q4⟩ := hy
    cases e1 : hitsD m l with
    | none => rw [e1] at e; cases e
    | some r =>
      rw [e1] at e
      have e : some (l.length == m.length && r) = some b := e
      cases e
      exact ⟨a, c, ks, ls, r, rfl, rfl, q1, q3, hitsD_run eS q4 q2 e1, by rw [q2.length, q4.length]⟩
  · cases e
theorem ops_eqK {K : PySem.W.Frag} : OpS K (rEqK K) eqK := fun x y z v u G H Q eS hx hy e k => by
  unfold eqK at e
  cases e1 : eqKB x y with
  | none => rw [e1] at e; cases e
  | some b =>
    rw [e1] at e
    cases e
    obtain ⟨a, c, ks, ls, r, rfl, rfl, q1, q2, q3, rfl⟩ := eqKB_run eS hx hy e1
    exact ⟨a, c, ks, ls, r, rfl, rfl, q1, q2, q3, k _ G H (New.refl eS) (.bl _)⟩
theorem ops_neK {K : PySem.W.Frag} : OpS K (rNeK K) neK := fun x y z v u G H Q eS hx hy e k => by
  unfold neK at e
  cases e1 : eqKB x y with
  | none => rw [e1] at e; cases e
  | some b =>
    rw [e1] at e
    cases e
    obtain ⟨a, c, ks, ls, r, rfl, rfl, q1, q2, q3, rfl⟩ := eqKB_run eS hx hy e1
    exact ⟨a, c, ks, ls, r, rfl, rfl, q1, q2, q3, k _ G H (New.refl eS) (.bl _)⟩
end DF
namespace DF
open PySem PySem.Spec PyProof.Rows L2
theorem in1u {k : Nat} {A : Around} (hr : RoomG k A gq) : A.in1.units + 64 < cLine := by
  have := hr.room.un
  show A.units + 1 + 64 < cLine
  omega
noncomputable def eqX : D → D → Option D := orD eqD1 eqK
noncomputable def neX : D → D → Option D := orD neD1 neK
end DF

namespace DF
open PySem PySem.Spec PyProof.Rows L2
noncomputable def rprOk (p : PyData) : Bool := (match p with | .list _ => true | .tuple _ => true | _ => false) && p.showable && !p.hasDict && decide (p.depth ≤ 50) && decide (p.shown.length ≤ sizeLine)
noncomputable def rprCD (xs : List D) : Option D := match xs with
  | [d] => match toP d with
    | some p => if rprOk p = true then some (.str p.shown) else none
    | none => none
  | _ => none
noncomputable def rRprC (K : PySem.W.Frag) : List V → Hp → VK → Prop := fun vs H Q => ∃ v p, vs = [v] ∧ Dp K H v p ∧ rprOk p = true ∧ Q (.str p.shown) H
theorem call_rprC {X : Cx} (hg : X.A.guards = some []) (hu : X.A.units + 64 < cLine) : CallR X (.builtin "repr") (rRprC X.K) := by
  intro pins s σ H vs us Q I r h
  obtain ⟨v, p, rfl, hd, hok, q⟩ := h
  obtain ⟨u, rfl, rv⟩ := vals1 r
  unfold rprOk at hok
  simp only [Bool.and_eq_true, Bool.not_eq_true', decide_eq_true_eq] at hok
  obtain ⟨⟨⟨⟨h0, h1⟩, h2⟩, h3⟩, h4⟩ := hok
  obtain ⟨as, rd⟩ := Dp.reads I p v u hd rv
  have hr : ∃ a, u = .ref a := by
    cases hd with
    | lst _ _ => cases rv; exact ⟨_, rfl⟩
    | tup _ _ => cases rv; exact ⟨_, rfl⟩
    | _ => cases h0
  obtain ⟨a, rfl⟩ := hr
  exact repr_of_reads' rd h1 (PyData.noDict_hsm h2) hg (by omega) (fun _ _ e => e) (fun h' t tk hk => ⟨.str p.shown, H, I.kept (t' := tk) hk, ⟨t, rfl⟩, q⟩) h4
theorem cas_rprC {K : PySem.W.Frag} : CaS K (rRprC K) rprCD := fun xs z vs G H Q eS hx e k => by
  unfold rprCD at e
  split at e
  · rename_i d
    obtain ⟨v, rfl, h⟩ := tops1 hx
    split at e
    · rename_i p e1
      split at e
      · rename_i hok
        cases e
        exact ⟨v, p, rfl, dp_top eS h e1, hok, k _ G H (New.refl eS) (.str _)⟩
      · cases e
    · cases e
  · cases e
noncomputable def rprX : List D → Option D := orC rprD rprCD
end DF

set_option exponentiation.threshold 9000
namespace DF
open PySem PySem.Spec PyProof.Rows L2
section
variable {X : Cx} {W : WX} {e o k : Expr} {es : List Expr} {p pos : Pos} {f : DEnv → R Th}
end
noncomputable def lcmD (xs : List D) : Option D := match xs with
  | [.int i, .int j] => if i.natAbs < 2 ^ 4000 ∧ j.natAbs < 2 ^ 4000 then some (.int ((Nat.lcm i.natAbs j.natAbs : Nat) : Int)) else none
  | _ => none
noncomputable def rLcm : List V → Hp → VK → Prop := fun xs H Q => ∃ i j, xs = [.int i, .int j] ∧ i.natAbs < 2 ^ 4000 ∧ j.natAbs < 2 ^ 4000 ∧ Q (.int ((Nat.lcm i.natAbs j.natAbs : Nat) : Int)) H
theorem call_lcm {X : Cx} : CallR X (.builtin "math.lcm") rLcm := by
  intro pins s σ H xs us Q I r h
  obtain ⟨i, j, rfl, h1, h2, q⟩ := h
  cases r with
  | cons r1 r =>
    cases r with
    | cons r2 r =>
      cases r
      obtain ⟨t, rfl⟩ := r1
      obtain ⟨u, rfl⟩ := r2
      have k1 : (max 1 i.natAbs).log2 < 4000 := (Nat.log2_lt (by omega)).mpr (Nat.max_lt.mpr ⟨Nat.one_lt_two_pow (by decide), h1⟩)
      have k2 : (max i.natAbs j.natAbs).log2 < 4001 := by
        rcases Nat.eq_zero_or_pos (max i.natAbs j.natAbs) with z | z
        · rw [z]; decide
        · exact Nat.lt_succ_of_lt ((Nat.log2_lt (by omega)).mpr (Nat.max_lt.mpr ⟨h1, h2⟩))
      have e1 : Nat.lcm 1 i.natAbs = i.natAbs := Nat.lcm_one_left _
      have k3 : (Nat.lcm i.natAbs j.natAbs) < 2 ^ 8001 := by
        rcases Nat.eq_zero_or_pos (Nat.lcm i.natAbs j.natAbs) with z | z
        · rw [z]; exact Nat.two_pow_pos _
        · refine Nat.lt_of_le_of_lt (Nat.le_trans (Nat.le_of_dvd ?_ (Nat.lcm_dvd_mul _ _)) (Nat.mul_le_mul (Nat.le_of_lt h1) (Nat.le_of_lt h2))) ?_
          · rcases Nat.eq_zero_or_pos i.natAbs with y | y
            · rw [y, Nat.lcm_zero_left] at z; omega
            · rcases Nat.eq_zero_or_pos j.natAbs with y2 | y2
              · rw [y2, Nat.lcm_zero_right] at z; omega
              · exact Nat.mul_pos y y2
          · rw [← Nat.pow_add]; exact Nat.pow_lt_pow_right (by decide) (by decide)
      have k4 : ((((Nat.lcm 1 i.natAbs).lcm j.natAbs : Nat) : Int)).natAbs.log2 < bitsLine := by
        rw [e1, Int.natAbs_natCast]
        rcases Nat.eq_zero_or_pos (Nat.lcm i.natAbs j.natAbs) with z | z
        · rw [z]; decide +kernel
        · exact Nat.lt_trans ((Nat.log2_lt (by omega)).mpr k3) (by decide +kernel)
      refine call_function_meets PySem.W.MGF.kind_lcm PySem.W.MGF.plain_lcm PySem.W.MGF.entry_lcm (PySem.W.MGF.args_lcm _ _) (PySem.W.mg_run_lcm i t j u (by omega) (by omega) k4).meets ?_
      exact ⟨.int _, H, I.tok _, ⟨_, rfl⟩, by rw [e1]; exact q⟩
theorem cas_lcm {K : PySem.W.Frag} : CaS K rLcm lcmD := fun xs z vs G H Q eS hx e k => by
  unfold lcmD at e
  split at e
  · split at e
    · rename_i hz
      obtain ⟨v, u, rfl, h1, h2⟩ := tops2 hx
      cases h1; cases h2; cases e
      exact ⟨_, _, rfl, hz.1, hz.2, k _ G H (New.refl eS) (.int _)⟩
    · cases e
  · cases e
noncomputable def minL (i : Int) (l : List Int) : Int := l.foldl (fun a y => if y < a then y else a) i
noncomputable def maxL (i : Int) (l : List Int) : Int := l.foldl (fun a y => if a < y then y else a) i
theorem minL_of : ∀ (l : List Int) (i : Int), PySem.W.minOf i l = minL i l
  | [], _ => rfl
  | y :: l, i => by
    have h : PySem.W.minOf i (y :: l) = PySem.W.minOf (if y < i then y else i) l := by
      show List.foldl _ (if PySem.W.DatumOrd.lt y i = true then y else i) l = _
      congr 1
      show (if decide (y < i) = true then y else i) = _
      simp only [decide_eq_true_eq]
    rw [h, minL_of l]
    rfl
theorem maxL_of : ∀ (l : List Int) (i : Int), PySem.W.maxOf i l = maxL i l
  | [], _ => rfl
  | y :: l, i => by
    have h : PySem.W.maxOf i (y :: l) = PySem.W.maxOf (if i < y then y else i) l := by
      show List.foldl _ (if PySem.W.DatumOrd.lt i y = true then y else i) l = _
      congr 1
      show (if decide (i < y) = true then y else i) = _
      simp only [decide_eq_true_eq]
    rw [h, maxL_of l]
    rfl
noncomputable def minSD (xs : List D) : Option D := match xs with
  | [d] => match (seqOf d).bind intsD with
    | some (i :: l) => some (.int (minL i l))
    | _ => none
  | _ => none
noncomputable def maxSD (xs : List D) : Option D := match xs with
  | [d] => match (seqOf d).bind intsD with
    | some (i :: l) => some (.int (maxL i l))
    | _ => none
  | _ => none
noncomputable def rMinS (K : PySem.W.Frag) : List V → Hp → VK → Prop := fun vs H Q => ∃ (a : Addr) (i : Int) (l : List Int), vs = [V.ref a] ∧ (SqL K H a ((i :: l).map V.int) ∨ SqT K H a ((i :: l).map V.int)) ∧ Q (.int (minL i l)) H
noncomputable def rMaxS (K : PySem.W.Frag) : List V → Hp → VK → Prop := fun vs H Q => ∃ (a : Addr) (i : Int) (l : List Int), vs = [V.ref a] ∧ (SqL K H a ((i :: l).map V.int) ∨ SqT K H a ((i :: l).map V.int)) ∧ Q (.int (maxL i l)) H
theorem int_held {h : Heap} {v : Value} {m : Int} (x : PySem.W.Holds h v m) : ∃ t, v = .int m t := by
  obtain ⟨as, r⟩ := x
  cases (show Reads h v (.int m) as from r)
  exact ⟨_, rfl⟩
theorem held_all {X : Cx} {pins : List (Addr × Obj)} {σ : Sl} {H : Hp} {s : Shared} {its : List Value} {ns : List Int} (I : Inv X pins σ H s) (rv : Vals (ns.map V.int) its) : PySem.W.HoldAll s.heap its.toArray.toList ns := by
  obtain ⟨as, rd⟩ := Dp.readsAll I _ _ _ (ints_dp ns) rv
  exact ⟨as, by show ReadsAll s.heap its.toArray.toList (ns.map PyData.int) as; simpa using rd⟩
theorem call_minS {X : Cx} (hc : X.calm = true) (hu : X.A.units + 64 < cLine) : CallR X (.builtin "min") (rMinS X.K) := by
  intro pins s σ H vs us Q I r hyp
  obtain ⟨a, i, l, rfl, hq, q⟩ := hyp
  rw [Vals.ref1 r]
  have hz : X.A.units + 1 + PySem.W.Datum.depth Int < cLine := by show X.A.units + 1 + 0 < cLine; omega
  rcases hq with hq | hq
  · obtain ⟨its, rv, pl, _⟩ := I.list hq
    refine PySem.W.min_list_datum (x := i) (xs := l) (I.ok.hd hc) pl.isList (held_all I rv) hz fun j v h' tk _ hv hk => ?_
    obtain ⟨t, rfl⟩ := int_held hv
    exact ⟨.int (minL i l), H, I.kept (t' := tk) hk, ⟨t, by rw [minL_of]⟩, q⟩
  · obtain ⟨its, rv, pl, _⟩ := I.tuple hq
    refine PySem.W.min_tuple_datum (x := i) (xs := l) (I.ok.hd hc) pl (held_all I rv) hz fun j v h' tk _ hv hk => ?_
    obtain ⟨t, rfl⟩ := int_held hv
    exact ⟨.int (minL i l), H, I.kept (t' := tk) hk, ⟨t, by rw [minL_of]⟩, q⟩
theorem call_maxS {X : Cx} (hc : X.calm = true) (hu : X.A.units + 64 < cLine) : CallR X (.builtin "max") (rMaxS X.K) := by
  intro pins s σ H vs us Q I r hyp
  obtain ⟨a, i, l, rfl, hq, q⟩ := hyp
  rw [Vals.ref1 r]
  have hz : X.A.units + 1 + PySem.W.Datum.depth Int < cLine := by show X.A.units + 1 + 0 < cLine; omega
  rcases hq with hq | hq
  · obtain ⟨its, rv, pl, _⟩ := I.list hq
    refine PySem.W.max_list_datum (x := i) (xs := l) (I.ok.hd hc) pl.isList (held_all I rv) hz fun j v h' tk _ hv hk => ?_
    obtain ⟨t, rfl⟩ := int_held hv
    exact ⟨.int (maxL i l), H, I.kept (t' := tk) hk, ⟨t, by rw [maxL_of]⟩, q⟩
  · obtain ⟨its, rv, pl, _⟩ := I.tuple hq
    refine PySem.W.max_tuple_datum (x := i) (xs := l) (I.ok.hd hc) pl (held_all I rv) hz fun j v h' tk _ hv hk => ?_
    obtain ⟨t, rfl⟩ := int_held hv
    exact ⟨.int (maxL i l), H, I.kept (t' := tk) hk, ⟨t, by rw [maxL_of]⟩, q⟩
theorem seqI_top {K : PySem.W.Frag} {G H : Hp} {d : D} {ns : List Int} {v : V} (eS : Evl.Ex G H) (h : Top K G H d v) (e : (seqOf d).bind intsD = some ns) : ∃ a, v = .ref a ∧ (SqL K H a (ns.map V.int) ∨ SqT K H a (ns.map V.int)) := by
  cases q : seqOf d with
  | none => rw [q] at e; cases e
  | some l =>
    rw [q] at e
    obtain ⟨a, xs, rfl, q1, q2⟩ := seqOf_top eS h q
    rw [intsD_of e] at q2
    rw [q2.ints] at q1
    exact ⟨a, rfl, q1⟩
theorem cas_minS {K : PySem.W.Frag} : CaS K (rMinS K) minSD := fun xs z vs G H Q eS hx e k => by
  unfold minSD at e
  split at e
  · split at e
    · rename_i e2
      obtain ⟨v, rfl, h⟩ := tops1 hx
      obtain ⟨a, rfl, q1⟩ := seqI_top eS h e2
      cases e
      exact ⟨a, _, _, rfl, q1, k _ G H (New.refl eS) (.int _)⟩
    · cases e
  · cases e
theorem cas_maxS {K : PySem.W.Frag} : CaS K (rMaxS K) maxSD := fun xs z vs G H Q eS hx e k => by
  unfold maxSD at e
  split at e
  · split at e
    · rename_i e2
      obtain ⟨v, rfl, h⟩ := tops1 hx
      obtain ⟨a, rfl, q1⟩ := seqI_top eS h e2
      cases e
      exact ⟨a, _, _, rfl, q1, k _ G H (New.refl eS) (.int _)⟩
    · cases e
  · cases e
end DF

namespace DF
open PySem PySem.Spec PyProof.Rows L2
noncomputable def vPs : List ((DEnv → R D) × (DEnv → R D)) → DEnv → R (List (Key × D))
  | [], ρ => .ok ρ []
  | f :: r, ρ => (f.1 ρ).bind fun kd ρ1 => (f.2 ρ1).bind fun d ρ2 => match keyOf kd with
    | some key => (vPs r ρ2).bind fun l ρ3 => .ok ρ3 ((key, d) :: l)
    | none => .no
noncomputable def disD (l : List (Key × D)) : List (Key × D) := l.foldl (fun acc kv => insD acc kv.1 kv.2) []
noncomputable def dDisp (fs : List ((DEnv → R D) × (DEnv → R D))) : DEnv → R D := fun ρ => (vPs fs ρ).bind fun l ρ' => if l.length ≤ 15 then .ok ρ' (.dic (disD l)) else .no
theorem tps {K : PySem.W.Frag} {W : WX} {σ : Sl} : ∀ (fs : List ((DEnv → R D) × (DEnv → R D))) {ρ : DEnv} {G H : Hp} {Q : List (V × V) → Hp → Prop}, Rep K G H ρ σ →
    Go K W σ ρ G H (fun l _ G' H' => ∀ kvs, Isk K G' l kvs → Q (kvs.map fun kv => (kV kv.1, kv.2)) H') (vPs fs ρ) → tPairs (fs.map fun f => (tD K W f.1, tD K W f.2)) σ H Q
  | [], ρ, G, H, Q, R, h => h G H .refl R [] .nil
  | f :: r, ρ, G, H, Q, R, h => ⟨ρ, G, R, (Go.bind R h).imp fun kd ρ1 G1 H1 s1 R1 h1 v hv => ⟨ρ1, G1, R1, (Go.bind R1 h1).imp fun d ρ2 G2 H2 s2 R2 h2 y hy => by
      split at h2
      · rename_i key e
        have := keyOf_is hv e
        subst this
        exact tps r R2 ((Go.bind R2 h2).imp fun l ρ3 G3 H3 s3 R3 h3 kvs hk => h3 G3 H3 .refl R3 ((key, y) :: kvs) (.cons (hy.mono s3.g) hk))
      · exact False.elim h2⟩⟩
theorem Isk.dis {K : PySem.W.Frag} {G : Hp} : ∀ {l : List (Key × D)} {kvs : List (Key × V)} {l0 : List (Key × D)} {k0 : List (Key × V)}, Isk K G l kvs → Isk K G l0 k0 → Isk K G (l.foldl (fun acc kv => insD acc kv.1 kv.2) l0) (kvs.foldl (fun acc kv => putK acc kv.1 kv.2) k0)
  | _, _, _, _, .nil, r => r
  | _, _, _, _, .cons h t, r => by rw [List.foldl_cons, List.foldl_cons]; exact Isk.dis t (r.put h _)
section
variable {K : PySem.W.Frag} {ρ ρ' : DEnv} {σ : Sl} {G H G' H' : Hp} {p : Addr} {o o2 : HO}
theorem Stp.chgHid (hoN : NoT o ∧ ∀ c q, o ≠ LamX.CodeO c q) (R : Rep K G H ρ σ) (hp : H p = none) (s : Stp ρ σ G (upd H p o) ρ' σ G' H') (R' : Rep K G' H' ρ' σ) : H' p = some o ∧ G' p = none ∧ ¬ Mu false ρ' σ p ∧ ¬ Mu true ρ' σ p ∧ Stp ρ σ G H ρ' σ G' (upd H' p o2) ∧ Rep K G' (upd H' p o2) ρ' σ := by
  have no : ∀ b, ¬ Mu b ρ σ p := fun b ⟨i, d, e1, e2⟩ => by
    obtain ⟨a, e3, _, e4⟩ := R.mu i b d e1
    rw [e2] at e3; cases e3
    obtain ⟨o, ho⟩ := e4.there
    rw [hp] at ho; cases ho
  have k1 : H' p = some o := s.h p o (no false) (no true) upd_same hoN.1
  have k2 : G' p = none := by
    cases q : G' p with
    | none => rfl
    | some u =>
      rcases s.n p (sub_none R.sub hp) (by rw [q]; exact fun z => by cases z) with z | z
      · rw [upd_same] at z; cases z
      · exact (no false z).elim
  have k3 : ¬ Mu false ρ' σ p := fun m => by
    rcases s.ow p m with z | z
    · exact no false z
    · rw [upd_same] at z; cases z
  have k4 : ¬ Mu true ρ' σ p := fun m => no true (s.io_back m)
  have back : ∀ b, upd H p o b = none → H b = none := fun b q => by
    by_cases z : b = p
    · subst z; exact hp
    · rwa [upd_ne z] at q
  refine ⟨k1, k2, k3, k4, ⟨s.g, fun b u m1 m2 q nt => ?_, fun b q => ?_, fun b q1 q2 => (s.n b q1 q2).imp_left (back b), fun b m => (s.ow b m).imp_right (back b), s.io, (Gr.ex fun b u q => by rw [upd_ne (ne_of_none q hp)]; exact q).trans (s.gr.trans (.up fun u hu => by rw [k1] at hu; cases hu; exact hoN))⟩, ⟨fun b u q => ?_, R'.len, R'.vl, fun i b d e => ?_, R'.ap, R'.tb.pH fun u hu => by rw [k1] at hu; cases hu; exact hoN⟩⟩
  · have z : b ≠ p := ne_of_none q hp
    rw [upd_ne z]
    exact s.h b u m1 m2 (by rw [upd_ne z]; exact q) nt
  · by_cases z : b = p
    · subst z; rw [upd_same] at q; cases q
    · rw [upd_ne z] at q; exact back b (s.t b q)
  · have z : b ≠ p := ne_of_none q k2
    rw [upd_ne z]; exact R'.sub b u q
  · obtain ⟨a, e1, e2, e3⟩ := R'.mu i b d e
    have z : a ≠ p := fun z => by
      subst z
      cases b with
      | false => exact k3 ⟨i, d, e, e1⟩
      | true => exact k4 ⟨i, d, e, e1⟩
    exact ⟨a, e1, e2, e3.mono (fun _ _ q => q) fun u q => by rw [upd_ne z]; exact q⟩
end
section
variable {X : Cx} {W : WX} {pos : Pos} {keys : List (Option Expr)} {values : List Expr} {fs : List ((DEnv → R D) × (DEnv → R D))} {k v : Expr} {fk fv : DEnv → R D}
noncomputable abbrev DPs (X : Cx) (W : WX) (pos : Pos) (keys : List (Option Expr)) (values : List Expr) (fs : List ((DEnv → R D) × (DEnv → R D))) : Prop := PPs X pos keys values (fs.map fun f => (tD X.K W f.1, tD X.K W f.2))
theorem dps_nil : DPs X W pos [] [] [] := pps_nil
theorem dps_cons (hk : DE X W k fk) (hv : DE X W v fv) (h : DPs X W pos keys values fs) : DPs X W pos (some k :: keys) (v :: values) ((fk, fv) :: fs) := pps_cons hk hv h
theorem df_disp (h : DPs X W pos keys values fs) (hall : keys.all (·.isSome) = true := by rfl) (hl : keys.length = values.length := by rfl) (h0 : keys ≠ [] := by simp) (h15 : keys.length ≤ 15 := by decide) : DF' X W (.Dict keys values pos) (dDisp fs) :=
  pe_imp (pe_disp h hall hl h0 h15) fun σ H Q ⟨ρ, G, R, h⟩ p hp => by
    have N : New G H G (upd H p (.dK [])) := New.hid R.sub hp
    refine tps fs (N.rep R) ?_
    unfold dDisp at h
    cases e : vPs fs ρ with
    | no => rw [e] at h; exact h
    | ex ρ' ee =>
      rw [e] at h
      exact fun G' H' d s R' he => h G' H' d ((N.stp R).trans R s) R' he
    | ok ρ' l =>
      rw [e] at h
      have h : Go X.K W σ ρ G H _ (if l.length ≤ 15 then DF.R.ok ρ' (D.dic (disD l)) else DF.R.no) := h
      split at h
      · rename_i hn
        intro G' H' s R' kvs hk
        obtain ⟨k1, k2, k3, k4, s2, R2⟩ := Stp.chgHid (o2 := .dK (mergeK [] kvs)) ⟨.dK, fun _ _ z => (by unfold LamX.CodeO at z; cases z)⟩ R hp s R'
        exact ⟨k1, kvs, rfl, by rw [← hk.length]; exact hn, h G' _ s2 R2 p k2 k3 k4 hp ⟨_, upd_same, hk.dis .nil⟩⟩
      · exact False.elim h
end
end DF

namespace DF
open PySem PySem.SeqAt
open AutoSeq1 (wpAny_loadPart')
open MeetsSeq MeetsSeq2 MeetsSeq3 SeqRoads2
section
variable {prog : Program} {w : World}
noncomputable def NeQ (prog : Program) (w : World) (l b : Addr) (o o2 : Obj) (us ws : Array Value) : Around → (Result → Shared → Prop) → Shared → Prop := fun A R s =>
  s.heap.get? l = some o ∧ s.heap.get? b = some o2 ∧ (∀ j (h1 : j < us.size) (h2 : j < ws.size), EqP prog w A.in1 s us[j] ws[j] true) ∧ R (.ok (.ret (.bool false))) s
theorem ne_turn (l b : Addr) (us ws : Array Value) (n n2 : Nat) (dd dd2 : Option Addr) (sl sl2 : Array (Option Value)) (hsz : us.size = ws.size) : ∀ (k i : Nat), us.size - i = k →
    MeetsIn prog w (Builtin.«list.__eq__.loop» ⟨[.ref l, .ref b, rawInt i, rawInt 3], []⟩) (NeQ prog w l b { cls := .type "list", dict := dd, data := .seq us n, slots := sl } { cls := .type "list", dict := dd2, data := .seq ws n2, slots := sl2 } us ws)
  | 0, i, hk => by
    rintro A R ⟨hp, g, d, tk, os⟩ ⟨hl, hb, he, h⟩
    have e1 : us[((i : Nat) : Int).toNat]? = none := by simp; omega
    have e2 : ws[((i : Nat) : Int).toNat]? = none := by simp; omega
    wp_walk using wpAny_loadPart' hl, wpAny_loadPart' hb
    rw [e1, e2]
    wp_walk using wpAny_loadPart' hl, wpAny_loadPart' hb
    show R (.ok (.ret (.bool (us.size != ws.size)))) _
    rw [hsz, bne_self_eq_false]
    exact h
  | k + 1, i, hk => by
    rintro A R ⟨hp, g, d, tk, os⟩ ⟨hl, hb, he, h⟩
    have l1 : i < us.size := by omega
    have l2 : i < ws.size := by omega
    have e1 : us[((i : Nat) : Int).toNat]? = some us[i] := by simp [l1]
    have e2 : ws[((i : Nat) : Int).toNat]? = some ws[i] := by simp [l2]
    wp_walk using wpAny_loadPart' hl, wpAny_loadPart' hb
    rw [e1, e2]
    refine wpAny_bind (he i l1 l2 _ _ ?_)
    wp_walk
    rw [show ((i : Int) + 1) = ((i + 1 : Nat) : Int) by push_cast; rfl]
    exact ⟨plainId_quiet plain_eq_loop _, codeAny_builtin entry_eq_loop (by
      rw [Around.under_plainId plain_eq_loop _]
      exact ne_turn l b us ws n n2 dd dd2 sl sl2 hsz k (i + 1) (by omega) A R _ ⟨hl, hb, he, h⟩)⟩
theorem ne_body (l b : Addr) (us ws : Array Value) (n n2 : Nat) (dd dd2 : Option Addr) (sl sl2 : Array (Option Value)) (hsz : us.size = ws.size) :
    MeetsIn prog w (Builtin.«list.__ne__» ⟨[.ref l, .ref b], []⟩) (NeQ prog w l b { cls := .type "list", dict := dd, data := .seq us n, slots := sl } { cls := .type "list", dict := dd2, data := .seq ws n2, slots := sl2 } us ws) := by
  rintro A R ⟨hp, g, d, tk, os⟩ ⟨hl, hb, he, h⟩
  have f3 := AutoSeq1.sub_list_list
  have hne : ¬ (us.size != ws.size) = true := by simp [hsz]
  wp_walk using wpAny_loadPart' hl, wpAny_loadPart' hb
  exact ⟨plainId_quiet plain_eq_loop _, codeAny_builtin entry_eq_loop (by
    rw [Around.under_plainId plain_eq_loop _]
    exact ne_turn l b us ws n n2 dd dd2 sl sl2 hsz _ 0 rfl A R _ ⟨hl, hb, he, h⟩)⟩
theorem ne_lists {A : Around} {s : Shared} {l b : Addr} {us ws : Array Value} (hl : s.heap.IsList l us) (hb : s.heap.IsList b ws) (hsz : us.size = ws.size) (hu : A.units < cLine)
    (he : ∀ j (h1 : j < us.size) (h2 : j < ws.size), EqP prog w A.in1 s us[j] ws[j] true) (E Q : Value → Shared → Prop) (h : Q (.bool false) s) : wpAny (model prog w) A (richCompare .NotEq (.ref l) (.ref b)) Q E s := by
  obtain ⟨⟨_, dd, _, sl⟩, ho, rfl, n, rfl⟩ := id hl
  obtain ⟨⟨_, dd2, _, sl2⟩, ho2, rfl, n2, rfl⟩ := id hb
  have ta : s.TypeIs (.ref l) "list" := ⟨_, ho, rfl⟩
  exact wpAny_richCompare_same_room (op := .NotEq) ta ⟨_, ho2, rfl⟩ F.slot_list_ne (call_meetsIn F.slot_list_ne ta F.entry_list_ne (F.args_list_ne_2 _ _) (ne_body l b us ws n n2 dd dd2 sl sl2 hsz) ⟨ho, ho2, he, ⟨(fun x => nomatch x), h⟩⟩) hu
end
end DF

namespace DF
variable {gq : Bool}
open PySem PySem.Spec PyProof.Rows L2
noncomputable def deqB (x y : D) : Bool := match eqP x y with
  | some b => b
  | none => match eqKB x y with
    | some b => b
    | none => false
noncomputable def deqsB : List D → List D → Bool
  | [], [] => true
  | x :: l, y :: m => deqB x y && deqsB l m
  | _, _ => false
noncomputable def eqLB (x y : D) : Option Bool := match listOf x, listOf y with
  | some l, some m => if l.length = m.length then (if deqsB l m = true then some true else none) else some false
  | _, _ => none
noncomputable def eqL (x y : D) : Option D := (eqLB x y).map .bl
noncomputable def neL (x y : D) : Option D := (eqLB x y).map fun b => .bl (!b)
noncomputable def DeqV (K : PySem.W.Frag) (H : Hp) (x y : V) : Prop := (∃ p q, Dp K H x p ∧ Dp K H y q ∧ SeqAt.shaped p = true ∧ SeqAt.shaped q = true ∧ p.eqv q = true) ∨
  ∃ a b ks ls r, x = .ref a ∧ y = .ref b ∧ Rd H a (.dK ks) ∧ Rd H b (.dK ls) ∧ HitsV K H ls ks r ∧ (ks.length == ls.length && r) = true
theorem deqV_run {X : Cx} {pins : List (Addr × Obj)} {σ : L2.St} {H : Hp} {s : Shared} (I : L2.Inv X pins σ H s) (hu : X.A.units + 80 < cLine) {x y : V} {v u : Value} (h : DeqV X.K H x y) (rx : RelV x v) (ry : RelV y u) : SeqAt.EqP X.prog X.w X.A.in1 s v u true := by
  rcases h with ⟨p, q, h1, h2, h3, h4, h5⟩ | ⟨a, b, ks, ls, r, rfl, rfl, ha, hb, hh, hr⟩
  · obtain ⟨as, r1⟩ := Dp.reads I p x v h1 rx
    obtain ⟨bs, r2⟩ := Dp.reads I q y u h2 ry
    have k := PySem.W.keq_at (A := X.A) r1 r2 h3 h4 (by show X.A.units + 1 + 64 < cLine; omega)
    rw [h5] at k
    exact k.eqP
  · cases (show v = Value.ref a from rx)
    cases (show u = Value.ref b from ry)
    obtain ⟨_, ya, va, ra, da⟩ := dk_rd I.hok ha
    obtain ⟨_, yb, vb, rb, db⟩ := dk_rd I.hok hb
    by_cases e : a = b
    · subst e
      exact (SeqAt.EqAt.same _).eqP
    · refine SeqAt.eqP_refs e fun E Q hq => ?_
      refine PySem.W.keq_eq (knd := mixKind X.prog X.w) (r := r) ya yb da db (by show X.A.units + 1 < cLine; omega) (fun _ => hitsV_run I (A := X.A.in1) (by show X.A.units + 1 + 1 + 64 < cLine; omega) rb hh ra) ?_
      have e1 : ks.length = va.length := Paired.length ra
      have e2 : ls.length = vb.length := Paired.length rb
      rw [← e1, ← e2, hr]
      exact hq
noncomputable def rEqL (K : PySem.W.Frag) : R2 := fun x y H Q => ∃ a b xs ys r, x = .ref a ∧ y = .ref b ∧ SqL K H a xs ∧ SqL K H b ys ∧ ((xs.length ≠ ys.length ∧ r = false) ∨ (Paired (DeqV K H) xs ys ∧ r = true)) ∧ Q (.bl r) H
noncomputable def rNeL (K : PySem.W.Frag) : R2 := fun x y H Q => ∃ a b xs ys r, x = .ref a ∧ y = .ref b ∧ SqL K H a xs ∧ SqL K H b ys ∧ ((xs.length ≠ ys.length ∧ r = false) ∨ (Paired (DeqV K H) xs ys ∧ r = true)) ∧ Q (.bl (!r)) H
theorem deqs_run {X : Cx} {pins : List (Addr × Obj)} {σ : L2.St} {H : Hp} {s : Shared} (I : L2.Inv X pins σ H s) (hu : X.A.units + 80 < cLine) {xs ys : List V} (hp : Paired (DeqV X.K H) xs ys) :
    ∀ {us ws : List Value}, Vals xs us → Vals ys ws → ∀ j (h1 : j < us.length) (h2 : j < ws.length), SeqAt.EqP X.prog X.w X.A.in1 s us[j] ws[j] true := by
  induction hp with
  | nil =>
    intro us ws r1 r2 j h1 h2
    cases r1
    exact absurd h1 (Nat.not_lt_zero j)
  | cons h _ ih =>
    intro us ws r1 r2 j h1 h2
    cases r1 with
    | cons a1 b1 => cases r2 with
      | cons a2 b2 => cases j with
        | zero => exact deqV_run I hu h a1 a2
        | succ j => exact ih b1 b2 j (Nat.lt_of_succ_lt_succ h1) (Nat.lt_of_succ_lt_succ h2)
theorem all_true (n : Nat) : ((List.range n).all fun _ => true) = true := List.all_eq_true.mpr fun _ _ => rfl
theorem op_eqL {X : Cx} (hu : X.A.units + 80 < cLine) : OpR X (compareOp .Eq) (rEqL X.K) := by
  intro pins s σ H x y v u Q I rx ry h
  obtain ⟨a, b, xs, ys, r, rfl, rfl, ha, hb, hh, q⟩ := h
  cases (show v = Value.ref a from rx)
  cases (show u = Value.ref b from ry)
  obtain ⟨us, r1, p1, _⟩ := I.list ha
  obtain ⟨ws, r2, p2, _⟩ := I.list hb
  rcases hh with ⟨hn, rfl⟩ | ⟨hp, rfl⟩
  · exact SeqAt.RcAt.lists_lengths p1.isList p2.isList (by rw [List.size_toArray, List.size_toArray, ← r1.length, ← r2.length]; exact bne_iff_ne.mpr hn) (by omega) _ _ _ _ ⟨.bl false, H, I, rfl, q⟩
  · refine SeqAt.rcP_lists (e := fun _ => true) p1.isList p2.isList (by rw [List.size_toArray, List.size_toArray, ← r1.length, ← r2.length]; exact Paired.length hp) (by omega) (fun j h1 h2 => ?_) _ _ ?_
    · have k := deqs_run I hu hp r1 r2 j (by simpa using h1) (by simpa using h2)
      simpa using k
    · rw [all_true]
      exact ⟨.bl true, H, I, rfl, q⟩
theorem op_neL {X : Cx} (hu : X.A.units + 80 < cLine) : OpR X (compareOp .NotEq) (rNeL X.K) := by
  intro pins s σ H x y v u Q I rx ry h
  obtain ⟨a, b, xs, ys, r, rfl, rfl, ha, hb, hh, q⟩ := h
  cases (show v = Value.ref a from rx)
  cases (show u = Value.ref b from ry)
  obtain ⟨us, r1, p1, _⟩ := I.list ha
  obtain ⟨ws, r2, p2, _⟩ := I.list hb
  rcases hh with ⟨hn, rfl⟩ | ⟨hp, rfl⟩
  · exact SeqAt.RcNeAt.lists_lengths p1.isList p2.isList (by rw [List.size_toArray, List.size_toArray, ← r1.length, ← r2.length]; exact bne_iff_ne.mpr hn) (by omega) _ _ _ _ ⟨.bl true, H, I, rfl, q⟩
  · refine ne_lists p1.isList p2.isList (by rw [List.size_toArray, List.size_toArray, ← r1.length, ← r2.length]; exact Paired.length hp) (by omega) (fun j h1 h2 => ?_) _ _ ⟨.bl false, H, I, rfl, q⟩
    have k := deqs_run I hu hp r1 r2 j (by simpa using h1) (by simpa using h2)
    simpa using k
theorem deq_of {K : PySem.W.Frag} {G H : Hp} (eS : Evl.Ex G H) {x y : D} {v u : V} (hx : Is K G x v) (hy : Is K G y u) (e : deqB x y = true) : DeqV K H v u := by
  unfold deqB at e
  split at e
  · rename_i b e1
    subst e
    obtain ⟨p, q, t1, t2, s1, s2, e3⟩ := eqP_of e1
    exact .inl ⟨p, q, Is.dp eS hx t1, Is.dp eS hy t2, s1, s2, e3.symm⟩
  · split at e
    · rename_i b e1
      subst e
      obtain ⟨a, c, ks, ls, r, rfl, rfl, q1, q2, q3, q4⟩ := eqKB_run eS (hx.top eS) (hy.top eS) e1
      exact .inr ⟨a, c, ks, ls, r, rfl, rfl, q1, q2, q3, q4.symm⟩
    · cases e
theorem deqs_of {K : PySem.W.Frag} {G H : Hp} (eS : Evl.Ex G H) : ∀ {l m : List D} {xs ys : List V}, Iss K G l xs → Iss K G m ys → deqsB l m = true → Paired (DeqV K H) xs ys
  | _, _, _, _, .nil, .nil, _ => .nil
  | _, _, _, _, .cons h r, .cons h2 r2, e => by
    unfold deqsB at e
    rw [Bool.and_eq_true] at e
    exact .cons (deq_of eS h h2 e.1) (deqs_of eS r r2 e.2)
  | _, _, _, _, .nil, .cons _ _, e => by cases e
  | _, _, _, _, .cons _ _, .nil, e => by cases e
theorem eqLB_run {K : PySem.W.Frag} {G H : Hp} (eS : Evl.Ex G H) {x y : D} {v u : V} {r : Bool} (hx : Top K G H x v) (hy : Top K G H y u) (e : eqLB x y = some r) :
    ∃ a b xs ys, v = .ref a ∧ u = .ref b ∧ SqL K H a xs ∧ SqL K H b ys ∧ ((xs.length ≠ ys.length ∧ r = false) ∨ (Paired (DeqV K H) xs ys ∧ r = true)) := by
  unfold eqLB at e
  split at e
  · rename_i l m e1 e2
    obtain ⟨a, xs, rfl, q1, q2⟩ := listOf_top eS hx e1
    obtain ⟨b, ys, rfl, q3, q4⟩ := listOf_top eS hy e2
    split at e
    · split at e
      · rename_i h
        cases e
        exact ⟨a, b, xs, ys, rfl, rfl, q1, q3, .inr ⟨deqs_of eS q2 q4 h, rfl⟩⟩
      · cases e
    · rename_i hn
      cases e
      exact ⟨a, b, xs, ys, rfl, rfl, q1, q3, .inl ⟨by rw [← q2.length, ← q4.length]; exact hn, rfl⟩⟩
  · cases e
theorem ops_eqL {K : PySem.W.Frag} : OpS K (rEqL K) eqL := fun x y z v u G H Q eS hx hy e k => by
  unfold eqL at e
  cases e1 : eqLB x y with
  | none => rw [e1] at e; cases e
  | some b =>
    rw [e1] at e; cases e
    obtain ⟨a, c, xs, ys, rfl, rfl, q1, q2, q3⟩ := eqLB_run eS hx hy e1
    exact ⟨a, c, xs, ys, b, rfl, rfl, q1, q2, q3, k _ G H (New.refl eS) (.bl _)⟩
theorem ops_neL {K : PySem.W.Frag} : OpS K (rNeL K) neL := fun x y z v u G H Q eS hx hy e k => by
  unfold neL at e
  cases e1 : eqLB x y with
  | none => rw [e1] at e; cases e
  | some b =>
    rw [e1] at e; cases e
    obtain ⟨a, c, xs, ys, rfl, rfl, q1, q2, q3⟩ := eqLB_run eS hx hy e1
    exact ⟨a, c, xs, ys, b, rfl, rfl, q1, q2, q3, k _ G H (New.refl eS) (.bl _)⟩
theorem RoomG.u80 {k : Nat} {A : Around} (r : RoomG k A gq) : A.units + 80 < cLine := by have := r.room.un; omega
noncomputable def eqY : D → D → Option D := orD eqX eqL
noncomputable def neY : D → D → Option D := orD neX neL
end DF

namespace DF
variable {gq : Bool}
open PySem PySem.Spec PyProof.Rows L2
theorem RoomG.in1 {k : Nat} {A : Around} (r : RoomG (k + 1) A gq) : RoomG k A.in1 gq := ⟨r.room.in1, r.gd_, by have := r.dq; show A.depth + 3 * k + 105 < _; omega, r.fr_⟩
theorem RoomG.make {k : Nat} {A : Around} (r : RoomG (k + 1) A gq) (C : Addr) (us : List Value) : RoomG k (A.under (.builtin "type.__call__" ⟨.ref C :: us, []⟩)) gq := ⟨r.room.make C us [], by
  intro hg
  have q := r.gd_ hg
  simp [Around.under, Code.guards, Code.isGuard, pushGuards, guardIds, q], by
  have := r.dq
  rw [make_depth]; omega, by
  intro hg
  obtain ⟨l, e⟩ := r.fr_ hg
  exact ⟨l, by simp [Around.under, Code.envs, Code.isFrame, pushEnvs, e]⟩⟩
section
variable {X : Cx} {k : Nat} {C f p g : Addr} {fd : FuncData} {ps : List Str} {sp : Sp} {E : XK} {x m n : Str} {q pos apos : Pos} {e o : Expr} {es : List Expr} {ta : TE} {t : TA}
end
end DF

namespace DF
variable {gq : Bool}
open PySem PySem.Spec PyProof.Rows L2
structure ClsT (K : PySem.W.Frag) (cn : Str) (C : Addr) : Prop where
  ns : PySem.W.nsIn K mainGlobals cn = some (some (.ref C))
  cl : Cls K C
theorem Isf.look {K : PySem.W.Frag} {G : Hp} {f : Str} : ∀ {fs : List (Str × D)} {fv : List (Str × V)} {d : D}, Isf K G fs fv → fs.lookup f = some d → ∃ v, fv.lookup f = some v ∧ Is K G d v
  | _, _, d, .nil, e => by cases e
  | _, _, d, @Isf.cons _ _ k d0 v0 l xs h _ r, e => by
    rw [List.lookup_cons] at e
    by_cases hk : f == k
    · rw [hk] at e
      cases e
      exact ⟨v0, by rw [List.lookup_cons, hk], h⟩
    · rw [Bool.not_eq_true] at hk
      rw [hk] at e
      obtain ⟨v, e1, e2⟩ := Isf.look r e
      exact ⟨v, by rw [List.lookup_cons, hk]; exact e1, e2⟩
section
variable {X : Cx} {W : WX} {e : Expr} {es : List Expr} {f cn : Str} {C : Addr} {p pos apos : Pos}
noncomputable def putFD (f : Str) (d : D) : List (Str × D) → List (Str × D)
  | [] => [(f, d)]
  | (g, x) :: r => if g = f then (g, d) :: r else (g, x) :: putFD f d r
theorem Isf.put {K : PySem.W.Frag} {G : Hp} {f : Str} {d : D} {v : V} (hd : Is K G d v) (hn : f = "_pairs" → NoD G v) : ∀ {fs : List (Str × D)} {fv : List (Str × V)}, Isf K G fs fv → Isf K G (putFD f d fs) (putF f v fv)
  | _, _, .nil => .cons hd hn .nil
  | _, _, @Isf.cons _ _ k d0 v0 l xs h n r => by
    unfold putFD putF
    by_cases hk : k = f
    · rw [if_pos hk, if_pos hk]
      exact .cons hd (fun z => hn (hk.symm.trans z)) r
    · rw [if_neg hk, if_neg hk]
      exact .cons h n (Isf.put hd hn r)
theorem Isf.length {K : PySem.W.Frag} {G : Hp} : ∀ {fs : List (Str × D)} {fv : List (Str × V)}, Isf K G fs fv → fs.length = fv.length
  | _, _, .nil => rfl
  | _, _, .cons _ _ r => congrArg (· + 1) (Isf.length r)
theorem vstp {K : PySem.W.Frag} {ρ : DEnv} {σ : Sl} {G H G' H' : Hp} (R : Rep K G H ρ σ) (fs : FStp K [] G H G' H') : Stp ρ σ G H ρ σ G' H' ∧ Rep K G' H' ρ σ := by
  refine ⟨⟨fs.g, fun b o _ _ e nt => fs.h b o (by simp) e nt, fs.t, fun b q1 q2 => .inl (fs.n b q1 q2), fun _ m => .inl m, fun _ => ⟨fun d e => ⟨d, e, rfl⟩, fun d e => ⟨d, e⟩⟩, fs.gr⟩, ⟨fs.s, R.len, fun i d e => ?_, fun i b d e => ?_, R.ap, fs.tb⟩⟩
  · obtain ⟨v, e1, e2⟩ := R.vl i d e
    exact ⟨v, e1, e2.mono fs.g⟩
  · obtain ⟨a, e1, e2, e3⟩ := R.mu i b d e
    refine ⟨a, e1, ?_, e3.mono fs.g fun o q => fs.h a o (by simp) q (e3.pln o q).1⟩
    cases q : G' a with
    | none => rfl
    | some o =>
      have := fs.n a e2 (by rw [q]; exact fun z => by cases z)
      obtain ⟨o', y⟩ := e3.there
      rw [this] at y; cases y
end

section
variable {X : Cx} {W : WX} {o e : Expr} {es : List Expr} {f cn x m : Str} {C g pr : Addr} {p pos apos : Pos} {k ar : Nat} {fd : FuncData} {ps : List Str} {F : Fn}
end
end DF

namespace DF
variable {gq : Bool}
open PySem PySem.Spec PyProof.Rows L2
section
variable {prog : Program} {w : World} {A : Around} {E : Value → Shared → Prop} {s : Shared}
end
section
variable {CX : CXT} {P : Program} {w : World} {K : PySem.W.Frag} {mg : Str → Option Value} {base : Heap}
end
section
variable {X : Cx} {C fi : Addr} {fl cn : Str} {fd : FuncData} {k : Nat} {tg e : Expr}
end
end DF

namespace DF
open PySem PySem.Spec PyProof.Rows L2
end DF

namespace DF
open PySem PySem.Spec PyProof.Rows L2
noncomputable def flatD : D → Bool
  | .non => true
  | .bl _ => true
  | .int _ => true
  | .str _ => true
  | _ => false
noncomputable def eqFD : D → D → Bool
  | .non, .non => true
  | .bl a, .bl b => a == b
  | .bl a, .int b => (if a then 1 else 0) == b
  | .int a, .bl b => a == (if b then 1 else 0)
  | .int a, .int b => a == b
  | .str a, .str b => a == b
  | _, _ => false
section
variable {K : PySem.W.Frag} {G H : Hp}
theorem flatD_v {d : D} {v : V} (h : Is K G d v) (f : flatD d = true) : flatV v = true := by
  cases h with
  | non => rfl
  | bl b => rfl
  | int i => rfl
  | str x => rfl
  | _ => cases f
theorem eqFD_v {d e : D} {v u : V} (h : Is K G d v) (h2 : Is K G e u) (f : flatD d = true) (f2 : flatD e = true) : eqV v u = eqFD d e := by
  cases h with
  | non => cases h2 <;> first | rfl | cases f2
  | bl b => cases h2 <;> first | rfl | cases f2
  | int i => cases h2 <;> first | rfl | cases f2
  | str x => cases h2 <;> first | rfl | cases f2
  | _ => cases f
theorem flat_top {d : D} {v : V} (h : Top K G H d v) (f : flatD d = true) : Is K G d v := by
  cases d with
  | lst l => cases f
  | dic l => cases f
  | obj c fs => cases f
  | _ => exact h
theorem flats_v : ∀ {l : List D} {xs : List V}, Iss K G l xs → l.all flatD = true → xs.all flatV = true
  | _, _, .nil, _ => rfl
  | _, _, .cons h r, f => by
    rw [List.all_cons, Bool.and_eq_true] at f
    rw [List.all_cons, flatD_v h f.1, flats_v r f.2]
    rfl
theorem ins_v {d : D} {v : V} (hd : Is K G d v) (fd : flatD d = true) : ∀ {l : List D} {xs : List V}, Iss K G l xs → l.all flatD = true → (xs.any fun y => eqV y v) = l.any fun e => eqFD e d
  | _, _, .nil, _ => rfl
  | _, _, .cons h r, f => by
    rw [List.all_cons, Bool.and_eq_true] at f
    rw [List.any_cons, List.any_cons, ins_v hd fd r f.2, eqFD_v h hd f.1 fd]
noncomputable def inSB (x y : D) : Option Bool := match seqOf y with
  | some l => if flatD x = true ∧ l.all flatD = true then some (l.any fun e => eqFD e x) else none
  | none => none
noncomputable def ninSD (x y : D) : Option D := (inSB x y).map fun b => .bl (!b)
theorem inSB_run {x y : D} {v u : V} {b : Bool} (eS : Evl.Ex G H) (hx : Top K G H x v) (hy : Top K G H y u) (e : inSB x y = some b) :
    ∃ p xs, u = .ref p ∧ (SqL K H p xs ∨ SqT K H p xs) ∧ flatV v = true ∧ xs.all flatV = true ∧ inV v xs = b := by
  unfold inSB at e
  split at e
  · rename_i l el
    split at e
    · rename_i hc
      cases e
      obtain ⟨a, xs, rfl, h1, h2⟩ := seqOf_top eS hy el
      have hx := flat_top hx hc.1
      exact ⟨a, xs, rfl, h1, flatD_v hx hc.1, flats_v h2 hc.2, ins_v hx hc.1 h2 hc.2⟩
    · cases e
  · cases e
theorem ops_ninS : OpS K (rIn K true) ninSD := fun x y z v u G H Q eS hx hy e k => by
  unfold ninSD at e
  cases q : inSB x y with
  | none => rw [q] at e; cases e
  | some b =>
    rw [q] at e
    cases e
    obtain ⟨p, xs, rfl, h1, h2, h3, rfl⟩ := inSB_run eS hx hy q
    exact ⟨p, xs, rfl, h1, h2, h3, k _ G H (New.refl eS) (.bl _)⟩
end
section
variable {X : Cx} {W : WX} {o e : Expr} {i : Nat} {p1 p2 pos : Pos} {f : DEnv → R D}
end
end DF

namespace DF
open PySem PySem.Spec PyProof.Rows L2
noncomputable def dDcGo (g : Tg) (t : DEnv → R Bool) (fk fv : DEnv → R D) (vs : List Nat) : List D → List (Key × D) → DEnv → R D
  | [], acc, ρ => .ok ρ (.dic acc)
  | d :: l, acc, ρ => match g d ρ with
    | none => .no
    | some ρ1 => (t ρ1).bindN fun b ρ2 => match b with
      | false => if noMu ρ2 vs = true then dDcGo g t fk fv vs l acc (wipeE ρ2 vs) else .no
      | true => (fk ρ2).bindN fun y ρ3 => (fv ρ3).bindN fun z ρ4 => match keyOf y with
        | none => .no
        | some kk => if noMu ρ4 vs = true then (if acc.length < 16000000 then dDcGo g t fk fv vs l (insD acc kk z) (wipeE ρ4 vs) else .no) else .no
noncomputable def dDc (s : DEnv → R (List D)) (g : Tg) (t : DEnv → R Bool) (fk fv : DEnv → R D) (vs : List Nat) : DEnv → R D := fun ρ => (s ρ).bind fun l ρ1 => if noMu ρ1 vs = true then dDcGo g t fk fv vs l [] (wipeE ρ1 vs) else .no
theorem tdc_of {X : Cx} {W : WX} {s : DEnv → R (List D)} {g : Tg} {t : DEnv → R Bool} {fk fv : DEnv → R D} {vs : List Nat} : ∀ σ H Q, tF X.K W (dDc s g t fk fv vs) σ H Q → tDc (tI X.K W s) (tG X.K g vs) (tT X.K WN t) (tD X.K WN fk) (tD X.K WN fv) vs σ H Q := by
  refine fun σ H Q ⟨ρ, G, R, h⟩ => ⟨ρ, G, R, (Go.bind R h).imp fun l ρ1 G1 H1 s1 R1 h1 J hJ Dl hD => ?_⟩
  split at h1
  case isFalse => exact False.elim h1
  rename_i hn1
  -- the state ahead of the first turn
  have ag0 : Agr vs σ (wipe σ vs) := agr_wipe
  have NH : New G1 H1 G1 (upd H1 Dl (.dK [])) := New.hid R1.sub hD
  have R2 : Rep X.K G1 (upd H1 Dl (.dK [])) (wipeE ρ1 vs) σ := (NH.rep R1).wiped rfl fun _ _ => rfl
  have S2 : Stp ρ1 σ G1 H1 (wipeE ρ1 vs) σ G1 (upd H1 Dl (.dK [])) := (NH.stp R1).trans R1 (Stp.wiped (NH.rep R1) hn1 fun _ _ => rfl)
  have noD : ∀ b, ¬ Mu b (wipeE ρ1 vs) σ Dl := fun b ⟨i, d, e1, e2⟩ => by
    obtain ⟨a', e3, _, e4⟩ := R1.mu i b d (wipeE_some e1).1
    rw [e2] at e3; cases e3
    obtain ⟨o, ho⟩ := e4.there
    rw [hD] at ho; cases ho
  refine ⟨fun i m H' => m = l.length - i ∧ ∃ ρw Gi acc xs, Rep X.K Gi H' ρw σ ∧ Clean ρw vs ∧ Stp ρ1 σ G1 H1 ρw σ Gi H' ∧ H' Dl = some (.dK xs) ∧ Isk X.K Gi acc xs ∧ Gi Dl = none ∧ (∀ b, ¬ Mu b ρw σ Dl) ∧
      Go X.K W σ ρ1 G1 H1 (fun d ρ' G' H' => ∀ a, G' a = none → ¬ Mu false ρ' σ a → ¬ Mu true ρ' σ a → H a = none → Cont X.K G' H' a d → Q (.ref a) H') (dDcGo g t fk fv vs (l.drop i) acc ρw),
    ⟨l.length, by simp, wipeE ρ1 vs, G1, [], [], R2, clean_wipe, S2, upd_same, .nil, sub_none R1.sub hD, noD, h1⟩, fun i m H' ⟨em, ρw, Gi, acc, xs, Rw, cl, Sw, eD, hx, gD, nD, hgo⟩ => ?_⟩
  cases e : l[i]? with
  | none =>
    have hl : l.length ≤ i := List.getElem?_eq_none_iff.mp e
    rw [List.drop_eq_nil_of_le hl] at hgo
    exact .inl ⟨hJ.stop i Gi H' hl Sw.g Rw.sub, hgo Gi H' Sw Rw Dl gD (nD false) (nD true) (s1.t Dl hD) ⟨xs, eD, hx⟩⟩
  | some d =>
    obtain ⟨hlt, hel⟩ := List.getElem?_eq_some_iff.mp e
    obtain ⟨q1, q2⟩ := hJ.go i d Gi H' e Sw.g Rw.sub
    rw [List.drop_eq_getElem_cons hlt, hel] at hgo
    refine .inr ⟨q1, fun H' => ∃ ρw Gi acc xs, Rep X.K Gi H' ρw σ ∧ Clean ρw vs ∧ Stp ρ1 σ G1 H1 ρw σ Gi H' ∧ H' Dl = some (.dK xs) ∧ Isk X.K Gi acc xs ∧ Gi Dl = none ∧ (∀ b, ¬ Mu b ρw σ Dl) ∧
      Go X.K W σ ρ1 G1 H1 (fun d ρ' G' H' => ∀ a, G' a = none → ¬ Mu false ρ' σ a → ¬ Mu true ρ' σ a → H a = none → Cont X.K G' H' a d → Q (.ref a) H') (dDcGo g t fk fv vs (l.drop (i + 1)) acc ρw), fun H' q => ⟨l.length - (i + 1), by omega, rfl, q⟩, fun x H2 hy => ?_⟩
    obtain ⟨G2, N2, hdx⟩ := q2 x H2 hy
    unfold dDcGo at hgo
    split at hgo
    case h_1 => exact False.elim hgo
    rename_i ρa ea
    have R0 : Rep X.K Gi H' ρw (wipe σ vs) := Rw.swap cl ag0
    have R2' := N2.rep R0
    refine ⟨ρw, G2, d, R2', hdx, ρa, ea, fun σ2 G3 H3 s3 R3 ag3 => ⟨(wipe_agr ag3).trans (wipe_agr ag0), ρa, G3, R3, ?_⟩⟩
    have T3 : Stp ρw (wipe σ vs) Gi H' ρa σ2 G3 H3 := (N2.stp R0).trans R0 s3
    -- what a turn's end is
    have fin : ∀ {ρb : DEnv} {G4 H4 : Hp}, Stp ρa σ2 G3 H3 ρb σ2 G4 H4 → Rep X.K G4 H4 ρb σ2 → noMu ρb vs = true → Rep X.K G4 H4 (wipeE ρb vs) σ ∧ Stp ρ1 σ G1 H1 (wipeE ρb vs) σ G4 H4 ∧ H4 Dl = some (.dK xs) ∧ G4 Dl = none ∧ (∀ b, ¬ Mu b (wipeE ρb vs) σ Dl) ∧ Evl.Ex Gi G4 := fun {ρb G4 H4} s4 R4 n4 => by
      have ags : Agr vs σ2 (wipe σ vs) := ag3.symm
      have R5 : Rep X.K G4 H4 (wipeE ρb vs) (wipe σ vs) := R4.wiped ags.1 ags.2
      have T4 : Stp ρw (wipe σ vs) Gi H' (wipeE ρb vs) (wipe σ vs) G4 H4 := (T3.trans R0 s4).trans R0 (Stp.wiped R4 n4 ags.2)
      have T5 : Stp ρw σ Gi H' (wipeE ρb vs) σ G4 H4 := T4.swap cl clean_wipe ag0.symm
      have gD4 : G4 Dl = none := by
        cases hg : G4 Dl with
        | none => rfl
        | some u =>
          rcases T5.n Dl gD (by rw [hg]; exact fun z => by cases z) with z | z
          · rw [eD] at z; cases z
          · exact absurd z (nD false)
      refine ⟨R5.swap clean_wipe ag0.symm, Sw.trans R1 T5, T5.h Dl _ (nD false) (nD true) eD .dK, gD4, fun b m => ?_, T5.g⟩
      cases b with
      | false =>
        rcases T5.ow Dl m with z | z
        · exact nD false z
        · rw [eD] at z; cases z
      | true => exact nD true (T5.io_back m)
    cases et : t ρa with
    | no => rw [et] at hgo; exact False.elim hgo
    | ex _ _ => rw [et] at hgo; exact False.elim hgo
    | ok ρb b =>
      rw [et] at hgo
      intro G4 H4 s4 R4
      cases b with
      | false =>
        rw [if_neg Bool.false_ne_true]
        have hgo' : Go X.K W σ ρ1 G1 H1 _ (if noMu ρb vs = true then dDcGo g t fk fv vs (l.drop (i + 1)) acc (wipeE ρb vs) else .no) := hgo
        split at hgo'
        · rename_i n4
          obtain ⟨a1, a2, a3, a4, a5, a6⟩ := fin s4 R4 n4
          exact ⟨wipeE ρb vs, G4, acc, xs, a1, clean_wipe, a2, a3, hx.mono a6, a4, a5, hgo'⟩
        · exact False.elim hgo'
      | true =>
        rw [if_pos rfl]
        refine ⟨ρb, G4, R4, ?_⟩
        have hgo' : Go X.K W σ ρ1 G1 H1 _ ((fk ρb).bindN fun y ρ3 => (fv ρ3).bindN fun z ρ4 => match keyOf y with
          | none => .no
          | some kk => if noMu ρ4 vs = true then (if acc.length < 16000000 then dDcGo g t fk fv vs (l.drop (i + 1)) (insD acc kk z) (wipeE ρ4 vs) else .no) else .no) := hgo
        cases ef : fk ρb with
        | no => rw [ef] at hgo'; exact False.elim hgo'
        | ex _ _ => rw [ef] at hgo'; exact False.elim hgo'
        | ok ρc y =>
          rw [ef] at hgo'
          intro G5 H5 s5 R5 vk hvk
          refine ⟨ρc, G5, R5, ?_⟩
          have hgo1 : Go X.K W σ ρ1 G1 H1 _ ((fv ρc).bindN fun z ρ4 => match keyOf y with
            | none => .no
            | some kk => if noMu ρ4 vs = true then (if acc.length < 16000000 then dDcGo g t fk fv vs (l.drop (i + 1)) (insD acc kk z) (wipeE ρ4 vs) else .no) else .no) := hgo'
          cases ev : fv ρc with
          | no => rw [ev] at hgo1; exact False.elim hgo1
          | ex _ _ => rw [ev] at hgo1; exact False.elim hgo1
          | ok ρe z =>
            rw [ev] at hgo1
            intro G6 H6 s6 R6 vv hvv
            have hgo2 : Go X.K W σ ρ1 G1 H1 _ (match keyOf y with
              | none => .no
              | some kk => if noMu ρe vs = true then (if acc.length < 16000000 then dDcGo g t fk fv vs (l.drop (i + 1)) (insD acc kk z) (wipeE ρe vs) else .no) else .no) := hgo1
            cases ek : keyOf y with
            | none => rw [ek] at hgo2; exact False.elim hgo2
            | some kk =>
              rw [ek] at hgo2
              dsimp only at hgo2
              split at hgo2
              · rename_i n5
                split at hgo2
                · rename_i hlen
                  obtain ⟨a1, a2, a3, a4, a5, a6⟩ := fin ((s4.trans R3 s5).trans R3 s6) R6 n5
                  refine ⟨xs, kk, keyOf_is hvk ek, a3, by rw [← hx.length, sizeLine_eq]; omega, wipeE ρe vs, G6, insD acc kk z, putK xs kk vv, a1.other a4 a5 (.dK a3), clean_wipe, a2.other hD, upd_same, (hx.mono a6).put hvv kk, a4, a5, hgo2⟩
                · exact False.elim hgo2
              · exact False.elim hgo2
theorem df_dc {X : Cx} {W : WX} {kx vx tg iter : Expr} {ifs : List Expr} {scope : Scope} {own : List (Str × Nat)} {pos : Pos} {s : DEnv → R (List D)} {g : Tg} {t : DEnv → R Bool} {fk fv : DEnv → R D} {vs : List Nat}
    (hcalm : X.calm = true) (hN : X.N.Nodup) (hi : DI X W tg iter s) (ok : BlkOk X.N X.env.scope scope own) (hvs : own.map (·.2) = vs)
    (hg : ∀ (s : Shared) (H : Hp) (C : Addr) (cl : List (Str × Addr)) (fp : List Addr), DG (X.blk s H scope (compEnvC scope cl C X.env) fp) tg g vs)
    (ht : ∀ (s : Shared) (H : Hp) (C : Addr) (cl : List (Str × Addr)) (fp : List Addr), DTs (X.blk s H scope (compEnvC scope cl C X.env) fp) WN ifs t)
    (hk : ∀ (s : Shared) (H : Hp) (C : Addr) (cl : List (Str × Addr)) (fp : List Addr), DE (X.blk s H scope (compEnvC scope cl C X.env) fp) WN kx fk)
    (he : ∀ (s : Shared) (H : Hp) (C : Addr) (cl : List (Str × Addr)) (fp : List Addr), DE (X.blk s H scope (compEnvC scope cl C X.env) fp) WN vx fv) (hs : ∀ x, foldedSetIterable iter X.env x = pure x := by intro _; rfl) :
    DF' X W (.DictComp kx vx [⟨tg, iter, ifs, 0⟩] scope pos) (dDc s g t fk fv vs) := by
  subst hvs
  exact pe_imp (pe_dc (g := tG X.K g (own.map (·.2))) (tt := tT X.K WN t) (tk := tD X.K WN fk) (tv := tD X.K WN fv) hcalm hN hi ok hg ht hk he hs) tdc_of
end DF

namespace DF
open PySem PySem.Spec PyProof.Rows L2
end DF

namespace DF
open PySem PySem.Spec PyProof.Rows L2
open AutoSeq1 (wpAny_loadPart')
end DF

namespace DF
open PySem PySem.Spec PyProof.Rows L2
section
variable {X : Cx} {W : WX} {tg e : Expr}
theorem pi_seq {te : TE} (he : PE X e te) : PI X tg e (fun σ H R => te σ H fun x H1 => ∃ (a : Addr) (xs : List V), x = .ref a ∧ ((SqL X.K H1 a xs ∧ R (Itl X.K a) H1) ∨ (SqT X.K H1 a xs ∧ R (Itt X.K a) H1))) := by
  refine ⟨fun pins s σ H R I h => thn (he.run pins s σ H _ I h) fun v s1 hv => ?_⟩
  obtain ⟨x, H1, I1, r1, a, xs, rfl, hq⟩ := hv
  cases r1
  have fresh : ∀ b ∈ [s1.heap.objs.size], FpOk X pins H1 b := fun b hb => by
    rw [show b = s1.heap.objs.size by simpa using hb]
    exact I1.fpOk (Nat.le_refl _) (I1.hok.fresh (Nat.le_refl _))
  rcases hq with ⟨hq, k⟩ | ⟨hq, k⟩
  · obtain ⟨its, rv, p, hz⟩ := I1.list hq
    exact wpAny_pyIter_list p.isList ⟨_, _, _, _, H1, rfl, I1.kept (t' := s1.toks) (fun b o e => Heap.get?_push_of_some _ e), turn_list a _, ⟨_, Heap.get?_push_size _ rfl, rfl, rfl⟩, fresh, k⟩
  · obtain ⟨its, rv, p, hz⟩ := I1.tuple hq
    exact wpAny_pyIter_tuple (items := its.toArray) p ⟨_, _, _, _, H1, rfl, I1.kept (t' := s1.toks) (fun b o e => Heap.get?_push_of_some _ e), turn_tuple a _, ⟨_, Heap.get?_push_size _ rfl, rfl, rfl⟩, fresh, k⟩
noncomputable def sSeq (f : DEnv → R D) : DEnv → R (List D) := fun ρ => (f ρ).bind fun d ρ' => match seqOf d with
  | some l => .ok ρ' l
  | none => .no
theorem di_seq {f : DEnv → R D} (h0 : DE X W e f) : DI X W tg e (sSeq f) := pi_imp (pi_seq h0) fun σ H Q ⟨ρ, G, R, h⟩ => ⟨ρ, G, R, (Go.bind R h).imp fun d ρ' G' H' s R' hh v hv => by
    clear h
    cases e1 : seqOf d with
    | none => rw [e1] at hh; exact False.elim hh
    | some l =>
      rw [e1] at hh
      have hh := hh G' H' .refl R'
      cases hv with
      | lst h r => cases e1; exact ⟨_, _, rfl, .inl ⟨Evl.sq_of (R'.sub _ _ h), hh _ (itl_s (Evl.sq_of h) r)⟩⟩
      | fro h r => cases e1; exact ⟨_, _, rfl, .inl ⟨Evl.ex_l R'.sub h, hh _ (itl_s h r)⟩⟩
      | tup h r => cases e1; exact ⟨_, _, rfl, .inr ⟨Evl.ex_t R'.sub h, hh _ (itt_s h r)⟩⟩
      | _ => cases e1⟩
end
end DF

namespace DF
open PySem PySem.Spec PyProof.Rows L2
@[simp] theorem dMk_ap (g : D → Option (List D)) (f : DEnv → R Th) (ρ : DEnv) : dMk g f ρ = (f ρ).bind fun t ρ' => match t ρ' with
  | none => .no
  | some d => match g d with
    | none => .no
    | some l => .ok ρ' (.lst l) := id rfl
@[simp] theorem sEnL_ap (f : DEnv → R (List D)) (ρ : DEnv) : sEnL f ρ = (f ρ).bind fun l ρ' => match l with
  | [.lst m] => .ok ρ' (enD 0 m)
  | [.fro m] => .ok ρ' (enD 0 m)
  | _ => .no := id rfl
@[simp] theorem sEnT_ap (f : DEnv → R (List D)) (ρ : DEnv) : sEnT f ρ = (f ρ).bind fun l ρ' => match l with
  | [.tup m] => .ok ρ' (enD 0 m)
  | _ => .no := id rfl
@[simp] theorem sRevR_ap (f : DEnv → R D) (ρ : DEnv) : sRevR f ρ = (f ρ).bind fun d ρ' => match d with
  | .int j => if inR j = true then .ok ρ' (rng 0 j.toNat).reverse else .no
  | _ => .no := id rfl
@[simp] theorem pNo_ap  (ρ : DEnv) : pNo  ρ = .ok ρ none := id rfl
@[simp] theorem pInt_ap (f : DEnv → R D) (ρ : DEnv) : pInt f ρ = (f ρ).bind fun d ρ' => match d with
  | .int i => .ok ρ' (some i)
  | _ => .no := id rfl
@[simp] theorem dSl_ap (f : DEnv → R Th) (fl fu : DEnv → R (Option Int)) (ρ : DEnv) : dSl f fl fu ρ = (f ρ).bind fun t ρ1 => (fl ρ1).bind fun lo ρ2 => (fu ρ2).bind fun hi ρ3 => match t ρ3 with
  | none => .no
  | some d => ofO ρ3 (slO d lo hi) := id rfl
@[simp] theorem dGet2_ap (fo : DEnv → R Th) (fk fx : DEnv → R D) (ρ : DEnv) : dGet2 fo fk fx ρ = (fo ρ).bind fun t ρ1 => match t ρ1 with
  | some (.dic _) => (fk ρ1).bind fun kd ρ2 => (fx ρ2).bind fun x ρ3 => match t ρ3, keyOf kd with
    | some (.dic l), some key => .ok ρ3 ((valD l key).getD x)
    | _, _ => .no
  | _ => .no := id rfl
@[simp] theorem dSetK_ap (i : Nat) (fk f : DEnv → R D) (ρ : DEnv) : dSetK i fk f ρ = (f ρ).bindS fun d ρ1 => match muD i ρ1 with
  | none => .no
  | some _ => (fk ρ1).bindS fun kd ρ2 => match muD i ρ2, keyOf kd with
    | some (b, l), some key => if l.length < 16000000 then .nx (ρ2.set i (some (.mu b (.dic (insD l key d))))) else .no
    | _, _ => .no := id rfl
@[simp] theorem sKeys_ap (f : DEnv → R D) (ρ : DEnv) : sKeys f ρ = (f ρ).bind fun d ρ' => match d with
  | .dic l => .ok ρ' (l.map fun p => keyD p.1)
  | _ => .no := id rfl
@[simp] theorem sItems_ap (f : DEnv → R D) (ρ : DEnv) : sItems f ρ = (f ρ).bind fun d ρ' => match d with
  | .dic l => .ok ρ' (l.map fun p => D.tup [keyD p.1, p.2])
  | _ => .no := id rfl
@[simp] theorem dDisp_ap (fs : List ((DEnv → R D) × (DEnv → R D))) (ρ : DEnv) : dDisp fs ρ = (vPs fs ρ).bind fun l ρ' => if l.length ≤ 15 then .ok ρ' (.dic (disD l)) else .no := id rfl
theorem eqY_int (i j : Int) : eqY (.int i) (.int j) = some (.bl (decide (i = j))) := by
  unfold eqY eqX orD
  rw [eq_int]
theorem neY_int (i j : Int) : neY (.int i) (.int j) = some (.bl (!decide (i = j))) := by
  unfold neY neX orD
  rw [ne_int]
theorem max2_ap (i j : Int) : orC max2D maxSD [.int i, .int j] = max2D [.int i, .int j] := rfl
theorem min2_ap (i j : Int) : orC min2D minSD [.int i, .int j] = min2D [.int i, .int j] := rfl
end DF

namespace DF
variable {gq : Bool}
open PySem PySem.Spec PyProof.Rows L2
section
variable {P : Program} {w : World} {K : PySem.W.Frag} {mg : Str → Option Value} {base : Heap}
end
theorem FnG.mono {P : Program} {w : World} {K : PySem.W.Frag} {mg : Str → Option Value} {base : Heap} {CX : CXT} {j k : Nat} {f : Addr} {fd : FuncData} {ps : List Str} {sp : Sp} (h : FnG P w K mg base CX j f fd ps sp gq) (hj : j ≤ k) : FnG P w K mg base CX k f fd ps sp gq :=
  ⟨h.len, fun A outer s H us vs Q E hr => h.run A outer s H us vs Q E (hr.mono hj)⟩
section
variable {X : Cx} {W : WX} {o e tg : Expr} {es : List Expr} {f cn fl x m : Str} {p pos apos p1 : Pos} {k j ar : Nat} {F : Fn}
end
end DF

namespace DF
open PySem PySem.Spec PyProof.Rows PyProof.V L2
noncomputable def rSumT (K : PySem.W.Frag) : List V → Hp → VK → Prop := fun vs H Q => ∃ (a : Addr) (ns : List Int), vs = [V.ref a] ∧ SqT K H a (ns.map V.int) ∧ Q (.int ns.sum) H
theorem call_sumT {X : Cx} (hc : X.calm = true) : CallR X (.builtin "sum") (rSumT X.K) := by
  intro pins s σ H vs us Q I r h
  obtain ⟨a, ns, rfl, hs, q⟩ := h
  obtain ⟨its, rv, hl, _⟩ := I.tuple hs
  rw [Vals.ref1 r]
  have hi := rv.ints
  have hl' : s.heap.IsTuple a its.toArray := hl
  obtain ⟨xs, hx⟩ := hi.allInts.items
  have hn : numsOf its.toArray.toList = ns := by rw [show its.toArray.toList = its from rfl, hi.numsOf]
  rw [hx] at hl' hn
  rw [nums_intItems] at hn
  refine PySem.W.ktm_sumG (I.ok.hd hc) hl' fun h' tk t' hk => ?_
  rw [preSum_eq, List.take_of_length_le (by simp), hn]
  exact ⟨.int _, H, I.kept hk, ⟨_, rfl⟩, q⟩
noncomputable def tupOf (d : D) : Option (List D) := match d with
  | .tup l => some l
  | _ => none
theorem tupOf_top {K : PySem.W.Frag} {G H : Hp} {d : D} {l : List D} {v : V} (eS : Evl.Ex G H) (h : Top K G H d v) (e : tupOf d = some l) : ∃ a xs, v = .ref a ∧ SqT K H a xs ∧ Iss K G l xs := by
  cases d with
  | tup m => cases e; cases h with | tup h1 h2 => exact ⟨_, _, rfl, Evl.ex_t eS h1, h2⟩
  | _ => cases e
noncomputable def sumTD (xs : List D) : Option D := match xs with
  | [d] => match tupOf d with
    | some l => (intsD l).map fun ns => .int ns.sum
    | none => none
  | _ => none
theorem cas_sumT {K : PySem.W.Frag} : CaS K (rSumT K) sumTD := fun xs z vs G H Q eS hx e k => by
  unfold sumTD at e
  split at e
  · rename_i d
    split at e
    · rename_i l e1
      obtain ⟨v, rfl, h⟩ := tops1 hx
      obtain ⟨a, ys, rfl, h1, h2⟩ := tupOf_top eS h e1
      cases q : intsD l with
      | none => rw [q] at e; cases e
      | some ns =>
        rw [q] at e; cases e
        rw [intsD_of q] at h2
        exact ⟨a, ns, rfl, by rw [← h2.ints]; exact h1, k _ G H (New.refl eS) (.int _)⟩
    · cases e
  · cases e
noncomputable def sumAD : List D → Option D := orC sumD sumTD
@[simp] theorem sumAD_tup (l : List Int) : sumAD [.tup (l.map D.int)] = some (.int l.sum) := by
  show (match sumD [.tup (l.map D.int)] with | some d => some d | none => sumTD [.tup (l.map D.int)]) = _
  show sumTD [.tup (l.map D.int)] = _
  unfold sumTD
  show (intsD (l.map D.int)).map (fun ns => D.int ns.sum) = _
  rw [intsD_map]; rfl
@[simp] theorem sumAD_lst (l : List Int) : sumAD [.lst (l.map D.int)] = some (.int l.sum) := by
  have : sumD [.lst (l.map D.int)] = some (.int l.sum) := by
    show (intsD (l.map D.int)).map (fun ns => D.int ns.sum) = _
    rw [intsD_map]; rfl
  unfold sumAD orC
  rw [this]
end DF

namespace DF
open PySem PySem.Spec PyProof.Rows L2
section
variable {K : PySem.W.Frag} {G H : Hp}
end
end DF

set_option maxHeartbeats 1000000
namespace DF
open PySem PySem.Spec PyProof.Rows L2
section
variable {X : Cx} {W : WX} {e o k : Expr} {es : List Expr} {p pos : Pos} {f : DEnv → R Th}
end
end DF

set_option maxHeartbeats 1000000
namespace DF
open PySem PySem.Spec PyProof.Rows L2
section
variable {prog : Program} {w : World} {A : Around} {E : Value → Shared → Prop} {s : Shared}
end
section
variable {X : Cx} {pos p2 : Pos}
end
section
variable {X : Cx} {W : WX} {i : Nat} {o e ea ek : Expr} {pos p1 p2 : Pos} {f fa fk : DEnv → R D}
end
end DF

namespace DF
variable {gq : Bool}
open PySem PySem.Spec PyProof.Rows L2
end DF

namespace DF
open PySem PySem.Spec PyProof.Rows L2
noncomputable def rprND (xs : List D) : Option D := match xs with
  | [.non] => some (.str "None")
  | _ => none
noncomputable def rRprN : List V → Hp → VK → Prop := fun xs H Q => xs = [.non] ∧ Q (.str "None") H
theorem call_rprN {X : Cx} : CallR X (.builtin "repr") rRprN := by
  intro pins s σ H xs us Q I r h
  obtain ⟨rfl, q⟩ := h
  obtain ⟨u, rfl, r1⟩ := vals1 r
  cases r1
  exact PySem.P.repr_of_none ⟨.str _, H, I.tok _, ⟨_, rfl⟩, q⟩
theorem cas_rprN {K : PySem.W.Frag} : CaS K rRprN rprND := fun xs z vs G H Q eS hx e k => by
  unfold rprND at e
  split at e
  · obtain ⟨v, rfl, h⟩ := tops1 hx
    cases h; cases e
    exact ⟨rfl, k _ G H (New.refl eS) (.str _)⟩
  · cases e
noncomputable def rprZ : List D → Option D := orC rprX rprND
end DF

set_option maxHeartbeats 1000000
namespace DF
variable {gq : Bool}
open PySem PySem.Spec PyProof.Rows L2
section
variable {X : Cx} {W : WX} {e : Expr} {f : DEnv → R D} {F : Fn}
variable {x : Str} {p pos : Pos} {k j : Nat} {ps : List Str}
end
end DF

set_option maxHeartbeats 1000000
namespace DF
variable {gq : Bool}
open PySem PySem.Spec PyProof.Rows L2
section
variable {X : Cx} {W : WX} {a b : Expr} {ta tb : TE} {pos : Pos} {op : Operator} {C g : Addr} {k : Nat} {fd : FuncData} {ps : List Str} {sp : Sp} {E : L2.St → XK} {CX : CXT}
end
end DF

set_option maxHeartbeats 1000000
namespace DF
open PySem PySem.Spec PyProof.Rows L2
structure HasE (K : PySem.W.Frag) (mg : Str → Option Value) (x : Str) : Prop where
  ex : ∃ (C : Addr) (bmB : List Value) (B newId initId : String), cv K x = .ref C ∧ mg x = some (.ref C) ∧ PySem.W.keepIn K (.ref C) = true ∧ ExcBaseFacts B newId initId bmB ∧ PySem.W.excIn K C bmB newId = true ∧
    PySem.W.subIn K (.ref C) (.type "BaseException") = some true ∧ PySem.W.typeIn K (.ref C) = some (.type "type")
noncomputable def dRaise (x : Str) : DEnv → SR := fun ρ => .ex ρ ⟨x, none⟩
@[simp] theorem dRaise_ap (x : Str) (ρ : DEnv) : dRaise x ρ = .ex ρ ⟨x, none⟩ := id rfl
section
variable {X : Cx} {W : WX} {x m : Str} {j : Nat} {p p2 pos pos' np : Pos}
theorem ds_raise (h : HasE X.K X.mg x) (hc : X.calm = true) (tk : Takes X W) (hg : Gl X x) (hdb : (x == ("__debug__" : Str)) = false := by decide) : DS X W (.Raise (some (.Call (.Name x p) [.Constant (.str m) j p2] [] pos)) none pos') (dRaise x) := by
  obtain ⟨C, bmB, B, newId, initId, hv, hm, hk, EF, hx, h1, h2⟩ := h.ex
  refine ps_imp (ps_raise hc tk (pmk_own EF hx hm hk (raises_own h1 h2) hg hdb)) fun E σ H ⟨ρ, G, R, h⟩ => ?_
  have z : W (cv X.K x) none σ H := h none σ G H .refl R rfl
  rw [hv] at z
  exact z
end
structure Cl where
  nm : Str
  ix : Option Nat
  ts : Addr → Value → Option Addr → TS
noncomputable def putN (ix : Option Nat) (a : Addr) (σ : Sl) : Sl := match ix with
  | none => σ
  | some i => σ.set i (some (.ref a))
noncomputable def offN (ix : Option Nat) (σ : Sl) : Sl := match ix with
  | none => σ
  | some i => σ.set i none
noncomputable def offE (ix : Option Nat) (D : Ends) : Ends := { nx := fun σ H => D.nx (offN ix σ) H, rt := D.rt, bk := fun σ H => D.bk (offN ix σ) H, ct := fun σ H => D.ct (offN ix σ) H }
noncomputable def wCl (K : PySem.W.Frag) (Wo : WX) (D : Ends) : List Cl → WX
  | [] => Wo
  | c :: r => fun cls d σ H => ∃ b, PySem.W.exmOne K cls (cv K c.nm) = some b ∧ (b = true → ∀ a, H a = none → c.ts a cls d (offE c.ix D) (putN c.ix a σ) H) ∧ (b = false → wCl K Wo D r cls d σ H)
noncomputable def SuOk (X : Cx) (sts : List Stmt) (ts : Addr → Value → Option Addr → TS) : Prop :=
  ∀ (a : Addr) (oe : Obj) (cls : Value) (d : Option Addr) (pn : List (Addr × Obj)), Zc cls d oe → (∃ vs, oe.data = .fields vs) → PSs (X.suite a ((a, oe) :: pn)) sts (ts a cls d)
inductive ClOk (X : Cx) : ExceptHandler → Cl → Prop
  | no {x : Str} {b₀ : Stmt} {su : List Stmt} {np p : Pos} {ts : Addr → Value → Option Addr → TS} : Names X x (cv X.K x) → SuOk X (b₀ :: su) ts → ClOk X (.ExceptHandler (some (.Name x np)) none (b₀ :: su) p) ⟨x, none, ts⟩
  | as {x n : Str} {i : Nat} {b₀ : Stmt} {su : List Stmt} {np p : Pos} {ts : Addr → Value → Option Addr → TS} : X.N.Nodup → X.N[i]? = some n → X.env.kindOf n = some .local → Names X x (cv X.K x) → SuOk X (b₀ :: su) ts →
      ClOk X (.ExceptHandler (some (.Name x np)) (some n) (b₀ :: su) p) ⟨x, some i, ts⟩
inductive ClsOk (X : Cx) : List ExceptHandler → List Cl → Prop
  | nil : ClsOk X [] []
  | cons {h : ExceptHandler} {c : Cl} {hs : List ExceptHandler} {cs : List Cl} : ClOk X h c → ClsOk X hs cs → ClsOk X (h :: hs) (c :: cs)
structure Land (X : Cx) (pins : List (Addr × Obj)) (σ : Sl) (H : Hp) (sI : Shared) (B : Heap) (a : Addr) (cls : Value) (d : Option Addr) (s : Shared) : Prop where
  J : Inv X pins σ H sI
  nb : ∀ b o, sI.heap.get? b = some o → b ∉ frs X.stack → B.get? b = some o
  up : sI.heap.UpToSlots s.heap
  fl : HandSPX.FlyingZ B (X.env :: X.outer) a (Zc cls d) s.heap
  na : H a = none
  os : s.os = sI.os
  ag : AllBare s.gens
section
variable {X : Cx} {pins : List (Addr × Obj)} {σ : Sl} {H : Hp} {sI s : Shared} {B : Heap} {a : Addr} {cls : Value} {d : Option Addr}
theorem Land.inv (L : Land X pins σ H sI B a cls d s) : Inv X pins σ H s := L.J.landed L.nb L.fl.1 L.up L.os L.ag
theorem Land.more (L : Land X pins σ H sI B a cls d s) {h : Heap} (f : HandSPX.FlyingZ B (X.env :: X.outer) a (Zc cls d) h) (u : s.heap.UpToSlots h) : Land X pins σ H sI B a cls d { s with heap := h } :=
  { J := L.J, nb := L.nb, up := L.up.trans u, fl := f, na := L.na, os := L.os, ag := L.ag }
theorem Land.suite (hf : X.env.frame = some X.env.locals) (L : Land X pins σ H sI B a cls d s) :
    ∃ oe vs, s.heap.get? a = some oe ∧ Zc cls d oe ∧ oe.data = .fields vs ∧ Inv (X.suite a ((a, oe) :: (X.pn ++ pins))) [] σ H s := by
  obtain ⟨oe, vs, e1, e2, e3⟩ := L.fl.there
  have no : a ∉ frs (X.env :: X.outer) := fun m => by
    obtain ⟨_, o', q, nf⟩ := L.fl.2.2.1.mem m
    rw [e1] at q
    exact nf vs ((Option.some.inj q) ▸ e3)
  have me : X.env.locals ∈ frs (X.env :: X.outer) := List.mem_filterMap.mpr ⟨_, List.mem_cons_self, hf⟩
  refine ⟨oe, vs, e1, e2, e3, L.inv.suite e1 e3 L.na (fun z => no (z ▸ me)) fun m => ?_⟩
  obtain ⟨y, y1, y2⟩ := List.mem_filterMap.mp m
  exact no (List.mem_filterMap.mpr ⟨y, List.mem_cons_of_mem _ y1, y2⟩)
variable {Wo : WX} {D : Ends}
theorem sp_as {i : Nat} {n : Str} {oe : Obj} {pos : Pos} {f : Flow} (ok : X.Ok) (hN : X.N.Nodup) (hi : X.N[i]? = some n) (hl : X.env.kindOf n = some .local) {s' : Shared} (h : SP (X.suite a ((a, oe) :: (X.pn ++ pins))) [] (offE (some i) D) f s') :
    wpAny (model X.prog X.w) X.A (do bindName X.env n .none; unbindBehindTheSuite X.env n pos) (fun _ s7 => SP X pins D f s7) X.xe s' := by
  rcases f with _ | _ | _ | u
  · obtain ⟨σ', H', I, q⟩ := h
    exact gone_ok (I.unsuite ok) hN hi hl fun _ J => ⟨_, _, J, q⟩
  · obtain ⟨σ', H', I, q⟩ := h
    exact gone_ok (I.unsuite ok) hN hi hl fun _ J => ⟨_, _, J, q⟩
  · obtain ⟨σ', H', I, q⟩ := h
    exact gone_ok (I.unsuite ok) hN hi hl fun _ J => ⟨_, _, J, q⟩
  · obtain ⟨v, σ', H', I, r, q⟩ := h
    exact gone_ok (I.unsuite ok) hN hi hl fun _ J => ⟨v, _, _, J, r, q⟩
theorem sp_no {oe : Obj} {f : Flow} (ok : X.Ok) {s' : Shared} (h : SP (X.suite a ((a, oe) :: (X.pn ++ pins))) [] (offE none D) f s') : SP X pins D f s' := by
  rcases f with _ | _ | _ | u
  · obtain ⟨σ', H', I, q⟩ := h; exact ⟨_, _, I.unsuite ok, q⟩
  · obtain ⟨σ', H', I, q⟩ := h; exact ⟨_, _, I.unsuite ok, q⟩
  · obtain ⟨σ', H', I, q⟩ := h; exact ⟨_, _, I.unsuite ok, q⟩
  · obtain ⟨v, σ', H', I, r, q⟩ := h; exact ⟨v, _, _, I.unsuite ok, r, q⟩
theorem by_cls (hs : X.stack = X.env :: X.outer) (hf : X.env.frame = some X.env.locals) (tk : Takes X Wo) {hds : List ExceptHandler} {cs : List Cl} (hk : ClsOk X hds cs) (L : Land X pins σ H sI B a cls d s) :
    wCl X.K Wo D cs cls d σ H → wpAny (model X.prog X.w) X.A (handleBy (.ref a) X.env hds) (SP X pins D) X.xe s := by
  have ok := L.J.ok
  induction hk with
  | nil =>
    intro w
    refine wpAny_handleBy_nil ?_
    obtain ⟨_, _, _, oe, vs, T, _, _, g1, _, g2, g3, _⟩ := id L.fl
    have away : wpAny (model X.prog X.w) X.A (setFlight (.ref a) X.env.frame) (fun _ s4 => wpAny (model X.prog X.w) X.A (throw (.ref a) : Sem Flow) (SP X pins D) X.xe s4) X.xe s := by
      rw [hf]
      exact HandSPX.setFlight_upZ L.fl fun h4 k4 u4 => wpAny_throw (tk _ _ ⟨a, B, sI, pins, σ, H, cls, d, rfl, L.J, L.nb, L.up.trans u4, .inr (.inr (hs ▸ k4)), L.na, L.os, L.ag, w⟩)
    unfold PySem.passOn
    refine wpAny_bind (wpAny_field g1 g2 g3 ?_)
    rw [if_neg (by simp : ¬ ((Value.ref T == Value.none) = true))]
    first | exact wpAny_bind away | exact wpAny_bind (wpAny_pure (wpAny_bind away))
  | @cons h c hs2 cs2 hc r ih =>
    rintro ⟨b, hb, yes, no⟩
    obtain ⟨oe, vs, e1, e2, e3, S⟩ := L.suite hf
    have kind : PySem.W.Looks (model X.prog X.w) s.heap (typeOf (.ref a)) cls := fun A Q E s₁ k q => wpAny_typeOf_ref (k _ _ e1) (e2.1.symm ▸ q)
    have look := PySem.W.exm_one (M := model X.prog X.w) L.inv.kIn kind hb
    have name : ∀ {x : Str} {np : Pos} {Q E : Value → Shared → Prop}, Names X x (cv X.K x) → Q (cv X.K x) s → wpAny (model X.prog X.w) (X.A.mark (some (.ref a))) (eval (.Name x np) X.env) Q E s := fun {x np Q E} ⟨g1, g2, g3⟩ q =>
      g3.elim (fun m => ld_glob (X := X.suite a ((a, oe) :: (X.pn ++ pins))) S g1 m q g2) fun ⟨m1, m2, m3⟩ => ld_blt (X := X.suite a ((a, oe) :: (X.pn ++ pins))) S g1 m1 m2 q m3 g2
    cases hc with
    | no hn hsu =>
      refine wpAny_handleBy_cons (codeAny_handlers_test (name hn (look.here ?_))) (fun q => nomatch q)
      cases b with
      | false => exact ih (no rfl)
      | true =>
        refine codeAny_handlers_suite (HandSPX.lands_againZ L.fl fun h4 f4 u4 => ?_)
        obtain ⟨oe4, vs4, _, z4, d4, S4⟩ := (L.more f4 u4).suite hf
        exact wpAny_mono ((hsu a oe4 cls d _ z4 ⟨_, d4⟩).run [] _ σ H (offE none D) S4 (yes rfl a L.na)) (fun f s6 q => by cases f <;> exact sp_no ok q) fun _ _ z => False.elim z
    | @as x n i b₀ su np p ts hN hi hl hn hsu =>
      refine wpAny_handleBy_cons (codeAny_handlers_test (name hn (look.here ?_))) (fun q => nomatch q)
      cases b with
      | false => exact ih (no rfl)
      | true =>
        refine codeAny_handlers_suite_as (HandSPX.lands_againZ L.fl fun h4 f4 u4 => ?_)
        obtain ⟨oe4, vs4, _, z4, d4, S4⟩ := (L.more f4 u4).suite hf
        refine store_ok (X := X.suite a ((a, oe4) :: (X.pn ++ pins))) (v := .ref a) S4 hN hi (.inl hl) rfl (fun s5 S5 => ?_) (.inr hl)
        exact wpAny_mono ((hsu a oe4 cls d _ z4 ⟨_, d4⟩).run [] s5 _ H (offE (some i) D) S5 (yes rfl a L.na)) (fun f s6 q => by cases f <;> exact sp_as ok hN hi hl q) fun _ _ z => False.elim z
end
section
variable {X : Cx} {body : List Stmt} {h₀ : ExceptHandler} {hds : List ExceptHandler} {cs : List Cl} {pos : Pos} {tb : WX → TS} {Wo : WX}
theorem ps_tryN (hs : X.stack = X.env :: X.outer) (hf : X.env.frame = some X.env.locals) (tk : Takes X Wo) (hk : ClsOk X (h₀ :: hds) cs)
    (hb : ∀ (W : WX) (pn : List (Addr × Obj)) (xe : Value → Shared → Prop), Takes (X.tr pn xe) W → PSs (X.tr pn xe) body (tb W)) : PS X (.Try body (h₀ :: hds) [] [] pos) (fun D σ H => tb (wCl X.K Wo D cs) D σ H) := by
  refine ⟨fun pins s σ H D I h => wpAny_Try_except ?_⟩
  refine wpAny_mono ((hb (wCl X.K Wo D cs) (X.pn ++ pins) (fun e s₁ => wpAny (model X.prog X.w) X.A (noteFrame e X.env) (fun _ s₂ => wpAny (model X.prog X.w) X.A (setFlight e none) (fun _ s₃ => wpAny (model X.prog X.w) X.A (handleBy e X.env (h₀ :: hds)) (SP X pins D) X.xe s₃) X.xe s₂) X.xe s₁) ?_).run [] s σ H D (I.toTry _) h) (fun f s1 q => ?_) fun _ _ z => z
  · rintro u s' ⟨a, B, sI, pins', σ', H', cls, d, rfl, J', nb, up, sky, na, os, ag, w⟩
    refine Sky.land Zc.steady (by rw [I.ok.frames, hs]) hf (hs ▸ sky) fun h3 f3 u3 => ?_
    exact by_cls hs hf tk hk { J := J'.ofTry I.ok, nb := nb, up := up.trans u3, fl := f3, na := na, os := os, ag := ag } w
  · rcases f with _ | _ | _ | u
    · obtain ⟨σ', H', J, q⟩ := q; exact wpAny_execs_nil ⟨σ', H', J.ofTry I.ok, q⟩
    · obtain ⟨σ', H', J, q⟩ := q; exact ⟨σ', H', J.ofTry I.ok, q⟩
    · obtain ⟨σ', H', J, q⟩ := q; exact ⟨σ', H', J.ofTry I.ok, q⟩
    · obtain ⟨v, σ', H', J, r, q⟩ := q; exact ⟨v, σ', H', J.ofTry I.ok, r, q⟩
end
end DF

set_option maxHeartbeats 1000000
namespace DF
open PySem PySem.Spec PyProof.Rows L2
end DF

set_option maxHeartbeats 1000000
namespace DF
open PySem PySem.Spec PySem.Calls PyProof.Rows L2
end DF

set_option maxHeartbeats 1000000
namespace DF
open PySem PySem.Spec PySem.Calls PyProof.Rows L2
end DF

set_option maxHeartbeats 1000000
namespace DF
open PySem PySem.Spec PyProof.Rows L2
noncomputable def zipD : List D → List D → List D
  | x :: l, y :: m => .tup [x, y] :: zipD l m
  | _, _ => []
theorem zipD_get : ∀ (l m : List D) (i : Nat) (d : D), (zipD l m)[i]? = some d → ∃ x y, l[i]? = some x ∧ m[i]? = some y ∧ d = .tup [x, y]
  | x :: l, y :: m, 0, d, e => by
    simp [zipD] at e
    exact ⟨x, y, rfl, rfl, e.symm⟩
  | x :: l, y :: m, i + 1, d, e => by
    obtain ⟨x', y', h1, h2, h3⟩ := zipD_get l m i d (by simpa [zipD] using e)
    exact ⟨x', y', by simpa using h1, by simpa using h2, h3⟩
  | [], _, _, _, e => by simp [zipD] at e
  | _ :: _, [], _, _, e => by simp [zipD] at e
theorem zipD_stop : ∀ (l m : List D) (i : Nat), (zipD l m).length ≤ i → l.length ≤ i ∨ m.length ≤ i
  | [], _, _, _ => .inl (Nat.zero_le _)
  | _ :: _, [], _, _ => .inr (Nat.zero_le _)
  | x :: l, y :: m, 0, e => by simp [zipD] at e
  | x :: l, y :: m, i + 1, e => by
    rcases zipD_stop l m i (by simpa [zipD] using e) with h | h
    · exact .inl (by simpa using h)
    · exact .inr (by simpa using h)
theorem zip_yield {K : PySem.W.Frag} {G H H' : Hp} {T : Addr} {d e : D} {x y : V} (eS : Evl.Ex G H) (hT : H T = none) (q : H' = upd H T (.tup [x, y])) (hx : Is K G d x) (hy : Is K G e y) : ∃ G', New G H G' H' ∧ Is K G' (.tup [d, e]) (.ref T) := by
  subst q
  have N : New G H (upd G T (.tup [x, y])) (upd H T (.tup [x, y])) := New.put eS hT
  exact ⟨_, N, .tup (Evl.st_of upd_same) (.cons (hx.mono N.g) (.cons (hy.mono N.g) .nil))⟩
theorem itz_s {K : PySem.W.Frag} {G0 : Hp} {l m : List D} {a b : Addr} {xs ys : List V} (h : SqL K G0 a xs) (r : Iss K G0 l xs) (h' : SqL K G0 b ys) (r' : Iss K G0 m ys) : ItS K G0 (zipD l m) (Itz K a b) where
  go := fun i d G H e eG eH => by
    obtain ⟨x, y, h1, h2, rfl⟩ := zipD_get l m i d e
    obtain ⟨v, e1, e2⟩ := r.get h1
    obtain ⟨u, e3, e4⟩ := r'.get h2
    have hL : SqL K H a xs := Evl.ex_l eH (Evl.ex_l eG h)
    have hM : SqL K H b ys := Evl.ex_l eH (Evl.ex_l eG h')
    refine ⟨⟨xs, ys, v, u, hL, hM, e1, e3⟩, fun w H' ⟨T, z, z', ev, hT, eH', q, q'⟩ => ?_⟩
    subst ev
    have q1 := q xs hL
    have q2 := q' ys hM
    rw [e1] at q1; cases q1
    rw [e3] at q2; cases q2
    exact zip_yield eH hT eH' (e2.mono eG) (e4.mono eG)
  stop := fun i G H e eG eH => ⟨xs, ys, Evl.ex_l eH (Evl.ex_l eG h), Evl.ex_l eH (Evl.ex_l eG h'), by rw [← r.length, ← r'.length]; exact zipD_stop l m i e⟩
theorem itzT_s {K : PySem.W.Frag} {G0 : Hp} {l m : List D} {a b : Addr} {xs ys : List V} (h : SqT K G0 a xs) (r : Iss K G0 l xs) (h' : SqT K G0 b ys) (r' : Iss K G0 m ys) : ItS K G0 (zipD l m) (RZ.ItzT K a b) where
  go := fun i d G H e eG eH => by
    obtain ⟨x, y, h1, h2, rfl⟩ := zipD_get l m i d e
    obtain ⟨v, e1, e2⟩ := r.get h1
    obtain ⟨u, e3, e4⟩ := r'.get h2
    have hL : SqT K H a xs := Evl.ex_t eH (Evl.ex_t eG h)
    have hM : SqT K H b ys := Evl.ex_t eH (Evl.ex_t eG h')
    refine ⟨⟨xs, ys, v, u, hL, hM, e1, e3⟩, fun w H' ⟨T, z, z', ev, hT, eH', q, q'⟩ => ?_⟩
    subst ev
    have q1 := q xs hL
    have q2 := q' ys hM
    rw [e1] at q1; cases q1
    rw [e3] at q2; cases q2
    exact zip_yield eH hT eH' (e2.mono eG) (e4.mono eG)
  stop := fun i G H e eG eH => ⟨xs, ys, Evl.ex_t eH (Evl.ex_t eG h), Evl.ex_t eH (Evl.ex_t eG h'), by rw [← r.length, ← r'.length]; exact zipD_stop l m i e⟩
noncomputable def zipV : List D → Option (List D)
  | [.lst l, .lst m] => some (zipD l m)
  | [.lst l, .fro m] => some (zipD l m)
  | [.fro l, .lst m] => some (zipD l m)
  | [.fro l, .fro m] => some (zipD l m)
  | [.tup l, .tup m] => some (zipD l m)
  | _ => none
noncomputable def sZip (f : DEnv → R (List D)) : DEnv → R (List D) := fun ρ => (f ρ).bind fun l ρ' => match zipV l with
  | some z => .ok ρ' z
  | none => .no
@[simp] theorem sZip_ap (f : DEnv → R (List D)) (ρ : DEnv) : sZip f ρ = (f ρ).bind fun l ρ' => match zipV l with
  | some z => .ok ρ' z
  | none => .no := id rfl
section
variable {X : Cx} {W : WX} {e e2 : Expr} {p pos tpos : Pos} {elts : List Expr} {kk : Nat} {f : DEnv → R (List D)}
theorem di_zip (hg : Gl X "zip") (hm : X.mg "zip" = none) (ha : DVs X W [e, e2] f) (hs : starEach [e, e2] X.env = (false, eval e X.env) :: starEach [e2] X.env := by rfl) (hpl : (backTo pos (starEach [e2] X.env)).any (·.1) = false := by rfl) : DI X W (.Tuple elts kk tpos) (.Call (.Name "zip" p) [e, e2] [] pos) (sZip f) :=
  pi_imp (RZ.pi_zipA hg hm ha hs hpl) fun σ H Q ⟨ρ, G, R, h⟩ => ⟨ρ, G, R, (Go.bind R h).imp fun l ρ' G' H' s R' h vs hv => by
    split at h
    · rename_i z ez
      unfold zipV at ez
      split at ez
      · cases ez
        cases hv with
        | cons h1 h2 =>
          cases h2 with
          | cons h2 h3 =>
            cases h3
            cases h1 with
            | lst q1 q2 =>
              cases h2 with
              | lst q3 q4 => exact ⟨_, _, _, _, rfl, .inl ⟨(Evl.sq_of (R'.sub _ _ q1)), (Evl.sq_of (R'.sub _ _ q3)), h G' H' .refl R' _ (itz_s (Evl.sq_of q1) q2 (Evl.sq_of q3) q4)⟩⟩
      · cases ez
        cases hv with
        | cons h1 h2 =>
          cases h2 with
          | cons h2 h3 =>
            cases h3
            cases h1 with
            | lst q1 q2 =>
              cases h2 with
              | fro q3 q4 => exact ⟨_, _, _, _, rfl, .inl ⟨(Evl.sq_of (R'.sub _ _ q1)), (Evl.ex_l R'.sub q3), h G' H' .refl R' _ (itz_s (Evl.sq_of q1) q2 q3 q4)⟩⟩
      · cases ez
        cases hv with
        | cons h1 h2 =>
          cases h2 with
          | cons h2 h3 =>
            cases h3
            cases h1 with
            | fro q1 q2 =>
              cases h2 with
              | lst q3 q4 => exact ⟨_, _, _, _, rfl, .inl ⟨(Evl.ex_l R'.sub q1), (Evl.sq_of (R'.sub _ _ q3)), h G' H' .refl R' _ (itz_s q1 q2 (Evl.sq_of q3) q4)⟩⟩
      · cases ez
        cases hv with
        | cons h1 h2 =>
          cases h2 with
          | cons h2 h3 =>
            cases h3
            cases h1 with
            | fro q1 q2 =>
              cases h2 with
              | fro q3 q4 => exact ⟨_, _, _, _, rfl, .inl ⟨(Evl.ex_l R'.sub q1), (Evl.ex_l R'.sub q3), h G' H' .refl R' _ (itz_s q1 q2 q3 q4)⟩⟩
      · cases ez
        cases hv with
        | cons h1 h2 =>
          cases h2 with
          | cons h2 h3 =>
            cases h3
            cases h1 with
            | tup q1 q2 =>
              cases h2 with
              | tup q3 q4 => exact ⟨_, _, _, _, rfl, .inr ⟨Evl.ex_t R'.sub q1, Evl.ex_t R'.sub q3, h G' H' .refl R' _ (itzT_s q1 q2 q3 q4)⟩⟩
      · cases ez
    · exact False.elim h⟩
end
end DF

set_option maxHeartbeats 1000000
namespace DF
open PySem PySem.Spec PyProof.Rows L2
section
variable {X : Cx} {W : WX} {o e c : Expr} {i j : Nat} {p1 p2 p3 pos : Pos} {f : DEnv → R D} {t : DEnv → R Bool}
end
end DF

set_option maxHeartbeats 1000000
namespace DF
open PySem PySem.Spec PyProof.Rows L2
section
variable {X : Cx} {W : WX} {e : Expr} {te : TE} {p apos cpos pos : Pos} {f : DEnv → R D}
end
end DF

namespace DF
open PySem PySem.Spec PyProof.Rows L2
section
variable {prog : Program} {w : World}
variable {A : Around}
end
end DF

set_option maxHeartbeats 1000000
namespace DF
open PySem PySem.Spec PyProof.Rows L2
section
variable {X : Cx}
end
end DF

set_option maxHeartbeats 1000000
namespace DF
open PySem PySem.Spec PyProof.Rows L2
section
variable {X : Cx}
end
section
variable {X : Cx} {W : WX} {e i : Expr} {p pos pos2 : Pos} {f g : DEnv → R Th}
end
end DF

set_option maxHeartbeats 1000000
namespace DF
open PySem PySem.Spec PyProof.Rows L2
section
variable {X : Cx} {W : WX} {e : Expr} {f : DEnv → R D}
end
end DF

namespace SB
open PySem PySem.Spec PyProof.Rows L2
noncomputable def Msk (m : Nat) : Prop := m ∈ [7, 31, 127, 511, 2047]
noncomputable def orb (m : Nat) : Nat → Nat → Nat → Nat
  | 0, _, acc => acc
  | n + 1, x, acc => orb m n ((x * 5 + 1) % (m + 1)) (acc ||| (1 <<< x))
theorem orb_mem (m : Nat) : ∀ (n x acc j : Nat), (orb m n x acc).testBit j = true → acc.testBit j = true ∨ ∃ k, k < n ∧ lcgI m x k = j
  | 0, _, _, _, e => .inl e
  | n + 1, x, acc, j, e => by
    rcases orb_mem m n _ _ j e with q | ⟨k, hk, q⟩
    · rw [Nat.testBit_or, Bool.or_eq_true] at q
      rcases q with q | q
      · exact .inl q
      · rw [Nat.one_shiftLeft, Nat.testBit_two_pow, decide_eq_true_eq] at q
        exact .inr ⟨0, Nat.succ_pos _, q⟩
    · refine .inr ⟨k + 1, Nat.succ_lt_succ hk, ?_⟩
      have sh : ∀ k x, lcgI m ((x * 5 + 1) % (m + 1)) k = lcgI m x (k + 1) := fun k => by
        induction k with
        | zero => intro x; rfl
        | succ k ih => intro x; show (lcgI m ((x * 5 + 1) % (m + 1)) k * 5 + 1) % (m + 1) = (lcgI m x (k + 1) * 5 + 1) % (m + 1); rw [ih]
      rw [← sh]; exact q
theorem full7 : orb 7 8 0 0 = 2 ^ 8 - 1 ∧ lcgI 7 0 8 = 0 := by decide +kernel
theorem full31 : orb 31 32 0 0 = 2 ^ 32 - 1 ∧ lcgI 31 0 32 = 0 := by decide +kernel
theorem full127 : orb 127 128 0 0 = 2 ^ 128 - 1 ∧ lcgI 127 0 128 = 0 := by decide +kernel
theorem full511 : orb 511 512 0 0 = 2 ^ 512 - 1 ∧ lcgI 511 0 512 = 0 := by decide +kernel
theorem full2047 : orb 2047 2048 0 0 = 2 ^ 2048 - 1 ∧ lcgI 2047 0 2048 = 0 := by decide +kernel
end SB

namespace SB
open PySem PySem.Spec PyProof.Rows L2
theorem Msk.full {m : Nat} (h : Msk m) : orb m (m + 1) 0 0 = 2 ^ (m + 1) - 1 ∧ lcgI m 0 (m + 1) = 0 := by
  simp only [Msk, List.mem_cons, List.not_mem_nil, or_false] at h
  rcases h with e | e | e | e | e <;> subst e
  · exact full7
  · exact full31
  · exact full127
  · exact full511
  · exact full2047
theorem Msk.odd {m : Nat} (h : Msk m) : m % 2 = 1 := by
  simp only [Msk, List.mem_cons, List.not_mem_nil, or_false] at h
  omega
theorem Msk.big {m : Nat} (h : Msk m) : m ≤ 2047 ∧ 7 ≤ m := by
  simp only [Msk, List.mem_cons, List.not_mem_nil, or_false] at h
  omega
theorem round {m : Nat} (h : Msk m) {i j : Nat} (hi : i ≤ m) (hj : j ≤ m) : ∃ k, k ≤ m ∧ lcgI m i k = j := by
  obtain ⟨f1, f2⟩ := h.full
  have hit : ∀ {x : Nat}, x ≤ m → ∃ k, k ≤ m ∧ lcgN m k = x := fun {x} hx => by
    have b : (orb m (m + 1) 0 0).testBit x = true := by
      rw [f1, Nat.testBit_two_pow_sub_one, decide_eq_true_eq]; omega
    rcases orb_mem m _ _ _ _ b with q | ⟨k, hk, q⟩
    · simp at q
    · have e := lcgN_add m 0 k
      rw [Nat.zero_add] at e
      exact ⟨k, by omega, e.symm.trans q⟩
  have per : ∀ k, lcgN m (m + 1 + k) = lcgN m k := fun k => by
    induction k with
    | zero =>
      have e := lcgN_add m 0 (m + 1)
      rw [Nat.zero_add] at e
      exact e.symm.trans f2
    | succ k ih => show (lcgN m (m + 1 + k) * 5 + 1) % (m + 1) = (lcgN m k * 5 + 1) % (m + 1); rw [ih]
  obtain ⟨a, ha, ea⟩ := hit hi
  obtain ⟨b, hb, eb⟩ := hit hj
  subst ea
  by_cases c : a ≤ b
  · exact ⟨b - a, by omega, by rw [lcgN_add, Nat.add_sub_cancel' c]; exact eb⟩
  · refine ⟨m + 1 - a + b, by omega, ?_⟩
    rw [lcgN_add, show a + (m + 1 - a + b) = m + 1 + b by omega, per]; exact eb
theorem begins {m : Nat} (h : Msk m) (x : Int) {j : Nat} (hj : j ≤ m) : ∃ n, n ≤ m + 12 ∧ runI m (SetTable.bits x) n = j := by
  obtain ⟨k, hk, e⟩ := round h (runI_le m (SetTable.bits x) 12) hj
  exact ⟨12 + k, by omega, (runI_tail (bits_lt x) k).trans e⟩
theorem comes {m : Nat} (h : Msk m) (x : Int) {j : Nat} (hj : j ≤ m) : ∃ k, k < 10 * SetTable.turns m ∧ way m x k = j := by
  obtain ⟨n, hn, e⟩ := begins h x hj
  obtain ⟨k, hk, q⟩ := run_nth m (SetTable.bits x) n
  refine ⟨k, ?_, ?_⟩
  · unfold SetTable.turns; omega
  · show (nth m _ k).j = j
    rw [q]; exact e
theorem way_in {m : Nat} (x : Int) (k : Nat) : way m x k ≤ m := by
  have b : SetTable.bits x % (m + 1) ≤ m := Nat.le_of_lt_succ (Nat.mod_lt _ (Nat.succ_pos _))
  obtain ⟨r1, r2, r3⟩ := runEnd_bd b
  have q := nth_in (m := m) k (runAt m (SetTable.bits x % (m + 1)) (SetTable.bits x))
    (by show SetTable.bits x % (m + 1) + (SetTable.runEnd m (SetTable.bits x % (m + 1)) - SetTable.bits x % (m + 1)) ≤ m; omega)
  exact Nat.le_trans (Nat.le_add_right _ _) q
structure Tab (t : SetTable) (n : Nat) : Prop where
  up : Ris t.place.toList
  none : t.dummies = #[]
  size : t.place.size = n
  mask : Msk t.mask
  most : ∀ x ∈ t.place.toList, x ≤ t.mask
theorem Tab.free {t : SetTable} {n : Nat} (T : Tab t n) (hn : n ≤ t.mask) (x : Int) : ∃ K, K < 10 * SetTable.turns t.mask ∧ way t.mask x K ∉ t.place.toList ∧ ∀ k, k < K → way t.mask x k ∈ t.place.toList := by
  obtain ⟨j, hj, nj⟩ := st_missing t.place.toList (t.mask + 1) (by rw [Array.length_toList, T.size]; omega)
  obtain ⟨k, hk, ek⟩ := comes T.mask x (Nat.le_of_lt_succ hj)
  obtain ⟨K, h1, h2, h3⟩ := st_least (p := fun k => way t.mask x k ∉ t.place.toList) k (by show way t.mask x k ∉ _; rw [ek]; exact nj)
  exact ⟨K, by omega, h2, fun k hk => Classical.byContradiction fun q => h3 k hk q⟩
theorem Tab.put {t : SetTable} {n j : Nat} (T : Tab t n) (hj : j ≤ t.mask) (nj : j ∉ t.place.toList) : Tab (t.put j).1 (n + 1) ∧ (t.put j).2 = SetTable.below t.place j ∧ (t.put j).2 ≤ n ∧ (t.put j).1.mask = t.mask ∧ (t.put j).1.led = t.led ∧ (t.put j).1.plain = t.plain := by
  have cut := (below_cut T.up j).1
  have e := put_place t j
  have hl : SetTable.below t.place j ≤ t.place.toList.length := by rw [Array.length_toList]; exact cut
  refine ⟨⟨ris_insert T.up fun q => nj (List.mem_of_getElem? (by rw [Array.getElem?_toList]; exact q)), put_dm T.none j, ?_, T.mask, fun x hx => ?_⟩, rfl, by rw [← T.size]; exact cut, rfl, rfl, rfl⟩
  · rw [← Array.length_toList, e, len_ins _ hl, Array.length_toList, T.size]
  · rw [e] at hx
    rcases mem_ins.1 hx with q | q
    · subst q; exact hj
    · exact T.most x q
noncomputable def Rch (pl : List Nat) (m : Nat) (hs : List Int) : Prop := ∀ (i j : Nat) (x : Int), hs[i]? = some x → pl[i]? = some j → ∃ k, way m x k = j ∧ ∀ k', k' < k → way m x k' ∈ pl
theorem Rch.put {t : SetTable} {hs : List Int} {x : Int} {K c : Nat} (R : Rch t.place.toList t.mask hs) (hl : t.place.toList.length = hs.length) (hc : SetTable.below t.place (way t.mask x K) = c) (hcl : c ≤ hs.length) (hw : ∀ k, k < K → way t.mask x k ∈ t.place.toList) :
    Rch (t.put (way t.mask x K)).1.place.toList t.mask (hs.take c ++ x :: hs.drop c) := fun i j y h1 h2 => by
  rw [put_place, hc] at h2 ⊢
  rw [tins_get _ hcl] at h1
  rw [tins_get _ (by omega)] at h2
  have wider : ∀ {z : Nat}, z ∈ t.place.toList → z ∈ t.place.toList.take c ++ way t.mask x K :: t.place.toList.drop c := fun q => mem_ins.2 (.inr q)
  by_cases a : i < c
  · rw [if_pos a] at h1 h2
    obtain ⟨k, e, q⟩ := R _ _ _ h1 h2
    exact ⟨k, e, fun k' hk => wider (q k' hk)⟩
  · rw [if_neg a] at h1 h2
    by_cases b : i = c
    · rw [if_pos b] at h1 h2
      obtain rfl : x = y := Option.some.inj h1
      exact ⟨K, Option.some.inj h2, fun k' hk => wider (hw k' hk)⟩
    · rw [if_neg b] at h1 h2
      obtain ⟨k, e, q⟩ := R _ _ _ h1 h2
      exact ⟨k, e, fun k' hk => wider (q k' hk)⟩
structure Who (m : Nat) (hs : List Int) (n : Nat) (o : Array (Option Nat)) : Prop where
  size : o.size = m + 1
  perm : (o.toList.filterMap id).Perm (List.range n)
  road : ∀ j k, o[j]? = some (some k) → ∃ x K, hs[k]? = some x ∧ way m x K = j ∧ ∀ k', k' < K → ∃ b, o[way m x k']? = some (some b)
theorem fm_free : ∀ {l : List (Option Nat)}, (l.filterMap id).length < l.length → ∃ j, j < l.length ∧ l[j]? = some none
  | [], h => by simp at h
  | none :: l, _ => ⟨0, by simp, rfl⟩
  | some x :: l, h => by
    obtain ⟨j, h1, h2⟩ := fm_free (l := l) (by simpa using h)
    exact ⟨j + 1, by simpa using h1, by simpa using h2⟩
theorem fm_set {x : Nat} : ∀ {l : List (Option Nat)} {j : Nat}, l[j]? = some none → ((l.set j (some x)).filterMap id).Perm (x :: l.filterMap id)
  | [], _, h => by simp at h
  | y :: l, 0, h => by
    simp at h; subst h; simp
  | none :: l, j + 1, h => by simpa using fm_set (l := l) (j := j) (by simpa using h)
  | some y :: l, j + 1, h => by
    have q := fm_set (x := x) (l := l) (j := j) (by simpa using h)
    simp only [List.set_cons_succ, List.filterMap_cons, id]
    exact (q.cons y).trans (List.Perm.swap _ _ _)
theorem Who.next {m n : Nat} {hs : List Int} {o : Array (Option Nat)} (hm : Msk m) (W : Who m hs n o) (hn : n ≤ m) {x : Int} (hx : hs[n]? = some x) :
    ∃ j, SetTable.layClean.free m o (SetTable.turns m) (SetTable.bits x % (m + 1)) (SetTable.bits x) = some j ∧ Who m hs (n + 1) (o.setIfInBounds j (some n)) := by
  have len := W.perm.length_eq
  rw [List.length_range] at len
  obtain ⟨j0, hj0, e0⟩ := fm_free (l := o.toList) (by rw [len, Array.length_toList, W.size]; omega)
  rw [Array.length_toList, W.size] at hj0
  have at0 : oAt o j0 = none := by
    rw [Array.getElem?_toList] at e0
    show o.getD j0 (some 0) = none
    rw [Array.getD_eq_getD_getElem?, e0]; rfl
  obtain ⟨r, hr, er⟩ := begins hm x (Nat.le_of_lt_succ hj0)
  have ew : way m x (off m (SetTable.bits x % (m + 1)) (SetTable.bits x) r) = j0 := by
    show (nth m _ _).j = j0
    rw [nth_off, itL_run]; exact er
  obtain ⟨K, h1, h2, h3⟩ := st_least (p := fun k => oAt o (way m x k) = none) (off m (SetTable.bits x % (m + 1)) (SetTable.bits x) r) (by show oAt o (way m x _) = none; rw [ew]; exact at0)
  have hw := way_in (m := m) x K
  have lt : way m x K < o.size := by rw [W.size]; omega
  have atK : o.toList[way m x K]? = some none := by
    rw [Array.getElem?_toList, Array.getElem?_eq_getElem lt]
    have q : o.getD (way m x K) (some 0) = none := h2
    rw [Array.getD_eq_getD_getElem?, Array.getElem?_eq_getElem lt] at q
    exact congrArg some q
  refine ⟨way m x K, free_spec m o (SetTable.turns m) r _ _ K (by unfold SetTable.turns; omega) h1 (fun k hk => ?_) ?_, ⟨by rw [Array.size_setIfInBounds]; exact W.size, ?_, fun j k e => ?_⟩⟩
  · cases q : oAt o (nth m (runAt m (SetTable.bits x % (m + 1)) (SetTable.bits x)) k).j with
    | none => exact absurd q (h3 k hk)
    | some _ => rfl
  · have q : oAt o (nth m (runAt m (SetTable.bits x % (m + 1)) (SetTable.bits x)) K).j = none := h2
    rw [q]; rfl
  · rw [Array.toList_setIfInBounds, List.range_succ]
    exact (fm_set atK).trans ((W.perm.cons n).trans (List.perm_append_singleton n _).symm)
  · have wider : ∀ {y : Nat}, (∃ b, o[y]? = some (some b)) → ∃ b, (o.setIfInBounds (way m x K) (some n))[y]? = some (some b) := fun {y} ⟨b, q⟩ => by
      by_cases z : way m x K = y
      · subst z
        exact ⟨n, by rw [Array.getElem?_setIfInBounds, if_pos rfl, if_pos lt]⟩
      · exact ⟨b, by rw [Array.getElem?_setIfInBounds, if_neg z]; exact q⟩
    rw [Array.getElem?_setIfInBounds] at e
    by_cases z : way m x K = j
    · rw [if_pos z, if_pos lt] at e
      obtain rfl : n = k := Option.some.inj (Option.some.inj e)
      refine ⟨x, K, hx, z, fun k' hk => wider ?_⟩
      have q := h3 k' hk
      have l2 : way m x k' < o.size := by rw [W.size]; exact Nat.lt_succ_of_le (way_in x k')
      cases u : o[way m x k'] with
      | none =>
        exfalso; refine q (show o.getD (way m x k') (some 0) = none from ?_)
        rw [Array.getD_eq_getD_getElem?, Array.getElem?_eq_getElem l2, u]; rfl
      | some b => exact ⟨b, by rw [Array.getElem?_eq_getElem l2, u]⟩
    · rw [if_neg z] at e
      obtain ⟨y, c, q1, q2, q3⟩ := W.road j k e
      exact ⟨y, c, q1, q2, fun k' hk => wider (q3 k' hk)⟩
theorem Who.all {m : Nat} {hs : List Int} (hm : Msk m) : ∀ (l : List Int) (n : Nat) (o : Array (Option Nat)), Who m hs n o → n + l.length ≤ m → hs.drop n = l → ∃ o', l.foldl (stepF m) (some (o, n)) = some (o', n + l.length) ∧ Who m hs (n + l.length) o'
  | [], n, o, W, _, _ => ⟨o, rfl, W⟩
  | x :: l, n, o, W, h, d => by
    rw [List.length_cons] at h
    have hx : hs[n]? = some x := by
      have q := congrArg (fun z => z[0]?) d
      simpa [List.getElem?_drop] using q
    obtain ⟨j, e, W'⟩ := W.next hm (by omega) hx
    obtain ⟨o', f, W2⟩ := Who.all hm l (n + 1) _ W' (by omega) (by rw [← List.drop_drop, d]; rfl)
    refine ⟨o', ?_, ?_⟩
    · rw [List.foldl_cons, stepF_some e, f, List.length_cons, Nat.add_assoc, Nat.add_comm 1]
    · rw [List.length_cons, Nat.add_comm l.length, ← Nat.add_assoc]; exact W2
theorem who_none (m : Nat) (hs : List Int) : Who m hs 0 (Array.replicate (m + 1) none) := ⟨Array.size_replicate .., by
  have e : ∀ k, (List.replicate k (none : Option Nat)).filterMap id = [] := fun k => by
    induction k with
    | zero => rfl
    | succ k ih => rw [List.replicate_succ, List.filterMap_cons_none rfl, ih]
  rw [Array.toList_replicate, e]; exact List.Perm.refl _, fun j k e => by
  rw [Array.getElem?_replicate] at e
  split at e <;> cases e⟩
theorem live_snd {m : Nat} {o : Array (Option Nat)} (h : o.size = m + 1) : (liveOf m o).map (·.2) = o.toList.filterMap id := by
  have e : o.toList = (List.range (m + 1)).map fun j => o.getD j none := by
    refine List.ext_getElem? fun i => ?_
    rw [Array.getElem?_toList, List.getElem?_map]
    by_cases c : i < m + 1
    · rw [List.getElem?_eq_getElem (by rw [List.length_range]; exact c), List.getElem_range, Array.getElem?_eq_getElem (by omega)]
      show _ = some (o.getD i none)
      rw [Array.getD_eq_getD_getElem?, Array.getElem?_eq_getElem (by omega)]; rfl
    · rw [Array.getElem?_eq_none (by omega), List.getElem?_eq_none (by rw [List.length_range]; omega)]; rfl
  unfold liveOf
  rw [e, List.filterMap_map, List.map_filterMap]
  congr 1
  funext j
  show ((o.getD j Option.none).map (j, ·)).map (·.2) = o.getD j Option.none
  cases o.getD j Option.none <;> rfl
theorem laid_anew (t : SetTable) {hs : Array Int} {wanted M : Nat} (hw : SetTable.sizeAbove wanted - 1 = M) (hM : Msk M) (hn : hs.size ≤ M) :
    ∃ t' order, t.relaid hs wanted = some (t', order) ∧ order.toList.Perm (List.range hs.size) ∧ Tab t' hs.size ∧ Rch t'.place.toList M (order.toList.map fun i => hs.getD i 0) ∧ t'.mask = M ∧ t'.led = t.led ∧ t'.plain = t.plain := by
  obtain ⟨o, f, W⟩ := Who.all (hs := hs.toList) hM hs.toList 0 _ (who_none M _) (by rw [Array.length_toList]; omega) rfl
  rw [Nat.zero_add, Array.length_toList] at f W
  have lay : SetTable.layClean M hs = some o := by rw [layClean_eq, f]; rfl
  have per : ((liveOf M o).map (·.2)).Perm (List.range hs.size) := by rw [live_snd W.size]; exact W.perm
  have up := ris_live (fun j => o.getD j none) (List.range (M + 1)) (by unfold Ris; exact List.pairwise_lt_range)
  refine ⟨tabOf t M o, ((liveOf M o).map (·.2)).toArray, by rw [relaid_eq, hw, lay]; rfl, by simpa using per, ⟨up.1, rfl, ?_, hM, fun x hx => ?_⟩, fun i j x h1 h2 => ?_, rfl, rfl, rfl⟩
  · have q := per.length_eq
    rw [List.length_range, List.length_map] at q
    simpa [tabOf] using q
  · have q := up.2 x hx
    exact Nat.le_of_lt_succ (List.mem_range.mp q)
  · have h1' : (((liveOf M o).map (·.2)).map fun i => hs.getD i 0)[i]? = some x := h1
    have h2' : ((liveOf M o).map (·.1))[i]? = some j := h2
    rw [List.getElem?_map, List.getElem?_map] at h1'
    rw [List.getElem?_map] at h2'
    obtain ⟨⟨y, k⟩, ep, e2⟩ := Option.map_eq_some_iff.mp h2'
    obtain rfl : y = j := e2
    rw [ep] at h1'
    have e1 : hs.getD k 0 = x := Option.some.inj h1'
    have there := (mem_live W.size).1 (List.mem_of_getElem? ep)
    have ok : ∀ {z b : Nat}, o[z]? = some (some b) → z ∈ (liveOf M o).map (·.1) := fun {z b} e => by
      have lz : z < o.size := (Array.getElem?_eq_some_iff.mp e).1
      rw [W.size] at lz
      refine List.mem_map.mpr ⟨(z, b), (mem_live W.size).2 ⟨Nat.le_of_lt_succ lz, ?_⟩, rfl⟩
      show o.getD z (some 0) = some b
      rw [Array.getD_eq_getD_getElem?, e]; rfl
    have oy : o[y]? = some (some k) := by
      have q : o.getD y (some 0) = some k := there.2
      have ly : y < o.size := by rw [W.size]; exact Nat.lt_succ_of_le there.1
      rw [Array.getD_eq_getD_getElem?, Array.getElem?_eq_getElem ly] at q
      rw [Array.getElem?_eq_getElem ly]; exact congrArg some q
    obtain ⟨x', K, q1, q2, q3⟩ := W.road y k oy
    have e3 : x' = x := by
      rw [← e1, Array.getD_eq_getD_getElem?, ← Array.getElem?_toList, q1]; rfl
    subst e3
    exact ⟨K, q2, fun k' hk => by obtain ⟨b, e⟩ := q3 k' hk; exact ok e⟩
end SB

namespace SB
open PySem PySem.Spec PyProof.Rows L2
noncomputable abbrev Mem := List (Addr × List Int)
structure At (P : Program) (w : World) (h : Heap) (a : Addr) (L : Mem) (es : Array (Int × Value)) (ep : Nat) (t : SetTable) : Prop where
  obj : ∃ o, h.get? a = some o ∧ o.ExactSet ∧ o.data = .set es ep t
  rows : es.toList = rowsOf P w L
  tab : Tab t L.length
  plain : t.plain = true
  shown : w.params.followText "set-order" = true ∨ t.led = true
  room : L.length * 5 < t.mask * 3
  reach : Rch t.place.toList t.mask (L.map fun q => thash P w q.2)
  once : (L.map (·.2)).Nodup
section
variable {P : Program} {w : World} {A : Around} {E : Value → Shared → Prop} {s : Shared} {a : Addr} {L : Mem} {es : Array (Int × Value)} {ep : Nat} {t : SetTable}
theorem At.many (S : At P w s.heap a L es ep t) : es.size = L.length := by
  rw [← Array.length_toList, S.rows, rowsOf, List.length_map]
theorem Tab.fit {n : Nat} (T : Tab t n) (h : n ≤ t.mask) : t.fits n = true := by
  unfold SetTable.fits SetTable.fill
  rw [T.none, Bool.and_eq_true, beq_iff_eq, decide_eq_true_eq, T.size]
  exact ⟨rfl, h⟩
theorem At.fit (S : At P w s.heap a L es ep t) : t.fits es.size = true := by
  rw [S.many]; exact S.tab.fit (by have := S.room; omega)
theorem At.there (S : At P w s.heap a L es ep t) {i : Nat} {q : Addr × List Int} (e : L[i]? = some q) : es[i]? = some (thash P w q.2, Value.ref q.1) := by
  rw [← Array.getElem?_toList, S.rows, rowsOf, List.getElem?_map, e]; rfl
theorem nth_dummy (m : Nat) : ∀ (n : Nat) (p : SetTable.Probe), p.dummy = none → (nth m p n).dummy = none
  | 0, _, h => h
  | n + 1, p, h => nth_dummy m n _ (by unfold adv; split <;> exact h)
theorem At.seek (S : At P w s.heap a L es ep t) (ht : ∀ q ∈ L, IsT P w s.heap q.2 q.1) {x : Addr} {k : List Int} (hx : IsT P w s.heap k x) (hu : A.units < cLine) {j : Nat} (hj : j ∉ t.place.toList) {Q : SetFound → Shared → Prop}
    (yes : k ∈ L.map (·.2) → Q (.there none) s) (no : k ∉ L.map (·.2) → Q (.free j false) s) :
    ∀ (f K : Nat) (o : Option SetTable.Probe) (p : SetTable.Probe), o.getD (t.probeStart (thash P w k)) = p → p.dummy = none → K < f → K < 10 * SetTable.turns t.mask → (nth t.mask p K).j = j → (∀ i, i < K → (nth t.mask p i).j ∈ t.place.toList) →
      (∀ (i : Nat) q, L[i]? = some q → q.2 = k → ∃ c, c < K ∧ t.place.toList[i]? = some (nth t.mask p c).j) →
      wpAny (model P w) A (setSearchFrom a (.ref x) (thash P w k) true f o) Q E s
  | 0, _, _, _, _, _, h, _, _, _, _ => absurd h (Nat.not_lt_zero _)
  | f + 1, K, o, p, ep', hd, hf, hK, hend, hway, hre => by
    obtain ⟨ob, e1, e2, e3⟩ := S.obj
    have odd : ¬ t.gaveWay = true := by unfold SetTable.gaveWay; rw [S.tab.mask.odd]; decide
    rw [setSearchFrom_succ]
    refine wpAny_bind (wpAny_setState_of e1 e3 S.fit ?_)
    dsimp only
    refine wp_if_neg odd ?_
    try refine wpAny_bind (wpAny_pure ?_)
    rw [ep']
    rcases go_spec t S.tab.up S.tab.none (fun i => (es[i]?.map (·.1)).getD 0) (thash P w k) _ K p hd hK hway (by rw [hend]; exact hj) with ⟨i, r, hi, hr, _, pre, z⟩ | ⟨pre, z⟩
    · have z' : t.probe (fun i => (es[i]?.map (·.1)).getD 0) (thash P w k) p = some (.candidate (nth t.mask p i).j r (nth t.mask p (i + 1))) := z
      rw [z']
      dsimp only
      obtain ⟨q, hq⟩ : ∃ q, L[r]? = some q := by
        have b := (List.getElem?_eq_some_iff.mp hr).1
        rw [Array.length_toList, S.tab.size] at b
        exact ⟨_, List.getElem?_eq_getElem b⟩
      have hm := List.mem_of_getElem? hq
      have on : wpAny (model P w) A (searchRest a (.ref x) (thash P w k) true f es t (nth t.mask p i).j r (nth t.mask p (i + 1))) Q E s := by
        unfold searchRest
        rw [S.there hq]
        dsimp only
        refine wpAny_bind (wpAny_holding (wpAny_eqBool_tuple hu (ht q hm) hx ?_))
        refine wpAny_bind (wpAny_setState_of e1 e3 S.fit ?_)
        dsimp only
        by_cases c : q.2 = k
        · exact wp_if_pos (by simp [c]) (wpAny_pure (yes (List.mem_map.mpr ⟨q, hm, c⟩)))
        · refine wp_if_neg (by simp [c]) ?_
          try refine wpAny_bind (wpAny_pure ?_)
          rw [sameMem]
          dsimp only
          simp only [if_true, slot_live S.tab.up hr, S.there hq]
          refine wpAny_bind (wpAny_isSame_ref_self (wpAny_bind (wpAny_pure ?_)))
          simp only [if_true]
          refine wp_if_neg (by simp [c]) ?_
          refine S.seek ht hx hu hj yes no f (K - (i + 1)) _ (nth t.mask p (i + 1)) rfl (nth_dummy _ _ _ hd) (by omega) (by omega) ?_ (fun b hb => ?_) fun b u hb eu => ?_
          · rw [← nth_add, show i + 1 + (K - (i + 1)) = K by omega]; exact hend
          · rw [← nth_add]; exact hway _ (by omega)
          · obtain ⟨c', a1, a2⟩ := hre b u hb eu
            have gt : i < c' := by
              rcases Nat.lt_trichotomy c' i with z1 | z1 | z1
              · exact absurd (by rw [S.there hb, ← eu]; rfl) (pre c' b z1 a2)
              · subst z1
                have s1 := slot_live S.tab.up a2
                rw [slot_live S.tab.up hr] at s1
                injection s1 with s1
                rw [← s1, hq] at hb
                exact absurd ((congrArg Prod.snd (Option.some.inj hb)).trans eu) c
              · exact z1
            exact ⟨c' - (i + 1), by omega, by rw [← nth_add, show i + 1 + (c' - (i + 1)) = c' by omega]; exact a2⟩
      by_cases hl : t.led = true
      · refine wp_if_neg (by simp [hl]) ?_
        try refine wpAny_bind (wpAny_pure ?_)
        exact on
      · refine wp_if_pos (by simp [hl]) ?_
        refine wpAny_bind (seen_tup hx (fun y hy => ?_) ?_)
        · obtain ⟨u, hu', eu⟩ := List.mem_map.mp hy
          have mu : u ∈ es.toList := by
            have := (by simpa using hu' : u ∈ es ∧ _).1
            simpa using this
          rw [S.rows, rowsOf] at mu
          obtain ⟨v, hv, ev⟩ := List.mem_map.mp mu
          exact ⟨v.2, v.1, by rw [← eu, ← ev], ht v hv⟩
        · refine wp_if_neg (by decide) ?_
          try refine wpAny_bind (wpAny_pure ?_)
          exact on
    · have z' : t.probe (fun i => (es[i]?.map (·.1)).getD 0) (thash P w k) p = some (.empty (nth t.mask p K).j none) := z
      rw [z', hend]
      refine wpAny_pure (no fun hm => ?_)
      obtain ⟨u, hu1, eu⟩ := List.mem_map.mp hm
      obtain ⟨b, hb, e⟩ := List.getElem_of_mem hu1
      have hb' : L[b]? = some u := by rw [List.getElem?_eq_getElem hb, e]
      obtain ⟨c, a1, a2⟩ := hre b u hb' eu
      exact pre c b a1 a2 (by rw [S.there hb', ← eu]; rfl)
theorem grow {o : Obj} (h1 : s.heap.get? a = some o) (h2 : o.ExactSet) (h3 : o.data = .set es ep t) (hr : es.toList = rowsOf P w L) (T : Tab t L.length) (hL : L.length ≤ t.mask) (pl : t.plain = true) (sh : w.params.followText "set-order" = true ∨ t.led = true)
    {wanted M : Nat} (hw : SetTable.sizeAbove wanted = M + 1) (hM : Msk M) (hr2 : L.length * 5 < M * 3) (once : (L.map (·.2)).Nodup) {Q : Unit → Shared → Prop}
    (k : ∀ h' L' es' ep' t', Heap.SameBut a s.heap h' → At P w h' a L' es' ep' t' → L'.Perm L → Q () { s with heap := h' }) : wpAny (model P w) A (setRelay a wanted) Q E s := by
  have big := hM.big
  have many : es.size = L.length := by rw [← Array.length_toList, hr, rowsOf, List.length_map]
  have fit : t.fits es.size = true := by rw [many]; exact T.fit hL
  have hn : (es.map (·.1)).size = L.length := by rw [Array.size_map, many]
  obtain ⟨t', ord, e, per, T', rc, m1, m2, m3⟩ := laid_anew t (hs := es.map (·.1)) (wanted := wanted) (M := M) (by rw [hw]; rfl) hM (by rw [hn]; omega)
  rw [hn] at per T'
  obtain ⟨L', r1, r2, r3⟩ := order_rows L es ord hr per
  have many' : (ord.filterMap (es[·]?)).size = es.size := by rw [← Array.length_toList, r1, rowsOf, List.length_map, r2.length_eq, many]
  rw [setRelay_eq]
  refine wpAny_bind (wpAny_setState_of h1 h3 fit ?_)
  dsimp only
  refine wp_if_neg (by rw [sizeLine_eq, hw]; omega) ?_
  try refine wpAny_bind (wpAny_pure ?_)
  rw [e]
  dsimp only
  refine wpAny_bind ?_
  refine wp_if_neg (by rw [many']; simp) ?_
  try refine wpAny_bind (wpAny_pure ?_)
  refine wpAny_pure ?_
  dsimp only
  refine wpAny_storeSet_of h1 h3 ?_ (by rw [many', many, sizeLine_eq]; omega)
  exact k _ L' _ (ep + 1) t' (Heap.SameBut.update ..) ⟨⟨_, store_at h1 h3, ⟨h2.1, h2.2.1, h2.2.2⟩, rfl⟩, r1, by rw [r2.length_eq]; exact T', by rw [m3]; exact pl, by rw [m2]; exact sh, by rw [r2.length_eq, m1]; exact hr2, by rw [r3, m1]; exact rc, (r2.map (·.2)).nodup_iff.mpr once⟩ r2
theorem grown_size {n : Nat} (h : n ∈ [5, 19, 77, 307]) : ∃ M, SetTable.sizeAbove (SetTable.grown n) = M + 1 ∧ Msk M ∧ n * 5 < M * 3 := by
  simp only [List.mem_cons, List.not_mem_nil, or_false] at h
  rcases h with e | e | e | e <;> subst e
  · exact ⟨31, by decide +kernel, by simp [Msk], by decide⟩
  · exact ⟨127, by decide +kernel, by simp [Msk], by decide⟩
  · exact ⟨511, by decide +kernel, by simp [Msk], by decide⟩
  · exact ⟨2047, by decide +kernel, by simp [Msk], by decide⟩
theorem At.reach_put (S : At P w s.heap a L es ep t) {x : Addr} {k : List Int} {K c : Nat} (hc : SetTable.below t.place (way t.mask (thash P w k) K) = c) (hl : c ≤ L.length) (hway : ∀ i, i < K → way t.mask (thash P w k) i ∈ t.place.toList) :
    Rch (t.put (way t.mask (thash P w k) K)).1.place.toList t.mask ((L.take c ++ (x, k) :: L.drop c).map fun q => thash P w q.2) := by
  have h1 : t.place.toList.length = (L.map fun q => thash P w q.2).length := by rw [Array.length_toList, S.tab.size, List.length_map]
  have h2 : c ≤ (L.map fun q => thash P w q.2).length := by rw [List.length_map]; exact hl
  have r := Rch.put S.reach h1 hc h2 hway
  have e : (L.take c ++ (x, k) :: L.drop c).map (fun q => thash P w q.2) = (L.map fun q => thash P w q.2).take c ++ thash P w k :: (L.map fun q => thash P w q.2).drop c := by
    rw [List.map_append, List.map_cons, List.map_take, List.map_drop]
  rw [e]
  exact r
theorem At.more (S : At P w s.heap a L es ep t) (ht : ∀ q ∈ L, IsT P w s.heap q.2 q.1) {x : Addr} {k : List Int} (hx : IsT P w s.heap k x) (hu : A.units < cLine) (hmost : L.length ≤ 1200) {Q : Bool → Shared → Prop}
    (kk : ∀ b h' L' es' ep' t', Heap.SameBut a s.heap h' → At P w h' a L' es' ep' t' → (k ∈ L.map (·.2) ∧ L' = L ∨ k ∉ L.map (·.2) ∧ L'.Perm ((x, k) :: L)) → Q b { s with heap := h' }) :
    wpAny (model P w) A (setAddHashed a (.ref x) (thash P w k)) Q E s := by
  obtain ⟨o, e1, e2, e3⟩ := S.obj
  have room := S.room
  have many := S.many
  have big := S.tab.mask.big
  obtain ⟨K, hK, hj, hway⟩ := S.tab.free (by omega) (thash P w k)
  unfold setAddHashed
  refine wpAny_holding ?_
  rw [show (100000 : Nat) = 99999 + 1 from rfl, setAddHashedIn_succ]
  refine wpAny_bind (wpAny_setState_of e1 e3 S.fit ?_)
  dsimp only
  refine wp_if_neg (by simp [byScan, Value.scannable]) ?_
  try refine wpAny_bind (wpAny_pure ?_)
  refine wpAny_bind ?_
  unfold setSearch
  refine S.seek ht hx hu hj (fun hm => ?_) (fun hm => ?_) 100000 K none _ rfl rfl (by unfold SetTable.turns at hK; omega) hK rfl hway fun b u hb eu => ?_
  rotate_left
  rotate_left
  · have hl : t.place.toList.length = L.length := by rw [Array.length_toList, S.tab.size]
    have hb2 : b < t.place.toList.length := by rw [hl]; exact (List.getElem?_eq_some_iff.mp hb).1
    have ej := List.getElem?_eq_getElem hb2
    obtain ⟨c, ec, qc⟩ := S.reach b _ (thash P w k) (by rw [List.getElem?_map, hb, ← eu]; rfl) ej
    refine ⟨c, ?_, by rw [ej, ← ec]; rfl⟩
    rcases Nat.lt_trichotomy c K with z | z | z
    · exact z
    · subst z; exact absurd (by rw [ec]; exact List.getElem_mem hb2) hj
    · exact absurd (qc K z) hj
  · dsimp only
    exact wpAny_pure (kk false s.heap L es ep t (Heap.SameBut.refl a s.heap) S (.inl ⟨hm, rfl⟩))
  · dsimp only
    refine wpAny_bind (wpAny_setState_of e1 e3 S.fit ?_)
    dsimp only
    obtain ⟨T1, b1, b2, m1, m2, m3⟩ := S.tab.put (way_in (thash P w k) K) hj
    have rc' := S.reach_put (x := x) (c := (t.put (way t.mask (thash P w k) K)).2) b1.symm b2 hway
    have pl : (t.put (way t.mask (thash P w k) K)).1.plain = true := m3.trans S.plain
    generalize t.put (way t.mask (thash P w k) K) = pt at T1 b1 b2 m1 m2 pl rc' ⊢
    obtain ⟨t1, c⟩ := pt
    dsimp only at T1 b1 b2 m1 m2 pl rc' ⊢
    clear b1
    first
      | (refine wpAny_bind ?_; refine wp_if_pos pl ?_; refine hashBy_tup hx ?_)
      | refine wp_if_pos pl (wpAny_bind (hashBy_tup hx ?_))
    simp only [if_true]
    have rows1 : (SetTable.insertAt es c (thash P w k, Value.ref x)).toList = rowsOf P w (L.take c ++ (x, k) :: L.drop c) := by
      rw [SetTable.toList_insertAt, rows_put, S.rows]
    have per := put_perm L c (x, k)
    generalize SetTable.insertAt es c (thash P w k, Value.ref x) = es1 at rows1 ⊢
    generalize L.take c ++ (x, k) :: L.drop c = L1 at per rows1 rc'
    have once1 : (L1.map (·.2)).Nodup := by
      have q : ((x, k) :: L).map (·.2) = k :: L.map (·.2) := rfl
      have q2 := (per.map (·.2)).nodup_iff
      rw [q] at q2
      exact q2.mpr (List.nodup_cons.mpr ⟨hm, S.once⟩)
    have len1 : L1.length = L.length + 1 := per.length_eq
    have many1 : es1.size = L1.length := by rw [← Array.length_toList, rows1, rowsOf, List.length_map]
    rw [← len1] at T1
    refine wpAny_bind (wpAny_storeSet_of e1 e3 ?_ (by rw [many1, len1, sizeLine_eq]; omega))
    have same : Heap.SameBut a s.heap (s.heap.update a (Obj.putSet es1 t1)) := Heap.SameBut.update ..
    have at1 := store_at (es' := es1) (t' := t1) e1 e3
    generalize s.heap.update a (Obj.putSet es1 t1) = h1 at same at1 ⊢
    have sh1 : w.params.followText "set-order" = true ∨ t1.led = true := by rw [m2]; exact S.shown
    have tf : t1.tooFull = decide (L1.length * 5 ≥ t.mask * 3) := by
      unfold SetTable.tooFull SetTable.fill
      rw [T1.none, T1.size, m1]; rfl
    by_cases f : L1.length * 5 ≥ t.mask * 3
    · have f' : t1.tooFull = true := by rw [tf, decide_eq_true_eq]; exact f
      first
        | (refine wpAny_bind ?_; refine wp_if_pos (by simp [f']) ?_)
        | (refine wp_if_pos (by simp [f']) ?_; refine wpAny_bind ?_)
      have few : L.length + 1 ∈ [5, 19, 77, 307] := by
        have hm := S.tab.mask
        simp only [Msk, List.mem_cons, List.not_mem_nil, or_false] at hm ⊢
        rw [len1] at f
        omega
      rw [many]
      obtain ⟨M, z1, z2, z3⟩ := grown_size few
      refine grow (s := { s with heap := h1 }) (L := L1) at1 ⟨e2.1, e2.2.1, e2.2.2⟩ rfl rows1 T1 (by omega) pl sh1 z1 z2 (by omega) once1 fun h2 L2 es2 ep2 t2 same2 S2 per2 => ?_
      exact wpAny_pure (kk true h2 L2 es2 ep2 t2 (same.trans same2) S2 (.inr ⟨hm, per2.trans per⟩))
    · have f' : t1.tooFull = false := by rw [tf, decide_eq_false_iff_not]; exact f
      first
        | refine wp_if_neg (by simp [f']) ?_
        | (refine wpAny_bind ?_; refine wp_if_neg (by simp [f']) ?_; refine wpAny_pure ?_)
      exact wpAny_pure (kk true h1 L1 es1 (ep + 1) t1 same ⟨⟨_, at1, ⟨e2.1, e2.2.1, e2.2.2⟩, rfl⟩, rows1, T1, pl, sh1, by omega, by rw [m1]; exact rc', once1⟩ (.inr ⟨hm, per⟩))
end
end SB

namespace SB
open PySem PySem.Spec PyProof.Rows L2
section
variable {P : Program} {w : World} {A : Around} {E : Value → Shared → Prop}
theorem walk {I S : Addr} {fp wr : List Addr} {G : Array GenState → Array GenState → Prop} {n : Nat} {Pv : Nat → Value → Prop} {St : Nat → Shared → Prop} {R : Result → Shared → Prop} {J : Nat → Heap → Prop}
    (W : WalksS P w A.in1 I fp wr G n Pv St) (hS : S ∉ fp)
    (jm : ∀ i h h', (∀ b o, b ∉ wr → h.get? b = some o → h'.get? b = some o) → J i h → J i h')
    (js : ∀ i v (s : Shared) (Q : Bool → Shared → Prop) (E : Value → Shared → Prop), i < n → Pv i v → J i s.heap → (∀ h' tk b, s.toks ≤ tk → Heap.SameBut S s.heap h' → J (i + 1) h' → Q b { s with heap := h', toks := tk }) → wpAny (model P w) A.in1 (setAdd S v) Q E s) :
    ∀ (m i : Nat) (s : Shared), i + m = n → St i s → J i s.heap → (∀ s', Moved (S :: wr) G s s' → J n s'.heap → R (.ok (.ret .none)) s') → codeAny (model P w) A (.builtin "set.update.loop" ⟨[.ref S, .ref I], []⟩) R s := by
  have nw : S ∉ wr := fun z => hS (W.sub _ z)
  intro m
  induction m with
  | zero =>
    intro i s e hs hj k
    obtain rfl : i = n := e
    refine codeAny_builtin F.entry_set_update_loop (by
      rw [Around.under_plainId F.plain_set_update_loop _]
      refine (show wpAny _ A.in1 (pyNext (.ref I) >>= _) _ _ s from wpAny_bind (W.done s _ _ hs fun s' mv => ?_))
      exact (show wpAny _ A.in1 (ret Value.none) _ _ s' from wpAny_pure (k s' (mv.mono fun b hb => List.mem_cons_of_mem _ hb) (jm _ _ _ mv.heap hj))))
  | succ m ih =>
    intro i s e hs hj k
    have lt : i < n := by omega
    refine codeAny_builtin F.entry_set_update_loop (by
      rw [Around.under_plainId F.plain_set_update_loop _]
      refine (show wpAny _ A.in1 (pyNext (.ref I) >>= _) _ _ s from wpAny_bind (W.item i s _ _ lt hs fun v s' pv hs' mv => ?_))
      refine (show wpAny _ A.in1 (holding [v] (setAdd S v) >>= _) _ _ s' from wpAny_bind (wpAny_holding ?_))
      have hj' := jm _ _ _ mv.heap hj
      have more : ∀ h' tk, s'.toks ≤ tk → Heap.SameBut S s'.heap h' → J (i + 1) h' → codeAny (model P w) A (.builtin "set.update.loop" ⟨[.ref S, .ref I], []⟩) R { s' with heap := h', toks := tk } := fun h' tk le sb hj2 =>
        ih (i + 1) _ (by omega) (W.frame _ s' _ _ hs' le fun b hb o e => by rw [sb.2 b (fun z => hS (z ▸ hb))]; exact e) hj2 fun s2 mv2 hj3 =>
          k s2 (Moved.trans W.gtrans ((mv.mono fun b hb => List.mem_cons_of_mem _ hb).then_heap le fun b o hb e => by rw [sb.2 b (fun z => hb (by rw [z]; exact List.mem_cons_self))]; exact e) mv2) hj3
      exact js i v s' _ _ lt pv hj' fun h' tk b le sb hj2 => wpAny_pure ⟨plainId_quiet F.plain_set_update_loop _, more h' tk le sb hj2⟩)
end
end SB

namespace SB
open PySem PySem.Spec PyProof.Rows L2
noncomputable abbrev empty (w : World) : Obj := { cls := .type "set", dict := none, data := .set #[] 0 (.fresh 0 0 (!w.params.followText "set-order")) }
section
variable {P : Program} {w : World} {A : Around} {E : Value → Shared → Prop} {s : Shared}
set_option maxHeartbeats 3200000 in
theorem set_list {l : Addr} {items : Array Value} {Q : Value → Shared → Prop} (hh : A.handled = none) (hl : s.heap.IsList l items) (J : Nat → Heap → Prop)
    (j0 : ∀ h', h'.get? s.heap.objs.size = some (empty w) → (∀ b o, s.heap.get? b = some o → h'.get? b = some o) → J 0 h')
    (jm : ∀ i h h', (∀ b o, b ≠ s.heap.objs.size + 1 → h.get? b = some o → h'.get? b = some o) → J i h → J i h')
    (js : ∀ i v (s1 : Shared) (Q : Bool → Shared → Prop) (E : Value → Shared → Prop), items[i]? = some v → J i s1.heap → (∀ h' tk b, s1.toks ≤ tk → Heap.SameBut s.heap.objs.size s1.heap h' → J (i + 1) h' → Q b { s1 with heap := h', toks := tk }) → wpAny (model P w) A.in1.in1.in1 (setAdd s.heap.objs.size v) Q E s1)
    (k : ∀ h' tk, J items.size h' → Q (.ref s.heap.objs.size) { s with heap := h', toks := tk }) : wpAny (model P w) A (call (.type "set") [.ref l]) Q E s := by
  obtain ⟨c, tl, hmro⟩ := F.called_set.mro
  have hmade := F.called_set.made
  have hsub := F.called_set.sub
  refine wpAny_call (codeAny_of_tree (show wpAny _ _ (callAny (.type "set") _) _ _ _ from ?_))
  refine wpAny_pure ⟨Code.quiet_builtin _ (by decide +kernel), codeAny_builtin F.entry_type_call ?_⟩
  rw [Around.under_plain (weight_type_call_type "set" [.ref l] []) rfl]
  have h1 := F.called_set.notType
  have h2 := F.called_set.canCreate
  have hct := F.typeCall_set_1 (.ref l)
  repeat (any_goals (first | assumption | wp_step))
  have hlS : l < s.heap.objs.size := by obtain ⟨o, ho, _⟩ := hl; exact Heap.lt_size ho
  refine codeAny_mono (code_set_led1 (.ref l) (E := E) (Q₁ := fun v s1 => v = .ref s.heap.objs.size ∧ s1 = { s with heap := s.heap.push (empty w) }) ⟨rfl, rfl⟩) fun r s1 hr => ?_
  have back : (∃ v, r = .ok (.ret v) ∧ v = .ref s.heap.objs.size ∧ s1 = { s with heap := s.heap.push (empty w) }) ∨ ∃ e, r = .error e ∧ E e s1 := by
    cases r with
    | error e => exact .inr ⟨e, rfl, hr⟩
    | ok f => cases f with
      | ret v => exact .inl ⟨v, rfl, hr⟩
      | _ => exact hr.elim
  rcases back with ⟨v, rfl, rfl, rfl⟩ | ⟨e, rfl, he⟩
  rotate_left
  · exact he
  · clear hr
    have there : (s.heap.push (empty w)).get? s.heap.objs.size = some (empty w) := Heap.get?_push_size _ rfl
    have typ : Shared.TypeIs { s with heap := s.heap.push (empty w) } (.ref s.heap.objs.size) "set" := ⟨_, there, rfl⟩
    have hli := F.called_set.init.lookup
    have hbi := F.called_set.init.bind (.ref s.heap.objs.size)
    repeat (any_goals (first | assumption | wp_step))
    refine codeAny_mono (codeAny_call_builtin (R := wants (fun r s2 => r = .none ∧ ∃ h' tk, s2 = { s with heap := h', toks := tk } ∧ J items.size h') E) F.called_set.init.plain F.entry_set_init (check_set_init_1 typ ?_)) fun r2 s2 hr2 => ?_
    · have hl1 : (s.heap.push (empty w)).IsList l items := hl.push _
      obtain ⟨o, ho, hc, n, hd⟩ := hl1
      obtain ⟨oc, od, oda, os⟩ := o
      simp only at hc hd
      subst hc hd
      have hl1 : (s.heap.push (empty w)).IsList l items := ⟨_, ho, rfl, n, rfl⟩
      have hsls := F.sub_list_set
      have hslf := F.sub_list_frozenset
      have hne : (Value.type "list" == Value.type "dict") = false := by decide
      unfold Builtin.«set.__init__» noKeywords Builtin.Frozenset.updateFrom
      generalize hPI : pyIter = PI
      wp_walk
      subst hPI
      refine wpAny_pyIter_list hl1 (wpAny_bind (wpAny_runValue ?_))
      have hh3 : A.in1.in1.in1.handled = none := by simp [hh]
      have sz : (s.heap.push (empty w)).objs.size = s.heap.objs.size + 1 := Heap.size_push ..
      have nI : l ≠ (s.heap.push (empty w)).objs.size := by rw [sz]; exact Nat.ne_of_lt (Nat.lt_succ_of_lt hlS)
      have nS : s.heap.objs.size ∉ [(s.heap.push (empty w)).objs.size, l] := fun z => by
        rcases List.mem_cons.1 z with z | z
        · rw [sz] at z; exact absurd z (Nat.ne_of_lt (Nat.lt_succ_self _))
        · exact absurd (List.mem_singleton.1 z).symm (Nat.ne_of_lt hlS)
      refine walk ((Walks.list hh3 _ l nI items).toS) (S := s.heap.objs.size) (J := J) nS (fun i h h' q => jm i h h' fun b o nb => q b o fun z => nb ((List.mem_singleton.1 z).trans sz))
        (fun i v s1 Q E lt pv hj kk => js i v s1 Q E pv hj kk) items.size 0 _ (Nat.zero_add _) ⟨⟨_, Heap.get?_push_size _ rfl, rfl, rfl⟩, (hl1.push _)⟩ (j0 _ (Heap.get?_push_of_some _ there) fun b o e => Heap.get?_push_of_some _ (Heap.get?_push_of_some _ e)) fun s2 mv hj => ?_
      obtain ⟨h', g, d, tk, os'⟩ := s2
      obtain rfl : g = s.gens := mv.gens
      obtain rfl : d = s.drawn := mv.drawn
      obtain rfl : os' = s.os := mv.os
      refine (show wpAny _ _ _ _ _ _ from wpAny_pure ?_)
      exact (show wpAny _ _ (ret Value.none) _ _ _ from wpAny_pure ⟨rfl, h', tk, rfl, hj⟩)
    · cases r2 with
      | error e => exact hr2
      | ok f2 => cases f2 with
        | ret r =>
          obtain ⟨rfl, h', tk, rfl, hj⟩ := hr2
          repeat (any_goals (first | assumption | wp_step))
          exact k _ _ hj
        | _ => exact hr2.elim
end
end SB

namespace SB
open PySem PySem.Spec PyProof.Rows L2
section
variable {P : Program} {w : World} {A : Around} {E : Value → Shared → Prop} {s : Shared}
noncomputable def Inv (P : Program) (w : World) (h0 : Heap) (a : Addr) (ks : Mem) (i : Nat) (h : Heap) : Prop :=
  (∃ L : Mem, (∃ es ep t, At P w h a L es ep t) ∧ (∀ q ∈ L, q ∈ ks) ∧ (∀ j, j < i → ∀ q, ks[j]? = some q → q.2 ∈ L.map Prod.snd) ∧ L.length ≤ i) ∧ ∀ b o, h0.get? b = some o → h.get? b = some o
end
section
variable {X : Cx}
end
end SB

namespace SB
open PySem PySem.Spec PyProof.Rows L2
section
variable {P : Program} {w : World} {A : Around} {E : Value → Shared → Prop} {s : Shared} {a : Addr} {L : Mem} {es : Array (Int × Value)} {ep : Nat} {t : SetTable}
end
section
variable {X : Cx}
end
end SB

namespace SB
open PySem PySem.Spec PyProof.Rows L2
noncomputable def NT (P : Program) (w : World) (h : Heap) (v : Value) (x : Int) (k : List Int) : Prop := ∃ a o t b n, v = .ref a ∧ h.get? a = some o ∧ o.cls = .type "tuple" ∧ o.data = .seq #[.int x t, .ref b] n ∧ IsT P w h k b
section
variable {P : Program} {w : World} {A : Around} {E : Value → Shared → Prop} {s : Shared}
theorem NT.keep {h h' : Heap} {v : Value} {x : Int} {k : List Int} (q : NT P w h v x k) (kp : ∀ b o, h.get? b = some o → o.cls = .type "tuple" → h'.get? b = some o) : NT P w h' v x k := by
  obtain ⟨a, o, t, b, n, rfl, ho, hc, hd, ⟨o2, i2, n2, ho2, hc2, r⟩⟩ := q
  exact ⟨a, o, t, b, n, rfl, kp _ _ ho hc, hc, hd, ⟨o2, i2, n2, kp _ _ ho2 hc2, hc2, r⟩⟩
end
section
variable {X : Cx}
end
end SB

set_option maxHeartbeats 1000000
namespace SB
open PySem PySem.Spec PyProof.Rows L2
section
variable {X : Cx}
end
end SB
namespace DF
open PySem PySem.Spec PyProof.Rows L2
section
variable {α : Type} {lt : α → α → Bool}
end
section
variable {X : Cx} {W : WX} {e : Expr} {p p2 pos q : Pos} {f : DEnv → R Th}
end
section
variable {X : Cx} {W : WX} {e : Expr} {p p2 pos q : Pos} {f : DEnv → R Th}
end
end DF

set_option maxHeartbeats 1000000
namespace DF
open PySem PySem.Spec PyProof.Rows L2
section
variable {X : Cx}
end
section
variable {X : Cx} {W : WX} {o e : Expr} {f cn x : Str} {C : Addr} {p pos p1 : Pos}
end
end DF

set_option maxHeartbeats 1000000
namespace SB
open PySem PySem.Spec PyProof.Rows L2
section
variable {X : Cx}
end
end SB
namespace DF
open PySem PySem.Spec PyProof.Rows L2
section
variable {X : Cx} {W : WX} {e : Expr} {p p2 pos q : Pos} {f : DEnv → R Th}
end
end DF

namespace PySem
open Sem (wp)
section
variable {M : Model} {A : Around} {R : GenEnd} {Y : Protocol} {n : Nat} {s₀ : Shared} {c : Code} {fs : List Frame} {s : Shared} {env : Env}
  {K : Flow → Sem Fin} {H : Value → Sem Fin} {gd : Bool → Bool} {lv : List Value → List Value}
end
section
variable {prog : Program} {w : World} {A : Around} {R : GenEnd} {Y : Protocol} {n : Nat} {s₀ : Shared} {fs : List Frame} {s : Shared} {env : Env}
end
end PySem
namespace L2
open PySem PySem.Spec PyProof.Rows GenW
section
variable {X : Cx}
end
end L2

set_option maxHeartbeats 1000000
namespace DF
open PySem PySem.Spec PyProof.Rows L2
inductive GR where
  | no
  | nx (ρ : DEnv) (o : List D)
noncomputable def GR.len : GR → Nat
  | .no => 0
  | .nx _ o => o.length
noncomputable def GoG (K : PySem.W.Frag) (σ : Sl) (ρ : DEnv) (G H : Hp) (E : List V → Sl → Hp → Prop) (r : GR) : Prop := match r with
  | .no => False
  | .nx ρ' o => ∀ σ' G' H' ws, Stp ρ σ G H ρ' σ' G' H' → Rep K G' H' ρ' σ' → Iss K G' o ws → E ws σ' H'
section
variable {K : PySem.W.Frag} {σ σ1 : Sl} {ρ ρ1 : DEnv} {G G1 H H1 : Hp} {E : List V → Sl → Hp → Prop}
theorem GoG.shift {r : GR} (R0 : Rep K G H ρ σ) (s : Stp ρ σ G H ρ1 σ1 G1 H1) (h : GoG K σ ρ G H E r) : GoG K σ1 ρ1 G1 H1 E r := by
  cases r with
  | no => exact h
  | nx ρ' o => exact fun σ' G' H' ws s' R i => h σ' G' H' ws (s.trans R0 s') R i
end
section
variable {X : Cx} {W : WX} {st : Stmt} {rest : List Stmt} {pos yp : Pos} {e : Expr}
end
noncomputable abbrev GnF := List D → Option (List D)
section
variable {P : Program} {w : World} {K : PySem.W.Frag} {mg : Str → Option Value} {base : Heap}
end
noncomputable abbrev E0x : XK := fun _ _ _ => False
section
variable {X : Cx} {W : WX} {e o : Expr} {es : List Expr} {x cn m : Str} {p p2 pos pos2 apos : Pos} {k j ar : Nat} {ps : List Str} {F : GnF}
theorem GFn.mono {f : Addr} {fd : FuncData} {sp : SpG} {j k : Nat} (h : GFn X.prog X.w X.K X.mg X.base j f fd ps sp) (hj : j ≤ k) : GFn X.prog X.w X.K X.mg X.base k f fd ps sp := by
  refine ⟨h.len, fun A outer s H args us vs Q E hr e0 hb rv hs => codeAny_mono (h.run A outer s H args us vs Q E (hr.mono hj) e0 hb rv hs) fun r s' q => ?_⟩
  cases r with
  | error e => exact q
  | ok fl =>
    cases fl with
    | ret u =>
      obtain ⟨a, g, c, e1, e2, e3, e4, e5, e6, e7, e8, e9, e10⟩ := q
      exact ⟨a, g, c, e1, e2, e3, e4, e5, e6, e7, e8, e9, fun A S s2 r => e10 A S s2 (r.mono hj)⟩
    | next => exact q
    | brk => exact q
    | cont => exact q
end
end DF

namespace DF
open PySem PySem.Spec PyProof.Rows L2
end DF

namespace DF
open PySem PySem.Spec PyProof.Rows L2
end DF
namespace DF
open PySem PySem.Spec PyProof.Rows L2
end DF

set_option maxHeartbeats 1000000
namespace DF
open PySem PySem.Spec PySem.Calls PyProof.Rows L2
section
variable {CX : CXT} {P : Program} {w : World} {K : PySem.W.Frag} {mg : Str → Option Value} {base : Heap}
end
section
variable {P : Program} {w : World} {K : PySem.W.Frag} {mg : Str → Option Value} {base : Heap}
end
section
variable {X : Cx} {CX : CXT} {k n : Nat} {f : Addr} {fd : FuncData} {ps : List Str} {sp : Sp} {E : L2.St → XK} {x kn : Str} {p pos kpos : Pos} {e ek : Expr} {es : List Expr} {t : TA} {tk : TE} {ds : List Value} {dvs : List V}
end
section
variable {X : Cx} {W : WX} {e ek : Expr} {es : List Expr} {x kn : Str} {p pos kpos : Pos} {k j n : Nat} {i : Int} {ps : List Str} {F : Fn} {f : DEnv → R (List AD)} {g : DEnv → R D}
end
end DF

namespace DF
open PySem PySem.Spec PySem.Calls PyProof.Rows L2
end DF

set_option maxHeartbeats 1000000
namespace DF
variable {gq : Bool}
open PySem PySem.Spec PyProof.Rows L2
section
variable {X : Cx} {W : WX} {e : Expr} {es : List Expr} {f : DEnv → R D} {g : DEnv → R (List D × D)} {F : Fn}
variable {x : Str} {p pos : Pos} {k j : Nat} {ps : List Str}
end
end DF

set_option maxHeartbeats 1000000
namespace DF
open PySem PySem.Spec PyProof.Rows L2
noncomputable def sRevR2 (f g : DEnv → R D) : DEnv → R (List D) := fun ρ => (f ρ).bind fun d ρ1 => (g ρ1).bind fun e ρ2 => match d, e with
  | .int i, .int j => if inR i = true then if inR j = true then .ok ρ2 (rng i (j - i).toNat).reverse else .no else .no
  | _, _ => .no
theorem itc2_s {K : PySem.W.Frag} {G0 : Hp} {i0 j : Int} : ItS K G0 (rng i0 (j - i0).toNat).reverse (Itc (i0 + (((j - i0).toNat : Nat) : Int) - 1) (-1) (j - i0).toNat) where
  go := fun i d G H e eG eH => by
    have hi : i < (rng i0 (j - i0).toNat).reverse.length := (List.getElem?_eq_some_iff.mp e).1
    have hlen : (rng i0 (j - i0).toNat).length = (j - i0).toNat := by unfold rng; rw [List.length_map, List.length_range]
    rw [List.length_reverse, hlen] at hi
    rw [List.getElem?_reverse (by rw [hlen]; exact hi), hlen] at e
    unfold rng at e
    rw [List.getElem?_map, List.getElem?_range (by omega)] at e
    cases e
    refine ⟨hi, fun x H' ⟨z, y⟩ => ?_⟩
    subst z y
    refine ⟨G, New.refl eH, ?_⟩
    have : i0 + (((j - i0).toNat - 1 - i : Nat) : Int) = i0 + (((j - i0).toNat : Nat) : Int) - 1 + (i : Int) * -1 := by omega
    show Is K G (.int (i0 + (((j - i0).toNat - 1 - i : Nat) : Int))) _
    rw [this]
    exact .int _
  stop := fun i G H e _ _ => by
    rw [List.length_reverse] at e
    unfold rng at e
    rw [List.length_map, List.length_range] at e
    exact e
theorem di_revR2 {X : Cx} {W : WX} {tg a b : Expr} {p p2 pos pos2 : Pos} {f g : DEnv → R D} (hg : Gl X "reversed") (hm : X.mg "reversed" = none) (hg2 : Gl X "range") (hm2 : X.mg "range" = none) (ha : DE X W a f) (hb : DE X W b g)
    (na : starEach [a, b] X.env = (false, eval a X.env) :: starEach [b] X.env := by rfl) (nb : starEach [b] X.env = (false, eval b X.env) :: starEach [] X.env := by rfl) (hp : (backTo pos2 (starEach [b] X.env)).any (·.1) = false := by rfl)
    (hs : starEach [.Call (.Name "range" p2) [a, b] [] pos2] X.env = (false, eval (.Call (.Name "range" p2) [a, b] [] pos2) X.env) :: starEach [] X.env := by rfl) :
    DI X W tg (.Call (.Name "reversed" p) [.Call (.Name "range" p2) [a, b] [] pos2] [] pos) (sRevR2 f g) :=
  pi_imp (pi_revR hg hm (prg_2 hg2 hm2 ha hb na nb hp) hs) fun σ H Q ⟨ρ, G, R, h⟩ => ⟨ρ, G, R, (Go.bind R h).imp fun d ρ1 G1 H1 s1 R1 h1 v hv => ⟨ρ1, G1, R1, (Go.bind R1 h1).imp fun e ρ2 G2 H2 s2 R2 h2 u hu => by
    split at h2
    · rename_i i j
      cases hv.mono s2.g
      cases hu
      split at h2
      · rename_i hi
        split at h2
        · rename_i hj
          exact ⟨i, j, rfl, rfl, (inR_of hi).1, (inR_of hi).2, (inR_of hj).1, (inR_of hj).2, h2 G2 H2 .refl R2 _ itc2_s⟩
        · exact False.elim h2
      · exact False.elim h2
    · exact False.elim h2⟩⟩
@[simp] theorem sRevR2_ap (f g : DEnv → R D) (ρ : DEnv) : sRevR2 f g ρ = (f ρ).bind fun d ρ1 => (g ρ1).bind fun e ρ2 => match d, e with
  | .int i, .int j => if inR i = true then if inR j = true then .ok ρ2 (rng i (j - i).toNat).reverse else .no else .no
  | _, _ => .no := id rfl
end DF

set_option maxHeartbeats 1000000
namespace GN
open PySem
open Sem (wp)
noncomputable def dead (l : List Value) (c : Code) (p : Pos) (fs : List Frame) (cl : Bool) : GenState := .suspended (fun _ => .unsupported "") l c p fs cl
structure Aw (A : Nat → Option GenState) (s : Shared) : Prop where
  slp : ∀ i y, A i = some y → ∃ k l c p fs cl, y = .suspended k l c p fs cl ∧ s.gens[i]? = some (dead l c p fs cl)
  oth : ∀ i k l c p fs cl, A i = none → s.gens[i]? = some (.suspended k l c p fs cl) → splitAtGen fs = none
noncomputable def fsOk (x : GenState) : Prop := match x with
  | .suspended _ _ _ _ fs _ => splitAtGen fs = none
  | _ => True
section
variable {A : Nat → Option GenState} {s : Shared} {g : Nat} {x : GenState}
theorem Aw.lt (h : Aw A s) {i : Nat} {y : GenState} (e : A i = some y) : i < s.gens.size := by
  obtain ⟨k, l, c, p, fs, cl, _, e2⟩ := h.slp i y e
  exact (Array.getElem?_eq_some_iff.mp e2).1
theorem Aw.size (h : Aw A s) : A s.gens.size = none := by
  cases e : A s.gens.size with
  | none => rfl
  | some y => exact absurd (h.lt e) (Nat.lt_irrefl _)
theorem Aw.set (h : Aw A s) (hg : A g = none) (hx : fsOk x) : Aw A (s.setGen g x) where
  slp := fun i y e => by
    obtain ⟨k, l, c, p, fs, cl, e1, e2⟩ := h.slp i y e
    refine ⟨k, l, c, p, fs, cl, e1, ?_⟩
    have n : g ≠ i := fun z => by rw [z, e] at hg; cases hg
    show (s.gens.setIfInBounds g x)[i]? = _
    rw [Array.getElem?_setIfInBounds_ne n]; exact e2
  oth := fun i k l c p fs cl e1 e2 => by
    have e2 : (s.gens.setIfInBounds g x)[i]? = _ := e2
    by_cases z : g = i
    · subst z
      rw [Array.getElem?_setIfInBounds] at e2
      rw [if_pos rfl] at e2
      split at e2
      · cases e2; exact hx
      · cases e2
    · rw [Array.getElem?_setIfInBounds_ne z] at e2
      exact h.oth i k l c p fs cl e1 e2
theorem Aw.push (h : Aw A s) (c : Code) : Aw A { s with gens := s.gens.push (.fresh c) } where
  slp := fun i y e => by
    obtain ⟨k, l, c2, p, fs, cl, e1, e2⟩ := h.slp i y e
    refine ⟨k, l, c2, p, fs, cl, e1, ?_⟩
    show (s.gens.push _)[i]? = _
    rw [Array.getElem?_push, if_neg (Nat.ne_of_lt (h.lt e))]; exact e2
  oth := fun i k l c2 p fs cl e1 e2 => by
    have e2 : (s.gens.push (GenState.fresh c))[i]? = _ := e2
    rw [Array.getElem?_push] at e2
    split at e2
    · cases e2
    · exact h.oth i k l c2 p fs cl e1 e2
theorem Aw.heap (h : Aw A s) {s' : Shared} (e : s'.gens = s.gens) : Aw A s' := ⟨fun i y q => by rw [e]; exact h.slp i y q, fun i k l c p fs cl q1 q2 => h.oth i k l c p fs cl q1 (by rw [← e]; exact q2)⟩
end
end GN

set_option maxHeartbeats 1000000
namespace GN
open PySem PySem.Spec PyProof.Rows L2 GenW DF
theorem get?_objs {h h' : Heap} {b : Addr} (e : h.objs[b]? = h'.objs[b]?) : h.get? b = h'.get? b := by
  unfold Heap.get?
  rw [e]
noncomputable def cut (n : Addr) (s : Shared) : Shared := { s with heap := ⟨s.heap.objs.extract 0 n, s.heap.life⟩ }
noncomputable def cutH (n : Addr) (H : Hp) : Hp := fun b => if b < n then H b else none
theorem cut_lt {n b : Addr} {s : Shared} (h : b < n) : (cut n s).heap.get? b = s.heap.get? b := by
  refine get?_objs ?_
  show (s.heap.objs.extract 0 n)[b]? = s.heap.objs[b]?
  rw [Array.getElem?_extract, Nat.zero_add]
  split
  · rfl
  · rename_i z
    simp only [Nat.lt_min, Nat.sub_zero, not_and, Nat.not_lt] at z
    exact (Array.getElem?_eq_none (z h)).symm
theorem cutH_none {n b : Addr} {H : Hp} (h : H b = none) : cutH n H b = none := by unfold cutH; split; exact h; rfl

structure Kp where
  σ : Sl
  G : Hp
  H : Hp
  l : List D
structure Gp where
  N : List Str
  qual : Str
  scope : Scope
  f : Addr
  cd : Value
  A : Around
  C : Cx
  cp : List (Addr × Obj)
  n0 : Addr
  Acc : Kp → Prop
  io : List Addr
variable {g : Gp}
noncomputable def Gp.env (g : Gp) : Env := envOfC g.qual g.scope g.n0 g.f g.cd
noncomputable def Gp.lx (g : Gp) : List Addr := if g.n0 ≤ g.C.env.locals then [g.C.env.locals] else []
noncomputable def Gp.pn (g : Gp) (s : Shared) : List (Addr × Obj) := (g.C.pn ++ g.cp).filter (fun p => decide (g.n0 ≤ p.1)) ++ pinsAt g.lx s.heap
noncomputable def Gp.X (g : Gp) (s : Shared) (H : Hp) : Cx :=
  { prog := g.C.prog, w := g.C.w, K := g.C.K, mg := g.C.mg, base := g.C.base, A := g.A.deeper g.env, N := g.N, s_0 := cut g.n0 s, H_0 := cutH g.n0 H, env := g.env, outer := g.C.stack, stack := g.env :: g.C.stack, ex := [], fn := fun _ => true, calm := true
    pn := g.pn s
    xe := fun e s' => wpAny (model g.C.prog g.C.w) (g.A.deeper g.env) (leaving g.env e) (fun _ s'' => L2.CX g.C.prog g.C.w g.C.stack (cutH g.n0 H) (cut g.n0 s) E0x e s'' ∧ ∀ p ∈ g.pn s, s''.heap.get? p.1 = some p.2) (fun _ _ => False) s' }
structure Gp.Ok (g : Gp) : Prop where
  fr : g.A.frames = some g.C.stack
  hd : g.A.handled = none
  cel : ∀ x c, g.C.env.cells.lookup x = some c → c < g.n0
  fsl : ∀ b ∈ frs g.C.stack, b < g.n0
  bsz : g.C.base.objs.size ≤ g.n0
  loc : g.C.env.locals ≠ g.n0
  hz : ∀ κ, g.Acc κ → ∀ b, g.n0 ≤ b → b < g.C.s_0.heap.objs.size → b ∈ g.C.ex ∨ κ.H b ≠ none
  noc : ∀ x, g.env.cells.lookup x = none
  cpn : ∀ p ∈ g.C.pn ++ g.cp, p.1 ≠ g.n0
theorem objOk_there {P : Program} {w : World} {H : Hp} {h : Heap} {a : Addr} {o : HO} (x : ObjOk P w H h a o) : ∃ ob, h.get? a = some ob := by
  cases o with
  | lst xs => obtain ⟨_, _, _, _, e⟩ := x; exact ⟨_, e⟩
  | tup xs => obtain ⟨_, _, _, ob, e, _⟩ := x; exact ⟨_, e⟩
  | dK kvs => obtain ⟨_, _, _, _, o, _, _, e, _⟩ := x; exact ⟨_, e⟩
  | dT kvs => obtain ⟨_, _, _, _, o, _, _, e, _⟩ := x; exact ⟨_, e⟩
  | set S n => obtain ⟨o, _, _, _, e, _⟩ := x; exact ⟨_, e⟩
  | ins C dx fs => obtain ⟨_, _, _, e, _⟩ := x; exact ⟨_, e⟩
  | own y => exact x
  | xd fs => obtain ⟨_, ⟨_, _, _, e, _⟩, _⟩ := x; exact ⟨_, e⟩
  | rng lo hi => obtain ⟨_, _, _, e⟩ := x; exact ⟨_, e⟩
  | frz ob u => obtain ⟨e, _⟩ := x; exact ⟨_, e⟩
  | tbl ps => exact ⟨_, show h.get? a = some _ from x⟩
  | met f y => exact ⟨_, show h.get? a = some _ from x⟩
  | ext φ => obtain ⟨_, e, _⟩ := x; exact e
theorem Gp.pn_mem {s : Shared} {p : Addr × Obj} (hp : p ∈ g.C.pn ++ g.cp) (h : g.n0 ≤ p.1) : p ∈ g.pn s := List.mem_append_left _ (List.mem_filter.mpr ⟨hp, decide_eq_true h⟩)
theorem Gp.pn_loc {s : Shared} {o : Obj} (h : g.n0 ≤ g.C.env.locals) (e : s.heap.get? g.C.env.locals = some o) : (g.C.env.locals, o) ∈ g.pn s := by
  refine List.mem_append_right _ (mem_pinsAt ?_ e)
  unfold Gp.lx
  rw [if_pos h]; exact List.mem_singleton_self _
theorem Gp.of_pn {s : Shared} {p : Addr × Obj} (hp : p ∈ g.pn s) : (p ∈ g.C.pn ++ g.cp ∧ g.n0 ≤ p.1) ∨ (p.1 = g.C.env.locals ∧ g.n0 ≤ p.1 ∧ s.heap.get? p.1 = some p.2) := by
  rcases List.mem_append.mp hp with z | z
  · obtain ⟨z1, z2⟩ := List.mem_filter.mp z
    exact .inl ⟨z1, of_decide_eq_true z2⟩
  · obtain ⟨z1, z2⟩ := of_pinsAt z
    unfold Gp.lx at z1
    split at z1
    · rename_i hl
      have e := List.mem_singleton.mp z1
      exact .inr ⟨e, by rw [e]; exact hl, z2⟩
    · cases z1
section
variable {κ : Kp} {ip : List (Addr × Obj)} {σ σc : L2.St} {H Hr H1 G1 : Hp} {s sr s' : Shared}
theorem Gp.back (ok : g.Ok) (I : Inv g.C g.cp σc Hr sr) (J : Inv (g.X sr Hr) ip σ H s) (hk : ∀ b o, Hr b = some o → NoT o → H b = some o) (hgr : Gr Hr H)
    (hz : ∀ b, g.n0 ≤ b → b < g.C.s_0.heap.objs.size → b ∈ g.C.ex ∨ Hr b ≠ none) : Inv g.C g.cp σc H s := by
  obtain ⟨ch, ech⟩ : ∃ ch : List Addr, ch = (List.range sr.heap.objs.size).filter fun b => decide (g.n0 ≤ b) && (Hr b).isNone && (g.C.pn ++ g.cp).all (fun p => decide (p.1 ≠ b)) && decide (b ≠ g.C.env.locals) := ⟨_, rfl⟩
  have inch : ∀ b, b ∈ ch → g.n0 ≤ b ∧ Hr b = none ∧ (∀ p ∈ g.C.pn ++ g.cp, p.1 ≠ b) ∧ b ≠ g.C.env.locals := fun b hb => by
    rw [ech] at hb
    obtain ⟨_, q⟩ := List.mem_filter.mp hb
    rw [Bool.and_eq_true, Bool.and_eq_true, Bool.and_eq_true] at q
    exact ⟨of_decide_eq_true q.1.1.1, Option.isNone_iff_eq_none.mp q.1.1.2, fun p hp => of_decide_eq_true (List.all_eq_true.mp q.1.2 p hp), of_decide_eq_true q.2⟩
  have notch : ∀ b o, sr.heap.get? b = some o → Hr b = none → b ∉ ch → g.n0 ≤ b → ∃ q, (b, q) ∈ g.pn sr := fun b o e hn hb hge => by
    by_cases h1 : b = g.C.env.locals
    · subst h1
      exact ⟨o, Gp.pn_loc hge e⟩
    · by_cases h2 : ∃ p ∈ g.C.pn ++ g.cp, p.1 = b
      · obtain ⟨p, hp, rfl⟩ := h2
        exact ⟨p.2, Gp.pn_mem hp hge⟩
      · refine absurd ?_ hb
        rw [ech]
        refine List.mem_filter.mpr ⟨List.mem_range.mpr (Heap.lt_size e), ?_⟩
        rw [Bool.and_eq_true, Bool.and_eq_true, Bool.and_eq_true]
        exact ⟨⟨⟨decide_eq_true hge, by rw [hn]; rfl⟩, List.all_eq_true.mpr fun p hp => decide_eq_true fun z => h2 ⟨p, hp, z⟩⟩, decide_eq_true h1⟩
  have pinS : ∀ p ∈ g.pn sr, sr.heap.get? p.1 = some p.2 := fun p hp => by
    rcases Gp.of_pn hp with ⟨z, _⟩ | ⟨_, _, z⟩
    · exact (I.pin p z).1
    · exact z
  have jpin : ∀ b o q, sr.heap.get? b = some o → (b, q) ∈ g.pn sr → s.heap.get? b = some o ∧ H b = none := fun b o q e hq => by
    have e1 := pinS _ hq
    obtain ⟨e2, e3, _⟩ := J.pin (b, q) (List.mem_append_left _ hq)
    have e1 : sr.heap.get? b = some q := e1
    rw [e] at e1
    cases e1
    exact ⟨e2, e3⟩
  have B := J.base
  have nx : ∀ b : Addr, b ∉ (g.X sr Hr).ex := fun b z => by cases z
  refine I.call' (ch := ch) (J.os) ⟨fun b o e hn hf hb => ?_, fun b o e hn hf hb => ?_, fun b o e hn hb => ?_, fun b o e hb => ?_, fun b xs e => hk b _ e (fun _ z => nomatch z), fun b o u e => hk b _ e (fun _ z => nomatch z), fun b ps e => hgr b ps e⟩ J.hok J.bare fun b hb => ?_
  · by_cases hlt : b < g.n0
    · exact B.keep b o ((cut_lt hlt).trans e) (cutH_none hn) hf (nx b)
    · obtain ⟨q, hq⟩ := notch b o e hn hb (Nat.le_of_not_lt hlt)
      exact (jpin b o q e hq).1
  · have hlt := ok.fsl b hf
    exact B.slot b o ((cut_lt hlt).trans e) (cutH_none hn) hf (nx b)
  · by_cases hlt : b < g.n0
    · exact B.free b o ((cut_lt hlt).trans e) (cutH_none hn) (nx b)
    · obtain ⟨q, hq⟩ := notch b o e hn hb (Nat.le_of_not_lt hlt)
      exact (jpin b o q e hq).2
  · by_cases hlt : b < g.n0
    · exact B.there b o ((cut_lt hlt).trans e) (nx b)
    · cases hn : Hr b with
      | none =>
        obtain ⟨q, hq⟩ := notch b o e hn hb (Nat.le_of_not_lt hlt)
        exact ⟨o, (jpin b o q e hq).1⟩
      | some u =>
        obtain ⟨u', hu⟩ := hgr.kept hn (hk b u hn)
        exact objOk_there (J.hok b u' hu)
  · obtain ⟨h1, h2, h3, h4⟩ := inch b hb
    refine ⟨?_, h4, fun x c e z => ?_, h3⟩
    · by_cases hlt : b < g.C.s_0.heap.objs.size
      · rcases hz b h1 hlt with z | z
        · exact .inl z
        · exact absurd h2 z
      · exact .inr (Nat.le_of_not_lt hlt)
    · have := ok.cel x c e
      rw [z] at this
      exact absurd (Nat.lt_of_lt_of_le this h1) (Nat.lt_irrefl _)
end
end GN

set_option maxHeartbeats 1000000
namespace GN
open PySem PySem.Spec PyProof.Rows L2 GenW DF
variable {g : Gp}
noncomputable def YP (g : Gp) : Protocol := fun n s₀ v s1 kap => ∃ (κ : Kp) (x : V) (H1 G1 : Hp) (d : D) (l : List D) (zp : List (Addr × Obj)), n = l.length + 1 ∧ κ.l = d :: l ∧ g.Acc κ ∧ FStp g.C.K [] κ.G κ.H G1 H1 ∧ Is g.C.K G1 d x ∧ RelV x v ∧
  L2.Inv g.C (g.cp ++ zp) κ.σ H1 s1 ∧ ∀ (κ' : Kp) (s' : Shared), κ'.l = l → g.Acc κ' → FStp g.C.K g.io G1 H1 κ'.G κ'.H → L2.Inv g.C (g.cp ++ zp) κ'.σ κ'.H s' → kap (.send .none) s' ∧ kap (.send (.bool true)) s'
structure GEn where
  nx : Kp → L2.St → Hp → Prop
  bk : Kp → L2.St → Hp → Prop := fun _ _ _ => False
  ct : Kp → L2.St → Hp → Prop := fun _ _ _ => False
noncomputable def GEn.at (D : GEn) (κ : Kp) : Ends := { nx := D.nx κ, rt := fun _ _ => False, bk := D.bk κ, ct := D.ct κ }
noncomputable abbrev TN := GEn → Kp → L2.St → Hp → Prop
structure At (g : Gp) (ip : List (Addr × Obj)) (c : Code) (fs : List Frame) (gd : Bool → Bool) : Prop where
  over : g.A.over c fs = g.A.deeper g.env
  split : splitAtGen fs = none
  guard : fs.any Frame.guarded = false
  gd : gd false = false
  ipl : ∀ p ∈ ip, p.1 ≠ g.C.env.locals
noncomputable abbrev Gp.All (g : Gp) (p : Cx → Prop) : Prop := ∀ (s : Shared) (H : Hp), g.n0 ≤ s.heap.objs.size → p (g.X s H)
section
variable {st : Stmt} {rest : List Stmt} {e : Expr} {yp pos : Pos}
end
end GN

set_option maxHeartbeats 1000000
namespace GN
open PySem PySem.Spec PyProof.Rows L2 GenW DF
variable {g : Gp}
end GN

set_option maxHeartbeats 1000000
namespace DF
noncomputable def noMuA (ρ : DEnv) : Bool := ρ.all fun c => match c with
  | some (.mu _ _) => false
  | _ => true
end DF
namespace GN
open PySem PySem.Spec PyProof.Rows L2 GenW DF
variable {g : Gp}
section
variable {K : PySem.W.Frag} {ρ ρ' : DEnv} {σ σ' : Sl} {G H G' H' G2 H2 : Hp}
theorem FStp.trans (a : FStp K [] G H G' H') (b : FStp K [] G' H' G2 H2) : FStp K [] G H G2 H2 :=
  ⟨fun c o e => b.g c o (a.g c o e), fun c o z e nt => b.h c o z (a.h c o z e nt) nt, fun c e => a.t c (b.t c e), fun c e q => by
    by_cases h : G' c = none
    · exact a.t c (b.n c h q)
    · exact a.n c e h, b.s, b.tb, a.gr.trans b.gr⟩
end
noncomputable def Rn (K : PySem.W.Frag) (κ : Kp) (ρ : DEnv) (σ : Sl) (G H : Hp) : Prop := ∃ ρr σr, noMuA ρr = true ∧ Rep K κ.G κ.H ρr σr ∧ Stp ρr σr κ.G κ.H ρ σ G H
noncomputable def GoN (K : PySem.W.Frag) (κ : Kp) (G : Hp) (E : Kp → Sl → Hp → Prop) (r : DF.GR) : Prop := match r with
  | .no => False
  | .nx ρ' o => ∃ rest, κ.l = o ++ rest ∧ ∀ (κ' : Kp) σ' G' H', κ'.l = rest → Evl.Ex G G' → Rn K κ' ρ' σ' G' H' → Rep K G' H' ρ' σ' → E κ' σ' H'
theorem GoN.ex {K : PySem.W.Frag} {κ : Kp} {G G1 : Hp} {E : Kp → Sl → Hp → Prop} {r : DF.GR} (x : Evl.Ex G G1) (h : GoN K κ G E r) : GoN K κ G1 E r := by
  cases r with
  | no => exact h
  | nx ρ' o =>
    obtain ⟨rest, e, q⟩ := h
    exact ⟨rest, e, fun κ' σ' G' H' e1 e2 => q κ' σ' G' H' e1 fun b o z => e2 b o (x b o z)⟩
section
variable {st : Stmt} {rest : List Stmt} {pos yp : Pos} {e : Expr} {W : WX}
end
end GN

set_option maxHeartbeats 1000000
namespace GN
open PySem PySem.Spec PyProof.Rows L2 GenW DF
variable {g : Gp}
section
variable {P : Program} {w : World} {K : PySem.W.Frag} {mg : Str → Option Value} {base : Heap}
end
end GN

set_option maxHeartbeats 1000000
namespace GN
open PySem PySem.Spec PyProof.Rows L2 GenW DF
theorem Inv.kept {X : Cx} {pins : List (Addr × Obj)} {σ : L2.St} {H : Hp} {s s' : Shared} (I : L2.Inv X pins σ H s) (ho : s'.os = s.os) (k : ∀ b o, s.heap.get? b = some o → s'.heap.get? b = some o) (hb : AllBare s'.gens) : L2.Inv X pins σ H s' :=
  I.call' (ch := []) ho (Un.kept k) (I.hok.kept k) hb fun b z => by cases z
section
variable {X : Cx} {W : WX} {e : Expr} {es : List Expr} {x : Str} {p p2 pos pos2 : Pos} {k j ar : Nat} {ps : List Str} {F : GnF}
end
end GN

set_option maxHeartbeats 1000000
namespace DF
end DF
namespace GN
open PySem PySem.Spec PyProof.Rows L2 GenW DF
section
variable {X : Cx} {W : WX} {e : Expr} {es : List Expr} {x : Str} {p p2 pos pos2 : Pos} {k j ar : Nat} {ps : List Str} {F : GnF}
end
end GN

set_option maxHeartbeats 1000000
namespace DF
end DF
namespace GN
open PySem PySem.Spec PyProof.Rows L2 GenW DF
theorem FStp.io {K : PySem.W.Frag} {io : List Addr} {G H G' H' : Hp} (f : FStp K [] G H G' H') : FStp K io G H G' H' := ⟨f.g, fun b o _ e nt => f.h b o (by simp) e nt, f.t, f.n, f.s, f.tb, f.gr⟩
section
variable {X : Cx} {W : WX} {e : Expr} {es : List Expr} {x : Str} {p2 pos pos2 pos' : Pos} {k j ar : Nat} {ps : List Str} {F : GnF}
end
end GN

set_option maxHeartbeats 1000000
namespace GZ
open PySem PySem.Spec PyProof.Rows L2 RZ
section
variable {prog : Program} {w : World} {A : Around} {E : Value → Shared → Prop} {s : Shared}
noncomputable def Turns (prog : Program) (w : World) (i : Addr) (x : Value) (P R : Heap → Prop) : Prop := ∀ (A : Around) (E : Value → Shared → Prop) (s : Shared) (Q : Value → Shared → Prop), P s.heap → (∀ h', R h' → Heap.SameBut i s.heap h' → Q x { s with heap := h' }) → wpAny (model prog w) A (Builtin.SmallTypes.nextOf (.ref i)) Q E s
noncomputable def Ends (prog : Program) (w : World) (i : Addr) (P : Heap → Prop) : Prop := ∀ (A : Around) (E : Value → Shared → Prop) (s : Shared) (Q : Value → Shared → Prop), A.handled = none → P s.heap → (∀ h' e, Heap.ExtBut i s.heap h' → (∃ o, h'.get? e = some o ∧ o.cls = .type "StopIteration") → E (.ref e) { s with heap := h' }) → wpAny (model prog w) A (Builtin.SmallTypes.nextOf (.ref i)) Q E s
noncomputable def Holds (P : Heap → Prop) (fp : List Addr) : Prop := ∀ (b : Addr) (h h' : Heap), b ∉ fp → P h → Heap.ExtBut b h h' → P h'
theorem zM_item {z TI TO i1 i2 : Addr} {x y a b : Value} {P1 R1 P2 R2 : Heap → Prop} {f1 f2 : List Addr} {Q : Value → Shared → Prop} (hne : TI ≠ z ∧ TO ≠ z ∧ i1 ≠ z ∧ i2 ≠ z ∧ TO ≠ i1 ∧ TO ≠ i2 ∧ i1 ≠ i2) (n1 : z ∉ f1 ∧ TO ∉ f1 ∧ i2 ∉ f1) (n2 : z ∉ f2 ∧ TO ∉ f2 ∧ i1 ∉ f2)
    (T1 : Turns prog w i1 x P1 R1) (T2 : Turns prog w i2 y P2 R2) (K1 : Holds P1 f1) (L1 : Holds R1 f1) (K2 : Holds P2 f2) (L2 : Holds R2 f2)
    (hz : IsZip s.heap z TI TO .none) (hTI : IsPair s.heap TI (.ref i1) (.ref i2)) (hTO : IsPair s.heap TO a b) (h1 : P1 s.heap) (h2 : P2 s.heap)
    (hQ : ∀ h', IsZip h' z TI TO (rawInt s.heap.objs.size) → IsPair h' TO x y → R1 h' → R2 h' → IsPair h' s.heap.objs.size x y → h'.objs.size = s.heap.objs.size + 1 → (∀ c o, c ≠ z → c ≠ TO → c ≠ i1 → c ≠ i2 → s.heap.get? c = some o → h'.get? c = some o) → Q (.ref s.heap.objs.size) { s with heap := h' }) :
    wpAny (model prog w) A (Builtin.«zip.__next__» ⟨[.ref z], []⟩) (fun fin s' => ∃ v, fin = .done (.ret v) ∧ Q v s') E s := by
  obtain ⟨dI, dO, d1, d2, e1, e2, e12⟩ := hne
  obtain ⟨a1, a2, a3⟩ := n1
  obtain ⟨b1, b2, b3⟩ := n2
  (show wpAny _ _ (field (.ref z) 2 >>= _) _ _ _); refine wpAny_bind (wpAny_field hz rfl (x := .bool false) rfl ?_)
  (show wpAny _ _ (field (.ref z) 3 >>= _) _ _ _); refine wpAny_bind (wpAny_field hz rfl (x := .ref TI) rfl (wpAny_bind (wpAny_seqItems hTI rfl ?_)))
  (show wpAny _ _ (Builtin.SmallTypes.ownedTupleIsFree (.ref z) >>= _) _ _ _); refine wpAny_bind ?_; unfold Builtin.SmallTypes.ownedTupleIsFree
  refine wpAny_bind (wpAny_field hz rfl (x := .none) rfl (wpAny_pure ?_)); simp only [if_true]
  refine wpAny_bind (wpAny_rule (wpAny_bind (wpAny_field hz rfl (x := .ref TO) rfl (wpAny_bind (wpAny_setField_rec hz (by simp) fun g1 hz1 s1 => ?_)))))
  replace hz1 : IsZip g1 z TI TO .ellipsis := hz1
  refine wpAny_bind ?_; simp only [List.zipIdx_cons, List.zipIdx_nil, List.forIn_cons, List.forIn_nil]
  refine wpAny_bind (wpAny_bind (wpAny_onRaise ?_)); (show wpAny _ _ (Builtin.SmallTypes.nextOf (.ref i1) >>= _) _ _ _)
  refine wpAny_bind (T1 _ _ _ _ (K1 _ _ _ a1 h1 s1.extBut) fun g2 q2 s2 => wpAny_pure ?_)
  have t2 : IsPair g2 TO a b := s2.extBut _ _ e1 (s1.extBut _ _ dO hTO)
  refine wpAny_bind (wpAny_seqItems t2 rfl (wpAny_bind (wpAny_updateSeq_pair t2 fun g3 t3 s3 => ?_)))
  replace t3 : IsPair g3 TO x b := t3
  refine wpAny_bind (wpAny_letGo (wpAny_pure (wpAny_bind (wpAny_bind (wpAny_onRaise ?_))))); (show wpAny _ _ (Builtin.SmallTypes.nextOf (.ref i2) >>= _) _ _ _)
  refine wpAny_bind (T2 _ _ _ _ (K2 _ _ _ b2 (K2 _ _ _ b3 (K2 _ _ _ b1 h2 s1.extBut) s2.extBut) s3.extBut) fun g4 q4 s4 => wpAny_pure ?_)
  have t4 : IsPair g4 TO x b := s4.extBut _ _ e2 t3
  refine wpAny_bind (wpAny_seqItems t4 rfl (wpAny_bind (wpAny_updateSeq_pair t4 fun g5 t5 s5 => ?_)))
  replace t5 : IsPair g5 TO x y := t5
  refine wpAny_bind (wpAny_letGo (wpAny_pure (wpAny_pure (wpAny_bind (wpAny_seqItems t5 rfl (wpAny_bind (wpAny_newTuple ?_)))))))
  have sz : g5.objs.size = s.heap.objs.size := by rw [s5.1, s4.1, s3.1, s2.1, s1.1]
  have z5 : IsZip g5 z TI TO .ellipsis := s5.extBut _ _ dO.symm (s4.extBut _ _ d2.symm (s3.extBut _ _ dO.symm (s2.extBut _ _ d1.symm hz1)))
  have k5 : ∀ c o, c ≠ z → c ≠ TO → c ≠ i1 → c ≠ i2 → s.heap.get? c = some o → g5.get? c = some o := fun c o c1 c2 c3 c4 e => s5.extBut _ _ c2 (s4.extBut _ _ c4 (s3.extBut _ _ c2 (s2.extBut _ _ c3 (s1.extBut _ _ c1 e))))
  have r1 : R1 g5 := L1 _ _ _ a2 (L1 _ _ _ a3 (L1 _ _ _ a2 q2 s3.extBut) s4.extBut) s5.extBut
  have r2 : R2 g5 := L2 _ _ _ b2 q4 s5.extBut
  have lz : z < g5.objs.size := Heap.lt_size z5
  (show wpAny _ _ (Builtin.SmallTypes.ownedTupleHandOut (.ref z) (.ref g5.objs.size) >>= _) _ _ _); refine wpAny_bind ?_; unfold Builtin.SmallTypes.ownedTupleHandOut
  have z6 : IsZip (g5.push { cls := .type "tuple", data := .seq #[x, y] }) z TI TO .ellipsis := Heap.get?_push_of_some _ z5
  refine wpAny_bind (wpAny_setField_rec z6 (by simp) fun g7 z7 s7 => ?_)
  replace z7 : IsZip g7 z TI TO (rawInt g5.objs.size) := z7
  refine wpAny_setField_rec z7 (by simp) fun g8 z8 s8 => ?_
  replace z8 : IsZip g8 z TI TO (rawInt g5.objs.size) := z8
  have up : Heap.ExtBut z g5 g8 := fun c o c1 e => s8.extBut _ _ c1 (s7.extBut _ _ c1 (Heap.get?_push_of_some _ e))
  have tp : IsPair g8 g5.objs.size x y := s8.extBut _ _ (Nat.ne_of_gt lz) (s7.extBut _ _ (Nat.ne_of_gt lz) (Heap.get?_push_size _ rfl))
  have sz8 : g8.objs.size = g5.objs.size + 1 := by rw [s8.1, s7.1, Heap.size_push]
  rw [sz] at z8 tp sz8
  refine wpAny_pure ⟨_, rfl, ?_⟩
  (show Q (.ref g5.objs.size) _); rw [sz]
  exact hQ g8 z8 (up _ _ dO t5) (L1 _ _ _ a1 r1 up) (L2 _ _ _ b1 r2 up) tp sz8 fun c o c1 c2 c3 c4 e => up c o c1 (k5 c o c1 c2 c3 c4 e)
theorem zM_end {z TI TO i1 i2 : Addr} {a b : Value} {P1 P2 : Heap → Prop} {f1 f2 : List Addr} {Q : PySem.Fin → Shared → Prop} (hh : A.handled = none) (hne : TI ≠ z ∧ TO ≠ z ∧ i1 ≠ z ∧ i2 ≠ z ∧ TO ≠ i1 ∧ TO ≠ i2 ∧ i1 ≠ i2) (n1 : z ∉ f1 ∧ TO ∉ f1 ∧ i2 ∉ f1) (n2 : z ∉ f2 ∧ TO ∉ f2 ∧ i1 ∉ f2)
    (T : GZ.Ends prog w i1 P1 ∨ (∃ x R1, Turns prog w i1 x P1 R1) ∧ GZ.Ends prog w i2 P2) (K1 : Holds P1 f1) (K2 : Holds P2 f2)
    (hz : IsZip s.heap z TI TO .none) (hTI : IsPair s.heap TI (.ref i1) (.ref i2)) (hTO : IsPair s.heap TO a b) (h1 : P1 s.heap) (h2 : P2 s.heap)
    (hE : ∀ h' e, (∀ c o, c ≠ z → c ≠ TO → c ≠ i1 → c ≠ i2 → s.heap.get? c = some o → h'.get? c = some o) → (∃ o, h'.get? e = some o ∧ o.cls = .type "StopIteration") → E (.ref e) { s with heap := h' }) :
    wpAny (model prog w) A (Builtin.«zip.__next__» ⟨[.ref z], []⟩) Q E s := by
  obtain ⟨dI, dO, d1, d2, e1, e2, e12⟩ := hne
  obtain ⟨a1, a2, a3⟩ := n1
  obtain ⟨b1, b2, b3⟩ := n2
  (show wpAny _ _ (field (.ref z) 2 >>= _) _ _ _); refine wpAny_bind (wpAny_field hz rfl (x := .bool false) rfl ?_)
  (show wpAny _ _ (field (.ref z) 3 >>= _) _ _ _); refine wpAny_bind (wpAny_field hz rfl (x := .ref TI) rfl (wpAny_bind (wpAny_seqItems hTI rfl ?_)))
  (show wpAny _ _ (Builtin.SmallTypes.ownedTupleIsFree (.ref z) >>= _) _ _ _); refine wpAny_bind ?_; unfold Builtin.SmallTypes.ownedTupleIsFree
  refine wpAny_bind (wpAny_field hz rfl (x := .none) rfl (wpAny_pure ?_)); simp only [if_true]
  refine wpAny_bind (wpAny_rule (wpAny_bind (wpAny_field hz rfl (x := .ref TO) rfl (wpAny_bind (wpAny_setField_rec hz (by simp) fun g1 hz1 s1 => ?_)))))
  replace hz1 : IsZip g1 z TI TO .ellipsis := hz1
  refine wpAny_bind ?_; simp only [List.zipIdx_cons, List.zipIdx_nil, List.forIn_cons, List.forIn_nil]
  refine wpAny_bind (wpAny_bind (wpAny_onRaise ?_)); (show wpAny _ _ (Builtin.SmallTypes.nextOf (.ref i1) >>= _) _ _ _)
  rcases T with T | ⟨⟨x, R1, T1⟩, T⟩
  · refine wpAny_bind (T _ _ _ _ hh (K1 _ _ _ a1 h1 s1.extBut) fun g2 e s2 ⟨oe, ho, hc⟩ => ?_)
    have z2 : IsZip g2 z TI TO .ellipsis := s2 _ _ d1.symm hz1
    have ez : e ≠ z := fun q => by subst q; rw [z2] at ho; cases ho; simp at hc
    refine wpAny_setField_rec z2 (by simp) fun g3 _ s3 => hE g3 e (fun c o c1 _ c3 _ q => s3.extBut _ _ c1 (s2 _ _ c3 (s1.extBut _ _ c1 q))) ⟨oe, s3.extBut _ _ ez ho, hc⟩
  · refine wpAny_bind (T1 _ _ _ _ (K1 _ _ _ a1 h1 s1.extBut) fun g2 q2 s2 => wpAny_pure ?_)
    have t2 : IsPair g2 TO a b := s2.extBut _ _ e1 (s1.extBut _ _ dO hTO)
    refine wpAny_bind (wpAny_seqItems t2 rfl (wpAny_bind (wpAny_updateSeq_pair t2 fun g3 t3 s3 => ?_)))
    refine wpAny_bind (wpAny_letGo (wpAny_pure (wpAny_bind (wpAny_bind (wpAny_onRaise ?_))))); (show wpAny _ _ (Builtin.SmallTypes.nextOf (.ref i2) >>= _) _ _ _)
    refine wpAny_bind (T _ _ _ _ hh (K2 _ _ _ b2 (K2 _ _ _ b3 (K2 _ _ _ b1 h2 s1.extBut) s2.extBut) s3.extBut) fun g4 e s4 ⟨oe, ho, hc⟩ => ?_)
    have z4 : IsZip g4 z TI TO .ellipsis := s4 _ _ d2.symm (s3.extBut _ _ dO.symm (s2.extBut _ _ d1.symm hz1))
    have ez : e ≠ z := fun q => by subst q; rw [z4] at ho; cases ho; simp at hc
    refine wpAny_setField_rec z4 (by simp) fun g5 _ s5 => hE g5 e (fun c o c1 c2 c3 c4 q => s5.extBut _ _ c1 (s4 _ _ c4 (s3.extBut _ _ c2 (s2.extBut _ _ c3 (s1.extBut _ _ c1 q))))) ⟨oe, s5.extBut _ _ ez ho, hc⟩
end
end GZ
namespace GZ
open PySem PySem.Spec PyProof.Rows L2 RZ
section
variable {prog : Program} {w : World}
noncomputable def PT (i l k : Nat) (xs : Array Value) : Heap → Prop := fun h => h.IsTupleIter i l k ∧ h.IsTuple l xs
noncomputable def PL (i l k : Nat) (xs : Array Value) : Heap → Prop := fun h => h.IsListIter i l k ∧ h.IsList l xs
theorem pt_turns {i l k : Nat} {xs : Array Value} {x : Value} (hx : xs[k]? = some x) (ne : l ≠ i) : Turns prog w i x (PT i l k xs) (PT i l (k + 1) xs) :=
  fun A E s Q ⟨h1, h2⟩ hQ => nextOf_tuple_item h1 h2 hx fun h' a b => hQ h' ⟨a, h2.extBut b.extBut ne⟩ b
theorem pt_ends {i l k : Nat} {xs : Array Value} (hx : xs[k]? = none) : GZ.Ends prog w i (PT i l k xs) := fun A E s Q hh ⟨h1, h2⟩ hE => nextOf_tuple_end hh h1 h2 hx hE
theorem pl_turns {i l k : Nat} {xs : Array Value} {x : Value} (hx : xs[k]? = some x) (ne : l ≠ i) : Turns prog w i x (PL i l k xs) (PL i l (k + 1) xs) :=
  fun A E s Q ⟨h1, h2⟩ hQ => wpAny_nextOf_list_item h1 h2 hx fun h' a b => hQ h' ⟨a, h2.extBut b.extBut ne⟩ b
theorem pl_ends {i l k : Nat} {xs : Array Value} (hx : xs[k]? = none) : GZ.Ends prog w i (PL i l k xs) := fun A E s Q hh ⟨h1, h2⟩ hE => wpAny_nextOf_list_end hh h1 h2 hx hE
theorem pt_holds {i l k : Nat} {xs : Array Value} : Holds (PT i l k xs) [i, l] := fun b h h' hb ⟨h1, h2⟩ e => ⟨h1.extBut e fun z => hb (by simp [z]), h2.extBut e fun z => hb (by simp [z])⟩
theorem pl_holds {i l k : Nat} {xs : Array Value} : Holds (PL i l k xs) [i, l] := fun b h h' hb ⟨h1, h2⟩ e => ⟨h1.extBut e fun z => hb (by simp [z]), h2.extBut e fun z => hb (by simp [z])⟩
end
section
variable {prog : Program} {w : World} {A : Around} {E : Value → Shared → Prop} {s : Shared} {z TI TO i1 i2 l1 l2 k : Nat} {xs ys : Array Value} {x y a b : Value} {Q : Option Value → Shared → Prop}
theorem far (D : ZipApart z TI TO i1 i2 l1 l2) : (TI ≠ z ∧ TO ≠ z ∧ i1 ≠ z ∧ i2 ≠ z ∧ TO ≠ i1 ∧ TO ≠ i2 ∧ i1 ≠ i2) ∧ (z ∉ [i1, l1] ∧ TO ∉ [i1, l1] ∧ i2 ∉ [i1, l1]) ∧ (z ∉ [i2, l2] ∧ TO ∉ [i2, l2] ∧ i1 ∉ [i2, l2]) := by
  have := D.i1z.symm; have := D.i2z.symm; have := D.l1z.symm; have := D.l2z.symm; have := D.l1TO.symm; have := D.l2TO.symm; have := D.l1i2.symm; have := D.l2i1.symm; have := D.i12.symm
  refine ⟨⟨D.TIz, D.TOz, D.i1z, D.i2z, D.TOi1, D.TOi2, D.i12⟩, ⟨?_, ?_, ?_⟩, ⟨?_, ?_, ?_⟩⟩ <;> simp [D.TOi1, D.TOi2, D.i12, *]
theorem next_item (D : ZipApart z TI TO i1 i2 l1 l2) (hz : IsZip s.heap z TI TO .none) (hTI : IsPair s.heap TI (.ref i1) (.ref i2)) (hTO : IsPair s.heap TO a b) (h1 : PT i1 l1 k xs s.heap) (h2 : PL i2 l2 k ys s.heap) (hx : xs[k]? = some x) (hy : ys[k]? = some y)
    (hQ : ∀ h', IsZip h' z TI TO (rawInt s.heap.objs.size) → IsPair h' TO x y → PT i1 l1 (k + 1) xs h' → PL i2 l2 (k + 1) ys h' → IsPair h' s.heap.objs.size x y → h'.objs.size = s.heap.objs.size + 1 → (∀ c o, c ≠ z → c ≠ TO → c ≠ i1 → c ≠ i2 → s.heap.get? c = some o → h'.get? c = some o) → Q (some (.ref s.heap.objs.size)) { s with heap := h' }) :
    wpAny (model prog w) A (pyNext (.ref z)) Q E s := by
  have hT : s.TypeIs (.ref z) "zip" := ⟨_, hz, rfl⟩
  obtain ⟨q1, q2, q3⟩ := far D
  unfold pyNext
  refine wpAny_bind (wpAny_attempt (wpAny_callSpecial?_slot (name := Str.ofString "__next__") hT F.slot_zip_next (wpAny_call_entry F.slot_zip_next hT F.entry_zip_next ?_ (F.args_zip_next_1 _))))
  exact zM_item q1 q2 q3 (pt_turns hx D.l1i1) (pl_turns hy D.l2i2) pt_holds pt_holds pl_holds pl_holds hz hTI hTO h1 h2 fun h' a1 a2 a3 a4 a5 a6 a7 => wpAny_pure (hQ h' a1 a2 a3 a4 a5 a6 a7)
theorem next_end (hh : A.handled = none) (D : ZipApart z TI TO i1 i2 l1 l2) (hz : IsZip s.heap z TI TO .none) (hTI : IsPair s.heap TI (.ref i1) (.ref i2)) (hTO : IsPair s.heap TO a b) (h1 : PT i1 l1 k xs s.heap) (h2 : PL i2 l2 k ys s.heap) (he : xs[k]? = none ∨ ys[k]? = none)
    (hQ : ∀ h', (∀ c o, c ≠ z → c ≠ TO → c ≠ i1 → c ≠ i2 → s.heap.get? c = some o → h'.get? c = some o) → Q none { s with heap := h' }) : wpAny (model prog w) A (pyNext (.ref z)) Q E s := by
  have hT : s.TypeIs (.ref z) "zip" := ⟨_, hz, rfl⟩
  obtain ⟨q1, q2, q3⟩ := far D
  unfold pyNext
  refine wpAny_bind (wpAny_attempt (wpAny_callSpecial?_slot (name := Str.ofString "__next__") hT F.slot_zip_next (wpAny_call_entry F.slot_zip_next hT F.entry_zip_next ?_ (F.args_zip_next_1 _))))
  refine zM_end hh q1 q2 q3 ?_ pt_holds pl_holds hz hTI hTO h1 h2 fun h' e hk ⟨o, ho, hc⟩ => wpAny_bind (wpAny_isInstance (T := "StopIteration") (b := true) ⟨o, ho, hc⟩ isSubtype_stop (wpAny_pure (hQ _ hk)))
  cases q : xs[k]? with
  | none => exact .inl (pt_ends q)
  | some x => exact .inr ⟨⟨x, _, pt_turns q D.l1i1⟩, pl_ends (by rcases he with z | z; rw [q] at z; cases z; exact z)⟩
end
noncomputable abbrev gH1 (h : Heap) (l1 : Addr) : Heap := h.push { cls := .type "tuple_iterator", data := .fields #[.ref l1, .int 0 0] }
noncomputable abbrev gH2 (h : Heap) (l1 l2 : Addr) : Heap := (gH1 h l1).push { cls := .type "list_iterator", data := .fields #[.ref l2, .int 0 0] }
noncomputable abbrev gH3 (h : Heap) (l1 l2 : Addr) : Heap := (gH2 h l1 l2).push { cls := .type "tuple", data := .seq #[.ref h.objs.size, .ref (gH1 h l1).objs.size] }
noncomputable abbrev gH4 (h : Heap) (l1 l2 : Addr) : Heap := (gH3 h l1 l2).push { cls := .type "tuple", data := .seq #[.none, .none] }
noncomputable abbrev gH5 (h : Heap) (l1 l2 : Addr) : Heap := (gH4 h l1 l2).push { cls := .type "zip", data := .fields #[.none, .bool false, .bool false, .ref (gH2 h l1 l2).objs.size, .ref (gH3 h l1 l2).objs.size] }
theorem meets_new (l1 l2 : Addr) (xs ys : Array Value) :
    Meets (Builtin.«zip.__new__» ⟨[.type "zip", .ref l1, .ref l2], []⟩) (fun _ R s => s.heap.IsTuple l1 xs ∧ s.heap.IsList l2 ys ∧ R (.ok (.ret (.ref (gH4 s.heap l1 l2).objs.size))) { s with heap := gH5 s.heap l1 l2 }) :=
  .of_wp fun prog w A R s h => by
    obtain ⟨hp, g, d, tk, os⟩ := s
    obtain ⟨q1, q2, h⟩ := h
    have hsub := sub_zip
    have m1 : Heap.IsTuple (Shared.heap ⟨hp, g, d, tk, os⟩) l1 xs := q1
    have m2 : Heap.IsList (Shared.heap ⟨hp.push { cls := .type "tuple_iterator", data := .fields #[.ref l1, .int 0 0] }, g, d, tk, os⟩) l2 ys := q2.push _
    wp_walk using wpAny_pyIter_tuple m1, wpAny_pyIter_list m2
    exact ⟨_, rfl, h⟩
section
variable {prog : Program} {w : World} {A : Around} {E : Value → Shared → Prop} {s : Shared}
theorem call_new {l1 l2 : Addr} {xs ys : Array Value} {Q : Value → Shared → Prop} (q1 : s.heap.IsTuple l1 xs) (q2 : s.heap.IsList l2 ys)
    (h : ∀ h', IsZip h' (s.heap.objs.size + 4) (s.heap.objs.size + 2) (s.heap.objs.size + 3) .none → IsPair h' (s.heap.objs.size + 2) (.ref s.heap.objs.size) (.ref (s.heap.objs.size + 1)) → IsPair h' (s.heap.objs.size + 3) .none .none →
      h'.IsTupleIter s.heap.objs.size l1 0 → h'.IsListIter (s.heap.objs.size + 1) l2 0 → h'.objs.size = s.heap.objs.size + 5 → (∀ c o, s.heap.get? c = some o → h'.get? c = some o) → Q (.ref (s.heap.objs.size + 4)) { s with heap := h' }) :
    wpAny (model prog w) A (call (.type "zip") [.ref l1, .ref l2]) Q E s := by
  refine callType_new F.called_zip (by decide) (F.typeCall_zip_2 _ _) (F.newCall_zip_2 _ _) (fun obj => F.args_object_init_3 obj _ _) F.entry_zip_new (meets_new l1 l2 xs ys) ⟨q1, q2, ?_⟩
  have y1 : (gH1 s.heap l1).objs.size = s.heap.objs.size + 1 := Heap.size_push ..
  have y2 : (gH2 s.heap l1 l2).objs.size = s.heap.objs.size + 2 := by rw [Heap.size_push, y1]
  have y3 : (gH3 s.heap l1 l2).objs.size = s.heap.objs.size + 3 := by rw [Heap.size_push, y2]
  have y4 : (gH4 s.heap l1 l2).objs.size = s.heap.objs.size + 4 := by rw [Heap.size_push, y3]
  have y5 : (gH5 s.heap l1 l2).objs.size = s.heap.objs.size + 5 := by rw [Heap.size_push, y4]
  have p1 : ∀ (h : Heap) (o o' : Obj) (c : Addr), h.get? c = some o → (h.push o').get? c = some o := fun h o o' c e => Heap.get?_push_of_some _ e
  have e5 : (gH5 s.heap l1 l2).get? (gH4 s.heap l1 l2).objs.size = some _ := Heap.get?_push_size _ rfl
  have e4 : (gH5 s.heap l1 l2).get? (gH3 s.heap l1 l2).objs.size = some _ := p1 _ _ _ _ (Heap.get?_push_size _ rfl)
  have e3 : (gH5 s.heap l1 l2).get? (gH2 s.heap l1 l2).objs.size = some _ := p1 _ _ _ _ (p1 _ _ _ _ (Heap.get?_push_size _ rfl))
  have e2 : (gH5 s.heap l1 l2).get? (gH1 s.heap l1).objs.size = some _ := p1 _ _ _ _ (p1 _ _ _ _ (p1 _ _ _ _ (Heap.get?_push_size _ rfl)))
  have e1 : (gH5 s.heap l1 l2).get? s.heap.objs.size = some _ := p1 _ _ _ _ (p1 _ _ _ _ (p1 _ _ _ _ (p1 _ _ _ _ (Heap.get?_push_size _ rfl))))
  (show _ ∧ _); rw [y2, y3, y4] at e5; rw [y1, y2] at e3; rw [y3] at e4; rw [y1] at e2; rw [y4]
  exact ⟨⟨_, e5, rfl⟩, h _ e5 e3 e4 ⟨_, e1, rfl, rfl⟩ ⟨_, e2, rfl, rfl⟩ y5 fun c o x => p1 _ _ _ _ (p1 _ _ _ _ (p1 _ _ _ _ (p1 _ _ _ _ (p1 _ _ _ _ x))))⟩
end
noncomputable def ItzM (K : PySem.W.Frag) (a b : Addr) : It where
  go := fun i H => ∃ (xs ys : List V) (x y : V), SqT K H a xs ∧ SqL K H b ys ∧ xs[i]? = some x ∧ ys[i]? = some y
  yld := fun i H v H' => ∃ T x y, v = .ref T ∧ H T = none ∧ H' = upd H T (.tup [x, y]) ∧ (∀ xs, SqT K H a xs → xs[i]? = some x) ∧ ∀ ys, SqL K H b ys → ys[i]? = some y
  stop := fun i H => ∃ xs ys : List V, SqT K H a xs ∧ SqL K H b ys ∧ (xs.length ≤ i ∨ ys.length ≤ i)
theorem turnM {P : Program} {w : World} {K : PySem.W.Frag} {elts : List Expr} {kk : Nat} {tpos : Pos} {a b z TI TO i1 i2 : Addr} (D : ZipApart z TI TO i1 i2 a b) :
    Turn P w K (.Tuple elts kk tpos) (ItzM K a b) [z, TI, TO, i1, i2] z (fun i h => IsZip h z TI TO .none ∧ IsPair h TI (.ref i1) (.ref i2) ∧ (∃ x y, IsPair h TO x y) ∧ h.IsTupleIter i1 a i ∧ h.IsListIter i2 b i) := by
  have five : ∀ {c : Addr}, c ∈ [z, TI, TO, i1, i2] → c = z ∨ c = TI ∨ c = TO ∨ c = i1 ∨ c = i2 := fun {c} hc => by simpa using hc
  have there : ∀ {i : Nat} {h : Heap}, (IsZip h z TI TO .none ∧ IsPair h TI (.ref i1) (.ref i2) ∧ (∃ x y, IsPair h TO x y) ∧ h.IsTupleIter i1 a i ∧ h.IsListIter i2 b i) → ∀ c ∈ [z, TI, TO, i1, i2], ∃ o, h.get? c = some o ∧ ∀ v, o.data ≠ .cell v := by
    rintro i h ⟨hz, hTI, ⟨x, y, hTO⟩, ⟨o1, e1, _, d1⟩, ⟨o2, e2, _, d2⟩⟩ c hc
    rcases five hc with rfl | rfl | rfl | rfl | rfl
    · exact ⟨_, hz, fun v q => nomatch q⟩
    · exact ⟨_, hTI, fun v q => nomatch q⟩
    · exact ⟨_, hTO, fun v q => nomatch q⟩
    · exact ⟨o1, e1, fun v q => (by rw [d1] at q; cases q)⟩
    · exact ⟨o2, e2, fun v q => (by rw [d2] at q; cases q)⟩
  refine ⟨by simp, fun i h st c hc => there st c hc, fun i h h' st k => ?_, ?_, ?_, fun A i s Q E st h => wpAny_pyIter_zip st.1 h⟩
  · obtain ⟨hz, hTI, ⟨x, y, hTO⟩, h1, h2⟩ := st
    exact ⟨k z (by simp) _ hz, k TI (by simp) _ hTI, ⟨x, y, k TO (by simp) _ hTO⟩, h1.at fun o q => k i1 (by simp) o q, h2.at fun o q => k i2 (by simp) o q⟩
  · intro X hP hw hK hc i pins s σ H E I hf st hg
    subst hP hw hK
    have thr := there st
    obtain ⟨hz, hTI, ⟨x0, y0, hTO⟩, h1, h2⟩ := st
    obtain ⟨xs, ys, x, y, hqx, hqy, hx, hy⟩ := hg
    obtain ⟨its, rv, p, _⟩ := I.tuple hqx
    obtain ⟨its2, rv2, p2, _⟩ := I.list hqy
    obtain ⟨u, hu, ru⟩ := rv.get hx
    obtain ⟨u2, hu2, ru2⟩ := rv2.get hy
    have lz : z < s.heap.objs.size := Heap.lt_size hz
    refine next_item D hz hTI hTO ⟨h1, p⟩ ⟨h2, p2.isList⟩ (x := u) (y := u2) (by simpa using hu) (by simpa using hu2) fun h' z' TO' g1 g2 hT hsz hk => ⟨_, rfl, wpAny_letOwnedTupleGo_zip (s := { s with heap := h' }) z' fun h'' z'' sb => ?_⟩
    have hT2 : h''.get? s.heap.objs.size = some { cls := .type "tuple", data := .seq #[u, u2] } := (sb.2 _ (Nat.ne_of_gt lz)).trans hT
    have new : ObjOk X.prog X.w (upd H s.heap.objs.size (.tup [x, y])) h'' s.heap.objs.size (.tup [x, y]) := ⟨(by show 2 ≤ sizeLine; decide), [u, u2], .cons ru (.cons ru2 .nil), ⟨_, hT2, rfl, _, rfl⟩⟩
    have I1 : Inv X pins σ (upd H s.heap.objs.size (.tup [x, y])) { s with heap := h'' } := I.turnedNew (t' := s.toks) (ch := [z, TI, TO, i1, i2])
      (fun c o hb q => (sb.2 c (fun q' => hb (by simp [q']))).trans (hk c o (fun q' => hb (by simp [q'])) (fun q' => hb (by simp [q'])) (fun q' => hb (by simp [q'])) (fun q' => hb (by simp [q'])) q)) hf (Nat.le_refl _) new
    refine ⟨.ref s.heap.objs.size, _, I1, rfl, ⟨_, x, y, rfl, I.hok.fresh (Nat.le_refl _), rfl, fun l hl => (by rw [I.tuple_inj hl hqx]; exact hx), fun l hl => (by rw [I.list_inj hl hqy]; exact hy)⟩, ⟨z'', (sb.2 _ D.TIz).trans (hk _ _ D.TIz D.TITO D.TIi1 D.TIi2 hTI), ⟨u, u2, (sb.2 _ D.TOz).trans TO'⟩, g1.1.at fun o q => (sb.2 _ D.i1z).trans q, g2.1.at fun o q => (sb.2 _ D.i2z).trans q⟩, fun c hcm => ?_⟩
    obtain ⟨o, eo, _⟩ := thr c hcm
    rw [upd_ne (Nat.ne_of_lt (Heap.lt_size eo))]
    exact (hf c hcm).1
  · intro X hP hw hK hc i pins s σ H E I hf st hg
    subst hP hw hK
    obtain ⟨hz, hTI, ⟨x0, y0, hTO⟩, h1, h2⟩ := st
    obtain ⟨xs, ys, hqx, hqy, hend⟩ := hg
    obtain ⟨its, rv, p, _⟩ := I.tuple hqx
    obtain ⟨its2, rv2, p2, _⟩ := I.list hqy
    have m1 := rv.length; have m2 := rv2.length
    have he : its.toArray[i]? = none ∨ its2.toArray[i]? = none := hend.imp (fun q => by simp; omega) fun q => by simp; omega
    exact next_end (I.ok.hd hc) D hz hTI hTO ⟨h1, p⟩ ⟨h2, p2.isList⟩ he fun h' hk => ⟨rfl, I.turnedL (t' := s.toks) (ch := [z, TI, TO, i1, i2]) (fun c o hb q => hk c o (fun q' => hb (by simp [q'])) (fun q' => hb (by simp [q'])) (fun q' => hb (by simp [q'])) (fun q' => hb (by simp [q'])) q) hf⟩
noncomputable def iZipM (K : PySem.W.Frag) (ta : TA) : TI := fun σ H R => ta σ H fun vs H1 => ∃ a b xs ys, vs = [.ref a, .ref b] ∧ SqT K H1 a xs ∧ SqL K H1 b ys ∧ R (ItzM K a b) H1
theorem pi_zipM {X : Cx} {e e2 : Expr} {ta : TA} {p pos tpos : Pos} {elts : List Expr} {kk : Nat} (hg : Gl X "zip") (hm : X.mg "zip" = none) (ha : PA X [e, e2] ta)
    (hs : starEach [e, e2] X.env = (false, eval e X.env) :: starEach [e2] X.env := by rfl) (hpl : (backTo pos (starEach [e2] X.env)).any (·.1) = false := by rfl) : PI X (.Tuple elts kk tpos) (.Call (.Name "zip" p) [e, e2] [] pos) (iZipM X.K ta) := by
  refine ⟨fun pins s σ H R I h => Call_ (ld_blt I hg hm PyProof.Rows.boot_zip (PyProof.Rows.callWith_type1 (thn (ha.run pos pins s σ H _ I h) fun us s1 ⟨vs, H1, I1, r1, a, b, xs, ys, ex, hqx, hqy, q⟩ => ?_) hs hpl))⟩
  subst ex
  obtain ⟨n, hn⟩ : ∃ n, n = s1.heap.objs.size := ⟨_, rfl⟩
  cases r1 with
  | cons r rr => cases rr with
    | cons r' rr =>
      cases rr; cases r; cases r'
      obtain ⟨its, rv, p1, _⟩ := I1.tuple hqx
      obtain ⟨its2, rv2, p2, _⟩ := I1.list hqy
      obtain ⟨o1, ho1, _⟩ := id p1
      refine call_new (show s1.heap.IsTuple a its.toArray from p1) p2.isList fun h' hz hTI hTO h1 h2 hsz hk => wpAny_pyIter_zip hz ?_
      have I2 : Inv X pins σ H1 { s1 with heap := h' } := I1.kept (t' := s1.toks) hk
      refine ⟨s1.heap.objs.size + 4, [s1.heap.objs.size + 4, s1.heap.objs.size + 2, s1.heap.objs.size + 3, s1.heap.objs.size, s1.heap.objs.size + 1], _, _, H1, rfl, I2, turnM (PySem.W.ktu_apart s1.heap.objs.size a b (Heap.lt_size ho1) p2.lt), ⟨hz, hTI, ⟨_, _, hTO⟩, h1, h2⟩, fun c hcm => ?_, q⟩
      have hle : s1.heap.objs.size ≤ c := by
        simp only [List.mem_cons, List.not_mem_nil, or_false] at hcm
        rcases hcm with rfl | rfl | rfl | rfl | rfl
        all_goals first | exact Nat.le_refl _ | exact Nat.le_add_right _ _
      exact I1.fpOk hle (I1.hok.fresh hle)
end GZ

set_option maxHeartbeats 1000000
namespace DF
open PySem PySem.Spec PyProof.Rows L2
theorem itm_s {K : PySem.W.Frag} {G0 : Hp} {l m : List D} {a b : Addr} {xs ys : List V} (h : SqT K G0 a xs) (r : Iss K G0 l xs) (h' : SqL K G0 b ys) (r' : Iss K G0 m ys) : ItS K G0 (zipD l m) (GZ.ItzM K a b) where
  go := fun i d G H e eG eH => by
    obtain ⟨x, y, h1, h2, rfl⟩ := zipD_get l m i d e
    obtain ⟨v, e1, e2⟩ := r.get h1
    obtain ⟨u, e3, e4⟩ := r'.get h2
    have hL : SqT K H a xs := Evl.ex_t eH (Evl.ex_t eG h)
    have hM : SqL K H b ys := Evl.ex_l eH (Evl.ex_l eG h')
    refine ⟨⟨xs, ys, v, u, hL, hM, e1, e3⟩, fun w H' ⟨T, z, z', ev, hT, eH', q, q'⟩ => ?_⟩
    subst ev
    have q1 := q xs hL
    have q2 := q' ys hM
    rw [e1] at q1; cases q1
    rw [e3] at q2; cases q2
    exact zip_yield eH hT eH' (e2.mono eG) (e4.mono eG)
  stop := fun i G H e eG eH => ⟨xs, ys, Evl.ex_t eH (Evl.ex_t eG h), Evl.ex_l eH (Evl.ex_l eG h'), by rw [← r.length, ← r'.length]; exact zipD_stop l m i e⟩
noncomputable def zipM : List D → Option (List D)
  | [.tup l, .lst m] => some (zipD l m)
  | [.tup l, .fro m] => some (zipD l m)
  | _ => none
noncomputable def sZipM (f : DEnv → R (List D)) : DEnv → R (List D) := fun ρ => (f ρ).bind fun l ρ' => match zipM l with
  | some z => .ok ρ' z
  | none => .no
@[simp] theorem sZipM_ap (f : DEnv → R (List D)) (ρ : DEnv) : sZipM f ρ = (f ρ).bind fun l ρ' => match zipM l with
  | some z => .ok ρ' z
  | none => .no := id rfl
section
variable {X : Cx} {W : WX} {e e2 : Expr} {p pos tpos : Pos} {elts : List Expr} {kk : Nat} {f : DEnv → R (List D)}
theorem di_zipM (hg : Gl X "zip") (hm : X.mg "zip" = none) (ha : DVs X W [e, e2] f) (hs : starEach [e, e2] X.env = (false, eval e X.env) :: starEach [e2] X.env := by rfl) (hpl : (backTo pos (starEach [e2] X.env)).any (·.1) = false := by rfl) : DI X W (.Tuple elts kk tpos) (.Call (.Name "zip" p) [e, e2] [] pos) (sZipM f) :=
  pi_imp (GZ.pi_zipM hg hm ha hs hpl) fun σ H Q ⟨ρ, G, R, h⟩ => ⟨ρ, G, R, (Go.bind R h).imp fun l ρ' G' H' s R' h vs hv => by
    have use : ∀ {l m : List D} {a b : Addr} {xs ys : List V}, (∀ J, ItS X.K G' (zipD l m) J → Q J H') → SqT X.K G' a xs → Iss X.K G' l xs → SqL X.K G' b ys → Iss X.K G' m ys → ∃ a' b' xs ys, [V.ref a, V.ref b] = [.ref a', .ref b'] ∧ SqT X.K H' a' xs ∧ SqL X.K H' b' ys ∧ Q (GZ.ItzM X.K a' b') H' := fun {l m a b xs ys} h q1 r1 q2 r2 =>
      ⟨a, b, xs, ys, rfl, Evl.ex_t R'.sub q1, Evl.ex_l R'.sub q2, h _ (itm_s q1 r1 q2 r2)⟩
    cases hv with
    | nil => exact False.elim h
    | cons h1 h2 => cases h2 with
      | nil => cases h1 <;> exact False.elim h
      | cons h3 h4 => cases h4 with
        | cons _ _ => cases h1 <;> cases h3 <;> exact False.elim h
        | nil => cases h1 with
          | tup q1 r1 => cases h3 with
            | lst q2 r2 => exact use (fun J hJ => h G' H' .refl R' J hJ) q1 r1 (Evl.sq_of q2) r2
            | fro q2 r2 => exact use (fun J hJ => h G' H' .refl R' J hJ) q1 r1 q2 r2
            | _ => exact False.elim h
          | _ => cases h3 <;> exact False.elim h⟩
end
end DF
namespace GN
open PySem PySem.Spec PyProof.Rows L2 GenW DF
section
variable {X : Cx} {W : WX} {e elt tg : Expr} {es ifs : List Expr} {x : Str} {p2 pos pos2 : Pos} {k j ar : Nat} {ps : List Str} {F : GnF} {scope : Scope} {own : List (Str × Nat)} {fa : DEnv → DF.R (List D)} {g : Tg} {t : DEnv → DF.R Bool} {f : DEnv → DF.R D} {vs : List Nat}
end
end GN

set_option maxHeartbeats 1000000
namespace DF
open PySem PySem.Spec PyProof.Rows L2
end DF
namespace GN
open PySem PySem.Spec PyProof.Rows L2 GenW DF
end GN

set_option maxHeartbeats 1000000
namespace DF
open PySem PySem.Spec PyProof.Rows L2
variable {gq : Bool}
structure Mk1 (H H1 : Hp) (P : Addr) (q : Str) : Prop where
  k : ∀ b o, b ≠ P → H b = some o → H1 b = some o
  g : Gr H H1
  t : LamX.TabS H1 P q
section
variable {X : Cx} {pins : List (Addr × Obj)} {σ : L2.St} {H : Hp} {s : Shared}
theorem not_fr (I : Inv X pins σ H s) {f : Addr} (hf : s.heap.objs.size ≤ f) : f ∉ frs X.stack := fun z => (List.mem_cons.mp (I.stkSub _ z)).elim (fun e => Nat.lt_irrefl f (Nat.lt_of_lt_of_le (by rw [e]; exact I.lt) hf)) fun e => I.nofs hf e
theorem lam_mk {c P : Addr} {q : Str} {params : Arguments} {body : Expr} {scope : Scope} {pos : Pos} {E Q : Value → Shared → Prop}
    (I : Inv X pins σ H s) (TB : LamX.TabB X.base X.mg c P) (hcode : X.env.code = .ref c) (hq : X.env.qual ++ "<lambda>" = q)
    (hT : LamX.TabS H P q) (hdef : defaultsOf params X.env = ([], []))
    (hfree : ∀ y ∈ scope.names, y.2 = .free → ∃ c, X.env.cells.lookup y.1 = some c)
    (h : ∀ (f d : Addr) (pm ct : Value) (H1 : Hp) (s1 : Shared), Inv X pins σ H1 s1 → Mk1 H H1 P q →
      s1.heap.get? f = some (PySem.W.kla_obj "<lambda>" q params body scope (cloFrom X.env.cells scope.names []) pm d ct) →
      H1 f = none → f ∉ frs X.stack → H1 d = some (LamX.CodeO d q) → Q (.ref f) s1) :
    wpAny (model X.prog X.w) X.A (eval (.Lambda params body scope pos) X.env) Q E s := by
  subst hq
  obtain ⟨ps, hP, tr, am⟩ := id hT
  have gP : s.heap.get? P = some { cls := .none, data := .fields ps } := I.hok P _ hP
  have bP := TB.bm.keeps I.bk
  have gN := I.mod.glob.keeps I.bk
  have cH := TB.code.keeps I.bk
  refine PySem.W.kla_eval hdef ?_
  rcases hc : codeAmong pos ps.toList with _ | cv
  · refine PySem.W.kla_makeFunction (closure_ok hfree) I.ok.glob gN hcode cH gP tr hc TB.gP bP ?_
    intro d ct h1 tk hx ge lt hrec htb
    obtain ⟨d', oc, vs, t, e', e1, e2, e3⟩ := hrec
    cases e'
    have sz : s.heap.objs.size ≤ h1.objs.size := Nat.le_trans ge (Nat.le_of_lt lt)
    have nd : H d = none := I.hok.fresh ge
    have nPd : P ≠ d := ne_of_none hP nd
    have J := LamX.inv_table (t' := tk) (q := X.env.qual ++ "<lambda>") (more := #[rawInt pos.line, rawInt pos.col, .ref d]) (h' := h1.push (PySem.W.kla_obj "<lambda>" (X.env.qual ++ "<lambda>") params body scope (cloFrom X.env.cells scope.names []) ((X.mg "__name__").getD .none) d ct)) I hP
      (fun b o nb e => Heap.get?_push_of_some _ (hx b o nb e)) (Heap.get?_push_of_some _ htb) ge ⟨oc, vs, t, Heap.get?_push_of_some _ e1, e2, e3⟩
    have other : ∀ b o, b ≠ P → H b = some o → upd (upd H P (.tbl (ps ++ #[rawInt pos.line, rawInt pos.col, .ref d]))) d (LamX.CodeO d (X.env.qual ++ "<lambda>")) b = some o := fun b o nb e => by
      rw [upd_ne (ne_of_none e nd), upd_ne nb, e]
    have atP : upd (upd H P (.tbl (ps ++ #[rawInt pos.line, rawInt pos.col, .ref d]))) d (LamX.CodeO d (X.env.qual ++ "<lambda>")) P = some (.tbl (ps ++ #[rawInt pos.line, rawInt pos.col, .ref d])) := by
      rw [upd_ne nPd, upd_same]
    refine h h1.objs.size d _ ct _ _ J ⟨other, fun b qs e => ?_, ⟨_, atP, ?_, ?_⟩⟩ (Heap.get?_push_size _ rfl) ?_ (not_fr I sz) upd_same
    · by_cases nb : b = P
      · subst nb
        rw [hP] at e; cases e
        exact ⟨_, atP⟩
      · exact ⟨#[], by rw [other b _ nb e, Array.append_empty]⟩
    · rw [Array.toList_append]
      exact PySem.TriplesOk_snoc _ _ _ _ tr
    · intro p' cv hcv
      rw [Array.toList_append] at hcv
      rcases LamX.among_app _ tr hcv with z | z
      · obtain ⟨c0, f1, f2⟩ := am p' cv z
        exact ⟨c0, f1, other _ _ (fun y => by rw [y, hP] at f2; exact LamX.codeO_ne _ (Option.some.inj f2).symm) f2⟩
      · exact ⟨d, z, upd_same⟩
    · rw [upd_ne (Nat.ne_of_gt lt), upd_ne (Nat.ne_of_gt (Nat.lt_of_lt_of_le (Heap.lt_size gP) sz))]
      exact I.hok.fresh sz
  · obtain ⟨d, rfl, hd⟩ := am pos cv hc
    refine PySem.W.kla_makeFunctionHit (closure_ok hfree) I.ok.glob gN hcode cH gP tr hc bP fun ct h1 tk hx sz => ?_
    exact h h1.objs.size d _ ct H _ (I.kept fun b o e => Heap.get?_push_of_some _ (hx b o e)) ⟨fun _ _ _ e => e, .refl, hT⟩ (Heap.get?_push_size _ rfl) (I.hok.fresh sz) (not_fr I sz) hd
end
section
variable {K : PySem.W.Frag} {ρ : DEnv} {σ : Sl} {G H H1 : Hp} {P : Addr} {q : Str}
theorem Mk1.back (m : Mk1 H H1 P q) (hP : ∃ ps, H P = some (.tbl ps)) : ∀ b, H1 b = none → H b = none := fun b e => by
  cases y : H b with
  | none => rfl
  | some o =>
    by_cases z : b = P
    · subst z
      obtain ⟨ps, e1⟩ := hP
      obtain ⟨mo, e2⟩ := m.g b ps e1
      rw [e] at e2; cases e2
    · rw [m.k b o z y] at e; cases e
theorem Mk1.stp (m : Mk1 H H1 P q) (hP : ∃ ps, H P = some (.tbl ps)) : Stp ρ σ G H ρ σ G H1 :=
  ⟨fun _ _ e => e, fun b o _ _ e nt => m.k b o (fun z => by obtain ⟨ps, y⟩ := hP; rw [z, y] at e; cases e; exact nt ps rfl) e, m.back hP, fun _ e q => absurd e q, fun _ e => .inl e, fun _ => ⟨fun d e => ⟨d, e, rfl⟩, fun d e => ⟨d, e⟩⟩, m.g⟩
noncomputable def lamMap (K : PySem.W.Frag) : List (Str × Addr) := lamNames.filterMap fun x => (PySem.W.tabIn K x).map fun p => (x, p.2)
noncomputable def apartB (l : List (Str × Addr)) : Bool := l.all fun p => l.all fun q => p.2 != q.2 || p.1 == q.1
theorem apart_of (h : apartB (lamMap K) = true) {x y : Str} {c d P : Addr} (hx : x ∈ lamNames) (hy : y ∈ lamNames) (e1 : PySem.W.tabIn K x = some (c, P)) (e2 : PySem.W.tabIn K y = some (d, P)) : x = y := by
  have m1 : (x, P) ∈ lamMap K := List.mem_filterMap.mpr ⟨x, hx, by rw [e1]; rfl⟩
  have m2 : (y, P) ∈ lamMap K := List.mem_filterMap.mpr ⟨y, hy, by rw [e2]; rfl⟩
  have z := List.all_eq_true.mp (List.all_eq_true.mp h _ m1) _ m2
  simpa using z
theorem Mk1.rep {x : Str} {c : Addr} (R : Rep K G H ρ σ) (hx : x ∈ lamNames) (ht : PySem.W.tabIn K x = some (c, P)) (ha : apartB (lamMap K) = true) (m : Mk1 H H1 P (lamName x)) : Rep K G H1 ρ σ := by
  obtain ⟨gP, ps, hP, _⟩ := R.tb x hx c P ht
  have nP : ∀ b o, H b = some o → Pln H b → b ≠ P := fun b o e p z => by subst z; exact (p _ hP).1 ps rfl
  refine ⟨fun b o e => m.k b o (fun z => by rw [z, gP] at e; cases e) (R.sub b o e), R.len, R.vl, fun i b d e => ?_, R.ap, fun y hy d P' h => ?_⟩
  · obtain ⟨a, e1, e2, e3⟩ := R.mu i b d e
    exact ⟨a, e1, e2, e3.mono (fun _ _ e => e) fun o q => m.k a o (nP a o q e3.pln) q⟩
  · obtain ⟨g2, ps2, k1, k2, k3⟩ := R.tb y hy d P' h
    refine ⟨g2, ?_⟩
    by_cases z : P' = P
    · subst z
      rw [apart_of ha hy hx h ht]
      exact m.t
    · refine ⟨ps2, m.k _ _ z k1, k2, fun pos cv e => ?_⟩
      obtain ⟨c', f1, f2⟩ := k3 pos cv e
      exact ⟨c', f1, m.k _ _ (fun y => by rw [y, hP] at f2; exact LamX.codeO_ne _ (Option.some.inj f2).symm) f2⟩
end
end DF

set_option maxHeartbeats 1000000
namespace DF
open PySem PySem.Spec PyProof.Rows L2
variable {gq : Bool}
noncomputable abbrev gCx (X : Cx) (Ng : List Str) (qg : Str) (sg : Scope) (g : Addr) (cdg : Value) (s : Shared) (H : Hp) (E : XK) : Cx :=
  cxOf (L2.CX X.prog X.w) X.prog X.w X.K X.mg X.base Ng qg sg g cdg X.A X.stack s H E
section
variable {X : Cx} {pins : List (Addr × Obj)} {σ : L2.St} {H : Hp} {s : Shared}
theorem lam_act {Ng : List Str} {qg a : Str} {sg scope : Scope} {g f d : Addr} {cdg pm ct : Value} {Eg : XK} {pn : List (Addr × Obj)} {xe : Value → Shared → Prop} {W' : WX} {params : Arguments} {body : Expr} {fl : DEnv → R D} {k : Nat} {p1 p2 : Pos}
    (I : Inv X pins σ H s) (L : LamX.LamS X.env.scope scope)
    (hf : s.heap.get? f = some (PySem.W.kla_obj "<lambda>" (X.env.qual ++ "<lambda>") params body scope (cloFrom X.env.cells scope.names []) pm d ct))
    (hfn : H f = none) (hfr : f ∉ frs X.stack)
    (hbind : bindArgs (PySem.W.kla_fn "<lambda>" (X.env.qual ++ "<lambda>") params body scope (cloFrom X.env.cells scope.names []) pm (.ref d) ct) ⟨[], []⟩ = pure [])
    (tk : Takes ((gCx X Ng qg sg g cdg s H Eg).tr pn xe) W') (hr : RoomG (k + 1) (X.A.deeper (envOfC qg sg s.heap.objs.size g cdg)) gq)
    (hbody : ∀ (A : Around) (outer : List Env) (s : Shared) (H : Hp) (E : XK), RoomG k (A.deeper (LamX.lamEnv X scope s.heap.objs.size f d)) gq → DE (LamX.lamCx X A outer s H E scope f d) (fun cls dd _ H => E cls dd H) body fl)
    (hN : Ng[0]? = some a) (hv : Vis sg a) (hdb : (a == ("__debug__" : Str)) = false) (hcd : (a == ("__classdict__" : Str)) = false) :
    PE ((gCx X Ng qg sg g cdg s H Eg).tr pn xe) (.Call (.Name a p1) [] [] p2)
      (fun σZ HZ Q => σZ[0]? = some (some (.ref f)) ∧ HZ d = some (LamX.CodeO d (X.env.qual ++ "<lambda>")) ∧ tD X.K (fun cls dd _ H => W' cls dd σZ H) fl σ HZ Q) := by
  refine ⟨fun pinsZ sZ σZ HZ Q IZ ⟨h0, hc, ht⟩ => ?_⟩
  have var := (pe_var (pos := p1) (i := 0) hN hv hdb hcd).run pinsZ sZ σZ HZ (fun v H1 => v = .ref f ∧ H1 = HZ) IZ ⟨.ref f, h0, rfl, rfl⟩
  refine wpAny_Call_Name_kw (thn var ?_)
  rintro u s1 ⟨v, H1, I1, r1, rfl, rfl⟩
  obtain rfl : u = Value.ref f := r1
  have hf1 := I1.base.keep f _ hf hfn hfr (List.not_mem_nil)
  have un : Un (frs X.stack) [] H H1 s.heap s1.heap := I1.base
  obtain ⟨⟨oc, vs, t, c1, c2, c3⟩, _, _⟩ := I1.hok d _ hc
  refine PySem.W.callWith_F0 ⟨_, _, _, _, hf1⟩ ?_
  have run : codeAny (model X.prog X.w) (X.A.deeper (envOfC qg sg s.heap.objs.size g cdg)) (.call (.ref f) ⟨[], []⟩) (CR (L2.CX X.prog X.w) (envOfC qg sg s.heap.objs.size g cdg :: X.stack) X.prog X.w H1 s1 Q (fun cls dd H => W' cls dd σZ H)) s1 := by
    refine PySem.W.kla_callFunE hr.room.depth hf1 rfl L.co L.gen rfl ⟨d, oc, vs, t, rfl, c1, c2, c3⟩ ?_
    rw [hbind]
    refine wpAny_pure (wpAny_newFunctionEnv (fun y hy => (L.own y hy).2) (fun y hy => absurd hy List.not_mem_nil) (fun h₁ hns sb => ?_) L.kind)
    refine ⟨I1.nolimit.fresh _ sb, ?_⟩
    have kp : ∀ b o, s1.heap.get? b = some o → h₁.get? b = some o := fun b o e => sb.extBut b o (Nat.ne_of_lt (Heap.lt_size e)) (Heap.get?_push_of_some _ e)
    have J := LamX.lam_start2 (A := X.A.deeper (envOfC qg sg s.heap.objs.size g cdg)) (outer := envOfC qg sg s.heap.objs.size g cdg :: X.stack) (E := fun cls dd H => W' cls dd σZ H) (f := f) (c' := d) (tk := s1.toks + ([] : List (Str × Value)).length) I L I1.env0 hr.room.hd un hns kp
    refine PySem.W.kla_codeExpr (wpAny_mono ((hbody _ _ s1 H1 _ (hr.deeper _)).run [] _ σ H1 Q J ht) ?_ fun e s' q => q)
    rintro v s' ⟨w', H', J', rv, q⟩
    exact ⟨w', H', J'.os, J'.bare, J'.base, J'.hok, rv, q⟩
  refine wpAny_call (codeAny_mono run fun r s' hq => ?_)
  cases r with
  | error e => exact tk e s' (XE.of_call I1 (fun cls dd H' h => h) hq)
  | ok fl => cases fl with
    | ret u => exact I1.after hq
    | next => exact False.elim hq
    | brk => exact False.elim hq
    | cont => exact False.elim hq
end
end DF

namespace DF
open PySem PySem.Spec PyProof.Rows L2
noncomputable def rprSD (xs : List D) : Option D := match xs with
  | [.str x] => if (reprText x).length ≤ 1000 then some (.str (reprText x)) else none
  | _ => none
noncomputable def rRprS : List V → Hp → VK → Prop := fun xs H Q => ∃ x, xs = [.str x] ∧ (reprText x).length ≤ 1000 ∧ Q (.str (reprText x)) H
theorem call_rprS {X : Cx} : CallR X (.builtin "repr") rRprS := by
  rintro pins s σ H xs us Q I r ⟨x, rfl, hl, q⟩
  obtain ⟨u, rfl, t, rfl⟩ := vals1 r
  exact PySem.P.repr_of_str ⟨.str _, H, I.tok _, ⟨_, rfl⟩, q⟩ (by rw [sizeLine_eq]; omega)
theorem cas_rprS {K : PySem.W.Frag} : CaS K rRprS rprSD := fun xs z vs G H Q eS hx e k => by
  unfold rprSD at e
  split at e
  · obtain ⟨v, rfl, h⟩ := tops1 hx
    split at e
    · rename_i x hl
      cases h; cases e
      exact ⟨x, rfl, hl, k _ G H (New.refl eS) (.str _)⟩
    · cases e
  · cases e
mutual
noncomputable def nlP : D → Option PyData
  | .non => some .none
  | .bl b => some (.bool b)
  | .int i => some (.int i)
  | .str x => some (.str x)
  | .tup l => (nlPs l).map .tuple
  | .lst _ => none
  | .fro _ => none
  | .dic _ => none
  | .obj _ _ => none
  | .fn _ => none
noncomputable def nlPs : List D → Option (List PyData)
  | [] => some []
  | d :: l => match nlP d, nlPs l with
    | some p, some ps => some (p :: ps)
    | _, _ => none
end
section
variable {X : Cx} {pins : List (Addr × Obj)} {σ : L2.St} {G H : Hp} {s : Shared}
mutual
theorem nl_reads (I : Inv X pins σ H s) (eS : Evl.Ex G H) : ∀ {d : D} {v : V} {u : Value} {p : PyData}, Is X.K G d v → RelV v u → nlP d = some p → Reads s.heap u p []
  | _, _, _, _, .non, r, e => by cases e; cases r; exact .none
  | _, _, _, _, .bl b, r, e => by cases e; cases r; exact .bool b
  | _, _, _, _, .int i, r, e => by cases e; obtain ⟨t, rfl⟩ := r; exact .int i t
  | _, _, _, _, .str x, r, e => by cases e; obtain ⟨t, rfl⟩ := r; exact .str x t
  | .tup l, _, u, p, .tup h hr, r, e => by
    unfold nlP at e
    cases q : nlPs l with
    | none => rw [q] at e; cases e
    | some ps =>
      rw [q] at e; cases e; cases r
      obtain ⟨its, rv, ⟨o, ho, hc, n, hd⟩, _⟩ := I.tuple (Evl.ex_t eS h)
      exact .tuple ho hc hd (nl_readsA I eS hr rv q)
  | .lst l, _, _, p, .lst h hr, _, e => by unfold nlP at e; cases e
  | .fro l, _, _, p, .fro h hr, _, e => by unfold nlP at e; cases e
  | .dic l, _, _, p, .dic h hr, _, e => by unfold nlP at e; cases e
  | .obj c fs, _, _, p, .obj h n hr, _, e => by unfold nlP at e; cases e
  | .fn x, _, _, p, .fn h, _, e => by unfold nlP at e; cases e
theorem nl_readsA (I : Inv X pins σ H s) (eS : Evl.Ex G H) : ∀ {l : List D} {vs : List V} {us : List Value} {ps : List PyData}, Iss X.K G l vs → Vals vs us → nlPs l = some ps → ReadsAll s.heap us ps []
  | _, _, _, ps, .nil, r, e => by cases r; cases e; exact .nil
  | d :: l, _, _, ps, .cons h hr, r, e => by
    cases r with
    | cons r1 r2 =>
      unfold nlPs at e
      split at e
      · rename_i p qs e1 e2
        cases e
        exact .cons (as := []) (bs := []) (nl_reads I eS h r1 e1) (nl_readsA I eS hr r2 e2)
      · cases e
end
end
noncomputable def kP : Key → PyData
  | .inl i => .int i
  | .inr x => .str x
noncomputable def dicP : List (Key × D) → Option (List (PyData × PyData))
  | [] => some []
  | (k, d) :: l => match nlP d, dicP l with
    | some p, some ps => some ((kP k, p) :: ps)
    | _, _ => none
noncomputable def rprOkK (p : PyData) : Bool := p.showable && decide (p.depth ≤ 50) && decide (p.shown.length ≤ sizeLine)
noncomputable def rprKD (xs : List D) : Option D := match xs with
  | [.dic l] => match dicP l with
    | some ps => if rprOkK (.dict ps) = true then some (.str (PyData.dict ps).shown) else none
    | none => none
  | _ => none
noncomputable def rRprK (K : PySem.W.Frag) : List V → Hp → VK → Prop := fun vs H Q => ∃ a l kvs ps G, vs = [.ref a] ∧ Evl.Ex G H ∧ Rd H a (.dK kvs) ∧ Isk K G l kvs ∧ dicP l = some ps ∧ rprOkK (.dict ps) = true ∧ Q (.str (PyData.dict ps).shown) H
theorem dic_reads {X : Cx} {pins : List (Addr × Obj)} {σ : L2.St} {G H : Hp} {s : Shared} (I : Inv X pins σ H s) (eS : Evl.Ex G H) : ∀ {l : List (Key × D)} {kvs : List (Key × V)} {es : List DictEntry} {ws : List (Key × Value)} {ps : List (PyData × PyData)},
    Isk X.K G l kvs → KV kvs ws → Pairs (mixKind X.prog X.w) es ws → dicP l = some ps → ReadsAll s.heap (es.map (·.key)) (ps.map (·.1)) [] ∧ ReadsAll s.heap (es.map (·.val)) (ps.map (·.2)) []
  | _, _, _, _, _, .nil, r, q, e => by cases r; cases q; cases e; exact ⟨.nil, .nil⟩
  | (k, d) :: l, _, _, _, ps, .cons h hr, r, q, e => by
    cases r with
    | @cons kv kw _ _ r1 r2 => cases q with
      | cons q3 q4 q2 =>
        rename_i en _
        obtain ⟨k1, v1⟩ := kw
        obtain ⟨rfl, r1⟩ := r1
        unfold dicP at e
        split at e
        · rename_i p qs e1 e2
          cases e
          obtain ⟨a1, a2⟩ := dic_reads I eS hr r2 q2 e2
          have kk : Reads s.heap en.key (kP k) [] := by
            rcases keyIs_shape q3 with ⟨i, t, z1, z2⟩ | ⟨x, t, z1, z2⟩
            · rw [z2]; dsimp only at z1; subst z1; exact .int i t
            · rw [z2]; dsimp only at z1; subst z1; exact .str x t
          have vv : Reads s.heap en.val p [] := by
            rw [q4]
            exact nl_reads I eS h r1 e1
          exact ⟨.cons (as := []) (bs := []) kk a1, .cons (as := []) (bs := []) vv a2⟩
        · cases e
theorem call_rprK {X : Cx} (hg : X.A.guards = some []) (hu : X.A.units + 64 < cLine) : CallR X (.builtin "repr") (rRprK X.K) := by
  rintro pins s σ H vs us Q I r ⟨a, l, kvs, ps, G, rfl, eS, hd, hk, hp, hok, q⟩
  obtain ⟨u, rfl, rv⟩ := vals1 r
  cases rv
  unfold rprOkK at hok
  simp only [Bool.and_eq_true, decide_eq_true_eq] at hok
  obtain ⟨⟨h1, h3⟩, h4⟩ := hok
  obtain ⟨_, hm, ws, rel, dd⟩ := dk_rd I.hok hd
  obtain ⟨o, es, ep, ho, hx, hdat, _, hpr, _⟩ := dd
  obtain ⟨a1, a2⟩ := dic_reads I eS hk rel hpr hp
  have rd : Reads s.heap (.ref a) (.dict ps) (a :: [] ++ []) := .dict ho hx.1 hdat a1 a2
  exact repr_of_reads' rd h1 (fun _ z => by simp at z; rw [← z] at hm; simp at hm) hg (by omega) (fun _ _ e => e) (fun h' t tk hk => ⟨.str _, H, I.kept (t' := tk) hk, ⟨t, rfl⟩, q⟩) h4
theorem cas_rprK {K : PySem.W.Frag} : CaS K (rRprK K) rprKD := fun xs z vs G H Q eS hx e k => by
  unfold rprKD at e
  split at e
  · rename_i l
    obtain ⟨v, rfl, h⟩ := tops1 hx
    obtain ⟨a, kvs, rfl, q1, q2⟩ := h
    split at e
    · rename_i ps e1
      split at e
      · rename_i hok
        cases e
        exact ⟨a, l, kvs, ps, G, rfl, eS, q1, q2, e1, hok, k _ G H (New.refl eS) (.str _)⟩
      · cases e
    · cases e
  · cases e
noncomputable def rprW : List D → Option D := orC (orC rprZ rprSD) rprKD
noncomputable def rRprW (K : PySem.W.Frag) : List V → Hp → VK → Prop := fun xs H Q => ((((rRpr xs H Q ∨ rRprC K xs H Q) ∨ rRprN xs H Q) ∨ rRprS xs H Q) ∨ rRprK K xs H Q)
theorem call_rprW {X : Cx} (hg : X.A.guards = some []) (hu : X.A.units + 64 < cLine) : CallR X (.builtin "repr") (rRprW X.K) := ((((call_rpr.or (call_rprC hg hu)).or call_rprN).or call_rprS).or (call_rprK hg hu))
theorem cas_rprW {K : PySem.W.Frag} : CaS K (rRprW K) rprW := cas_or (cas_or (cas_or (cas_or cas_rpr cas_rprC) cas_rprN) cas_rprS) cas_rprK
end DF

set_option maxHeartbeats 1000000
namespace DF
open PySem PySem.Spec PyProof.Rows L2
noncomputable def Pay (K : PySem.W.Frag) (i : Nat) (a : Addr) (d : Option Addr) (f : Str) (x : D) (σ : Sl) (G H : Hp) : Prop :=
  σ[i]? = some (some (.ref a)) ∧ ∃ (dd : Addr) (v : V), d = some dd ∧ H dd = some (.xd [(f, v)]) ∧ Is K G x v
theorem Pay.stp {K : PySem.W.Frag} {i : Nat} {a : Addr} {d : Option Addr} {f : Str} {x : D} {ρ ρ' : DEnv} {σ : Sl} {G H G' H' : Hp} (R : Rep K G H ρ σ) (p : Pay K i a d f x σ G H) (s : Stp ρ σ G H ρ' σ G' H') : Pay K i a d f x σ G' H' := by
  obtain ⟨e, dd, v, rfl, h, hv⟩ := p
  have no : ∀ b, ¬ Mu b ρ σ dd := fun b ⟨j, d', q1, q2⟩ => by
    obtain ⟨a', q3, _, q4⟩ := R.mu j b d' q1
    rw [q2] at q3; cases q3
    cases d' with
    | lst l => obtain ⟨xs, z, _⟩ := q4; rw [h] at z; cases z
    | dic l => obtain ⟨xs, z, _⟩ := q4; rw [h] at z; cases z
    | obj c fs => obtain ⟨C, dx, fv, z, _⟩ := q4; rw [h] at z; cases z
    | _ => exact q4
  exact ⟨e, dd, v, rfl, s.h dd _ (no _) (no _) h (fun _ z => nomatch z), hv.mono s.g⟩
noncomputable def tY (K : PySem.W.Frag) (i : Nat) (a : Addr) (cls : Value) (d : Option Addr) (C : Value) (f : Str) (g : D → DEnv → R D) : TE := fun σ H Q => ∃ ρ G x, Rep K G H ρ σ ∧ Pay K i a d f x σ G H ∧ cls = C ∧ Go K WN σ ρ G H (fun y _ G' H' => ∀ v, Is K G' y v → Q v H') (g x ρ)
section
variable {Y : Cx} {i : Nat} {a : Addr} {cls : Value} {d : Option Addr} {C : Value} {f : Str} {e e2 : Expr} {es : List Expr} {pos : Pos}
noncomputable abbrev EY (Y : Cx) (i : Nat) (a : Addr) (cls : Value) (d : Option Addr) (C : Value) (f : Str) (e : Expr) (g : D → DEnv → R D) : Prop := PE Y e (tY Y.K i a cls d C f g)
noncomputable def yDe (g : DEnv → R D) : D → DEnv → R D := fun _ ρ => g ρ
theorem ey_de {g : DEnv → R D} (h : DE Y WN e g) : EY Y i a cls d C f e (yDe g) := pe_imp h fun σ H Q ⟨ρ, G, x, R, _, _, z⟩ => ⟨ρ, G, R, z⟩
noncomputable def yFld : D → DEnv → R D := fun x ρ => .ok ρ x
noncomputable def yCal (g0 : List D → Option D) (g : D → DEnv → R D) : D → DEnv → R D := fun x ρ => (g x ρ).bind fun y ρ1 => ofO ρ1 (g0 [y])
theorem ey_call {id : String} {r : List V → Hp → VK → Prop} {g0 : List D → Option D} {g : D → DEnv → R D} {nm : Str} {p : Pos} (hc : CallR Y (.builtin id) r) (hs : CaS Y.K r g0) (hg : Gl Y nm) (hm : Y.mg nm = none) (hv : bootBuiltins nm = some (.builtin id)) (he : EY Y i a cls d C f e g)
    (hn : nm ≠ "__name__" := by decide) (hdb : (nm == ("__debug__" : Str)) = false := by decide) (h1 : starEach [e] Y.env = (false, eval e Y.env) :: starEach [] Y.env := by rfl) : EY Y i a cls d C f (.Call (.Name nm p) [e] [] pos) (yCal g0 g) :=
  pe_imp (pe_callB hc hg hm hv (pa_cons he pa_nil h1) hn hdb h1 (by rfl)) fun σ H Q ⟨ρ, G, x, R, P, ec, h⟩ => ⟨ρ, G, x, R, P, ec, (Go.bind R h).imp fun y ρ1 G1 H1 s1 R1 h1 v hv => by
    cases e1 : g0 [y] with
    | none => rw [e1] at h1; exact False.elim h1
    | some z =>
      rw [e1] at h1
      exact hs [y] z [v] G1 H1 Q R1.sub (.cons (hv.top R1.sub) .nil) e1 fun w G2 H2 N hw => h1 G2 H2 (N.stp R1) (N.rep R1) w hw⟩
noncomputable def yBin (g0 : D → D → Option D) (ga gb : D → DEnv → R D) : D → DEnv → R D := fun x ρ => (ga x ρ).bind fun y ρ1 => (gb x ρ1).bind fun z ρ2 => ofO ρ2 (g0 y z)
theorem ey_bin {op : Operator} {r : R2} {g0 : D → D → Option D} {ga gb : D → DEnv → R D} (ho : OpR Y (binaryOp op) r) (hs : OpS Y.K r g0) (ha : EY Y i a cls d C f e ga) (hb : EY Y i a cls d C f e2 gb) : EY Y i a cls d C f (.BinOp e op e2 pos) (yBin g0 ga gb) :=
  pe_imp (pe_op ho ha hb) fun σ H Q ⟨ρ, G, x, R, P, ec, h⟩ => ⟨ρ, G, x, R, P, ec, (Go.bind R h).imp fun y ρ1 G1 H1 s1 R1 h1 v hv => ⟨ρ1, G1, x, R1, P.stp R s1, ec, (Go.bind R1 h1).imp fun z ρ2 G2 H2 s2 R2 h2 u hu => by
    cases e1 : g0 y z with
    | none => rw [e1] at h2; exact False.elim h2
    | some t =>
      rw [e1] at h2
      exact hs y z t v u G2 H2 Q R2.sub ((hv.mono s2.g).top R2.sub) (hu.top R2.sub) e1 fun w G3 H3 N hw => h2 G3 H3 (N.stp R2) (N.rep R2) w hw⟩⟩
end
theorem ey_fld {X : Cx} {i : Nat} {a C : Addr} {oe : Obj} {cls : Value} {d : Option Addr} {pn : List (Addr × Obj)} {n f : Str} {p pos : Pos} (T : XfC X.K C) (hno : PySem.W.findIn X.K (.ref C) f = some none) (hz : Zc cls d oe) (hf : ∃ vs, oe.data = .fields vs)
    (hN : X.N[i]? = some n) (hv : Vis X.env.scope n) (hd : (n == ("__debug__" : Str)) = false := by decide) (hcd : (n == ("__classdict__" : Str)) = false := by decide)
    (hb : attributeBase (.Name n p) f (X.suite a ((a, oe) :: pn)).env (eval (.Name n p) (X.suite a ((a, oe) :: pn)).env) = eval (.Name n p) (X.suite a ((a, oe) :: pn)).env := by rfl) :
    EY (X.suite a ((a, oe) :: pn)) i a cls d (.ref C) f (.Attribute (.Name n p) f pos) yFld :=
  pe_imp (pe_xf T hno hz hf (pe_var (X := X.suite a ((a, oe) :: pn)) (i := i) (pos := p) hN hv hd hcd) hb) fun σ H Q ⟨ρ, G, x, R, ⟨e1, dd, v, e2, e3, hx⟩, ec, h⟩ =>
    ⟨.ref a, e1, rfl, ec, dd, [(f, v)], v, e2, e3, by simp [List.lookup], h G H .refl R v hx⟩
end DF

set_option maxHeartbeats 1000000
namespace DF
open PySem PySem.Spec PyProof.Rows L2
inductive Sf where
  | pl (g : DEnv → SR)
  | as (i : Nat) (f : Str) (g : D → DEnv → SR)
structure Cf where
  nm : Str
  su : Sf
noncomputable def endB : SR → SR
  | .ex _ _ => .no
  | r => r
noncomputable def endN : SR → SR
  | .ret ρ false d => .ret ρ false d
  | _ => .no
noncomputable def suF (e : Exc) (ρ : DEnv) : Sf → SR
  | .pl g => endB (g ρ)
  | .as i f g => match ρ[i]?, e.fld with
    | some none, some (f', x) => if f' = f then endN (g x ρ) else .no
    | _, _ => .no
noncomputable def pickC : List Cf → Exc → DEnv → SR
  | [], e, ρ => .ex ρ e
  | c :: r, e, ρ => if e.nm = c.nm then suF e ρ c.su else pickC r e ρ
noncomputable def dTryN (XS : List Str) (cs : List Cf) (f : DEnv → SR) : DEnv → SR := fun ρ => match f ρ with
  | .ex ρ1 e => if e.nm ∈ XS then pickC cs e ρ1 else .no
  | r => r
@[simp] theorem dTryN_ap (XS : List Str) (cs : List Cf) (f : DEnv → SR) (ρ : DEnv) : dTryN XS cs f ρ = match f ρ with
  | .ex ρ1 e => if e.nm ∈ XS then pickC cs e ρ1 else .no
  | r => r := id rfl
noncomputable def tSY (K : PySem.W.Frag) (i : Nat) (a : Addr) (cls : Value) (d : Option Addr) (C : Value) (f : Str) (g : D → DEnv → SR) : TS := fun D σ H => ∃ ρ G x, Rep K G H ρ σ ∧ Pay K i a d f x σ G H ∧ cls = C ∧ GoS K WN σ ρ G H D (g x ρ)
noncomputable def clOf (K : PySem.W.Frag) (c : Cf) : Cl := match c.su with
  | .pl g => ⟨c.nm, none, fun _ _ _ => tS K WN g⟩
  | .as i f g => ⟨c.nm, some i, fun a cls d => tSY K i a cls d (cv K c.nm) f g⟩
structure XM (K : PySem.W.Frag) (XS : List Str) : Prop where
  all : ∀ x ∈ XS, ∀ y ∈ XS, PySem.W.exmOne K (cv K x) (cv K y) = some (decide (x = y))
noncomputable def xmB (K : PySem.W.Frag) (XS : List Str) : Bool := XS.all fun x => XS.all fun y => PySem.W.exmOne K (cv K x) (cv K y) == some (decide (x = y))
theorem xm_of {K : PySem.W.Frag} {XS : List Str} (h : xmB K XS = true) : XM K XS := ⟨fun x hx y hy => by
  have z := List.all_eq_true.mp (List.all_eq_true.mp h x hx) y hy
  simpa using z⟩
section
variable {K : PySem.W.Frag} {W : WX} {σ : Sl} {ρ : DEnv} {G H : Hp} {E : Ends}
theorem setx {α : Type} {l : List α} {i j : Nat} {x : α} (h : i ≠ j) : (l.set i x)[j]? = l[j]? := List.getElem?_set_ne h
theorem Rep.putx {i : Nat} {x : Option V} (R : Rep K G H ρ σ) (h : ρ[i]? = some none) : Rep K G H ρ (σ.set i x) := by
  have ne : ∀ {j : Nat} {c : Cell}, ρ[j]? = some (some c) → i ≠ j := fun {j c} e z => by subst z; rw [h] at e; cases e
  refine ⟨R.sub, by rw [List.length_set]; exact R.len, fun j d e => ?_, fun j b d e => ?_, fun j k b c d e a q1 q2 q3 q4 => ?_, R.tb⟩
  · rw [setx (ne e)]; exact R.vl j d e
  · rw [setx (ne e)]; exact R.mu j b d e
  · rw [setx (ne q1)] at q3; rw [setx (ne q2)] at q4; exact R.ap j k b c d e a q1 q2 q3 q4
theorem mu_putx {i : Nat} {x : Option V} (h : ρ[i]? = some none) {b : Bool} {a : Addr} : Mu b ρ (σ.set i x) a ↔ Mu b ρ σ a := by
  have ne : ∀ {j : Nat} {c : Cell}, ρ[j]? = some (some c) → i ≠ j := fun {j c} e z => by subst z; rw [h] at e; cases e
  exact ⟨fun ⟨j, d, q1, q2⟩ => ⟨j, d, q1, by rw [setx (ne q1)] at q2; exact q2⟩, fun ⟨j, d, q1, q2⟩ => ⟨j, d, q1, by rw [setx (ne q1)]; exact q2⟩⟩
theorem Stp.putx {i : Nat} {x : Option V} {ρ' : DEnv} {σ' : Sl} {G' H' : Hp} (h : ρ[i]? = some none) (s : Stp ρ (σ.set i x) G H ρ' σ' G' H') : Stp ρ σ G H ρ' σ' G' H' :=
  ⟨s.g, fun b o n1 n2 => s.h b o (fun m => n1 ((mu_putx h).mp m)) (fun m => n2 ((mu_putx h).mp m)), s.t, fun b q1 q2 => (s.n b q1 q2).imp id (mu_putx h).mp, fun b m => (s.ow b m).imp (mu_putx h).mp id, fun j => ⟨fun d e => by
    obtain ⟨d', e1, e2⟩ := (s.io j).1 d e
    have ne : i ≠ j := fun z => by subst z; rw [h] at e; cases e
    rw [setx ne] at e2
    exact ⟨d', e1, e2⟩, (s.io j).2⟩, s.gr⟩
theorem gos_endB {r : SR} (h : GoS K W σ ρ G H E (endB r)) : GoS K WN σ ρ G H (offE none E) r := by
  cases r with
  | ex _ _ => exact False.elim h
  | _ => exact h
theorem wcl_of {XS : List Str} (M : XM K XS) {e : Exc} {d : Option Addr} (he : e.nm ∈ XS) (R : Rep K G H ρ σ) (hE : EIs K G H e d) : ∀ {cs : List Cf}, (∀ c ∈ cs, c.nm ∈ XS) → GoS K W σ ρ G H E (pickC cs e ρ) → wCl K W E (cs.map (clOf K)) (cv K e.nm) d σ H
  | [], _, h => h d σ G H .refl R hE
  | c :: r, hc, h => by
    have xm := M.all _ he _ (hc c List.mem_cons_self)
    unfold pickC at h
    have nmc : (clOf K c).nm = c.nm := by unfold clOf; cases c.su <;> rfl
    by_cases q : e.nm = c.nm
    · rw [if_pos q] at h
      refine ⟨true, by rw [nmc, xm, decide_eq_true q], fun _ a ha => ?_, fun z => by cases z⟩
      unfold clOf
      cases hs : c.su with
      | pl g => rw [hs] at h; exact ⟨ρ, G, R, gos_endB h⟩
      | as i f g =>
        rw [hs] at h
        unfold suF at h
        dsimp only at h
        split at h
        · rename_i o1 o2 f' x h1 h2
          split at h
          · rename_i hf
            subst hf
            unfold EIs at hE
            rw [h2] at hE
            obtain ⟨dd, v, e1, e2, e3⟩ := hE
            have hl : i < σ.length := by rw [← R.len]; exact (List.getElem?_eq_some_iff.mp h1).1
            refine ⟨ρ, G, x, R.putx h1, ⟨List.getElem?_set_self hl, dd, v, e1, e2, e3⟩, by rw [q], ?_⟩
            cases hg : g x ρ with
            | ret ρ' fr y =>
              rw [hg] at h
              cases fr with
              | false => exact fun v σ' G' H' s R' hv => h v σ' G' H' (s.putx h1) R' hv
              | true => exact False.elim h
            | _ => rw [hg] at h; exact False.elim h
          · exact False.elim h
        · exact False.elim h
    · rw [if_neg q] at h
      exact ⟨false, (by rw [nmc, xm, decide_eq_false q]), (fun z => nomatch z), fun _ => wcl_of M he R hE (fun c hc' => hc c (List.mem_cons_of_mem _ hc')) h⟩
theorem try_sound {XS : List Str} {cs : List Cf} {f : DEnv → SR} (M : XM K XS) (hc : ∀ c ∈ cs, c.nm ∈ XS) (R : Rep K G H ρ σ) (h : GoS K W σ ρ G H E (dTryN XS cs f ρ)) : GoS K (wCl K W E (cs.map (clOf K))) σ ρ G H E (f ρ) := by
  unfold dTryN at h
  cases e1 : f ρ with
  | ex ρ1 e =>
    rw [e1] at h
    dsimp only at h
    split at h
    · rename_i he
      exact fun d σ1 G1 H1 s1 R1 hE => wcl_of M he R1 hE hc (GoS.shift R s1 h)
    · exact False.elim h
  | _ => rw [e1] at h; exact h
end
section
variable {X : Cx} {W : WX} {body : List Stmt} {h₀ : ExceptHandler} {hds : List ExceptHandler} {XS : List Str} {cs : List Cf} {f : DEnv → SR} {pos : Pos}
end
section
variable {X : Cx} {x n : Str} {b₀ : Stmt} {su : List Stmt} {np p : Pos} {i : Nat}
theorem cl_pl {g : DEnv → SR} (hn : Names X x (cv X.K x)) (h : ∀ (a : Addr) (pn : List (Addr × Obj)), DSs (X.suite a pn) WN (b₀ :: su) g) : ClOk X (.ExceptHandler (some (.Name x np)) none (b₀ :: su) p) (clOf X.K ⟨x, .pl g⟩) :=
  .no hn fun a oe cls d pn _ _ => h a _
theorem cl_as {f : Str} {g : D → DEnv → SR} (hN : X.N.Nodup) (hi : X.N[i]? = some n) (hl : X.env.kindOf n = some .local) (hn : Names X x (cv X.K x))
    (h : ∀ (a : Addr) (oe : Obj) (cls : Value) (d : Option Addr) (pn : List (Addr × Obj)), Zc cls d oe → (∃ vs, oe.data = .fields vs) → PSs (X.suite a ((a, oe) :: pn)) (b₀ :: su) (tSY X.K i a cls d (cv X.K x) f g)) :
    ClOk X (.ExceptHandler (some (.Name x np)) (some n) (b₀ :: su) p) (clOf X.K ⟨x, .as i f g⟩) := .as hN hi hl hn h
theorem cls_nil : ClsOk X [] (([] : List Cf).map (clOf X.K)) := .nil
theorem cls_cons {h : ExceptHandler} {hs : List ExceptHandler} {c : Cf} {cs : List Cf} (h1 : ClOk X h (clOf X.K c)) (h2 : ClsOk X hs (cs.map (clOf X.K))) : ClsOk X (h :: hs) ((c :: cs).map (clOf X.K)) := .cons h1 h2
noncomputable def yRet (g : D → DEnv → R D) : D → DEnv → SR := fun x ρ => (g x ρ).bindS fun y ρ' => .ret ρ' false y
theorem ys_ret {Y : Cx} {a : Addr} {cls : Value} {d : Option Addr} {C : Value} {f : Str} {e : Expr} {pos : Pos} {g : D → DEnv → R D} (h : EY Y i a cls d C f e g) : PSs Y [.Return (some e) pos] (tSY Y.K i a cls d C f (yRet g)) :=
  pss_one (ps_imp (ps_ret h) fun E σ H ⟨ρ, G, x, R, P, ec, h⟩ => ⟨ρ, G, x, R, P, ec, (Go.bindS R h).imp fun y ρ' G' H' s R' h v hv => h v σ G' H' .refl R' hv⟩)
end
end DF

set_option maxHeartbeats 1000000
namespace DF
open PySem PySem.Spec PyProof.Rows L2
variable {gq : Bool}
noncomputable def tBod (K : PySem.W.Frag) (W : WX) (t : TE) (bF : D → DEnv → SR) : TS := fun D σ H => t σ H (fun v H1 => ∃ ρ G d, Rep K G H1 ρ σ ∧ Is K G d v ∧ GoS K W σ ρ G H1 D (bF d ρ))
section
variable {X : Cx} {W : WX} {e : Expr} {t : TE} {rest : List Stmt} {r : DEnv → SR} {pos pos' : Pos} {i : Nat} {x : Str}
noncomputable def zExpr (r : DEnv → SR) : D → DEnv → SR := fun _ ρ => r ρ
theorem zb_expr (h : PE X e t) (hm : ∀ σ H Q Q', (∀ v H, Q v H → Q' v H) → t σ H Q → t σ H Q') (hr : DSs X W rest r) (hs : swapsWith e none pos.line X.env = pure false := by rfl) : PSs X (.Expr e pos :: rest) (tBod X.K W t (zExpr r)) :=
  pss_imp (pss_cons (ps_expr h hs) hr) fun D σ H q => hm σ H _ _ (fun v H1 ⟨ρ, G, d, R, hv, z⟩ => ⟨ρ, G, R, z⟩) q
end
noncomputable def outS : SR → Option D
  | .ret _ false d => some d
  | .nx _ => some .non
  | _ => none
noncomputable def lamF (n : Nat) (XS : List Str) (cs : List Cf) (bF : D → DEnv → SR) (r : DEnv → SR) : D ⊕ Exc → Option D
  | .inl d => outS ((dTryN XS cs (bF d) (List.replicate n none)).bind r)
  | .inr e => outS ((dTryN XS cs (fun ρ => .ex ρ e) (List.replicate n none)).bind r)
noncomputable def dLam (F : D ⊕ Exc → Option D) (fl : DEnv → R D) : DEnv → R D := fun ρ => match fl ρ with
  | .no => .no
  | .ok ρ' d => ofO ρ' (F (.inl d))
  | .ex ρ' e => ofO ρ' (F (.inr e))
@[simp] theorem dLam_ap (F : D ⊕ Exc → Option D) (fl : DEnv → R D) (ρ : DEnv) : dLam F fl ρ = match fl ρ with
  | .no => .no
  | .ok ρ' d => ofO ρ' (F (.inl d))
  | .ex ρ' e => ofO ρ' (F (.inr e)) := id rfl
structure LamB (P : Program) (w : World) (K : PySem.W.Frag) (mg : Str → Option Value) (base : Heap) (gq : Bool) (j : Nat) (x : Str) (F : D ⊕ Exc → Option D) : Prop where
  ex : ∃ (g : Addr) (fd : FuncData) (st : Stmt) (Ng : List Str) (a : Str) (XS : List Str) (cs : List Cf) (bF : D → DEnv → SR) (r : DEnv → SR) (p1 p2 p4 : Pos) (body : List Stmt) (h₀ : ExceptHandler) (hds : List ExceptHandler) (rest : List Stmt),
    mg x = some (.ref g) ∧ PySem.W.keepIn K (.ref g) = true ∧ Fun K x x st g fd ∧ Binds K fd [a] [] ∧ FnScope Ng [a] (defScope st) ∧ Ng[0]? = some a ∧ Vis (defScope st) a ∧
    (a == ("__debug__" : Str)) = false ∧ (a == ("__classdict__" : Str)) = false ∧ XM K XS ∧ (∀ c ∈ cs, c.nm ∈ XS) ∧ F = lamF Ng.length XS cs bF r ∧
    defBody st = .Try body (h₀ :: hds) [] [] p4 :: rest ∧
    ∀ (cdv : Value) (A : Around) (outer : List Env) (s : Shared) (H : Hp), RoomG j (A.deeper (envOfC x (defScope st) s.heap.objs.size g cdv)) gq →
      (∀ (W : WX) (pn : List (Addr × Obj)) (xe : Value → Shared → Prop), Takes ((cxOf (L2.CX P w) P w K mg base Ng x (defScope st) g cdv A outer s H (fun _ _ _ => False)).tr pn xe) W →
        ∀ t : TE, PE ((cxOf (L2.CX P w) P w K mg base Ng x (defScope st) g cdv A outer s H (fun _ _ _ => False)).tr pn xe) (.Call (.Name a p1) [] [] p2) t → (∀ σ H Q Q', (∀ v H, Q v H → Q' v H) → t σ H Q → t σ H Q') →
          PSs ((cxOf (L2.CX P w) P w K mg base Ng x (defScope st) g cdv A outer s H (fun _ _ _ => False)).tr pn xe) body (tBod K W t bF)) ∧
      ClsOk (cxOf (L2.CX P w) P w K mg base Ng x (defScope st) g cdv A outer s H (fun _ _ _ => False)) (h₀ :: hds) (cs.map (clOf K)) ∧
      DSs (cxOf (L2.CX P w) P w K mg base Ng x (defScope st) g cdv A outer s H (fun _ _ _ => False)) WN rest r
section
variable {K : PySem.W.Frag} {W : WX} {σ : Sl} {ρ : DEnv} {G H : Hp}
theorem Rep.emp (R : Rep K G H ρ σ) {N : List Str} {vs : List V} (h : vs.length ≤ N.length) : Rep K G H (List.replicate N.length none) (L2.start N vs) := by
  have no : ∀ (i : Nat) (c : Cell), (List.replicate N.length (none : Option Cell))[i]? ≠ some (some c) := fun i c e => by
    rw [List.getElem?_replicate] at e
    split at e <;> cases e
  refine ⟨R.sub, ?_, fun i d e => absurd e (no i _), fun i b d e => absurd e (no i _), fun i j b c d e a q => absurd q (no i _), R.tb⟩
  unfold L2.start
  simp only [List.length_replicate, List.length_append, List.length_map]
  omega
theorem emp_no {n : Nat} {σz : Sl} (b : Bool) (a : Addr) : ¬ Mu b (List.replicate n none) σz a := fun ⟨i, d, e, _⟩ => by
  rw [List.getElem?_replicate] at e
  split at e <;> cases e
theorem emp_fst {n : Nat} {σz σ' : Sl} {ρ' : DEnv} {G' H' : Hp} (s : Stp (List.replicate n none) σz G H ρ' σ' G' H') (R : Rep K G' H' ρ' σ') : FStp K [] G H G' H' :=
  ⟨s.g, fun b o _ e nt => s.h b o (emp_no _ _) (emp_no _ _) e nt, s.t, fun b q1 q2 => (s.n b q1 q2).elim id fun m => absurd m (emp_no _ _), R.sub, R.tb, s.gr⟩
theorem emp_stp {n : Nat} {σz σ' : Sl} {ρ' : DEnv} {G' H' : Hp} (R : Rep K G H ρ σ) (s : Stp (List.replicate n none) σz G H ρ' σ' G' H') (R' : Rep K G' H' ρ' σ') : Stp ρ σ G H ρ σ G' H' ∧ Rep K G' H' ρ σ :=
  vstp R (emp_fst s R')
theorem gos_out {n : Nat} {Q : VK} {y : D} {σz : Sl} {D : Ends} {r : SR} (hn : ∀ σ' H', Q .non H' → D.nx σ' H') (hr : D.rt = Q) (e : outS r = some y)
    (k : ∀ ρ' σ' G' H', Stp (List.replicate n none) σz G H ρ' σ' G' H' → Rep K G' H' ρ' σ' → ∀ v, Is K G' y v → Q v H') : GoS K WN σz (List.replicate n none) G H D r := by
  cases r with
  | nx ρ1 =>
    cases e
    exact fun σ' G' H' s R => hn _ _ (k _ _ _ _ s R .non .non)
  | ret ρ1 fr d =>
    cases fr with
    | true => cases e
    | false =>
      cases e
      exact fun v σ' G' H' s R hv => by rw [hr]; exact k _ _ _ _ s R v hv
  | _ => cases e
end
end DF

set_option maxHeartbeats 1000000
namespace DF
open PySem PySem.Spec PyProof.Rows L2
variable {gq : Bool}
theorem LamB.mono {P : Program} {w : World} {K : PySem.W.Frag} {mg : Str → Option Value} {base : Heap} {j k : Nat} {x : Str} {F : D ⊕ Exc → Option D} (h : LamB P w K mg base gq j x F) (hj : j ≤ k) : LamB P w K mg base gq k x F := by
  obtain ⟨g, fd, st, Ng, a, XS, cs, bF, r, p1, p2, p4, body, h₀, hds, rest, h1, h2, h3, h4, h5, h6, h7, h8, h9, h10, h11, h12, h13, hX⟩ := h.ex
  exact ⟨g, fd, st, Ng, a, XS, cs, bF, r, p1, p2, p4, body, h₀, hds, rest, h1, h2, h3, h4, h5, h6, h7, h8, h9, h10, h11, h12, h13, fun cdv A outer s H hr => hX cdv A outer s H (hr.mono hj)⟩
section
variable {X : Cx} {W : WX} {x y : Str} {F : D ⊕ Exc → Option D} {fl : DEnv → R D} {params : Arguments} {body : Expr} {scope : Scope} {p pos lpos : Pos} {c P : Addr} {k : Nat}
theorem de_lam (hB : LamB X.prog X.w X.K X.mg X.base gq (k + 1) x F) (hr : RoomG (k + 2) X.A gq) (hg : Gl X x) (TB : LamX.TabB X.base X.mg c P) (hcode : X.env.code = .ref c)
    (hy : y ∈ lamNames) (ht : PySem.W.tabIn X.K y = some (c, P)) (hq : X.env.qual ++ "<lambda>" = lamName y) (hap : apartB (lamMap X.K) = true) (L : LamX.LamS X.env.scope scope) (hdef : defaultsOf params X.env = ([], []))
    (hbind : ∀ (q : Str) (cl : List (Str × Addr)) (pm cv ctv : Value), bindArgs (PySem.W.kla_fn "<lambda>" q params body scope cl pm cv ctv) ⟨[], []⟩ = pure [])
    (hbody : ∀ (A : Around) (outer : List Env) (s s2 : Shared) (H : Hp) (E : XK) (f d : Addr), RoomG k (A.deeper (LamX.lamEnv X scope s.heap.objs.size f d)) gq → Takes (LamX.lamCx X A outer s H E scope f d) (fun cls dd _ H => E cls dd H) → DE (LamX.lamCx X A outer s H E scope f d) (fun cls dd _ H => E cls dd H) body fl)
    (hdb : (x == ("__debug__" : Str)) = false := by decide) : DE X W (.Call (.Name x p) [.Lambda params body scope lpos] [] pos) (dLam F fl) := by
  refine ⟨fun pins s σ H Q I ⟨ρ, G, R, hgo⟩ => ?_⟩
  obtain ⟨g, fd, st, Ng, a, XS, cs, bF, r, p1, p2, p4, bd, h₀, hds, rest, hm, hk, Fu, hb, Sg, hN, hv, had, hac, xm, hcs, rfl, hdf, hX⟩ := hB.ex
  obtain ⟨oc, od, kV, doc, pm0, an, cdv, ct0, osl, rfl, lk, hcg⟩ := Fu.ex
  refine wpAny_Call_Name_kw (ld_glob I hg hm ?_ hdb)
  refine PySem.W.callWith_K (h₀ := X.base) I.ok.mod.kin hk ?_ (by rfl) (by rfl)
  show wpAny _ _ (spliced ((false, eval (.Lambda params body scope lpos) X.env) :: backTo pos (starEach [] X.env))) _ _ s
  refine Calls.spliced_cons (lam_mk I TB hcode hq (R.tb y hy c P ht).2 hdef (L.has I.ok) fun f d pm ct H1 s1 I1 mk hf hfn hfr hco => ?_)
  refine Calls.spliced_nil ⟨I1.kIn, ?_⟩
  have hPt : ∃ ps, H P = some (.tbl ps) := by
    obtain ⟨ps, z, _⟩ := (R.tb y hy c P ht).2
    exact ⟨ps, z⟩
  have S1 : Stp ρ σ G H ρ σ G H1 := mk.stp hPt
  have R1 : Rep X.K G H1 ρ σ := mk.rep R hy ht hap
  have hNl : ([V.ref f] : List V).length ≤ Ng.length := by
    have := (List.getElem?_eq_some_iff.mp hN).1
    exact this
  have run : codeAny (model X.prog X.w) X.A (.call (.ref g) ⟨[.ref f], []⟩) (CR (L2.CX X.prog X.w) X.stack X.prog X.w H1 s1 Q (fun _ _ _ => False)) s1 := by
    refine LamX.run_ofS (N := Ng) (ps := [a]) (us := [.ref f]) (vs := [.ref f]) (k := k + 1) lk hcg Sg hr.room I1.env0 (hb s1 [.ref f] I1.kIn rfl) (.cons rfl .nil) rfl fun _ => ?_
    obtain ⟨hX1, hX2, hX3⟩ := hX cdv X.A X.stack s1 H1 (hr.deeper _)
    rw [hdf]
    have mono : ∀ (W' : WX) (σ0 : L2.St) (H0 : Hp) (Q1 Q2 : VK), (∀ v H, Q1 v H → Q2 v H) → (σ0[0]? = some (some (.ref f)) ∧ H0 d = some (LamX.CodeO d (X.env.qual ++ "<lambda>")) ∧ tD X.K (fun cls dd _ H => W' cls dd σ0 H) fl σ H0 Q1) →
        (σ0[0]? = some (some (.ref f)) ∧ H0 d = some (LamX.CodeO d (X.env.qual ++ "<lambda>")) ∧ tD X.K (fun cls dd _ H => W' cls dd σ0 H) fl σ H0 Q2) := fun W' σ0 H0 Q1 Q2 h ⟨h1, h2, ρ2, G2, h3, h4⟩ =>
      ⟨h1, h2, ρ2, G2, h3, h4.imp fun a ρ' G' H' s R q v hv => h _ _ (q v hv)⟩
    rw [← hq] at hf hco
    refine ⟨_, pss_cons (ps_tryN (X := gCx X Ng x (defScope st) g cdv s1 H1 (fun _ _ _ => False)) (Wo := WN)
      (tb := fun W' => tBod X.K W' (fun σZ HZ Q => σZ[0]? = some (some (.ref f)) ∧ HZ d = some (LamX.CodeO d (X.env.qual ++ "<lambda>")) ∧ tD X.K (fun cls dd _ H => W' cls dd σZ H) fl σ HZ Q) bF)
      rfl rfl LamX.takes0 hX2 (fun W' pn xe tk => hX1 W' pn xe tk _ (lam_act I1 L hf hfn hfr (hbind _ _ _ _ _) tk (hr.deeper _) (fun A outer s H E hr2 => hbody A outer s s H E f d hr2 (takes_of rfl rfl rfl rfl)) hN hv had hac) (mono W'))) hX3, ?_⟩
    refine ⟨start_get rfl, hco, ρ, G, R1, ?_⟩
    have fin : ∀ {ρ' : DEnv} {G2 H2 : Hp} {bF' : DEnv → SR} {y : D}, Stp ρ σ G H1 ρ' σ G2 H2 → Rep X.K G2 H2 ρ' σ → outS ((dTryN XS cs bF' (List.replicate Ng.length none)).bind r) = some y →
        (∀ G' H', Stp ρ σ G H ρ' σ G' H' → Rep X.K G' H' ρ' σ → ∀ v, Is X.K G' y v → Q v H') →
        GoS X.K (wCl X.K WN { nx := tS X.K WN r { nx := fun _ H' => Q .non H', rt := Q }, rt := Q } (cs.map (clOf X.K))) (L2.start Ng [.ref f]) (List.replicate Ng.length none) G2 H2 { nx := tS X.K WN r { nx := fun _ H' => Q .non H', rt := Q }, rt := Q } (bF' (List.replicate Ng.length none)) := by
      intro ρ' G2 H2 bF' y s2 R2 ho hq
      refine try_sound xm hcs (R2.emp hNl) (GoS.bind (R2.emp hNl) (gos_out (fun _ _ h => h) rfl ho fun ρz σz G3 H3 s3 R3 v hv => ?_))
      obtain ⟨s4, R4⟩ := emp_stp R2 s3 R3
      exact hq G3 H3 (S1.trans R (s2.trans R1 s4)) R4 v hv
    unfold dLam at hgo
    cases ef : fl ρ with
    | no => rw [ef] at hgo; exact False.elim hgo
    | ok ρ' dv =>
      rw [ef] at hgo
      intro G2 H2 s2 R2 v hv
      cases eo : lamF Ng.length XS cs bF r (.inl dv) with
      | none => simp only [eo] at hgo; exact False.elim hgo
      | some y =>
        simp only [eo] at hgo
        exact ⟨_, G2, dv, R2.emp hNl, hv, fin s2 R2 eo hgo⟩
    | ex ρ' ee =>
      rw [ef] at hgo
      intro G2 H2 dd s2 R2 hE2
      cases eo : lamF Ng.length XS cs bF r (.inr ee) with
      | none => simp only [eo] at hgo; exact False.elim hgo
      | some y =>
        simp only [eo] at hgo
        have z := fin (bF' := fun ρ => .ex ρ ee) s2 R2 eo hgo
        exact z dd _ G2 H2 .refl (R2.emp hNl) hE2
  refine wpAny_call (codeAny_mono run fun r s2 hq => ?_)
  cases r with
  | error e =>
    obtain ⟨_, _, _, _, _, _, _, _, _, _, _, _, z⟩ := (show L2.CX X.prog X.w X.stack H1 s1 (fun _ _ _ => False) e s2 from hq)
    exact z.elim
  | ok fl => cases fl with
    | ret u => exact I1.after hq
    | next => exact False.elim hq
    | brk => exact False.elim hq
    | cont => exact False.elim hq
end
end DF

set_option maxHeartbeats 2000000
namespace DF
open PySem PySem.Spec PyProof.Rows L2
structure XCls (K : PySem.W.Frag) (C : Addr) (B newId initId : String) (bmB : List Value) (fl : Str) : Prop where
  FB : ExcBaseFacts B newId initId bmB
  KF : PySem.W.KxsFacts B initId
  SF : StoreFacts B bmB "object.__setattr__" "object"
  ini : PySem.W.excInitIn K C bmB newId = true
  ov : PySem.W.excOver K C bmB = true
  hd : PySem.W.hasDictIn K C = true
  sa : PySem.W.findIn K (.ref C) "__setattr__" = some (some (.builtin "object.__setattr__"))
  sB : PySem.W.subIn K (.ref C) (.type B) = some true
  sE : PySem.W.subIn K (.ref C) (.type "BaseException") = some true
  ty : PySem.W.typeIn K (.ref C) = some (.type "type")
  mr : PySem.W.mroIn K C (.ref C) = some true
  su : PySem.W.ks_superIn K C C "__init__" = some (some (.builtin initId))
  op : PySem.W.nsIn K cStatics "thirdparty.any" = some none
  nf : PySem.W.findIn K (.ref C) fl = some none
  kp : PySem.W.keepIn K (.ref C) = true
theorem XCls.cd {K : PySem.W.Frag} {C : Addr} {B newId initId : String} {bmB : List Value} {fl : Str} (T : XCls K C B newId initId bmB fl) : ∃ cd, PySem.W.clsIn K C = some cd ∧ cd.hasDict = true := by
  have h := T.hd
  unfold PySem.W.hasDictIn at h
  cases e : PySem.W.clsIn K C with
  | none => rw [e] at h; cases h
  | some cd => rw [e] at h; exact ⟨cd, rfl, h⟩
section
variable {X : Cx} {pins : List (Addr × Obj)} {σ : L2.St} {H : Hp} {s : Shared} {a C : Addr} {f : Str} {y : V} {u : Value} {Q : Unit → Shared → Prop} {E : Value → Shared → Prop} {A : Around} {B newId initId : String} {bmB : List Value}
theorem xst_new (T : XCls X.K C B newId initId bmB f) (I : Inv X pins σ H s) (e : H a = some (exo a C none)) (ry : RelV y u)
    (h : ∀ dx s', H dx = none → dx ≠ a → Inv X pins σ (upd (upd H dx (exd dx [(f, y)])) a (exo a C (some dx))) s' → Q () s') : wpAny (model X.prog X.w) A (setAttr (.ref a) f u) Q E s := by
  obtain ⟨cd, hcl, hdd⟩ := T.cd
  obtain ⟨t1, ho⟩ := exo_at I.hok e
  obtain ⟨hp, g, d, t, os⟩ := s
  have IA : PySem.W.InstAt hp a { cls := .ref C, data := .fields #[.ref t1, .none, .none, .none, .bool false, .none] } C none := ⟨ho, rfl, rfl, trivial⟩
  have tkr : PySem.W.takerIn X.K C f = some none := by unfold PySem.W.takerIn; rw [T.nf]; rfl
  refine PySem.W.set_plain I.kIn IA T.sa (PySem.W.osa_openX T.SF I.kIn IA T.ov tkr fun b => ?_)
  have core : ∀ (h' : Heap) (tk' : Nat) (dx : Addr), (∀ b o, b ≠ a → hp.get? b = some o → h'.get? b = some o) → hp.objs.size ≤ dx → dx ≠ a → h'.get? a = some ({ cls := .ref C, dict := some dx, data := .fields #[.ref t1, .none, .none, .none, .bool false, .none] } : Obj) →
      h'.Ns1 dx (fun z => if z = f then some u else none) → Q () ⟨h', g, d, tk', os⟩ := fun h' tk' dx k dn dne hx hn => by
    have hnd : H dx = none := I.hok.fresh dn
    have ndx : ∀ {b : Addr} {o : Obj}, hp.get? b = some o → b ≠ dx := fun q z => Nat.lt_irrefl _ (Nat.lt_of_lt_of_le (Heap.lt_size (z ▸ q)) dn)
    have nda : ∀ {b : Addr}, H b = none → b ≠ a := fun n z => by rw [z, e] at n; cases n
    have same : ∀ {b : Addr} {w : HO}, H b = some w → w ≠ exo a C none → upd (upd H dx (exd dx [(f, y)])) a (exo a C (some dx)) b = some w := fun q n => by
      rw [upd_ne (at_ne e q (Ne.symm n)), upd_ne (ne_of_none q hnd)]; exact q
    refine h dx _ hnd dne (I.un (t' := tk') { keep := fun b o q n _ _ => k b o (nda n) q, slot := fun b o q n _ _ => ⟨o.slots, k b o (nda n) q⟩, free := fun b o q n _ => by rw [upd_ne (nda n), upd_ne (ndx q)]; exact n,
                                              there := fun b o q _ => ?_, tups := fun b xs q => same q (Ne.symm exo_tup), frzs := fun b o v q => same q (Ne.symm exo_frz), tbls := fun b ps q => ⟨#[], by rw [same q (Ne.symm exo_tbl)]; simp⟩ } fun b o q => ?_)
    · rcases Classical.em (b = a) with z | z
      · exact ⟨_, z ▸ hx⟩
      · exact ⟨o, k b o z q⟩
    · rcases Classical.em (b = a) with z | z
      · subst z; rw [upd_same] at q; cases q; exact exo_ok hx
      · rw [upd_ne z] at q
        rcases Classical.em (b = dx) with z2 | z2
        · subst z2
          rw [upd_same] at q; cases q
          exact exd_ok hn fun g' => by
            rw [lookup_put]
            by_cases hg : g' = f
            · rw [if_pos hg, if_pos hg]; exact ry
            · rw [if_neg hg, if_neg hg]; exact True.intro
        · rw [upd_ne z2] at q
          exact (I.hok b o q).stay (fun c w hc r => k c w (hc.elim (fun z3 => z3 ▸ z) fun z3 => at_ne e z3 exo_own) r) (fun c hc => same hc (Ne.symm exo_own)) fun c xs hc => same hc (Ne.symm exo_tup)
  have axs : a ≠ hp.objs.size := Nat.ne_of_lt (Heap.lt_size ho)
  have hcls : PySem.W.Looks (model X.prog X.w) hp (classData C) cd := PySem.W.looks_clsIn I.kIn hcl
  obtain ⟨nm, bs, mro, ns, qn, hd', sn, sb, ab, col, del⟩ := cd
  dsimp only at hdd
  subst hdd
  dsimp only
  unfold PySem.Builtin.ObjectAttr.storeInOwnDict PySem.Builtin.ObjectAttr.ownDictForStores
  repeat (first | with_reducible refine HandSPX.store_in_new ?_ ?_ | with_reducible refine wpAny_loadPart_at ho ?_ | with_reducible refine hcls.at ?_ | wp_step)
  · exact ⟨_, #[], _, (Heap.get?_update_ne _ _ _ _ axs.symm).trans (Heap.get?_push_at rfl rfl), rfl, fun e' he => absurd he (by simp), fun _ => rfl⟩
  · intro h' tk' hn' hs'
    have up : ∀ b o, b ≠ a → hp.get? b = some o → h'.get? b = some o := fun b o nb q => (hs'.2 b (Nat.ne_of_lt (Heap.lt_size q))).trans ((Heap.get?_update_ne _ _ _ _ nb).trans (Heap.get?_push_of_some _ q))
    exact core h' tk' hp.objs.size up (Nat.le_refl _) axs.symm ((hs'.2 a axs).trans (Heap.get?_update_self _ (Heap.get?_push_of_some _ ho) rfl)) hn'
end
end DF

set_option maxHeartbeats 2000000
namespace DF
open PySem PySem.Spec PyProof.Rows L2
variable {gq : Bool}
noncomputable def SupOk (m : Str) (j : Nat) (p0 p1 p2 p3 p4 : Pos) : Prop := ∀ env : Env, ∃ pl : Sem Bool, eval (.Call (.Attribute (.Call (.Name "super" p0) [] [] p1) "__init__" p2) [.Constant (.str m) j p3] [] p4) env = (do
      let ov ← attributeBase (.Call (.Name "super" p0) [] [] p1) "__init__" env (eval (.Call (.Name "super" p0) [] [] p1) env)
      standAt p2.atName
      let (f, first) ← holding [ov] (getMethod ov "__init__" pl)
      callWith p4 f first (backTo p4 (starEach [.Constant (.str m) j p3] env)) [])
structure XIni (P : Program) (K : PySem.W.Frag) (mg : Str → Option Value) (C fI cc : Addr) (F : NdefX.NF) (fl ar : Str) : Prop where
  it : PySem.W.findIn K (.ref C) "__init__" = some (some (.ref fI))
  isf : PySem.W.typeIn K (.ref fI) = some (.type "function")
  lk : ∃ od doc pm ct osl, K.lookup fI = some (⟨.type "function", od, .func (F.fd doc pm ct), osl⟩ : Obj)
  cl : F.cl = [(("__class__" : Str), cc)]
  ce : ∃ oc od osl, K.lookup cc = some (⟨oc, od, .cell (some (.ref C)), osl⟩ : Obj)
  cd : ∃ (oc : Value) (od : Option Addr) (vs : Array Value) (osl : Array (Option Value)) (file : Str) (tf : Tok), K.lookup F.c = some (⟨oc, od, .fields vs, osl⟩ : Obj) ∧ vs[2]? = some (.str file tf) ∧ ((P.main.file : Str) == file) = true
  ci : PySem.W.codeIn K (.ref F.c) F.qual = true
  sc : NdefX.NScope ["self", ar, "__class__"] ["self", ar] ["__class__"] F.scope
  bd : ∃ (m : Str) (j : Nat) (p0 p1 p2 p3 p4 p5 p6 p7 p8 p9 p10 p11 : Pos), F.body = [.Expr (.Call (.Attribute (.Call (.Name "super" p0) [] [] p1) "__init__" p2) [.Constant (.str m) j p3] [] p4) p5,
    .Assign [.Attribute (.Name "self" p6) fl p7] (.Call (.Name "kept" p8) [.Name ar p9] [] p10) p11] ∧ SupOk m j p0 p1 p2 p3 p4
  ks : F.scope.names.lookup ("super" : Str) = some .globalImplicit
  kk : F.scope.names.lookup ("kept" : Str) = some .globalImplicit
  pa : ∃ a0 : Arg, (F.params.posonlyargs ++ F.params.args).head? = some a0 ∧ a0.arg = "self"
  bi : ∀ (doc pm ct : Value) (us : List Value), us.length = 2 → bindArgs (F.fd doc pm ct) ⟨us, []⟩ = pure (([("self" : Str), ar]).zip us)
  ms : mg "super" = none
  mt : (P.main.scope.names.lookup ("super" : Str)).isSome = false
  na : (ar == ("__debug__" : Str)) = false ∧ (ar == ("__classdict__" : Str)) = false
noncomputable def keptV (F : Fn) (d : D) : R D := dV (dCal2 1 F (rVal (dVar 1) rNil)) [none, some (.val d), none]
theorem mw_call {prog : Program} {w : World} {A : Around} {E : Value → Shared → Prop} {s : Shared} {K : PySem.W.Frag} {u e t0 C : Addr} {B newId initId : String} {bmB : List Value} {fl : Str} {rest : List Value} {Q : Value → Shared → Prop} (T : XCls K C B newId initId bmB fl) (X : K.In s.heap)
    (he : s.heap.get? e = some (PySem.W.excObj C t0 none .none)) (hu : s.heap.get? u = some (PySem.W.kxs_mw initId e)) (hz : rest.length ≤ sizeLine)
    (hq : ∀ h' t1, (∀ b o, b ≠ e → s.heap.get? b = some o → h'.get? b = some o) → h'.get? e = some (PySem.W.excObj C t1 none .none) → Q .none { s with heap := h' }) : wpAny (model prog w) A (call (.ref u) rest) Q E s := by
  obtain ⟨nm, N', qn, bs, bm, hdct, sn, sub, ab, col, dd, k0, k1, k2, k3, k5, hC, hT⟩ := PySem.W.excInit_of X T.ini
  obtain ⟨hh, g, d, tk, os⟩ := s
  refine wpAny_call (codeAny_of_tree ?_)
  show wpAny _ A.in1 (callAny (.ref u) ⟨rest, []⟩) _ _ _
  unfold callAny
  refine wpAny_bind (wpAny_load hu ?_)
  dsimp only [PySem.W.kxs_mw]
  rw [if_pos (by decide)]
  refine wpAny_bind (PySem.W.check_bound_init T.FB.toExcCallFacts hC he rfl (wpAny_bind (wpAny_pure (wpAny_pure ⟨plainId_quiet T.FB.init.plain _, codeAny_builtin T.FB.initEntry ?_⟩))))
  exact PySem.W.exc_init_tree he hz fun h' k e' _ => hq h' _ k e'
theorem cw_mw {M : Model} {A : Around} {E : Value → Shared → Prop} {s : Shared} {u x : Addr} {i : String} {pos : Pos} {env : Env} {e : Expr} {Q : Value → Shared → Prop} (he : starEach [e] env = (false, eval e env) :: starEach [] env)
    (h : wpAny M A (spliced (backTo pos ((false, eval e env) :: starEach [] env))) (fun vs s₁ => PySem.W.KxsAt i u x s₁.heap ∧ wpAny M A (call (.ref u) vs) Q E s₁) E s) : wpAny M A (callWith pos (.ref u) [] (backTo pos (starEach [e] env)) []) Q E s := by
  rw [he]
  exact PySem.W.kxs_callWith (i := i) (x := x) (by rfl) (PySem.Calls.evalArgs_plain h)
end DF

set_option maxHeartbeats 2000000
namespace DF
open PySem PySem.Spec PyProof.Rows L2
variable {gq : Bool}
noncomputable abbrev iCx (P : Program) (w : World) (K : PySem.W.Frag) (mg : Str → Option Value) (base : Heap) (F : NdefX.NF) (ar : Str) (fI : Addr) (A : Around) (outer : List Env) (s : Shared) (H : Hp) : Cx :=
  NdefX.ncx (L2.CX P w) P w K mg base ["self", ar, "__class__"] F fI A outer s H (fun _ _ _ => False)
theorem ps_xst {X : Cx} {C a : Addr} {B newId initId : String} {bmB : List Value} {fl : Str} {o e : Expr} {to te : TE} {p' pos : Pos} (T : XCls X.K C B newId initId bmB fl) (ho : PE X o to) (he : PE X e te) (hs : swapsWith e (some (.Attribute o fl p')) pos.line X.env = pure false := by rfl) :
    PS X (.Assign [.Attribute o fl p'] e pos) (fun D σ H => te σ H fun y H1 => to σ H1 fun x H2 => x = .ref a ∧ H2 a = some (exo a C none) ∧ ∀ dx, H2 dx = none → dx ≠ a → D.nx σ (upd (upd H2 dx (exd dx [(fl, y)])) a (exo a C (some dx)))) :=
  ⟨fun pins s σ H D I h => plainObj_wpAny_Assign_Attribute (thn (he.run pins s σ H _ I h) fun v s1 ⟨y, H1, I1, r1, q1⟩ => thn (ho.run pins s1 σ H1 _ I1 q1) fun u s2 ⟨x, H2, I2, r2, ex, ea, q⟩ => by
    subst ex
    obtain rfl : u = Value.ref a := r2
    exact xst_new T I2 ea r1 fun dx s' n ne J => ⟨σ, _, J, q dx n ne⟩) hs⟩
section
variable {P : Program} {w : World} {K : PySem.W.Frag} {mg : Str → Option Value} {base : Heap} {C fI cc e : Addr} {B newId initId : String} {bmB : List Value} {fl ar : Str} {F : NdefX.NF} {Fk : Fn} {k : Nat} {A : Around} {outer : List Env} {s : Shared} {G H : Hp} {u : Value} {v : V} {d d' : D} {ρe : DEnv}
theorem ini_keep (T : XCls K C B newId initId bmB fl) (U : XIni P K mg C fI cc F fl ar) (hk : Has P w K mg base "kept" k ["value"] Fk gq) (hr : RoomG k (iCx P w K mg base F ar fI A outer s H).A gq) {p6 p7 p8 p9 p10 p11 : Pos} (hv : Is K G d v) (eS : Evl.Ex G H) (tb : TabK K G H) (he : H e = some (exo e C none))
    (hkv : keptV Fk d = .ok ρe d') {Qr : VK} (hq : ∀ G2 H2 y dx, FStp K [] G H G2 H2 → Is K G2 d' y → H2 e = some (exo e C none) → H2 dx = none → dx ≠ e → Qr .non (upd (upd H2 dx (exd dx [(fl, y)])) e (exo e C (some dx)))) :
    ∃ t, PSs (iCx P w K mg base F ar fI A outer s H) [.Assign [.Attribute (.Name "self" p6) fl p7] (.Call (.Name "kept" p8) [.Name ar p9] [] p10) p11] t ∧
      t { nx := fun _ H' => Qr .non H', rt := Qr } (NdefX.startF ["self", ar, "__class__"] [.ref e, v] [none]) H := by
  have vs : Vis (iCx P w K mg base F ar fI A outer s H).env.scope "self" := .inl (U.sc.par _ (by simp))
  have va : Vis (iCx P w K mg base F ar fI A outer s H).env.scope ar := .inl (U.sc.par _ (by simp))
  have pa : PE (iCx P w K mg base F ar fI A outer s H) (.Name ar p9) (tVar 1) := pe_var (i := 1) rfl va U.na.1 U.na.2
  refine ⟨_, pss_one (ps_xst (X := iCx P w K mg base F ar fI A outer s H) (a := e) T (pe_var (i := 0) rfl vs) (dx_de (dx_hasN hk hr (Nat.le_refl k) U.kk (dr_val (de_var pa) dr_nil)))), ?_⟩
  refine ⟨[none, some (.val d), none], G, ⟨eS, rfl, fun i d1 e1 => ?_, fun i b d1 e1 => ?_, fun i j b c d1 d2 a q1 => ?_, tb⟩, ?_⟩
  · match i, e1 with
    | 0, e1 => cases e1
    | 1, e1 => cases e1; exact ⟨v, rfl, hv⟩
    | 2, e1 => cases e1
    | _ + 3, e1 => cases e1
  · match i, e1 with
    | 0, e1 => cases e1
    | 1, e1 => cases e1
    | 2, e1 => cases e1
    | _ + 3, e1 => cases e1
  · match i, q1 with
    | 0, e1 => cases e1
    | 1, e1 => cases e1
    | 2, e1 => cases e1
    | _ + 3, e1 => cases e1
  · have no : ∀ (b : Bool) (a : Addr) (σ : Sl), ¬ Mu b [none, some (.val d), none] σ a := fun b a σ ⟨i, d1, e1, _⟩ => by
      match i, e1 with
      | 0, e1 => cases e1
      | 1, e1 => cases e1
      | 2, e1 => cases e1
      | _ + 3, e1 => cases e1
    have z : dV (dCal2 1 Fk (rVal (dVar 1) rNil)) [none, some (.val d), none] = .ok ρe d' := hkv
    show Go K WN _ _ G H _ (dV (dCal2 1 Fk (rVal (dVar 1) rNil)) [none, some (.val d), none])
    rw [z]
    intro G2 H2 s2 R2 y hy
    have he2 : H2 e = some (exo e C none) := s2.h e _ (no _ _ _) (no _ _ _) he fun ps => exo_tbl
    exact ⟨.ref e, rfl, rfl, he2, fun dx hn ne => hq G2 H2 y dx ⟨s2.g, fun b o _ q nt => s2.h b o (no _ _ _) (no _ _ _) q nt, s2.t, fun b q1 q2 => (s2.n b q1 q2).elim id fun m => absurd m (no _ _ _), R2.sub, R2.tb, s2.gr⟩ hy he2 hn ne⟩
end
end DF

set_option maxHeartbeats 2000000
namespace DF
open PySem PySem.Spec PyProof.Rows L2
variable {gq : Bool}
section
variable {P : Program} {w : World} {K : PySem.W.Frag} {mg : Str → Option Value} {base : Heap} {C fI cc e : Addr} {B newId initId : String} {bmB : List Value} {fl ar : Str} {F : NdefX.NF} {Fk : Fn} {k : Nat} {A : Around} {outer : List Env} {s : Shared} {G H : Hp} {u : Value} {v : V} {d d' : D} {ρe : DEnv}
theorem ini_super (T : XCls K C B newId initId bmB fl) (U : XIni P K mg C fI cc F fl ar) {pins : List (Addr × Obj)} {σ : Sl} {H : Hp} {s1 : Shared} {H0 : Hp} {s0 : Shared} (I : Inv (iCx P w K mg base F ar fI A outer s0 H0) pins σ H s1) (h0 : σ[0]? = some (some (.ref e))) (he : H e = some (exo e C none))
    {body : List Stmt} {m : Str} {j : Nat} {p0 p1 p2 p3 p4 p5 : Pos} {Q : Flow → Shared → Prop} {E : Value → Shared → Prop}
    (hsp : SupOk m j p0 p1 p2 p3 p4) (hq : ∀ s2, Inv (iCx P w K mg base F ar fI A outer s0 H0) pins σ H s2 → Q .next s2) :
    _root_.PySem.wpAt (model P w) (iCx P w K mg base F ar fI A outer s0 H0).A (.func body (iCx P w K mg base F ar fI A outer s0 H0).env) (exec (.Expr (.Call (.Attribute (.Call (.Name "super" p0) [] [] p1) "__init__" p2) [.Constant (.str m) j p3] [] p4) p5) (iCx P w K mg base F ar fI A outer s0 H0).env) Q E s1 := by
  obtain ⟨od, doc, pm, ct, osl, lk⟩ := U.lk
  obtain ⟨oc1, od1, osl1, lcc⟩ := U.ce
  obtain ⟨oc2, od2, vs2, osl2, file, tf, lcd, hvs, hfile⟩ := U.cd
  obtain ⟨a0, hpa, ha0⟩ := U.pa
  obtain ⟨cd, hcd, hdd⟩ := T.cd
  have kin : K.In s1.heap := I.kIn
  obtain ⟨t1, ho⟩ := exo_at I.hok he
  have IA : PySem.W.InstAt s1.heap e { cls := .ref C, data := .fields #[.ref t1, .none, .none, .none, .bool false, .none] } C none := ⟨ho, rfl, rfl, trivial⟩
  obtain ⟨oD, hD1, hD2⟩ : ∃ oD, s1.heap.get? C = some oD ∧ oD.data = .cls cd := by
    unfold PySem.W.clsIn at hcd
    split at hcd
    · rename_i c1 d1 cd1 sl1 ho1
      cases hcd
      exact ⟨_, kin _ _ ho1, rfl⟩
    · cases hcd
  have su := T.su
  unfold PySem.W.ks_superIn at su
  rw [hcd, Option.bind_some] at su
  obtain ⟨mb, hb1, hb2⟩ := I.mod.blt
  obtain ⟨ml, hns, hlk⟩ := I.loc
  obtain ⟨us, rus, lus⟩ := hlk 0 ("self" : Str) _ rfl h0 (.inl (U.sc.par _ (by simp)))
  obtain rfl : us = Value.ref e := rus
  have self : ml ("self" : Str) = some (Value.ref e) := by
    rcases lus with ⟨_, z⟩ | ⟨z, _⟩
    · exact z
    · have q : F.scope.names.lookup ("self" : Str) = some .local := U.sc.par _ (by simp)
      rcases z with z | z
      · have z : F.scope.names.lookup ("self" : Str) = some .cell := z
        rw [q] at z; cases z
      · have z : F.scope.names.lookup ("self" : Str) = some .free := z
        rw [q] at z; cases z
  have kcls : F.scope.names.lookup ("__class__" : Str) = some .free := U.sc.frk _ (by simp)
  have lcell : (iCx P w K mg base F ar fI A outer s0 H0).env.cells.lookup ("__class__" : Str) = some cc := by
    show F.cl.lookup ("__class__" : Str) = some cc
    rw [U.cl]; rfl
  obtain ⟨pl, hsp⟩ := hsp (iCx P w K mg base F ar fI A outer s0 H0).env
  refine ks_wpAt_Expr_any (ks_wpAt_MethodCall (pl := pl) (ks_wpAt_super_base (f := fI) (cc := F.c) (ar := a0) U.ks kcls rfl rfl (kin _ _ lk) rfl hpa rfl (kin _ _ lcd) rfl hvs hfile U.mt ?_) hsp) I.quiet
  refine PySem.W.ks_loadName_global I.ok.kind U.ks (PySem.Calls.loadGlobal_builtin (by rw [I.ok.glob]; exact I.mod.glob.keeps I.bk) U.ms (by rw [I.ok.blt]; exact hb1.keeps I.bk) ((hb2 _ (by decide)).trans (by rfl)) ⟨rfl, ?_⟩)
  refine wpAny_loadName_free I.ok.kind kcls lcell ⟨_, kin _ _ lcc, rfl⟩ ?_
  rw [ha0]
  refine wpAny_loadName_local I.ok.kind (U.sc.par _ (by simp)) hns self ?_
  obtain ⟨hh, g, dr, t, os⟩ := s1
  refine ks_wpAny_isType_cls hD1 hD2 ⟨rfl, ?_⟩
  refine ks_wpAny_call_super hD1 hD2 ho rfl (fun c z => nomatch z) (PySem.W.looks_mroIn kin T.mr) fun h' e' kp => ?_
  have J1 : Inv (iCx P w K mg base F ar fI A outer s0 H0) pins σ H ⟨h', g, dr, t, os⟩ := I.kept kp
  have IA1 : PySem.W.InstAt h' e { cls := .ref C, data := .fields #[.ref t1, .none, .none, .none, .bool false, .none] } C none := ⟨kp _ _ ho, rfl, rfl, trivial⟩
  refine PySem.W.kxs_getMethod T.KF e' (PySem.W.looks_opaque J1.kIn T.op) (l₀ := cd.mro) ((PySem.W.looks_clsIn J1.kIn hcd).andThen .now) rfl J1.kIn su (IA1.type.andThen (PySem.W.looks_subIn J1.kIn T.sB)) (PySem.W.ks_ne J1.kIn IA1 hcd) rfl ?_
  have up : ∀ b o, h'.get? b = some o → (h'.push (PySem.W.kxs_mw initId e)).get? b = some o := fun b o q => Heap.get?_push_of_some _ q
  have J2 : Inv (iCx P w K mg base F ar fI A outer s0 H0) pins σ H ⟨h'.push (PySem.W.kxs_mw initId e), g, dr, t + 1, os⟩ := J1.kept up
  have hmw : (h'.push (PySem.W.kxs_mw initId e)).get? h'.objs.size = some (PySem.W.kxs_mw initId e) := Heap.get?_push_at rfl rfl
  refine cw_mw (i := initId) (x := e) rfl (PySem.Calls.spliced_cons (PySem.Calls.Constant_str (pos := p3) (k := j) (PySem.Calls.spliced_nil ⟨hmw, ?_⟩)))
  have J3 := J2.tok (t + 1 + 1)
  refine mw_call T J3.kIn (up _ _ (kp _ _ ho)) hmw (by rw [sizeLine_eq]; simp) fun h2 t2 k2 hx => hq _ ?_
  have J4 := J3.write (t' := t + 1 + 1) (x := e) (e := e) (o := exo e C none) (by rw [he]; exact True.intro) (.inl rfl) k2 ⟨_, hx⟩ (exo_ok hx)
  have eu : upd H e (exo e C none) = H := funext fun b => by
    rcases Classical.em (b = e) with z | z
    · rw [z, upd_same, he]
    · rw [upd_ne z]
  rw [eu] at J4
  exact J4
end
end DF

set_option maxHeartbeats 2000000
namespace DF
open PySem PySem.Spec PyProof.Rows L2
variable {gq : Bool}
section
variable {P : Program} {w : World} {K : PySem.W.Frag} {mg : Str → Option Value} {base : Heap} {C fI cc e : Addr} {B newId initId : String} {bmB : List Value} {fl ar : Str} {F : NdefX.NF} {Fk : Fn} {k : Nat} {A : Around} {outer : List Env} {s : Shared} {G H : Hp} {u : Value} {v : V} {d d' : D} {ρe : DEnv}
theorem ini_run (T : XCls K C B newId initId bmB fl) (U : XIni P K mg C fI cc F fl ar) (hk : Has P w K mg base "kept" k ["value"] Fk gq) (hr : RoomG (k + 1) A gq) (e0 : Env0 P w K mg base A outer s H) (he : H e = some (exo e C none)) (ru : RelV v u)
    (hv : Is K G d v) (eS : Evl.Ex G H) (tb : TabK K G H) (hkv : keptV Fk d = .ok ρe d')
    {Qr : VK} (hq : ∀ G2 H2 y dx, FStp K [] G H G2 H2 → Is K G2 d' y → H2 e = some (exo e C none) → H2 dx = none → dx ≠ e → Qr .non (upd (upd H2 dx (exd dx [(fl, y)])) e (exo e C (some dx)))) :
    codeAny (model P w) A (.call (.ref fI) ⟨[.ref e, u], []⟩) (CR (L2.CX P w) outer P w H s Qr (fun _ _ _ => False)) s := by
  obtain ⟨od, doc, pm, ct, osl, lk⟩ := U.lk
  obtain ⟨oc1, od1, osl1, lcc⟩ := U.ce
  obtain ⟨m, j, p0, p1, p2, p3, p4, p5, p6, p7, p8, p9, p10, p11, hbd, hsp⟩ := U.bd
  have inK : K.In s.heap := e0.mod.kin.keeps fun b o q => (e0.bs b o q).1
  have CA : NdefX.CellsAt F.cl ["__class__"] [none] s.heap H := by
    have one : ∀ {y : Str} {c : Addr}, F.cl.lookup y = some c → y = "__class__" ∧ c = cc := fun {y c} q => by
      rw [U.cl] at q
      unfold List.lookup at q
      split at q
      · rename_i h; cases q; exact ⟨beq_iff_eq.mp h, rfl⟩
      · cases q
    refine ⟨rfl, fun y c q => ?_, fun x y c q1 q2 => (one q1).1.trans (one q2).1.symm, fun i y q => ?_⟩
    · obtain ⟨_, rfl⟩ := one q
      exact ⟨(e0.bs _ _ (e0.mod.kin _ _ lcc)).2, _, _, inK _ _ lcc, rfl⟩
    · match i, q with
      | 0, q =>
        cases q
        exact ⟨cc, by rw [U.cl]; rfl, fun v z => by cases z⟩
      | _ + 1, q => cases q
  refine ks_codeAny_call_defAt (fd := F.fd doc pm ct) (body := F.body) (binds := ([("self" : Str), ar]).zip [.ref e, u]) hr.room.depth (inK _ _ lk) rfl (e0.mod.nolimit.keeps fun b o q => (e0.bs b o q).1) (PySem.W.codeRec_of inK U.ci) rfl (.of_eq (U.bi doc pm ct _ rfl)) U.sc.nocell
    (fun ⟨n, x⟩ hy => U.sc.par n (List.of_mem_zip hy).1) (fun h₀ hns kp => ?_) U.sc.co U.sc.gen U.sc.kind
  have J0 : Inv (iCx P w K mg base F ar fI A outer s H) [] (NdefX.startF ["self", ar, "__class__"] [.ref e, v] [none]) H { s with heap := h₀, toks := s.toks + (([("self" : Str), ar]).zip [Value.ref e, u]).length } :=
    NdefX.inv_startN (vs := [.ref e, v]) U.sc hr.room.hd e0 rfl (.cons rfl (.cons ru .nil)) CA hns kp
  show _root_.PySem.wpAt (model P w) (iCx P w K mg base F ar fI A outer s H).A (.func F.body (iCx P w K mg base F ar fI A outer s H).env) (execs F.body (iCx P w K mg base F ar fI A outer s H).env) _ _ _
  rw [hbd]
  refine ks_wpAt_execs_cons (ini_super T U J0 rfl he hsp fun s2 J2 => ?_)
  obtain ⟨t, ht, hz⟩ := ini_keep (w := w) (base := base) (fI := fI) (A := A) (outer := outer) (s := s) (p6 := p6) (p7 := p7) (p8 := p8) (p9 := p9) (p10 := p10) (p11 := p11) T U hk (hr.deeper _) hv eS tb he hkv hq
  refine wpAt_of_wpAny (wpAny_mono (ht.run [] s2 _ H _ J2 hz) (fun fl s' hs => ?_) fun _ _ z => z)
  rcases fl with _ | _ | _ | x
  · obtain ⟨σ', H', J, q⟩ := hs
    exact ⟨.non, H', J.os, J.bare, J.base, J.hok, rfl, q⟩
  · obtain ⟨_, _, _, q⟩ := hs
    exact False.elim q
  · obtain ⟨_, _, _, q⟩ := hs
    exact False.elim q
  · obtain ⟨v', _, H', J, rv, q⟩ := hs
    exact ⟨v', H', J.os, J.bare, J.base, J.hok, rv, q⟩
end
theorem TabK.stayD {K : PySem.W.Frag} {G H H' : Hp} (t : TabK K G H) (h1 : ∀ b ps, H b = some (.tbl ps) → H' b = some (.tbl ps)) (h2 : ∀ c q, H c = some (LamX.CodeO c q) → H' c = some (LamX.CodeO c q)) : TabK K G H' := fun x hx c P h => by
  obtain ⟨t1, ps, a, b, am⟩ := t x hx c P h
  refine ⟨t1, ps, h1 _ _ a, b, fun pos cv e => ?_⟩
  obtain ⟨c', e1, e2⟩ := am pos cv e
  exact ⟨c', e1, h2 _ _ e2⟩
theorem exo_code {e C : Addr} {q : Str} {h : Heap} {t0 : Addr} (hg : h.get? e = some (PySem.W.excObj C t0 none .none)) : exo e C none ≠ LamX.CodeO e q := fun z => by
  unfold exo LamX.CodeO at z
  injection z with z
  have y := congrFun z h
  have : ∃ t1 : Addr, h.get? e = some ({ cls := .ref C, dict := none, data := .fields #[.ref t1, .none, .none, .none, .bool false, .none] } : Obj) := ⟨t0, hg⟩
  rw [y] at this
  obtain ⟨oc, vs, t, e1, e2, e3⟩ := this
  rw [hg] at e1; cases e1
  cases e2
  cases e3
end DF

set_option maxHeartbeats 2000000
namespace DF
open PySem PySem.Spec PyProof.Rows L2
variable {gq : Bool}
structure HasX (P : Program) (K : PySem.W.Frag) (mg : Str → Option Value) (x fl : Str) : Prop where
  ex : ∃ (C fI cc : Addr) (B newId initId : String) (bmB : List Value) (F : NdefX.NF) (ar : Str), cv K x = .ref C ∧ mg x = some (.ref C) ∧ XCls K C B newId initId bmB fl ∧ XIni P K mg C fI cc F fl ar ∧ XfC K C
theorem HasX.nm {P : Program} {K : PySem.W.Frag} {mg : Str → Option Value} {x fl : Str} (h : HasX P K mg x fl) : mg x = some (cv K x) := by
  obtain ⟨C, _, _, _, _, _, _, _, _, h1, h2, _⟩ := h.ex
  rw [h1, h2]
theorem HasE.nm {K : PySem.W.Frag} {mg : Str → Option Value} {x : Str} (h : HasE K mg x) : mg x = some (cv K x) := by
  obtain ⟨C, _, _, _, _, h1, h2, _⟩ := h.ex
  rw [h1, h2]
theorem HasX.ey {X : Cx} {x fl : Str} (h : HasX X.prog X.K X.mg x fl) {i : Nat} {a : Addr} {oe : Obj} {cls : Value} {d : Option Addr} {pn : List (Addr × Obj)} {n : Str} {p pos : Pos} (hz : Zc cls d oe) (hf : ∃ vs, oe.data = .fields vs)
    (hN : X.N[i]? = some n) (hv : Vis X.env.scope n) (hd : (n == ("__debug__" : Str)) = false := by decide) (hcd : (n == ("__classdict__" : Str)) = false := by decide)
    (hb : attributeBase (.Name n p) fl (X.suite a ((a, oe) :: pn)).env (eval (.Name n p) (X.suite a ((a, oe) :: pn)).env) = eval (.Name n p) (X.suite a ((a, oe) :: pn)).env := by rfl) :
    EY (X.suite a ((a, oe) :: pn)) i a cls d (cv X.K x) fl (.Attribute (.Name n p) fl pos) yFld := by
  obtain ⟨C, _, _, _, _, _, _, _, _, h1, _, T, _, xf⟩ := h.ex
  rw [h1]
  exact ey_fld xf T.nf hz hf hN hv hd hcd hb
theorem xfin {K : PySem.W.Frag} {G1 G2 H1 H2 : Hp} {e C dx : Addr} {fl : Str} {y : V} {h : Heap} {t0 : Addr} (hg : h.get? e = some (PySem.W.excObj C t0 none .none)) (eS : Evl.Ex G1 H1) (n1 : H1 e = none) (fs : FStp K [] G1 (upd H1 e (exo e C none)) G2 H2) (he : H2 e = some (exo e C none)) (hd : H2 dx = none) (ne : dx ≠ e) :
    FStp K [] G1 H1 G2 (upd (del (upd (upd H2 dx (exd dx [(fl, y)])) e (exo e C (some dx))) e) dx (.xd [(fl, y)])) := by
  have at_ : ∀ {b : Addr}, b ≠ e → b ≠ dx → upd (del (upd (upd H2 dx (exd dx [(fl, y)])) e (exo e C (some dx))) e) dx (.xd [(fl, y)]) b = H2 b := fun {b} z1 z2 => by rw [upd_ne z2, del_ne z1, upd_ne z1, upd_ne z2]
  have old : ∀ {b : Addr} {o : HO}, H1 b = some o → b ≠ e := fun q z => by rw [z, n1] at q; cases q
  have ndx : ∀ {b : Addr} {o : HO}, H2 b = some o → b ≠ dx := fun q z => by rw [z, hd] at q; cases q
  have ge : G2 e = none := by
    cases q : G2 e with
    | none => rfl
    | some o =>
      have z := fs.n e (sub_none eS n1) (by rw [q]; exact fun z => by cases z)
      rw [upd_same] at z; cases z
  have to : ∀ {b : Addr} {o : HO}, H2 b = some o → b ≠ e → upd (del (upd (upd H2 dx (exd dx [(fl, y)])) e (exo e C (some dx))) e) dx (.xd [(fl, y)]) b = some o := fun q z => by rw [at_ z (ndx q)]; exact q
  refine ⟨fs.g, fun b o _ q nt => ?_, fun b q => ?_, fun b q1 q2 => ?_, fun b o q => ?_, ?_, fun b ps q => ?_⟩
  · exact to (fs.h b o (by simp) (by rw [upd_ne (old q)]; exact q) nt) (old q)
  · rcases Classical.em (b = e) with z | z
    · rw [z]; exact n1
    · rcases Classical.em (b = dx) with z2 | z2
      · rw [z2, upd_same] at q; cases q
      · rw [at_ z z2] at q
        have r := fs.t b q
        rw [upd_ne z] at r
        exact r
  · have r := fs.n b q1 q2
    rw [upd_ne (fun z => by rw [z, ge] at q2; exact q2 rfl)] at r
    exact r
  · exact to (fs.s b o q) fun z => by rw [z, ge] at q; cases q
  · refine fs.tb.stayD (fun b ps q => to q fun z => ?_) fun c q r => to r fun z => ?_
    · rw [z, he] at q
      exact exo_tbl (Option.some.inj q)
    · subst z
      rw [he] at r
      exact exo_code hg (Option.some.inj r)
  · obtain ⟨mo, r⟩ := fs.gr b ps (by rw [upd_ne (old q)]; exact q)
    exact ⟨mo, to r (old q)⟩
section
variable {X : Cx} {W : WX} {x fl : Str} {ea : Expr} {p pos pos' : Pos} {f : DEnv → R D} {Fk : Fn} {k : Nat}
noncomputable def dRaiseX (x fl : Str) (Fk : Fn) (f : DEnv → R D) : DEnv → SR := fun ρ => (f ρ).bindS fun d ρ' => match keptV Fk d with
  | .ok _ d' => .ex ρ' ⟨x, some (fl, d')⟩
  | _ => .no
@[simp] theorem dRaiseX_ap (x fl : Str) (Fk : Fn) (f : DEnv → R D) (ρ : DEnv) : dRaiseX x fl Fk f ρ = (f ρ).bindS fun d ρ' => match keptV Fk d with
  | .ok _ d' => .ex ρ' ⟨x, some (fl, d')⟩
  | _ => .no := id rfl
noncomputable def tMkX (K : PySem.W.Frag) (W : WX) (x fl : Str) (Fk : Fn) (f : DEnv → R D) : L2.St → Hp → XK → Prop := fun σ H Q => ∃ ρ G, Rep K G H ρ σ ∧ Go K W σ ρ G H (fun d ρ' G' H' => ∃ ρe d', keptV Fk d = .ok ρe d' ∧ ∀ G2 H2 dd y, Stp ρ' σ G' H' ρ' σ G2 H2 → Rep K G2 H2 ρ' σ → H2 dd = some (.xd [(fl, y)]) → Is K G2 d' y → Q (cv K x) (some dd) H2) (f ρ)
theorem pmk_x (h : HasX X.prog X.K X.mg x fl) (hk : Has X.prog X.w X.K X.mg X.base "kept" k ["value"] Fk gq) (hr : RoomG (k + 2) X.A gq) (hg : Gl X x) (ha : DE X W ea f) (hdb : (x == ("__debug__" : Str)) = false := by decide)
    (hs : starEach [ea] X.env = (false, eval ea X.env) :: starEach [] X.env := by rfl) : PMk X (.Call (.Name x p) [ea] [] pos) (tMkX X.K W x fl Fk f) := by
  obtain ⟨C, fI, cc, B, newId, initId, bmB, F, ar, hcv, hm, T, U, _⟩ := h.ex
  intro pins s σ H Q I ⟨ρ, G, R, hgo⟩
  refine wpAny_Call_Name_kw (ld_glob I hg hm ?_ hdb)
  refine PySem.W.callWith_K (h₀ := X.base) I.ok.mod.kin T.kp (thn ((pa_cons ha pa_nil hs).run pos pins s σ H (fun vs H1 => ∃ v ρ' G1 d ρe d', vs = [v] ∧ Stp ρ σ G H ρ' σ G1 H1 ∧ Rep X.K G1 H1 ρ' σ ∧ Is X.K G1 d v ∧ keptV Fk d = .ok ρe d' ∧ ∀ G2 H2 dd y, Stp ρ' σ G1 H1 ρ' σ G2 H2 → Rep X.K G2 H2 ρ' σ → H2 dd = some (.xd [(fl, y)]) → Is X.K G2 d' y → Q (cv X.K x) (some dd) H2) I
    ⟨ρ, G, R, hgo.imp fun d ρ' G1 H1 s1 R1 ⟨ρe, d', z1, z2⟩ v hv => ⟨v, ρ', G1, d, ρe, d', rfl, s1, R1, hv, z1, z2⟩⟩) fun us s1 ⟨vs, H1, I1, r1, v, ρ', G1, d, ρe, d', ev, st1, R1, hv, hkv, q⟩ => ⟨I1.kIn, ?_⟩) hs (by rfl)
  subst ev
  obtain ⟨u, eu, ru⟩ := vals1 r1
  subst eu
  show wpAny _ _ (call (.ref C) [u]) _ _ _
  obtain ⟨nm, N', qn, bs, bm, hdct, sn, sub, ab, col, dd, k0, k1, k2, k3, k5, hC, hT⟩ := PySem.W.excInit_of I1.kIn T.ini
  obtain ⟨hp, g, dr, tk, os⟩ := s1
  have n1 : H1 (hp.objs.size + 1) = none := I1.hok.fresh (Nat.le_succ _)
  have kk : ∀ b o, hp.get? b = some o → ((hp.push (PySem.W.kdv_tup [u])).push (PySem.HandSPX.excO C hp.objs.size)).get? b = some o := fun b o q => Heap.get?_push_of_some _ (Heap.get?_push_of_some _ q)
  have hget : ((hp.push (PySem.W.kdv_tup [u])).push (PySem.HandSPX.excO C hp.objs.size)).get? (hp.objs.size + 1) = some (PySem.W.excObj C hp.objs.size none .none) := by heap_get
  have I2 := I1.laid (t' := tk) (a := hp.objs.size + 1) (o := exo (hp.objs.size + 1) C none) kk (Nat.le_succ _) (exo_ok hget)
  have exN : Evl.Ex G1 (upd H1 (hp.objs.size + 1) (exo (hp.objs.size + 1) C none)) := fun b o q => by
    rw [upd_ne (fun z => by rw [z, sub_none R1.sub n1] at q; cases q)]; exact R1.sub b o q
  have tb2 : TabK X.K G1 (upd H1 (hp.objs.size + 1) (exo (hp.objs.size + 1) C none)) := R1.tb.ext (Evl.Ex.new n1) fun b q1 q2 => absurd q1 q2
  refine wpAny_call (PySem.HandSPX.call_own T.FB hT hC (PySem.W.looks_findIn I1.kIn U.it) (fun self => PySem.W.bind_fn I1.kIn self U.isf) (by rw [sizeLine_eq]; simp)
    (codeAny_mono (ini_run T U hk (hr.make C [u]) (I2.env0.make C [u] []) upd_same ru hv exN tb2 hkv
      (Qr := fun v H' => v = .non ∧ ∃ G2 H2 y dx, H' = upd (upd H2 dx (exd dx [(fl, y)])) (hp.objs.size + 1) (exo (hp.objs.size + 1) C (some dx)) ∧ FStp X.K [] G1 (upd H1 (hp.objs.size + 1) (exo (hp.objs.size + 1) C none)) G2 H2 ∧ Is X.K G2 d' y ∧ H2 (hp.objs.size + 1) = some (exo (hp.objs.size + 1) C none) ∧ H2 dx = none ∧ dx ≠ hp.objs.size + 1)
      fun G2 H2 y dx a1 a2 a3 a4 a5 => ⟨rfl, G2, H2, y, dx, rfl, a1, a2, a3, a4, a5⟩) fun r s' hq' => ?_))
  rcases r with er | fl2
  · obtain ⟨_, _, _, _, _, _, _, _, _, _, _, _, z⟩ := (show L2.CX X.prog X.w X.stack _ _ (fun _ _ _ => False) er s' from hq')
    exact z.elim
  · rcases fl2 with _ | _ | _ | r
    · exact False.elim hq'
    · exact False.elim hq'
    · exact False.elim hq'
    · obtain ⟨v2, H3, os2, bare2, un2, hok2, rv, ev2, G2, H2, y, dx, e3, a1, a2, a3, a4, a5⟩ := hq'
      subst ev2
      subst e3
      obtain ⟨h2, g2, d2, t2, os'⟩ := s'
      have F4 := xfin (fl := fl) (y := y) hget R1.sub n1 a1 a3 a4 a5
      obtain ⟨S4, R4⟩ := vstp R1 F4
      have d1 : H1 dx = none := by
        have z := a1.t dx a4
        rw [upd_ne a5] at z
        exact z
      refine ⟨rv, mk_end (fs := [(fl, y)]) (raises_own T.sE T.ty) I1 (Nat.le_succ _) kk un2 hok2 os2 bare2 upd_same (by rw [upd_ne a5, upd_same]) d1 ?_⟩
      have z := q _ _ dx y S4 R4 upd_same a2
      rw [hcv] at z
      exact z
theorem ds_raiseX (h : HasX X.prog X.K X.mg x fl) (hk : Has X.prog X.w X.K X.mg X.base "kept" k ["value"] Fk gq) (hr : RoomG (k + 2) X.A gq) (hc : X.calm = true) (tk : Takes X W) (hg : Gl X x) (ha : DE X W ea f) (hdb : (x == ("__debug__" : Str)) = false := by decide)
    (hs : starEach [ea] X.env = (false, eval ea X.env) :: starEach [] X.env := by rfl) : DS X W (.Raise (some (.Call (.Name x p) [ea] [] pos)) none pos') (dRaiseX x fl Fk f) :=
  ps_imp (ps_raise hc tk (pmk_x h hk hr hg ha hdb hs)) fun E σ H ⟨ρ, G, R, h⟩ => ⟨ρ, G, R, (Go.bindS R h).imp fun d ρ' G' H' s R' h1 => by
    split at h1
    · rename_i ρe d' e1
      exact ⟨ρe, d', e1, fun G2 H2 dd y s2 R2 e2 hy => h1 (some dd) σ G2 H2 s2 R2 ⟨dd, y, rfl, e2, hy⟩⟩
    · exact False.elim h1⟩
end
end DF

namespace DF
open PySem PySem.Spec PyProof.Rows L2
variable {gq : Bool}
theorem fnG_no {P : Program} {w : World} {K : PySem.W.Frag} {mg : Str → Option Value} {base : Heap} {f : Addr} {fd : FuncData} {ps : List Str} : FnG P w K mg base (L2.CX P w) 0 f fd ps (spD K ps.length fun _ => .no) gq :=
  ⟨fun vs H Q E h => h.1, fun A outer s H us vs Q E hr e0 hb r ⟨_, _, _, _, _, _, _, z⟩ => z.elim⟩
theorem cv_of {K : PySem.W.Frag} {x : Str} {v : Value} (h : PySem.W.nsIn K mainGlobals x = some (some v)) : cv K x = v := by unfold cv; rw [h]
end DF

namespace DF
open PySem PySem.Spec PyProof.Rows L2
variable {gq : Bool}
theorem de_fn {X : Cx} {W : WX} {x : Str} {pos : Pos} {f : Addr} (hg : Gl X x) (hm : X.mg x = some (.ref f)) (hn : PySem.W.nsIn X.K mainGlobals x = some (some (.ref f))) (hd : (x == ("__debug__" : Str)) = false := by decide) : DE X W (.Name x pos) (dC (.fn x)) :=
  de_const (pe_glob hg hm (show RelV (.ref f) (.ref f) from rfl) hd) fun _ => .fn hn
structure FnV (P : Program) (w : World) (K : PySem.W.Frag) (mg : Str → Option Value) (base : Heap) (k ar : Nat) (x : Str) (F : Fn) (gq : Bool) : Prop where
  ex : ∃ (f : Addr) (fd : FuncData) (ps : List Str), PySem.W.nsIn K mainGlobals x = some (some (.ref f)) ∧ PySem.W.keepIn K (.ref f) = true ∧ Binds K fd ps [] ∧ ps.length = ar ∧ FnG P w K mg base (L2.CX P w) k f fd ps (spD K ar F) gq
noncomputable def pickF : List (Str × Fn) → Str → Option Fn
  | [], _ => none
  | (y, F) :: r, x => if x = y then some F else pickF r x
noncomputable def dCalV (ar i : Nat) (L : List (Str × Fn)) (f : DEnv → R (List AD)) : DEnv → R (Bool × D) := fun ρ => match ρ[i]? with
  | some (some (.val (.fn x))) => match pickF L x with
    | some F => dCal2 ar F f ρ
    | none => .no
  | _ => .no
@[simp] theorem dCalV_ap (ar i : Nat) (L : List (Str × Fn)) (f : DEnv → R (List AD)) (ρ : DEnv) : dCalV ar i L f ρ = match ρ[i]? with
  | some (some (.val (.fn x))) => match pickF L x with
    | some F => dCal2 ar F f ρ
    | none => .no
  | _ => .no := id rfl
inductive FnVs (P : Program) (w : World) (K : PySem.W.Frag) (mg : Str → Option Value) (base : Heap) (k ar : Nat) (gq : Bool) : List (Str × Fn) → Prop
  | nil : FnVs P w K mg base k ar gq []
  | cons {x : Str} {F : Fn} {L : List (Str × Fn)} : FnV P w K mg base k ar x F gq → FnVs P w K mg base k ar gq L → FnVs P w K mg base k ar gq ((x, F) :: L)
section
variable {X : Cx} {W : WX} {x : Str} {e : Expr} {es : List Expr} {p pos : Pos} {k ar i : Nat} {L : List (Str × Fn)} {f : DEnv → R (List AD)}
theorem FnVs.pick {P : Program} {w : World} {K : PySem.W.Frag} {mg : Str → Option Value} {base : Heap} {x : Str} {F : Fn} : ∀ {L : List (Str × Fn)}, FnVs P w K mg base k ar gq L → pickF L x = some F → FnV P w K mg base k ar x F gq
  | _, .nil, e => by cases e
  | (y, F') :: L, .cons h r, e => by
    unfold pickF at e
    split at e
    · rename_i q
      cases e
      subst q
      exact h
    · exact r.pick e
theorem dx_calV (hL : FnVs X.prog X.w X.K X.mg X.base k ar gq L) (hr : RoomG k X.A gq) (tk : Takes X W) (hN : X.N[i]? = some x) (hv : Vis X.env.scope x) (ha : DR X W (e :: es) f)
    (hdb : (x == ("__debug__" : Str)) = false := by decide) (hcd : (x == ("__classdict__" : Str)) = false := by decide)
    (he : starEach (e :: es) X.env = (false, eval e X.env) :: starEach es X.env := by rfl) (hpl : (backTo pos (starEach es X.env)).any (·.1) = false := by rfl) : DX X W (.Call (.Name x p) (e :: es) [] pos) (dCalV ar i L f) := by
  exact ⟨fun pins s σ H Q I ⟨ρ, G, R, hgo⟩ => by
  unfold dCalV at hgo
  split at hgo
  · rename_i y e1
    split at hgo
    · rename_i F hF
      obtain ⟨v, e2, hy⟩ := R.vl i _ e1
      cases hy with
      | @fn _ fa hn =>
        obtain ⟨f', fd, ps, hn', hk, hb, har, FO⟩ := (hL.pick hF).ex
        rw [hn] at hn'
        cases hn'
        have z := tcall (W := W) σ H Q ⟨ρ, G, R, hgo⟩
        refine wpAny_Call_Name_kw (thn ((pe_var (pos := p) hN hv hdb hcd).run pins s σ H (fun v H1 => v = .ref fa ∧ H1 = H) I ⟨.ref fa, e2, rfl, rfl⟩) fun u s1 ⟨v, H1, I1, r1, q1, q2⟩ => ?_)
        subst q1; subst q2
        obtain rfl : u = Value.ref fa := r1
        exact PySem.W.callWith_K (h₀ := X.base) I1.ok.mod.kin hk (thn (ha.run pos pins s1 σ _ _ I1 z) fun us s2 ⟨vs, H2, I2, r, q⟩ => ⟨I2.kIn, call_G (E := fun σ cls d H => W cls d σ H) FO hr hb (passAt tk σ) I2 r (by simpa using q)⟩) he hpl
    · exact False.elim hgo
  · exact False.elim hgo⟩
end
end DF
namespace DF
open PySem PySem.Spec PyProof.Rows L2
noncomputable def FnName (K : PySem.W.Frag) (mg : Str → Option Value) (x : Str) : Prop := ∃ f : Addr, mg x = some (.ref f) ∧ PySem.W.nsIn K mainGlobals x = some (some (.ref f))
theorem de_fnH {X : Cx} {W : WX} {x : Str} {pos : Pos} (h : FnName X.K X.mg x) (hg : Gl X x) (hd : (x == ("__debug__" : Str)) = false := by decide) : DE X W (.Name x pos) (dC (.fn x)) := by
  obtain ⟨f, h1, h2⟩ := h
  exact de_fn hg h1 h2 hd
theorem fnV_of {P : Program} {w : World} {K : PySem.W.Frag} {mg : Str → Option Value} {base : Heap} {j k ar : Nat} {x : Str} {ps : List Str} {F : Fn} {gq : Bool} (h : Has P w K mg base x j ps F gq) (fv : FnName K mg x) (hj : j ≤ k) (har : ps.length = ar := by rfl) : FnV P w K mg base k ar x F gq := by
  subst har
  obtain ⟨f, fd, a, b, c, d⟩ := h.ex
  obtain ⟨f', h1, h2⟩ := fv
  rw [a] at h1
  cases h1
  exact ⟨f, fd, ps, h2, b, c, rfl, d.mono hj⟩
end DF
namespace DF
open PySem PySem.Spec PyProof.Rows L2
noncomputable def addS (x y : D) : Option D := match x, y with
  | .str a, .str b => if a.length + b.length ≤ 1000 then some (.str (a ++ b)) else none
  | _, _ => none
theorem ops_addS {K : PySem.W.Frag} : OpS K (fun x y H Q => ∃ i j, x = .str i ∧ y = .str j ∧ i.length + j.length ≤ sizeLine ∧ Q (.str (i ++ j)) H) addS := fun x y z v u G H Q eS hx hy e k => by
  unfold addS at e
  split at e
  · split at e
    · rename_i a b h
      cases hx; cases hy; cases e
      exact ⟨a, b, rfl, rfl, by rw [sizeLine_eq]; omega, k _ G H (New.refl eS) (.str _)⟩
    · cases e
  · cases e
noncomputable def addW : D → D → Option D := orD addD addS
end DF

set_option maxHeartbeats 1000000
namespace DF
variable {gq : Bool}
open PySem PySem.Spec PyProof.Rows L2
structure HasEq (P : Program) (w : World) (K : PySem.W.Frag) (mg : Str → Option Value) (base : Heap) (cn : Str) (k : Nat) (F : Fn) (gq : Bool := true) : Prop where
  ex : ∃ (C g : Addr) (fd : FuncData) (ps : List Str), ClsT K cn C ∧ PySem.W.findIn K (.ref C) "__eq__" = some (some (.ref g)) ∧ PySem.W.isFn K (.ref g) = true ∧ Binds K fd ps [] ∧ FnG P w K mg base (L2.CX P w) k g fd ps (spD K 2 F) gq
section
variable {prog : Program} {w : World} {A : Around} {E : Value → Shared → Prop} {s : Shared} {K : PySem.W.Frag} {x C L f : Addr} {h₀ : Heap} {m : Str → Option Value} {ox : Obj} {od : Option Obj} {b tb : Value}
end
structure HasNe (P : Program) (w : World) (K : PySem.W.Frag) (mg : Str → Option Value) (base : Heap) (cn : Str) (k : Nat) (F : Fn) (gq : Bool := true) : Prop where
  ex : ∃ (C g : Addr) (fd : FuncData) (ps : List Str), ClsT K cn C ∧ PySem.W.findIn K (.ref C) "__eq__" = some (some (.ref g)) ∧ PySem.W.isFn K (.ref g) = true ∧ PySem.W.findIn K (.ref C) "__ne__" = some (some (.builtin "object.__ne__")) ∧ PySem.W.mroIn K C (.type "object") = some true ∧ Binds K fd ps [] ∧ FnG P w K mg base (L2.CX P w) k g fd ps (spD K 2 F) gq
theorem HasNe.eq {P : Program} {w : World} {K : PySem.W.Frag} {mg : Str → Option Value} {base : Heap} {cn : Str} {k : Nat} {F : Fn} (h : HasNe P w K mg base cn k F gq) : HasEq P w K mg base cn k F gq := by
  obtain ⟨C, g, fd, ps, T, h1, h2, _, _, h3, h4⟩ := h.ex
  exact ⟨C, g, fd, ps, T, h1, h2, h3, h4⟩
section
variable {X : Cx} {W : WX} {a b : Expr} {fo fa : DEnv → R D} {cn : Str} {j k : Nat} {F : Fn} {pos : Pos}
end
end DF

set_option maxHeartbeats 1000000
namespace DF
variable {gq : Bool}
open PySem PySem.Spec PyProof.Rows L2
section
variable {X : Cx} {W : WX} {o e : Expr} {es : List Expr} {fo fe : DEnv → R D} {cn : Str} {j k : Nat} {F : Fn} {pos p : Pos} {x : Str}
end
end DF

set_option maxHeartbeats 1000000
namespace DF
open PySem PySem.Spec PyProof.Rows L2
end DF

set_option maxHeartbeats 1000000
namespace DF
open PySem PySem.Spec PyProof.Rows L2
section
variable {K : PySem.W.Frag} {ρ ρ' : DEnv} {σ σ' σ2 : Sl} {G H G' H' : Hp} {vs : List Nat}
end
end DF

namespace DF
open PySem PySem.Spec PyProof.Rows L2
end DF

set_option maxHeartbeats 1000000
namespace DF
open PySem PySem.Spec PyProof.Rows L2
variable {gq : Bool}
noncomputable def codeOf (K : PySem.W.Frag) (f : Addr) : Value := match K.lookup f with
  | some ⟨_, _, .func fd, _⟩ => fd.code
  | _ => .none
noncomputable def lamCode (K : PySem.W.Frag) (x : Str) (cdv : Value) : Prop := ∃ c P, cdv = .ref c ∧ PySem.W.tabIn K x = some (c, P)
noncomputable def lamOkB (K : PySem.W.Frag) (x : Str) (f : Addr) : Bool := match PySem.W.tabIn K x with
  | some (c, _) => (match codeOf K f with
    | .ref c' => c' == c
    | _ => false)
  | none => false
theorem lamCode_of {K : PySem.W.Frag} {x : Str} {f : Addr} (h : lamOkB K x f = true) : lamCode K x (codeOf K f) := by
  unfold lamOkB at h
  split at h
  · rename_i c P e
    split at h
    · rename_i c' e2
      rw [beq_iff_eq] at h
      subst h
      exact ⟨_, P, e2, e⟩
    · cases h
  · cases h
section
variable {CX : CXT} {P : Program} {w : World} {K : PySem.W.Frag} {mg : Str → Option Value} {base : Heap}
theorem fn_GL {x qual : Str} {st : Stmt} {f : Addr} {fd : FuncData} {N ps : List Str} {k : Nat} {sp : Sp} (Fu : Fun K x qual st f fd) (S : FnScope N ps (defScope st)) (len : ∀ vs H Q E, sp vs H Q E → vs.length = ps.length)
    (hB : ∀ (cdv : Value) (A : Around) (outer : List Env) (s : Shared) (H : Hp) (vs : List V) (Q : VK) (E : XK), codeOf K f = cdv → RoomG k (A.deeper (envOfC qual (defScope st) s.heap.objs.size f cdv)) gq → sp vs H Q E →
      ∃ t, PSs (cxOf CX P w K mg base N qual (defScope st) f cdv A outer s H E) (defBody st) t ∧ t { nx := fun _ H' => Q .non H', rt := Q } (L2.start N vs) H) : FnG P w K mg base CX (k + 1) f fd ps sp gq where
  len := len
  run := by
    obtain ⟨oc, od, kV, doc, pm, an, cdv, ct, osl, rfl, lk, hcd⟩ := Fu.ex
    intro A outer s H us vs Q E hr e0 hb rv hsp
    have inK : K.In s.heap := e0.mod.kin.keeps fun b o e => (e0.bs b o e).1
    have noL := e0.mod.nolimit.keeps fun b o e => (e0.bs b o e).1
    have hcv : codeOf K f = cdv := by unfold codeOf; rw [lk]
    refine codeAny_call_function hr.room.depth (inK _ _ lk) rfl S.co S.gen rfl (PySem.W.codeRec_of inK hcd) (hb _ _ _ _ (wpAny_newFunctionEnv_cells S.kind ?kinds ?body))
    case kinds =>
      rintro ⟨y, v⟩ hy
      exact (S.par y (List.of_mem_zip hy).1).elim .inl fun q => .inr ⟨q, PySem.W.cellsFrom_some _ _ _ (.inl q)⟩
    case body =>
      rintro env rfl s1 x1
      obtain ⟨t, ht, hq⟩ := hB cdv A outer s H vs Q E hcv (hr.deeper _) hsp
      refine ⟨noL.keeps x1.toInCall.keep, codeAny_func (wpAny_mono (ht.run [] s1 _ H _ (inv_start S hr.room.hd e0 (len _ _ _ _ hsp) rv x1) hq) (fun fl s' hs => ?_) fun _ _ hs => hs)⟩
      rcases fl with _ | _ | _ | u
      · obtain ⟨_, H', J, q⟩ := hs
        exact ⟨V.non, H', J.os, J.bare, J.base, J.hok, rfl, q⟩
      · obtain ⟨_, _, _, q⟩ := hs
        exact False.elim q
      · obtain ⟨_, _, _, q⟩ := hs
        exact False.elim q
      · obtain ⟨v, _, H', J, rv', q⟩ := hs
        exact ⟨v, H', J.os, J.bare, J.base, J.hok, rv', q⟩
end
section
variable {P : Program} {w : World} {K : PySem.W.Frag} {mg : Str → Option Value} {base : Heap}
theorem fn_DL {x qual : Str} {st : Stmt} {f : Addr} {fd : FuncData} {N ps : List Str} {k : Nat} {F : Fn} (Fu : Fun K x qual st f fd) (S : FnScope N ps (defScope st)) (B : Nat → DEnv → SR)
    (hB : ∀ (n : Nat) (cdv : Value) (A : Around) (outer : List Env) (s : Shared) (H : Hp) (E : XK), codeOf K f = cdv → RoomG k (A.deeper (envOfC qual (defScope st) s.heap.objs.size f cdv)) gq →
      DSs (cxOf (L2.CX P w) P w K mg base N qual (defScope st) f cdv A outer s H E) (fun cls d _ H => E cls d H) (defBody st) (B n))
    (hF : ∀ as, as.length = ps.length → F as ≠ .no → ∃ n, fnRes as (B n (startE N.length as)) = F as) : FnG P w K mg base (L2.CX P w) (k + 1) f fd ps (spD K ps.length F) gq := by
  refine fn_GL Fu S (fun vs H Q E h => h.1) fun cdv A outer s H vs Q E hcv hr ⟨hl, G, as, eS, tb, ha, nd, hm⟩ => ?_
  have hne : F as ≠ .no := fun z => by rw [z] at hm; exact hm
  obtain ⟨n, hn⟩ := hF as (ha.length.trans hl) hne
  refine ⟨_, hB n cdv A outer s H E hcv hr, startE N.length as, G, Rep.start eS tb ha nd, ?_⟩
  rw [← hn] at hm
  have fst : ∀ {ρ' : DEnv} {σ' : Sl} {G' H' : Hp}, Stp (startE N.length as) (L2.start N vs) G H ρ' σ' G' H' → Rep K G' H' ρ' σ' → FStp K (ioA as vs) G H G' H' := fun {ρ' σ' G' H'} s R' =>
    ⟨s.g, fun b o n1 q nt => s.h b o (fun m => absurd (mu_start ha m).1 (by decide)) (fun m => n1 (mu_start ha m).2) q nt, s.t, fun b q1 q2 => (s.n b q1 q2).elim id fun m => absurd (mu_start ha m).1 (by decide), R'.sub, R'.tb, s.gr⟩
  have out : ∀ {ρ' : DEnv} {σ' : Sl} {G' H' : Hp} {l : List D}, Stp (startE N.length as) (L2.start N vs) G H ρ' σ' G' H' → Rep K G' H' ρ' σ' → outs ρ' 0 as = some l → OutsIs K G' H' as vs l := fun {ρ' σ' G' H' l} s R' e =>
    outs_is R' ha (fun j a q1 q2 ⟨d, q3⟩ => by
      have hs : (startE N.length as)[j]? = some (some (.mu true d)) := by
        unfold startE startC
        have hj : j < as.length := (List.getElem?_eq_some_iff.mp q3).1
        rw [List.getElem?_append_left (by rw [List.length_map]; exact hj), List.getElem?_map, q3]
        rfl
      obtain ⟨d', _, z⟩ := (s.io j).1 d hs
      rw [Nat.zero_add, z]
      exact start_get q2) e
  cases hr : B n (startE N.length as) with
  | no => rw [hr] at hm; exact hm
  | brk _ => rw [hr] at hm; exact (show False from hm).elim
  | cnt _ => rw [hr] at hm; exact (show False from hm).elim
  | nx ρ' =>
    rw [hr] at hm
    unfold fnRes at hm
    dsimp only at hm
    cases eo : outs ρ' 0 as with
    | none => rw [eo] at hm; exact False.elim hm
    | some l =>
      rw [eo] at hm
      exact fun σ' G' H' s R' => hm .non G' H' (fst s R') (out s R' eo) .non
  | ret ρ' fr d =>
    rw [hr] at hm
    unfold fnRes at hm
    dsimp only at hm
    cases eo : outs ρ' 0 as with
    | none => rw [eo] at hm; exact False.elim hm
    | some l =>
      rw [eo] at hm
      refine fun v σ' G' H' s R' q => hm v G' H' (fst s R') (out s R' eo) ?_
      cases fr with
      | false => exact q
      | true =>
        obtain ⟨a, q1, q2, q3, q4⟩ := q
        exact ⟨a, q1, q2, q3.elim (fun m => (s.ow a m).elim (fun m => absurd (mu_start ha m).1 (by decide)) id) id, q4⟩
  | ex ρ' e =>
    rw [hr] at hm
    unfold fnRes at hm
    dsimp only at hm
    cases eo : outs ρ' 0 as with
    | none => rw [eo] at hm; exact False.elim hm
    | some l =>
      rw [eo] at hm
      exact fun d σ' G' H' s R' q => hm d G' H' (fst s R') (out s R' eo) q
end
section
variable {P : Program} {w : World} {K : PySem.W.Frag} {mg mb : Str → Option Value}
noncomputable def withT (ts : List Addr) (G : Hp) : Hp := fun b => if b ∈ ts then some (.tbl #[]) else G b
theorem withT_in {ts : List Addr} {G : Hp} {b : Addr} (h : b ∈ ts) : withT ts G b = some (.tbl #[]) := if_pos h
theorem withT_out {ts : List Addr} {G : Hp} {b : Addr} (h : b ∉ ts) : withT ts G b = G b := if_neg h
theorem tab_env {s : Shared} {a : Addr} {vs : List Value} {G : Hp} {cs : List (Addr × Addr)} (KX : K.In s.heap) (hns : s.heap.Ns mainGlobals mg) (hb : s.heap.Ns builtinsNs mb) (hbb : ∀ x : Str, x ≠ "__name__" → mb x = bootBuiltins x) (hlim : s.heap.NoLimit) (hg : s.gens = #[])
    (ha : s.heap.get? a = some { cls := .type "list", data := .seq vs.toArray }) (hok : HOk P w (withT (cs.map (·.2)) G) s.heap) (hA : ∀ b, G b ≠ none → b = a ∧ K.lookup a = none)
    (hT : ∀ p ∈ cs, s.heap.get? p.2 = some { cls := .none, data := .fields #[] }) (nT : ∀ p ∈ cs, K.lookup p.2 = none) (hC : ∀ p ∈ cs, PySem.W.CodeHd s.heap p.1 p.2)
    (hbm : ∃ bm ob, mg "__builtins__" = some (.ref bm) ∧ bm ≠ builtinsNs ∧ s.heap.get? bm = some ob ∧ ob.cls = .type "module" ∧ ob.dict = some builtinsNs ∧ ob.data = .plain) :
    K.In (hidT s.heap (withT (cs.map (·.2)) G)) ∧ (hidT s.heap (withT (cs.map (·.2)) G)).Ns mainGlobals mg ∧ (s.heap.NoSeer → (hidT s.heap (withT (cs.map (·.2)) G)).NoSeer) ∧ Env0 P w K mg (hidT s.heap (withT (cs.map (·.2)) G)) callerA [] s (withT (cs.map (·.2)) G) ∧
      ∀ p ∈ cs, LamX.TabB (hidT s.heap (withT (cs.map (·.2)) G)) mg p.1 p.2 := by
  have isT : ∀ b ∈ cs.map (·.2), s.heap.get? b = some { cls := .none, data := .fields #[] } ∧ K.lookup b = none := fun b m => by
    obtain ⟨p, hp, rfl⟩ := List.mem_map.mp m
    exact ⟨hT p hp, nT p hp⟩
  have none_ : ∀ b : Addr, b ≠ a → b ∉ cs.map (·.2) → withT (cs.map (·.2)) G b = none := fun b h1 h2 => by
    rw [withT_out h2]
    rcases q : G b with _ | u
    · rfl
    · exact absurd (hA b (by rw [q]; nofun)).1 h1
  have look : ∀ {b : Addr} {o : Obj}, s.heap.get? b = some o → (∀ es ep, o.data ≠ .seq es ep) → (∀ fs, o.data ≠ .fields fs) → (hidT s.heap (withT (cs.map (·.2)) G)).get? b = some o := fun {b o} e h1 h2 =>
    hidT_get e (none_ b (fun z => by subst z; rw [ha] at e; cases e; exact h1 _ _ rfl) fun m => by
      rw [(isT b m).1] at e; cases e; exact h2 _ rfl)
  have dict : ∀ {b : Addr} {o : Obj} {es : Array DictEntry} {ep : Nat}, s.heap.get? b = some o → o.data = .dict es ep → (hidT s.heap (withT (cs.map (·.2)) G)).get? b = some o := fun e d =>
    look e (fun _ _ z => by rw [d] at z; cases z) fun _ z => by rw [d] at z; cases z
  have ns : ∀ {b : Addr} {m : Str → Option Value}, s.heap.Ns b m → (hidT s.heap (withT (cs.map (·.2)) G)).Ns b m := fun ⟨o, es, ep, e, d, r⟩ => ⟨o, es, ep, dict e d, d, r⟩
  have inK : K.In (hidT s.heap (withT (cs.map (·.2)) G)) := fun b o e => hidT_get (KX b o e) (by
    by_cases m : b ∈ cs.map (·.2)
    · rw [(isT b m).2] at e; cases e
    · rw [withT_out m]
      rcases q : G b with _ | u
      · rfl
      · obtain ⟨e1, e2⟩ := hA b (by rw [q]; nofun)
        rw [e1, e2] at e; cases e)
  obtain ⟨mc, l1, l2⟩ := hlim
  refine ⟨inK, ns hns, fun x => ⟨?_, ?_, ?_, ?_⟩, ⟨rfl, ⟨inK, ns hns, ⟨mb, ns hb, hbb⟩, ⟨mc, ns l1, l2⟩⟩, fun b o e => of_hidT e, Nat.le_of_eq (hidT_size _ _), trivial, fun b z => absurd z (List.not_mem_nil), hok, .of_eq hg⟩, fun p hp => ⟨?_, ?_, fun z => ?_⟩⟩
  · obtain ⟨mc, a1, a2⟩ := x.statics; exact ⟨mc, ns a1, a2⟩
  · obtain ⟨mc, a1, a2⟩ := x.mods; exact ⟨mc, ns a1, a2⟩
  · obtain ⟨mc, a1, a2⟩ := x.imp; exact ⟨mc, ns a1, a2⟩
  · obtain ⟨m2, bm, ob, a1, a2, a3, a4, a5⟩ := x.main
    have nl : bm ∉ cs.map (·.2) := fun m => by rw [(isT bm m).1] at a3; cases a3; exact absurd a4 (by decide)
    refine ⟨m2, bm, ob, ns a1, a2, hidT_get a3 (none_ bm (fun h => ?_) nl), a4, a5⟩
    subst h
    rw [ha] at a3
    cases a3
    exact absurd (show (Value.type "list") = Value.type "module" from a4) (by decide)
  · obtain ⟨o, us, file, tf, flags, tg, inF, text, tt, e1, r1, r2, r3, r4⟩ := hC p hp
    refine ⟨o, us, file, tf, flags, tg, inF, text, tt, hidT_get e1 (none_ p.1 (fun z => ?_) fun m => ?_), r1, r2, r3, r4⟩
    · rw [z, ha] at e1; cases e1; cases r2
    · rw [(isT _ m).1] at e1; cases e1; cases r2; simp at r3
  · obtain ⟨bm, ob, b1, b2, b3, b4, b5, b6⟩ := hbm
    have nG : bm ≠ mainGlobals := fun q => by
      obtain ⟨o, es, ep, e, hd, _⟩ := hns
      rw [q, e] at b3; cases b3
      rw [hd] at b6; cases b6
    have nP : bm ≠ p.2 := fun q => by rw [q, hT p hp] at b3; cases b3; cases b6
    exact ⟨bm, ob, b1, b2, nG, nP, look b3 (fun _ _ z => by rw [b6] at z; cases z) (fun _ z => by rw [b6] at z; cases z), b4, b5, b6⟩
  · obtain ⟨o, es, ep, e, hd, _⟩ := hns
    rw [z, hT p hp] at e; cases e; cases hd
variable {CX : CXT} {k : Nat} {fa : Addr} {fd : FuncData} {x : Str} {sp : Sp}
theorem law_GT {s : Shared} {a : Addr} {vs : List Value} {ns : List Int} (KX : K.In s.heap) (hns : s.heap.Ns mainGlobals mg) (hb : s.heap.Ns builtinsNs mb) (hbb : ∀ x : Str, x ≠ "__name__" → mb x = bootBuiltins x) (hlim : s.heap.NoLimit) (hg : s.gens = #[])
    (ha : s.heap.get? a = some { cls := .type "list", data := .seq vs.toArray }) (hi : IntsAre vs ns) (hl : ns.length ≤ sizeLine) (hr : Room k callerA) (hq : callerA.depth + 3 * k + 105 < recursionLimit) (hse : s.heap.NoSeer) {cs : List (Addr × Addr)}
    (hT : ∀ p ∈ cs, s.heap.get? p.2 = some { cls := .none, data := .fields #[] }) (nT : ∀ p ∈ cs, K.lookup p.2 = none) (hC : ∀ p ∈ cs, PySem.W.CodeHd s.heap p.1 p.2)
    (hbm : ∃ bm ob, mg "__builtins__" = some (.ref bm) ∧ bm ≠ builtinsNs ∧ s.heap.get? bm = some ob ∧ ob.cls = .type "module" ∧ ob.dict = some builtinsNs ∧ ob.data = .plain)
    (F : ∀ base : Heap, K.In base → base.Ns mainGlobals mg → base.NoSeer → (∀ p ∈ cs, LamX.TabB base mg p.1 p.2) → FnG P w K mg base CX k fa fd [x] sp) (hbind : ∀ (s : Shared) (u : Value), BindsTo s fd ⟨[u], []⟩ [(x, u)])
    (hsp : ∀ G H : Hp, Evl.Ex G H → (∀ p ∈ cs, G p.2 = none ∧ H p.2 = some (.tbl #[])) → SqL K G a (ns.map V.int) → sp [.ref a] H (fun v _ => v = .bl true) fun _ _ _ => False)
    (hCX : ∀ H e s', CX [] H s (fun _ _ _ => False) e s' → False) :
    codeAny (model P w) callerA (.call (.ref fa) ⟨[.ref a], []⟩) (fun r s' => r = .ok (.ret (.bool true)) ∧ OldK s.heap s'.heap ∧ s'.os = s.os ∧ AllBare s'.gens) s := by
  obtain ⟨G, hO, hS, hok, hA⟩ := script_heap (P := P) (w := w) KX ha hi hl
  have noG : ∀ p ∈ cs, G p.2 = none := fun p hp => by
    rcases q : G p.2 with _ | u
    · rfl
    · have e := hT p hp
      have z := (hA p.2 (by rw [q]; nofun)).1
      rw [z, ha] at e
      cases e
  have noG' : ∀ b ∈ cs.map (·.2), G b = none := fun b m => by
    obtain ⟨p, hp, rfl⟩ := List.mem_map.mp m
    exact noG p hp
  have eS : Evl.Ex G (withT (cs.map (·.2)) G) := fun b o e => by
    rw [withT_out fun m => by rw [noG' b m] at e; cases e]; exact e
  have hok2 : HOk P w (withT (cs.map (·.2)) G) s.heap := fun b u e => by
    by_cases m : b ∈ cs.map (·.2)
    · rw [withT_in m] at e
      cases e
      obtain ⟨p, hp, rfl⟩ := List.mem_map.mp m
      exact hT p hp
    · rw [withT_out m] at e
      rcases hO b with z | ⟨ob, xs, z⟩
      · rw [z] at e; cases e
      · rw [z] at e; cases e
        exact hok b _ z
  obtain ⟨k1, k2, k3, e0, tb⟩ := tab_env KX hns hb hbb hlim hg ha hok2 hA hT nT hC hbm
  refine codeAny_mono ((F _ k1 k2 (k3 hse) tb).run callerA [] s _ [.ref a] [.ref a] _ _ ⟨hr, fun _ => rfl, hq, fun _ => ⟨_, rfl⟩⟩ e0 (hbind s (.ref a)) (.cons rfl .nil) (hsp G _ eS (fun p hp => ⟨noG p hp, withT_in (List.mem_map.mpr ⟨p, hp, rfl⟩)⟩) hS)) fun r s' h => cr_ret (T := fun r s' => r = .ok (.ret (.bool true)) ∧ OldK s.heap s'.heap ∧ s'.os = s.os ∧ AllBare s'.gens) h ?_ fun e c => (hCX _ e s' c).elim
  rintro u ⟨v, H', os, bare, un, hok', r', q⟩
  obtain rfl : v = .bl true := q
  obtain rfl : u = Value.bool true := r'
  have grown : ∀ p ∈ cs, ∃ more : Array Value, s'.heap.get? p.2 = some { cls := .none, data := .fields more } := fun p hp => by
    obtain ⟨more, z⟩ := un.tbls p.2 #[] (withT_in (List.mem_map.mpr ⟨p, hp, rfl⟩))
    exact ⟨_, hok' p.2 _ z⟩
  have kept : ∀ b o, b ∉ cs.map (·.2) → s.heap.get? b = some o → s'.heap.get? b = some o := fun b o m e => by
    rcases hO b with z | ⟨ob, xs, z⟩
    · exact un.keep b o e ((withT_out m).trans z) (by intro y; exact absurd y (List.not_mem_nil)) (by simp)
    · have e1 := (hok b _ z).1
      have e2 := (hok' b _ (un.frzs b ob _ ((withT_out m).trans z))).1
      rw [e] at e1; cases e1
      exact e2
  refine ⟨rfl, ⟨fun b o e => ?_, fun b o e => ?_⟩, os, bare⟩
  · by_cases m : b ∈ cs.map (·.2)
    · obtain ⟨p, hp, rfl⟩ := List.mem_map.mp m
      obtain ⟨more, hm⟩ := grown p hp
      rw [hT p hp] at e
      cases e
      exact .inr (.inl ⟨((hC p hp).tab (hT p hp)).isCodeTable, rfl, #[], more, rfl, by rw [Array.empty_append]; exact hm⟩)
    · exact .inl (kept b o m e)
  · by_cases m : b ∈ cs.map (·.2)
    · obtain ⟨p, hp, rfl⟩ := List.mem_map.mp m
      obtain ⟨more, hm⟩ := grown p hp
      exact ⟨_, hm⟩
    · exact ⟨o, kept b o m e⟩
end
noncomputable def lamPairs (K : PySem.W.Frag) : List (Addr × Addr) := lamNames.filterMap (PySem.W.tabIn K)
noncomputable def lamRowB (K : PySem.W.Frag) (q : Program) : Bool := (lamNames.all fun x => match PySem.W.tabIn K x with
  | some (_, P) => (K.lookup P).isNone && ((recsOf q).find? (fun e => e.name == x)).isSome
  | none => true) && apartB (lamMap K)
theorem lamRow_of {K : PySem.W.Frag} {q : Program} (h : lamRowB K q = true) {x : Str} {c P : Addr} (hx : x ∈ lamNames) (e : PySem.W.tabIn K x = some (c, P)) : K.lookup P = none ∧ ∃ d, (recsOf q).find? (fun e => e.name == x) = some d := by
  unfold lamRowB at h
  rw [Bool.and_eq_true] at h
  have z := List.all_eq_true.mp h.1 x hx
  rw [e] at z
  dsimp only at z
  rw [Bool.and_eq_true] at z
  exact ⟨Option.isNone_iff_eq_none.mp z.1, Option.isSome_iff_exists.mp z.2⟩
theorem walk_GT {l : PySem.W.OpenLaw} {n k : Nat} {q : Program} {loose : List Str} {XP : (Str → Option Value) → Heap → Prop} {YP : World → Heap → Prop} {d : DefRec} {K : Params → PySem.W.Frag} {CX : World → CXT} {F : World → Fn} {x : Str}
    (hn : l.most = some n) (hn2 : n ≤ sizeLine) (hdf : d.params.defaults = []) (hr : Room k callerA) (hq : callerA.depth + 3 * k + 105 < recursionLimit) (hi : importsNone q = true)
    (hL : ∀ w : World, lamRowB (K w.params) q = true)
    (hY : ∀ (w : World) (h : Heap), YP w h → (K w.params).In h)
    (hF : ∀ (w : World) (mg : Str → Option Value) (fa : Addr) (h : Heap), (K w.params).In h → h.Ns mainGlobals mg → mg d.name = some (.ref fa) →
      ∃ fd : FuncData, (∀ (s : Shared) (u : Value), BindsTo s fd ⟨[u], []⟩ [(x, u)]) ∧
        ∀ base : Heap, (K w.params).In base → base.Ns mainGlobals mg → base.NoSeer → (∀ y ∈ lamNames, ∀ c P, PySem.W.tabIn (K w.params) y = some (c, P) → LamX.TabB base mg c P) → FnG l.prog w (K w.params) mg base (CX w) k fa fd [x] (spD (K w.params) 1 (F w)))
    (hsp : ∀ (w : World) (ns : List Int), ns.length ≤ n → F w [(false, .fro (ns.map D.int))] = .ret false (.bl true) [])
    (hCX : ∀ (w : World) (H : Hp) (s : Shared) (e : Value) (s' : Shared), CX w [] H s (fun _ _ _ => False) e s' → False) :
    PySem.W.WalkO q loose XP YP l.row.toRowW d [] (fun f vs => PySem.call f vs) :=
  Att.attach_call hn hdf fun w s₀ s₁ mg mb fa o pm cd doc a vs ns G Y ho hd hcd hmg hobj hints hlen hg => by
    have KX := hY w _ Y
    obtain ⟨fd, hb, hF⟩ := hF w mg fa _ KX G.T.g hmg
    have mem : ∀ p ∈ lamPairs (K w.params), ∃ y ∈ lamNames, PySem.W.tabIn (K w.params) y = some (p.1, p.2) := fun p hp => by
      obtain ⟨y, hy, e⟩ := List.mem_filterMap.mp hp
      exact ⟨y, hy, e⟩
    have mem2 : ∀ y ∈ lamNames, ∀ c P, PySem.W.tabIn (K w.params) y = some (c, P) → (c, P) ∈ lamPairs (K w.params) := fun y hy c P e => List.mem_filterMap.mpr ⟨y, hy, e⟩
    have tab : ∀ p ∈ lamPairs (K w.params), PySem.W.CodeHd s₁.heap p.1 p.2 ∧ s₁.heap.get? p.2 = some { cls := .none, data := .fields #[] } ∧ (K w.params).lookup p.2 = none := fun p hp => by
      obtain ⟨y, hy, e⟩ := mem p hp
      obtain ⟨h1, d', h2⟩ := lamRow_of (hL w) hy e
      obtain ⟨h3, h4⟩ := PySem.W.tab_of G.T KX h2 e
      exact ⟨h3, h4, h1⟩
    exact law_GT KX G.T.g G.T.b G.T.builtins G.T.nolimit hg hobj hints (Nat.le_trans hlen hn2) hr hq (G.T.seer hi) (fun p hp => (tab p hp).2.1) (fun p hp => (tab p hp).2.2) (fun p hp => (tab p hp).1) G.T.bmain
      (fun base h1 h2 h3 h4 => hF base h1 h2 h3 fun y hy c P e => h4 (c, P) (mem2 y hy c P e)) hb
      (fun G0 H0 eS hO hS => hsp_of (hsp w ns hlen) eS (fun y hy c P e => ⟨(hO (c, P) (mem2 y hy c P e)).1, .nil (hO (c, P) (mem2 y hy c P e)).2⟩) hS) fun H e s' c => hCX w H s₁ e s' c
end DF

namespace K08
open PySem PySem.Spec PyProof.Rows L2 DF
noncomputable def topS (i : Nat) : Stmt := PySem.Challenge.pw_wholerises_k08_errors_of_polynomials_and.main.body.getD i (.Pass ⟨0, 0, 0, 0⟩)
noncomputable abbrev s_q_bag : Stmt := topS 78
theorem sc_q_bag : FnScope ["_law_script", "_law_spot", "_law_cell", "_law_great", "_law_mixed"] ["_law_script", "_law_spot"] (defScope s_q_bag) := ⟨rfl, rfl, rfl, by decide +kernel, rfl, by decide +kernel, by decide +kernel⟩
noncomputable abbrev s_q_word : Stmt := topS 81
theorem sc_q_word : FnScope ["_law_call", "error"] ["_law_call"] (defScope s_q_word) := ⟨rfl, rfl, rfl, by decide +kernel, rfl, by decide +kernel, by decide +kernel⟩
noncomputable abbrev s_q_grab : Stmt := topS 79
theorem sc_q_grab : FnScope ["_law_bag_here", "_law_total", "_law_found", "_law_one", "_law_two"] ["_law_bag_here", "_law_total"] (defScope s_q_grab) := ⟨rfl, rfl, rfl, by decide +kernel, rfl, by decide +kernel, by decide +kernel⟩
noncomputable abbrev s_q_one_of : Stmt := topS 80
theorem sc_q_one_of : FnScope ["_law_bag_here", "_law_items"] ["_law_bag_here", "_law_items"] (defScope s_q_one_of) := ⟨rfl, rfl, rfl, by decide +kernel, rfl, by decide +kernel, by decide +kernel⟩
noncomputable abbrev s_is_long_integer : Stmt := topS 13
theorem sc_is_long_integer : FnScope ["value"] ["value"] (defScope s_is_long_integer) := ⟨rfl, rfl, rfl, by decide +kernel, rfl, by decide +kernel, by decide +kernel⟩
noncomputable abbrev s_is_integer : Stmt := topS 14
theorem sc_is_integer : FnScope ["value"] ["value"] (defScope s_is_integer) := ⟨rfl, rfl, rfl, by decide +kernel, rfl, by decide +kernel, by decide +kernel⟩
noncomputable abbrev s_is_polynomial : Stmt := topS 61
theorem sc_is_polynomial : FnScope ["value", "item"] ["value"] (defScope s_is_polynomial) := ⟨rfl, rfl, rfl, by decide +kernel, rfl, by decide +kernel, by decide +kernel⟩
noncomputable abbrev s_check_polynomial : Stmt := topS 62
theorem sc_check_polynomial : FnScope ["polynomial"] ["polynomial"] (defScope s_check_polynomial) := ⟨rfl, rfl, rfl, by decide +kernel, rfl, by decide +kernel, by decide +kernel⟩
noncomputable abbrev s_check_polynomials : Stmt := topS 63
theorem sc_check_polynomials : FnScope ["one", "other"] ["one", "other"] (defScope s_check_polynomials) := ⟨rfl, rfl, rfl, by decide +kernel, rfl, by decide +kernel, by decide +kernel⟩
noncomputable abbrev s_trimmed : Stmt := topS 64
theorem sc_trimmed : FnScope ["items", "many"] ["items"] (defScope s_trimmed) := ⟨rfl, rfl, rfl, by decide +kernel, rfl, by decide +kernel, by decide +kernel⟩
noncomputable abbrev s_polynomial_sum : Stmt := topS 65
theorem sc_polynomial_sum : FnScope ["one", "other", "total", "index", "item"] ["one", "other"] (defScope s_polynomial_sum) := ⟨rfl, rfl, rfl, by decide +kernel, rfl, by decide +kernel, by decide +kernel⟩
noncomputable abbrev s_kept : Stmt := topS 2
theorem sc_kept : FnScope ["value", "item", "key"] ["value"] (defScope s_kept) := ⟨rfl, rfl, rfl, by decide +kernel, rfl, by decide +kernel, by decide +kernel⟩
noncomputable abbrev s_polynomial_product : Stmt := topS 66
theorem sc_polynomial_product : FnScope ["one", "other", "total", "index", "item", "place", "factor", "product"] ["one", "other"] (defScope s_polynomial_product) := ⟨rfl, rfl, rfl, by decide +kernel, rfl, by decide +kernel, by decide +kernel⟩
noncomputable abbrev s_divided : Stmt := topS 68
theorem sc_divided : FnScope ["one", "other", "rest", "quotient", "index", "factor", "place", "item"] ["one", "other"] (defScope s_divided) := ⟨rfl, rfl, rfl, by decide +kernel, rfl, by decide +kernel, by decide +kernel⟩
noncomputable abbrev s_polynomial_quotient : Stmt := topS 67
theorem sc_polynomial_quotient : FnScope ["one", "other"] ["one", "other"] (defScope s_polynomial_quotient) := ⟨rfl, rfl, rfl, by decide +kernel, rfl, by decide +kernel, by decide +kernel⟩
noncomputable abbrev s_is_long_pair : Stmt := topS 50
theorem sc_is_long_pair : FnScope ["value"] ["value"] (defScope s_is_long_pair) := ⟨rfl, rfl, rfl, by decide +kernel, rfl, by decide +kernel, by decide +kernel⟩
noncomputable abbrev s_is_long_ratio : Stmt := topS 51
theorem sc_is_long_ratio : FnScope ["value"] ["value"] (defScope s_is_long_ratio) := ⟨rfl, rfl, rfl, by decide +kernel, rfl, by decide +kernel, by decide +kernel⟩
noncomputable abbrev s_is_ratio : Stmt := topS 52
theorem sc_is_ratio : FnScope ["value"] ["value"] (defScope s_is_ratio) := ⟨rfl, rfl, rfl, by decide +kernel, rfl, by decide +kernel, by decide +kernel⟩
noncomputable abbrev s_check_ratio : Stmt := topS 53
theorem sc_check_ratio : FnScope ["ratio"] ["ratio"] (defScope s_check_ratio) := ⟨rfl, rfl, rfl, by decide +kernel, rfl, by decide +kernel, by decide +kernel⟩
noncomputable abbrev s_reduced : Stmt := topS 54
theorem sc_reduced : FnScope ["top", "bottom", "divisor"] ["top", "bottom"] (defScope s_reduced) := ⟨rfl, rfl, rfl, by decide +kernel, rfl, by decide +kernel, by decide +kernel⟩
noncomputable abbrev s_polynomial_value : Stmt := topS 69
theorem sc_polynomial_value : FnScope ["polynomial", "ratio", "top", "bottom", "total", "scale", "item"] ["polynomial", "ratio"] (defScope s_polynomial_value) := ⟨rfl, rfl, rfl, by decide +kernel, rfl, by decide +kernel, by decide +kernel⟩
noncomputable abbrev s_is_between : Stmt := topS 15
theorem sc_is_between : FnScope ["value", "least", "most"] ["value", "least", "most"] (defScope s_is_between) := ⟨rfl, rfl, rfl, by decide +kernel, rfl, by decide +kernel, by decide +kernel⟩
noncomputable abbrev s_check_number : Stmt := topS 16
theorem sc_check_number : FnScope ["given", "least", "most"] ["given", "least", "most"] (defScope s_check_number) := ⟨rfl, rfl, rfl, by decide +kernel, rfl, by decide +kernel, by decide +kernel⟩
noncomputable abbrev s_prime_factors : Stmt := topS 17
theorem sc_prime_factors : FnScope ["number", "found", "left", "divisor"] ["number"] (defScope s_prime_factors) := ⟨rfl, rfl, rfl, by decide +kernel, rfl, by decide +kernel, by decide +kernel⟩
noncomputable abbrev s_sign_divisors : Stmt := topS 18
theorem sc_sign_divisors : FnScope ["number", "found", "prime", "divisor", "sign"] ["number"] (defScope s_sign_divisors) := ⟨rfl, rfl, rfl, by decide +kernel, rfl, by decide +kernel, by decide +kernel⟩
noncomputable abbrev s_with_factors : Stmt := topS 72
theorem sc_with_factors : FnScope ["items", "divisor", "power", "made", "_", "index"] ["items", "divisor", "power"] (defScope s_with_factors) := ⟨rfl, rfl, rfl, by decide +kernel, rfl, by decide +kernel, by decide +kernel⟩
noncomputable abbrev s_totient : Stmt := topS 19
theorem sc_totient : FnScope ["number", "many", "prime"] ["number"] (defScope s_totient) := ⟨rfl, rfl, rfl, by decide +kernel, rfl, by decide +kernel, by decide +kernel⟩
noncomputable abbrev s_cyclotomic_product : Stmt := topS 71
theorem sc_cyclotomic_product : FnScope ["parts", "degree", "powers", "number", "times", "divisor", "sign", "items", "power", "item"] ["parts"] (defScope s_cyclotomic_product) := ⟨rfl, rfl, rfl, by decide +kernel, rfl, by decide +kernel, by decide +kernel⟩
noncomputable abbrev s_cyclotomic : Stmt := topS 70
theorem sc_cyclotomic : FnScope ["number"] ["number"] (defScope s_cyclotomic) := ⟨rfl, rfl, rfl, by decide +kernel, rfl, by decide +kernel, by decide +kernel⟩
noncomputable abbrev s_cyclotomic_parts : Stmt := topS 73
theorem sc_cyclotomic_parts : FnScope ["polynomial", "item", "told", "rest", "found", "number", "degree", "value", "times"] ["polynomial"] (defScope s_cyclotomic_parts) := ⟨rfl, rfl, rfl, by decide +kernel, rfl, by decide +kernel, by decide +kernel⟩
noncomputable abbrev s_q_lines_right : Stmt := topS 82
theorem sc_q_lines_right : FnScope ["_law_bag_here", "_law_told", "_law_due", "_law_bad", "_law_half", "_law_line", "_law_none", "_law_odd"] ["_law_bag_here"] (defScope s_q_lines_right) := ⟨rfl, rfl, rfl, by decide +kernel, rfl, by decide +kernel, by decide +kernel⟩
noncomputable abbrev s_is_table_row : Stmt := topS 24
theorem sc_is_table_row : FnScope ["value", "item"] ["value"] (defScope s_is_table_row) := ⟨rfl, rfl, rfl, by decide +kernel, rfl, by decide +kernel, by decide +kernel⟩
noncomputable abbrev s_is_table : Stmt := topS 25
theorem sc_is_table : FnScope ["value", "line"] ["value"] (defScope s_is_table) := ⟨rfl, rfl, rfl, by decide +kernel, rfl, by decide +kernel, by decide +kernel⟩
noncomputable abbrev s_check_table : Stmt := topS 26
theorem sc_check_table : FnScope ["table"] ["table"] (defScope s_check_table) := ⟨rfl, rfl, rfl, by decide +kernel, rfl, by decide +kernel, by decide +kernel⟩
noncomputable abbrev s_exchanged_table : Stmt := topS 29
theorem sc_exchanged_table : FnScope ["table", "column", "line"] ["table"] (defScope s_exchanged_table) := ⟨rfl, rfl, rfl, by decide +kernel, rfl, by decide +kernel, by decide +kernel⟩
noncomputable abbrev s_turned_over : Stmt := topS 34
theorem sc_turned_over : FnScope ["table"] ["table"] (defScope s_turned_over) := ⟨rfl, rfl, rfl, by decide +kernel, rfl, by decide +kernel, by decide +kernel⟩
noncomputable abbrev s_divisor_of_all : Stmt := topS 20
theorem sc_divisor_of_all : FnScope ["numbers", "divisor", "number"] ["numbers"] (defScope s_divisor_of_all) := ⟨rfl, rfl, rfl, by decide +kernel, rfl, by decide +kernel, by decide +kernel⟩
noncomputable abbrev s_lead_of : Stmt := topS 38
theorem sc_lead_of : FnScope ["line", "index"] ["line"] (defScope s_lead_of) := ⟨rfl, rfl, rfl, by decide +kernel, rfl, by decide +kernel, by decide +kernel⟩
noncomputable abbrev s_simplest : Stmt := topS 41
theorem sc_simplest : FnScope ["line", "divisor", "item"] ["line"] (defScope s_simplest) := ⟨rfl, rfl, rfl, by decide +kernel, rfl, by decide +kernel, by decide +kernel⟩
noncomputable abbrev s_cleared : Stmt := topS 42
theorem sc_cleared : FnScope ["line", "pivot", "index", "item", "factor"] ["line", "pivot", "index"] (defScope s_cleared) := ⟨rfl, rfl, rfl, by decide +kernel, rfl, by decide +kernel, by decide +kernel⟩
noncomputable abbrev s_echelon : Stmt := topS 40
theorem sc_echelon : FnScope ["table", "done", "line", "left", "index", "found", "pivot"] ["table"] (defScope s_echelon) := ⟨rfl, rfl, rfl, by decide +kernel, rfl, by decide +kernel, by decide +kernel⟩
noncomputable abbrev s_kernel_row : Stmt := topS 39
theorem sc_kernel_row : FnScope ["lines", "leads", "free", "width", "multiple", "line", "lead", "made"] ["lines", "leads", "free", "width"] (defScope s_kernel_row) := ⟨rfl, rfl, rfl, by decide +kernel, rfl, by decide +kernel, by decide +kernel⟩
noncomputable abbrev s_kernel_of : Stmt := topS 37
theorem sc_kernel_of : FnScope ["table", "width", "lines", "line", "leads", "index"] ["table", "width"] (defScope s_kernel_of) := ⟨rfl, rfl, rfl, by decide +kernel, rfl, by decide +kernel, by decide +kernel⟩
noncomputable abbrev s_kernel : Stmt := topS 36
theorem sc_kernel : FnScope ["table"] ["table"] (defScope s_kernel) := ⟨rfl, rfl, rfl, by decide +kernel, rfl, by decide +kernel, by decide +kernel⟩
noncomputable abbrev s_rank : Stmt := topS 35
theorem sc_rank : FnScope ["table"] ["table"] (defScope s_rank) := ⟨rfl, rfl, rfl, by decide +kernel, rfl, by decide +kernel, by decide +kernel⟩
noncomputable abbrev s_check_square : Stmt := topS 27
theorem sc_check_square : FnScope ["table"] ["table"] (defScope s_check_square) := ⟨rfl, rfl, rfl, by decide +kernel, rfl, by decide +kernel, by decide +kernel⟩
noncomputable abbrev s_reduced_row : Stmt := topS 46
theorem sc_reduced_row : FnScope ["line", "pivot", "before", "k"] ["line", "pivot", "before"] (defScope s_reduced_row) := ⟨rfl, rfl, rfl, by decide +kernel, rfl, by decide +kernel, by decide +kernel⟩
noncomputable abbrev s_determinant_of : Stmt := topS 45
theorem sc_determinant_of : FnScope ["lines", "line", "left", "sign", "before", "place", "places", "pivot", "others"] ["lines"] (defScope s_determinant_of) := ⟨rfl, rfl, rfl, by decide +kernel, rfl, by decide +kernel, by decide +kernel⟩
noncomputable abbrev s_determinant : Stmt := topS 43
theorem sc_determinant : FnScope ["table"] ["table"] (defScope s_determinant) := ⟨rfl, rfl, rfl, by decide +kernel, rfl, by decide +kernel, by decide +kernel⟩
noncomputable abbrev s_minors : Stmt := topS 44
theorem sc_minors : FnScope ["table", "size", "line"] ["table"] (defScope s_minors) := ⟨rfl, rfl, rfl, by decide +kernel, rfl, by decide +kernel, by decide +kernel⟩
noncomputable abbrev s_is_symmetric : Stmt := topS 47
theorem sc_is_symmetric : FnScope ["table"] ["table"] (defScope s_is_symmetric) := ⟨rfl, rfl, rfl, by decide +kernel, rfl, by decide +kernel, by decide +kernel⟩
noncomputable abbrev s_is_alternating : Stmt := topS 48
theorem sc_is_alternating : FnScope ["table", "line", "item"] ["table"] (defScope s_is_alternating) := ⟨rfl, rfl, rfl, by decide +kernel, rfl, by decide +kernel, by decide +kernel⟩
noncomputable abbrev s_scalar_product : Stmt := topS 30
theorem sc_scalar_product : FnScope ["one", "other", "item", "factor"] ["one", "other"] (defScope s_scalar_product) := ⟨rfl, rfl, rfl, by decide +kernel, rfl, by decide +kernel, by decide +kernel⟩
noncomputable abbrev s_product_of : Stmt := topS 31
theorem sc_product_of : FnScope ["one", "other", "columns", "line", "column"] ["one", "other"] (defScope s_product_of) := ⟨rfl, rfl, rfl, by decide +kernel, rfl, by decide +kernel, by decide +kernel⟩
noncomputable abbrev s_table_product : Stmt := topS 32
theorem sc_table_product : FnScope ["one", "other"] ["one", "other"] (defScope s_table_product) := ⟨rfl, rfl, rfl, by decide +kernel, rfl, by decide +kernel, by decide +kernel⟩
noncomputable abbrev s_unit_table : Stmt := topS 28
theorem sc_unit_table : FnScope ["size", "row", "column"] ["size"] (defScope s_unit_table) := ⟨rfl, rfl, rfl, by decide +kernel, rfl, by decide +kernel, by decide +kernel⟩
noncomputable abbrev s_table_power : Stmt := topS 33
theorem sc_table_power : FnScope ["table", "exponent", "power", "square", "left"] ["table", "exponent"] (defScope s_table_power) := ⟨rfl, rfl, rfl, by decide +kernel, rfl, by decide +kernel, by decide +kernel⟩
noncomputable abbrev s_q_tables_right : Stmt := topS 83
theorem sc_q_tables_right : FnScope ["_law_bag_here", "_law_told", "_law_number", "_law_due", "_law_call", "_law_flat", "_law_none", "_law_odd", "_law_size", "_law_square"] ["_law_bag_here"] (defScope s_q_tables_right) := ⟨rfl, rfl, rfl, by decide +kernel, rfl, by decide +kernel, by decide +kernel⟩
noncomputable abbrev s_law : Stmt := topS 84
theorem sc_law : FnScope ["_law_script", "_law_spot", "_law_bag_here"] ["_law_script"] (defScope s_law) := ⟨rfl, rfl, rfl, by decide +kernel, rfl, by decide +kernel, by decide +kernel⟩
noncomputable def XSN : List Str := ["InvalidNumber", "InvalidOperation", "InvalidPolynomial", "InvalidRatio", "InvalidTable", "TooMany"]
noncomputable def B_q_bag (n : Nat) : DEnv → SR := dSeq (dSet 2 (dIte (dTst (dBin ltD (oVar 1) (oD (dCal lenD (aCons (oVar 0) (aNil)))))) (dBin ixD (oVar 0) (oVar 1)) (dBin addD (oD (dBin addD (oD (dCal sumAD (aCons (oD (dCut none (some 1) (oVar 0))) (aNil)))) (oD (dBin mulD (oD (dC (.int 151))) (oVar 1))))) (oD (dC (.int 89))))))
    (dSeq (dSet 3 (dBin modD (oD (dCal intD (aCons (oD (dCal absD (aCons (oVar 2) (aNil)))) (aNil)))) (oD (dBin powD (oD (dBin powD (oD (dC (.int 10))) (oD (dC (.int 45))))) (oD (dC (.int 13)))))))
    (dSeq (dSet 4 (dBin addD (oD (dBin addD (oD (dBin addD (oD (dBin mulD (oD (dBin modD (oD (dCal intD (aCons (oVar 3) (aNil)))) (oD (dC (.int 2305843009213693723))))) (oD (dC (.int 1000457))))) (oD (dBin mulD (oD (dC (.int 9029))) (oVar 1))))) (oD (dBin mulD (oD (dC (.int 53))) (oD (dCal intD (aCons (oD (dBin ltD (oVar 2) (oD (dC (.int 0))))) (aNil)))))))) (oD (dC (.int 37)))))
    (dRetF (dLst (vCons (dCal (orC max2D maxSD) (aCons (oD (dC (.int 0))) (aCons (oD (dBin subD (oVar 3) (oD (dBin powD (oD (dC (.int 10))) (oD (dC (.int 18))))))) (aNil)))) (vCons (dBin modD (oD (dCal intD (aCons (oVar 4) (aNil)))) (oD (dC (.int 2305843009213693951)))) (vCons (dC (.int 0)) (vNil))))))))
noncomputable def F_q_bag : Fn := fun as => fnRes as (B_q_bag (fuel as) (startE 5 as))
noncomputable def A_q_word : D → DEnv → SR := zExpr (SR.nx)
noncomputable def C_q_word : List Cf := [⟨"InvalidPolynomial", .pl (dRet (dC (.str (Str.ofString "polynomial"))))⟩, ⟨"InvalidTable", .pl (dRet (dC (.str (Str.ofString "table"))))⟩, ⟨"InvalidRatio", .pl (dRet (dC (.str (Str.ofString "ratio"))))⟩, ⟨"InvalidOperation", .pl (dRet (dC (.str (Str.ofString "operation"))))⟩, ⟨"InvalidNumber", .as 1 "given" (yRet (yBin addW (yDe (dC (.str (Str.ofString "number ")))) (yCal rprW (yFld))))⟩, ⟨"TooMany", .as 1 "most" (yRet (yBin addW (yDe (dC (.str (Str.ofString "many ")))) (yCal rprW (yFld))))⟩]
noncomputable def R_q_word : DEnv → SR := dRet (dC (.str (Str.ofString "fine")))
noncomputable def F_q_word : D ⊕ Exc → Option D := lamF 2 XSN C_q_word A_q_word R_q_word
noncomputable def B_q_grab (n : Nat) : DEnv → SR := dSeq (dIf (dTst (dBin gtD (oD (dBin ixD (oVar 0) (oD (dC (.int 0))))) (oD (dC (.int 0))))) (dSeq (dSet 2 (dBin modD (oD (dCal intD (aCons (oD (dBin ixD (oVar 0) (oD (dC (.int 0))))) (aNil)))) (oVar 1)))
    (dSeq (dSetI 0 (dC (.int 0)) (dBin divD (oD (dBin ixD (oVar 0) (oD (dC (.int 0))))) (oVar 1)))
    (dRetV 2))) (SR.nx))
    (dSeq (dSetI 0 (dC (.int 2)) (dBin addD (oD (dBin ixD (oVar 0) (oD (dC (.int 2))))) (oD (dC (.int 1)))))
    (dSeq (dSet 3 (dBin modD (oD (dCal intD (aCons (oD (dBin addD (oD (dBin ixD (oVar 0) (oD (dC (.int 1))))) (oD (dBin mulD (oD (dC (.int 1048637))) (oD (dBin ixD (oVar 0) (oD (dC (.int 2))))))))) (aNil)))) (oD (dC (.int 2305843009213693951)))))
    (dSeq (dSet 4 (dBin addD (oD (dBin mulD (oD (dBin modD (oD (dCal intD (aCons (oD (dBin mulD (oVar 3) (oVar 3))) (aNil)))) (oD (dC (.int 2305843009213693723))))) (oVar 3))) (oD (dBin mulD (oD (dC (.int 8161))) (oD (dBin ixD (oVar 0) (oD (dC (.int 2)))))))))
    (dRet (dBin modD (oD (dCal intD (aCons (oD (dBin divD (oD (dBin modD (oD (dCal intD (aCons (oVar 4) (aNil)))) (oD (dC (.int 2305843009213693921))))) (oD (dC (.int 16384))))) (aNil)))) (oVar 1))))))
noncomputable def F_q_grab : Fn := fun as => fnRes as (B_q_grab (fuel as) (startE 5 as))
noncomputable def B_q_one_of (n : Nat) : DEnv → SR := dRet (dBin ixD (oVar 1) (oD (dV (dCal2 2 F_q_grab (rIo 0 (rVal (dCal lenD (aCons (oVar 1) (aNil))) (rNil)))))))
noncomputable def F_q_one_of : Fn := fun as => fnRes as (B_q_one_of (fuel as) (startE 2 as))
noncomputable def B_is_long_integer (n : Nat) : DEnv → SR := dRet (dAndV (dIsi "int" (oVar 0)) (dNotV (dIsi "bool" (oVar 0))))
noncomputable def F_is_long_integer : Fn := fun as => fnRes as (B_is_long_integer (fuel as) (startE 1 as))
noncomputable def B_is_integer (n : Nat) : DEnv → SR := dRet (dAndV (dV (dCal2 1 F_is_long_integer (rVal (dVar 0) (rNil)))) (dBin leD (oD (dCal absD (aCons (oVar 0) (aNil)))) (oD (dC (.int 999999999999999999999999999999999999999999999999999999999999)))))
noncomputable def F_is_integer : Fn := fun as => fnRes as (B_is_integer (fuel as) (startE 1 as))
noncomputable def B_is_polynomial (n : Nat) : DEnv → SR := dSeq (dIf (dOr (dNot (dTst (dIsi "tuple" (oVar 0)))) (dNot (dTst (dChain leD leD (oD (dC (.int 1))) (oD (dCal lenD (aCons (oVar 0) (aNil)))) (oD (dBin addD (oD (dC (.int 40))) (oD (dC (.int 1))))))))) (dRet (dC (.bl false))) (SR.nx))
    (dSeq (dIf (dNot (dTst (dCal allD (aCons (oD (dLc (sSeq (dVar 0)) (setV 1) (tYesB) (dV (dCal2 1 F_is_integer (rVal (dVar 1) (rNil)))) [1])) (aNil))))) (dRet (dC (.bl false))) (SR.nx))
    (dRet (dOrV (dBin eqY (oD (dCal lenD (aCons (oVar 0) (aNil)))) (oD (dC (.int 1)))) (dBin neY (oD (dBin ixD (oVar 0) (oD (dUn negD (oD (dC (.int 1))))))) (oD (dC (.int 0)))))))
noncomputable def F_is_polynomial : Fn := fun as => fnRes as (B_is_polynomial (fuel as) (startE 2 as))
noncomputable def B_check_polynomial (n : Nat) : DEnv → SR := dIf (dNot (dTst (dV (dCal2 1 F_is_polynomial (rVal (dVar 0) (rNil)))))) (dRaise "InvalidPolynomial") (SR.nx)
noncomputable def F_check_polynomial : Fn := fun as => fnRes as (B_check_polynomial (fuel as) (startE 1 as))
noncomputable def B_check_polynomials (n : Nat) : DEnv → SR := dSeq (dExpr (dV (dCal2 1 F_check_polynomial (rVal (dVar 0) (rNil)))))
    (dExpr (dV (dCal2 1 F_check_polynomial (rVal (dVar 1) (rNil)))))
noncomputable def F_check_polynomials : Fn := fun as => fnRes as (B_check_polynomials (fuel as) (startE 2 as))
noncomputable def B_trimmed (n : Nat) : DEnv → SR := dSeq (dSet 1 (dCal lenD (aCons (oVar 0) (aNil))))
    (dSeq (dWhile (dAnd (dTst (dBin gtD (oVar 1) (oD (dC (.int 1))))) (dTst (dBin eqY (oD (dBin ixD (oVar 0) (oD (dBin subD (oVar 1) (oD (dC (.int 1))))))) (oD (dC (.int 0)))))) (dSet 1 (dBin subD (oVar 1) (oD (dC (.int 1))))) n)
    (dRet (dCal tupD (aCons (oD (dSl (oVar 0) (pNo) (pInt (dVar 1)))) (aNil)))))
noncomputable def F_trimmed : Fn := fun as => fnRes as (B_trimmed (fuel as) (startE 2 as))
noncomputable def B_polynomial_sum (n : Nat) : DEnv → SR := dSeq (dExpr (dV (dCal2 2 F_check_polynomials (rVal (dVar 0) (rVal (dVar 1) (rNil))))))
    (dSeq (dSetF 2 (dBin repL (oD (dLst (vCons (dC (.int 0)) (vNil)))) (oD (dCal (orC max2D maxSD) (aCons (oD (dCal lenD (aCons (oVar 0) (aNil)))) (aCons (oD (dCal lenD (aCons (oVar 1) (aNil)))) (aNil)))))))
    (dSeq (dForS (sEnT (vCons (dVar 0) (vNil))) (gTp 2 (gsCons (setV 3) (gsCons (setV 4) (gsNil)))) (dSetI 2 (dVar 3) (dBin addD (oD (dBin ixD (oVar 2) (oVar 3))) (oVar 4))))
    (dSeq (dForS (sEnT (vCons (dVar 1) (vNil))) (gTp 2 (gsCons (setV 3) (gsCons (setV 4) (gsNil)))) (dSetI 2 (dVar 3) (dBin addD (oD (dBin ixD (oVar 2) (oVar 3))) (oVar 4))))
    (dRet (dV (dCal2 1 F_trimmed (rIo 2 (rNil))))))))
noncomputable def F_polynomial_sum : Fn := fun as => fnRes as (B_polynomial_sum (fuel as) (startE 5 as))
noncomputable def B_kept (F_kept : Fn) (n : Nat) : DEnv → SR := dSeq (dIf (dTst (dIsi "list" (oVar 0))) (dRetF (dLc (sSeq (dVar 0)) (setV 1) (tYesB) (dV (dCal2 1 F_kept (rVal (dVar 1) (rNil)))) [1])) (SR.nx))
    (dSeq (dIf (dTst (dIsi "tuple" (oVar 0))) (dRet (dCal tupD (aCons (oD (dLc (sSeq (dVar 0)) (setV 1) (tYesB) (dV (dCal2 1 F_kept (rVal (dVar 1) (rNil)))) [1])) (aNil)))) (SR.nx))
    (dSeq (dIf (dTst (dIsi "dict" (oVar 0))) (dRet (dDc (sKeys (dVar 0)) (setV 2) (tYesB) (dVar 2) (dV (dCal2 1 F_kept (rVal (dBin ixK (oVar 0) (oVar 2)) (rNil)))) [2])) (SR.nx))
    (dRetV 0)))
noncomputable def K_kept : Nat → Fn
  | 0 => fun _ => .no
  | m + 1 => fun as => fnRes as (B_kept (K_kept m) (fuel as) (startE 3 as))
noncomputable def F_kept : Fn := K_kept 3
noncomputable def B_polynomial_product (n : Nat) : DEnv → SR := dSeq (dExpr (dV (dCal2 2 F_check_polynomials (rVal (dVar 0) (rVal (dVar 1) (rNil))))))
    (dSeq (dSetF 2 (dBin repL (oD (dLst (vCons (dC (.int 0)) (vNil)))) (oD (dBin subD (oD (dBin addD (oD (dCal lenD (aCons (oVar 0) (aNil)))) (oD (dCal lenD (aCons (oVar 1) (aNil)))))) (oD (dC (.int 1)))))))
    (dSeq (dForS (sEnT (vCons (dVar 0) (vNil))) (gTp 2 (gsCons (setV 3) (gsCons (setV 4) (gsNil)))) (dForS (sEnT (vCons (dVar 1) (vNil))) (gTp 2 (gsCons (setV 5) (gsCons (setV 6) (gsNil)))) (dSetI 2 (dBin addD (oVar 3) (oVar 5)) (dBin addD (oD (dBin ixD (oVar 2) (oD (dBin addD (oVar 3) (oVar 5))))) (oD (dBin mulD (oVar 4) (oVar 6)))))))
    (dSeq (dSet 7 (dV (dCal2 1 F_trimmed (rIo 2 (rNil)))))
    (dSeq (dIf (dTst (dBin gtD (oD (dCal lenD (aCons (oVar 7) (aNil)))) (oD (dBin addD (oD (dC (.int 40))) (oD (dC (.int 1))))))) (dRaiseX "TooMany" "most" F_kept (dC (.int 40))) (SR.nx))
    (dRetV 7)))))
noncomputable def F_polynomial_product : Fn := fun as => fnRes as (B_polynomial_product (fuel as) (startE 8 as))
noncomputable def B_divided (n : Nat) : DEnv → SR := dSeq (dIf (dTst (dBin ltD (oD (dCal lenD (aCons (oVar 0) (aNil)))) (oD (dCal lenD (aCons (oVar 1) (aNil)))))) (dRet (dIte (dTst (dBin eqY (oVar 0) (oD (dTup (vCons (dC (.int 0)) (vNil)))))) (dVar 0) (dC .non))) (SR.nx))
    (dSeq (dSetF 2 (dMk seqOf (oVar 0)))
    (dSeq (dSetF 3 (dBin repL (oD (dLst (vCons (dC (.int 0)) (vNil)))) (oD (dBin addD (oD (dBin subD (oD (dCal lenD (aCons (oVar 0) (aNil)))) (oD (dCal lenD (aCons (oVar 1) (aNil)))))) (oD (dC (.int 1)))))))
    (dSeq (dForS (sRevR (dCal lenD (aCons (oVar 3) (aNil)))) (setV 4) (dSeq (dSet 5 (dBin divD (oD (dBin ixD (oVar 2) (oD (dBin subD (oD (dBin addD (oVar 4) (oD (dCal lenD (aCons (oVar 1) (aNil)))))) (oD (dC (.int 1))))))) (oD (dBin ixD (oVar 1) (oD (dUn negD (oD (dC (.int 1)))))))))
    (dSeq (dSetI 3 (dVar 4) (dVar 5))
    (dForS (sEnT (vCons (dVar 1) (vNil))) (gTp 2 (gsCons (setV 6) (gsCons (setV 7) (gsNil)))) (dSetI 2 (dBin addD (oVar 4) (oVar 6)) (dBin subD (oD (dBin ixD (oVar 2) (oD (dBin addD (oVar 4) (oVar 6))))) (oD (dBin mulD (oVar 5) (oVar 7)))))))))
    (dRet (dIte (dTst (dCal anyAD (aCons (oVar 2) (aNil)))) (dC .non) (dCal tupD (aCons (oVar 3) (aNil))))))))
noncomputable def F_divided : Fn := fun as => fnRes as (B_divided (fuel as) (startE 8 as))
noncomputable def B_polynomial_quotient (n : Nat) : DEnv → SR := dSeq (dExpr (dV (dCal2 2 F_check_polynomials (rVal (dVar 0) (rVal (dVar 1) (rNil))))))
    (dSeq (dIf (dTst (dBin eqY (oVar 1) (oD (dTup (vCons (dC (.int 0)) (vNil)))))) (dRaise "InvalidOperation") (SR.nx))
    (dRet (dV (dCal2 2 F_divided (rVal (dVar 0) (rVal (dVar 1) (rNil)))))))
noncomputable def F_polynomial_quotient : Fn := fun as => fnRes as (B_polynomial_quotient (fuel as) (startE 2 as))
noncomputable def B_is_long_pair (n : Nat) : DEnv → SR := dRet (dAndV (dIsi "tuple" (oVar 0)) (dAndV (dBin eqY (oD (dCal lenD (aCons (oVar 0) (aNil)))) (oD (dC (.int 2)))) (dAndV (dV (dCal2 1 F_is_long_integer (rVal (dBin ixD (oVar 0) (oD (dC (.int 0)))) (rNil)))) (dV (dCal2 1 F_is_long_integer (rVal (dBin ixD (oVar 0) (oD (dC (.int 1)))) (rNil)))))))
noncomputable def F_is_long_pair : Fn := fun as => fnRes as (B_is_long_pair (fuel as) (startE 1 as))
noncomputable def B_is_long_ratio (n : Nat) : DEnv → SR := dRet (dAndV (dV (dCal2 1 F_is_long_pair (rVal (dVar 0) (rNil)))) (dAndV (dBin gtD (oD (dBin ixD (oVar 0) (oD (dC (.int 1))))) (oD (dC (.int 0)))) (dBin eqY (oD (dCal gcdD (aCons (oD (dBin ixD (oVar 0) (oD (dC (.int 0))))) (aCons (oD (dBin ixD (oVar 0) (oD (dC (.int 1))))) (aNil))))) (oD (dC (.int 1))))))
noncomputable def F_is_long_ratio : Fn := fun as => fnRes as (B_is_long_ratio (fuel as) (startE 1 as))
noncomputable def B_is_ratio (n : Nat) : DEnv → SR := dRet (dAndV (dV (dCal2 1 F_is_long_ratio (rVal (dVar 0) (rNil)))) (dAndV (dV (dCal2 1 F_is_integer (rVal (dBin ixD (oVar 0) (oD (dC (.int 0)))) (rNil)))) (dV (dCal2 1 F_is_integer (rVal (dBin ixD (oVar 0) (oD (dC (.int 1)))) (rNil))))))
noncomputable def F_is_ratio : Fn := fun as => fnRes as (B_is_ratio (fuel as) (startE 1 as))
noncomputable def B_check_ratio (n : Nat) : DEnv → SR := dIf (dNot (dTst (dV (dCal2 1 F_is_ratio (rVal (dVar 0) (rNil)))))) (dRaise "InvalidRatio") (SR.nx)
noncomputable def F_check_ratio : Fn := fun as => fnRes as (B_check_ratio (fuel as) (startE 1 as))
noncomputable def B_reduced (n : Nat) : DEnv → SR := dSeq (dSet 2 (dCal gcdD (aCons (oVar 0) (aCons (oVar 1) (aNil)))))
    (dSeq (dIf (dTst (dBin ltD (oVar 1) (oD (dC (.int 0))))) (dSet 2 (dUn negD (oVar 2))) (SR.nx))
    (dRet (dTup (vCons (dBin divD (oVar 0) (oVar 2)) (vCons (dBin divD (oVar 1) (oVar 2)) (vNil))))))
noncomputable def F_reduced : Fn := fun as => fnRes as (B_reduced (fuel as) (startE 3 as))
noncomputable def B_polynomial_value (n : Nat) : DEnv → SR := dSeq (dExpr (dV (dCal2 1 F_check_polynomial (rVal (dVar 0) (rNil)))))
    (dSeq (dExpr (dV (dCal2 1 F_check_ratio (rVal (dVar 1) (rNil)))))
    (dSeq (dAsg (dVar 1) (gTp 2 (gsCons (setV 2) (gsCons (setV 3) (gsNil)))))
    (dSeq (dSet 4 (dC (.int 0)))
    (dSeq (dSet 5 (dC (.int 1)))
    (dSeq (dForS (sSeq (dMk revO (oVar 0))) (setV 6) (dSeq (dSet 4 (dBin addD (oD (dBin mulD (oVar 4) (oVar 2))) (oD (dBin mulD (oVar 6) (oVar 5)))))
    (dSet 5 (dBin mulD (oVar 5) (oVar 3)))))
    (dRet (dV (dCal2 2 F_reduced (rVal (dBin mulD (oVar 4) (oVar 3)) (rVal (dVar 5) (rNil)))))))))))
noncomputable def F_polynomial_value : Fn := fun as => fnRes as (B_polynomial_value (fuel as) (startE 7 as))
noncomputable def B_is_between (n : Nat) : DEnv → SR := dRet (dAndV (dV (dCal2 1 F_is_integer (rVal (dVar 0) (rNil)))) (dChain leD leD (oVar 1) (oVar 0) (oVar 2)))
noncomputable def F_is_between : Fn := fun as => fnRes as (B_is_between (fuel as) (startE 3 as))
noncomputable def B_check_number (n : Nat) : DEnv → SR := dIf (dNot (dTst (dV (dCal2 3 F_is_between (rVal (dVar 0) (rVal (dVar 1) (rVal (dVar 2) (rNil)))))))) (dRaiseX "InvalidNumber" "given" F_kept (dVar 0)) (SR.nx)
noncomputable def F_check_number : Fn := fun as => fnRes as (B_check_number (fuel as) (startE 3 as))
noncomputable def B_prime_factors (n : Nat) : DEnv → SR := dSeq (dExpr (dV (dCal2 3 F_check_number (rVal (dVar 0) (rVal (dC (.int 1)) (rVal (dC (.int 1000000000)) (rNil)))))))
    (dSeq (dSetF 1 (dDic0))
    (dSeq (dSet 2 (dVar 0))
    (dSeq (dSet 3 (dC (.int 2)))
    (dSeq (dWhile (dTst (dBin leD (oD (dBin mulD (oVar 3) (oVar 3))) (oVar 2))) (dSeq (dWhile (dTst (dBin eqY (oD (dBin modD (oVar 2) (oVar 3))) (oD (dC (.int 0))))) (dSeq (dSetK 1 (dVar 3) (dBin addD (oD (dGet2 (oVar 1) (dVar 3) (dC (.int 0)))) (oD (dC (.int 1)))))
    (dSet 2 (dBin divD (oVar 2) (oVar 3)))) n)
    (dSet 3 (dIte (dTst (dBin eqY (oVar 3) (oD (dC (.int 2))))) (dBin addD (oVar 3) (oD (dC (.int 1)))) (dBin addD (oVar 3) (oD (dC (.int 2))))))) n)
    (dSeq (dIf (dTst (dBin gtD (oVar 2) (oD (dC (.int 1))))) (dSetK 1 (dVar 2) (dC (.int 1))) (SR.nx))
    (dRetV 1))))))
noncomputable def F_prime_factors : Fn := fun as => fnRes as (B_prime_factors (fuel as) (startE 4 as))
noncomputable def B_sign_divisors (n : Nat) : DEnv → SR := dSeq (dSet 1 (dLst (vCons (dTup (vCons (dVar 0) (vCons (dC (.int 1)) (vNil)))) (vNil))))
    (dSeq (dForS (sKeys (dV (dCal2 1 F_prime_factors (rVal (dVar 0) (rNil))))) (setV 2) (dSet 1 (dBin addD (oVar 1) (oD (dLc (sSeq (dVar 1)) (gTp 2 (gsCons (setV 3) (gsCons (setV 4) (gsNil)))) (tYesB) (dTup (vCons (dBin divD (oVar 3) (oVar 2)) (vCons (dUn negD (oVar 4)) (vNil)))) [3, 4])))))
    (dRetV 1))
noncomputable def F_sign_divisors : Fn := fun as => fnRes as (B_sign_divisors (fuel as) (startE 5 as))
noncomputable def B_with_factors (n : Nat) : DEnv → SR := dSeq (dSetF 3 (dMk seqOf (oVar 0)))
    (dSeq (dForS (sRng1 (vCons (dVar 2) (vNil))) (setV 4) (dForS (sRevR2 (dVar 1) (dCal lenD (aCons (oVar 3) (aNil)))) (setV 5) (dSetI 3 (dVar 5) (dBin subD (oD (dBin ixD (oVar 3) (oVar 5))) (oD (dBin ixD (oVar 3) (oD (dBin subD (oVar 5) (oVar 1)))))))))
    (dSeq (dForS (sRng1 (vCons (dUn negD (oVar 2)) (vNil))) (setV 4) (dForS (sRng2 (vCons (dVar 1) (vCons (dCal lenD (aCons (oVar 3) (aNil))) (vNil)))) (setV 5) (dSetI 3 (dVar 5) (dBin addD (oD (dBin ixD (oVar 3) (oVar 5))) (oD (dBin ixD (oVar 3) (oD (dBin subD (oVar 5) (oVar 1)))))))))
    (dRetV 3)))
noncomputable def F_with_factors : Fn := fun as => fnRes as (B_with_factors (fuel as) (startE 6 as))
noncomputable def B_totient (n : Nat) : DEnv → SR := dSeq (dSet 1 (dVar 0))
    (dSeq (dForS (sKeys (dV (dCal2 1 F_prime_factors (rVal (dVar 0) (rNil))))) (setV 2) (dSet 1 (dBin mulD (oD (dBin divD (oVar 1) (oVar 2))) (oD (dBin subD (oVar 2) (oD (dC (.int 1))))))))
    (dRetV 1))
noncomputable def F_totient : Fn := fun as => fnRes as (B_totient (fuel as) (startE 3 as))
noncomputable def B_cyclotomic_product (n : Nat) : DEnv → SR := dSeq (dSet 1 (dC (.int 0)))
    (dSeq (dSetF 2 (dDic0))
    (dSeq (dForS (sItems (dVar 0)) (gTp 2 (gsCons (setV 3) (gsCons (setV 4) (gsNil)))) (dSeq (dSet 1 (dBin addD (oVar 1) (oD (dBin mulD (oD (dV (dCal2 1 F_totient (rVal (dVar 3) (rNil))))) (oVar 4)))))
    (dForS (sSeq (dV (dCal2 1 F_sign_divisors (rVal (dVar 3) (rNil))))) (gTp 2 (gsCons (setV 5) (gsCons (setV 6) (gsNil)))) (dSetK 2 (dVar 5) (dBin addD (oD (dGet2 (oVar 2) (dVar 5) (dC (.int 0)))) (oD (dBin mulD (oVar 6) (oVar 4))))))))
    (dSeq (dSet 7 (dBin addD (oD (dLst (vCons (dC (.int 1)) (vNil)))) (oD (dBin mulD (oD (dLst (vCons (dC (.int 0)) (vNil)))) (oVar 1)))))
    (dSeq (dForS (sItems (dVar 2)) (gTp 2 (gsCons (setV 5) (gsCons (setV 8) (gsNil)))) (dSet 7 (dV (dCal2 3 F_with_factors (rVal (dVar 7) (rVal (dVar 5) (rVal (dVar 8) (rNil))))))))
    (dRet (dIte (dTst (dBin eqY (oD (dBin modD (oD (dGet2 (oVar 0) (dC (.int 1)) (dC (.int 0)))) (oD (dC (.int 2))))) (oD (dC (.int 0))))) (dCal tupD (aCons (oVar 7) (aNil))) (dCal tupD (aCons (oD (dLc (sSeq (dVar 7)) (setV 9) (tYesB) (dUn negD (oVar 9)) [9])) (aNil)))))))))
noncomputable def F_cyclotomic_product : Fn := fun as => fnRes as (B_cyclotomic_product (fuel as) (startE 10 as))
noncomputable def B_cyclotomic (n : Nat) : DEnv → SR := dSeq (dExpr (dV (dCal2 3 F_check_number (rVal (dVar 0) (rVal (dC (.int 1)) (rVal (dC (.int 2520)) (rNil)))))))
    (dSeq (dIf (dTst (dBin gtD (oD (dV (dCal2 1 F_totient (rVal (dVar 0) (rNil))))) (oD (dC (.int 40))))) (dRaiseX "TooMany" "most" F_kept (dC (.int 40))) (SR.nx))
    (dRet (dV (dCal2 1 F_cyclotomic_product (rVal (dDisp [(dVar 0, dC (.int 1))]) (rNil))))))
noncomputable def F_cyclotomic : Fn := fun as => fnRes as (B_cyclotomic (fuel as) (startE 1 as))
noncomputable def B_cyclotomic_parts (n : Nat) : DEnv → SR := dSeq (dExpr (dV (dCal2 1 F_check_polynomial (rVal (dVar 0) (rNil)))))
    (dSeq (dIf (dOr (dTst (dBin neY (oD (dBin ixD (oVar 0) (oD (dUn negD (oD (dC (.int 1))))))) (oD (dC (.int 1))))) (dOr (dTst (dBin neY (oD (dCal absD (aCons (oD (dBin ixD (oVar 0) (oD (dC (.int 0))))) (aNil)))) (oD (dC (.int 1))))) (dTst (dBin gtD (oD (dCal (orC max2D maxSD) (aCons (oD (dLc (sSeq (dVar 0)) (setV 1) (tYesB) (dCal absD (aCons (oVar 1) (aNil))) [1])) (aNil)))) (oD (dC (.int 1099511627776))))))) (dRet (dC .non)) (SR.nx))
    (dSeq (dNever)
    (dSeq (dNever)
    (dSeq (dNever)
    (dSeq (dNever)
    (dNever))))))
noncomputable def F_cyclotomic_parts : Fn := fun as => fnRes as (B_cyclotomic_parts (fuel as) (startE 9 as))
noncomputable def B_q_lines_right (n : Nat) : DEnv → SR := dSeq (dSet 6 (dV (dCal2 2 F_q_one_of (rIo 0 (rVal (dLst (vCons (dC .non) (vCons (dTup (vNil)) (vCons (dTup (vCons (dC (.int 1)) (vCons (dC (.int 0)) (vNil)))) (vCons (dLst (vCons (dC (.int 1)) (vCons (dC (.int 1)) (vNil)))) (vCons (dTup (vCons (dC (.bl true)) (vNil))) (vCons (dBin mulD (oD (dTup (vCons (dC (.int 1)) (vNil)))) (oD (dC (.int 42)))) (vCons (dC (.str (Str.ofString "1"))) (vCons (dC (.int 5)) (vCons (dTup (vCons (dBin powD (oD (dC (.int 10))) (oD (dC (.int 60)))) (vNil))) (vCons (dTup (vCons (dTup (vCons (dC (.int 1)) (vNil))) (vNil))) (vCons (dTup (vCons (dC .non) (vCons (dC (.int 1)) (vNil)))) (vCons (dDic0) (vNil)))))))))))))) (rNil))))))
    (dSeq (dSet 7 (dV (dCal2 2 F_q_one_of (rIo 0 (rVal (dLst (vCons (dC .non) (vCons (dC (.int 1)) (vCons (dTup (vCons (dC (.int 1)) (vNil))) (vCons (dTup (vCons (dC (.int 1)) (vCons (dC (.int 0)) (vNil)))) (vCons (dTup (vCons (dC (.int 2)) (vCons (dC (.int 4)) (vNil)))) (vCons (dTup (vCons (dC (.int 1)) (vCons (dUn negD (oD (dC (.int 1)))) (vNil)))) (vCons (dTup (vCons (dC (.bl true)) (vCons (dC (.int 1)) (vNil)))) (vCons (dLst (vCons (dC (.int 1)) (vCons (dC (.int 2)) (vNil)))) (vCons (dTup (vCons (dC (.int 1)) (vCons (dC (.int 2)) (vCons (dC (.int 3)) (vNil))))) (vCons (dC (.str (Str.ofString "1/2"))) (vCons (dTup (vCons (dBin powD (oD (dC (.int 10))) (oD (dC (.int 60)))) (vCons (dC (.int 1)) (vNil)))) (vCons (dTup (vCons (dC (.int 0)) (vCons (dC (.int 2)) (vNil)))) (vNil)))))))))))))) (rNil))))))
    (dSeq (dSet 3 (dV (dCal2 2 F_q_one_of (rIo 0 (rVal (dLst (vCons (dC .non) (vCons (dC (.int 0)) (vCons (dUn negD (oD (dC (.int 1)))) (vCons (dC (.int 2521)) (vCons (dC (.bl true)) (vCons (dC (.str (Str.ofString "6"))) (vCons (dTup (vCons (dC (.int 6)) (vNil))) (vCons (dBin powD (oD (dC (.int 10))) (oD (dC (.int 60)))) (vNil)))))))))) (rNil))))))
    (dSeq (dAsg (dTup (vCons (dTup (vCons (dC (.int 1)) (vCons (dC (.int 1)) (vCons (dC (.int 2)) (vNil))))) (vCons (dBin mulD (oD (dTup (vCons (dC (.int 1)) (vCons (dC (.int 0)) (vCons (dC (.int 3)) (vNil)))))) (oD (dC (.int 7)))) (vNil)))) (gTp 2 (gsCons (setV 5) (gsCons (setV 4) (gsNil)))))
    (dSeq (dSetF 1 (dLst (vCons (dLam F_q_word (dV (dCal2 2 F_polynomial_sum (rVal (dVar 6) (rVal (dVar 6) (rNil)))))) (vNil))))
    (dSeq (dApp 1 (dLam F_q_word (dV (dCal2 2 F_polynomial_sum (rVal (dVar 5) (rVal (dVar 6) (rNil)))))))
    (dSeq (dApp 1 (dLam F_q_word (dV (dCal2 2 F_polynomial_product (rVal (dVar 6) (rVal (dVar 5) (rNil)))))))
    (dSeq (dApp 1 (dLam F_q_word (dV (dCal2 2 F_polynomial_product (rVal (dVar 4) (rVal (dVar 6) (rNil)))))))
    (dSeq (dApp 1 (dLam F_q_word (dV (dCal2 2 F_polynomial_product (rVal (dVar 4) (rVal (dVar 4) (rNil)))))))
    (dSeq (dApp 1 (dLam F_q_word (dV (dCal2 2 F_polynomial_product (rVal (dVar 4) (rVal (dBin addD (oVar 4) (oD (dTup (vCons (dC (.int 1)) (vNil))))) (rNil)))))))
    (dSeq (dApp 1 (dLam F_q_word (dV (dCal2 2 F_polynomial_quotient (rVal (dVar 6) (rVal (dTup (vCons (dC (.int 0)) (vNil))) (rNil)))))))
    (dSeq (dApp 1 (dLam F_q_word (dV (dCal2 2 F_polynomial_quotient (rVal (dVar 5) (rVal (dVar 6) (rNil)))))))
    (dSeq (dApp 1 (dLam F_q_word (dV (dCal2 2 F_polynomial_quotient (rVal (dVar 5) (rVal (dTup (vCons (dC (.int 0)) (vNil))) (rNil)))))))
    (dSeq (dApp 1 (dLam F_q_word (dV (dCal2 2 F_polynomial_value (rVal (dVar 6) (rVal (dVar 7) (rNil)))))))
    (dSeq (dApp 1 (dLam F_q_word (dV (dCal2 2 F_polynomial_value (rVal (dVar 5) (rVal (dVar 7) (rNil)))))))
    (dSeq (dApp 1 (dLam F_q_word (dV (dCal2 1 F_cyclotomic (rVal (dVar 3) (rNil))))))
    (dSeq (dApp 1 (dLam F_q_word (dV (dCal2 1 F_cyclotomic_parts (rVal (dVar 6) (rNil))))))
    (dSeq (dApp 1 (dLam F_q_word (dV (dCal2 1 F_cyclotomic (rVal (dC (.int 2519)) (rNil))))))
    (dSeq (dSet 2 (dBin addD (oD (dBin mulD (oD (dLst (vCons (dC (.str (Str.ofString "polynomial"))) (vNil)))) (oD (dC (.int 4))))) (oD (dLst (vCons (dC (.str (Str.ofString "fine"))) (vCons (dC (.str (Str.ofString "many 40"))) (vCons (dC (.str (Str.ofString "polynomial"))) (vCons (dC (.str (Str.ofString "polynomial"))) (vCons (dC (.str (Str.ofString "operation"))) (vCons (dC (.str (Str.ofString "polynomial"))) (vCons (dC (.str (Str.ofString "ratio"))) (vNil))))))))))))
    (dRet (dBin eqY (oVar 1) (oD (dBin addD (oVar 2) (oD (dLst (vCons (dBin addW (oD (dC (.str (Str.ofString "number ")))) (oD (dCal rprW (aCons (oVar 3) (aNil))))) (vCons (dC (.str (Str.ofString "polynomial"))) (vCons (dC (.str (Str.ofString "many 40"))) (vNil))))))))))))))))))))))))))))
noncomputable def F_q_lines_right : Fn := fun as => fnRes as (B_q_lines_right (fuel as) (startE 8 as))
noncomputable def B_is_table_row (n : Nat) : DEnv → SR := dSeq (dIf (dOr (dNot (dTst (dIsi "tuple" (oVar 0)))) (dNot (dTst (dChain leD leD (oD (dC (.int 1))) (oD (dCal lenD (aCons (oVar 0) (aNil)))) (oD (dC (.int 12))))))) (dRet (dC (.bl false))) (SR.nx))
    (dRet (dCal allD (aCons (oD (dLc (sSeq (dVar 0)) (setV 1) (tYesB) (dV (dCal2 1 F_is_integer (rVal (dVar 1) (rNil)))) [1])) (aNil))))
noncomputable def F_is_table_row : Fn := fun as => fnRes as (B_is_table_row (fuel as) (startE 2 as))
noncomputable def B_is_table (n : Nat) : DEnv → SR := dSeq (dIf (dOr (dNot (dTst (dIsi "tuple" (oVar 0)))) (dNot (dTst (dChain leD leD (oD (dC (.int 1))) (oD (dCal lenD (aCons (oVar 0) (aNil)))) (oD (dC (.int 12))))))) (dRet (dC (.bl false))) (SR.nx))
    (dSeq (dIf (dNot (dTst (dCal allD (aCons (oD (dLc (sSeq (dVar 0)) (setV 1) (tYesB) (dV (dCal2 1 F_is_table_row (rVal (dVar 1) (rNil)))) [1])) (aNil))))) (dRet (dC (.bl false))) (SR.nx))
    (dRet (dCal allD (aCons (oD (dLc (sSeq (dVar 0)) (setV 1) (tYesB) (dBin eqY (oD (dCal lenD (aCons (oVar 1) (aNil)))) (oD (dCal lenD (aCons (oD (dBin ixD (oVar 0) (oD (dC (.int 0))))) (aNil))))) [1])) (aNil)))))
noncomputable def F_is_table : Fn := fun as => fnRes as (B_is_table (fuel as) (startE 2 as))
noncomputable def B_check_table (n : Nat) : DEnv → SR := dIf (dNot (dTst (dV (dCal2 1 F_is_table (rVal (dVar 0) (rNil)))))) (dRaise "InvalidTable") (SR.nx)
noncomputable def F_check_table : Fn := fun as => fnRes as (B_check_table (fuel as) (startE 1 as))
noncomputable def B_exchanged_table (n : Nat) : DEnv → SR := dRet (dCal tupD (aCons (oD (dLc (sRng1 (vCons (dCal lenD (aCons (oD (dBin ixD (oVar 0) (oD (dC (.int 0))))) (aNil))) (vNil))) (setV 1) (tYesB) (dCal tupD (aCons (oD (dLc (sSeq (dVar 0)) (setV 2) (tYesB) (dBin ixD (oVar 2) (oVar 1)) [2])) (aNil))) [1])) (aNil)))
noncomputable def F_exchanged_table : Fn := fun as => fnRes as (B_exchanged_table (fuel as) (startE 3 as))
noncomputable def B_turned_over (n : Nat) : DEnv → SR := dSeq (dExpr (dV (dCal2 1 F_check_table (rVal (dVar 0) (rNil)))))
    (dRet (dV (dCal2 1 F_exchanged_table (rVal (dVar 0) (rNil)))))
noncomputable def F_turned_over : Fn := fun as => fnRes as (B_turned_over (fuel as) (startE 1 as))
noncomputable def B_divisor_of_all (n : Nat) : DEnv → SR := dSeq (dSet 1 (dC (.int 0)))
    (dSeq (dForS (sSeq (dVar 0)) (setV 2) (dSet 1 (dCal gcdD (aCons (oVar 1) (aCons (oVar 2) (aNil))))))
    (dRetV 1))
noncomputable def F_divisor_of_all : Fn := fun as => fnRes as (B_divisor_of_all (fuel as) (startE 3 as))
noncomputable def B_lead_of (n : Nat) : DEnv → SR := dSeq (dSet 1 (dC (.int 0)))
    (dSeq (dWhile (dTst (dBin eqY (oD (dBin ixD (oVar 0) (oVar 1))) (oD (dC (.int 0))))) (dSet 1 (dBin addD (oVar 1) (oD (dC (.int 1))))) n)
    (dRetV 1))
noncomputable def F_lead_of : Fn := fun as => fnRes as (B_lead_of (fuel as) (startE 2 as))
noncomputable def B_simplest (n : Nat) : DEnv → SR := dSeq (dSet 1 (dV (dCal2 1 F_divisor_of_all (rVal (dVar 0) (rNil)))))
    (dSeq (dIf (dTst (dBin eqY (oVar 1) (oD (dC (.int 0))))) (dRetV 0) (SR.nx))
    (dSeq (dIf (dTst (dBin ltD (oD (dBin ixD (oVar 0) (oD (dV (dCal2 1 F_lead_of (rVal (dVar 0) (rNil))))))) (oD (dC (.int 0))))) (dSet 1 (dUn negD (oVar 1))) (SR.nx))
    (dRetF (dLc (sSeq (dVar 0)) (setV 2) (tYesB) (dBin divD (oVar 2) (oVar 1)) [2]))))
noncomputable def F_simplest : Fn := fun as => fnRes as (B_simplest (fuel as) (startE 3 as))
noncomputable def B_cleared (n : Nat) : DEnv → SR := dSeq (dIf (dTst (dBin eqY (oD (dBin ixD (oVar 0) (oVar 2))) (oD (dC (.int 0))))) (dRetV 0) (SR.nx))
    (dRet (dV (dCal2 1 F_simplest (rVal (dLc (sZip (vCons (dVar 0) (vCons (dVar 1) (vNil)))) (gTp 2 (gsCons (setV 3) (gsCons (setV 4) (gsNil)))) (tYesB) (dBin subD (oD (dBin mulD (oVar 3) (oD (dBin ixD (oVar 1) (oVar 2))))) (oD (dBin mulD (oVar 4) (oD (dBin ixD (oVar 0) (oVar 2)))))) [3, 4]) (rNil)))))
noncomputable def F_cleared : Fn := fun as => fnRes as (B_cleared (fuel as) (startE 5 as))
noncomputable def B_echelon (n : Nat) : DEnv → SR := dSeq (dSet 1 (dLst (vNil)))
    (dSeq (dSet 3 (dLc (sSeq (dVar 0)) (setV 2) (tYesB) (dMk seqOf (oVar 2)) [2]))
    (dSeq (dForS (sRng1 (vCons (dIte (dTru (oVar 3)) (dCal lenD (aCons (oD (dBin ixD (oVar 3) (oD (dC (.int 0))))) (aNil))) (dC (.int 0))) (vNil))) (setV 4) (dSeq (dSet 5 (dLc (sSeq (dVar 3)) (setV 2) (dTst (dBin neY (oD (dBin ixD (oVar 2) (oVar 4))) (oD (dC (.int 0))))) (dVar 2) [2]))
    (dIf (dTru (oVar 5)) (dSeq (dSet 6 (dV (dCal2 1 F_simplest (rVal (dBin ixD (oVar 5) (oD (dC (.int 0)))) (rNil)))))
    (dSeq (dSet 3 (dLc (sSeq (dVar 3)) (setV 2) (tYesB) (dV (dCal2 3 F_cleared (rVal (dVar 2) (rVal (dVar 6) (rVal (dVar 4) (rNil)))))) [2]))
    (dSet 1 (dBin addD (oD (dLc (sSeq (dVar 1)) (setV 2) (tYesB) (dV (dCal2 3 F_cleared (rVal (dVar 2) (rVal (dVar 6) (rVal (dVar 4) (rNil)))))) [2])) (oD (dLst (vCons (dVar 6) (vNil)))))))) (SR.nx))))
    (dRet (dCal tupD (aCons (oD (dLc (sSeq (dVar 1)) (setV 2) (tYesB) (dCal tupD (aCons (oVar 2) (aNil))) [2])) (aNil))))))
noncomputable def F_echelon : Fn := fun as => fnRes as (B_echelon (fuel as) (startE 7 as))
noncomputable def B_kernel_row (n : Nat) : DEnv → SR := dSeq (dSet 4 (dC (.int 1)))
    (dSeq (dForS (sZipM (vCons (dVar 0) (vCons (dVar 1) (vNil)))) (gTp 2 (gsCons (setV 5) (gsCons (setV 6) (gsNil)))) (dSet 4 (dCal lcmD (aCons (oVar 4) (aCons (oD (dBin ixD (oVar 5) (oVar 6))) (aNil))))))
    (dSeq (dSetF 7 (dBin repL (oD (dLst (vCons (dC (.int 0)) (vNil)))) (oVar 3)))
    (dSeq (dSetI 7 (dVar 2) (dVar 4))
    (dSeq (dForS (sZipM (vCons (dVar 0) (vCons (dVar 1) (vNil)))) (gTp 2 (gsCons (setV 5) (gsCons (setV 6) (gsNil)))) (dSetI 7 (dVar 6) (dBin divD (oD (dBin mulD (oD (dUn negD (oD (dBin ixD (oVar 5) (oVar 2))))) (oVar 4))) (oD (dBin ixD (oVar 5) (oVar 6))))))
    (dRetV 7)))))
noncomputable def F_kernel_row : Fn := fun as => fnRes as (B_kernel_row (fuel as) (startE 8 as))
noncomputable def B_kernel_of (n : Nat) : DEnv → SR := dSeq (dSet 2 (dV (dCal2 1 F_echelon (rVal (dVar 0) (rNil)))))
    (dSeq (dSet 4 (dLc (sSeq (dVar 2)) (setV 3) (tYesB) (dV (dCal2 1 F_lead_of (rVal (dVar 3) (rNil)))) [3]))
    (dRet (dV (dCal2 1 F_echelon (rVal (dLc (sRng1 (vCons (dVar 1) (vNil))) (setV 5) (dTst (dBin ninSD (oVar 5) (oVar 4))) (dV (dCal2 4 F_kernel_row (rVal (dVar 2) (rVal (dVar 4) (rVal (dVar 5) (rVal (dVar 1) (rNil))))))) [5]) (rNil))))))
noncomputable def F_kernel_of : Fn := fun as => fnRes as (B_kernel_of (fuel as) (startE 6 as))
noncomputable def B_kernel (n : Nat) : DEnv → SR := dSeq (dExpr (dV (dCal2 1 F_check_table (rVal (dVar 0) (rNil)))))
    (dRet (dV (dCal2 2 F_kernel_of (rVal (dVar 0) (rVal (dCal lenD (aCons (oD (dBin ixD (oVar 0) (oD (dC (.int 0))))) (aNil))) (rNil))))))
noncomputable def F_kernel : Fn := fun as => fnRes as (B_kernel (fuel as) (startE 1 as))
noncomputable def B_rank (n : Nat) : DEnv → SR := dSeq (dExpr (dV (dCal2 1 F_check_table (rVal (dVar 0) (rNil)))))
    (dRet (dBin subD (oD (dCal lenD (aCons (oD (dBin ixD (oVar 0) (oD (dC (.int 0))))) (aNil)))) (oD (dCal lenD (aCons (oD (dV (dCal2 1 F_kernel (rVal (dVar 0) (rNil))))) (aNil))))))
noncomputable def F_rank : Fn := fun as => fnRes as (B_rank (fuel as) (startE 1 as))
noncomputable def B_check_square (n : Nat) : DEnv → SR := dIf (dTst (dBin neY (oD (dCal lenD (aCons (oVar 0) (aNil)))) (oD (dCal lenD (aCons (oD (dBin ixD (oVar 0) (oD (dC (.int 0))))) (aNil)))))) (dRaise "InvalidOperation") (SR.nx)
noncomputable def F_check_square : Fn := fun as => fnRes as (B_check_square (fuel as) (startE 1 as))
noncomputable def B_reduced_row (n : Nat) : DEnv → SR := dRetF (dLc (sRng2 (vCons (dC (.int 1)) (vCons (dCal lenD (aCons (oVar 0) (aNil))) (vNil)))) (setV 3) (tYesB) (dBin divD (oD (dBin subD (oD (dBin mulD (oD (dBin ixD (oVar 1) (oD (dC (.int 0))))) (oD (dBin ixD (oVar 0) (oVar 3))))) (oD (dBin mulD (oD (dBin ixD (oVar 0) (oD (dC (.int 0))))) (oD (dBin ixD (oVar 1) (oVar 3))))))) (oVar 2)) [3])
noncomputable def F_reduced_row : Fn := fun as => fnRes as (B_reduced_row (fuel as) (startE 4 as))
noncomputable def B_determinant_of (n : Nat) : DEnv → SR := dSeq (dSet 2 (dLc (sSeq (dVar 0)) (setV 1) (tYesB) (dMk seqOf (oVar 1)) [1]))
    (dSeq (dSet 3 (dC (.int 1)))
    (dSeq (dSet 4 (dC (.int 1)))
    (dSeq (dWhile (dTst (dBin gtD (oD (dCal lenD (aCons (oVar 2) (aNil)))) (oD (dC (.int 1))))) (dSeq (dSet 6 (dLc (sEnL (vCons (dVar 2) (vNil))) (gTp 2 (gsCons (setV 5) (gsCons (setV 1) (gsNil)))) (dTst (dBin neY (oD (dBin ixD (oVar 1) (oD (dC (.int 0))))) (oD (dC (.int 0))))) (dVar 5) [5, 1]))
    (dSeq (dIf (dNot (dTru (oVar 6))) (dRet (dC (.int 0))) (SR.nx))
    (dSeq (dIf (dTst (dBin eqY (oD (dBin modD (oD (dBin ixD (oVar 6) (oD (dC (.int 0))))) (oD (dC (.int 2))))) (oD (dC (.int 1))))) (dSet 3 (dUn negD (oVar 3))) (SR.nx))
    (dSeq (dSet 7 (dBin ixD (oVar 2) (oD (dBin ixD (oVar 6) (oD (dC (.int 0)))))))
    (dSeq (dSet 8 (dBin addD (oD (dSl (oVar 2) (pNo) (pInt (dBin ixD (oVar 6) (oD (dC (.int 0))))))) (oD (dSl (oVar 2) (pInt (dBin addD (oD (dBin ixD (oVar 6) (oD (dC (.int 0))))) (oD (dC (.int 1))))) (pNo)))))
    (dSeq (dSet 2 (dLc (sSeq (dVar 8)) (setV 1) (tYesB) (dV (dCal2 3 F_reduced_row (rVal (dVar 1) (rVal (dVar 7) (rVal (dVar 4) (rNil)))))) [1]))
    (dSet 4 (dBin ixD (oVar 7) (oD (dC (.int 0))))))))))) n)
    (dRet (dBin mulD (oVar 3) (oD (dBin ixD (oD (dBin ixD (oVar 2) (oD (dC (.int 0))))) (oD (dC (.int 0))))))))))
noncomputable def F_determinant_of : Fn := fun as => fnRes as (B_determinant_of (fuel as) (startE 9 as))
noncomputable def B_determinant (n : Nat) : DEnv → SR := dSeq (dExpr (dV (dCal2 1 F_check_table (rVal (dVar 0) (rNil)))))
    (dSeq (dExpr (dV (dCal2 1 F_check_square (rVal (dVar 0) (rNil)))))
    (dRet (dV (dCal2 1 F_determinant_of (rVal (dVar 0) (rNil))))))
noncomputable def F_determinant : Fn := fun as => fnRes as (B_determinant (fuel as) (startE 1 as))
noncomputable def B_minors (n : Nat) : DEnv → SR := dSeq (dExpr (dV (dCal2 1 F_check_table (rVal (dVar 0) (rNil)))))
    (dSeq (dExpr (dV (dCal2 1 F_check_square (rVal (dVar 0) (rNil)))))
    (dRet (dCal tupD (aCons (oD (dLc (sRng2 (vCons (dC (.int 1)) (vCons (dBin addD (oD (dCal lenD (aCons (oVar 0) (aNil)))) (oD (dC (.int 1)))) (vNil)))) (setV 1) (tYesB) (dV (dCal2 1 F_determinant_of (rVal (dLc (sSeq (dSl (oVar 0) (pNo) (pInt (dVar 1)))) (setV 2) (tYesB) (dSl (oVar 2) (pNo) (pInt (dVar 1))) [2]) (rNil)))) [1])) (aNil)))))
noncomputable def F_minors : Fn := fun as => fnRes as (B_minors (fuel as) (startE 3 as))
noncomputable def B_is_symmetric (n : Nat) : DEnv → SR := dSeq (dExpr (dV (dCal2 1 F_check_table (rVal (dVar 0) (rNil)))))
    (dSeq (dExpr (dV (dCal2 1 F_check_square (rVal (dVar 0) (rNil)))))
    (dRet (dBin eqY (oD (dV (dCal2 1 F_exchanged_table (rVal (dVar 0) (rNil))))) (oVar 0))))
noncomputable def F_is_symmetric : Fn := fun as => fnRes as (B_is_symmetric (fuel as) (startE 1 as))
noncomputable def B_is_alternating (n : Nat) : DEnv → SR := dSeq (dExpr (dV (dCal2 1 F_check_table (rVal (dVar 0) (rNil)))))
    (dSeq (dExpr (dV (dCal2 1 F_check_square (rVal (dVar 0) (rNil)))))
    (dRet (dBin eqY (oD (dV (dCal2 1 F_exchanged_table (rVal (dVar 0) (rNil))))) (oD (dCal tupD (aCons (oD (dLc (sSeq (dVar 0)) (setV 1) (tYesB) (dCal tupD (aCons (oD (dLc (sSeq (dVar 1)) (setV 2) (tYesB) (dUn negD (oVar 2)) [2])) (aNil))) [1])) (aNil)))))))
noncomputable def F_is_alternating : Fn := fun as => fnRes as (B_is_alternating (fuel as) (startE 3 as))
noncomputable def B_scalar_product (n : Nat) : DEnv → SR := dRet (dCal sumAD (aCons (oD (dLc (sZip (vCons (dVar 0) (vCons (dVar 1) (vNil)))) (gTp 2 (gsCons (setV 2) (gsCons (setV 3) (gsNil)))) (tYesB) (dBin mulD (oVar 2) (oVar 3)) [2, 3])) (aNil)))
noncomputable def F_scalar_product : Fn := fun as => fnRes as (B_scalar_product (fuel as) (startE 4 as))
noncomputable def B_product_of (n : Nat) : DEnv → SR := dSeq (dSet 2 (dV (dCal2 1 F_exchanged_table (rVal (dVar 1) (rNil)))))
    (dRet (dCal tupD (aCons (oD (dLc (sSeq (dVar 0)) (setV 3) (tYesB) (dCal tupD (aCons (oD (dLc (sSeq (dVar 2)) (setV 4) (tYesB) (dV (dCal2 2 F_scalar_product (rVal (dVar 3) (rVal (dVar 4) (rNil))))) [4])) (aNil))) [3])) (aNil))))
noncomputable def F_product_of : Fn := fun as => fnRes as (B_product_of (fuel as) (startE 5 as))
noncomputable def B_table_product (n : Nat) : DEnv → SR := dSeq (dExpr (dV (dCal2 1 F_check_table (rVal (dVar 0) (rNil)))))
    (dSeq (dExpr (dV (dCal2 1 F_check_table (rVal (dVar 1) (rNil)))))
    (dSeq (dIf (dTst (dBin neY (oD (dCal lenD (aCons (oD (dBin ixD (oVar 0) (oD (dC (.int 0))))) (aNil)))) (oD (dCal lenD (aCons (oVar 1) (aNil)))))) (dRaise "InvalidOperation") (SR.nx))
    (dRet (dV (dCal2 2 F_product_of (rVal (dVar 0) (rVal (dVar 1) (rNil))))))))
noncomputable def F_table_product : Fn := fun as => fnRes as (B_table_product (fuel as) (startE 2 as))
noncomputable def B_unit_table (n : Nat) : DEnv → SR := dSeq (dExpr (dV (dCal2 3 F_check_number (rVal (dVar 0) (rVal (dC (.int 1)) (rVal (dC (.int 12)) (rNil)))))))
    (dRet (dCal tupD (aCons (oD (dLc (sRng1 (vCons (dVar 0) (vNil))) (setV 1) (tYesB) (dCal tupD (aCons (oD (dLc (sRng1 (vCons (dVar 0) (vNil))) (setV 2) (tYesB) (dIte (dTst (dBin eqY (oVar 1) (oVar 2))) (dC (.int 1)) (dC (.int 0))) [2])) (aNil))) [1])) (aNil))))
noncomputable def F_unit_table : Fn := fun as => fnRes as (B_unit_table (fuel as) (startE 3 as))
noncomputable def B_table_power (n : Nat) : DEnv → SR := dSeq (dExpr (dV (dCal2 1 F_check_table (rVal (dVar 0) (rNil)))))
    (dSeq (dExpr (dV (dCal2 3 F_check_number (rVal (dVar 1) (rVal (dC (.int 0)) (rVal (dC (.int 60)) (rNil)))))))
    (dSeq (dExpr (dV (dCal2 1 F_check_square (rVal (dVar 0) (rNil)))))
    (dSeq (dSet 2 (dV (dCal2 1 F_unit_table (rVal (dCal lenD (aCons (oVar 0) (aNil))) (rNil)))))
    (dSeq (dSet 3 (dVar 0))
    (dSeq (dSet 4 (dVar 1))
    (dSeq (dWhile (dTst (dBin gtD (oVar 4) (oD (dC (.int 0))))) (dSeq (dIf (dTst (dBin eqY (oD (dBin modD (oVar 4) (oD (dC (.int 2))))) (oD (dC (.int 1))))) (dSet 2 (dV (dCal2 2 F_product_of (rVal (dVar 2) (rVal (dVar 3) (rNil)))))) (SR.nx))
    (dSeq (dSet 4 (dBin divD (oVar 4) (oD (dC (.int 2)))))
    (dIf (dTst (dBin gtD (oVar 4) (oD (dC (.int 0))))) (dSet 3 (dV (dCal2 2 F_product_of (rVal (dVar 3) (rVal (dVar 3) (rNil)))))) (SR.nx)))) n)
    (dRetV 2)))))))
noncomputable def F_table_power : Fn := fun as => fnRes as (B_table_power (fuel as) (startE 5 as))
noncomputable def B_q_tables_right (n : Nat) : DEnv → SR := dSeq (dSet 6 (dV (dCal2 2 F_q_one_of (rIo 0 (rVal (dLst (vCons (dC .non) (vCons (dTup (vNil)) (vCons (dTup (vCons (dTup (vNil)) (vNil))) (vCons (dTup (vCons (dTup (vCons (dC (.int 1)) (vCons (dC (.int 2)) (vNil)))) (vCons (dTup (vCons (dC (.int 3)) (vNil))) (vNil)))) (vCons (dLst (vCons (dLst (vCons (dC (.int 1)) (vNil))) (vNil))) (vCons (dTup (vCons (dTup (vCons (dC (.bl true)) (vNil))) (vNil))) (vCons (dTup (vCons (dBin mulD (oD (dTup (vCons (dC (.int 0)) (vNil)))) (oD (dC (.int 13)))) (vNil))) (vCons (dBin mulD (oD (dTup (vCons (dTup (vCons (dC (.int 0)) (vNil))) (vNil)))) (oD (dC (.int 13)))) (vCons (dC (.str (Str.ofString "1"))) (vCons (dC (.int 4)) (vCons (dTup (vCons (dTup (vCons (dBin powD (oD (dC (.int 10))) (oD (dC (.int 60)))) (vNil))) (vNil))) (vCons (dDic0) (vNil)))))))))))))) (rNil))))))
    (dSeq (dSet 7 (dV (dCal2 2 F_q_one_of (rIo 0 (rVal (dLst (vCons (dC .non) (vCons (dUn negD (oD (dC (.int 1)))) (vCons (dC (.int 61)) (vCons (dC (.bl true)) (vCons (dC (.str (Str.ofString "2"))) (vCons (dTup (vCons (dC (.int 2)) (vNil))) (vCons (dBin powD (oD (dC (.int 10))) (oD (dC (.int 60)))) (vNil))))))))) (rNil))))))
    (dSeq (dSet 8 (dV (dCal2 2 F_q_one_of (rIo 0 (rVal (dLst (vCons (dC .non) (vCons (dC (.int 0)) (vCons (dC (.int 13)) (vCons (dUn negD (oD (dC (.int 3)))) (vCons (dC (.bl true)) (vCons (dC (.str (Str.ofString "3"))) (vCons (dLst (vCons (dC (.int 2)) (vNil))) (vNil))))))))) (rNil))))))
    (dSeq (dAsg (dTup (vCons (dTup (vCons (dTup (vCons (dC (.int 1)) (vCons (dC (.int 2)) (vCons (dC (.int 3)) (vNil))))) (vNil))) (vCons (dTup (vCons (dTup (vCons (dC (.int 1)) (vCons (dC (.int 2)) (vNil)))) (vCons (dTup (vCons (dC (.int 3)) (vCons (dC (.int 4)) (vNil)))) (vNil)))) (vNil)))) (gTp 2 (gsCons (setV 5) (gsCons (setV 9) (gsNil)))))
    (dSeq (dSetF 1 (dLst (vNil)))
    (dSeq (dForS (sSeq (dTup (vCons (dC (.fn "turned_over")) (vCons (dC (.fn "rank")) (vCons (dC (.fn "kernel")) (vNil)))))) (setV 4) (dSeq (dApp 1 (dLam F_q_word (dV (dCalV 1 4 [("turned_over", F_turned_over), ("rank", F_rank), ("kernel", F_kernel), ("determinant", F_determinant), ("minors", F_minors), ("is_symmetric", F_is_symmetric), ("is_alternating", F_is_alternating)] (rVal (dVar 6) (rNil))))))
    (dApp 1 (dLam F_q_word (dV (dCalV 1 4 [("turned_over", F_turned_over), ("rank", F_rank), ("kernel", F_kernel), ("determinant", F_determinant), ("minors", F_minors), ("is_symmetric", F_is_symmetric), ("is_alternating", F_is_alternating)] (rVal (dVar 5) (rNil))))))))
    (dSeq (dForS (sSeq (dTup (vCons (dC (.fn "determinant")) (vCons (dC (.fn "minors")) (vCons (dC (.fn "is_symmetric")) (vCons (dC (.fn "is_alternating")) (vNil))))))) (setV 4) (dSeq (dApp 1 (dLam F_q_word (dV (dCalV 1 4 [("turned_over", F_turned_over), ("rank", F_rank), ("kernel", F_kernel), ("determinant", F_determinant), ("minors", F_minors), ("is_symmetric", F_is_symmetric), ("is_alternating", F_is_alternating)] (rVal (dVar 6) (rNil))))))
    (dSeq (dApp 1 (dLam F_q_word (dV (dCalV 1 4 [("turned_over", F_turned_over), ("rank", F_rank), ("kernel", F_kernel), ("determinant", F_determinant), ("minors", F_minors), ("is_symmetric", F_is_symmetric), ("is_alternating", F_is_alternating)] (rVal (dVar 5) (rNil))))))
    (dApp 1 (dLam F_q_word (dV (dCalV 1 4 [("turned_over", F_turned_over), ("rank", F_rank), ("kernel", F_kernel), ("determinant", F_determinant), ("minors", F_minors), ("is_symmetric", F_is_symmetric), ("is_alternating", F_is_alternating)] (rVal (dVar 9) (rNil)))))))))
    (dSeq (dIf (dTst (dBin neY (oVar 1) (oD (dBin addD (oD (dBin mulD (oD (dLst (vCons (dC (.str (Str.ofString "table"))) (vCons (dC (.str (Str.ofString "fine"))) (vNil))))) (oD (dC (.int 3))))) (oD (dBin mulD (oD (dLst (vCons (dC (.str (Str.ofString "table"))) (vCons (dC (.str (Str.ofString "operation"))) (vCons (dC (.str (Str.ofString "fine"))) (vNil)))))) (oD (dC (.int 4))))))))) (dRet (dC (.bl false))) (SR.nx))
    (dSeq (dSetF 1 (dLst (vCons (dLam F_q_word (dV (dCal2 2 F_table_product (rVal (dVar 6) (rVal (dVar 6) (rNil)))))) (vNil))))
    (dSeq (dApp 1 (dLam F_q_word (dV (dCal2 2 F_table_product (rVal (dVar 5) (rVal (dVar 6) (rNil)))))))
    (dSeq (dApp 1 (dLam F_q_word (dV (dCal2 2 F_table_product (rVal (dVar 5) (rVal (dVar 9) (rNil)))))))
    (dSeq (dApp 1 (dLam F_q_word (dV (dCal2 2 F_table_product (rVal (dVar 9) (rVal (dVar 9) (rNil)))))))
    (dSeq (dApp 1 (dLam F_q_word (dV (dCal2 2 F_table_power (rVal (dVar 6) (rVal (dVar 7) (rNil)))))))
    (dSeq (dApp 1 (dLam F_q_word (dV (dCal2 2 F_table_power (rVal (dVar 5) (rVal (dVar 7) (rNil)))))))
    (dSeq (dApp 1 (dLam F_q_word (dV (dCal2 2 F_table_power (rVal (dVar 5) (rVal (dC (.int 2)) (rNil)))))))
    (dSeq (dApp 1 (dLam F_q_word (dV (dCal2 2 F_table_power (rVal (dVar 9) (rVal (dVar 7) (rNil)))))))
    (dSeq (dApp 1 (dLam F_q_word (dV (dCal2 2 F_table_power (rVal (dVar 9) (rVal (dV (dCal2 2 F_q_one_of (rIo 0 (rVal (dLst (vCons (dC (.int 0)) (vCons (dC (.int 1)) (vCons (dC (.int 60)) (vNil))))) (rNil))))) (rNil)))))))
    (dSeq (dApp 1 (dLam F_q_word (dV (dCal2 1 F_unit_table (rVal (dVar 8) (rNil))))))
    (dSeq (dApp 1 (dLam F_q_word (dV (dCal2 1 F_unit_table (rVal (dV (dCal2 2 F_q_one_of (rIo 0 (rVal (dLst (vCons (dC (.int 1)) (vCons (dC (.int 12)) (vNil)))) (rNil))))) (rNil))))))
    (dSeq (dSet 2 (dBin addW (oD (dC (.str (Str.ofString "number ")))) (oD (dCal rprW (aCons (oVar 7) (aNil))))))
    (dSeq (dSet 3 (dLst (vCons (dC (.str (Str.ofString "table"))) (vCons (dC (.str (Str.ofString "table"))) (vCons (dC (.str (Str.ofString "operation"))) (vCons (dC (.str (Str.ofString "fine"))) (vCons (dC (.str (Str.ofString "table"))) (vCons (dVar 2) (vCons (dC (.str (Str.ofString "operation"))) (vCons (dVar 2) (vCons (dC (.str (Str.ofString "fine"))) (vNil))))))))))))
    (dRet (dBin eqY (oVar 1) (oD (dBin addD (oVar 3) (oD (dLst (vCons (dBin addW (oD (dC (.str (Str.ofString "number ")))) (oD (dCal rprW (aCons (oVar 8) (aNil))))) (vCons (dC (.str (Str.ofString "fine"))) (vNil)))))))))))))))))))))))))))))
noncomputable def F_q_tables_right : Fn := fun as => fnRes as (B_q_tables_right (fuel as) (startE 10 as))
noncomputable def B_law (n : Nat) : DEnv → SR := dSeq (dForS (sRng1 (vCons (dCal (orC max2D maxSD) (aCons (oD (dC (.int 1))) (aCons (oD (dCal (orC min2D minSD) (aCons (oD (dC (.int 3))) (aCons (oD (dCal lenD (aCons (oVar 0) (aNil)))) (aNil))))) (aNil)))) (vNil))) (setV 1) (dSeq (dSetF 2 (dN (dCal2 2 F_q_bag (rVal (dVar 0) (rVal (dVar 1) (rNil))))))
    (dIf (dOr (dNot (dTst (dV (dCal2 1 F_q_lines_right (rIo 2 (rNil)))))) (dNot (dTst (dV (dCal2 1 F_q_tables_right (rIo 2 (rNil))))))) (dRet (dC (.bl false))) (SR.nx))))
    (dRet (dBin eqY (oD (dLam F_q_word (dV (dCal2 2 F_polynomial_product (rVal (dBin addD (oD (dBin mulD (oD (dTup (vCons (dC (.int 0)) (vNil)))) (oD (dC (.int 40))))) (oD (dTup (vCons (dC (.int 1)) (vNil))))) (rVal (dTup (vCons (dBin subD (oD (dBin powD (oD (dC (.int 10))) (oD (dC (.int 60))))) (oD (dC (.int 1)))) (vNil))) (rNil))))))) (oD (dC (.str (Str.ofString "fine"))))))
noncomputable def F_law : Fn := fun as => fnRes as (B_law (fuel as) (startE 3 as))
structure Txt (P : Program) (K : PySem.W.Frag) (mg : Str → Option Value) (base : Heap) : Prop where
  seer : base.NoSeer
  tree : P.given.tree = none
  lamT : ∀ y ∈ lamNames, ∀ c P, PySem.W.tabIn K y = some (c, P) → LamX.TabB base mg c P
  lamA : apartB (lamMap K) = true
  b_abs : mg "abs" = none
  b_all : mg "all" = none
  b_any : mg "any" = none
  b_bool : mg "bool" = none
  b_dict : mg "dict" = none
  b_enumerate : mg "enumerate" = none
  b_int : mg "int" = none
  b_isinstance : mg "isinstance" = none
  b_len : mg "len" = none
  b_list : mg "list" = none
  b_max : mg "max" = none
  b_min : mg "min" = none
  b_range : mg "range" = none
  b_repr : mg "repr" = none
  b_reversed : mg "reversed" = none
  b_sum : mg "sum" = none
  b_tuple : mg "tuple" = none
  b_zip : mg "zip" = none
  c_MAX_CYCLOTOMIC : ∃ t, mg "MAX_CYCLOTOMIC" = some (.int 2520 t)
  c_MAX_DEGREE : ∃ t, mg "MAX_DEGREE" = some (.int 40 t)
  c_MAX_EXPONENT : ∃ t, mg "MAX_EXPONENT" = some (.int 60 t)
  c_MAX_FACTORED : ∃ t, mg "MAX_FACTORED" = some (.int 1000000000 t)
  c_MAX_INTEGER : ∃ t, mg "MAX_INTEGER" = some (.int 999999999999999999999999999999999999999999999999999999999999 t)
  c_MAX_SIZE : ∃ t, mg "MAX_SIZE" = some (.int 12 t)
  c_MOST_ITEM : ∃ t, mg "MOST_ITEM" = some (.int 1099511627776 t)
  m_gcd : mg "gcd" = some (.builtin "math.gcd")
  m_lcm : mg "lcm" = some (.builtin "math.lcm")
  v_determinant : FnName K mg "determinant"
  v_is_alternating : FnName K mg "is_alternating"
  v_is_symmetric : FnName K mg "is_symmetric"
  v_kernel : FnName K mg "kernel"
  v_minors : FnName K mg "minors"
  v_rank : FnName K mg "rank"
  v_turned_over : FnName K mg "turned_over"
  e_InvalidOperation : HasE K mg "InvalidOperation"
  e_InvalidPolynomial : HasE K mg "InvalidPolynomial"
  e_InvalidRatio : HasE K mg "InvalidRatio"
  e_InvalidTable : HasE K mg "InvalidTable"
  x_InvalidNumber : HasX P K mg "InvalidNumber" "given"
  x_TooMany : HasX P K mg "TooMany" "most"
  xm : XM K XSN
section
variable {P : Program} {w : World} {K : PySem.W.Frag} {mg : Str → Option Value} {base : Heap}
theorem d_q_bag (T : Txt P K mg base)  {f : Addr} {n : Nat} {cdv : Value} {A : Around} {outer : List Env} {s : Shared} {H : Hp} {E : XK} (hr : RoomG 0 (A.deeper (envOfC "_law_bag" (defScope s_q_bag) s.heap.objs.size f cdv))) :
    DSs (cxOf (L2.CX P w) P w K mg base ["_law_script", "_law_spot", "_law_cell", "_law_great", "_law_mixed"] "_law_bag" (defScope s_q_bag) f cdv A outer s H E) (fun cls d _ H => E cls d H) (defBody s_q_bag) (B_q_bag n) := by
  have S := sc_q_bag
  have tk : Takes (cxOf (L2.CX P w) P w K mg base ["_law_script", "_law_spot", "_law_cell", "_law_great", "_law_mixed"] "_law_bag" (defScope s_q_bag) f cdv A outer s H E) (fun cls d _ H => E cls d H) := takes_of rfl rfl rfl rfl
  have hu := hr.units
  have hu0 := hr.units0
  have hu1 := hu_of hr.room
  have hu2 := in1u hr
  exact dss_cons (ds_set (i := 2) S.nd rfl (.inl rfl) (de_ifExp (dt_cmp op_lt ops_b0 (do_var (pv 1)) (do_val (de_callB call_len_seq cas_len (by rfl) T.b_len PySem.boot_len (da_cons (do_var (pv 0)) (da_nil)))) (nomark _)) (de_ix (do_var (pv 0)) (do_var (pv 1))) (de_bin (op_add.or (op_cat.or op_catA)) (ops_or ops_i0 (ops_or ops_catL ops_catT)) (do_val (de_bin (op_add.or (op_cat.or op_catA)) (ops_or ops_i0 (ops_or ops_catL ops_catT)) (do_val (de_callB ((cr_sum rfl).or (call_sumT rfl)) (cas_or cas_sum cas_sumT) (by rfl) T.b_sum boot_sum (da_cons (do_val (de_cut (do_var (pv 0)) cp_no cp_int)) (da_nil)))) (do_val (de_bin (op_mulW.or (op_rep.or op_repT)) (ops_or (ops_ic mul_ok) (ops_or ops_repL ops_repT)) (do_val (de_int)) (do_var (pv 1)))))) (do_val (de_int)))))
    (dss_cons (ds_set (i := 3) S.nd rfl (.inl rfl) (de_bin op_modN (ops_ic fun _ _ h => of_decide_eq_true h) (do_val (de_callTy call_int1 cas_int (by rfl) T.b_int boot_int (da_cons (do_val (de_callB call_abs cas_abs (by rfl) T.b_abs boot_abs (da_cons (do_var (pv 2)) (da_nil)))) (da_nil)))) (do_val (de_bin op_powG (ops_ic fun _ _ h => cPow_ok h) (do_val (de_bin op_powG (ops_ic fun _ _ h => cPow_ok h) (do_val (de_int)) (do_val (de_int)))) (do_val (de_int))))))
    (dss_cons (ds_set (i := 4) S.nd rfl (.inl rfl) (de_bin (op_add.or (op_cat.or op_catA)) (ops_or ops_i0 (ops_or ops_catL ops_catT)) (do_val (de_bin (op_add.or (op_cat.or op_catA)) (ops_or ops_i0 (ops_or ops_catL ops_catT)) (do_val (de_bin (op_add.or (op_cat.or op_catA)) (ops_or ops_i0 (ops_or ops_catL ops_catT)) (do_val (de_bin (op_mulW.or (op_rep.or op_repT)) (ops_or (ops_ic mul_ok) (ops_or ops_repL ops_repT)) (do_val (de_bin op_modN (ops_ic fun _ _ h => of_decide_eq_true h) (do_val (de_callTy call_int1 cas_int (by rfl) T.b_int boot_int (da_cons (do_var (pv 3)) (da_nil)))) (do_val (de_int)))) (do_val (de_int)))) (do_val (de_bin (op_mulW.or (op_rep.or op_repT)) (ops_or (ops_ic mul_ok) (ops_or ops_repL ops_repT)) (do_val (de_int)) (do_var (pv 1)))))) (do_val (de_bin (op_mulW.or (op_rep.or op_repT)) (ops_or (ops_ic mul_ok) (ops_or ops_repL ops_repT)) (do_val (de_int)) (do_val (de_callTy call_int1 cas_int (by rfl) T.b_int boot_int (da_cons (do_val (de_cmp op_lt ops_b0 (do_var (pv 2)) (do_val (de_int)) (nomark _))) (da_nil)))))))) (do_val (de_int))))
    (dss_one (ds_retF (df_lst (dv_cons (de_callB ((call_max2 rfl).or (call_maxS rfl hr.units)) (cas_or cas_max2 cas_maxS) (by rfl) T.b_max boot_max (da_cons (do_val (de_int)) (da_cons (do_val (de_bin op_sub ops_i0 (do_var (pv 3)) (do_val (de_bin op_powG (ops_ic fun _ _ h => cPow_ok h) (do_val (de_int)) (do_val (de_int)))))) (da_nil)))) (dv_cons (de_bin op_modN (ops_ic fun _ _ h => of_decide_eq_true h) (do_val (de_callTy call_int1 cas_int (by rfl) T.b_int boot_int (da_cons (do_var (pv 4)) (da_nil)))) (do_val (de_int))) (dv_cons (de_int) (dv_nil)))))))))
theorem has_q_word (T : Txt P K mg base)  {f : Addr} {fd : FuncData} (Fu : Fun K "_law_word" "_law_word" s_q_word f fd) (gm : mg "_law_word" = some (.ref f)) : LamB P w K mg base true 1 "_law_word" F_q_word := by
  have S := sc_q_word
  exact ⟨f, fd, s_q_word, ["_law_call", "error"], "_law_call", XSN, C_q_word, A_q_word, R_q_word, _, _, _, _, _, _, _, gm, Fu.kp, Fu, (Fu.binds (ps := ["_law_call"]) (fun _ _ _ _ _ _ us hl => match us, hl with | [_], _ => rfl)), sc_q_word, rfl, (by first | exact .inl rfl | exact .inr (.inl rfl)), by decide, by decide, T.xm, (by unfold C_q_word; decide), rfl, rfl, fun cdv A outer s H hr => have hu := hr.units; have hu0 := hr.units0; have hu1 := hu_of hr.room; have hu2 := in1u hr; ⟨fun W pn xe tk t hp hm => zb_expr hp hm (dss_nil), cls_cons (cl_pl ⟨by rfl, by decide, .inl T.e_InvalidPolynomial.nm⟩ (by intro a pn; exact (dss_one (ds_ret (de_str))))) (cls_cons (cl_pl ⟨by rfl, by decide, .inl T.e_InvalidTable.nm⟩ (by intro a pn; exact (dss_one (ds_ret (de_str))))) (cls_cons (cl_pl ⟨by rfl, by decide, .inl T.e_InvalidRatio.nm⟩ (by intro a pn; exact (dss_one (ds_ret (de_str))))) (cls_cons (cl_pl ⟨by rfl, by decide, .inl T.e_InvalidOperation.nm⟩ (by intro a pn; exact (dss_one (ds_ret (de_str))))) (cls_cons (cl_as S.nd rfl rfl ⟨by rfl, by decide, .inl T.x_InvalidNumber.nm⟩ (by intro a oe cls d pn hz hf; exact ys_ret (ey_bin ((op_add.or (op_cat.or op_catA)).or op_add_str) (ops_or (ops_or ops_i0 (ops_or ops_catL ops_catT)) ops_addS) (ey_de (de_str)) (ey_call (call_rprW hr.gd hr.units) cas_rprW (by rfl) T.b_repr boot_repr (T.x_InvalidNumber.ey (i := 1) hz hf rfl (.inl rfl)))))) (cls_cons (cl_as S.nd rfl rfl ⟨by rfl, by decide, .inl T.x_TooMany.nm⟩ (by intro a oe cls d pn hz hf; exact ys_ret (ey_bin ((op_add.or (op_cat.or op_catA)).or op_add_str) (ops_or (ops_or ops_i0 (ops_or ops_catL ops_catT)) ops_addS) (ey_de (de_str)) (ey_call (call_rprW hr.gd hr.units) cas_rprW (by rfl) T.b_repr boot_repr (T.x_TooMany.ey (i := 1) hz hf rfl (.inl rfl)))))) (cls_nil)))))), dss_one (ds_ret (de_str))⟩⟩
theorem d_q_grab (T : Txt P K mg base)  {f : Addr} {n : Nat} {cdv : Value} {A : Around} {outer : List Env} {s : Shared} {H : Hp} {E : XK} (hr : RoomG 0 (A.deeper (envOfC "_law_grab" (defScope s_q_grab) s.heap.objs.size f cdv))) :
    DSs (cxOf (L2.CX P w) P w K mg base ["_law_bag_here", "_law_total", "_law_found", "_law_one", "_law_two"] "_law_grab" (defScope s_q_grab) f cdv A outer s H E) (fun cls d _ H => E cls d H) (defBody s_q_grab) (B_q_grab n) := by
  have S := sc_q_grab
  have tk : Takes (cxOf (L2.CX P w) P w K mg base ["_law_bag_here", "_law_total", "_law_found", "_law_one", "_law_two"] "_law_grab" (defScope s_q_grab) f cdv A outer s H E) (fun cls d _ H => E cls d H) := takes_of rfl rfl rfl rfl
  have hu := hr.units
  have hu0 := hr.units0
  have hu1 := hu_of hr.room
  have hu2 := in1u hr
  exact dss_cons (ds_if (dt_cmp op_gt ops_b0 (do_val (de_ix (do_var (pv 0)) (do_val (de_int)))) (do_val (de_int)) (nomark _)) (dss_cons (ds_set (i := 2) S.nd rfl (.inl rfl) (de_bin op_modN (ops_ic fun _ _ h => of_decide_eq_true h) (do_val (de_callTy call_int1 cas_int (by rfl) T.b_int boot_int (da_cons (do_val (de_ix (do_var (pv 0)) (do_val (de_int)))) (da_nil)))) (do_var (pv 1))))
    (dss_cons (ds_seti (pv 0) (de_int) (de_bin op_fdivG (ops_ic fun _ _ h => cDiv_ok h) (do_val (de_ix (do_var (pv 0)) (do_val (de_int)))) (do_var (pv 1))))
    (dss_one (ds_retV (pv 2))))) (dss_nil))
    (dss_cons (ds_seti (pv 0) (de_int) (de_bin (op_add.or (op_cat.or op_catA)) (ops_or ops_i0 (ops_or ops_catL ops_catT)) (do_val (de_ix (do_var (pv 0)) (do_val (de_int)))) (do_val (de_int))))
    (dss_cons (ds_set (i := 3) S.nd rfl (.inl rfl) (de_bin op_modN (ops_ic fun _ _ h => of_decide_eq_true h) (do_val (de_callTy call_int1 cas_int (by rfl) T.b_int boot_int (da_cons (do_val (de_bin (op_add.or (op_cat.or op_catA)) (ops_or ops_i0 (ops_or ops_catL ops_catT)) (do_val (de_ix (do_var (pv 0)) (do_val (de_int)))) (do_val (de_bin (op_mulW.or (op_rep.or op_repT)) (ops_or (ops_ic mul_ok) (ops_or ops_repL ops_repT)) (do_val (de_int)) (do_val (de_ix (do_var (pv 0)) (do_val (de_int)))))))) (da_nil)))) (do_val (de_int))))
    (dss_cons (ds_set (i := 4) S.nd rfl (.inl rfl) (de_bin (op_add.or (op_cat.or op_catA)) (ops_or ops_i0 (ops_or ops_catL ops_catT)) (do_val (de_bin (op_mulW.or (op_rep.or op_repT)) (ops_or (ops_ic mul_ok) (ops_or ops_repL ops_repT)) (do_val (de_bin op_modN (ops_ic fun _ _ h => of_decide_eq_true h) (do_val (de_callTy call_int1 cas_int (by rfl) T.b_int boot_int (da_cons (do_val (de_bin (op_mulW.or (op_rep.or op_repT)) (ops_or (ops_ic mul_ok) (ops_or ops_repL ops_repT)) (do_var (pv 3)) (do_var (pv 3)))) (da_nil)))) (do_val (de_int)))) (do_var (pv 3)))) (do_val (de_bin (op_mulW.or (op_rep.or op_repT)) (ops_or (ops_ic mul_ok) (ops_or ops_repL ops_repT)) (do_val (de_int)) (do_val (de_ix (do_var (pv 0)) (do_val (de_int))))))))
    (dss_one (ds_ret (de_bin op_modN (ops_ic fun _ _ h => of_decide_eq_true h) (do_val (de_callTy call_int1 cas_int (by rfl) T.b_int boot_int (da_cons (do_val (de_bin op_fdivG (ops_ic fun _ _ h => cDiv_ok h) (do_val (de_bin op_modN (ops_ic fun _ _ h => of_decide_eq_true h) (do_val (de_callTy call_int1 cas_int (by rfl) T.b_int boot_int (da_cons (do_var (pv 4)) (da_nil)))) (do_val (de_int)))) (do_val (de_int)))) (da_nil)))) (do_var (pv 1))))))))
theorem d_q_one_of (T : Txt P K mg base) (h_q_grab : Has P w K mg base "_law_grab" 1 ["_law_bag_here", "_law_total"] F_q_grab) {f : Addr} {n : Nat} {cdv : Value} {A : Around} {outer : List Env} {s : Shared} {H : Hp} {E : XK} (hr : RoomG 1 (A.deeper (envOfC "_law_one_of" (defScope s_q_one_of) s.heap.objs.size f cdv))) :
    DSs (cxOf (L2.CX P w) P w K mg base ["_law_bag_here", "_law_items"] "_law_one_of" (defScope s_q_one_of) f cdv A outer s H E) (fun cls d _ H => E cls d H) (defBody s_q_one_of) (B_q_one_of n) := by
  have S := sc_q_one_of
  have tk : Takes (cxOf (L2.CX P w) P w K mg base ["_law_bag_here", "_law_items"] "_law_one_of" (defScope s_q_one_of) f cdv A outer s H E) (fun cls d _ H => E cls d H) := takes_of rfl rfl rfl rfl
  have hu := hr.units
  have hu0 := hr.units0
  have hu1 := hu_of hr.room
  have hu2 := in1u hr
  exact dss_one (ds_ret (de_ix (do_var (pv 1)) (do_val (dx_de (dx_has h_q_grab hr (by decide) tk (by rfl) (dr_io (pv 0) (dr_val (de_callB call_len_seq cas_len (by rfl) T.b_len PySem.boot_len (da_cons (do_var (pv 1)) (da_nil))) (dr_nil))))))))
theorem d_is_long_integer (T : Txt P K mg base)  {f : Addr} {n : Nat} {cdv : Value} {A : Around} {outer : List Env} {s : Shared} {H : Hp} {E : XK} (hr : RoomG 0 (A.deeper (envOfC "is_long_integer" (defScope s_is_long_integer) s.heap.objs.size f cdv))) :
    DSs (cxOf (L2.CX P w) P w K mg base ["value"] "is_long_integer" (defScope s_is_long_integer) f cdv A outer s H E) (fun cls d _ H => E cls d H) (defBody s_is_long_integer) (B_is_long_integer n) := by
  have S := sc_is_long_integer
  have tk : Takes (cxOf (L2.CX P w) P w K mg base ["value"] "is_long_integer" (defScope s_is_long_integer) f cdv A outer s H E) (fun cls d _ H => E cls d H) := takes_of rfl rfl rfl rfl
  have hu := hr.units
  have hu0 := hr.units0
  have hu1 := hu_of hr.room
  have hu2 := in1u hr
  exact dss_one (ds_ret (de_and (de_isi (do_var (pv 0)) (pe_tyn (T := "int") (by rfl) T.b_int boot_int) (by rfl) T.b_isinstance boot_isinstance) (de_one (de_not (de_isi (do_var (pv 0)) (pe_tyn (T := "bool") (by rfl) T.b_bool boot_bool) (by rfl) T.b_isinstance boot_isinstance)))))
theorem d_is_integer (T : Txt P K mg base) (h_is_long_integer : Has P w K mg base "is_long_integer" 1 ["value"] F_is_long_integer) {f : Addr} {n : Nat} {cdv : Value} {A : Around} {outer : List Env} {s : Shared} {H : Hp} {E : XK} (hr : RoomG 1 (A.deeper (envOfC "is_integer" (defScope s_is_integer) s.heap.objs.size f cdv))) :
    DSs (cxOf (L2.CX P w) P w K mg base ["value"] "is_integer" (defScope s_is_integer) f cdv A outer s H E) (fun cls d _ H => E cls d H) (defBody s_is_integer) (B_is_integer n) := by
  have S := sc_is_integer
  have tk : Takes (cxOf (L2.CX P w) P w K mg base ["value"] "is_integer" (defScope s_is_integer) f cdv A outer s H E) (fun cls d _ H => E cls d H) := takes_of rfl rfl rfl rfl
  have hu := hr.units
  have hu0 := hr.units0
  have hu1 := hu_of hr.room
  have hu2 := in1u hr
  exact dss_one (ds_ret (de_and (dx_de (dx_has h_is_long_integer hr (by decide) tk (by rfl) (dr_val (de_var (pv 0)) (dr_nil)))) (de_one (de_cmp op_le ops_b0 (do_val (de_callB call_abs cas_abs (by rfl) T.b_abs boot_abs (da_cons (do_var (pv 0)) (da_nil)))) (do_val (de_gint (by rfl) T.c_MAX_INTEGER.choose_spec)) (nomark _)))))
theorem d_is_polynomial (T : Txt P K mg base) (h_is_integer : Has P w K mg base "is_integer" 2 ["value"] F_is_integer) {f : Addr} {n : Nat} {cdv : Value} {A : Around} {outer : List Env} {s : Shared} {H : Hp} {E : XK} (hr : RoomG 2 (A.deeper (envOfC "is_polynomial" (defScope s_is_polynomial) s.heap.objs.size f cdv))) :
    DSs (cxOf (L2.CX P w) P w K mg base ["value", "item"] "is_polynomial" (defScope s_is_polynomial) f cdv A outer s H E) (fun cls d _ H => E cls d H) (defBody s_is_polynomial) (B_is_polynomial n) := by
  have S := sc_is_polynomial
  have tk : Takes (cxOf (L2.CX P w) P w K mg base ["value", "item"] "is_polynomial" (defScope s_is_polynomial) f cdv A outer s H E) (fun cls d _ H => E cls d H) := takes_of rfl rfl rfl rfl
  have hu := hr.units
  have hu0 := hr.units0
  have hu1 := hu_of hr.room
  have hu2 := in1u hr
  exact dss_cons (ds_if (dt_bool (dw_or (dt_not (dt_val (de_isi (do_var (pv 0)) (pe_tyn (T := "tuple") (by rfl) T.b_tuple boot_tuple) (by rfl) T.b_isinstance boot_isinstance))) (dw_or1 (dt_not (dt_chain op_le op_le ops_b0 ops_b0 (do_val (de_int)) (do_val (de_callB call_len_seq cas_len (by rfl) T.b_len PySem.boot_len (da_cons (do_var (pv 0)) (da_nil)))) (do_val (de_bin (op_add.or (op_cat.or op_catA)) (ops_or ops_i0 (ops_or ops_catL ops_catT)) (do_val (de_gint (by rfl) T.c_MAX_DEGREE.choose_spec)) (do_val (de_int))))))))) (dss_one (ds_ret (de_bl))) (dss_nil))
    (dss_cons (ds_if (dt_not (dt_val (de_callB (cr_all rfl) cas_all (by rfl) T.b_all boot_all (da_cons (do_val (de_fresh (df_lc (own := [("item", 1)]) rfl S.nd (di_seq (de_var (pv 0))) (blkOk_by (by rfl)) rfl (by intro _ _ _ _ _; exact dg_name (i := 1) (pg_name (i := 1) S.nd rfl (by first | exact .inl rfl | exact .inr rfl))) (by intro _ _ _ _ _; exact dts_nil) (by intro _ _ _ _ _; exact dx_de (dx_hasN h_is_integer hr (by decide) (by rfl) (dr_val (de_var (pv 1)) (dr_nil))))))) (da_nil))))) (dss_one (ds_ret (de_bl))) (dss_nil))
    (dss_one (ds_ret (de_or (de_cmp (((op_eqD hu).or (op_eqK hu2 hu0)).or (op_eqL hr.u80)) (ops_or (ops_or ops_eq1 ops_eqK) ops_eqL) (do_val (de_callB call_len_seq cas_len (by rfl) T.b_len PySem.boot_len (da_cons (do_var (pv 0)) (da_nil)))) (do_val (de_int)) (nomark _)) (de_one (de_cmp (((op_neD hu).or (op_neK hu2 hu0)).or (op_neL hr.u80)) (ops_or (ops_or ops_ne1 ops_neK) ops_neL) (do_val (de_ix (do_var (pv 0)) (do_val (de_un un_neg uns_neg (do_val (de_int)))))) (do_val (de_int)) (nomark _)))))))
theorem d_check_polynomial (T : Txt P K mg base) (h_is_polynomial : Has P w K mg base "is_polynomial" 3 ["value"] F_is_polynomial) {f : Addr} {n : Nat} {cdv : Value} {A : Around} {outer : List Env} {s : Shared} {H : Hp} {E : XK} (hr : RoomG 3 (A.deeper (envOfC "check_polynomial" (defScope s_check_polynomial) s.heap.objs.size f cdv))) :
    DSs (cxOf (L2.CX P w) P w K mg base ["polynomial"] "check_polynomial" (defScope s_check_polynomial) f cdv A outer s H E) (fun cls d _ H => E cls d H) (defBody s_check_polynomial) (B_check_polynomial n) := by
  have S := sc_check_polynomial
  have tk : Takes (cxOf (L2.CX P w) P w K mg base ["polynomial"] "check_polynomial" (defScope s_check_polynomial) f cdv A outer s H E) (fun cls d _ H => E cls d H) := takes_of rfl rfl rfl rfl
  have hu := hr.units
  have hu0 := hr.units0
  have hu1 := hu_of hr.room
  have hu2 := in1u hr
  exact dss_one (ds_if (dt_not (dt_val (dx_de (dx_has h_is_polynomial hr (by decide) tk (by rfl) (dr_val (de_var (pv 0)) (dr_nil)))))) (dss_one (ds_raise T.e_InvalidPolynomial rfl tk (by rfl))) (dss_nil))
theorem d_check_polynomials (T : Txt P K mg base) (h_check_polynomial : Has P w K mg base "check_polynomial" 4 ["polynomial"] F_check_polynomial) {f : Addr} {n : Nat} {cdv : Value} {A : Around} {outer : List Env} {s : Shared} {H : Hp} {E : XK} (hr : RoomG 4 (A.deeper (envOfC "check_polynomials" (defScope s_check_polynomials) s.heap.objs.size f cdv))) :
    DSs (cxOf (L2.CX P w) P w K mg base ["one", "other"] "check_polynomials" (defScope s_check_polynomials) f cdv A outer s H E) (fun cls d _ H => E cls d H) (defBody s_check_polynomials) (B_check_polynomials n) := by
  have S := sc_check_polynomials
  have tk : Takes (cxOf (L2.CX P w) P w K mg base ["one", "other"] "check_polynomials" (defScope s_check_polynomials) f cdv A outer s H E) (fun cls d _ H => E cls d H) := takes_of rfl rfl rfl rfl
  have hu := hr.units
  have hu0 := hr.units0
  have hu1 := hu_of hr.room
  have hu2 := in1u hr
  exact dss_cons (ds_expr (dx_de (dx_has h_check_polynomial hr (by decide) tk (by rfl) (dr_val (de_var (pv 0)) (dr_nil)))))
    (dss_one (ds_expr (dx_de (dx_has h_check_polynomial hr (by decide) tk (by rfl) (dr_val (de_var (pv 1)) (dr_nil))))))
theorem d_trimmed (T : Txt P K mg base)  {f : Addr} {n : Nat} {cdv : Value} {A : Around} {outer : List Env} {s : Shared} {H : Hp} {E : XK} (hr : RoomG 0 (A.deeper (envOfC "trimmed" (defScope s_trimmed) s.heap.objs.size f cdv))) :
    DSs (cxOf (L2.CX P w) P w K mg base ["items", "many"] "trimmed" (defScope s_trimmed) f cdv A outer s H E) (fun cls d _ H => E cls d H) (defBody s_trimmed) (B_trimmed n) := by
  have S := sc_trimmed
  have tk : Takes (cxOf (L2.CX P w) P w K mg base ["items", "many"] "trimmed" (defScope s_trimmed) f cdv A outer s H E) (fun cls d _ H => E cls d H) := takes_of rfl rfl rfl rfl
  have hu := hr.units
  have hu0 := hr.units0
  have hu1 := hu_of hr.room
  have hu2 := in1u hr
  exact dss_cons (ds_set (i := 1) S.nd rfl (.inl rfl) (de_callB call_len_seq cas_len (by rfl) T.b_len PySem.boot_len (da_cons (do_var (pv 0)) (da_nil))))
    (dss_cons (ds_while n (passes_of rfl) (dt_bool (dw_and (dt_cmp op_gt ops_b0 (do_var (pv 1)) (do_val (de_int)) (nomark _)) (dw_and1 (dt_cmp (((op_eqD hu).or (op_eqK hu2 hu0)).or (op_eqL hr.u80)) (ops_or (ops_or ops_eq1 ops_eqK) ops_eqL) (do_val (de_ix (do_var (pv 0)) (do_val (de_bin op_sub ops_i0 (do_var (pv 1)) (do_val (de_int)))))) (do_val (de_int)) (nomark _))))) (dss_one (ds_set (i := 1) S.nd rfl (.inl rfl) (de_bin op_sub ops_i0 (do_var (pv 1)) (do_val (de_int))))))
    (dss_one (ds_ret (de_callTy call_tuple_of cas_tup (by rfl) T.b_tuple boot_tuple (da_cons (do_val (de_sl (do_var (pv 0)) (dp_no) (dp_int (de_var (pv 1))))) (da_nil))))))
theorem d_polynomial_sum (T : Txt P K mg base) (h_check_polynomials : Has P w K mg base "check_polynomials" 5 ["one", "other"] F_check_polynomials) (h_trimmed : Has P w K mg base "trimmed" 1 ["items"] F_trimmed) {f : Addr} {n : Nat} {cdv : Value} {A : Around} {outer : List Env} {s : Shared} {H : Hp} {E : XK} (hr : RoomG 5 (A.deeper (envOfC "polynomial_sum" (defScope s_polynomial_sum) s.heap.objs.size f cdv))) :
    DSs (cxOf (L2.CX P w) P w K mg base ["one", "other", "total", "index", "item"] "polynomial_sum" (defScope s_polynomial_sum) f cdv A outer s H E) (fun cls d _ H => E cls d H) (defBody s_polynomial_sum) (B_polynomial_sum n) := by
  have S := sc_polynomial_sum
  have tk : Takes (cxOf (L2.CX P w) P w K mg base ["one", "other", "total", "index", "item"] "polynomial_sum" (defScope s_polynomial_sum) f cdv A outer s H E) (fun cls d _ H => E cls d H) := takes_of rfl rfl rfl rfl
  have hu := hr.units
  have hu0 := hr.units0
  have hu1 := hu_of hr.room
  have hu2 := in1u hr
  exact dss_cons (ds_expr (dx_de (dx_has h_check_polynomials hr (by decide) tk (by rfl) (dr_val (de_var (pv 0)) (dr_val (de_var (pv 1)) (dr_nil))))))
    (dss_cons (ds_setF (i := 2) S.nd rfl (.inl rfl) (df_op op_rep opf_rep repL_lst (do_val (de_fresh (df_lst (dv_cons (de_int) (dv_nil))))) (do_val (de_callB ((call_max2 rfl).or (call_maxS rfl hr.units)) (cas_or cas_max2 cas_maxS) (by rfl) T.b_max boot_max (da_cons (do_val (de_callB call_len_seq cas_len (by rfl) T.b_len PySem.boot_len (da_cons (do_var (pv 0)) (da_nil)))) (da_cons (do_val (de_callB call_len_seq cas_len (by rfl) T.b_len PySem.boot_len (da_cons (do_var (pv 1)) (da_nil)))) (da_nil)))))))
    (dss_cons (ds_for (passes_of rfl) rfl (di_enT (by rfl) T.b_enumerate (dv_cons (de_var (pv 0)) (dv_nil))) (dg_tup rfl (dgs_cons (dg_name (i := 3) (pg_name (i := 3) S.nd rfl (.inl rfl))) (dgs_cons (dg_name (i := 4) (pg_name (i := 4) S.nd rfl (.inl rfl))) (dgs_nil)))) (dss_one (ds_seti (pv 2) (de_var (pv 3)) (de_bin (op_add.or (op_cat.or op_catA)) (ops_or ops_i0 (ops_or ops_catL ops_catT)) (do_val (de_ix (do_var (pv 2)) (do_var (pv 3)))) (do_var (pv 4))))))
    (dss_cons (ds_for (passes_of rfl) rfl (di_enT (by rfl) T.b_enumerate (dv_cons (de_var (pv 1)) (dv_nil))) (dg_tup rfl (dgs_cons (dg_name (i := 3) (pg_name (i := 3) S.nd rfl (.inl rfl))) (dgs_cons (dg_name (i := 4) (pg_name (i := 4) S.nd rfl (.inl rfl))) (dgs_nil)))) (dss_one (ds_seti (pv 2) (de_var (pv 3)) (de_bin (op_add.or (op_cat.or op_catA)) (ops_or ops_i0 (ops_or ops_catL ops_catT)) (do_val (de_ix (do_var (pv 2)) (do_var (pv 3)))) (do_var (pv 4))))))
    (dss_one (ds_ret (dx_de (dx_has h_trimmed hr (by decide) tk (by rfl) (dr_io (pv 2) (dr_nil)))))))))
theorem d_kept (T : Txt P K mg base) {F_kept : Fn} {j : Nat} (h_kept : Has P w K mg base "kept" j ["value"] F_kept) {f : Addr} {n : Nat} {cdv : Value} {A : Around} {outer : List Env} {s : Shared} {H : Hp} {E : XK} (hr : RoomG j (A.deeper (envOfC "kept" (defScope s_kept) s.heap.objs.size f cdv))) :
    DSs (cxOf (L2.CX P w) P w K mg base ["value", "item", "key"] "kept" (defScope s_kept) f cdv A outer s H E) (fun cls d _ H => E cls d H) (defBody s_kept) (B_kept F_kept n) := by
  have S := sc_kept
  have hu := hr.units
  have hu0 := hr.units0
  have hu1 := hu_of hr.room
  have hu2 := in1u hr
  exact dss_cons (ds_if (dt_val (de_isi (do_var (pv 0)) (pe_tyn (T := "list") (by rfl) T.b_list boot_list) (by rfl) T.b_isinstance boot_isinstance)) (dss_one (ds_retF (df_lc (own := [("item", 1)]) rfl S.nd (di_seq (de_var (pv 0))) (blkOk_by (by rfl)) rfl (by intro _ _ _ _ _; exact dg_name (i := 1) (pg_name (i := 1) S.nd rfl (by first | exact .inl rfl | exact .inr rfl))) (by intro _ _ _ _ _; exact dts_nil) (by intro _ _ _ _ _; exact dx_de (dx_hasN h_kept hr (Nat.le_refl _) (by rfl) (dr_val (de_var (pv 1)) (dr_nil))))))) (dss_nil))
    (dss_cons (ds_if (dt_val (de_isi (do_var (pv 0)) (pe_tyn (T := "tuple") (by rfl) T.b_tuple boot_tuple) (by rfl) T.b_isinstance boot_isinstance)) (dss_one (ds_ret (de_callTy call_tuple_of cas_tup (by rfl) T.b_tuple boot_tuple (da_cons (do_val (de_fresh (df_lc (own := [("item", 1)]) rfl S.nd (di_seq (de_var (pv 0))) (blkOk_by (by rfl)) rfl (by intro _ _ _ _ _; exact dg_name (i := 1) (pg_name (i := 1) S.nd rfl (by first | exact .inl rfl | exact .inr rfl))) (by intro _ _ _ _ _; exact dts_nil) (by intro _ _ _ _ _; exact dx_de (dx_hasN h_kept hr (Nat.le_refl _) (by rfl) (dr_val (de_var (pv 1)) (dr_nil))))))) (da_nil))))) (dss_nil))
    (dss_cons (ds_if (dt_val (de_isi (do_var (pv 0)) (pe_tyn (T := "dict") (by rfl) T.b_dict boot_dict) (by rfl) T.b_isinstance boot_isinstance)) (dss_one (ds_ret (de_fresh (df_dc (own := [("key", 2)]) rfl S.nd (di_keys (de_var (pv 0))) (blkOk_by (by rfl)) rfl (by intro _ _ _ _ _; exact dg_name (i := 2) (pg_name (i := 2) S.nd rfl (by first | exact .inl rfl | exact .inr rfl))) (by intro _ _ _ _ _; exact dts_nil) (by intro _ _ _ _ _; exact de_var (pv 2)) (by intro _ _ _ _ _; exact dx_de (dx_hasN h_kept hr (Nat.le_refl _) (by rfl) (dr_val (de_ixK hu1 (do_var (pv 0)) (do_var (pv 2)) (by intro _ _; rfl)) (dr_nil)))))))) (dss_nil))
    (dss_one (ds_retV (pv 0)))))
theorem has_kept (T : Txt P K mg base) {f : Addr} {fd : FuncData} (Fu : Fun K "kept" "kept" s_kept f fd) (g : mg "kept" = some (.ref f)) : Has P w K mg base "kept" 3 ["value"] F_kept := by
  have key : ∀ m, Has P w K mg base "kept" m ["value"] (K_kept m) := fun m => by
    induction m with
    | zero => exact ⟨f, fd, g, Fu.kp, (Fu.binds (ps := ["value"]) (fun _ _ _ _ _ _ us hl => match us, hl with | [_], _ => rfl)), fnG_no⟩
    | succ m ih => exact ⟨f, fd, g, Fu.kp, (Fu.binds (ps := ["value"]) (fun _ _ _ _ _ _ us hl => match us, hl with | [_], _ => rfl)), fn_D (N := ["value", "item", "key"]) Fu sc_kept (B_kept (K_kept m)) (fun n cdv A outer s H E hr => d_kept T ih hr) fun as _ _ => ⟨fuel as, rfl⟩⟩
  exact key 3
theorem d_polynomial_product (T : Txt P K mg base) (h_check_polynomials : Has P w K mg base "check_polynomials" 5 ["one", "other"] F_check_polynomials) (h_trimmed : Has P w K mg base "trimmed" 1 ["items"] F_trimmed) (h_kept : Has P w K mg base "kept" 3 ["value"] F_kept) {f : Addr} {n : Nat} {cdv : Value} {A : Around} {outer : List Env} {s : Shared} {H : Hp} {E : XK} (hr : RoomG 5 (A.deeper (envOfC "polynomial_product" (defScope s_polynomial_product) s.heap.objs.size f cdv))) :
    DSs (cxOf (L2.CX P w) P w K mg base ["one", "other", "total", "index", "item", "place", "factor", "product"] "polynomial_product" (defScope s_polynomial_product) f cdv A outer s H E) (fun cls d _ H => E cls d H) (defBody s_polynomial_product) (B_polynomial_product n) := by
  have S := sc_polynomial_product
  have tk : Takes (cxOf (L2.CX P w) P w K mg base ["one", "other", "total", "index", "item", "place", "factor", "product"] "polynomial_product" (defScope s_polynomial_product) f cdv A outer s H E) (fun cls d _ H => E cls d H) := takes_of rfl rfl rfl rfl
  have hu := hr.units
  have hu0 := hr.units0
  have hu1 := hu_of hr.room
  have hu2 := in1u hr
  exact dss_cons (ds_expr (dx_de (dx_has h_check_polynomials hr (by decide) tk (by rfl) (dr_val (de_var (pv 0)) (dr_val (de_var (pv 1)) (dr_nil))))))
    (dss_cons (ds_setF (i := 2) S.nd rfl (.inl rfl) (df_op op_rep opf_rep repL_lst (do_val (de_fresh (df_lst (dv_cons (de_int) (dv_nil))))) (do_val (de_bin op_sub ops_i0 (do_val (de_bin (op_add.or (op_cat.or op_catA)) (ops_or ops_i0 (ops_or ops_catL ops_catT)) (do_val (de_callB call_len_seq cas_len (by rfl) T.b_len PySem.boot_len (da_cons (do_var (pv 0)) (da_nil)))) (do_val (de_callB call_len_seq cas_len (by rfl) T.b_len PySem.boot_len (da_cons (do_var (pv 1)) (da_nil)))))) (do_val (de_int))))))
    (dss_cons (ds_for (passes_of rfl) rfl (di_enT (by rfl) T.b_enumerate (dv_cons (de_var (pv 0)) (dv_nil))) (dg_tup rfl (dgs_cons (dg_name (i := 3) (pg_name (i := 3) S.nd rfl (.inl rfl))) (dgs_cons (dg_name (i := 4) (pg_name (i := 4) S.nd rfl (.inl rfl))) (dgs_nil)))) (dss_one (ds_for (passes_of rfl) rfl (di_enT (by rfl) T.b_enumerate (dv_cons (de_var (pv 1)) (dv_nil))) (dg_tup rfl (dgs_cons (dg_name (i := 5) (pg_name (i := 5) S.nd rfl (.inl rfl))) (dgs_cons (dg_name (i := 6) (pg_name (i := 6) S.nd rfl (.inl rfl))) (dgs_nil)))) (dss_one (ds_seti (pv 2) (de_bin (op_add.or (op_cat.or op_catA)) (ops_or ops_i0 (ops_or ops_catL ops_catT)) (do_var (pv 3)) (do_var (pv 5))) (de_bin (op_add.or (op_cat.or op_catA)) (ops_or ops_i0 (ops_or ops_catL ops_catT)) (do_val (de_ix (do_var (pv 2)) (do_val (de_bin (op_add.or (op_cat.or op_catA)) (ops_or ops_i0 (ops_or ops_catL ops_catT)) (do_var (pv 3)) (do_var (pv 5)))))) (do_val (de_bin (op_mulW.or (op_rep.or op_repT)) (ops_or (ops_ic mul_ok) (ops_or ops_repL ops_repT)) (do_var (pv 4)) (do_var (pv 6))))))))))
    (dss_cons (ds_set (i := 7) S.nd rfl (.inl rfl) (dx_de (dx_has h_trimmed hr (by decide) tk (by rfl) (dr_io (pv 2) (dr_nil)))))
    (dss_cons (ds_if (dt_cmp op_gt ops_b0 (do_val (de_callB call_len_seq cas_len (by rfl) T.b_len PySem.boot_len (da_cons (do_var (pv 7)) (da_nil)))) (do_val (de_bin (op_add.or (op_cat.or op_catA)) (ops_or ops_i0 (ops_or ops_catL ops_catT)) (do_val (de_gint (by rfl) T.c_MAX_DEGREE.choose_spec)) (do_val (de_int)))) (nomark _)) (dss_one (ds_raiseX T.x_TooMany h_kept (hr.mono (by decide)) rfl tk (by rfl) (de_gint (by rfl) T.c_MAX_DEGREE.choose_spec))) (dss_nil))
    (dss_one (ds_retV (pv 7)))))))
theorem d_divided (T : Txt P K mg base)  {f : Addr} {n : Nat} {cdv : Value} {A : Around} {outer : List Env} {s : Shared} {H : Hp} {E : XK} (hr : RoomG 0 (A.deeper (envOfC "divided" (defScope s_divided) s.heap.objs.size f cdv))) :
    DSs (cxOf (L2.CX P w) P w K mg base ["one", "other", "rest", "quotient", "index", "factor", "place", "item"] "divided" (defScope s_divided) f cdv A outer s H E) (fun cls d _ H => E cls d H) (defBody s_divided) (B_divided n) := by
  have S := sc_divided
  have tk : Takes (cxOf (L2.CX P w) P w K mg base ["one", "other", "rest", "quotient", "index", "factor", "place", "item"] "divided" (defScope s_divided) f cdv A outer s H E) (fun cls d _ H => E cls d H) := takes_of rfl rfl rfl rfl
  have hu := hr.units
  have hu0 := hr.units0
  have hu1 := hu_of hr.room
  have hu2 := in1u hr
  exact dss_cons (ds_if (dt_cmp op_lt ops_b0 (do_val (de_callB call_len_seq cas_len (by rfl) T.b_len PySem.boot_len (da_cons (do_var (pv 0)) (da_nil)))) (do_val (de_callB call_len_seq cas_len (by rfl) T.b_len PySem.boot_len (da_cons (do_var (pv 1)) (da_nil)))) (nomark _)) (dss_one (ds_ret (de_ifExp (dt_cmp (((op_eqD hu).or (op_eqK hu2 hu0)).or (op_eqL hr.u80)) (ops_or (ops_or ops_eq1 ops_eqK) ops_eqL) (do_var (pv 0)) (do_val (de_tup (dv_cons (de_int) (dv_nil)))) (nomark _)) (de_var (pv 0)) (de_non)))) (dss_nil))
    (dss_cons (ds_setF (i := 2) S.nd rfl (.inl rfl) (df_list (by rfl) T.b_list (do_var (pv 0))))
    (dss_cons (ds_setF (i := 3) S.nd rfl (.inl rfl) (df_op op_rep opf_rep repL_lst (do_val (de_fresh (df_lst (dv_cons (de_int) (dv_nil))))) (do_val (de_bin (op_add.or (op_cat.or op_catA)) (ops_or ops_i0 (ops_or ops_catL ops_catT)) (do_val (de_bin op_sub ops_i0 (do_val (de_callB call_len_seq cas_len (by rfl) T.b_len PySem.boot_len (da_cons (do_var (pv 0)) (da_nil)))) (do_val (de_callB call_len_seq cas_len (by rfl) T.b_len PySem.boot_len (da_cons (do_var (pv 1)) (da_nil)))))) (do_val (de_int))))))
    (dss_cons (ds_for (passes_of rfl) rfl (di_revR (by rfl) T.b_reversed (by rfl) T.b_range (de_callB call_len_seq cas_len (by rfl) T.b_len PySem.boot_len (da_cons (do_var (pv 3)) (da_nil)))) (dg_name (i := 4) (pg_name (i := 4) S.nd rfl (.inl rfl))) (dss_cons (ds_set (i := 5) S.nd rfl (.inl rfl) (de_bin op_fdivG (ops_ic fun _ _ h => cDiv_ok h) (do_val (de_ix (do_var (pv 2)) (do_val (de_bin op_sub ops_i0 (do_val (de_bin (op_add.or (op_cat.or op_catA)) (ops_or ops_i0 (ops_or ops_catL ops_catT)) (do_var (pv 4)) (do_val (de_callB call_len_seq cas_len (by rfl) T.b_len PySem.boot_len (da_cons (do_var (pv 1)) (da_nil)))))) (do_val (de_int)))))) (do_val (de_ix (do_var (pv 1)) (do_val (de_un un_neg uns_neg (do_val (de_int))))))))
    (dss_cons (ds_seti (pv 3) (de_var (pv 4)) (de_var (pv 5)))
    (dss_one (ds_for (passes_of rfl) rfl (di_enT (by rfl) T.b_enumerate (dv_cons (de_var (pv 1)) (dv_nil))) (dg_tup rfl (dgs_cons (dg_name (i := 6) (pg_name (i := 6) S.nd rfl (.inl rfl))) (dgs_cons (dg_name (i := 7) (pg_name (i := 7) S.nd rfl (.inl rfl))) (dgs_nil)))) (dss_one (ds_seti (pv 2) (de_bin (op_add.or (op_cat.or op_catA)) (ops_or ops_i0 (ops_or ops_catL ops_catT)) (do_var (pv 4)) (do_var (pv 6))) (de_bin op_sub ops_i0 (do_val (de_ix (do_var (pv 2)) (do_val (de_bin (op_add.or (op_cat.or op_catA)) (ops_or ops_i0 (ops_or ops_catL ops_catT)) (do_var (pv 4)) (do_var (pv 6)))))) (do_val (de_bin (op_mulW.or (op_rep.or op_repT)) (ops_or (ops_ic mul_ok) (ops_or ops_repL ops_repT)) (do_var (pv 5)) (do_var (pv 7))))))))))))
    (dss_one (ds_ret (de_ifExp (dt_val (de_callB ((cr_any rfl).or (call_anyI rfl)) (cas_or cas_any cas_anyI) (by rfl) T.b_any boot_any (da_cons (do_var (pv 2)) (da_nil)))) (de_non) (de_callTy call_tuple_of cas_tup (by rfl) T.b_tuple boot_tuple (da_cons (do_var (pv 3)) (da_nil)))))))))
theorem d_polynomial_quotient (T : Txt P K mg base) (h_check_polynomials : Has P w K mg base "check_polynomials" 5 ["one", "other"] F_check_polynomials) (h_divided : Has P w K mg base "divided" 1 ["one", "other"] F_divided) {f : Addr} {n : Nat} {cdv : Value} {A : Around} {outer : List Env} {s : Shared} {H : Hp} {E : XK} (hr : RoomG 5 (A.deeper (envOfC "polynomial_quotient" (defScope s_polynomial_quotient) s.heap.objs.size f cdv))) :
    DSs (cxOf (L2.CX P w) P w K mg base ["one", "other"] "polynomial_quotient" (defScope s_polynomial_quotient) f cdv A outer s H E) (fun cls d _ H => E cls d H) (defBody s_polynomial_quotient) (B_polynomial_quotient n) := by
  have S := sc_polynomial_quotient
  have tk : Takes (cxOf (L2.CX P w) P w K mg base ["one", "other"] "polynomial_quotient" (defScope s_polynomial_quotient) f cdv A outer s H E) (fun cls d _ H => E cls d H) := takes_of rfl rfl rfl rfl
  have hu := hr.units
  have hu0 := hr.units0
  have hu1 := hu_of hr.room
  have hu2 := in1u hr
  exact dss_cons (ds_expr (dx_de (dx_has h_check_polynomials hr (by decide) tk (by rfl) (dr_val (de_var (pv 0)) (dr_val (de_var (pv 1)) (dr_nil))))))
    (dss_cons (ds_if (dt_cmp (((op_eqD hu).or (op_eqK hu2 hu0)).or (op_eqL hr.u80)) (ops_or (ops_or ops_eq1 ops_eqK) ops_eqL) (do_var (pv 1)) (do_val (de_tup (dv_cons (de_int) (dv_nil)))) (nomark _)) (dss_one (ds_raise T.e_InvalidOperation rfl tk (by rfl))) (dss_nil))
    (dss_one (ds_ret (dx_de (dx_has h_divided hr (by decide) tk (by rfl) (dr_val (de_var (pv 0)) (dr_val (de_var (pv 1)) (dr_nil))))))))
theorem d_is_long_pair (T : Txt P K mg base) (h_is_long_integer : Has P w K mg base "is_long_integer" 1 ["value"] F_is_long_integer) {f : Addr} {n : Nat} {cdv : Value} {A : Around} {outer : List Env} {s : Shared} {H : Hp} {E : XK} (hr : RoomG 1 (A.deeper (envOfC "is_long_pair" (defScope s_is_long_pair) s.heap.objs.size f cdv))) :
    DSs (cxOf (L2.CX P w) P w K mg base ["value"] "is_long_pair" (defScope s_is_long_pair) f cdv A outer s H E) (fun cls d _ H => E cls d H) (defBody s_is_long_pair) (B_is_long_pair n) := by
  have S := sc_is_long_pair
  have tk : Takes (cxOf (L2.CX P w) P w K mg base ["value"] "is_long_pair" (defScope s_is_long_pair) f cdv A outer s H E) (fun cls d _ H => E cls d H) := takes_of rfl rfl rfl rfl
  have hu := hr.units
  have hu0 := hr.units0
  have hu1 := hu_of hr.room
  have hu2 := in1u hr
  exact dss_one (ds_ret (de_and (de_isi (do_var (pv 0)) (pe_tyn (T := "tuple") (by rfl) T.b_tuple boot_tuple) (by rfl) T.b_isinstance boot_isinstance) (de_and (de_cmp (((op_eqD hu).or (op_eqK hu2 hu0)).or (op_eqL hr.u80)) (ops_or (ops_or ops_eq1 ops_eqK) ops_eqL) (do_val (de_callB call_len_seq cas_len (by rfl) T.b_len PySem.boot_len (da_cons (do_var (pv 0)) (da_nil)))) (do_val (de_int)) (nomark _)) (de_and (dx_de (dx_has h_is_long_integer hr (by decide) tk (by rfl) (dr_val (de_ix (do_var (pv 0)) (do_val (de_int))) (dr_nil)))) (de_one (dx_de (dx_has h_is_long_integer hr (by decide) tk (by rfl) (dr_val (de_ix (do_var (pv 0)) (do_val (de_int))) (dr_nil)))))))))
theorem d_is_long_ratio (T : Txt P K mg base) (h_is_long_pair : Has P w K mg base "is_long_pair" 2 ["value"] F_is_long_pair) {f : Addr} {n : Nat} {cdv : Value} {A : Around} {outer : List Env} {s : Shared} {H : Hp} {E : XK} (hr : RoomG 2 (A.deeper (envOfC "is_long_ratio" (defScope s_is_long_ratio) s.heap.objs.size f cdv))) :
    DSs (cxOf (L2.CX P w) P w K mg base ["value"] "is_long_ratio" (defScope s_is_long_ratio) f cdv A outer s H E) (fun cls d _ H => E cls d H) (defBody s_is_long_ratio) (B_is_long_ratio n) := by
  have S := sc_is_long_ratio
  have tk : Takes (cxOf (L2.CX P w) P w K mg base ["value"] "is_long_ratio" (defScope s_is_long_ratio) f cdv A outer s H E) (fun cls d _ H => E cls d H) := takes_of rfl rfl rfl rfl
  have hu := hr.units
  have hu0 := hr.units0
  have hu1 := hu_of hr.room
  have hu2 := in1u hr
  exact dss_one (ds_ret (de_and (dx_de (dx_has h_is_long_pair hr (by decide) tk (by rfl) (dr_val (de_var (pv 0)) (dr_nil)))) (de_and (de_cmp op_gt ops_b0 (do_val (de_ix (do_var (pv 0)) (do_val (de_int)))) (do_val (de_int)) (nomark _)) (de_one (de_cmp (((op_eqD hu).or (op_eqK hu2 hu0)).or (op_eqL hr.u80)) (ops_or (ops_or ops_eq1 ops_eqK) ops_eqL) (do_val (de_callM cr_gcd cas_gcd (by rfl) T.m_gcd (da_cons (do_val (de_ix (do_var (pv 0)) (do_val (de_int)))) (da_cons (do_val (de_ix (do_var (pv 0)) (do_val (de_int)))) (da_nil))))) (do_val (de_int)) (nomark _))))))
theorem d_is_ratio (T : Txt P K mg base) (h_is_long_ratio : Has P w K mg base "is_long_ratio" 3 ["value"] F_is_long_ratio) (h_is_integer : Has P w K mg base "is_integer" 2 ["value"] F_is_integer) {f : Addr} {n : Nat} {cdv : Value} {A : Around} {outer : List Env} {s : Shared} {H : Hp} {E : XK} (hr : RoomG 3 (A.deeper (envOfC "is_ratio" (defScope s_is_ratio) s.heap.objs.size f cdv))) :
    DSs (cxOf (L2.CX P w) P w K mg base ["value"] "is_ratio" (defScope s_is_ratio) f cdv A outer s H E) (fun cls d _ H => E cls d H) (defBody s_is_ratio) (B_is_ratio n) := by
  have S := sc_is_ratio
  have tk : Takes (cxOf (L2.CX P w) P w K mg base ["value"] "is_ratio" (defScope s_is_ratio) f cdv A outer s H E) (fun cls d _ H => E cls d H) := takes_of rfl rfl rfl rfl
  have hu := hr.units
  have hu0 := hr.units0
  have hu1 := hu_of hr.room
  have hu2 := in1u hr
  exact dss_one (ds_ret (de_and (dx_de (dx_has h_is_long_ratio hr (by decide) tk (by rfl) (dr_val (de_var (pv 0)) (dr_nil)))) (de_and (dx_de (dx_has h_is_integer hr (by decide) tk (by rfl) (dr_val (de_ix (do_var (pv 0)) (do_val (de_int))) (dr_nil)))) (de_one (dx_de (dx_has h_is_integer hr (by decide) tk (by rfl) (dr_val (de_ix (do_var (pv 0)) (do_val (de_int))) (dr_nil))))))))
theorem d_check_ratio (T : Txt P K mg base) (h_is_ratio : Has P w K mg base "is_ratio" 4 ["value"] F_is_ratio) {f : Addr} {n : Nat} {cdv : Value} {A : Around} {outer : List Env} {s : Shared} {H : Hp} {E : XK} (hr : RoomG 4 (A.deeper (envOfC "check_ratio" (defScope s_check_ratio) s.heap.objs.size f cdv))) :
    DSs (cxOf (L2.CX P w) P w K mg base ["ratio"] "check_ratio" (defScope s_check_ratio) f cdv A outer s H E) (fun cls d _ H => E cls d H) (defBody s_check_ratio) (B_check_ratio n) := by
  have S := sc_check_ratio
  have tk : Takes (cxOf (L2.CX P w) P w K mg base ["ratio"] "check_ratio" (defScope s_check_ratio) f cdv A outer s H E) (fun cls d _ H => E cls d H) := takes_of rfl rfl rfl rfl
  have hu := hr.units
  have hu0 := hr.units0
  have hu1 := hu_of hr.room
  have hu2 := in1u hr
  exact dss_one (ds_if (dt_not (dt_val (dx_de (dx_has h_is_ratio hr (by decide) tk (by rfl) (dr_val (de_var (pv 0)) (dr_nil)))))) (dss_one (ds_raise T.e_InvalidRatio rfl tk (by rfl))) (dss_nil))
theorem d_reduced (T : Txt P K mg base)  {f : Addr} {n : Nat} {cdv : Value} {A : Around} {outer : List Env} {s : Shared} {H : Hp} {E : XK} (hr : RoomG 0 (A.deeper (envOfC "reduced" (defScope s_reduced) s.heap.objs.size f cdv))) :
    DSs (cxOf (L2.CX P w) P w K mg base ["top", "bottom", "divisor"] "reduced" (defScope s_reduced) f cdv A outer s H E) (fun cls d _ H => E cls d H) (defBody s_reduced) (B_reduced n) := by
  have S := sc_reduced
  have tk : Takes (cxOf (L2.CX P w) P w K mg base ["top", "bottom", "divisor"] "reduced" (defScope s_reduced) f cdv A outer s H E) (fun cls d _ H => E cls d H) := takes_of rfl rfl rfl rfl
  have hu := hr.units
  have hu0 := hr.units0
  have hu1 := hu_of hr.room
  have hu2 := in1u hr
  exact dss_cons (ds_set (i := 2) S.nd rfl (.inl rfl) (de_callM cr_gcd cas_gcd (by rfl) T.m_gcd (da_cons (do_var (pv 0)) (da_cons (do_var (pv 1)) (da_nil)))))
    (dss_cons (ds_if (dt_cmp op_lt ops_b0 (do_var (pv 1)) (do_val (de_int)) (nomark _)) (dss_one (ds_set (i := 2) S.nd rfl (.inl rfl) (de_un un_neg uns_neg (do_var (pv 2))))) (dss_nil))
    (dss_one (ds_ret (de_tup (dv_cons (de_bin op_fdivG (ops_ic fun _ _ h => cDiv_ok h) (do_var (pv 0)) (do_var (pv 2))) (dv_cons (de_bin op_fdivG (ops_ic fun _ _ h => cDiv_ok h) (do_var (pv 1)) (do_var (pv 2))) (dv_nil)))))))
theorem d_polynomial_value (T : Txt P K mg base) (h_check_polynomial : Has P w K mg base "check_polynomial" 4 ["polynomial"] F_check_polynomial) (h_check_ratio : Has P w K mg base "check_ratio" 5 ["ratio"] F_check_ratio) (h_reduced : Has P w K mg base "reduced" 1 ["top", "bottom"] F_reduced) {f : Addr} {n : Nat} {cdv : Value} {A : Around} {outer : List Env} {s : Shared} {H : Hp} {E : XK} (hr : RoomG 5 (A.deeper (envOfC "polynomial_value" (defScope s_polynomial_value) s.heap.objs.size f cdv))) :
    DSs (cxOf (L2.CX P w) P w K mg base ["polynomial", "ratio", "top", "bottom", "total", "scale", "item"] "polynomial_value" (defScope s_polynomial_value) f cdv A outer s H E) (fun cls d _ H => E cls d H) (defBody s_polynomial_value) (B_polynomial_value n) := by
  have S := sc_polynomial_value
  have tk : Takes (cxOf (L2.CX P w) P w K mg base ["polynomial", "ratio", "top", "bottom", "total", "scale", "item"] "polynomial_value" (defScope s_polynomial_value) f cdv A outer s H E) (fun cls d _ H => E cls d H) := takes_of rfl rfl rfl rfl
  have hu := hr.units
  have hu0 := hr.units0
  have hu1 := hu_of hr.room
  have hu2 := in1u hr
  exact dss_cons (ds_expr (dx_de (dx_has h_check_polynomial hr (by decide) tk (by rfl) (dr_val (de_var (pv 0)) (dr_nil)))))
    (dss_cons (ds_expr (dx_de (dx_has h_check_ratio hr (by decide) tk (by rfl) (dr_val (de_var (pv 1)) (dr_nil)))))
    (dss_cons (ds_asg (de_var (pv 1)) (dg_tup rfl (dgs_cons (dg_name (i := 2) (pg_name (i := 2) S.nd rfl (.inl rfl))) (dgs_cons (dg_name (i := 3) (pg_name (i := 3) S.nd rfl (.inl rfl))) (dgs_nil)))))
    (dss_cons (ds_set (i := 4) S.nd rfl (.inl rfl) (de_int))
    (dss_cons (ds_set (i := 5) S.nd rfl (.inl rfl) (de_int))
    (dss_cons (ds_for (passes_of rfl) rfl (di_seq (de_fresh (df_rev (do_var (pv 0))))) (dg_name (i := 6) (pg_name (i := 6) S.nd rfl (.inl rfl))) (dss_cons (ds_set (i := 4) S.nd rfl (.inl rfl) (de_bin (op_add.or (op_cat.or op_catA)) (ops_or ops_i0 (ops_or ops_catL ops_catT)) (do_val (de_bin (op_mulW.or (op_rep.or op_repT)) (ops_or (ops_ic mul_ok) (ops_or ops_repL ops_repT)) (do_var (pv 4)) (do_var (pv 2)))) (do_val (de_bin (op_mulW.or (op_rep.or op_repT)) (ops_or (ops_ic mul_ok) (ops_or ops_repL ops_repT)) (do_var (pv 6)) (do_var (pv 5))))))
    (dss_one (ds_set (i := 5) S.nd rfl (.inl rfl) (de_bin (op_mulW.or (op_rep.or op_repT)) (ops_or (ops_ic mul_ok) (ops_or ops_repL ops_repT)) (do_var (pv 5)) (do_var (pv 3)))))))
    (dss_one (ds_ret (dx_de (dx_has h_reduced hr (by decide) tk (by rfl) (dr_val (de_bin (op_mulW.or (op_rep.or op_repT)) (ops_or (ops_ic mul_ok) (ops_or ops_repL ops_repT)) (do_var (pv 4)) (do_var (pv 3))) (dr_val (de_var (pv 5)) (dr_nil))))))))))))
theorem d_is_between (T : Txt P K mg base) (h_is_integer : Has P w K mg base "is_integer" 2 ["value"] F_is_integer) {f : Addr} {n : Nat} {cdv : Value} {A : Around} {outer : List Env} {s : Shared} {H : Hp} {E : XK} (hr : RoomG 2 (A.deeper (envOfC "is_between" (defScope s_is_between) s.heap.objs.size f cdv))) :
    DSs (cxOf (L2.CX P w) P w K mg base ["value", "least", "most"] "is_between" (defScope s_is_between) f cdv A outer s H E) (fun cls d _ H => E cls d H) (defBody s_is_between) (B_is_between n) := by
  have S := sc_is_between
  have tk : Takes (cxOf (L2.CX P w) P w K mg base ["value", "least", "most"] "is_between" (defScope s_is_between) f cdv A outer s H E) (fun cls d _ H => E cls d H) := takes_of rfl rfl rfl rfl
  have hu := hr.units
  have hu0 := hr.units0
  have hu1 := hu_of hr.room
  have hu2 := in1u hr
  exact dss_one (ds_ret (de_and (dx_de (dx_has h_is_integer hr (by decide) tk (by rfl) (dr_val (de_var (pv 0)) (dr_nil)))) (de_one (de_chain op_le op_le ops_b0 ops_b0 (do_var (pv 1)) (do_var (pv 0)) (do_var (pv 2))))))
theorem d_check_number (T : Txt P K mg base) (h_kept : Has P w K mg base "kept" 3 ["value"] F_kept) (h_is_between : Has P w K mg base "is_between" 3 ["value", "least", "most"] F_is_between) {f : Addr} {n : Nat} {cdv : Value} {A : Around} {outer : List Env} {s : Shared} {H : Hp} {E : XK} (hr : RoomG 5 (A.deeper (envOfC "check_number" (defScope s_check_number) s.heap.objs.size f cdv))) :
    DSs (cxOf (L2.CX P w) P w K mg base ["given", "least", "most"] "check_number" (defScope s_check_number) f cdv A outer s H E) (fun cls d _ H => E cls d H) (defBody s_check_number) (B_check_number n) := by
  have S := sc_check_number
  have tk : Takes (cxOf (L2.CX P w) P w K mg base ["given", "least", "most"] "check_number" (defScope s_check_number) f cdv A outer s H E) (fun cls d _ H => E cls d H) := takes_of rfl rfl rfl rfl
  have hu := hr.units
  have hu0 := hr.units0
  have hu1 := hu_of hr.room
  have hu2 := in1u hr
  exact dss_one (ds_if (dt_not (dt_val (dx_de (dx_has h_is_between hr (by decide) tk (by rfl) (dr_val (de_var (pv 0)) (dr_val (de_var (pv 1)) (dr_val (de_var (pv 2)) (dr_nil)))))))) (dss_one (ds_raiseX T.x_InvalidNumber h_kept (hr.mono (by decide)) rfl tk (by rfl) (de_var (pv 0)))) (dss_nil))
theorem d_prime_factors (T : Txt P K mg base) (h_check_number : Has P w K mg base "check_number" 6 ["given", "least", "most"] F_check_number) {f : Addr} {n : Nat} {cdv : Value} {A : Around} {outer : List Env} {s : Shared} {H : Hp} {E : XK} (hr : RoomG 6 (A.deeper (envOfC "prime_factors" (defScope s_prime_factors) s.heap.objs.size f cdv))) :
    DSs (cxOf (L2.CX P w) P w K mg base ["number", "found", "left", "divisor"] "prime_factors" (defScope s_prime_factors) f cdv A outer s H E) (fun cls d _ H => E cls d H) (defBody s_prime_factors) (B_prime_factors n) := by
  have S := sc_prime_factors
  have tk : Takes (cxOf (L2.CX P w) P w K mg base ["number", "found", "left", "divisor"] "prime_factors" (defScope s_prime_factors) f cdv A outer s H E) (fun cls d _ H => E cls d H) := takes_of rfl rfl rfl rfl
  have hu := hr.units
  have hu0 := hr.units0
  have hu1 := hu_of hr.room
  have hu2 := in1u hr
  exact dss_cons (ds_expr (dx_de (dx_has h_check_number hr (by decide) tk (by rfl) (dr_val (de_var (pv 0)) (dr_val (de_int) (dr_val (de_gint (by rfl) T.c_MAX_FACTORED.choose_spec) (dr_nil)))))))
    (dss_cons (ds_setF (i := 1) S.nd rfl (.inl rfl) (df_dic0))
    (dss_cons (ds_set (i := 2) S.nd rfl (.inl rfl) (de_var (pv 0)))
    (dss_cons (ds_set (i := 3) S.nd rfl (.inl rfl) (de_int))
    (dss_cons (ds_while n (passes_of rfl) (dt_cmp op_le ops_b0 (do_val (de_bin (op_mulW.or (op_rep.or op_repT)) (ops_or (ops_ic mul_ok) (ops_or ops_repL ops_repT)) (do_var (pv 3)) (do_var (pv 3)))) (do_var (pv 2)) (nomark _)) (dss_cons (ds_while n (passes_of rfl) (dt_cmp (((op_eqD hu).or (op_eqK hu2 hu0)).or (op_eqL hr.u80)) (ops_or (ops_or ops_eq1 ops_eqK) ops_eqL) (do_val (de_bin op_modN (ops_ic fun _ _ h => of_decide_eq_true h) (do_var (pv 2)) (do_var (pv 3)))) (do_val (de_int)) (nomark _)) (dss_cons (ds_setk hu1 (pv 1) (de_var (pv 3)) (de_bin (op_add.or (op_cat.or op_catA)) (ops_or ops_i0 (ops_or ops_catL ops_catT)) (do_val (de_get2 hu1 (do_var (pv 1)) (de_var (pv 3)) (de_int) ⟨by rfl, by rfl, by rfl, by rfl⟩)) (do_val (de_int))))
    (dss_one (ds_set (i := 2) S.nd rfl (.inl rfl) (de_bin op_fdivG (ops_ic fun _ _ h => cDiv_ok h) (do_var (pv 2)) (do_var (pv 3)))))))
    (dss_one (ds_set (i := 3) S.nd rfl (.inl rfl) (de_ifExp (dt_cmp (((op_eqD hu).or (op_eqK hu2 hu0)).or (op_eqL hr.u80)) (ops_or (ops_or ops_eq1 ops_eqK) ops_eqL) (do_var (pv 3)) (do_val (de_int)) (nomark _)) (de_bin (op_add.or (op_cat.or op_catA)) (ops_or ops_i0 (ops_or ops_catL ops_catT)) (do_var (pv 3)) (do_val (de_int))) (de_bin (op_add.or (op_cat.or op_catA)) (ops_or ops_i0 (ops_or ops_catL ops_catT)) (do_var (pv 3)) (do_val (de_int))))))))
    (dss_cons (ds_if (dt_cmp op_gt ops_b0 (do_var (pv 2)) (do_val (de_int)) (nomark _)) (dss_one (ds_setk hu1 (pv 1) (de_var (pv 2)) (de_int))) (dss_nil))
    (dss_one (ds_retV (pv 1))))))))
theorem d_sign_divisors (T : Txt P K mg base) (h_prime_factors : Has P w K mg base "prime_factors" 7 ["number"] F_prime_factors) {f : Addr} {n : Nat} {cdv : Value} {A : Around} {outer : List Env} {s : Shared} {H : Hp} {E : XK} (hr : RoomG 7 (A.deeper (envOfC "sign_divisors" (defScope s_sign_divisors) s.heap.objs.size f cdv))) :
    DSs (cxOf (L2.CX P w) P w K mg base ["number", "found", "prime", "divisor", "sign"] "sign_divisors" (defScope s_sign_divisors) f cdv A outer s H E) (fun cls d _ H => E cls d H) (defBody s_sign_divisors) (B_sign_divisors n) := by
  have S := sc_sign_divisors
  have tk : Takes (cxOf (L2.CX P w) P w K mg base ["number", "found", "prime", "divisor", "sign"] "sign_divisors" (defScope s_sign_divisors) f cdv A outer s H E) (fun cls d _ H => E cls d H) := takes_of rfl rfl rfl rfl
  have hu := hr.units
  have hu0 := hr.units0
  have hu1 := hu_of hr.room
  have hu2 := in1u hr
  exact dss_cons (ds_set (i := 1) S.nd rfl (.inl rfl) (de_fresh (df_lst (dv_cons (de_tup (dv_cons (de_var (pv 0)) (dv_cons (de_int) (dv_nil)))) (dv_nil)))))
    (dss_cons (ds_for (passes_of rfl) rfl (di_keys (dx_de (dx_has h_prime_factors hr (by decide) tk (by rfl) (dr_val (de_var (pv 0)) (dr_nil))))) (dg_name (i := 2) (pg_name (i := 2) S.nd rfl (.inr rfl))) (dss_one (ds_set (i := 1) S.nd rfl (.inl rfl) (de_bin (op_add.or (op_cat.or op_catA)) (ops_or ops_i0 (ops_or ops_catL ops_catT)) (do_var (pv 1)) (do_val (de_fresh (df_lc (own := [("divisor", 3), ("sign", 4)]) rfl S.nd (di_seq (de_var (pv 1))) (blkOk_by (by rfl)) rfl (by intro _ _ _ _ _; exact dg_tup rfl (dgs_cons (dg_name (i := 3) (pg_name (i := 3) S.nd rfl (by first | exact .inl rfl | exact .inr rfl))) (dgs_cons (dg_name (i := 4) (pg_name (i := 4) S.nd rfl (by first | exact .inl rfl | exact .inr rfl))) (dgs_nil)))) (by intro _ _ _ _ _; exact dts_nil) (by intro _ _ _ _ _; exact de_tup (dv_cons (de_bin op_fdivG (ops_ic fun _ _ h => cDiv_ok h) (do_var (pv 3)) (do_var (pv 2))) (dv_cons (de_un un_neg uns_neg (do_var (pv 4))) (dv_nil)))))))))))
    (dss_one (ds_retV (pv 1))))
theorem d_with_factors (T : Txt P K mg base)  {f : Addr} {n : Nat} {cdv : Value} {A : Around} {outer : List Env} {s : Shared} {H : Hp} {E : XK} (hr : RoomG 0 (A.deeper (envOfC "with_factors" (defScope s_with_factors) s.heap.objs.size f cdv))) :
    DSs (cxOf (L2.CX P w) P w K mg base ["items", "divisor", "power", "made", "_", "index"] "with_factors" (defScope s_with_factors) f cdv A outer s H E) (fun cls d _ H => E cls d H) (defBody s_with_factors) (B_with_factors n) := by
  have S := sc_with_factors
  have tk : Takes (cxOf (L2.CX P w) P w K mg base ["items", "divisor", "power", "made", "_", "index"] "with_factors" (defScope s_with_factors) f cdv A outer s H E) (fun cls d _ H => E cls d H) := takes_of rfl rfl rfl rfl
  have hu := hr.units
  have hu0 := hr.units0
  have hu1 := hu_of hr.room
  have hu2 := in1u hr
  exact dss_cons (ds_setF (i := 3) S.nd rfl (.inl rfl) (df_list (by rfl) T.b_list (do_var (pv 0))))
    (dss_cons (ds_for (passes_of rfl) rfl (di_rng1 (by rfl) T.b_range (dv_cons (de_var (pv 2)) (dv_nil))) (dg_name (i := 4) (pg_name (i := 4) S.nd rfl (.inl rfl))) (dss_one (ds_for (passes_of rfl) rfl (di_revR2 (by rfl) T.b_reversed (by rfl) T.b_range (de_var (pv 1)) (de_callB call_len_seq cas_len (by rfl) T.b_len PySem.boot_len (da_cons (do_var (pv 3)) (da_nil)))) (dg_name (i := 5) (pg_name (i := 5) S.nd rfl (.inl rfl))) (dss_one (ds_seti (pv 3) (de_var (pv 5)) (de_bin op_sub ops_i0 (do_val (de_ix (do_var (pv 3)) (do_var (pv 5)))) (do_val (de_ix (do_var (pv 3)) (do_val (de_bin op_sub ops_i0 (do_var (pv 5)) (do_var (pv 1))))))))))))
    (dss_cons (ds_for (passes_of rfl) rfl (di_rng1 (by rfl) T.b_range (dv_cons (de_un un_neg uns_neg (do_var (pv 2))) (dv_nil))) (dg_name (i := 4) (pg_name (i := 4) S.nd rfl (.inl rfl))) (dss_one (ds_for (passes_of rfl) rfl (di_rng2 (by rfl) T.b_range (dv_cons (de_var (pv 1)) (dv_cons (de_callB call_len_seq cas_len (by rfl) T.b_len PySem.boot_len (da_cons (do_var (pv 3)) (da_nil))) (dv_nil)))) (dg_name (i := 5) (pg_name (i := 5) S.nd rfl (.inl rfl))) (dss_one (ds_seti (pv 3) (de_var (pv 5)) (de_bin (op_add.or (op_cat.or op_catA)) (ops_or ops_i0 (ops_or ops_catL ops_catT)) (do_val (de_ix (do_var (pv 3)) (do_var (pv 5)))) (do_val (de_ix (do_var (pv 3)) (do_val (de_bin op_sub ops_i0 (do_var (pv 5)) (do_var (pv 1))))))))))))
    (dss_one (ds_retV (pv 3)))))
theorem d_totient (T : Txt P K mg base) (h_prime_factors : Has P w K mg base "prime_factors" 7 ["number"] F_prime_factors) {f : Addr} {n : Nat} {cdv : Value} {A : Around} {outer : List Env} {s : Shared} {H : Hp} {E : XK} (hr : RoomG 7 (A.deeper (envOfC "totient" (defScope s_totient) s.heap.objs.size f cdv))) :
    DSs (cxOf (L2.CX P w) P w K mg base ["number", "many", "prime"] "totient" (defScope s_totient) f cdv A outer s H E) (fun cls d _ H => E cls d H) (defBody s_totient) (B_totient n) := by
  have S := sc_totient
  have tk : Takes (cxOf (L2.CX P w) P w K mg base ["number", "many", "prime"] "totient" (defScope s_totient) f cdv A outer s H E) (fun cls d _ H => E cls d H) := takes_of rfl rfl rfl rfl
  have hu := hr.units
  have hu0 := hr.units0
  have hu1 := hu_of hr.room
  have hu2 := in1u hr
  exact dss_cons (ds_set (i := 1) S.nd rfl (.inl rfl) (de_var (pv 0)))
    (dss_cons (ds_for (passes_of rfl) rfl (di_keys (dx_de (dx_has h_prime_factors hr (by decide) tk (by rfl) (dr_val (de_var (pv 0)) (dr_nil))))) (dg_name (i := 2) (pg_name (i := 2) S.nd rfl (.inl rfl))) (dss_one (ds_set (i := 1) S.nd rfl (.inl rfl) (de_bin (op_mulW.or (op_rep.or op_repT)) (ops_or (ops_ic mul_ok) (ops_or ops_repL ops_repT)) (do_val (de_bin op_fdivG (ops_ic fun _ _ h => cDiv_ok h) (do_var (pv 1)) (do_var (pv 2)))) (do_val (de_bin op_sub ops_i0 (do_var (pv 2)) (do_val (de_int))))))))
    (dss_one (ds_retV (pv 1))))
theorem d_cyclotomic_product (T : Txt P K mg base) (h_sign_divisors : Has P w K mg base "sign_divisors" 8 ["number"] F_sign_divisors) (h_with_factors : Has P w K mg base "with_factors" 1 ["items", "divisor", "power"] F_with_factors) (h_totient : Has P w K mg base "totient" 8 ["number"] F_totient) {f : Addr} {n : Nat} {cdv : Value} {A : Around} {outer : List Env} {s : Shared} {H : Hp} {E : XK} (hr : RoomG 8 (A.deeper (envOfC "cyclotomic_product" (defScope s_cyclotomic_product) s.heap.objs.size f cdv))) :
    DSs (cxOf (L2.CX P w) P w K mg base ["parts", "degree", "powers", "number", "times", "divisor", "sign", "items", "power", "item"] "cyclotomic_product" (defScope s_cyclotomic_product) f cdv A outer s H E) (fun cls d _ H => E cls d H) (defBody s_cyclotomic_product) (B_cyclotomic_product n) := by
  have S := sc_cyclotomic_product
  have tk : Takes (cxOf (L2.CX P w) P w K mg base ["parts", "degree", "powers", "number", "times", "divisor", "sign", "items", "power", "item"] "cyclotomic_product" (defScope s_cyclotomic_product) f cdv A outer s H E) (fun cls d _ H => E cls d H) := takes_of rfl rfl rfl rfl
  have hu := hr.units
  have hu0 := hr.units0
  have hu1 := hu_of hr.room
  have hu2 := in1u hr
  exact dss_cons (ds_set (i := 1) S.nd rfl (.inl rfl) (de_int))
    (dss_cons (ds_setF (i := 2) S.nd rfl (.inl rfl) (df_dic0))
    (dss_cons (ds_for (passes_of rfl) rfl (di_items (de_var (pv 0))) (dg_tup rfl (dgs_cons (dg_name (i := 3) (pg_name (i := 3) S.nd rfl (.inl rfl))) (dgs_cons (dg_name (i := 4) (pg_name (i := 4) S.nd rfl (.inl rfl))) (dgs_nil)))) (dss_cons (ds_set (i := 1) S.nd rfl (.inl rfl) (de_bin (op_add.or (op_cat.or op_catA)) (ops_or ops_i0 (ops_or ops_catL ops_catT)) (do_var (pv 1)) (do_val (de_bin (op_mulW.or (op_rep.or op_repT)) (ops_or (ops_ic mul_ok) (ops_or ops_repL ops_repT)) (do_val (dx_de (dx_has h_totient hr (by decide) tk (by rfl) (dr_val (de_var (pv 3)) (dr_nil))))) (do_var (pv 4))))))
    (dss_one (ds_for (passes_of rfl) rfl (di_seq (dx_de (dx_has h_sign_divisors hr (by decide) tk (by rfl) (dr_val (de_var (pv 3)) (dr_nil))))) (dg_tup rfl (dgs_cons (dg_name (i := 5) (pg_name (i := 5) S.nd rfl (.inl rfl))) (dgs_cons (dg_name (i := 6) (pg_name (i := 6) S.nd rfl (.inl rfl))) (dgs_nil)))) (dss_one (ds_setk hu1 (pv 2) (de_var (pv 5)) (de_bin (op_add.or (op_cat.or op_catA)) (ops_or ops_i0 (ops_or ops_catL ops_catT)) (do_val (de_get2 hu1 (do_var (pv 2)) (de_var (pv 5)) (de_int) ⟨by rfl, by rfl, by rfl, by rfl⟩)) (do_val (de_bin (op_mulW.or (op_rep.or op_repT)) (ops_or (ops_ic mul_ok) (ops_or ops_repL ops_repT)) (do_var (pv 6)) (do_var (pv 4)))))))))))
    (dss_cons (ds_set (i := 7) S.nd rfl (.inl rfl) (de_bin (op_add.or (op_cat.or op_catA)) (ops_or ops_i0 (ops_or ops_catL ops_catT)) (do_val (de_fresh (df_lst (dv_cons (de_int) (dv_nil))))) (do_val (de_bin (op_mulW.or (op_rep.or op_repT)) (ops_or (ops_ic mul_ok) (ops_or ops_repL ops_repT)) (do_val (de_fresh (df_lst (dv_cons (de_int) (dv_nil))))) (do_var (pv 1))))))
    (dss_cons (ds_for (passes_of rfl) rfl (di_items (de_var (pv 2))) (dg_tup rfl (dgs_cons (dg_name (i := 5) (pg_name (i := 5) S.nd rfl (.inl rfl))) (dgs_cons (dg_name (i := 8) (pg_name (i := 8) S.nd rfl (.inl rfl))) (dgs_nil)))) (dss_one (ds_set (i := 7) S.nd rfl (.inl rfl) (dx_de (dx_has h_with_factors hr (by decide) tk (by rfl) (dr_val (de_var (pv 7)) (dr_val (de_var (pv 5)) (dr_val (de_var (pv 8)) (dr_nil)))))))))
    (dss_one (ds_ret (de_ifExp (dt_cmp (((op_eqD hu).or (op_eqK hu2 hu0)).or (op_eqL hr.u80)) (ops_or (ops_or ops_eq1 ops_eqK) ops_eqL) (do_val (de_bin op_modN (ops_ic fun _ _ h => of_decide_eq_true h) (do_val (de_get2 hu1 (do_var (pv 0)) (de_int) (de_int) ⟨by rfl, by rfl, by rfl, by rfl⟩)) (do_val (de_int)))) (do_val (de_int)) (nomark _)) (de_callTy call_tuple_of cas_tup (by rfl) T.b_tuple boot_tuple (da_cons (do_var (pv 7)) (da_nil))) (de_callTy call_tuple_of cas_tup (by rfl) T.b_tuple boot_tuple (da_cons (do_val (de_fresh (df_lc (own := [("item", 9)]) rfl S.nd (di_seq (de_var (pv 7))) (blkOk_by (by rfl)) rfl (by intro _ _ _ _ _; exact dg_name (i := 9) (pg_name (i := 9) S.nd rfl (by first | exact .inl rfl | exact .inr rfl))) (by intro _ _ _ _ _; exact dts_nil) (by intro _ _ _ _ _; exact de_un un_neg uns_neg (do_var (pv 9)))))) (da_nil))))))))))
theorem d_cyclotomic (T : Txt P K mg base) (h_check_number : Has P w K mg base "check_number" 6 ["given", "least", "most"] F_check_number) (h_kept : Has P w K mg base "kept" 3 ["value"] F_kept) (h_cyclotomic_product : Has P w K mg base "cyclotomic_product" 9 ["parts"] F_cyclotomic_product) (h_totient : Has P w K mg base "totient" 8 ["number"] F_totient) {f : Addr} {n : Nat} {cdv : Value} {A : Around} {outer : List Env} {s : Shared} {H : Hp} {E : XK} (hr : RoomG 9 (A.deeper (envOfC "cyclotomic" (defScope s_cyclotomic) s.heap.objs.size f cdv))) :
    DSs (cxOf (L2.CX P w) P w K mg base ["number"] "cyclotomic" (defScope s_cyclotomic) f cdv A outer s H E) (fun cls d _ H => E cls d H) (defBody s_cyclotomic) (B_cyclotomic n) := by
  have S := sc_cyclotomic
  have tk : Takes (cxOf (L2.CX P w) P w K mg base ["number"] "cyclotomic" (defScope s_cyclotomic) f cdv A outer s H E) (fun cls d _ H => E cls d H) := takes_of rfl rfl rfl rfl
  have hu := hr.units
  have hu0 := hr.units0
  have hu1 := hu_of hr.room
  have hu2 := in1u hr
  exact dss_cons (ds_expr (dx_de (dx_has h_check_number hr (by decide) tk (by rfl) (dr_val (de_var (pv 0)) (dr_val (de_int) (dr_val (de_gint (by rfl) T.c_MAX_CYCLOTOMIC.choose_spec) (dr_nil)))))))
    (dss_cons (ds_if (dt_cmp op_gt ops_b0 (do_val (dx_de (dx_has h_totient hr (by decide) tk (by rfl) (dr_val (de_var (pv 0)) (dr_nil))))) (do_val (de_gint (by rfl) T.c_MAX_DEGREE.choose_spec)) (nomark _)) (dss_one (ds_raiseX T.x_TooMany h_kept (hr.mono (by decide)) rfl tk (by rfl) (de_gint (by rfl) T.c_MAX_DEGREE.choose_spec))) (dss_nil))
    (dss_one (ds_ret (dx_de (dx_has h_cyclotomic_product hr (by decide) tk (by rfl) (dr_val (de_fresh (df_disp (dps_cons (de_var (pv 0)) (de_int) (dps_nil)))) (dr_nil)))))))
theorem d_cyclotomic_parts (T : Txt P K mg base) (h_check_polynomial : Has P w K mg base "check_polynomial" 4 ["polynomial"] F_check_polynomial) {f : Addr} {n : Nat} {cdv : Value} {A : Around} {outer : List Env} {s : Shared} {H : Hp} {E : XK} (hr : RoomG 4 (A.deeper (envOfC "cyclotomic_parts" (defScope s_cyclotomic_parts) s.heap.objs.size f cdv))) :
    DSs (cxOf (L2.CX P w) P w K mg base ["polynomial", "item", "told", "rest", "found", "number", "degree", "value", "times"] "cyclotomic_parts" (defScope s_cyclotomic_parts) f cdv A outer s H E) (fun cls d _ H => E cls d H) (defBody s_cyclotomic_parts) (B_cyclotomic_parts n) := by
  have S := sc_cyclotomic_parts
  have tk : Takes (cxOf (L2.CX P w) P w K mg base ["polynomial", "item", "told", "rest", "found", "number", "degree", "value", "times"] "cyclotomic_parts" (defScope s_cyclotomic_parts) f cdv A outer s H E) (fun cls d _ H => E cls d H) := takes_of rfl rfl rfl rfl
  have hu := hr.units
  have hu0 := hr.units0
  have hu1 := hu_of hr.room
  have hu2 := in1u hr
  exact dss_cons (ds_expr (dx_de (dx_has h_check_polynomial hr (by decide) tk (by rfl) (dr_val (de_var (pv 0)) (dr_nil)))))
    (dss_cons (ds_if (dt_bool (dw_or (dt_cmp (((op_neD hu).or (op_neK hu2 hu0)).or (op_neL hr.u80)) (ops_or (ops_or ops_ne1 ops_neK) ops_neL) (do_val (de_ix (do_var (pv 0)) (do_val (de_un un_neg uns_neg (do_val (de_int)))))) (do_val (de_int)) (nomark _)) (dw_or (dt_cmp (((op_neD hu).or (op_neK hu2 hu0)).or (op_neL hr.u80)) (ops_or (ops_or ops_ne1 ops_neK) ops_neL) (do_val (de_callB call_abs cas_abs (by rfl) T.b_abs boot_abs (da_cons (do_val (de_ix (do_var (pv 0)) (do_val (de_int)))) (da_nil)))) (do_val (de_int)) (nomark _)) (dw_or1 (dt_cmp op_gt ops_b0 (do_val (de_callB ((call_max2 rfl).or (call_maxS rfl hr.units)) (cas_or cas_max2 cas_maxS) (by rfl) T.b_max boot_max (da_cons (do_val (de_fresh (df_lc (own := [("item", 1)]) rfl S.nd (di_seq (de_var (pv 0))) (blkOk_by (by rfl)) rfl (by intro _ _ _ _ _; exact dg_name (i := 1) (pg_name (i := 1) S.nd rfl (by first | exact .inl rfl | exact .inr rfl))) (by intro _ _ _ _ _; exact dts_nil) (by intro _ _ _ _ _; exact de_callB call_abs cas_abs (by rfl) T.b_abs boot_abs (da_cons (do_var (pv 1)) (da_nil)))))) (da_nil)))) (do_val (de_gint (by rfl) T.c_MOST_ITEM.choose_spec)) (nomark _)))))) (dss_one (ds_ret (de_non))) (dss_nil))
    (dss_cons (ds_never)
    (dss_cons (ds_never)
    (dss_cons (ds_never)
    (dss_cons (ds_never)
    (dss_one (ds_never)))))))
set_option maxHeartbeats 4000000 in
theorem d_q_lines_right (T : Txt P K mg base) (h_q_one_of : Has P w K mg base "_law_one_of" 2 ["_law_bag_here", "_law_items"] F_q_one_of) (h_q_word : LamB P w K mg base true 1 "_law_word" F_q_word) (h_polynomial_sum : Has P w K mg base "polynomial_sum" 6 ["one", "other"] F_polynomial_sum) (h_polynomial_product : Has P w K mg base "polynomial_product" 6 ["one", "other"] F_polynomial_product) (h_polynomial_quotient : Has P w K mg base "polynomial_quotient" 6 ["one", "other"] F_polynomial_quotient) (h_polynomial_value : Has P w K mg base "polynomial_value" 6 ["polynomial", "ratio"] F_polynomial_value) (h_cyclotomic : Has P w K mg base "cyclotomic" 10 ["number"] F_cyclotomic) (h_cyclotomic_parts : Has P w K mg base "cyclotomic_parts" 5 ["polynomial"] F_cyclotomic_parts) {f : Addr} {n : Nat} {cdv : Value} {A : Around} {outer : List Env} {s : Shared} {H : Hp} {E : XK} (lc : lamCode K "_law_lines_right" cdv) (hr : RoomG 12 (A.deeper (envOfC "_law_lines_right" (defScope s_q_lines_right) s.heap.objs.size f cdv))) :
    DSs (cxOf (L2.CX P w) P w K mg base ["_law_bag_here", "_law_told", "_law_due", "_law_bad", "_law_half", "_law_line", "_law_none", "_law_odd"] "_law_lines_right" (defScope s_q_lines_right) f cdv A outer s H E) (fun cls d _ H => E cls d H) (defBody s_q_lines_right) (B_q_lines_right n) := by
  obtain ⟨lamc, lamP, hcd, htab⟩ := lc
  have S := sc_q_lines_right
  have tk : Takes (cxOf (L2.CX P w) P w K mg base ["_law_bag_here", "_law_told", "_law_due", "_law_bad", "_law_half", "_law_line", "_law_none", "_law_odd"] "_law_lines_right" (defScope s_q_lines_right) f cdv A outer s H E) (fun cls d _ H => E cls d H) := takes_of rfl rfl rfl rfl
  have hu := hr.units
  have hu0 := hr.units0
  have hu1 := hu_of hr.room
  have hu2 := in1u hr
  exact dss_cons (ds_set (i := 6) S.nd rfl (.inr rfl) (dx_de (dx_has h_q_one_of hr (by decide) tk (by rfl) (dr_io (pv 0) (dr_val (de_fresh (df_lst (dv_cons (de_non) (dv_cons (de_tup (dv_nil)) (dv_cons (de_tup (dv_cons (de_int) (dv_cons (de_int) (dv_nil)))) (dv_cons (de_fresh (df_lst (dv_cons (de_int) (dv_cons (de_int) (dv_nil))))) (dv_cons (de_tup (dv_cons (de_bl) (dv_nil))) (dv_cons (de_bin (op_mulW.or (op_rep.or op_repT)) (ops_or (ops_ic mul_ok) (ops_or ops_repL ops_repT)) (do_val (de_tup (dv_cons (de_int) (dv_nil)))) (do_val (de_int))) (dv_cons (de_str) (dv_cons (de_int) (dv_cons (de_tup (dv_cons (de_bin op_powG (ops_ic fun _ _ h => cPow_ok h) (do_val (de_int)) (do_val (de_int))) (dv_nil))) (dv_cons (de_tup (dv_cons (de_tup (dv_cons (de_int) (dv_nil))) (dv_nil))) (dv_cons (de_tup (dv_cons (de_non) (dv_cons (de_int) (dv_nil)))) (dv_cons (de_fresh (df_dic0)) (dv_nil))))))))))))))) (dr_nil))))))
    (dss_cons (ds_set (i := 7) S.nd rfl (.inr rfl) (dx_de (dx_has h_q_one_of hr (by decide) tk (by rfl) (dr_io (pv 0) (dr_val (de_fresh (df_lst (dv_cons (de_non) (dv_cons (de_int) (dv_cons (de_tup (dv_cons (de_int) (dv_nil))) (dv_cons (de_tup (dv_cons (de_int) (dv_cons (de_int) (dv_nil)))) (dv_cons (de_tup (dv_cons (de_int) (dv_cons (de_int) (dv_nil)))) (dv_cons (de_tup (dv_cons (de_int) (dv_cons (de_un un_neg uns_neg (do_val (de_int))) (dv_nil)))) (dv_cons (de_tup (dv_cons (de_bl) (dv_cons (de_int) (dv_nil)))) (dv_cons (de_fresh (df_lst (dv_cons (de_int) (dv_cons (de_int) (dv_nil))))) (dv_cons (de_tup (dv_cons (de_int) (dv_cons (de_int) (dv_cons (de_int) (dv_nil))))) (dv_cons (de_str) (dv_cons (de_tup (dv_cons (de_bin op_powG (ops_ic fun _ _ h => cPow_ok h) (do_val (de_int)) (do_val (de_int))) (dv_cons (de_int) (dv_nil)))) (dv_cons (de_tup (dv_cons (de_int) (dv_cons (de_int) (dv_nil)))) (dv_nil))))))))))))))) (dr_nil))))))
    (dss_cons (ds_set (i := 3) S.nd rfl (.inr rfl) (dx_de (dx_has h_q_one_of hr (by decide) tk (by rfl) (dr_io (pv 0) (dr_val (de_fresh (df_lst (dv_cons (de_non) (dv_cons (de_int) (dv_cons (de_un un_neg uns_neg (do_val (de_int))) (dv_cons (de_int) (dv_cons (de_bl) (dv_cons (de_str) (dv_cons (de_tup (dv_cons (de_int) (dv_nil))) (dv_cons (de_bin op_powG (ops_ic fun _ _ h => cPow_ok h) (do_val (de_int)) (do_val (de_int))) (dv_nil))))))))))) (dr_nil))))))
    (dss_cons (ds_asg (de_tup (dv_cons (de_tup (dv_cons (de_int) (dv_cons (de_int) (dv_cons (de_int) (dv_nil))))) (dv_cons (de_bin (op_mulW.or (op_rep.or op_repT)) (ops_or (ops_ic mul_ok) (ops_or ops_repL ops_repT)) (do_val (de_tup (dv_cons (de_int) (dv_cons (de_int) (dv_cons (de_int) (dv_nil)))))) (do_val (de_int))) (dv_nil)))) (dg_tup rfl (dgs_cons (dg_name (i := 5) (pg_name (i := 5) S.nd rfl (.inr rfl))) (dgs_cons (dg_name (i := 4) (pg_name (i := 4) S.nd rfl (.inr rfl))) (dgs_nil)))))
    (dss_cons (ds_setF (i := 1) S.nd rfl (.inl rfl) (df_lst (dv_cons (de_lam (k := 10) (h_q_word.mono (by decide)) (hr.mono (by decide)) (by rfl) (T.lamT _ (by decide) _ _ htab) hcd (by decide) htab rfl T.lamA (LamX.lamS_by (by rfl)) rfl (fun _ _ _ _ _ => rfl) (by intro A outer s s2 H E f d hr tk; have hu := hr.units; have hu0 := hr.units0; have hu1 := hu_of hr.room; have hu2 := in1u hr; exact (dx_de (dx_has h_polynomial_sum hr (by decide) tk (by rfl) (dr_val (de_var (pv 6)) (dr_val (de_var (pv 6)) (dr_nil))))))) (dv_nil))))
    (dss_cons (ds_app (pv 1) (de_lam (k := 10) (h_q_word.mono (by decide)) (hr.mono (by decide)) (by rfl) (T.lamT _ (by decide) _ _ htab) hcd (by decide) htab rfl T.lamA (LamX.lamS_by (by rfl)) rfl (fun _ _ _ _ _ => rfl) (by intro A outer s s2 H E f d hr tk; have hu := hr.units; have hu0 := hr.units0; have hu1 := hu_of hr.room; have hu2 := in1u hr; exact (dx_de (dx_has h_polynomial_sum hr (by decide) tk (by rfl) (dr_val (de_var (pv 5)) (dr_val (de_var (pv 6)) (dr_nil))))))))
    (dss_cons (ds_app (pv 1) (de_lam (k := 10) (h_q_word.mono (by decide)) (hr.mono (by decide)) (by rfl) (T.lamT _ (by decide) _ _ htab) hcd (by decide) htab rfl T.lamA (LamX.lamS_by (by rfl)) rfl (fun _ _ _ _ _ => rfl) (by intro A outer s s2 H E f d hr tk; have hu := hr.units; have hu0 := hr.units0; have hu1 := hu_of hr.room; have hu2 := in1u hr; exact (dx_de (dx_has h_polynomial_product hr (by decide) tk (by rfl) (dr_val (de_var (pv 6)) (dr_val (de_var (pv 5)) (dr_nil))))))))
    (dss_cons (ds_app (pv 1) (de_lam (k := 10) (h_q_word.mono (by decide)) (hr.mono (by decide)) (by rfl) (T.lamT _ (by decide) _ _ htab) hcd (by decide) htab rfl T.lamA (LamX.lamS_by (by rfl)) rfl (fun _ _ _ _ _ => rfl) (by intro A outer s s2 H E f d hr tk; have hu := hr.units; have hu0 := hr.units0; have hu1 := hu_of hr.room; have hu2 := in1u hr; exact (dx_de (dx_has h_polynomial_product hr (by decide) tk (by rfl) (dr_val (de_var (pv 4)) (dr_val (de_var (pv 6)) (dr_nil))))))))
    (dss_cons (ds_app (pv 1) (de_lam (k := 10) (h_q_word.mono (by decide)) (hr.mono (by decide)) (by rfl) (T.lamT _ (by decide) _ _ htab) hcd (by decide) htab rfl T.lamA (LamX.lamS_by (by rfl)) rfl (fun _ _ _ _ _ => rfl) (by intro A outer s s2 H E f d hr tk; have hu := hr.units; have hu0 := hr.units0; have hu1 := hu_of hr.room; have hu2 := in1u hr; exact (dx_de (dx_has h_polynomial_product hr (by decide) tk (by rfl) (dr_val (de_var (pv 4)) (dr_val (de_var (pv 4)) (dr_nil))))))))
    (dss_cons (ds_app (pv 1) (de_lam (k := 10) (h_q_word.mono (by decide)) (hr.mono (by decide)) (by rfl) (T.lamT _ (by decide) _ _ htab) hcd (by decide) htab rfl T.lamA (LamX.lamS_by (by rfl)) rfl (fun _ _ _ _ _ => rfl) (by intro A outer s s2 H E f d hr tk; have hu := hr.units; have hu0 := hr.units0; have hu1 := hu_of hr.room; have hu2 := in1u hr; exact (dx_de (dx_has h_polynomial_product hr (by decide) tk (by rfl) (dr_val (de_var (pv 4)) (dr_val (de_bin (op_add.or (op_cat.or op_catA)) (ops_or ops_i0 (ops_or ops_catL ops_catT)) (do_var (pv 4)) (do_val (de_tup (dv_cons (de_int) (dv_nil))))) (dr_nil))))))))
    (dss_cons (ds_app (pv 1) (de_lam (k := 10) (h_q_word.mono (by decide)) (hr.mono (by decide)) (by rfl) (T.lamT _ (by decide) _ _ htab) hcd (by decide) htab rfl T.lamA (LamX.lamS_by (by rfl)) rfl (fun _ _ _ _ _ => rfl) (by intro A outer s s2 H E f d hr tk; have hu := hr.units; have hu0 := hr.units0; have hu1 := hu_of hr.room; have hu2 := in1u hr; exact (dx_de (dx_has h_polynomial_quotient hr (by decide) tk (by rfl) (dr_val (de_var (pv 6)) (dr_val (de_tup (dv_cons (de_int) (dv_nil))) (dr_nil))))))))
    (dss_cons (ds_app (pv 1) (de_lam (k := 10) (h_q_word.mono (by decide)) (hr.mono (by decide)) (by rfl) (T.lamT _ (by decide) _ _ htab) hcd (by decide) htab rfl T.lamA (LamX.lamS_by (by rfl)) rfl (fun _ _ _ _ _ => rfl) (by intro A outer s s2 H E f d hr tk; have hu := hr.units; have hu0 := hr.units0; have hu1 := hu_of hr.room; have hu2 := in1u hr; exact (dx_de (dx_has h_polynomial_quotient hr (by decide) tk (by rfl) (dr_val (de_var (pv 5)) (dr_val (de_var (pv 6)) (dr_nil))))))))
    (dss_cons (ds_app (pv 1) (de_lam (k := 10) (h_q_word.mono (by decide)) (hr.mono (by decide)) (by rfl) (T.lamT _ (by decide) _ _ htab) hcd (by decide) htab rfl T.lamA (LamX.lamS_by (by rfl)) rfl (fun _ _ _ _ _ => rfl) (by intro A outer s s2 H E f d hr tk; have hu := hr.units; have hu0 := hr.units0; have hu1 := hu_of hr.room; have hu2 := in1u hr; exact (dx_de (dx_has h_polynomial_quotient hr (by decide) tk (by rfl) (dr_val (de_var (pv 5)) (dr_val (de_tup (dv_cons (de_int) (dv_nil))) (dr_nil))))))))
    (dss_cons (ds_app (pv 1) (de_lam (k := 10) (h_q_word.mono (by decide)) (hr.mono (by decide)) (by rfl) (T.lamT _ (by decide) _ _ htab) hcd (by decide) htab rfl T.lamA (LamX.lamS_by (by rfl)) rfl (fun _ _ _ _ _ => rfl) (by intro A outer s s2 H E f d hr tk; have hu := hr.units; have hu0 := hr.units0; have hu1 := hu_of hr.room; have hu2 := in1u hr; exact (dx_de (dx_has h_polynomial_value hr (by decide) tk (by rfl) (dr_val (de_var (pv 6)) (dr_val (de_var (pv 7)) (dr_nil))))))))
    (dss_cons (ds_app (pv 1) (de_lam (k := 10) (h_q_word.mono (by decide)) (hr.mono (by decide)) (by rfl) (T.lamT _ (by decide) _ _ htab) hcd (by decide) htab rfl T.lamA (LamX.lamS_by (by rfl)) rfl (fun _ _ _ _ _ => rfl) (by intro A outer s s2 H E f d hr tk; have hu := hr.units; have hu0 := hr.units0; have hu1 := hu_of hr.room; have hu2 := in1u hr; exact (dx_de (dx_has h_polynomial_value hr (by decide) tk (by rfl) (dr_val (de_var (pv 5)) (dr_val (de_var (pv 7)) (dr_nil))))))))
    (dss_cons (ds_app (pv 1) (de_lam (k := 10) (h_q_word.mono (by decide)) (hr.mono (by decide)) (by rfl) (T.lamT _ (by decide) _ _ htab) hcd (by decide) htab rfl T.lamA (LamX.lamS_by (by rfl)) rfl (fun _ _ _ _ _ => rfl) (by intro A outer s s2 H E f d hr tk; have hu := hr.units; have hu0 := hr.units0; have hu1 := hu_of hr.room; have hu2 := in1u hr; exact (dx_de (dx_has h_cyclotomic hr (by decide) tk (by rfl) (dr_val (de_var (pv 3)) (dr_nil)))))))
    (dss_cons (ds_app (pv 1) (de_lam (k := 10) (h_q_word.mono (by decide)) (hr.mono (by decide)) (by rfl) (T.lamT _ (by decide) _ _ htab) hcd (by decide) htab rfl T.lamA (LamX.lamS_by (by rfl)) rfl (fun _ _ _ _ _ => rfl) (by intro A outer s s2 H E f d hr tk; have hu := hr.units; have hu0 := hr.units0; have hu1 := hu_of hr.room; have hu2 := in1u hr; exact (dx_de (dx_has h_cyclotomic_parts hr (by decide) tk (by rfl) (dr_val (de_var (pv 6)) (dr_nil)))))))
    (dss_cons (ds_app (pv 1) (de_lam (k := 10) (h_q_word.mono (by decide)) (hr.mono (by decide)) (by rfl) (T.lamT _ (by decide) _ _ htab) hcd (by decide) htab rfl T.lamA (LamX.lamS_by (by rfl)) rfl (fun _ _ _ _ _ => rfl) (by intro A outer s s2 H E f d hr tk; have hu := hr.units; have hu0 := hr.units0; have hu1 := hu_of hr.room; have hu2 := in1u hr; exact (dx_de (dx_has h_cyclotomic hr (by decide) tk (by rfl) (dr_val (de_int) (dr_nil)))))))
    (dss_cons (ds_set (i := 2) S.nd rfl (.inl rfl) (de_bin (op_add.or (op_cat.or op_catA)) (ops_or ops_i0 (ops_or ops_catL ops_catT)) (do_val (de_bin (op_mulW.or (op_rep.or op_repT)) (ops_or (ops_ic mul_ok) (ops_or ops_repL ops_repT)) (do_val (de_fresh (df_lst (dv_cons (de_str) (dv_nil))))) (do_val (de_int)))) (do_val (de_fresh (df_lst (dv_cons (de_str) (dv_cons (de_str) (dv_cons (de_str) (dv_cons (de_str) (dv_cons (de_str) (dv_cons (de_str) (dv_cons (de_str) (dv_nil)))))))))))))
    (dss_one (ds_ret (de_cmp (((op_eqD hu).or (op_eqK hu2 hu0)).or (op_eqL hr.u80)) (ops_or (ops_or ops_eq1 ops_eqK) ops_eqL) (do_var (pv 1)) (do_val (de_bin (op_add.or (op_cat.or op_catA)) (ops_or ops_i0 (ops_or ops_catL ops_catT)) (do_var (pv 2)) (do_val (de_fresh (df_lst (dv_cons (de_bin ((op_add.or (op_cat.or op_catA)).or op_add_str) (ops_or (ops_or ops_i0 (ops_or ops_catL ops_catT)) ops_addS) (do_val (de_str)) (do_val (de_callB (call_rprW hr.gd hr.units) cas_rprW (by rfl) T.b_repr boot_repr (da_cons (do_var (pv 3)) (da_nil))))) (dv_cons (de_str) (dv_cons (de_str) (dv_nil))))))))) (nomark _))))))))))))))))))))))
theorem d_is_table_row (T : Txt P K mg base) (h_is_integer : Has P w K mg base "is_integer" 2 ["value"] F_is_integer) {f : Addr} {n : Nat} {cdv : Value} {A : Around} {outer : List Env} {s : Shared} {H : Hp} {E : XK} (hr : RoomG 2 (A.deeper (envOfC "is_table_row" (defScope s_is_table_row) s.heap.objs.size f cdv))) :
    DSs (cxOf (L2.CX P w) P w K mg base ["value", "item"] "is_table_row" (defScope s_is_table_row) f cdv A outer s H E) (fun cls d _ H => E cls d H) (defBody s_is_table_row) (B_is_table_row n) := by
  have S := sc_is_table_row
  have tk : Takes (cxOf (L2.CX P w) P w K mg base ["value", "item"] "is_table_row" (defScope s_is_table_row) f cdv A outer s H E) (fun cls d _ H => E cls d H) := takes_of rfl rfl rfl rfl
  have hu := hr.units
  have hu0 := hr.units0
  have hu1 := hu_of hr.room
  have hu2 := in1u hr
  exact dss_cons (ds_if (dt_bool (dw_or (dt_not (dt_val (de_isi (do_var (pv 0)) (pe_tyn (T := "tuple") (by rfl) T.b_tuple boot_tuple) (by rfl) T.b_isinstance boot_isinstance))) (dw_or1 (dt_not (dt_chain op_le op_le ops_b0 ops_b0 (do_val (de_int)) (do_val (de_callB call_len_seq cas_len (by rfl) T.b_len PySem.boot_len (da_cons (do_var (pv 0)) (da_nil)))) (do_val (de_gint (by rfl) T.c_MAX_SIZE.choose_spec))))))) (dss_one (ds_ret (de_bl))) (dss_nil))
    (dss_one (ds_ret (de_callB (cr_all rfl) cas_all (by rfl) T.b_all boot_all (da_cons (do_val (de_fresh (df_lc (own := [("item", 1)]) rfl S.nd (di_seq (de_var (pv 0))) (blkOk_by (by rfl)) rfl (by intro _ _ _ _ _; exact dg_name (i := 1) (pg_name (i := 1) S.nd rfl (by first | exact .inl rfl | exact .inr rfl))) (by intro _ _ _ _ _; exact dts_nil) (by intro _ _ _ _ _; exact dx_de (dx_hasN h_is_integer hr (by decide) (by rfl) (dr_val (de_var (pv 1)) (dr_nil))))))) (da_nil)))))
theorem d_is_table (T : Txt P K mg base) (h_is_table_row : Has P w K mg base "is_table_row" 3 ["value"] F_is_table_row) {f : Addr} {n : Nat} {cdv : Value} {A : Around} {outer : List Env} {s : Shared} {H : Hp} {E : XK} (hr : RoomG 3 (A.deeper (envOfC "is_table" (defScope s_is_table) s.heap.objs.size f cdv))) :
    DSs (cxOf (L2.CX P w) P w K mg base ["value", "line"] "is_table" (defScope s_is_table) f cdv A outer s H E) (fun cls d _ H => E cls d H) (defBody s_is_table) (B_is_table n) := by
  have S := sc_is_table
  have tk : Takes (cxOf (L2.CX P w) P w K mg base ["value", "line"] "is_table" (defScope s_is_table) f cdv A outer s H E) (fun cls d _ H => E cls d H) := takes_of rfl rfl rfl rfl
  have hu := hr.units
  have hu0 := hr.units0
  have hu1 := hu_of hr.room
  have hu2 := in1u hr
  exact dss_cons (ds_if (dt_bool (dw_or (dt_not (dt_val (de_isi (do_var (pv 0)) (pe_tyn (T := "tuple") (by rfl) T.b_tuple boot_tuple) (by rfl) T.b_isinstance boot_isinstance))) (dw_or1 (dt_not (dt_chain op_le op_le ops_b0 ops_b0 (do_val (de_int)) (do_val (de_callB call_len_seq cas_len (by rfl) T.b_len PySem.boot_len (da_cons (do_var (pv 0)) (da_nil)))) (do_val (de_gint (by rfl) T.c_MAX_SIZE.choose_spec))))))) (dss_one (ds_ret (de_bl))) (dss_nil))
    (dss_cons (ds_if (dt_not (dt_val (de_callB (cr_all rfl) cas_all (by rfl) T.b_all boot_all (da_cons (do_val (de_fresh (df_lc (own := [("line", 1)]) rfl S.nd (di_seq (de_var (pv 0))) (blkOk_by (by rfl)) rfl (by intro _ _ _ _ _; exact dg_name (i := 1) (pg_name (i := 1) S.nd rfl (by first | exact .inl rfl | exact .inr rfl))) (by intro _ _ _ _ _; exact dts_nil) (by intro _ _ _ _ _; exact dx_de (dx_hasN h_is_table_row hr (by decide) (by rfl) (dr_val (de_var (pv 1)) (dr_nil))))))) (da_nil))))) (dss_one (ds_ret (de_bl))) (dss_nil))
    (dss_one (ds_ret (de_callB (cr_all rfl) cas_all (by rfl) T.b_all boot_all (da_cons (do_val (de_fresh (df_lc (own := [("line", 1)]) rfl S.nd (di_seq (de_var (pv 0))) (blkOk_by (by rfl)) rfl (by intro _ _ _ _ _; exact dg_name (i := 1) (pg_name (i := 1) S.nd rfl (by first | exact .inl rfl | exact .inr rfl))) (by intro _ _ _ _ _; exact dts_nil) (by intro _ _ _ _ _; exact de_cmp (((op_eqD hu).or (op_eqK hu2 hu0)).or (op_eqL hr.u80)) (ops_or (ops_or ops_eq1 ops_eqK) ops_eqL) (do_val (de_callB call_len_seq cas_len (by rfl) T.b_len PySem.boot_len (da_cons (do_var (pv 1)) (da_nil)))) (do_val (de_callB call_len_seq cas_len (by rfl) T.b_len PySem.boot_len (da_cons (do_val (de_ix (do_var (pv 0)) (do_val (de_int)))) (da_nil)))) (nomark _))))) (da_nil))))))
theorem d_check_table (T : Txt P K mg base) (h_is_table : Has P w K mg base "is_table" 4 ["value"] F_is_table) {f : Addr} {n : Nat} {cdv : Value} {A : Around} {outer : List Env} {s : Shared} {H : Hp} {E : XK} (hr : RoomG 4 (A.deeper (envOfC "check_table" (defScope s_check_table) s.heap.objs.size f cdv))) :
    DSs (cxOf (L2.CX P w) P w K mg base ["table"] "check_table" (defScope s_check_table) f cdv A outer s H E) (fun cls d _ H => E cls d H) (defBody s_check_table) (B_check_table n) := by
  have S := sc_check_table
  have tk : Takes (cxOf (L2.CX P w) P w K mg base ["table"] "check_table" (defScope s_check_table) f cdv A outer s H E) (fun cls d _ H => E cls d H) := takes_of rfl rfl rfl rfl
  have hu := hr.units
  have hu0 := hr.units0
  have hu1 := hu_of hr.room
  have hu2 := in1u hr
  exact dss_one (ds_if (dt_not (dt_val (dx_de (dx_has h_is_table hr (by decide) tk (by rfl) (dr_val (de_var (pv 0)) (dr_nil)))))) (dss_one (ds_raise T.e_InvalidTable rfl tk (by rfl))) (dss_nil))
theorem d_exchanged_table (T : Txt P K mg base)  {f : Addr} {n : Nat} {cdv : Value} {A : Around} {outer : List Env} {s : Shared} {H : Hp} {E : XK} (hr : RoomG 0 (A.deeper (envOfC "exchanged_table" (defScope s_exchanged_table) s.heap.objs.size f cdv))) :
    DSs (cxOf (L2.CX P w) P w K mg base ["table", "column", "line"] "exchanged_table" (defScope s_exchanged_table) f cdv A outer s H E) (fun cls d _ H => E cls d H) (defBody s_exchanged_table) (B_exchanged_table n) := by
  have S := sc_exchanged_table
  have tk : Takes (cxOf (L2.CX P w) P w K mg base ["table", "column", "line"] "exchanged_table" (defScope s_exchanged_table) f cdv A outer s H E) (fun cls d _ H => E cls d H) := takes_of rfl rfl rfl rfl
  have hu := hr.units
  have hu0 := hr.units0
  have hu1 := hu_of hr.room
  have hu2 := in1u hr
  exact dss_one (ds_ret (de_callTy call_tuple_of cas_tup (by rfl) T.b_tuple boot_tuple (da_cons (do_val (de_fresh (df_lc (own := [("column", 1)]) rfl S.nd (di_rng1 (by rfl) T.b_range (dv_cons (de_callB call_len_seq cas_len (by rfl) T.b_len PySem.boot_len (da_cons (do_val (de_ix (do_var (pv 0)) (do_val (de_int)))) (da_nil))) (dv_nil))) (blkOk_by (by rfl)) rfl (by intro _ _ _ _ _; exact dg_name (i := 1) (pg_name (i := 1) S.nd rfl (by first | exact .inl rfl | exact .inr rfl))) (by intro _ _ _ _ _; exact dts_nil) (by intro _ _ _ _ _; exact de_callTy call_tuple_of cas_tup (by rfl) T.b_tuple boot_tuple (da_cons (do_val (de_fresh (df_lc (own := [("line", 2)]) rfl S.nd (di_seq (de_var (pv 0))) (blkOk_by (by rfl)) rfl (by intro _ _ _ _ _; exact dg_name (i := 2) (pg_name (i := 2) S.nd rfl (by first | exact .inl rfl | exact .inr rfl))) (by intro _ _ _ _ _; exact dts_nil) (by intro _ _ _ _ _; exact de_ix (do_var (pv 2)) (do_var (pv 1)))))) (da_nil)))))) (da_nil))))
theorem d_turned_over (T : Txt P K mg base) (h_check_table : Has P w K mg base "check_table" 5 ["table"] F_check_table) (h_exchanged_table : Has P w K mg base "exchanged_table" 1 ["table"] F_exchanged_table) {f : Addr} {n : Nat} {cdv : Value} {A : Around} {outer : List Env} {s : Shared} {H : Hp} {E : XK} (hr : RoomG 5 (A.deeper (envOfC "turned_over" (defScope s_turned_over) s.heap.objs.size f cdv))) :
    DSs (cxOf (L2.CX P w) P w K mg base ["table"] "turned_over" (defScope s_turned_over) f cdv A outer s H E) (fun cls d _ H => E cls d H) (defBody s_turned_over) (B_turned_over n) := by
  have S := sc_turned_over
  have tk : Takes (cxOf (L2.CX P w) P w K mg base ["table"] "turned_over" (defScope s_turned_over) f cdv A outer s H E) (fun cls d _ H => E cls d H) := takes_of rfl rfl rfl rfl
  have hu := hr.units
  have hu0 := hr.units0
  have hu1 := hu_of hr.room
  have hu2 := in1u hr
  exact dss_cons (ds_expr (dx_de (dx_has h_check_table hr (by decide) tk (by rfl) (dr_val (de_var (pv 0)) (dr_nil)))))
    (dss_one (ds_ret (dx_de (dx_has h_exchanged_table hr (by decide) tk (by rfl) (dr_val (de_var (pv 0)) (dr_nil))))))
theorem d_divisor_of_all (T : Txt P K mg base)  {f : Addr} {n : Nat} {cdv : Value} {A : Around} {outer : List Env} {s : Shared} {H : Hp} {E : XK} (hr : RoomG 0 (A.deeper (envOfC "divisor_of_all" (defScope s_divisor_of_all) s.heap.objs.size f cdv))) :
    DSs (cxOf (L2.CX P w) P w K mg base ["numbers", "divisor", "number"] "divisor_of_all" (defScope s_divisor_of_all) f cdv A outer s H E) (fun cls d _ H => E cls d H) (defBody s_divisor_of_all) (B_divisor_of_all n) := by
  have S := sc_divisor_of_all
  have tk : Takes (cxOf (L2.CX P w) P w K mg base ["numbers", "divisor", "number"] "divisor_of_all" (defScope s_divisor_of_all) f cdv A outer s H E) (fun cls d _ H => E cls d H) := takes_of rfl rfl rfl rfl
  have hu := hr.units
  have hu0 := hr.units0
  have hu1 := hu_of hr.room
  have hu2 := in1u hr
  exact dss_cons (ds_set (i := 1) S.nd rfl (.inl rfl) (de_int))
    (dss_cons (ds_for (passes_of rfl) rfl (di_seq (de_var (pv 0))) (dg_name (i := 2) (pg_name (i := 2) S.nd rfl (.inl rfl))) (dss_one (ds_set (i := 1) S.nd rfl (.inl rfl) (de_callM cr_gcd cas_gcd (by rfl) T.m_gcd (da_cons (do_var (pv 1)) (da_cons (do_var (pv 2)) (da_nil)))))))
    (dss_one (ds_retV (pv 1))))
theorem d_lead_of (T : Txt P K mg base)  {f : Addr} {n : Nat} {cdv : Value} {A : Around} {outer : List Env} {s : Shared} {H : Hp} {E : XK} (hr : RoomG 0 (A.deeper (envOfC "lead_of" (defScope s_lead_of) s.heap.objs.size f cdv))) :
    DSs (cxOf (L2.CX P w) P w K mg base ["line", "index"] "lead_of" (defScope s_lead_of) f cdv A outer s H E) (fun cls d _ H => E cls d H) (defBody s_lead_of) (B_lead_of n) := by
  have S := sc_lead_of
  have tk : Takes (cxOf (L2.CX P w) P w K mg base ["line", "index"] "lead_of" (defScope s_lead_of) f cdv A outer s H E) (fun cls d _ H => E cls d H) := takes_of rfl rfl rfl rfl
  have hu := hr.units
  have hu0 := hr.units0
  have hu1 := hu_of hr.room
  have hu2 := in1u hr
  exact dss_cons (ds_set (i := 1) S.nd rfl (.inl rfl) (de_int))
    (dss_cons (ds_while n (passes_of rfl) (dt_cmp (((op_eqD hu).or (op_eqK hu2 hu0)).or (op_eqL hr.u80)) (ops_or (ops_or ops_eq1 ops_eqK) ops_eqL) (do_val (de_ix (do_var (pv 0)) (do_var (pv 1)))) (do_val (de_int)) (nomark _)) (dss_one (ds_set (i := 1) S.nd rfl (.inl rfl) (de_bin (op_add.or (op_cat.or op_catA)) (ops_or ops_i0 (ops_or ops_catL ops_catT)) (do_var (pv 1)) (do_val (de_int))))))
    (dss_one (ds_retV (pv 1))))
theorem d_simplest (T : Txt P K mg base) (h_divisor_of_all : Has P w K mg base "divisor_of_all" 1 ["numbers"] F_divisor_of_all) (h_lead_of : Has P w K mg base "lead_of" 1 ["line"] F_lead_of) {f : Addr} {n : Nat} {cdv : Value} {A : Around} {outer : List Env} {s : Shared} {H : Hp} {E : XK} (hr : RoomG 1 (A.deeper (envOfC "simplest" (defScope s_simplest) s.heap.objs.size f cdv))) :
    DSs (cxOf (L2.CX P w) P w K mg base ["line", "divisor", "item"] "simplest" (defScope s_simplest) f cdv A outer s H E) (fun cls d _ H => E cls d H) (defBody s_simplest) (B_simplest n) := by
  have S := sc_simplest
  have tk : Takes (cxOf (L2.CX P w) P w K mg base ["line", "divisor", "item"] "simplest" (defScope s_simplest) f cdv A outer s H E) (fun cls d _ H => E cls d H) := takes_of rfl rfl rfl rfl
  have hu := hr.units
  have hu0 := hr.units0
  have hu1 := hu_of hr.room
  have hu2 := in1u hr
  exact dss_cons (ds_set (i := 1) S.nd rfl (.inr rfl) (dx_de (dx_has h_divisor_of_all hr (by decide) tk (by rfl) (dr_val (de_var (pv 0)) (dr_nil)))))
    (dss_cons (ds_if (dt_cmp (((op_eqD hu).or (op_eqK hu2 hu0)).or (op_eqL hr.u80)) (ops_or (ops_or ops_eq1 ops_eqK) ops_eqL) (do_var (pv 1)) (do_val (de_int)) (nomark _)) (dss_one (ds_retV (pv 0))) (dss_nil))
    (dss_cons (ds_if (dt_cmp op_lt ops_b0 (do_val (de_ix (do_var (pv 0)) (do_val (dx_de (dx_has h_lead_of hr (by decide) tk (by rfl) (dr_val (de_var (pv 0)) (dr_nil))))))) (do_val (de_int)) (nomark _)) (dss_one (ds_set (i := 1) S.nd rfl (.inr rfl) (de_un un_neg uns_neg (do_var (pv 1))))) (dss_nil))
    (dss_one (ds_retF (df_lc (own := [("item", 2)]) rfl S.nd (di_seq (de_var (pv 0))) (blkOk_by (by rfl)) rfl (by intro _ _ _ _ _; exact dg_name (i := 2) (pg_name (i := 2) S.nd rfl (by first | exact .inl rfl | exact .inr rfl))) (by intro _ _ _ _ _; exact dts_nil) (by intro _ _ _ _ _; exact de_bin op_fdivG (ops_ic fun _ _ h => cDiv_ok h) (do_var (pv 2)) (do_var (pv 1))))))))
theorem d_cleared (T : Txt P K mg base) (h_simplest : Has P w K mg base "simplest" 2 ["line"] F_simplest) {f : Addr} {n : Nat} {cdv : Value} {A : Around} {outer : List Env} {s : Shared} {H : Hp} {E : XK} (hr : RoomG 2 (A.deeper (envOfC "cleared" (defScope s_cleared) s.heap.objs.size f cdv))) :
    DSs (cxOf (L2.CX P w) P w K mg base ["line", "pivot", "index", "item", "factor"] "cleared" (defScope s_cleared) f cdv A outer s H E) (fun cls d _ H => E cls d H) (defBody s_cleared) (B_cleared n) := by
  have S := sc_cleared
  have tk : Takes (cxOf (L2.CX P w) P w K mg base ["line", "pivot", "index", "item", "factor"] "cleared" (defScope s_cleared) f cdv A outer s H E) (fun cls d _ H => E cls d H) := takes_of rfl rfl rfl rfl
  have hu := hr.units
  have hu0 := hr.units0
  have hu1 := hu_of hr.room
  have hu2 := in1u hr
  exact dss_cons (ds_if (dt_cmp (((op_eqD hu).or (op_eqK hu2 hu0)).or (op_eqL hr.u80)) (ops_or (ops_or ops_eq1 ops_eqK) ops_eqL) (do_val (de_ix (do_var (pv 0)) (do_var (pv 2)))) (do_val (de_int)) (nomark _)) (dss_one (ds_retV (pv 0))) (dss_nil))
    (dss_one (ds_ret (dx_de (dx_has h_simplest hr (by decide) tk (by rfl) (dr_val (de_fresh (df_lc (own := [("item", 3), ("factor", 4)]) rfl S.nd (di_zip (by rfl) T.b_zip (dv_cons (de_var (pv 0)) (dv_cons (de_var (pv 1)) (dv_nil)))) (blkOk_by (by rfl)) rfl (by intro _ _ _ _ _; exact dg_tup rfl (dgs_cons (dg_name (i := 3) (pg_name (i := 3) S.nd rfl (by first | exact .inl rfl | exact .inr rfl))) (dgs_cons (dg_name (i := 4) (pg_name (i := 4) S.nd rfl (by first | exact .inl rfl | exact .inr rfl))) (dgs_nil)))) (by intro _ _ _ _ _; exact dts_nil) (by intro _ _ _ _ _; exact de_bin op_sub ops_i0 (do_val (de_bin (op_mulW.or (op_rep.or op_repT)) (ops_or (ops_ic mul_ok) (ops_or ops_repL ops_repT)) (do_var (pv 3)) (do_val (de_ix (do_var (pv 1)) (do_var (pv 2)))))) (do_val (de_bin (op_mulW.or (op_rep.or op_repT)) (ops_or (ops_ic mul_ok) (ops_or ops_repL ops_repT)) (do_var (pv 4)) (do_val (de_ix (do_var (pv 0)) (do_var (pv 2))))))))) (dr_nil))))))
theorem d_echelon (T : Txt P K mg base) (h_simplest : Has P w K mg base "simplest" 2 ["line"] F_simplest) (h_cleared : Has P w K mg base "cleared" 3 ["line", "pivot", "index"] F_cleared) {f : Addr} {n : Nat} {cdv : Value} {A : Around} {outer : List Env} {s : Shared} {H : Hp} {E : XK} (hr : RoomG 3 (A.deeper (envOfC "echelon" (defScope s_echelon) s.heap.objs.size f cdv))) :
    DSs (cxOf (L2.CX P w) P w K mg base ["table", "done", "line", "left", "index", "found", "pivot"] "echelon" (defScope s_echelon) f cdv A outer s H E) (fun cls d _ H => E cls d H) (defBody s_echelon) (B_echelon n) := by
  have S := sc_echelon
  have tk : Takes (cxOf (L2.CX P w) P w K mg base ["table", "done", "line", "left", "index", "found", "pivot"] "echelon" (defScope s_echelon) f cdv A outer s H E) (fun cls d _ H => E cls d H) := takes_of rfl rfl rfl rfl
  have hu := hr.units
  have hu0 := hr.units0
  have hu1 := hu_of hr.room
  have hu2 := in1u hr
  exact dss_cons (ds_set (i := 1) S.nd rfl (.inl rfl) (de_fresh (df_lst (dv_nil))))
    (dss_cons (ds_setLc (i := 3) (own := [("line", 2)]) rfl S.nd rfl rfl rfl (di_seq (de_var (pv 0))) (blkOk_by (by rfl)) rfl (by intro _ _ _ _ _; exact dg_name (i := 2) (pg_name (i := 2) S.nd rfl (by first | exact .inl rfl | exact .inr rfl))) (by intro _ _ _ _ _; exact dts_nil) (by intro _ _ _ _ _; exact de_fresh (df_list (by rfl) T.b_list (do_var (pv 2)))))
    (dss_cons (ds_for (passes_of rfl) rfl (di_rng1 (by rfl) T.b_range (dv_cons (de_ifExp (dt_truth (do_var (pv 3))) (de_callB call_len_seq cas_len (by rfl) T.b_len PySem.boot_len (da_cons (do_val (de_ix (do_var (pv 3)) (do_val (de_int)))) (da_nil))) (de_int)) (dv_nil))) (dg_name (i := 4) (pg_name (i := 4) S.nd rfl (.inr rfl))) (dss_cons (ds_setLc (i := 5) (own := [("line", 2)]) rfl S.nd rfl rfl rfl (di_seq (de_var (pv 3))) (blkOk_by (by rfl)) rfl (by intro _ _ _ _ _; exact dg_name (i := 2) (pg_name (i := 2) S.nd rfl (by first | exact .inl rfl | exact .inr rfl))) (by intro _ _ _ _ _; exact dts_one (dt_cmp (((op_neD hu).or (op_neK hu2 hu0)).or (op_neL hr.u80)) (ops_or (ops_or ops_ne1 ops_neK) ops_neL) (do_val (de_ix (do_var (pv 2)) (do_var (pv 4)))) (do_val (de_int)) (nomark _))) (by intro _ _ _ _ _; exact de_var (pv 2)))
    (dss_one (ds_if (dt_truth (do_var (pv 5))) (dss_cons (ds_set (i := 6) S.nd rfl (.inr rfl) (dx_de (dx_has h_simplest hr (by decide) tk (by rfl) (dr_val (de_ix (do_var (pv 5)) (do_val (de_int))) (dr_nil)))))
    (dss_cons (ds_setLc (i := 3) (own := [("line", 2)]) rfl S.nd rfl rfl rfl (di_seq (de_var (pv 3))) (blkOk_by (by rfl)) rfl (by intro _ _ _ _ _; exact dg_name (i := 2) (pg_name (i := 2) S.nd rfl (by first | exact .inl rfl | exact .inr rfl))) (by intro _ _ _ _ _; exact dts_nil) (by intro _ _ _ _ _; exact dx_de (dx_hasN h_cleared hr (by decide) (by rfl) (dr_val (de_var (pv 2)) (dr_val (de_var (pv 6)) (dr_val (de_var (pv 4)) (dr_nil)))))))
    (dss_one (ds_set (i := 1) S.nd rfl (.inl rfl) (de_bin (op_add.or (op_cat.or op_catA)) (ops_or ops_i0 (ops_or ops_catL ops_catT)) (do_val (de_fresh (df_lc (own := [("line", 2)]) rfl S.nd (di_seq (de_var (pv 1))) (blkOk_by (by rfl)) rfl (by intro _ _ _ _ _; exact dg_name (i := 2) (pg_name (i := 2) S.nd rfl (by first | exact .inl rfl | exact .inr rfl))) (by intro _ _ _ _ _; exact dts_nil) (by intro _ _ _ _ _; exact dx_de (dx_hasN h_cleared hr (by decide) (by rfl) (dr_val (de_var (pv 2)) (dr_val (de_var (pv 6)) (dr_val (de_var (pv 4)) (dr_nil))))))))) (do_val (de_fresh (df_lst (dv_cons (de_var (pv 6)) (dv_nil)))))))))) (dss_nil)))))
    (dss_one (ds_ret (de_callTy call_tuple_of cas_tup (by rfl) T.b_tuple boot_tuple (da_cons (do_val (de_fresh (df_lc (own := [("line", 2)]) rfl S.nd (di_seq (de_var (pv 1))) (blkOk_by (by rfl)) rfl (by intro _ _ _ _ _; exact dg_name (i := 2) (pg_name (i := 2) S.nd rfl (by first | exact .inl rfl | exact .inr rfl))) (by intro _ _ _ _ _; exact dts_nil) (by intro _ _ _ _ _; exact de_callTy call_tuple_of cas_tup (by rfl) T.b_tuple boot_tuple (da_cons (do_var (pv 2)) (da_nil)))))) (da_nil)))))))
theorem d_kernel_row (T : Txt P K mg base)  {f : Addr} {n : Nat} {cdv : Value} {A : Around} {outer : List Env} {s : Shared} {H : Hp} {E : XK} (hr : RoomG 0 (A.deeper (envOfC "kernel_row" (defScope s_kernel_row) s.heap.objs.size f cdv))) :
    DSs (cxOf (L2.CX P w) P w K mg base ["lines", "leads", "free", "width", "multiple", "line", "lead", "made"] "kernel_row" (defScope s_kernel_row) f cdv A outer s H E) (fun cls d _ H => E cls d H) (defBody s_kernel_row) (B_kernel_row n) := by
  have S := sc_kernel_row
  have tk : Takes (cxOf (L2.CX P w) P w K mg base ["lines", "leads", "free", "width", "multiple", "line", "lead", "made"] "kernel_row" (defScope s_kernel_row) f cdv A outer s H E) (fun cls d _ H => E cls d H) := takes_of rfl rfl rfl rfl
  have hu := hr.units
  have hu0 := hr.units0
  have hu1 := hu_of hr.room
  have hu2 := in1u hr
  exact dss_cons (ds_set (i := 4) S.nd rfl (.inl rfl) (de_int))
    (dss_cons (ds_for (passes_of rfl) rfl (di_zipM (by rfl) T.b_zip (dv_cons (de_var (pv 0)) (dv_cons (de_var (pv 1)) (dv_nil)))) (dg_tup rfl (dgs_cons (dg_name (i := 5) (pg_name (i := 5) S.nd rfl (.inl rfl))) (dgs_cons (dg_name (i := 6) (pg_name (i := 6) S.nd rfl (.inl rfl))) (dgs_nil)))) (dss_one (ds_set (i := 4) S.nd rfl (.inl rfl) (de_callM call_lcm cas_lcm (by rfl) T.m_lcm (da_cons (do_var (pv 4)) (da_cons (do_val (de_ix (do_var (pv 5)) (do_var (pv 6)))) (da_nil)))))))
    (dss_cons (ds_setF (i := 7) S.nd rfl (.inl rfl) (df_op op_rep opf_rep repL_lst (do_val (de_fresh (df_lst (dv_cons (de_int) (dv_nil))))) (do_var (pv 3))))
    (dss_cons (ds_seti (pv 7) (de_var (pv 2)) (de_var (pv 4)))
    (dss_cons (ds_for (passes_of rfl) rfl (di_zipM (by rfl) T.b_zip (dv_cons (de_var (pv 0)) (dv_cons (de_var (pv 1)) (dv_nil)))) (dg_tup rfl (dgs_cons (dg_name (i := 5) (pg_name (i := 5) S.nd rfl (.inl rfl))) (dgs_cons (dg_name (i := 6) (pg_name (i := 6) S.nd rfl (.inl rfl))) (dgs_nil)))) (dss_one (ds_seti (pv 7) (de_var (pv 6)) (de_bin op_fdivG (ops_ic fun _ _ h => cDiv_ok h) (do_val (de_bin (op_mulW.or (op_rep.or op_repT)) (ops_or (ops_ic mul_ok) (ops_or ops_repL ops_repT)) (do_val (de_un un_neg uns_neg (do_val (de_ix (do_var (pv 5)) (do_var (pv 2)))))) (do_var (pv 4)))) (do_val (de_ix (do_var (pv 5)) (do_var (pv 6))))))))
    (dss_one (ds_retV (pv 7)))))))
theorem d_kernel_of (T : Txt P K mg base) (h_echelon : Has P w K mg base "echelon" 4 ["table"] F_echelon) (h_lead_of : Has P w K mg base "lead_of" 1 ["line"] F_lead_of) (h_kernel_row : Has P w K mg base "kernel_row" 1 ["lines", "leads", "free", "width"] F_kernel_row) {f : Addr} {n : Nat} {cdv : Value} {A : Around} {outer : List Env} {s : Shared} {H : Hp} {E : XK} (hr : RoomG 4 (A.deeper (envOfC "kernel_of" (defScope s_kernel_of) s.heap.objs.size f cdv))) :
    DSs (cxOf (L2.CX P w) P w K mg base ["table", "width", "lines", "line", "leads", "index"] "kernel_of" (defScope s_kernel_of) f cdv A outer s H E) (fun cls d _ H => E cls d H) (defBody s_kernel_of) (B_kernel_of n) := by
  have S := sc_kernel_of
  have tk : Takes (cxOf (L2.CX P w) P w K mg base ["table", "width", "lines", "line", "leads", "index"] "kernel_of" (defScope s_kernel_of) f cdv A outer s H E) (fun cls d _ H => E cls d H) := takes_of rfl rfl rfl rfl
  have hu := hr.units
  have hu0 := hr.units0
  have hu1 := hu_of hr.room
  have hu2 := in1u hr
  exact dss_cons (ds_set (i := 2) S.nd rfl (.inr rfl) (dx_de (dx_has h_echelon hr (by decide) tk (by rfl) (dr_val (de_var (pv 0)) (dr_nil)))))
    (dss_cons (ds_set (i := 4) S.nd rfl (.inr rfl) (de_fresh (df_lc (own := [("line", 3)]) rfl S.nd (di_seq (de_var (pv 2))) (blkOk_by (by rfl)) rfl (by intro _ _ _ _ _; exact dg_name (i := 3) (pg_name (i := 3) S.nd rfl (by first | exact .inl rfl | exact .inr rfl))) (by intro _ _ _ _ _; exact dts_nil) (by intro _ _ _ _ _; exact dx_de (dx_hasN h_lead_of hr (by decide) (by rfl) (dr_val (de_var (pv 3)) (dr_nil)))))))
    (dss_one (ds_ret (dx_de (dx_has h_echelon hr (by decide) tk (by rfl) (dr_val (de_fresh (df_lc (own := [("index", 5)]) rfl S.nd (di_rng1 (by rfl) T.b_range (dv_cons (de_var (pv 1)) (dv_nil))) (blkOk_by (by rfl)) rfl (by intro _ _ _ _ _; exact dg_name (i := 5) (pg_name (i := 5) S.nd rfl (by first | exact .inl rfl | exact .inr rfl))) (by intro _ _ _ _ _; exact dts_one (dt_cmp op_notIn_seq ops_ninS (do_var (pv 5)) (do_var (pv 4)) (by with_unfolding_all rfl))) (by intro _ _ _ _ _; exact dx_de (dx_hasN h_kernel_row hr (by decide) (by rfl) (dr_val (de_var (pv 2)) (dr_val (de_var (pv 4)) (dr_val (de_var (pv 5)) (dr_val (de_var (pv 1)) (dr_nil))))))))) (dr_nil)))))))
theorem d_kernel (T : Txt P K mg base) (h_check_table : Has P w K mg base "check_table" 5 ["table"] F_check_table) (h_kernel_of : Has P w K mg base "kernel_of" 5 ["table", "width"] F_kernel_of) {f : Addr} {n : Nat} {cdv : Value} {A : Around} {outer : List Env} {s : Shared} {H : Hp} {E : XK} (hr : RoomG 5 (A.deeper (envOfC "kernel" (defScope s_kernel) s.heap.objs.size f cdv))) :
    DSs (cxOf (L2.CX P w) P w K mg base ["table"] "kernel" (defScope s_kernel) f cdv A outer s H E) (fun cls d _ H => E cls d H) (defBody s_kernel) (B_kernel n) := by
  have S := sc_kernel
  have tk : Takes (cxOf (L2.CX P w) P w K mg base ["table"] "kernel" (defScope s_kernel) f cdv A outer s H E) (fun cls d _ H => E cls d H) := takes_of rfl rfl rfl rfl
  have hu := hr.units
  have hu0 := hr.units0
  have hu1 := hu_of hr.room
  have hu2 := in1u hr
  exact dss_cons (ds_expr (dx_de (dx_has h_check_table hr (by decide) tk (by rfl) (dr_val (de_var (pv 0)) (dr_nil)))))
    (dss_one (ds_ret (dx_de (dx_has h_kernel_of hr (by decide) tk (by rfl) (dr_val (de_var (pv 0)) (dr_val (de_callB call_len_seq cas_len (by rfl) T.b_len PySem.boot_len (da_cons (do_val (de_ix (do_var (pv 0)) (do_val (de_int)))) (da_nil))) (dr_nil)))))))
theorem d_rank (T : Txt P K mg base) (h_check_table : Has P w K mg base "check_table" 5 ["table"] F_check_table) (h_kernel : Has P w K mg base "kernel" 6 ["table"] F_kernel) {f : Addr} {n : Nat} {cdv : Value} {A : Around} {outer : List Env} {s : Shared} {H : Hp} {E : XK} (hr : RoomG 6 (A.deeper (envOfC "rank" (defScope s_rank) s.heap.objs.size f cdv))) :
    DSs (cxOf (L2.CX P w) P w K mg base ["table"] "rank" (defScope s_rank) f cdv A outer s H E) (fun cls d _ H => E cls d H) (defBody s_rank) (B_rank n) := by
  have S := sc_rank
  have tk : Takes (cxOf (L2.CX P w) P w K mg base ["table"] "rank" (defScope s_rank) f cdv A outer s H E) (fun cls d _ H => E cls d H) := takes_of rfl rfl rfl rfl
  have hu := hr.units
  have hu0 := hr.units0
  have hu1 := hu_of hr.room
  have hu2 := in1u hr
  exact dss_cons (ds_expr (dx_de (dx_has h_check_table hr (by decide) tk (by rfl) (dr_val (de_var (pv 0)) (dr_nil)))))
    (dss_one (ds_ret (de_bin op_sub ops_i0 (do_val (de_callB call_len_seq cas_len (by rfl) T.b_len PySem.boot_len (da_cons (do_val (de_ix (do_var (pv 0)) (do_val (de_int)))) (da_nil)))) (do_val (de_callB call_len_seq cas_len (by rfl) T.b_len PySem.boot_len (da_cons (do_val (dx_de (dx_has h_kernel hr (by decide) tk (by rfl) (dr_val (de_var (pv 0)) (dr_nil))))) (da_nil)))))))
theorem d_check_square (T : Txt P K mg base)  {f : Addr} {n : Nat} {cdv : Value} {A : Around} {outer : List Env} {s : Shared} {H : Hp} {E : XK} (hr : RoomG 0 (A.deeper (envOfC "check_square" (defScope s_check_square) s.heap.objs.size f cdv))) :
    DSs (cxOf (L2.CX P w) P w K mg base ["table"] "check_square" (defScope s_check_square) f cdv A outer s H E) (fun cls d _ H => E cls d H) (defBody s_check_square) (B_check_square n) := by
  have S := sc_check_square
  have tk : Takes (cxOf (L2.CX P w) P w K mg base ["table"] "check_square" (defScope s_check_square) f cdv A outer s H E) (fun cls d _ H => E cls d H) := takes_of rfl rfl rfl rfl
  have hu := hr.units
  have hu0 := hr.units0
  have hu1 := hu_of hr.room
  have hu2 := in1u hr
  exact dss_one (ds_if (dt_cmp (((op_neD hu).or (op_neK hu2 hu0)).or (op_neL hr.u80)) (ops_or (ops_or ops_ne1 ops_neK) ops_neL) (do_val (de_callB call_len_seq cas_len (by rfl) T.b_len PySem.boot_len (da_cons (do_var (pv 0)) (da_nil)))) (do_val (de_callB call_len_seq cas_len (by rfl) T.b_len PySem.boot_len (da_cons (do_val (de_ix (do_var (pv 0)) (do_val (de_int)))) (da_nil)))) (nomark _)) (dss_one (ds_raise T.e_InvalidOperation rfl tk (by rfl))) (dss_nil))
theorem d_reduced_row (T : Txt P K mg base)  {f : Addr} {n : Nat} {cdv : Value} {A : Around} {outer : List Env} {s : Shared} {H : Hp} {E : XK} (hr : RoomG 0 (A.deeper (envOfC "reduced_row" (defScope s_reduced_row) s.heap.objs.size f cdv))) :
    DSs (cxOf (L2.CX P w) P w K mg base ["line", "pivot", "before", "k"] "reduced_row" (defScope s_reduced_row) f cdv A outer s H E) (fun cls d _ H => E cls d H) (defBody s_reduced_row) (B_reduced_row n) := by
  have S := sc_reduced_row
  have tk : Takes (cxOf (L2.CX P w) P w K mg base ["line", "pivot", "before", "k"] "reduced_row" (defScope s_reduced_row) f cdv A outer s H E) (fun cls d _ H => E cls d H) := takes_of rfl rfl rfl rfl
  have hu := hr.units
  have hu0 := hr.units0
  have hu1 := hu_of hr.room
  have hu2 := in1u hr
  exact dss_one (ds_retF (df_lc (own := [("k", 3)]) rfl S.nd (di_rng2 (by rfl) T.b_range (dv_cons (de_int) (dv_cons (de_callB call_len_seq cas_len (by rfl) T.b_len PySem.boot_len (da_cons (do_var (pv 0)) (da_nil))) (dv_nil)))) (blkOk_by (by rfl)) rfl (by intro _ _ _ _ _; exact dg_name (i := 3) (pg_name (i := 3) S.nd rfl (by first | exact .inl rfl | exact .inr rfl))) (by intro _ _ _ _ _; exact dts_nil) (by intro _ _ _ _ _; exact de_bin op_fdivG (ops_ic fun _ _ h => cDiv_ok h) (do_val (de_bin op_sub ops_i0 (do_val (de_bin (op_mulW.or (op_rep.or op_repT)) (ops_or (ops_ic mul_ok) (ops_or ops_repL ops_repT)) (do_val (de_ix (do_var (pv 1)) (do_val (de_int)))) (do_val (de_ix (do_var (pv 0)) (do_var (pv 3)))))) (do_val (de_bin (op_mulW.or (op_rep.or op_repT)) (ops_or (ops_ic mul_ok) (ops_or ops_repL ops_repT)) (do_val (de_ix (do_var (pv 0)) (do_val (de_int)))) (do_val (de_ix (do_var (pv 1)) (do_var (pv 3)))))))) (do_var (pv 2)))))
theorem d_determinant_of (T : Txt P K mg base) (h_reduced_row : Has P w K mg base "reduced_row" 1 ["line", "pivot", "before"] F_reduced_row) {f : Addr} {n : Nat} {cdv : Value} {A : Around} {outer : List Env} {s : Shared} {H : Hp} {E : XK} (hr : RoomG 1 (A.deeper (envOfC "determinant_of" (defScope s_determinant_of) s.heap.objs.size f cdv))) :
    DSs (cxOf (L2.CX P w) P w K mg base ["lines", "line", "left", "sign", "before", "place", "places", "pivot", "others"] "determinant_of" (defScope s_determinant_of) f cdv A outer s H E) (fun cls d _ H => E cls d H) (defBody s_determinant_of) (B_determinant_of n) := by
  have S := sc_determinant_of
  have tk : Takes (cxOf (L2.CX P w) P w K mg base ["lines", "line", "left", "sign", "before", "place", "places", "pivot", "others"] "determinant_of" (defScope s_determinant_of) f cdv A outer s H E) (fun cls d _ H => E cls d H) := takes_of rfl rfl rfl rfl
  have hu := hr.units
  have hu0 := hr.units0
  have hu1 := hu_of hr.room
  have hu2 := in1u hr
  exact dss_cons (ds_setLc (i := 2) (own := [("line", 1)]) rfl S.nd rfl rfl rfl (di_seq (de_var (pv 0))) (blkOk_by (by rfl)) rfl (by intro _ _ _ _ _; exact dg_name (i := 1) (pg_name (i := 1) S.nd rfl (by first | exact .inl rfl | exact .inr rfl))) (by intro _ _ _ _ _; exact dts_nil) (by intro _ _ _ _ _; exact de_fresh (df_list (by rfl) T.b_list (do_var (pv 1)))))
    (dss_cons (ds_set (i := 3) S.nd rfl (.inl rfl) (de_int))
    (dss_cons (ds_set (i := 4) S.nd rfl (.inr rfl) (de_int))
    (dss_cons (ds_while n (passes_of rfl) (dt_cmp op_gt ops_b0 (do_val (de_callB call_len_seq cas_len (by rfl) T.b_len PySem.boot_len (da_cons (do_var (pv 2)) (da_nil)))) (do_val (de_int)) (nomark _)) (dss_cons (ds_setLc (i := 6) (own := [("place", 5), ("line", 1)]) rfl S.nd rfl rfl rfl (di_enL (by rfl) T.b_enumerate (dv_cons (de_var (pv 2)) (dv_nil))) (blkOk_by (by rfl)) rfl (by intro _ _ _ _ _; exact dg_tup rfl (dgs_cons (dg_name (i := 5) (pg_name (i := 5) S.nd rfl (by first | exact .inl rfl | exact .inr rfl))) (dgs_cons (dg_name (i := 1) (pg_name (i := 1) S.nd rfl (by first | exact .inl rfl | exact .inr rfl))) (dgs_nil)))) (by intro _ _ _ _ _; exact dts_one (dt_cmp (((op_neD hu).or (op_neK hu2 hu0)).or (op_neL hr.u80)) (ops_or (ops_or ops_ne1 ops_neK) ops_neL) (do_val (de_ix (do_var (pv 1)) (do_val (de_int)))) (do_val (de_int)) (nomark _))) (by intro _ _ _ _ _; exact de_var (pv 5)))
    (dss_cons (ds_if (dt_not (dt_truth (do_var (pv 6)))) (dss_one (ds_ret (de_int))) (dss_nil))
    (dss_cons (ds_if (dt_cmp (((op_eqD hu).or (op_eqK hu2 hu0)).or (op_eqL hr.u80)) (ops_or (ops_or ops_eq1 ops_eqK) ops_eqL) (do_val (de_bin op_modN (ops_ic fun _ _ h => of_decide_eq_true h) (do_val (de_ix (do_var (pv 6)) (do_val (de_int)))) (do_val (de_int)))) (do_val (de_int)) (nomark _)) (dss_one (ds_set (i := 3) S.nd rfl (.inl rfl) (de_un un_neg uns_neg (do_var (pv 3))))) (dss_nil))
    (dss_cons (ds_set (i := 7) S.nd rfl (.inr rfl) (de_ix (do_var (pv 2)) (do_val (de_ix (do_var (pv 6)) (do_val (de_int))))))
    (dss_cons (ds_set (i := 8) S.nd rfl (.inl rfl) (de_bin (op_add.or (op_cat.or op_catA)) (ops_or ops_i0 (ops_or ops_catL ops_catT)) (do_val (de_sl (do_var (pv 2)) (dp_no) (dp_int (de_ix (do_var (pv 6)) (do_val (de_int)))))) (do_val (de_sl (do_var (pv 2)) (dp_int (de_bin (op_add.or (op_cat.or op_catA)) (ops_or ops_i0 (ops_or ops_catL ops_catT)) (do_val (de_ix (do_var (pv 6)) (do_val (de_int)))) (do_val (de_int)))) (dp_no)))))
    (dss_cons (ds_setLc (i := 2) (own := [("line", 1)]) rfl S.nd rfl rfl rfl (di_seq (de_var (pv 8))) (blkOk_by (by rfl)) rfl (by intro _ _ _ _ _; exact dg_name (i := 1) (pg_name (i := 1) S.nd rfl (by first | exact .inl rfl | exact .inr rfl))) (by intro _ _ _ _ _; exact dts_nil) (by intro _ _ _ _ _; exact dx_de (dx_hasN h_reduced_row hr (by decide) (by rfl) (dr_val (de_var (pv 1)) (dr_val (de_var (pv 7)) (dr_val (de_var (pv 4)) (dr_nil)))))))
    (dss_one (ds_set (i := 4) S.nd rfl (.inr rfl) (de_ix (do_var (pv 7)) (do_val (de_int))))))))))))
    (dss_one (ds_ret (de_bin (op_mulW.or (op_rep.or op_repT)) (ops_or (ops_ic mul_ok) (ops_or ops_repL ops_repT)) (do_var (pv 3)) (do_val (de_ix (do_val (de_ix (do_var (pv 2)) (do_val (de_int)))) (do_val (de_int))))))))))
theorem d_determinant (T : Txt P K mg base) (h_check_table : Has P w K mg base "check_table" 5 ["table"] F_check_table) (h_check_square : Has P w K mg base "check_square" 1 ["table"] F_check_square) (h_determinant_of : Has P w K mg base "determinant_of" 2 ["lines"] F_determinant_of) {f : Addr} {n : Nat} {cdv : Value} {A : Around} {outer : List Env} {s : Shared} {H : Hp} {E : XK} (hr : RoomG 5 (A.deeper (envOfC "determinant" (defScope s_determinant) s.heap.objs.size f cdv))) :
    DSs (cxOf (L2.CX P w) P w K mg base ["table"] "determinant" (defScope s_determinant) f cdv A outer s H E) (fun cls d _ H => E cls d H) (defBody s_determinant) (B_determinant n) := by
  have S := sc_determinant
  have tk : Takes (cxOf (L2.CX P w) P w K mg base ["table"] "determinant" (defScope s_determinant) f cdv A outer s H E) (fun cls d _ H => E cls d H) := takes_of rfl rfl rfl rfl
  have hu := hr.units
  have hu0 := hr.units0
  have hu1 := hu_of hr.room
  have hu2 := in1u hr
  exact dss_cons (ds_expr (dx_de (dx_has h_check_table hr (by decide) tk (by rfl) (dr_val (de_var (pv 0)) (dr_nil)))))
    (dss_cons (ds_expr (dx_de (dx_has h_check_square hr (by decide) tk (by rfl) (dr_val (de_var (pv 0)) (dr_nil)))))
    (dss_one (ds_ret (dx_de (dx_has h_determinant_of hr (by decide) tk (by rfl) (dr_val (de_var (pv 0)) (dr_nil)))))))
theorem d_minors (T : Txt P K mg base) (h_check_table : Has P w K mg base "check_table" 5 ["table"] F_check_table) (h_check_square : Has P w K mg base "check_square" 1 ["table"] F_check_square) (h_determinant_of : Has P w K mg base "determinant_of" 2 ["lines"] F_determinant_of) {f : Addr} {n : Nat} {cdv : Value} {A : Around} {outer : List Env} {s : Shared} {H : Hp} {E : XK} (hr : RoomG 5 (A.deeper (envOfC "minors" (defScope s_minors) s.heap.objs.size f cdv))) :
    DSs (cxOf (L2.CX P w) P w K mg base ["table", "size", "line"] "minors" (defScope s_minors) f cdv A outer s H E) (fun cls d _ H => E cls d H) (defBody s_minors) (B_minors n) := by
  have S := sc_minors
  have tk : Takes (cxOf (L2.CX P w) P w K mg base ["table", "size", "line"] "minors" (defScope s_minors) f cdv A outer s H E) (fun cls d _ H => E cls d H) := takes_of rfl rfl rfl rfl
  have hu := hr.units
  have hu0 := hr.units0
  have hu1 := hu_of hr.room
  have hu2 := in1u hr
  exact dss_cons (ds_expr (dx_de (dx_has h_check_table hr (by decide) tk (by rfl) (dr_val (de_var (pv 0)) (dr_nil)))))
    (dss_cons (ds_expr (dx_de (dx_has h_check_square hr (by decide) tk (by rfl) (dr_val (de_var (pv 0)) (dr_nil)))))
    (dss_one (ds_ret (de_callTy call_tuple_of cas_tup (by rfl) T.b_tuple boot_tuple (da_cons (do_val (de_fresh (df_lc (own := [("size", 1)]) rfl S.nd (di_rng2 (by rfl) T.b_range (dv_cons (de_int) (dv_cons (de_bin (op_add.or (op_cat.or op_catA)) (ops_or ops_i0 (ops_or ops_catL ops_catT)) (do_val (de_callB call_len_seq cas_len (by rfl) T.b_len PySem.boot_len (da_cons (do_var (pv 0)) (da_nil)))) (do_val (de_int))) (dv_nil)))) (blkOk_by (by rfl)) rfl (by intro _ _ _ _ _; exact dg_name (i := 1) (pg_name (i := 1) S.nd rfl (by first | exact .inl rfl | exact .inr rfl))) (by intro _ _ _ _ _; exact dts_nil) (by intro _ _ _ _ _; exact dx_de (dx_hasN h_determinant_of hr (by decide) (by rfl) (dr_val (de_fresh (df_lc (own := [("line", 2)]) rfl S.nd (di_seq (de_sl (do_var (pv 0)) (dp_no) (dp_int (de_var (pv 1))))) (blkOk_by (by rfl)) rfl (by intro _ _ _ _ _; exact dg_name (i := 2) (pg_name (i := 2) S.nd rfl (by first | exact .inl rfl | exact .inr rfl))) (by intro _ _ _ _ _; exact dts_nil) (by intro _ _ _ _ _; exact de_sl (do_var (pv 2)) (dp_no) (dp_int (de_var (pv 1)))))) (dr_nil))))))) (da_nil))))))
theorem d_is_symmetric (T : Txt P K mg base) (h_check_table : Has P w K mg base "check_table" 5 ["table"] F_check_table) (h_check_square : Has P w K mg base "check_square" 1 ["table"] F_check_square) (h_exchanged_table : Has P w K mg base "exchanged_table" 1 ["table"] F_exchanged_table) {f : Addr} {n : Nat} {cdv : Value} {A : Around} {outer : List Env} {s : Shared} {H : Hp} {E : XK} (hr : RoomG 5 (A.deeper (envOfC "is_symmetric" (defScope s_is_symmetric) s.heap.objs.size f cdv))) :
    DSs (cxOf (L2.CX P w) P w K mg base ["table"] "is_symmetric" (defScope s_is_symmetric) f cdv A outer s H E) (fun cls d _ H => E cls d H) (defBody s_is_symmetric) (B_is_symmetric n) := by
  have S := sc_is_symmetric
  have tk : Takes (cxOf (L2.CX P w) P w K mg base ["table"] "is_symmetric" (defScope s_is_symmetric) f cdv A outer s H E) (fun cls d _ H => E cls d H) := takes_of rfl rfl rfl rfl
  have hu := hr.units
  have hu0 := hr.units0
  have hu1 := hu_of hr.room
  have hu2 := in1u hr
  exact dss_cons (ds_expr (dx_de (dx_has h_check_table hr (by decide) tk (by rfl) (dr_val (de_var (pv 0)) (dr_nil)))))
    (dss_cons (ds_expr (dx_de (dx_has h_check_square hr (by decide) tk (by rfl) (dr_val (de_var (pv 0)) (dr_nil)))))
    (dss_one (ds_ret (de_cmp (((op_eqD hu).or (op_eqK hu2 hu0)).or (op_eqL hr.u80)) (ops_or (ops_or ops_eq1 ops_eqK) ops_eqL) (do_val (dx_de (dx_has h_exchanged_table hr (by decide) tk (by rfl) (dr_val (de_var (pv 0)) (dr_nil))))) (do_var (pv 0)) (nomark _)))))
theorem d_is_alternating (T : Txt P K mg base) (h_check_table : Has P w K mg base "check_table" 5 ["table"] F_check_table) (h_check_square : Has P w K mg base "check_square" 1 ["table"] F_check_square) (h_exchanged_table : Has P w K mg base "exchanged_table" 1 ["table"] F_exchanged_table) {f : Addr} {n : Nat} {cdv : Value} {A : Around} {outer : List Env} {s : Shared} {H : Hp} {E : XK} (hr : RoomG 5 (A.deeper (envOfC "is_alternating" (defScope s_is_alternating) s.heap.objs.size f cdv))) :
    DSs (cxOf (L2.CX P w) P w K mg base ["table", "line", "item"] "is_alternating" (defScope s_is_alternating) f cdv A outer s H E) (fun cls d _ H => E cls d H) (defBody s_is_alternating) (B_is_alternating n) := by
  have S := sc_is_alternating
  have tk : Takes (cxOf (L2.CX P w) P w K mg base ["table", "line", "item"] "is_alternating" (defScope s_is_alternating) f cdv A outer s H E) (fun cls d _ H => E cls d H) := takes_of rfl rfl rfl rfl
  have hu := hr.units
  have hu0 := hr.units0
  have hu1 := hu_of hr.room
  have hu2 := in1u hr
  exact dss_cons (ds_expr (dx_de (dx_has h_check_table hr (by decide) tk (by rfl) (dr_val (de_var (pv 0)) (dr_nil)))))
    (dss_cons (ds_expr (dx_de (dx_has h_check_square hr (by decide) tk (by rfl) (dr_val (de_var (pv 0)) (dr_nil)))))
    (dss_one (ds_ret (de_cmp (((op_eqD hu).or (op_eqK hu2 hu0)).or (op_eqL hr.u80)) (ops_or (ops_or ops_eq1 ops_eqK) ops_eqL) (do_val (dx_de (dx_has h_exchanged_table hr (by decide) tk (by rfl) (dr_val (de_var (pv 0)) (dr_nil))))) (do_val (de_callTy call_tuple_of cas_tup (by rfl) T.b_tuple boot_tuple (da_cons (do_val (de_fresh (df_lc (own := [("line", 1)]) rfl S.nd (di_seq (de_var (pv 0))) (blkOk_by (by rfl)) rfl (by intro _ _ _ _ _; exact dg_name (i := 1) (pg_name (i := 1) S.nd rfl (by first | exact .inl rfl | exact .inr rfl))) (by intro _ _ _ _ _; exact dts_nil) (by intro _ _ _ _ _; exact de_callTy call_tuple_of cas_tup (by rfl) T.b_tuple boot_tuple (da_cons (do_val (de_fresh (df_lc (own := [("item", 2)]) rfl S.nd (di_seq (de_var (pv 1))) (blkOk_by (by rfl)) rfl (by intro _ _ _ _ _; exact dg_name (i := 2) (pg_name (i := 2) S.nd rfl (by first | exact .inl rfl | exact .inr rfl))) (by intro _ _ _ _ _; exact dts_nil) (by intro _ _ _ _ _; exact de_un un_neg uns_neg (do_var (pv 2)))))) (da_nil)))))) (da_nil)))) (nomark _)))))
theorem d_scalar_product (T : Txt P K mg base)  {f : Addr} {n : Nat} {cdv : Value} {A : Around} {outer : List Env} {s : Shared} {H : Hp} {E : XK} (hr : RoomG 0 (A.deeper (envOfC "scalar_product" (defScope s_scalar_product) s.heap.objs.size f cdv))) :
    DSs (cxOf (L2.CX P w) P w K mg base ["one", "other", "item", "factor"] "scalar_product" (defScope s_scalar_product) f cdv A outer s H E) (fun cls d _ H => E cls d H) (defBody s_scalar_product) (B_scalar_product n) := by
  have S := sc_scalar_product
  have tk : Takes (cxOf (L2.CX P w) P w K mg base ["one", "other", "item", "factor"] "scalar_product" (defScope s_scalar_product) f cdv A outer s H E) (fun cls d _ H => E cls d H) := takes_of rfl rfl rfl rfl
  have hu := hr.units
  have hu0 := hr.units0
  have hu1 := hu_of hr.room
  have hu2 := in1u hr
  exact dss_one (ds_ret (de_callB ((cr_sum rfl).or (call_sumT rfl)) (cas_or cas_sum cas_sumT) (by rfl) T.b_sum boot_sum (da_cons (do_val (de_fresh (df_lc (own := [("item", 2), ("factor", 3)]) rfl S.nd (di_zip (by rfl) T.b_zip (dv_cons (de_var (pv 0)) (dv_cons (de_var (pv 1)) (dv_nil)))) (blkOk_by (by rfl)) rfl (by intro _ _ _ _ _; exact dg_tup rfl (dgs_cons (dg_name (i := 2) (pg_name (i := 2) S.nd rfl (by first | exact .inl rfl | exact .inr rfl))) (dgs_cons (dg_name (i := 3) (pg_name (i := 3) S.nd rfl (by first | exact .inl rfl | exact .inr rfl))) (dgs_nil)))) (by intro _ _ _ _ _; exact dts_nil) (by intro _ _ _ _ _; exact de_bin (op_mulW.or (op_rep.or op_repT)) (ops_or (ops_ic mul_ok) (ops_or ops_repL ops_repT)) (do_var (pv 2)) (do_var (pv 3)))))) (da_nil))))
theorem d_product_of (T : Txt P K mg base) (h_exchanged_table : Has P w K mg base "exchanged_table" 1 ["table"] F_exchanged_table) (h_scalar_product : Has P w K mg base "scalar_product" 1 ["one", "other"] F_scalar_product) {f : Addr} {n : Nat} {cdv : Value} {A : Around} {outer : List Env} {s : Shared} {H : Hp} {E : XK} (hr : RoomG 1 (A.deeper (envOfC "product_of" (defScope s_product_of) s.heap.objs.size f cdv))) :
    DSs (cxOf (L2.CX P w) P w K mg base ["one", "other", "columns", "line", "column"] "product_of" (defScope s_product_of) f cdv A outer s H E) (fun cls d _ H => E cls d H) (defBody s_product_of) (B_product_of n) := by
  have S := sc_product_of
  have tk : Takes (cxOf (L2.CX P w) P w K mg base ["one", "other", "columns", "line", "column"] "product_of" (defScope s_product_of) f cdv A outer s H E) (fun cls d _ H => E cls d H) := takes_of rfl rfl rfl rfl
  have hu := hr.units
  have hu0 := hr.units0
  have hu1 := hu_of hr.room
  have hu2 := in1u hr
  exact dss_cons (ds_set (i := 2) S.nd rfl (.inr rfl) (dx_de (dx_has h_exchanged_table hr (by decide) tk (by rfl) (dr_val (de_var (pv 1)) (dr_nil)))))
    (dss_one (ds_ret (de_callTy call_tuple_of cas_tup (by rfl) T.b_tuple boot_tuple (da_cons (do_val (de_fresh (df_lc (own := [("line", 3)]) rfl S.nd (di_seq (de_var (pv 0))) (blkOk_by (by rfl)) rfl (by intro _ _ _ _ _; exact dg_name (i := 3) (pg_name (i := 3) S.nd rfl (by first | exact .inl rfl | exact .inr rfl))) (by intro _ _ _ _ _; exact dts_nil) (by intro _ _ _ _ _; exact de_callTy call_tuple_of cas_tup (by rfl) T.b_tuple boot_tuple (da_cons (do_val (de_fresh (df_lc (own := [("column", 4)]) rfl S.nd (di_seq (de_var (pv 2))) (blkOk_by (by rfl)) rfl (by intro _ _ _ _ _; exact dg_name (i := 4) (pg_name (i := 4) S.nd rfl (by first | exact .inl rfl | exact .inr rfl))) (by intro _ _ _ _ _; exact dts_nil) (by intro _ _ _ _ _; exact dx_de (dx_hasN h_scalar_product hr (by decide) (by rfl) (dr_val (de_var (pv 3)) (dr_val (de_var (pv 4)) (dr_nil)))))))) (da_nil)))))) (da_nil)))))
theorem d_table_product (T : Txt P K mg base) (h_check_table : Has P w K mg base "check_table" 5 ["table"] F_check_table) (h_product_of : Has P w K mg base "product_of" 2 ["one", "other"] F_product_of) {f : Addr} {n : Nat} {cdv : Value} {A : Around} {outer : List Env} {s : Shared} {H : Hp} {E : XK} (hr : RoomG 5 (A.deeper (envOfC "table_product" (defScope s_table_product) s.heap.objs.size f cdv))) :
    DSs (cxOf (L2.CX P w) P w K mg base ["one", "other"] "table_product" (defScope s_table_product) f cdv A outer s H E) (fun cls d _ H => E cls d H) (defBody s_table_product) (B_table_product n) := by
  have S := sc_table_product
  have tk : Takes (cxOf (L2.CX P w) P w K mg base ["one", "other"] "table_product" (defScope s_table_product) f cdv A outer s H E) (fun cls d _ H => E cls d H) := takes_of rfl rfl rfl rfl
  have hu := hr.units
  have hu0 := hr.units0
  have hu1 := hu_of hr.room
  have hu2 := in1u hr
  exact dss_cons (ds_expr (dx_de (dx_has h_check_table hr (by decide) tk (by rfl) (dr_val (de_var (pv 0)) (dr_nil)))))
    (dss_cons (ds_expr (dx_de (dx_has h_check_table hr (by decide) tk (by rfl) (dr_val (de_var (pv 1)) (dr_nil)))))
    (dss_cons (ds_if (dt_cmp (((op_neD hu).or (op_neK hu2 hu0)).or (op_neL hr.u80)) (ops_or (ops_or ops_ne1 ops_neK) ops_neL) (do_val (de_callB call_len_seq cas_len (by rfl) T.b_len PySem.boot_len (da_cons (do_val (de_ix (do_var (pv 0)) (do_val (de_int)))) (da_nil)))) (do_val (de_callB call_len_seq cas_len (by rfl) T.b_len PySem.boot_len (da_cons (do_var (pv 1)) (da_nil)))) (nomark _)) (dss_one (ds_raise T.e_InvalidOperation rfl tk (by rfl))) (dss_nil))
    (dss_one (ds_ret (dx_de (dx_has h_product_of hr (by decide) tk (by rfl) (dr_val (de_var (pv 0)) (dr_val (de_var (pv 1)) (dr_nil)))))))))
theorem d_unit_table (T : Txt P K mg base) (h_check_number : Has P w K mg base "check_number" 6 ["given", "least", "most"] F_check_number) {f : Addr} {n : Nat} {cdv : Value} {A : Around} {outer : List Env} {s : Shared} {H : Hp} {E : XK} (hr : RoomG 6 (A.deeper (envOfC "unit_table" (defScope s_unit_table) s.heap.objs.size f cdv))) :
    DSs (cxOf (L2.CX P w) P w K mg base ["size", "row", "column"] "unit_table" (defScope s_unit_table) f cdv A outer s H E) (fun cls d _ H => E cls d H) (defBody s_unit_table) (B_unit_table n) := by
  have S := sc_unit_table
  have tk : Takes (cxOf (L2.CX P w) P w K mg base ["size", "row", "column"] "unit_table" (defScope s_unit_table) f cdv A outer s H E) (fun cls d _ H => E cls d H) := takes_of rfl rfl rfl rfl
  have hu := hr.units
  have hu0 := hr.units0
  have hu1 := hu_of hr.room
  have hu2 := in1u hr
  exact dss_cons (ds_expr (dx_de (dx_has h_check_number hr (by decide) tk (by rfl) (dr_val (de_var (pv 0)) (dr_val (de_int) (dr_val (de_gint (by rfl) T.c_MAX_SIZE.choose_spec) (dr_nil)))))))
    (dss_one (ds_ret (de_callTy call_tuple_of cas_tup (by rfl) T.b_tuple boot_tuple (da_cons (do_val (de_fresh (df_lc (own := [("row", 1)]) rfl S.nd (di_rng1 (by rfl) T.b_range (dv_cons (de_var (pv 0)) (dv_nil))) (blkOk_by (by rfl)) rfl (by intro _ _ _ _ _; exact dg_name (i := 1) (pg_name (i := 1) S.nd rfl (by first | exact .inl rfl | exact .inr rfl))) (by intro _ _ _ _ _; exact dts_nil) (by intro _ _ _ _ _; exact de_callTy call_tuple_of cas_tup (by rfl) T.b_tuple boot_tuple (da_cons (do_val (de_fresh (df_lc (own := [("column", 2)]) rfl S.nd (di_rng1 (by rfl) T.b_range (dv_cons (de_var (pv 0)) (dv_nil))) (blkOk_by (by rfl)) rfl (by intro _ _ _ _ _; exact dg_name (i := 2) (pg_name (i := 2) S.nd rfl (by first | exact .inl rfl | exact .inr rfl))) (by intro _ _ _ _ _; exact dts_nil) (by intro _ _ _ _ _; exact de_ifExp (dt_cmp (((op_eqD hu).or (op_eqK hu2 hu0)).or (op_eqL hr.u80)) (ops_or (ops_or ops_eq1 ops_eqK) ops_eqL) (do_var (pv 1)) (do_var (pv 2)) (nomark _)) (de_int) (de_int))))) (da_nil)))))) (da_nil)))))
theorem d_table_power (T : Txt P K mg base) (h_check_table : Has P w K mg base "check_table" 5 ["table"] F_check_table) (h_check_number : Has P w K mg base "check_number" 6 ["given", "least", "most"] F_check_number) (h_check_square : Has P w K mg base "check_square" 1 ["table"] F_check_square) (h_unit_table : Has P w K mg base "unit_table" 7 ["size"] F_unit_table) (h_product_of : Has P w K mg base "product_of" 2 ["one", "other"] F_product_of) {f : Addr} {n : Nat} {cdv : Value} {A : Around} {outer : List Env} {s : Shared} {H : Hp} {E : XK} (hr : RoomG 7 (A.deeper (envOfC "table_power" (defScope s_table_power) s.heap.objs.size f cdv))) :
    DSs (cxOf (L2.CX P w) P w K mg base ["table", "exponent", "power", "square", "left"] "table_power" (defScope s_table_power) f cdv A outer s H E) (fun cls d _ H => E cls d H) (defBody s_table_power) (B_table_power n) := by
  have S := sc_table_power
  have tk : Takes (cxOf (L2.CX P w) P w K mg base ["table", "exponent", "power", "square", "left"] "table_power" (defScope s_table_power) f cdv A outer s H E) (fun cls d _ H => E cls d H) := takes_of rfl rfl rfl rfl
  have hu := hr.units
  have hu0 := hr.units0
  have hu1 := hu_of hr.room
  have hu2 := in1u hr
  exact dss_cons (ds_expr (dx_de (dx_has h_check_table hr (by decide) tk (by rfl) (dr_val (de_var (pv 0)) (dr_nil)))))
    (dss_cons (ds_expr (dx_de (dx_has h_check_number hr (by decide) tk (by rfl) (dr_val (de_var (pv 1)) (dr_val (de_int) (dr_val (de_gint (by rfl) T.c_MAX_EXPONENT.choose_spec) (dr_nil)))))))
    (dss_cons (ds_expr (dx_de (dx_has h_check_square hr (by decide) tk (by rfl) (dr_val (de_var (pv 0)) (dr_nil)))))
    (dss_cons (ds_set (i := 2) S.nd rfl (.inl rfl) (dx_de (dx_has h_unit_table hr (by decide) tk (by rfl) (dr_val (de_callB call_len_seq cas_len (by rfl) T.b_len PySem.boot_len (da_cons (do_var (pv 0)) (da_nil))) (dr_nil)))))
    (dss_cons (ds_set (i := 3) S.nd rfl (.inl rfl) (de_var (pv 0)))
    (dss_cons (ds_set (i := 4) S.nd rfl (.inl rfl) (de_var (pv 1)))
    (dss_cons (ds_while n (passes_of rfl) (dt_cmp op_gt ops_b0 (do_var (pv 4)) (do_val (de_int)) (nomark _)) (dss_cons (ds_if (dt_cmp (((op_eqD hu).or (op_eqK hu2 hu0)).or (op_eqL hr.u80)) (ops_or (ops_or ops_eq1 ops_eqK) ops_eqL) (do_val (de_bin op_modN (ops_ic fun _ _ h => of_decide_eq_true h) (do_var (pv 4)) (do_val (de_int)))) (do_val (de_int)) (nomark _)) (dss_one (ds_set (i := 2) S.nd rfl (.inl rfl) (dx_de (dx_has h_product_of hr (by decide) tk (by rfl) (dr_val (de_var (pv 2)) (dr_val (de_var (pv 3)) (dr_nil))))))) (dss_nil))
    (dss_cons (ds_set (i := 4) S.nd rfl (.inl rfl) (de_bin op_fdivG (ops_ic fun _ _ h => cDiv_ok h) (do_var (pv 4)) (do_val (de_int))))
    (dss_one (ds_if (dt_cmp op_gt ops_b0 (do_var (pv 4)) (do_val (de_int)) (nomark _)) (dss_one (ds_set (i := 3) S.nd rfl (.inl rfl) (dx_de (dx_has h_product_of hr (by decide) tk (by rfl) (dr_val (de_var (pv 3)) (dr_val (de_var (pv 3)) (dr_nil))))))) (dss_nil))))))
    (dss_one (ds_retV (pv 2)))))))))
set_option maxHeartbeats 4000000 in
theorem d_q_tables_right (T : Txt P K mg base) (h_q_one_of : Has P w K mg base "_law_one_of" 2 ["_law_bag_here", "_law_items"] F_q_one_of) (h_turned_over : Has P w K mg base "turned_over" 6 ["table"] F_turned_over) (h_rank : Has P w K mg base "rank" 7 ["table"] F_rank) (h_kernel : Has P w K mg base "kernel" 6 ["table"] F_kernel) (h_determinant : Has P w K mg base "determinant" 6 ["table"] F_determinant) (h_minors : Has P w K mg base "minors" 6 ["table"] F_minors) (h_is_symmetric : Has P w K mg base "is_symmetric" 6 ["table"] F_is_symmetric) (h_is_alternating : Has P w K mg base "is_alternating" 6 ["table"] F_is_alternating) (h_q_word : LamB P w K mg base true 1 "_law_word" F_q_word) (h_table_product : Has P w K mg base "table_product" 6 ["one", "other"] F_table_product) (h_table_power : Has P w K mg base "table_power" 8 ["table", "exponent"] F_table_power) (h_unit_table : Has P w K mg base "unit_table" 7 ["size"] F_unit_table) {f : Addr} {n : Nat} {cdv : Value} {A : Around} {outer : List Env} {s : Shared} {H : Hp} {E : XK} (lc : lamCode K "_law_tables_right" cdv) (hr : RoomG 10 (A.deeper (envOfC "_law_tables_right" (defScope s_q_tables_right) s.heap.objs.size f cdv))) :
    DSs (cxOf (L2.CX P w) P w K mg base ["_law_bag_here", "_law_told", "_law_number", "_law_due", "_law_call", "_law_flat", "_law_none", "_law_odd", "_law_size", "_law_square"] "_law_tables_right" (defScope s_q_tables_right) f cdv A outer s H E) (fun cls d _ H => E cls d H) (defBody s_q_tables_right) (B_q_tables_right n) := by
  obtain ⟨lamc, lamP, hcd, htab⟩ := lc
  have S := sc_q_tables_right
  have tk : Takes (cxOf (L2.CX P w) P w K mg base ["_law_bag_here", "_law_told", "_law_number", "_law_due", "_law_call", "_law_flat", "_law_none", "_law_odd", "_law_size", "_law_square"] "_law_tables_right" (defScope s_q_tables_right) f cdv A outer s H E) (fun cls d _ H => E cls d H) := takes_of rfl rfl rfl rfl
  have hu := hr.units
  have hu0 := hr.units0
  have hu1 := hu_of hr.room
  have hu2 := in1u hr
  exact dss_cons (ds_set (i := 6) S.nd rfl (.inr rfl) (dx_de (dx_has h_q_one_of hr (by decide) tk (by rfl) (dr_io (pv 0) (dr_val (de_fresh (df_lst (dv_cons (de_non) (dv_cons (de_tup (dv_nil)) (dv_cons (de_tup (dv_cons (de_tup (dv_nil)) (dv_nil))) (dv_cons (de_tup (dv_cons (de_tup (dv_cons (de_int) (dv_cons (de_int) (dv_nil)))) (dv_cons (de_tup (dv_cons (de_int) (dv_nil))) (dv_nil)))) (dv_cons (de_fresh (df_lst (dv_cons (de_fresh (df_lst (dv_cons (de_int) (dv_nil)))) (dv_nil)))) (dv_cons (de_tup (dv_cons (de_tup (dv_cons (de_bl) (dv_nil))) (dv_nil))) (dv_cons (de_tup (dv_cons (de_bin (op_mulW.or (op_rep.or op_repT)) (ops_or (ops_ic mul_ok) (ops_or ops_repL ops_repT)) (do_val (de_tup (dv_cons (de_int) (dv_nil)))) (do_val (de_int))) (dv_nil))) (dv_cons (de_bin (op_mulW.or (op_rep.or op_repT)) (ops_or (ops_ic mul_ok) (ops_or ops_repL ops_repT)) (do_val (de_tup (dv_cons (de_tup (dv_cons (de_int) (dv_nil))) (dv_nil)))) (do_val (de_int))) (dv_cons (de_str) (dv_cons (de_int) (dv_cons (de_tup (dv_cons (de_tup (dv_cons (de_bin op_powG (ops_ic fun _ _ h => cPow_ok h) (do_val (de_int)) (do_val (de_int))) (dv_nil))) (dv_nil))) (dv_cons (de_fresh (df_dic0)) (dv_nil))))))))))))))) (dr_nil))))))
    (dss_cons (ds_set (i := 7) S.nd rfl (.inr rfl) (dx_de (dx_has h_q_one_of hr (by decide) tk (by rfl) (dr_io (pv 0) (dr_val (de_fresh (df_lst (dv_cons (de_non) (dv_cons (de_un un_neg uns_neg (do_val (de_int))) (dv_cons (de_int) (dv_cons (de_bl) (dv_cons (de_str) (dv_cons (de_tup (dv_cons (de_int) (dv_nil))) (dv_cons (de_bin op_powG (ops_ic fun _ _ h => cPow_ok h) (do_val (de_int)) (do_val (de_int))) (dv_nil)))))))))) (dr_nil))))))
    (dss_cons (ds_set (i := 8) S.nd rfl (.inr rfl) (dx_de (dx_has h_q_one_of hr (by decide) tk (by rfl) (dr_io (pv 0) (dr_val (de_fresh (df_lst (dv_cons (de_non) (dv_cons (de_int) (dv_cons (de_int) (dv_cons (de_un un_neg uns_neg (do_val (de_int))) (dv_cons (de_bl) (dv_cons (de_str) (dv_cons (de_fresh (df_lst (dv_cons (de_int) (dv_nil)))) (dv_nil)))))))))) (dr_nil))))))
    (dss_cons (ds_asg (de_tup (dv_cons (de_tup (dv_cons (de_tup (dv_cons (de_int) (dv_cons (de_int) (dv_cons (de_int) (dv_nil))))) (dv_nil))) (dv_cons (de_tup (dv_cons (de_tup (dv_cons (de_int) (dv_cons (de_int) (dv_nil)))) (dv_cons (de_tup (dv_cons (de_int) (dv_cons (de_int) (dv_nil)))) (dv_nil)))) (dv_nil)))) (dg_tup rfl (dgs_cons (dg_name (i := 5) (pg_name (i := 5) S.nd rfl (.inr rfl))) (dgs_cons (dg_name (i := 9) (pg_name (i := 9) S.nd rfl (.inr rfl))) (dgs_nil)))))
    (dss_cons (ds_setF (i := 1) S.nd rfl (.inl rfl) (df_lst (dv_nil)))
    (dss_cons (ds_for (passes_of rfl) rfl (di_seq (de_tup (dv_cons (de_fnH T.v_turned_over (by rfl)) (dv_cons (de_fnH T.v_rank (by rfl)) (dv_cons (de_fnH T.v_kernel (by rfl)) (dv_nil)))))) (dg_name (i := 4) (pg_name (i := 4) S.nd rfl (.inr rfl))) (dss_cons (ds_app (pv 1) (de_lam (k := 8) (h_q_word.mono (by decide)) (hr.mono (by decide)) (by rfl) (T.lamT _ (by decide) _ _ htab) hcd (by decide) htab rfl T.lamA (LamX.lamS_by (by rfl)) rfl (fun _ _ _ _ _ => rfl) (by intro A outer s s2 H E f d hr tk; have hu := hr.units; have hu0 := hr.units0; have hu1 := hu_of hr.room; have hu2 := in1u hr; exact (dx_de (dx_calV (.cons (fnV_of (k := 7) h_turned_over T.v_turned_over (by decide)) (.cons (fnV_of (k := 7) h_rank T.v_rank (by decide)) (.cons (fnV_of (k := 7) h_kernel T.v_kernel (by decide)) (.cons (fnV_of (k := 7) h_determinant T.v_determinant (by decide)) (.cons (fnV_of (k := 7) h_minors T.v_minors (by decide)) (.cons (fnV_of (k := 7) h_is_symmetric T.v_is_symmetric (by decide)) (.cons (fnV_of (k := 7) h_is_alternating T.v_is_alternating (by decide)) .nil))))))) (hr.mono (by decide)) tk rfl (by first | exact .inl rfl | exact .inr (.inl rfl) | exact .inr (.inr rfl)) (dr_val (de_var (pv 6)) (dr_nil)))))))
    (dss_one (ds_app (pv 1) (de_lam (k := 8) (h_q_word.mono (by decide)) (hr.mono (by decide)) (by rfl) (T.lamT _ (by decide) _ _ htab) hcd (by decide) htab rfl T.lamA (LamX.lamS_by (by rfl)) rfl (fun _ _ _ _ _ => rfl) (by intro A outer s s2 H E f d hr tk; have hu := hr.units; have hu0 := hr.units0; have hu1 := hu_of hr.room; have hu2 := in1u hr; exact (dx_de (dx_calV (.cons (fnV_of (k := 7) h_turned_over T.v_turned_over (by decide)) (.cons (fnV_of (k := 7) h_rank T.v_rank (by decide)) (.cons (fnV_of (k := 7) h_kernel T.v_kernel (by decide)) (.cons (fnV_of (k := 7) h_determinant T.v_determinant (by decide)) (.cons (fnV_of (k := 7) h_minors T.v_minors (by decide)) (.cons (fnV_of (k := 7) h_is_symmetric T.v_is_symmetric (by decide)) (.cons (fnV_of (k := 7) h_is_alternating T.v_is_alternating (by decide)) .nil))))))) (hr.mono (by decide)) tk rfl (by first | exact .inl rfl | exact .inr (.inl rfl) | exact .inr (.inr rfl)) (dr_val (de_var (pv 5)) (dr_nil))))))))))
    (dss_cons (ds_for (passes_of rfl) rfl (di_seq (de_tup (dv_cons (de_fnH T.v_determinant (by rfl)) (dv_cons (de_fnH T.v_minors (by rfl)) (dv_cons (de_fnH T.v_is_symmetric (by rfl)) (dv_cons (de_fnH T.v_is_alternating (by rfl)) (dv_nil))))))) (dg_name (i := 4) (pg_name (i := 4) S.nd rfl (.inr rfl))) (dss_cons (ds_app (pv 1) (de_lam (k := 8) (h_q_word.mono (by decide)) (hr.mono (by decide)) (by rfl) (T.lamT _ (by decide) _ _ htab) hcd (by decide) htab rfl T.lamA (LamX.lamS_by (by rfl)) rfl (fun _ _ _ _ _ => rfl) (by intro A outer s s2 H E f d hr tk; have hu := hr.units; have hu0 := hr.units0; have hu1 := hu_of hr.room; have hu2 := in1u hr; exact (dx_de (dx_calV (.cons (fnV_of (k := 7) h_turned_over T.v_turned_over (by decide)) (.cons (fnV_of (k := 7) h_rank T.v_rank (by decide)) (.cons (fnV_of (k := 7) h_kernel T.v_kernel (by decide)) (.cons (fnV_of (k := 7) h_determinant T.v_determinant (by decide)) (.cons (fnV_of (k := 7) h_minors T.v_minors (by decide)) (.cons (fnV_of (k := 7) h_is_symmetric T.v_is_symmetric (by decide)) (.cons (fnV_of (k := 7) h_is_alternating T.v_is_alternating (by decide)) .nil))))))) (hr.mono (by decide)) tk rfl (by first | exact .inl rfl | exact .inr (.inl rfl) | exact .inr (.inr rfl)) (dr_val (de_var (pv 6)) (dr_nil)))))))
    (dss_cons (ds_app (pv 1) (de_lam (k := 8) (h_q_word.mono (by decide)) (hr.mono (by decide)) (by rfl) (T.lamT _ (by decide) _ _ htab) hcd (by decide) htab rfl T.lamA (LamX.lamS_by (by rfl)) rfl (fun _ _ _ _ _ => rfl) (by intro A outer s s2 H E f d hr tk; have hu := hr.units; have hu0 := hr.units0; have hu1 := hu_of hr.room; have hu2 := in1u hr; exact (dx_de (dx_calV (.cons (fnV_of (k := 7) h_turned_over T.v_turned_over (by decide)) (.cons (fnV_of (k := 7) h_rank T.v_rank (by decide)) (.cons (fnV_of (k := 7) h_kernel T.v_kernel (by decide)) (.cons (fnV_of (k := 7) h_determinant T.v_determinant (by decide)) (.cons (fnV_of (k := 7) h_minors T.v_minors (by decide)) (.cons (fnV_of (k := 7) h_is_symmetric T.v_is_symmetric (by decide)) (.cons (fnV_of (k := 7) h_is_alternating T.v_is_alternating (by decide)) .nil))))))) (hr.mono (by decide)) tk rfl (by first | exact .inl rfl | exact .inr (.inl rfl) | exact .inr (.inr rfl)) (dr_val (de_var (pv 5)) (dr_nil)))))))
    (dss_one (ds_app (pv 1) (de_lam (k := 8) (h_q_word.mono (by decide)) (hr.mono (by decide)) (by rfl) (T.lamT _ (by decide) _ _ htab) hcd (by decide) htab rfl T.lamA (LamX.lamS_by (by rfl)) rfl (fun _ _ _ _ _ => rfl) (by intro A outer s s2 H E f d hr tk; have hu := hr.units; have hu0 := hr.units0; have hu1 := hu_of hr.room; have hu2 := in1u hr; exact (dx_de (dx_calV (.cons (fnV_of (k := 7) h_turned_over T.v_turned_over (by decide)) (.cons (fnV_of (k := 7) h_rank T.v_rank (by decide)) (.cons (fnV_of (k := 7) h_kernel T.v_kernel (by decide)) (.cons (fnV_of (k := 7) h_determinant T.v_determinant (by decide)) (.cons (fnV_of (k := 7) h_minors T.v_minors (by decide)) (.cons (fnV_of (k := 7) h_is_symmetric T.v_is_symmetric (by decide)) (.cons (fnV_of (k := 7) h_is_alternating T.v_is_alternating (by decide)) .nil))))))) (hr.mono (by decide)) tk rfl (by first | exact .inl rfl | exact .inr (.inl rfl) | exact .inr (.inr rfl)) (dr_val (de_var (pv 9)) (dr_nil)))))))))))
    (dss_cons (ds_if (dt_cmp (((op_neD hu).or (op_neK hu2 hu0)).or (op_neL hr.u80)) (ops_or (ops_or ops_ne1 ops_neK) ops_neL) (do_var (pv 1)) (do_val (de_bin (op_add.or (op_cat.or op_catA)) (ops_or ops_i0 (ops_or ops_catL ops_catT)) (do_val (de_bin (op_mulW.or (op_rep.or op_repT)) (ops_or (ops_ic mul_ok) (ops_or ops_repL ops_repT)) (do_val (de_fresh (df_lst (dv_cons (de_str) (dv_cons (de_str) (dv_nil)))))) (do_val (de_int)))) (do_val (de_bin (op_mulW.or (op_rep.or op_repT)) (ops_or (ops_ic mul_ok) (ops_or ops_repL ops_repT)) (do_val (de_fresh (df_lst (dv_cons (de_str) (dv_cons (de_str) (dv_cons (de_str) (dv_nil))))))) (do_val (de_int)))))) (nomark _)) (dss_one (ds_ret (de_bl))) (dss_nil))
    (dss_cons (ds_setF (i := 1) S.nd rfl (.inl rfl) (df_lst (dv_cons (de_lam (k := 8) (h_q_word.mono (by decide)) (hr.mono (by decide)) (by rfl) (T.lamT _ (by decide) _ _ htab) hcd (by decide) htab rfl T.lamA (LamX.lamS_by (by rfl)) rfl (fun _ _ _ _ _ => rfl) (by intro A outer s s2 H E f d hr tk; have hu := hr.units; have hu0 := hr.units0; have hu1 := hu_of hr.room; have hu2 := in1u hr; exact (dx_de (dx_has h_table_product hr (by decide) tk (by rfl) (dr_val (de_var (pv 6)) (dr_val (de_var (pv 6)) (dr_nil))))))) (dv_nil))))
    (dss_cons (ds_app (pv 1) (de_lam (k := 8) (h_q_word.mono (by decide)) (hr.mono (by decide)) (by rfl) (T.lamT _ (by decide) _ _ htab) hcd (by decide) htab rfl T.lamA (LamX.lamS_by (by rfl)) rfl (fun _ _ _ _ _ => rfl) (by intro A outer s s2 H E f d hr tk; have hu := hr.units; have hu0 := hr.units0; have hu1 := hu_of hr.room; have hu2 := in1u hr; exact (dx_de (dx_has h_table_product hr (by decide) tk (by rfl) (dr_val (de_var (pv 5)) (dr_val (de_var (pv 6)) (dr_nil))))))))
    (dss_cons (ds_app (pv 1) (de_lam (k := 8) (h_q_word.mono (by decide)) (hr.mono (by decide)) (by rfl) (T.lamT _ (by decide) _ _ htab) hcd (by decide) htab rfl T.lamA (LamX.lamS_by (by rfl)) rfl (fun _ _ _ _ _ => rfl) (by intro A outer s s2 H E f d hr tk; have hu := hr.units; have hu0 := hr.units0; have hu1 := hu_of hr.room; have hu2 := in1u hr; exact (dx_de (dx_has h_table_product hr (by decide) tk (by rfl) (dr_val (de_var (pv 5)) (dr_val (de_var (pv 9)) (dr_nil))))))))
    (dss_cons (ds_app (pv 1) (de_lam (k := 8) (h_q_word.mono (by decide)) (hr.mono (by decide)) (by rfl) (T.lamT _ (by decide) _ _ htab) hcd (by decide) htab rfl T.lamA (LamX.lamS_by (by rfl)) rfl (fun _ _ _ _ _ => rfl) (by intro A outer s s2 H E f d hr tk; have hu := hr.units; have hu0 := hr.units0; have hu1 := hu_of hr.room; have hu2 := in1u hr; exact (dx_de (dx_has h_table_product hr (by decide) tk (by rfl) (dr_val (de_var (pv 9)) (dr_val (de_var (pv 9)) (dr_nil))))))))
    (dss_cons (ds_app (pv 1) (de_lam (k := 8) (h_q_word.mono (by decide)) (hr.mono (by decide)) (by rfl) (T.lamT _ (by decide) _ _ htab) hcd (by decide) htab rfl T.lamA (LamX.lamS_by (by rfl)) rfl (fun _ _ _ _ _ => rfl) (by intro A outer s s2 H E f d hr tk; have hu := hr.units; have hu0 := hr.units0; have hu1 := hu_of hr.room; have hu2 := in1u hr; exact (dx_de (dx_has h_table_power hr (by decide) tk (by rfl) (dr_val (de_var (pv 6)) (dr_val (de_var (pv 7)) (dr_nil))))))))
    (dss_cons (ds_app (pv 1) (de_lam (k := 8) (h_q_word.mono (by decide)) (hr.mono (by decide)) (by rfl) (T.lamT _ (by decide) _ _ htab) hcd (by decide) htab rfl T.lamA (LamX.lamS_by (by rfl)) rfl (fun _ _ _ _ _ => rfl) (by intro A outer s s2 H E f d hr tk; have hu := hr.units; have hu0 := hr.units0; have hu1 := hu_of hr.room; have hu2 := in1u hr; exact (dx_de (dx_has h_table_power hr (by decide) tk (by rfl) (dr_val (de_var (pv 5)) (dr_val (de_var (pv 7)) (dr_nil))))))))
    (dss_cons (ds_app (pv 1) (de_lam (k := 8) (h_q_word.mono (by decide)) (hr.mono (by decide)) (by rfl) (T.lamT _ (by decide) _ _ htab) hcd (by decide) htab rfl T.lamA (LamX.lamS_by (by rfl)) rfl (fun _ _ _ _ _ => rfl) (by intro A outer s s2 H E f d hr tk; have hu := hr.units; have hu0 := hr.units0; have hu1 := hu_of hr.room; have hu2 := in1u hr; exact (dx_de (dx_has h_table_power hr (by decide) tk (by rfl) (dr_val (de_var (pv 5)) (dr_val (de_int) (dr_nil))))))))
    (dss_cons (ds_app (pv 1) (de_lam (k := 8) (h_q_word.mono (by decide)) (hr.mono (by decide)) (by rfl) (T.lamT _ (by decide) _ _ htab) hcd (by decide) htab rfl T.lamA (LamX.lamS_by (by rfl)) rfl (fun _ _ _ _ _ => rfl) (by intro A outer s s2 H E f d hr tk; have hu := hr.units; have hu0 := hr.units0; have hu1 := hu_of hr.room; have hu2 := in1u hr; exact (dx_de (dx_has h_table_power hr (by decide) tk (by rfl) (dr_val (de_var (pv 9)) (dr_val (de_var (pv 7)) (dr_nil))))))))
    (dss_cons (ds_app (pv 1) (de_lam (k := 8) (h_q_word.mono (by decide)) (hr.mono (by decide)) (by rfl) (T.lamT _ (by decide) _ _ htab) hcd (by decide) htab rfl T.lamA (LamX.lamS_by (by rfl)) rfl (fun _ _ _ _ _ => rfl) (by intro A outer s s2 H E f d hr tk; have hu := hr.units; have hu0 := hr.units0; have hu1 := hu_of hr.room; have hu2 := in1u hr; exact (dx_de (dx_has h_table_power hr (by decide) tk (by rfl) (dr_val (de_var (pv 9)) (dr_val (dx_de (dx_has h_q_one_of hr (by decide) tk (by rfl) (dr_io (pv 0) (dr_val (de_fresh (df_lst (dv_cons (de_int) (dv_cons (de_int) (dv_cons (de_int) (dv_nil)))))) (dr_nil))))) (dr_nil))))))))
    (dss_cons (ds_app (pv 1) (de_lam (k := 8) (h_q_word.mono (by decide)) (hr.mono (by decide)) (by rfl) (T.lamT _ (by decide) _ _ htab) hcd (by decide) htab rfl T.lamA (LamX.lamS_by (by rfl)) rfl (fun _ _ _ _ _ => rfl) (by intro A outer s s2 H E f d hr tk; have hu := hr.units; have hu0 := hr.units0; have hu1 := hu_of hr.room; have hu2 := in1u hr; exact (dx_de (dx_has h_unit_table hr (by decide) tk (by rfl) (dr_val (de_var (pv 8)) (dr_nil)))))))
    (dss_cons (ds_app (pv 1) (de_lam (k := 8) (h_q_word.mono (by decide)) (hr.mono (by decide)) (by rfl) (T.lamT _ (by decide) _ _ htab) hcd (by decide) htab rfl T.lamA (LamX.lamS_by (by rfl)) rfl (fun _ _ _ _ _ => rfl) (by intro A outer s s2 H E f d hr tk; have hu := hr.units; have hu0 := hr.units0; have hu1 := hu_of hr.room; have hu2 := in1u hr; exact (dx_de (dx_has h_unit_table hr (by decide) tk (by rfl) (dr_val (dx_de (dx_has h_q_one_of hr (by decide) tk (by rfl) (dr_io (pv 0) (dr_val (de_fresh (df_lst (dv_cons (de_int) (dv_cons (de_int) (dv_nil))))) (dr_nil))))) (dr_nil)))))))
    (dss_cons (ds_set (i := 2) S.nd rfl (.inl rfl) (de_bin ((op_add.or (op_cat.or op_catA)).or op_add_str) (ops_or (ops_or ops_i0 (ops_or ops_catL ops_catT)) ops_addS) (do_val (de_str)) (do_val (de_callB (call_rprW hr.gd hr.units) cas_rprW (by rfl) T.b_repr boot_repr (da_cons (do_var (pv 7)) (da_nil))))))
    (dss_cons (ds_set (i := 3) S.nd rfl (.inl rfl) (de_fresh (df_lst (dv_cons (de_str) (dv_cons (de_str) (dv_cons (de_str) (dv_cons (de_str) (dv_cons (de_str) (dv_cons (de_var (pv 2)) (dv_cons (de_str) (dv_cons (de_var (pv 2)) (dv_cons (de_str) (dv_nil)))))))))))))
    (dss_one (ds_ret (de_cmp (((op_eqD hu).or (op_eqK hu2 hu0)).or (op_eqL hr.u80)) (ops_or (ops_or ops_eq1 ops_eqK) ops_eqL) (do_var (pv 1)) (do_val (de_bin (op_add.or (op_cat.or op_catA)) (ops_or ops_i0 (ops_or ops_catL ops_catT)) (do_var (pv 3)) (do_val (de_fresh (df_lst (dv_cons (de_bin ((op_add.or (op_cat.or op_catA)).or op_add_str) (ops_or (ops_or ops_i0 (ops_or ops_catL ops_catT)) ops_addS) (do_val (de_str)) (do_val (de_callB (call_rprW hr.gd hr.units) cas_rprW (by rfl) T.b_repr boot_repr (da_cons (do_var (pv 8)) (da_nil))))) (dv_cons (de_str) (dv_nil)))))))) (nomark _))))))))))))))))))))))))
set_option maxHeartbeats 4000000 in
theorem d_law (T : Txt P K mg base) (h_q_bag : Has P w K mg base "_law_bag" 1 ["_law_script", "_law_spot"] F_q_bag) (h_q_word : LamB P w K mg base true 1 "_law_word" F_q_word) (h_q_lines_right : Has P w K mg base "_law_lines_right" 13 ["_law_bag_here"] F_q_lines_right) (h_q_tables_right : Has P w K mg base "_law_tables_right" 11 ["_law_bag_here"] F_q_tables_right) (h_polynomial_product : Has P w K mg base "polynomial_product" 6 ["one", "other"] F_polynomial_product) {f : Addr} {n : Nat} {cdv : Value} {A : Around} {outer : List Env} {s : Shared} {H : Hp} {E : XK} (lc : lamCode K "law" cdv) (hr : RoomG 15 (A.deeper (envOfC "law" (defScope s_law) s.heap.objs.size f cdv))) :
    DSs (cxOf (L2.CX P w) P w K mg base ["_law_script", "_law_spot", "_law_bag_here"] "law" (defScope s_law) f cdv A outer s H E) (fun cls d _ H => E cls d H) (defBody s_law) (B_law n) := by
  obtain ⟨lamc, lamP, hcd, htab⟩ := lc
  have S := sc_law
  have tk : Takes (cxOf (L2.CX P w) P w K mg base ["_law_script", "_law_spot", "_law_bag_here"] "law" (defScope s_law) f cdv A outer s H E) (fun cls d _ H => E cls d H) := takes_of rfl rfl rfl rfl
  have hu := hr.units
  have hu0 := hr.units0
  have hu1 := hu_of hr.room
  have hu2 := in1u hr
  exact dss_cons (ds_for (passes_of rfl) rfl (di_rng1 (by rfl) T.b_range (dv_cons (de_callB ((call_max2 rfl).or (call_maxS rfl hr.units)) (cas_or cas_max2 cas_maxS) (by rfl) T.b_max boot_max (da_cons (do_val (de_int)) (da_cons (do_val (de_callB ((call_min2 rfl).or (call_minS rfl hr.units)) (cas_or cas_min2 cas_minS) (by rfl) T.b_min boot_min (da_cons (do_val (de_int)) (da_cons (do_val (de_callB call_len_seq cas_len (by rfl) T.b_len PySem.boot_len (da_cons (do_var (pv 0)) (da_nil)))) (da_nil))))) (da_nil)))) (dv_nil))) (dg_name (i := 1) (pg_name (i := 1) S.nd rfl (.inl rfl))) (dss_cons (ds_setF (i := 2) S.nd rfl (.inl rfl) (dx_df (dx_has h_q_bag hr (by decide) tk (by rfl) (dr_val (de_var (pv 0)) (dr_val (de_var (pv 1)) (dr_nil))))))
    (dss_one (ds_if (dt_bool (dw_or (dt_not (dt_val (dx_de (dx_has h_q_lines_right hr (by decide) tk (by rfl) (dr_io (pv 2) (dr_nil)))))) (dw_or1 (dt_not (dt_val (dx_de (dx_has h_q_tables_right hr (by decide) tk (by rfl) (dr_io (pv 2) (dr_nil))))))))) (dss_one (ds_ret (de_bl))) (dss_nil)))))
    (dss_one (ds_ret (de_cmp (((op_eqD hu).or (op_eqK hu2 hu0)).or (op_eqL hr.u80)) (ops_or (ops_or ops_eq1 ops_eqK) ops_eqL) (do_val (de_lam (k := 13) (h_q_word.mono (by decide)) (hr.mono (by decide)) (by rfl) (T.lamT _ (by decide) _ _ htab) hcd (by decide) htab rfl T.lamA (LamX.lamS_by (by rfl)) rfl (fun _ _ _ _ _ => rfl) (by intro A outer s s2 H E f d hr tk; have hu := hr.units; have hu0 := hr.units0; have hu1 := hu_of hr.room; have hu2 := in1u hr; exact (dx_de (dx_has h_polynomial_product hr (by decide) tk (by rfl) (dr_val (de_bin (op_add.or (op_cat.or op_catA)) (ops_or ops_i0 (ops_or ops_catL ops_catT)) (do_val (de_bin (op_mulW.or (op_rep.or op_repT)) (ops_or (ops_ic mul_ok) (ops_or ops_repL ops_repT)) (do_val (de_tup (dv_cons (de_int) (dv_nil)))) (do_val (de_int)))) (do_val (de_tup (dv_cons (de_int) (dv_nil))))) (dr_val (de_tup (dv_cons (de_bin op_sub ops_i0 (do_val (de_bin op_powG (ops_ic fun _ _ h => cPow_ok h) (do_val (de_int)) (do_val (de_int)))) (do_val (de_int))) (dv_nil))) (dr_nil)))))))) (do_val (de_str)) (nomark _))))
theorem ok_q_bag (T : Txt P K mg base)  {f : Addr} {fd : FuncData} (Fu : Fun K "_law_bag" "_law_bag" s_q_bag f fd) : FnG P w K mg base (L2.CX P w) 1 f fd ["_law_script", "_law_spot"] (spD K 2 F_q_bag) :=
  fn_D (N := ["_law_script", "_law_spot", "_law_cell", "_law_great", "_law_mixed"]) Fu sc_q_bag B_q_bag (fun n cdv A outer s H E hr => d_q_bag T  hr) fun as _ _ => ⟨fuel as, rfl⟩
theorem has_q_bag (T : Txt P K mg base)  {f : Addr} {fd : FuncData} (Fu : Fun K "_law_bag" "_law_bag" s_q_bag f fd) (g : mg "_law_bag" = some (.ref f)) : Has P w K mg base "_law_bag" 1 ["_law_script", "_law_spot"] F_q_bag :=
  ⟨f, fd, g, Fu.kp, (Fu.binds (ps := ["_law_script", "_law_spot"]) (fun _ _ _ _ _ _ us hl => match us, hl with | [_, _], _ => rfl)), ok_q_bag T  Fu⟩
theorem ok_q_grab (T : Txt P K mg base)  {f : Addr} {fd : FuncData} (Fu : Fun K "_law_grab" "_law_grab" s_q_grab f fd) : FnG P w K mg base (L2.CX P w) 1 f fd ["_law_bag_here", "_law_total"] (spD K 2 F_q_grab) :=
  fn_D (N := ["_law_bag_here", "_law_total", "_law_found", "_law_one", "_law_two"]) Fu sc_q_grab B_q_grab (fun n cdv A outer s H E hr => d_q_grab T  hr) fun as _ _ => ⟨fuel as, rfl⟩
theorem has_q_grab (T : Txt P K mg base)  {f : Addr} {fd : FuncData} (Fu : Fun K "_law_grab" "_law_grab" s_q_grab f fd) (g : mg "_law_grab" = some (.ref f)) : Has P w K mg base "_law_grab" 1 ["_law_bag_here", "_law_total"] F_q_grab :=
  ⟨f, fd, g, Fu.kp, (Fu.binds (ps := ["_law_bag_here", "_law_total"]) (fun _ _ _ _ _ _ us hl => match us, hl with | [_, _], _ => rfl)), ok_q_grab T  Fu⟩
theorem ok_q_one_of (T : Txt P K mg base) (h_q_grab : Has P w K mg base "_law_grab" 1 ["_law_bag_here", "_law_total"] F_q_grab) {f : Addr} {fd : FuncData} (Fu : Fun K "_law_one_of" "_law_one_of" s_q_one_of f fd) : FnG P w K mg base (L2.CX P w) 2 f fd ["_law_bag_here", "_law_items"] (spD K 2 F_q_one_of) :=
  fn_D (N := ["_law_bag_here", "_law_items"]) Fu sc_q_one_of B_q_one_of (fun n cdv A outer s H E hr => d_q_one_of T h_q_grab hr) fun as _ _ => ⟨fuel as, rfl⟩
theorem has_q_one_of (T : Txt P K mg base) (h_q_grab : Has P w K mg base "_law_grab" 1 ["_law_bag_here", "_law_total"] F_q_grab) {f : Addr} {fd : FuncData} (Fu : Fun K "_law_one_of" "_law_one_of" s_q_one_of f fd) (g : mg "_law_one_of" = some (.ref f)) : Has P w K mg base "_law_one_of" 2 ["_law_bag_here", "_law_items"] F_q_one_of :=
  ⟨f, fd, g, Fu.kp, (Fu.binds (ps := ["_law_bag_here", "_law_items"]) (fun _ _ _ _ _ _ us hl => match us, hl with | [_, _], _ => rfl)), ok_q_one_of T h_q_grab Fu⟩
theorem ok_is_long_integer (T : Txt P K mg base)  {f : Addr} {fd : FuncData} (Fu : Fun K "is_long_integer" "is_long_integer" s_is_long_integer f fd) : FnG P w K mg base (L2.CX P w) 1 f fd ["value"] (spD K 1 F_is_long_integer) :=
  fn_D (N := ["value"]) Fu sc_is_long_integer B_is_long_integer (fun n cdv A outer s H E hr => d_is_long_integer T  hr) fun as _ _ => ⟨fuel as, rfl⟩
theorem has_is_long_integer (T : Txt P K mg base)  {f : Addr} {fd : FuncData} (Fu : Fun K "is_long_integer" "is_long_integer" s_is_long_integer f fd) (g : mg "is_long_integer" = some (.ref f)) : Has P w K mg base "is_long_integer" 1 ["value"] F_is_long_integer :=
  ⟨f, fd, g, Fu.kp, (Fu.binds (ps := ["value"]) (fun _ _ _ _ _ _ us hl => match us, hl with | [_], _ => rfl)), ok_is_long_integer T  Fu⟩
theorem ok_is_integer (T : Txt P K mg base) (h_is_long_integer : Has P w K mg base "is_long_integer" 1 ["value"] F_is_long_integer) {f : Addr} {fd : FuncData} (Fu : Fun K "is_integer" "is_integer" s_is_integer f fd) : FnG P w K mg base (L2.CX P w) 2 f fd ["value"] (spD K 1 F_is_integer) :=
  fn_D (N := ["value"]) Fu sc_is_integer B_is_integer (fun n cdv A outer s H E hr => d_is_integer T h_is_long_integer hr) fun as _ _ => ⟨fuel as, rfl⟩
theorem has_is_integer (T : Txt P K mg base) (h_is_long_integer : Has P w K mg base "is_long_integer" 1 ["value"] F_is_long_integer) {f : Addr} {fd : FuncData} (Fu : Fun K "is_integer" "is_integer" s_is_integer f fd) (g : mg "is_integer" = some (.ref f)) : Has P w K mg base "is_integer" 2 ["value"] F_is_integer :=
  ⟨f, fd, g, Fu.kp, (Fu.binds (ps := ["value"]) (fun _ _ _ _ _ _ us hl => match us, hl with | [_], _ => rfl)), ok_is_integer T h_is_long_integer Fu⟩
theorem ok_is_polynomial (T : Txt P K mg base) (h_is_integer : Has P w K mg base "is_integer" 2 ["value"] F_is_integer) {f : Addr} {fd : FuncData} (Fu : Fun K "is_polynomial" "is_polynomial" s_is_polynomial f fd) : FnG P w K mg base (L2.CX P w) 3 f fd ["value"] (spD K 1 F_is_polynomial) :=
  fn_D (N := ["value", "item"]) Fu sc_is_polynomial B_is_polynomial (fun n cdv A outer s H E hr => d_is_polynomial T h_is_integer hr) fun as _ _ => ⟨fuel as, rfl⟩
theorem has_is_polynomial (T : Txt P K mg base) (h_is_integer : Has P w K mg base "is_integer" 2 ["value"] F_is_integer) {f : Addr} {fd : FuncData} (Fu : Fun K "is_polynomial" "is_polynomial" s_is_polynomial f fd) (g : mg "is_polynomial" = some (.ref f)) : Has P w K mg base "is_polynomial" 3 ["value"] F_is_polynomial :=
  ⟨f, fd, g, Fu.kp, (Fu.binds (ps := ["value"]) (fun _ _ _ _ _ _ us hl => match us, hl with | [_], _ => rfl)), ok_is_polynomial T h_is_integer Fu⟩
theorem ok_check_polynomial (T : Txt P K mg base) (h_is_polynomial : Has P w K mg base "is_polynomial" 3 ["value"] F_is_polynomial) {f : Addr} {fd : FuncData} (Fu : Fun K "check_polynomial" "check_polynomial" s_check_polynomial f fd) : FnG P w K mg base (L2.CX P w) 4 f fd ["polynomial"] (spD K 1 F_check_polynomial) :=
  fn_D (N := ["polynomial"]) Fu sc_check_polynomial B_check_polynomial (fun n cdv A outer s H E hr => d_check_polynomial T h_is_polynomial hr) fun as _ _ => ⟨fuel as, rfl⟩
theorem has_check_polynomial (T : Txt P K mg base) (h_is_polynomial : Has P w K mg base "is_polynomial" 3 ["value"] F_is_polynomial) {f : Addr} {fd : FuncData} (Fu : Fun K "check_polynomial" "check_polynomial" s_check_polynomial f fd) (g : mg "check_polynomial" = some (.ref f)) : Has P w K mg base "check_polynomial" 4 ["polynomial"] F_check_polynomial :=
  ⟨f, fd, g, Fu.kp, (Fu.binds (ps := ["polynomial"]) (fun _ _ _ _ _ _ us hl => match us, hl with | [_], _ => rfl)), ok_check_polynomial T h_is_polynomial Fu⟩
theorem ok_check_polynomials (T : Txt P K mg base) (h_check_polynomial : Has P w K mg base "check_polynomial" 4 ["polynomial"] F_check_polynomial) {f : Addr} {fd : FuncData} (Fu : Fun K "check_polynomials" "check_polynomials" s_check_polynomials f fd) : FnG P w K mg base (L2.CX P w) 5 f fd ["one", "other"] (spD K 2 F_check_polynomials) :=
  fn_D (N := ["one", "other"]) Fu sc_check_polynomials B_check_polynomials (fun n cdv A outer s H E hr => d_check_polynomials T h_check_polynomial hr) fun as _ _ => ⟨fuel as, rfl⟩
theorem has_check_polynomials (T : Txt P K mg base) (h_check_polynomial : Has P w K mg base "check_polynomial" 4 ["polynomial"] F_check_polynomial) {f : Addr} {fd : FuncData} (Fu : Fun K "check_polynomials" "check_polynomials" s_check_polynomials f fd) (g : mg "check_polynomials" = some (.ref f)) : Has P w K mg base "check_polynomials" 5 ["one", "other"] F_check_polynomials :=
  ⟨f, fd, g, Fu.kp, (Fu.binds (ps := ["one", "other"]) (fun _ _ _ _ _ _ us hl => match us, hl with | [_, _], _ => rfl)), ok_check_polynomials T h_check_polynomial Fu⟩
theorem ok_trimmed (T : Txt P K mg base)  {f : Addr} {fd : FuncData} (Fu : Fun K "trimmed" "trimmed" s_trimmed f fd) : FnG P w K mg base (L2.CX P w) 1 f fd ["items"] (spD K 1 F_trimmed) :=
  fn_D (N := ["items", "many"]) Fu sc_trimmed B_trimmed (fun n cdv A outer s H E hr => d_trimmed T  hr) fun as _ _ => ⟨fuel as, rfl⟩
theorem has_trimmed (T : Txt P K mg base)  {f : Addr} {fd : FuncData} (Fu : Fun K "trimmed" "trimmed" s_trimmed f fd) (g : mg "trimmed" = some (.ref f)) : Has P w K mg base "trimmed" 1 ["items"] F_trimmed :=
  ⟨f, fd, g, Fu.kp, (Fu.binds (ps := ["items"]) (fun _ _ _ _ _ _ us hl => match us, hl with | [_], _ => rfl)), ok_trimmed T  Fu⟩
theorem ok_polynomial_sum (T : Txt P K mg base) (h_check_polynomials : Has P w K mg base "check_polynomials" 5 ["one", "other"] F_check_polynomials) (h_trimmed : Has P w K mg base "trimmed" 1 ["items"] F_trimmed) {f : Addr} {fd : FuncData} (Fu : Fun K "polynomial_sum" "polynomial_sum" s_polynomial_sum f fd) : FnG P w K mg base (L2.CX P w) 6 f fd ["one", "other"] (spD K 2 F_polynomial_sum) :=
  fn_D (N := ["one", "other", "total", "index", "item"]) Fu sc_polynomial_sum B_polynomial_sum (fun n cdv A outer s H E hr => d_polynomial_sum T h_check_polynomials h_trimmed hr) fun as _ _ => ⟨fuel as, rfl⟩
theorem has_polynomial_sum (T : Txt P K mg base) (h_check_polynomials : Has P w K mg base "check_polynomials" 5 ["one", "other"] F_check_polynomials) (h_trimmed : Has P w K mg base "trimmed" 1 ["items"] F_trimmed) {f : Addr} {fd : FuncData} (Fu : Fun K "polynomial_sum" "polynomial_sum" s_polynomial_sum f fd) (g : mg "polynomial_sum" = some (.ref f)) : Has P w K mg base "polynomial_sum" 6 ["one", "other"] F_polynomial_sum :=
  ⟨f, fd, g, Fu.kp, (Fu.binds (ps := ["one", "other"]) (fun _ _ _ _ _ _ us hl => match us, hl with | [_, _], _ => rfl)), ok_polynomial_sum T h_check_polynomials h_trimmed Fu⟩
theorem ok_polynomial_product (T : Txt P K mg base) (h_check_polynomials : Has P w K mg base "check_polynomials" 5 ["one", "other"] F_check_polynomials) (h_trimmed : Has P w K mg base "trimmed" 1 ["items"] F_trimmed) (h_kept : Has P w K mg base "kept" 3 ["value"] F_kept) {f : Addr} {fd : FuncData} (Fu : Fun K "polynomial_product" "polynomial_product" s_polynomial_product f fd) : FnG P w K mg base (L2.CX P w) 6 f fd ["one", "other"] (spD K 2 F_polynomial_product) :=
  fn_D (N := ["one", "other", "total", "index", "item", "place", "factor", "product"]) Fu sc_polynomial_product B_polynomial_product (fun n cdv A outer s H E hr => d_polynomial_product T h_check_polynomials h_trimmed h_kept hr) fun as _ _ => ⟨fuel as, rfl⟩
theorem has_polynomial_product (T : Txt P K mg base) (h_check_polynomials : Has P w K mg base "check_polynomials" 5 ["one", "other"] F_check_polynomials) (h_trimmed : Has P w K mg base "trimmed" 1 ["items"] F_trimmed) (h_kept : Has P w K mg base "kept" 3 ["value"] F_kept) {f : Addr} {fd : FuncData} (Fu : Fun K "polynomial_product" "polynomial_product" s_polynomial_product f fd) (g : mg "polynomial_product" = some (.ref f)) : Has P w K mg base "polynomial_product" 6 ["one", "other"] F_polynomial_product :=
  ⟨f, fd, g, Fu.kp, (Fu.binds (ps := ["one", "other"]) (fun _ _ _ _ _ _ us hl => match us, hl with | [_, _], _ => rfl)), ok_polynomial_product T h_check_polynomials h_trimmed h_kept Fu⟩
theorem ok_divided (T : Txt P K mg base)  {f : Addr} {fd : FuncData} (Fu : Fun K "divided" "divided" s_divided f fd) : FnG P w K mg base (L2.CX P w) 1 f fd ["one", "other"] (spD K 2 F_divided) :=
  fn_D (N := ["one", "other", "rest", "quotient", "index", "factor", "place", "item"]) Fu sc_divided B_divided (fun n cdv A outer s H E hr => d_divided T  hr) fun as _ _ => ⟨fuel as, rfl⟩
theorem has_divided (T : Txt P K mg base)  {f : Addr} {fd : FuncData} (Fu : Fun K "divided" "divided" s_divided f fd) (g : mg "divided" = some (.ref f)) : Has P w K mg base "divided" 1 ["one", "other"] F_divided :=
  ⟨f, fd, g, Fu.kp, (Fu.binds (ps := ["one", "other"]) (fun _ _ _ _ _ _ us hl => match us, hl with | [_, _], _ => rfl)), ok_divided T  Fu⟩
theorem ok_polynomial_quotient (T : Txt P K mg base) (h_check_polynomials : Has P w K mg base "check_polynomials" 5 ["one", "other"] F_check_polynomials) (h_divided : Has P w K mg base "divided" 1 ["one", "other"] F_divided) {f : Addr} {fd : FuncData} (Fu : Fun K "polynomial_quotient" "polynomial_quotient" s_polynomial_quotient f fd) : FnG P w K mg base (L2.CX P w) 6 f fd ["one", "other"] (spD K 2 F_polynomial_quotient) :=
  fn_D (N := ["one", "other"]) Fu sc_polynomial_quotient B_polynomial_quotient (fun n cdv A outer s H E hr => d_polynomial_quotient T h_check_polynomials h_divided hr) fun as _ _ => ⟨fuel as, rfl⟩
theorem has_polynomial_quotient (T : Txt P K mg base) (h_check_polynomials : Has P w K mg base "check_polynomials" 5 ["one", "other"] F_check_polynomials) (h_divided : Has P w K mg base "divided" 1 ["one", "other"] F_divided) {f : Addr} {fd : FuncData} (Fu : Fun K "polynomial_quotient" "polynomial_quotient" s_polynomial_quotient f fd) (g : mg "polynomial_quotient" = some (.ref f)) : Has P w K mg base "polynomial_quotient" 6 ["one", "other"] F_polynomial_quotient :=
  ⟨f, fd, g, Fu.kp, (Fu.binds (ps := ["one", "other"]) (fun _ _ _ _ _ _ us hl => match us, hl with | [_, _], _ => rfl)), ok_polynomial_quotient T h_check_polynomials h_divided Fu⟩
theorem ok_is_long_pair (T : Txt P K mg base) (h_is_long_integer : Has P w K mg base "is_long_integer" 1 ["value"] F_is_long_integer) {f : Addr} {fd : FuncData} (Fu : Fun K "is_long_pair" "is_long_pair" s_is_long_pair f fd) : FnG P w K mg base (L2.CX P w) 2 f fd ["value"] (spD K 1 F_is_long_pair) :=
  fn_D (N := ["value"]) Fu sc_is_long_pair B_is_long_pair (fun n cdv A outer s H E hr => d_is_long_pair T h_is_long_integer hr) fun as _ _ => ⟨fuel as, rfl⟩
theorem has_is_long_pair (T : Txt P K mg base) (h_is_long_integer : Has P w K mg base "is_long_integer" 1 ["value"] F_is_long_integer) {f : Addr} {fd : FuncData} (Fu : Fun K "is_long_pair" "is_long_pair" s_is_long_pair f fd) (g : mg "is_long_pair" = some (.ref f)) : Has P w K mg base "is_long_pair" 2 ["value"] F_is_long_pair :=
  ⟨f, fd, g, Fu.kp, (Fu.binds (ps := ["value"]) (fun _ _ _ _ _ _ us hl => match us, hl with | [_], _ => rfl)), ok_is_long_pair T h_is_long_integer Fu⟩
theorem ok_is_long_ratio (T : Txt P K mg base) (h_is_long_pair : Has P w K mg base "is_long_pair" 2 ["value"] F_is_long_pair) {f : Addr} {fd : FuncData} (Fu : Fun K "is_long_ratio" "is_long_ratio" s_is_long_ratio f fd) : FnG P w K mg base (L2.CX P w) 3 f fd ["value"] (spD K 1 F_is_long_ratio) :=
  fn_D (N := ["value"]) Fu sc_is_long_ratio B_is_long_ratio (fun n cdv A outer s H E hr => d_is_long_ratio T h_is_long_pair hr) fun as _ _ => ⟨fuel as, rfl⟩
theorem has_is_long_ratio (T : Txt P K mg base) (h_is_long_pair : Has P w K mg base "is_long_pair" 2 ["value"] F_is_long_pair) {f : Addr} {fd : FuncData} (Fu : Fun K "is_long_ratio" "is_long_ratio" s_is_long_ratio f fd) (g : mg "is_long_ratio" = some (.ref f)) : Has P w K mg base "is_long_ratio" 3 ["value"] F_is_long_ratio :=
  ⟨f, fd, g, Fu.kp, (Fu.binds (ps := ["value"]) (fun _ _ _ _ _ _ us hl => match us, hl with | [_], _ => rfl)), ok_is_long_ratio T h_is_long_pair Fu⟩
theorem ok_is_ratio (T : Txt P K mg base) (h_is_long_ratio : Has P w K mg base "is_long_ratio" 3 ["value"] F_is_long_ratio) (h_is_integer : Has P w K mg base "is_integer" 2 ["value"] F_is_integer) {f : Addr} {fd : FuncData} (Fu : Fun K "is_ratio" "is_ratio" s_is_ratio f fd) : FnG P w K mg base (L2.CX P w) 4 f fd ["value"] (spD K 1 F_is_ratio) :=
  fn_D (N := ["value"]) Fu sc_is_ratio B_is_ratio (fun n cdv A outer s H E hr => d_is_ratio T h_is_long_ratio h_is_integer hr) fun as _ _ => ⟨fuel as, rfl⟩
theorem has_is_ratio (T : Txt P K mg base) (h_is_long_ratio : Has P w K mg base "is_long_ratio" 3 ["value"] F_is_long_ratio) (h_is_integer : Has P w K mg base "is_integer" 2 ["value"] F_is_integer) {f : Addr} {fd : FuncData} (Fu : Fun K "is_ratio" "is_ratio" s_is_ratio f fd) (g : mg "is_ratio" = some (.ref f)) : Has P w K mg base "is_ratio" 4 ["value"] F_is_ratio :=
  ⟨f, fd, g, Fu.kp, (Fu.binds (ps := ["value"]) (fun _ _ _ _ _ _ us hl => match us, hl with | [_], _ => rfl)), ok_is_ratio T h_is_long_ratio h_is_integer Fu⟩
theorem ok_check_ratio (T : Txt P K mg base) (h_is_ratio : Has P w K mg base "is_ratio" 4 ["value"] F_is_ratio) {f : Addr} {fd : FuncData} (Fu : Fun K "check_ratio" "check_ratio" s_check_ratio f fd) : FnG P w K mg base (L2.CX P w) 5 f fd ["ratio"] (spD K 1 F_check_ratio) :=
  fn_D (N := ["ratio"]) Fu sc_check_ratio B_check_ratio (fun n cdv A outer s H E hr => d_check_ratio T h_is_ratio hr) fun as _ _ => ⟨fuel as, rfl⟩
theorem has_check_ratio (T : Txt P K mg base) (h_is_ratio : Has P w K mg base "is_ratio" 4 ["value"] F_is_ratio) {f : Addr} {fd : FuncData} (Fu : Fun K "check_ratio" "check_ratio" s_check_ratio f fd) (g : mg "check_ratio" = some (.ref f)) : Has P w K mg base "check_ratio" 5 ["ratio"] F_check_ratio :=
  ⟨f, fd, g, Fu.kp, (Fu.binds (ps := ["ratio"]) (fun _ _ _ _ _ _ us hl => match us, hl with | [_], _ => rfl)), ok_check_ratio T h_is_ratio Fu⟩
theorem ok_reduced (T : Txt P K mg base)  {f : Addr} {fd : FuncData} (Fu : Fun K "reduced" "reduced" s_reduced f fd) : FnG P w K mg base (L2.CX P w) 1 f fd ["top", "bottom"] (spD K 2 F_reduced) :=
  fn_D (N := ["top", "bottom", "divisor"]) Fu sc_reduced B_reduced (fun n cdv A outer s H E hr => d_reduced T  hr) fun as _ _ => ⟨fuel as, rfl⟩
theorem has_reduced (T : Txt P K mg base)  {f : Addr} {fd : FuncData} (Fu : Fun K "reduced" "reduced" s_reduced f fd) (g : mg "reduced" = some (.ref f)) : Has P w K mg base "reduced" 1 ["top", "bottom"] F_reduced :=
  ⟨f, fd, g, Fu.kp, (Fu.binds (ps := ["top", "bottom"]) (fun _ _ _ _ _ _ us hl => match us, hl with | [_, _], _ => rfl)), ok_reduced T  Fu⟩
theorem ok_polynomial_value (T : Txt P K mg base) (h_check_polynomial : Has P w K mg base "check_polynomial" 4 ["polynomial"] F_check_polynomial) (h_check_ratio : Has P w K mg base "check_ratio" 5 ["ratio"] F_check_ratio) (h_reduced : Has P w K mg base "reduced" 1 ["top", "bottom"] F_reduced) {f : Addr} {fd : FuncData} (Fu : Fun K "polynomial_value" "polynomial_value" s_polynomial_value f fd) : FnG P w K mg base (L2.CX P w) 6 f fd ["polynomial", "ratio"] (spD K 2 F_polynomial_value) :=
  fn_D (N := ["polynomial", "ratio", "top", "bottom", "total", "scale", "item"]) Fu sc_polynomial_value B_polynomial_value (fun n cdv A outer s H E hr => d_polynomial_value T h_check_polynomial h_check_ratio h_reduced hr) fun as _ _ => ⟨fuel as, rfl⟩
theorem has_polynomial_value (T : Txt P K mg base) (h_check_polynomial : Has P w K mg base "check_polynomial" 4 ["polynomial"] F_check_polynomial) (h_check_ratio : Has P w K mg base "check_ratio" 5 ["ratio"] F_check_ratio) (h_reduced : Has P w K mg base "reduced" 1 ["top", "bottom"] F_reduced) {f : Addr} {fd : FuncData} (Fu : Fun K "polynomial_value" "polynomial_value" s_polynomial_value f fd) (g : mg "polynomial_value" = some (.ref f)) : Has P w K mg base "polynomial_value" 6 ["polynomial", "ratio"] F_polynomial_value :=
  ⟨f, fd, g, Fu.kp, (Fu.binds (ps := ["polynomial", "ratio"]) (fun _ _ _ _ _ _ us hl => match us, hl with | [_, _], _ => rfl)), ok_polynomial_value T h_check_polynomial h_check_ratio h_reduced Fu⟩
theorem ok_is_between (T : Txt P K mg base) (h_is_integer : Has P w K mg base "is_integer" 2 ["value"] F_is_integer) {f : Addr} {fd : FuncData} (Fu : Fun K "is_between" "is_between" s_is_between f fd) : FnG P w K mg base (L2.CX P w) 3 f fd ["value", "least", "most"] (spD K 3 F_is_between) :=
  fn_D (N := ["value", "least", "most"]) Fu sc_is_between B_is_between (fun n cdv A outer s H E hr => d_is_between T h_is_integer hr) fun as _ _ => ⟨fuel as, rfl⟩
theorem has_is_between (T : Txt P K mg base) (h_is_integer : Has P w K mg base "is_integer" 2 ["value"] F_is_integer) {f : Addr} {fd : FuncData} (Fu : Fun K "is_between" "is_between" s_is_between f fd) (g : mg "is_between" = some (.ref f)) : Has P w K mg base "is_between" 3 ["value", "least", "most"] F_is_between :=
  ⟨f, fd, g, Fu.kp, (Fu.binds (ps := ["value", "least", "most"]) (fun _ _ _ _ _ _ us hl => match us, hl with | [_, _, _], _ => rfl)), ok_is_between T h_is_integer Fu⟩
theorem ok_check_number (T : Txt P K mg base) (h_kept : Has P w K mg base "kept" 3 ["value"] F_kept) (h_is_between : Has P w K mg base "is_between" 3 ["value", "least", "most"] F_is_between) {f : Addr} {fd : FuncData} (Fu : Fun K "check_number" "check_number" s_check_number f fd) : FnG P w K mg base (L2.CX P w) 6 f fd ["given", "least", "most"] (spD K 3 F_check_number) :=
  fn_D (N := ["given", "least", "most"]) Fu sc_check_number B_check_number (fun n cdv A outer s H E hr => d_check_number T h_kept h_is_between hr) fun as _ _ => ⟨fuel as, rfl⟩
theorem has_check_number (T : Txt P K mg base) (h_kept : Has P w K mg base "kept" 3 ["value"] F_kept) (h_is_between : Has P w K mg base "is_between" 3 ["value", "least", "most"] F_is_between) {f : Addr} {fd : FuncData} (Fu : Fun K "check_number" "check_number" s_check_number f fd) (g : mg "check_number" = some (.ref f)) : Has P w K mg base "check_number" 6 ["given", "least", "most"] F_check_number :=
  ⟨f, fd, g, Fu.kp, (Fu.binds (ps := ["given", "least", "most"]) (fun _ _ _ _ _ _ us hl => match us, hl with | [_, _, _], _ => rfl)), ok_check_number T h_kept h_is_between Fu⟩
theorem ok_prime_factors (T : Txt P K mg base) (h_check_number : Has P w K mg base "check_number" 6 ["given", "least", "most"] F_check_number) {f : Addr} {fd : FuncData} (Fu : Fun K "prime_factors" "prime_factors" s_prime_factors f fd) : FnG P w K mg base (L2.CX P w) 7 f fd ["number"] (spD K 1 F_prime_factors) :=
  fn_D (N := ["number", "found", "left", "divisor"]) Fu sc_prime_factors B_prime_factors (fun n cdv A outer s H E hr => d_prime_factors T h_check_number hr) fun as _ _ => ⟨fuel as, rfl⟩
theorem has_prime_factors (T : Txt P K mg base) (h_check_number : Has P w K mg base "check_number" 6 ["given", "least", "most"] F_check_number) {f : Addr} {fd : FuncData} (Fu : Fun K "prime_factors" "prime_factors" s_prime_factors f fd) (g : mg "prime_factors" = some (.ref f)) : Has P w K mg base "prime_factors" 7 ["number"] F_prime_factors :=
  ⟨f, fd, g, Fu.kp, (Fu.binds (ps := ["number"]) (fun _ _ _ _ _ _ us hl => match us, hl with | [_], _ => rfl)), ok_prime_factors T h_check_number Fu⟩
theorem ok_sign_divisors (T : Txt P K mg base) (h_prime_factors : Has P w K mg base "prime_factors" 7 ["number"] F_prime_factors) {f : Addr} {fd : FuncData} (Fu : Fun K "sign_divisors" "sign_divisors" s_sign_divisors f fd) : FnG P w K mg base (L2.CX P w) 8 f fd ["number"] (spD K 1 F_sign_divisors) :=
  fn_D (N := ["number", "found", "prime", "divisor", "sign"]) Fu sc_sign_divisors B_sign_divisors (fun n cdv A outer s H E hr => d_sign_divisors T h_prime_factors hr) fun as _ _ => ⟨fuel as, rfl⟩
theorem has_sign_divisors (T : Txt P K mg base) (h_prime_factors : Has P w K mg base "prime_factors" 7 ["number"] F_prime_factors) {f : Addr} {fd : FuncData} (Fu : Fun K "sign_divisors" "sign_divisors" s_sign_divisors f fd) (g : mg "sign_divisors" = some (.ref f)) : Has P w K mg base "sign_divisors" 8 ["number"] F_sign_divisors :=
  ⟨f, fd, g, Fu.kp, (Fu.binds (ps := ["number"]) (fun _ _ _ _ _ _ us hl => match us, hl with | [_], _ => rfl)), ok_sign_divisors T h_prime_factors Fu⟩
theorem ok_with_factors (T : Txt P K mg base)  {f : Addr} {fd : FuncData} (Fu : Fun K "with_factors" "with_factors" s_with_factors f fd) : FnG P w K mg base (L2.CX P w) 1 f fd ["items", "divisor", "power"] (spD K 3 F_with_factors) :=
  fn_D (N := ["items", "divisor", "power", "made", "_", "index"]) Fu sc_with_factors B_with_factors (fun n cdv A outer s H E hr => d_with_factors T  hr) fun as _ _ => ⟨fuel as, rfl⟩
theorem has_with_factors (T : Txt P K mg base)  {f : Addr} {fd : FuncData} (Fu : Fun K "with_factors" "with_factors" s_with_factors f fd) (g : mg "with_factors" = some (.ref f)) : Has P w K mg base "with_factors" 1 ["items", "divisor", "power"] F_with_factors :=
  ⟨f, fd, g, Fu.kp, (Fu.binds (ps := ["items", "divisor", "power"]) (fun _ _ _ _ _ _ us hl => match us, hl with | [_, _, _], _ => rfl)), ok_with_factors T  Fu⟩
theorem ok_totient (T : Txt P K mg base) (h_prime_factors : Has P w K mg base "prime_factors" 7 ["number"] F_prime_factors) {f : Addr} {fd : FuncData} (Fu : Fun K "totient" "totient" s_totient f fd) : FnG P w K mg base (L2.CX P w) 8 f fd ["number"] (spD K 1 F_totient) :=
  fn_D (N := ["number", "many", "prime"]) Fu sc_totient B_totient (fun n cdv A outer s H E hr => d_totient T h_prime_factors hr) fun as _ _ => ⟨fuel as, rfl⟩
theorem has_totient (T : Txt P K mg base) (h_prime_factors : Has P w K mg base "prime_factors" 7 ["number"] F_prime_factors) {f : Addr} {fd : FuncData} (Fu : Fun K "totient" "totient" s_totient f fd) (g : mg "totient" = some (.ref f)) : Has P w K mg base "totient" 8 ["number"] F_totient :=
  ⟨f, fd, g, Fu.kp, (Fu.binds (ps := ["number"]) (fun _ _ _ _ _ _ us hl => match us, hl with | [_], _ => rfl)), ok_totient T h_prime_factors Fu⟩
theorem ok_cyclotomic_product (T : Txt P K mg base) (h_sign_divisors : Has P w K mg base "sign_divisors" 8 ["number"] F_sign_divisors) (h_with_factors : Has P w K mg base "with_factors" 1 ["items", "divisor", "power"] F_with_factors) (h_totient : Has P w K mg base "totient" 8 ["number"] F_totient) {f : Addr} {fd : FuncData} (Fu : Fun K "cyclotomic_product" "cyclotomic_product" s_cyclotomic_product f fd) : FnG P w K mg base (L2.CX P w) 9 f fd ["parts"] (spD K 1 F_cyclotomic_product) :=
  fn_D (N := ["parts", "degree", "powers", "number", "times", "divisor", "sign", "items", "power", "item"]) Fu sc_cyclotomic_product B_cyclotomic_product (fun n cdv A outer s H E hr => d_cyclotomic_product T h_sign_divisors h_with_factors h_totient hr) fun as _ _ => ⟨fuel as, rfl⟩
theorem has_cyclotomic_product (T : Txt P K mg base) (h_sign_divisors : Has P w K mg base "sign_divisors" 8 ["number"] F_sign_divisors) (h_with_factors : Has P w K mg base "with_factors" 1 ["items", "divisor", "power"] F_with_factors) (h_totient : Has P w K mg base "totient" 8 ["number"] F_totient) {f : Addr} {fd : FuncData} (Fu : Fun K "cyclotomic_product" "cyclotomic_product" s_cyclotomic_product f fd) (g : mg "cyclotomic_product" = some (.ref f)) : Has P w K mg base "cyclotomic_product" 9 ["parts"] F_cyclotomic_product :=
  ⟨f, fd, g, Fu.kp, (Fu.binds (ps := ["parts"]) (fun _ _ _ _ _ _ us hl => match us, hl with | [_], _ => rfl)), ok_cyclotomic_product T h_sign_divisors h_with_factors h_totient Fu⟩
theorem ok_cyclotomic (T : Txt P K mg base) (h_check_number : Has P w K mg base "check_number" 6 ["given", "least", "most"] F_check_number) (h_kept : Has P w K mg base "kept" 3 ["value"] F_kept) (h_cyclotomic_product : Has P w K mg base "cyclotomic_product" 9 ["parts"] F_cyclotomic_product) (h_totient : Has P w K mg base "totient" 8 ["number"] F_totient) {f : Addr} {fd : FuncData} (Fu : Fun K "cyclotomic" "cyclotomic" s_cyclotomic f fd) : FnG P w K mg base (L2.CX P w) 10 f fd ["number"] (spD K 1 F_cyclotomic) :=
  fn_D (N := ["number"]) Fu sc_cyclotomic B_cyclotomic (fun n cdv A outer s H E hr => d_cyclotomic T h_check_number h_kept h_cyclotomic_product h_totient hr) fun as _ _ => ⟨fuel as, rfl⟩
theorem has_cyclotomic (T : Txt P K mg base) (h_check_number : Has P w K mg base "check_number" 6 ["given", "least", "most"] F_check_number) (h_kept : Has P w K mg base "kept" 3 ["value"] F_kept) (h_cyclotomic_product : Has P w K mg base "cyclotomic_product" 9 ["parts"] F_cyclotomic_product) (h_totient : Has P w K mg base "totient" 8 ["number"] F_totient) {f : Addr} {fd : FuncData} (Fu : Fun K "cyclotomic" "cyclotomic" s_cyclotomic f fd) (g : mg "cyclotomic" = some (.ref f)) : Has P w K mg base "cyclotomic" 10 ["number"] F_cyclotomic :=
  ⟨f, fd, g, Fu.kp, (Fu.binds (ps := ["number"]) (fun _ _ _ _ _ _ us hl => match us, hl with | [_], _ => rfl)), ok_cyclotomic T h_check_number h_kept h_cyclotomic_product h_totient Fu⟩
theorem ok_cyclotomic_parts (T : Txt P K mg base) (h_check_polynomial : Has P w K mg base "check_polynomial" 4 ["polynomial"] F_check_polynomial) {f : Addr} {fd : FuncData} (Fu : Fun K "cyclotomic_parts" "cyclotomic_parts" s_cyclotomic_parts f fd) : FnG P w K mg base (L2.CX P w) 5 f fd ["polynomial"] (spD K 1 F_cyclotomic_parts) :=
  fn_D (N := ["polynomial", "item", "told", "rest", "found", "number", "degree", "value", "times"]) Fu sc_cyclotomic_parts B_cyclotomic_parts (fun n cdv A outer s H E hr => d_cyclotomic_parts T h_check_polynomial hr) fun as _ _ => ⟨fuel as, rfl⟩
theorem has_cyclotomic_parts (T : Txt P K mg base) (h_check_polynomial : Has P w K mg base "check_polynomial" 4 ["polynomial"] F_check_polynomial) {f : Addr} {fd : FuncData} (Fu : Fun K "cyclotomic_parts" "cyclotomic_parts" s_cyclotomic_parts f fd) (g : mg "cyclotomic_parts" = some (.ref f)) : Has P w K mg base "cyclotomic_parts" 5 ["polynomial"] F_cyclotomic_parts :=
  ⟨f, fd, g, Fu.kp, (Fu.binds (ps := ["polynomial"]) (fun _ _ _ _ _ _ us hl => match us, hl with | [_], _ => rfl)), ok_cyclotomic_parts T h_check_polynomial Fu⟩
theorem ok_q_lines_right (T : Txt P K mg base) (h_q_one_of : Has P w K mg base "_law_one_of" 2 ["_law_bag_here", "_law_items"] F_q_one_of) (h_q_word : LamB P w K mg base true 1 "_law_word" F_q_word) (h_polynomial_sum : Has P w K mg base "polynomial_sum" 6 ["one", "other"] F_polynomial_sum) (h_polynomial_product : Has P w K mg base "polynomial_product" 6 ["one", "other"] F_polynomial_product) (h_polynomial_quotient : Has P w K mg base "polynomial_quotient" 6 ["one", "other"] F_polynomial_quotient) (h_polynomial_value : Has P w K mg base "polynomial_value" 6 ["polynomial", "ratio"] F_polynomial_value) (h_cyclotomic : Has P w K mg base "cyclotomic" 10 ["number"] F_cyclotomic) (h_cyclotomic_parts : Has P w K mg base "cyclotomic_parts" 5 ["polynomial"] F_cyclotomic_parts) {f : Addr} {fd : FuncData} (Fu : Fun K "_law_lines_right" "_law_lines_right" s_q_lines_right f fd) (lb : lamOkB K "_law_lines_right" f = true) : FnG P w K mg base (L2.CX P w) 13 f fd ["_law_bag_here"] (spD K 1 F_q_lines_right) :=
  fn_DL (N := ["_law_bag_here", "_law_told", "_law_due", "_law_bad", "_law_half", "_law_line", "_law_none", "_law_odd"]) Fu sc_q_lines_right B_q_lines_right (fun n cdv A outer s H E hcv hr => d_q_lines_right T h_q_one_of h_q_word h_polynomial_sum h_polynomial_product h_polynomial_quotient h_polynomial_value h_cyclotomic h_cyclotomic_parts (hcv ▸ lamCode_of lb) hr) fun as _ _ => ⟨fuel as, rfl⟩
theorem has_q_lines_right (T : Txt P K mg base) (h_q_one_of : Has P w K mg base "_law_one_of" 2 ["_law_bag_here", "_law_items"] F_q_one_of) (h_q_word : LamB P w K mg base true 1 "_law_word" F_q_word) (h_polynomial_sum : Has P w K mg base "polynomial_sum" 6 ["one", "other"] F_polynomial_sum) (h_polynomial_product : Has P w K mg base "polynomial_product" 6 ["one", "other"] F_polynomial_product) (h_polynomial_quotient : Has P w K mg base "polynomial_quotient" 6 ["one", "other"] F_polynomial_quotient) (h_polynomial_value : Has P w K mg base "polynomial_value" 6 ["polynomial", "ratio"] F_polynomial_value) (h_cyclotomic : Has P w K mg base "cyclotomic" 10 ["number"] F_cyclotomic) (h_cyclotomic_parts : Has P w K mg base "cyclotomic_parts" 5 ["polynomial"] F_cyclotomic_parts) {f : Addr} {fd : FuncData} (Fu : Fun K "_law_lines_right" "_law_lines_right" s_q_lines_right f fd) (lb : lamOkB K "_law_lines_right" f = true) (g : mg "_law_lines_right" = some (.ref f)) : Has P w K mg base "_law_lines_right" 13 ["_law_bag_here"] F_q_lines_right :=
  ⟨f, fd, g, Fu.kp, (Fu.binds (ps := ["_law_bag_here"]) (fun _ _ _ _ _ _ us hl => match us, hl with | [_], _ => rfl)), ok_q_lines_right T h_q_one_of h_q_word h_polynomial_sum h_polynomial_product h_polynomial_quotient h_polynomial_value h_cyclotomic h_cyclotomic_parts Fu lb⟩
theorem ok_is_table_row (T : Txt P K mg base) (h_is_integer : Has P w K mg base "is_integer" 2 ["value"] F_is_integer) {f : Addr} {fd : FuncData} (Fu : Fun K "is_table_row" "is_table_row" s_is_table_row f fd) : FnG P w K mg base (L2.CX P w) 3 f fd ["value"] (spD K 1 F_is_table_row) :=
  fn_D (N := ["value", "item"]) Fu sc_is_table_row B_is_table_row (fun n cdv A outer s H E hr => d_is_table_row T h_is_integer hr) fun as _ _ => ⟨fuel as, rfl⟩
theorem has_is_table_row (T : Txt P K mg base) (h_is_integer : Has P w K mg base "is_integer" 2 ["value"] F_is_integer) {f : Addr} {fd : FuncData} (Fu : Fun K "is_table_row" "is_table_row" s_is_table_row f fd) (g : mg "is_table_row" = some (.ref f)) : Has P w K mg base "is_table_row" 3 ["value"] F_is_table_row :=
  ⟨f, fd, g, Fu.kp, (Fu.binds (ps := ["value"]) (fun _ _ _ _ _ _ us hl => match us, hl with | [_], _ => rfl)), ok_is_table_row T h_is_integer Fu⟩
theorem ok_is_table (T : Txt P K mg base) (h_is_table_row : Has P w K mg base "is_table_row" 3 ["value"] F_is_table_row) {f : Addr} {fd : FuncData} (Fu : Fun K "is_table" "is_table" s_is_table f fd) : FnG P w K mg base (L2.CX P w) 4 f fd ["value"] (spD K 1 F_is_table) :=
  fn_D (N := ["value", "line"]) Fu sc_is_table B_is_table (fun n cdv A outer s H E hr => d_is_table T h_is_table_row hr) fun as _ _ => ⟨fuel as, rfl⟩
theorem has_is_table (T : Txt P K mg base) (h_is_table_row : Has P w K mg base "is_table_row" 3 ["value"] F_is_table_row) {f : Addr} {fd : FuncData} (Fu : Fun K "is_table" "is_table" s_is_table f fd) (g : mg "is_table" = some (.ref f)) : Has P w K mg base "is_table" 4 ["value"] F_is_table :=
  ⟨f, fd, g, Fu.kp, (Fu.binds (ps := ["value"]) (fun _ _ _ _ _ _ us hl => match us, hl with | [_], _ => rfl)), ok_is_table T h_is_table_row Fu⟩
theorem ok_check_table (T : Txt P K mg base) (h_is_table : Has P w K mg base "is_table" 4 ["value"] F_is_table) {f : Addr} {fd : FuncData} (Fu : Fun K "check_table" "check_table" s_check_table f fd) : FnG P w K mg base (L2.CX P w) 5 f fd ["table"] (spD K 1 F_check_table) :=
  fn_D (N := ["table"]) Fu sc_check_table B_check_table (fun n cdv A outer s H E hr => d_check_table T h_is_table hr) fun as _ _ => ⟨fuel as, rfl⟩
theorem has_check_table (T : Txt P K mg base) (h_is_table : Has P w K mg base "is_table" 4 ["value"] F_is_table) {f : Addr} {fd : FuncData} (Fu : Fun K "check_table" "check_table" s_check_table f fd) (g : mg "check_table" = some (.ref f)) : Has P w K mg base "check_table" 5 ["table"] F_check_table :=
  ⟨f, fd, g, Fu.kp, (Fu.binds (ps := ["table"]) (fun _ _ _ _ _ _ us hl => match us, hl with | [_], _ => rfl)), ok_check_table T h_is_table Fu⟩
theorem ok_exchanged_table (T : Txt P K mg base)  {f : Addr} {fd : FuncData} (Fu : Fun K "exchanged_table" "exchanged_table" s_exchanged_table f fd) : FnG P w K mg base (L2.CX P w) 1 f fd ["table"] (spD K 1 F_exchanged_table) :=
  fn_D (N := ["table", "column", "line"]) Fu sc_exchanged_table B_exchanged_table (fun n cdv A outer s H E hr => d_exchanged_table T  hr) fun as _ _ => ⟨fuel as, rfl⟩
theorem has_exchanged_table (T : Txt P K mg base)  {f : Addr} {fd : FuncData} (Fu : Fun K "exchanged_table" "exchanged_table" s_exchanged_table f fd) (g : mg "exchanged_table" = some (.ref f)) : Has P w K mg base "exchanged_table" 1 ["table"] F_exchanged_table :=
  ⟨f, fd, g, Fu.kp, (Fu.binds (ps := ["table"]) (fun _ _ _ _ _ _ us hl => match us, hl with | [_], _ => rfl)), ok_exchanged_table T  Fu⟩
theorem ok_turned_over (T : Txt P K mg base) (h_check_table : Has P w K mg base "check_table" 5 ["table"] F_check_table) (h_exchanged_table : Has P w K mg base "exchanged_table" 1 ["table"] F_exchanged_table) {f : Addr} {fd : FuncData} (Fu : Fun K "turned_over" "turned_over" s_turned_over f fd) : FnG P w K mg base (L2.CX P w) 6 f fd ["table"] (spD K 1 F_turned_over) :=
  fn_D (N := ["table"]) Fu sc_turned_over B_turned_over (fun n cdv A outer s H E hr => d_turned_over T h_check_table h_exchanged_table hr) fun as _ _ => ⟨fuel as, rfl⟩
theorem has_turned_over (T : Txt P K mg base) (h_check_table : Has P w K mg base "check_table" 5 ["table"] F_check_table) (h_exchanged_table : Has P w K mg base "exchanged_table" 1 ["table"] F_exchanged_table) {f : Addr} {fd : FuncData} (Fu : Fun K "turned_over" "turned_over" s_turned_over f fd) (g : mg "turned_over" = some (.ref f)) : Has P w K mg base "turned_over" 6 ["table"] F_turned_over :=
  ⟨f, fd, g, Fu.kp, (Fu.binds (ps := ["table"]) (fun _ _ _ _ _ _ us hl => match us, hl with | [_], _ => rfl)), ok_turned_over T h_check_table h_exchanged_table Fu⟩
theorem ok_divisor_of_all (T : Txt P K mg base)  {f : Addr} {fd : FuncData} (Fu : Fun K "divisor_of_all" "divisor_of_all" s_divisor_of_all f fd) : FnG P w K mg base (L2.CX P w) 1 f fd ["numbers"] (spD K 1 F_divisor_of_all) :=
  fn_D (N := ["numbers", "divisor", "number"]) Fu sc_divisor_of_all B_divisor_of_all (fun n cdv A outer s H E hr => d_divisor_of_all T  hr) fun as _ _ => ⟨fuel as, rfl⟩
theorem has_divisor_of_all (T : Txt P K mg base)  {f : Addr} {fd : FuncData} (Fu : Fun K "divisor_of_all" "divisor_of_all" s_divisor_of_all f fd) (g : mg "divisor_of_all" = some (.ref f)) : Has P w K mg base "divisor_of_all" 1 ["numbers"] F_divisor_of_all :=
  ⟨f, fd, g, Fu.kp, (Fu.binds (ps := ["numbers"]) (fun _ _ _ _ _ _ us hl => match us, hl with | [_], _ => rfl)), ok_divisor_of_all T  Fu⟩
theorem ok_lead_of (T : Txt P K mg base)  {f : Addr} {fd : FuncData} (Fu : Fun K "lead_of" "lead_of" s_lead_of f fd) : FnG P w K mg base (L2.CX P w) 1 f fd ["line"] (spD K 1 F_lead_of) :=
  fn_D (N := ["line", "index"]) Fu sc_lead_of B_lead_of (fun n cdv A outer s H E hr => d_lead_of T  hr) fun as _ _ => ⟨fuel as, rfl⟩
theorem has_lead_of (T : Txt P K mg base)  {f : Addr} {fd : FuncData} (Fu : Fun K "lead_of" "lead_of" s_lead_of f fd) (g : mg "lead_of" = some (.ref f)) : Has P w K mg base "lead_of" 1 ["line"] F_lead_of :=
  ⟨f, fd, g, Fu.kp, (Fu.binds (ps := ["line"]) (fun _ _ _ _ _ _ us hl => match us, hl with | [_], _ => rfl)), ok_lead_of T  Fu⟩
theorem ok_simplest (T : Txt P K mg base) (h_divisor_of_all : Has P w K mg base "divisor_of_all" 1 ["numbers"] F_divisor_of_all) (h_lead_of : Has P w K mg base "lead_of" 1 ["line"] F_lead_of) {f : Addr} {fd : FuncData} (Fu : Fun K "simplest" "simplest" s_simplest f fd) : FnG P w K mg base (L2.CX P w) 2 f fd ["line"] (spD K 1 F_simplest) :=
  fn_D (N := ["line", "divisor", "item"]) Fu sc_simplest B_simplest (fun n cdv A outer s H E hr => d_simplest T h_divisor_of_all h_lead_of hr) fun as _ _ => ⟨fuel as, rfl⟩
theorem has_simplest (T : Txt P K mg base) (h_divisor_of_all : Has P w K mg base "divisor_of_all" 1 ["numbers"] F_divisor_of_all) (h_lead_of : Has P w K mg base "lead_of" 1 ["line"] F_lead_of) {f : Addr} {fd : FuncData} (Fu : Fun K "simplest" "simplest" s_simplest f fd) (g : mg "simplest" = some (.ref f)) : Has P w K mg base "simplest" 2 ["line"] F_simplest :=
  ⟨f, fd, g, Fu.kp, (Fu.binds (ps := ["line"]) (fun _ _ _ _ _ _ us hl => match us, hl with | [_], _ => rfl)), ok_simplest T h_divisor_of_all h_lead_of Fu⟩
theorem ok_cleared (T : Txt P K mg base) (h_simplest : Has P w K mg base "simplest" 2 ["line"] F_simplest) {f : Addr} {fd : FuncData} (Fu : Fun K "cleared" "cleared" s_cleared f fd) : FnG P w K mg base (L2.CX P w) 3 f fd ["line", "pivot", "index"] (spD K 3 F_cleared) :=
  fn_D (N := ["line", "pivot", "index", "item", "factor"]) Fu sc_cleared B_cleared (fun n cdv A outer s H E hr => d_cleared T h_simplest hr) fun as _ _ => ⟨fuel as, rfl⟩
theorem has_cleared (T : Txt P K mg base) (h_simplest : Has P w K mg base "simplest" 2 ["line"] F_simplest) {f : Addr} {fd : FuncData} (Fu : Fun K "cleared" "cleared" s_cleared f fd) (g : mg "cleared" = some (.ref f)) : Has P w K mg base "cleared" 3 ["line", "pivot", "index"] F_cleared :=
  ⟨f, fd, g, Fu.kp, (Fu.binds (ps := ["line", "pivot", "index"]) (fun _ _ _ _ _ _ us hl => match us, hl with | [_, _, _], _ => rfl)), ok_cleared T h_simplest Fu⟩
theorem ok_echelon (T : Txt P K mg base) (h_simplest : Has P w K mg base "simplest" 2 ["line"] F_simplest) (h_cleared : Has P w K mg base "cleared" 3 ["line", "pivot", "index"] F_cleared) {f : Addr} {fd : FuncData} (Fu : Fun K "echelon" "echelon" s_echelon f fd) : FnG P w K mg base (L2.CX P w) 4 f fd ["table"] (spD K 1 F_echelon) :=
  fn_D (N := ["table", "done", "line", "left", "index", "found", "pivot"]) Fu sc_echelon B_echelon (fun n cdv A outer s H E hr => d_echelon T h_simplest h_cleared hr) fun as _ _ => ⟨fuel as, rfl⟩
theorem has_echelon (T : Txt P K mg base) (h_simplest : Has P w K mg base "simplest" 2 ["line"] F_simplest) (h_cleared : Has P w K mg base "cleared" 3 ["line", "pivot", "index"] F_cleared) {f : Addr} {fd : FuncData} (Fu : Fun K "echelon" "echelon" s_echelon f fd) (g : mg "echelon" = some (.ref f)) : Has P w K mg base "echelon" 4 ["table"] F_echelon :=
  ⟨f, fd, g, Fu.kp, (Fu.binds (ps := ["table"]) (fun _ _ _ _ _ _ us hl => match us, hl with | [_], _ => rfl)), ok_echelon T h_simplest h_cleared Fu⟩
theorem ok_kernel_row (T : Txt P K mg base)  {f : Addr} {fd : FuncData} (Fu : Fun K "kernel_row" "kernel_row" s_kernel_row f fd) : FnG P w K mg base (L2.CX P w) 1 f fd ["lines", "leads", "free", "width"] (spD K 4 F_kernel_row) :=
  fn_D (N := ["lines", "leads", "free", "width", "multiple", "line", "lead", "made"]) Fu sc_kernel_row B_kernel_row (fun n cdv A outer s H E hr => d_kernel_row T  hr) fun as _ _ => ⟨fuel as, rfl⟩
theorem has_kernel_row (T : Txt P K mg base)  {f : Addr} {fd : FuncData} (Fu : Fun K "kernel_row" "kernel_row" s_kernel_row f fd) (g : mg "kernel_row" = some (.ref f)) : Has P w K mg base "kernel_row" 1 ["lines", "leads", "free", "width"] F_kernel_row :=
  ⟨f, fd, g, Fu.kp, (Fu.binds (ps := ["lines", "leads", "free", "width"]) (fun _ _ _ _ _ _ us hl => match us, hl with | [_, _, _, _], _ => rfl)), ok_kernel_row T  Fu⟩
theorem ok_kernel_of (T : Txt P K mg base) (h_echelon : Has P w K mg base "echelon" 4 ["table"] F_echelon) (h_lead_of : Has P w K mg base "lead_of" 1 ["line"] F_lead_of) (h_kernel_row : Has P w K mg base "kernel_row" 1 ["lines", "leads", "free", "width"] F_kernel_row) {f : Addr} {fd : FuncData} (Fu : Fun K "kernel_of" "kernel_of" s_kernel_of f fd) : FnG P w K mg base (L2.CX P w) 5 f fd ["table", "width"] (spD K 2 F_kernel_of) :=
  fn_D (N := ["table", "width", "lines", "line", "leads", "index"]) Fu sc_kernel_of B_kernel_of (fun n cdv A outer s H E hr => d_kernel_of T h_echelon h_lead_of h_kernel_row hr) fun as _ _ => ⟨fuel as, rfl⟩
theorem has_kernel_of (T : Txt P K mg base) (h_echelon : Has P w K mg base "echelon" 4 ["table"] F_echelon) (h_lead_of : Has P w K mg base "lead_of" 1 ["line"] F_lead_of) (h_kernel_row : Has P w K mg base "kernel_row" 1 ["lines", "leads", "free", "width"] F_kernel_row) {f : Addr} {fd : FuncData} (Fu : Fun K "kernel_of" "kernel_of" s_kernel_of f fd) (g : mg "kernel_of" = some (.ref f)) : Has P w K mg base "kernel_of" 5 ["table", "width"] F_kernel_of :=
  ⟨f, fd, g, Fu.kp, (Fu.binds (ps := ["table", "width"]) (fun _ _ _ _ _ _ us hl => match us, hl with | [_, _], _ => rfl)), ok_kernel_of T h_echelon h_lead_of h_kernel_row Fu⟩
theorem ok_kernel (T : Txt P K mg base) (h_check_table : Has P w K mg base "check_table" 5 ["table"] F_check_table) (h_kernel_of : Has P w K mg base "kernel_of" 5 ["table", "width"] F_kernel_of) {f : Addr} {fd : FuncData} (Fu : Fun K "kernel" "kernel" s_kernel f fd) : FnG P w K mg base (L2.CX P w) 6 f fd ["table"] (spD K 1 F_kernel) :=
  fn_D (N := ["table"]) Fu sc_kernel B_kernel (fun n cdv A outer s H E hr => d_kernel T h_check_table h_kernel_of hr) fun as _ _ => ⟨fuel as, rfl⟩
theorem has_kernel (T : Txt P K mg base) (h_check_table : Has P w K mg base "check_table" 5 ["table"] F_check_table) (h_kernel_of : Has P w K mg base "kernel_of" 5 ["table", "width"] F_kernel_of) {f : Addr} {fd : FuncData} (Fu : Fun K "kernel" "kernel" s_kernel f fd) (g : mg "kernel" = some (.ref f)) : Has P w K mg base "kernel" 6 ["table"] F_kernel :=
  ⟨f, fd, g, Fu.kp, (Fu.binds (ps := ["table"]) (fun _ _ _ _ _ _ us hl => match us, hl with | [_], _ => rfl)), ok_kernel T h_check_table h_kernel_of Fu⟩
theorem ok_rank (T : Txt P K mg base) (h_check_table : Has P w K mg base "check_table" 5 ["table"] F_check_table) (h_kernel : Has P w K mg base "kernel" 6 ["table"] F_kernel) {f : Addr} {fd : FuncData} (Fu : Fun K "rank" "rank" s_rank f fd) : FnG P w K mg base (L2.CX P w) 7 f fd ["table"] (spD K 1 F_rank) :=
  fn_D (N := ["table"]) Fu sc_rank B_rank (fun n cdv A outer s H E hr => d_rank T h_check_table h_kernel hr) fun as _ _ => ⟨fuel as, rfl⟩
theorem has_rank (T : Txt P K mg base) (h_check_table : Has P w K mg base "check_table" 5 ["table"] F_check_table) (h_kernel : Has P w K mg base "kernel" 6 ["table"] F_kernel) {f : Addr} {fd : FuncData} (Fu : Fun K "rank" "rank" s_rank f fd) (g : mg "rank" = some (.ref f)) : Has P w K mg base "rank" 7 ["table"] F_rank :=
  ⟨f, fd, g, Fu.kp, (Fu.binds (ps := ["table"]) (fun _ _ _ _ _ _ us hl => match us, hl with | [_], _ => rfl)), ok_rank T h_check_table h_kernel Fu⟩
theorem ok_check_square (T : Txt P K mg base)  {f : Addr} {fd : FuncData} (Fu : Fun K "check_square" "check_square" s_check_square f fd) : FnG P w K mg base (L2.CX P w) 1 f fd ["table"] (spD K 1 F_check_square) :=
  fn_D (N := ["table"]) Fu sc_check_square B_check_square (fun n cdv A outer s H E hr => d_check_square T  hr) fun as _ _ => ⟨fuel as, rfl⟩
theorem has_check_square (T : Txt P K mg base)  {f : Addr} {fd : FuncData} (Fu : Fun K "check_square" "check_square" s_check_square f fd) (g : mg "check_square" = some (.ref f)) : Has P w K mg base "check_square" 1 ["table"] F_check_square :=
  ⟨f, fd, g, Fu.kp, (Fu.binds (ps := ["table"]) (fun _ _ _ _ _ _ us hl => match us, hl with | [_], _ => rfl)), ok_check_square T  Fu⟩
theorem ok_reduced_row (T : Txt P K mg base)  {f : Addr} {fd : FuncData} (Fu : Fun K "reduced_row" "reduced_row" s_reduced_row f fd) : FnG P w K mg base (L2.CX P w) 1 f fd ["line", "pivot", "before"] (spD K 3 F_reduced_row) :=
  fn_D (N := ["line", "pivot", "before", "k"]) Fu sc_reduced_row B_reduced_row (fun n cdv A outer s H E hr => d_reduced_row T  hr) fun as _ _ => ⟨fuel as, rfl⟩
theorem has_reduced_row (T : Txt P K mg base)  {f : Addr} {fd : FuncData} (Fu : Fun K "reduced_row" "reduced_row" s_reduced_row f fd) (g : mg "reduced_row" = some (.ref f)) : Has P w K mg base "reduced_row" 1 ["line", "pivot", "before"] F_reduced_row :=
  ⟨f, fd, g, Fu.kp, (Fu.binds (ps := ["line", "pivot", "before"]) (fun _ _ _ _ _ _ us hl => match us, hl with | [_, _, _], _ => rfl)), ok_reduced_row T  Fu⟩
theorem ok_determinant_of (T : Txt P K mg base) (h_reduced_row : Has P w K mg base "reduced_row" 1 ["line", "pivot", "before"] F_reduced_row) {f : Addr} {fd : FuncData} (Fu : Fun K "determinant_of" "determinant_of" s_determinant_of f fd) : FnG P w K mg base (L2.CX P w) 2 f fd ["lines"] (spD K 1 F_determinant_of) :=
  fn_D (N := ["lines", "line", "left", "sign", "before", "place", "places", "pivot", "others"]) Fu sc_determinant_of B_determinant_of (fun n cdv A outer s H E hr => d_determinant_of T h_reduced_row hr) fun as _ _ => ⟨fuel as, rfl⟩
theorem has_determinant_of (T : Txt P K mg base) (h_reduced_row : Has P w K mg base "reduced_row" 1 ["line", "pivot", "before"] F_reduced_row) {f : Addr} {fd : FuncData} (Fu : Fun K "determinant_of" "determinant_of" s_determinant_of f fd) (g : mg "determinant_of" = some (.ref f)) : Has P w K mg base "determinant_of" 2 ["lines"] F_determinant_of :=
  ⟨f, fd, g, Fu.kp, (Fu.binds (ps := ["lines"]) (fun _ _ _ _ _ _ us hl => match us, hl with | [_], _ => rfl)), ok_determinant_of T h_reduced_row Fu⟩
theorem ok_determinant (T : Txt P K mg base) (h_check_table : Has P w K mg base "check_table" 5 ["table"] F_check_table) (h_check_square : Has P w K mg base "check_square" 1 ["table"] F_check_square) (h_determinant_of : Has P w K mg base "determinant_of" 2 ["lines"] F_determinant_of) {f : Addr} {fd : FuncData} (Fu : Fun K "determinant" "determinant" s_determinant f fd) : FnG P w K mg base (L2.CX P w) 6 f fd ["table"] (spD K 1 F_determinant) :=
  fn_D (N := ["table"]) Fu sc_determinant B_determinant (fun n cdv A outer s H E hr => d_determinant T h_check_table h_check_square h_determinant_of hr) fun as _ _ => ⟨fuel as, rfl⟩
theorem has_determinant (T : Txt P K mg base) (h_check_table : Has P w K mg base "check_table" 5 ["table"] F_check_table) (h_check_square : Has P w K mg base "check_square" 1 ["table"] F_check_square) (h_determinant_of : Has P w K mg base "determinant_of" 2 ["lines"] F_determinant_of) {f : Addr} {fd : FuncData} (Fu : Fun K "determinant" "determinant" s_determinant f fd) (g : mg "determinant" = some (.ref f)) : Has P w K mg base "determinant" 6 ["table"] F_determinant :=
  ⟨f, fd, g, Fu.kp, (Fu.binds (ps := ["table"]) (fun _ _ _ _ _ _ us hl => match us, hl with | [_], _ => rfl)), ok_determinant T h_check_table h_check_square h_determinant_of Fu⟩
theorem ok_minors (T : Txt P K mg base) (h_check_table : Has P w K mg base "check_table" 5 ["table"] F_check_table) (h_check_square : Has P w K mg base "check_square" 1 ["table"] F_check_square) (h_determinant_of : Has P w K mg base "determinant_of" 2 ["lines"] F_determinant_of) {f : Addr} {fd : FuncData} (Fu : Fun K "minors" "minors" s_minors f fd) : FnG P w K mg base (L2.CX P w) 6 f fd ["table"] (spD K 1 F_minors) :=
  fn_D (N := ["table", "size", "line"]) Fu sc_minors B_minors (fun n cdv A outer s H E hr => d_minors T h_check_table h_check_square h_determinant_of hr) fun as _ _ => ⟨fuel as, rfl⟩
theorem has_minors (T : Txt P K mg base) (h_check_table : Has P w K mg base "check_table" 5 ["table"] F_check_table) (h_check_square : Has P w K mg base "check_square" 1 ["table"] F_check_square) (h_determinant_of : Has P w K mg base "determinant_of" 2 ["lines"] F_determinant_of) {f : Addr} {fd : FuncData} (Fu : Fun K "minors" "minors" s_minors f fd) (g : mg "minors" = some (.ref f)) : Has P w K mg base "minors" 6 ["table"] F_minors :=
  ⟨f, fd, g, Fu.kp, (Fu.binds (ps := ["table"]) (fun _ _ _ _ _ _ us hl => match us, hl with | [_], _ => rfl)), ok_minors T h_check_table h_check_square h_determinant_of Fu⟩
theorem ok_is_symmetric (T : Txt P K mg base) (h_check_table : Has P w K mg base "check_table" 5 ["table"] F_check_table) (h_check_square : Has P w K mg base "check_square" 1 ["table"] F_check_square) (h_exchanged_table : Has P w K mg base "exchanged_table" 1 ["table"] F_exchanged_table) {f : Addr} {fd : FuncData} (Fu : Fun K "is_symmetric" "is_symmetric" s_is_symmetric f fd) : FnG P w K mg base (L2.CX P w) 6 f fd ["table"] (spD K 1 F_is_symmetric) :=
  fn_D (N := ["table"]) Fu sc_is_symmetric B_is_symmetric (fun n cdv A outer s H E hr => d_is_symmetric T h_check_table h_check_square h_exchanged_table hr) fun as _ _ => ⟨fuel as, rfl⟩
theorem has_is_symmetric (T : Txt P K mg base) (h_check_table : Has P w K mg base "check_table" 5 ["table"] F_check_table) (h_check_square : Has P w K mg base "check_square" 1 ["table"] F_check_square) (h_exchanged_table : Has P w K mg base "exchanged_table" 1 ["table"] F_exchanged_table) {f : Addr} {fd : FuncData} (Fu : Fun K "is_symmetric" "is_symmetric" s_is_symmetric f fd) (g : mg "is_symmetric" = some (.ref f)) : Has P w K mg base "is_symmetric" 6 ["table"] F_is_symmetric :=
  ⟨f, fd, g, Fu.kp, (Fu.binds (ps := ["table"]) (fun _ _ _ _ _ _ us hl => match us, hl with | [_], _ => rfl)), ok_is_symmetric T h_check_table h_check_square h_exchanged_table Fu⟩
theorem ok_is_alternating (T : Txt P K mg base) (h_check_table : Has P w K mg base "check_table" 5 ["table"] F_check_table) (h_check_square : Has P w K mg base "check_square" 1 ["table"] F_check_square) (h_exchanged_table : Has P w K mg base "exchanged_table" 1 ["table"] F_exchanged_table) {f : Addr} {fd : FuncData} (Fu : Fun K "is_alternating" "is_alternating" s_is_alternating f fd) : FnG P w K mg base (L2.CX P w) 6 f fd ["table"] (spD K 1 F_is_alternating) :=
  fn_D (N := ["table", "line", "item"]) Fu sc_is_alternating B_is_alternating (fun n cdv A outer s H E hr => d_is_alternating T h_check_table h_check_square h_exchanged_table hr) fun as _ _ => ⟨fuel as, rfl⟩
theorem has_is_alternating (T : Txt P K mg base) (h_check_table : Has P w K mg base "check_table" 5 ["table"] F_check_table) (h_check_square : Has P w K mg base "check_square" 1 ["table"] F_check_square) (h_exchanged_table : Has P w K mg base "exchanged_table" 1 ["table"] F_exchanged_table) {f : Addr} {fd : FuncData} (Fu : Fun K "is_alternating" "is_alternating" s_is_alternating f fd) (g : mg "is_alternating" = some (.ref f)) : Has P w K mg base "is_alternating" 6 ["table"] F_is_alternating :=
  ⟨f, fd, g, Fu.kp, (Fu.binds (ps := ["table"]) (fun _ _ _ _ _ _ us hl => match us, hl with | [_], _ => rfl)), ok_is_alternating T h_check_table h_check_square h_exchanged_table Fu⟩
theorem ok_scalar_product (T : Txt P K mg base)  {f : Addr} {fd : FuncData} (Fu : Fun K "scalar_product" "scalar_product" s_scalar_product f fd) : FnG P w K mg base (L2.CX P w) 1 f fd ["one", "other"] (spD K 2 F_scalar_product) :=
  fn_D (N := ["one", "other", "item", "factor"]) Fu sc_scalar_product B_scalar_product (fun n cdv A outer s H E hr => d_scalar_product T  hr) fun as _ _ => ⟨fuel as, rfl⟩
theorem has_scalar_product (T : Txt P K mg base)  {f : Addr} {fd : FuncData} (Fu : Fun K "scalar_product" "scalar_product" s_scalar_product f fd) (g : mg "scalar_product" = some (.ref f)) : Has P w K mg base "scalar_product" 1 ["one", "other"] F_scalar_product :=
  ⟨f, fd, g, Fu.kp, (Fu.binds (ps := ["one", "other"]) (fun _ _ _ _ _ _ us hl => match us, hl with | [_, _], _ => rfl)), ok_scalar_product T  Fu⟩
theorem ok_product_of (T : Txt P K mg base) (h_exchanged_table : Has P w K mg base "exchanged_table" 1 ["table"] F_exchanged_table) (h_scalar_product : Has P w K mg base "scalar_product" 1 ["one", "other"] F_scalar_product) {f : Addr} {fd : FuncData} (Fu : Fun K "product_of" "product_of" s_product_of f fd) : FnG P w K mg base (L2.CX P w) 2 f fd ["one", "other"] (spD K 2 F_product_of) :=
  fn_D (N := ["one", "other", "columns", "line", "column"]) Fu sc_product_of B_product_of (fun n cdv A outer s H E hr => d_product_of T h_exchanged_table h_scalar_product hr) fun as _ _ => ⟨fuel as, rfl⟩
theorem has_product_of (T : Txt P K mg base) (h_exchanged_table : Has P w K mg base "exchanged_table" 1 ["table"] F_exchanged_table) (h_scalar_product : Has P w K mg base "scalar_product" 1 ["one", "other"] F_scalar_product) {f : Addr} {fd : FuncData} (Fu : Fun K "product_of" "product_of" s_product_of f fd) (g : mg "product_of" = some (.ref f)) : Has P w K mg base "product_of" 2 ["one", "other"] F_product_of :=
  ⟨f, fd, g, Fu.kp, (Fu.binds (ps := ["one", "other"]) (fun _ _ _ _ _ _ us hl => match us, hl with | [_, _], _ => rfl)), ok_product_of T h_exchanged_table h_scalar_product Fu⟩
theorem ok_table_product (T : Txt P K mg base) (h_check_table : Has P w K mg base "check_table" 5 ["table"] F_check_table) (h_product_of : Has P w K mg base "product_of" 2 ["one", "other"] F_product_of) {f : Addr} {fd : FuncData} (Fu : Fun K "table_product" "table_product" s_table_product f fd) : FnG P w K mg base (L2.CX P w) 6 f fd ["one", "other"] (spD K 2 F_table_product) :=
  fn_D (N := ["one", "other"]) Fu sc_table_product B_table_product (fun n cdv A outer s H E hr => d_table_product T h_check_table h_product_of hr) fun as _ _ => ⟨fuel as, rfl⟩
theorem has_table_product (T : Txt P K mg base) (h_check_table : Has P w K mg base "check_table" 5 ["table"] F_check_table) (h_product_of : Has P w K mg base "product_of" 2 ["one", "other"] F_product_of) {f : Addr} {fd : FuncData} (Fu : Fun K "table_product" "table_product" s_table_product f fd) (g : mg "table_product" = some (.ref f)) : Has P w K mg base "table_product" 6 ["one", "other"] F_table_product :=
  ⟨f, fd, g, Fu.kp, (Fu.binds (ps := ["one", "other"]) (fun _ _ _ _ _ _ us hl => match us, hl with | [_, _], _ => rfl)), ok_table_product T h_check_table h_product_of Fu⟩
theorem ok_unit_table (T : Txt P K mg base) (h_check_number : Has P w K mg base "check_number" 6 ["given", "least", "most"] F_check_number) {f : Addr} {fd : FuncData} (Fu : Fun K "unit_table" "unit_table" s_unit_table f fd) : FnG P w K mg base (L2.CX P w) 7 f fd ["size"] (spD K 1 F_unit_table) :=
  fn_D (N := ["size", "row", "column"]) Fu sc_unit_table B_unit_table (fun n cdv A outer s H E hr => d_unit_table T h_check_number hr) fun as _ _ => ⟨fuel as, rfl⟩
theorem has_unit_table (T : Txt P K mg base) (h_check_number : Has P w K mg base "check_number" 6 ["given", "least", "most"] F_check_number) {f : Addr} {fd : FuncData} (Fu : Fun K "unit_table" "unit_table" s_unit_table f fd) (g : mg "unit_table" = some (.ref f)) : Has P w K mg base "unit_table" 7 ["size"] F_unit_table :=
  ⟨f, fd, g, Fu.kp, (Fu.binds (ps := ["size"]) (fun _ _ _ _ _ _ us hl => match us, hl with | [_], _ => rfl)), ok_unit_table T h_check_number Fu⟩
theorem ok_table_power (T : Txt P K mg base) (h_check_table : Has P w K mg base "check_table" 5 ["table"] F_check_table) (h_check_number : Has P w K mg base "check_number" 6 ["given", "least", "most"] F_check_number) (h_check_square : Has P w K mg base "check_square" 1 ["table"] F_check_square) (h_unit_table : Has P w K mg base "unit_table" 7 ["size"] F_unit_table) (h_product_of : Has P w K mg base "product_of" 2 ["one", "other"] F_product_of) {f : Addr} {fd : FuncData} (Fu : Fun K "table_power" "table_power" s_table_power f fd) : FnG P w K mg base (L2.CX P w) 8 f fd ["table", "exponent"] (spD K 2 F_table_power) :=
  fn_D (N := ["table", "exponent", "power", "square", "left"]) Fu sc_table_power B_table_power (fun n cdv A outer s H E hr => d_table_power T h_check_table h_check_number h_check_square h_unit_table h_product_of hr) fun as _ _ => ⟨fuel as, rfl⟩
theorem has_table_power (T : Txt P K mg base) (h_check_table : Has P w K mg base "check_table" 5 ["table"] F_check_table) (h_check_number : Has P w K mg base "check_number" 6 ["given", "least", "most"] F_check_number) (h_check_square : Has P w K mg base "check_square" 1 ["table"] F_check_square) (h_unit_table : Has P w K mg base "unit_table" 7 ["size"] F_unit_table) (h_product_of : Has P w K mg base "product_of" 2 ["one", "other"] F_product_of) {f : Addr} {fd : FuncData} (Fu : Fun K "table_power" "table_power" s_table_power f fd) (g : mg "table_power" = some (.ref f)) : Has P w K mg base "table_power" 8 ["table", "exponent"] F_table_power :=
  ⟨f, fd, g, Fu.kp, (Fu.binds (ps := ["table", "exponent"]) (fun _ _ _ _ _ _ us hl => match us, hl with | [_, _], _ => rfl)), ok_table_power T h_check_table h_check_number h_check_square h_unit_table h_product_of Fu⟩
theorem ok_q_tables_right (T : Txt P K mg base) (h_q_one_of : Has P w K mg base "_law_one_of" 2 ["_law_bag_here", "_law_items"] F_q_one_of) (h_turned_over : Has P w K mg base "turned_over" 6 ["table"] F_turned_over) (h_rank : Has P w K mg base "rank" 7 ["table"] F_rank) (h_kernel : Has P w K mg base "kernel" 6 ["table"] F_kernel) (h_determinant : Has P w K mg base "determinant" 6 ["table"] F_determinant) (h_minors : Has P w K mg base "minors" 6 ["table"] F_minors) (h_is_symmetric : Has P w K mg base "is_symmetric" 6 ["table"] F_is_symmetric) (h_is_alternating : Has P w K mg base "is_alternating" 6 ["table"] F_is_alternating) (h_q_word : LamB P w K mg base true 1 "_law_word" F_q_word) (h_table_product : Has P w K mg base "table_product" 6 ["one", "other"] F_table_product) (h_table_power : Has P w K mg base "table_power" 8 ["table", "exponent"] F_table_power) (h_unit_table : Has P w K mg base "unit_table" 7 ["size"] F_unit_table) {f : Addr} {fd : FuncData} (Fu : Fun K "_law_tables_right" "_law_tables_right" s_q_tables_right f fd) (lb : lamOkB K "_law_tables_right" f = true) : FnG P w K mg base (L2.CX P w) 11 f fd ["_law_bag_here"] (spD K 1 F_q_tables_right) :=
  fn_DL (N := ["_law_bag_here", "_law_told", "_law_number", "_law_due", "_law_call", "_law_flat", "_law_none", "_law_odd", "_law_size", "_law_square"]) Fu sc_q_tables_right B_q_tables_right (fun n cdv A outer s H E hcv hr => d_q_tables_right T h_q_one_of h_turned_over h_rank h_kernel h_determinant h_minors h_is_symmetric h_is_alternating h_q_word h_table_product h_table_power h_unit_table (hcv ▸ lamCode_of lb) hr) fun as _ _ => ⟨fuel as, rfl⟩
theorem has_q_tables_right (T : Txt P K mg base) (h_q_one_of : Has P w K mg base "_law_one_of" 2 ["_law_bag_here", "_law_items"] F_q_one_of) (h_turned_over : Has P w K mg base "turned_over" 6 ["table"] F_turned_over) (h_rank : Has P w K mg base "rank" 7 ["table"] F_rank) (h_kernel : Has P w K mg base "kernel" 6 ["table"] F_kernel) (h_determinant : Has P w K mg base "determinant" 6 ["table"] F_determinant) (h_minors : Has P w K mg base "minors" 6 ["table"] F_minors) (h_is_symmetric : Has P w K mg base "is_symmetric" 6 ["table"] F_is_symmetric) (h_is_alternating : Has P w K mg base "is_alternating" 6 ["table"] F_is_alternating) (h_q_word : LamB P w K mg base true 1 "_law_word" F_q_word) (h_table_product : Has P w K mg base "table_product" 6 ["one", "other"] F_table_product) (h_table_power : Has P w K mg base "table_power" 8 ["table", "exponent"] F_table_power) (h_unit_table : Has P w K mg base "unit_table" 7 ["size"] F_unit_table) {f : Addr} {fd : FuncData} (Fu : Fun K "_law_tables_right" "_law_tables_right" s_q_tables_right f fd) (lb : lamOkB K "_law_tables_right" f = true) (g : mg "_law_tables_right" = some (.ref f)) : Has P w K mg base "_law_tables_right" 11 ["_law_bag_here"] F_q_tables_right :=
  ⟨f, fd, g, Fu.kp, (Fu.binds (ps := ["_law_bag_here"]) (fun _ _ _ _ _ _ us hl => match us, hl with | [_], _ => rfl)), ok_q_tables_right T h_q_one_of h_turned_over h_rank h_kernel h_determinant h_minors h_is_symmetric h_is_alternating h_q_word h_table_product h_table_power h_unit_table Fu lb⟩
theorem ok_law (T : Txt P K mg base) (h_q_bag : Has P w K mg base "_law_bag" 1 ["_law_script", "_law_spot"] F_q_bag) (h_q_word : LamB P w K mg base true 1 "_law_word" F_q_word) (h_q_lines_right : Has P w K mg base "_law_lines_right" 13 ["_law_bag_here"] F_q_lines_right) (h_q_tables_right : Has P w K mg base "_law_tables_right" 11 ["_law_bag_here"] F_q_tables_right) (h_polynomial_product : Has P w K mg base "polynomial_product" 6 ["one", "other"] F_polynomial_product) {f : Addr} {fd : FuncData} (Fu : Fun K "law" "law" s_law f fd) (lb : lamOkB K "law" f = true) : FnG P w K mg base (L2.CX P w) 16 f fd ["_law_script"] (spD K 1 F_law) :=
  fn_DL (N := ["_law_script", "_law_spot", "_law_bag_here"]) Fu sc_law B_law (fun n cdv A outer s H E hcv hr => d_law T h_q_bag h_q_word h_q_lines_right h_q_tables_right h_polynomial_product (hcv ▸ lamCode_of lb) hr) fun as _ _ => ⟨fuel as, rfl⟩
end
theorem all_mk {l : PySem.W.OpenLaw} {w : World} {K : PySem.W.Frag} {h : Heap} {mg : Str → Option Value} {fa f0 f1 f2 f3 f4 f5 f6 f7 f8 f9 f10 f11 f12 f13 f14 f15 f16 f17 f18 f19 f20 f21 f22 f23 f24 f25 f26 f27 f28 f29 f30 f31 f32 f33 f34 f35 f36 f37 f38 f39 f40 f41 f42 f43 f44 f45 f46 f47 f48 f49 f50 f51 f52 f53 f54 f55 f56 f57 f58 : Addr} (X : K.In h) (G : h.Ns mainGlobals mg) (hfa : mg "law" = some (.ref fa)) (tr : l.prog.given.tree = none)
    {od0 an0 od1 an1 od2 an2 od3 an3 od4 an4 od5 an5 od6 an6 od7 an7 od8 an8 od9 an9 od10 an10 od11 an11 od12 an12 od13 an13 od14 an14 od15 an15 od16 an16 od17 an17 od18 an18 od19 an19 od20 an20 od21 an21 od22 an22 od23 an23 od24 an24 od25 an25 od26 an26 od27 an27 od28 an28 od29 an29 od30 an30 od31 an31 od32 an32 od33 an33 od34 an34 od35 an35 od36 an36 od37 an37 od38 an38 od39 an39 od40 an40 od41 an41 od42 an42 od43 an43 od44 an44 od45 an45 od46 an46 od47 an47 od48 an48 od49 an49 od50 an50 od51 an51 od52 an52 od53 an53 od54 an54 od55 an55 od56 an56 od57 an57 od58 an58 : Option Addr} {sl0 sl1 sl2 sl3 sl4 sl5 sl6 sl7 sl8 sl9 sl10 sl11 sl12 sl13 sl14 sl15 sl16 sl17 sl18 sl19 sl20 sl21 sl22 sl23 sl24 sl25 sl26 sl27 sl28 sl29 sl30 sl31 sl32 sl33 sl34 sl35 sl36 sl37 sl38 sl39 sl40 sl41 sl42 sl43 sl44 sl45 sl46 sl47 sl48 sl49 sl50 sl51 sl52 sl53 sl54 sl55 sl56 sl57 sl58 : Array (Option Value)} {oc0 dc0 pm0 cd0 ct0 kV0 oc1 dc1 pm1 cd1 ct1 kV1 oc2 dc2 pm2 cd2 ct2 kV2 oc3 dc3 pm3 cd3 ct3 kV3 oc4 dc4 pm4 cd4 ct4 kV4 oc5 dc5 pm5 cd5 ct5 kV5 oc6 dc6 pm6 cd6 ct6 kV6 oc7 dc7 pm7 cd7 ct7 kV7 oc8 dc8 pm8 cd8 ct8 kV8 oc9 dc9 pm9 cd9 ct9 kV9 oc10 dc10 pm10 cd10 ct10 kV10 oc11 dc11 pm11 cd11 ct11 kV11 oc12 dc12 pm12 cd12 ct12 kV12 oc13 dc13 pm13 cd13 ct13 kV13 oc14 dc14 pm14 cd14 ct14 kV14 oc15 dc15 pm15 cd15 ct15 kV15 oc16 dc16 pm16 cd16 ct16 kV16 oc17 dc17 pm17 cd17 ct17 kV17 oc18 dc18 pm18 cd18 ct18 kV18 oc19 dc19 pm19 cd19 ct19 kV19 oc20 dc20 pm20 cd20 ct20 kV20 oc21 dc21 pm21 cd21 ct21 kV21 oc22 dc22 pm22 cd22 ct22 kV22 oc23 dc23 pm23 cd23 ct23 kV23 oc24 dc24 pm24 cd24 ct24 kV24 oc25 dc25 pm25 cd25 ct25 kV25 oc26 dc26 pm26 cd26 ct26 kV26 oc27 dc27 pm27 cd27 ct27 kV27 oc28 dc28 pm28 cd28 ct28 kV28 oc29 dc29 pm29 cd29 ct29 kV29 oc30 dc30 pm30 cd30 ct30 kV30 oc31 dc31 pm31 cd31 ct31 kV31 oc32 dc32 pm32 cd32 ct32 kV32 oc33 dc33 pm33 cd33 ct33 kV33 oc34 dc34 pm34 cd34 ct34 kV34 oc35 dc35 pm35 cd35 ct35 kV35 oc36 dc36 pm36 cd36 ct36 kV36 oc37 dc37 pm37 cd37 ct37 kV37 oc38 dc38 pm38 cd38 ct38 kV38 oc39 dc39 pm39 cd39 ct39 kV39 oc40 dc40 pm40 cd40 ct40 kV40 oc41 dc41 pm41 cd41 ct41 kV41 oc42 dc42 pm42 cd42 ct42 kV42 oc43 dc43 pm43 cd43 ct43 kV43 oc44 dc44 pm44 cd44 ct44 kV44 oc45 dc45 pm45 cd45 ct45 kV45 oc46 dc46 pm46 cd46 ct46 kV46 oc47 dc47 pm47 cd47 ct47 kV47 oc48 dc48 pm48 cd48 ct48 kV48 oc49 dc49 pm49 cd49 ct49 kV49 oc50 dc50 pm50 cd50 ct50 kV50 oc51 dc51 pm51 cd51 ct51 kV51 oc52 dc52 pm52 cd52 ct52 kV52 oc53 dc53 pm53 cd53 ct53 kV53 oc54 dc54 pm54 cd54 ct54 kV54 oc55 dc55 pm55 cd55 ct55 kV55 oc56 dc56 pm56 cd56 ct56 kV56 oc57 dc57 pm57 cd57 ct57 kV57 oc58 dc58 pm58 cd58 ct58 kV58 : Value}
    {t_MAX_CYCLOTOMIC t_MAX_DEGREE t_MAX_EXPONENT t_MAX_FACTORED t_MAX_INTEGER t_MAX_SIZE t_MOST_ITEM : Tok}
    {X_InvalidOperation X_InvalidPolynomial X_InvalidRatio X_InvalidTable : Addr}
    {X_InvalidNumber xf_InvalidNumber xc_InvalidNumber xd_InvalidNumber : Addr} {xo1_InvalidNumber xo2_InvalidNumber xo3_InvalidNumber : Option Addr} {xs1_InvalidNumber xs2_InvalidNumber xs3_InvalidNumber : Array (Option Value)} {xv_InvalidNumber : Array Value} {xdoc_InvalidNumber xpm_InvalidNumber xct_InvalidNumber xoc2_InvalidNumber xoc3_InvalidNumber : Value} {xfile_InvalidNumber : Str} {xtf_InvalidNumber : Tok}
    {X_TooMany xf_TooMany xc_TooMany xd_TooMany : Addr} {xo1_TooMany xo2_TooMany xo3_TooMany : Option Addr} {xs1_TooMany xs2_TooMany xs3_TooMany : Array (Option Value)} {xv_TooMany : Array Value} {xdoc_TooMany xpm_TooMany xct_TooMany xoc2_TooMany xoc3_TooMany : Value} {xfile_TooMany : Str} {xtf_TooMany : Tok}
    (xa_InvalidOperation : PySem.W.nsIn K mainGlobals "InvalidOperation" = some (some (.ref X_InvalidOperation)))
    (xk_InvalidOperation : PySem.W.keepIn K (.ref X_InvalidOperation) = true)
    (xe_InvalidOperation : PySem.W.excIn K X_InvalidOperation [.type "ValueError", .type "Exception", .type "BaseException", .type "object"] "ValueError.__new__" = true)
    (xb_InvalidOperation : PySem.W.subIn K (.ref X_InvalidOperation) (.type "BaseException") = some true)
    (xt_InvalidOperation : PySem.W.typeIn K (.ref X_InvalidOperation) = some (.type "type"))
    (xa_InvalidPolynomial : PySem.W.nsIn K mainGlobals "InvalidPolynomial" = some (some (.ref X_InvalidPolynomial)))
    (xk_InvalidPolynomial : PySem.W.keepIn K (.ref X_InvalidPolynomial) = true)
    (xe_InvalidPolynomial : PySem.W.excIn K X_InvalidPolynomial [.type "ValueError", .type "Exception", .type "BaseException", .type "object"] "ValueError.__new__" = true)
    (xb_InvalidPolynomial : PySem.W.subIn K (.ref X_InvalidPolynomial) (.type "BaseException") = some true)
    (xt_InvalidPolynomial : PySem.W.typeIn K (.ref X_InvalidPolynomial) = some (.type "type"))
    (xa_InvalidRatio : PySem.W.nsIn K mainGlobals "InvalidRatio" = some (some (.ref X_InvalidRatio)))
    (xk_InvalidRatio : PySem.W.keepIn K (.ref X_InvalidRatio) = true)
    (xe_InvalidRatio : PySem.W.excIn K X_InvalidRatio [.type "ValueError", .type "Exception", .type "BaseException", .type "object"] "ValueError.__new__" = true)
    (xb_InvalidRatio : PySem.W.subIn K (.ref X_InvalidRatio) (.type "BaseException") = some true)
    (xt_InvalidRatio : PySem.W.typeIn K (.ref X_InvalidRatio) = some (.type "type"))
    (xa_InvalidTable : PySem.W.nsIn K mainGlobals "InvalidTable" = some (some (.ref X_InvalidTable)))
    (xk_InvalidTable : PySem.W.keepIn K (.ref X_InvalidTable) = true)
    (xe_InvalidTable : PySem.W.excIn K X_InvalidTable [.type "ValueError", .type "Exception", .type "BaseException", .type "object"] "ValueError.__new__" = true)
    (xb_InvalidTable : PySem.W.subIn K (.ref X_InvalidTable) (.type "BaseException") = some true)
    (xt_InvalidTable : PySem.W.typeIn K (.ref X_InvalidTable) = some (.type "type"))
    (xa_InvalidNumber : PySem.W.nsIn K mainGlobals "InvalidNumber" = some (some (.ref X_InvalidNumber)))
    (yini_InvalidNumber : PySem.W.excInitIn K X_InvalidNumber [.type "IndexError", .type "LookupError", .type "Exception", .type "BaseException", .type "object"] "IndexError.__new__" = true)
    (yov_InvalidNumber : PySem.W.excOver K X_InvalidNumber [.type "IndexError", .type "LookupError", .type "Exception", .type "BaseException", .type "object"] = true)
    (yhd_InvalidNumber : PySem.W.hasDictIn K X_InvalidNumber = true)
    (ysa_InvalidNumber : PySem.W.findIn K (.ref X_InvalidNumber) "__setattr__" = some (some (.builtin "object.__setattr__")))
    (ysB_InvalidNumber : PySem.W.subIn K (.ref X_InvalidNumber) (.type "IndexError") = some true)
    (ysE_InvalidNumber : PySem.W.subIn K (.ref X_InvalidNumber) (.type "BaseException") = some true)
    (yty_InvalidNumber : PySem.W.typeIn K (.ref X_InvalidNumber) = some (.type "type"))
    (ymr_InvalidNumber : PySem.W.mroIn K X_InvalidNumber (.ref X_InvalidNumber) = some true)
    (ysu_InvalidNumber : PySem.W.ks_superIn K X_InvalidNumber X_InvalidNumber "__init__" = some (some (.builtin "IndexError.__init__")))
    (yop_InvalidNumber : PySem.W.nsIn K cStatics "thirdparty.any" = some none)
    (ynf_InvalidNumber : PySem.W.findIn K (.ref X_InvalidNumber) "given" = some none)
    (ykp_InvalidNumber : PySem.W.keepIn K (.ref X_InvalidNumber) = true)
    (yit_InvalidNumber : PySem.W.findIn K (.ref X_InvalidNumber) "__init__" = some (some (.ref xf_InvalidNumber)))
    (yis_InvalidNumber : PySem.W.typeIn K (.ref xf_InvalidNumber) = some (.type "function"))
    (ylk_InvalidNumber : K.lookup xf_InvalidNumber = some ⟨.type "function", xo1_InvalidNumber, .func (PySem.W.fnX "__init__" "InvalidNumber.__init__" (defArgs (inClass (topS 8) 0)) (defBody (inClass (topS 8) 0)) (defScope (inClass (topS 8) 0)) [(("__class__" : Str), xc_InvalidNumber)] .none .none xdoc_InvalidNumber xpm_InvalidNumber none (.ref xd_InvalidNumber) xct_InvalidNumber), xs1_InvalidNumber⟩)
    (yce_InvalidNumber : K.lookup xc_InvalidNumber = some ⟨xoc2_InvalidNumber, xo2_InvalidNumber, .cell (some (.ref X_InvalidNumber)), xs2_InvalidNumber⟩)
    (ycd_InvalidNumber : K.lookup xd_InvalidNumber = some ⟨xoc3_InvalidNumber, xo3_InvalidNumber, .fields xv_InvalidNumber, xs3_InvalidNumber⟩)
    (yvs_InvalidNumber : xv_InvalidNumber[2]? = some (.str xfile_InvalidNumber xtf_InvalidNumber))
    (yfi_InvalidNumber : ((l.prog.main.file : Str) == xfile_InvalidNumber) = true)
    (yci_InvalidNumber : PySem.W.codeIn K (.ref xd_InvalidNumber) "InvalidNumber.__init__" = true)
    (yxf_InvalidNumber : xfB K X_InvalidNumber = true)
    (xa_TooMany : PySem.W.nsIn K mainGlobals "TooMany" = some (some (.ref X_TooMany)))
    (yini_TooMany : PySem.W.excInitIn K X_TooMany [.type "OverflowError", .type "ArithmeticError", .type "Exception", .type "BaseException", .type "object"] "OverflowError.__new__" = true)
    (yov_TooMany : PySem.W.excOver K X_TooMany [.type "OverflowError", .type "ArithmeticError", .type "Exception", .type "BaseException", .type "object"] = true)
    (yhd_TooMany : PySem.W.hasDictIn K X_TooMany = true)
    (ysa_TooMany : PySem.W.findIn K (.ref X_TooMany) "__setattr__" = some (some (.builtin "object.__setattr__")))
    (ysB_TooMany : PySem.W.subIn K (.ref X_TooMany) (.type "OverflowError") = some true)
    (ysE_TooMany : PySem.W.subIn K (.ref X_TooMany) (.type "BaseException") = some true)
    (yty_TooMany : PySem.W.typeIn K (.ref X_TooMany) = some (.type "type"))
    (ymr_TooMany : PySem.W.mroIn K X_TooMany (.ref X_TooMany) = some true)
    (ysu_TooMany : PySem.W.ks_superIn K X_TooMany X_TooMany "__init__" = some (some (.builtin "OverflowError.__init__")))
    (yop_TooMany : PySem.W.nsIn K cStatics "thirdparty.any" = some none)
    (ynf_TooMany : PySem.W.findIn K (.ref X_TooMany) "most" = some none)
    (ykp_TooMany : PySem.W.keepIn K (.ref X_TooMany) = true)
    (yit_TooMany : PySem.W.findIn K (.ref X_TooMany) "__init__" = some (some (.ref xf_TooMany)))
    (yis_TooMany : PySem.W.typeIn K (.ref xf_TooMany) = some (.type "function"))
    (ylk_TooMany : K.lookup xf_TooMany = some ⟨.type "function", xo1_TooMany, .func (PySem.W.fnX "__init__" "TooMany.__init__" (defArgs (inClass (topS 9) 0)) (defBody (inClass (topS 9) 0)) (defScope (inClass (topS 9) 0)) [(("__class__" : Str), xc_TooMany)] .none .none xdoc_TooMany xpm_TooMany none (.ref xd_TooMany) xct_TooMany), xs1_TooMany⟩)
    (yce_TooMany : K.lookup xc_TooMany = some ⟨xoc2_TooMany, xo2_TooMany, .cell (some (.ref X_TooMany)), xs2_TooMany⟩)
    (ycd_TooMany : K.lookup xd_TooMany = some ⟨xoc3_TooMany, xo3_TooMany, .fields xv_TooMany, xs3_TooMany⟩)
    (yvs_TooMany : xv_TooMany[2]? = some (.str xfile_TooMany xtf_TooMany))
    (yfi_TooMany : ((l.prog.main.file : Str) == xfile_TooMany) = true)
    (yci_TooMany : PySem.W.codeIn K (.ref xd_TooMany) "TooMany.__init__" = true)
    (yxf_TooMany : xfB K X_TooMany = true)
    (zms : PySem.W.nsIn K mainGlobals "super" = some none) (zmt : (l.prog.main.scope.names.lookup ("super" : Str)).isSome = false)
    (xmb : xmB K XSN = true)
    (a0 : PySem.W.nsIn K mainGlobals "_law_bag" = some (some (.ref f0))) (l0 : K.lookup f0 = some ⟨oc0, od0, .func (PySem.W.fnOf "_law_bag" "_law_bag" (defArgs s_q_bag) (defBody s_q_bag) (defScope s_q_bag) .none kV0 dc0 pm0 an0 cd0 ct0), sl0⟩) (c0 : PySem.W.codeIn K cd0 "_law_bag" = true) (k0 : PySem.W.keepIn K (.ref f0) = true)
    (a1 : PySem.W.nsIn K mainGlobals "_law_word" = some (some (.ref f1))) (l1 : K.lookup f1 = some ⟨oc1, od1, .func (PySem.W.fnOf "_law_word" "_law_word" (defArgs s_q_word) (defBody s_q_word) (defScope s_q_word) .none kV1 dc1 pm1 an1 cd1 ct1), sl1⟩) (c1 : PySem.W.codeIn K cd1 "_law_word" = true) (k1 : PySem.W.keepIn K (.ref f1) = true)
    (a2 : PySem.W.nsIn K mainGlobals "_law_grab" = some (some (.ref f2))) (l2 : K.lookup f2 = some ⟨oc2, od2, .func (PySem.W.fnOf "_law_grab" "_law_grab" (defArgs s_q_grab) (defBody s_q_grab) (defScope s_q_grab) .none kV2 dc2 pm2 an2 cd2 ct2), sl2⟩) (c2 : PySem.W.codeIn K cd2 "_law_grab" = true) (k2 : PySem.W.keepIn K (.ref f2) = true)
    (a3 : PySem.W.nsIn K mainGlobals "_law_one_of" = some (some (.ref f3))) (l3 : K.lookup f3 = some ⟨oc3, od3, .func (PySem.W.fnOf "_law_one_of" "_law_one_of" (defArgs s_q_one_of) (defBody s_q_one_of) (defScope s_q_one_of) .none kV3 dc3 pm3 an3 cd3 ct3), sl3⟩) (c3 : PySem.W.codeIn K cd3 "_law_one_of" = true) (k3 : PySem.W.keepIn K (.ref f3) = true)
    (a4 : PySem.W.nsIn K mainGlobals "is_long_integer" = some (some (.ref f4))) (l4 : K.lookup f4 = some ⟨oc4, od4, .func (PySem.W.fnOf "is_long_integer" "is_long_integer" (defArgs s_is_long_integer) (defBody s_is_long_integer) (defScope s_is_long_integer) .none kV4 dc4 pm4 an4 cd4 ct4), sl4⟩) (c4 : PySem.W.codeIn K cd4 "is_long_integer" = true) (k4 : PySem.W.keepIn K (.ref f4) = true)
    (a5 : PySem.W.nsIn K mainGlobals "is_integer" = some (some (.ref f5))) (l5 : K.lookup f5 = some ⟨oc5, od5, .func (PySem.W.fnOf "is_integer" "is_integer" (defArgs s_is_integer) (defBody s_is_integer) (defScope s_is_integer) .none kV5 dc5 pm5 an5 cd5 ct5), sl5⟩) (c5 : PySem.W.codeIn K cd5 "is_integer" = true) (k5 : PySem.W.keepIn K (.ref f5) = true)
    (a6 : PySem.W.nsIn K mainGlobals "is_polynomial" = some (some (.ref f6))) (l6 : K.lookup f6 = some ⟨oc6, od6, .func (PySem.W.fnOf "is_polynomial" "is_polynomial" (defArgs s_is_polynomial) (defBody s_is_polynomial) (defScope s_is_polynomial) .none kV6 dc6 pm6 an6 cd6 ct6), sl6⟩) (c6 : PySem.W.codeIn K cd6 "is_polynomial" = true) (k6 : PySem.W.keepIn K (.ref f6) = true)
    (a7 : PySem.W.nsIn K mainGlobals "check_polynomial" = some (some (.ref f7))) (l7 : K.lookup f7 = some ⟨oc7, od7, .func (PySem.W.fnOf "check_polynomial" "check_polynomial" (defArgs s_check_polynomial) (defBody s_check_polynomial) (defScope s_check_polynomial) .none kV7 dc7 pm7 an7 cd7 ct7), sl7⟩) (c7 : PySem.W.codeIn K cd7 "check_polynomial" = true) (k7 : PySem.W.keepIn K (.ref f7) = true)
    (a8 : PySem.W.nsIn K mainGlobals "check_polynomials" = some (some (.ref f8))) (l8 : K.lookup f8 = some ⟨oc8, od8, .func (PySem.W.fnOf "check_polynomials" "check_polynomials" (defArgs s_check_polynomials) (defBody s_check_polynomials) (defScope s_check_polynomials) .none kV8 dc8 pm8 an8 cd8 ct8), sl8⟩) (c8 : PySem.W.codeIn K cd8 "check_polynomials" = true) (k8 : PySem.W.keepIn K (.ref f8) = true)
    (a9 : PySem.W.nsIn K mainGlobals "trimmed" = some (some (.ref f9))) (l9 : K.lookup f9 = some ⟨oc9, od9, .func (PySem.W.fnOf "trimmed" "trimmed" (defArgs s_trimmed) (defBody s_trimmed) (defScope s_trimmed) .none kV9 dc9 pm9 an9 cd9 ct9), sl9⟩) (c9 : PySem.W.codeIn K cd9 "trimmed" = true) (k9 : PySem.W.keepIn K (.ref f9) = true)
    (a10 : PySem.W.nsIn K mainGlobals "polynomial_sum" = some (some (.ref f10))) (l10 : K.lookup f10 = some ⟨oc10, od10, .func (PySem.W.fnOf "polynomial_sum" "polynomial_sum" (defArgs s_polynomial_sum) (defBody s_polynomial_sum) (defScope s_polynomial_sum) .none kV10 dc10 pm10 an10 cd10 ct10), sl10⟩) (c10 : PySem.W.codeIn K cd10 "polynomial_sum" = true) (k10 : PySem.W.keepIn K (.ref f10) = true)
    (a11 : PySem.W.nsIn K mainGlobals "kept" = some (some (.ref f11))) (l11 : K.lookup f11 = some ⟨oc11, od11, .func (PySem.W.fnOf "kept" "kept" (defArgs s_kept) (defBody s_kept) (defScope s_kept) .none kV11 dc11 pm11 an11 cd11 ct11), sl11⟩) (c11 : PySem.W.codeIn K cd11 "kept" = true) (k11 : PySem.W.keepIn K (.ref f11) = true)
    (a12 : PySem.W.nsIn K mainGlobals "polynomial_product" = some (some (.ref f12))) (l12 : K.lookup f12 = some ⟨oc12, od12, .func (PySem.W.fnOf "polynomial_product" "polynomial_product" (defArgs s_polynomial_product) (defBody s_polynomial_product) (defScope s_polynomial_product) .none kV12 dc12 pm12 an12 cd12 ct12), sl12⟩) (c12 : PySem.W.codeIn K cd12 "polynomial_product" = true) (k12 : PySem.W.keepIn K (.ref f12) = true)
    (a13 : PySem.W.nsIn K mainGlobals "divided" = some (some (.ref f13))) (l13 : K.lookup f13 = some ⟨oc13, od13, .func (PySem.W.fnOf "divided" "divided" (defArgs s_divided) (defBody s_divided) (defScope s_divided) .none kV13 dc13 pm13 an13 cd13 ct13), sl13⟩) (c13 : PySem.W.codeIn K cd13 "divided" = true) (k13 : PySem.W.keepIn K (.ref f13) = true)
    (a14 : PySem.W.nsIn K mainGlobals "polynomial_quotient" = some (some (.ref f14))) (l14 : K.lookup f14 = some ⟨oc14, od14, .func (PySem.W.fnOf "polynomial_quotient" "polynomial_quotient" (defArgs s_polynomial_quotient) (defBody s_polynomial_quotient) (defScope s_polynomial_quotient) .none kV14 dc14 pm14 an14 cd14 ct14), sl14⟩) (c14 : PySem.W.codeIn K cd14 "polynomial_quotient" = true) (k14 : PySem.W.keepIn K (.ref f14) = true)
    (a15 : PySem.W.nsIn K mainGlobals "is_long_pair" = some (some (.ref f15))) (l15 : K.lookup f15 = some ⟨oc15, od15, .func (PySem.W.fnOf "is_long_pair" "is_long_pair" (defArgs s_is_long_pair) (defBody s_is_long_pair) (defScope s_is_long_pair) .none kV15 dc15 pm15 an15 cd15 ct15), sl15⟩) (c15 : PySem.W.codeIn K cd15 "is_long_pair" = true) (k15 : PySem.W.keepIn K (.ref f15) = true)
    (a16 : PySem.W.nsIn K mainGlobals "is_long_ratio" = some (some (.ref f16))) (l16 : K.lookup f16 = some ⟨oc16, od16, .func (PySem.W.fnOf "is_long_ratio" "is_long_ratio" (defArgs s_is_long_ratio) (defBody s_is_long_ratio) (defScope s_is_long_ratio) .none kV16 dc16 pm16 an16 cd16 ct16), sl16⟩) (c16 : PySem.W.codeIn K cd16 "is_long_ratio" = true) (k16 : PySem.W.keepIn K (.ref f16) = true)
    (a17 : PySem.W.nsIn K mainGlobals "is_ratio" = some (some (.ref f17))) (l17 : K.lookup f17 = some ⟨oc17, od17, .func (PySem.W.fnOf "is_ratio" "is_ratio" (defArgs s_is_ratio) (defBody s_is_ratio) (defScope s_is_ratio) .none kV17 dc17 pm17 an17 cd17 ct17), sl17⟩) (c17 : PySem.W.codeIn K cd17 "is_ratio" = true) (k17 : PySem.W.keepIn K (.ref f17) = true)
    (a18 : PySem.W.nsIn K mainGlobals "check_ratio" = some (some (.ref f18))) (l18 : K.lookup f18 = some ⟨oc18, od18, .func (PySem.W.fnOf "check_ratio" "check_ratio" (defArgs s_check_ratio) (defBody s_check_ratio) (defScope s_check_ratio) .none kV18 dc18 pm18 an18 cd18 ct18), sl18⟩) (c18 : PySem.W.codeIn K cd18 "check_ratio" = true) (k18 : PySem.W.keepIn K (.ref f18) = true)
    (a19 : PySem.W.nsIn K mainGlobals "reduced" = some (some (.ref f19))) (l19 : K.lookup f19 = some ⟨oc19, od19, .func (PySem.W.fnOf "reduced" "reduced" (defArgs s_reduced) (defBody s_reduced) (defScope s_reduced) .none kV19 dc19 pm19 an19 cd19 ct19), sl19⟩) (c19 : PySem.W.codeIn K cd19 "reduced" = true) (k19 : PySem.W.keepIn K (.ref f19) = true)
    (a20 : PySem.W.nsIn K mainGlobals "polynomial_value" = some (some (.ref f20))) (l20 : K.lookup f20 = some ⟨oc20, od20, .func (PySem.W.fnOf "polynomial_value" "polynomial_value" (defArgs s_polynomial_value) (defBody s_polynomial_value) (defScope s_polynomial_value) .none kV20 dc20 pm20 an20 cd20 ct20), sl20⟩) (c20 : PySem.W.codeIn K cd20 "polynomial_value" = true) (k20 : PySem.W.keepIn K (.ref f20) = true)
    (a21 : PySem.W.nsIn K mainGlobals "is_between" = some (some (.ref f21))) (l21 : K.lookup f21 = some ⟨oc21, od21, .func (PySem.W.fnOf "is_between" "is_between" (defArgs s_is_between) (defBody s_is_between) (defScope s_is_between) .none kV21 dc21 pm21 an21 cd21 ct21), sl21⟩) (c21 : PySem.W.codeIn K cd21 "is_between" = true) (k21 : PySem.W.keepIn K (.ref f21) = true)
    (a22 : PySem.W.nsIn K mainGlobals "check_number" = some (some (.ref f22))) (l22 : K.lookup f22 = some ⟨oc22, od22, .func (PySem.W.fnOf "check_number" "check_number" (defArgs s_check_number) (defBody s_check_number) (defScope s_check_number) .none kV22 dc22 pm22 an22 cd22 ct22), sl22⟩) (c22 : PySem.W.codeIn K cd22 "check_number" = true) (k22 : PySem.W.keepIn K (.ref f22) = true)
    (a23 : PySem.W.nsIn K mainGlobals "prime_factors" = some (some (.ref f23))) (l23 : K.lookup f23 = some ⟨oc23, od23, .func (PySem.W.fnOf "prime_factors" "prime_factors" (defArgs s_prime_factors) (defBody s_prime_factors) (defScope s_prime_factors) .none kV23 dc23 pm23 an23 cd23 ct23), sl23⟩) (c23 : PySem.W.codeIn K cd23 "prime_factors" = true) (k23 : PySem.W.keepIn K (.ref f23) = true)
    (a24 : PySem.W.nsIn K mainGlobals "sign_divisors" = some (some (.ref f24))) (l24 : K.lookup f24 = some ⟨oc24, od24, .func (PySem.W.fnOf "sign_divisors" "sign_divisors" (defArgs s_sign_divisors) (defBody s_sign_divisors) (defScope s_sign_divisors) .none kV24 dc24 pm24 an24 cd24 ct24), sl24⟩) (c24 : PySem.W.codeIn K cd24 "sign_divisors" = true) (k24 : PySem.W.keepIn K (.ref f24) = true)
    (a25 : PySem.W.nsIn K mainGlobals "with_factors" = some (some (.ref f25))) (l25 : K.lookup f25 = some ⟨oc25, od25, .func (PySem.W.fnOf "with_factors" "with_factors" (defArgs s_with_factors) (defBody s_with_factors) (defScope s_with_factors) .none kV25 dc25 pm25 an25 cd25 ct25), sl25⟩) (c25 : PySem.W.codeIn K cd25 "with_factors" = true) (k25 : PySem.W.keepIn K (.ref f25) = true)
    (a26 : PySem.W.nsIn K mainGlobals "totient" = some (some (.ref f26))) (l26 : K.lookup f26 = some ⟨oc26, od26, .func (PySem.W.fnOf "totient" "totient" (defArgs s_totient) (defBody s_totient) (defScope s_totient) .none kV26 dc26 pm26 an26 cd26 ct26), sl26⟩) (c26 : PySem.W.codeIn K cd26 "totient" = true) (k26 : PySem.W.keepIn K (.ref f26) = true)
    (a27 : PySem.W.nsIn K mainGlobals "cyclotomic_product" = some (some (.ref f27))) (l27 : K.lookup f27 = some ⟨oc27, od27, .func (PySem.W.fnOf "cyclotomic_product" "cyclotomic_product" (defArgs s_cyclotomic_product) (defBody s_cyclotomic_product) (defScope s_cyclotomic_product) .none kV27 dc27 pm27 an27 cd27 ct27), sl27⟩) (c27 : PySem.W.codeIn K cd27 "cyclotomic_product" = true) (k27 : PySem.W.keepIn K (.ref f27) = true)
    (a28 : PySem.W.nsIn K mainGlobals "cyclotomic" = some (some (.ref f28))) (l28 : K.lookup f28 = some ⟨oc28, od28, .func (PySem.W.fnOf "cyclotomic" "cyclotomic" (defArgs s_cyclotomic) (defBody s_cyclotomic) (defScope s_cyclotomic) .none kV28 dc28 pm28 an28 cd28 ct28), sl28⟩) (c28 : PySem.W.codeIn K cd28 "cyclotomic" = true) (k28 : PySem.W.keepIn K (.ref f28) = true)
    (a29 : PySem.W.nsIn K mainGlobals "cyclotomic_parts" = some (some (.ref f29))) (l29 : K.lookup f29 = some ⟨oc29, od29, .func (PySem.W.fnOf "cyclotomic_parts" "cyclotomic_parts" (defArgs s_cyclotomic_parts) (defBody s_cyclotomic_parts) (defScope s_cyclotomic_parts) .none kV29 dc29 pm29 an29 cd29 ct29), sl29⟩) (c29 : PySem.W.codeIn K cd29 "cyclotomic_parts" = true) (k29 : PySem.W.keepIn K (.ref f29) = true)
    (a30 : PySem.W.nsIn K mainGlobals "_law_lines_right" = some (some (.ref f30))) (l30 : K.lookup f30 = some ⟨oc30, od30, .func (PySem.W.fnOf "_law_lines_right" "_law_lines_right" (defArgs s_q_lines_right) (defBody s_q_lines_right) (defScope s_q_lines_right) .none kV30 dc30 pm30 an30 cd30 ct30), sl30⟩) (c30 : PySem.W.codeIn K cd30 "_law_lines_right" = true) (k30 : PySem.W.keepIn K (.ref f30) = true)
    (lb30 : lamOkB K "_law_lines_right" f30 = true)
    (a31 : PySem.W.nsIn K mainGlobals "is_table_row" = some (some (.ref f31))) (l31 : K.lookup f31 = some ⟨oc31, od31, .func (PySem.W.fnOf "is_table_row" "is_table_row" (defArgs s_is_table_row) (defBody s_is_table_row) (defScope s_is_table_row) .none kV31 dc31 pm31 an31 cd31 ct31), sl31⟩) (c31 : PySem.W.codeIn K cd31 "is_table_row" = true) (k31 : PySem.W.keepIn K (.ref f31) = true)
    (a32 : PySem.W.nsIn K mainGlobals "is_table" = some (some (.ref f32))) (l32 : K.lookup f32 = some ⟨oc32, od32, .func (PySem.W.fnOf "is_table" "is_table" (defArgs s_is_table) (defBody s_is_table) (defScope s_is_table) .none kV32 dc32 pm32 an32 cd32 ct32), sl32⟩) (c32 : PySem.W.codeIn K cd32 "is_table" = true) (k32 : PySem.W.keepIn K (.ref f32) = true)
    (a33 : PySem.W.nsIn K mainGlobals "check_table" = some (some (.ref f33))) (l33 : K.lookup f33 = some ⟨oc33, od33, .func (PySem.W.fnOf "check_table" "check_table" (defArgs s_check_table) (defBody s_check_table) (defScope s_check_table) .none kV33 dc33 pm33 an33 cd33 ct33), sl33⟩) (c33 : PySem.W.codeIn K cd33 "check_table" = true) (k33 : PySem.W.keepIn K (.ref f33) = true)
    (a34 : PySem.W.nsIn K mainGlobals "exchanged_table" = some (some (.ref f34))) (l34 : K.lookup f34 = some ⟨oc34, od34, .func (PySem.W.fnOf "exchanged_table" "exchanged_table" (defArgs s_exchanged_table) (defBody s_exchanged_table) (defScope s_exchanged_table) .none kV34 dc34 pm34 an34 cd34 ct34), sl34⟩) (c34 : PySem.W.codeIn K cd34 "exchanged_table" = true) (k34 : PySem.W.keepIn K (.ref f34) = true)
    (a35 : PySem.W.nsIn K mainGlobals "turned_over" = some (some (.ref f35))) (l35 : K.lookup f35 = some ⟨oc35, od35, .func (PySem.W.fnOf "turned_over" "turned_over" (defArgs s_turned_over) (defBody s_turned_over) (defScope s_turned_over) .none kV35 dc35 pm35 an35 cd35 ct35), sl35⟩) (c35 : PySem.W.codeIn K cd35 "turned_over" = true) (k35 : PySem.W.keepIn K (.ref f35) = true)
    (a36 : PySem.W.nsIn K mainGlobals "divisor_of_all" = some (some (.ref f36))) (l36 : K.lookup f36 = some ⟨oc36, od36, .func (PySem.W.fnOf "divisor_of_all" "divisor_of_all" (defArgs s_divisor_of_all) (defBody s_divisor_of_all) (defScope s_divisor_of_all) .none kV36 dc36 pm36 an36 cd36 ct36), sl36⟩) (c36 : PySem.W.codeIn K cd36 "divisor_of_all" = true) (k36 : PySem.W.keepIn K (.ref f36) = true)
    (a37 : PySem.W.nsIn K mainGlobals "lead_of" = some (some (.ref f37))) (l37 : K.lookup f37 = some ⟨oc37, od37, .func (PySem.W.fnOf "lead_of" "lead_of" (defArgs s_lead_of) (defBody s_lead_of) (defScope s_lead_of) .none kV37 dc37 pm37 an37 cd37 ct37), sl37⟩) (c37 : PySem.W.codeIn K cd37 "lead_of" = true) (k37 : PySem.W.keepIn K (.ref f37) = true)
    (a38 : PySem.W.nsIn K mainGlobals "simplest" = some (some (.ref f38))) (l38 : K.lookup f38 = some ⟨oc38, od38, .func (PySem.W.fnOf "simplest" "simplest" (defArgs s_simplest) (defBody s_simplest) (defScope s_simplest) .none kV38 dc38 pm38 an38 cd38 ct38), sl38⟩) (c38 : PySem.W.codeIn K cd38 "simplest" = true) (k38 : PySem.W.keepIn K (.ref f38) = true)
    (a39 : PySem.W.nsIn K mainGlobals "cleared" = some (some (.ref f39))) (l39 : K.lookup f39 = some ⟨oc39, od39, .func (PySem.W.fnOf "cleared" "cleared" (defArgs s_cleared) (defBody s_cleared) (defScope s_cleared) .none kV39 dc39 pm39 an39 cd39 ct39), sl39⟩) (c39 : PySem.W.codeIn K cd39 "cleared" = true) (k39 : PySem.W.keepIn K (.ref f39) = true)
    (a40 : PySem.W.nsIn K mainGlobals "echelon" = some (some (.ref f40))) (l40 : K.lookup f40 = some ⟨oc40, od40, .func (PySem.W.fnOf "echelon" "echelon" (defArgs s_echelon) (defBody s_echelon) (defScope s_echelon) .none kV40 dc40 pm40 an40 cd40 ct40), sl40⟩) (c40 : PySem.W.codeIn K cd40 "echelon" = true) (k40 : PySem.W.keepIn K (.ref f40) = true)
    (a41 : PySem.W.nsIn K mainGlobals "kernel_row" = some (some (.ref f41))) (l41 : K.lookup f41 = some ⟨oc41, od41, .func (PySem.W.fnOf "kernel_row" "kernel_row" (defArgs s_kernel_row) (defBody s_kernel_row) (defScope s_kernel_row) .none kV41 dc41 pm41 an41 cd41 ct41), sl41⟩) (c41 : PySem.W.codeIn K cd41 "kernel_row" = true) (k41 : PySem.W.keepIn K (.ref f41) = true)
    (a42 : PySem.W.nsIn K mainGlobals "kernel_of" = some (some (.ref f42))) (l42 : K.lookup f42 = some ⟨oc42, od42, .func (PySem.W.fnOf "kernel_of" "kernel_of" (defArgs s_kernel_of) (defBody s_kernel_of) (defScope s_kernel_of) .none kV42 dc42 pm42 an42 cd42 ct42), sl42⟩) (c42 : PySem.W.codeIn K cd42 "kernel_of" = true) (k42 : PySem.W.keepIn K (.ref f42) = true)
    (a43 : PySem.W.nsIn K mainGlobals "kernel" = some (some (.ref f43))) (l43 : K.lookup f43 = some ⟨oc43, od43, .func (PySem.W.fnOf "kernel" "kernel" (defArgs s_kernel) (defBody s_kernel) (defScope s_kernel) .none kV43 dc43 pm43 an43 cd43 ct43), sl43⟩) (c43 : PySem.W.codeIn K cd43 "kernel" = true) (k43 : PySem.W.keepIn K (.ref f43) = true)
    (a44 : PySem.W.nsIn K mainGlobals "rank" = some (some (.ref f44))) (l44 : K.lookup f44 = some ⟨oc44, od44, .func (PySem.W.fnOf "rank" "rank" (defArgs s_rank) (defBody s_rank) (defScope s_rank) .none kV44 dc44 pm44 an44 cd44 ct44), sl44⟩) (c44 : PySem.W.codeIn K cd44 "rank" = true) (k44 : PySem.W.keepIn K (.ref f44) = true)
    (a45 : PySem.W.nsIn K mainGlobals "check_square" = some (some (.ref f45))) (l45 : K.lookup f45 = some ⟨oc45, od45, .func (PySem.W.fnOf "check_square" "check_square" (defArgs s_check_square) (defBody s_check_square) (defScope s_check_square) .none kV45 dc45 pm45 an45 cd45 ct45), sl45⟩) (c45 : PySem.W.codeIn K cd45 "check_square" = true) (k45 : PySem.W.keepIn K (.ref f45) = true)
    (a46 : PySem.W.nsIn K mainGlobals "reduced_row" = some (some (.ref f46))) (l46 : K.lookup f46 = some ⟨oc46, od46, .func (PySem.W.fnOf "reduced_row" "reduced_row" (defArgs s_reduced_row) (defBody s_reduced_row) (defScope s_reduced_row) .none kV46 dc46 pm46 an46 cd46 ct46), sl46⟩) (c46 : PySem.W.codeIn K cd46 "reduced_row" = true) (k46 : PySem.W.keepIn K (.ref f46) = true)
    (a47 : PySem.W.nsIn K mainGlobals "determinant_of" = some (some (.ref f47))) (l47 : K.lookup f47 = some ⟨oc47, od47, .func (PySem.W.fnOf "determinant_of" "determinant_of" (defArgs s_determinant_of) (defBody s_determinant_of) (defScope s_determinant_of) .none kV47 dc47 pm47 an47 cd47 ct47), sl47⟩) (c47 : PySem.W.codeIn K cd47 "determinant_of" = true) (k47 : PySem.W.keepIn K (.ref f47) = true)
    (a48 : PySem.W.nsIn K mainGlobals "determinant" = some (some (.ref f48))) (l48 : K.lookup f48 = some ⟨oc48, od48, .func (PySem.W.fnOf "determinant" "determinant" (defArgs s_determinant) (defBody s_determinant) (defScope s_determinant) .none kV48 dc48 pm48 an48 cd48 ct48), sl48⟩) (c48 : PySem.W.codeIn K cd48 "determinant" = true) (k48 : PySem.W.keepIn K (.ref f48) = true)
    (a49 : PySem.W.nsIn K mainGlobals "minors" = some (some (.ref f49))) (l49 : K.lookup f49 = some ⟨oc49, od49, .func (PySem.W.fnOf "minors" "minors" (defArgs s_minors) (defBody s_minors) (defScope s_minors) .none kV49 dc49 pm49 an49 cd49 ct49), sl49⟩) (c49 : PySem.W.codeIn K cd49 "minors" = true) (k49 : PySem.W.keepIn K (.ref f49) = true)
    (a50 : PySem.W.nsIn K mainGlobals "is_symmetric" = some (some (.ref f50))) (l50 : K.lookup f50 = some ⟨oc50, od50, .func (PySem.W.fnOf "is_symmetric" "is_symmetric" (defArgs s_is_symmetric) (defBody s_is_symmetric) (defScope s_is_symmetric) .none kV50 dc50 pm50 an50 cd50 ct50), sl50⟩) (c50 : PySem.W.codeIn K cd50 "is_symmetric" = true) (k50 : PySem.W.keepIn K (.ref f50) = true)
    (a51 : PySem.W.nsIn K mainGlobals "is_alternating" = some (some (.ref f51))) (l51 : K.lookup f51 = some ⟨oc51, od51, .func (PySem.W.fnOf "is_alternating" "is_alternating" (defArgs s_is_alternating) (defBody s_is_alternating) (defScope s_is_alternating) .none kV51 dc51 pm51 an51 cd51 ct51), sl51⟩) (c51 : PySem.W.codeIn K cd51 "is_alternating" = true) (k51 : PySem.W.keepIn K (.ref f51) = true)
    (a52 : PySem.W.nsIn K mainGlobals "scalar_product" = some (some (.ref f52))) (l52 : K.lookup f52 = some ⟨oc52, od52, .func (PySem.W.fnOf "scalar_product" "scalar_product" (defArgs s_scalar_product) (defBody s_scalar_product) (defScope s_scalar_product) .none kV52 dc52 pm52 an52 cd52 ct52), sl52⟩) (c52 : PySem.W.codeIn K cd52 "scalar_product" = true) (k52 : PySem.W.keepIn K (.ref f52) = true)
    (a53 : PySem.W.nsIn K mainGlobals "product_of" = some (some (.ref f53))) (l53 : K.lookup f53 = some ⟨oc53, od53, .func (PySem.W.fnOf "product_of" "product_of" (defArgs s_product_of) (defBody s_product_of) (defScope s_product_of) .none kV53 dc53 pm53 an53 cd53 ct53), sl53⟩) (c53 : PySem.W.codeIn K cd53 "product_of" = true) (k53 : PySem.W.keepIn K (.ref f53) = true)
    (a54 : PySem.W.nsIn K mainGlobals "table_product" = some (some (.ref f54))) (l54 : K.lookup f54 = some ⟨oc54, od54, .func (PySem.W.fnOf "table_product" "table_product" (defArgs s_table_product) (defBody s_table_product) (defScope s_table_product) .none kV54 dc54 pm54 an54 cd54 ct54), sl54⟩) (c54 : PySem.W.codeIn K cd54 "table_product" = true) (k54 : PySem.W.keepIn K (.ref f54) = true)
    (a55 : PySem.W.nsIn K mainGlobals "unit_table" = some (some (.ref f55))) (l55 : K.lookup f55 = some ⟨oc55, od55, .func (PySem.W.fnOf "unit_table" "unit_table" (defArgs s_unit_table) (defBody s_unit_table) (defScope s_unit_table) .none kV55 dc55 pm55 an55 cd55 ct55), sl55⟩) (c55 : PySem.W.codeIn K cd55 "unit_table" = true) (k55 : PySem.W.keepIn K (.ref f55) = true)
    (a56 : PySem.W.nsIn K mainGlobals "table_power" = some (some (.ref f56))) (l56 : K.lookup f56 = some ⟨oc56, od56, .func (PySem.W.fnOf "table_power" "table_power" (defArgs s_table_power) (defBody s_table_power) (defScope s_table_power) .none kV56 dc56 pm56 an56 cd56 ct56), sl56⟩) (c56 : PySem.W.codeIn K cd56 "table_power" = true) (k56 : PySem.W.keepIn K (.ref f56) = true)
    (a57 : PySem.W.nsIn K mainGlobals "_law_tables_right" = some (some (.ref f57))) (l57 : K.lookup f57 = some ⟨oc57, od57, .func (PySem.W.fnOf "_law_tables_right" "_law_tables_right" (defArgs s_q_tables_right) (defBody s_q_tables_right) (defScope s_q_tables_right) .none kV57 dc57 pm57 an57 cd57 ct57), sl57⟩) (c57 : PySem.W.codeIn K cd57 "_law_tables_right" = true) (k57 : PySem.W.keepIn K (.ref f57) = true)
    (lb57 : lamOkB K "_law_tables_right" f57 = true)
    (a58 : PySem.W.nsIn K mainGlobals "law" = some (some (.ref f58))) (l58 : K.lookup f58 = some ⟨oc58, od58, .func (PySem.W.fnOf "law" "law" (defArgs s_law) (defBody s_law) (defScope s_law) .none kV58 dc58 pm58 an58 cd58 ct58), sl58⟩) (c58 : PySem.W.codeIn K cd58 "law" = true) (k58 : PySem.W.keepIn K (.ref f58) = true)
    (lb58 : lamOkB K "law" f58 = true)
    (z_abs : PySem.W.nsIn K mainGlobals "abs" = some none)
    (z_all : PySem.W.nsIn K mainGlobals "all" = some none)
    (z_any : PySem.W.nsIn K mainGlobals "any" = some none)
    (z_bool : PySem.W.nsIn K mainGlobals "bool" = some none)
    (z_dict : PySem.W.nsIn K mainGlobals "dict" = some none)
    (z_enumerate : PySem.W.nsIn K mainGlobals "enumerate" = some none)
    (z_int : PySem.W.nsIn K mainGlobals "int" = some none)
    (z_isinstance : PySem.W.nsIn K mainGlobals "isinstance" = some none)
    (z_len : PySem.W.nsIn K mainGlobals "len" = some none)
    (z_list : PySem.W.nsIn K mainGlobals "list" = some none)
    (z_max : PySem.W.nsIn K mainGlobals "max" = some none)
    (z_min : PySem.W.nsIn K mainGlobals "min" = some none)
    (z_range : PySem.W.nsIn K mainGlobals "range" = some none)
    (z_repr : PySem.W.nsIn K mainGlobals "repr" = some none)
    (z_reversed : PySem.W.nsIn K mainGlobals "reversed" = some none)
    (z_sum : PySem.W.nsIn K mainGlobals "sum" = some none)
    (z_tuple : PySem.W.nsIn K mainGlobals "tuple" = some none)
    (z_zip : PySem.W.nsIn K mainGlobals "zip" = some none)
    (q_MAX_CYCLOTOMIC : PySem.W.nsIn K mainGlobals "MAX_CYCLOTOMIC" = some (some (.int 2520 t_MAX_CYCLOTOMIC)))
    (q_MAX_DEGREE : PySem.W.nsIn K mainGlobals "MAX_DEGREE" = some (some (.int 40 t_MAX_DEGREE)))
    (q_MAX_EXPONENT : PySem.W.nsIn K mainGlobals "MAX_EXPONENT" = some (some (.int 60 t_MAX_EXPONENT)))
    (q_MAX_FACTORED : PySem.W.nsIn K mainGlobals "MAX_FACTORED" = some (some (.int 1000000000 t_MAX_FACTORED)))
    (q_MAX_INTEGER : PySem.W.nsIn K mainGlobals "MAX_INTEGER" = some (some (.int 999999999999999999999999999999999999999999999999999999999999 t_MAX_INTEGER)))
    (q_MAX_SIZE : PySem.W.nsIn K mainGlobals "MAX_SIZE" = some (some (.int 12 t_MAX_SIZE)))
    (q_MOST_ITEM : PySem.W.nsIn K mainGlobals "MOST_ITEM" = some (some (.int 1099511627776 t_MOST_ITEM)))
    (m_gcd : PySem.W.nsIn K mainGlobals "gcd" = some (some (.builtin "math.gcd")))
    (m_lcm : PySem.W.nsIn K mainGlobals "lcm" = some (some (.builtin "math.lcm")))
    (lap : apartB (lamMap K) = true)
    : ∃ fd : FuncData, (∀ (s : Shared) (v : Value), BindsTo s fd ⟨[v], []⟩ [("_law_script", v)]) ∧ ∀ base : Heap, K.In base → base.Ns mainGlobals mg → base.NoSeer → (∀ y ∈ lamNames, ∀ c P, PySem.W.tabIn K y = some (c, P) → LamX.TabB base mg c P) → FnG l.prog w K mg base (L2.CX l.prog w) 16 fa fd ["_law_script"] (spD K 1 F_law) := by
  have e := hfa.symm.trans (PySem.W.mg_of X G a58)
  cases e
  refine ⟨PySem.W.fnOf "law" "law" (defArgs s_law) (defBody s_law) (defScope s_law) .none kV58 dc58 pm58 an58 cd58 ct58, fun s v => .of_eq rfl, fun base _ _ hN hLT => ?_⟩
  have hx_InvalidNumber : HasX l.prog K mg "InvalidNumber" "given" := ⟨X_InvalidNumber, xf_InvalidNumber, xc_InvalidNumber, "IndexError", "IndexError.__new__", "IndexError.__init__", [.type "IndexError", .type "LookupError", .type "Exception", .type "BaseException", .type "object"], ⟨"__init__", "InvalidNumber.__init__", defArgs (inClass (topS 8) 0), defBody (inClass (topS 8) 0), defScope (inClass (topS 8) 0), [(("__class__" : Str), xc_InvalidNumber)], xd_InvalidNumber⟩, "given", cv_of xa_InvalidNumber, PySem.W.mg_of X G xa_InvalidNumber,
    ⟨PySem.F.excBase_IndexError, PySem.W.kxs_IndexError, PySem.F.store_IndexError, yini_InvalidNumber, yov_InvalidNumber, yhd_InvalidNumber, ysa_InvalidNumber, ysB_InvalidNumber, ysE_InvalidNumber, yty_InvalidNumber, ymr_InvalidNumber, ysu_InvalidNumber, yop_InvalidNumber, ynf_InvalidNumber, ykp_InvalidNumber⟩,
    ⟨yit_InvalidNumber, yis_InvalidNumber, ⟨_, _, _, _, _, ylk_InvalidNumber⟩, rfl, ⟨_, _, _, yce_InvalidNumber⟩, ⟨_, _, _, _, _, _, ycd_InvalidNumber, yvs_InvalidNumber, yfi_InvalidNumber⟩, yci_InvalidNumber, NdefX.nscope_by (by rfl), ⟨_, _, _, _, _, _, _, _, _, _, _, _, _, _, rfl, fun env => ⟨_, rfl⟩⟩, by rfl, by rfl, ⟨_, rfl, rfl⟩, fun doc pm ct us hl => match us, hl with | [_, _], _ => rfl, PySem.W.mg_none_of X G zms, zmt, ⟨by decide, by decide⟩⟩, xfB_ok yxf_InvalidNumber⟩
  have hx_TooMany : HasX l.prog K mg "TooMany" "most" := ⟨X_TooMany, xf_TooMany, xc_TooMany, "OverflowError", "OverflowError.__new__", "OverflowError.__init__", [.type "OverflowError", .type "ArithmeticError", .type "Exception", .type "BaseException", .type "object"], ⟨"__init__", "TooMany.__init__", defArgs (inClass (topS 9) 0), defBody (inClass (topS 9) 0), defScope (inClass (topS 9) 0), [(("__class__" : Str), xc_TooMany)], xd_TooMany⟩, "most", cv_of xa_TooMany, PySem.W.mg_of X G xa_TooMany,
    ⟨PySem.F.excBase_OverflowError, PySem.W.kxs_OverflowError, PySem.F.store_OverflowError, yini_TooMany, yov_TooMany, yhd_TooMany, ysa_TooMany, ysB_TooMany, ysE_TooMany, yty_TooMany, ymr_TooMany, ysu_TooMany, yop_TooMany, ynf_TooMany, ykp_TooMany⟩,
    ⟨yit_TooMany, yis_TooMany, ⟨_, _, _, _, _, ylk_TooMany⟩, rfl, ⟨_, _, _, yce_TooMany⟩, ⟨_, _, _, _, _, _, ycd_TooMany, yvs_TooMany, yfi_TooMany⟩, yci_TooMany, NdefX.nscope_by (by rfl), ⟨_, _, _, _, _, _, _, _, _, _, _, _, _, _, rfl, fun env => ⟨_, rfl⟩⟩, by rfl, by rfl, ⟨_, rfl, rfl⟩, fun doc pm ct us hl => match us, hl with | [_, _], _ => rfl, PySem.W.mg_none_of X G zms, zmt, ⟨by decide, by decide⟩⟩, xfB_ok yxf_TooMany⟩
  have T : Txt l.prog K mg base := { seer := hN, tree := tr, lamT := hLT, lamA := lap, b_abs := PySem.W.mg_none_of X G z_abs, b_all := PySem.W.mg_none_of X G z_all, b_any := PySem.W.mg_none_of X G z_any, b_bool := PySem.W.mg_none_of X G z_bool, b_dict := PySem.W.mg_none_of X G z_dict, b_enumerate := PySem.W.mg_none_of X G z_enumerate, b_int := PySem.W.mg_none_of X G z_int, b_isinstance := PySem.W.mg_none_of X G z_isinstance, b_len := PySem.W.mg_none_of X G z_len, b_list := PySem.W.mg_none_of X G z_list, b_max := PySem.W.mg_none_of X G z_max, b_min := PySem.W.mg_none_of X G z_min, b_range := PySem.W.mg_none_of X G z_range, b_repr := PySem.W.mg_none_of X G z_repr, b_reversed := PySem.W.mg_none_of X G z_reversed, b_sum := PySem.W.mg_none_of X G z_sum, b_tuple := PySem.W.mg_none_of X G z_tuple, b_zip := PySem.W.mg_none_of X G z_zip, c_MAX_CYCLOTOMIC := ⟨t_MAX_CYCLOTOMIC, PySem.W.mg_of X G q_MAX_CYCLOTOMIC⟩, c_MAX_DEGREE := ⟨t_MAX_DEGREE, PySem.W.mg_of X G q_MAX_DEGREE⟩, c_MAX_EXPONENT := ⟨t_MAX_EXPONENT, PySem.W.mg_of X G q_MAX_EXPONENT⟩, c_MAX_FACTORED := ⟨t_MAX_FACTORED, PySem.W.mg_of X G q_MAX_FACTORED⟩, c_MAX_INTEGER := ⟨t_MAX_INTEGER, PySem.W.mg_of X G q_MAX_INTEGER⟩, c_MAX_SIZE := ⟨t_MAX_SIZE, PySem.W.mg_of X G q_MAX_SIZE⟩, c_MOST_ITEM := ⟨t_MOST_ITEM, PySem.W.mg_of X G q_MOST_ITEM⟩, m_gcd := PySem.W.mg_of X G m_gcd, m_lcm := PySem.W.mg_of X G m_lcm, v_determinant := ⟨_, PySem.W.mg_of X G a48, a48⟩, v_is_alternating := ⟨_, PySem.W.mg_of X G a51, a51⟩, v_is_symmetric := ⟨_, PySem.W.mg_of X G a50, a50⟩, v_kernel := ⟨_, PySem.W.mg_of X G a43, a43⟩, v_minors := ⟨_, PySem.W.mg_of X G a49, a49⟩, v_rank := ⟨_, PySem.W.mg_of X G a44, a44⟩, v_turned_over := ⟨_, PySem.W.mg_of X G a35, a35⟩, e_InvalidOperation := ⟨_, _, _, _, _, cv_of xa_InvalidOperation, PySem.W.mg_of X G xa_InvalidOperation, xk_InvalidOperation, PySem.F.excBase_ValueError, xe_InvalidOperation, xb_InvalidOperation, xt_InvalidOperation⟩, e_InvalidPolynomial := ⟨_, _, _, _, _, cv_of xa_InvalidPolynomial, PySem.W.mg_of X G xa_InvalidPolynomial, xk_InvalidPolynomial, PySem.F.excBase_ValueError, xe_InvalidPolynomial, xb_InvalidPolynomial, xt_InvalidPolynomial⟩, e_InvalidRatio := ⟨_, _, _, _, _, cv_of xa_InvalidRatio, PySem.W.mg_of X G xa_InvalidRatio, xk_InvalidRatio, PySem.F.excBase_ValueError, xe_InvalidRatio, xb_InvalidRatio, xt_InvalidRatio⟩, e_InvalidTable := ⟨_, _, _, _, _, cv_of xa_InvalidTable, PySem.W.mg_of X G xa_InvalidTable, xk_InvalidTable, PySem.F.excBase_ValueError, xe_InvalidTable, xb_InvalidTable, xt_InvalidTable⟩, x_InvalidNumber := hx_InvalidNumber, x_TooMany := hx_TooMany, xm := xm_of xmb }
  have h_q_bag : Has l.prog w K mg base "_law_bag" 1 ["_law_script", "_law_spot"] F_q_bag := has_q_bag T  (fun_mk (st := s_q_bag) l0 c0 k0) (PySem.W.mg_of X G a0)
  have h_q_word : LamB l.prog w K mg base true 1 "_law_word" F_q_word := has_q_word T  (fun_mk (st := s_q_word) l1 c1 k1) (PySem.W.mg_of X G a1)
  have h_q_grab : Has l.prog w K mg base "_law_grab" 1 ["_law_bag_here", "_law_total"] F_q_grab := has_q_grab T  (fun_mk (st := s_q_grab) l2 c2 k2) (PySem.W.mg_of X G a2)
  have h_q_one_of : Has l.prog w K mg base "_law_one_of" 2 ["_law_bag_here", "_law_items"] F_q_one_of := has_q_one_of T h_q_grab (fun_mk (st := s_q_one_of) l3 c3 k3) (PySem.W.mg_of X G a3)
  have h_is_long_integer : Has l.prog w K mg base "is_long_integer" 1 ["value"] F_is_long_integer := has_is_long_integer T  (fun_mk (st := s_is_long_integer) l4 c4 k4) (PySem.W.mg_of X G a4)
  have h_is_integer : Has l.prog w K mg base "is_integer" 2 ["value"] F_is_integer := has_is_integer T h_is_long_integer (fun_mk (st := s_is_integer) l5 c5 k5) (PySem.W.mg_of X G a5)
  have h_is_polynomial : Has l.prog w K mg base "is_polynomial" 3 ["value"] F_is_polynomial := has_is_polynomial T h_is_integer (fun_mk (st := s_is_polynomial) l6 c6 k6) (PySem.W.mg_of X G a6)
  have h_check_polynomial : Has l.prog w K mg base "check_polynomial" 4 ["polynomial"] F_check_polynomial := has_check_polynomial T h_is_polynomial (fun_mk (st := s_check_polynomial) l7 c7 k7) (PySem.W.mg_of X G a7)
  have h_check_polynomials : Has l.prog w K mg base "check_polynomials" 5 ["one", "other"] F_check_polynomials := has_check_polynomials T h_check_polynomial (fun_mk (st := s_check_polynomials) l8 c8 k8) (PySem.W.mg_of X G a8)
  have h_trimmed : Has l.prog w K mg base "trimmed" 1 ["items"] F_trimmed := has_trimmed T  (fun_mk (st := s_trimmed) l9 c9 k9) (PySem.W.mg_of X G a9)
  have h_polynomial_sum : Has l.prog w K mg base "polynomial_sum" 6 ["one", "other"] F_polynomial_sum := has_polynomial_sum T h_check_polynomials h_trimmed (fun_mk (st := s_polynomial_sum) l10 c10 k10) (PySem.W.mg_of X G a10)
  have h_kept : Has l.prog w K mg base "kept" 3 ["value"] F_kept := has_kept T  (fun_mk (st := s_kept) l11 c11 k11) (PySem.W.mg_of X G a11)
  have h_polynomial_product : Has l.prog w K mg base "polynomial_product" 6 ["one", "other"] F_polynomial_product := has_polynomial_product T h_check_polynomials h_trimmed h_kept (fun_mk (st := s_polynomial_product) l12 c12 k12) (PySem.W.mg_of X G a12)
  have h_divided : Has l.prog w K mg base "divided" 1 ["one", "other"] F_divided := has_divided T  (fun_mk (st := s_divided) l13 c13 k13) (PySem.W.mg_of X G a13)
  have h_polynomial_quotient : Has l.prog w K mg base "polynomial_quotient" 6 ["one", "other"] F_polynomial_quotient := has_polynomial_quotient T h_check_polynomials h_divided (fun_mk (st := s_polynomial_quotient) l14 c14 k14) (PySem.W.mg_of X G a14)
  have h_is_long_pair : Has l.prog w K mg base "is_long_pair" 2 ["value"] F_is_long_pair := has_is_long_pair T h_is_long_integer (fun_mk (st := s_is_long_pair) l15 c15 k15) (PySem.W.mg_of X G a15)
  have h_is_long_ratio : Has l.prog w K mg base "is_long_ratio" 3 ["value"] F_is_long_ratio := has_is_long_ratio T h_is_long_pair (fun_mk (st := s_is_long_ratio) l16 c16 k16) (PySem.W.mg_of X G a16)
  have h_is_ratio : Has l.prog w K mg base "is_ratio" 4 ["value"] F_is_ratio := has_is_ratio T h_is_long_ratio h_is_integer (fun_mk (st := s_is_ratio) l17 c17 k17) (PySem.W.mg_of X G a17)
  have h_check_ratio : Has l.prog w K mg base "check_ratio" 5 ["ratio"] F_check_ratio := has_check_ratio T h_is_ratio (fun_mk (st := s_check_ratio) l18 c18 k18) (PySem.W.mg_of X G a18)
  have h_reduced : Has l.prog w K mg base "reduced" 1 ["top", "bottom"] F_reduced := has_reduced T  (fun_mk (st := s_reduced) l19 c19 k19) (PySem.W.mg_of X G a19)
  have h_polynomial_value : Has l.prog w K mg base "polynomial_value" 6 ["polynomial", "ratio"] F_polynomial_value := has_polynomial_value T h_check_polynomial h_check_ratio h_reduced (fun_mk (st := s_polynomial_value) l20 c20 k20) (PySem.W.mg_of X G a20)
  have h_is_between : Has l.prog w K mg base "is_between" 3 ["value", "least", "most"] F_is_between := has_is_between T h_is_integer (fun_mk (st := s_is_between) l21 c21 k21) (PySem.W.mg_of X G a21)
  have h_check_number : Has l.prog w K mg base "check_number" 6 ["given", "least", "most"] F_check_number := has_check_number T h_kept h_is_between (fun_mk (st := s_check_number) l22 c22 k22) (PySem.W.mg_of X G a22)
  have h_prime_factors : Has l.prog w K mg base "prime_factors" 7 ["number"] F_prime_factors := has_prime_factors T h_check_number (fun_mk (st := s_prime_factors) l23 c23 k23) (PySem.W.mg_of X G a23)
  have h_sign_divisors : Has l.prog w K mg base "sign_divisors" 8 ["number"] F_sign_divisors := has_sign_divisors T h_prime_factors (fun_mk (st := s_sign_divisors) l24 c24 k24) (PySem.W.mg_of X G a24)
  have h_with_factors : Has l.prog w K mg base "with_factors" 1 ["items", "divisor", "power"] F_with_factors := has_with_factors T  (fun_mk (st := s_with_factors) l25 c25 k25) (PySem.W.mg_of X G a25)
  have h_totient : Has l.prog w K mg base "totient" 8 ["number"] F_totient := has_totient T h_prime_factors (fun_mk (st := s_totient) l26 c26 k26) (PySem.W.mg_of X G a26)
  have h_cyclotomic_product : Has l.prog w K mg base "cyclotomic_product" 9 ["parts"] F_cyclotomic_product := has_cyclotomic_product T h_sign_divisors h_with_factors h_totient (fun_mk (st := s_cyclotomic_product) l27 c27 k27) (PySem.W.mg_of X G a27)
  have h_cyclotomic : Has l.prog w K mg base "cyclotomic" 10 ["number"] F_cyclotomic := has_cyclotomic T h_check_number h_kept h_cyclotomic_product h_totient (fun_mk (st := s_cyclotomic) l28 c28 k28) (PySem.W.mg_of X G a28)
  have h_cyclotomic_parts : Has l.prog w K mg base "cyclotomic_parts" 5 ["polynomial"] F_cyclotomic_parts := has_cyclotomic_parts T h_check_polynomial (fun_mk (st := s_cyclotomic_parts) l29 c29 k29) (PySem.W.mg_of X G a29)
  have h_q_lines_right : Has l.prog w K mg base "_law_lines_right" 13 ["_law_bag_here"] F_q_lines_right := has_q_lines_right T h_q_one_of h_q_word h_polynomial_sum h_polynomial_product h_polynomial_quotient h_polynomial_value h_cyclotomic h_cyclotomic_parts (fun_mk (st := s_q_lines_right) l30 c30 k30) lb30 (PySem.W.mg_of X G a30)
  have h_is_table_row : Has l.prog w K mg base "is_table_row" 3 ["value"] F_is_table_row := has_is_table_row T h_is_integer (fun_mk (st := s_is_table_row) l31 c31 k31) (PySem.W.mg_of X G a31)
  have h_is_table : Has l.prog w K mg base "is_table" 4 ["value"] F_is_table := has_is_table T h_is_table_row (fun_mk (st := s_is_table) l32 c32 k32) (PySem.W.mg_of X G a32)
  have h_check_table : Has l.prog w K mg base "check_table" 5 ["table"] F_check_table := has_check_table T h_is_table (fun_mk (st := s_check_table) l33 c33 k33) (PySem.W.mg_of X G a33)
  have h_exchanged_table : Has l.prog w K mg base "exchanged_table" 1 ["table"] F_exchanged_table := has_exchanged_table T  (fun_mk (st := s_exchanged_table) l34 c34 k34) (PySem.W.mg_of X G a34)
  have h_turned_over : Has l.prog w K mg base "turned_over" 6 ["table"] F_turned_over := has_turned_over T h_check_table h_exchanged_table (fun_mk (st := s_turned_over) l35 c35 k35) (PySem.W.mg_of X G a35)
  have h_divisor_of_all : Has l.prog w K mg base "divisor_of_all" 1 ["numbers"] F_divisor_of_all := has_divisor_of_all T  (fun_mk (st := s_divisor_of_all) l36 c36 k36) (PySem.W.mg_of X G a36)
  have h_lead_of : Has l.prog w K mg base "lead_of" 1 ["line"] F_lead_of := has_lead_of T  (fun_mk (st := s_lead_of) l37 c37 k37) (PySem.W.mg_of X G a37)
  have h_simplest : Has l.prog w K mg base "simplest" 2 ["line"] F_simplest := has_simplest T h_divisor_of_all h_lead_of (fun_mk (st := s_simplest) l38 c38 k38) (PySem.W.mg_of X G a38)
  have h_cleared : Has l.prog w K mg base "cleared" 3 ["line", "pivot", "index"] F_cleared := has_cleared T h_simplest (fun_mk (st := s_cleared) l39 c39 k39) (PySem.W.mg_of X G a39)
  have h_echelon : Has l.prog w K mg base "echelon" 4 ["table"] F_echelon := has_echelon T h_simplest h_cleared (fun_mk (st := s_echelon) l40 c40 k40) (PySem.W.mg_of X G a40)
  have h_kernel_row : Has l.prog w K mg base "kernel_row" 1 ["lines", "leads", "free", "width"] F_kernel_row := has_kernel_row T  (fun_mk (st := s_kernel_row) l41 c41 k41) (PySem.W.mg_of X G a41)
  have h_kernel_of : Has l.prog w K mg base "kernel_of" 5 ["table", "width"] F_kernel_of := has_kernel_of T h_echelon h_lead_of h_kernel_row (fun_mk (st := s_kernel_of) l42 c42 k42) (PySem.W.mg_of X G a42)
  have h_kernel : Has l.prog w K mg base "kernel" 6 ["table"] F_kernel := has_kernel T h_check_table h_kernel_of (fun_mk (st := s_kernel) l43 c43 k43) (PySem.W.mg_of X G a43)
  have h_rank : Has l.prog w K mg base "rank" 7 ["table"] F_rank := has_rank T h_check_table h_kernel (fun_mk (st := s_rank) l44 c44 k44) (PySem.W.mg_of X G a44)
  have h_check_square : Has l.prog w K mg base "check_square" 1 ["table"] F_check_square := has_check_square T  (fun_mk (st := s_check_square) l45 c45 k45) (PySem.W.mg_of X G a45)
  have h_reduced_row : Has l.prog w K mg base "reduced_row" 1 ["line", "pivot", "before"] F_reduced_row := has_reduced_row T  (fun_mk (st := s_reduced_row) l46 c46 k46) (PySem.W.mg_of X G a46)
  have h_determinant_of : Has l.prog w K mg base "determinant_of" 2 ["lines"] F_determinant_of := has_determinant_of T h_reduced_row (fun_mk (st := s_determinant_of) l47 c47 k47) (PySem.W.mg_of X G a47)
  have h_determinant : Has l.prog w K mg base "determinant" 6 ["table"] F_determinant := has_determinant T h_check_table h_check_square h_determinant_of (fun_mk (st := s_determinant) l48 c48 k48) (PySem.W.mg_of X G a48)
  have h_minors : Has l.prog w K mg base "minors" 6 ["table"] F_minors := has_minors T h_check_table h_check_square h_determinant_of (fun_mk (st := s_minors) l49 c49 k49) (PySem.W.mg_of X G a49)
  have h_is_symmetric : Has l.prog w K mg base "is_symmetric" 6 ["table"] F_is_symmetric := has_is_symmetric T h_check_table h_check_square h_exchanged_table (fun_mk (st := s_is_symmetric) l50 c50 k50) (PySem.W.mg_of X G a50)
  have h_is_alternating : Has l.prog w K mg base "is_alternating" 6 ["table"] F_is_alternating := has_is_alternating T h_check_table h_check_square h_exchanged_table (fun_mk (st := s_is_alternating) l51 c51 k51) (PySem.W.mg_of X G a51)
  have h_scalar_product : Has l.prog w K mg base "scalar_product" 1 ["one", "other"] F_scalar_product := has_scalar_product T  (fun_mk (st := s_scalar_product) l52 c52 k52) (PySem.W.mg_of X G a52)
  have h_product_of : Has l.prog w K mg base "product_of" 2 ["one", "other"] F_product_of := has_product_of T h_exchanged_table h_scalar_product (fun_mk (st := s_product_of) l53 c53 k53) (PySem.W.mg_of X G a53)
  have h_table_product : Has l.prog w K mg base "table_product" 6 ["one", "other"] F_table_product := has_table_product T h_check_table h_product_of (fun_mk (st := s_table_product) l54 c54 k54) (PySem.W.mg_of X G a54)
  have h_unit_table : Has l.prog w K mg base "unit_table" 7 ["size"] F_unit_table := has_unit_table T h_check_number (fun_mk (st := s_unit_table) l55 c55 k55) (PySem.W.mg_of X G a55)
  have h_table_power : Has l.prog w K mg base "table_power" 8 ["table", "exponent"] F_table_power := has_table_power T h_check_table h_check_number h_check_square h_unit_table h_product_of (fun_mk (st := s_table_power) l56 c56 k56) (PySem.W.mg_of X G a56)
  have h_q_tables_right : Has l.prog w K mg base "_law_tables_right" 11 ["_law_bag_here"] F_q_tables_right := has_q_tables_right T h_q_one_of h_turned_over h_rank h_kernel h_determinant h_minors h_is_symmetric h_is_alternating h_q_word h_table_product h_table_power h_unit_table (fun_mk (st := s_q_tables_right) l57 c57 k57) lb57 (PySem.W.mg_of X G a57)
  exact ok_law T h_q_bag h_q_word h_q_lines_right h_q_tables_right h_polynomial_product (fun_mk (st := s_law) l58 c58 k58) lb58
end K08

namespace DF
open PySem PySem.Spec PyProof.Rows L2
structure Ps where
  nx : DEnv → Prop := fun _ => False
  ct : DEnv → Prop := fun _ => False
  bk : DEnv → Prop := fun _ => False
  rt : DEnv → Bool → D → Prop := fun _ _ _ => False
noncomputable def wpD (r : SR) (E : Ps) : Prop := match r with
  | .nx ρ => E.nx ρ
  | .cnt ρ => E.ct ρ
  | .brk ρ => E.bk ρ
  | .ret ρ fr d => E.rt ρ fr d
  | _ => False
structure Wp (r : SR) (E : Ps) : Prop where
  run : wpD r E
theorem Wp.imp {r : SR} {E F : Ps} (h : Wp r E) (h1 : ∀ ρ, E.nx ρ → F.nx ρ) (h2 : ∀ ρ, E.ct ρ → F.ct ρ) (h3 : ∀ ρ, E.bk ρ → F.bk ρ) (h4 : ∀ ρ fr d, E.rt ρ fr d → F.rt ρ fr d) : Wp r F := by
  obtain ⟨h⟩ := h
  constructor
  cases r with
  | nx ρ => exact h1 _ h
  | cnt ρ => exact h2 _ h
  | brk ρ => exact h3 _ h
  | ret ρ fr d => exact h4 _ _ _ h
  | no => exact h
  | ex ρ e => exact h
section
variable {f g : DEnv → SR} {ρ ρ' : DEnv} {E : Ps} {Q : DEnv → Prop} {fr : Bool} {d : D}
theorem wp_nx (h : f ρ = .nx ρ') (k : E.nx ρ') : Wp (f ρ) E := ⟨by rw [h]; exact k⟩
theorem wp_rt (h : f ρ = .ret ρ' fr d) (k : E.rt ρ' fr d) : Wp (f ρ) E := ⟨by rw [h]; exact k⟩
theorem dSeq_nx (h : f ρ = .nx ρ') : dSeq f g ρ = g ρ' := by
  show (f ρ).bind g = _
  rw [h]; rfl
theorem wp_seq (h : f ρ = .nx ρ') (k : Wp (g ρ') E) : Wp (dSeq f g ρ) E := by
  rw [dSeq_nx h]; exact k
theorem wp_seqW (h : Wp (f ρ) { E with nx := Q }) (k : ∀ ρ', Q ρ' → Wp (g ρ') E) : Wp (dSeq f g ρ) E := by
  obtain ⟨h⟩ := h
  cases e : f ρ with
  | nx ρ1 => rw [e] at h; rw [dSeq_nx e]; exact k _ h
  | _ =>
    rw [e] at h
    constructor
    show wpD ((f ρ).bind g) E
    rw [e]
    exact h
theorem wp_forL {t : Tg} {b : DEnv → SR} (Inv : List D → DEnv → Prop) (hs : ∀ x l ρ, Inv (x :: l) ρ → ∃ ρ1, t x ρ = some ρ1 ∧ Wp (b ρ1) { nx := Inv l, ct := Inv l, bk := E.nx, rt := E.rt }) (hN : ∀ ρ, Inv [] ρ → E.nx ρ) :
    ∀ (l : List D) (ρ : DEnv), Inv l ρ → Wp (dFor t b l ρ) E
  | [], ρ, h => ⟨hN ρ h⟩
  | x :: l, ρ, h => by
    obtain ⟨ρ1, e, w⟩ := hs x l ρ h
    unfold dFor
    rw [e]
    dsimp only
    obtain ⟨w⟩ := w
    cases q : b ρ1 with
    | nx ρ => rw [q] at w; exact wp_forL Inv hs hN l ρ w
    | cnt ρ => rw [q] at w; exact wp_forL Inv hs hN l ρ w
    | brk ρ => rw [q] at w; exact ⟨w⟩
    | ret ρ fr d => rw [q] at w; exact ⟨w⟩
    | no => rw [q] at w; exact ⟨w⟩
    | ex ρ x => rw [q] at w; exact ⟨w⟩
theorem wp_for {ι : Type} {t : Tg} {b : DEnv → SR} (enc : ι → D) (Inv : List ι → DEnv → Prop) (hs : ∀ x l ρ, Inv (x :: l) ρ → ∃ ρ1, t (enc x) ρ = some ρ1 ∧ Wp (b ρ1) { nx := Inv l, ct := Inv l, bk := E.nx, rt := E.rt }) (hN : ∀ ρ, Inv [] ρ → E.nx ρ)
    (l : List ι) (ρ : DEnv) (h : Inv l ρ) : Wp (dFor t b (l.map enc) ρ) E :=
  wp_forL (fun ds ρ => ∃ l, ds = l.map enc ∧ Inv l ρ) (fun x ds ρ ⟨l, e, h⟩ => by
    cases l with
    | nil => cases e
    | cons y l =>
      rw [List.map_cons] at e
      cases e
      obtain ⟨ρ1, e1, w⟩ := hs y l ρ h
      exact ⟨ρ1, e1, w.imp (fun _ q => ⟨l, rfl, q⟩) (fun _ q => ⟨l, rfl, q⟩) (fun _ q => q) fun _ _ _ q => q⟩)
    (fun ρ ⟨l, e, h⟩ => by
      cases l with
      | nil => exact hN ρ h
      | cons y l => cases e) _ ρ ⟨l, rfl, h⟩
theorem wp_forS {s : DEnv → R (List D)} {t : Tg} {b : DEnv → SR} {l : List D} (e : s ρ = .ok ρ' l) (h : Wp (dFor t b l ρ') E) : Wp (dForS s t b ρ) E := by
  have : dForS s t b ρ = dFor t b l ρ' := by
    show (s ρ).bindS _ = _
    rw [e]; rfl
  rw [this]; exact h
theorem fn_of {as : List (Bool × D)} {r : SR} {P : FRes → Prop} (h : Wp r { rt := fun ρ fr d => ∃ l, outs ρ 0 as = some l ∧ P (.ret fr d l), nx := fun ρ => ∃ l, outs ρ 0 as = some l ∧ P (.ret false .non l) }) : P (fnRes as r) := by
  obtain ⟨h⟩ := h
  cases r with
  | nx ρ => obtain ⟨l, e, p⟩ := h; unfold fnRes; simp only [e]; exact p
  | ret ρ fr d => obtain ⟨l, e, p⟩ := h; unfold fnRes; simp only [e]; exact p
  | cnt ρ => exact False.elim h
  | brk ρ => exact False.elim h
  | no => exact False.elim h
  | ex ρ x => exact False.elim h
end
end DF

namespace DF
open PySem PySem.Spec PyProof.Rows L2
@[simp] theorem dDc_ap (s : DEnv → R (List D)) (g : Tg) (t : DEnv → R Bool) (fk fv : DEnv → R D) (vs : List Nat) (ρ : DEnv) : dDc s g t fk fv vs ρ = (s ρ).bind fun l ρ1 => if noMu ρ1 vs = true then dDcGo g t fk fv vs l [] (wipeE ρ1 vs) else .no := id rfl
@[simp] theorem sSeq_ap (f : DEnv → R D) (ρ : DEnv) : sSeq f ρ = (f ρ).bind fun d ρ' => match seqOf d with
  | some l => .ok ρ' l
  | none => .no := id rfl
end DF

set_option exponentiation.threshold 5000
namespace K08
open PySem DF
theorem log2_lt {n k : Nat} (hk : 0 < k) (h : n < 2 ^ k) : n.log2 < k := by
  by_cases h0 : n = 0
  · subst h0; simpa using hk
  · exact (Nat.log2_lt h0).mpr h
noncomputable def Sm (i : Int) : Prop := i.natAbs < 2 ^ 4000
set_option exponentiation.threshold 5000 in
theorem sm_of {i : Int} (h : i.natAbs ≤ 10 ^ 700) : Sm i := Nat.lt_of_le_of_lt h (by decide)
theorem cm {i j : Int} (hi : Sm i) (hj : Sm j) : cMul i j = true := by
  unfold cMul
  have := log2_lt (by decide) hi
  have := log2_lt (by decide) hj
  exact decide_eq_true (by omega)
theorem cd {i j : Int} (h0 : j ≠ 0) (hj : Sm j) : cDiv i j = true := by
  unfold cDiv
  have := log2_lt (by decide) hj
  rw [Bool.and_eq_true]
  exact ⟨decide_eq_true h0, decide_eq_true (by omega)⟩
theorem fm {a b : Int} (hb : 0 < b) : a.fmod b = a % b := Int.fmod_eq_emod_of_nonneg _ (Int.le_of_lt hb)
theorem fd {a b : Int} (hb : 0 ≤ b) : a.fdiv b = a / b := Int.fdiv_eq_ediv_of_nonneg _ hb
structure Bag (n : Nat) (d : D) : Prop where
  ex : ∃ x y z : Int, d = .lst [.int x, .int y, .int z] ∧ 0 ≤ y ∧ y < 2 ^ 61 ∧ 0 ≤ z ∧ z ≤ n
theorem Bag.mono {n m : Nat} {d : D} (h : Bag n d) (hm : n ≤ m) : Bag m d := by
  obtain ⟨x, y, z, e, h1, h2, h3, h4⟩ := h.ex
  exact ⟨x, y, z, e, h1, h2, h3, by omega⟩
theorem e_grab {n : Nat} {d : D} {t : Int} (h : Bag n d) (hn : n ≤ 1000000) (ht : 0 < t) (hs : Sm t) : ∃ (r : Int) (d' : D), 0 ≤ r ∧ r < t ∧ Bag (n + 1) d' ∧ F_q_grab [(true, d), (false, .int t)] = .ret false (.int r) [d'] := by
  obtain ⟨x, y, z, rfl, hy0, hy1, hz0, hz1⟩ := h.ex
  have hmod := modD_ap (i := x) (j := t) (by omega)
  have hdiv := divD_ap (cd (i := x) (show t ≠ 0 by omega) hs)
  by_cases hx : 0 < x
  · refine ⟨x.fmod t, .lst [.int (x.fdiv t), .int y, .int z], by rw [fm ht]; exact Int.emod_nonneg _ (by omega), by rw [fm ht]; exact Int.emod_lt_of_pos _ ht, ⟨_, y, z, rfl, hy0, hy1, hz0, by omega⟩, ?_⟩
    unfold F_q_grab B_q_grab
    simp [eqY_int, neY_int, max2_ap, min2_ap, DF.R.bind_ok, DF.R.bindS_ok, DF.R.bindN_ok, DF.SR.bind_nx, DF.SR.bind_ret, ofO, ths, setV, setF, free, set2, set3, fnRes, startE, startC, outs, argsD, putD, ioIx, isMu, look, DF.muL, ltD_ap, leD_ap, gtD_ap, geD_ap, addD_ap, subD_ap, negD_ap, absD_ap, intD_ap, intD_apB, eq_int, ne_int, ixD, L2.atI, L2.ixN, lenD, gcdD, max2D, min2D, hx, hmod, hdiv]
  · have e1 := mulD_ap (i := 1048637) (j := z + 1) (cm (sm_of (by decide)) (sm_of (by omega)))
    have e2 := modD_ap (i := y + 1048637 * (z + 1)) (j := 2305843009213693951) (by decide)
    have b2 : 0 ≤ (y + 1048637 * (z + 1)).fmod 2305843009213693951 ∧ (y + 1048637 * (z + 1)).fmod 2305843009213693951 < 2305843009213693951 := by
      rw [fm (by decide)]; exact ⟨Int.emod_nonneg _ (by decide), Int.emod_lt_of_pos _ (by decide)⟩
    generalize eo : (y + 1048637 * (z + 1)).fmod 2305843009213693951 = o at e2 b2
    have so : Sm o := sm_of (by omega)
    have e3 := mulD_ap (i := o) (j := o) (cm so so)
    have e4 := modD_ap (i := o * o) (j := 2305843009213693723) (by decide)
    have b4 : 0 ≤ (o * o).fmod 2305843009213693723 ∧ (o * o).fmod 2305843009213693723 < 2305843009213693723 := by
      rw [fm (by decide)]; exact ⟨Int.emod_nonneg _ (by decide), Int.emod_lt_of_pos _ (by decide)⟩
    generalize eq : (o * o).fmod 2305843009213693723 = q at e4 b4
    have sq : Sm q := sm_of (by omega)
    have e5 := mulD_ap (i := q) (j := o) (cm sq so)
    have e6 := mulD_ap (i := 8161) (j := z + 1) (cm (sm_of (by decide)) (sm_of (by omega)))
    generalize ew : q * o + 8161 * (z + 1) = w
    have e7 := modD_ap (i := w) (j := 2305843009213693921) (by decide)
    have b7 : 0 ≤ w.fmod 2305843009213693921 := by rw [fm (by decide)]; exact Int.emod_nonneg _ (by decide)
    generalize eu : w.fmod 2305843009213693921 = u at e7 b7
    have e8 := divD_ap (i := u) (j := 16384) (cd (by decide) (sm_of (by decide)))
    have e9 := modD_ap (i := u.fdiv 16384) (j := t) (by omega)
    refine ⟨(u.fdiv 16384).fmod t, .lst [.int x, .int y, .int (z + 1)], by rw [fm ht]; exact Int.emod_nonneg _ (by omega), by rw [fm ht]; exact Int.emod_lt_of_pos _ ht, ⟨_, y, z + 1, rfl, hy0, hy1, by omega, by omega⟩, ?_⟩
    unfold F_q_grab B_q_grab
    simp [eqY_int, neY_int, max2_ap, min2_ap, DF.R.bind_ok, DF.R.bindS_ok, DF.R.bindN_ok, DF.SR.bind_nx, DF.SR.bind_ret, ofO, ths, setV, setF, free, set2, set3, fnRes, startE, startC, outs, argsD, putD, ioIx, isMu, look, DF.muL, ltD_ap, leD_ap, gtD_ap, geD_ap, addD_ap, subD_ap, negD_ap, absD_ap, intD_ap, intD_apB, eq_int, ne_int, ixD, L2.atI, L2.ixN, lenD, gcdD, max2D, min2D, hx, e1, e2, e3, e4, e5, e6, e7, e8, e9, ew]
theorem p45l : powD (.int 10) (.int 45) = some (.int 1000000000000000000000000000000000000000000000) := powD_ap (by decide +kernel)
theorem p585 : powD (.int 1000000000000000000000000000000000000000000000) (.int 13) = some (.int 1000000000000000000000000000000000000000000000000000000000000000000000000000000000000000000000000000000000000000000000000000000000000000000000000000000000000000000000000000000000000000000000000000000000000000000000000000000000000000000000000000000000000000000000000000000000000000000000000000000000000000000000000000000000000000000000000000000000000000000000000000000000000000000000000000000000000000000000000000000000000000000000000000000000000000000000000000000000000000000000000000000000000000000000000000000000000000000000000000000000000000000000000000000000000000000000000000000000) := powD_ap (by decide +kernel)
theorem p18l : powD (.int 10) (.int 18) = some (.int 1000000000000000000) := powD_ap (by decide +kernel)
theorem bg0 (ns : List Int) (k : Nat) (h : k < ns.length ∨ (ns = [] ∧ k = 0)) : ∃ c : Int, (dSet 2 (dIte (dTst (dBin ltD (oVar 1) (oD (dCal lenD (aCons (oVar 0) (aNil)))))) (dBin ixD (oVar 0) (oVar 1)) (dBin addD (oD (dBin addD (oD (dCal sumAD (aCons (oD (dCut none (some 1) (oVar 0))) (aNil)))) (oD (dBin mulD (oD (dC (.int 151))) (oVar 1))))) (oD (dC (.int 89)))))) [some (.val (.fro (ns.map D.int))), some (.val (.int (k : Int))), none, none, none] = .nx [some (.val (.fro (ns.map D.int))), some (.val (.int (k : Int))), some (.val (.int c)), none, none] := by
  rcases h with h | ⟨rfl, rfl⟩
  · refine ⟨ns[k], ?_⟩
    have h' : (k : Int) < (ns.length : Int) := by omega
    simp [eqY_int, neY_int, max2_ap, min2_ap, DF.R.bind_ok, DF.R.bindS_ok, DF.R.bindN_ok, DF.SR.bind_nx, DF.SR.bind_ret, ofO, ths, setV, setF, free, set2, set3, fnRes, startE, startC, outs, argsD, putD, ioIx, isMu, look, DF.muL, ltD_ap, leD_ap, gtD_ap, geD_ap, addD_ap, subD_ap, negD_ap, absD_ap, intD_ap, intD_apB, eq_int, ne_int, ixD, L2.atI, L2.ixN, lenD, gcdD, max2D, min2D, h', h]
  · exact ⟨89, rfl⟩
theorem bg1 (c0 c1 : Option Cell) (c : Int) : ∃ g : Int, (dSet 3 (dBin modD (oD (dCal intD (aCons (oD (dCal absD (aCons (oVar 2) (aNil)))) (aNil)))) (oD (dBin powD (oD (dBin powD (oD (dC (.int 10))) (oD (dC (.int 45))))) (oD (dC (.int 13))))))) [c0, c1, some (.val (.int c)), none, none] = .nx [c0, c1, some (.val (.int c)), some (.val (.int g)), none] := by
  have h := modD_ap (i := (c.natAbs : Int)) (j := 1000000000000000000000000000000000000000000000000000000000000000000000000000000000000000000000000000000000000000000000000000000000000000000000000000000000000000000000000000000000000000000000000000000000000000000000000000000000000000000000000000000000000000000000000000000000000000000000000000000000000000000000000000000000000000000000000000000000000000000000000000000000000000000000000000000000000000000000000000000000000000000000000000000000000000000000000000000000000000000000000000000000000000000000000000000000000000000000000000000000000000000000000000000000000000000000000000000000) (by decide)
  refine ⟨(c.natAbs : Int).fmod 1000000000000000000000000000000000000000000000000000000000000000000000000000000000000000000000000000000000000000000000000000000000000000000000000000000000000000000000000000000000000000000000000000000000000000000000000000000000000000000000000000000000000000000000000000000000000000000000000000000000000000000000000000000000000000000000000000000000000000000000000000000000000000000000000000000000000000000000000000000000000000000000000000000000000000000000000000000000000000000000000000000000000000000000000000000000000000000000000000000000000000000000000000000000000000000000000000000000, ?_⟩
  generalize (c.natAbs : Int).fmod 1000000000000000000000000000000000000000000000000000000000000000000000000000000000000000000000000000000000000000000000000000000000000000000000000000000000000000000000000000000000000000000000000000000000000000000000000000000000000000000000000000000000000000000000000000000000000000000000000000000000000000000000000000000000000000000000000000000000000000000000000000000000000000000000000000000000000000000000000000000000000000000000000000000000000000000000000000000000000000000000000000000000000000000000000000000000000000000000000000000000000000000000000000000000000000000000000000000000 = g at *
  simp [eqY_int, neY_int, max2_ap, min2_ap, DF.R.bind_ok, DF.R.bindS_ok, DF.R.bindN_ok, DF.SR.bind_nx, DF.SR.bind_ret, ofO, ths, setV, setF, free, set2, set3, fnRes, startE, startC, outs, argsD, putD, ioIx, isMu, look, DF.muL, ltD_ap, leD_ap, gtD_ap, geD_ap, addD_ap, subD_ap, negD_ap, absD_ap, intD_ap, intD_apB, eq_int, ne_int, ixD, L2.atI, L2.ixN, lenD, gcdD, max2D, min2D, p45l, p585, h]
theorem bg2 (c0 : Option Cell) (k : Nat) (hk : k ≤ 2) (c g : Int) : ∃ m : Int, (dSet 4 (dBin addD (oD (dBin addD (oD (dBin addD (oD (dBin mulD (oD (dBin modD (oD (dCal intD (aCons (oVar 3) (aNil)))) (oD (dC (.int 2305843009213693723))))) (oD (dC (.int 1000457))))) (oD (dBin mulD (oD (dC (.int 9029))) (oVar 1))))) (oD (dBin mulD (oD (dC (.int 53))) (oD (dCal intD (aCons (oD (dBin ltD (oVar 2) (oD (dC (.int 0))))) (aNil)))))))) (oD (dC (.int 37))))) [c0, some (.val (.int (k : Int))), some (.val (.int c)), some (.val (.int g)), none] = .nx [c0, some (.val (.int (k : Int))), some (.val (.int c)), some (.val (.int g)), some (.val (.int m))] := by
  have h1 := modD_ap (i := g) (j := 2305843009213693723) (by decide)
  have b1 : 0 ≤ g.fmod 2305843009213693723 ∧ g.fmod 2305843009213693723 < 2305843009213693723 := by
    rw [fm (by decide)]; exact ⟨Int.emod_nonneg _ (by decide), Int.emod_lt_of_pos _ (by decide)⟩
  generalize g.fmod 2305843009213693723 = q at *
  have m1 := mulD_ap (i := q) (j := 1000457) (cm (sm_of (by omega)) (sm_of (by decide)))
  have m2 := mulD_ap (i := 9029) (j := (k : Int)) (cm (sm_of (by decide)) (sm_of (by omega)))
  have m3 := mulD_ap (i := 53) (j := 1) (cm (sm_of (by decide)) (sm_of (by decide)))
  have m4 := mulD_ap (i := 53) (j := 0) (cm (sm_of (by decide)) (sm_of (by decide)))
  by_cases hc : c < 0
  · refine ⟨q * 1000457 + 9029 * k + 53 * 1 + 37, ?_⟩
    simp [eqY_int, neY_int, max2_ap, min2_ap, DF.R.bind_ok, DF.R.bindS_ok, DF.R.bindN_ok, DF.SR.bind_nx, DF.SR.bind_ret, ofO, ths, setV, setF, free, set2, set3, fnRes, startE, startC, outs, argsD, putD, ioIx, isMu, look, DF.muL, ltD_ap, leD_ap, gtD_ap, geD_ap, addD_ap, subD_ap, negD_ap, absD_ap, intD_ap, intD_apB, eq_int, ne_int, ixD, L2.atI, L2.ixN, lenD, gcdD, max2D, min2D, h1, m1, m2, m3, hc]
  · refine ⟨q * 1000457 + 9029 * k + 53 * 0 + 37, ?_⟩
    simp [eqY_int, neY_int, max2_ap, min2_ap, DF.R.bind_ok, DF.R.bindS_ok, DF.R.bindN_ok, DF.SR.bind_nx, DF.SR.bind_ret, ofO, ths, setV, setF, free, set2, set3, fnRes, startE, startC, outs, argsD, putD, ioIx, isMu, look, DF.muL, ltD_ap, leD_ap, gtD_ap, geD_ap, addD_ap, subD_ap, negD_ap, absD_ap, intD_ap, intD_apB, eq_int, ne_int, ixD, L2.atI, L2.ixN, lenD, gcdD, max2D, min2D, h1, m1, m2, m4, hc]
theorem bg3 (c0 c1 c2 : Option Cell) (g m : Int) : ∃ x y : Int, 0 ≤ y ∧ y < 2 ^ 61 ∧ (dRetF (dLst (vCons (dCal (orC max2D maxSD) (aCons (oD (dC (.int 0))) (aCons (oD (dBin subD (oVar 3) (oD (dBin powD (oD (dC (.int 10))) (oD (dC (.int 18))))))) (aNil)))) (vCons (dBin modD (oD (dCal intD (aCons (oVar 4) (aNil)))) (oD (dC (.int 2305843009213693951)))) (vCons (dC (.int 0)) (vNil)))))) [c0, c1, c2, some (.val (.int g)), some (.val (.int m))] = .ret [c0, c1, c2, some (.val (.int g)), some (.val (.int m))] true (.lst [.int x, .int y, .int 0]) := by
  have h1 := modD_ap (i := m) (j := 2305843009213693951) (by decide)
  have b1 : 0 ≤ m.fmod 2305843009213693951 ∧ m.fmod 2305843009213693951 < 2305843009213693951 := by
    rw [fm (by decide)]; exact ⟨Int.emod_nonneg _ (by decide), Int.emod_lt_of_pos _ (by decide)⟩
  generalize m.fmod 2305843009213693951 = q at *
  refine ⟨if g - 1000000000000000000 > 0 then g - 1000000000000000000 else 0, q, b1.1, by omega, ?_⟩
  simp [eqY_int, neY_int, max2_ap, min2_ap, DF.R.bind_ok, DF.R.bindS_ok, DF.R.bindN_ok, DF.SR.bind_nx, DF.SR.bind_ret, ofO, ths, setV, setF, free, set2, set3, fnRes, startE, startC, outs, argsD, putD, ioIx, isMu, look, DF.muL, ltD_ap, leD_ap, gtD_ap, geD_ap, addD_ap, subD_ap, negD_ap, absD_ap, intD_ap, intD_apB, eq_int, ne_int, ixD, L2.atI, L2.ixN, lenD, gcdD, max2D, min2D, h1, p18l]
theorem e_bag (ns : List Int) (k : Nat) (h : k < ns.length ∨ (ns = [] ∧ k = 0)) (hk : k ≤ 2) : ∃ d, Bag 0 d ∧ F_q_bag [(false, .fro (ns.map D.int)), (false, .int (k : Int))] = .ret true d [] := by
  obtain ⟨c, s0⟩ := bg0 ns k h
  obtain ⟨g, s1⟩ := bg1 (some (.val (.fro (ns.map D.int)))) (some (.val (.int (k : Int)))) c
  obtain ⟨m, s2⟩ := bg2 (some (.val (.fro (ns.map D.int)))) k hk c g
  obtain ⟨x, y, hy0, hy1, s3⟩ := bg3 (some (.val (.fro (ns.map D.int)))) (some (.val (.int (k : Int)))) (some (.val (.int c))) g m
  refine ⟨.lst [.int x, .int y, .int 0], ⟨x, y, 0, rfl, hy0, hy1, by decide, by decide⟩, ?_⟩
  have hs : startE 5 [(false, .fro (ns.map D.int)), (false, .int (k : Int))] = [some (.val (.fro (ns.map D.int))), some (.val (.int (k : Int))), none, none, none] := rfl
  unfold F_q_bag B_q_bag
  rw [hs, dSeq_ap, s0, SR.bind_nx, dSeq_ap, s1, SR.bind_nx, dSeq_ap, s2, SR.bind_nx, s3]
  rfl
theorem e_one {n : Nat} {d : D} {l : List D} (h : Bag n d) (hn : n ≤ 1000000) (hl : 0 < l.length) (hl2 : l.length < 1000000) : ∃ (r : Nat) (d' : D) (x : D), l[r]? = some x ∧ Bag (n + 1) d' ∧ F_q_one_of [(true, d), (false, .lst l)] = .ret false x [d'] := by
  obtain ⟨r, d', h0, h1, hb, e⟩ := e_grab (t := l.length) h hn (by omega) (sm_of (by omega))
  obtain ⟨k, rfl⟩ : ∃ k : Nat, r = k := ⟨r.toNat, by omega⟩
  have hk : k < l.length := by omega
  refine ⟨k, d', l[k], List.getElem?_eq_getElem hk, hb, ?_⟩
  unfold F_q_one_of B_q_one_of
  simp [eqY_int, neY_int, max2_ap, min2_ap, DF.R.bind_ok, DF.R.bindS_ok, DF.R.bindN_ok, DF.SR.bind_nx, DF.SR.bind_ret, ofO, ths, setV, setF, free, set2, set3, fnRes, startE, startC, outs, argsD, putD, ioIx, isMu, look, DF.muL, ltD_ap, leD_ap, gtD_ap, geD_ap, addD_ap, subD_ap, negD_ap, absD_ap, intD_ap, intD_apB, eq_int, ne_int, ixD, L2.atI, L2.ixN, lenD, gcdD, max2D, min2D, e, hk]

end K08

set_option exponentiation.threshold 5000
namespace K08
open PySem DF

noncomputable def rs (x : D) : Str := match rprW [x] with
  | some (.str s) => s
  | _ => Str.empty
noncomputable def NU (x : D) : D := .str (Str.ofString "number " ++ rs x)
noncomputable def PO : D := .str (Str.ofString "polynomial")
noncomputable def TB : D := .str (Str.ofString "table")
noncomputable def RA : D := .str (Str.ofString "ratio")
noncomputable def OP : D := .str (Str.ofString "operation")
noncomputable def FI : D := .str (Str.ofString "fine")
noncomputable def M40 : D := .str (Str.ofString "many 40")
theorem draw {i : Nat} {fl : DEnv → R D} {ρ : DEnv} {L : List D} {d d' x : D} (h : fl ρ = .ok ρ (.lst L)) (h0 : ρ[0]? = some (some (.mu true d))) (e : F_q_one_of [(true, d), (false, .lst L)] = .ret false x [d']) :
    dSet i (dV (dCal2 2 F_q_one_of (rIo 0 (rVal fl rNil)))) ρ = (match setV i x (ρ.set 0 (some (.mu true d'))) with | none => .no | some ρ2 => .nx ρ2) := by
  simp [eqY_int, neY_int, max2_ap, min2_ap, DF.R.bind_ok, DF.R.bindS_ok, DF.R.bindN_ok, DF.SR.bind_nx, DF.SR.bind_ret, ofO, ths, setV, setF, free, set2, set3, fnRes, startE, startC, outs, argsD, putD, ioIx, isMu, look, DF.muL, ltD_ap, leD_ap, gtD_ap, geD_ap, addD_ap, subD_ap, negD_ap, absD_ap, intD_ap, intD_apB, eq_int, ne_int, ixD, L2.atI, L2.ixN, lenD, gcdD, max2D, min2D, h, h0, e] <;> rfl

noncomputable def LN : List D := [.non, .tup [], .tup [.int 1, .int 0], .lst [.int 1, .int 1], .tup [.bl true], .tup [.int 1, .int 1, .int 1, .int 1, .int 1, .int 1, .int 1, .int 1, .int 1, .int 1, .int 1, .int 1, .int 1, .int 1, .int 1, .int 1, .int 1, .int 1, .int 1, .int 1, .int 1, .int 1, .int 1, .int 1, .int 1, .int 1, .int 1, .int 1, .int 1, .int 1, .int 1, .int 1, .int 1, .int 1, .int 1, .int 1, .int 1, .int 1, .int 1, .int 1, .int 1, .int 1], .str (Str.ofString "1"), .int 5, .tup [.int 1000000000000000000000000000000000000000000000000000000000000], .tup [.tup [.int 1]], .tup [.non, .int 1], .dic []]
noncomputable def LO : List D := [.non, .int 1, .tup [.int 1], .tup [.int 1, .int 0], .tup [.int 2, .int 4], .tup [.int 1, .int (-1)], .tup [.bl true, .int 1], .lst [.int 1, .int 2], .tup [.int 1, .int 2, .int 3], .str (Str.ofString "1/2"), .tup [.int 1000000000000000000000000000000000000000000000000000000000000, .int 1], .tup [.int 0, .int 2]]
noncomputable def LB : List D := [.non, .int 0, .int (-1), .int 2521, .bl true, .str (Str.ofString "6"), .tup [.int 6], .int 1000000000000000000000000000000000000000000000000000000000000]
noncomputable def TN : List D := [.non, .tup [], .tup [.tup []], .tup [.tup [.int 1, .int 2], .tup [.int 3]], .lst [.lst [.int 1]], .tup [.tup [.bl true]], .tup [.tup [.int 0, .int 0, .int 0, .int 0, .int 0, .int 0, .int 0, .int 0, .int 0, .int 0, .int 0, .int 0, .int 0]], .tup [.tup [.int 0], .tup [.int 0], .tup [.int 0], .tup [.int 0], .tup [.int 0], .tup [.int 0], .tup [.int 0], .tup [.int 0], .tup [.int 0], .tup [.int 0], .tup [.int 0], .tup [.int 0], .tup [.int 0]], .str (Str.ofString "1"), .int 4, .tup [.tup [.int 1000000000000000000000000000000000000000000000000000000000000]], .dic []]
noncomputable def TO : List D := [.non, .int (-1), .int 61, .bl true, .str (Str.ofString "2"), .tup [.int 2], .int 1000000000000000000000000000000000000000000000000000000000000]
noncomputable def TS : List D := [.non, .int 0, .int 13, .int (-3), .bl true, .str (Str.ofString "3"), .lst [.int 2]]
noncomputable def LINE : D := .tup [.int 1, .int 1, .int 2]
noncomputable def HALF : D := .tup [.int 1, .int 0, .int 3, .int 1, .int 0, .int 3, .int 1, .int 0, .int 3, .int 1, .int 0, .int 3, .int 1, .int 0, .int 3, .int 1, .int 0, .int 3, .int 1, .int 0, .int 3]
noncomputable def FLAT : D := .tup [.tup [.int 1, .int 2, .int 3]]
noncomputable def SQ : D := .tup [.tup [.int 1, .int 2], .tup [.int 3, .int 4]]
theorem q_lines_right_0  {n : Nat} {d : D} (h : Bag n d) (hn : n ≤ 1000) : ∃ d' x, x ∈ LN ∧ Bag (n + 1) d' ∧ (dSet 6 (dV (dCal2 2 F_q_one_of (rIo 0 (rVal (dLst (vCons (dC .non) (vCons (dTup (vNil)) (vCons (dTup (vCons (dC (.int 1)) (vCons (dC (.int 0)) (vNil)))) (vCons (dLst (vCons (dC (.int 1)) (vCons (dC (.int 1)) (vNil)))) (vCons (dTup (vCons (dC (.bl true)) (vNil))) (vCons (dBin mulD (oD (dTup (vCons (dC (.int 1)) (vNil)))) (oD (dC (.int 42)))) (vCons (dC (.str (Str.ofString "1"))) (vCons (dC (.int 5)) (vCons (dTup (vCons (dBin powD (oD (dC (.int 10))) (oD (dC (.int 60)))) (vNil))) (vCons (dTup (vCons (dTup (vCons (dC (.int 1)) (vNil))) (vNil))) (vCons (dTup (vCons (dC .non) (vCons (dC (.int 1)) (vNil)))) (vCons (dDic0) (vNil)))))))))))))) (rNil)))))) [some (.mu true d), none, none, none, none, none, none, none] = .nx [some (.mu true d'), none, none, none, none, none, some (.val x), none] := by
  obtain ⟨r, d', x, e1, e2, e3⟩ := e_one (l := LN) h (by omega) (by decide) (by decide)
  refine ⟨d', x, List.mem_of_getElem? e1, e2, (draw (L := LN) (d := d) (d' := d') (x := x) (by kernel_rfl) rfl e3).trans ?_⟩
  rfl
theorem q_lines_right_1 (c6 : Option Cell) {n : Nat} {d : D} (h : Bag n d) (hn : n ≤ 1000) : ∃ d' x, x ∈ LO ∧ Bag (n + 1) d' ∧ (dSet 7 (dV (dCal2 2 F_q_one_of (rIo 0 (rVal (dLst (vCons (dC .non) (vCons (dC (.int 1)) (vCons (dTup (vCons (dC (.int 1)) (vNil))) (vCons (dTup (vCons (dC (.int 1)) (vCons (dC (.int 0)) (vNil)))) (vCons (dTup (vCons (dC (.int 2)) (vCons (dC (.int 4)) (vNil)))) (vCons (dTup (vCons (dC (.int 1)) (vCons (dUn negD (oD (dC (.int 1)))) (vNil)))) (vCons (dTup (vCons (dC (.bl true)) (vCons (dC (.int 1)) (vNil)))) (vCons (dLst (vCons (dC (.int 1)) (vCons (dC (.int 2)) (vNil)))) (vCons (dTup (vCons (dC (.int 1)) (vCons (dC (.int 2)) (vCons (dC (.int 3)) (vNil))))) (vCons (dC (.str (Str.ofString "1/2"))) (vCons (dTup (vCons (dBin powD (oD (dC (.int 10))) (oD (dC (.int 60)))) (vCons (dC (.int 1)) (vNil)))) (vCons (dTup (vCons (dC (.int 0)) (vCons (dC (.int 2)) (vNil)))) (vNil)))))))))))))) (rNil)))))) [some (.mu true d), none, none, none, none, none, c6, none] = .nx [some (.mu true d'), none, none, none, none, none, c6, some (.val x)] := by
  obtain ⟨r, d', x, e1, e2, e3⟩ := e_one (l := LO) h (by omega) (by decide) (by decide)
  refine ⟨d', x, List.mem_of_getElem? e1, e2, (draw (L := LO) (d := d) (d' := d') (x := x) (by kernel_rfl) rfl e3).trans ?_⟩
  rfl
theorem q_lines_right_2 (c6 c7 : Option Cell) {n : Nat} {d : D} (h : Bag n d) (hn : n ≤ 1000) : ∃ d' x, x ∈ LB ∧ Bag (n + 1) d' ∧ (dSet 3 (dV (dCal2 2 F_q_one_of (rIo 0 (rVal (dLst (vCons (dC .non) (vCons (dC (.int 0)) (vCons (dUn negD (oD (dC (.int 1)))) (vCons (dC (.int 2521)) (vCons (dC (.bl true)) (vCons (dC (.str (Str.ofString "6"))) (vCons (dTup (vCons (dC (.int 6)) (vNil))) (vCons (dBin powD (oD (dC (.int 10))) (oD (dC (.int 60)))) (vNil)))))))))) (rNil)))))) [some (.mu true d), none, none, none, none, none, c6, c7] = .nx [some (.mu true d'), none, none, some (.val x), none, none, c6, c7] := by
  obtain ⟨r, d', x, e1, e2, e3⟩ := e_one (l := LB) h (by omega) (by decide) (by decide)
  refine ⟨d', x, List.mem_of_getElem? e1, e2, (draw (L := LB) (d := d) (d' := d') (x := x) (by kernel_rfl) rfl e3).trans ?_⟩
  rfl
theorem q_lines_right_3 (d : D) (c3 c6 c7 : Option Cell)  : (dAsg (dTup (vCons (dTup (vCons (dC (.int 1)) (vCons (dC (.int 1)) (vCons (dC (.int 2)) (vNil))))) (vCons (dBin mulD (oD (dTup (vCons (dC (.int 1)) (vCons (dC (.int 0)) (vCons (dC (.int 3)) (vNil)))))) (oD (dC (.int 7)))) (vNil)))) (gTp 2 (gsCons (setV 5) (gsCons (setV 4) (gsNil))))) [some (.mu true d), none, none, c3, none, none, c6, c7] = .nx [some (.mu true d), none, none, c3, some (.val HALF), some (.val LINE), c6, c7] := by
  kernel_rfl
theorem q_lines_right_4 (d : D) (c3 c7 : Option Cell) {x : D} (hx : x ∈ LN) : (dSetF 1 (dLst (vCons (dLam F_q_word (dV (dCal2 2 F_polynomial_sum (rVal (dVar 6) (rVal (dVar 6) (rNil)))))) (vNil)))) [some (.mu true d), none, none, c3, some (.val HALF), some (.val LINE), some (.val x), c7] = .nx [some (.mu true d), some (.mu false (.lst [PO])), none, c3, some (.val HALF), some (.val LINE), some (.val x), c7] := by
  simp only [LN, List.mem_cons, List.not_mem_nil, or_false] at hx
  rcases hx with rfl | rfl | rfl | rfl | rfl | rfl | rfl | rfl | rfl | rfl | rfl | rfl <;>
  kernel_rfl
theorem q_lines_right_5 (d : D) (c3 c7 : Option Cell) {x : D} (hx : x ∈ LN) : (dApp 1 (dLam F_q_word (dV (dCal2 2 F_polynomial_sum (rVal (dVar 5) (rVal (dVar 6) (rNil))))))) [some (.mu true d), some (.mu false (.lst [PO])), none, c3, some (.val HALF), some (.val LINE), some (.val x), c7] = .nx [some (.mu true d), some (.mu false (.lst [PO, PO])), none, c3, some (.val HALF), some (.val LINE), some (.val x), c7] := by
  simp only [LN, List.mem_cons, List.not_mem_nil, or_false] at hx
  rcases hx with rfl | rfl | rfl | rfl | rfl | rfl | rfl | rfl | rfl | rfl | rfl | rfl <;>
  kernel_rfl
theorem q_lines_right_6 (d : D) (c3 c7 : Option Cell) {x : D} (hx : x ∈ LN) : (dApp 1 (dLam F_q_word (dV (dCal2 2 F_polynomial_product (rVal (dVar 6) (rVal (dVar 5) (rNil))))))) [some (.mu true d), some (.mu false (.lst [PO, PO])), none, c3, some (.val HALF), some (.val LINE), some (.val x), c7] = .nx [some (.mu true d), some (.mu false (.lst [PO, PO, PO])), none, c3, some (.val HALF), some (.val LINE), some (.val x), c7] := by
  simp only [LN, List.mem_cons, List.not_mem_nil, or_false] at hx
  rcases hx with rfl | rfl | rfl | rfl | rfl | rfl | rfl | rfl | rfl | rfl | rfl | rfl <;>
  kernel_rfl
theorem q_lines_right_7 (d : D) (c3 c7 : Option Cell) {x : D} (hx : x ∈ LN) : (dApp 1 (dLam F_q_word (dV (dCal2 2 F_polynomial_product (rVal (dVar 4) (rVal (dVar 6) (rNil))))))) [some (.mu true d), some (.mu false (.lst [PO, PO, PO])), none, c3, some (.val HALF), some (.val LINE), some (.val x), c7] = .nx [some (.mu true d), some (.mu false (.lst [PO, PO, PO, PO])), none, c3, some (.val HALF), some (.val LINE), some (.val x), c7] := by
  simp only [LN, List.mem_cons, List.not_mem_nil, or_false] at hx
  rcases hx with rfl | rfl | rfl | rfl | rfl | rfl | rfl | rfl | rfl | rfl | rfl | rfl <;>
  kernel_rfl
theorem q_lines_right_8 (d : D) (c3 c6 c7 : Option Cell)  : (dApp 1 (dLam F_q_word (dV (dCal2 2 F_polynomial_product (rVal (dVar 4) (rVal (dVar 4) (rNil))))))) [some (.mu true d), some (.mu false (.lst [PO, PO, PO, PO])), none, c3, some (.val HALF), some (.val LINE), c6, c7] = .nx [some (.mu true d), some (.mu false (.lst [PO, PO, PO, PO, FI])), none, c3, some (.val HALF), some (.val LINE), c6, c7] := by
  kernel_rfl
theorem q_lines_right_9 (d : D) (c3 c6 c7 : Option Cell)  : (dApp 1 (dLam F_q_word (dV (dCal2 2 F_polynomial_product (rVal (dVar 4) (rVal (dBin addD (oVar 4) (oD (dTup (vCons (dC (.int 1)) (vNil))))) (rNil))))))) [some (.mu true d), some (.mu false (.lst [PO, PO, PO, PO, FI])), none, c3, some (.val HALF), some (.val LINE), c6, c7] = .nx [some (.mu true d), some (.mu false (.lst [PO, PO, PO, PO, FI, M40])), none, c3, some (.val HALF), some (.val LINE), c6, c7] := by
  kernel_rfl
theorem q_lines_right_10 (d : D) (c3 c7 : Option Cell) {x : D} (hx : x ∈ LN) : (dApp 1 (dLam F_q_word (dV (dCal2 2 F_polynomial_quotient (rVal (dVar 6) (rVal (dTup (vCons (dC (.int 0)) (vNil))) (rNil))))))) [some (.mu true d), some (.mu false (.lst [PO, PO, PO, PO, FI, M40])), none, c3, some (.val HALF), some (.val LINE), some (.val x), c7] = .nx [some (.mu true d), some (.mu false (.lst [PO, PO, PO, PO, FI, M40, PO])), none, c3, some (.val HALF), some (.val LINE), some (.val x), c7] := by
  simp only [LN, List.mem_cons, List.not_mem_nil, or_false] at hx
  rcases hx with rfl | rfl | rfl | rfl | rfl | rfl | rfl | rfl | rfl | rfl | rfl | rfl <;>
  kernel_rfl
theorem q_lines_right_11 (d : D) (c3 c7 : Option Cell) {x : D} (hx : x ∈ LN) : (dApp 1 (dLam F_q_word (dV (dCal2 2 F_polynomial_quotient (rVal (dVar 5) (rVal (dVar 6) (rNil))))))) [some (.mu true d), some (.mu false (.lst [PO, PO, PO, PO, FI, M40, PO])), none, c3, some (.val HALF), some (.val LINE), some (.val x), c7] = .nx [some (.mu true d), some (.mu false (.lst [PO, PO, PO, PO, FI, M40, PO, PO])), none, c3, some (.val HALF), some (.val LINE), some (.val x), c7] := by
  simp only [LN, List.mem_cons, List.not_mem_nil, or_false] at hx
  rcases hx with rfl | rfl | rfl | rfl | rfl | rfl | rfl | rfl | rfl | rfl | rfl | rfl <;>
  kernel_rfl
theorem q_lines_right_12 (d : D) (c3 c6 c7 : Option Cell)  : (dApp 1 (dLam F_q_word (dV (dCal2 2 F_polynomial_quotient (rVal (dVar 5) (rVal (dTup (vCons (dC (.int 0)) (vNil))) (rNil))))))) [some (.mu true d), some (.mu false (.lst [PO, PO, PO, PO, FI, M40, PO, PO])), none, c3, some (.val HALF), some (.val LINE), c6, c7] = .nx [some (.mu true d), some (.mu false (.lst [PO, PO, PO, PO, FI, M40, PO, PO, OP])), none, c3, some (.val HALF), some (.val LINE), c6, c7] := by
  kernel_rfl
theorem q_lines_right_13 (d : D) (c3 : Option Cell) (y : D) {x : D} (hx : x ∈ LN) : (dApp 1 (dLam F_q_word (dV (dCal2 2 F_polynomial_value (rVal (dVar 6) (rVal (dVar 7) (rNil))))))) [some (.mu true d), some (.mu false (.lst [PO, PO, PO, PO, FI, M40, PO, PO, OP])), none, c3, some (.val HALF), some (.val LINE), some (.val x), some (.val y)] = .nx [some (.mu true d), some (.mu false (.lst [PO, PO, PO, PO, FI, M40, PO, PO, OP, PO])), none, c3, some (.val HALF), some (.val LINE), some (.val x), some (.val y)] := by
  simp only [LN, List.mem_cons, List.not_mem_nil, or_false] at hx
  rcases hx with rfl | rfl | rfl | rfl | rfl | rfl | rfl | rfl | rfl | rfl | rfl | rfl <;>
  kernel_rfl
theorem q_lines_right_14 (d : D) (c3 c6 : Option Cell) {x : D} (hx : x ∈ LO) : (dApp 1 (dLam F_q_word (dV (dCal2 2 F_polynomial_value (rVal (dVar 5) (rVal (dVar 7) (rNil))))))) [some (.mu true d), some (.mu false (.lst [PO, PO, PO, PO, FI, M40, PO, PO, OP, PO])), none, c3, some (.val HALF), some (.val LINE), c6, some (.val x)] = .nx [some (.mu true d), some (.mu false (.lst [PO, PO, PO, PO, FI, M40, PO, PO, OP, PO, RA])), none, c3, some (.val HALF), some (.val LINE), c6, some (.val x)] := by
  simp only [LO, List.mem_cons, List.not_mem_nil, or_false] at hx
  rcases hx with rfl | rfl | rfl | rfl | rfl | rfl | rfl | rfl | rfl | rfl | rfl | rfl <;>
  kernel_rfl
theorem q_lines_right_15 (d : D) (c6 c7 : Option Cell) {x : D} (hx : x ∈ LB) : (dApp 1 (dLam F_q_word (dV (dCal2 1 F_cyclotomic (rVal (dVar 3) (rNil)))))) [some (.mu true d), some (.mu false (.lst [PO, PO, PO, PO, FI, M40, PO, PO, OP, PO, RA])), none, some (.val x), some (.val HALF), some (.val LINE), c6, c7] = .nx [some (.mu true d), some (.mu false (.lst [PO, PO, PO, PO, FI, M40, PO, PO, OP, PO, RA, NU x])), none, some (.val x), some (.val HALF), some (.val LINE), c6, c7] := by
  simp only [LB, List.mem_cons, List.not_mem_nil, or_false] at hx
  rcases hx with rfl | rfl | rfl | rfl | rfl | rfl | rfl | rfl <;>
  kernel_rfl
theorem q_lines_right_16 (d : D) (c3 c7 : Option Cell) (b : D) {x : D} (hx : x ∈ LN) : (dApp 1 (dLam F_q_word (dV (dCal2 1 F_cyclotomic_parts (rVal (dVar 6) (rNil)))))) [some (.mu true d), some (.mu false (.lst [PO, PO, PO, PO, FI, M40, PO, PO, OP, PO, RA, b])), none, c3, some (.val HALF), some (.val LINE), some (.val x), c7] = .nx [some (.mu true d), some (.mu false (.lst [PO, PO, PO, PO, FI, M40, PO, PO, OP, PO, RA, b, PO])), none, c3, some (.val HALF), some (.val LINE), some (.val x), c7] := by
  simp only [LN, List.mem_cons, List.not_mem_nil, or_false] at hx
  rcases hx with rfl | rfl | rfl | rfl | rfl | rfl | rfl | rfl | rfl | rfl | rfl | rfl <;>
  kernel_rfl
theorem q_lines_right_17 (d : D) (c3 c6 c7 : Option Cell) (b : D)  : (dApp 1 (dLam F_q_word (dV (dCal2 1 F_cyclotomic (rVal (dC (.int 2519)) (rNil)))))) [some (.mu true d), some (.mu false (.lst [PO, PO, PO, PO, FI, M40, PO, PO, OP, PO, RA, b, PO])), none, c3, some (.val HALF), some (.val LINE), c6, c7] = .nx [some (.mu true d), some (.mu false (.lst [PO, PO, PO, PO, FI, M40, PO, PO, OP, PO, RA, b, PO, M40])), none, c3, some (.val HALF), some (.val LINE), c6, c7] := by
  kernel_rfl
theorem q_lines_right_18 (d : D) (c1 c3 c6 c7 : Option Cell)  : (dSet 2 (dBin addD (oD (dBin mulD (oD (dLst (vCons (dC (.str (Str.ofString "polynomial"))) (vNil)))) (oD (dC (.int 4))))) (oD (dLst (vCons (dC (.str (Str.ofString "fine"))) (vCons (dC (.str (Str.ofString "many 40"))) (vCons (dC (.str (Str.ofString "polynomial"))) (vCons (dC (.str (Str.ofString "polynomial"))) (vCons (dC (.str (Str.ofString "operation"))) (vCons (dC (.str (Str.ofString "polynomial"))) (vCons (dC (.str (Str.ofString "ratio"))) (vNil)))))))))))) [some (.mu true d), c1, none, c3, some (.val HALF), some (.val LINE), c6, c7] = .nx [some (.mu true d), c1, some (.val (.lst [PO, PO, PO, PO, FI, M40, PO, PO, OP, PO, RA])), c3, some (.val HALF), some (.val LINE), c6, c7] := by
  kernel_rfl
theorem q_lines_right_19 (d : D) (c6 c7 : Option Cell) {x : D} (hx : x ∈ LB) : (dRet (dBin eqY (oVar 1) (oD (dBin addD (oVar 2) (oD (dLst (vCons (dBin addW (oD (dC (.str (Str.ofString "number ")))) (oD (dCal rprW (aCons (oVar 3) (aNil))))) (vCons (dC (.str (Str.ofString "polynomial"))) (vCons (dC (.str (Str.ofString "many 40"))) (vNil)))))))))) [some (.mu true d), some (.mu false (.lst [PO, PO, PO, PO, FI, M40, PO, PO, OP, PO, RA, NU x, PO, M40])), some (.val (.lst [PO, PO, PO, PO, FI, M40, PO, PO, OP, PO, RA])), some (.val x), some (.val HALF), some (.val LINE), c6, c7] = .ret [some (.mu true d), some (.mu false (.lst [PO, PO, PO, PO, FI, M40, PO, PO, OP, PO, RA, NU x, PO, M40])), some (.val (.lst [PO, PO, PO, PO, FI, M40, PO, PO, OP, PO, RA])), some (.val x), some (.val HALF), some (.val LINE), c6, c7] false (.bl true) := by
  simp only [LB, List.mem_cons, List.not_mem_nil, or_false] at hx
  rcases hx with rfl | rfl | rfl | rfl | rfl | rfl | rfl | rfl <;>
  kernel_rfl
theorem e_lines {n : Nat} {d : D} (h : Bag n d) (hn : n ≤ 900) : ∃ d', Bag (n + 3) d' ∧ F_q_lines_right [(true, d)] = .ret false (.bl true) [d'] := by
  obtain ⟨d1, x, hx, h1, s0⟩ := q_lines_right_0 h (by omega)
  obtain ⟨d2, y, hy, h2, s1⟩ := q_lines_right_1 (some (.val x)) h1 (by omega)
  obtain ⟨d3, z, hz, h3, s2⟩ := q_lines_right_2 (some (.val x)) (some (.val y)) h2 (by omega)
  refine ⟨d3, h3, ?_⟩
  have hs : startE 8 [(true, d)] = [some (.mu true d), none, none, none, none, none, none, none] := rfl
  unfold F_q_lines_right B_q_lines_right
  rw [hs, dSeq_ap, s0, SR.bind_nx, dSeq_ap, s1, SR.bind_nx, dSeq_ap, s2, SR.bind_nx]
  rw [dSeq_ap, q_lines_right_3 _ _ _ _, SR.bind_nx, dSeq_ap, q_lines_right_4 _ _ _ hx, SR.bind_nx, dSeq_ap, q_lines_right_5 _ _ _ hx, SR.bind_nx, dSeq_ap, q_lines_right_6 _ _ _ hx, SR.bind_nx, dSeq_ap, q_lines_right_7 _ _ _ hx, SR.bind_nx, dSeq_ap, q_lines_right_8 _ _ _ _, SR.bind_nx, dSeq_ap, q_lines_right_9 _ _ _ _, SR.bind_nx, dSeq_ap, q_lines_right_10 _ _ _ hx, SR.bind_nx, dSeq_ap, q_lines_right_11 _ _ _ hx, SR.bind_nx, dSeq_ap, q_lines_right_12 _ _ _ _, SR.bind_nx, dSeq_ap, q_lines_right_13 _ _ _ hx, SR.bind_nx, dSeq_ap, q_lines_right_14 _ _ _ hy, SR.bind_nx, dSeq_ap, q_lines_right_15 _ _ _ hz, SR.bind_nx, dSeq_ap, q_lines_right_16 _ _ _ _ hx, SR.bind_nx, dSeq_ap, q_lines_right_17 _ _ _ _ _, SR.bind_nx, dSeq_ap, q_lines_right_18 _ _ _ _ _, SR.bind_nx, q_lines_right_19 _ _ _ hz]
  rfl
end K08

set_option exponentiation.threshold 5000
namespace K08
open PySem DF

theorem q_tables_right_0  {n : Nat} {d : D} (h : Bag n d) (hn : n ≤ 1000) : ∃ d' x, x ∈ TN ∧ Bag (n + 1) d' ∧ (dSet 6 (dV (dCal2 2 F_q_one_of (rIo 0 (rVal (dLst (vCons (dC .non) (vCons (dTup (vNil)) (vCons (dTup (vCons (dTup (vNil)) (vNil))) (vCons (dTup (vCons (dTup (vCons (dC (.int 1)) (vCons (dC (.int 2)) (vNil)))) (vCons (dTup (vCons (dC (.int 3)) (vNil))) (vNil)))) (vCons (dLst (vCons (dLst (vCons (dC (.int 1)) (vNil))) (vNil))) (vCons (dTup (vCons (dTup (vCons (dC (.bl true)) (vNil))) (vNil))) (vCons (dTup (vCons (dBin mulD (oD (dTup (vCons (dC (.int 0)) (vNil)))) (oD (dC (.int 13)))) (vNil))) (vCons (dBin mulD (oD (dTup (vCons (dTup (vCons (dC (.int 0)) (vNil))) (vNil)))) (oD (dC (.int 13)))) (vCons (dC (.str (Str.ofString "1"))) (vCons (dC (.int 4)) (vCons (dTup (vCons (dTup (vCons (dBin powD (oD (dC (.int 10))) (oD (dC (.int 60)))) (vNil))) (vNil))) (vCons (dDic0) (vNil)))))))))))))) (rNil)))))) [some (.mu true d), none, none, none, none, none, none, none, none, none] = .nx [some (.mu true d'), none, none, none, none, none, some (.val x), none, none, none] := by
  obtain ⟨r, d', x, e1, e2, e3⟩ := e_one (l := TN) h (by omega) (by decide) (by decide)
  refine ⟨d', x, List.mem_of_getElem? e1, e2, (draw (L := TN) (d := d) (d' := d') (x := x) (by kernel_rfl) rfl e3).trans ?_⟩
  rfl
theorem q_tables_right_1 (c6 : Option Cell) {n : Nat} {d : D} (h : Bag n d) (hn : n ≤ 1000) : ∃ d' x, x ∈ TO ∧ Bag (n + 1) d' ∧ (dSet 7 (dV (dCal2 2 F_q_one_of (rIo 0 (rVal (dLst (vCons (dC .non) (vCons (dUn negD (oD (dC (.int 1)))) (vCons (dC (.int 61)) (vCons (dC (.bl true)) (vCons (dC (.str (Str.ofString "2"))) (vCons (dTup (vCons (dC (.int 2)) (vNil))) (vCons (dBin powD (oD (dC (.int 10))) (oD (dC (.int 60)))) (vNil))))))))) (rNil)))))) [some (.mu true d), none, none, none, none, none, c6, none, none, none] = .nx [some (.mu true d'), none, none, none, none, none, c6, some (.val x), none, none] := by
  obtain ⟨r, d', x, e1, e2, e3⟩ := e_one (l := TO) h (by omega) (by decide) (by decide)
  refine ⟨d', x, List.mem_of_getElem? e1, e2, (draw (L := TO) (d := d) (d' := d') (x := x) (by kernel_rfl) rfl e3).trans ?_⟩
  rfl
theorem q_tables_right_2 (c6 c7 : Option Cell) {n : Nat} {d : D} (h : Bag n d) (hn : n ≤ 1000) : ∃ d' x, x ∈ TS ∧ Bag (n + 1) d' ∧ (dSet 8 (dV (dCal2 2 F_q_one_of (rIo 0 (rVal (dLst (vCons (dC .non) (vCons (dC (.int 0)) (vCons (dC (.int 13)) (vCons (dUn negD (oD (dC (.int 3)))) (vCons (dC (.bl true)) (vCons (dC (.str (Str.ofString "3"))) (vCons (dLst (vCons (dC (.int 2)) (vNil))) (vNil))))))))) (rNil)))))) [some (.mu true d), none, none, none, none, none, c6, c7, none, none] = .nx [some (.mu true d'), none, none, none, none, none, c6, c7, some (.val x), none] := by
  obtain ⟨r, d', x, e1, e2, e3⟩ := e_one (l := TS) h (by omega) (by decide) (by decide)
  refine ⟨d', x, List.mem_of_getElem? e1, e2, (draw (L := TS) (d := d) (d' := d') (x := x) (by kernel_rfl) rfl e3).trans ?_⟩
  rfl
theorem q_tables_right_3 (d : D) (c6 c7 c8 : Option Cell)  : (dAsg (dTup (vCons (dTup (vCons (dTup (vCons (dC (.int 1)) (vCons (dC (.int 2)) (vCons (dC (.int 3)) (vNil))))) (vNil))) (vCons (dTup (vCons (dTup (vCons (dC (.int 1)) (vCons (dC (.int 2)) (vNil)))) (vCons (dTup (vCons (dC (.int 3)) (vCons (dC (.int 4)) (vNil)))) (vNil)))) (vNil)))) (gTp 2 (gsCons (setV 5) (gsCons (setV 9) (gsNil))))) [some (.mu true d), none, none, none, none, none, c6, c7, c8, none] = .nx [some (.mu true d), none, none, none, none, some (.val FLAT), c6, c7, c8, some (.val SQ)] := by
  kernel_rfl
theorem q_tables_right_4 (d : D) (c6 c7 c8 : Option Cell)  : (dSetF 1 (dLst (vNil))) [some (.mu true d), none, none, none, none, some (.val FLAT), c6, c7, c8, some (.val SQ)] = .nx [some (.mu true d), some (.mu false (.lst [])), none, none, none, some (.val FLAT), c6, c7, c8, some (.val SQ)] := by
  kernel_rfl
theorem q_tables_right_5 (d : D) (c7 c8 : Option Cell) {x : D} (hx : x ∈ TN) : (dForS (sSeq (dTup (vCons (dC (.fn "turned_over")) (vCons (dC (.fn "rank")) (vCons (dC (.fn "kernel")) (vNil)))))) (setV 4) (dSeq (dApp 1 (dLam F_q_word (dV (dCalV 1 4 [("turned_over", F_turned_over), ("rank", F_rank), ("kernel", F_kernel), ("determinant", F_determinant), ("minors", F_minors), ("is_symmetric", F_is_symmetric), ("is_alternating", F_is_alternating)] (rVal (dVar 6) (rNil))))))
    (dApp 1 (dLam F_q_word (dV (dCalV 1 4 [("turned_over", F_turned_over), ("rank", F_rank), ("kernel", F_kernel), ("determinant", F_determinant), ("minors", F_minors), ("is_symmetric", F_is_symmetric), ("is_alternating", F_is_alternating)] (rVal (dVar 5) (rNil)))))))) [some (.mu true d), some (.mu false (.lst [])), none, none, none, some (.val FLAT), some (.val x), c7, c8, some (.val SQ)] = .nx [some (.mu true d), some (.mu false (.lst [TB, FI, TB, FI, TB, FI])), none, none, some (.val (.fn (Str.ofString "kernel"))), some (.val FLAT), some (.val x), c7, c8, some (.val SQ)] := by
  simp only [TN, List.mem_cons, List.not_mem_nil, or_false] at hx
  rcases hx with rfl | rfl | rfl | rfl | rfl | rfl | rfl | rfl | rfl | rfl | rfl | rfl <;>
  kernel_rfl
theorem q_tables_right_6 (d : D) (c7 c8 : Option Cell) {x : D} (hx : x ∈ TN) : (dForS (sSeq (dTup (vCons (dC (.fn "determinant")) (vCons (dC (.fn "minors")) (vCons (dC (.fn "is_symmetric")) (vCons (dC (.fn "is_alternating")) (vNil))))))) (setV 4) (dSeq (dApp 1 (dLam F_q_word (dV (dCalV 1 4 [("turned_over", F_turned_over), ("rank", F_rank), ("kernel", F_kernel), ("determinant", F_determinant), ("minors", F_minors), ("is_symmetric", F_is_symmetric), ("is_alternating", F_is_alternating)] (rVal (dVar 6) (rNil))))))
    (dSeq (dApp 1 (dLam F_q_word (dV (dCalV 1 4 [("turned_over", F_turned_over), ("rank", F_rank), ("kernel", F_kernel), ("determinant", F_determinant), ("minors", F_minors), ("is_symmetric", F_is_symmetric), ("is_alternating", F_is_alternating)] (rVal (dVar 5) (rNil))))))
    (dApp 1 (dLam F_q_word (dV (dCalV 1 4 [("turned_over", F_turned_over), ("rank", F_rank), ("kernel", F_kernel), ("determinant", F_determinant), ("minors", F_minors), ("is_symmetric", F_is_symmetric), ("is_alternating", F_is_alternating)] (rVal (dVar 9) (rNil))))))))) [some (.mu true d), some (.mu false (.lst [TB, FI, TB, FI, TB, FI])), none, none, some (.val (.fn (Str.ofString "kernel"))), some (.val FLAT), some (.val x), c7, c8, some (.val SQ)] = .nx [some (.mu true d), some (.mu false (.lst [TB, FI, TB, FI, TB, FI, TB, OP, FI, TB, OP, FI, TB, OP, FI, TB, OP, FI])), none, none, some (.val (.fn (Str.ofString "is_alternating"))), some (.val FLAT), some (.val x), c7, c8, some (.val SQ)] := by
  simp only [TN, List.mem_cons, List.not_mem_nil, or_false] at hx
  rcases hx with rfl | rfl | rfl | rfl | rfl | rfl | rfl | rfl | rfl | rfl | rfl | rfl <;>
  kernel_rfl
theorem q_tables_right_7 (d : D) (c4 c6 c7 c8 : Option Cell)  : (dIf (dTst (dBin neY (oVar 1) (oD (dBin addD (oD (dBin mulD (oD (dLst (vCons (dC (.str (Str.ofString "table"))) (vCons (dC (.str (Str.ofString "fine"))) (vNil))))) (oD (dC (.int 3))))) (oD (dBin mulD (oD (dLst (vCons (dC (.str (Str.ofString "table"))) (vCons (dC (.str (Str.ofString "operation"))) (vCons (dC (.str (Str.ofString "fine"))) (vNil)))))) (oD (dC (.int 4))))))))) (dRet (dC (.bl false))) (SR.nx)) [some (.mu true d), some (.mu false (.lst [TB, FI, TB, FI, TB, FI, TB, OP, FI, TB, OP, FI, TB, OP, FI, TB, OP, FI])), none, none, c4, some (.val FLAT), c6, c7, c8, some (.val SQ)] = .nx [some (.mu true d), some (.mu false (.lst [TB, FI, TB, FI, TB, FI, TB, OP, FI, TB, OP, FI, TB, OP, FI, TB, OP, FI])), none, none, c4, some (.val FLAT), c6, c7, c8, some (.val SQ)] := by
  kernel_rfl
theorem q_tables_right_8 (d : D) (c4 c7 c8 : Option Cell) (t : D) {x : D} (hx : x ∈ TN) : (dSetF 1 (dLst (vCons (dLam F_q_word (dV (dCal2 2 F_table_product (rVal (dVar 6) (rVal (dVar 6) (rNil)))))) (vNil)))) [some (.mu true d), some (.mu false t), none, none, c4, some (.val FLAT), some (.val x), c7, c8, some (.val SQ)] = .nx [some (.mu true d), some (.mu false (.lst [TB])), none, none, c4, some (.val FLAT), some (.val x), c7, c8, some (.val SQ)] := by
  simp only [TN, List.mem_cons, List.not_mem_nil, or_false] at hx
  rcases hx with rfl | rfl | rfl | rfl | rfl | rfl | rfl | rfl | rfl | rfl | rfl | rfl <;>
  kernel_rfl
theorem q_tables_right_9 (d : D) (c4 c7 c8 : Option Cell) {x : D} (hx : x ∈ TN) : (dApp 1 (dLam F_q_word (dV (dCal2 2 F_table_product (rVal (dVar 5) (rVal (dVar 6) (rNil))))))) [some (.mu true d), some (.mu false (.lst [TB])), none, none, c4, some (.val FLAT), some (.val x), c7, c8, some (.val SQ)] = .nx [some (.mu true d), some (.mu false (.lst [TB, TB])), none, none, c4, some (.val FLAT), some (.val x), c7, c8, some (.val SQ)] := by
  simp only [TN, List.mem_cons, List.not_mem_nil, or_false] at hx
  rcases hx with rfl | rfl | rfl | rfl | rfl | rfl | rfl | rfl | rfl | rfl | rfl | rfl <;>
  kernel_rfl
theorem q_tables_right_10 (d : D) (c4 c6 c7 c8 : Option Cell)  : (dApp 1 (dLam F_q_word (dV (dCal2 2 F_table_product (rVal (dVar 5) (rVal (dVar 9) (rNil))))))) [some (.mu true d), some (.mu false (.lst [TB, TB])), none, none, c4, some (.val FLAT), c6, c7, c8, some (.val SQ)] = .nx [some (.mu true d), some (.mu false (.lst [TB, TB, OP])), none, none, c4, some (.val FLAT), c6, c7, c8, some (.val SQ)] := by
  kernel_rfl
theorem q_tables_right_11 (d : D) (c4 c6 c7 c8 : Option Cell)  : (dApp 1 (dLam F_q_word (dV (dCal2 2 F_table_product (rVal (dVar 9) (rVal (dVar 9) (rNil))))))) [some (.mu true d), some (.mu false (.lst [TB, TB, OP])), none, none, c4, some (.val FLAT), c6, c7, c8, some (.val SQ)] = .nx [some (.mu true d), some (.mu false (.lst [TB, TB, OP, FI])), none, none, c4, some (.val FLAT), c6, c7, c8, some (.val SQ)] := by
  kernel_rfl
theorem q_tables_right_12 (d : D) (c4 c8 : Option Cell) (y : D) {x : D} (hx : x ∈ TN) : (dApp 1 (dLam F_q_word (dV (dCal2 2 F_table_power (rVal (dVar 6) (rVal (dVar 7) (rNil))))))) [some (.mu true d), some (.mu false (.lst [TB, TB, OP, FI])), none, none, c4, some (.val FLAT), some (.val x), some (.val y), c8, some (.val SQ)] = .nx [some (.mu true d), some (.mu false (.lst [TB, TB, OP, FI, TB])), none, none, c4, some (.val FLAT), some (.val x), some (.val y), c8, some (.val SQ)] := by
  simp only [TN, List.mem_cons, List.not_mem_nil, or_false] at hx
  rcases hx with rfl | rfl | rfl | rfl | rfl | rfl | rfl | rfl | rfl | rfl | rfl | rfl <;>
  kernel_rfl
theorem q_tables_right_13 (d : D) (c4 c6 c8 : Option Cell) {x : D} (hx : x ∈ TO) : (dApp 1 (dLam F_q_word (dV (dCal2 2 F_table_power (rVal (dVar 5) (rVal (dVar 7) (rNil))))))) [some (.mu true d), some (.mu false (.lst [TB, TB, OP, FI, TB])), none, none, c4, some (.val FLAT), c6, some (.val x), c8, some (.val SQ)] = .nx [some (.mu true d), some (.mu false (.lst [TB, TB, OP, FI, TB, NU x])), none, none, c4, some (.val FLAT), c6, some (.val x), c8, some (.val SQ)] := by
  simp only [TO, List.mem_cons, List.not_mem_nil, or_false] at hx
  rcases hx with rfl | rfl | rfl | rfl | rfl | rfl | rfl <;>
  kernel_rfl
theorem q_tables_right_14 (d : D) (c4 c6 c7 c8 : Option Cell) (b : D)  : (dApp 1 (dLam F_q_word (dV (dCal2 2 F_table_power (rVal (dVar 5) (rVal (dC (.int 2)) (rNil))))))) [some (.mu true d), some (.mu false (.lst [TB, TB, OP, FI, TB, b])), none, none, c4, some (.val FLAT), c6, c7, c8, some (.val SQ)] = .nx [some (.mu true d), some (.mu false (.lst [TB, TB, OP, FI, TB, b, OP])), none, none, c4, some (.val FLAT), c6, c7, c8, some (.val SQ)] := by
  kernel_rfl
theorem q_tables_right_15 (d : D) (c4 c6 c8 : Option Cell) (b : D) {x : D} (hx : x ∈ TO) : (dApp 1 (dLam F_q_word (dV (dCal2 2 F_table_power (rVal (dVar 9) (rVal (dVar 7) (rNil))))))) [some (.mu true d), some (.mu false (.lst [TB, TB, OP, FI, TB, b, OP])), none, none, c4, some (.val FLAT), c6, some (.val x), c8, some (.val SQ)] = .nx [some (.mu true d), some (.mu false (.lst [TB, TB, OP, FI, TB, b, OP, NU x])), none, none, c4, some (.val FLAT), c6, some (.val x), c8, some (.val SQ)] := by
  simp only [TO, List.mem_cons, List.not_mem_nil, or_false] at hx
  rcases hx with rfl | rfl | rfl | rfl | rfl | rfl | rfl <;>
  kernel_rfl
theorem word_ok (y : D) : F_q_word (.inl y) = some FI := rfl
theorem pw_ok {x : D} (hx : x ∈ [D.int 0, .int 1, .int 60]) : ∃ y, F_table_power [(false, SQ), (false, x)] = .ret false y [] := by
  simp only [List.mem_cons, List.not_mem_nil, or_false] at hx
  rcases hx with rfl | rfl | rfl
  · exact ⟨.tup [.tup [.int 1, .int 0], .tup [.int 0, .int 1]], by kernel_rfl⟩
  · exact ⟨SQ, by kernel_rfl⟩
  · exact ⟨.tup [.tup [.int 15406748254900539116194863727314906556420999, .int 22454212549069702152829890499930334021534850], .tup [.int 33681318823604553229244835749895501032302275, .int 49088067078505092345439699477210407588723274]], by kernel_rfl⟩
theorem un_ok {x : D} (hx : x ∈ [D.int 1, .int 12]) : ∃ y, F_unit_table [(false, x)] = .ret false y [] := by
  simp only [List.mem_cons, List.not_mem_nil, or_false] at hx
  rcases hx with rfl | rfl
  · exact ⟨.tup [.tup [.int 1]], by kernel_rfl⟩
  · exact ⟨.tup [.tup [.int 1, .int 0, .int 0, .int 0, .int 0, .int 0, .int 0, .int 0, .int 0, .int 0, .int 0, .int 0], .tup [.int 0, .int 1, .int 0, .int 0, .int 0, .int 0, .int 0, .int 0, .int 0, .int 0, .int 0, .int 0], .tup [.int 0, .int 0, .int 1, .int 0, .int 0, .int 0, .int 0, .int 0, .int 0, .int 0, .int 0, .int 0], .tup [.int 0, .int 0, .int 0, .int 1, .int 0, .int 0, .int 0, .int 0, .int 0, .int 0, .int 0, .int 0], .tup [.int 0, .int 0, .int 0, .int 0, .int 1, .int 0, .int 0, .int 0, .int 0, .int 0, .int 0, .int 0], .tup [.int 0, .int 0, .int 0, .int 0, .int 0, .int 1, .int 0, .int 0, .int 0, .int 0, .int 0, .int 0], .tup [.int 0, .int 0, .int 0, .int 0, .int 0, .int 0, .int 1, .int 0, .int 0, .int 0, .int 0, .int 0], .tup [.int 0, .int 0, .int 0, .int 0, .int 0, .int 0, .int 0, .int 1, .int 0, .int 0, .int 0, .int 0], .tup [.int 0, .int 0, .int 0, .int 0, .int 0, .int 0, .int 0, .int 0, .int 1, .int 0, .int 0, .int 0], .tup [.int 0, .int 0, .int 0, .int 0, .int 0, .int 0, .int 0, .int 0, .int 0, .int 1, .int 0, .int 0], .tup [.int 0, .int 0, .int 0, .int 0, .int 0, .int 0, .int 0, .int 0, .int 0, .int 0, .int 1, .int 0], .tup [.int 0, .int 0, .int 0, .int 0, .int 0, .int 0, .int 0, .int 0, .int 0, .int 0, .int 0, .int 1]], by kernel_rfl⟩
theorem q_tables_right_16 (c4 c6 c7 c8 : Option Cell) (b : D) {n : Nat} {d : D} (h : Bag n d) (hn : n ≤ 1000) : ∃ d', Bag (n + 1) d' ∧ (dApp 1 (dLam F_q_word (dV (dCal2 2 F_table_power (rVal (dVar 9) (rVal (dV (dCal2 2 F_q_one_of (rIo 0 (rVal (dLst (vCons (dC (.int 0)) (vCons (dC (.int 1)) (vCons (dC (.int 60)) (vNil))))) (rNil))))) (rNil))))))) [some (.mu true d), some (.mu false (.lst [TB, TB, OP, FI, TB, b, OP, b])), none, none, c4, some (.val FLAT), c6, c7, c8, some (.val SQ)] = .nx [some (.mu true d'), some (.mu false (.lst [TB, TB, OP, FI, TB, b, OP, b, FI])), none, none, c4, some (.val FLAT), c6, c7, c8, some (.val SQ)] := by
  obtain ⟨r, d', x, e1, e2, e3⟩ := e_one (l := [D.int 0, .int 1, .int 60]) h (by omega) (by decide) (by decide)
  obtain ⟨y, hy⟩ := pw_ok (List.mem_of_getElem? e1)
  refine ⟨d', e2, ?_⟩
  generalize F_table_power = G at *
  generalize F_q_one_of = G1 at *
  have wk := word_ok y
  generalize F_q_word = G2 at *
  simp [eqY_int, neY_int, max2_ap, min2_ap, DF.R.bind_ok, DF.R.bindS_ok, DF.R.bindN_ok, DF.SR.bind_nx, DF.SR.bind_ret, ofO, ths, setV, setF, free, set2, set3, fnRes, startE, startC, outs, argsD, putD, ioIx, isMu, look, DF.muL, ltD_ap, leD_ap, gtD_ap, geD_ap, addD_ap, subD_ap, negD_ap, absD_ap, intD_ap, intD_apB, eq_int, ne_int, ixD, L2.atI, L2.ixN, lenD, gcdD, max2D, min2D, e3, hy, wk]
theorem q_tables_right_17 (d : D) (c4 c6 c7 : Option Cell) (b : D) {x : D} (hx : x ∈ TS) : (dApp 1 (dLam F_q_word (dV (dCal2 1 F_unit_table (rVal (dVar 8) (rNil)))))) [some (.mu true d), some (.mu false (.lst [TB, TB, OP, FI, TB, b, OP, b, FI])), none, none, c4, some (.val FLAT), c6, c7, some (.val x), some (.val SQ)] = .nx [some (.mu true d), some (.mu false (.lst [TB, TB, OP, FI, TB, b, OP, b, FI, NU x])), none, none, c4, some (.val FLAT), c6, c7, some (.val x), some (.val SQ)] := by
  simp only [TS, List.mem_cons, List.not_mem_nil, or_false] at hx
  rcases hx with rfl | rfl | rfl | rfl | rfl | rfl | rfl <;>
  kernel_rfl
theorem q_tables_right_18 (c4 c6 c7 c8 : Option Cell) (b f : D) {n : Nat} {d : D} (h : Bag n d) (hn : n ≤ 1000) : ∃ d', Bag (n + 1) d' ∧ (dApp 1 (dLam F_q_word (dV (dCal2 1 F_unit_table (rVal (dV (dCal2 2 F_q_one_of (rIo 0 (rVal (dLst (vCons (dC (.int 1)) (vCons (dC (.int 12)) (vNil)))) (rNil))))) (rNil)))))) [some (.mu true d), some (.mu false (.lst [TB, TB, OP, FI, TB, b, OP, b, FI, f])), none, none, c4, some (.val FLAT), c6, c7, c8, some (.val SQ)] = .nx [some (.mu true d'), some (.mu false (.lst [TB, TB, OP, FI, TB, b, OP, b, FI, f, FI])), none, none, c4, some (.val FLAT), c6, c7, c8, some (.val SQ)] := by
  obtain ⟨r, d', x, e1, e2, e3⟩ := e_one (l := [D.int 1, .int 12]) h (by omega) (by decide) (by decide)
  obtain ⟨y, hy⟩ := un_ok (List.mem_of_getElem? e1)
  refine ⟨d', e2, ?_⟩
  generalize F_unit_table = G at *
  generalize F_q_one_of = G1 at *
  have wk := word_ok y
  generalize F_q_word = G2 at *
  simp [eqY_int, neY_int, max2_ap, min2_ap, DF.R.bind_ok, DF.R.bindS_ok, DF.R.bindN_ok, DF.SR.bind_nx, DF.SR.bind_ret, ofO, ths, setV, setF, free, set2, set3, fnRes, startE, startC, outs, argsD, putD, ioIx, isMu, look, DF.muL, ltD_ap, leD_ap, gtD_ap, geD_ap, addD_ap, subD_ap, negD_ap, absD_ap, intD_ap, intD_apB, eq_int, ne_int, ixD, L2.atI, L2.ixN, lenD, gcdD, max2D, min2D, e3, hy, wk]
theorem q_tables_right_19 (d : D) (c1 c4 c6 c8 : Option Cell) {x : D} (hx : x ∈ TO) : (dSet 2 (dBin addW (oD (dC (.str (Str.ofString "number ")))) (oD (dCal rprW (aCons (oVar 7) (aNil)))))) [some (.mu true d), c1, none, none, c4, some (.val FLAT), c6, some (.val x), c8, some (.val SQ)] = .nx [some (.mu true d), c1, some (.val (NU x)), none, c4, some (.val FLAT), c6, some (.val x), c8, some (.val SQ)] := by
  simp only [TO, List.mem_cons, List.not_mem_nil, or_false] at hx
  rcases hx with rfl | rfl | rfl | rfl | rfl | rfl | rfl <;>
  kernel_rfl
theorem q_tables_right_20 (d : D) (c1 c4 c6 c7 c8 : Option Cell) (b : D)  : (dSet 3 (dLst (vCons (dC (.str (Str.ofString "table"))) (vCons (dC (.str (Str.ofString "table"))) (vCons (dC (.str (Str.ofString "operation"))) (vCons (dC (.str (Str.ofString "fine"))) (vCons (dC (.str (Str.ofString "table"))) (vCons (dVar 2) (vCons (dC (.str (Str.ofString "operation"))) (vCons (dVar 2) (vCons (dC (.str (Str.ofString "fine"))) (vNil)))))))))))) [some (.mu true d), c1, some (.val b), none, c4, some (.val FLAT), c6, c7, c8, some (.val SQ)] = .nx [some (.mu true d), c1, some (.val b), some (.val (.lst [TB, TB, OP, FI, TB, b, OP, b, FI])), c4, some (.val FLAT), c6, c7, c8, some (.val SQ)] := by
  kernel_rfl
theorem q_tables_right_21 (d : D) (c2 c4 c6 : Option Cell) {x : D} (hx : x ∈ TO) {y : D} (hy : y ∈ TS) : (dRet (dBin eqY (oVar 1) (oD (dBin addD (oVar 3) (oD (dLst (vCons (dBin addW (oD (dC (.str (Str.ofString "number ")))) (oD (dCal rprW (aCons (oVar 8) (aNil))))) (vCons (dC (.str (Str.ofString "fine"))) (vNil))))))))) [some (.mu true d), some (.mu false (.lst [TB, TB, OP, FI, TB, NU x, OP, NU x, FI, NU y, FI])), c2, some (.val (.lst [TB, TB, OP, FI, TB, NU x, OP, NU x, FI])), c4, some (.val FLAT), c6, some (.val x), some (.val y), some (.val SQ)] = .ret [some (.mu true d), some (.mu false (.lst [TB, TB, OP, FI, TB, NU x, OP, NU x, FI, NU y, FI])), c2, some (.val (.lst [TB, TB, OP, FI, TB, NU x, OP, NU x, FI])), c4, some (.val FLAT), c6, some (.val x), some (.val y), some (.val SQ)] false (.bl true) := by
  simp only [TO, List.mem_cons, List.not_mem_nil, or_false] at hx
  simp only [TS, List.mem_cons, List.not_mem_nil, or_false] at hy
  rcases hx with rfl | rfl | rfl | rfl | rfl | rfl | rfl <;>
  rcases hy with rfl | rfl | rfl | rfl | rfl | rfl | rfl <;>
  kernel_rfl
theorem e_tables {n : Nat} {d : D} (h : Bag n d) (hn : n ≤ 900) : ∃ d', Bag (n + 5) d' ∧ F_q_tables_right [(true, d)] = .ret false (.bl true) [d'] := by
  obtain ⟨d1, x, hx, h1, s0⟩ := q_tables_right_0 h (by omega)
  obtain ⟨d2, y, hy, h2, s1⟩ := q_tables_right_1 (some (.val x)) h1 (by omega)
  obtain ⟨d3, z, hz, h3, s2⟩ := q_tables_right_2 (some (.val x)) (some (.val y)) h2 (by omega)
  obtain ⟨d4, h4, s16⟩ := q_tables_right_16 (some (.val (.fn (Str.ofString "is_alternating")))) (some (.val x)) (some (.val y)) (some (.val z)) (NU y) h3 (by omega)
  obtain ⟨d5, h5, s18⟩ := q_tables_right_18 (some (.val (.fn (Str.ofString "is_alternating")))) (some (.val x)) (some (.val y)) (some (.val z)) (NU y) (NU z) h4 (by omega)
  refine ⟨d5, h5, ?_⟩
  have hs : startE 10 [(true, d)] = [some (.mu true d), none, none, none, none, none, none, none, none, none] := rfl
  unfold F_q_tables_right B_q_tables_right
  rw [hs, dSeq_ap, s0, SR.bind_nx, dSeq_ap, s1, SR.bind_nx, dSeq_ap, s2, SR.bind_nx]
  rw [dSeq_ap, q_tables_right_3 _ _ _ _, SR.bind_nx, dSeq_ap, q_tables_right_4 _ _ _ _, SR.bind_nx, dSeq_ap, q_tables_right_5 _ _ _ hx, SR.bind_nx, dSeq_ap, q_tables_right_6 _ _ _ hx, SR.bind_nx, dSeq_ap, q_tables_right_7 _ _ _ _ _, SR.bind_nx, dSeq_ap, q_tables_right_8 _ _ _ _ _ hx, SR.bind_nx, dSeq_ap, q_tables_right_9 _ _ _ _ hx, SR.bind_nx, dSeq_ap, q_tables_right_10 _ _ _ _ _, SR.bind_nx, dSeq_ap, q_tables_right_11 _ _ _ _ _, SR.bind_nx, dSeq_ap, q_tables_right_12 _ _ _ _ hx, SR.bind_nx, dSeq_ap, q_tables_right_13 _ _ _ _ hy, SR.bind_nx, dSeq_ap, q_tables_right_14 _ _ _ _ _ _, SR.bind_nx, dSeq_ap, q_tables_right_15 _ _ _ _ _ hy, SR.bind_nx, dSeq_ap, s16, SR.bind_nx, dSeq_ap, q_tables_right_17 _ _ _ _ _ hz, SR.bind_nx, dSeq_ap, s18, SR.bind_nx]
  rw [dSeq_ap, q_tables_right_19 _ _ _ _ _ hy, SR.bind_nx, dSeq_ap, q_tables_right_20 _ _ _ _ _ _ _, SR.bind_nx, q_tables_right_21 _ _ _ _ hy hz]
  rfl
end K08

set_option exponentiation.threshold 5000
set_option maxHeartbeats 1000000
namespace K08
open PySem DF
noncomputable abbrev lwE (s : D) (c1 c2 : Option D) : DEnv := [some (.val s), c1.map Cell.val, c2.map (Cell.mu false)]
theorem lwb_c (F_q_bag : Fn) {s : D} {k : Int} {d0 : D} (eb : F_q_bag [(false, s), (false, .int k)] = .ret true d0 []) (c2 : Option D) :
    dSetF 2 (dN (dCal2 2 F_q_bag (rVal (dVar 0) (rVal (dVar 1) (rNil))))) (lwE s (some (.int k)) c2) = .nx (lwE s (some (.int k)) (some d0)) := by
  cases c2 <;> simp [eqY_int, neY_int, max2_ap, min2_ap, DF.R.bind_ok, DF.R.bindS_ok, DF.R.bindN_ok, DF.SR.bind_nx, DF.SR.bind_ret, ofO, ths, setV, setF, free, set2, set3, fnRes, startE, startC, outs, argsD, putD, ioIx, isMu, look, DF.muL, ltD_ap, leD_ap, gtD_ap, geD_ap, addD_ap, subD_ap, negD_ap, absD_ap, intD_ap, intD_apB, eq_int, ne_int, ixD, L2.atI, L2.ixN, lenD, gcdD, max2D, min2D, eb]
theorem lw_iter (ns : List Int) : ∃ K : Nat, 1 ≤ K ∧ K ≤ 3 ∧ (K ≤ ns.length ∨ (ns = [] ∧ K = 1)) ∧ (sRng1 (vCons (dCal (orC max2D maxSD) (aCons (oD (dC (.int 1))) (aCons (oD (dCal (orC min2D minSD) (aCons (oD (dC (.int 3))) (aCons (oD (dCal lenD (aCons (oVar 0) (aNil)))) (aNil))))) (aNil)))) (vNil))) (lwE (.fro (ns.map D.int)) none none) = .ok (lwE (.fro (ns.map D.int)) none none) (rng 0 K) := by
  have hr : inR ((max 1 (min 3 ns.length) : Nat) : Int) = true := by unfold inR; simp; omega
  refine ⟨max 1 (min 3 ns.length), by omega, by omega, ?_, ?_⟩
  · cases ns with
    | nil => exact .inr ⟨rfl, rfl⟩
    | cons x l => left; simp only [List.length_cons]; omega
  · have hl : (ns.map D.int).length = ns.length := List.length_map ..
    generalize ns.map D.int = L at *
    have q : (if (if (L.length : Int) < 3 then (L.length : Int) else 3) > 1 then (if (L.length : Int) < 3 then (L.length : Int) else 3) else 1) = ((max 1 (min 3 ns.length) : Nat) : Int) := by
      rw [hl]; split <;> split <;> omega
    have e : (vCons (dCal (orC max2D maxSD) (aCons (oD (dC (.int 1))) (aCons (oD (dCal (orC min2D minSD) (aCons (oD (dC (.int 3))) (aCons (oD (dCal lenD (aCons (oVar 0) (aNil)))) (aNil))))) (aNil)))) (vNil)) (lwE (.fro L) none none) = .ok (lwE (.fro L) none none) [.int ((max 1 (min 3 ns.length) : Nat) : Int)] := by
      rw [← q]
      simp [eqY_int, neY_int, max2_ap, min2_ap, DF.R.bind_ok, DF.R.bindS_ok, DF.R.bindN_ok, DF.SR.bind_nx, DF.SR.bind_ret, ofO, ths, setV, setF, free, set2, set3, fnRes, startE, startC, outs, argsD, putD, ioIx, isMu, look, DF.muL, ltD_ap, leD_ap, gtD_ap, geD_ap, addD_ap, subD_ap, negD_ap, absD_ap, intD_ap, intD_apB, eq_int, ne_int, ixD, L2.atI, L2.ixN, lenD, gcdD, max2D, min2D]
    rw [sRng1_ap, e, R.bind_ok]
    show (if inR ((max 1 (min 3 ns.length) : Nat) : Int) = true then DF.R.ok _ (rng 0 ((max 1 (min 3 ns.length) : Nat) : Int).toNat) else .no) = _
    rw [if_pos hr, Int.toNat_natCast]
theorem lt_c {s k d0 d1 d2 : D} (e0 : F_q_lines_right [(true, d0)] = .ret false (.bl true) [d1]) (e1 : F_q_tables_right [(true, d1)] = .ret false (.bl true) [d2]) : (dIf (dOr (dNot (dTst (dV (dCal2 1 F_q_lines_right (rIo 2 (rNil)))))) (dNot (dTst (dV (dCal2 1 F_q_tables_right (rIo 2 (rNil))))))) (dRet (dC (.bl false))) (SR.nx)) (lwE s (some k) (some d0)) = .nx (lwE s (some k) (some d2)) := by
  generalize F_q_lines_right = GF_q_lines_right at *
  generalize F_q_tables_right = GF_q_tables_right at *
  simp [eqY_int, neY_int, max2_ap, min2_ap, DF.R.bind_ok, DF.R.bindS_ok, DF.R.bindN_ok, DF.SR.bind_nx, DF.SR.bind_ret, ofO, ths, setV, setF, free, set2, set3, fnRes, startE, startC, outs, argsD, putD, ioIx, isMu, look, DF.muL, ltD_ap, leD_ap, gtD_ap, geD_ap, addD_ap, subD_ap, negD_ap, absD_ap, intD_ap, intD_apB, eq_int, ne_int, ixD, L2.atI, L2.ixN, lenD, gcdD, max2D, min2D, e0, e1]
theorem lw0 (ns : List Int) {E : Ps} (hE : ∀ (c1 c2 : Option D), E.nx (lwE (.fro (ns.map D.int)) c1 c2)) : Wp ((dForS (sRng1 (vCons (dCal (orC max2D maxSD) (aCons (oD (dC (.int 1))) (aCons (oD (dCal (orC min2D minSD) (aCons (oD (dC (.int 3))) (aCons (oD (dCal lenD (aCons (oVar 0) (aNil)))) (aNil))))) (aNil)))) (vNil))) (setV 1) (dSeq (dSetF 2 (dN (dCal2 2 F_q_bag (rVal (dVar 0) (rVal (dVar 1) (rNil))))))
    (dIf (dOr (dNot (dTst (dV (dCal2 1 F_q_lines_right (rIo 2 (rNil)))))) (dNot (dTst (dV (dCal2 1 F_q_tables_right (rIo 2 (rNil))))))) (dRet (dC (.bl false))) (SR.nx)))) (lwE (.fro (ns.map D.int)) none none)) E := by
  obtain ⟨K, K1, K3, hK, it⟩ := lw_iter ns
  refine wp_forS it ?_
  refine wp_for (fun (k : Nat) => D.int (0 + (k : Int))) (fun l ρ => (∀ k ∈ l, k < K) ∧ ∃ (c1 c2 : Option D), ρ = lwE (.fro (ns.map D.int)) c1 c2) ?_ ?_ (List.range K) _ ⟨fun k hk => List.mem_range.mp hk, none, none, rfl⟩
  · rintro k l ρ ⟨hl, c1, c2, rfl⟩
    have kK := hl k List.mem_cons_self
    refine ⟨lwE (.fro (ns.map D.int)) (some (.int (k : Int))) c2, by rw [Int.zero_add]; cases c1 <;> rfl, ?_⟩
    obtain ⟨d0, b0, eb⟩ := e_bag ns k (by
      rcases hK with h | ⟨h1, h2⟩
      · left; omega
      · right; exact ⟨h1, by omega⟩) (by omega)
    refine wp_seq (lwb_c F_q_bag eb c2) ?_
    obtain ⟨d1, b1, e1⟩ := e_lines b0 (by omega)
    obtain ⟨d2, b2, e2⟩ := e_tables b1 (by omega)
    exact wp_nx (lt_c e1 e2) ⟨fun j hj => hl j (List.mem_cons_of_mem _ hj), some _, some _, rfl⟩
  · rintro ρ ⟨_, c1, c2, rfl⟩
    exact hE c1 c2
theorem law_1 (s : D) (c1 c2 : Option Cell) : (dRet (dBin eqY (oD (dLam F_q_word (dV (dCal2 2 F_polynomial_product (rVal (dBin addD (oD (dBin mulD (oD (dTup (vCons (dC (.int 0)) (vNil)))) (oD (dC (.int 40))))) (oD (dTup (vCons (dC (.int 1)) (vNil))))) (rVal (dTup (vCons (dBin subD (oD (dBin powD (oD (dC (.int 10))) (oD (dC (.int 60))))) (oD (dC (.int 1)))) (vNil))) (rNil))))))) (oD (dC (.str (Str.ofString "fine")))))) [some (.val s), c1, c2] = .ret [some (.val s), c1, c2] false (.bl true) := by kernel_rfl
theorem law_true (ns : List Int) (hl : ns.length ≤ 63) : F_law [(false, .fro (ns.map D.int))] = .ret false (.bl true) [] := by
  refine fn_of (P := fun R => R = .ret false (.bl true) []) ?_
  unfold B_law
  rw [show startE 3 [(false, .fro (ns.map D.int))] = lwE (.fro (ns.map D.int)) none none from rfl]
  refine wp_seqW (Q := fun ρ => ∃ c1 c2 : Option D, ρ = lwE (.fro (ns.map D.int)) c1 c2) (lw0 ns fun c1 c2 => ⟨c1, c2, rfl⟩) ?_
  rintro ρ ⟨c1, c2, rfl⟩
  generalize D.fro (ns.map D.int) = a
  exact wp_rt (law_1 _ _ _) ⟨[], rfl, rfl⟩
end K08

open PySem PySem.W PyProof.Rows
set_option maxHeartbeats 0 in
theorem PySem.Challenge.cw_wholerises_k08_errors_of_polynomials_and_holds : PySem.Challenge.rw_wholerises_k08_errors_of_polynomials_and.Holds := by
  w_on; o_law; k_head; (case hw => w_witness2)
  k_fill
  refine DF.walk_GT (l := PySem.Challenge.rw_wholerises_k08_errors_of_polynomials_and) (n := 63) (k := 16) (x := "_law_script") (CX := fun w => L2.CX PySem.Challenge.rw_wholerises_k08_errors_of_polynomials_and.prog w) (F := fun _ => K08.F_law) rfl (by decide) rfl ⟨rfl, by decide, by decide⟩ (by decide) (by decide +kernel) (fun w => by kernel_rfl) (fun w h Y => PySem.W.km_in_of Y) ?F (fun _ ns hl => K08.law_true ns hl) (fun _ _ _ _ _ h => DF.cx_end h)
  case F =>
    intro w mg fa h KX G hmg
    refine' K08.all_mk KX G hmg rfl ?xa_InvalidOperation ?xk_InvalidOperation ?xe_InvalidOperation ?xb_InvalidOperation ?xt_InvalidOperation ?xa_InvalidPolynomial ?xk_InvalidPolynomial ?xe_InvalidPolynomial ?xb_InvalidPolynomial ?xt_InvalidPolynomial ?xa_InvalidRatio ?xk_InvalidRatio ?xe_InvalidRatio ?xb_InvalidRatio ?xt_InvalidRatio ?xa_InvalidTable ?xk_InvalidTable ?xe_InvalidTable ?xb_InvalidTable ?xt_InvalidTable ?xa_InvalidNumber ?yini_InvalidNumber ?yov_InvalidNumber ?yhd_InvalidNumber ?ysa_InvalidNumber ?ysB_InvalidNumber ?ysE_InvalidNumber ?yty_InvalidNumber ?ymr_InvalidNumber ?ysu_InvalidNumber ?yop_InvalidNumber ?ynf_InvalidNumber ?ykp_InvalidNumber ?yit_InvalidNumber ?yis_InvalidNumber ?ylk_InvalidNumber ?yce_InvalidNumber ?ycd_InvalidNumber ?yvs_InvalidNumber ?yfi_InvalidNumber ?yci_InvalidNumber ?yxf_InvalidNumber ?xa_TooMany ?yini_TooMany ?yov_TooMany ?yhd_TooMany ?ysa_TooMany ?ysB_TooMany ?ysE_TooMany ?yty_TooMany ?ymr_TooMany ?ysu_TooMany ?yop_TooMany ?ynf_TooMany ?ykp_TooMany ?yit_TooMany ?yis_TooMany ?ylk_TooMany ?yce_TooMany ?ycd_TooMany ?yvs_TooMany ?yfi_TooMany ?yci_TooMany ?yxf_TooMany ?zms ?zmt ?xmb ?a0 ?l0 ?c0 ?k0 ?a1 ?l1 ?c1 ?k1 ?a2 ?l2 ?c2 ?k2 ?a3 ?l3 ?c3 ?k3 ?a4 ?l4 ?c4 ?k4 ?a5 ?l5 ?c5 ?k5 ?a6 ?l6 ?c6 ?k6 ?a7 ?l7 ?c7 ?k7 ?a8 ?l8 ?c8 ?k8 ?a9 ?l9 ?c9 ?k9 ?a10 ?l10 ?c10 ?k10 ?a11 ?l11 ?c11 ?k11 ?a12 ?l12 ?c12 ?k12 ?a13 ?l13 ?c13 ?k13 ?a14 ?l14 ?c14 ?k14 ?a15 ?l15 ?c15 ?k15 ?a16 ?l16 ?c16 ?k16 ?a17 ?l17 ?c17 ?k17 ?a18 ?l18 ?c18 ?k18 ?a19 ?l19 ?c19 ?k19 ?a20 ?l20 ?c20 ?k20 ?a21 ?l21 ?c21 ?k21 ?a22 ?l22 ?c22 ?k22 ?a23 ?l23 ?c23 ?k23 ?a24 ?l24 ?c24 ?k24 ?a25 ?l25 ?c25 ?k25 ?a26 ?l26 ?c26 ?k26 ?a27 ?l27 ?c27 ?k27 ?a28 ?l28 ?c28 ?k28 ?a29 ?l29 ?c29 ?k29 ?a30 ?l30 ?c30 ?k30 ?lb30 ?a31 ?l31 ?c31 ?k31 ?a32 ?l32 ?c32 ?k32 ?a33 ?l33 ?c33 ?k33 ?a34 ?l34 ?c34 ?k34 ?a35 ?l35 ?c35 ?k35 ?a36 ?l36 ?c36 ?k36 ?a37 ?l37 ?c37 ?k37 ?a38 ?l38 ?c38 ?k38 ?a39 ?l39 ?c39 ?k39 ?a40 ?l40 ?c40 ?k40 ?a41 ?l41 ?c41 ?k41 ?a42 ?l42 ?c42 ?k42 ?a43 ?l43 ?c43 ?k43 ?a44 ?l44 ?c44 ?k44 ?a45 ?l45 ?c45 ?k45 ?a46 ?l46 ?c46 ?k46 ?a47 ?l47 ?c47 ?k47 ?a48 ?l48 ?c48 ?k48 ?a49 ?l49 ?c49 ?k49 ?a50 ?l50 ?c50 ?k50 ?a51 ?l51 ?c51 ?k51 ?a52 ?l52 ?c52 ?k52 ?a53 ?l53 ?c53 ?k53 ?a54 ?l54 ?c54 ?k54 ?a55 ?l55 ?c55 ?k55 ?a56 ?l56 ?c56 ?k56 ?a57 ?l57 ?c57 ?k57 ?lb57 ?a58 ?l58 ?c58 ?k58 ?lb58 ?z_abs ?z_all ?z_any ?z_bool ?z_dict ?z_enumerate ?z_int ?z_isinstance ?z_len ?z_list ?z_max ?z_min ?z_range ?z_repr ?z_reversed ?z_sum ?z_tuple ?z_zip ?q_MAX_CYCLOTOMIC ?q_MAX_DEGREE ?q_MAX_EXPONENT ?q_MAX_FACTORED ?q_MAX_INTEGER ?q_MAX_SIZE ?q_MOST_ITEM ?m_gcd ?m_lcm ?lap
    (case xa_InvalidOperation => k_is); (case xk_InvalidOperation => k_is); (case xe_InvalidOperation => k_exc); (case xb_InvalidOperation => k_is); (case xt_InvalidOperation => k_is); (case xa_InvalidPolynomial => k_is); (case xk_InvalidPolynomial => k_is); (case xe_InvalidPolynomial => k_exc); (case xb_InvalidPolynomial => k_is); (case xt_InvalidPolynomial => k_is); (case xa_InvalidRatio => k_is); (case xk_InvalidRatio => k_is); (case xe_InvalidRatio => k_exc); (case xb_InvalidRatio => k_is); (case xt_InvalidRatio => k_is); (case xa_InvalidTable => k_is); (case xk_InvalidTable => k_is); (case xe_InvalidTable => k_exc); (case xb_InvalidTable => k_is); (case xt_InvalidTable => k_is); (case xa_InvalidNumber => k_is); (case yini_InvalidNumber => kernel_rfl); (case yov_InvalidNumber => kernel_rfl); (case yhd_InvalidNumber => first | k_is | kernel_rfl); (case ysa_InvalidNumber => first | k_is | kernel_rfl); (case ysB_InvalidNumber => first | k_is | kernel_rfl); (case ysE_InvalidNumber => first | k_is | kernel_rfl); (case yty_InvalidNumber => first | k_is | kernel_rfl); (case ymr_InvalidNumber => first | k_is | kernel_rfl); (case ysu_InvalidNumber => first | k_is | kernel_rfl); (case yop_InvalidNumber => first | k_is | kernel_rfl); (case ynf_InvalidNumber => first | k_is | kernel_rfl); (case ykp_InvalidNumber => first | k_is | kernel_rfl); (case yit_InvalidNumber => first | k_is | kernel_rfl); (case yis_InvalidNumber => first | k_is | kernel_rfl); (case ylk_InvalidNumber => first | k_is | kernel_rfl); (case yce_InvalidNumber => first | k_is | kernel_rfl); (case ycd_InvalidNumber => first | k_is | kernel_rfl); (case yvs_InvalidNumber => first | rfl | kernel_rfl); (case yfi_InvalidNumber => first | rfl | kernel_rfl); (case yci_InvalidNumber => first | k_is | kernel_rfl); (case yxf_InvalidNumber => kernel_rfl); (case xa_TooMany => k_is); (case yini_TooMany => kernel_rfl); (case yov_TooMany => kernel_rfl); (case yhd_TooMany => first | k_is | kernel_rfl); (case ysa_TooMany => first | k_is | kernel_rfl); (case ysB_TooMany => first | k_is | kernel_rfl); (case ysE_TooMany => first | k_is | kernel_rfl); (case yty_TooMany => first | k_is | kernel_rfl); (case ymr_TooMany => first | k_is | kernel_rfl); (case ysu_TooMany => first | k_is | kernel_rfl); (case yop_TooMany => first | k_is | kernel_rfl); (case ynf_TooMany => first | k_is | kernel_rfl); (case ykp_TooMany => first | k_is | kernel_rfl); (case yit_TooMany => first | k_is | kernel_rfl); (case yis_TooMany => first | k_is | kernel_rfl); (case ylk_TooMany => first | k_is | kernel_rfl); (case yce_TooMany => first | k_is | kernel_rfl); (case ycd_TooMany => first | k_is | kernel_rfl); (case yvs_TooMany => first | rfl | kernel_rfl); (case yfi_TooMany => first | rfl | kernel_rfl); (case yci_TooMany => first | k_is | kernel_rfl); (case yxf_TooMany => kernel_rfl); (case zms => k_is); (case zmt => first | rfl | kernel_rfl); (case xmb => kernel_rfl); (case a0 => k_is); (case l0 => k_is); (case c0 => k_is); (case k0 => k_is); (case a1 => k_is); (case l1 => k_is); (case c1 => k_is); (case k1 => k_is); (case a2 => k_is); (case l2 => k_is); (case c2 => k_is); (case k2 => k_is); (case a3 => k_is); (case l3 => k_is); (case c3 => k_is); (case k3 => k_is); (case a4 => k_is); (case l4 => k_is); (case c4 => k_is); (case k4 => k_is); (case a5 => k_is); (case l5 => k_is); (case c5 => k_is); (case k5 => k_is); (case a6 => k_is); (case l6 => k_is); (case c6 => k_is); (case k6 => k_is); (case a7 => k_is); (case l7 => k_is); (case c7 => k_is); (case k7 => k_is); (case a8 => k_is); (case l8 => k_is); (case c8 => k_is); (case k8 => k_is); (case a9 => k_is); (case l9 => k_is); (case c9 => k_is); (case k9 => k_is); (case a10 => k_is); (case l10 => k_is); (case c10 => k_is); (case k10 => k_is); (case a11 => k_is); (case l11 => k_is); (case c11 => k_is); (case k11 => k_is); (case a12 => k_is); (case l12 => k_is); (case c12 => k_is); (case k12 => k_is); (case a13 => k_is); (case l13 => k_is); (case c13 => k_is); (case k13 => k_is); (case a14 => k_is); (case l14 => k_is); (case c14 => k_is); (case k14 => k_is); (case a15 => k_is); (case l15 => k_is); (case c15 => k_is); (case k15 => k_is); (case a16 => k_is); (case l16 => k_is); (case c16 => k_is); (case k16 => k_is); (case a17 => k_is); (case l17 => k_is); (case c17 => k_is); (case k17 => k_is); (case a18 => k_is); (case l18 => k_is); (case c18 => k_is); (case k18 => k_is); (case a19 => k_is); (case l19 => k_is); (case c19 => k_is); (case k19 => k_is); (case a20 => k_is); (case l20 => k_is); (case c20 => k_is); (case k20 => k_is); (case a21 => k_is); (case l21 => k_is); (case c21 => k_is); (case k21 => k_is); (case a22 => k_is); (case l22 => k_is); (case c22 => k_is); (case k22 => k_is); (case a23 => k_is); (case l23 => k_is); (case c23 => k_is); (case k23 => k_is); (case a24 => k_is); (case l24 => k_is); (case c24 => k_is); (case k24 => k_is); (case a25 => k_is); (case l25 => k_is); (case c25 => k_is); (case k25 => k_is); (case a26 => k_is); (case l26 => k_is); (case c26 => k_is); (case k26 => k_is); (case a27 => k_is); (case l27 => k_is); (case c27 => k_is); (case k27 => k_is); (case a28 => k_is); (case l28 => k_is); (case c28 => k_is); (case k28 => k_is); (case a29 => k_is); (case l29 => k_is); (case c29 => k_is); (case k29 => k_is); (case a30 => k_is); (case l30 => k_is); (case c30 => k_is); (case k30 => k_is); (case lb30 => kernel_rfl); (case a31 => k_is); (case l31 => k_is); (case c31 => k_is); (case k31 => k_is); (case a32 => k_is); (case l32 => k_is); (case c32 => k_is); (case k32 => k_is); (case a33 => k_is); (case l33 => k_is); (case c33 => k_is); (case k33 => k_is); (case a34 => k_is); (case l34 => k_is); (case c34 => k_is); (case k34 => k_is); (case a35 => k_is); (case l35 => k_is); (case c35 => k_is); (case k35 => k_is); (case a36 => k_is); (case l36 => k_is); (case c36 => k_is); (case k36 => k_is); (case a37 => k_is); (case l37 => k_is); (case c37 => k_is); (case k37 => k_is); (case a38 => k_is); (case l38 => k_is); (case c38 => k_is); (case k38 => k_is); (case a39 => k_is); (case l39 => k_is); (case c39 => k_is); (case k39 => k_is); (case a40 => k_is); (case l40 => k_is); (case c40 => k_is); (case k40 => k_is); (case a41 => k_is); (case l41 => k_is); (case c41 => k_is); (case k41 => k_is); (case a42 => k_is); (case l42 => k_is); (case c42 => k_is); (case k42 => k_is); (case a43 => k_is); (case l43 => k_is); (case c43 => k_is); (case k43 => k_is); (case a44 => k_is); (case l44 => k_is); (case c44 => k_is); (case k44 => k_is); (case a45 => k_is); (case l45 => k_is); (case c45 => k_is); (case k45 => k_is); (case a46 => k_is); (case l46 => k_is); (case c46 => k_is); (case k46 => k_is); (case a47 => k_is); (case l47 => k_is); (case c47 => k_is); (case k47 => k_is); (case a48 => k_is); (case l48 => k_is); (case c48 => k_is); (case k48 => k_is); (case a49 => k_is); (case l49 => k_is); (case c49 => k_is); (case k49 => k_is); (case a50 => k_is); (case l50 => k_is); (case c50 => k_is); (case k50 => k_is); (case a51 => k_is); (case l51 => k_is); (case c51 => k_is); (case k51 => k_is); (case a52 => k_is); (case l52 => k_is); (case c52 => k_is); (case k52 => k_is); (case a53 => k_is); (case l53 => k_is); (case c53 => k_is); (case k53 => k_is); (case a54 => k_is); (case l54 => k_is); (case c54 => k_is); (case k54 => k_is); (case a55 => k_is); (case l55 => k_is); (case c55 => k_is); (case k55 => k_is); (case a56 => k_is); (case l56 => k_is); (case c56 => k_is); (case k56 => k_is); (case a57 => k_is); (case l57 => k_is); (case c57 => k_is); (case k57 => k_is); (case lb57 => kernel_rfl); (case a58 => k_is); (case l58 => k_is); (case c58 => k_is); (case k58 => k_is); (case lb58 => kernel_rfl); (case z_abs => k_is); (case z_all => k_is); (case z_any => k_is); (case z_bool => k_is); (case z_dict => k_is); (case z_enumerate => k_is); (case z_int => k_is); (case z_isinstance => k_is); (case z_len => k_is); (case z_list => k_is); (case z_max => k_is); (case z_min => k_is); (case z_range => k_is); (case z_repr => k_is); (case z_reversed => k_is); (case z_sum => k_is); (case z_tuple => k_is); (case z_zip => k_is); (case q_MAX_CYCLOTOMIC => k_is); (case q_MAX_DEGREE => k_is); (case q_MAX_EXPONENT => k_is); (case q_MAX_FACTORED => k_is); (case q_MAX_INTEGER => k_is); (case q_MAX_SIZE => k_is); (case q_MOST_ITEM => k_is); (case m_gcd => k_is); (case m_lcm => k_is); (case lap => kernel_rfl)
